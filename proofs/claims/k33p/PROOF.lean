import PyProof.Rows.All
import Wide.All
import OpenK.AllK
import Wide.FinOn
import Lean
import PyProof.EqAt
import PyProof.EqKinds
import PyProof.TupleCall
import PySem.Challenge.RW_neverwait_k33_whole_eager
set_option Elab.async false
set_option linter.all false
set_option maxRecDepth 100000
set_option maxHeartbeats 8000000
def aA:=@PySem.wpAny_bind
def aR:=@List.length_map
def bY:=@List.getD_eq_getElem?_getD
def bL:=@PySem.Heap.get?_push_of_some
def cg:=@List.getElem?_eq_getElem
def aE:=@PyProof.Rows.wpS_pure
def dN:=@List.getElem?_eq_some_iff
def av:=@if_neg
def aF:=@PyProof.Rows.wpS_bind
def bZ:=@List.getElem?_map
def ak:=@if_pos
def bA:=@List.mem_cons_of_mem
def br:=@Nat.lt_of_lt_of_le
def bu:=@List.mem_cons_self
def aT:=@PySem.Heap.lt_size
def aW:=@Nat.ne_of_lt
def aU:=@Nat.le_refl
def ba:=@Nat.le_trans
def bn:=@List.mem_cons
def cB:=@PySem.Heap.get?_push_size
def cS:=@List.mem_of_getElem?
def bN:=@Option.some.inj
def cG:=@Bool.false_ne_true
def bK:=@List.mem_range
def cu:=@List.length_range
def bo:=@getElem?_pos
def cU:=@List.mem_singleton
def df:=@List.length_append
def cJ:=@List.size_toArray
def bB:=@List.mem_map
def cw:=@List.mem_append
def dh:=@List.append_assoc
def dZ:=@List.mem_append_right
def di:=@List.map_append
def eZ:=@List.getElem?_eq_none
def dz:=@List.mem_filter
def eD:=@Nat.lt_of_le_of_lt
def dO:=@List.filter_cons
def cK:=@Int.ofNat.inj
def eE:=@of_decide_eq_true
def fw:=@List.mem_append_left
def fc:=@List.getElem?_range
def e8:=@PySem.W.mg_none_of
def gI:=@PySem.F.plainAttrs_list
def dP:=@PySem.PassesOwn.never
def cx:=@Nat.zero_le
def fz:=@Array.toList_append
def eF:=@List.length_cons
def dU:=@PySem.boot_len
def ff:=@Nat.lt_succ_of_lt
def i6:=@List.getElem?_append_left
def gh:=@List.filter_append
def ij:=@List.length_filter_le
def dQ:=@List.map_map
def gj:=@List.take_add_one
def gk:=@Int.toNat_natCast
def fK:=@List.lookup_cons
def jD:=@PySem.F.type_list_append
def jE:=@PySem.F.slot_list_append
def gm:=@Bool.and_eq_true
def fL:=@decide_eq_false
def fN:=@List.nodup_cons
def i7:=@List.perm_append_comm
def fh:=@List.map_cons
def fP:=@decide_eq_true
def lr:=@Array.perm_iff_toList_perm
def eJ:=@PyProof.Rows.wpS_forRange
def g_:=@PySem.Heap.size_update
def ik:=@List.getElem_mem
def iK:=@List.pairwise_map
def i8:=@Bool.false_eq_true
def fA:=@Nat.ne_of_gt
def jQ:=@List.length_replicate
def jR:=@List.Perm.append_left
def iL:=@PySem.Heap.get?_push_ne
def pK:=@PyProof.Rows.boot_isinstance
def jS:=@PySem.mem_of_lookup
def jT:=@List.map_congr_left
def i9:=@List.take_length
def pL:=@List.getElem?_append_right
def im:=@PySem.Heap.size_push
def hJ:=@PySem.wpAny_holding
def fQ:=@PySem.wpAny_field
def i_:=@PySem.W.kia_one
def ja:=@List.range_succ
def lu:=@Array.length_toList
def jU:=@List.nodup_append
def pM:=@PyProof.Rows.boot_tuple
def dA:=@Ne.symm
def qO:=@List.nodup_iff_pairwise_ne
def iM:=@PySem.W.mg_of
def jF:=@List.length_set
def jV:=@List.not_mem_nil
def jW:=@List.nodup_range
def gJ:=@PySem.sizeLine_eq
def lw:=@List.ext_getElem?
def jG:=@List.Perm.refl
def jH:=@PySem.wpAny_seqItems
def lx:=@Nat.mod_eq_of_lt
def lz:=@List.all_eq_true
def nM:=@PyProof.Rows.callWith_type1
def lF:=@PySem.wpAny_callSpecial?_slot
def gv:=@Int.zero_add
def io:=@Array.size_map
def dw:=@PyProof.Rows.wpS_mono
def iT:=@List.foldl_cons
def nN:=@List.drop_eq_getElem_cons
def lG:=@List.take_append_drop
def lH:=@List.length_singleton
def lI:=@PySem.Heap.get?_update_other
def jX:=@PySem.F.called_set
def jk:=@Nat.lt_succ_self
def nQ:=@PyProof.Rows.boot_sorted
def ip:=@Nat.lt_irrefl
def lJ:=@List.mem_iff_getElem
def lK:=@PySem.Heap.get?_update_self
def fT:=@beq_iff_eq
def lL:=@beq_eq_false_iff_ne
def lM:=@List.replicate_succ
def nU:=@PyProof.Rows.boot_list
def nV:=@List.take_of_length_le
def nW:=@List.range_succ_eq_map
def nX:=@List.getElem?_set_self
def nY:=@List.filter_eq_nil_iff
def fv:=@PyProof.Rows.wpS_modify
def fU:=@PySem.wpAny_rule
def jY:=@List.length_take
def eK:=@if_false
def jl:=@List.nodup_nil
def nZ:=@Array.getElem?_toList
def jZ:=@PySem.wpAny_call_entry
def j3:=@Nat.div_add_mod
def j4:=@List.find?_cons
def j5:=@List.append_nil
def j6:=@List.Perm.of_eq
def j7:=@Bool.eq_iff_iff
def lN:=@PySem.wpAny_Call_Name_kw
def n0:=@List.mem_of_mem_take
def n9:=@List.getElem?_set_ne
def lO:=@List.flatMap_cons
def lP:=@Array.toList_push
def jm:=@List.any_cons
def j8:=@PySem.codeAny_builtin
def n_:=@Int.toNat_of_nonneg
def lQ:=@List.length_drop
def qP:=@List.getElem?_replicate
def og:=@PySem.Around.under_plainId
def oh:=@List.mem_filterMap
def qQ:=@List.length_pos_of_mem
def oj:=@PySem.Heap.get?_update_ne
def om:=@PySem.Heap.SameBut.update
def lR:=@Option.map_some
def j9:=@List.all_cons
def qR:=@Nat.le_of_ble_eq_true
def uN:=@Array.getD_eq_getD_getElem?
def on:=@PySem.wpAny_setField_rec
def lS:=@PySem.wpAny_passesOwn
def gw:=@Prod.ext
def j_:=@PySem.wpAny_attempt
def oo:=@decide_eq_decide
def oq:=@Option.getD_some
def ot:=@List.countP_cons
def ow:=@PySem.wpAny_truthy_bool
def uO:=@List.getElem?_zip_eq_some
def uP:=@Classical.byContradiction
def yP:=@PyProof.Rows.F.plain_set_update_loop
def qS:=@Nat.mul_le_mul_left
def qT:=@List.getElem_of_mem
def uQ:=@Option.isSome_iff_exists
def lT:=@List.cons.inj
def qU:=@PySem.Heap.get?_none_of_le
def oy:=@List.length_zip
def oz:=@List.forIn_cons
def oA:=@List.filter_map
def qV:=@Int.emod_lt_of_pos
def qW:=@Array.forIn_toList
def iq:=@or_false
def qX:=@decide_eq_true_eq
def lU:=@Nat.le_of_lt
def oB:=@List.forIn_nil
def qY:=@List.flatten_cons
def uR:=@List.Perm.append_right
def uS:=@Array.toList_filterMap
def iU:=@PyProof.Rows.size_push'
def qZ:=@PySem.wpAny_pyIter_tuple
def jn:=@PySem.wpAny_mono
def uT:=@PyProof.Rows.boot_min
def uU:=@PyProof.Rows.boot_max
def uV:=@Nat.eq_of_beq_eq_true
def uW:=@List.mem_iff_getElem?
def kg:=@Nat.mod_lt
def q0:=@Array.toList_map
def q8:=@PySem.wpAny_pyIter_list
def uX:=@List.replicate_succ'
def uY:=@List.mem_of_mem_drop
def uZ:=@List.Pairwise.filter
def lV:=@PyProof.Rows.listUpdate_at
def oC:=@PyProof.Rows.get?_update_seq
def q9:=@List.of_mem_zip
def q_:=@Int.emod_nonneg
def rc:=@Bool.or_eq_true
def u7:=@PySem.builtinLookup_eq_fast
def oG:=@Nat.lt_trans
def oH:=@PySem.wpAny_standAt
def u9:=@decide_eq_true_iff
def u_:=@PySem.codeAny_call_builtin
def va:=@Option.toList_some
def vc:=@List.pairwise_cons
def yQ:=@Int.fmod_eq_emod_of_nonneg
def yR:=@Int.fdiv_eq_ediv_of_nonneg
def yS:=@PySem.F.plain_extend_loop
def yT:=@List.pairwise_iff_getElem
def yU:=@Array.getElem?_eq_getElem
def oJ:=@List.map_id
def vd:=@List.getElem?_set
def ve:=@List.any_eq_false
def oM:=@PySem.codeAny_mono
def yV:=@List.length_erase_of_mem
def yW:=@List.getElem?_take_of_lt
def gY:=@PyProof.Rows.wpS_get
def yX:=@decide_eq_false_iff_not
def lW:=@PySem.call_meets
def yY:=@PyProof.Rows.boot_range
def vf:=@Nat.le_add_right
def vg:=@List.getElem_map
def jo:=@if_true
def re:=@Nat.zero_add
def rf:=@Nat.sub_self
def rh:=@Nat.le_of_eq
def yZ:=@Nat.div_div_eq_div_mul
def vh:=@PySem.wpAny_setState_of
def vi:=@PySem.wpAny_newObj_type
def vj:=@Nat.not_lt_zero
def vk:=@Array.Perm.refl
def rj:=@PySem.plainId_quiet
def rm:=@Nat.mul_pos
def y_:=@List.mem_erase_of_ne
def zc:=@List.length_take_le'
def zd:=@Array.toList_reverse
def ze:=@Array.toList_extract
def zf:=@PySem.wpAny_pyNext_list_item
def oO:=@PySem.wpAny_call
def oP:=@PySem.wpAny_Name
def zg:=@PySem.W.plainGet_of
def Ey:=@PyProof.Rows.F.entry_set_update_loop
def zh:=@List.length_take_le
def zj:=@List.filter_sublist
def zk:=@List.filterMap_cons
def vo:=@PySem.wpAny_updateSeq
def vp:=@PySem.wpAny_execs_nil
def vq:=@PySem.typeLookup_type
def vt:=@Bool.not_true
def zm:=@PySem.wpAny_pyNext_list_end
def zn:=@PySem.W.callWith_K
def zo:=@List.getElem_range
def zq:=@List.find?_eq_none
def vv:=@PySem.wpAny_newTuple
def zu:=@PySem.wpAny_loadName_local
def zw:=@bne_self_eq_false
def vw:=@Nat.min_self
def vx:=@Nat.beq_refl
def zx:=@List.reverse_perm
def zy:=@Bool.eq_false_iff
def kh:=@PyProof.Rows.wpS_lift
def zA:=@PySem.wpAny_loadName_free
def zB:=@PySem.W.makes_of
def zC:=@Nat.succ_le_succ
def zD:=@List.zipIdx_cons
def zE:=@List.mem_flatMap
def zF:=@List.ext_getElem
def zG:=@List.any_eq_true
def vy:=@PySem.wpAny_newList
def vz:=@Nat.mul_one
def vA:=@Nat.le_succ
def Ez:=@Int.mul_le_mul_of_nonneg_left
def zH:=@Nat.min_eq_left
def zI:=@List.find?_some
def zJ:=@List.count_cons
def EA:=@List.countP_eq_length_filter
def EB:=@PySem.F.typeOf_object_class
def zK:=@PySem.wpAny_loadPart_at
def EC:=@Nat.mul_lt_mul_of_pos_left
def zL:=@Nat.mul_le_mul
def ED:=@Array.toList_setIfInBounds
def EE:=@Array.getElem?_eq_some_iff
def rn:=@PyProof.Rows.seqEpoch_at
def EF:=@PySem.F.entry_extend_loop
def EG:=@List.mem_of_find?_eq_some
def zM:=@PySem.wpAny_pyIter_zip
def zN:=@PySem.wpAny_isInstance
def zO:=@PySem.wpAny_eqBool_int
def EH:=@PyProof.noPylong_of_log2
def EI:=@List.filterMap_cons_some
def EJ:=@List.Pairwise.imp_of_mem
namespace L2
open PySem PySem.Spec PyProof.Rows
abbrev h_:=Sum Int Str
def tY:h_->Value->Bool
 |.inl k,v=>Value.isInt k v
 |.inr x,v=>Value.isStrOf x v
def U2(w:World):h_->Int
 |.inl k=>hashInt k
 |.inr x=>hashStr w x
theorem dF:∀ {k:h_} {v:Value},tY k v=true->(∃i t,k=Sum.inl i/\v=Value.int i t)\/(∃x t,k=Sum.inr x/\v=Value.str x t)
 |.inl i,v,h=>by
  obtain⟨t,e⟩:=Value.isInt_shape (k:=i) (v:=v) h;exact .inl ⟨i,t,rfl,e⟩
 |.inr x,v,h=>by
  obtain⟨t,e⟩:=Value.isStrOf_shape (x:=x) (v:=v) h;exact .inr ⟨x,t,rfl,e⟩
theorem C2(i:Int)(t:Tok):tY (.inl i) (.int i t)=true:=by simp[tY,Value.isInt]
theorem C3(x:Str)(t:Tok):tY (.inr x) (.str x t)=true:=by simp[tY,Value.isStrOf]
theorem LA(a b:Int):decide ((Sum.inl a:h_)=Sum.inl b)=(a==b):=by
 by_cases e:a=b
 .subst e;simp
 .have h:¬ (Sum.inl a:h_)=Sum.inl b:=fun q=>e (Sum.inl.inj q);rw[fL h];exact(lL.mpr e).symm
theorem LB(a b:Str):decide ((Sum.inr a:h_)=Sum.inr b)=decide (a=b):=by
 by_cases e:a=b
 .subst e;simp
 .have h:¬ (Sum.inr a:h_)=Sum.inr b:=fun q=>e (Sum.inr.inj q);rw[fL h,fL e]
theorem LC(a:Int)(b:Str):decide ((Sum.inl a:h_)=Sum.inr b)=false:=fL (fun q=>nomatch q)
theorem LD(a:Str)(b:Int):decide ((Sum.inr a:h_)=Sum.inl b)=false:=fL (fun q=>nomatch q)
def cp(prog:Program)(w:World):PySem.KeyKind prog w h_ where
 is:=tY
 hash:=U2 w
 inj:=fun v a b ha hb=>by
  rcases dF ha with ⟨i,t,rfl,rfl⟩|⟨x,t,rfl,rfl⟩
  .rcases dF hb with ⟨j,u,rfl,e⟩|⟨y,u,rfl,e⟩
   .injection e with e1 _;rw[e1]
   .exact nomatch e
  .rcases dF hb with ⟨j,u,rfl,e⟩|⟨y,u,rfl,e⟩
   .exact nomatch e
   .injection e with e1 _;rw[e1]
 byValue:=fun k v h=>by
  rcases dF h with ⟨i,t,rfl,rfl⟩|⟨x,t,rfl,rfl⟩ <;> rfl
 pyHash:=fun hv h=>by
  rcases dF hv with ⟨i,t,rfl,rfl⟩|⟨x,t,rfl,rfl⟩
  .exact wpAny_pyHash_int h
  .exact wpAny_pyHash_str h
 eqBool:=fun hu hv h=>by
  rcases dF hu with ⟨i,t,rfl,rfl⟩|⟨x,t,rfl,rfl⟩
  .rcases dF hv with ⟨j,u,rfl,rfl⟩|⟨y,u,rfl,rfl⟩
   .rw[LA] at h;exact zO h
   .rw[LC] at h;exact SeqAt.EqAt.int_str i t y u _ _ _ _ h
  .rcases dF hv with ⟨j,u,rfl,rfl⟩|⟨y,u,rfl,rfl⟩
   .rw[LD] at h;exact SeqAt.EqAt.str_int x t j u _ _ _ _ h
   .rw[LB] at h;exact wpAny_eqBool_str h
 «strs»:=fun k x t v h=>by
  rcases dF h with ⟨i,u,rfl,e⟩|⟨y,u,rfl,e⟩
  .exact nomatch e
  .injection e with e1 _
   subst e1
   cases v <;> rfl
theorem wV(prog:Program)(w:World)(i:Int)(t:Tok):(cp prog w).is (.inl i) (.int i t)=true:=C2 i t
theorem wW(prog:Program)(w:World)(x:Str)(t:Tok):(cp prog w).is (.inr x) (.str x t)=true:=C3 x t
inductive V where
 |cE|bl (b:Bool)|int (i:Int)|str (x:Str)|Eh (b:Array UInt8)|LG (b:UInt64)|ref (a:Addr)|ty (n:String)
 deriving DecidableEq
def bR:V->Value->Prop
 |.cE,u=>u=Value.none
 |.bl b,u=>u=Value.bool b
 |.int i,u=>∃t,u=Value.int i t
 |.str x,u=>∃t,u=Value.str x t
 |.Eh b,u=>∃t,u=Value.bytes b t
 |.LG b,u=>∃t,u=Value.float b t
 |.ref a,u=>u=Value.ref a
 |.ty n,u=>u=Value.type n
abbrev a8:List V->List Value->Prop:=Paired bR
theorem a8.length(r:a8 xs us):xs.length=us.length:=Paired.length r
theorem a8.get:∀ {xs:List V} {us:List Value} {i:Nat} {x:V},a8 xs us->xs[i]?=some x->∃u,us[i]?=some u/\bR x u
 |_,_,_,_,.nil,e=>by simp at e
 |_,_,0,_,.cons r _,e=>by simp at e;subst e;exact⟨_,rfl,r⟩
 |_,_,i+1,x,.cons _ t,e=>by
  obtain⟨u,h1,h2⟩:=a8.get (i:=i) (x:=x) t (by simpa using e);exact⟨u,by simpa using h1,h2⟩
theorem a8.set(r:bR x u):∀ {xs:List V} {us:List Value} (i:Nat),a8 xs us->a8 (xs.set i x) (us.set i u)
 |_,_,_,.nil=>.nil
 |_,_,0,.cons _ t=>.cons r t
 |_,_,i+1,.cons q t=>.cons q (a8.set r i t)
theorem a8.append:∀ {xs ys:List V} {us ws:List Value},a8 xs us->a8 ys ws->a8 (xs++ys) (us++ws)
 |_,_,_,_,.nil,s=>s
 |_,_,_,_,.cons r t,s=>.cons r (a8.append t s)
theorem a8.take:∀ {xs:List V} {us:List Value} (n:Nat),a8 xs us->a8 (xs.take n) (us.take n)
 |_,_,0,_=>.nil
 |_,_,_+1,.nil=>.nil
 |_,_,n+1,.cons r t=>.cons r (a8.take n t)
theorem a8.drop:∀ {xs:List V} {us:List Value} (n:Nat),a8 xs us->a8 (xs.drop n) (us.drop n)
 |_,_,0,r=>r
 |_,_,_+1,.nil=>.nil
 |_,_,n+1,.cons _ t=>a8.drop n t
def mx:Option V->Option Value->Prop
 |some v,some u=>bR v u
 |none,none=>True
 |_,_=>False
def KV{κ:Type}:List (κ×V)->List (κ×Value)->Prop:=Paired fun (p:κ×V) (q:κ×Value)=>p.1=q.1/\bR p.2 q.2
def kV:h_->V
 |.inl i=>.int i
 |.inr x=>.str x
inductive HO where
 |lst (xs:List V)
 |tup (xs:List V)
 |dK (dk:List (h_×V))|dT (dk:List (List h_×V))
 |set (S:Int->Bool) (n:Nat)
 |ins (C dx:Addr) (fs:List (Str×V))
 |own (x:Addr)
 |xd (fs:List (Str×V))
 |met (f x:Addr)
 |Br (lo hi:Int)
 |wR (o:Obj) (u:HO)
 |iH (ps:Array Value)
 |ext (φ:Heap->Prop)
abbrev Hp:=Addr->Option HO
def upd(H:Hp)(a:Addr)(o:HO):Hp:=fun b=>if b=a then some o else H b
theorem ae:upd H a o a=some o:=by unfold upd;rw[ak rfl]
theorem ao(h:b≠a):upd H a o b=H b:=by unfold upd;rw[av h]
theorem kY:upd (upd H a o) a u=upd H a u:=by
 funext b;unfold upd;split <;> rfl
theorem gn{H:Hp}{a b:Addr}{o u:HO}(h:H a=some o)(h':H b=some u)(d:o≠u):a≠b:=by
 intro e;subst e;rw[h] at h';exact d (bN h')
theorem am{H:Hp}{a b:Addr}{o:HO}(h:H a=some o)(h':H b=none):a≠b:=by
 intro e;subst e;rw[h] at h';cases h'
section
variable (P:Program) (w:World)
def oQ(h:Heap)(a:Addr)(items:Array Value):Prop:=∃o,h.get? a=some o/\o.cls=.type "tuple"/\∃n,o.data=.seq items n/\o.dict=none
theorem oQ.tup(p:oQ h a items):IsTup h a items:=let ⟨o,e,c,n,d,_⟩:=p;⟨o,e,c,n,d⟩
theorem oQ.new(h:Heap)(items:Array Value):oQ (h.push { cls:=.type "tuple",data:=.seq items }) h.objs.size items:=⟨_,cB _ rfl,rfl,_,rfl,rfl⟩
def cL(H:Hp)(h:Heap)(a:Addr):HO->Prop
 |.lst xs=>xs.length<=sizeLine/\∃ (its:List Value) (n:Nat),a8 xs its/\h.get? a=some { cls:=.type "list",data:=.seq its.toArray n }
 |.tup xs=>xs.length<=sizeLine/\∃its:List Value,a8 xs its/\oQ h a its.toArray
 |.dK dk=>dk.length<=sizeLine/\(a==sysModules)=false/\∃vs,KV dk vs/\h.DictOf (cp P w) a vs
 |.dT dk=>dk.length<=sizeLine/\(a==sysModules)=false/\∃xs:List (List h_×Addr×Value),
   Paired (fun (p:List h_×V) (q:List h_×Addr×Value)=>p.1=q.1/\H q.2.1=some (.tup (p.1.map kV))/\bR p.2 q.2.2) dk xs/\
   ∃o es ep,h.get? a=some o/\o.ExactDict/\o.data=.dict es ep/\es.toList=xs.map (entryOfKey (tupleKind (cp P w)))/\(xs.map (·.1)).Nodup
 |.set S n=>h.SetOf (intKind P w) a S n
 |.ins C dx fs=>H dx=some (.own a)/\fs.length<=1000/\dx≠a/\h.get? a=some (PySem.W.instObj C dx)/\
   ∃mA,h.Ns1 dx mA/\(∀f,mx (fs.lookup f) (mA f))/\PySem.Within mA (fs.map (·.1))
 |.own _=>∃o,h.get? a=some o
 |.xd fs=>∃mA,h.Ns1 a mA/\∀f,mx (fs.lookup f) (mA f)
 |.Br lo hi=>∃t u v,h.get? a=some { cls:=.type "range",data:=.fields #[.int lo t,.int hi u,.int 1 v] }
 |.wR o u=>h.get? a=some o/\cL H h a u
 |.iH ps=>h.get? a=some { cls:=.none,data:=.fields ps }
 |.met f x=>h.get? a=some (PySem.W.methodObj (.ref f) (.ref x))
 |.ext φ=>φ h/\(∃o,h.get? a=some o)/\∀h1 h2:Heap,φ h1->(∀o,h1.get? a=some o->h2.get? a=some o)->φ h2
def lX(H:Hp)(h:Heap):Prop:=∀a o,H a=some o->cL P w H h a o
end
section
variable {P:Program} {w:World} {H H':Hp} {h h':Heap} {a:Addr} {o:HO}
theorem cL.lt(x:cL P w H h a o):a<h.objs.size:=by
 cases o with
 |lst xs=>obtain⟨_,_,_,_,e⟩:=x;exact aT e
 |tup xs=>obtain⟨_,_,_,p⟩:=x;exact p.tup.lt
 |dK dk=>obtain⟨_,_,_,_,o,_,_,e,_⟩:=x;exact aT e
 |dT dk=>obtain⟨_,_,_,_,o,_,_,e,_⟩:=x;exact aT e
 |set S n=>obtain⟨o,_,_,_,e,_⟩:=x;exact aT e
 |ins C dx fs=>obtain⟨_,_,_,e,_⟩:=x;exact aT e
 |own y=>obtain⟨_,e⟩:=x;exact aT e
 |xd fs=>obtain⟨_,⟨_,_,_,e,_⟩,_⟩:=x;exact aT e
 |Br lo hi=>obtain⟨_,_,_,e⟩:=x;exact aT e
 |wR ob u=>obtain⟨e,_⟩:=x;exact aT e
 |iH ps=>exact aT (show h.get? a=some _ from x)
 |met f y=>exact aT (show h.get? a=some _ from x)
 |ext φ=>obtain⟨_,⟨_,e⟩,_⟩:=x;exact aT e
theorem Paired.LH:∀ {l₁:List α} {l₂:List β},Paired F l₁ l₂->(∀a b,F a b->G a b)->Paired G l₁ l₂
 |_,_,.nil,_=>.nil
 |_,_,.cons r t,f=>.cons (f _ _ r) (Paired.LH t f)
theorem cL.iV(x:cL P w H h a o)(k:∀b u,(b=a\/H b=some (.own a))->h.get? b=some u->h'.get? b=some u)(ho:∀b,H b=some (.own a)->H' b=some (.own a))(ht:∀b xs,H b=some (.tup xs)->H' b=some (.tup xs)):cL P w H' h' a o:=by
 induction o with
 |lst xs=>obtain⟨z,its,n,r,e⟩:=x;exact⟨z,its,n,r,k _ _ (.inl rfl) e⟩
 |tup xs=>obtain⟨z,its,r,ob,e,c⟩:=x;exact⟨z,its,r,ob,k _ _ (.inl rfl) e,c⟩
 |dK dk=>obtain⟨z,y,vs,r,ob,es,ep,e,c⟩:=x;exact⟨z,y,vs,r,ob,es,ep,k _ _ (.inl rfl) e,c⟩
 |dT dk=>
  obtain⟨z,y,xs,r,ob,es,ep,e,c⟩:=x;exact⟨z,y,xs,Paired.LH r fun p q z=>⟨z.1,ht _ _ z.2.1,z.2.2⟩,ob,es,ep,k _ _ (.inl rfl) e,c⟩
 |set S n=>obtain⟨ob,es,ep,t,e,c⟩:=x;exact⟨ob,es,ep,t,k _ _ (.inl rfl) e,c⟩
 |ins C dx fs=>
  obtain⟨d,z,ne,e,mA,⟨od,es,ep,e2,c⟩,r⟩:=x;exact⟨ho _ d,z,ne,k _ _ (.inl rfl) e,mA,⟨od,es,ep,k _ _ (.inr d) e2,c⟩,r⟩
 |own y=>obtain⟨ob,e⟩:=x;exact⟨ob,k _ _ (.inl rfl) e⟩
 |xd fs=>obtain⟨mA,⟨od,es,ep,e,c⟩,r⟩:=x;exact⟨mA,⟨od,es,ep,k _ _ (.inl rfl) e,c⟩,r⟩
 |Br lo hi=>obtain⟨t,u,v,e⟩:=x;exact⟨t,u,v,k _ _ (.inl rfl) e⟩
 |wR ob u ih=>obtain⟨e,q⟩:=x;exact⟨k _ _ (.inl rfl) e,ih q⟩
 |iH ps=>
  have e:h.get? a=some { cls:=.none,data:=.fields ps }:=x;show h'.get? a=some { cls:=.none,data:=.fields ps };exact k a _ (.inl rfl) e
 |met f y=>
  have e:h.get? a=some (PySem.W.methodObj (.ref f) (.ref y)):=x;show h'.get? a=some (PySem.W.methodObj (.ref f) (.ref y));exact k a _ (.inl rfl) e
 |ext φ=>obtain⟨p,⟨o,e⟩,st⟩:=x;exact⟨st _ _ p fun o q=>k _ _ (.inl rfl) q,⟨o,k _ _ (.inl rfl) e⟩,st⟩
theorem lX.lt(x:lX P w H h)(e:H a=some o):a<h.objs.size:=(x a o e).lt
theorem lX.fresh(x:lX P w H h)(e:h.objs.size<=a):H a=none:=by
 cases q:H a with
 |none=>rfl
 |some u=>exact absurd (br (x.lt q) e) (ip _)
theorem lX.kept(x:lX P w H h)(k:∀b u,h.get? b=some u->h'.get? b=some u):lX P w H h':=fun a o e=>
 (x a o e).iV (fun b u _ q=>k b u q) (fun _ q=>q) fun _ _ q=>q
theorem lX.laid(x:lX P w H h)(k:∀b u,h.get? b=some u->h'.get? b=some u)(hp:h.objs.size<=a)(new:cL P w (upd H a o) h' a o):lX P w (upd H a o) h':=fun b u e=>by
 have hn:=x.fresh hp;by_cases hb:b=a
 .subst hb;rw[ae] at e;cases e;exact new
 .rw[ao hb] at e;exact(x b u e).iV (fun c v _ q=>k c v q) (fun c q=>by rw[ao (am q hn)];exact q) fun c xs q=>by rw[ao (am q hn)];exact q
end
def Rd(H:Hp)(a:Addr)(u:HO):Prop:=H a=some u\/∃o,H a=some (.wR o u)
theorem Rd.ok(r:Rd H a u)(x:lX P w H h):cL P w H h a u:=by
 rcases r with r|⟨o,r⟩
 .exact x a u r
 .obtain⟨_,q⟩:=x a _ r;exact q
def T4:Option HO->Prop
 |some (.lst _)=>True
 |some (.dK _)=>True
 |some (.dT _)=>True
 |some (.set _ _)=>True
 |some (.ins _ _ _)=>True
 |some (.ext _)=>True
 |_=>False
section
variable {P:Program} {w:World} {H:Hp} {h h':Heap} {x e:Addr} {o':HO}
theorem lX.write(ok:lX P w H h)(mu:T4 (H x))(he:e=x\/H e=some (.own x))(k:∀b u,b≠e->h.get? b=some u->h'.get? b=some u)(OT:∃u,h'.get? e=some u)(new:cL P w (upd H x o') h' x o'):lX P w (upd H x o') h':=fun b u q=>by
 have PJ:∀c y,H c=some (.own y)->c≠x:=fun c y r z=>by subst z;rw[r] at mu;exact mu
 have U3:∀c xs,H c=some (.tup xs)->c≠x:=fun c xs r z=>by subst z;rw[r] at mu;exact mu
 by_cases hb:b=x
 .subst hb;rw[ae] at q;cases q;exact new
 .rw[ao hb] at q;by_cases HF:b=e
  .have q':H b=some (.own x):=by
    rcases he with z|z
    .exact absurd (HF.trans z) hb
    .rw[HF];exact z
   rw[q] at q';cases q';obtain⟨v,hv⟩:=OT;exact⟨v,by rw[HF];exact hv⟩
  .refine(ok b u q).iV (fun c v hc r=>k c v ?_ r) (fun c r=>by rw[ao (PJ c b r)];exact r) fun c xs r=>by rw[ao (U3 c xs r)];exact r
   rcases hc with rfl|hc
   .exact HF
   .rintro rfl;rcases he with z|z
    .exact PJ c b hc z
    .rw[hc] at z;cases z;exact hb rfl
end
structure Un(fs ex:List Addr)(H H':Hp)(h h':Heap):Prop where
 keep:∀b o,h.get? b=some o->H b=none->b∉fs->b∉ex->h'.get? b=some o
 slot:∀b o,h.get? b=some o->H b=none->b∈fs->b∉ex->∃sl,h'.get? b=some { o with slots:=sl }
 free:∀b o,h.get? b=some o->H b=none->b∉ex->H' b=none
 there:∀b o,h.get? b=some o->b∉ex->∃o',h'.get? b=some o'
 rp:∀b xs,H b=some (.tup xs)->H' b=some (.tup xs)
 vB:∀b o u,H b=some (.wR o u)->H' b=some (.wR o u)
 vC:∀b ps,H b=some (.iH ps)->∃more,H' b=some (.iH (ps++more))
section
variable {fs fs' ex ex':List Addr} {H H1 H2:Hp} {h h1 h2 h':Heap} {a x e:Addr} {o:HO}
theorem Un.any(u:Un fs ex H H1 h h1)(q:h.get? b=some ob)(n:H b=none)(hx:b∉ex):∃sl,h1.get? b=some { ob with slots:=sl }:=by
 by_cases hb:b∈fs
 .exact u.slot b ob q n hb hx
 .exact⟨ob.slots,u.keep b ob q n hb hx⟩
theorem Un.kept(k:∀b u,h.get? b=some u->h'.get? b=some u):Un fs ex H H h h':=
 ⟨fun b ob q _ _ _=>k b ob q,fun b ob q _ _ _=>⟨ob.slots,k b ob q⟩,fun _ _ _ n _=>n,fun b ob q _=>⟨ob,k b ob q⟩,fun _ _ q=>q,fun _ _ _ q=>q,fun _ ps q=>⟨#[],by rw[q];simp⟩⟩
theorem Un.refl:Un fs ex H H h h:=Un.kept fun _ _ q=>q
theorem Un.laid(k:∀b u,h.get? b=some u->h'.get? b=some u)(hp:h.objs.size<=a)(hn:H a=none):Un fs ex H (upd H a o) h h' where
 keep:=fun b u q _ _ _=>k b u q
 slot:=fun b u q _ _ _=>⟨u.slots,k b u q⟩
 free:=fun b u q n _=>by rw[ao (aW (br (aT q) hp))];exact n
 there:=fun b u q _=>⟨u,k b u q⟩
 rp:=fun b xs q=>by rw[ao (am q hn)];exact q
 vB:=fun b u xs q=>by rw[ao (am q hn)];exact q
 vC:=fun b ps q=>⟨#[],by rw[ao (am q hn),q];simp⟩
theorem Un.write(mu:T4 (H x))(he:e=x\/H e=some (.own x))(k:∀b u,b≠e->h.get? b=some u->h'.get? b=some u)(OT:∃u,h'.get? e=some u):Un fs ex H (upd H x o) h h':=by
 have hx:∀b,H b=none->b≠x:=fun b n z=>by subst z;rw[n] at mu;exact mu
 have hb:∀b,H b=none->b≠e:=fun b n z=>by
  subst z;rcases he with r|r
  .exact hx b n r
  .rw[n] at r;cases r
 have hm:∀b u,H b=some u->¬ T4 (some u)->b≠x:=fun b u q nm z=>by subst z;rw[q] at mu;exact nm mu
 refine⟨fun b u q n _ _=>k b u (hb b n) q,fun b u q n _ _=>⟨u.slots,k b u (hb b n) q⟩,fun b u q n _=>by rw[ao (hx b n)];exact n,fun b u q _=>?_,
  fun b xs q=>by rw[ao (hm b _ q fun z=>z)];exact q,fun b u xs q=>by rw[ao (hm b _ q fun z=>z)];exact q,fun b ps q=>⟨#[],by rw[ao (hm b _ q fun z=>z),q];simp⟩⟩
 by_cases HF:b=e
 .subst HF;exact OT
 .exact⟨u,k b u HF q⟩
end
def T5(h:Heap)(H:Hp):List Addr:=(List.range h.objs.size).filter fun a=>(H a).isSome
def sV(h:Heap)(H:Hp):Heap:=PySem.W.hideAll h (T5 h H)
theorem C4(h:Heap)(H:Hp):(sV h H).objs.size=h.objs.size:=PySem.W.hideAll_size _ _
theorem EK(e:h.get? b=some o)(n:H b=none):(sV h H).get? b=some o:=
 PySem.W.hideAll_get _ e fun hm=>by
  have q:(H b).isSome=true:=(dz.mp hm).2;rw[n] at q;simp at q
theorem HX(e:(sV h H).get? b=some o):h.get? b=some o/\H b=none:=by
 have e':h.get? b=some o:=PySem.W.of_hideAll (T5 h H) e;refine⟨e',?_⟩;cases q:H b with
 |none=>rfl
 |some x=>
  have hm:b∈T5 h H:=dz.mpr ⟨bK.mpr (aT e'),by simp[q]⟩;have z:(sV h H).get? b=none:=PySem.W.hideAll_none (T5 h H) hm;rw[z] at e;cases e
def jp(g h:Heap)(L:Addr):List (Addr×Obj):=(List.range h.objs.size).filterMap fun a=>if a=L\/(g.get? a).isSome=true then none else (h.get? a).map fun o=>(a,o)
theorem kj(h1:a≠L)(h2:g.get? a=none)(h3:h.get? a=some o):(a,o)∈jp g h L:=
 oh.mpr ⟨a,bK.mpr (aT h3),by simp[h1,h2,h3]⟩
theorem rA(hp:p∈jp g h L):p.1≠L/\g.get? p.1=none/\h.get? p.1=some p.2:=by
 obtain⟨b,_,e⟩:=oh.mp hp;split at e
 .cases e
 .rename_i hn;cases q:h.get? b with
  |none=>rw[q] at e;simp at e
  |some u=>
   rw[q] at e;simp only[lR,Option.some.injEq] at e;subst e;refine⟨fun z=>hn (.inl z),?_,q⟩;show g.get? b=none;cases r:g.get? b with
   |none=>rfl
   |some v=>exact(hn (.inr (by simp[r]))).elim
theorem EL:News g L h (jp g h L):=fun p hp=>let ⟨a,b,c⟩:=rA hp;⟨c,a,b⟩
structure Mod(K:PySem.W.Frag)(mg:Str->Option Value)(base:Heap):Prop where
 PL:K.In base
 glob:base.Ns mainGlobals mg
 blt:∃mb,base.Ns builtinsNs mb/\∀x:Str,x≠"__name__"->mb x=bootBuiltins x
 nolimit:base.NoLimit
structure Cx where
 prog:Program
 w:World
 K:PySem.W.Frag
 mg:Str->Option Value
 base:Heap
 A:Around
 N:List Str
 s₀:Shared
 H₀:Hp
 env:Env
 outer:List Env
 stack:List Env
 ex:List Addr
 fn:Str->Bool
 calm:Bool
 pn:List (Addr×Obj)
 xe:Value->Shared->Prop
def Ei(l:List Env):List Addr:=l.filterMap (·.frame)
abbrev Cx.fs(X:Cx):List Addr:=Ei X.outer
def OV(sc:Scope)(x:Str):Prop:=sc.names.lookup x=some .local\/sc.names.lookup x=some .cell\/sc.names.lookup x=some .free
def PM(sc:Scope)(x:Str):Prop:=sc.names.lookup x=some .local\/sc.names.lookup x=some .cell
def U4(env:Env)(h:Heap)(m:Str->Option Value)(x:Str)(u:Value):Prop:=
 (env.kindOf x=some .local/\m x=some u)\/((env.kindOf x=some .cell\/env.kindOf x=some .free)/\∃c,env.cells.lookup x=some c/\h.IsCell c (some u))
structure Cx.Ok(X:Cx):Prop where
 mod:Mod X.K X.mg X.base
 kind:X.env.scope.kind=.function
 glob:X.env.globals=mainGlobals
 blt:X.env.builtins=builtinsNs
 above:X.s₀.heap.objs.size<=X.env.locals
 inj:∀x y c,X.env.cells.lookup x=some c->X.env.cells.lookup y=some c->x=y
 has:∀x,(X.env.kindOf x=some .cell\/X.env.kindOf x=some .free)->∃c,X.env.cells.lookup x=some c
 PP:∀x c,X.fn x=true->X.env.cells.lookup x=some c->X.s₀.heap.objs.size<=c
 hd:X.calm=true->X.A.handled=none
 frames:X.A.frames=some X.stack
 OX:X.stack=X.outer\/(X.stack=X.env::X.outer/\X.env.frame=some X.env.locals)
 U5:∀b∈X.ex,b≠X.env.locals/\∀x c,X.env.cells.lookup x=some c->c≠b
 bs:∀b o,X.base.get? b=some o->X.s₀.heap.get? b=some o/\X.H₀ b=none
 EM:X.base.objs.size<=X.s₀.heap.objs.size
 EN:∀b o,X.base.get? b=some o->b∉X.ex
 HY:∀b∈X.ex,b∉X.fs
 qa:X.s₀.heap.FunFrames X.base X.outer
 LI:∀b∈X.fs,X.H₀ b=none
structure aS(X:Cx)(af:List (Addr×Obj))(σ:List (Option V))(H:Hp)(s:Shared):Prop where
 ok:X.Ok
 os:s.os=X.s₀.os
 bare:AllBare s.gens
 base:Un X.fs X.ex X.H₀ H X.s₀.heap s.heap
 loc:∃m,s.heap.Ns X.env.locals m/\∀ (i:Nat) (x:Str) (v:V),X.N[i]?=some x->σ[i]?=some (some v)->OV X.env.scope x->∃u,bR v u/\U4 X.env s.heap m x u
 cell:∀x c,X.env.cells.lookup x=some c->∃v,s.heap.IsCell c v
 free:H X.env.locals=none
 km:∀x c,X.env.cells.lookup x=some c->H c=none
 pin:∀p∈X.pn++af,s.heap.get? p.1=some p.2/\H p.1=none/\p.1≠X.env.locals/\p.1∉X.fs/\∀v,p.2.data≠.cell v
 cz:lX X.prog X.w H s.heap
 len:σ.length=X.N.length
section
variable {X:Cx} {af:List (Addr×Obj)} {σ:List (Option V)} {H H':Hp} {s:Shared} {h':Heap}
theorem Cx.Ok.U6(ok:X.Ok)(e:X.base.get? b=some o):b∉X.fs:=fun hb=>by
 have:=(ok.qa.mem hb).1;rw[e] at this;cases this
theorem aS.bs(I:aS X af σ H s):∀b o,X.base.get? b=some o->s.heap.get? b=some o/\H b=none:=fun b o e=>
 ⟨I.base.keep b o (I.ok.bs b o e).1 (I.ok.bs b o e).2 (I.ok.U6 e) (I.ok.EN b o e),I.base.free b o (I.ok.bs b o e).1 (I.ok.bs b o e).2 (I.ok.EN b o e)⟩
theorem aS.bk(I:aS X af σ H s):∀b o,X.base.get? b=some o->s.heap.get? b=some o:=fun b o e=>(I.bs b o e).1
theorem aS.mod(I:aS X af σ H s):Mod X.K X.mg X.base:=I.ok.mod
theorem aS.my(I:aS X af σ H s):X.K.In s.heap:=I.ok.mod.PL.keeps I.bk
theorem aS.nolimit(I:aS X af σ H s):s.heap.NoLimit:=I.ok.mod.nolimit.keeps I.bk
theorem aS.fr(I:aS X af σ H s):∃m,Fr X.base X.env.locals s.heap m:=
 let ⟨m,hn,_⟩:=I.loc
 ⟨m,hn,I.bk,ba I.ok.EM I.ok.above⟩
theorem aS.lt(I:aS X af σ H s):X.env.locals<s.heap.objs.size:=let ⟨_,hn,_⟩:=I.loc;hn.lt
theorem aS.sz(I:aS X af σ H s):X.s₀.heap.objs.size<=s.heap.objs.size:=ba I.ok.above (lU I.lt)
theorem aS.U7(I:aS X af σ H s)(h:s.heap.objs.size<=a):a∉X.fs:=fun hb=>by
 obtain⟨_,o,ho,_⟩:=I.ok.qa.mem hb;exact absurd (br (aT ho) (ba I.sz h)) (ip _)
theorem aS.LJ(I:aS X af σ H s):∀x c,X.env.cells.lookup x=some c->c≠X.env.locals:=fun x c e z=>by
 obtain⟨v,o,ho,hd⟩:=I.cell x c e;obtain⟨m,⟨o',es,ep,EO,HZ,_⟩,_⟩:=I.loc;rw[z,EO] at ho;cases ho;rw[HZ] at hd;cases hd
theorem aS.qa(I:aS X af σ H s):s.heap.FunFrames X.base X.outer:=by
 have all:∀ (l:List Env),(∀b∈Ei l,b∈X.fs)->X.s₀.heap.FunFrames X.base l->s.heap.FunFrames X.base l:=by
  intro l;induction l with
  |nil=>intro _ _;trivial
  |cons env r ih=>
   intro hs hl;obtain⟨hk,⟨L,o,hf,hn,ho,hd⟩,hr⟩:=hl;have hL:L∈X.fs:=hs L (by unfold Ei;rw[zk,hf];exact bu);obtain⟨sl,e⟩:=I.base.slot L o ho (I.ok.LI L hL) hL fun z=>I.ok.HY L z hL;exact⟨hk,⟨L,_,hf,hn,e,hd⟩,ih (fun b hb=>hs b (by unfold Ei;rw[zk,hf];exact bA _ hb)) hr⟩
 exact all X.outer (fun _ hb=>hb) I.ok.qa
theorem aS.stack(I:aS X af σ H s):s.heap.FunFrames X.base X.stack:=by
 rcases I.ok.OX with e|⟨e,hf⟩
 .rw[e];exact I.qa
 .rw[e];obtain⟨m,hn,_⟩:=I.loc;refine .cons (by rw[I.ok.kind];decide) hf hn ?_ I.qa;exact qU (ba I.ok.EM I.ok.above)
theorem aS.vD(I:aS X af σ H s):∀b∈Ei X.stack,b∈X.env.locals::X.fs:=fun b hb=>by
 rcases I.ok.OX with e|⟨e,hf⟩
 .rw[e] at hb;exact bA _ hb
 .rw[e] at hb;unfold Ei at hb;rw[zk,hf] at hb;exact hb
theorem aS.vE(I:aS X af σ H s):∀b∈Ei X.stack,H b=none:=fun b hb=>by
 rcases bn.mp (I.vD b hb) with e|hb
 .rw[e];exact I.free
 .obtain⟨_,o,ho,_⟩:=I.ok.qa.mem hb;exact I.base.free b o ho (I.ok.LI b hb) fun z=>I.ok.HY b z hb
theorem aS.step{g':Array GenState}{t':Nat}{d':Drawn}{ch:List Addr}(I:aS X af σ H s)(HG:∀b∈ch,(b∈X.ex\/X.s₀.heap.objs.size<=b)/\b≠X.env.locals/\(∀x c,X.env.cells.lookup x=some c->c≠b)/\∀p∈X.pn++af,p.1≠b)(keep:∀b o,b≠X.env.locals->b∉X.fs->b∉ch->s.heap.get? b=some o->H b=none->h'.get? b=some o)(slot:∀b o,b≠X.env.locals->b∈X.fs->b∉ch->s.heap.get? b=some o->H b=none->∃sl,h'.get? b=some { o with slots:=sl })(free:∀b o,b∉ch->s.heap.get? b=some o->H b=none->H' b=none)(there:∀b o,b∉ch->s.heap.get? b=some o->∃o',h'.get? b=some o')(rp:∀b xs,H b=some (.tup xs)->H' b=some (.tup xs))(vB:∀b o u,H b=some (.wR o u)->H' b=some (.wR o u))(vC:∀b ps,H b=some (.iH ps)->∃more,H' b=some (.iH (ps++more)))(ns:∀m,s.heap.Ns X.env.locals m->h'.Ns X.env.locals m)(cz:lX X.prog X.w H' h')(hg:AllBare g'):
  aS X af σ H' { s with heap:=h',gens:=g',drawn:=d',toks:=t' }:=by
 have Zw:∀b o,X.s₀.heap.get? b=some o->b≠X.env.locals:=fun b o e=>aW (br (aT e) I.ok.above);have T6:∀b o,X.s₀.heap.get? b=some o->b∉X.ex->b∉ch:=fun b o e hx hb=>by
  rcases(HG b hb).1 with z|z
  .exact hx z
  .exact absurd (br (aT e) z) (ip _)
 have KH:∀x c,X.env.cells.lookup x=some c->∀v,s.heap.IsCell c v->h'.IsCell c v:=fun x c e v ⟨o,ho,hd⟩=>by
  have PQ:c∉ch:=fun z=>(HG c z).2.2.1 x c e rfl;by_cases hc:c∈X.fs
  .obtain⟨sl,q⟩:=slot c o (I.LJ x c e) hc PQ ho (I.km x c e);exact⟨_,q,hd⟩
  .exact⟨o,keep c o (I.LJ x c e) hc PQ ho (I.km x c e),hd⟩
 refine⟨I.ok,I.os,hg,⟨fun b o e n hb hx=>?_,fun b o e n hb hx=>?_,fun b o e n hx=>?_,fun b o e hx=>?_,fun b xs e=>rp b xs (I.base.rp b xs e),fun b o xs e=>vB b o xs (I.base.vB b o xs e),fun b ps e=>?_⟩,?_,fun x c e=>?_,?_,fun x c e=>?_,fun p hp=>?_,cz,I.len⟩
 .exact keep b o (Zw b o e) hb (T6 b o e hx) (I.base.keep b o e n hb hx) (I.base.free b o e n hx)
 .obtain⟨sl,e1⟩:=I.base.slot b o e n hb hx;obtain⟨U8,e2⟩:=slot b _ (Zw b o e) hb (T6 b o e hx) e1 (I.base.free b o e n hx);exact⟨U8,e2⟩
 .obtain⟨o',e1⟩:=I.base.there b o e hx;exact free b o' (T6 b o e hx) e1 (I.base.free b o e n hx)
 .obtain⟨o',e1⟩:=I.base.there b o e hx;exact there b o' (T6 b o e hx) e1
 .obtain⟨m1,e1⟩:=I.base.vC b ps e;obtain⟨m2,e2⟩:=vC b _ e1;exact⟨m1++m2,by rw[e2,Array.append_assoc]⟩
 .obtain⟨m,hn,hl⟩:=I.loc;refine⟨m,ns m hn,fun i x v e1 e2 e3=>?_⟩;obtain⟨u,r,l⟩:=hl i x v e1 e2 e3;refine⟨u,r,?_⟩;rcases l with l|⟨k,c,e,z⟩
  .exact .inl l
  .exact .inr ⟨k,c,e,KH x c e _ z⟩
 .obtain⟨v,z⟩:=I.cell x c e;exact⟨v,KH x c e v z⟩
 .obtain⟨m,⟨o,_,_,ho,_⟩,_⟩:=I.loc;exact free _ o (fun z=>(HG _ z).2.1 rfl) ho I.free
 .obtain⟨v,o,ho,hd⟩:=I.cell x c e;exact free c o (fun z=>(HG c z).2.2.1 x c e rfl) ho (I.km x c e)
 .obtain⟨e,n,ne,nf,d⟩:=I.pin p hp;have PQ:p.1∉ch:=fun z=>(HG p.1 z).2.2.2 p hp rfl;exact⟨keep p.1 p.2 ne nf PQ e n,free p.1 p.2 PQ e n,ne,nf,d⟩
theorem aS.un{t':Nat}(I:aS X af σ H s)(u:Un X.fs [] H H' s.heap h')(cz:lX X.prog X.w H' h'):aS X af σ H' { s with heap:=h',toks:=t' }:=by
 obtain⟨m,⟨o,es,ep,ho,r⟩,_⟩:=id I.loc;obtain⟨sl,hL⟩:=u.any ho I.free (by simp);exact I.step (g':=s.gens) (d':=s.drawn) (ch:=[]) (fun _ z=>nomatch z) (fun b o _ hb _ e n=>u.keep b o e n hb (by simp)) (fun b o _ hb _ e n=>u.slot b o e n hb (by simp)) (fun b o _ e n=>u.free b o e n (by simp)) (fun b o _ e=>u.there b o e (by simp)) u.rp u.vB u.vC (fun m' hm=>by
  obtain⟨o',yD,PU,EO,r'⟩:=hm;rw[ho] at EO;cases EO;exact⟨_,yD,PU,hL,r'⟩) cz I.bare
theorem aS.call{g':Array GenState}{t':Nat}{d':Drawn}{ch:List Addr}(I:aS X af σ H s)(u:Un (Ei X.stack) ch H H' s.heap h')(cz:lX X.prog X.w H' h')(hg:AllBare g')(HG:∀b∈ch,(b∈X.ex\/X.s₀.heap.objs.size<=b)/\b≠X.env.locals/\(∀x c,X.env.cells.lookup x=some c->c≠b)/\∀p∈X.pn++af,p.1≠b):
  aS X af σ H' { s with heap:=h',gens:=g',drawn:=d',toks:=t' }:=by
 obtain⟨m,⟨o,es,ep,ho,r⟩,_⟩:=id I.loc;obtain⟨sl,hL⟩:=u.any ho I.free fun z=>(HG _ z).2.1 rfl;exact I.step (ch:=ch) HG (fun b o hL hb hc e n=>u.keep b o e n (fun z=>(bn.mp (I.vD b z)).elim hL hb) hc) (fun b o _ _ hc e n=>u.any e n hc) (fun b o hc e n=>u.free b o e n hc) (fun b o hc e=>u.there b o e hc) u.rp u.vB u.vC (fun m' hm=>by
  obtain⟨o',yD,PU,EO,r'⟩:=hm;rw[ho] at EO;cases EO;exact⟨_,yD,PU,hL,r'⟩) cz hg
theorem aS.turned{t':Nat}{it:Addr}(I:aS X af σ H s)(k:∀b o,b≠it->s.heap.get? b=some o->h'.get? b=some o)(hn:H it=none)(hL:it≠X.env.locals)(h1:it∈X.ex\/X.s₀.heap.objs.size<=it)(h2:∀x c,X.env.cells.lookup x=some c->c≠it)(h3:∀p∈X.pn++af,p.1≠it):aS X af σ H { s with heap:=h',toks:=t' }:=by
 have KI:∀b u,H b=some u->b≠it:=fun b u e z=>by rw[z,hn] at e;cases e
 refine I.step (g':=s.gens) (d':=s.drawn) (ch:=[it]) (fun b hb=>?_) (fun b o _ _ hc e _=>k b o (fun z=>hc (by simp[z])) e) (fun b o _ _ hc e _=>⟨o.slots,k b o (fun z=>hc (by simp[z])) e⟩) (fun _ _ _ _ n=>n)
  (fun b o hc e=>⟨o,k b o (fun z=>hc (by simp[z])) e⟩) (fun _ _ e=>e) (fun _ _ _ e=>e) (fun b ps e=>⟨#[],by rw[e];simp⟩) (fun m hm=>?_) (fun b u e=>?_) I.bare
 .have e:b=it:=by simpa using hb
  subst e;exact⟨h1,hL,h2,h3⟩
 .obtain⟨o,es,ep,ho,r⟩:=hm;exact⟨o,es,ep,k _ o (dA hL) ho,r⟩
 .refine(I.cz b u e).iV (fun c v hc q=>k c v ?_ q) (fun _ q=>q) fun _ _ q=>q;rcases hc with z|z
  .rw[z];exact KI b u e
  .exact KI c _ z
theorem aS.tok(I:aS X af σ H s)(t:Nat):aS X af σ H { s with toks:=t }:=I.un (h':=s.heap) (t':=t) Un.refl I.cz
theorem aS.kept(I:aS X af σ H s)(k:∀b u,s.heap.get? b=some u->h'.get? b=some u):aS X af σ H { s with heap:=h',toks:=t' }:=I.un (Un.kept k) (I.cz.kept k)
theorem aS.laid(I:aS X af σ H s)(k:∀b u,s.heap.get? b=some u->h'.get? b=some u)(hp:s.heap.objs.size<=a)(new:cL X.prog X.w (upd H a o) h' a o):
  aS X af σ (upd H a o) { s with heap:=h',toks:=t' }:=I.un (Un.laid k hp (I.cz.fresh hp)) (I.cz.laid k hp new)
theorem aS.write(I:aS X af σ H s)(mu:T4 (H x))(he:e=x\/H e=some (.own x))(k:∀b u,b≠e->s.heap.get? b=some u->h'.get? b=some u)(OT:∃u,h'.get? e=some u)(new:cL X.prog X.w (upd H x o) h' x o):aS X af σ (upd H x o) { s with heap:=h',toks:=t' }:=I.un (Un.write mu he k OT) (I.cz.write mu he k OT new)
theorem aS.mz(I:aS X af σ H s)(h:∀p∈pins',s.heap.get? p.1=some p.2/\H p.1=none/\p.1≠X.env.locals/\p.1∉X.fs/\∀v,p.2.data≠.cell v):aS X pins' σ H s:=
 ⟨I.ok,I.os,I.bare,I.base,I.loc,I.cell,I.free,I.km,fun p hp=>(cw.mp hp).elim (fun z=>I.pin p (fw _ z)) (h p),I.cz,I.len⟩
theorem wX{N:List Str}(hN:N.Nodup){i j:Nat}{x:Str}(a:N[i]?=some x)(b:N[j]?=some x):i=j:=by
 obtain⟨h1,e1⟩:=dN.mp a;obtain⟨h2,e2⟩:=dN.mp b;exact(List.getElem_inj hN).mp (e1.trans e2.symm)
theorem tZ{M:Model}{A:Around}{E:Value->Shared->Prop}{i:Nat}{x:Str}{v:V}{u:Value}{Q:Unit->Shared->Prop}(I:aS X af σ H s)(hN:X.N.Nodup)(hi:X.N[i]?=some x)(hx:PM X.env.scope x)(r:bR v u)(h:∀s',aS X af (σ.set i (some v)) H s'->(∃a,Heap.SameBut a s.heap s'.heap/\(a=X.env.locals\/X.env.cells.lookup x=some a))->Q () s')(hf:X.fn x=true\/X.env.scope.names.lookup x=some .local:=by first|exact .inl rfl|exact .inr rfl|assumption):wpAny M A (storeName X.env x u) Q E s:=by
 obtain⟨m,hn,hl⟩:=id I.loc;have U9:(X.env.scope.kind==.class||(X.env.scope.kind==.module&&X.env.locals != X.env.globals))=false:=by rw[I.ok.kind];rfl
 have hiσ:i<σ.length:=by rw[I.len];exact(dN.mp hi).1
 have LJ:=I.LJ;have Bs:∀ {a:Addr} {h':Heap},(∃o,s.heap.get? a=some o/\H a=none)->Heap.SameBut a s.heap h'->lX X.prog X.w H h':=fun {a h'} ha hs b ob e=>by
  obtain⟨_,_,KJ⟩:=ha;refine(I.cz b ob e).iV (fun c w' hc q=>(hs.2 c ?_).trans q) (fun _ q=>q) fun _ _ q=>q;rintro rfl;rcases hc with rfl|hc
  .rw[KJ] at e;cases e
  .rw[KJ] at hc;cases hc
 rcases hx with hk|hk
 .refine wpAny_storeName_local hk hn (fun h' PV hs=>?_) U9;obtain⟨oL,_,_,C5,_⟩:=id hn;refine h _ ⟨I.ok,I.os,I.bare,⟨fun b o e n hb hx=>?_,fun b o e n hb hx=>?_,I.base.free,fun b o e hx=>?_,I.base.rp,I.base.vB,I.base.vC⟩,⟨_,PV,fun j y v' e1 e2 e3=>?_⟩,fun y c e=>?_,I.free,I.km,fun p hp=>?_,Bs ⟨oL,C5,I.free⟩ hs,by simpa using I.len⟩ ⟨_,hs,.inl rfl⟩
  .exact(hs.2 b (aW (br (aT e) I.ok.above))).trans (I.base.keep b o e n hb hx)
  .obtain⟨sl,e1⟩:=I.base.slot b o e n hb hx;exact⟨sl,(hs.2 b (aW (br (aT e) I.ok.above))).trans e1⟩
  .obtain⟨o',e1⟩:=I.base.there b o e hx;exact⟨o',(hs.2 b (aW (br (aT e) I.ok.above))).trans e1⟩
  .by_cases hj:j=i
   .subst hj;rw[hi] at e1;cases e1;rw[nX hiσ] at e2;cases e2;exact⟨u,r,.inl ⟨hk,by simp⟩⟩
   .rw[n9 (dA hj)] at e2;obtain⟨u',r',q⟩:=hl j y v' e1 e2 e3;refine⟨u',r',?_⟩;rcases q with ⟨k,e⟩|⟨k,c,e,z⟩
    .refine .inl ⟨k,?_⟩;have:y≠x:=fun e=>hj (wX hN e1 (e ▸ hi));simp[this,e]
    .exact .inr ⟨k,c,e,z.sameBut hs (LJ y c e)⟩
  .obtain⟨w',z⟩:=I.cell y c e;exact⟨w',z.sameBut hs (LJ y c e)⟩
  .obtain⟨e,n,ne,nf,d⟩:=I.pin p hp;exact⟨(hs.2 p.1 ne).trans e,n,ne,nf,d⟩
 .have U_:X.fn x=true:=by
   rcases hf with z|z
   .exact z
   .rw[z] at hk;cases hk
  obtain⟨c,hc⟩:=I.ok.has x (.inl hk);obtain⟨w',z⟩:=I.cell x c hc;refine wpAny_storeName_cell I.ok.kind hk hc z (fun h' wY hs=>?_);obtain⟨oc,T7,Va⟩:=id z;refine h { s with heap:=h' } ⟨I.ok,I.os,I.bare,⟨fun b o e n hb hx=>?_,fun b o e n hb hx=>?_,I.base.free,fun b o e hx=>?_,I.base.rp,I.base.vB,I.base.vC⟩,⟨m,hn.sameBut hs (dA (LJ x c hc)),fun j y v' e1 e2 e3=>?_⟩,fun y c' e=>?_,I.free,I.km,fun p hp=>?_,Bs ⟨oc,T7,I.km x c hc⟩ hs,by simpa using I.len⟩ ⟨c,hs,.inr hc⟩
  .exact(hs.2 b (aW (br (aT e) (I.ok.PP x c U_ hc)))).trans (I.base.keep b o e n hb hx)
  .obtain⟨sl,e1⟩:=I.base.slot b o e n hb hx;exact⟨sl,(hs.2 b (aW (br (aT e) (I.ok.PP x c U_ hc)))).trans e1⟩
  .obtain⟨o',e1⟩:=I.base.there b o e hx;exact⟨o',(hs.2 b (aW (br (aT e) (I.ok.PP x c U_ hc)))).trans e1⟩
  .by_cases hj:j=i
   .subst hj;rw[hi] at e1;cases e1;rw[nX hiσ] at e2;cases e2;exact⟨u,r,.inr ⟨.inl hk,c,hc,wY⟩⟩
   .rw[n9 (dA hj)] at e2;obtain⟨u',r',q⟩:=hl j y v' e1 e2 e3;refine⟨u',r',?_⟩;rcases q with q|⟨k,c',e,z'⟩
    .exact .inl q
    .refine .inr ⟨k,c',e,z'.sameBut hs ?_⟩;rintro rfl;exact hj (wX hN e1 (I.ok.inj _ _ _ e hc ▸ hi))
  .by_cases Zx:c'=c
   .subst Zx;exact⟨_,wY⟩
   .obtain⟨w2,z2⟩:=I.cell y c' e;exact⟨w2,z2.sameBut hs Zx⟩
  .obtain⟨e,n,ne,nf,d⟩:=I.pin p hp;refine⟨(hs.2 p.1 ?_).trans e,n,ne,nf,d⟩;intro q;rw[q,T7] at e;have q':oc=p.2:=bN e;exact d w' (by rw[<-q'];exact Va)
theorem kr(I:aS X af σ H s)(hN:X.N.Nodup)(hi:X.N[i]?=some x)(hx:PM X.env.scope x)(r:bR v u)(h:∀s',aS X af (σ.set i (some v)) H s'->Q () s')(hf:X.fn x=true\/X.env.scope.names.lookup x=some .local:=by first|exact .inl rfl|exact .inr rfl|assumption):wpAny M A (storeName X.env x u) Q E s:=
 tZ I hN hi hx r (fun s' I' _=>h s' I') hf
theorem aS.KL(I:aS X af σ H s)(ho:s'.os=s.os)(u:Un (Ei X.stack) ch H H' s.heap s'.heap)(cz:lX X.prog X.w H' s'.heap)(hg:AllBare s'.gens)(HG:∀b∈ch,(b∈X.ex\/X.s₀.heap.objs.size<=b)/\b≠X.env.locals/\(∀x c,X.env.cells.lookup x=some c->c≠b)/\∀p∈X.pn++af,p.1≠b):aS X af σ H' s':=by
 obtain⟨h',g',d',t',o'⟩:=s';have e:o'=s.os:=ho;subst e;exact I.call (g':=g') (t':=t') (d':=d') u cz hg HG
end
abbrev XK:=Value->Option Addr->Hp->Prop
abbrev St:=List (Option V)
abbrev VK:=V->Hp->Prop
abbrev TE:=St->Hp->VK->Prop
abbrev TT:=St->Hp->(Bool->Hp->Prop)->Prop
abbrev TA:=St->Hp->(List V->Hp->Prop)->Prop
structure wZ where
 nx:St->Hp->Prop
 rt:VK
 bk:St->Hp->Prop:=fun _ _=>False
 ct:St->Hp->Prop:=fun _ _=>False
abbrev TS:=wZ->St->Hp->Prop
def EP(X:Cx)(af:List (Addr×Obj))(σ:St)(Q:VK)(u:Value)(s':Shared):Prop:=∃v H',aS X af σ H' s'/\bR v u/\Q v H'
def TP(X:Cx)(af:List (Addr×Obj))(σ:St)(Q:Bool->Hp->Prop)(b:Bool)(s':Shared):Prop:=∃H',aS X af σ H' s'/\Q b H'
def AP(X:Cx)(af:List (Addr×Obj))(σ:St)(Q:List V->Hp->Prop)(us:List Value)(s':Shared):Prop:=∃vs H',aS X af σ H' s'/\a8 vs us/\Q vs H'
def SP(X:Cx)(af:List (Addr×Obj))(D:wZ)(f:Flow)(s':Shared):Prop:=
 match f with
 |.next=>∃σ' H',aS X af σ' H' s'/\D.nx σ' H'
 |.brk=>∃σ' H',aS X af σ' H' s'/\D.bk σ' H'
 |.cont=>∃σ' H',aS X af σ' H' s'/\D.ct σ' H'
 |.ret u=>∃v σ' H',aS X af σ' H' s'/\bR v u/\D.rt v H'
def PE(X:Cx)(e:Expr)(t:TE):Prop:=
 ∀ (af:List (Addr×Obj)) (s:Shared) (σ:St) (H:Hp) (Q:VK),aS X af σ H s->t σ H Q->wpAny (model X.prog X.w) X.A (eval e X.env) (EP X af σ Q) X.xe s
def PT(X:Cx)(e:Expr)(t:TT):Prop:=
 ∀ (af:List (Addr×Obj)) (s:Shared) (σ:St) (H:Hp) (Q:Bool->Hp->Prop),aS X af σ H s->t σ H Q->wpAny (model X.prog X.w) X.A (isTrue e X.env (eval e X.env)) (TP X af σ Q) X.xe s
def PW(X:Cx)(e:Expr)(t:TT):Prop:=
 ∀ (Bt:Sem Value) (af:List (Addr×Obj)) (s:Shared) (σ:St) (H:Hp) (Q:Bool->Hp->Prop),aS X af σ H s->t σ H Q->wpAny (model X.prog X.w) X.A (isTrue e X.env Bt) (TP X af σ Q) X.xe s
theorem PW.pt(h:PW X e t):PT X e t:=h _
def PA(X:Cx)(es:List Expr)(t:TA):Prop:=
 ∀ (pos:Pos) (af:List (Addr×Obj)) (s:Shared) (σ:St) (H:Hp) (Q:List V->Hp->Prop),aS X af σ H s->t σ H Q->wpAny (model X.prog X.w) X.A (spliced (backTo pos (starEach es X.env))) (AP X af σ Q) X.xe s
def PS(X:Cx)(st:Stmt)(t:TS):Prop:=
 ∀ (af:List (Addr×Obj)) (s:Shared) (σ:St) (H:Hp) (D:wZ),aS X af σ H s->t D σ H->wpAny (model X.prog X.w) X.A (exec st X.env) (SP X af D) X.xe s
def zP(X:Cx)(st:List Stmt)(t:TS):Prop:=
 ∀ (af:List (Addr×Obj)) (s:Shared) (σ:St) (H:Hp) (D:wZ),aS X af σ H s->t D σ H->wpAny (model X.prog X.w) X.A (execs st X.env) (SP X af D) X.xe s
theorem dJ(h:wpAny M A t Q E s)(hQ:∀a s,Q a s->Q' a s):wpAny M A t Q' E s:=jn h hQ fun _ _ x=>x
section
variable {X:Cx}
def aY(i:Nat):TE:=fun σ H Q=>∃v,σ[i]?=some (some v)/\Q v H
def tC(v:V):TE:=fun _ H Q=>Q v H
theorem LK(hN:X.N[i]?=some x)(hv:OV X.env.scope x)(hd:(x==("__debug__":Str))=false:=by decide)(t7:(x==("__classdict__":Str))=false:=by decide):PE X (.Name x pos) (aY i):=by
 intro af s σ H Q I h;obtain⟨v,e,h⟩:=h;obtain⟨m,hn,hl⟩:=I.loc;obtain⟨u,r,l⟩:=hl i x v hN e hv;have d7:EP X af σ Q u s:=⟨v,H,I,r,h⟩
 rcases l with ⟨hk,hm⟩|⟨hk,c,hc,Bu⟩
 .exact oP (zu I.ok.kind hk hn hm d7) hd
 .rcases hk with hk|hk
  .exact oP (wpAny_loadName_cell I.ok.kind hk hc Bu d7) hd
  .exact oP (zA I.ok.kind hk hc Bu d7 t7) hd
theorem aB{i j pos}:PE X (.Constant (.int i) j pos) (tC (.int i)):=fun _ _ _ H _ I h=>wpAny_Constant_int ⟨.int i,H,I.tok _,⟨_,rfl⟩,h⟩
theorem mB{b j pos}:PE X (.Constant (.bool b) j pos) (tC (.bl b)):=fun _ _ _ H _ I h=>Constant_bool ⟨.bl b,H,I,rfl,h⟩
theorem eC{j pos}:PE X (.Constant .none j pos) (tC .cE):=fun _ _ _ H _ I h=>Constant_none ⟨.cE,H,I,rfl,h⟩
def Gl(X:Cx)(x:Str):Prop:=X.env.kindOf x=some .globalImplicit
theorem qw(I:aS X af σ H s)(hg:Gl X x)(hm:X.mg x=some u)(h:Q u s)(hd:(x==("__debug__":Str))=false:=by decide):wpAny (model X.prog X.w) X.A (eval (.Name x pos) X.env) Q E s:=
 Calls.Name_function_global I.ok.kind hg (Calls.loadGlobal_global (by rw[I.ok.glob];exact I.mod.glob.keeps I.bk) hm h) hd
theorem iW(I:aS X af σ H s)(hg:Gl X x)(hm:X.mg x=none)(hv:bootBuiltins x=some u)(h:Q u s)(hn:x≠"__name__":=by decide)(hd:(x==("__debug__":Str))=false:=by decide):wpAny (model X.prog X.w) X.A (eval (.Name x pos) X.env) Q E s:=by
 obtain⟨mb,h1,h2⟩:=I.mod.blt;exact Calls.Name_function_global I.ok.kind hg (Calls.loadGlobal_builtin (by rw[I.ok.glob];exact I.mod.glob.keeps I.bk) hm (by rw[I.ok.blt];exact h1.keeps I.bk) ((h2 x hn).trans hv) h) hd
theorem qx(hg:Gl X x)(hm:X.mg x=some u)(r:bR v u)(hd:(x==("__debug__":Str))=false:=by decide):PE X (.Name x pos) (tC v):=
 fun _ _ _ H _ I h=>qw I hg hm ⟨v,H,I,r,h⟩ hd
theorem jq(hg:Gl X x)(hm:X.mg x=none)(hv:bootBuiltins x=some u)(r:bR v u)(hn:x≠"__name__":=by decide)(hd:(x==("__debug__":Str))=false:=by decide):PE X (.Name x pos) (tC v):=
 fun _ _ _ H _ I h=>iW I hg hm hv ⟨v,H,I,r,h⟩ hn hd
variable {a b:Expr} {ta tb:TE} {pos:Pos}
def PC(X:Cx)(op:CmpOp)(a b:Expr)(t:TE):Prop:=
 ∀ (af:List (Addr×Obj)) (s:Shared) (σ:St) (H:Hp) (Q:VK),aS X af σ H s->t σ H Q->
  wpAny (model X.prog X.w) X.A (eval a X.env) (fun v s₁=>wpAny (model X.prog X.w) X.A (eval b X.env) (fun u s₂=>wpAny (model X.prog X.w) X.A (compareOp op v u) (EP X af σ Q) X.xe s₂) X.xe s₁) X.xe s
def tB(t:TE):TT:=fun σ H Q=>t σ H fun x H1=>∃c,x=.bl c/\Q c H1
theorem LL(h:PC X op a b t)(h1:behindInMarks op b=false:=by first|exact PX _ (by decide) (by decide)|rfl):PT X (.Compare a [op] [b] pos) (tB t):=by
 intro af s σ H Q I hw;refine wpAny_isTrue_Compare1 (dJ (h af s σ H _ I hw) fun v s1 h1=>dJ h1 fun u s2 h2=>dJ h2 fun c s3 ⟨x,H1,I1,r1,q1⟩=>?_) h1;obtain⟨d,rfl,q⟩:=q1;cases r1;exact ow ⟨H1,I1,q⟩
theorem gZ(h:PE X e t)(he:∀Bt,isTrue e X.env Bt=(do let v <- Bt;standAt e.pos;holding [v] (truthy v)):=by intro _;rfl):PT X e (tB t):=by
 intro af s σ H Q I hw;refine isTrue_plain (dJ (h af s σ H _ I hw) fun v s1 ⟨x,H1,I1,r1,q1⟩=>?_) (he _);obtain⟨d,rfl,q⟩:=q1;cases r1;exact ow ⟨H1,I1,q⟩
variable {tA T8:TT} {qb:List Expr}
def Vb(t u:TT):TT:=fun σ H Q=>t σ H fun c H1=>if c=true then u σ H1 Q else Q false H1
def tOr(t u:TT):TT:=fun σ H Q=>t σ H fun c H1=>if c=true then Q true H1 else u σ H1 Q
def Vc(t:TT):TT:=fun σ H Q=>t σ H fun c H1=>Q (!c) H1
theorem iN(ha:PT X a tA):PW X (.BoolOp .And [a] pos) tA:=by
 intro wh af s σ H Q I h;refine isTrue_and (dJ (ha af s σ H Q I h) fun c s1 e=>?_);cases c with
 |true=>exact isTrue_and_nil e
 |false=>exact e
theorem lY(ha:PT X a tA):PW X (.BoolOp .Or [a] pos) tA:=by
 intro wh af s σ H Q I h;refine isTrue_or (dJ (ha af s σ H Q I h) fun c s1 e=>?_);cases c with
 |false=>exact isTrue_or_nil e
 |true=>exact e
theorem ku(ha:PT X a tA)(hb:PW X (.BoolOp .And (b::qb) pos) T8):PW X (.BoolOp .And (a::b::qb) pos) (Vb tA T8):=by
 intro wh af s σ H Q I h;refine isTrue_and (dJ (ha af s σ H _ I h) fun c s1 ⟨H1,I1,q1⟩=>?_);cases c with
 |true=>exact hb wh af s1 σ H1 Q I1 q1
 |false=>exact⟨H1,I1,q1⟩
theorem pN(ha:PT X a tA)(hb:PW X (.BoolOp .Or (b::qb) pos) T8):PW X (.BoolOp .Or (a::b::qb) pos) (tOr tA T8):=by
 intro wh af s σ H Q I h;refine isTrue_or (dJ (ha af s σ H _ I h) fun c s1 ⟨H1,I1,q1⟩=>?_);cases c with
 |true=>exact⟨H1,I1,q1⟩
 |false=>exact hb wh af s1 σ H1 Q I1 q1
theorem jr(ha:PT X a tA):PT X (.UnaryOp .Not a pos) (Vc tA):=by
 intro af s σ H Q I h;exact isTrue_not (ha af s σ H (fun c H1=>Q (!c) H1) I h)
def PY(ta tb:TE):TE:=fun σ H Q=>ta σ H fun x H1=>∃c,x=.bl c/\if c=true then tb σ H1 Q else Q (.bl false) H1
def PZ(ta:TE):TE:=fun σ H Q=>ta σ H fun x H1=>∃c,x=.bl c/\Q (.bl (!c)) H1
theorem rB{op}(h:PE X a t):PE X (.BoolOp op [a] pos) t:=fun af s σ H Q I hw=>BoolOp_one (h af s σ H Q I hw)
theorem oU(ha:PE X a ta)(hb:PE X (.BoolOp .And (b::qb) pos) tb):PE X (.BoolOp .And (a::b::qb) pos) (PY ta tb):=by
 intro af s σ H Q I h;refine BoolOp_and (dJ (ha af s σ H _ I h) fun v s1 ⟨x,H1,I1,r1,q1⟩=>?_);obtain⟨c,rfl,q1⟩:=q1;cases r1;refine ow ?_;cases c with
 |true=>exact hb af s1 σ H1 Q I1 q1
 |false=>exact⟨.bl false,H1,I1,rfl,q1⟩
theorem LM(ha:PE X a ta):PE X (.UnaryOp .Not a pos) (PZ ta):=by
 intro af s σ H Q I h;refine UnaryOp_ (dJ (ha af s σ H _ I h) fun v s1 ⟨x,H1,I1,r1,q1⟩=>?_);obtain⟨c,rfl,q1⟩:=q1;cases r1;exact not_of (ow ⟨.bl (!c),H1,I1,rfl,q1⟩)
def Zy(t:TT)(ta tb:TE):TE:=fun σ H Q=>t σ H fun c H1=>if c=true then ta σ H1 Q else tb σ H1 Q
theorem w5(hc:PT X c tA)(ha:PE X a ta)(hb:PE X b tb):PE X (.IfExp c a b pos) (Zy tA ta tb):=by
 intro af s σ H Q I h;refine wpAny_IfExp (dJ (hc af s σ H _ I h) fun d s1 ⟨H1,I1,q1⟩=>?_);cases d with
 |true=>exact ha af s1 σ H1 Q I1 q1
 |false=>exact hb af s1 σ H1 Q I1 q1
end
def a9(K:PySem.W.Frag)(H:Hp)(a:Addr)(xs:List V):Prop:=
 Rd H a (.lst xs)\/
  ∃ (o:Obj) (its:Array Value) (n:Nat),K.lookup a=some o/\o.cls=.type "list"/\o.dict=none/\o.data=.seq its n/\its.size<=sizeLine/\a8 xs its.toList
def bU(K:PySem.W.Frag)(H:Hp)(a:Addr)(xs:List V):Prop:=
 Rd H a (.tup xs)\/
  ∃ (o:Obj) (its:Array Value) (n:Nat),K.lookup a=some o/\o.cls=.type "tuple"/\o.data=.seq its n/\its.size<=sizeLine/\a8 xs its.toList
def Vd:Value->Option V
 |.none=>some .cE
 |.bool b=>some (.bl b)
 |.int i _=>some (.int i)
 |.str x _=>some (.str x)
 |.bytes b _=>some (.Eh b)
 |.float b _=>some (.LG b)
 |.ref a=>some (.ref a)
 |.type n=>some (.ty n)
 |_=>none
theorem bR.abs(r:bR x u):Vd u=some x:=by
 cases x with
 |cE=>cases r;rfl
 |bl _=>cases r;rfl
 |int _=>obtain⟨t,rfl⟩:=r;rfl
 |str _=>obtain⟨t,rfl⟩:=r;rfl
 |Eh _=>obtain⟨t,rfl⟩:=r;rfl
 |LG _=>obtain⟨t,rfl⟩:=r;rfl
 |ref _=>cases r;rfl
 |ty _=>cases r;rfl
theorem bR.inj(r:bR x u)(q:bR y u):x=y:=bN (r.abs.symm.trans q.abs)
theorem a8.inj:∀ {xs ys:List V} {us:List Value},a8 xs us->a8 ys us->xs=ys
 |_,_,_,.nil,.nil=>rfl
 |_,_,_,.cons r t,.cons r' t'=>by rw[r.inj r',a8.inj t t']
section
variable {X:Cx} {af:List (Addr×Obj)} {σ:St} {H:Hp} {s:Shared} {a:Addr} {xs ys:List V}
theorem a9.of{K:PySem.W.Frag}(h:H a=some (.lst xs)):a9 K H a xs:=.inl (.inl h)
theorem bU.of{K:PySem.W.Frag}(h:H a=some (.tup xs)):bU K H a xs:=.inl (.inl h)
theorem aS.list(I:aS X af σ H s)(h:a9 X.K H a xs):∃its:List Value,a8 xs its/\PlainL s.heap a its.toArray/\xs.length<=sizeLine:=by
 rcases h with h|⟨o,its,n,hk,hc,hd,hs,hz,r⟩
 .obtain⟨z,its,n,r,e⟩:=h.ok I.cz;exact⟨its,r,⟨_,n,e,rfl,rfl,rfl⟩,z⟩
 .refine⟨its.toList,r,⟨o,n,I.my a o hk,hc,hd,by simpa using hs⟩,?_⟩;have e:=r.length;simp only[lu] at e;lia
theorem aS.tuple(I:aS X af σ H s)(h:bU X.K H a xs):∃its:List Value,a8 xs its/\IsTup s.heap a its.toArray/\xs.length<=sizeLine:=by
 rcases h with h|⟨o,its,n,hk,hc,hs,hz,r⟩
 .obtain⟨z,its,r,p⟩:=h.ok I.cz;exact⟨its,r,p.tup,z⟩
 .refine⟨its.toList,r,⟨o,I.my a o hk,hc,n,by simpa using hs⟩,?_⟩;have e:=r.length;simp only[lu] at e;lia
theorem aS.EQ(I:aS X af σ H s)(h:a9 X.K H a xs)(h':a9 X.K H a ys):xs=ys:=by
 obtain⟨its,r,⟨o,n,e,_,_,d⟩,_⟩:=I.list h;obtain⟨its',r',⟨o',n',e',_,_,d'⟩,_⟩:=I.list h';rw[e] at e';cases e';rw[d] at d';injection d' with d1 _;have:its=its':=by simpa using congrArg Array.toList d1
 subst this;exact r.inj r'
theorem aS.gy(I:aS X af σ H s)(h:bU X.K H a xs)(h':bU X.K H a ys):xs=ys:=by
 obtain⟨its,r,⟨o,e,_,n,d⟩,_⟩:=I.tuple h;obtain⟨its',r',⟨o',e',_,n',d'⟩,_⟩:=I.tuple h';rw[e] at e';cases e';rw[d] at d';injection d' with d1 _;have:its=its':=by simpa using congrArg Array.toList d1
 subst this;exact r.inj r'
end
abbrev Cx.sW(X:Cx)(E:Value->Shared->Prop):Cx:={ X with xe:=E }
abbrev Cx.yE(X:Cx):Cx:=X.sW fun _ _=>False
theorem Cx.Ok.sW{X:Cx}(ok:X.Ok)(E:Value->Shared->Prop):(X.sW E).Ok:=
 ⟨ok.mod,ok.kind,ok.glob,ok.blt,ok.above,ok.inj,ok.has,ok.PP,ok.hd,ok.frames,ok.OX,ok.U5,ok.bs,ok.EM,ok.EN,ok.HY,ok.qa,ok.LI⟩
theorem Cx.Ok.ky{X:Cx}{E:Value->Shared->Prop}(ok:(X.sW E).Ok):X.Ok:=
 ⟨ok.mod,ok.kind,ok.glob,ok.blt,ok.above,ok.inj,ok.has,ok.PP,ok.hd,ok.frames,ok.OX,ok.U5,ok.bs,ok.EM,ok.EN,ok.HY,ok.qa,ok.LI⟩
section
variable {X:Cx} {af:List (Addr×Obj)} {σ:St} {H:Hp} {s:Shared} {E:Value->Shared->Prop}
theorem aS.sW(I:aS X af σ H s)(E:Value->Shared->Prop):aS (X.sW E) af σ H s:=⟨I.ok.sW E,I.os,I.bare,I.base,I.loc,I.cell,I.free,I.km,I.pin,I.cz,I.len⟩
theorem aS.ky(I:aS (X.sW E) af σ H s):aS X af σ H s:=⟨I.ok.ky,I.os,I.bare,I.base,I.loc,I.cell,I.free,I.km,I.pin,I.cz,I.len⟩
theorem SP.ky(h:SP (X.sW E) af D f s'):SP X af D f s':=by
 cases f with
 |next=>obtain⟨σ',H',I,q⟩:=h;exact⟨σ',H',I.ky,q⟩
 |brk=>obtain⟨σ',H',I,q⟩:=h;exact⟨σ',H',I.ky,q⟩
 |cont=>obtain⟨σ',H',I,q⟩:=h;exact⟨σ',H',I.ky,q⟩
 |ret u=>obtain⟨v,σ',H',I,r,q⟩:=h;exact⟨v,σ',H',I.ky,r,q⟩
theorem zP.yE{st:List Stmt}{t:TS}(h:zP X.yE st t):zP X st t:=fun af s σ H D I hw=>
 jn (h af s σ H D (I.sW _) hw) (fun _ _ q=>q.ky) fun _ _ z=>False.elim z
end
section
variable {X:Cx} {st:Stmt} {qb:List Stmt} {t u:TS} {e:Expr} {te:TE} {pos:Pos}
def KM:TS:=fun D σ H=>D.nx σ H
def P0(t u:TS):TS:=fun D σ H=>t { D with nx:=u D } σ H
theorem bp:zP X [] KM:=fun _ _ σ H _ I h=>vp ⟨σ,H,I,h⟩
theorem aj(h1:PS X st t)(h2:zP X qb u):zP X (st::qb) (P0 t u):=by
 intro af s σ H D I h;refine wpAny_execs_cons (dJ (h1 af s σ H { D with nx:=u D } I h) fun f s1 q=>?_);cases f with
 |next=>
  obtain⟨σ',H',I',q⟩:=q;exact h2 af s1 σ' H' D I' q
 |ret v=>exact q
 |brk=>exact q
 |cont=>exact q
theorem ap(h1:PS X st t):zP X [st] t:=by
 intro af s σ H D I h;refine wpAny_execs_cons (dJ (h1 af s σ H D I h) fun f s1 q=>?_);cases f with
 |next=>exact vp q
 |ret v=>exact q
 |brk=>exact q
 |cont=>exact q
theorem aS.quiet(I:aS X af σ H s):interactive X.env=false:=by simp[interactive,I.ok.kind]
def P1(te:TE):TS:=fun D σ H=>te σ H fun _ H1=>D.nx σ H1
theorem cq(he:PE X e te)(hs:swapsWith e none pos.line X.env=pure false:=by rfl):PS X (.Expr e pos) (P1 te):=by
 intro af s σ H D I h;exact wpAny_Expr_any (dJ (he af s σ H _ I h) fun v s1 ⟨x,H1,I1,r1,q1⟩=>⟨σ,H1,I1,q1⟩) I.quiet hs
def P3(te:TE):TS:=fun D σ H=>te σ H D.rt
theorem be(he:PE X e te):PS X (.Return (some e) pos) (P3 te):=by
 intro af s σ H D I h;exact wpAny_Return_some (dJ (he af s σ H _ I h) fun v s1 ⟨x,H1,I1,r1,q1⟩=>⟨x,σ,H1,I1,r1,q1⟩)
def P4(c:TT)(t u:TS):TS:=fun D σ H=>c σ H fun b H1=>if b=true then t D σ H1 else u D σ H1
theorem cC(hc:PT X c tc)(ha:zP X a t)(hb:zP X b u):PS X (.If c a b pos) (P4 tc t u):=by
 intro af s σ H D I h;refine wpAny_If (dJ (hc af s σ H _ I h) fun d s1 ⟨H1,I1,q1⟩=>?_);cases d with
 |true=>exact ha af s1 σ H1 D I1 q1
 |false=>exact hb af s1 σ H1 D I1 q1
def LN:TS:=fun _ _ _=>False
theorem d8:zP X sts LN:=fun _ _ _ _ _ _ h=>h.elim
end
abbrev TG:=V->St->Hp->(St->Hp->Prop)->Prop
abbrev P5:=List V->St->Hp->(St->Hp->Prop)->Prop
def PG(X:Cx)(LP:Expr)(t:TG):Prop:=
 ∀ (af:List (Addr×Obj)) (s:Shared) (σ:St) (H:Hp) (v:V) (u:Value) (Q:St->Hp->Prop),aS X af σ H s->bR v u->t v σ H Q->
  wpAny (model X.prog X.w) X.A (assign LP X.env u) (fun _ s'=>∃σ' H',aS X af σ' H' s'/\Q σ' H') X.xe s
def T9(X:Cx)(ts:List Expr)(t:P5):Prop:=
 ∀ (af:List (Addr×Obj)) (s:Shared) (σ:St) (H:Hp) (vs:List V) (us:List Value) (Q:St->Hp->Prop),aS X af σ H s->a8 vs us->t vs σ H Q->
  wpAny (model X.prog X.w) X.A (assignInOrder ((assignEach ts X.env).map (·.2)) us) (fun _ s'=>∃σ' H',aS X af σ' H' s'/\Q σ' H') X.xe s
abbrev P6:=V->V->V->Hp->(Hp->Prop)->Prop
def P7(X:Cx)(t:P6):Prop:=
 ∀ (af:List (Addr×Obj)) (s:Shared) (σ:St) (H:Hp) (o i v:V) (ov iv u:Value) (Q:Hp->Prop),aS X af σ H s->bR o ov->bR i iv->bR v u->t o i v H Q->
  wpAny (model X.prog X.w) X.A (setItem ov iv u) (fun _ s'=>∃H',aS X af σ H' s'/\Q H') X.xe s
abbrev Ve:=V->V->Hp->VK->Prop
def Zz(X:Cx)(op:Operator)(t:Ve):Prop:=
 ∀ (af:List (Addr×Obj)) (s:Shared) (σ:St) (H:Hp) (x y:V) (v u:Value) (Q:VK),aS X af σ H s->bR x v->bR y u->t x y H Q->
  wpAny (model X.prog X.w) X.A (inplaceOp op v u) (EP X af σ Q) X.xe s
section
variable {X:Cx} {pos:Pos}
def bD(i:Nat):TG:=fun v σ H Q=>Q (σ.set i (some v)) H
theorem az(hN:X.N.Nodup)(hi:X.N[i]?=some x)(hx:PM X.env.scope x)(hf:X.fn x=true\/X.env.scope.names.lookup x=some .local:=by first|exact .inl rfl|exact .inr rfl|assumption):PG X (.Name x pos) (bD i):=by
 intro af s σ H v u Q I r h;exact wpAny_assign_Name (kr I hN hi hx r (fun s' I'=>⟨_,H,I',h⟩) hf)
def sX:P5:=fun vs σ H Q=>vs=[]/\Q σ H
def fV(t:TG)(u:P5):P5:=fun vs σ H Q=>∃v r,vs=v::r/\t v σ H fun σ' H'=>u r σ' H' Q
theorem cr:T9 X [] sX:=by
 intro af s σ H vs us Q I r h;obtain⟨e,h⟩:=h;subst e;cases r;exact assignInOrder_nil ⟨σ,H,I,h⟩
theorem aG(h1:PG X e t)(h2:T9 X es u)(hs:(assignEach (e::es) X.env).map (·.2)=assign e X.env::(assignEach es X.env).map (·.2):=by rfl):T9 X (e::es) (fV t u):=by
 intro af s σ H vs us Q I r h;obtain⟨v,vr,e1,h⟩:=h;subst e1;cases r with
 |cons r rr=>
  rw[hs];refine assignInOrder_cons (dJ (h1 af s σ H _ _ _ I r h) fun _ s1 ⟨σ1,H1,I1,q1⟩=>?_);exact h2 af s1 σ1 H1 _ _ Q I1 rr q1
def sY(K:PySem.W.Frag)(n:Nat)(t:P5):TG:=fun v σ H Q=>∃a xs,v=.ref a/\bU K H a xs/\xs.length=n/\t xs σ H Q
theorem dC(hc:X.calm=true)(h:T9 X es t)(hn:(assignEach es X.env).length=n:=by rfl)(nG:(assignEach es X.env).findIdx? (·.1)=none:=by rfl):PG X (.Tuple es k pos) (sY X.K n t):=by
 intro af s σ H v u Q I r hw;obtain⟨a,xs,e1,hq,hl,hw⟩:=hw;subst e1;cases r;obtain⟨its,rv,ht,hz⟩:=I.tuple hq;refine assign_Tuple_tuple (I.ok.hd hc) ht (by simp[hn,<-hl,rv.length]) nG fun h' hx=>?_;have I1:aS X af σ H { s with heap:=h' }:=I.kept (t':=s.toks) fun b o e=>hx b o (aW (aT e)) e;exact h af _ σ H xs _ Q I1 (by simpa using rv) hw
def Vf(to ti:TE)(t:P6):TG:=fun v σ H Q=>to σ H fun o H1=>ti σ H1 fun i H2=>t o i v H2 fun H3=>Q σ H3
theorem gC(ho:PE X o to)(hi:PE X i ti)(hs:P7 X t)(ha:∀v,assign (.Subscript o i pos) X.env v=(do
   let ov <- holding [v] (eval o X.env)
   let iv <- holding [v,ov] (eval i X.env)
   standAt pos
   holding [v,ov,iv] (setItem ov iv v)
   release [v,ov,iv] []):=by intro _;rfl):PG X (.Subscript o i pos) (Vf to ti t):=by
 intro af s σ H v u Q I r h;rw[ha];refine aA (hJ (dJ (ho af s σ H _ I h) fun ov s1 ⟨x,H1,I1,r1,q1⟩=>?_));refine aA (hJ (dJ (hi af s1 σ H1 _ I1 q1) fun iv s2 ⟨y,H2,I2,r2,q2⟩=>?_));refine aA (oH (aA (hJ (dJ (hs af s2 σ H2 x y v ov iv u _ I2 r1 r2 r q2) fun _ s3 ⟨H3,I3,q3⟩=>?_))));exact wpAny_release ⟨σ,H3,I3,q3⟩
def LQ(te:TE)(g:TG):TS:=fun D σ H=>te σ H fun x H1=>g x σ H1 D.nx
theorem dL(he:PE X e te)(hg:PG X tg g)(hs:swapsWithSole [tg] e pos.line X.env=pure false:=by rfl)(hw:swappedStores [tg] e X.env=pure none:=by rfl)(h1:(assignEach [tg] X.env).map (·.2)=[assign tg X.env]:=by rfl):PS X (.Assign [tg] e pos) (LQ te g):=by
 intro af s σ H D I h;refine wpAny_Assign_stores (dJ (he af s σ H _ I h) fun v s1 ⟨x,H1,I1,r1,q1⟩=>?_) hs hw;rw[h1];exact dJ (hg af s1 σ H1 x v _ I1 r1 q1) fun _ s2 q=>q
theorem aV(hN:X.N.Nodup)(hi:X.N[i]?=some x)(hx:PM X.env.scope x)(he:PE X e te)(hs:swapsWith e (some (.Name x C6)) pos.line X.env=pure false:=by rfl)(hf:X.fn x=true\/X.env.scope.names.lookup x=some .local:=by first|exact .inl rfl|exact .inr rfl|assumption):
  PS X (.Assign [.Name x C6] e pos) (LQ te (bD i)):=by
 intro af s σ H D I h;refine wpAny_Assign_Name (dJ (he af s σ H _ I h) fun v s1 ⟨y,H1,I1,r1,q1⟩=>?_) hs;exact kr I1 hN hi hx r1 (fun s2 I2=>⟨_,H1,I2,q1⟩) hf
def Vg(i j:Nat)(ta:TA):TS:=fun D σ H=>ta σ H fun vs H1=>∃v w,vs=[v,w]/\D.nx ((σ.set i (some v)).set j (some w)) H1
theorem zQ{kt k2 HI}(hc:X.calm=true)(hN:X.N.Nodup)(hi:X.N[i]?=some x)(hj:X.N[j]?=some y)(hij:i≠j)(hx:X.env.scope.names.lookup x=some .local)(hy:X.env.scope.names.lookup y=some .local)(ha:PA X [a,b] ta)(hw:swappedStores [.Tuple [.Name x px,.Name y py] kt pt] (.Tuple [a,b] k2 HI) X.env=pure (some [x,y]))(hs:swapsWithSole [.Tuple [.Name x px,.Name y py] kt pt] (.Tuple [a,b] k2 HI) pos.line X.env=pure false:=by rfl):
  PS X (.Assign [.Tuple [.Name x px,.Name y py] kt pt] (.Tuple [a,b] k2 HI) pos) (Vg i j ta):=by
 intro af s σ H D I h;rw[exec_Assign_arm];refine aA (oH ?_);rw[hs];refine aA (wpAny_pure ?_);rw[av (by decide)];refine aA (Tuple_ (dJ (ha _ af s σ H _ I h) fun us s1 ⟨vs,H1,I1,r1,q1⟩=>?_));obtain⟨v,w,e1,q1⟩:=q1;subst e1;obtain⟨u1,u2,rfl,rv,vF⟩:∃u1 u2,us=[u1,u2]/\bR v u1/\bR w u2:=by
  cases r1 with
  |cons p q=>
   cases q with
   |cons p' q'=>
    cases q';exact⟨_,_,rfl,p,p'⟩
 refine vi ?_ (by show 2<=sizeLine;decide);have I2:aS X af σ H1 { s1 with heap:=s1.heap.push { cls:=.type "tuple",data:=.seq [u1,u2].toArray } }:=I1.kept (t':=s1.toks) fun b o e=>bL _ e;rw[hw];refine aA (wpAny_pure ?_);show wpAny (model X.prog X.w) X.A (do rule "assign.swapped-stores";let items <- unpackItems (.ref s1.heap.objs.size) 2 none;assignInOrder [fun v=>bindName X.env y v,fun v=>bindName X.env x v] items.reverse;pure Flow.next) _ _ _;refine aA (fU (aA (unpackItems_tuple (items:=#[u1,u2]) (I.ok.hd hc) (IsTup.new s1.heap _) fun h' vG=>?_)));have I3:=I2.kept (h':=h') (t':=s1.toks) fun b o e=>vG b o (aW (aT e)) e;show wpAny _ _ (assignInOrder [fun v=>bindName X.env y v,fun v=>bindName X.env x v] [u2,u1] >>= fun _=>pure Flow.next) _ _ _;refine aA (assignInOrder_cons (wpAny_bindName (kr I3 hN hj (.inl hy) vF (fun s2 I4=>?_) (.inr hy))));refine assignInOrder_cons (wpAny_bindName (kr I4 hN hi (.inl hx) rv (fun s3 I5=>assignInOrder_nil (wpAny_pure ?_)) (.inr hx)));rw[List.set_comm _ _ (dA hij)] at I5;exact⟨_,H1,I5,q1⟩
def Vh(i:Nat)(te:TE)(ti:Ve):TS:=fun D σ H=>∃x,σ[i]?=some (some x)/\te σ H fun y H1=>ti x y H1 fun z H2=>D.nx (σ.set i (some z)) H2
theorem LR(hN:X.N.Nodup)(hi:X.N[i]?=some x)(hx:PM X.env.scope x)(he:PE X e te)(ho:Zz X op ti)(hf:X.fn x=true\/X.env.scope.names.lookup x=some .local:=by first|exact .inl rfl|exact .inr rfl|assumption):
  PS X (.AugAssign (.Name x C6) op e pos) (Vh i te ti):=by
 intro af s σ H D I h;obtain⟨v,e1,h⟩:=h;obtain⟨m,hn,hl⟩:=I.loc;have P8:OV X.env.scope x:=by rcases hx with k|k;exact .inl k;exact .inr (.inl k)
 obtain⟨u,r,l⟩:=hl i x v hi e1 P8;refine wpAny_AugAssign_Name ?_;have go:wpAny (model X.prog X.w) X.A (eval e X.env) (fun w s₂=>wpAny (model X.prog X.w) X.A (inplaceOp op u w) (fun r s₃=>wpAny (model X.prog X.w) X.A (storeName X.env x r) (fun _=>SP X af D .next) X.xe s₃) X.xe s₂) X.xe s:=by
  refine dJ (he af s σ H _ I h) fun w s1 ⟨y,H1,I1,r1,q1⟩=>?_;refine dJ (ho af s1 σ H1 v y u w _ I1 r r1 q1) fun z s2 ⟨zv,H2,I2,r2,q2⟩=>?_;exact kr I2 hN hi hx r2 (fun s3 I3=>⟨_,H2,I3,q2⟩) hf
 rcases l with ⟨hk,hm⟩|⟨hk,c,hc,Bu⟩
 .exact zu I.ok.kind hk hn hm go
 .rcases hk with hk|hk
  .exact wpAny_loadName_cell I.ok.kind hk hc Bu go
  .rcases hx with k|k
   .have:X.env.scope.names.lookup x=some .free:=hk;rw[k] at this;cases this
   .have:X.env.scope.names.lookup x=some .free:=hk;rw[k] at this;cases this
def ipI(f:Int->Int->Int):Ve:=fun x y H Q=>∃i j,x=.int i/\y=.int j/\Q (.int (f i j)) H
theorem LU:Zz X .Add (ipI fun i j=>i+j):=by
 intro af s σ H x y v u Q I r1 r2 h;obtain⟨i,j,e1,e2,q⟩:=h;subst e1;subst e2;obtain⟨t,rfl⟩:=r1;obtain⟨t',rfl⟩:=r2;exact iadd_int ⟨.int _,H,I.tok _,⟨_,rfl⟩,q⟩
def ER(c:TT)(tb:TS):TS:=fun D σ H=>∃W:Nat->St->Hp->Prop,(∃m,W m σ H)/\∀m σ H,W m σ H->
 c σ H fun b H1=>if b=true then ∃N:St->Hp->Prop,(∀σ' H',N σ' H'->∃m',m'<m/\W m' σ' H')/\tb { D with nx:=N,ct:=N,bk:=D.nx } σ H1 else D.nx σ H1
theorem w9(hp:PassesOwn (model X.prog X.w) X.A X.env X.xe)(hc:PT X c tc)(hb:zP X body tb):PS X (.While c body [] pos) (ER tc tb):=by
 intro af s σ H D I h;obtain⟨W,⟨m0,w0⟩,ES⟩:=h;refine wpAny_While (codeAny_whileLoop (fun n s'=>∃σ' H',aS X af σ' H' s'/\W n σ' H') ?_ m0 ⟨σ,H,I,w0⟩);rintro n s1 ⟨σ1,H1,I1,w1⟩;refine lS hp (dJ (hc af s1 σ1 H1 _ I1 (ES n σ1 H1 w1)) fun b s2 ⟨H2,I2,q2⟩=>?_);cases b with
 |true=>
  obtain⟨N,hN,q2⟩:=q2;rw[ak rfl];refine lS hp (dJ (hb af s2 σ1 H2 _ I2 q2) fun f s3 q3=>?_);cases f with
  |next=>
   obtain⟨σ3,H3,I3,n3⟩:=q3;obtain⟨m',hm,w3⟩:=hN σ3 H3 n3;exact⟨m',hm,σ3,H3,I3,w3⟩
  |cont=>
   obtain⟨σ3,H3,I3,n3⟩:=q3;obtain⟨m',hm,w3⟩:=hN σ3 H3 n3;exact⟨m',hm,σ3,H3,I3,w3⟩
  |brk=>exact q3
  |ret v=>exact q3
 |false=>
  rw[av cG];exact vp ⟨σ1,H2,I2,q2⟩
end
structure It where
 go:Nat->Hp->Prop
 LV:Nat->Hp->V->Hp->Prop
 stop:Nat->Hp->Prop
def gf(X:Cx)(af:List (Addr×Obj))(H:Hp)(b:Addr):Prop:=
 H b=none/\b≠X.env.locals/\b∉X.fs/\(b∈X.ex\/X.s₀.heap.objs.size<=b)/\(∀x c,X.env.cells.lookup x=some c->c≠b)/\∀p∈X.pn++af,p.1≠b
theorem aS.w_(I:aS X af σ H s)(hb:s.heap.objs.size<=b)(hn:H' b=none):gf X af H' b:=by
 refine⟨hn,fA (br I.lt hb),I.U7 hb,.inr (ba I.sz hb),fun x c e z=>?_,fun p hp z=>?_⟩
 .obtain⟨v,q⟩:=I.cell x c e;exact absurd (br q.lt (by rw[z];exact hb)) (ip _)
 .exact absurd (br (aT (I.pin p hp).1) (by rw[z];exact hb)) (ip _)
structure xa(P:Program)(w:World)(K:PySem.W.Frag)(tg:Expr)(J:It)(fp:List Addr)(it:Addr)(tn:Nat->Heap->Prop):Prop where
 mem:it∈fp
 obj:∀i h,tn i h->∀b∈fp,∃o,h.get? b=some o/\∀v,o.data≠.cell v
 keep:∀i h h',tn i h->(∀b∈fp,∀o,h.get? b=some o->h'.get? b=some o)->tn i h'
 item:∀ (X:Cx),X.prog=P->X.w=w->X.K=K->X.calm=true->∀ (i:Nat) (af:List (Addr×Obj)) (s:Shared) (σ:St) (H:Hp) (E:Value->Shared->Prop),aS X af σ H s->(∀b∈fp,gf X af H b)->tn i s.heap->J.go i H->
  wpAny (model P w) X.A (pyNext (.ref it)) (fun r s1=>∃u,r=some u/\
   wpAny (model P w) X.A (letOwnedTupleGo tg (.ref it) u) (fun _ s2=>∃x H',aS X af σ H' s2/\bR x u/\J.LV i H x H'/\tn (i+1) s2.heap/\∀b∈fp,H' b=none) E s1) E s
 done:∀ (X:Cx),X.prog=P->X.w=w->X.K=K->X.calm=true->∀ (i:Nat) (af:List (Addr×Obj)) (s:Shared) (σ:St) (H:Hp) (E:Value->Shared->Prop),aS X af σ H s->(∀b∈fp,gf X af H b)->tn i s.heap->J.stop i H->
  wpAny (model P w) X.A (pyNext (.ref it)) (fun r s1=>r=none/\aS X af σ H s1) E s
 self:∀ (A:Around) (i:Nat) (s:Shared) (Q:Value->Shared->Prop) (E:Value->Shared->Prop),tn i s.heap->Q (.ref it) s->wpAny (model P w) A (pyIter (.ref it)) Q E s
abbrev TI:=St->Hp->(It->Hp->Prop)->Prop
def ZA(X:Cx)(af:List (Addr×Obj))(σ:St)(tg:Expr)(R:It->Hp->Prop)(T_:Value)(s2:Shared):Prop:=
 ∃ (it:Addr) (fp:List Addr) (tn:Nat->Heap->Prop) (J:It) (H':Hp),T_=.ref it/\aS X af σ H' s2/\xa X.prog X.w X.K tg J fp it tn/\tn 0 s2.heap/\(∀b∈fp,gf X af H' b)/\R J H'
def PI(X:Cx)(tg jM:Expr)(wi:TI):Prop:=
 ∀ (af:List (Addr×Obj)) (s:Shared) (σ:St) (H:Hp) (R:It->Hp->Prop),aS X af σ H s->wi σ H R->
  wpAny (model X.prog X.w) X.A (eval jM X.env) (fun v s1=>wpAny (model X.prog X.w) X.A (pyIter v) (ZA X af σ tg R) X.xe s1) X.xe s
theorem ET(ho:s.heap.get? it=some o)(hc:o.cls=.type n)(hd:o.data=.fields vs)(hn:["enumerate","zip","dict_itemiterator","dict_reverseitemiterator","odict_iterator","itertools.zip_longest","itertools.pairwise"].contains n=false)(hQ:Q () s):wpAny M A (letOwnedTupleGo tg (.ref it) u) Q E s:=by
 unfold letOwnedTupleGo;cases tg <;> first
  |exact wpAny_pure hQ
  |(cases u <;> first
    |exact wpAny_pure hQ
    |(refine aA (wpAny_load ho ?_);rw[hc,hd];show wpAny M A (if (["enumerate","zip","dict_itemiterator","dict_reverseitemiterator","odict_iterator","itertools.zip_longest","itertools.pairwise"].contains n&&vs[0]?==some (rawInt _))=true then _ else _) Q E s;rw[av (by intro h;rw[hn,Bool.false_and] at h;cases h)];exact wpAny_pure hQ))
def Ej(K:PySem.W.Frag)(a:Addr):It:=
 ⟨fun i H=>∃xs x,a9 K H a xs/\xs[i]?=some x,fun i H x H'=>H'=H/\∀xs,a9 K H a xs->xs[i]?=some x,fun i H=>∃xs,a9 K H a xs/\xs.length<=i⟩
def Vi(K:PySem.W.Frag)(a:Addr):It:=
 ⟨fun i H=>∃xs x,bU K H a xs/\xs[i]?=some x,fun i H x H'=>H'=H/\∀xs,bU K H a xs->xs[i]?=some x,fun i H=>∃xs,bU K H a xs/\xs.length<=i⟩
def Ek(lo:Int)(n:Nat):It:=⟨fun i _=>i<n,fun i H x H'=>H'=H/\x=.int (lo+i),fun i _=>n<=i⟩
theorem C7{P:Program}{w:World}{K:PySem.W.Frag}{tg:Expr}(a it:Addr):xa P w K tg (Ej K a) [it] it (fun i h=>h.IsListIter it a i) where
 mem:=by simp
 obj:=fun i h st b hb=>by
  have e:b=it:=by simpa using hb
  subst e;obtain⟨o,e,c,d⟩:=st;exact⟨o,e,fun v z=>by rw[d] at z;cases z⟩
 keep:=fun i h h' st k=>st.at fun o e=>k it (by simp) o e
 item:=by
  intro X hP hw hK hc i af s σ H E I hf st hg;subst hP hw hK;obtain⟨xs,x,hq,hx⟩:=hg;obtain⟨its,rv,p,hz⟩:=I.list hq;obtain⟨u,hu,ru⟩:=rv.get hx;obtain⟨f0,f1,f2,f3,f4,f5⟩:=hf it (by simp);refine zf st p.isList (x:=u) (by simpa using hu) fun h' aZ sb=>?_;have I1:aS X af σ H { s with heap:=h' }:=I.turned (t':=s.toks) (fun b o hb e=>(sb.2 b hb).trans e) f0 f1 f3 f4 f5;obtain⟨o,e,c,d⟩:=id aZ;exact⟨u,rfl,ET (s:={ s with heap:=h' }) e c d (by decide) ⟨x,H,I1,ru,⟨rfl,fun ys hy=>by rw[I.EQ hy hq];exact hx⟩,aZ,fun b hb=>(hf b hb).1⟩⟩
 done:=by
  intro X hP hw hK hc i af s σ H E I hf st hg;subst hP hw hK;obtain⟨xs,hq,hx⟩:=hg;obtain⟨its,rv,p,hz⟩:=I.list hq;obtain⟨f0,f1,f2,f3,f4,f5⟩:=hf it (by simp);have hl:=rv.length;exact zm (I.ok.hd hc) st p.isList (by simp;lia) fun h' eb=>⟨rfl,I.turned (t':=s.toks) (fun b o hb e=>eb b o hb e) f0 f1 f3 f4 f5⟩
 self:=fun _ _ _ _ _ st h=>wpAny_pyIter_listiter st h
theorem zR{P:Program}{w:World}{K:PySem.W.Frag}{tg:Expr}(a it:Addr):xa P w K tg (Vi K a) [it] it (fun i h=>h.IsTupleIter it a i) where
 mem:=by simp
 obj:=fun i h st b hb=>by
  have e:b=it:=by simpa using hb
  subst e;obtain⟨o,e,c,d⟩:=st;exact⟨o,e,fun v z=>by rw[d] at z;cases z⟩
 keep:=fun i h h' st k=>st.at fun o e=>k it (by simp) o e
 item:=by
  intro X hP hw hK hc i af s σ H E I hf st hg;subst hP hw hK;obtain⟨xs,x,hq,hx⟩:=hg;obtain⟨its,rv,p,hz⟩:=I.tuple hq;obtain⟨u,hu,ru⟩:=rv.get hx;obtain⟨f0,f1,f2,f3,f4,f5⟩:=hf it (by simp);refine wpAny_pyNext_tuple_item st (show s.heap.IsTuple a its.toArray from p) (x:=u) (by simpa using hu) fun h' aZ sb=>?_;have I1:aS X af σ H { s with heap:=h' }:=I.turned (t':=s.toks) (fun b o hb e=>(sb.2 b hb).trans e) f0 f1 f3 f4 f5;obtain⟨o,e,c,d⟩:=id aZ;exact⟨u,rfl,ET (s:={ s with heap:=h' }) e c d (by decide) ⟨x,H,I1,ru,⟨rfl,fun ys hy=>by rw[I.gy hy hq];exact hx⟩,aZ,fun b hb=>(hf b hb).1⟩⟩
 done:=by
  intro X hP hw hK hc i af s σ H E I hf st hg;subst hP hw hK;obtain⟨xs,hq,hx⟩:=hg;obtain⟨its,rv,p,hz⟩:=I.tuple hq;obtain⟨f0,f1,f2,f3,f4,f5⟩:=hf it (by simp);have hl:=rv.length;exact wpAny_pyNext_tuple_end (I.ok.hd hc) st (show s.heap.IsTuple a its.toArray from p) (by simp;lia) fun h' eb=>⟨rfl,I.turned (t':=s.toks) (fun b o hb e=>eb b o hb e) f0 f1 f3 f4 f5⟩
 self:=fun _ _ _ _ _ st h=>wpAny_pyIter_tupleiter st h
theorem zS{P:Program}{w:World}{K:PySem.W.Frag}{tg:Expr}(it:Addr)(lo:Int)(n:Nat):xa P w K tg (Ek lo n) [it] it (fun i h=>IsRangeIter h it (lo+(i:Nat)*1) ((n:Int)-(i:Nat)) 1) where
 mem:=by simp
 obj:=fun i h st b hb=>by
  have e:b=it:=by simpa using hb
  subst e;exact⟨_,st,fun v z=>by
   have z':Data.fields _=Data.cell v:=z;cases z'⟩
 keep:=fun i h h' st k=>k it (by simp) _ st
 item:=by
  intro X hP hw hK hc i af s σ H E I hf st hg;subst hP hw hK;obtain⟨f0,f1,f2,f3,f4,f5⟩:=hf it (by simp);have W:=Walks.range (prog:=X.prog) (w:=X.w) (I.ok.hd hc) it lo 1 n;refine W.item i s _ _ hg st fun v h' tk hv aZ kk=>?_;obtain⟨t,rfl⟩:=hv;have I1:aS X af σ H { s with heap:=h',toks:=tk }:=I.turned (fun b o hb e=>kk b o (by simpa using hb) e) f0 f1 f3 f4 f5;refine⟨_,rfl,ET (s:={ s with heap:=h',toks:=tk }) (n:="range_iterator") aZ rfl rfl (by decide) ⟨.int (lo+i),H,I1,⟨t,?_⟩,⟨rfl,rfl⟩,aZ,fun b hb=>(hf b hb).1⟩⟩;rw[Int.mul_one]
 done:=by
  intro X hP hw hK hc i af s σ H E I hf st hg;subst hP hw hK;obtain⟨f0,f1,f2,f3,f4,f5⟩:=hf it (by simp);exact wpAny_pyNext_range_end (I.ok.hd hc) st (by have:n<=i:=hg;lia) fun h' eb=>⟨rfl,I.turned (t':=s.toks) (fun b o hb e=>eb b o hb e) f0 f1 f3 f4 f5⟩
 self:=fun _ _ _ _ _ st h=>wpAny_pyIter_rangeiter st h
section
variable {X:Cx} {tg:Expr}
def KO(K:PySem.W.Frag)(tl:TE):TI:=fun σ H R=>tl σ H fun x H1=>∃a,x=.ref a/\(∃xs,a9 K H1 a xs)/\R (Ej K a) H1
def Vj(K:PySem.W.Frag)(tl:TE):TI:=fun σ H R=>tl σ H fun x H1=>∃a,x=.ref a/\(∃xs,bU K H1 a xs)/\R (Vi K a) H1
theorem bV{l:Expr}{tl:TE}(hl:PE X l tl):PI X tg l (KO X.K tl):=by
 intro af s σ H R I h;refine dJ (hl af s σ H _ I h) fun v s1 ⟨x,H1,I1,r1,q1⟩=>?_;obtain⟨a,e,⟨xs,hq⟩,q⟩:=q1;subst e;cases r1;obtain⟨its,rv,p,hz⟩:=I1.list hq;refine q8 p.isList ?_;refine⟨s1.heap.objs.size,[s1.heap.objs.size],_,_,H1,rfl,I1.kept (t':=s1.toks) fun b o e=>bL _ e,C7 a _,⟨_,cB _ rfl,rfl,rfl⟩,fun b hb=>?_,q⟩;have e:b=s1.heap.objs.size:=by simpa using hb
 subst e;exact I1.w_ (aU _) (I1.cz.fresh (aU _))
theorem EU{l:Expr}{tl:TE}(hl:PE X l tl):PI X tg l (Vj X.K tl):=by
 intro af s σ H R I h;refine dJ (hl af s σ H _ I h) fun v s1 ⟨x,H1,I1,r1,q1⟩=>?_;obtain⟨a,e,⟨xs,hq⟩,q⟩:=q1;subst e;cases r1;obtain⟨its,rv,p,hz⟩:=I1.tuple hq;refine qZ (show s1.heap.IsTuple a its.toArray from p) ?_;refine⟨s1.heap.objs.size,[s1.heap.objs.size],_,_,H1,rfl,I1.kept (t':=s1.toks) fun b o e=>bL _ e,zR a _,⟨_,cB _ rfl,rfl,rfl⟩,fun b hb=>?_,q⟩;have e:b=s1.heap.objs.size:=by simpa using hb
 subst e;exact I1.w_ (aU _) (I1.cz.fresh (aU _))
theorem xb{af:List (Addr×Obj)}{σ:St}{H:Hp}{s:Shared}{R:It->Hp->Prop}{E:Value->Shared->Prop}{lo hi:Int}{t u v:Tok}{tk:Nat}(I:aS X af σ H s)(h1:-(2 ^ 62)<=lo)(h2:lo<2 ^ 62)(h3:-(2 ^ 62)<=hi)(h4:hi<2 ^ 62)(q:R (Ek lo (hi-lo).toNat) H):wpAny (model X.prog X.w) X.A (pyIter (.ref s.heap.objs.size)) (ZA X af σ tg R) E { s with heap:=s.heap.push { cls:=.type "range",data:=.fields #[.int lo t,.int hi u,.int 1 v] },toks:=tk }:=by
 refine wpAny_pyIter_range (IsRange.new ..) (small_one h1 h2 h3 h4) ?_;have I1:aS X af σ H { s with heap:=s.heap.push { cls:=.type "range",data:=.fields #[.int lo t,.int hi u,.int 1 v] },toks:=tk }:=I.kept fun b o e=>bL _ e;refine⟨(s.heap.push { cls:=.type "range",data:=.fields #[.int lo t,.int hi u,.int 1 v] }).objs.size,[(s.heap.push { cls:=.type "range",data:=.fields #[.int lo t,.int hi u,.int 1 v] }).objs.size],_,_,H,rfl,
  I1.kept (t':=tk) fun b o e=>bL _ e,zS _ lo (hi-lo).toNat,?_,fun b hb=>?_,q⟩
 .have e1:lo+((0:Nat):Int)*1=lo:=by simp
  have e2:(((hi-lo).toNat:Nat):Int)-((0:Nat):Int)=Builtin.Range.rangeSize lo hi 1:=by rw[rangeSize_one];split <;> lia
  show IsRangeIter _ _ (lo+((0:Nat):Int)*1) ((((hi-lo).toNat:Nat):Int)-((0:Nat):Int)) 1;rw[e1,e2];exact cB _ rfl
 .have e:b=(s.heap.push { cls:=.type "range",data:=.fields #[.int lo t,.int hi u,.int 1 v] }).objs.size:=by simpa using hb
  subst e;exact I1.w_ (aU _) (I1.cz.fresh (aU _))
def P9(ta:TA):TI:=fun σ H R=>ta σ H fun vs H1=>∃j:Int,vs=[.int j]/\-(2 ^ 62)<=j/\j<2 ^ 62/\R (Ek 0 j.toNat) H1
def P_(ta:TA):TI:=fun σ H R=>ta σ H fun vs H1=>∃i j:Int,vs=[.int i,.int j]/\(-(2 ^ 62)<=i/\i<2 ^ 62/\-(2 ^ 62)<=j/\j<2 ^ 62)/\R (Ek i (j-i).toNat) H1
theorem bE{a:Expr}{ta:TA}{p pos:Pos}(hg:Gl X "range")(hm:X.mg "range"=none)(ha:PA X [a] ta)(hs:starEach [a] X.env=[(false,eval a X.env)]:=by rfl):PI X tg (.Call (.Name "range" p) [a] [] pos) (P9 ta):=by
 intro af s σ H R I h;refine Call_ (iW I hg hm boot_range (nM (dJ (ha pos af s σ H _ I h) fun us s1 ⟨vs,H1,I1,r1,q1⟩=>?_) hs rfl));obtain⟨j,e,q1,q2,q⟩:=q1;subst e;cases r1 with
 |cons r rr=>
  cases rr;obtain⟨t,rfl⟩:=r;exact call_range_1 (xb I1 (by lia) (by lia) q1 q2 (by simpa using q))
theorem oW(hg:Gl X "range")(hm:X.mg "range"=none)(ha:PA X [a,b] ta)(hs:starEach [a,b] X.env=[(false,eval a X.env),(false,eval b X.env)]:=by rfl)(oX:starEach [b] X.env=[(false,eval b X.env)]:=by rfl):
  PI X tg (.Call (.Name "range" p) [a,b] [] pos) (P_ ta):=by
 intro af s σ H R I h;refine Call_ (iW I hg hm boot_range (nM (dJ (ha pos af s σ H _ I h) fun us s1 ⟨vs,H1,I1,r1,q1⟩=>?_) (by rw[hs,oX]) (by rw[oX];rfl)));obtain⟨i,j,e,⟨q1,q2,q3,q4⟩,q⟩:=q1;subst e;cases r1 with
 |cons r rr=>
  cases rr with
  |cons r' rr=>
   cases rr;obtain⟨t,rfl⟩:=r;obtain⟨t',rfl⟩:=r';exact call_range_2 (xb I1 q1 q2 q3 q4 q)
def Vk(wi:TI)(g:TG)(tb:TS):TS:=fun D σ H=>wi σ H fun J H1=>∃W:Nat->Nat->St->Hp->Prop,(∃m,W 0 m σ H1)/\∀i m σ H,W i m σ H->
 (J.stop i H/\D.nx σ H)\/(J.go i H/\∃N:St->Hp->Prop,(∀σ' H',N σ' H'->∃m',m'<m/\W (i+1) m' σ' H')/\∀x H',J.LV i H x H'->g x σ H' fun σ2 H2=>tb { D with nx:=N,ct:=N,bk:=D.nx } σ2 H2)
def rC(fp:List Addr)(h:Heap):List (Addr×Obj):=fp.filterMap fun b=>(h.get? b).map fun o=>(b,o)
theorem js(hb:b∈fp)(e:h.get? b=some o):(b,o)∈rC fp h:=oh.mpr ⟨b,hb,by rw[e];rfl⟩
theorem C8(hp:p∈rC fp h):p.1∈fp/\h.get? p.1=some p.2:=by
 obtain⟨b,hb,e⟩:=oh.mp hp;cases q:h.get? b with
 |none=>rw[q] at e;cases e
 |some o=>
  rw[q] at e;have e':(b,o)=p:=bN e;subst e';exact⟨hb,q⟩
theorem aS.pinned(I:aS X af σ H s)(hf:∀b∈fp,gf X af H b)(ho:∀b∈fp,∃o,s.heap.get? b=some o/\∀v,o.data≠.cell v):aS X (af++rC fp s.heap) σ H s:=
 I.mz fun p hp=>(cw.mp hp).elim (fun z=>I.pin p (dZ _ z)) fun z=>by
  obtain⟨hb,e⟩:=C8 z;obtain⟨f0,f1,f2,_⟩:=hf p.1 hb;obtain⟨o,e',d⟩:=ho p.1 hb;rw[e] at e';cases e';exact⟨e,f0,f1,f2,d⟩
theorem aS.mD(I:aS X (af++pl) σ H s):aS X af σ H s:=I.mz fun p hp=>I.pin p (dZ _ (fw _ hp))
theorem cQ(hp:PassesOwn (model X.prog X.w) X.A X.env X.xe)(hc:X.calm=true)(hi:PI X tg jM wi)(hg:PG X tg g)(hb:zP X body tb)(hs:∀x,foldedSetIterable jM X.env x=pure x:=by intro _;rfl):PS X (.For tg jM body [] pos) (Vk wi g tb):=by
 intro af s σ H D I h;refine wpAny_For (dJ (hi af s σ H _ I h) fun v s1 h1=>dJ h1 fun T_ s2 h2=>?_) hs;obtain⟨it,fp,tn,J,H2,e,I2,T,g7,f2,W,⟨m0,w0⟩,ES⟩:=h2;subst e;have zU:∀ {H':Hp},(∀b∈fp,H' b=none)->∀b∈fp,gf X af H' b:=fun hn b hb=>⟨hn b hb,(f2 b hb).2⟩
 refine codeAny_forLoop_any (fun n s'=>∃i σ' H',aS X af σ' H' s'/\tn i s'.heap/\(∀b∈fp,H' b=none)/\W i n σ' H') ?_ m0 ⟨0,σ,H2,I2,g7,fun b hb=>(f2 b hb).1,w0⟩;rintro n s3 ⟨i,σ3,H3,I3,sO,HJ,w3⟩;rcases ES i n σ3 H3 w3 with ⟨stop,qn⟩|⟨go,N,hN,step⟩
 .refine lS hp (dJ (T.done X rfl rfl rfl hc i af s3 σ3 H3 X.xe I3 (zU HJ) sO stop) fun r s4 ⟨hr,I4⟩=>?_);subst hr;exact vp ⟨σ3,H3,I4,qn⟩
 .refine lS hp (dJ (T.item X rfl rfl rfl hc i af s3 σ3 H3 X.xe I3 (zU HJ) sO go) fun r s4 ⟨u,hr,h4⟩=>?_);subst hr;refine lS hp (dJ h4 fun _ s5 ⟨x,H5,I5,r5,y5,wS,LW⟩=>?_);have Vl:=I5.pinned (zU LW) (T.obj _ _ wS);refine lS hp (dJ (hg _ s5 σ3 H5 x u _ Vl r5 (step x H5 y5)) fun _ s6 ⟨σ6,H6,I6,q6⟩=>?_);refine lS hp (dJ (hb _ s6 σ6 H6 _ I6 q6) fun f s7 q7=>?_);have again:∀ {σ7:St} {H7:Hp},aS X (af++rC fp s5.heap) σ7 H7 s7->N σ7 H7->∃m,m<n/\∃i σ' H',aS X af σ' H' s7/\tn i s7.heap/\(∀b∈fp,H' b=none)/\W i m σ' H':=fun {σ7 H7} I7 n7=>by
   obtain⟨m',hm,w7⟩:=hN σ7 H7 n7;refine⟨m',hm,i+1,σ7,H7,I7.mD,T.keep _ _ _ wS fun b hb o e=>(I7.pin (b,o) (dZ _ (dZ _ (js hb e)))).1,fun b hb=>?_,w7⟩;obtain⟨o,e,d⟩:=T.obj _ _ wS b hb;exact(I7.pin (b,o) (dZ _ (dZ _ (js hb e)))).2.1
  cases f with
  |next=>obtain⟨σ7,H7,I7,n7⟩:=q7;exact again I7 n7
  |cont=>obtain⟨σ7,H7,I7,n7⟩:=q7;exact again I7 n7
  |brk=>obtain⟨σ7,H7,I7,q7⟩:=q7;exact⟨σ7,H7,I7.mD,q7⟩
  |ret v=>obtain⟨x7,σ7,H7,I7,r7,q7⟩:=q7;exact⟨x7,σ7,H7,I7.mD,r7,q7⟩
end
theorem fW{K:PySem.W.Frag}{a:Addr}{xs:List V}{g:TG}{tb:TS}{D:wZ}{σ:St}{H:Hp}(Pv:Nat->St->Hp->Prop)(h0:Pv 0 σ H)(hl:∀i σ H,i<=xs.length->Pv i σ H->a9 K H a xs)(hs:∀i x σ H,xs[i]?=some x->Pv i σ H->g x σ H fun σ2 H2=>tb { D with nx:=Pv (i+1),ct:=Pv (i+1),bk:=D.nx } σ2 H2)(hd:∀σ H,Pv xs.length σ H->D.nx σ H):
  ∃W:Nat->Nat->St->Hp->Prop,(∃m,W 0 m σ H)/\∀i m σ H,W i m σ H->
   ((Ej K a).stop i H/\D.nx σ H)\/((Ej K a).go i H/\∃N:St->Hp->Prop,(∀σ' H',N σ' H'->∃m',m'<m/\W (i+1) m' σ' H')/\∀x H',(Ej K a).LV i H x H'->g x σ H' fun σ2 H2=>tb { D with nx:=N,ct:=N,bk:=D.nx } σ2 H2):=by
 refine⟨fun i m σ H=>m=xs.length-i/\i<=xs.length/\Pv i σ H,⟨xs.length,by simp,cx _,h0⟩,?_⟩;rintro i m σ H ⟨rfl,hi,p⟩;have q:=hl i σ H hi p;by_cases d9:i<xs.length
 .refine .inr ⟨⟨xs,xs[i],q,by simp[d9]⟩,Pv (i+1),fun σ' H' p'=>⟨xs.length-(i+1),by lia,rfl,d9,p'⟩,fun x H' y=>?_⟩;obtain⟨e,y⟩:=y;subst e;exact hs i x σ _ (y xs q) p
 .have e:i=xs.length:=by lia
  subst e;exact .inl ⟨⟨xs,q,aU _⟩,hd σ H p⟩
theorem dt{lo:Int}{n:Nat}{g:TG}{tb:TS}{D:wZ}{σ:St}{H:Hp}(Pv:Nat->St->Hp->Prop)(h0:Pv 0 σ H)(hs:∀i σ H,i<n->Pv i σ H->g (.int (lo+i)) σ H fun σ2 H2=>tb { D with nx:=Pv (i+1),ct:=Pv (i+1),bk:=D.nx } σ2 H2)(hd:∀σ H,Pv n σ H->D.nx σ H):
  ∃W:Nat->Nat->St->Hp->Prop,(∃m,W 0 m σ H)/\∀i m σ H,W i m σ H->
   ((Ek lo n).stop i H/\D.nx σ H)\/((Ek lo n).go i H/\∃N:St->Hp->Prop,(∀σ' H',N σ' H'->∃m',m'<m/\W (i+1) m' σ' H')/\∀x H',(Ek lo n).LV i H x H'->g x σ H' fun σ2 H2=>tb { D with nx:=N,ct:=N,bk:=D.nx } σ2 H2):=by
 refine⟨fun i m σ H=>m=n-i/\i<=n/\Pv i σ H,⟨n,by simp,cx _,h0⟩,?_⟩;rintro i m σ H ⟨rfl,hi,p⟩;by_cases d9:i<n
 .refine .inr ⟨d9,Pv (i+1),fun σ' H' p'=>⟨n-(i+1),by lia,rfl,d9,p'⟩,fun x H' y=>?_⟩;obtain⟨e,y⟩:=y;subst e y;exact hs i σ _ d9 p
 .have e:i=n:=by lia
  subst e;exact .inl ⟨aU _,hd σ H p⟩
theorem xc(Pv:St->Hp->Prop)(μ:St->Hp->Nat)(h0:Pv σ H)(hs:∀σ H,Pv σ H->c σ H fun b H1=>if b=true then tb { D with nx:=fun σ' H'=>Pv σ' H'/\μ σ' H'<μ σ H,ct:=fun σ' H'=>Pv σ' H'/\μ σ' H'<μ σ H,bk:=D.nx } σ H1 else D.nx σ H1)(mono:∀σ H Q Q',(∀b H1,Q b H1->Q' b H1)->c σ H Q->c σ H Q'):ER c tb D σ H:=by
 refine⟨fun m σ H=>m=μ σ H/\Pv σ H,⟨_,rfl,h0⟩,?_⟩;rintro m σ H ⟨rfl,p⟩;refine mono σ H _ _ (fun b H1 q=>?_) (hs σ H p);cases b with
 |true=>exact⟨_,fun σ' H' ⟨p',l⟩=>⟨_,l,rfl,p'⟩,q⟩
 |false=>exact q
abbrev R2:=V->V->Hp->VK->Prop
def mq(X:Cx)(f:Value->Value->Sem Value)(r:R2):Prop:=
 ∀ (af:List (Addr×Obj)) (s:Shared) (σ:St) (H:Hp) (x y:V) (v u:Value) (Q:VK),aS X af σ H s->bR x v->bR y u->r x y H Q->
  wpAny (model X.prog X.w) X.A (f v u) (EP X af σ Q) X.xe s
def Vm(X:Cx)(f:Value->Sem Value)(r:V->Hp->VK->Prop):Prop:=
 ∀ (af:List (Addr×Obj)) (s:Shared) (σ:St) (H:Hp) (x:V) (v:Value) (Q:VK),aS X af σ H s->bR x v->r x H Q->
  wpAny (model X.prog X.w) X.A (f v) (EP X af σ Q) X.xe s
def fj(X:Cx)(f:Value)(r:List V->Hp->VK->Prop):Prop:=
 ∀ (af:List (Addr×Obj)) (s:Shared) (σ:St) (H:Hp) (xs:List V) (us:List Value) (Q:VK),aS X af σ H s->a8 xs us->r xs H Q->
  wpAny (model X.prog X.w) X.A (call f us) (EP X af σ Q) X.xe s
def iI(r:R2)(ta tb:TE):TE:=fun σ H Q=>ta σ H fun x H1=>tb σ H1 fun y H2=>r x y H2 Q
def ZB(r:V->Hp->VK->Prop)(ta:TE):TE:=fun σ H Q=>ta σ H fun x H1=>r x H1 Q
def rI(C:Int->Int->Prop)(g:Int->Int->V):R2:=fun x y H Q=>∃i j,x=.int i/\y=.int j/\C i j/\Q (g i j) H
def xf(g:Int->Int->V):R2:=fun x y H Q=>∃i j,x=.int i/\y=.int j/\Q (g i j) H
def rU(g:Int->V):V->Hp->VK->Prop:=fun x H Q=>∃i,x=.int i/\Q (g i) H
section
variable {X:Cx} {a b c:Expr} {ta tb tc:TE} {pos:Pos}
theorem LX(ha:PE X a ta)(hb:PE X b tb){af:List (Addr×Obj)}{s:Shared}{σ:St}{H:Hp}{R:V->V->Hp->Prop}(I:aS X af σ H s)(h:ta σ H fun x H1=>tb σ H1 fun y H2=>R x y H2){Q:Value->Shared->Prop}{f:Value->Value->Sem Value}(hf:∀v u s2 x y H2,aS X af σ H2 s2->bR x v->bR y u->R x y H2->wpAny (model X.prog X.w) X.A (f v u) Q X.xe s2):
  wpAny (model X.prog X.w) X.A (eval a X.env) (fun v s₁=>wpAny (model X.prog X.w) X.A (eval b X.env) (fun u s₂=>wpAny (model X.prog X.w) X.A (f v u) Q X.xe s₂) X.xe s₁) X.xe s:=by
 refine dJ (ha af s σ H _ I h) fun v s1 ⟨x,H1,I1,r1,q1⟩=>?_;refine dJ (hb af s1 σ H1 _ I1 q1) fun u s2 ⟨y,H2,I2,r2,q2⟩=>?_;exact hf v u s2 x y H2 I2 r1 r2 q2
theorem bb{op:Operator}{r:R2}(ho:mq X (binaryOp op) r)(ha:PE X a ta)(hb:PE X b tb):PE X (.BinOp a op b pos) (iI r ta tb):=by
 intro af s σ H Q I h;exact wpAny_BinOp (LX ha hb I h fun v u s2 x y H2 I2 rx ry q=>ho af s2 σ H2 x y v u Q I2 rx ry q)
theorem Bv(ho:Vm X (unaryOp op) r)(ha:PE X a ta):PE X (.UnaryOp op a pos) (ZB r ta):=by
 intro af s σ H Q I h;exact UnaryOp_ (dJ (ha af s σ H _ I h) fun v s1 ⟨x,H1,I1,r1,q1⟩=>ho af s1 σ H1 x v Q I1 r1 q1)
theorem Qa{f:Value->Value->Sem Value}{C:Int->Int->Prop}{g:Int->Int->Int}(rule:∀ (i j:Int) (t u:Tok) (s:Shared) (Q:Value->Shared->Prop) (E:Value->Shared->Prop),C i j->Q (.int (g i j) s.toks) { s with toks:=s.toks+1 }->wpAny (model X.prog X.w) X.A (f (.int i t) (.int j u)) Q E s):
  mq X f (rI C fun i j=>.int (g i j)):=by
 intro af s σ H x y v u Q I rx ry h;obtain⟨i,j,rfl,rfl,hc,q⟩:=h;obtain⟨t,rfl⟩:=rx;obtain⟨t',rfl⟩:=ry;exact rule i j t t' s _ _ hc ⟨.int (g i j),H,I.tok _,⟨_,rfl⟩,q⟩
theorem Qb{f:Value->Value->Sem Value}{g:Int->Int->Int}(rule:∀ (i j:Int) (t u:Tok) (s:Shared) (Q:Value->Shared->Prop) (E:Value->Shared->Prop),Q (.int (g i j) s.toks) { s with toks:=s.toks+1 }->wpAny (model X.prog X.w) X.A (f (.int i t) (.int j u)) Q E s):
  mq X f (xf fun i j=>.int (g i j)):=by
 intro af s σ H x y v u Q I rx ry h;obtain⟨i,j,rfl,rfl,q⟩:=h;obtain⟨t,rfl⟩:=rx;obtain⟨t',rfl⟩:=ry;exact rule i j t t' s _ _ ⟨.int (g i j),H,I.tok _,⟨_,rfl⟩,q⟩
theorem H_{f:Value->Value->Sem Value}{g:Int->Int->Bool}(rule:∀ (i j:Int) (t u:Tok) (s:Shared) (Q:Value->Shared->Prop) (E:Value->Shared->Prop),Q (.bool (g i j)) s->wpAny (model X.prog X.w) X.A (f (.int i t) (.int j u)) Q E s):
  mq X f (xf fun i j=>.bl (g i j)):=by
 intro af s σ H x y v u Q I rx ry h;obtain⟨i,j,rfl,rfl,q⟩:=h;obtain⟨t,rfl⟩:=rx;obtain⟨t',rfl⟩:=ry;exact rule i j t t' s _ _ ⟨.bl (g i j),H,I,rfl,q⟩
def Qc(i j:Int):Prop:=0<j/\j<1073741824
def Vn(i j:Int):Prop:=0<=j/\j<=1000000/\i.natAbs<2 ^ 64
def Ib(i j:Int):Prop:=(-(2 ^ 64)<i/\i<2 ^ 64)\/(-(2 ^ 64)<j/\j<2 ^ 64)
theorem Ib.ok(h:Ib i j):IntMulOk i j:=by
 rcases h with ⟨h1,h2⟩|⟨h1,h2⟩
 .exact .of_left (intBits_le_64 h1 h2)
 .exact .of_right (intBits_le_64 h1 h2)
theorem cX:mq X (binaryOp .Add) (xf fun i j=>.int (i+j)):=Qb fun _ _ _ _ _ _ _ q=>add_int q
theorem jt:mq X (binaryOp .Sub) (xf fun i j=>.int (i-j)):=Qb fun _ _ _ _ _ _ _ q=>sub_int q
theorem kB:mq X (binaryOp .Mult) (rI Ib fun i j=>.int (i*j)):=Qa fun _ _ _ _ _ _ _ hc q=>mul_int q hc.ok
theorem qy:mq X (binaryOp .FloorDiv) (rI Qc fun i j=>.int (i / j)):=Qa fun i j _ _ _ _ _ hc q=>by
 have h1:(0:Int)<j:=hc.1;have h2:j<1073741824:=hc.2;exact floordiv_int (by lia) (by rw[yR i (by lia)];exact q) (.inl (PyProof.noPylong_small (by lia)))
theorem iX:mq X (binaryOp .Mod) (rI (fun _ j=>0<j) fun i j=>.int (i % j)):=Qa fun i j _ _ _ _ _ hc q=>by
 have h1:(0:Int)<j:=hc;exact mod_int' (by lia) (by rw[yQ i (by lia)];exact q)
theorem zV:mq X (binaryOp .Pow) (rI Vn fun i j=>.int (i ^ j.toNat)):=Qa fun _ _ _ _ _ _ _ hc q=>pow_int_small hc.1 hc.2.1 hc.2.2 q
theorem unI{f:Value->Sem Value}{g:Int->Int}(rule:∀ (i:Int) (t:Tok) (s:Shared) (Q:Value->Shared->Prop) (E:Value->Shared->Prop),Q (.int (g i) s.toks) { s with toks:=s.toks+1 }->wpAny (model X.prog X.w) X.A (f (.int i t)) Q E s):
  Vm X f (rU fun i=>.int (g i)):=by
 intro af s σ H x v Q I rx h;obtain⟨i,rfl,q⟩:=h;obtain⟨t,rfl⟩:=rx;exact rule i t s _ _ ⟨.int (g i),H,I.tok _,⟨_,rfl⟩,q⟩
theorem vH:Vm X (unaryOp .USub) (rU fun i=>.int (-i)):=unI fun _ _ _ _ _ q=>neg_int q
end
def Ic:V->V->Bool
 |.cE,.cE=>true|.cE,.int _=>true|.int _,.cE=>true|.cE,.bl _=>true|.bl _,.cE=>true|.cE,.str _=>true|.str _,.cE=>true
 |.int _,.int _=>true|.bl _,.bl _=>true|.str _,.str _=>true|.Eh _,.Eh _=>true
 |.int _,.str _=>true|.str _,.int _=>true|.bl _,.str _=>true|.str _,.bl _=>true
 |_,_=>false
def Vo:R2:=fun x y H Q=>Ic x y=true/\Q (.bl (decide (x=y))) H
def rNe:R2:=fun x y H Q=>Ic x y=true/\Q (.bl (!decide (x=y))) H
theorem Bw:decide (V.int i=V.int j)=(i==j):=by
 rw[j7];simp
theorem EV:decide (V.bl i=V.bl j)=(i==j):=by
 rw[j7];simp
theorem Bx:decide (V.str i=V.str j)=(i==j):=by
 rw[j7];simp
theorem By:decide (V.Eh i=V.Eh j)=(i.toList==j.toList):=by
 rw[j7];cases i;cases j;simp
section
variable {X:Cx} {a b c:Expr} {ta tb tc:TE} {pos:Pos}
theorem bS(I:aS X af σ H s)(q:Q (.bl k) H)(e:k=k'):EP X af σ Q (.bool k') s:=by
 subst e;exact⟨.bl k,H,I,rfl,q⟩
theorem hU:mq X (compareOp .Eq) Vo:=by
 intro af s σ H x y v u Q I rx ry h;obtain⟨hs,q⟩:=h;cases x with
 |cE=>
  cases rx;cases y with
  |cE=>cases ry;exact PySem.EqNone.eq_none_none (bS I q (by simp))
  |bl j=>cases ry;exact PySem.EqNone.eq_none_bool (bS I q (by simp))
  |int j=>obtain⟨t',rfl⟩:=ry;exact PySem.EqNone.eq_none_int (bS I q (by simp))
  |str j=>obtain⟨t',rfl⟩:=ry;exact PySem.EqNone.eq_none_str (bS I q (by simp))
  |_=>exact absurd (show false=true from hs) cG
 |bl i=>
  cases rx;cases y with
  |cE=>cases ry;exact PySem.EqNone.eq_bool_none (bS I q (by simp))
  |bl j=>cases ry;exact eq_bool (bS I q EV)
  |str j=>obtain⟨t',rfl⟩:=ry;exact PySem.EqMixed.eq_bool_str (bS I q (by simp))
  |_=>exact absurd (show false=true from hs) cG
 |int i=>
  obtain⟨t,rfl⟩:=rx;cases y with
  |cE=>cases ry;exact PySem.EqNone.eq_int_none (bS I q (by simp))
  |int j=>obtain⟨t',rfl⟩:=ry;exact eq_int (bS I q Bw)
  |str j=>obtain⟨t',rfl⟩:=ry;exact PySem.EqMixed.eq_int_str (bS I q (by simp))
  |_=>exact absurd (show false=true from hs) cG
 |str i=>
  obtain⟨t,rfl⟩:=rx;cases y with
  |cE=>cases ry;exact PySem.EqNone.eq_str_none (bS I q (by simp))
  |bl j=>cases ry;exact PySem.EqMixed.eq_str_bool (bS I q (by simp))
  |int j=>obtain⟨t',rfl⟩:=ry;exact PySem.EqMixed.eq_str_int (bS I q (by simp))
  |str j=>obtain⟨t',rfl⟩:=ry;exact eq_str (bS I q Bx)
  |_=>exact absurd (show false=true from hs) cG
 |Eh i=>
  obtain⟨t,rfl⟩:=rx;cases y with
  |Eh j=>obtain⟨t',rfl⟩:=ry;exact PySem.W.eq_bytes (bS I q By)
  |_=>exact absurd (show false=true from hs) cG
 |_=>cases y <;> exact absurd (show false=true from hs) cG
theorem t_:mq X (compareOp .NotEq) rNe:=by
 intro af s σ H x y v u Q I rx ry h;obtain⟨hs,q⟩:=h;cases x with
 |cE=>
  cases rx;cases y with
  |cE=>cases ry;exact PySem.EqNone.ne_none_none (bS I q (by simp))
  |bl j=>cases ry;exact PySem.EqNone.ne_none_bool (bS I q (by simp))
  |int j=>obtain⟨t',rfl⟩:=ry;exact PySem.EqNone.ne_none_int (bS I q (by simp))
  |str j=>obtain⟨t',rfl⟩:=ry;exact PySem.EqNone.ne_none_str (bS I q (by simp))
  |_=>exact absurd (show false=true from hs) cG
 |bl i=>
  cases rx;cases y with
  |cE=>cases ry;exact PySem.EqNone.ne_bool_none (bS I q (by simp))
  |bl j=>cases ry;exact ne_bool (bS I q (congrArg not EV))
  |str j=>obtain⟨t',rfl⟩:=ry;exact PySem.EqMixed.ne_bool_str (bS I q (by simp))
  |_=>exact absurd (show false=true from hs) cG
 |int i=>
  obtain⟨t,rfl⟩:=rx;cases y with
  |cE=>cases ry;exact PySem.EqNone.ne_int_none (bS I q (by simp))
  |int j=>obtain⟨t',rfl⟩:=ry;exact ne_int (bS I q (congrArg not Bw))
  |str j=>obtain⟨t',rfl⟩:=ry;exact PySem.EqMixed.ne_int_str (bS I q (by simp))
  |_=>exact absurd (show false=true from hs) cG
 |str i=>
  obtain⟨t,rfl⟩:=rx;cases y with
  |cE=>cases ry;exact PySem.EqNone.ne_str_none (bS I q (by simp))
  |bl j=>cases ry;exact PySem.EqMixed.ne_str_bool (bS I q (by simp))
  |int j=>obtain⟨t',rfl⟩:=ry;exact PySem.EqMixed.ne_str_int (bS I q (by simp))
  |str j=>obtain⟨t',rfl⟩:=ry;exact ne_str (bS I q (congrArg not Bx))
  |_=>exact absurd (show false=true from hs) cG
 |Eh i=>
  obtain⟨t,rfl⟩:=rx;cases y with
  |Eh j=>obtain⟨t',rfl⟩:=ry;exact PySem.W.ne_bytes (bS I q (congrArg not By))
  |_=>exact absurd (show false=true from hs) cG
 |_=>cases y <;> exact absurd (show false=true from hs) cG
theorem kC:mq X (compareOp .Lt) (xf fun i j=>.bl (decide (i<j))):=H_ fun _ _ _ _ _ _ _ q=>lt_int q
theorem KR:mq X (compareOp .LtE) (xf fun i j=>.bl (decide (i<=j))):=H_ fun _ _ _ _ _ _ _ q=>le_int q
theorem KS:mq X (compareOp .Gt) (xf fun i j=>.bl (decide (j<i))):=H_ fun _ _ _ _ _ _ _ q=>gt_int q
theorem KU:mq X (compareOp .GtE) (xf fun i j=>.bl (decide (j<=i))):=H_ fun _ _ _ _ _ _ _ q=>ge_int q
theorem vI:mq X (compareOp .Is) (fun x y H Q=>y=.cE/\Q (.bl (decide (x=.cE))) H):=by
 intro af s σ H x y v u Q I rx ry h;obtain⟨rfl,q⟩:=h;cases ry;refine is_none_gen (bS I q ?_);cases x <;> first
  |(cases rx;rfl)
  |(obtain⟨t,rfl⟩:=rx;rfl)
theorem ju:mq X (compareOp .IsNot) (fun x y H Q=>y=.cE/\Q (.bl (!decide (x=.cE))) H):=by
 intro af s σ H x y v u Q I rx ry h;obtain⟨rfl,q⟩:=h;cases ry;refine isnot_none_gen (bS I q ?_);cases x <;> first
  |(cases rx;rfl)
  |(obtain⟨t,rfl⟩:=rx;rfl)
theorem a_(b:Expr)(h:op≠.In:=by decide)(h2:op≠.NotIn:=by decide):behindInMarks op b=false:=by
 have e1:(op==CmpOp.In)=false:=by cases op <;> first|rfl|exact absurd rfl h
 have e2:(op==CmpOp.NotIn)=false:=by cases op <;> first|rfl|exact absurd rfl h2
 cases b <;> simp[behindInMarks,e1,e2]
theorem qz(ho:mq X (compareOp op) r)(ha:PE X a ta)(hb:PE X b tb)(hm:behindInMarks op b=false):PE X (.Compare a [op] [b] pos) (iI r ta tb):=by
 intro af s σ H Q I h;exact wpAny_Compare1 (LX ha hb I h fun v u s2 x y H2 I2 rx ry q=>ho af s2 σ H2 x y v u Q I2 rx ry q) hm
def mE(t:TE):TT:=fun σ H Q=>t σ H fun x H'=>∃k,x=.bl k/\Q k H'
theorem aM(ho:mq X (compareOp op) r)(ha:PE X a ta)(hb:PE X b tb)(hm:behindInMarks op b=false):PT X (.Compare a [op] [b] pos) (mE (iI r ta tb)):=by
 intro af s σ H Q I h;refine wpAny_isTrue_Compare1 (dJ (ha af s σ H _ I h) fun v s1 ⟨x,H1,I1,r1,q1⟩=>dJ (hb af s1 σ H1 _ I1 q1) fun u s2 ⟨y,H2,I2,r2,q2⟩=>
  dJ (ho af s2 σ H2 x y v u _ I2 r1 r2 q2) fun c s3 ⟨z,H3,I3,r3,k,e,q3⟩=>?_) hm
 subst e;cases r3;exact ow ⟨H3,I3,q3⟩
def LY(r r':R2)(ta tb tc:TE):TE:=fun σ H Q=>ta σ H fun x H1=>tb σ H1 fun y H2=>r x y H2 fun z H3=>∃k,z=.bl k/\
 (if k=true then tc σ H3 fun w' H4=>r' y w' H4 Q else Q (.bl false) H3)
theorem EW(ho:mq X (compareOp op) r)(EO:mq X (compareOp ZC) r')(ha:PE X a ta)(hb:PE X b tb)(hc:PE X c tc)(hm:lastMarks [op,ZC] [b,c]=false:=by with_unfolding_all rfl):PE X (.Compare a [op,ZC] [b,c] pos) (LY r r' ta tb tc):=by
 intro af s σ H Q I h;refine Compare_chain (dJ (ha af s σ H _ I h) fun v s1 ⟨x,H1,I1,r1,q1⟩=>chain_link (dJ (hb af s1 σ H1 _ I1 q1) fun u s2 ⟨y,H2,I2,r2,q2⟩=>
  dJ (ho af s2 σ H2 x y v u _ I2 r1 r2 q2) fun d s3 ⟨z,H3,I3,r3,k,e,q3⟩=>?_)) hm
 subst e;cases r3;refine ow ?_;cases k with
 |false=>exact ite_ff ⟨.bl false,H3,I3,rfl,q3⟩
 |true=>exact ite_tt (chain_last (dJ (hc af s3 σ H3 _ I3 q3) fun w' s4 ⟨z',H4,I4,r4,q4⟩=>EO af s4 σ H4 y z' u w' Q I4 r2 r4 q4))
theorem vJ:(sizeLine:Nat)<2 ^ 63:=by rw[gJ];decide
theorem Bz(r:a8 [x] us):∃u,us=[u]/\bR x u:=by
 cases r with
 |cons r1 r2=>cases r2;exact⟨_,rfl,r1⟩
theorem EX(r:a8 [x,y] us):∃u w',us=[u,w']/\bR x u/\bR y w':=by
 cases r with
 |cons r1 r2=>
  cases r2 with
  |cons r3 r4=>cases r4;exact⟨_,_,rfl,r1,r3⟩
theorem xg:fj X (.builtin "abs") (fun xs H Q=>∃i,xs=[.int i]/\Q (.int (if i<0 then -i else i)) H):=by
 intro af s σ H xs us Q I r h;obtain⟨i,rfl,q⟩:=h;obtain⟨u,rfl,t,rfl⟩:=Bz r;exact call_abs_int fun u tk=>⟨.int (if i<0 then -i else i),H,I.tok _,⟨_,rfl⟩,q⟩
theorem oY(hc:X.calm=true):fj X (.builtin "max") (fun xs H Q=>∃i j,xs=[.int i,.int j]/\Q (.int (if j > i then j else i)) H):=by
 intro af s σ H xs us Q I r h;obtain⟨i,j,rfl,q⟩:=h;obtain⟨u,w',rfl,⟨t,rfl⟩,⟨t',rfl⟩⟩:=EX r;refine max_two_ints (I.ok.hd hc) fun h' tk k=>⟨_,H,I.kept k,?_,q⟩
 by_cases hj:j > i
 .rw[ak hj,ak hj];exact⟨_,rfl⟩
 .rw[av hj,av hj];exact⟨_,rfl⟩
theorem kZ(hc:X.calm=true):fj X (.builtin "min") (fun xs H Q=>∃i j,xs=[.int i,.int j]/\Q (.int (if j<i then j else i)) H):=by
 intro af s σ H xs us Q I r h;obtain⟨i,j,rfl,q⟩:=h;obtain⟨u,w',rfl,⟨t,rfl⟩,⟨t',rfl⟩⟩:=EX r;refine min_two_ints (I.ok.hd hc) fun h' tk k=>⟨_,H,I.kept k,?_,q⟩
 by_cases hj:j<i
 .rw[ak hj,ak hj];exact⟨_,rfl⟩
 .rw[av hj,av hj];exact⟨_,rfl⟩
end
structure zW(h:Heap)(x dx C:Addr)(mA:Str->Option Value):Prop where
 obj:h.get? x=some (PySem.W.instObj C dx)
 ns:h.Ns1 dx mA
 ne:dx≠x
theorem C9{h:Heap}{dx:Addr}{mA:Str->Option Value}(n:h.Ns1 dx mA):∃od,h.get? dx=some od/\∀name,PySem.W.lookIn name od=some (mA name):=by
 obtain⟨o,es,ep,ho,hd,hk,_,hm⟩:=n;refine⟨o,ho,fun name=>?_⟩;have e:=hm name;unfold nsFind findBy at e;rw[<-Array.find?_toList] at e;unfold PySem.W.lookIn;rw[hd];dsimp only;split
 .rename_i y q;rw[q] at e;exact congrArg some e
 .rename_i q;rw[q] at e;have a:es.toList.any (·.refKey)=false:=by
   rw[ve];intro y hy;obtain⟨z,t,sZ⟩:=hk y (Array.mem_toList_iff.mp hy);simp[DictEntry.refKey,sZ]
  have a':¬ es.toList.any (·.refKey)=true:=by rw[a];exact cG
  rw[av a'];exact congrArg some e
theorem zW.look(I:zW h x dx C mA):∃od,PySem.W.InstAt h x (PySem.W.instObj C dx) C (some od)/\∀name,PySem.W.lookIn name od=some (mA name):=
 let ⟨od,ho,hl⟩:=C9 I.ns
 ⟨od,⟨I.obj,rfl,rfl,ho⟩,hl⟩
section
variable {prog:Program} {w:World} {A:Around} {E:Value->Shared->Prop} {s:Shared} {K:PySem.W.Frag} {x dx C f:Addr} {mA:Str->Option Value} {name:Str} {v:Value}
theorem Ie(X:K.In s.heap)(I:zW s.heap x dx C mA)(hg:PySem.W.plainGet K C name=true)(hh:PySem.W.hasDictIn K C=true)(ha:PySem.W.findIn K (.ref C) name=some none)(hv:mA name=some v)(C_:PySem.W.handedIn v=true)(h:Q v { s with toks:=s.toks+1 }):
  wpAny (model prog w) A (getAttr (.ref x) name Ig) Q E s:=by
 obtain⟨od,J,hl⟩:=I.look;exact PySem.W.get_value X J (zg hg).1 (PySem.W.findObj_own hh ha rfl (by rw[hl,hv])) C_ h
theorem EY(X:K.In s.heap)(I:zW s.heap x dx C mA)(hg:PySem.W.plainGet K C name=true)(hf:PySem.W.findIn K (.ref C) name=some (some (.ref f)))(ht:PySem.W.isFn K (.ref f)=true)(hv:mA name=none)(h:Q (.ref f,[.ref x]) s):
  wpAny (model prog w) A (getMethod (.ref x) name pl) Q E s:=by
 obtain⟨od,J,hl⟩:=I.look;exact PySem.W.method_fn X J (zg hg).1 (zg hg).2 hf (fT.mp ht) (by show (PySem.W.lookIn name od).map (·.isSome)=some false;rw[hl,hv];rfl) h
theorem Ih(X:K.In s.heap)(I:zW s.heap x dx C mA)(hs:PySem.W.findIn K (.ref C) "__setattr__"=some (some (.builtin "object.__setattr__")))(hp:PySem.W.plainOver K C=true)(ht:PySem.W.takerIn K C name=some none)(hh:PySem.W.hasDictIn K C=true)(hw:PySem.Within mA ns)(ir:ns.length<=sizeLine)(h:∀h',zW h' x dx C (fun y=>if y=name then some v else mA y)->Heap.SameBut dx s.heap h'->Q () { s with heap:=h',toks:=s.toks+2 }):
  wpAny (model prog w) A (setAttr (.ref x) name v) Q E s:=by
 obtain⟨od,J,hl⟩:=I.look;refine PySem.W.set_plain X J hs (PySem.W.osa_open (s:={ s with toks:=s.toks+1 }) (r:=none) X J hp ht fun b=>?_);obtain⟨cd,hc,HZ⟩:=PySem.W.any_some hh;have hx:s.heap.get? x=some ⟨.ref C,some dx,.plain,#[]⟩:=I.obj;refine aA (wpAny_pure (aA (aA (wpAny_loadPart hx (aA (PySem.W.Looks.here (s:={ s with toks:=s.toks+1 }) (PySem.W.looks_clsIn X hc) ?_))))));rw[HZ];refine wpAny_pure (a:=some dx) (aA (wpAny_pure (aA ?_)));refine wpAny_nsSet1 (s:={ s with toks:=s.toks+1 }) I.ns fun h' OY oX=>?_;obtain⟨oD,esD,epD,hoD,Qd,Ii⟩:=OY.count (PySem.Within.cons name v hw);refine aA (wpAny_lookBehind hoD (by rw[Qd];exact pastItsLine_dict (ba Ii (by rw[eF];lia))) ?_);exact wpAny_pure (h _ ⟨(oX.2 _ (dA I.ne)).trans I.obj,OY,I.ne⟩ oX)
theorem EZ(X:K.In s.heap)(hm:PySem.W.makesIn K C=true)(hi:PySem.W.findIn K (.ref C) "__init__"=some (some (.ref f)))(hf:PySem.W.typeIn K (.ref f)=some (.type "function"))(h:codeAny (model prog w) (A.under (.builtin "type.__call__" ⟨.ref C::vs,kw⟩)) (.call (.ref f) ⟨.ref (s.heap.objs.size+1)::vs,kw⟩) (PySem.W.InitBack (s.heap.objs.size+1) R)
   { s with heap:=(s.heap.push PySem.W.emptyDict).push (PySem.W.instObj C s.heap.objs.size) }):
  codeAny (model prog w) A (.call (.ref C) ⟨vs,kw⟩) R s:=by
 obtain⟨hh,g,d,t,os⟩:=s;exact PySem.W.make_core (zB X hm) (PySem.W.looks_findIn X hi) (fun self=>PySem.W.bind_fn X self hf) (.inl rfl) h
theorem Da(X:K.In s.heap)(hm:PySem.W.makesIn K C=true)(hi:PySem.W.findIn K (.ref C) "__init__"=some (some (.builtin "object.__init__")))(hb:∀self,PySem.W.Looks (model prog w) s.heap (bindSpecial (.builtin "object.__init__") self) (.builtin "object.__init__",[self]))(h:codeAny (model prog w) (A.under (.builtin "type.__call__" ⟨[.ref C],[]⟩)) (.call (.builtin "object.__init__") ⟨[.ref (s.heap.objs.size+1)],[]⟩) (PySem.W.InitBack (s.heap.objs.size+1) R)
   { s with heap:=(s.heap.push PySem.W.emptyDict).push (PySem.W.instObj C s.heap.objs.size) }):
  codeAny (model prog w) A (.call (.ref C) ⟨[],[]⟩) R s:=by
 obtain⟨hh,g,d,t,os⟩:=s;exact PySem.W.make_core (zB X hm) (PySem.W.looks_findIn X hi) hb (.inr ⟨rfl,rfl⟩) h
end
def dW(f:Str)(v:V):List (Str×V)->List (Str×V)
 |[]=>[(f,v)]
 |(g,x)::r=>if g=f then (g,v)::r else (g,x)::dW f v r
theorem bH(f g:Str)(v:V):∀fs:List (Str×V),(dW f v fs).lookup g=if g=f then some v else fs.lookup g
 |[]=>by
  show List.lookup g [(f,v)]=_;by_cases h:g=f
  .have hb:(g==f)=true:=fT.mpr h;simp only[List.lookup,hb,ak h]
  .have hb:(g==f)=false:=lL.mpr h;simp only[List.lookup,hb,av h]
 |(k,x)::r=>by
  have ih:=bH f g v r;rw[show dW f v ((k,x)::r)=(if k=f then (k,v)::r else (k,x)::dW f v r) from rfl];by_cases hk:k=f
  .rw[ak hk];by_cases h:g=k
   .have hb:(g==k)=true:=fT.mpr h;simp only[List.lookup,hb,ak (h.trans hk)]
   .have hb:(g==k)=false:=lL.mpr h;simp only[List.lookup,hb,av (fun e:g=f=>h (e.trans hk.symm))]
  .rw[av hk];by_cases h:g=k
   .have hb:(g==k)=true:=fT.mpr h;simp only[List.lookup,hb,av (fun e:g=f=>hk (h.symm.trans e))]
   .have hb:(g==k)=false:=lL.mpr h;simp only[List.lookup,hb];exact ih
theorem oZ(f:Str)(v:V):∀fs:List (Str×V),f∈(dW f v fs).map (·.1)/\∀g,g∈fs.map (·.1)->g∈(dW f v fs).map (·.1)
 |[]=>⟨by simp[dW],fun g h=>by simp at h⟩
 |(k,x)::r=>by
  obtain⟨i1,i2⟩:=oZ f v r;rw[show dW f v ((k,x)::r)=(if k=f then (k,v)::r else (k,x)::dW f v r) from rfl];by_cases hk:k=f
  .rw[ak hk];subst hk;exact⟨by simp,fun g h=>by simpa using h⟩
  .rw[av hk];refine⟨?_,fun g h=>?_⟩
   .rw[fh];exact bA _ i1
   .rw[fh] at h |-;rcases bn.mp h with e|e
    .exact bn.mpr (.inl e)
    .exact bA _ (i2 g e)
theorem eL(f:Str)(v:V):∀fs:List (Str×V),(dW f v fs).length<=fs.length+1
 |[]=>by simp[dW]
 |(k,x)::r=>by
  have ih:=eL f v r;rw[show dW f v ((k,x)::r)=(if k=f then (k,v)::r else (k,x)::dW f v r) from rfl];by_cases hk:k=f
  .rw[ak hk,eF,eF];lia
  .rw[av hk,eF,eF];lia
theorem mx.some_of(r:mx (some v) o):∃u,o=some u/\bR v u:=by
 cases o with
 |none=>exact(show False from r).elim
 |some u=>exact⟨u,rfl,r⟩
theorem mx.none_of(r:mx none o):o=none:=by
 cases o with
 |none=>rfl
 |some u=>exact(show False from r).elim
theorem Db(r:bR v u):PySem.W.handedIn u=true:=by
 cases v with
 |cE=>cases (show u=Value.none from r);rfl
 |bl b=>cases (show u=Value.bool b from r);rfl
 |int i=>obtain⟨t,e⟩:=(show ∃t,u=Value.int i t from r);cases e;rfl
 |str x=>obtain⟨t,e⟩:=(show ∃t,u=Value.str x t from r);cases e;rfl
 |Eh b=>obtain⟨t,e⟩:=(show ∃t,u=Value.bytes b t from r);cases e;rfl
 |LG b=>obtain⟨t,e⟩:=(show ∃t,u=Value.float b t from r);cases e;rfl
 |ref a=>cases (show u=Value.ref a from r);rfl
 |ty n=>cases (show u=Value.type n from r);rfl
section
variable {P:Program} {w:World} {H H':Hp} {h h':Heap} {a C dx:Addr} {fs fs':List (Str×V)}
theorem qA(cz:lX P w H h)(e:H a=some (.ins C dx fs)):∃mA,zW h a dx C mA/\(∀f,mx (fs.lookup f) (mA f))/\PySem.Within mA (fs.map (·.1))/\fs.length<=1000/\H dx=some (.own a):=by
 obtain⟨d,z,ne,ob,mA,n,r,q⟩:=(show cL P w H h a (.ins C dx fs) from cz a _ e)
 exact⟨mA,⟨ob,n,ne⟩,r,q,z,d⟩
end
structure El(K:PySem.W.Frag)(C:Addr):Prop where
 pg:PySem.W.plainGet K C Str.empty=true
 hd:PySem.W.hasDictIn K C=true
 po:PySem.W.plainOver K C=true
 sa:PySem.W.findIn K (.ref C) "__setattr__"=some (some (.builtin "object.__setattr__"))
theorem El.get{K:PySem.W.Frag}{C:Addr}(c:El K C)(f:Str):PySem.W.plainGet K C f=true:=c.pg
def iu(K:PySem.W.Frag)(C:Addr)(f:Str):Prop:=PySem.W.findIn K (.ref C) f=some none
theorem iu.Qe{K:PySem.W.Frag}{C:Addr}{f:Str}(n:iu K C f):PySem.W.takerIn K C f=some none:=by
 unfold PySem.W.takerIn;rw[show PySem.W.findIn K (.ref C) f=some none from n];rfl
structure LZ(K:PySem.W.Frag)(C:Addr)(m:Str)(f:Addr):Prop where
 at_:PySem.W.findIn K (.ref C) m=some (some (.ref f))
 fn:PySem.W.isFn K (.ref f)=true
 kp:PySem.W.keepIn K (.ref f)=true
section
variable {X:Cx} {af:List (Addr×Obj)} {σ:St} {H:Hp} {s:Shared} {a C dx:Addr} {fs:List (Str×V)} {f:Str} {v:V} {A:Around} {E:Value->Shared->Prop}
theorem zX(I:aS X af σ H s)(e:H a=some (.ins C dx fs))(c:El X.K C)(n:iu X.K C f)(l:fs.lookup f=some v)(h:∀u s',aS X af σ H s'->bR v u->Q u s'):wpAny (model X.prog X.w) A (getAttr (.ref a) f b) Q E s:=by
 obtain⟨mA,O,r,_,_,_⟩:=qA I.cz e;obtain⟨u,hu,ru⟩:=mx.some_of (v:=v) (o:=mA f) (by rw[<-l];exact r f);exact Ie I.my O (c.get f) c.hd n hu (Db ru) (h u _ (I.tok _) ru)
theorem zY(I:aS X af σ H s)(e:H a=some (.ins C dx fs))(c:El X.K C)(k:LZ X.K C m g)(l:fs.lookup m=none)(h:Q (.ref g,[.ref a]) s):wpAny (model X.prog X.w) A (getMethod (.ref a) m pl) Q E s:=by
 obtain⟨mA,O,r,_,_,_⟩:=qA I.cz e;have hn:mA m=none:=mx.none_of (by rw[<-l];exact r m);exact EY I.my O (c.get m) k.at_ k.fn hn h
theorem zZ(I:aS X af σ H s)(e:H a=some (.ins C dx fs))(c:El X.K C)(n:iu X.K C f)(hl:fs.length<1000)(ry:bR y u)(h:∀s',aS X af σ (upd H a (.ins C dx (dW f y fs))) s'->Q () s'):wpAny (model X.prog X.w) A (setAttr (.ref a) f u) Q E s:=by
 obtain⟨mA,O,r,wi,_,ho⟩:=qA I.cz e;have hz:(fs.map (·.1)).length<=sizeLine:=by rw[aR,gJ];lia
 refine Ih I.my O c.sa c.po n.Qe c.hd wi hz fun h' O' sb=>h _ ?_;have hd:∃o,h'.get? dx=some o:=let ⟨o,_,_,e',_⟩:=O'.ns;⟨o,e'⟩;refine I.write (x:=a) (e:=dx) (by rw[e];exact True.intro) (.inr ho) (fun b q hb z=>(sb.2 b hb).trans z) hd ?_;refine⟨by rw[ao O.ne];exact ho,?_,O.ne,O'.obj,_,O'.ns,fun g=>?_,fun g hg=>?_⟩
 .have:=eL f y fs;lia
 .show mx ((dW f y fs).lookup g) (if g=f then some u else mA g);rw[bH];by_cases q:g=f
  .rw[ak q,ak q];exact ry
  .rw[av q,av q];exact r g
 .by_cases q:g=f
  .rw[q];exact(oZ f y fs).1
  .refine(oZ f y fs).2 g (wi g fun z=>hg ?_);show (if g=f then some u else mA g)=none;rw[av q];exact z
theorem aS.made(I:aS X af σ H s):aS X af σ (upd (upd H s.heap.objs.size (.own (s.heap.objs.size+1))) (s.heap.objs.size+1) (.ins C s.heap.objs.size []))
  { s with heap:=(s.heap.push PySem.W.emptyDict).push (PySem.W.instObj C s.heap.objs.size) }:=by
 have e1:(s.heap.push PySem.W.emptyDict).get? s.heap.objs.size=some PySem.W.emptyDict:=cB s.heap rfl;have e2:((s.heap.push PySem.W.emptyDict).push (PySem.W.instObj C s.heap.objs.size)).get? (s.heap.objs.size+1)=some (PySem.W.instObj C s.heap.objs.size):=by
  have:=cB (s.heap.push PySem.W.emptyDict) (o:=PySem.W.instObj C s.heap.objs.size) rfl;rwa [im] at this
 have e3:(s.heap.push PySem.W.emptyDict).Ns s.heap.objs.size (fun _=>none):=⟨PySem.W.emptyDict,#[],_,e1,rfl,(fun e he=>absurd he (by simp)),fun _=>rfl⟩
 have I1:=I.laid (a:=s.heap.objs.size) (o:=.own (s.heap.objs.size+1)) (h':=s.heap.push PySem.W.emptyDict) (t':=s.toks) (fun b u q=>bL _ q) (aU _) ⟨_,e1⟩;refine I1.laid (a:=s.heap.objs.size+1) (o:=.ins C s.heap.objs.size []) (t':=s.toks) (fun b u q=>bL _ q) (rh (im _ _)) ?_;have ne:s.heap.objs.size≠s.heap.objs.size+1:=aW (jk _);refine⟨by rw[ao ne,ae],cx _,ne,e2,fun _=>none,(Heap.Ns1.of_empty e3).at fun o q=>bL _ q,fun _=>True.intro,fun y hy=>absurd rfl hy⟩
theorem Ij(hb:attributeBase e f env (eval e env)=eval e env)(h:wpAny (model prog w) A (eval e env) (fun o s₁=>wpAny (model prog w) A (getAttr o f true) Q E s₁) E s):wpAny (model prog w) A (eval (.Attribute e f pos) env) Q E s:=
 Attribute_any_ h (by rw[arm_eval_Attribute,hb])
end
def Ik(K:PySem.W.Frag)(ta:TE)(f:Str):TE:=fun σ H Q=>ta σ H fun x H1=>∃a C dx fs v,x=.ref a/\H1 a=some (.ins C dx fs)/\El K C/\iu K C f/\fs.lookup f=some v/\Q v H1
def Vp(K:PySem.W.Frag)(ta tv:TE)(f:Str):TS:=fun D σ H=>tv σ H fun y H1=>ta σ H1 fun x H2=>∃a C dx fs,x=.ref a/\H2 a=some (.ins C dx fs)/\El K C/\iu K C f/\fs.length<1000/\
 D.nx σ (upd H2 a (.ins C dx (dW f y fs)))
section
variable {X:Cx} {o e value:Expr} {f:Str} {pos C6 Il:Pos} {ta tv:TE}
theorem jv(he:PE X e ta)(hb:attributeBase e f X.env (eval e X.env)=eval e X.env):PE X (.Attribute e f pos) (Ik X.K ta f):=by
 intro af s σ H Q I h;refine Ij hb (dJ (he af s σ H _ I h) fun u s1 ⟨x,H1,I1,rx,a,C,dx,fs,v,ex,ea,c,n,l,q⟩=>?_);subst ex;obtain rfl:u=Value.ref a:=rx;exact zX I1 ea c n l fun u' s2 I2 ru=>⟨v,H1,I2,ru,q⟩
theorem rD(ha:PE X o ta)(hv:PE X value tv)(hs:swapsWith value (some (.Attribute o f C6)) pos.line X.env=pure false):PS X (.Assign [.Attribute o f C6] value pos) (Vp X.K ta tv f):=by
 intro af s σ H D I h;refine plainObj_wpAny_Assign_Attribute (dJ (hv af s σ H _ I h) fun u s1 ⟨y,H1,I1,ry,q⟩=>dJ (ha af s1 σ H1 _ I1 q) fun ov s2 ⟨x,H2,I2,rx,a,C,dx,fs,ex,ea,c,n,l,q2⟩=>?_) hs;subst ex;obtain rfl:ov=Value.ref a:=rx;exact zZ I2 ea c n l ry fun s3 I3=>⟨σ,_,I3,q2⟩
end
section
variable {X:Cx} {af:List (Addr×Obj)} {σ:St} {H:Hp} {s:Shared} {A:Around} {E:Value->Shared->Prop} {Q:Value->Shared->Prop} {c:Value} {b:Bool}
inductive o0 (K:PySem.W.Frag) (H:Hp):V->Value->Prop where
 |cE:o0 K H .cE (.type "NoneType")
 |bl (x:Bool):o0 K H (.bl x) (.type "bool")
 |int (i:Int):o0 K H (.int i) (.type "int")
 |str (x:Str):o0 K H (.str x) (.type "str")
 |LG (x:UInt64):o0 K H (.LG x) (.type "float")
 |lst {a:Addr} {xs:List V} (e:H a=some (.lst xs)):o0 K H (.ref a) (.type "list")
 |wR {a:Addr} {o:Obj} {xs:List V} (e:H a=some (.wR o (.lst xs))):o0 K H (.ref a) (.type "list")
 |tup {a:Addr} {xs:List V} (e:H a=some (.tup xs)):o0 K H (.ref a) (.type "tuple")
 |dK {a:Addr} {dk:List (h_×V)} (e:H a=some (.dK dk)):o0 K H (.ref a) (.type "dict")
 |dT {a:Addr} {dk:List (List h_×V)} (e:H a=some (.dT dk)):o0 K H (.ref a) (.type "dict")
 |ins {a C dx:Addr} {fs:List (Str×V)} (e:H a=some (.ins C dx fs)) (cl:El K C) (ha:PySem.W.findIn K (.ref C) "__class__"=some (some (.builtin "object.__class__")))
   (hn:PySem.W.specialIn K (.builtin "object.__class__") "__get__"=some (some (.builtin "getset_descriptor.__get__"))) (Qf:PySem.W.takesIn K (.builtin "object.__class__")=some true)
   (hm:PySem.W.mroIn K C (.type "object")=some true):o0 K H (.ref a) (.ref C)
theorem ua(I:aS X af σ H s)(rx:bR x u)(ty:o0 X.K H x t)(e:PySem.W.kitOne X.K t c=some b)(h:∀tk,Q (.bool b) { s with toks:=tk }):
  wpAny (model X.prog X.w) A (call (.builtin "isinstance") [u,c]) Q E s:=by
 cases ty with
 |cE=>cases (show u=Value.none from rx);exact i_ PySem.W.kitx_none I.my True.intro e (fun z=>nomatch z) h
 |bl y=>cases (show u=Value.bool y from rx);exact i_ PySem.W.kitx_bool I.my True.intro e (fun z=>nomatch z) h
 |int i=>obtain⟨t,q⟩:=(show ∃t,u=Value.int i t from rx);cases q;exact i_ PySem.W.kitx_int I.my True.intro e (fun z=>nomatch z) h
 |str y=>obtain⟨t,q⟩:=(show ∃t,u=Value.str y t from rx);cases q;exact i_ PySem.W.kitx_str I.my True.intro e (fun z=>nomatch z) h
 |LG y=>obtain⟨t,q⟩:=(show ∃t,u=Value.float y t from rx);cases q;exact i_ PySem.W.kitx_float I.my True.intro e (fun z=>nomatch z) h
 |@lst a xs ea=>
  cases (show u=Value.ref a from rx);obtain⟨_,_,n,_,h1⟩:=(show cL X.prog X.w H s.heap a (.lst xs) from I.cz a _ ea)
  exact i_ PySem.W.kitx_list I.my ⟨_,h1,rfl⟩ e (fun z=>nomatch z) h
 |@wR a ob xs ea=>
  cases (show u=Value.ref a from rx);obtain⟨_,_,_,n,_,h1⟩:=(show cL X.prog X.w H s.heap a (.wR ob (.lst xs)) from I.cz a _ ea)
  exact i_ PySem.W.kitx_list I.my ⟨_,h1,rfl⟩ e (fun z=>nomatch z) h
 |@tup a xs ea=>
  cases (show u=Value.ref a from rx);obtain⟨_,_,_,p⟩:=(show cL X.prog X.w H s.heap a (.tup xs) from I.cz a _ ea)
  obtain⟨o,h1,h2,_⟩:=p;exact i_ PySem.W.kitx_tuple I.my ⟨o,h1,h2⟩ e (fun z=>nomatch z) h
 |@dK a dk ea=>
  cases (show u=Value.ref a from rx);obtain⟨_,_,vs,_,p⟩:=(show cL X.prog X.w H s.heap a (.dK dk) from I.cz a _ ea)
  obtain⟨o,es,ep,h1,h2,_⟩:=p;exact i_ PySem.W.kitx_dict I.my ⟨o,h1,h2.1⟩ e (fun z=>nomatch z) h
 |@dT a dk ea=>
  cases (show u=Value.ref a from rx);obtain⟨_,_,xs,_,o,es,ep,h1,h2,_⟩:=(show cL X.prog X.w H s.heap a (.dT dk) from I.cz a _ ea)
  exact i_ PySem.W.kitx_dict I.my ⟨o,h1,h2.1⟩ e (fun z=>nomatch z) h
 |@ins a C dx fs ea cl ha hn Qf hm=>
  cases (show u=Value.ref a from rx);obtain⟨mA,O,_⟩:=qA I.cz ea;obtain⟨od,J,_⟩:=O.look;exact i_ (PySem.W.kitx_own (cl.get _) cl.hd ha hn Qf hm) I.my J e (fun z=>nomatch z) h
end
structure cy(k:Nat)(A:Around):Prop where
 hd:A.handled=none
 dp:A.depth+3*k+5<recursionLimit
 un:A.units+16*k+200<cLine
 gd:A.guards=some []
theorem cy.mono(r:cy k A)(h:j<=k):cy j A:=⟨r.hd,by have:=r.dp;lia,by have:=r.un;lia,r.gd⟩
theorem cy.deeper(r:cy (k+1) A)(env:Env):cy k (A.deeper env):=
 ⟨r.hd,by have:=r.dp;show A.depth+1+3*k+5<_;lia,by have:=r.un;show A.units+3+16*k+200<_;lia,r.gd⟩
theorem cy.in1(r:cy (k+1) A):cy k A.in1:=
 ⟨r.hd,by have:=r.dp;show A.depth+3*k+5<_;lia,by have:=r.un;show A.units+1+16*k+200<_;lia,r.gd⟩
theorem z4{A:Around}{C:Addr}{us:List Value}{kw:List (Str×Value)}:(A.under (.builtin "type.__call__" ⟨.ref C::us,kw⟩)).depth=A.depth+1:=by
 first|rfl|simp[Around.under,Code.weight,Code.isCreation,Code.isGuard,Code.isCaller,Code.frames,Code.isFrame,guardIds]
theorem z6{A:Around}{C:Addr}{us:List Value}{kw:List (Str×Value)}:(A.under (.builtin "type.__call__" ⟨.ref C::us,kw⟩)).units=A.units+1:=by
 first|rfl|simp[Around.under,Code.cUnits,Code.frames,Code.isFrame]
theorem cy.make(r:cy (k+1) A)(C:Addr)(us:List Value)(kw:List (Str×Value)):cy k (A.under (.builtin "type.__call__" ⟨.ref C::us,kw⟩)):=
 ⟨r.hd,by have:=r.dp;rw[z4];lia,by have:=r.un;rw[z6];lia,r.gd⟩
theorem cy.depth(r:cy k A):A.depth<recursionLimit:=by have:=r.dp;lia
theorem cy.u(r:cy k A)(h:n<=200:=by decide):A.units+n<cLine:=by have:=r.un;lia
def gg:TA:=fun _ H Q=>Q [] H
def bz(ta:TE)(tr:TA):TA:=fun σ H Q=>ta σ H fun x H1=>tr σ H1 fun xs H2=>Q (x::xs) H2
section
variable {X:Cx} {e:Expr} {es:List Expr} {te:TE} {t:TA} {pos:Pos}
theorem ag:PA X [] gg:=fun _ _ _ _ H Q I h=>Calls.spliced_nil ⟨[],H,I,.nil,h⟩
theorem aa(ha:PE X e te)(hr:PA X es t)(hs:starEach (e::es) X.env=(false,eval e X.env)::starEach es X.env:=by rfl):PA X (e::es) (bz te t):=by
 intro pos af s σ H Q I h;rw[hs];show wpAny _ _ (spliced ((false,eval e X.env)::backTo pos (starEach es X.env))) _ _ s;refine Calls.spliced_cons (dJ (ha af s σ H _ I h) fun u s1 ⟨x,H1,I1,r1,q1⟩=>?_);exact dJ (hr pos af s1 σ H1 _ I1 q1) fun us s2 ⟨xs,H2,I2,r2,q2⟩=>⟨x::xs,H2,I2,.cons r1 r2,q2⟩
def o4(t:TA):TE:=fun σ H Q=>t σ H fun xs H1=>xs.length<=sizeLine/\∀p,H1 p=none->Q (.ref p) (upd H1 p (.tup xs))
def Vq(t:TA):TE:=fun σ H Q=>t σ H fun xs H1=>xs.length<=sizeLine/\∀p,H1 p=none->Q (.ref p) (upd H1 p (.lst xs))
theorem cH{x1}(h:PA X es t):PE X (.Tuple es x1 pos) (o4 t):=by
 intro af s σ H Q I hq;refine wpAny_Tuple_spliced (dJ (h pos af s σ H _ I hq) fun us s1 ⟨xs,H1,I1,r,z,q⟩=>⟨by rw[<-r.length];exact z,?_⟩);have hf:H1 s1.heap.objs.size=none:=I1.cz.fresh (aU _);refine⟨.ref s1.heap.objs.size,upd H1 s1.heap.objs.size (.tup xs),I1.laid (t':=s1.toks) (fun b u e=>bL _ e) (aU _) ?_,rfl,q _ hf⟩;exact⟨z,us,r,⟨_,cB _ rfl,rfl,_,rfl,rfl⟩⟩
theorem cY(h:PA X es t):PE X (.List es pos) (Vq t):=by
 intro af s σ H Q I hq;refine wpAny_List_spliced (dJ (h pos af s σ H _ I hq) fun us s1 ⟨xs,H1,I1,r,z,q⟩=>⟨by rw[<-r.length];exact z,?_⟩);have hf:H1 s1.heap.objs.size=none:=I1.cz.fresh (aU _);refine⟨.ref s1.heap.objs.size,upd H1 s1.heap.objs.size (.lst xs),I1.laid (t':=s1.toks) (fun b u e=>bL _ e) (aU _) ?_,rfl,q _ hf⟩;exact⟨z,us,0,r,cB _ rfl⟩
end
abbrev Sp:=List V->Hp->VK->XK->Prop
abbrev yF:=List Env->Hp->Shared->XK->Value->Shared->Prop
structure z7(P:Program)(w:World)(K:PySem.W.Frag)(mg:Str->Option Value)(base:Heap)(A:Around)(outer:List Env)(s:Shared)(H:Hp):Prop where
 frames:A.frames=some outer
 mod:Mod K mg base
 bs:∀b o,base.get? b=some o->s.heap.get? b=some o/\H b=none
 EM:base.objs.size<=s.heap.objs.size
 qa:s.heap.FunFrames base outer
 LI:∀b∈Ei outer,H b=none
 cz:lX P w H s.heap
 bare:AllBare s.gens
def CE(outer:List Env)(P:Program)(w:World)(H:Hp)(s:Shared)(Q:VK)(u:Value)(s':Shared):Prop:=
 ∃v H',s'.os=s.os/\AllBare s'.gens/\Un (Ei outer) [] H H' s.heap s'.heap/\lX P w H' s'.heap/\bR v u/\Q v H'
def CR(CX:yF)(outer:List Env)(P:Program)(w:World)(H:Hp)(s:Shared)(Q:VK)(E:XK)(r:Result)(s':Shared):Prop:=
 match r with
 |.ok (.ret u)=>CE outer P w H s Q u s'
 |.ok _=>False
 |.error e=>CX outer H s E e s'
structure bJ(P:Program)(w:World)(K:PySem.W.Frag)(mg:Str->Option Value)(base:Heap)(CX:yF)(k:Nat)(f:Addr)(fd:FuncData)(ps:List Str)(sp:Sp):Prop where
 len:∀vs H Q E,sp vs H Q E->vs.length=ps.length
 run:∀ (A:Around) (outer:List Env) (s:Shared) (H:Hp) (args:Args) (us:List Value) (vs:List V) (Q:VK) (E:XK),cy k A->z7 P w K mg base A outer s H->BindsTo s fd args (ps.zip us)->a8 vs us->sp vs H Q E->
  codeAny (model P w) A (.call (.ref f) args) (CR CX outer P w H s Q E) s
theorem z7.make{P:Program}{w:World}{K:PySem.W.Frag}{mg:Str->Option Value}{base:Heap}{A:Around}{outer:List Env}{s:Shared}{H:Hp}(e:z7 P w K mg base A outer s H)(C:Addr)(us:List Value)(kw:List (Str×Value)):
  z7 P w K mg base (A.under (.builtin "type.__call__" ⟨.ref C::us,kw⟩)) outer s H:=⟨by first|exact e.frames|(simpa [Around.under,Code.envs,Code.isFrame,pushEnvs] using e.frames),e.mod,e.bs,e.EM,e.qa,e.LI,e.cz,e.bare⟩
section
variable {X:Cx} {af:List (Addr×Obj)} {σ:St} {H:Hp} {s s':Shared}
theorem aS.Qg(I:aS X af σ H s):z7 X.prog X.w X.K X.mg X.base X.A X.stack s H:=
 ⟨I.ok.frames,I.ok.mod,I.bs,ba I.ok.EM I.sz,I.stack,I.vE,I.cz,I.bare⟩
theorem aS.after(I:aS X af σ H s)(h:CE X.stack X.prog X.w H s Q u s'):EP X af σ Q u s':=by
 obtain⟨v,H',os,bare,un,cz,r,q⟩:=h;obtain⟨hh,g,d,t,os'⟩:=s';obtain rfl:os'=s.os:=os;exact⟨v,H',I.call (h':=hh) (g':=g) (d':=d) (t':=t) (ch:=[]) un cz bare (fun b z=>absurd z (by simp)),r,q⟩
end
def pO(sp:Sp)(s_:List V)(E:XK)(t:TA):TE:=fun σ H Q=>t σ H fun vs H1=>sp (vs++s_) H1 Q E
def BA(C:Addr)(m:Str)(sp:Sp)(s_:List V)(E:XK)(ta:TE)(t:TA):TE:=fun σ H Q=>ta σ H fun x H1=>∃a dx fs,x=.ref a/\H1 a=some (.ins C dx fs)/\fs.lookup m=none/\
 t σ H1 fun vs H2=>sp (x::(vs++s_)) H2 Q E
def Qh(C:Addr)(sp:Sp)(s_:List V)(E:XK)(t:TA):TE:=fun σ H Q=>t σ H fun vs H1=>∀x dx,H1 x=none->H1 dx=none->dx≠x->
 sp (.ref x::(vs++s_)) (upd (upd H1 dx (.own x)) x (.ins C dx [])) (fun v H2=>v=.cE/\Q (.ref x) H2) E
def jI(K:PySem.W.Frag)(fd:FuncData)(ps:List Str)(ds:List Value):Prop:=
 ∀ (s:Shared) (us:List Value),K.In s.heap->(us++ds).length=ps.length->BindsTo s fd ⟨us,[]⟩ (ps.zip (us++ds))
theorem jI.all{K:PySem.W.Frag}{fd:FuncData}{ps:List Str}(h:∀us:List Value,us.length=ps.length->bindArgs fd ⟨us,[]⟩=pure (ps.zip us)):jI K fd ps []:=fun s us _ hl=>by
 rw[j5] at hl |-;exact .of_eq (h us hl)
def lZ(CX:yF)(X:Cx)(E:XK):Prop:=∀ (af:List (Addr×Obj)) (σ:St) (H:Hp) (s:Shared) (e:Value) (s':Shared),aS X af σ H s->CX X.stack H s E e s'->X.xe e s'
section
variable {X:Cx} {CX:yF} {k:Nat} {f C:Addr} {fd:FuncData} {ps:List Str} {sp:Sp} {s_:List V} {ds:List Value} {E:XK} {x m:Str} {p pos vK:Pos} {e o:Expr} {es:List Expr} {ta:TE} {t:TA}
theorem E3(F:bJ X.prog X.w X.K X.mg X.base CX k f fd ps sp)(hr:cy k X.A)(hb:jI X.K fd ps ds)(hd:a8 s_ ds)(hx:lZ CX X E)(I:aS X af σ H s)(r:a8 vs us)(h:sp (vs++s_) H Q E):wpAny (model X.prog X.w) X.A (call (.ref f) us) (EP X af σ Q) X.xe s:=by
 have r2:a8 (vs++s_) (us++ds):=r.append hd;have hl:(us++ds).length=ps.length:=by rw[<-r2.length];exact F.len _ _ _ _ h
 refine oO (oM (F.run X.A X.stack s H ⟨us,[]⟩ (us++ds) (vs++s_) Q E hr I.Qg (hb s us I.my hl) r2 h) fun r s' hq=>?_);cases r with
 |error e=>exact hx af σ H s e s' I hq
 |ok fl=>
  cases fl with
  |ret u=>exact I.after hq
  |next=>exact False.elim hq
  |brk=>exact False.elim hq
  |cont=>exact False.elim hq
theorem Im(F:bJ X.prog X.w X.K X.mg X.base CX k f fd ps sp)(hr:cy k X.A)(hg:Gl X x)(hm:X.mg x=some (.ref f))(hk:PySem.W.keepIn X.K (.ref f)=true)(hb:jI X.K fd ps ds)(hd:a8 s_ ds)(hx:lZ CX X E)(ha:PA X (e::es) t)(Dc:(x==("__debug__":Str))=false:=by decide)(he:starEach (e::es) X.env=(false,eval e X.env)::starEach es X.env:=by rfl)(Em:(backTo pos (starEach es X.env)).any (·.1)=false:=by rfl):
  PE X (.Call (.Name x p) (e::es) [] pos) (pO sp s_ E t):=by
 intro af s σ H Q I h;refine lN (qw I hg hm ?_ Dc);refine zn (h₀:=X.base) I.ok.mod.PL hk (dJ (ha pos af s σ H _ I h) fun us s1 ⟨vs,H1,I1,r,q⟩=>⟨I1.my,?_⟩) he Em;exact E3 F hr hb hd hx I1 r q
theorem dX(he:PE X o ta)(c:El X.K C)(hm:LZ X.K C m f)(F:bJ X.prog X.w X.K X.mg X.base CX k f fd ps sp)(hr:cy k X.A)(hb:jI X.K fd ps ds)(hd:a8 s_ ds)(hx:lZ CX X E)(ha:PA X (e::es) t)(nG:starEach (e::es) X.env=(false,eval e X.env)::starEach es X.env:=by rfl)(Em:(backTo pos (starEach es X.env)).any (·.1)=false:=by rfl)(ht:eval (.Call (.Attribute o m vK) (e::es) [] pos) X.env=(do
   let ov <- eval o X.env
   standAt vK.atName
   let (f,first) <- holding [ov] (getMethod ov m pl)
   callWith pos f first (backTo pos (starEach (e::es) X.env)) (backToKw pos (keywordEach [] X.env))):=by rfl):
  PE X (.Call (.Attribute o m vK) (e::es) [] pos) (BA C m sp s_ E ta t):=by
 intro af s σ H Q I h;refine PySem.W.methodCall_KW (pl:=pl) (dJ (he af s σ H _ I h) fun u s1 ⟨x,H1,I1,rx,a,dx,fs,ex,ea,l,q⟩=>?_) ht;subst ex;obtain rfl:u=Value.ref a:=rx;refine zY I1 ea c hm l ?_;refine zn (first:=[.ref a]) (h₀:=X.base) I.ok.mod.PL hm.kp (dJ (ha pos af s1 σ H1 _ I1 q) fun us s2 ⟨vs,H2,I2,r,q2⟩=>⟨I2.my,?_⟩) nG Em;exact E3 (us:=.ref a::us) (vs:=.ref a::vs) F hr hb hd hx I2 (.cons rfl r) q2
structure Mk(K:PySem.W.Frag)(C f:Addr):Prop where
 makes:PySem.W.makesIn K C=true
 init:PySem.W.findIn K (.ref C) "__init__"=some (some (.ref f))
 fn:PySem.W.isFn K (.ref f)=true
 kp:PySem.W.keepIn K (.ref C)=true
theorem E4(M:Mk X.K C f)(F:bJ X.prog X.w X.K X.mg X.base CX k f fd ps sp)(hr:cy (k+1) X.A)(hb:jI X.K fd ps ds)(hd:a8 s_ ds)(hx:lZ CX X E)(I:aS X af σ H s)(r:a8 vs us)(h:∀x dx,H x=none->H dx=none->dx≠x->sp (.ref x::(vs++s_)) (upd (upd H dx (.own x)) x (.ins C dx [])) (fun v H2=>v=.cE/\Q (.ref x) H2) E):
  wpAny (model X.prog X.w) X.A (call (.ref C) us) (EP X af σ Q) X.xe s:=by
 have hq:=h (s.heap.objs.size+1) s.heap.objs.size (I.cz.fresh (vA _)) (I.cz.fresh (aU _)) (aW (jk _));have I2:=aS.made (C:=C) I;have r2:a8 (V.ref (s.heap.objs.size+1)::(vs++s_)) (Value.ref (s.heap.objs.size+1)::(us++ds)):=.cons rfl (r.append hd);have hl:(Value.ref (s.heap.objs.size+1)::us++ds).length=ps.length:=by
  have e:=r2.length;rw[F.len _ _ _ _ hq] at e;exact e.symm
 refine oO (EZ (f:=f) I.my M.makes M.init (fT.mp M.fn) (oM (F.run _ X.stack _ _ ⟨Value.ref (s.heap.objs.size+1)::us,[]⟩ (Value.ref (s.heap.objs.size+1)::(us++ds)) _ _ E (hr.make C us [])
  (I2.Qg.make C us []) (hb _ (Value.ref (s.heap.objs.size+1)::us) I2.my hl) r2 hq) fun r s' Io=>?_))
 cases r with
 |error e=>exact hx af σ _ _ e s' I2 Io
 |ok fl=>
  cases fl with
  |ret u=>
   obtain⟨v,H',I3,rv,ev,q3⟩:=I2.after Io;subst ev;exact⟨rv,⟨V.ref (s.heap.objs.size+1),H',I3,rfl,q3⟩⟩
  |next=>exact False.elim Io
  |brk=>exact False.elim Io
  |cont=>exact False.elim Io
theorem BB(M:Mk X.K C f)(F:bJ X.prog X.w X.K X.mg X.base CX k f fd ps sp)(hr:cy (k+1) X.A)(hg:Gl X x)(hm:X.mg x=some (.ref C))(hb:jI X.K fd ps ds)(hd:a8 s_ ds)(hx:lZ CX X E)(ha:PA X (e::es) t)(Dc:(x==("__debug__":Str))=false:=by decide)(he:starEach (e::es) X.env=(false,eval e X.env)::starEach es X.env:=by rfl)(Em:(backTo pos (starEach es X.env)).any (·.1)=false:=by rfl):
  PE X (.Call (.Name x p) (e::es) [] pos) (Qh C sp s_ E t):=by
 intro af s σ H Q I h;refine lN (qw I hg hm ?_ Dc);refine zn (h₀:=X.base) I.ok.mod.PL M.kp (dJ (ha pos af s σ H _ I h) fun us s1 ⟨vs,H1,I1,r,q⟩=>⟨I1.my,?_⟩) he Em;exact E4 M F hr hb hd hx I1 r q
end
def PK(X:Cx)(E5:List Keyword)(t:TA):Prop:=
 ∀ (pos:Pos) (af:List (Addr×Obj)) (s:Shared) (σ:St) (H:Hp) (Q:List V->Hp->Prop),aS X af σ H s->t σ H Q->wpAny (model X.prog X.w) X.A (evalAll ((backToKw pos (keywordEach E5 X.env)).map (·.2))) (AP X af σ Q) X.xe s
section
variable {X:Cx} {CX:yF} {k:Nat} {f C:Addr} {fd:FuncData} {ps ks:List Str} {sp:Sp} {E:XK} {x m:Str} {p pos vK Vr:Pos} {e o:Expr} {es:List Expr} {E5:List Keyword} {te ta:TE} {t tk:TA} {nm:Option Str}
theorem rE:PK X [] gg:=fun _ _ _ _ H Q I h=>wpAny_evalAll_nil ⟨[],H,I,.nil,h⟩
theorem mH(ha:PE X e te)(hr:PK X E5 t):PK X (⟨nm,e,Vr⟩::E5) (bz te t):=by
 intro pos af s σ H Q I h;show wpAny _ _ (evalAll ((do let v <- eval e X.env;standAt pos;pure v)::(backToKw pos (keywordEach E5 X.env)).map (·.2))) _ _ s;refine wpAny_evalAll_cons (aA (dJ (ha af s σ H _ I h) fun u s1 ⟨x,H1,I1,r1,q1⟩=>aA (oH (wpAny_pure ?_))));exact dJ (hr pos af s1 σ H1 _ I1 q1) fun us s2 ⟨xs,H2,I2,r2,q2⟩=>⟨x::xs,H2,I2,.cons r1 r2,q2⟩
variable {g:List Value->List Value->List Value} {gV:List V->List V->List V}
end
structure aP(N P:List Str)(sc:Scope):Prop where
 kind:sc.kind=.function
 co:sc.isCoroutine=false
 gen:sc.isGenerator=false
 nd:N.Nodup
 pre:N.take P.length=P
 par:∀x∈P,sc.names.lookup x=some .local\/sc.names.lookup x=some .cell
 L3:∀y∈sc.names,y.2≠.free
theorem ub{kindOf:Str->Option NameKind}{x:Str}:∀ {binds:List (Str×Value)} {m:Str->Option Value},(∀v,(x,v)∉binds)->bindL kindOf binds m x=m x
 |[],_,_=>rfl
 |(n,v)::r,m,h=>by
  unfold bindL;rw[ub fun w hw=>h w (bA _ hw)];split
  .have:x≠n:=by rintro rfl;exact h v bu
   simp[this]
  .rfl
theorem uc{kindOf:Str->Option NameKind}{x:Str}:∀ {binds:List (Str×Value)} {m:Str->Option Value},(∀v,(x,v)∉binds)->bindC kindOf binds m x=m x
 |[],_,_=>rfl
 |(n,v)::r,m,h=>by
  unfold bindC;rw[uc fun w hw=>h w (bA _ hw)];split
  .rfl
  .have:x≠n:=by rintro rfl;exact h v bu
   simp[this]
theorem ud{kindOf:Str->Option NameKind}{x:Str}{v:Value}:∀ {P:List Str} {vs:List Value} {i:Nat} {m:Str->Option Value},P.Nodup->P[i]?=some x->vs[i]?=some v->kindOf x=some .local->
  bindL kindOf (P.zip vs) m x=some v
 |[],_,_,_,_,h,_,_=>by simp at h
 |_::_,[],_,_,_,_,h,_=>by simp at h
 |p::P,w::vs,0,m,nd,h1,h2,hk=>by
  simp at h1 h2;subst h1;subst h2;show bindL kindOf ((p,w)::P.zip vs) m p=_;unfold bindL;rw[ub fun v hv=>(fN.mp nd).1 (q9 hv).1,ak hk];simp
 |p::P,w::vs,i+1,m,nd,h1,h2,hk=>by
  show bindL kindOf ((p,w)::P.zip vs) m x=_;unfold bindL;exact ud (i:=i) (fN.mp nd).2 (by simpa using h1) (by simpa using h2) hk
theorem ue{kindOf:Str->Option NameKind}{x:Str}{v:Value}:∀ {P:List Str} {vs:List Value} {i:Nat} {m:Str->Option Value},P.Nodup->P[i]?=some x->vs[i]?=some v->kindOf x≠some .local->
  bindC kindOf (P.zip vs) m x=some v
 |[],_,_,_,_,h,_,_=>by simp at h
 |_::_,[],_,_,_,_,h,_=>by simp at h
 |p::P,w::vs,0,m,nd,h1,h2,hk=>by
  simp at h1 h2;subst h1;subst h2;show bindC kindOf ((p,w)::P.zip vs) m p=_;unfold bindC;rw[uc fun v hv=>(fN.mp nd).1 (q9 hv).1,av hk];simp
 |p::P,w::vs,i+1,m,nd,h1,h2,hk=>by
  show bindC kindOf ((p,w)::P.zip vs) m x=_;unfold bindC;exact ue (i:=i) (fN.mp nd).2 (by simpa using h1) (by simpa using h2) hk
def start(N:List Str)(vs:List V):St:=vs.map some++List.replicate (N.length-vs.length) none
def kD(CX:yF)(P:Program)(w:World)(K:PySem.W.Frag)(mg:Str->Option Value)(base:Heap)(N:List Str)(qual:Str)(scope:Scope)(f:Addr)(cd:Value)(A:Around)(outer:List Env)(s:Shared)(H:Hp)(E:XK):Cx where
 prog:=P
 w:=w
 K:=K
 mg:=mg
 base:=base
 A:=A.deeper (envOfC qual scope s.heap.objs.size f cd)
 N:=N
 s₀:=s
 H₀:=H
 env:=envOfC qual scope s.heap.objs.size f cd
 outer:=outer
 stack:=envOfC qual scope s.heap.objs.size f cd::outer
 ex:=[]
 calm:=true
 fn:=fun _=>true
 pn:=[]
 xe:=fun e s'=>wpAny (model P w) (A.deeper (envOfC qual scope s.heap.objs.size f cd)) (leaving (envOfC qual scope s.heap.objs.size f cd) e) (fun _ HK=>CX outer H s E e HK) (fun e' HK=>CX outer H s E e' HK) s'
theorem xh{sc:Scope}{n:Nat}{x:Str}(h:sc.names.lookup x=some .cell):∃c,(cellsFrom n sc.names []).lookup x=some c:=by
 have q:=PySem.W.cellsFrom_some sc.names n [] (.inl h);exact uQ.mp q
theorem Dd{CX:yF}{P:Program}{w:World}{K:PySem.W.Frag}{mg:Str->Option Value}{base:Heap}{N ps:List Str}{qual:Str}{scope:Scope}{f:Addr}{cd:Value}{A:Around}{outer:List Env}{s s1:Shared}{H:Hp}{E:XK}{us:List Value}{vs:List V}(S:aP N ps scope)(hd:A.handled=none)(e0:z7 P w K mg base A outer s H)(hl:vs.length=ps.length)(r:a8 vs us)(x:InCallC s s.heap.objs.size (bindL (envOfC qual scope s.heap.objs.size f cd).kindOf (ps.zip us) fun _=>none) (cellsFrom (s.heap.objs.size+1) scope.names []) (bindC (envOfC qual scope s.heap.objs.size f cd).kindOf (ps.zip us) fun _=>none) s1):
  aS (kD CX P w K mg base N qual scope f cd A outer s H E) [] (start N vs) H s1:=by
 have Em:ps.length<=N.length:=by have:=congrArg List.length S.pre;rw[jY] at this;lia
 obtain⟨h1,tk,rfl,hk⟩:=x.done;have OZ:∀b:Addr,b∉(kD CX P w K mg base N qual scope f cd A outer s H E).ex:=fun b z=>absurd (show b∈([]:List Addr) from z) (by simp);refine⟨⟨e0.mod,S.kind,rfl,rfl,aU _,fun y z c h1 h2=>?_,fun y hy=>?_,fun y c _ h=>?_,fun _=>hd,Around.frames_deeper e0.frames,.inr ⟨rfl,rfl⟩,fun b z=>absurd z (OZ b),e0.bs,e0.EM,fun b _ _=>OZ b,fun b z=>absurd z (OZ b),e0.qa,e0.LI⟩,
  rfl,e0.bare,Un.kept hk,⟨_,x.toInCall.ns,fun i y v h1 h2 h3=>?_⟩,fun y c h=>⟨_,x.cell y c h⟩,e0.cz.fresh (aU _),fun y c h=>?_,fun p hp=>absurd (show p∈([]:List (Addr×Obj)) from hp) (by simp),e0.cz.kept hk,?_⟩
 .exact name_of_addr x.apart (jS h1) (jS h2)
 .have hy:scope.names.lookup y=some .cell\/scope.names.lookup y=some .free:=hy;rcases hy with hy|hy
  .exact xh hy
  .exact absurd rfl (S.L3 _ (jS hy))
 .exact lU (x.above y c (jS h))
 .have hi:i<vs.length:=by
   unfold start at h2;by_cases hi:i<vs.length
   .exact hi
   .rw[pL (by simpa using hi)] at h2;rw[qP] at h2;split at h2 <;> cases h2
  have ha:vs[i]?=some v:=by
   unfold start at h2;rw[i6 (by simpa using hi),bZ] at h2;cases e:vs[i]? with
   |none=>rw[e] at h2;cases h2
   |some a=>rw[e] at h2;cases h2;rfl
  obtain⟨u,hu,rv⟩:=r.get ha;have hp:ps[i]?=some y:=by
   rw[<-S.pre,yW (by lia)];exact h1
  have ZD:ps.Nodup:=by rw[<-S.pre];exact S.nd.sublist (List.take_sublist _ _)
  refine⟨u,rv,?_⟩;rcases S.par y (cS hp) with k|k
  .exact .inl ⟨k,ud ZD hp hu k⟩
  .obtain⟨c,e⟩:=xh (n:=s.heap.objs.size+1) k;refine .inr ⟨.inl k,c,e,?_⟩;have q:=x.cell y c e;rw[ue ZD hp hu (by show scope.names.lookup y≠_;rw[k];decide)] at q;exact q
 .exact e0.cz.fresh (lU (x.above y c (jS h)))
 .unfold start;show _=N.length;rw[df,aR,jQ];lia
theorem KW{CX:yF}{P:Program}{w:World}{K:PySem.W.Frag}{mg:Str->Option Value}{base:Heap}{k:Nat}{f:Addr}{name qual:Str}{params:Arguments}{body:List Stmt}{scope:Scope}{dV kV mI pm eV ct oc:Value}{an od:Option Addr}{yG:Array (Option Value)}{N ps:List Str}{sp:Sp}(lk:K.lookup f=some ⟨oc,od,.func (PySem.W.fnOf name qual params body scope dV kV mI pm an eV ct),yG⟩)(t7:PySem.W.codeIn K eV qual=true)(S:aP N ps scope)(len:∀vs H Q E,sp vs H Q E->vs.length=ps.length)(xi:∀ (A:Around) (outer:List Env) (s:Shared) (H:Hp) (vs:List V) (Q:VK) (E:XK),cy k (A.deeper (envOfC qual scope s.heap.objs.size f eV))->sp vs H Q E->
   ∃t,zP (kD CX P w K mg base N qual scope f eV A outer s H E) body t/\t { nx:=fun _ H'=>Q .cE H',rt:=Q } (start N vs) H):
  bJ P w K mg base CX (k+1) f (PySem.W.fnOf name qual params body scope dV kV mI pm an eV ct) ps sp:=by
 refine⟨len,fun A outer s H args us vs Q E hr e0 hb r HL=>?_⟩;have hl:=len _ _ _ _ HL;have KX:K.In s.heap:=e0.mod.PL.keeps fun b o e=>(e0.bs b o e).1;have lim:s.heap.NoLimit:=e0.mod.nolimit.keeps fun b o e=>(e0.bs b o e).1;have Qi:∀y∈ps.zip us,scope.names.lookup y.1=some .local\/(scope.names.lookup y.1=some .cell/\((cellsFrom (s.heap.objs.size+1) scope.names []).lookup y.1).isSome=true):=fun ⟨n,v⟩ hy=>by
  rcases S.par n (q9 hy).1 with q|q
  .exact .inl q
  .exact .inr ⟨q,PySem.W.cellsFrom_some _ _ _ (.inl q)⟩
 refine codeAny_call_function hr.depth (KX _ _ lk) rfl S.co S.gen rfl (PySem.W.codeRec_of KX t7) (hb _ _ _ _ ?_);refine wpAny_newFunctionEnv_cells S.kind Qi fun env he s1 x=>?_;subst he;refine⟨lim.keeps x.toInCall.keep,codeAny_func ?_⟩;obtain⟨t,ht,hq⟩:=xi A outer s H vs Q E (hr.deeper _) HL;have I:aS (kD CX P w K mg base N qual scope f eV A outer s H E) [] (start N vs) H s1:=Dd S hr.hd e0 hl r x;refine jn (ht [] s1 (start N vs) H _ I hq) (fun fl s' hs=>?_) fun e s' hs=>hs;have d7:∀ {σ':St} {H':Hp} {v:V} {u:Value},aS (kD CX P w K mg base N qual scope f eV A outer s H E) [] σ' H' s'->bR v u->Q v H'->CE outer P w H s Q u s':=
  fun {σ' H' v u} J rv q=>⟨v,H',J.os,J.bare,J.base,J.cz,rv,q⟩
 cases fl with
 |ret u=>
  obtain⟨v,σ',H',J,rv,q⟩:=hs;exact d7 J rv q
 |next=>
  obtain⟨σ',H',J,q⟩:=hs;exact d7 (v:=V.cE) (u:=Value.none) J rfl q
 |brk=>
  obtain⟨_,_,_,q⟩:=hs;exact False.elim q
 |cont=>
  obtain⟨_,_,_,q⟩:=hs;exact False.elim q
section
variable {X:Cx} {x:Str} {p pos:Pos} {e:Expr} {es:List Expr} {t:TA} {id T:String} {r:List V->Hp->VK->Prop}
def Ua(r:List V->Hp->VK->Prop)(t:TA):TE:=fun σ H Q=>t σ H fun vs H1=>r vs H1 Q
theorem aI(hc:fj X (.builtin id) r)(hg:Gl X x)(hm:X.mg x=none)(hv:bootBuiltins x=some (.builtin id))(ha:PA X (e::es) t)(hn:x≠"__name__":=by decide)(Dc:(x==("__debug__":Str))=false:=by decide)(he:starEach (e::es) X.env=(false,eval e X.env)::starEach es X.env:=by rfl)(Em:(backTo pos (starEach es X.env)).any (·.1)=false:=by rfl):PE X (.Call (.Name x p) (e::es) [] pos) (Ua r t):=by
 intro af s σ H Q I h;refine lN (iW I hg hm hv ?_ hn Dc);exact PyProof.Rows.callWith_builtin1 (dJ (ha pos af s σ H _ I h) fun us s1 ⟨vs,H1,I1,r1,q1⟩=>hc af s1 σ H1 vs us Q I1 r1 q1) he Em
theorem cA(hc:fj X (.type T) r)(hg:Gl X x)(hm:X.mg x=none)(hv:bootBuiltins x=some (.type T))(ha:PA X (e::es) t)(hn:x≠"__name__":=by decide)(Dc:(x==("__debug__":Str))=false:=by decide)(he:starEach (e::es) X.env=(false,eval e X.env)::starEach es X.env:=by rfl)(Em:(backTo pos (starEach es X.env)).any (·.1)=false:=by rfl):PE X (.Call (.Name x p) (e::es) [] pos) (Ua r t):=by
 intro af s σ H Q I h;refine lN (iW I hg hm hv ?_ hn Dc);exact nM (dJ (ha pos af s σ H _ I h) fun us s1 ⟨vs,H1,I1,r1,q1⟩=>hc af s1 σ H1 vs us Q I1 r1 q1) he Em
end
end L2
namespace HT
open PySem PyProof.Rows
section
open PySem.SeqAt
open PySem.AutoSeq1 (wpAny_loadPart')
open PySem.MeetsSeq PySem.MeetsSeq2 PySem.MeetsSeq3
end
section
variable {prog:Program} {w:World} {A:Around} {E:Value->Shared->Prop} {s:Shared}
def tf(n d:Nat):Option Int->Nat
 |none=>d
 |some v=>if v<0 then (v+(n:Int)).toNat else min v.toNat n
end
end HT
namespace L2
open PySem PySem.Spec PyProof.Rows
abbrev TO:=St->Hp->(Option Int->Hp->Prop)->Prop
def PO(X:Cx)(e:Option Expr)(t:TO):Prop:=
 ∀ (af:List (Addr×Obj)) (s:Shared) (σ:St) (H:Hp) (Q:Option Int->Hp->Prop),aS X af σ H s->t σ H Q->
  wpAny (model X.prog X.w) X.A (evalPart e X.env) (fun u s'=>∃o H',aS X af σ H' s'/\IsPart u o/\Q o H') X.xe s
def Ip:TO:=fun _ H Q=>Q none H
def Qj(t:TE):TO:=fun σ H Q=>t σ H fun x H1=>∃i,x=.int i/\Q (some i) H1
section
variable {X:Cx} {e:Expr} {te:TE} {lo hi:Option Expr} {tl th:TO} {pos p2:Pos}
theorem BC:PO X none Ip:=by
 intro af s σ H Q I h;rw[evalPart_none];exact wpAny_pure ⟨none,H,I,.none,h⟩
theorem BF(h:PE X e te):PO X (some e) (Qj te):=by
 intro af s σ H Q I hw;rw[evalPart_some];refine dJ (h af s σ H _ I hw) fun u s1 ⟨x,H1,I1,r1,q1⟩=>?_;obtain⟨i,rfl,q⟩:=q1;obtain⟨t,rfl⟩:=r1;exact⟨some i,H1,I1,.int i t,q⟩
def ZE(X:Cx)(r:V->Option Int->Option Int->Hp->VK->Prop):Prop:=
 ∀ (af:List (Addr×Obj)) (s:Shared) (σ:St) (H:Hp) (x:V) (v vl vu:Value) (lo hi:Option Int) (sl:Addr) (Q:VK),aS X af σ H s->bR x v->s.heap.IsSliceOf sl vl vu .none->IsPart vl lo->IsPart vu hi->r x lo hi H Q->
  ∃T id,typeLookup (.type T) "__getitem__"=pure (some (.builtin id))/\s.TypeIs v T/\wpAny (model X.prog X.w) X.A (getItem v (.ref sl)) (EP X af σ Q) X.xe s
def tSl(r:V->Option Int->Option Int->Hp->VK->Prop)(te:TE)(tl th:TO):TE:=fun σ H Q=>te σ H fun x H1=>tl σ H1 fun l H2=>th σ H2 fun u H3=>r x l u H3 Q
theorem xj(hr:ZE X r)(he:PE X e te)(hl:PO X lo tl)(hu:PO X hi th):PE X (.Subscript e (.Slice lo hi none p2) pos) (tSl r te tl th):=by
 intro af s σ H Q I h;refine Subscript_ (dJ (he af s σ H _ I h) fun v s1 ⟨x,H1,I1,r1,q1⟩=>?_);refine wpAny_Slice (dJ (hl af s1 σ H1 _ I1 q1) fun vl s2 ⟨l,H2,I2,pl,q2⟩=>dJ (hu af s2 σ H2 _ I2 q2) fun vu s3 ⟨u,H3,I3,pu,q3⟩=>?_);rw[evalPart_none];refine wpAny_pure ?_;have I4:aS X af σ H3 { s3 with heap:=s3.heap.push { cls:=.type "slice",data:=.fields #[vl,vu,.none] } }:=I3.kept (t':=s3.toks) fun b ob q=>bL _ q;obtain⟨T,id,hT,ht,hg⟩:=hr af { s3 with heap:=s3.heap.push { cls:=.type "slice",data:=.fields #[vl,vu,.none] } } σ H3 x v vl vu l u s3.heap.objs.size Q I4 r1 (Heap.IsSliceOf.new ..) pl pu q3;show wpAny (model X.prog X.w) X.A (subscriptTail e (.Slice lo hi none p2) v (.ref s3.heap.objs.size)) (EP X af σ Q) X.xe { s3 with heap:=s3.heap.push { cls:=.type "slice",data:=.fields #[vl,vu,.none] } };exact tail_any (ops:=[.ref s3.heap.objs.size,v]) ht hT hg (by with_unfolding_all rfl)
def jN(xs:List V)(lo hi:Option Int):List V:=(xs.drop (HT.tf xs.length 0 lo)).take (HT.tf xs.length xs.length hi-HT.tf xs.length 0 lo)
theorem xk(xs:List V)(lo hi:Option Int):(jN xs lo hi).length<=xs.length:=by
 unfold jN;rw[jY,lQ];lia
end
def E6(n:Nat)(i:Int):Option Nat:=if 0<=i then (if i<n then some i.toNat else none) else if -(n:Int)<=i then some (i+n).toNat else none
def yH{α:Type}(xs:List α)(i:Int):Option α:=(E6 xs.length i).bind fun j=>xs[j]?
theorem vL(h:E6 n i=some j):seqIndex? i n=some j/\j<n/\-(n:Int)<=i/\i<n:=by
 unfold E6 at h;by_cases h0:0<=i
 .rw[ak h0] at h;by_cases h1:i<n
  .rw[ak h1] at h;have e:i.toNat=j:=bN h;exact⟨by rw[seqIndex_of h0 h1,e],by lia,by lia,h1⟩
  .rw[av h1] at h;cases h
 .rw[av h0] at h;by_cases h1:-(n:Int)<=i
  .rw[ak h1] at h;have e:(i+n).toNat=j:=bN h;exact⟨by rw[seqIndex_neg (by lia) h1,e],by lia,h1,by lia⟩
  .rw[av h1] at h;cases h
theorem BG(h:yH xs i=some v):∃j,seqIndex? i xs.length=some j/\xs[j]?=some v/\j<xs.length/\-(xs.length:Int)<=i/\i<xs.length:=by
 unfold yH at h;cases e:E6 xs.length i with
 |none=>rw[e] at h;cases h
 |some j=>
  rw[e] at h;obtain⟨h1,h2,h3,h4⟩:=vL e;exact⟨j,h1,h,h2,h3,h4⟩
theorem aD{α:Type}{xs:List α}{j:Nat}{v:α}(h:xs[j]?=some v):yH xs (j:Int)=some v:=by
 have hj:j<xs.length:=(dN.mp h).1;have e:E6 xs.length (j:Int)=some j:=by
  unfold E6;rw[ak (by lia),ak (by lia)];simp
 unfold yH;rw[e];exact h
theorem xm(xs:List α)(v:α):yH (xs++[v]) (-1)=some v:=by
 have hl:(xs++[v]).length=xs.length+1:=by simp
 have e:E6 (xs++[v]).length (-1)=some xs.length:=by
  unfold E6;rw[hl,av (by decide),ak (by lia)];congr 1;lia
 unfold yH;rw[e];show (xs++[v])[xs.length]?=some v;simp
def Iq(b:Expr):Prop:=∀o i,subscripted b false o i=operate [o,i] (getItem o i)
def Vs(X:Cx)(r:R2):Prop:=
 ∀ (value slice:Expr) (af:List (Addr×Obj)) (s:Shared) (σ:St) (H:Hp) (x y:V) (v u:Value) (Q:VK),aS X af σ H s->bR x v->bR y u->r x y H Q->
  subscripted slice false v u=operate [v,u] (getItem v u)->wpAny (model X.prog X.w) X.A (subscriptTail value slice v u) (EP X af σ Q) X.xe s
def MtR(X:Cx)(id:String)(r:V->List V->Hp->VK->Prop):Prop:=
 ∀ (af:List (Addr×Obj)) (s:Shared) (σ:St) (H:Hp) (x:V) (xs:List V) (v:Value) (us:List Value) (Q:VK),aS X af σ H s->bR x v->a8 xs us->r x xs H Q->
  wpAny (model X.prog X.w) X.A (call (.builtin id) (v::us)) (EP X af σ Q) X.xe s
section
variable {X:Cx} {a b:Expr} {ta tb:TE} {pos:Pos}
theorem aX(hr:Vs X r)(ha:PE X a ta)(hb:PE X b tb)(hs:Iq b):PE X (.Subscript a b pos) (iI r ta tb):=by
 intro af s σ H Q I h;exact Subscript_ (LX ha hb I h fun v u s2 x y H2 I2 rx ry q=>hr a b af s2 σ H2 x y v u Q I2 rx ry q (hs _ _))
def qc(K:PySem.W.Frag):R2:=fun x y H Q=>∃p xs i v,x=.ref p/\y=.int i/\a9 K H p xs/\yH xs i=some v/\Q v H
def tj(K:PySem.W.Frag):R2:=fun x y H Q=>∃p xs i v,x=.ref p/\y=.int i/\bU K H p xs/\yH xs i=some v/\Q v H
theorem aK:Vs X (qc X.K):=by
 intro value slice af s σ H x y v u Q I rx ry h hs;obtain⟨p,xs,i,z,rfl,rfl,hq,he,q⟩:=h;cases rx;obtain⟨t,rfl⟩:=ry;obtain⟨its,r,pl,hz⟩:=I.list hq;obtain⟨j,h1,h2,h3,h4,h5⟩:=BG he;obtain⟨w,ew,vF⟩:=r.get h2;have hl:=r.length;have hn:=vJ;have d7:EP X af σ Q w s:=⟨z,H,I,vF,q⟩
 by_cases h0:0<=i
 .have hj:i.toNat=j:=by
   rw[seqIndex_of h0 h5] at h1;exact bN h1
  exact item_listR pl.isList h0 (by lia) (by rw[hj];simpa using ew) d7 hs
 .have hj:(i+(its.toArray.size:Int)).toNat=j:=by
   rw[seqIndex_neg (by lia) h4] at h1;rw[cJ,<-hl];exact bN h1
  exact subscriptTail_builtinR (x:=w) pl.isList.typeIs slot_list_getitem.lookup
   (wpAny_getItem_list_neg (Q:=fun r s'=>r=w/\EP X af σ Q r s') pl.isList (by lia) (by rw[cJ] <;> lia) (by lia) (by rw[hj];simpa using ew) ⟨rfl,d7⟩) hs
theorem eM:Vs X (tj X.K):=by
 intro value slice af s σ H x y v u Q I rx ry h hs;obtain⟨p,xs,i,z,rfl,rfl,hq,he,q⟩:=h;cases rx;obtain⟨t,rfl⟩:=ry;obtain⟨its,r,pl,hz⟩:=I.tuple hq;obtain⟨j,h1,h2,h3,h4,h5⟩:=BG he;obtain⟨w,ew,vF⟩:=r.get h2;have hl:=r.length;have hn:=vJ;have d7:EP X af σ Q w s:=⟨z,H,I,vF,q⟩
 exact subscriptTail_builtinR (x:=w) pl.typeIs slot_tuple_getitem.lookup
  (getItem_tuple (j:=j) (Q:=fun r s'=>r=w/\EP X af σ Q r s') pl (by lia) (by lia) (by rw[cJ,<-hl];exact h1) (by simpa using ew) ⟨rfl,d7⟩) hs
theorem z8(its:List Value)(n j:Nat)(u:Value):Obj.mapSeq (·.setIfInBounds j u) { cls:=.type "list",data:=.seq its.toArray n }={ cls:=.type "list",data:=.seq (its.set j u).toArray n }:=by
 simp[Obj.mapSeq]
theorem aS.lst(I:aS X af σ H s)(h:H p=some (.lst xs)):
  ∃ (its:List Value) (n:Nat),a8 xs its/\s.heap.get? p=some { cls:=.type "list",data:=.seq its.toArray n }/\xs.length<=sizeLine:=by
 obtain⟨z,its,n,r,e⟩:=I.cz p _ h;exact⟨its,n,r,e,z⟩
theorem aS.L4{af:List (Addr×Obj)}{σ:St}{H:Hp}{s:Shared}{p:Addr}{xs ys:List V}{its its':List Value}{n n':Nat}{f:Obj->Obj}(I:aS X af σ H s)(h:H p=some (.lst xs))(ho:s.heap.get? p=some { cls:=.type "list",data:=.seq its.toArray n })(hf:f { cls:=.type "list",data:=.seq its.toArray n }={ cls:=.type "list",data:=.seq its'.toArray n' })(r:a8 ys its')(hz:ys.length<=sizeLine)(t:Nat):
  aS X af σ (upd H p (.lst ys)) { s with heap:=s.heap.update p f,toks:=t }:=by
 have e:(s.heap.update p f).get? p=some { cls:=.type "list",data:=.seq its'.toArray n' }:=by
  rw[lK f ho (by rw[hf] <;> rfl),hf]
 refine I.write (x:=p) (e:=p) (by rw[h];trivial) (.inl rfl) (fun b u hb q=>(lI _ _ (dA hb)).trans q) ⟨_,e⟩ ?_;exact⟨hz,its',n',r,e⟩
def Qk:V->V->V->Hp->(Hp->Prop)->Prop:=fun o i v H Q=>∃p xs k j,o=.ref p/\i=.int k/\H p=some (.lst xs)/\E6 xs.length k=some j/\Q (upd H p (.lst (xs.set j v)))
theorem dR:P7 X Qk:=by
 intro af s σ H o i v ov iv u Q I ro ri rv h;obtain⟨p,xs,k,j,rfl,rfl,hp,hj,q⟩:=h;cases ro;obtain⟨t,rfl⟩:=ri;obtain⟨its,n,r,ho,hz⟩:=I.lst hp;obtain⟨h1,h2,h3,h4⟩:=vL hj;have hl:=r.length;have hn:=vJ;have I':aS X af σ (upd H p (.lst (xs.set j v))) { s with heap:=s.heap.update p (Obj.mapSeq (·.setIfInBounds j u)) }:=
  I.L4 hp ho (z8 its n j u) (r.set rv j) (by rw[jF];exact hz) s.toks
 by_cases h0:0<=k
 .have hk:k.toNat=j:=by
   rw[seqIndex_of h0 h4] at h1;exact bN h1
  exact PySem.W.ki_setAt ho h0 (by lia) (by rw[cJ,<-hl];exact h4) (by rw[hk];exact⟨_,I',q⟩)
 .have hk:(k+(its.toArray.size:Int)).toNat=j:=by
   rw[seqIndex_neg (by lia) h3] at h1;rw[cJ,<-hl];exact bN h1
  exact PySem.W.ki_setBack ho (by lia) (by rw[cJ,<-hl];exact h3) (by lia) (by rw[hk];exact⟨_,I',q⟩)
theorem vM(lo hi:Option Int)(n:Nat):(sliceBounds lo hi none n).1=((HT.tf n 0 lo:Nat):Int)/\(sliceBounds lo hi none n).2.1=((HT.tf n n hi:Nat):Int)/\(sliceBounds lo hi none n).2.2=1:=by
 refine⟨?_,?_,rfl⟩
 .cases lo with
  |none=>simp[sliceBounds,HT.tf]
  |some i=>
   simp only[sliceBounds,HT.tf,Option.getD_none,show (1:Int) > 0 by decide,jo];by_cases h:i<0
   .simp only[h,jo] <;> lia
   .simp only[h,eK] <;> lia
 .cases hi with
  |none=>simp[sliceBounds,HT.tf]
  |some i=>
   simp only[sliceBounds,HT.tf,Option.getD_none,show (1:Int) > 0 by decide,jo];by_cases h:i<0
   .simp only[h,jo] <;> lia
   .simp only[h,eK] <;> lia
theorem tm(its:List Value)(lo hi:Option Int):slicePick its.toArray lo hi none=((its.drop (HT.tf its.length 0 lo)).take (HT.tf its.length its.length hi-HT.tf its.length 0 lo)).toArray:=by
 obtain⟨h1,h2,h3⟩:=vM lo hi its.toArray.size;unfold slicePick;rw[h1,h2,h3];simp only[sliceRange_one,pick_run,cJ] <;> rfl
def Vt(K:PySem.W.Frag):V->Option Int->Option Int->Hp->VK->Prop:=fun x lo hi H Q=>∃a xs,x=.ref a/\a9 K H a xs/\∀p,H p=none->Q (.ref p) (upd H p (.lst (jN xs lo hi)))
theorem BI:ZE X (Vt X.K):=by
 intro af s σ H x v vl vu lo hi sl Q I rx hs pl pu h;obtain⟨a,xs,rfl,hx,q⟩:=h;cases rx;obtain⟨its,r,ht,hz⟩:=I.list hx;have eX:=r.length;refine⟨"list",_,slot_list_getitem.lookup,ht.isList.typeIs,?_⟩;refine wpAny_getItem_list_slice ht.isList hs pl pu .none (by simp) ?_ (by rw[cJ] <;> lia);rw[tm,<-eX];refine⟨.ref s.heap.objs.size,_,I.laid (t':=s.toks) (o:=.lst (jN xs lo hi)) (fun b ob q=>bL _ q) (aU _) ?_,rfl,q _ (I.cz.fresh (aU _))⟩;exact⟨ba (xk xs lo hi) hz,_,0,(r.drop (HT.tf xs.length 0 lo)).take (HT.tf xs.length xs.length hi-HT.tf xs.length 0 lo),cB _ rfl⟩
def fE:V->Bool
 |.cE=>true
 |.bl _=>true
 |.int _=>true
 |.str _=>true
 |_=>false
def sQ:V->V->Bool
 |.cE,.cE=>true
 |.bl a,.bl b=>a==b
 |.bl a,.int b=>(if a then 1 else 0)==b
 |.int a,.bl b=>a==(if b then 1 else 0)
 |.int a,.int b=>a==b
 |.str a,.str b=>a==b
 |_,_=>false
theorem E7(ry:bR y u)(rx:bR x v)(fy:fE y=true)(fx:fE x=true):SeqAt.EqAt A s u v (sQ y x):=by
 cases y with
 |cE=>
  cases ry;cases x with
  |cE=>cases rx;exact SeqAt.EqAt.same _
  |bl b=>cases rx;exact SeqAt.EqAt.none_bool b
  |int b=>obtain⟨t,rfl⟩:=rx;exact SeqAt.EqAt.none_int b t
  |str b=>obtain⟨t,rfl⟩:=rx;exact SeqAt.EqAt.none_str b t
  |_=>exact absurd (show false=true from fx) cG
 |bl a=>
  cases ry;cases x with
  |cE=>cases rx;exact SeqAt.EqAt.bool_none a
  |bl b=>cases rx;exact SeqAt.EqAt.bool_bool a b
  |int b=>obtain⟨t,rfl⟩:=rx;exact SeqAt.EqAt.bool_int a b t
  |str b=>obtain⟨t,rfl⟩:=rx;exact SeqAt.EqAt.bool_str a b t
  |_=>exact absurd (show false=true from fx) cG
 |int a=>
  obtain⟨t',rfl⟩:=ry;cases x with
  |cE=>cases rx;exact SeqAt.EqAt.int_none a t'
  |bl b=>cases rx;exact SeqAt.EqAt.int_bool a t' b
  |int b=>obtain⟨t,rfl⟩:=rx;exact SeqAt.EqAt.int_int a t' b t
  |str b=>obtain⟨t,rfl⟩:=rx;exact SeqAt.EqAt.int_str a t' b t
  |_=>exact absurd (show false=true from fx) cG
 |str a=>
  obtain⟨t',rfl⟩:=ry;cases x with
  |cE=>cases rx;exact SeqAt.EqAt.str_none a t'
  |bl b=>cases rx;exact SeqAt.EqAt.str_bool a t' b
  |int b=>obtain⟨t,rfl⟩:=rx;exact SeqAt.EqAt.str_int a t' b t
  |str b=>obtain⟨t,rfl⟩:=rx;exact SeqAt.EqAt.str_str a t' b t
  |_=>exact absurd (show false=true from fx) cG
 |_=>exact absurd (show false=true from fy) cG
def vN(x:V)(u:Value):Bool:=match u with
 |.none=>sQ .cE x
 |.bool b=>sQ (.bl b) x
 |.int i _=>sQ (.int i) x
 |.str z _=>sQ (.str z) x
 |_=>false
theorem E8(r:bR y u)(f:fE y=true):vN x u=sQ y x:=by
 cases y with
 |cE=>cases r;rfl
 |bl b=>cases r;rfl
 |int i=>obtain⟨t,rfl⟩:=r;rfl
 |str z=>obtain⟨t,rfl⟩:=r;rfl
 |_=>exact absurd (show false=true from f) cG
theorem k4:∀ {xs:List V} {us:List Value},a8 xs us->xs.all fE=true->us.any (vN x)=xs.any fun y=>sQ y x
 |_,_,.nil,_=>rfl
 |y::xs,u::us,.cons r t,f=>by
  rw[j9,gm] at f;rw[jm,jm,E8 r f.1,k4 t f.2]
theorem jb(rx:bR x v)(fx:fE x=true):∀ {xs:List V} {us:List Value},a8 xs us->xs.all fE=true->∀u∈us,SeqAt.EqAt A s u v (vN x u)
 |_,_,.nil,_=>fun u hu=>by cases hu
 |y::xs,u::us,.cons r t,f=>fun u' hu=>by
  rw[j9,gm] at f;rcases bn.mp hu with rfl|hu
  .rw[E8 r f.1];exact E7 r rx f.1 fx
  .exact jb rx fx t f.2 u' hu
def yI(x:V)(xs:List V):Bool:=xs.any fun y=>sQ y x
def Vu(K:PySem.W.Frag)(Ql:Bool):R2:=fun x y H Q=>∃p xs,y=.ref p/\(a9 K H p xs\/bU K H p xs)/\fE x=true/\xs.all fE=true/\Q (.bl (if Ql then !yI x xs else yI x xs)) H
theorem De:mq X (compareOp .In) (Vu X.K false):=by
 intro af s σ H x y v u Q I rx ry h;obtain⟨p,xs,rfl,hq,fx,fs,q⟩:=h;cases ry;rcases hq with hq|hq
 .obtain⟨its,r,pl,hz⟩:=I.list hq;refine SeqAt.in_listAt (vN x) pl.isList (fun w hw=>jb rx fx r fs w (by simpa using hw)) ⟨.bl _,H,I,rfl,?_⟩;rw[show its.toArray.any (vN x)=its.any (vN x) by simp,k4 r fs];exact q
 .obtain⟨its,r,pl,hz⟩:=I.tuple hq;refine SeqAt.in_tupleAt (vN x) pl (fun w hw=>jb rx fx r fs w (by simpa using hw)) ⟨.bl _,H,I,rfl,?_⟩;rw[show its.toArray.any (vN x)=its.any (vN x) by simp,k4 r fs];exact q
theorem jw:mq X (compareOp .NotIn) (Vu X.K true):=by
 intro af s σ H x y v u Q I rx ry h;obtain⟨p,xs,rfl,hq,fx,fs,q⟩:=h;cases ry;rcases hq with hq|hq
 .obtain⟨its,r,pl,hz⟩:=I.list hq;refine SeqAt.notIn_listAt (vN x) pl.isList (fun w hw=>jb rx fx r fs w (by simpa using hw)) ⟨.bl _,H,I,rfl,?_⟩;rw[show its.toArray.any (vN x)=its.any (vN x) by simp,k4 r fs];exact q
 .obtain⟨its,r,pl,hz⟩:=I.tuple hq;refine SeqAt.notIn_tupleAt (vN x) pl (fun w hw=>jb rx fx r fs w (by simpa using hw)) ⟨.bl _,H,I,rfl,?_⟩;rw[show its.toArray.any (vN x)=its.any (vN x) by simp,k4 r fs];exact q
theorem aQ:fj X (.builtin "len") (fun xs H Q=>∃p ys,xs=[.ref p]/\(a9 X.K H p ys\/bU X.K H p ys)/\Q (.int ys.length) H):=by
 intro af s σ H xs us Q I r h;obtain⟨p,ys,rfl,hq,q⟩:=h;obtain⟨u,rfl,rx⟩:=Bz r;cases rx;have hn:=vJ;rcases hq with hq|hq
 .obtain⟨its,r',pl,hz⟩:=I.list hq;have eX:=r'.length;exact Calls.call_len_list pl.isList (by simp only[cJ] <;> lia) ⟨.int ys.length,H,I.tok _,⟨s.toks+1,by rw[cJ,eX]⟩,q⟩
 .obtain⟨its,r',pl,hz⟩:=I.tuple hq;have eX:=r'.length;exact len_tuple pl (by simp only[cJ] <;> lia) ⟨.int ys.length,H,I.tok _,⟨s.toks+1,by rw[cJ,eX]⟩,q⟩
theorem vO:fj X (.type "list") (fun xs H Q=>∃p ys,xs=[.ref p]/\(a9 X.K H p ys\/bU X.K H p ys)/\∀l,H l=none->Q (.ref l) (upd H l (.lst ys))):=by
 intro af s σ H xs us Q I r h;obtain⟨p,ys,rfl,hq,q⟩:=h;obtain⟨u,rfl,rx⟩:=Bz r;cases rx;have d7:∀ (its:List Value),a8 ys its->ys.length<=sizeLine->∀ (h':Heap) (c':Nat),(∀b o',s.heap.get? b=some o'->h'.get? b=some o')->
   h'.get? s.heap.objs.size=some { cls:=.type "list",dict:=none,data:=.seq its.toArray c',slots:=#[] }->EP X af σ Q (.ref s.heap.objs.size) { s with heap:=h' }:=fun its r' hz h' c' kp e=>
  ⟨.ref s.heap.objs.size,_,I.laid (t':=s.toks) kp (aU _) (show cL X.prog X.w _ h' _ (.lst ys) from ⟨hz,its,c',r',e⟩),rfl,q _ (I.cz.fresh (aU _))⟩
 rcases hq with hq|hq
 .obtain⟨its,r',pl,hz⟩:=I.list hq;have eX:=r'.length;obtain⟨o,ho,hc,n,hd⟩:=pl.isList;exact call_list_seq p (.inl rfl) ho hc hd (fun h' c' kp e=>d7 its r' hz h' c' kp e) (by simp only[cJ] <;> lia)
 .obtain⟨its,r',pl,hz⟩:=I.tuple hq;have eX:=r'.length;obtain⟨o,ho,hc,n,hd⟩:=pl;exact call_list_seq p (.inr rfl) ho hc hd (fun h' c' kp e=>d7 its r' hz h' c' kp e) (by simp only[cJ] <;> lia)
theorem fm:fj X (.type "tuple") (fun xs H Q=>∃p ys,xs=[.ref p]/\((a9 X.K H p ys/\∀l,H l=none->Q (.ref l) (upd H l (.tup ys)))\/(bU X.K H p ys/\Q (.ref p) H))):=by
 intro af s σ H xs us Q I r h;obtain⟨p,ys,rfl,h⟩:=h;obtain⟨u,rfl,rx⟩:=Bz r;cases rx;rcases h with ⟨hq,q⟩|⟨hq,q⟩
 .obtain⟨its,r',pl,hz⟩:=I.list hq;have eX:=r'.length;refine call_tuple_list pl.isList (fun h' kp=>?_) (by simp only[cJ] <;> lia);have I1:aS X af σ H { s with heap:=h' }:=I.kept (t':=s.toks) kp;have I2:aS X af σ (upd H h'.objs.size (.tup ys)) { s with heap:=h'.push { cls:=.type "tuple",data:=.seq its.toArray } }:=
   I1.laid (t':=s.toks) (fun b o e=>bL _ e) (aU _) (show cL X.prog X.w _ _ _ (.tup ys) from ⟨hz,its,r',oQ.new _ _⟩)
  exact⟨.ref h'.objs.size,_,I2,rfl,q _ (I1.cz.fresh (aU _))⟩
 .obtain⟨its,r',pl,hz⟩:=I.tuple hq;exact call_tuple_same pl ⟨.ref p,H,I,rfl,q⟩
def ZF(K:PySem.W.Frag)(T:String)(x:V)(H:Hp):Prop:=match x with
 |.str _=>T="str"
 |.int _=>T="int"
 |.ref p=>(T="list"/\∃xs,a9 K H p xs)\/(T="tuple"/\∃o,K.lookup p=some o/\o.cls=.type "tuple"/\o.dict=none)\/
   (T="dict"/\((∃dk,H p=some (.dK dk))\/∃dk,H p=some (.dT dk)))\/(T="set"/\∃S n,H p=some (.set S n))
 |_=>False
theorem L5(I:aS X af σ H s)(r:bR x v)(ty:ZF X.K T x H):
  s.TypeIs v T/\∀a,v=.ref a->∃ob,s.heap.get? a=some ob/\ob.dict=none:=by
 cases x with
 |str z=>
  obtain⟨t,rfl⟩:=r;cases (show T="str" from ty);exact⟨typeIs_str s z t,fun _ e=>nomatch e⟩
 |int i=>
  obtain⟨t,rfl⟩:=r;cases (show T="int" from ty);exact⟨typeIs_int s i t,fun _ e=>nomatch e⟩
 |ref p=>
  cases r;rcases ty with ⟨rfl,xs,hq⟩|⟨rfl,o,hk,hc,hd⟩|⟨rfl,hk⟩|⟨rfl,S,n,hk⟩
  .obtain⟨its,_,pl,_⟩:=I.list hq;refine⟨pl.isList.typeIs,fun a e=>?_⟩;cases e;obtain⟨o,n,e,c,hd,_⟩:=pl;exact⟨o,e,hd⟩
  .refine⟨⟨o,I.my p o hk,hc⟩,fun a e=>?_⟩;cases e;exact⟨o,I.my _ o hk,hd⟩
  .have z:∃o,s.heap.get? p=some o/\o.ExactDict:=by
    rcases hk with ⟨dk,hk⟩|⟨dk,hk⟩
    .obtain⟨_,_,_,_,o,_,_,e,ex,_⟩:=I.cz p _ hk;exact⟨o,e,ex⟩
    .obtain⟨_,_,_,_,o,_,_,e,ex,_⟩:=I.cz p _ hk;exact⟨o,e,ex⟩
   obtain⟨o,e,ex⟩:=z;refine⟨⟨o,e,ex.1⟩,fun a e2=>?_⟩;cases e2;exact⟨o,e,ex.2.1⟩
  .obtain⟨o,_,_,_,e,ex,_⟩:=I.cz p _ hk;refine⟨⟨o,e,ex.1⟩,fun a e2=>?_⟩;cases e2;exact⟨o,e,ex.2.1⟩
 |_=>exact False.elim ty
def ZG(K:PySem.W.Frag)(T:String)(r:V->List V->Hp->VK->Prop)(to:TE)(t:TA):TE:=fun σ H Q=>to σ H fun x H1=>ZF K T x H1/\t σ H1 fun xs H2=>r x xs H2 Q
variable {o e:Expr} {es:List Expr} {to:TE} {t:TA} {name:Str} {vK vP:Pos} {T id:String} {r:V->List V->Hp->VK->Prop}
theorem gK(pa:PlainAttrs T)(slot:Slot T name id)(hty:typeOf (.builtin id)=pure (.type "method_descriptor"))(hm:MtR X id r)(ho:PE X o to)(ha:PA X (e::es) t)(Qm:attributeBase o name X.env (eval o X.env)=eval o X.env:=by rfl)(Vv:((backTo vP (starEach (e::es) X.env)).all (fun x=>!x.1)&&(backToKw vP (keywordEach [] X.env)).all (fun x=>x.1.isSome)
   && decide ((e::es).length+([]:List Keyword).length+(if ([]:List Keyword).isEmpty then 0 else 1)<30))=true:=by rfl)(Qn:(vK.endLine==vP.line)=true:=by rfl)(hs:starEach (e::es) X.env=(false,eval e X.env)::starEach es X.env:=by rfl)(z9:(backTo vP (starEach es X.env)).any (·.1)=false:=by rfl):
  PE X (.Call (.Attribute o name vK) (e::es) [] vP) (ZG X.K T r to t):=by
 intro af s σ H Q I h;refine wpAny_Call_method_late Qm Vv Qn rfl (dJ (ho af s σ H _ I h) fun v s1 ⟨x,H1,I1,r1,ty,q1⟩=>?_);obtain⟨h1,h2⟩:=L5 I1 r1 ty;refine⟨T,id,pa,slot,hty,h1,h2,?_⟩;have hA:=ha vP af s1 σ H1 _ I1 q1;rw[hs] at hA |-;refine Calls.callWith_builtin (by show (false||(backTo vP (starEach es X.env)).any (·.1))=false;rw[z9] <;> rfl) (Calls.evalArgs_plain ?_);exact dJ hA fun us s2 ⟨vs,H2,I2,r2,q2⟩=>hm af s2 σ H2 x vs v us Q I2 r1 r2 q2
end
def Ub(X:Cx)(id:String)(r:V->List V->Hp->VK->Prop):Prop:=
 ∀ (af:List (Addr×Obj)) (s:Shared) (σ:St) (H:Hp) (x:V) (xs:List V) (v:Value) (us:List Value) (Q:VK),aS X af σ H s->bR x v->a8 xs us->r x xs H Q->
  wpAny (model X.prog X.w) X.A (call (.builtin id) (v::us)) (EP X af σ Q) X.xe s
theorem a8.one{x:V}{us:List Value}(h:a8 [x] us):∃u,us=[u]/\bR x u:=by
 cases h with
 |cons r h=>cases h;exact⟨_,rfl,r⟩
theorem a8.two{x y:V}{us:List Value}(h:a8 [x,y] us):∃u v,us=[u,v]/\bR x u/\bR y v:=by
 cases h with
 |cons r h=>
  cases h with
  |cons q h=>cases h;exact⟨_,_,rfl,r,q⟩
theorem a8.eraseIdx:∀ {xs:List V} {us:List Value} (i:Nat),a8 xs us->a8 (xs.eraseIdx i) (us.eraseIdx i)
 |_,_,_,.nil=>.nil
 |_,_,0,.cons _ t=>t
 |_,_,i+1,.cons r t=>.cons r (a8.eraseIdx i t)
theorem a8.rep(h:a8 xs us):∀k:Nat,a8 (List.replicate k xs).flatten (List.replicate k us).flatten
 |0=>.nil
 |k+1=>by
  rw[lM,lM,qY,qY];exact a8.append h (a8.rep h k)
theorem uf:∀ (l:List α) (i:Nat),(l.eraseIdx i).length<=l.length
 |[],_=>aU _
 |_::_,0=>vA _
 |_::r,i+1=>zC (uf r i)
theorem ug(its:List Value):∀ (k:Nat) (cZ:List Value),
  List.foldl (fun x1 x2=>x1++x2) cZ.toArray (List.replicate k its.toArray)=(cZ++(List.replicate k its).flatten).toArray
 |0,cZ=>by simp
 |k+1,cZ=>by
  have e:cZ.toArray++its.toArray=(cZ++its).toArray:=by simp
  have e2:(cZ++its)++(List.replicate k its).flatten=cZ++(List.replicate (k+1) its).flatten:=by
   rw[lM,qY,dh]
  rw[<-e2,<-ug its k (cZ++its),<-e,lM,iT]
section
variable {X:Cx} {af:List (Addr×Obj)} {σ:St} {H:Hp} {s:Shared} {l b:Addr} {xs ys zs:List V}
theorem aS.L6{its its':List Value}{n:Nat}{f:Array Value->Array Value}{t':Nat}(I:aS X af σ H s)(hH:H l=some (.lst xs))(e:s.heap.get? l=some { cls:=.type "list",data:=.seq its.toArray n })(hf:f its.toArray=its'.toArray)(hv:a8 ys its')(hz:ys.length<=sizeLine):
  aS X af σ (upd H l (.lst ys)) { s with heap:=s.heap.update l (Obj.mapSeq f),toks:=t' }:=by
 have q:=PySem.IsL.update e f;rw[hf] at q;refine I.write (x:=l) (e:=l) (by rw[hH];exact trivial) (.inl rfl) (fun b' u hb hu=>(lI s.heap (Obj.mapSeq f) (dA hb)).trans hu) ⟨_,q⟩ ?_;exact⟨hz,its',_,hv,q⟩
theorem aS.L7(I:aS X af σ H s)(hv:a8 ys its)(hz:ys.length<=sizeLine):
  aS X af σ (upd H s.heap.objs.size (.lst ys)) { s with heap:=s.heap.push { cls:=.type "list",data:=.seq its.toArray },toks:=t' }:=
 I.laid (fun _ _ q=>bL _ q) (aU _) ⟨hz,its,0,hv,cB _ rfl⟩
theorem aS.fresh(I:aS X af σ H s):H s.heap.objs.size=none:=I.cz.fresh (aU _)
theorem aS.vQ(I:aS X af σ H s)(hH:H l=some (.lst xs)):xs.length<=sizeLine/\∃ (its:List Value) (n:Nat),a8 xs its/\xs.length=its.length/\s.heap.get? l=some { cls:=.type "list",data:=.seq its.toArray n }:=by
 obtain⟨z,its,n,r,e⟩:=I.cz l _ hH;exact⟨z,its,n,r,r.length,e⟩
theorem xn(h:n<=sizeLine):Builtin.List.listTooLong n=false:=by
 unfold Builtin.List.listTooLong;exact fL (by lia)
end
section
variable {X:Cx}
def Ir:V->List V->Hp->VK->Prop:=fun x vs H Q=>∃l xs y,x=.ref l/\vs=[y]/\H l=some (.lst xs)/\xs.length<sizeLine/\Q .cE (upd H l (.lst (xs++[y])))
theorem du:Ub X "list.append" Ir:=by
 intro af s σ H x vs v us Q I rx rv h;obtain⟨l,xs,y,rfl,rfl,hH,hz,q⟩:=h;cases rx;obtain⟨u,rfl,ru⟩:=rv.one;obtain⟨z,its,n,r,hl,e⟩:=I.vQ hH;refine lW F.slot_list_append ⟨_,e,rfl⟩ F.entry_list_append (F.args_list_append_2 _ _) (PySem.list_append l its.toArray n u (by rw[cJ];lia)) ⟨e,?_⟩;refine⟨.cE,_,I.L6 (its':=its++[u]) hH e (by simp) (r.append (.cons ru .nil)) ?_,rfl,q⟩;rw[df,lH];lia
def Iu:V->List V->Hp->VK->Prop:=fun x vs H Q=>∃l b xs zs,x=.ref l/\vs=[.ref b]/\H l=some (.lst xs)/\H b=some (.lst zs)/\xs.length+zs.length<=sizeLine/\Q .cE (upd H l (.lst (xs++zs)))
theorem Df:Ub X "list.extend" Iu:=by
 intro af s σ H x vs v us Q I rx rv h;obtain⟨l,b,xs,zs,rfl,rfl,hH,hB,hz,q⟩:=h;cases rx;obtain⟨u,rfl,ru⟩:=rv.one;cases ru;obtain⟨z,its,n,r,hl,e⟩:=I.vQ hH;obtain⟨z2,rF,n2,r2,En,e2⟩:=I.vQ hB;have ir:its.toArray.size+rF.toArray.size<=sizeLine:=by rw[cJ,cJ];lia
 have E9:¬ (!its.toArray.isEmpty&&Builtin.List.listTooLong (its.toArray.size+rF.toArray.size))=true:=by
  rw[xn ir,Bool.and_false];exact cG
 refine lW F.slot_list_extend ⟨_,e,rfl⟩ F.entry_list_extend (F.args_list_extend_2 _ _)
  (AutoSeq1.list_extend_list_list_0 l its.toArray n b rF.toArray n2 E9 (by rw[cJ];lia) (by lia)) ⟨e,e2,?_⟩
 refine⟨.cE,_,I.L6 (its':=its++rF) hH e (by simp) (r.append r2) ?_,rfl,q⟩;rw[df];lia
def E_:V->List V->Hp->VK->Prop:=fun x vs H Q=>∃l xs i k y,x=.ref l/\vs=[.int i]/\H l=some (.lst xs)/\-(2 ^ 63)<=i/\i<2 ^ 63/\seqIndex? i xs.length=some k/\xs[k]?=some y/\Q y (upd H l (.lst (xs.eraseIdx k)))
theorem xo:Ub X "list.pop" E_:=by
 intro af s σ H x vs v us Q I rx rv h;obtain⟨l,xs,i,k,y,rfl,rfl,hH,h1,h2,hk,hy,q⟩:=h;cases rx;obtain⟨u,rfl,ru⟩:=rv.one;obtain⟨t,rfl⟩:=ru;obtain⟨z,its,n,r,hl,e⟩:=I.vQ hH;obtain⟨w,hw,vF⟩:=r.get hy;refine lW F.slot_list_pop ⟨_,e,rfl⟩ F.entry_list_pop (F.args_list_pop_2 _ _)
  (MeetsSeq.list_pop_at l its.toArray n i t k w (fitsIndex_both h1 h2) (by rw[cJ,<-hl];exact hk) (by rw[<-nZ];exact hw) (by rw[cJ];lia)) ⟨e,?_⟩
 refine⟨y,_,I.L6 (its':=its.eraseIdx k) hH e ?_ (r.eraseIdx k) ?_,vF,q⟩
 .show its.toArray.eraseIdxIfInBounds k=(its.eraseIdx k).toArray;rw[List.eraseIdxIfInBounds_toArray]
 .have:=uf xs k;lia
def Qo:R2:=fun x y H Q=>∃l b xs zs,x=.ref l/\y=.ref b/\H l=some (.lst xs)/\H b=some (.lst zs)/\xs.length+zs.length<=sizeLine/\∀p,H p=none->Q (.ref p) (upd H p (.lst (xs++zs)))
theorem z_:mq X (binaryOp .Add) Qo:=by
 intro af s σ H x y v u Q I rx ry h;obtain⟨l,b,xs,zs,rfl,rfl,hH,hB,hz,q⟩:=h;cases rx;cases ry;obtain⟨z,its,n,r,hl,e⟩:=I.vQ hH;obtain⟨z2,rF,n2,r2,En,e2⟩:=I.vQ hB;refine PySem.P.add_list e e2 ?_ (by rw[cJ,cJ];lia);have ea:its.toArray++rF.toArray=(its++rF).toArray:=by simp
 rw[ea];exact⟨.ref _,_,I.L7 (t':=s.toks) (r.append r2) (by rw[df];lia),rfl,q _ I.fresh⟩
def Vw:R2:=fun x y H Q=>∃l k xs,x=.ref l/\y=.int k/\H l=some (.lst xs)/\-(2 ^ 63)<=k/\k<2 ^ 63/\xs.length*k.toNat<=sizeLine/\
 ∀p,H p=none->Q (.ref p) (upd H p (.lst (List.replicate k.toNat xs).flatten))
theorem Iv(xs:List α)(k:Nat):(List.replicate k xs).flatten.length=k*xs.length:=by
 induction k with
 |zero=>simp
 |succ k ih=>rw[lM,qY,df,ih,Nat.succ_mul,Nat.add_comm]
theorem Aa:mq X (binaryOp .Mult) Vw:=by
 intro af s σ H x y v u Q I rx ry h;obtain⟨l,k,xs,rfl,rfl,hH,h1,h2,hz,q⟩:=h;cases rx;obtain⟨t,rfl⟩:=ry;obtain⟨z,its,n,r,hl,e⟩:=I.vQ hH;have eX:its.toArray.size*k.toNat<=sizeLine:=by rw[cJ,<-hl];exact hz
 have Vx:¬ its.toArray.size*k.toNat > (2 ^ 63-1) / 8:=by
  have:(sizeLine:Nat)<=(2 ^ 63-1) / 8:=by decide
  lia
 have Vy:¬ (!Builtin.List.listFitsIndex k)=true:=by
  rw[fitsIndex_both h1 h2];exact cG
 have E9:¬ Builtin.List.listTooLong (its.toArray.size*k.toNat)=true:=by
  rw[xn eX];exact cG
 have rG:List.foldl (fun x1 x2=>x1++x2) #[] (List.replicate (if its.toArray.isEmpty=true then 0 else k.toNat) its.toArray)=(List.replicate k.toNat its).flatten.toArray:=by
  have f0:∀m:Nat,List.foldl (fun x1 x2=>x1++x2) #[] (List.replicate m its.toArray)=(List.replicate m its).flatten.toArray:=fun m=>by
   have:=ug its m [];rw[List.nil_append] at this;exact this
  rw[f0];cases its with
  |nil=>simp
  |cons a r'=>rw[av (by simp)]
 refine wpAny_binaryOp_repeat_ref (T:="list") (U:="int") (by decide) ⟨_,e,rfl⟩ (fun s'=>typeIs_int s' k t) noFill_list_mul F.fills_int_mul F.slot_int_rmul repeat_list F.slot_int_index.lookup
  (lW F.slot_int_rmul (typeIs_int s k t) F.entry_int_rmul (F.args_int_rmul_2 _ _) (int___rmul___int_list k t l its.toArray n)
   ⟨e,rfl,⟨_,e,rfl⟩,lW F.slot_list_mul ⟨_,e,rfl⟩ F.entry_list_mul (F.args_list_mul_2 _ _) (AutoListH.list___mul___list_int_3 l its.toArray n k t Vy Vx E9) ⟨e,?_⟩⟩)
 rw[rG];exact⟨.ref _,_,I.L7 (t':=s.toks) (r.rep k.toNat) (by rw[Iv,Nat.mul_comm];exact hz),rfl,q _ I.fresh⟩
end
section
variable {prog:Program} {w:World} {A:Around} {E:Value->Shared->Prop} {s:Shared}
end
section
variable {X:Cx}
end
end L2
namespace ZH
open PySem PySem.W PySem.Calls PyProof.Rows
theorem qd:∀ (ns:List Int) (vs:List Value),WellAll P h vs (ns.map WData.int)->IntsAre vs ns:=by
 intro ns;induction ns with
 |nil=>
  intro vs w;rw[List.map_nil] at w;cases w;exact .nil
 |cons n ns ih=>
  intro vs w;rw[fh] at w;cases w with
  |cons a b=>
   cases a;exact .cons _ _ (ih _ b)
theorem Dg{l:OpenLaw}{n:Nat}(hn:l.most=some n){P:Params}{h:Heap}{args:List WData}{Fa:List Value}(Iw:l.row.toRowW.claim.pre args=true)(Vz:WellAll P h Fa args):
  ∃a vs ns,Fa=[Value.ref a]/\args=[WData.list (ns.map WData.int)]/\h.get? a=some { cls:=.type "list",data:=.seq vs.toArray }/\IntsAre vs ns/\ns.length<=n:=by
 have hsh:WShape.hasAll [] args [.list .int]=true:=(pre_splitW Iw).1;have hc:l.pre.holds [] { args:=args }=true:=(pre_splitW Iw).2;obtain⟨d,r,rfl,h1,h2⟩:=hasAllW_cons hsh;obtain rfl:=hasAllW_nil h2;obtain⟨xs,rfl,h3⟩:=hasW_list h1;obtain⟨ns,rfl⟩:=items_int h3;have eX:ns.length<=n:=by
  unfold OpenLaw.pre at hc;have h4:(WTm.not (.lt (.lit (.int (n:Int))) (.len (.arg 0)))).holds [] { args:=[.list (ns.map .int)] }=true:=by
   have h4:=(holds_andW hc).1;rw[hn] at h4;exact h4
  have h5:=condW_of h4 (w_not (w_lt w_lit (w_len_list (w_arg rfl))));rw[aR] at h5;refine Nat.le_of_not_lt fun q=>?_;have q':(n:Int)<((ns.length:Nat):Int):=by lia
  first
   |(rw[fP q'] at h5;exact absurd h5 (by decide))
   |(simp at h5;lia)
 cases Vz with
 |cons w1 w2=>
  cases w2;cases w1 with
  |list ho tw=>exact⟨_,_,ns,rfl,rfl,ho,qd ns _ tw,eX⟩
theorem Dh(l:OpenLaw)(args:List WData):l.row.toRowW.claim.post args (.bool true) args=true:=
 postW_of (r:=l.row.toRowW) (X:=(true==true))
  (show WShape.has [] (.bool true) .bool=true by first|rfl|decide|simp[WShape.has,WShape.arms,WShape.armsAll])
  (show (WTm.eq .res (.lit (.bool true))).value [] { args:=args,res:=some (.bool true),after:=args }=some (.bool (true==true)) from w_eq_bool (w_res rfl) w_lit) rfl
theorem xp{l:OpenLaw}{n:Nat}{q:Program}{uh:List Str}{XP:(Str->Option Value)->Heap->Prop}{YP:World->Heap->Prop}{d:DefRec}(hn:l.most=some n)(Qp:d.params.defaults=[])(call:∀ (w:World) (s₀ s₁:Shared) (mg mb:Str->Option Value) (fa:Addr) (o:Obj) (pm cd mI:Value) (a:Addr) (vs:List Value) (ns:List Int),
   Ground q uh [] XP w s₀ mg mb s₁.heap->YP w s₁.heap->
   s₁.heap.get? fa=some o->o.data=.func (docDef d.name d.params d.body d.scope pm cd mI)->s₁.heap.CodeRec cd d.name->mg d.name=some (.ref fa)->
   s₁.heap.get? a=some { cls:=.type "list",data:=.seq vs.toArray }->IntsAre vs ns->ns.length<=n->s₁.gens=#[]->
   codeAny (model l.prog w) callerA (.call (.ref fa) ⟨[.ref a],[]⟩) (fun r s'=>r=.ok (.ret (.bool true))/\OldK s₁.heap s'.heap/\s'.os=s₁.os/\AllBare s'.gens) s₁):
  WalkO q uh XP YP l.row.toRowW d [] (fun f vs=>PySem.call f vs):=by
 intro w s₀ s₁ mg mb G Y fa o pm cd mI dV kV ho hd t7 hD Fb hg args Fa as Iw aab hrd Vz O0;obtain rfl:dV=.none:=Dflts.none hD Qp;obtain rfl:kV=.none:=Dflts.noKw hD;obtain⟨a,vs,ns,rfl,rfl,L8,Fc,eX⟩:=Dg hn Iw Vz;refine enter_call (oM (call w s₀ s₁ mg mb fa o pm cd mI a vs ns G Y ho (fd_plain hd) t7 Fb L8 Fc eX hg) fun r s' hq=>?_);obtain⟨rfl,h2,h3,h4⟩:=hq;exact⟨.inl ⟨.bool true,.bool true,[],rfl,fun _=>rfl,.bool true,Dh l _,fun _=>⟨List.Pairwise.nil,fun _ hm=>(nomatch hm)⟩⟩,h2,h3,h4⟩
section
variable {prog:Program} {w:World} {A:Around} {E:Value->Shared->Prop} {s:Shared} {K:Frag}
end
end ZH
namespace L2
open PySem PySem.Spec PyProof.Rows
theorem ui:∀ {vs:List Value} {ns:List Int},IntsAre vs ns->a8 (ns.map V.int) vs
 |_,_,.nil=>.nil
 |_,_,.cons n t h=>.cons ⟨t,rfl⟩ (ui h)
def fu(s:Stmt)(j:Nat):Stmt:=match s with
 |.ClassDef _ _ _ body _ _ _ _ _ _ _=>body.getD j (.Pass ⟨0,0,0,0⟩)
 |_=>.Pass ⟨0,0,0,0⟩
def dG(s:Stmt):Arguments:=match s with
 |.FunctionDef _ a _ _ _ _ _ _ _ _=>a
 |_=>{ posonlyargs:=[],args:=[],vararg:=none,kwonlyargs:=[],kw_defaults:=[],kwarg:=none,defaults:=[] }
def b9(s:Stmt):List Stmt:=match s with
 |.FunctionDef _ _ b _ _ _ _ _ _ _=>b
 |_=>[]
def au(s:Stmt):Scope:=match s with
 |.FunctionDef _ _ _ _ _ _ sc _ _ _=>sc
 |_=>{ kind:=.function,names:=[],isGenerator:=false,isCoroutine:=false }
abbrev bh:yF:=fun _ _ _ _ _ _=>False
abbrev E0:XK:=fun _ _ _=>False
theorem aO:lZ bh X E0:=fun _ _ _ _ _ _ _ h=>h.elim
structure hV(K:PySem.W.Frag)(x qual:Str)(st:Stmt)(f:Addr)(fd:FuncData):Prop where
 ex:∃ (oc:Value) (od:Option Addr) (kV mI pm:Value) (an:Option Addr) (eV ct:Value) (yG:Array (Option Value)),
  fd=PySem.W.fnOf x qual (dG st) (b9 st) (au st) .none kV mI pm an eV ct/\K.lookup f=some ⟨oc,od,.func fd,yG⟩/\PySem.W.codeIn K eV qual=true
 kp:PySem.W.keepIn K (.ref f)=true
section
variable {P:Program} {w:World} {K:PySem.W.Frag} {mg:Str->Option Value} {base:Heap}
theorem hV.ok{x qual:Str}{st:Stmt}{f:Addr}{fd:FuncData}{N ps:List Str}{k:Nat}{sp:Sp}(F:hV K x qual st f fd)(S:aP N ps (au st))(len:∀vs H Q E,sp vs H Q E->vs.length=ps.length)(xi:∀ (eV:Value) (A:Around) (outer:List Env) (s:Shared) (H:Hp) (vs:List V) (Q:VK) (E:XK),cy k (A.deeper (envOfC qual (au st) s.heap.objs.size f eV))->sp vs H Q E->
   ∃t,zP (kD bh P w K mg base N qual (au st) f eV A outer s H E).yE (b9 st) t/\t { nx:=fun _ H'=>Q .cE H',rt:=Q } (start N vs) H):bJ P w K mg base bh (k+1) f fd ps sp:=by
 obtain⟨oc,od,kV,mI,pm,an,eV,ct,yG,rfl,lk,t7⟩:=F.ex;refine KW lk t7 S len fun A outer s H vs Q E hr HL=>?_;obtain⟨t,h,q⟩:=xi eV A outer s H vs Q E hr HL;exact⟨t,h.yE,q⟩
theorem hV.binds{x qual:Str}{st:Stmt}{f:Addr}{fd:FuncData}{ps:List Str}(F:hV K x qual st f fd)(h:∀ (kV mI pm:Value) (an:Option Addr) (eV ct:Value) (us:List Value),us.length=ps.length->bindArgs (PySem.W.fnOf x qual (dG st) (b9 st) (au st) .none kV mI pm an eV ct) ⟨us,[]⟩=pure (ps.zip us)):jI K fd ps []:=by
 obtain⟨oc,od,kV,mI,pm,an,eV,ct,yG,rfl,lk,t7⟩:=F.ex;exact .all (h kV mI pm an eV ct)
theorem rH{x qual:Str}{st:Stmt}{f:Addr}{oc:Value}{od an:Option Addr}{yG:Array (Option Value)}{kV mI pm eV ct:Value}(l:K.lookup f=some ⟨oc,od,.func (PySem.W.fnOf x qual (dG st) (b9 st) (au st) .none kV mI pm an eV ct),yG⟩)(c:PySem.W.codeIn K eV qual=true)(k:PySem.W.keepIn K (.ref f)=true):hV K x qual st f (PySem.W.fnOf x qual (dG st) (b9 st) (au st) .none kV mI pm an eV ct):=⟨⟨oc,od,kV,mI,pm,an,eV,ct,yG,rfl,l,c⟩,k⟩
end
section
variable {X:Cx}
theorem pv(i:Nat)(hN:X.N[i]?=some x:=by rfl)(hv:OV X.env.scope x:=by first|exact Or.inl rfl|exact Or.inr (Or.inl rfl)|exact Or.inr (Or.inr rfl))(hd:(x==("__debug__":Str))=false:=by decide)(t7:(x==("__classdict__":Str))=false:=by decide):PE X (.Name x pos) (aY i):=LK hN hv hd t7
end
theorem gO{A B:Prop}(h:B):if false=true then A else B:=by
 rw[av cG];exact h
theorem vR{A B:Prop}(h:A):if true=true then A else B:=by
 rw[ak rfl];exact h
theorem fX{c A B:Prop}[Decidable c](h1:c->A)(h2:¬ c->B):if c then A else B:=by
 by_cases h:c
 .rw[ak h];exact h1 h
 .rw[av h];exact h2 h
def aL(H H':Hp):Prop:=∀b o,H b=some o->H' b=some o
theorem aL.refl(H:Hp):aL H H:=fun _ _ h=>h
theorem aL.trans(a:aL H H1)(b:aL H1 H2):aL H H2:=fun c o h=>b c o (a c o h)
theorem aL.free(e:aL H H')(h:H' l=Option.none):H l=Option.none:=by
 cases q:H l with
 |none=>rfl
 |some o=>
  rw[e l o q] at h;cases h
def yJ(src:List (Option Nat))(σ:St):St:=src.map fun o=>match o with|some j=>σ.getD j none|none=>none
theorem BJ{src:List (Option Nat)}{σ:St}{i:Nat}{v:V}(h:(yJ src σ)[i]?=some (some v)):∃j,src[i]?=some (some j)/\σ[j]?=some (some v):=by
 unfold yJ at h;rw[bZ] at h;cases e:src[i]? with
 |none=>rw[e] at h;cases h
 |some o=>
  rw[e] at h;cases o with
  |none=>cases h
  |some j=>
   refine⟨j,rfl,?_⟩;have h':σ.getD j none=some v:=bN h;rw[bY] at h';cases e2:σ[j]? with
   |none=>rw[e2] at h';cases h'
   |some o=>rw[e2] at h';rw[show o=some v from h']
structure gQ(NB:List Str)(src:List (Option Nat))(scope:Scope)(X:Cx):Prop where
 kind:scope.kind=.function
 nd:NB.Nodup
 len:src.length=NB.length
 cells:∀y∈scope.names,y.2=.cell->scope.names.lookup y.1=some .cell
 names:∀y∈scope.names,y.2=.local->scope.names.lookup y.1=some .local
 free:∀y∈scope.names,y.2=.free->X.env.scope.names.lookup y.1=some .cell\/X.env.scope.names.lookup y.1=some .free
 src:∀ (i:Nat) (x:Str) (j:Nat),NB[i]?=some x->src[i]?=some (some j)->X.N[j]?=some x/\scope.names.lookup x=some .free
def vS(scope:Scope)(x:Str):Bool:=match scope.names.lookup x with
 |some .cell=>true
 |_=>false
theorem xq:vS scope x=true↔scope.names.lookup x=some .cell:=by
 unfold vS;split
 .rename_i h;exact⟨fun _=>h,fun _=>rfl⟩
 .rename_i h;exact⟨fun z=>(by cases z),fun z=>absurd z h⟩
def BK(X:Cx)(NB:List Str)(scope:Scope)(cl:List (Str×Addr))(C:Addr)(s₃:Shared)(H₃:Hp)(fp:List Addr):Cx:=
 { X with N:=NB,s₀:=s₃,H₀:=H₃,env:=compEnvC scope cl C X.env,outer:=X.stack,stack:=X.stack,ex:=fp,fn:=vS scope,pn:=[],xe:=fun _ _=>False }
theorem l0:∀ (names:List (Str×NameKind)) (cZ:List (Str×Addr)),(∀y∈names,y.2=NameKind.free->∃c,env.cells.lookup y.1=some c)->(∀x c,cZ.lookup x=some c->env.cells.lookup x=some c)->
  ∃cl,(forIn names cZ fun x r=>(if (x.2==NameKind.free)=true then (do let a <- cellOf env x.1;pure (ForInStep.yield ((x.1,a)::r))) else pure (ForInStep.yield r):Sem (ForInStep (List (Str×Addr)))))=(pure cl:Sem (List (Str×Addr)))/\
   (∀x c,cl.lookup x=some c->env.cells.lookup x=some c)/\(∀x c,cZ.lookup x=some c->∃c',cl.lookup x=some c')/\∀x,(x,NameKind.free)∈names->∃c,cl.lookup x=some c
 |[],cZ,_,ha=>⟨cZ,by rw[oB],ha,fun x c h=>⟨c,h⟩,fun x h=>nomatch h⟩
 |(n,k)::r,cZ,hf,ha=>by
  by_cases hk:k=NameKind.free
  .subst hk;obtain⟨c,hc⟩:=hf (n,NameKind.free) bu rfl;have L9:∀x c',((n,c)::cZ).lookup x=some c'->env.cells.lookup x=some c':=fun x c' h=>by
    rw[fK] at h;cases hx:x==n with
    |true=>
     rw[hx] at h;cases h;have:x=n:=by simpa using hx
     rw[this];exact hc
    |false=>rw[hx] at h;exact ha x c' h
   obtain⟨cl,e1,e2,e3,e4⟩:=l0 r ((n,c)::cZ) (fun y hy=>hf y (bA _ hy)) L9;refine⟨cl,?_,e2,fun x c' h=>?_,fun x h=>?_⟩
   .rw[oz];have ec:cellOf env n=pure c:=by unfold cellOf;rw[hc]
    have e0:(if ((n,NameKind.free).2==NameKind.free)=true then (do let a <- cellOf env (n,NameKind.free).1;pure (ForInStep.yield (((n,NameKind.free).1,a)::cZ))) else pure (ForInStep.yield cZ):Sem (ForInStep (List (Str×Addr))))=pure (ForInStep.yield ((n,c)::cZ)):=by
     rw[ak (show (NameKind.free==NameKind.free)=true by decide)];show cellOf env n >>= _=_;rw[ec];rfl
    rw[e0];exact e1
   .cases hx:x==n with
    |true=>exact e3 x c (by rw[fK,hx])
    |false=>exact e3 x c' (by rw[fK,hx];exact h)
   .rcases bn.mp h with h|h
    .cases h;exact e3 n c (by rw[fK];simp)
    .exact e4 x h
  .obtain⟨cl,e1,e2,e3,e4⟩:=l0 r cZ (fun y hy=>hf y (bA _ hy)) ha;refine⟨cl,?_,e2,e3,fun x h=>?_⟩
   .rw[oz];have hb:(k==NameKind.free)=false:=by simpa using hk
    have e0:(if ((n,k).2==NameKind.free)=true then (do let a <- cellOf env (n,k).1;pure (ForInStep.yield (((n,k).1,a)::cZ))) else pure (ForInStep.yield cZ):Sem (ForInStep (List (Str×Addr))))=pure (ForInStep.yield cZ):=by
     rw[av (by show ¬ (k==NameKind.free)=true;rw[hb];decide)]
    rw[e0];exact e1
   .rcases bn.mp h with h|h
    .cases h;exact absurd rfl hk
    .exact e4 x h
theorem l4(ok:X.Ok)(S:gQ NB src scope X):
  ∃cl,closureFor scope X.env=pure cl/\(∀x c,cl.lookup x=some c->X.env.cells.lookup x=some c)/\∀x,(x,NameKind.free)∈scope.names->∃c,cl.lookup x=some c:=by
 obtain⟨cl,e1,e2,_,e4⟩:=l0 (env:=X.env) scope.names [] (fun y hy hk=>ok.has y.1 (S.free y hy hk)) (fun x c h=>nomatch h);refine⟨cl,?_,e2,e4⟩;unfold closureFor;simp only[bind_pure];exact e1
theorem vT(h:scope.names.lookup x=some .free):(relabel scope env).names.lookup x=some .cell\/(relabel scope env).names.lookup x=some .free:=by
 have go:∀names:List (Str×NameKind),names.lookup x=some .free->
   (names.map fun (n,k)=>if (k==NameKind.free&&env.scope.kind==.function&&env.kindOf n==some .cell) then (n,NameKind.cell) else (n,k)).lookup x=some .cell\/
   (names.map fun (n,k)=>if (k==NameKind.free&&env.scope.kind==.function&&env.kindOf n==some .cell) then (n,NameKind.cell) else (n,k)).lookup x=some .free:=by
  intro names;induction names with
  |nil=>intro h;simp at h
  |cons y r ih=>
   intro h;obtain⟨n,k⟩:=y;rw[fK] at h;rw[fh];cases hx:x==n with
   |true=>
    rw[hx] at h;cases h;by_cases hc:(NameKind.free==NameKind.free&&env.scope.kind==.function&&env.kindOf n==some .cell)=true
    .left;show List.lookup x ((if _ then _ else _)::_)=_;rw[ak hc,fK,hx]
    .right;show List.lookup x ((if _ then _ else _)::_)=_;rw[av hc,fK,hx]
   |false=>
    rw[hx] at h;by_cases hc:(k==NameKind.free&&env.scope.kind==.function&&env.kindOf n==some .cell)=true
    .show List.lookup x ((if _ then _ else _)::_)=_\/List.lookup x ((if _ then _ else _)::_)=_;rw[ak hc,fK,hx];exact ih h
    .show List.lookup x ((if _ then _ else _)::_)=_\/List.lookup x ((if _ then _ else _)::_)=_;rw[av hc,fK,hx];exact ih h
 exact go scope.names h
theorem mJ(h:(relabel scope env).names.lookup x=some k)(hk:k=.cell\/k=.free):(x,NameKind.free)∈scope.names\/(x,NameKind.cell)∈scope.names:=by
 have m:=jS h;obtain⟨⟨n,k'⟩,hm,e⟩:=bB.mp m;by_cases q:(k'==NameKind.free&&env.scope.kind==.function&&env.kindOf n==some .cell)=true
 .have e':(n,NameKind.cell)=(x,k):=by simpa [q] using e
  have k1:k'=NameKind.free:=by
   simp only[gm,fT] at q;exact q.1.1
  cases e';left;rw[<-k1];exact hm
 .have e':(n,k')=(x,k):=by simpa [q] using e
  cases e';rcases hk with z|z
  .subst z;exact .inr hm
  .subst z;exact .inl hm
theorem o5:∀ (names:List (Str×NameKind)) (h:Heap) (cZ:List (Str×Addr)) (x:Str) (c:Addr),(cellsFrom h.objs.size names cZ).lookup x=some c->cZ.lookup x=some c\/(h.objs.size<=c/\(pushCells h names).IsCell c none)
 |[],_,_,_,_,e=>.inl e
 |(name,kind)::r,h,cZ,x,c,e=>by
  unfold cellsFrom at e;unfold pushCells;split at e
  .rename_i hk;rw[ak hk];have ir:(h.push { cls:=.type "cell",data:=.cell none }).objs.size=h.objs.size+1:=im ..;rw[<-ir] at e;rcases o5 r _ _ x c e with z|⟨z1,z2⟩
   .rw[fK] at z;cases hx:x==name with
    |true=>
     rw[hx] at z;cases z;exact .inr ⟨aU _,_,pushCells_keeps r _ _ _ (cB _ rfl),rfl⟩
    |false=>rw[hx] at z;exact .inl z
   .exact .inr ⟨by lia,z2⟩
  .rename_i hk;rw[av hk];exact o5 r h cZ x c e
theorem uj:∀ (names:List (Str×NameKind)) (n:Nat) (cZ:List (Str×Addr)) (x:Str),(x,NameKind.cell)∈names->∃c,n<=c/\(cellsFrom n names cZ).lookup x=some c:=by
 have up:∀ (names:List (Str×NameKind)) (n m:Nat) (cZ:List (Str×Addr)) (x:Str) (c:Addr),cZ.lookup x=some c->m<=c->m<=n->∃c',m<=c'/\(cellsFrom n names cZ).lookup x=some c':=by
  intro names;induction names with
  |nil=>intro n m cZ x c e h _;exact⟨c,h,e⟩
  |cons y r ih=>
   intro n m cZ x c e h hm;obtain⟨name,kind⟩:=y;unfold cellsFrom;split
   .cases hx:x==name with
    |true=>exact ih (n+1) m _ x n (by rw[fK,hx]) hm (by lia)
    |false=>exact ih (n+1) m _ x c (by rw[fK,hx];exact e) h (by lia)
   .exact ih n m cZ x c e h hm
 intro names;induction names with
 |nil=>intro n cZ x h;cases h
 |cons y r ih=>
  intro n cZ x h;obtain⟨name,kind⟩:=y;unfold cellsFrom;rcases bn.mp h with z|z
  .cases z;rw[ak (by decide)];exact up r (n+1) n _ x n (by rw[fK];simp) (aU _) (by lia)
  .split
   .obtain⟨c,h1,h2⟩:=ih (n+1) ((name,n)::cZ) x z;exact⟨c,by lia,h2⟩
   .exact ih n cZ x z
theorem k6:∀ (names:List (Str×NameKind)) (n:Nat) (cZ:List (Str×Addr)) (x:Str) (c:Addr),cZ.lookup x=some c->(x,NameKind.cell)∉names->(cellsFrom n names cZ).lookup x=some c
 |[],_,_,_,_,e,_=>e
 |(name,kind)::r,n,cZ,x,c,e,h=>by
  have hr:(x,NameKind.cell)∉r:=fun z=>h (bA _ z);unfold cellsFrom;split
  .rename_i hk;have pP:(x==name)=false:=by
    cases hx:x==name with
    |false=>rfl
    |true=>
     have e1:x=name:=by simpa using hx
     have e2:kind=.cell:=by simpa using hk
     exact absurd (by rw[e1,e2];exact bu) h
   exact k6 r (n+1) _ x c (by rw[fK,pP];exact e) hr
  .exact k6 r n cZ x c e hr
theorem o_:∀ (names:List (Str×NameKind)) (n:Nat) (cZ:List (Str×Addr)),(∀x y c,cZ.lookup x=some c->cZ.lookup y=some c->x=y)->(∀x c,cZ.lookup x=some c->c<n)->∀x y c,(cellsFrom n names cZ).lookup x=some c->(cellsFrom n names cZ).lookup y=some c->x=y
 |[],_,_,hi,_=>hi
 |(name,kind)::r,n,cZ,hi,hl=>by
  unfold cellsFrom;split
  .refine o_ r (n+1) _ (fun x y c h1 h2=>?_) (fun x c h=>?_)
   .rw[fK] at h1 h2;cases hx:x==name <;> cases hy:y==name <;> rw[hx] at h1 <;> rw[hy] at h2
    .exact hi x y c h1 h2
    .cases h2;exact absurd (hl x _ h1) (ip _)
    .cases h1;exact absurd (hl y _ h2) (ip _)
    .have e1:x=name:=by simpa using hx
     have e2:y=name:=by simpa using hy
     rw[e1,e2]
   .rw[fK] at h;cases hx:x==name <;> rw[hx] at h
    .exact ff (hl x c h)
    .cases h;exact jk _
  .exact o_ r n cZ hi hl
section
variable {X:Cx} {af:List (Addr×Obj)} {σ:St} {H:Hp} {s:Shared} {NB:List Str} {src:List (Option Nat)} {scope:Scope} {cl:List (Str×Addr)} {fp:List Addr} {h₁:Heap} {t₁:Nat}
theorem Ix(I:aS X af σ H s)(S:gQ NB src scope X)(c1:∀x c,cl.lookup x=some c->X.env.cells.lookup x=some c)(c2:∀x,(x,NameKind.free)∈scope.names->∃c,cl.lookup x=some c)(hf:∀b∈fp,gf X af H b)(L_:∀b∈fp,b<s.heap.objs.size){m:Str->Option Value}(hn:h₁.Ns s.heap.objs.size m)(hk:∀b o,s.heap.get? b=some o->h₁.get? b=some o)(rG:∀x c,(cellsFrom (s.heap.objs.size+1) scope.names cl).lookup x=some c->cl.lookup x=some c\/(s.heap.objs.size<c/\h₁.IsCell c none)):
  aS (BK X NB scope (cellsFrom (s.heap.objs.size+1) scope.names cl) s.heap.objs.size s H fp) [] (yJ src σ) H { s with heap:=h₁,toks:=t₁ }:=by
 have OX:∀b∈Ei X.stack,b∈X.env.locals::X.fs:=I.vD;have vU:∀x c,cl.lookup x=some c->∃v,s.heap.IsCell c v:=fun x c e=>I.cell x c (c1 x c e);have VA:∀x c,cl.lookup x=some c->c<s.heap.objs.size:=fun x c e=>by obtain⟨v,o,ho,_⟩:=vU x c e;exact aT ho
 refine⟨⟨I.ok.mod,S.kind,I.ok.glob,I.ok.blt,aU _,o_ _ _ _ (fun x y c e1 e2=>I.ok.inj x y c (c1 x c e1) (c1 y c e2)) (fun x c e=>ff (VA x c e)),fun x hx=>?_,fun x c z e=>?_,I.ok.hd,I.ok.frames,.inl rfl,fun b hb=>⟨?_,fun x c e=>?_⟩,I.bs,ba I.ok.EM I.sz,fun b o e hb=>?_,fun b hb=>?_,I.stack,I.vE⟩,
  rfl,I.bare,Un.kept hk,⟨m,hn,fun i x v e1 e2 e3=>?_⟩,fun x c e=>?_,I.cz.fresh (aU _),fun x c e=>?_,fun p hp=>absurd (show p∈([]:List (Addr×Obj)) from hp) (by simp),I.cz.kept hk,?_⟩
 .have Ab:(x,NameKind.free)∈scope.names\/(x,NameKind.cell)∈scope.names:=by
   rcases hx with hx|hx
   .exact mJ hx (.inl rfl)
   .exact mJ hx (.inr rfl)
  by_cases hc:(x,NameKind.cell)∈scope.names
  .obtain⟨c,_,e⟩:=uj scope.names (s.heap.objs.size+1) cl x hc;exact⟨c,e⟩
  .rcases Ab with z|z
   .obtain⟨c,e⟩:=c2 x z;exact⟨c,k6 _ _ _ _ _ e hc⟩
   .exact absurd z hc
 .have hm:=jS (xq.mp z);obtain⟨c',h1,h2⟩:=uj scope.names (s.heap.objs.size+1) cl x hm;have e':(cellsFrom (s.heap.objs.size+1) scope.names cl).lookup x=some c:=e;rw[h2] at e';cases e';exact Nat.le_of_succ_le h1
 .exact aW (L_ b hb)
 .rcases rG x c e with z|⟨z,_⟩
  .exact(hf b hb).2.2.2.2.1 x c (c1 x c z)
  .exact fA (oG (L_ b hb) z)
 .rcases(hf b hb).2.2.2.1 with z|z
  .exact I.ok.EN b o e z
  .exact absurd (br (aT e) (ba I.ok.EM z)) (ip _)
 .intro z;rcases bn.mp (OX b z) with e|e
  .exact(hf b hb).2.1 e
  .exact(hf b hb).2.2.1 e
 .obtain⟨j,hj,hv⟩:=BJ e2;obtain⟨hN,hF⟩:=S.src i x j e1 hj;obtain⟨m0,Eo,Ma⟩:=I.loc;have Ac:=jS hF;have kx:=S.free _ Ac rfl;have P8:OV X.env.scope x:=by
   rcases kx with z|z
   .exact .inr (.inl z)
   .exact .inr (.inr z)
  obtain⟨u,r,l⟩:=Ma j x v hN hv P8;refine⟨u,r,.inr ⟨vT hF,?_⟩⟩;obtain⟨c,hc⟩:=c2 x Ac;have hnc:(x,NameKind.cell)∉scope.names:=fun z=>by
   have:=S.cells _ z rfl;rw[hF] at this;cases this
  refine⟨c,k6 _ _ _ _ _ hc hnc,?_⟩;rcases l with ⟨KY,_⟩|⟨_,c',e,z⟩
  .have Fd:X.env.scope.names.lookup x=some .local:=KY;rcases kx with z|z <;> (rw[z] at Fd;cases Fd)
  .rw[c1 x c hc] at e;cases e;obtain⟨o,ho,hd⟩:=z;exact⟨o,hk _ _ ho,hd⟩
 .rcases rG x c e with z|⟨_,z⟩
  .obtain⟨v,o,ho,hd⟩:=vU x c z;exact⟨v,o,hk _ _ ho,hd⟩
  .exact⟨none,z⟩
 .rcases rG x c e with z|⟨z,_⟩
  .exact I.km x c (c1 x c z)
  .exact I.cz.fresh (lU z)
 .show (yJ src σ).length=NB.length;unfold yJ;rw[aR];exact S.len
theorem aS.Qq(I:aS X af σ H s)(J:aS (BK X NB scope cl C s H fp) [] σB H' s')(hf:∀b∈fp,gf X af H b):aS X af σ H' s':=by
 refine I.KL (ch:=fp) J.os J.base J.cz J.bare fun b hb=>?_;obtain⟨_,f1,_,f3,f4,f5⟩:=hf b hb;exact⟨f3,f1,f4,f5⟩
end
def O1(X:Cx)(BL:List Expr)(t:TT):Prop:=
 ∀ (af:List (Addr×Obj)) (s:Shared) (σ:St) (H:Hp) (Q:Bool->Hp->Prop),aS X af σ H s->t σ H Q->
  wpAny (model X.prog X.w) X.A (forIn BL true fun c r=>if r=true then do let ok <- isTrue c X.env (eval c X.env);pure (ForInStep.yield ok) else pure (ForInStep.yield r)) (TP X af σ Q) X.xe s
def Mb:TT:=fun _ H Q=>Q true H
theorem c_:O1 X [] Mb:=fun _ _ _ H _ I h=>wpAny_tests_nil ⟨H,I,h⟩
theorem fY(h:PT X c t):O1 X [c] t:=fun af s σ H Q I q=>wpAny_tests_one (h af s σ H Q I q)
def gu(J:It)(g:TG)(tt:TT)(te:TE)(D:Addr)(d7:Hp->Prop)(σB:St)(H1:Hp):Prop:=
 ∃W:Nat->Nat->St->Hp->Prop,(∃m,W 0 m σB H1)/\∀i m σ H,W i m σ H->(J.stop i H/\d7 H)\/(J.go i H/\∀x H',J.LV i H x H'->g x σ H' fun σ2 H2=>tt σ2 H2 fun b H3=>
  if b=true then te σ2 H3 fun v H4=>∃ys,H4 D=some (.lst ys)/\ys.length<sizeLine/\∃m',m'<m/\W (i+1) m' σ2 (upd H4 D (.lst (ys++[v]))) else ∃m',m'<m/\W (i+1) m' σ2 H3)
theorem Di(hx:B.xe=fun _ _=>False)(hc:B.calm=true)(T:xa B.prog B.w B.K tg J fp it tn)(hg:PG B tg g)(ht:O1 B BL tt)(he:PE B Ep te)(I:aS B [] σB H1 s)(st:tn 0 s.heap)(hf:∀b∈fp,gf B [] H1 b)(hw:gu J g tt te D d7 σB H1)(hR:∀σ' H' s',aS B [] σ' H' s'->d7 H'->R (.ok .next) s'):
  codeAny (model B.prog B.w) B.A (.compLoop (.ListComp Ep [⟨tg,jM,BL,0⟩] scope pos) 0 (.ref it) (.ref D) B.env) R s:=by
 obtain⟨W,⟨m0,w0⟩,ES⟩:=hw;have zU:∀ {H':Hp},(∀b∈fp,H' b=none)->∀b∈fp,gf B [] H' b:=fun hn b hb=>⟨hn b hb,(hf b hb).2⟩
 refine codeAny_loop rfl (fun n s'=>∃i σ' H',aS B [] σ' H' s'/\tn i s'.heap/\(∀b∈fp,H' b=none)/\W i n σ' H') ?_ m0 ⟨0,σB,H1,I,st,fun b hb=>(hf b hb).1,w0⟩;rintro n s3 ⟨i,σ3,H3,I3,sO,HJ,w3⟩;show wpAny _ B.A ((compTurn (.ListComp Ep [⟨tg,jM,BL,0⟩] scope pos) 0 (.ref it) (.ref D) B.env).onRaise (fun x=>do noteFrame x B.env;theTreesLotGoes x)) _ _ s3;refine wpAny_noted ?_;rw[compTurn_list];have nx:∀ {α:Type} {t:Sem α} {Q:α->Shared->Prop} {E':Value->Shared->Prop} {s:Shared},wpAny (model B.prog B.w) B.A t Q B.xe s->wpAny (model B.prog B.w) B.A t Q E' s:=fun h=>
  jn h (fun _ _ q=>q) fun _ _ z=>by rw[hx] at z;exact z.elim
 rcases ES i n σ3 H3 w3 with ⟨stop,qn⟩|⟨go,step⟩
 .refine aA (oH (aA (dJ (T.done B rfl rfl rfl hc i [] s3 σ3 H3 _ I3 (zU HJ) sO stop) fun r s4 ⟨hr,I4⟩=>?_)));subst hr;exact wpAny_pure (hR σ3 H3 s4 I4 qn)
 .refine aA (oH (aA (dJ (T.item B rfl rfl rfl hc i [] s3 σ3 H3 _ I3 (zU HJ) sO go) fun r s4 ⟨u,hr,h4⟩=>?_)));subst hr;refine aA (dJ h4 fun _ s5 ⟨x,H5,I5,r5,y5,wS,LW⟩=>?_);have Vl:=I5.pinned (zU LW) (T.obj _ _ wS);refine aA (nx (dJ (hg _ s5 σ3 H5 x u _ Vl r5 (step x H5 y5)) fun _ s6 ⟨σ6,H6,I6,q6⟩=>?_));have back:∀ {σ7:St} {H7:Hp} {s7:Shared} {m':Nat},aS B ([]++rC fp s5.heap) σ7 H7 s7->m'<n->W (i+1) m' σ7 H7->∃m,m<n/\∃i σ' H',aS B [] σ' H' s7/\tn i s7.heap/\(∀b∈fp,H' b=none)/\W i m σ' H':=fun {σ7 H7 s7 m'} I7 hm w7=>by
   refine⟨m',hm,i+1,σ7,H7,I7.mD,T.keep _ _ _ wS fun b hb o e=>(I7.pin (b,o) (dZ _ (dZ _ (js hb e)))).1,fun b hb=>?_,w7⟩;obtain⟨o,e,d⟩:=T.obj _ _ wS b hb;exact(I7.pin (b,o) (dZ _ (dZ _ (js hb e)))).2.1
  refine aA (nx (dJ (ht _ s6 σ6 H6 _ I6 q6) fun ok s7 ⟨H7,I7,q7⟩=>?_));cases ok with
  |false=>
   rw[av cG] at q7;obtain⟨m',hm,w7⟩:=q7;exact wpAny_pure ⟨rfl,back I7 hm w7⟩
  |true=>
   rw[ak rfl] at q7;refine aA (aA (nx (dJ (he _ s7 σ6 H7 _ I7 q7) fun v s8 ⟨y,H8,I8,r8,ys,hD,hl,m',hm,w8⟩=>?_)));refine aA (nx (dJ (du _ s8 σ6 H8 (.ref D) [y] (.ref D) [v] (fun _ H9=>H9=upd H8 D (.lst (ys++[y]))) I8 rfl (.cons r8 .nil) ⟨D,ys,y,rfl,rfl,hD,hl,rfl⟩) fun _ s9 ⟨_,H9,I9,_,e9⟩=>?_));subst e9;exact wpAny_pure (wpAny_pure ⟨rfl,back I9 hm w8⟩)
theorem vV(hQ:Q { scope:=scope,locals:=s.heap.objs.size,globals:=globals,cells:=cellsFrom (s.heap.objs.size+1) scope.names cl,qual:=qual,func:=none,code:=outer.code,frame:=outer.frame,builtins:=outer.builtins }
   { s with heap:=pushCells (s.heap.push { cls:=.type "dict",data:=.dict #[] }) scope.names }):
  wpAny M A (newFunctionEnv scope globals cl [] qual none .none (some outer)) Q E s:=by
 simp only[newFunctionEnv,Option.isSome_some,jo];refine aA (wpAny_alloc ?_);refine aA (wpAny_layCells _ (fun name kind cells=>by cases hkc:kind==NameKind.cell <;> simp[hkc]) _ _ _ _ ?_);rw[show ({ s with heap:=s.heap.push { cls:=.type "dict",data:=.dict #[] } }:Shared).heap.objs.size=s.heap.objs.size+1 from im ..];refine aA ?_;rw[oB];exact wpAny_pure (wpAny_pure hQ)
section
variable {X:Cx} {Ep tg jM:Expr} {BL:List Expr} {scope:Scope} {pos:Pos} {wi:TI} {g:TG} {tt:TT} {te:TE} {NB:List Str} {src:List (Option Nat)}
def Fe(src:List (Option Nat))(wi:TI)(g:TG)(tt:TT)(te:TE):TE:=fun σ H Q=>wi σ H fun J H1=>∀D,H1 D=none->gu J g tt te D (fun H'=>Q (.ref D) H') (yJ src σ) (upd H1 D (.lst []))
theorem rJ{af:List (Addr×Obj)}{σ:St}{H2:Hp}{s2:Shared}{J:It}{fp:List Addr}{it:Addr}{tn:Nat->Heap->Prop}{cl:List (Str×Addr)}{d7:Addr->Hp->Prop}{E':Value->Shared->Prop}{RR:Value->Addr->Result->Shared->Prop}(S:gQ NB src scope X)(hc:X.calm=true)(c1:∀x c,cl.lookup x=some c->X.env.cells.lookup x=some c)(c2:∀x,(x,NameKind.free)∈scope.names->∃c,cl.lookup x=some c)(hg:∀cl C s₃ H₃ fp,PG (BK X NB scope cl C s₃ H₃ fp) tg g)(ht:∀cl C s₃ H₃ fp,O1 (BK X NB scope cl C s₃ H₃ fp) BL tt)(he:∀cl C s₃ H₃ fp,PE (BK X NB scope cl C s₃ H₃ fp) Ep te)(I2:aS X af σ H2 s2)(T:xa X.prog X.w X.K tg J fp it tn)(g7:tn 0 s2.heap)(f2:∀b∈fp,gf X af H2 b)(hw:∀D,H2 D=none->gu J g tt te D (d7 D) (yJ src σ) (upd H2 D (.lst [])))(hR:∀D C H' s',gf X af H' C->aS X af σ H' s'->(∃m,s'.heap.Ns C m)->d7 D H'->RR (.ref D) C (.ok .next) s'):
  wpAny (model X.prog X.w) X.A (newList []) (fun cZ s₃=>wpAny (model X.prog X.w) X.A (newFunctionEnv scope X.env.globals cl [] X.env.qual none .none (some X.env)) (fun Qr s₄=>
   codeAny (model X.prog X.w) X.A (.compStart (.ListComp Ep [⟨tg,jM,BL,0⟩] scope pos) 0 (.ref it) cZ { Qr with scope:=relabel scope X.env }) (RR cZ Qr.locals) s₄) E' s₃) E' s2:=by
 refine vi (vV ?_);have I3:=I2.L7 (ys:=[]) (its:=[]) (t':=s2.toks) .nil (cx _);have hD:H2 s2.heap.objs.size=none:=I2.fresh;have fo:∀b∈fp,b<s2.heap.objs.size:=fun b hb=>by obtain⟨o,e,_⟩:=T.obj _ _ g7 b hb;exact aT e
 have up:∀ {b:Addr},b∈fp->upd H2 s2.heap.objs.size (.lst []) b=H2 b:=fun {b} hb=>ao (aW (fo b hb));have f3:∀b∈fp,gf X af (upd H2 s2.heap.objs.size (.lst [])) b:=fun b hb=>⟨by rw[up hb];exact(f2 b hb).1,(f2 b hb).2⟩
 have ir:(s2.heap.push { cls:=.type "list",data:=.seq ([]:List Value).toArray }).objs.size=s2.heap.objs.size+1:=by rw[im]
 generalize hs3:({ s2 with heap:=s2.heap.push { cls:=.type "list",data:=.seq ([]:List Value).toArray } }:Shared)=s3 at I3 |-;have ZI:s3.heap=s2.heap.push { cls:=.type "list",data:=.seq ([]:List Value).toArray }:=by rw[<-hs3]
 have ZJ:∀b∈fp,b<s3.heap.objs.size:=fun b hb=>by rw[ZI,ir];exact ff (fo b hb)
 have Qs:(s3.heap.push { cls:=.type "dict",data:=.dict #[] }).objs.size=s3.heap.objs.size+1:=im ..;have rG:∀x c,(cellsFrom (s3.heap.objs.size+1) scope.names cl).lookup x=some c->cl.lookup x=some c\/(s3.heap.objs.size<c/\(pushCells (s3.heap.push { cls:=.type "dict",data:=.dict #[] }) scope.names).IsCell c none):=fun x c e=>by
  rw[<-Qs] at e;rcases o5 _ _ _ _ _ e with z|⟨z1,z2⟩
  .exact .inl z
  .exact .inr ⟨by rw[Qs] at z1;exact z1,z2⟩
 have Qt:=(Heap.Ns.new s3.heap (.type "dict")).keeps (pushCells_keeps scope.names _);have keep:∀b o,s3.heap.get? b=some o->(pushCells (s3.heap.push { cls:=.type "dict",data:=.dict #[] }) scope.names).get? b=some o:=fun b o e=>pushCells_keeps _ _ b o (bL _ e);generalize hh1:pushCells (s3.heap.push { cls:=.type "dict",data:=.dict #[] }) scope.names=h₁ at rG Qt keep |-;have IB:aS (BK X NB scope (cellsFrom (s3.heap.objs.size+1) scope.names cl) s3.heap.objs.size s3 (upd H2 s2.heap.objs.size (.lst [])) fp) [] (yJ src σ) (upd H2 s2.heap.objs.size (.lst [])) { s3 with heap:=h₁,toks:=s3.toks }:=
  Ix I3 S c1 c2 f3 ZJ Qt keep rG
 have ZK:tn 0 h₁:=T.keep 0 s2.heap h₁ g7 fun b hb o e=>keep b o (by rw[ZI];exact bL _ e);have fB:∀b∈fp,gf (BK X NB scope (cellsFrom (s3.heap.objs.size+1) scope.names cl) s3.heap.objs.size s3 (upd H2 s2.heap.objs.size (.lst [])) fp) [] (upd H2 s2.heap.objs.size (.lst [])) b:=fun b hb=>by
  refine⟨(f3 b hb).1,aW (ZJ b hb),fun z=>?_,.inl hb,fun x c e=>(IB.ok.U5 b hb).2 x c e,fun p hp=>absurd (show p∈([]:List (Addr×Obj)) from hp) (by simp)⟩;rcases bn.mp (I3.vD b z) with e|e
  .exact(f3 b hb).2.1 e
  .exact(f3 b hb).2.2.1 e
 have loop:codeAny (model X.prog X.w) X.A (.compLoop (.ListComp Ep [⟨tg,jM,BL,0⟩] scope pos) 0 (.ref it) (.ref s2.heap.objs.size) (compEnvC scope (cellsFrom (s3.heap.objs.size+1) scope.names cl) s3.heap.objs.size X.env)) (RR (.ref s2.heap.objs.size) s3.heap.objs.size)
   { s3 with heap:=h₁,toks:=s3.toks }:=by
  refine Di (B:=BK X NB scope (cellsFrom (s3.heap.objs.size+1) scope.names cl) s3.heap.objs.size s3 (upd H2 s2.heap.objs.size (.lst [])) fp) rfl hc T (hg _ _ _ _ _) (ht _ _ _ _ _) (he _ _ _ _ _) IB ZK fB (hw _ hD) fun σ' H' s' J' q=>?_;obtain⟨m,hm,_⟩:=J'.loc;exact hR _ _ H' s' (I3.w_ (aU _) J'.free) (I3.Qq J' f3) ⟨m,hm⟩ q
 exact codeAny_compStart_list loop (T.self _ 0 _ _ _ ZK loop)
theorem cD(S:gQ NB src scope X)(hc:X.calm=true)(hi:PI X tg jM wi)(hg:∀cl C s₃ H₃ fp,PG (BK X NB scope cl C s₃ H₃ fp) tg g)(ht:∀cl C s₃ H₃ fp,O1 (BK X NB scope cl C s₃ H₃ fp) BL tt)(he:∀cl C s₃ H₃ fp,PE (BK X NB scope cl C s₃ H₃ fp) Ep te)(hs:∀x,foldedSetIterable jM X.env x=pure x:=by intro _;rfl):PE X (.ListComp Ep [⟨tg,jM,BL,0⟩] scope pos) (Fe src wi g tt te):=by
 intro af s σ H Q I h;obtain⟨cl,Er,c1,c2⟩:=l4 I.ok S;rw[eval_ListComp];refine wpAny_comprehension_free (use:=none) (cl:=cl) rfl hs Er S.kind S.names (dJ (hi af s σ H _ I h) fun v s1 h1=>dJ h1 fun T_ s2 h2=>?_);obtain⟨it,fp,tn,J,H2,e,I2,T,g7,f2,hw⟩:=h2;subst e;refine rJ (RR:=fun cZ C=>compPost (model X.prog X.w) X.A X.xe none (EP X af σ Q) cZ C) S hc c1 c2 hg ht he I2 T g7 f2 hw fun D C H' s' fC I' hm q=>?_;obtain⟨m,hm⟩:=hm;refine⟨m,hm,fun h' sb=>⟨.ref D,H',?_,rfl,q⟩⟩;obtain⟨g0,g1,_,g3,g4,g5⟩:=fC;exact I'.turned (t':=s'.toks) (fun b o hb e=>(sb.2 b hb).trans e) g0 g1 g3 g4 g5
theorem dY{i:Nat}{y:Str}{py Qu:Pos}(S:gQ NB src scope X)(hc:X.calm=true)(hi:PI X tg jM wi)(hg:∀cl C s₃ H₃ fp,PG (BK X NB scope cl C s₃ H₃ fp) tg g)(ht:∀cl C s₃ H₃ fp,O1 (BK X NB scope cl C s₃ H₃ fp) BL tt)(he:∀cl C s₃ H₃ fp,PE (BK X NB scope cl C s₃ H₃ fp) Ep te)(hN:X.N.Nodup)(hix:X.N[i]?=some y)(hy:X.env.scope.names.lookup y=some .local)(hsw:swapsWith (.ListComp Ep [⟨tg,jM,BL,0⟩] scope pos) (some (.Name y py)) Qu.line X.env=pure true)(hs:∀x,foldedSetIterable jM X.env x=pure x:=by intro _;rfl):
  PS X (.Assign [.Name y py] (.ListComp Ep [⟨tg,jM,BL,0⟩] scope pos) Qu) (LQ (Fe src wi g tt te) (bD i)):=by
 intro af s σ H D0 I h;obtain⟨cl,Er,c1,c2⟩:=l4 I.ok S;rw[exec_Assign_Name_used _ _ _ _ hsw];refine aA (oH (aA ?_));show wpAny _ X.A (do let _ <- comprehension (.ListComp Ep [⟨tg,jM,BL,0⟩] scope pos) scope X.env _ (newList []) false (eval jM X.env) (some (assign (.Name y py) X.env))) _ _ s;refine aA (jn (wpAny_comprehension_free (use:=some (assign (.Name y py) X.env)) (Q:=fun _ s'=>SP X af D0 .next s') (cl:=cl) rfl hs Er S.kind S.names
  (dJ (hi af s σ H _ I h) fun v s1 h1=>dJ h1 fun T_ s2 h2=>?_)) (fun _ s' hq=>wpAny_pure (wpAny_pure hq)) fun _ _ e=>e)
 obtain⟨it,fp,tn,J,H2,e,I2,T,g7,f2,hw⟩:=h2;subst e;refine rJ (RR:=fun cZ C=>compPost (model X.prog X.w) X.A X.xe (some (assign (.Name y py) X.env)) (fun _ s'=>SP X af D0 .next s') cZ C) S hc c1 c2 hg ht he I2 T g7 f2 hw fun D C H' s' fC I' hm q=>?_;obtain⟨m,hm⟩:=hm;obtain⟨g0,g1,_,g3,g4,g5⟩:=fC;show wpAny _ X.A (assign (.Name y py) X.env (.ref D)) _ _ _;refine wpAny_assign_Name (tZ I' hN hix (.inl hy) (v:=.ref D) rfl (fun HK I'' sb=>?_) (.inr hy));obtain⟨a,sb,ha⟩:=sb;have pP:C≠a:=by
  rcases ha with z|z
  .rw[z];exact g1
  .exact fun z'=>g4 y a z z'.symm
 refine⟨m,hm.sameBut sb pP,fun h' sb'=>⟨_,H',I''.turned (t':=HK.toks) (fun b o hb e=>(sb'.2 b hb).trans e) g0 g1 g3 g4 g5,q⟩⟩
end
section
variable {P:Program} {w:World} {K:PySem.W.Frag} {mg:Str->Option Value} {base:Heap} {N:List Str} {qual:Str} {scope:Scope} {f:Addr} {cd:Value} {A:Around} {outer:List Env} {s:Shared} {H:Hp} {E:XK}
end
open PySem PySem.Spec PyProof.Rows PySem.W
abbrev bmV:List Value:=[.type "ValueError",.type "Exception",.type "BaseException",.type "object"]
structure Dj(K:PySem.W.Frag)(C:Addr):Prop where
 ex:PySem.W.excIn K C bmV "ValueError.__new__"=true
 kp:PySem.W.keepIn K (.ref C)=true
 ga:PySem.W.findIn K (.ref C) "__getattribute__"=some (some (.builtin "BaseException.__getattribute__"))
 gt:PySem.W.findIn K (.ref C) "__getattr__"=some none
 cl:PySem.W.findIn K (.ref C) "__class__"=some (some (.builtin "object.__class__"))
 mo:PySem.W.mroIn K C (.type "object")=some true
 mb:PySem.W.mroIn K C (.type "BaseException")=some true
 ty:(PySem.W.clsIn K C).isSome=true
def Uc(p:Addr)(C:Value)(h:Heap):Prop:=∃o,h.get? p=some o/\o.cls=C
abbrev VB(p:Addr)(C:Value):HO:=.ext (Uc p C)
theorem cL.get(x:cL P w H h a o):∃u,h.get? a=some u:=by
 cases o with
 |lst xs=>obtain⟨_,_,_,_,e⟩:=x;exact⟨_,e⟩
 |tup xs=>obtain⟨_,_,_,ob,e,_⟩:=x;exact⟨_,e⟩
 |dK dk=>obtain⟨_,_,_,_,o,_,_,e,_⟩:=x;exact⟨_,e⟩
 |dT dk=>obtain⟨_,_,_,_,o,_,_,e,_⟩:=x;exact⟨_,e⟩
 |set S n=>obtain⟨o,_,_,_,e,_⟩:=x;exact⟨_,e⟩
 |ins C dx fs=>obtain⟨_,_,_,e,_⟩:=x;exact⟨_,e⟩
 |own y=>exact x
 |xd fs=>obtain⟨_,⟨_,_,_,e,_⟩,_⟩:=x;exact⟨_,e⟩
 |Br lo hi=>obtain⟨_,_,_,e⟩:=x;exact⟨_,e⟩
 |wR ob u=>obtain⟨e,_⟩:=x;exact⟨_,e⟩
 |iH ps=>exact⟨_,(show h.get? a=some _ from x)⟩
 |met f y=>exact⟨_,(show h.get? a=some _ from x)⟩
 |ext φ=>exact x.2.1
theorem lX.vW(x:lX P w H h)(e:h.get? a=none):H a=none:=by
 cases q:H a with
 |none=>rfl
 |some u=>obtain⟨o,z⟩:=(x a u q).get;rw[e] at z;cases z
theorem aS.BM(I:aS X af σ H s)(k:∀b u,s.heap.get? b=some u->h'.get? b=some u)(hp:s.heap.get? a=none)(new:cL X.prog X.w (upd H a o) h' a o):
  aS X af σ (upd H a o) { s with heap:=h',toks:=t' }:=by
 have hn:=I.cz.vW hp;have ne:∀b u,s.heap.get? b=some u->b≠a:=fun b u e z=>by rw[z,hp] at e;cases e
 refine I.un ⟨fun b u e _ _ _=>k b u e,fun b u e _ _ _=>⟨u.slots,k b u e⟩,fun b u e n _=>by rw[ao (ne b u e)];exact n,fun b u e _=>⟨u,k b u e⟩,fun b xs e=>by rw[ao (am e hn)];exact e,fun b u v e=>by rw[ao (am e hn)];exact e,fun b ps e=>⟨#[],by rw[ao (am e hn),e];simp⟩⟩ fun b u e=>?_;by_cases hb:b=a
 .subst hb;rw[ae] at e;cases e;exact new
 .rw[ao hb] at e;exact(I.cz b u e).iV (fun c v _ q=>k c v q) (fun c q=>by rw[ao (am q hn)];exact q) fun c xs q=>by rw[ao (am q hn)];exact q
section
variable {prog:Program} {w:World} {A:Around} {E:Value->Shared->Prop} {s:Shared} {K:PySem.W.Frag} {x C:Addr} {ox:Obj}
theorem BN(hx:h.get? x=some ox)(hc:ox.cls=.ref C):PySem.W.Looks M h (typeOf (.ref x)) (.ref C):=hc ▸ (PySem.W.Looks.ld hx).andThen .now
open Builtin Builtin.ObjectAttr Builtin.Getset_descriptor in
theorem Ad(X:K.In s.heap)(hx:s.heap.get? x=some ox)(hc:ox.cls=.ref C)(hm:PySem.W.mroIn K C (.type "object")=some true)(h:R (.ok (.ret (.ref C))) s):codeAny (model prog w) A (.call (.builtin "getset_descriptor.__get__") ⟨[.builtin "object.__class__",.ref x,tp],[]⟩) R s:=by
 obtain⟨hh,g,dr,t,os⟩:=s;have L0:=BN (M:=model prog w) hx hc;have L1:=looks_mroIn (M:=model prog w) X hm;refine u_ KF.slot_gs.plain KF.entry_gs (KF.slot_gs.check _ _ _ _ _ _ _ _ KF.type_class (KF.args_gs _ _ _) ?_);unfold Builtin.«getset_descriptor.__get__» descrGet;rw[dga_obj];refine aA (wpAny_pure ?_);unfold descrGetter descrCheckInstance descrNameAndClass isInstance;simp only[KF.owner_class];repeat lk
 refine⟨Code.quiet_builtin _ (by decide +kernel),j8 KF.entry_class ?_⟩;unfold Builtin.«object.__class__» shownTypeOf;repeat lk
 exact h
theorem Dk{g d t os}(T:Dj K C)(X:K.In h)(hx:h.get? x=some ox)(hc:ox.cls=.ref C)(hq:Q (.done (.ret (.ref C))) ⟨h,g,d,t,os⟩):
  wpAny (model prog w) A (Builtin.«object.__getattribute__» ⟨[.ref x,.str "__class__" tk],[]⟩) Q E ⟨h,g,d,t,os⟩:=by
 have f5:=F.typeOf_bexc_args;have hT5:(⟨h,g,d,t,os⟩:Shared).TypeIs (.builtin "object.__class__") "getset_descriptor":=EB;have f5':=EB;have f6:=F.slot_gs_get.lookup;have f7:=F.slot_gs_set.lookup;have L1:=looks_findIn (M:=model prog w) X T.cl;repeat (any_goals (first|assumption|(with_reducible refine zK hx ?_;rw[hc])|with_reducible refine L1.at ?_|wp_step))
 refine Ad (s:=⟨h,g,d,t,os⟩) X hx hc T.mo ?_;repeat (any_goals (first|assumption|wp_step))
theorem Dl{g d t os}(T:Dj K C)(X:K.In h)(hx:h.get? x=some ox)(hc:ox.cls=.ref C)(hq:Q () ⟨h,g,d,t,os⟩):
  wpAny M A (checkBuiltinCall "BaseException.__getattribute__" ⟨[.ref x,Qv],[]⟩) Q E ⟨h,g,d,t,os⟩:=by
 have hk:builtinKind "BaseException.__getattribute__"=some .slot:=by decide +kernel
 have Mc:splitId "BaseException.__getattribute__"=some ("BaseException","__getattribute__"):=by decide +kernel
 have ha:=F.args_bexc_ga (.ref x) Qv;have L1:=looks_mroIn (M:=M) X T.mb;simp only[checkBuiltinCall,hk,Mc];refine aA ?_
 .unfold isInstance;repeat (first|(with_reducible refine zK hx ?_;rw[hc])|with_reducible refine L1.at ?_|wp_step)
  exact hq
theorem Md{tk:Tok}{fill Ig:Bool}{Q:Value->Shared->Prop}{h:Heap}{g d t os}(T:Dj K C)(X:K.In h)(hx:h.get? x=some ox)(hc:ox.cls=.ref C)(hq:Q (.ref C) ⟨h,g,d,t,os⟩):
  wpAny (model prog w) A (getAttrBy (.ref x) (.str "__class__" tk) fill Ig) Q E ⟨h,g,d,t,os⟩:=by
 have f3:=F.attr_ValueError.ga.bind (.ref x);have hx0:(Ig&&onTheHeap (Value.builtin "BaseException.__getattribute__"))=false:=by cases Ig <;> rfl
 have hx2:(Value.builtin "BaseException.__getattribute__"==Value.builtin "object.__getattribute__")=false:=by decide +kernel
 have hx1:(onTheHeap (Value.ref C)&&Value.builtin "BaseException.__getattribute__"==Value.builtin "object.__getattribute__")=false:=by rw[hx2];rfl
 have L1:=looks_findIn (M:=model prog w) X T.ga;have L2:=looks_findIn (M:=model prog w) X T.gt;repeat (any_goals (first|assumption|(with_reducible refine zK hx ?_;rw[hc])|with_reducible refine L1.at ?_|with_reducible refine L2.at ?_|wp_step))
 refine u_ F.attr_ValueError.ga.plain F.entry_bexc_ga (Dl T X hx hc (Dk T X hx hc ?_));repeat (any_goals (first|assumption|wp_step))
theorem Ff{Q:Option Value->Shared->Prop}{h:Heap}{g d t os}(T:Dj K C)(X:K.In h)(hx:h.get? x=some ox)(hc:ox.cls=.ref C)(hq:Q (some (.ref C)) ⟨h,g,d,t+1,os⟩):
  wpAny (model prog w) A (getAttr? (.ref x) "__class__") Q E ⟨h,g,d,t,os⟩:=by
 unfold getAttr?;repeat (any_goals (first|assumption|with_reducible apply Md T X hx hc|wp_step))
theorem xr(T:Dj K C):PySem.W.KitX K (.ref x) (.ref C) (Uc x (.ref C)) where
 ty:=fun _ _ _ ⟨o,e,c⟩=>BN e c
 it:=fun _ _ X _=>by
  obtain⟨cdD,Ii⟩:=uQ.mp T.ty;unfold clsIn at Ii;split at Ii
  .rename_i c' d' cd' U8 ho;intro A' Q' E' s' k q;unfold isType loadHead;exact aA (wpAny_loadPart (k _ _ (X _ _ ho)) (wpAny_pure q))
  .cases Ii
 ne:=fun h tp dd its n sl X htp=>by
  obtain⟨cdD,Ii⟩:=uQ.mp T.ty;refine zy.mpr fun q=>?_;have e:C=tp:=Value.ref.inj (fT.mp q);subst e;unfold clsIn at Ii;split at Ii
  .rename_i c' d' cd' U8 ho;have z:=(X _ _ ho).symm.trans htp;cases z
  .cases Ii
 ca:=fun {_ _ _ _ _ s} X ⟨o,e,c⟩ k=>by
  obtain⟨h,g,d,t,os⟩:=s;exact Ff T X e c k
end
section
variable {X:Cx}
inductive KZ (K:PySem.W.Frag) (H:Hp):V->Value->Prop where
 |of {v:V} {t:Value} (h:o0 K H v t):KZ K H v t
 |exc {p C:Addr} (T:Dj K C) (e:H p=some (VB p (.ref C))):KZ K H (.ref p) (.ref C)
def VC(K:PySem.W.Frag):List V->Hp->VK->Prop:=fun xs H Q=>∃x c cv t b,xs=[x,c]/\(c=.ty cv/\PySem.W.kitOne K t (.type cv)=some b)/\KZ K H x t/\Q (.bl b) H
theorem iw:fj X (.builtin "isinstance") (VC X.K):=by
 intro af s σ H xs us Q I r h;obtain⟨x,c,cv,t,b,rfl,⟨rfl,e⟩,ty,q⟩:=h;obtain⟨u1,u2,rfl,r1,r2⟩:=r.two;obtain rfl:u2=Value.type cv:=r2;cases ty with
 |of ty=>exact ua I r1 ty e fun tk=>⟨.bl b,H,I.tok tk,rfl,q⟩
 |@exc p C T ea=>
  obtain rfl:u1=Value.ref p:=r1;have p1:Uc p (.ref C) s.heap:=(I.cz p _ ea).1;exact i_ (xr T) I.my p1 e (fun z=>nomatch z) fun tk=>⟨.bl b,H,I.tok tk,rfl,q⟩
def Qw(K:PySem.W.Frag):List V->Hp->VK->Prop:=fun xs H Q=>∃x c t b,xs=[x,.ref c]/\PySem.W.kitOne K t (.ref c)=some b/\KZ K H x t/\Q (.bl b) H
theorem Dm:fj X (.builtin "isinstance") (Qw X.K):=by
 intro af s σ H xs us Q I r h;obtain⟨x,c,t,b,rfl,e,ty,q⟩:=h;obtain⟨u1,u2,rfl,r1,r2⟩:=r.two;obtain rfl:u2=Value.ref c:=r2;cases ty with
 |of ty=>exact ua I r1 ty e fun tk=>⟨.bl b,H,I.tok tk,rfl,q⟩
 |@exc p C T ea=>
  obtain rfl:u1=Value.ref p:=r1;have p1:Uc p (.ref C) s.heap:=(I.cz p _ ea).1;exact i_ (xr T) I.my p1 e (fun z=>nomatch z) fun tk=>⟨.bl b,H,I.tok tk,rfl,q⟩
end
section
variable {X:Cx} {x:Str} {C:Addr} {np vP pos:Pos} {e:Expr} {es:List Expr} {t:TA}
end
section
variable {X:Cx} {CX:yF} {k:Nat} {f C:Addr} {fd:FuncData} {ps:List Str} {sp:Sp} {s_:List V} {ds:List Value} {E:St->XK} {x m:Str} {p pos vK:Pos} {e o:Expr} {es:List Expr} {ta:TE} {t:TA}
end
section
variable {X:Cx} {CX:yF} {k:Nat} {f:Addr} {fd:FuncData} {ps:List Str} {sp:Sp} {s_:List V} {ds:List Value} {E:XK} {x:Str} {p pos:Pos} {e:Expr} {es:List Expr} {t:TA}
end
section
variable {P:Program} {w:World} {K:PySem.W.Frag} {mg:Str->Option Value} {base:Heap}
end
section
variable {X:Cx} {af:List (Addr×Obj)} {σ:St} {H:Hp} {s:Shared}
end
theorem Iy{h:Heap}{a:Addr}{m m':Str->Option Value}(x:h.Ns a m)(y:h.Ns a m'):m=m':=by
 obtain⟨o,es,ep,e,d,_,q⟩:=x;obtain⟨o',yD,PU,e',d',_,q'⟩:=y;rw[e] at e';cases e';rw[d] at d';cases d';funext z;rw[<-q z,q' z]
theorem aS.Qx{X:Cx}{af:List (Addr×Obj)}{σ:St}{H:Hp}{s:Shared}{h':Heap}{m:Str->Option Value}{D:Addr}{o:HO}{t':Nat}(I:aS X af σ H s)(F:Fr X.base X.env.locals s.heap m)(F':Fr X.base X.env.locals h' m)(N':News X.base X.env.locals h' (jp X.base s.heap X.env.locals))(hD:s.heap.get? D=none)(new:cL X.prog X.w (upd H D o) h' D o):aS X af σ (upd H D o) { s with heap:=h',toks:=t' }:=by
 have hn:=I.cz.vW hD;have ne:∀b u,s.heap.get? b=some u->b≠D:=fun b u e z=>by rw[z,hD] at e;cases e
 have keep:∀b u,b≠X.env.locals->s.heap.get? b=some u->h'.get? b=some u:=fun b u hb e=>by
  cases q:X.base.get? b with
  |some v=>
   have:=I.bk b v q;rw[e] at this;cases this;exact F'.keep b _ q
  |none=>exact(N' (b,u) (kj hb q e)).1
 refine I.step (g':=s.gens) (d':=s.drawn) (ch:=[]) (fun _ z=>absurd z (by simp)) (fun b u hb _ _ e _=>keep b u hb e) (fun b u hb _ _ e _=>⟨u.slots,keep b u hb e⟩) (fun b u _ e n=>by rw[ao (ne b u e)];exact n) (fun b u _ e=>?_)
  (fun b xs e=>by rw[ao (am e hn)];exact e) (fun b u v e=>by rw[ao (am e hn)];exact e) (fun b ps e=>⟨#[],by rw[ao (am e hn),e];simp⟩) (fun m1 hm=>by rw[Iy hm F.ns];exact F'.ns) (fun b u e=>?_) I.bare
 .by_cases hb:b=X.env.locals
  .obtain⟨o',_,_,q,_⟩:=F'.ns;exact⟨o',by rw[hb];exact q⟩
  .exact⟨u,keep b u hb e⟩
 .by_cases hb:b=D
  .subst hb;rw[ae] at e;cases e;exact new
  .rw[ao hb] at e;refine(I.cz b u e).iV (fun c v hc q=>keep c v ?_ q) (fun c q=>by rw[ao (am q hn)];exact q) fun c xs q=>by rw[ao (am q hn)];exact q
   rintro rfl;rcases hc with z|hc
   .have f:=I.free;rw[z,e] at f;cases f
   .rw[I.free] at hc;cases hc
theorem tD(I:aS X af σ H s)(N:News X.base X.env.locals h' ((D,o)::jp X.base s.heap X.env.locals))(d9:∀q∈jp X.base s.heap X.env.locals,q.1<D):s.heap.get? D=none:=by
 cases e:s.heap.get? D with
 |none=>rfl
 |some u=>
  obtain⟨_,n1,n2⟩:=N (D,o) bu;exact absurd (d9 (D,u) (kj n1 n2 e)) (ip _)
def Fg(K:PySem.W.Frag)(H:Hp)(a:Addr)(y:Int×Int):Prop:=bU K H a [.int y.1,.int y.2]
section
variable {X:Cx}
theorem Ae(I:aS X af σ H s)(h:Fg X.K H a y):∃o n t u,s.heap.get? a=some o/\o.cls=.type "tuple"/\o.data=.seq #[.int y.1 t,.int y.2 u] n:=by
 obtain⟨its,r,p,_⟩:=I.tuple h;obtain⟨u1,u2,rfl,r1,r2⟩:=r.two;obtain⟨t,rfl⟩:=r1;obtain⟨t',rfl⟩:=r2;obtain⟨o,e,c,n,d⟩:=p;exact⟨o,n,t,t',e,c,d⟩
end
def Me(hs:Array Int)(i:Nat):Int:=(hs[i]?).getD 0
def gG(hs:Array Int)(t:SetTable)(h:Int):Option (Array Int×SetTable):=
 if t.gaveWay then none else
 match t.probe (Me hs) h (t.probeStart h) with
 |some (.empty j none)=>
  let q:=t.put j
  let Dn:=SetTable.insertAt hs q.2 h
  if q.1.fits Dn.size&&decide (Dn.size<=4096) then
   if q.1.tooFull then
    (match q.1.relaid Dn (SetTable.grown (hs.size+1)) with
    |some (t2,order)=>
     let oX:=order.filterMap (Dn[·]?)
     if oX.size==Dn.size&&t2.fits oX.size&&decide (SetTable.sizeAbove (SetTable.grown (hs.size+1))<=4096) then some (oX,t2) else none
    |none=>none)
   else some (Dn,q.1)
  else none
 |_=>none
def vX(led:Bool):List Int->Option (Array Int×SetTable):=fun l=>l.foldlM (fun q h=>gG q.1 q.2 h) (#[],SetTable.fresh 0 0 led)
def kG(h:Heap)(S:Addr)(hs:Array Int)(t:SetTable):Prop:=∃o es ep,h.get? S=some o/\o.cls=.type "set"/\(o.dict=none/\o.slots=#[])/\o.data=.set es ep t/\es.map (·.1)=hs/\t.fits es.size=true
section
variable {prog:Program} {w:World} {A:Around} {E:Value->Shared->Prop} {s:Shared} {S:Addr}
theorem Mf(es:Array (Int×Value)):(fun i=>(es[i]?.map (·.1)).getD 0)=Me (es.map (·.1)):=by
 funext i;unfold Me;rw[Array.getElem?_map]
theorem mK(es:Array (Int×Value))(p:Nat)(x:Int×Value):(SetTable.insertAt es p x).map (·.1)=SetTable.insertAt (es.map (·.1)) p x.1:=by
 unfold SetTable.insertAt;simp
theorem pe(es:Array (Int×Value))(order:Array Nat):(order.filterMap (es[·]?)).map (·.1)=order.filterMap ((es.map (·.1))[·]?):=by
 apply Array.ext';rw[q0,uS,uS,List.map_filterMap];congr 1;funext i;rw[Array.getElem?_map]
theorem Af(hS:kG s.heap S hs t)(hg:t.gaveWay=false)(hp:t.probe (Me hs) h (t.probeStart h)=some (.empty j none))(q:Q (.free j false) s):
  wpAny (model prog w) A (setSearch S x h true) Q E s:=by
 obtain⟨o,es,ep,ho,hc,ZL,hd,hm,hf⟩:=hS;unfold setSearch setSearchFrom;refine aA (vh ho hd hf ?_);dsimp only;rw[hg,av cG];have O2:t.probe (fun i=>(es[i]?.map (·.1)).getD 0) h (t.probeStart h)=some (.empty j none):=by rw[Mf,hm];exact hp
 refine aA (wpAny_pure ?_);erw[O2];exact wpAny_pure q
theorem Do(ho:s.heap.get? a=some o)(hc:o.cls=.type "tuple")(hd:o.data=.seq #[.int x t,.int y u] n)(q:Q true s):
  wpAny (model prog w) A (hashByValue 8 (.ref a)) Q E s:=by
 have hT:s.TypeIs (.ref a) "tuple":=⟨_,ho,hc⟩
 unfold hashByValue;refine aA (wpAny_specialOf hT PySem.F.slot_tuple_hash.lookup ?_);refine aA (jH ho hd ?_);refine aA ?_;show wpAny _ _ (forIn #[Value.int x t,Value.int y u] _ _) _ _ s;rw[<-qW];refine wpAny_forIn_list _ (fun qb r s'=>r.1=none/\s'=s/\∀v∈qb,∃z k,v=Value.int z k) _ ?_ ?_ _ _ ⟨rfl,rfl,fun v hv=>?_⟩
 .rintro v qb r s' ⟨hr,rfl,tw⟩;obtain⟨z,k,rfl⟩:=tw v bu;refine aA (wpAny_pure ?_);exact wpAny_pure ⟨rfl,rfl,fun u' qe=>tw u' (bA _ qe)⟩
 .rintro⟨r1,r2⟩ s' ⟨hr,rfl,_⟩;have Es:r1=none:=hr;subst Es;exact wpAny_pure q
 .rcases bn.mp hv with z|z
  .exact⟨_,_,z⟩
  .rcases bn.mp z with z|z
   .exact⟨_,_,z⟩
   .cases z
theorem BO(hS:kG s.heap S hs t)(hf:t'.fits yD.size=true)(hz:yD.size<=4096)(q:∀h',Heap.SameBut S s.heap h'->kG h' S (yD.map (·.1)) t'->Q () { s with heap:=h' }):wpAny (model prog w) A (storeSet S yD t') Q E s:=by
 obtain⟨o,es,ep,ho,hc,ZL,hd,hm,_⟩:=hS;refine wpAny_storeSet_of ho hd (q _ (om s.heap S (Obj.putSet yD t')) ?_) (ba hz (by decide));have g:=lK (Obj.putSet yD t') ho (by rw[putSet_of yD t' hd];rfl);rw[putSet_of yD t' hd] at g;exact⟨_,yD,ep+1,g,hc,ZL,rfl,rfl,hf⟩
theorem Iz(hu:A.units<cLine)(hS:kG s.heap S hs t)(ho:s.heap.get? a=some o)(hc:o.cls=.type "tuple")(hd:o.data=.seq #[.int x tx,.int y ty] n)(pP:a≠S)(nG:gG hs t (tupleKeyHash (intKind prog w) [x,y])=some (hs',t'))(q:∀h' tk,Heap.SameBut S s.heap h'->kG h' S hs' t'->Q true { s with heap:=h',toks:=tk }):wpAny (model prog w) A (setAdd S (.ref a)) Q E s:=by
 have hk:IsTupleKey (intKind prog w) s.heap [x,y] a:=⟨o,_,n,ho,hc,hd,.cons (intKind_is _ _ _ _) (.cons (intKind_is _ _ _ _) .nil)⟩
 unfold setAdd;refine hJ (aA (wpAny_pyHash_tuple hu hk ?_));generalize Qf:s.toks+([x,y].length+1)=tk;generalize hh:tupleKeyHash (intKind prog w) [x,y]=h at nG |-;have ZM:=hS;obtain⟨ob,es,ep,hb,VD,hbd,HF,hm,hf⟩:=hS;unfold setAddHashed setAddHashedIn;refine hJ (aA (vh (s:={ s with toks:=tk }) hb HF hf ?_));dsimp only;have K0:byScan (.ref a) es=false:=by unfold byScan;rfl
 rw[K0,av cG];unfold gG at nG;cases hg:t.gaveWay with
 |true=>rw[hg,ak rfl] at nG;cases nG
 |false=>
  rw[hg,av cG] at nG;split at nG
  .rename_i j hp;dsimp only at nG;split at nG
   .rename_i Ud;rw[gm,qX] at Ud;refine aA (Af (s:={ s with toks:=tk }) ZM hg hp ?_);dsimp only;refine aA (vh (s:={ s with toks:=tk }) hb HF hf ?_);dsimp only;have byv:∀ {kk:Bool->Sem Bool},wpAny (model prog w) A (kk true) Q E { s with toks:=tk }->wpAny (model prog w) A (if (t.put j).1.plain=true then hashByValue 8 (.ref a) >>= kk else pure true >>= kk) Q E { s with toks:=tk }:=fun {kk} hP=>by
     split
     .exact aA (Do (s:={ s with toks:=tk }) ho hc hd hP)
     .exact aA (wpAny_pure hP)
    refine byv ?_;simp only[jo];have ir:(SetTable.insertAt es (t.put j).2 (h,Value.ref a)).size=(SetTable.insertAt hs (t.put j).2 h).size:=by
     rw[<-hm,<-mK es (t.put j).2 (h,Value.ref a),io]
    refine aA (BO (s:={ s with toks:=tk }) ZM (by rw[ir];exact Ud.1) (by rw[ir];exact Ud.2) fun h1 qf S1=>?_);rw[mK,hm] at S1;split at nG
    .rename_i VE;rw[show (!false&&(t.put j).1.tooFull)=true by rw[VE];rfl,ak rfl];split at nG
     .rename_i t2 order hr;split at nG
      .rename_i hq;rw[gm,gm,qX,fT] at hq;obtain⟨⟨K1,Ue⟩,ZN⟩:=hq;cases nG;have VF:es.size=hs.size:=by rw[<-hm,io]
       refine aA ?_;unfold setRelay;obtain⟨o1,IA,ep1,g1,g2,g3,g4,g5,g6⟩:=id S1;refine aA (vh (s:={ s with heap:=h1,toks:=tk }) g1 g4 g6 ?_);dsimp only;rw[VF];rw[av (by (have h4:(4096:Nat)<=sizeLine:=by decide);lia)];refine aA ?_;rw[g5,hr];have Ag:(order.filterMap (IA[·]?)).size=IA.size:=by
        have e1:=congrArg Array.size (pe IA order);rw[io,g5] at e1;rw[e1,K1,<-g5,io]
       refine wpAny_of_eq (show _=(pure (order.filterMap (IA[·]?),t'):Sem (Array (Int×Value)×SetTable)) from ?_) ?_
       .show (do
         let yD:=order.filterMap (IA[·]?)
         if yD.size != IA.size then unsupported "internal:set-table-lost-an-element"
         pure (yD,t'):Sem (Array (Int×Value)×SetTable))=_
        simp[Ag]
       dsimp only;have O4:IA.size<=4096:=by
        have e1:=congrArg Array.size g5;rw[io] at e1;rw[e1];exact Ud.2
       have hfm:(order.filterMap (IA[·]?)).size=(order.filterMap ((SetTable.insertAt hs (t.put j).2 h)[·]?)).size:=by
        have e1:=congrArg Array.size (pe IA order);rw[io,g5] at e1;exact e1
       refine BO (s:={ s with heap:=h1,toks:=tk }) S1 (by rw[hfm];exact Ue) (by rw[Ag];exact O4) fun h2 mL S2=>?_;rw[pe,g5] at S2;exact wpAny_pure (q h2 tk (qf.trans mL) S2)
      .cases nG
     .cases nG
    .rename_i VE;cases nG;have VG:(t.put j).1.tooFull=false:=by simpa using VE
     rw[show (!false&&(t.put j).1.tooFull)=false by rw[VG];rfl,av cG];exact wpAny_pure (q h1 tk qf S1)
   .cases nG
  .cases nG
end
section
variable {prog:Program} {w:World} {A:Around} {E:Value->Shared->Prop} {s:Shared} {S Ia l:Addr} {R:Result->Shared->Prop}
def jx(h:Heap)(vs:List Value)(ys:List (Int×Int)):Prop:=vs.length=ys.length/\∀i v,vs[i]?=some v->∃a o n t u,v=.ref a/\h.get? a=some o/\o.cls=.type "tuple"/\o.data=.seq #[.int (ys.getD i (0,0)).1 t,.int (ys.getD i (0,0)).2 u] n
theorem jx.keeps(p:jx h vs ys)(k:∀b o,(∃xs n,o.data=.seq xs n)->h.get? b=some o->h'.get? b=some o):jx h' vs ys:=
 ⟨p.1,fun i v e=>let ⟨a,o,n,t,u,e1,e2,c,d⟩:=p.2 i v e;⟨a,o,n,t,u,e1,k a o ⟨_,_,d⟩ e2,c,d⟩⟩
def fZ(prog:Program)(w:World)(y:Int×Int):Int:=tupleKeyHash (intKind prog w) [y.1,y.2]
theorem Fh(hh:A.handled=none)(hu:A.units+1<cLine)(hlS:l≠S)(VH:l≠Ia)(VI:S≠Ia):
  ∀ (k i:Nat) (s:Shared) (hs:Array Int) (t:SetTable),vs.length-i=k->i<=vs.length->s.heap.IsListIter Ia l i->s.heap.IsList l vs.toArray->jx s.heap vs ys->kG s.heap S hs t->
   ((ys.drop i).map (fZ prog w)).foldlM (fun q h=>gG q.1 q.2 h) (hs,t)=some (hsN,tN)->
   (∀h' tk,(∀b o,b≠S->b≠Ia->s.heap.get? b=some o->h'.get? b=some o)->kG h' S hsN tN->R (.ok (.ret .none)) { s with heap:=h',toks:=tk })->
   codeAny (model prog w) A (.builtin "set.update.loop" ⟨[.ref S,.ref Ia],[]⟩) R s:=by
 intro k;induction k with
 |zero=>
  intro i s hs t hk hi wT hl hp hS hf hR;have e:i=vs.length:=by lia
  refine j8 Ey ?_;rw[og yP _];show wpAny _ A.in1 (pyNext (.ref Ia) >>= _) _ _ s;refine aA (zm (show A.in1.handled=none from hh) wT hl (by simp;lia) fun h' eb=>?_);show wpAny _ A.in1 (ret Value.none) _ _ _;have hd:ys.drop i=[]:=by rw[List.drop_eq_nil_iff];have:=hp.1;lia
  rw[hd] at hf;cases hf;obtain⟨o,es,ep,q1,q2⟩:=hS;exact wpAny_pure (hR h' s.toks (fun b o hb IC e=>eb b o IC e) ⟨o,es,ep,eb S o VI q1,q2⟩)
 |succ k ih=>
  intro i s hs t hk hi wT hl hp hS hf hR;have d9:i<vs.length:=by lia
  refine j8 Ey ?_;rw[og yP _];show wpAny _ A.in1 (pyNext (.ref Ia) >>= _) _ _ s;have hv:vs[i]?=some vs[i]:=cg d9;refine aA (zf wT hl (x:=vs[i]) (by simpa using hv) fun h1 Mg qf=>?_);obtain⟨a,o,n,tx,ty,ea,eo,ec,ed⟩:=hp.2 i _ hv;rw[ea];have Uf:∀b ob,(∃xs n,ob.data=.seq xs n)->s.heap.get? b=some ob->b≠Ia:=fun b ob ⟨xs,m,z⟩ e z'=>by
   obtain⟨oi,e1,_,d1⟩:=wT;rw[z',e1] at e;cases e;rw[d1] at z;cases z
  have mr:jx h1 vs ys:=hp.keeps fun b ob hb e=>(qf.2 b (Uf b ob hb e)).trans e;have Qy:kG h1 S hs t:=by
   obtain⟨oS,es,ep,q1,q2⟩:=hS;exact⟨oS,es,ep,(qf.2 S VI).trans q1,q2⟩
  have Dp:h1.IsList l vs.toArray:=by
   obtain⟨ol,q1,q2⟩:=hl;exact⟨ol,(qf.2 l VH).trans q1,q2⟩
  have Qz:h1.get? a=some o:=(qf.2 a (Uf a o ⟨_,_,ed⟩ eo)).trans eo;have ZO:∀b ob,(∃xs n,ob.data=.seq xs n)->h1.get? b=some ob->b≠S:=fun b ob ⟨xs,m,z⟩ e z'=>by
   obtain⟨oS,es,ep,q1,_,_,q4,_⟩:=Qy;rw[z',q1] at e;cases e;rw[q4] at z;cases z
  have Ah:i<ys.length:=by have:=hp.1;lia
  have VJ:ys.drop i=ys[i]::ys.drop (i+1):=nN Ah;have hgy:ys.getD i (0,0)=ys[i]:=by rw[bY,cg Ah];rfl
  rw[VJ,fh,List.foldlM_cons] at hf;cases nG:gG hs t (fZ prog w ys[i]) with
  |none=>rw[nG] at hf;cases hf
  |some q=>
   obtain⟨oX,t2⟩:=q;rw[nG] at hf;have ZP:((ys.drop (i+1)).map (fZ prog w)).foldlM (fun q h=>gG q.1 q.2 h) (oX,t2)=some (hsN,tN):=hf;show wpAny _ A.in1 (holding [Value.ref a] (setAdd S (.ref a)) >>= _) _ _ _;refine aA (hJ (Iz (s:={ s with heap:=h1 }) (by show A.units+1<cLine;exact hu) Qy Qz ec ed (ZO a o ⟨_,_,ed⟩ Qz) (hs':=oX) (t':=t2) (by rw[hgy];exact nG) fun h2 tk mL S2=>?_));refine wpAny_pure ⟨rj yP _,?_⟩;refine ih (i+1) { s with heap:=h2,toks:=tk } oX t2 (by lia) d9 ?_ ?_ (mr.keeps fun b ob hb e=>(mL.2 b (ZO b ob hb e)).trans e) S2 ZP fun h3 VL k3 S3=>?_
   .obtain⟨oi,q1,q2⟩:=Mg;exact⟨oi,(mL.2 Ia (dA VI)).trans q1,q2⟩
   .obtain⟨ol,q1,q2⟩:=Dp;exact⟨ol,(mL.2 l hlS).trans q1,q2⟩
   .exact hR h3 VL (fun b ob hb IC e=>k3 b ob hb IC ((mL.2 b hb).trans ((qf.2 b IC).trans e))) S3
theorem Fj{vs:List Value}{ys:List (Int×Int)}{hsN:Bool->Array Int}{tN:Bool->SetTable}{Q:Value->Shared->Prop}(hh:A.handled=none)(hu:A.units+8<cLine)(hl:s.heap.IsList l vs.toArray)(hp:jx s.heap vs ys)(Dq:∀led,vX led (ys.map (fZ prog w))=some (hsN led,tN led))(h:∀ (led:Bool) (h':Heap) (tk:Nat),kG h' s.heap.objs.size (hsN led) (tN led)->(∀b o,b<s.heap.objs.size->s.heap.get? b=some o->h'.get? b=some o)->Q (.ref s.heap.objs.size) { s with heap:=h',toks:=tk }):
  wpAny (model prog w) A (call (.type "set") [.ref l]) Q E s:=by
 obtain⟨c,tl,aac⟩:=jX.mro;have c1:=jX.made;have c2:=jX.sub;refine oO (codeAny_of_tree ?_);show wpAny _ _ (callAny (.type "set") _) _ _ _;refine wpAny_pure ⟨Code.quiet_builtin _ (by decide +kernel),j8 PySem.F.entry_type_call ?_⟩;rw[Around.under_plain (weight_type_call_type "set" [.ref l] []) rfl];have c3:=jX.notType;have c4:=jX.canCreate;have c5:=PySem.F.typeCall_set_1 (.ref l);repeat (any_goals (first|assumption|wp_step))
 refine oM (code_set_new_1 (.ref l) (E:=E) (Q₁:=fun obj s₁=>∃led:Bool,obj=.ref s.heap.objs.size/\s₁={ s with heap:=s.heap.push { cls:=.type "set",dict:=none,data:=.set #[] 0 (.fresh 0 0 led) } }) fun led=>⟨led,rfl,rfl⟩) fun r s₁ hr=>?_;cases r with
 |error e=>exact hr
 |ok fl=>
  cases fl with
  |next=>exact hr.elim
  |brk=>exact hr.elim
  |cont=>exact hr.elim
  |ret obj=>
   obtain⟨led,rfl,rfl⟩:=hr;generalize VM:s.heap.push { cls:=.type "set",dict:=none,data:=.set #[] 0 (.fresh 0 0 led) }=hS;have ir:hS.objs.size=s.heap.objs.size+1:=by rw[<-VM,im]
   have gS:hS.get? s.heap.objs.size=some { cls:=.type "set",dict:=none,data:=.set #[] 0 (.fresh 0 0 led) }:=by rw[<-VM];exact cB _ rfl
   have up:∀b o,s.heap.get? b=some o->hS.get? b=some o:=fun b o e=>by rw[<-VM];exact bL _ e
   have hT:Shared.TypeIs { s with heap:=hS } (.ref s.heap.objs.size) "set":=⟨_,gS,rfl⟩
   have c6:=jX.init.lookup;have c7:=jX.init.bind (.ref s.heap.objs.size);repeat (any_goals (first|assumption|wp_step))
   refine oM (u_ (R:=wants (fun r s₂=>r=.none/\∃h' tk,s₂={ s with heap:=h',toks:=tk }/\kG h' s.heap.objs.size (hsN led) (tN led)/\
     (∀b o,b<s.heap.objs.size->s.heap.get? b=some o->h'.get? b=some o)) E) jX.init.plain PySem.F.entry_set_init (check_set_init_1 hT ?_)) fun r₂ s₂ QA=>?_
   .obtain⟨ol,Et,Er,nl,Ug⟩:=hl;obtain⟨aad,ZQ,ZR,VN⟩:=ol;simp only at Er Ug;subst Er;subst Ug;have VO:=up _ _ Et;have c8:=PySem.F.sub_list_set;have c9:=PySem.F.sub_list_frozenset;have c10:(Value.type "list"==Value.type "dict")=false:=by decide
    have Dp:hS.IsList l vs.toArray:=⟨_,VO,rfl,nl,rfl⟩
    unfold Builtin.«set.__init__» noKeywords Builtin.Frozenset.updateFrom;generalize hPI:pyIter=PI
    wp_walk
    subst hPI;refine q8 Dp ?_;refine aA (wpAny_runValue ?_);have d9:l<s.heap.objs.size:=aT Et;refine Fh (l:=l) (vs:=vs) (ys:=ys) (hsN:=hsN led) (tN:=tN led) (by simp[hh]) (by simp;lia) (aW d9) (by rw[ir];exact aW (ff d9)) (by rw[ir];exact aW (jk _))
     (vs.length-0) 0 _ #[] (.fresh 0 0 led) rfl (cx _) ⟨_,cB _ rfl,rfl,rfl⟩ (Dp.push _) (hp.keeps fun b o _ e=>bL _ (up b o e)) ⟨_,#[],0,bL _ gS,rfl,⟨rfl,rfl⟩,rfl,by simp,rfl⟩ (Dq led) fun h' tk k S'=>?_
    show wpAny _ _ _ _ _ _;refine wpAny_pure ?_;show wpAny _ _ (ret Value.none) _ _ _;refine wpAny_pure ⟨rfl,h',tk,rfl,S',fun b o hb e=>?_⟩;exact k b o (aW hb) (by rw[ir];exact aW (ff hb)) (bL _ (up b o e))
   .cases r₂ with
    |error e=>exact QA
    |ok fl₂=>
     cases fl₂ with
     |next=>exact QA.elim
     |brk=>exact QA.elim
     |cont=>exact QA.elim
     |ret r=>
      obtain⟨rfl,h',tk,rfl,S',k⟩:=QA;repeat (any_goals (first|assumption|wp_step))
      exact h led h' tk S' k
end
open PySem
def Fk(l:List Nat):Nat:=l.foldl (fun a x=>a ||| (1 <<< x)) 0
theorem Dr(l:List Nat)(a j:Nat):(l.foldl (fun a x=>a ||| (1 <<< x)) a).testBit j=(a.testBit j||l.contains j):=by
 induction l generalizing a with
 |nil=>simp
 |cons x xs ih=>
  rw[iT,ih,Nat.testBit_or,List.contains_cons];have:(1 <<< x).testBit j=(j==x):=by
   rw[Nat.one_shiftLeft,Nat.testBit_two_pow];by_cases h:x=j
   .simp[h]
   .have h':¬ j=x:=fun e=>h e.symm;simp[h,h']
  rw[this,Bool.or_assoc]
theorem pQ(h:Fk l=2 ^ n-1)(hj:j<n):j∈l:=by
 have e:=Dr l 0 j;have h':l.foldl (fun a x=>a ||| (1 <<< x)) 0=2 ^ n-1:=h;rw[h',Nat.testBit_two_pow_sub_one] at e;simp[hj] at e;exact e
def Fl(M:Nat):Nat->Nat->Nat
 |0,i=>i
 |n+1,i=>Fl M n ((i*5+1) % M)
theorem qB(M a:Nat):∀b i,Fl M (b+a) i=Fl M a (Fl M b i)
 |0,i=>by rw[re];rfl
 |b+1,i=>by
  rw[show b+1+a=(b+a)+1 by lia];show Fl M (b+a) _=Fl M a (Fl M b _);exact qB M a b _
def Mh(M:Nat):Nat->Nat->List Nat
 |0,_=>[]
 |n+1,i=>i::Mh M n ((i*5+1) % M)
theorem rK:∀ {n i},j∈Mh M n i->∃k,k<n/\Fl M k i=j
 |0,_,h=>by cases h
 |n+1,i,h=>by
  rcases bn.mp h with z|z
  .exact⟨0,by lia,z.symm⟩
  .obtain⟨k,a,b⟩:=rK z;exact⟨k+1,by lia,b⟩
structure Ds(M:Nat):Prop where
 all:Fk (Mh M M 0)=2 ^ M-1
 back:Fl M M 0=0
theorem VP:Ds 8:=⟨by decide +kernel,by decide +kernel⟩
theorem K2:Ds 32:=⟨by decide +kernel,by decide +kernel⟩
theorem Fm:Ds 128:=⟨by decide +kernel,by decide +kernel⟩
theorem Fn:Ds 512:=⟨by decide +kernel,by decide +kernel⟩
theorem Ds.cover(R:Ds M)(hi:i<M)(hj:j<M):∃n,n<M/\Fl M n i=j:=by
 obtain⟨a,ha,ea⟩:=rK (pQ R.all hi);obtain⟨b,hb,eb⟩:=rK (pQ R.all hj);by_cases h:a<=b
 .refine⟨b-a,by lia,?_⟩;rw[<-ea,<-qB,show a+(b-a)=b by lia,eb]
 .refine⟨M+b-a,by lia,?_⟩;rw[<-ea,<-qB,show a+(M+b-a)=M+b by lia,qB,R.back,eb]
def hW(mask:Nat):Nat->Nat×Nat->Nat×Nat
 |0,q=>q
 |n+1,q=>hW mask n (SetTable.leap mask q.1 q.2)
theorem uk(m a:Nat):∀b q,hW m (b+a) q=hW m a (hW m b q)
 |0,q=>by rw[re];rfl
 |b+1,q=>by
  rw[show b+1+a=(b+a)+1 by lia];exact uk m a b _
theorem xt:∀ {n:Nat} {q:Nat×Nat},q.1<m+1->(hW m n q).1<m+1
 |0,_,h=>h
 |n+1,q,h=>xt (n:=n) (kg _ (Nat.succ_pos _))
theorem BP:∀ {n:Nat} {q:Nat×Nat},(hW m n q).2=q.2 / 32 ^ n
 |0,_=>by simp[hW]
 |n+1,q=>by
  show (hW m n _).2=_;rw[BP];show q.2 / 32 / 32 ^ n=_;rw[yZ,Nat.pow_succ,Nat.mul_comm]
theorem ul:∀ {n i:Nat},hW m n (i,0)=(Fl (m+1) n i,0)
 |0,_=>rfl
 |n+1,i=>by
  show hW m n (SetTable.leap m i 0)=_;unfold SetTable.leap;simp only[Nat.zero_div,Nat.add_zero];exact ul
theorem pR(R:Ds (m+1))(hi:i<m+1)(hp:p<2 ^ 64)(hj:j<m+1):∃n,n<m+14/\(hW m n (i,p)).1=j:=by
 have h1:=xt (m:=m) (n:=13) (q:=(i,p)) hi;have h2:(hW m 13 (i,p)).2=0:=by
  rw[BP];exact Nat.div_eq_of_lt (br hp (by decide))
 obtain⟨n,hn,e⟩:=R.cover h1 hj;refine⟨13+n,by lia,?_⟩;rw[uk];have:hW m 13 (i,p)=((hW m 13 (i,p)).1,0):=gw rfl h2;rw[this,ul];exact e
theorem BQ(h:Int):SetTable.bits h<2 ^ 64:=by
 unfold SetTable.bits;have a:=q_ h (show (2 ^ 64:Int)≠0 by decide);have b:=qV h (show (0:Int)<2 ^ 64 by decide);lia
theorem QB{M:Nat}{l:List Nat}(h:l.length<M):∃j,j<M/\j∉l:=by
 have key:∀ (a b:List Nat),a.Nodup->(∀x∈a,x∈b)->a.length<=b.length:=by
  intro a;induction a with
  |nil=>intro b _ _;exact cx _
  |cons x xs ih=>
   intro b hn hs;obtain⟨h1,h2⟩:=fN.mp hn;have hx:x∈b:=hs x bu;have:=ih (b.erase x) h2 fun y hy=>(y_ (fun (e:y=x)=>h1 (e ▸ hy))).mpr (hs y (bA _ hy));rw[yV hx] at this;have:0<b.length:=qQ hx;rw[eF];lia
 apply uP;intro Mi;have:=key (List.range M) l jW fun x hx=>uP fun vG=>Mi ⟨x,bK.mp hx,vG⟩;rw[cu] at this;lia
def Ai(mask i p:Nat):SetTable.Probe:={ j:=i,more:=SetTable.runEnd mask i-i,i:=i,perturb:=p,dummy:=none }
theorem Mj(mask i:Nat):SetTable.runEnd mask i-i<=9:=by unfold SetTable.runEnd;split <;> lia
theorem vY{t:SetTable}(hd:t.dummies=#[])(j:Nat):t.slot j=.empty\/∃i,t.slot j=.live i/\t.place[i]?=some j:=by
 unfold SetTable.slot;dsimp only;split
 .rename_i h;exact .inr ⟨_,rfl,by simpa using h⟩
 .left;rw[hd];rfl
theorem Aj{t:SetTable}(hd:t.dummies=#[]){j:Nat}(h:j∉t.place.toList):t.slot j=.empty:=by
 rcases vY hd j with e|⟨i,_,e2⟩
 .exact e
 .exact absurd (by rw[<-nZ] at e2;exact cS e2) h
section
variable {t:SetTable} {hashAt:Nat->Int} {h:Int}
theorem Fp(hd:t.dummies=#[])(hh:∀i,i<t.place.size->hashAt i≠h)(i p:Nat):∀ (r:Nat) (j gR:Nat),
  (∃j',SetTable.probe.go t hashAt h (gR+r+1) { j:=j,more:=r,i:=i,perturb:=p,dummy:=none }=some (.empty j' none))\/
  SetTable.probe.go t hashAt h (gR+r+1) { j:=j,more:=r,i:=i,perturb:=p,dummy:=none }=SetTable.probe.go t hashAt h gR (Ai t.mask (SetTable.leap t.mask i p).1 (SetTable.leap t.mask i p).2)
 |0,j,gR=>by
  rcases vY hd j with e|⟨k,e,e2⟩
  .exact .inl ⟨j,by unfold SetTable.probe.go;rw[e]⟩
  .right;have hk:k<t.place.size:=(EE.mp e2).1;conv=>lhs;unfold SetTable.probe.go
   rw[e];simp only[fT,hh k hk,eK];rfl
 |r+1,j,gR=>by
  rcases vY hd j with e|⟨k,e,e2⟩
  .exact .inl ⟨j,by rw[show gR+(r+1)+1=(gR+r+1)+1 by lia];unfold SetTable.probe.go;rw[e]⟩
  .have hk:k<t.place.size:=(EE.mp e2).1;have st:SetTable.probe.go t hashAt h (gR+(r+1)+1) { j:=j,more:=r+1,i:=i,perturb:=p,dummy:=none }=SetTable.probe.go t hashAt h (gR+r+1) { j:=j+1,more:=r,i:=i,perturb:=p,dummy:=none }:=by
    rw[show gR+(r+1)+1=(gR+r+1)+1 by lia];conv=>lhs;unfold SetTable.probe.go
    rw[e];simp only[fT,hh k hk,eK];rfl
   rw[st];exact Fp hd hh i p r (j+1) gR
theorem BR(hd:t.dummies=#[])(hh:∀i,i<t.place.size->hashAt i≠h):∀ (m:Nat) (i p gR:Nat),10*(m+1)<=gR->t.slot (hW t.mask m (i,p)).1=.empty->
  ∃j',SetTable.probe.go t hashAt h gR (Ai t.mask i p)=some (.empty j' none)
 |0,i,p,gR,hf,e=>by
  obtain⟨f,rfl⟩:∃f,gR=f+1:=⟨gR-1,by lia⟩
  refine⟨i,?_⟩;have e':t.slot i=.empty:=e;unfold SetTable.probe.go Ai;dsimp only;rw[e']
 |m+1,i,p,gR,hf,e=>by
  have hr:=Mj t.mask i;obtain⟨f,xu⟩:∃f,gR=f+(SetTable.runEnd t.mask i-i)+1:=⟨gR-(SetTable.runEnd t.mask i-i)-1,by lia⟩
  rcases Fp (hashAt:=hashAt) (h:=h) hd hh i p (SetTable.runEnd t.mask i-i) i f with z|z
  .rw[xu];exact z
  .rw[xu];show ∃j',SetTable.probe.go t hashAt h _ { j:=i,more:=_,i:=i,perturb:=p,dummy:=none }=_;rw[z];exact BR hd hh m _ _ f (by lia) e
theorem Ak(R:Ds (t.mask+1))(hd:t.dummies=#[])(hs:t.place.size<=t.mask)(hh:∀i,i<t.place.size->hashAt i≠h):∃j,t.probe hashAt h (t.probeStart h)=some (.empty j none):=by
 obtain⟨j,hj,hn⟩:=QB (M:=t.mask+1) (l:=t.place.toList) (by simpa using Nat.lt_succ_of_le hs);obtain⟨m,hm,e⟩:=pR R (kg (SetTable.bits h) (Nat.succ_pos t.mask)) (BQ h) hj;refine BR hd hh m _ _ _ ?_ (by rw[e];exact Aj hd hn);unfold SetTable.turns;lia
end
theorem pf{α β:Type}{f:α->Option β}:∀ {l:List α},(∀q∈l,(f q).isSome=true)->(l.filterMap f).length=l.length
 |[],_=>rfl
 |q::l,h=>by
  have hq:=h q bu;cases e:f q with
  |none=>rw[e] at hq;cases hq
  |some b=>rw[EI e,eF,eF,pf fun x hx=>h x (bA _ hx)]
theorem um:∀ (m gR i p:Nat),m<gR->owner.getD (hW mask m (i,p)).1 (some 0)=none->∃j,SetTable.layClean.free mask owner gR i p=some j/\owner.getD j (some 0)=none
 |m,0,_,_,h,_=>by lia
 |m,gR+1,i,p,h,e=>by
  unfold SetTable.layClean.free;cases hf:(List.range (SetTable.runEnd mask i+1-i)).find? fun k=>(owner.getD (i+k) (some 0)).isNone with
  |some k=>
   refine⟨i+k,rfl,?_⟩;have:=zI hf;simpa using this
  |none=>
   cases m with
   |zero=>
    have h0:(0:Nat)∈List.range (SetTable.runEnd mask i+1-i):=bK.mpr (by unfold SetTable.runEnd;split <;> lia);have:=zq.mp hf 0 h0;have e':owner.getD i (some 0)=none:=e;rw[Nat.add_zero,e'] at this;exact absurd rfl this
   |succ m=>
    exact um m gR _ _ (by lia) e
structure xv(M:Nat)(owner:Array (Option Nat))(k:Nat):Prop where
 size:owner.size=M
 cnt:owner.toList.countP Option.isSome=k
 lt:∀x,some x∈owner.toList->x<k
theorem Al{l:List (Option Nat)}{j:Nat}{x:Nat}(hj:l[j]?=some none):(l.set j (some x)).countP Option.isSome=l.countP Option.isSome+1:=by
 induction l generalizing j with
 |nil=>cases hj
 |cons a l ih=>
  cases j with
  |zero=>
   obtain rfl:a=none:=by simpa using hj
   simp
  |succ j=>
   rw[List.set_cons_succ,ot,ot,ih (by simpa using hj)];lia
theorem xv.one{mask:Nat}{owner:Array (Option Nat)}{k:Nat}(L:xv (mask+1) owner k)(R:Ds (mask+1))(hk:k<mask+1)(h:Int):
  ∃j,SetTable.layClean.free mask owner (SetTable.turns mask) (SetTable.bits h % (mask+1)) (SetTable.bits h)=some j/\xv (mask+1) (owner.setIfInBounds j (some k)) (k+1):=by
 have Mi:∃j,j<mask+1/\owner.toList[j]?=some none:=by
  apply uP;intro Mi;have tw:∀x∈owner.toList,x.isSome=true:=by
   intro x hx;obtain⟨j,hj,e⟩:=lJ.mp hx;cases x with
   |some _=>rfl
   |none=>
    refine absurd ⟨j,?_,?_⟩ Mi
    .rw[<-L.size];simpa using hj
    .rw[cg hj,e]
  have:=List.countP_eq_length.mpr tw;rw[L.cnt,lu,L.size] at this;lia
 obtain⟨j0,hj0,e0⟩:=Mi;obtain⟨m,hm,em⟩:=pR R (kg (SetTable.bits h) (Nat.succ_pos mask)) (BQ h) hj0;obtain⟨j,ej,en⟩:=um (mask:=mask) (owner:=owner) m (SetTable.turns mask) (SetTable.bits h % (mask+1)) (SetTable.bits h) (by unfold SetTable.turns;lia)
  (by rw[em,uN,<-nZ,e0];rfl)
 refine⟨j,ej,?_⟩;have hjn:owner.toList[j]?=some none:=by
  rw[uN,<-nZ] at en;cases hq:owner.toList[j]? with
  |none=>rw[hq] at en;cases en
  |some v=>rw[hq] at en;rw[show v=none from en]
 have QC:(owner.setIfInBounds j (some k)).toList=owner.toList.set j (some k):=by simp
 refine⟨by simp[L.size],by rw[QC,Al hjn,L.cnt],fun x hx=>?_⟩;rw[QC] at hx;rcases List.mem_or_eq_of_mem_set hx with z|z
 .exact ff (L.lt x z)
 .cases z;exact jk _
theorem BS(R:Ds (mask+1)):∀ (l:List Int) (owner:Array (Option Nat)) (k:Nat),xv (mask+1) owner k->k+l.length<=mask->
  ∃Fq,l.foldl (fun cZ h=>do
   let (owner,k) <- cZ
   let j <- SetTable.layClean.free mask owner (SetTable.turns mask) (SetTable.bits h % (mask+1)) (SetTable.bits h)
   pure (owner.setIfInBounds j (some k),k+1)) (some (owner,k))=some (Fq,k+l.length)/\xv (mask+1) Fq (k+l.length)
 |[],owner,k,L,_=>⟨owner,rfl,L⟩
 |h::l,owner,k,L,hl=>by
  rw[eF] at hl;obtain⟨j,ej,L'⟩:=L.one R (by lia) h;obtain⟨o',e,L2⟩:=BS R l _ _ L' (by lia);refine⟨o',?_,by rw[eF,show k+(l.length+1)=k+1+l.length by lia];exact L2⟩;rw[iT];have:(do
   let (owner,k) <- some (owner,k)
   let j <- SetTable.layClean.free mask owner (SetTable.turns mask) (SetTable.bits h % (mask+1)) (SetTable.bits h)
   pure (owner.setIfInBounds j (some k),k+1):Option (Array (Option Nat)×Nat))=some (owner.setIfInBounds j (some k),k+1):=by
   show (SetTable.layClean.free mask owner (SetTable.turns mask) (SetTable.bits h % (mask+1)) (SetTable.bits h)).bind _=_;rw[ej];rfl
  rw[this,e,eF,show k+(l.length+1)=k+1+l.length by lia]
theorem xw(R:Ds (mask+1))(hs:Array Int)(h:hs.size<=mask):∃owner,SetTable.layClean mask hs=some owner/\xv (mask+1) owner hs.size:=by
 have L0:xv (mask+1) (Array.replicate (mask+1) none) 0:=⟨by simp,by simp[List.countP_replicate],fun x hx=>by simp at hx⟩
 obtain⟨o,e,L⟩:=BS R hs.toList _ 0 L0 (by simpa using h);refine⟨o,?_,by simpa using L⟩;unfold SetTable.layClean;rw[<-Array.foldl_toList];have e':=congrArg (Option.map (·.1)) e;exact e'
theorem Am(L:xv M owner n):
  ((List.range M).filterMap fun j=>(owner.getD j none).map (j,·)).length=n/\∀q∈(List.range M).filterMap (fun j=>(owner.getD j none).map (j,·)),q.2<n:=by
 constructor
 .rw[<-L.cnt];have e:owner.toList=(List.range M).map fun j=>owner.getD j none:=by
   apply zF
   .simp[L.size]
   .intro i h1 h2;simp only[vg,zo,Array.getElem_toList];rw[uN,yU (by simpa using h1)];rfl
  conv=>rhs;rw[e]
  rw[List.countP_map];generalize List.range M=l;induction l with
  |nil=>rfl
  |cons a l ih=>
   rw[ot,<-ih];cases hq:owner.getD a none with
   |none=>rw[List.filterMap_cons_none (by rw[hq];rfl),show (Option.isSome ∘ fun j=>owner.getD j none) a=false by show (owner.getD a none).isSome=false;rw[hq];rfl];simp
   |some x=>rw[EI (b:=(a,x)) (by rw[hq];rfl),show (Option.isSome ∘ fun j=>owner.getD j none) a=true by show (owner.getD a none).isSome=true;rw[hq];rfl];simp
 .intro q hq;obtain⟨j,_,e⟩:=oh.mp hq;cases hx:owner.getD j none with
  |none=>rw[hx] at e;cases e
  |some x=>
   rw[hx] at e;cases e;refine L.lt x ?_;rw[uN,<-nZ] at hx;cases hy:owner.toList[j]? with
   |none=>rw[hy] at hx;cases hx
   |some v=>rw[hy] at hx;obtain rfl:v=some x:=hx;exact cS hy
structure xx(hs:Array Int)(t:SetTable):Prop where
 dm:t.dummies=#[]
 sz:t.place.size=hs.size
 ms:(t.mask=7/\hs.size<=4)\/(t.mask=31/\hs.size<=18)\/(t.mask=127/\hs.size<=76)\/(t.mask=511/\hs.size<=306)
theorem xx.rnd(T:xx hs t):Ds (t.mask+1):=by
 rcases T.ms with ⟨e,_⟩|⟨e,_⟩|⟨e,_⟩|⟨e,_⟩ <;> rw[e]
 .exact VP
 .exact K2
 .exact Fm
 .exact Fn
theorem lA(xs:Array α)(p:Nat)(x:α):(SetTable.insertAt xs p x).size=xs.size+1:=by
 unfold SetTable.insertAt;simp;lia
theorem mN(h:y∈(SetTable.insertAt xs p x).toList):y=x\/y∈xs.toList:=by
 unfold SetTable.insertAt at h;rw[fz,lP,ze,ze] at h;rcases cw.mp h with z|z
 .rcases cw.mp z with z|z
  .right;rw[List.extract_eq_drop_take] at z;exact uY (n0 z)
  .left;simpa using z
 .right;rw[List.extract_eq_drop_take] at z;exact uY (n0 z)
theorem An{hs:Array Int}{t:SetTable}{h:Int}(T:xx hs t)(hn:h∉hs.toList)(hl:hs.size<300):∃hs' t',gG hs t h=some (hs',t')/\xx hs' t'/\hs'.size=hs.size+1/\∀x∈hs'.toList,x=h\/x∈hs.toList:=by
 have O4:t.place.size<=t.mask:=by rw[T.sz];rcases T.ms with ⟨e,z⟩|⟨e,z⟩|⟨e,z⟩|⟨e,z⟩ <;> lia
 have hh:∀i,i<t.place.size->Me hs i≠h:=by
  intro i hi e;rw[T.sz] at hi;unfold Me at e;rw[yU hi] at e;exact hn (by rw[<-e];simp)
 obtain⟨j,hp⟩:=Ak (hashAt:=Me hs) (h:=h) T.rnd T.dm O4 hh;have hg:t.gaveWay=false:=by
  unfold SetTable.gaveWay;rcases T.ms with ⟨e,_⟩|⟨e,_⟩|⟨e,_⟩|⟨e,_⟩ <;> rw[e] <;> rfl
 have q1:(t.put j).1.place=SetTable.insertAt t.place (SetTable.below t.place j) j:=rfl;have q2:(t.put j).1.dummies=#[]:=by
  show (if SetTable.has t.dummies j=true then _ else t.dummies)=_;rw[T.dm];rfl
 have q3:(t.put j).1.mask=t.mask:=rfl;have s1:(SetTable.insertAt hs (t.put j).2 h).size=hs.size+1:=lA _ _ _;have s2:(t.put j).1.place.size=hs.size+1:=by rw[q1,lA,T.sz]
 have fl:(t.put j).1.fill=hs.size+1:=by unfold SetTable.fill;rw[s2,q2];rfl
 have fit:(t.put j).1.fits (SetTable.insertAt hs (t.put j).2 h).size=true:=by
  unfold SetTable.fits;rw[s1,s2,fl,q3];simp;rcases T.ms with ⟨e,z⟩|⟨e,z⟩|⟨e,z⟩|⟨e,z⟩ <;> lia
 unfold gG;rw[hg,av cG,hp];dsimp only;rw[ak (by rw[fit,s1];simp;lia)];by_cases hf:(t.put j).1.tooFull=true
 .rw[ak hf];have xu:=hf;unfold SetTable.tooFull at xu;rw[fl,q3] at xu;have ZP:(hs.size+1)*5>=t.mask*3:=by simpa using xu
  have gr:SetTable.grown (hs.size+1)=(hs.size+1)*4:=by unfold SetTable.grown;rw[av (by lia)]
  obtain⟨m2,ZS,QD,R2⟩:∃m2,SetTable.sizeAbove (SetTable.grown (hs.size+1))=m2+1/\((m2=31/\hs.size+1<=18)\/(m2=127/\hs.size+1<=76)\/(m2=511/\hs.size+1<=306))/\Ds (m2+1):=by
   rw[gr];rcases T.ms with ⟨e,z⟩|⟨e,z⟩|⟨e,z⟩|⟨e,z⟩
   .have:hs.size=4:=by lia
    exact⟨31,by rw[this];rfl,.inl ⟨rfl,by lia⟩,K2⟩
   .have:hs.size=18:=by lia
    exact⟨127,by rw[this];rfl,.inr (.inl ⟨rfl,by lia⟩),Fm⟩
   .have:hs.size=76:=by lia
    exact⟨511,by rw[this];rfl,.inr (.inr ⟨rfl,by lia⟩),Fn⟩
   .lia
  have ZT:(SetTable.insertAt hs (t.put j).2 h).size<=m2:=by rw[s1];rcases QD with ⟨e,z⟩|⟨e,z⟩|⟨e,z⟩ <;> lia
  obtain⟨owner,eo,L⟩:=xw R2 (SetTable.insertAt hs (t.put j).2 h) ZT;obtain⟨QE,VQ⟩:=Am L;rw[s1] at QE VQ;generalize QF:(List.range (m2+1)).filterMap (fun j=>(owner.getD j none).map (j,·))=live at QE VQ;have er:(t.put j).1.relaid (SetTable.insertAt hs (t.put j).2 h) (SetTable.grown (hs.size+1))=some ({ mask:=m2,place:=(live.map (·.1)).toArray,dummies:=#[],finger:=(t.put j).1.finger,led:=(t.put j).1.led,moves:=(t.put j).1.movedTo m2,plain:=(t.put j).1.plain },(live.map (·.2)).toArray):=by
   unfold SetTable.relaid SetTable.laid;rw[ZS];simp only[Nat.add_sub_cancel];rw[eo];show some _=some _;rw[<-QF]
  rw[er];dsimp only;have Ag:((live.map (·.2)).toArray.filterMap ((SetTable.insertAt hs (t.put j).2 h)[·]?)).size=hs.size+1:=by
   rw[<-lu,uS];show ((live.map (·.2)).filterMap _).length=_;rw[<-QE,List.filterMap_map];refine pf fun q hq=>?_;show ((SetTable.insertAt hs (t.put j).2 h)[q.2]?).isSome=true;rw[yU (by rw[s1];exact VQ q hq)];rfl
  have emf:∀x,({ mask:=m2,place:=(live.map (·.1)).toArray,dummies:=#[],finger:=(t.put j).1.finger,led:=(t.put j).1.led,moves:=(t.put j).1.movedTo m2,plain:=(t.put j).1.plain }:SetTable).fits x=(decide (hs.size+1=x)&&decide (hs.size+1<=m2)):=by
   intro x;unfold SetTable.fits SetTable.fill;simp[QE];rw[j7];simp
  rw[ak (by
   rw[Ag,s1,emf,ZS];have:hs.size+1<=m2:=by rw[<-s1];exact ZT
   simp[this];rcases QD with ⟨e,z⟩|⟨e,z⟩|⟨e,z⟩ <;> lia)]
  refine⟨_,_,rfl,⟨rfl,?_,?_⟩,Ag,fun x hx=>?_⟩
  .rw[Ag];simp[QE]
  .rw[Ag];exact .inr QD
  .rw[uS] at hx;obtain⟨k,_,ek⟩:=oh.mp hx;refine mN (p:=(t.put j).2) ?_;rw[<-nZ] at ek;exact cS ek
 .rw[av hf];refine⟨_,_,rfl,⟨q2,by rw[s2,s1],?_⟩,s1,fun x hx=>mN hx⟩;have xu:¬ (hs.size+1)*5>=t.mask*3:=by
   intro z;refine hf ?_;unfold SetTable.tooFull;rw[fl,q3];simpa using z
  rw[s1,q3];rcases T.ms with ⟨e,z⟩|⟨e,z⟩|⟨e,z⟩|⟨e,z⟩ <;> lia
theorem pS:∀ (l:List Int) (hs:Array Int) (t:SetTable),xx hs t->(∀x∈l,x∉hs.toList)->l.Nodup->hs.size+l.length<=300->∃hs' t',l.foldlM (fun q h=>gG q.1 q.2 h) (hs,t)=some (hs',t')/\hs'.size=hs.size+l.length
 |[],hs,t,_,_,_,_=>⟨hs,t,rfl,rfl⟩
 |h::l,hs,t,T,hn,nd,hl=>by
  rw[eF] at hl;obtain⟨n1,n2⟩:=fN.mp nd;obtain⟨Dn,t1,e1,T1,z1,m1⟩:=An T (hn h bu) (by lia);obtain⟨oX,t2,e2,z2⟩:=pS l Dn t1 T1 (fun x hx hy=>by
   rcases m1 x hy with e|e
   .exact n1 (e ▸ hx)
   .exact hn x (bA _ hx) e) n2 (by lia)
  refine⟨oX,t2,?_,by rw[z2,z1,eF];lia⟩;rw[List.foldlM_cons];show (gG hs t h).bind _=_;rw[e1];exact e2
theorem Dt(led:Bool)(nd:l.Nodup)(hl:l.length<=300):∃hs t,vX led l=some (hs,t)/\hs.size=l.length:=by
 obtain⟨hs,t,e,z⟩:=pS l #[] (SetTable.fresh 0 0 led) ⟨rfl,rfl,.inl ⟨rfl,by decide⟩⟩ (fun x _ h=>by simp at h) nd (by simpa using hl);exact⟨hs,t,e,by simpa using z⟩
def BU:List Nat->Nat->Bool
 |[],_=>true
 |x::xs,cZ=>bif Nat.testBit cZ x then false else BU xs (cZ ||| (1 <<< x))
theorem xy:∀ (l:List Nat) (cZ:Nat),BU l cZ=true->l.Nodup/\∀x∈l,cZ.testBit x=false
 |[],_,_=>⟨jl,fun x h=>(nomatch h)⟩
 |x::xs,cZ,h=>by
  unfold BU at h;cases hb:cZ.testBit x with
  |true=>rw[hb] at h;cases h
  |false=>
   rw[hb] at h;obtain⟨nd,hx⟩:=xy xs _ h;have ZU:∀y∈xs,cZ.testBit y=false/\y≠x:=by
    intro y hy;have:=hx y hy;rw[Nat.testBit_or,Nat.one_shiftLeft,Nat.testBit_two_pow] at this;rw[Bool.or_eq_false_iff] at this;exact⟨this.1,fun e=>by have:=this.2;simp[e] at this⟩
   refine⟨fN.mpr ⟨fun hm=>(ZU x hm).2 rfl,nd⟩,fun y hy=>?_⟩;rcases bn.mp hy with z|z
   .rw[z];exact hb
   .exact(ZU y z).1
def rL:List (Int×Int):=(List.range 32).flatMap fun a=>(List.range 32).map fun b=>(Int.ofNat a,Int.ofNat b)
def K3(h:Int):Nat:=(h % 6554).toNat
theorem Du(P:Program)(w:World):BU (rL.map fun y=>K3 (fZ P w y)) 0=true:=by kernel_rfl
theorem BV(h1:0<=y.1/\y.1<32)(h2:0<=y.2/\y.2<32):y∈rL:=by
 unfold rL;refine zE.mpr ⟨y.1.toNat,bK.mpr (by lia),bB.mpr ⟨y.2.toNat,bK.mpr (by lia),gw ?_ ?_⟩⟩
 .show ((y.1.toNat:Nat):Int)=y.1;lia
 .show ((y.2.toNat:Nat):Int)=y.2;lia
theorem lB:∀ {l:List α},(l.map f).Nodup->∀x∈l,∀y∈l,f x=f y->x=y
 |[],_,_,h,_,_,_=>by cases h
 |a::l,h,x,hx,y,hy,e=>by
  rw[fh] at h;obtain⟨h1,h2⟩:=fN.mp h;rcases bn.mp hx with z|z <;> rcases bn.mp hy with z'|z'
  .rw[z,z']
  .exact absurd (bB.mpr ⟨y,z',by rw[<-e,z]⟩) h1
  .exact absurd (bB.mpr ⟨x,z,by rw[e,z']⟩) h1
  .exact lB h2 x z y z' e
theorem vZ(hx:(0<=x.1/\x.1<32)/\(0<=x.2/\x.2<32))(hy:(0<=y.1/\y.1<32)/\(0<=y.2/\y.2<32))(e:fZ P w x=fZ P w y):x=y:=
 lB (xy _ _ (Du P w)).1 x (BV hx.1 hx.2) y (BV hy.1 hy.2) (congrArg K3 e)
theorem ph:∀ {l:List α},l.Nodup->(∀x∈l,∀y∈l,f x=f y->x=y)->(l.map f).Nodup
 |[],_,_=>jl
 |a::l,h,hf=>by
  obtain⟨h1,h2⟩:=fN.mp h;rw[fh];refine fN.mpr ⟨fun z=>?_,ph h2 fun x hx y hy=>hf x (bA _ hx) y (bA _ hy)⟩;obtain⟨y,hy,e⟩:=bB.mp z;have:=hf y (bA _ hy) a bu e;exact h1 (this ▸ hy)
theorem xz{P:Program}{w:World}(led:Bool){ys:List (Int×Int)}(nd:ys.Nodup)(hr:∀y∈ys,(0<=y.1/\y.1<32)/\(0<=y.2/\y.2<32))(hl:ys.length<=300):
  ∃hs t,vX led (ys.map (fZ P w))=some (hs,t)/\hs.size=ys.length:=by
 obtain⟨hs,t,e,z⟩:=Dt led (ph nd fun x hx y hy e=>vZ (P:=P) (w:=w) (hr x hx) (hr y hy) e) (by rw[aR];exact hl);exact⟨hs,t,e,by rw[z,aR]⟩
theorem v1:∀ {as:List Addr} {its:List Value},a8 (as.map V.ref) its->its=as.map Value.ref
 |[],_,r=>by cases r;rfl
 |a::as,_,r=>by
  cases r with
  |cons r rr=>
   obtain rfl:=(show _=Value.ref a from r)
   rw[v1 rr];rfl
def ID(D:Addr)(n:Nat):HO:=.ext fun h=>∃hs t,kG h D hs t/\hs.size=n
section
variable {X:Cx}
def QG(K:PySem.W.Frag):List V->Hp->VK->Prop:=fun xs H Q=>∃ (l:Addr) (as:List Addr) (ys:List (Int×Int)),xs=[.ref l]/\a9 K H l (as.map V.ref)/\as.length=ys.length/\
 (∀i,i<ys.length->Fg K H (as.getD i 0) (ys.getD i (0,0)))/\ys.Nodup/\(∀y∈ys,(0<=y.1/\y.1<32)/\(0<=y.2/\y.2<32))/\ys.length<=300/\∀D,H D=none->Q (.ref D) (upd H D (ID D ys.length))
theorem Dv(hc:X.calm=true)(hu:X.A.units+8<cLine):fj X (.type "set") (QG X.K):=by
 intro af s σ H xs us Q I r h;obtain⟨l,as,ys,rfl,hl,eX,hp,nd,rg,h3,q⟩:=h;obtain⟨u1,rfl,r1⟩:=r.one;obtain rfl:u1=Value.ref l:=r1;obtain⟨its,rv,pl,hz⟩:=I.list hl;have e:=v1 rv;subst e;have hpi:jx s.heap (as.map Value.ref) ys:=⟨by rw[aR,eX],fun i v hv=>by
  rw[bZ] at hv;cases ea:as[i]? with
  |none=>rw[ea] at hv;cases hv
  |some a=>
   rw[ea] at hv;obtain rfl:Value.ref a=v:=bN hv;have hi:i<as.length:=(dN.mp ea).1;obtain⟨o,n,t,u,e1,c,d⟩:=Ae I (hp i (by lia));have eg:as.getD i 0=a:=by rw[bY,ea];rfl
   rw[eg] at e1;exact⟨a,o,n,t,u,rfl,e1,c,d⟩⟩
 have Dq:∀led,∃q:Array Int×SetTable,vX led (ys.map (fZ X.prog X.w))=some q/\q.1.size=ys.length:=fun led=>
  let ⟨hs,t,e,z⟩:=xz (P:=X.prog) (w:=X.w) led nd rg h3;⟨(hs,t),e,z⟩
 refine Fj (I.ok.hd hc) hu pl.isList hpi (hsN:=fun led=>(Dq led).choose.1) (tN:=fun led=>(Dq led).choose.2) (fun led=>(Dq led).choose_spec.1) fun led h' tk S' k=>?_;refine⟨.ref s.heap.objs.size,_,I.BM (t':=tk) (o:=ID s.heap.objs.size ys.length) (fun b u e=>k b u (aT e) e) (qU (aU _)) ⟨⟨_,_,S',(Dq led).choose_spec.2⟩,?_,fun h1 h2 ⟨hs,t,⟨o,es,ep,q1,q2⟩,z⟩ kk=>⟨hs,t,⟨o,es,ep,kk o q1,q2⟩,z⟩⟩,rfl,q _ I.fresh⟩;obtain⟨o,_,_,q1,_⟩:=S';exact⟨o,q1⟩
theorem xA:fj X (.builtin "len") (fun xs H Q=>∃D n,xs=[.ref D]/\H D=some (ID D n)/\n<=4096/\Q (.int n) H):=by
 intro af s σ H xs us Q I r h;obtain⟨D,n,rfl,e,hn,q⟩:=h;obtain⟨u1,rfl,r1⟩:=r.one;obtain rfl:u1=Value.ref D:=r1;obtain⟨⟨hs,t,⟨o,es,ep,q1,q2,q3,q4,q5,q6⟩,z⟩,_⟩:=(show cL X.prog X.w H s.heap D (ID D n) from I.cz D _ e)
 have ir:es.size=n:=by rw[<-z,<-q5,io]
 exact call_len_set q1 ⟨q2,q3.1,q3.2⟩ q4 q6 (by rw[ir];lia) ⟨.int n,H,I.tok _,⟨_,by rw[ir]⟩,q⟩
theorem kH:fj X (.type "range") (fun xs H Q=>∃n,xs=[.int n]/\∀p,H p=none->Q (.ref p) (upd H p (.Br 0 n))):=by
 intro af s σ H xs us Q I r h;obtain⟨n,rfl,q⟩:=h;obtain⟨u1,rfl,t,rfl⟩:=r.one;refine call_range_1 ⟨.ref s.heap.objs.size,_,I.laid (o:=.Br 0 n) (fun b u e=>bL _ e) (aU _) ⟨_,_,_,cB _ rfl⟩,rfl,q _ I.fresh⟩
theorem l6(hc:X.calm=true):fj X (.type "list") (fun xs H Q=>∃ (p:Addr) (n:Nat),xs=[.ref p]/\H p=some (.Br 0 n)/\n<=1000/\∀l,H l=none->Q (.ref l) (upd H l (.lst ((List.range n).map fun (i:Nat)=>V.int i)))):=by
 intro af s σ H xs us Q I r h;obtain⟨p,n,rfl,e,hn,q⟩:=h;obtain⟨u1,rfl,r1⟩:=r.one;obtain rfl:u1=Value.ref p:=r1;obtain⟨t,u,v,hp⟩:=(show cL X.prog X.w H s.heap p (.Br 0 n) from I.cz p _ e)
 refine call_list_range (n:=n) (I.ok.hd hc) (show IsRange s.heap p 0 n 1 t u v from hp) (small_one (by lia) (by lia) (by lia) (by lia)) (by rw[rangeSize_one];split <;> lia) (by lia) fun h' tk cZ c k g it=>?_;obtain⟨i1,i2⟩:=it;refine⟨.ref s.heap.objs.size,_,I.BM (t':=tk) (o:=.lst ((List.range n).map fun (i:Nat)=>V.int i)) (fun b u e=>k b u e) (qU (aU _)) ⟨?_,cZ.toList,c,?_,by simpa using g⟩,rfl,q _ I.fresh⟩
 .rw[aR,cu];exact ba hn (by decide)
 .have go:∀ (m:Nat) (l:List Value),l.length=m->(∀ (j:Nat) v,l[j]?=some v->∃t,v=Value.int (0+(j:Int)*1) t)->a8 ((List.range m).map fun (i:Nat)=>V.int i) l:=by
   intro m;induction m with
   |zero=>intro l hl _;cases l with
    |nil=>exact .nil
    |cons _ _=>cases hl
   |succ m ih=>
    intro l hl hv;have pP:l≠[]:=by intro z;rw[z] at hl;cases hl
    have el:l=l.dropLast++[l.getLast pP]:=(List.dropLast_concat_getLast pP).symm;rw[ja,di,el];have Ug:l.dropLast.length=m:=by rw[List.length_dropLast,hl];rfl
    refine a8.append (ih _ Ug fun j v hj=>hv j v ?_) (.cons ?_ .nil)
    .rw[el];have hj':j<l.dropLast.length:=(dN.mp hj).1;rw[i6 hj'];exact hj
    .obtain⟨t,ht⟩:=hv m (l.getLast pP) (by
      rw[List.getLast_eq_getElem,cg (by lia:m<l.length)];simp[hl])
     exact⟨t,by rw[ht];simp⟩
  exact go n cZ.toList (by simpa using i1) fun j v hj=>i2 j v (by simpa using hj)
end
def pT(e:V->V->Bool):List V->List V->Bool
 |[],[]=>true
 |x::xs,y::ys=>e x y&&pT e xs ys
 |_,_=>false
theorem pU:∀ {xs ys:List V},xs.length=ys.length->pT e xs ys=(List.range xs.length).all fun i=>e (xs.getD i .cE) (ys.getD i .cE)
 |[],[],_=>rfl
 |x::xs,y::ys,h=>by
  have h':xs.length=ys.length:=by simpa using h
  rw[pT,pU h',eF,nW,j9,List.all_map];rfl
 |[],_::_,h=>by simp at h
 |_::_,[],h=>by simp at h
section
variable {X:Cx}
theorem Dw(hc:X.calm=true):fj X (.builtin "any") (fun xs H Q=>∃ (p:Addr) (bs:List Bool),xs=[.ref p]/\a9 X.K H p (bs.map V.bl)/\Q (.bl (bs.any id)) H):=by
 intro af s σ H xs us Q I r h;obtain⟨p,bs,rfl,hp,q⟩:=h;obtain⟨u1,rfl,r1⟩:=r.one;obtain rfl:u1=Value.ref p:=r1;obtain⟨its,rv,pl,hz⟩:=I.list hp;have Ao:its=bs.map Value.bool:=by
  have go:∀ (bs:List Bool) (its:List Value),a8 (bs.map V.bl) its->its=bs.map Value.bool:=by
   intro bs;induction bs with
   |nil=>intro its r;cases r;rfl
   |cons b bs ih=>
    intro its r;cases r with
    |cons r rr=>
     obtain rfl:=(show _=Value.bool b from r)
     rw[ih _ rr];rfl
  exact go bs its rv
 subst Ao;obtain⟨ob,VR,_⟩:=id pl.isList;have d9:p<s.heap.objs.size:=aT VR;refine call_any_walk (q8 pl.isList ⟨s.heap.objs.size,_,_,_,_,_,fun i=>bs.getD i false,rfl,Walks.list (show X.A.in1.handled=none from I.ok.hd hc) _ p (aW d9) _,⟨⟨_,cB _ rfl,rfl,rfl⟩,pl.isList.push _⟩,fun i v s1 Q' E' hv hq=>?_,fun h' tk k=>?_⟩)
 .have C_:(bs.map Value.bool)[i]?=some v:=by simpa using hv
  rw[bZ] at C_;cases eb:bs[i]? with
  |none=>rw[eb] at C_;cases C_
  |some b=>
   rw[eb] at C_;obtain rfl:Value.bool b=v:=bN C_;have:bs.getD i false=b:=by rw[bY,eb];rfl
   have Io:Q' b s1:=by rw[<-this];exact hq
   exact wpAny_pure Io
 .have keep:∀b o,s.heap.get? b=some o->h'.get? b=some o:=fun b o e=>k b o (by simpa using aW (aT e)) (bL _ e);refine⟨.bl (bs.any id),H,I.kept (t':=tk) keep,?_,q⟩;show Value.bool _=Value.bool _;congr 1;have go:∀ (bs:List Bool),((List.range bs.length).any fun i=>bs.getD i false)=bs.any id:=by
   intro bs;induction bs with
   |nil=>rfl
   |cons b bs ih=>
    rw[eF,nW,jm,List.any_map,jm,<-ih];rfl
  rw[<-go bs];simp
end
def mP(c:Addr)(qual:Str):HO:=.ext fun h=>h.CodeRec (.ref c) qual
theorem Fs(x:h.CodeRec (.ref c) qual):cL P w H h c (mP c qual):=by
 refine⟨x,?_,?_⟩
 .obtain⟨c',o,vs,t,e,ho,_⟩:=x;cases e;exact⟨o,ho⟩
 .rintro h1 h2 ⟨c',o,vs,t,e,ho,r⟩ k;cases e;exact⟨c,o,vs,t,rfl,k o ho,r⟩
def K4(f:Addr)(qual:Str)(params:Arguments)(body:Expr)(scope:Scope)(cells:List (Str×Addr))(c:Addr)(h:Heap):Prop:=
 ∃ (cV:List (Str×Addr)) (pm xB:Value),(∀x a,cV.lookup x=some a->cells.lookup x=some a)/\(∀x,(x,NameKind.free)∈scope.names->∃a,cV.lookup x=some a)/\
  h.get? f=some (PySem.W.kla_obj "<lambda>" qual params body scope cV pm c xB)
def tE(f:Addr)(qual:Str)(params:Arguments)(body:Expr)(scope:Scope)(cells:List (Str×Addr))(c:Addr):HO:=.ext (K4 f qual params body scope cells c)
theorem BW(x:K4 f qual params body scope cells c h):
  cL P w H h f (tE f qual params body scope cells c):=by
 refine⟨x,?_,?_⟩
 .obtain⟨_,_,_,_,_,e⟩:=x;exact⟨_,e⟩
 .rintro h1 h2 ⟨cV,pm,xB,a,b,e⟩ k;exact⟨cV,pm,xB,a,b,k _ e⟩
def dq(lp:Pos)(qual:Str)(P:Addr)(H:Hp):Prop:=H P=some (.iH #[])\/∃c,H P=some (.iH #[rawInt lp.line,rawInt lp.col,.ref c])/\H c=some (mP c qual)
structure IF(X:Cx)(c P:Addr):Prop where
 code:X.env.code=.ref c
 hd:PySem.W.CodeHd X.base c P
 bm:∃bm o,X.mg "__builtins__"=some (.ref bm)/\bm≠builtinsNs/\bm≠mainGlobals/\X.base.get? bm=some o/\o.cls=.type "module"/\o.dict=some builtinsNs/\o.data=.plain
def VS(lp:Pos)(qual:Str)(P:Addr)(params:Arguments)(body:Expr)(scope:Scope)(cells:List (Str×Addr)):TE:=fun _ H Q=>dq lp qual P H/\
 ∀ (f c:Addr) (H2:Hp),dq lp qual P H2->(∀b o,H b=some o->b≠P->H2 b=some o)->H2 c=some (mP c qual)->H2 f=some (tE f qual params body scope cells c)->Q (.ref f) H2
theorem xC{lp:Pos}{c:Addr}:TriplesOk (#[rawInt lp.line,rawInt lp.col,.ref c]:Array Value).toList:=trivial
theorem Dx:codeAmong lp (#[rawInt lp.line,rawInt lp.col,.ref c]:Array Value).toList=some (.ref c):=by
 show (if ((lp.line:Int)==(lp.line:Int)&&(lp.col:Int)==(lp.col:Int))=true then some (Value.ref c) else _)=_;simp
section
variable {X:Cx} {c P:Addr} {params:Arguments} {body:Expr} {scope:Scope} {lp:Pos} {NB:List Str} {src:List (Option Nat)}
theorem IF.at(C:IF X c P)(I:aS X af σ H s)(hP:H P=some (.iH ps)):s.heap.BuiltinsAt X.mg P:=by
 obtain⟨bm,o,b1,b2,b3,b4,b5,b6,b7⟩:=C.bm;refine⟨bm,o,b1,b2,b3,fun z=>?_,I.bk _ _ b4,b5,b6,b7⟩;have:=(I.bs _ _ b4).2;rw[z,hP] at this;cases this
theorem aS.K5(I:aS X af σ H s):s.heap.Ns mainGlobals X.mg:=I.mod.glob.keeps I.bk
theorem rM(C:IF X c P)(S:gQ NB src scope X)(VT:defaultsOf params X.env=([],[]):=by rfl):PE X (.Lambda params body scope lp) (VS lp (X.env.qual++"<lambda>") P params body scope X.env.cells):=by
 intro af s σ H Q I h;obtain⟨tab,h⟩:=h;obtain⟨cV,ZV,c1,c2⟩:=l4 I.ok S;refine PySem.W.kla_eval VT ?_;have ir:∀b o,s.heap.get? b=some o->b<s.heap.objs.size:=fun b o e=>aT e;rcases tab with hP|⟨c',hP,wY⟩
 .-- the first time
  have QH:s.heap.get? P=some (PySem.W.tabObj #[]):=I.cz P _ hP;have hPL:X.env.locals≠P:=fun z=>by have f:=I.free;rw[z,hP] at f;cases f
  have hPg:mainGlobals≠P:=fun z=>by
   obtain⟨o,es,ep,e,d,_⟩:=I.mod.glob;have:=(I.bs _ _ e).2;rw[z,hP] at this;cases this
  refine PySem.W.kla_makeFunction (mg:=X.mg) ZV I.ok.glob I.K5 C.code (C.hd.keeps I.bk) QH (by trivial) rfl hPg (C.at I hP) fun c' xB h' tk hx IG d9 VU Uh=>?_;have IH:∀b o,b≠P->s.heap.get? b=some o->(h'.push (PySem.W.kla_obj "<lambda>" (X.env.qual++"<lambda>") params body scope cV ((X.mg "__name__").getD .none) c' xB)).get? b=some o:=fun b o hb e=>bL _ (hx b o hb e);have hcP:c'≠P:=fA (br (ir _ _ QH) IG);have hfP:h'.objs.size≠P:=fA (br (ir _ _ QH) (ba IG (lU d9)));have hfc:h'.objs.size≠c':=fA d9;have nf:H h'.objs.size=none:=I.cz.fresh (by lia);have nc:H c'=none:=I.cz.fresh IG
  let H2:Hp:=upd (upd (upd H P (.iH #[rawInt lp.line,rawInt lp.col,.ref c'])) c' (mP c' (X.env.qual++"<lambda>"))) h'.objs.size (tE h'.objs.size (X.env.qual++"<lambda>") params body scope X.env.cells c')
  have eP:H2 P=some (.iH #[rawInt lp.line,rawInt lp.col,.ref c']):=by
   show upd _ _ _ _=_;rw[ao hfP.symm,ao hcP.symm,ae]
  have ec:H2 c'=some (mP c' (X.env.qual++"<lambda>")):=by
   show upd _ _ _ _=_;rw[ao hfc.symm,ae]
  have ef:H2 h'.objs.size=some (tE h'.objs.size (X.env.qual++"<lambda>") params body scope X.env.cells c'):=ae;have eo:∀b,b≠P->b≠c'->b≠h'.objs.size->H2 b=H b:=fun b h1 h2 h3=>by
   show upd _ _ _ _=_;rw[ao h3,ao h2,ao h1]
  have gU:∀b o,H b=some o->b≠P->H2 b=some o:=fun b o e hb=>by
   rw[eo b hb (am e nc) (am e nf)];exact e
  have I2:aS X af σ H2 { s with heap:=h'.push (PySem.W.kla_obj "<lambda>" (X.env.qual++"<lambda>") params body scope cV ((X.mg "__name__").getD .none) c' xB),toks:=tk }:=by
   refine I.step (g':=s.gens) (d':=s.drawn) (ch:=[]) (fun _ z=>absurd z (by simp)) (fun b o _ _ _ e n=>IH b o (fun z=>by rw[z,hP] at n;cases n) e) (fun b o _ _ _ e n=>⟨o.slots,IH b o (fun z=>by rw[z,hP] at n;cases n) e⟩)
    (fun b o _ e n=>?_) (fun b o _ e=>?_) (fun b xs e=>gU b _ e fun z=>by rw[z,hP] at e;cases e) (fun b o u e=>gU b _ e fun z=>by rw[z,hP] at e;cases e) (fun b ps e=>?_) (fun m hm=>?_) (fun b o e=>?_) I.bare
   .rw[eo b (fun z=>by rw[z,hP] at n;cases n) (aW (br (ir b o e) IG)) (aW (br (ir b o e) (ba IG (lU d9))))];exact n
   .by_cases hb:b=P
    .exact⟨_,by rw[hb];exact bL _ Uh⟩
    .exact⟨o,IH b o hb e⟩
   .by_cases hb:b=P
    .rw[hb] at e |-;rw[hP] at e;cases e;exact⟨#[rawInt lp.line,rawInt lp.col,.ref c'],by rw[eP];simp⟩
    .exact⟨#[],by rw[gU b _ e hb];simp⟩
   .exact(hm.extBut hx hPL).push _
   .by_cases ZW:b=h'.objs.size
    .subst ZW;rw[ef] at e;cases e;exact BW ⟨cV,_,xB,c1,c2,cB _ rfl⟩
    .by_cases VD:b=c'
     .subst VD;rw[ec] at e;cases e;refine Fs ?_;obtain⟨c₂,oc,vs,t,e2,T7,r⟩:=VU;exact⟨c₂,oc,vs,t,e2,bL _ T7,r⟩
     .by_cases VV:b=P
      .subst VV;rw[eP] at e;cases e;exact bL _ Uh
      .rw[eo b VV VD ZW] at e;refine(I.cz b o e).iV (fun d u hd q=>IH d u ?_ q) (fun d q=>gU d _ q fun z=>by rw[z,hP] at q;cases q) fun d xs q=>gU d _ q fun z=>by rw[z,hP] at q;cases q
       rintro rfl;rcases hd with z|z
       .exact VV z.symm
       .rw[hP] at z;cases z
  exact⟨.ref h'.objs.size,H2,I2,rfl,h _ c' H2 (.inr ⟨c',eP,ec⟩) gU ec ef⟩
 .-- again
  have QH:s.heap.get? P=some (PySem.W.tabObj #[rawInt lp.line,rawInt lp.col,.ref c']):=I.cz P _ hP;refine PySem.W.kla_makeFunctionHit (mg:=X.mg) ZV I.ok.glob I.K5 C.code (C.hd.keeps I.bk) QH xC Dx (C.at I hP) fun xB h' tk hk IG=>?_;have nf:H h'.objs.size=none:=I.cz.fresh IG
  let H2:Hp:=upd H h'.objs.size (tE h'.objs.size (X.env.qual++"<lambda>") params body scope X.env.cells c')
  have ef:H2 h'.objs.size=some (tE h'.objs.size (X.env.qual++"<lambda>") params body scope X.env.cells c'):=ae;have gU:∀b o,H b=some o->H2 b=some o:=fun b o e=>by
   show upd _ _ _ _=_;rw[ao (am e nf)];exact e
  have IH:∀b o,s.heap.get? b=some o->(h'.push (PySem.W.kla_obj "<lambda>" (X.env.qual++"<lambda>") params body scope cV ((X.mg "__name__").getD .none) c' xB)).get? b=some o:=fun b o e=>bL _ (hk b o e);have I2:aS X af σ H2 { s with heap:=h'.push (PySem.W.kla_obj "<lambda>" (X.env.qual++"<lambda>") params body scope cV ((X.mg "__name__").getD .none) c' xB),toks:=tk }:=by
   refine I.step (g':=s.gens) (d':=s.drawn) (ch:=[]) (fun _ z=>absurd z (by simp)) (fun b o _ _ _ e n=>IH b o e) (fun b o _ _ _ e n=>⟨o.slots,IH b o e⟩)
    (fun b o _ e n=>?_) (fun b o _ e=>⟨o,IH b o e⟩) (fun b xs e=>gU b _ e) (fun b o u e=>gU b _ e) (fun b ps e=>⟨#[],by rw[gU b _ e];simp⟩) (fun m hm=>(hm.keeps hk).push _) (I.cz.laid IH IG (BW ⟨cV,_,xB,c1,c2,cB _ rfl⟩)) I.bare
   .show upd _ _ _ _=_;rw[ao (aW (br (ir b o e) IG))];exact n
  exact⟨.ref h'.objs.size,H2,I2,rfl,h _ c' H2 (.inr ⟨c',gU _ _ hP,gU _ _ wY⟩) (fun b o e _=>gU b o e) (gU _ _ wY) ef⟩
end
def Ap(X:Cx)(id:String)(ks:List Str)(r:St->List V->List V->Hp->VK->Prop):Prop:=
 ∀ (af:List (Addr×Obj)) (s:Shared) (σ:St) (H:Hp) (vs zs:List V) (us ws:List Value) (Q:VK),aS X af σ H s->a8 vs us->a8 zs ws->r σ vs zs H Q->
  wpAny (model X.prog X.w) X.A (call (.builtin id) us (ks.zip ws)) (EP X af σ Q) X.xe s
def VW(r:St->List V->List V->Hp->VK->Prop)(t tk:TA):TE:=fun σ H Q=>t σ H fun vs H1=>tk σ H1 fun zs H2=>r σ vs zs H2 Q
section
variable {X:Cx} {x:Str} {p pos:Pos} {e:Expr} {es:List Expr} {E5:List Keyword} {t tk:TA} {id:String} {ks:List Str} {r:St->List V->List V->Hp->VK->Prop}
theorem jc(hc:Ap X id ks r)(hg:Gl X x)(hm:X.mg x=none)(hv:bootBuiltins x=some (.builtin id))(ha:PA X (e::es) t)(hkw:PK X E5 tk)(hn:x≠"__name__":=by decide)(Dc:(x==("__debug__":Str))=false:=by decide)(hks:(backToKw pos (keywordEach E5 X.env)).filterMap (·.1)=ks:=by rfl)(he:backTo pos (starEach (e::es) X.env)=(false,eval e X.env)::backTo pos (starEach es X.env):=by rfl)(z9:(backTo pos (starEach (e::es) X.env)).any (·.1)=false:=by rfl)(tw:(backToKw pos (keywordEach E5 X.env)).all (·.1.isSome)=true:=by rfl)(Mi:(backToKw pos (keywordEach E5 X.env)).any (·.1.isNone)=false:=by rfl):PE X (.Call (.Name x p) (e::es) E5 pos) (VW r t tk):=by
 intro af s σ H Q I h;refine lN (iW I hg hm hv ?_ hn Dc);refine PyProof.Rows.callWith_kw (dJ (ha pos af s σ H _ I h) fun us s1 ⟨vs,H1,I1,r1,q1⟩=>?_) he z9 tw Mi;refine dJ (hkw pos af s1 σ H1 _ I1 q1) fun ws s2 ⟨zs,H2,I2,rz,q2⟩=>?_;rw[hks];exact hc af s2 σ H2 vs zs us ws Q I2 r1 rz q2
end
def Ml(za zb:Int)(ns out:List Int):Prop:=∃ps:List (Int×Int),ps.Perm (ns.map fun z=>((z-za) % zb,z))/\out=ps.map (·.2)/\ps.Pairwise fun p q=>p.1<=q.1
def Mm(X:Cx)(qual:Str)(params:Arguments)(body:Expr)(scope:Scope)(ia ib:Nat):St->List V->List V->Hp->VK->Prop:=fun σ vs zs H Q=>
 ∃ (l f c:Addr) (ns:List Int) (za zb:Int),vs=[.ref l]/\zs=[.ref f]/\a9 X.K H l (ns.map V.int)/\ns.length<64/\H f=some (tE f qual params body scope X.env.cells c)/\H c=some (mP c qual)/\
  σ[ia]?=some (some (.int za))/\σ[ib]?=some (some (.int zb))/\0<zb/\∀ (r:Addr) (out:List Int),H r=none->Ml za zb ns out->Q (.ref r) (upd H r (.lst (out.map V.int)))
theorem uq:∀ {ns:List Int} {vs:List Value},a8 (ns.map V.int) vs->IntsAre vs ns
 |[],_,.nil=>.nil
 |_::_,_,.cons ⟨t,e⟩ r=>by subst e;exact .cons _ t (uq r)
structure QI(X:Cx)(qual:Str)(params:Arguments)(body:Expr)(scope:Scope)(y a b:Str)(ia ib:Nat):Prop where
 bd:∃p1 p2 p3 p4 p5,body=.BinOp (.BinOp (.Name y p1) .Sub (.Name a p2) p3) .Mod (.Name b p4) p5
 bind:∀cV pm c xB v,bindArgs (PySem.W.kla_fn "<lambda>" qual params body scope cV pm (.ref c) xB) ⟨[v],[]⟩=pure [(y,v)]
 na:X.N[ia]?=some a
 nb:X.N[ib]?=some b
 ca:X.env.scope.names.lookup a=some .cell
 cb:X.env.scope.names.lookup b=some .cell
 ly:scope.names.lookup y=some .local
 fa:scope.names.lookup a=some .free
 fb:scope.names.lookup b=some .free
 ma:(a,NameKind.free)∈scope.names
 mb:(b,NameKind.free)∈scope.names
 v3:∀z∈scope.names,z.2≠.cell
 kind:scope.kind=.function
 co:scope.isCoroutine=false
 gen:scope.isGenerator=false
 dy:(y==("__debug__":Str))=false
 da:(a==("__debug__":Str))=false/\(a==("__classdict__":Str))=false
 db:(b==("__debug__":Str))=false/\(b==("__classdict__":Str))=false
theorem Aq(S:QI X qual params body scope y a b ia ib)(hr:cy k X.A):
  Ap X "sorted" ["key"] (Mm X qual params body scope ia ib):=by
 intro af s σ H vs zs us ws Q I r rz h;obtain⟨l,f,c,ns,za,zb,rfl,rfl,hl,K6,hf,hc,sa,sb,hb0,q⟩:=h;obtain⟨u1,rfl,r1⟩:=r.one;obtain rfl:u1=Value.ref l:=r1;obtain⟨w1,rfl,VX⟩:=rz.one;obtain rfl:w1=Value.ref f:=VX;obtain⟨its,rv,pl,hz⟩:=I.list hl;have hI:=uq rv;obtain⟨m,F⟩:=I.fr;obtain⟨p1,p2,p3,p4,p5,rfl⟩:=S.bd;obtain⟨cV,pm,xB,c1,c2,L_⟩:=(I.cz f _ hf).1;have VY:s.heap.CodeRec (.ref c) qual:=(I.cz c _ hc).1;obtain⟨m',PV,ZX⟩:=I.loc;have QJ:∃ca ta,cV.lookup a=some ca/\s.heap.IsCell ca (some (.int za ta)):=by
  obtain⟨u,⟨ta,rfl⟩,lk⟩:=ZX ia a (.int za) S.na sa (.inr (.inl S.ca));obtain⟨ca,e1⟩:=c2 a S.ma;rcases lk with ⟨z,_⟩|⟨_,ca',e2,e3⟩
  .have z':X.env.scope.names.lookup a=some .local:=z;rw[S.ca] at z';cases z'
  .have e4:=c1 a ca e1;rw[e2] at e4;cases e4;exact⟨ca,ta,e1,e3⟩
 have QK:∃cb tb,cV.lookup b=some cb/\s.heap.IsCell cb (some (.int zb tb)):=by
  obtain⟨u,⟨tb,rfl⟩,lk⟩:=ZX ib b (.int zb) S.nb sb (.inr (.inl S.cb));obtain⟨cb,e1⟩:=c2 b S.mb;rcases lk with ⟨z,_⟩|⟨_,cb',e2,e3⟩
  .have z':X.env.scope.names.lookup b=some .local:=z;rw[S.cb] at z';cases z'
  .have e4:=c1 b cb e1;rw[e2] at e4;cases e4;exact⟨cb,tb,e1,e3⟩
 obtain⟨ca,ta,ea,ha⟩:=QJ;obtain⟨cb,tb,eb,hb⟩:=QK;have Ui:∀b' (o:Obj),s.heap.get? b'=some o->(∀es ep,o.data≠.dict es ep)->b'≠X.env.locals:=fun b' o e d z=>by
  obtain⟨o',es,ep,e',d',_⟩:=F.ns;rw[z,e'] at e;cases e;exact d _ _ d'
 have len:(ns.map fun z=>(z-za) % zb).length=its.length:=by rw[aR,hI.length]
 refine ksk_sorted (b:=false) (f:=.ref f) (kz:=ns.map fun z=>(z-za) % zb) F EL pl.isList len (by rw[hI.length];exact K6) (ksk_s1 _ _) (fun x=>ksk_l1 _ _) (fun x=>ksk_t1 _ _) ?_ ?_
 .-- one key
  intro i v k hv hk h tk own F' N';have at_:∀b' u,b'≠X.env.locals->s.heap.get? b'=some u->h.get? b'=some u:=fun b' u pP e=>by
   cases z:X.base.get? b' with
   |some o=>
    have:=I.bk b' o z;rw[e] at this;cases this;exact F'.keep b' _ z
   |none=>exact(N' (b',u) (fw _ (kj pP z e))).1
  have VZ:=at_ f _ (Ui f _ L_ (by intro es ep z;cases z)) L_;have V0:h.CodeRec (.ref c) qual:=by
   obtain⟨c0,o,vs0,t0,e0,ho,hd,hv0⟩:=VY;refine⟨c0,o,vs0,t0,e0,at_ _ _ (Ui _ _ ho (by rw[hd];intro es ep z;cases z)) ho,hd,hv0⟩
  have L9:h.IsCell ca (some (.int za ta)):=by
   obtain⟨o,ho,hd⟩:=ha;exact⟨o,at_ _ _ (Ui _ _ ho (by rw[hd];intro es ep z;cases z)) ho,hd⟩
  have tG:h.IsCell cb (some (.int zb tb)):=by
   obtain⟨o,ho,hd⟩:=hb;exact⟨o,at_ _ _ (Ui _ _ ho (by rw[hd];intro es ep z;cases z)) ho,hd⟩
  obtain⟨z,tz,rfl,rfl⟩:∃z tz,v=.int z tz/\k=(z-za) % zb:=by
   obtain⟨n,t,e⟩:=hI.all v (cS hv);refine⟨n,t,e,?_⟩;rw[bZ] at hk;have hn:=hI.nums;have e1:(its.map numOf)[i]?=some n:=by rw[bZ,hv,e];rfl
   rw[hn] at e1;rw[e1] at hk;exact(bN hk).symm
  have Ft:X.A.in1.in1.depth<recursionLimit:=by
   have:=hr.dp;show X.A.depth<_;lia
  refine oO (PySem.W.kla_callFunE Ft VZ rfl S.co S.gen rfl V0 ?_);rw[S.bind];refine wpAny_pure (wpAny_newFunctionEnv S.v3 (fun x hx=>by rw[cU.mp hx];exact S.ly) (fun h₁ xD QL=>⟨((I.ok.mod.nolimit).keeps F'.keep).fresh _ QL,?_⟩) S.kind);have Mn:∀b o,h.get? b=some o->h₁.get? b=some o:=fun b o e=>QL.extBut b o (aW (aT e)) (bL _ e);have ha₁:=L9.keeps Mn;have hb₁:=tG.keeps Mn;refine PySem.W.kla_codeExpr ?_;refine wpAny_BinOp (wpAny_BinOp ?_);refine oP (zu S.kind S.ly xD (v:=.int z tz) (by simp) ?_) S.dy;refine oP (zA S.kind S.fa ea ha₁ ?_ S.da.2) S.da.1;refine sub_int ?_;refine oP (zA S.kind S.fb eb hb₁ ?_ S.db.2) S.db.1;refine mod_int' (by lia) ?_;rw[yQ _ (by lia)];refine KskEnd.intro (news':=jp X.base s.heap X.env.locals++own) ⟨F'.ns.keeps Mn,fun b o e=>Mn b o (F'.keep b o e),F'.above⟩ (fun p hp=>⟨Mn _ _ (N' p hp).1,(N' p hp).2⟩) fun p hp=>hp
 .-- the list
  intro D h' tk out cc F' N' d9 V1;have hD:=tD I N' d9;obtain⟨ps,hp,ho,hs⟩:=V1;have Ac:∀p∈ps,∃n t,p.2=.int n t:=fun p O2=>by
   have:=hp.mem_iff.mp O2;exact hI.all _ (q9 this).2
  have hz':((ns.map fun z=>(z-za) % zb).zip its).map (fun p=>(p.1,numOf p.2))=ns.map fun z=>((z-za) % zb,z):=by
   have hn:=hI.nums;rw[<-hn];have go:∀ (l:List Value),((((l.map numOf).map fun z=>(z-za) % zb).zip l).map fun p=>(p.1,numOf p.2))=(l.map numOf).map fun z=>((z-za) % zb,z):=by
    intro l;induction l with
    |nil=>rfl
    |cons x l ih=>simp only[fh,List.zip_cons_cons,ih]
   exact go its
  have Fa:a8 ((ps.map fun p=>(p.1,numOf p.2)).map (fun p=>V.int p.2)) (ps.map Prod.snd):=by
   have go:∀ (l:List (Int×Value)),(∀p∈l,∃n t,p.2=.int n t)->a8 ((l.map fun p=>(p.1,numOf p.2)).map (fun p=>V.int p.2)) (l.map Prod.snd):=by
    intro l;induction l with
    |nil=>intro _;exact .nil
    |cons x l ih=>
     intro hx;refine .cons ?_ (ih fun p hp=>hx p (bA _ hp));obtain⟨n,t,e⟩:=hx x bu;show ∃t,x.2=Value.int (numOf x.2) t;rw[e];exact⟨t,rfl⟩
   exact go ps Ac
  have Dy:Ml za zb ns ((ps.map fun p=>(p.1,numOf p.2)).map (·.2)):=by
   refine⟨ps.map fun p=>(p.1,numOf p.2),?_,rfl,?_⟩
   .rw[<-hz'];exact hp.map _
   .refine iK.mpr (hs.imp fun {p q} z=>?_);simpa using z
  have hDo:h'.get? D=some (seqObj "list" out cc):=(N' _ bu).1;have I2:aS X af σ (upd H D (.lst (((ps.map fun p=>(p.1,numOf p.2)).map (·.2)).map V.int))) { s with heap:=h',toks:=tk }:=by
   refine I.Qx F F' (fun p hp=>N' p (bA _ hp)) hD ⟨?_,ps.map Prod.snd,cc,?_,?_⟩
   .have h1:=hp.length_eq;rw[oy,len,vw] at h1;simp only[aR];rw[h1,hI.length];exact ba (lU K6) (by decide)
   .have ev:=Fa;simp only[dQ] at ev |-;exact ev
   .rw[hDo,<-ho]
  exact⟨.ref D,_,I2,rfl,q D _ (I.cz.vW hD) Dy⟩
def pi(mg:Str->Option Value)(base:Heap):Prop:=∃bm o,mg "__builtins__"=some (.ref bm)/\bm≠builtinsNs/\bm≠mainGlobals/\base.get? bm=some o/\o.cls=.type "module"/\o.dict=some builtinsNs/\o.data=.plain
def BY(ts:List Addr)(H:Hp):Prop:=(∀P∈ts,H P=some (.iH #[]))/\∀b,H b=none\/(b∈ts/\H b=some (.iH #[]))\/∃o xs,H b=some (.wR o (.lst xs))
theorem Dz{P:Program}{w:World}{K:PySem.W.Frag}{mg mb:Str->Option Value}{CX:yF}{k:Nat}{fa a:Addr}{fd:FuncData}{x:Str}{sp:Sp}{s₁:Shared}{vs:List Value}{ns:List Int}{ts:List Addr}(KX:K.In s₁.heap)(xD:s₁.heap.Ns mainGlobals mg)(hb:s₁.heap.Ns builtinsNs mb)(hbb:∀x:Str,x≠"__name__"->mb x=bootBuiltins x)(V2:s₁.heap.NoLimit)(hg:s₁.gens=#[])(hbm:pi mg s₁.heap)(QM:∀P∈ts,s₁.heap.get? P=some (PySem.W.tabObj #[]))(t7:∀P∈ts,∃c,PySem.W.codeHdIn K c P=true)(V3:∀P∈ts,K.lookup P=none)(ha:s₁.heap.get? a=some { cls:=.type "list",data:=.seq vs.toArray })(hi:IntsAre vs ns)(hl:ns.length<=sizeLine)(hr:cy k callerA)(F:∀base:Heap,K.In base->base.Ns mainGlobals mg->pi mg base->bJ P w K mg base CX k fa fd [x] sp)(QN:∀ (s:Shared) (u:Value),BindsTo s fd ⟨[u],[]⟩ [(x,u)])(HL:∀H:Hp,BY ts H->a9 K H a (ns.map V.int)->sp [.ref a] H (fun v _=>v=.bl true) fun _ _ _=>False)(V4:∀H e s',CX [] H s₁ (fun _ _ _=>False) e s'->False):
  codeAny (model P w) callerA (.call (.ref fa) ⟨[.ref a],[]⟩) (fun r s'=>r=.ok (.ret (.bool true))/\OldK s₁.heap s'.heap/\s'.os=s₁.os/\AllBare s'.gens) s₁:=by
 have rv:=ui hi;have V5:=hi.length;have ZY:a∉ts:=fun z=>by
  have:=QM a z;rw[ha] at this;cases this
 have QO:∀H:Hp,BY ts H->a9 K H a (ns.map V.int)->lX P w H s₁.heap->(∀b,H b≠none->b=a\/b∈ts)->(H a≠none->K.lookup a=none)->
   codeAny (model P w) callerA (.call (.ref fa) ⟨[.ref a],[]⟩) (fun r s'=>r=.ok (.ret (.bool true))/\OldK s₁.heap s'.heap/\s'.os=s₁.os/\AllBare s'.gens) s₁:=by
  intro H hO hS cz hA hK;have v4:∀ {b:Addr} {o:Obj},s₁.heap.get? b=some o->H b=none->(sV s₁.heap H).get? b=some o:=fun e n=>EK e n;have OZ:∀ {b:Addr} {o:Obj},s₁.heap.get? b=some o->(∀v n,o.data≠.seq v n)->(∀v,o.data≠.fields v)->H b=none:=fun {b o} e d1 d2=>by
   cases q:H b with
   |none=>rfl
   |some u=>
    rcases hA b (by rw[q];simp) with e'|e'
    .subst e';rw[ha] at e;cases e;exact absurd rfl (d1 _ _)
    .rw[QM b e'] at e;cases e;exact absurd rfl (d2 _)
  have Uj:∀ {b:Addr} {m:Str->Option Value},s₁.heap.Ns b m->(sV s₁.heap H).Ns b m:=fun {b m} ⟨o,es,ep,e,d,r⟩=>⟨o,es,ep,v4 e (OZ e (by rw[d];intro v n z;cases z) (by rw[d];intro v z;cases z)),d,r⟩
  have ZZ:K.In (sV s₁.heap H):=fun b o e=>v4 (KX b o e) (by
   cases q:H b with
   |none=>rfl
   |some u=>
    rcases hA b (by rw[q];simp) with e'|e'
    .subst e';rw[hK (by rw[q];simp)] at e;cases e
    .rw[V3 b e'] at e;cases e)
  have hB:pi mg (sV s₁.heap H):=by
   obtain⟨bm,o,b1,b2,b3,b4,b5,b6,b7⟩:=hbm;exact⟨bm,o,b1,b2,b3,v4 b4 (OZ b4 (by rw[b7];intro v n z;cases z) (by rw[b7];intro v z;cases z)),b5,b6,b7⟩
  have hM:Mod K mg (sV s₁.heap H):=⟨ZZ,Uj xD,⟨mb,Uj hb,hbb⟩,let ⟨mc,h1,h2⟩:=V2;⟨mc,Uj h1,h2⟩⟩
  have e0:z7 P w K mg (sV s₁.heap H) callerA [] s₁ H:=⟨rfl,hM,fun b o e=>HX e,rh (C4 _ _),trivial,fun b hb=>absurd (show b∈([]:List Addr) from hb) (by simp),cz,.of_eq hg⟩
  refine oM ((F _ ZZ (Uj xD) hB).run callerA [] s₁ H ⟨[.ref a],[]⟩ [.ref a] [.ref a] _ _ hr e0 (QN s₁ (.ref a)) (.cons rfl .nil) (HL H hO hS)) fun r s' h=>?_;cases r with
  |error e=>exact(V4 H e s' h).elim
  |ok fl=>
   cases fl with
   |next=>exact False.elim h
   |brk=>exact False.elim h
   |cont=>exact False.elim h
   |ret u=>
    obtain⟨v,H',os,bare,un,QP,r',q⟩:=h;have q':v=.bl true:=q;subst q';obtain rfl:u=Value.bool true:=r';refine⟨rfl,⟨fun b o e=>?_,fun b o e=>un.there b o e (by simp)⟩,os,bare⟩;cases q:H b with
    |none=>exact .inl (un.keep b o e q (by intro z;exact absurd (show b∈([]:List Addr) from z) (by simp)) (by simp))
    |some u=>
     rcases hO.2 b with z|⟨zt,z⟩|⟨ob,xs,z⟩
     .rw[q] at z;cases z
     .obtain⟨more,z2⟩:=un.vC b _ z;have e1:=QM b zt;rw[e] at e1;cases e1;have e2:s'.heap.get? b=some { cls:=.none,data:=.fields (#[]++more) }:=QP b _ z2;obtain⟨c,hc⟩:=t7 b zt;obtain⟨oc,vsc,_,_,_,_,_,_,_,g1,g2,g3,g4,_⟩:=PySem.W.codeHd_of_K KX hc;exact .inr (.inl ⟨⟨c,oc,vsc,g1,g2,g3,g4⟩,rfl,#[],more,rfl,e2⟩)
     .have z2:=un.vB b ob _ z;obtain⟨e1,_⟩:=cz b _ z;obtain⟨e2,_⟩:=QP b _ z2;rw[e] at e1;cases e1;exact .inl e2
 have Z0:∀ (H:Hp),(∀P∈ts,H P=some (.iH #[]))->True:=fun _ _=>trivial
 classical
 cases hk:K.lookup a with
 |some o=>
  have e:=KX a o hk;rw[ha] at e;cases e;refine QO (fun b=>if b∈ts then some (.iH #[]) else none) ⟨fun P hP=>ak hP,fun b=>?_⟩ (.inr ⟨_,vs.toArray,_,hk,rfl,rfl,rfl,by rw[cJ,V5];exact hl,by simpa using rv⟩) (fun b u z=>?_) (fun b z=>?_) fun z=>absurd (av ZY) z
  .by_cases hb:b∈ts
   .exact .inr (.inl ⟨hb,ak hb⟩)
   .exact .inl (av hb)
  .by_cases hb:b∈ts
   .have z':=(ak hb).symm.trans z;cases z';exact QM b hb
   .have z':=(av hb).symm.trans z;cases z'
  .by_cases hb:b∈ts
   .exact .inr hb
   .exact absurd (av hb) z
 |none=>
  refine QO (fun b=>if b=a then some (.wR { cls:=.type "list",data:=.seq vs.toArray } (.lst (ns.map V.int))) else if b∈ts then some (.iH #[]) else none) ⟨fun P hP=>?_,fun b=>?_⟩ (.inl (.inr ⟨{ cls:=.type "list",data:=.seq vs.toArray },ak rfl⟩)) (fun b u z=>?_) (fun b z=>?_) fun _=>hk
  .have:P≠a:=fun z=>ZY (z ▸ hP);show (if P=a then _ else if P∈ts then _ else _)=_;rw[av this,ak hP]
  .by_cases hb:b=a
   .exact .inr (.inr ⟨_,_,ak hb⟩)
   .by_cases ht:b∈ts
    .exact .inr (.inl ⟨ht,by show (if b=a then _ else if b∈ts then _ else _)=_;rw[av hb,ak ht]⟩)
    .exact .inl (by show (if b=a then _ else if b∈ts then _ else _)=_;rw[av hb,av ht])
  .by_cases hb:b=a
   .have z':=(ak hb).symm.trans z;cases z';subst hb;exact⟨ha,by rw[aR];exact hl,vs,_,rv,ha⟩
   .have z1:(if b∈ts then some (HO.iH #[]) else none)=some u:=(av hb).symm.trans z;by_cases ht:b∈ts
    .rw[ak ht] at z1;cases z1;exact QM b ht
    .rw[av ht] at z1;cases z1
  .by_cases hb:b=a
   .exact .inl hb
   .by_cases ht:b∈ts
    .exact .inr ht
    .exact absurd (by show (if b=a then _ else if b∈ts then _ else _)=_;rw[av hb,av ht]) z
theorem Fu{l:PySem.W.OpenLaw}{n k:Nat}{q:Program}{uh:List Str}{XP:(Str->Option Value)->Heap->Prop}{YP:World->Heap->Prop}{d:DefRec}{K:Params->PySem.W.Frag}{CX:World->yF}{sp:World->Sp}{x:Str}{ts:List Addr}(hn:l.most=some n)(OY:n<=sizeLine)(Qp:d.params.defaults=[])(hr:cy k callerA)(hY:∀ (w:World) (h:Heap),YP w h->(K w.params).In h)(hT:∀ (w:World) (h:Heap),YP w h->∀P∈ts,h.get? P=some (PySem.W.tabObj #[]))(t7:∀ (w:World),∀P∈ts,∃c,PySem.W.codeHdIn (K w.params) c P=true)(V3:∀ (w:World),∀P∈ts,(K w.params).lookup P=none)(F:∀ (w:World) (mg:Str->Option Value) (fa:Addr) (h:Heap),(K w.params).In h->h.Ns mainGlobals mg->mg d.name=some (.ref fa)->
   ∃fd:FuncData,(∀ (s:Shared) (u:Value),BindsTo s fd ⟨[u],[]⟩ [(x,u)])/\
    ∀base:Heap,(K w.params).In base->base.Ns mainGlobals mg->pi mg base->bJ l.prog w (K w.params) mg base (CX w) k fa fd [x] (sp w))(HL:∀ (w:World) (H:Hp) (a:Addr) (ns:List Int),ns.length<=n->BY ts H->a9 (K w.params) H a (ns.map V.int)->sp w [.ref a] H (fun v _=>v=.bl true) fun _ _ _=>False)(V4:∀ (w:World) (H:Hp) (s:Shared) (e:Value) (s':Shared),CX w [] H s (fun _ _ _=>False) e s'->False):
  PySem.W.WalkO q uh XP YP l.row.toRowW d [] (fun f vs=>PySem.call f vs):=by
 refine ZH.xp hn Qp fun w s₀ s₁ mg mb fa o pm cd mI a vs ns G Y ho hd aae Fb L8 Fc eX hg=>?_;have KX:=hY w _ Y;obtain⟨fd,hb,hF⟩:=F w mg fa _ KX G.T.g Fb;have hB:pi mg s₁.heap:=by
  obtain⟨bm,ob,b1,b2,b3,b4,b5,b6⟩:=G.T.bmain;refine⟨bm,ob,b1,b2,fun z=>?_,b3,b4,b5,b6⟩;obtain⟨o',es,ep,e,HZ,_⟩:=G.T.g;rw[z,e] at b3;cases b3;rw[HZ] at b6;cases b6
 exact Dz KX G.T.g G.T.b G.T.builtins G.T.nolimit hg hB (hT w _ Y) (t7 w) (V3 w) L8 Fc (ba eX OY) hr hF hb (fun H hO hS=>HL w H a ns eX hO hS) fun H e s'=>V4 w H s₁ e s'
structure qg(K:PySem.W.Frag)(x qual:Str)(st:Stmt)(f:Addr)(fd:FuncData)(c:Addr):Prop where
 ex:∃ (oc:Value) (od:Option Addr) (kV mI pm:Value) (an:Option Addr) (ct:Value) (yG:Array (Option Value)),
  fd=PySem.W.fnOf x qual (dG st) (b9 st) (au st) .none kV mI pm an (.ref c) ct/\K.lookup f=some ⟨oc,od,.func fd,yG⟩/\PySem.W.codeIn K (.ref c) qual=true
 kp:PySem.W.keepIn K (.ref f)=true
theorem qg.fun{K:PySem.W.Frag}{x qual:Str}{st:Stmt}{f:Addr}{fd:FuncData}{c:Addr}(F:qg K x qual st f fd c):hV K x qual st f fd:=by
 obtain⟨oc,od,kV,mI,pm,an,ct,yG,e,lk,t7⟩:=F.ex;exact⟨⟨oc,od,kV,mI,pm,an,_,ct,yG,e,lk,t7⟩,F.kp⟩
section
variable {P:Program} {w:World} {K:PySem.W.Frag} {mg:Str->Option Value} {base:Heap}
theorem qg.ok{x qual:Str}{st:Stmt}{f:Addr}{fd:FuncData}{c:Addr}{N ps:List Str}{k:Nat}{sp:Sp}(F:qg K x qual st f fd c)(S:aP N ps (au st))(len:∀vs H Q E,sp vs H Q E->vs.length=ps.length)(xi:∀ (A:Around) (outer:List Env) (s:Shared) (H:Hp) (vs:List V) (Q:VK) (E:XK),cy k (A.deeper (envOfC qual (au st) s.heap.objs.size f (.ref c)))->sp vs H Q E->
   ∃t,zP (kD bh P w K mg base N qual (au st) f (.ref c) A outer s H E).yE (b9 st) t/\t { nx:=fun _ H'=>Q .cE H',rt:=Q } (start N vs) H):bJ P w K mg base bh (k+1) f fd ps sp:=by
 obtain⟨oc,od,kV,mI,pm,an,ct,yG,rfl,lk,t7⟩:=F.ex;refine KW lk t7 S len fun A outer s H vs Q E hr HL=>?_;obtain⟨t,h,q⟩:=xi A outer s H vs Q E hr HL;exact⟨t,h.yE,q⟩
theorem BZ{x qual:Str}{st:Stmt}{f c:Addr}{oc:Value}{od an:Option Addr}{yG:Array (Option Value)}{kV mI pm ct:Value}(l:K.lookup f=some ⟨oc,od,.func (PySem.W.fnOf x qual (dG st) (b9 st) (au st) .none kV mI pm an (.ref c) ct),yG⟩)(t7:PySem.W.codeIn K (.ref c) qual=true)(kp:PySem.W.keepIn K (.ref f)=true):qg K x qual st f (PySem.W.fnOf x qual (dG st) (b9 st) (au st) .none kV mI pm an (.ref c) ct) c:=⟨⟨oc,od,kV,mI,pm,an,ct,yG,rfl,l,t7⟩,kp⟩
theorem mQ(kb:K.In base)(hb:pi mg base)(hc:PySem.W.codeHdIn K c P'=true):
  IF (kD CX P w K mg base N qual scope f (.ref c) A outer s H E).yE c P':=⟨rfl,PySem.W.codeHd_of_K kb hc,hb⟩
end
def qC(sc V6:Scope)(y:Str×NameKind):Bool:=match y.2 with
 |.cell=>(match sc.names.lookup y.1 with|some .cell=>true|_=>false)
 |.local=>(match sc.names.lookup y.1 with|some .local=>true|_=>false)
 |.free=>(match V6.names.lookup y.1 with|some .cell=>true|some .free=>true|_=>false)
 |_=>true
def Fv(NB:List Str)(src:List (Option Nat))(sc:Scope)(N:List Str)(i:Nat):Bool:=match NB[i]?,src[i]? with
 |some x,some (some j)=>(N[j]?==some x)&&(match sc.names.lookup x with|some .free=>true|_=>false)
 |_,_=>true
def B0(sc:Scope):Bool:=match sc.kind with|.function=>true|_=>false
def Fw(NB:List Str)(src:List (Option Nat))(sc V6:Scope)(N:List Str):Bool:=
 B0 sc&&decide NB.Nodup&&(src.length==NB.length)&&(sc.names.all (qC sc V6))&&(List.range NB.length).all (Fv NB src sc N)
theorem bq(h:Fw NB src sc X.env.scope X.N=true):gQ NB src sc X:=by
 unfold Fw at h;simp only[gm,qX,fT,lz] at h;obtain⟨⟨⟨⟨h1,h2⟩,h3⟩,h4⟩,h5⟩:=h;refine⟨?_,h2,h3,fun y hy z=>?_,fun y hy z=>?_,fun y hy z=>?_,fun i x j e1 e2=>?_⟩
 .unfold B0 at h1;split at h1
  .assumption
  .cases h1
 .have:=h4 y hy;obtain⟨n,k⟩:=y;obtain rfl:k=.cell:=z;dsimp only[qC] at this |-;split at this
  .assumption
  .cases this
 .have:=h4 y hy;obtain⟨n,k⟩:=y;obtain rfl:k=.local:=z;dsimp only[qC] at this |-;split at this
  .assumption
  .cases this
 .have:=h4 y hy;obtain⟨n,k⟩:=y;obtain rfl:k=.free:=z;dsimp only[qC] at this |-;split at this
  .exact .inl (by assumption)
  .exact .inr (by assumption)
  .cases this
 .have hi:i<NB.length:=(dN.mp e1).1;have:=h5 i (bK.mpr hi);unfold Fv at this;rw[e1,e2] at this;simp only[gm,fT] at this;refine⟨this.1,?_⟩;have t2:=this.2;split at t2
  .assumption
  .cases t2
theorem d_{K:PySem.W.Frag}{a D:Addr}{xs:List V}{g:TG}{tt:TT}{te:TE}{d7:Hp->Prop}{σB:St}{H0:Hp}(Pv:Nat->List V->St->Hp->Prop)(h0:Pv 0 [] σB H0)(hl:∀i ys σ H,i<=xs.length->Pv i ys σ H->a9 K H a xs)(hs:∀i x ys σ H (Kt:V->St->Hp->Prop) (Kf:St->Hp->Prop),xs[i]?=some x->Pv i ys σ H->
   (∀v σ2 H4,H4 D=some (.lst ys)->ys.length<sizeLine->Pv (i+1) (ys++[v]) σ2 (upd H4 D (.lst (ys++[v])))->Kt v σ2 H4)->(∀σ2 H3,Pv (i+1) ys σ2 H3->Kf σ2 H3)->
   g x σ H fun σ2 H2=>tt σ2 H2 fun b H3=>if b=true then te σ2 H3 fun v H4=>Kt v σ2 H4 else Kf σ2 H3)(hd:∀ys σ H,Pv xs.length ys σ H->d7 H):gu (Ej K a) g tt te D d7 σB H0:=by
 refine⟨fun i m σ H=>m=xs.length-i/\i<=xs.length/\∃ys,Pv i ys σ H,⟨xs.length,by simp,cx _,[],h0⟩,?_⟩;rintro i m σ H ⟨rfl,hi,ys,p⟩;have q:=hl i ys σ H hi p;by_cases d9:i<xs.length
 .refine .inr ⟨⟨xs,xs[i],q,by simp[d9]⟩,?_⟩;rintro x H' ⟨rfl,y⟩;exact hs i x ys σ _ (fun v σ2 H4=>∃ys,H4 D=some (.lst ys)/\ys.length<sizeLine/\∃m',m'<xs.length-i/\m'=xs.length-(i+1)/\i+1<=xs.length/\∃tH,Pv (i+1) tH σ2 (upd H4 D (.lst (ys++[v]))))
   (fun σ2 H3=>∃m',m'<xs.length-i/\m'=xs.length-(i+1)/\i+1<=xs.length/\∃tH,Pv (i+1) tH σ2 H3) (y xs q) p
   (fun v σ2 H4 z1 z2 z3=>⟨ys,z1,z2,_,by lia,rfl,d9,_,z3⟩) (fun σ2 H3 z=>⟨_,by lia,rfl,d9,_,z⟩)
 .have e:i=xs.length:=by lia
  subst e;exact .inl ⟨⟨xs,q,aU _⟩,hd ys σ H p⟩
theorem eN{lo:Int}{n:Nat}{D:Addr}{g:TG}{tt:TT}{te:TE}{d7:Hp->Prop}{σB:St}{H0:Hp}(Pv:Nat->List V->St->Hp->Prop)(h0:Pv 0 [] σB H0)(hs:∀i ys σ H (Kt:V->St->Hp->Prop) (Kf:St->Hp->Prop),i<n->Pv i ys σ H->
   (∀v σ2 H4,H4 D=some (.lst ys)->ys.length<sizeLine->Pv (i+1) (ys++[v]) σ2 (upd H4 D (.lst (ys++[v])))->Kt v σ2 H4)->(∀σ2 H3,Pv (i+1) ys σ2 H3->Kf σ2 H3)->
   g (.int (lo+i)) σ H fun σ2 H2=>tt σ2 H2 fun b H3=>if b=true then te σ2 H3 fun v H4=>Kt v σ2 H4 else Kf σ2 H3)(hd:∀ys σ H,Pv n ys σ H->d7 H):gu (Ek lo n) g tt te D d7 σB H0:=by
 refine⟨fun i m σ H=>m=n-i/\i<=n/\∃ys,Pv i ys σ H,⟨n,by simp,cx _,[],h0⟩,?_⟩;rintro i m σ H ⟨rfl,hi,ys,p⟩;by_cases d9:i<n
 .refine .inr ⟨d9,?_⟩;rintro x H' ⟨rfl,rfl⟩;exact hs i ys σ _ (fun v σ2 H4=>∃ys,H4 D=some (.lst ys)/\ys.length<sizeLine/\∃m',m'<n-i/\m'=n-(i+1)/\i+1<=n/\∃tH,Pv (i+1) tH σ2 (upd H4 D (.lst (ys++[v]))))
   (fun σ2 H3=>∃m',m'<n-i/\m'=n-(i+1)/\i+1<=n/\∃tH,Pv (i+1) tH σ2 H3) d9 p
   (fun v σ2 H4 z1 z2 z3=>⟨ys,z1,z2,_,by lia,rfl,d9,_,z3⟩) (fun σ2 H3 z=>⟨_,by lia,rfl,d9,_,z⟩)
 .have e:i=n:=by lia
  subst e;exact .inl ⟨aU _,hd ys σ H p⟩
section
variable {κ:Type} [DecidableEq κ]
def ic(dk:List (κ×V))(k:κ):Option V:=(dk.find? fun kv=>decide (kv.1=k)).map (·.2)
def rN(dk:List (κ×V))(k:κ)(v:V):List (κ×V):=
 if (dk.any fun kv=>decide (kv.1=k))=true then dk.map (fun kv=>if kv.1=k then (kv.1,v) else kv) else dk++[(k,v)]
theorem eO{p:κ×V}{r:List (κ×V)}{k:κ}(e:p.1=k):ic (p::r) k=some p.2:=by simp[ic,j4,e]
theorem eQ{p:κ×V}{r:List (κ×V)}{k:κ}(e:¬ p.1=k):ic (p::r) k=ic r k:=by simp[ic,j4,e]
theorem mR(k:κ):∀dk:List (κ×V),(dk.any fun kv=>decide (kv.1=k))=(ic dk k).isSome
 |[]=>rfl
 |p::r=>by
  rw[jm];by_cases e:p.1=k
  .simp only[eO e,fP e,Bool.true_or,Option.isSome_some]
  .rw[eQ e,fL e,Bool.false_or];exact mR k r
theorem xE(k j:κ)(y:V):∀dk:List (κ×V),ic (dk.map fun kv=>if kv.1=k then (kv.1,y) else kv) j=(ic dk j).map fun x=>if j=k then y else x
 |[]=>rfl
 |p::r=>by
  have ih:=xE k j y r;rw[fh];by_cases h:p.1=k
  .rw[ak h];by_cases e:p.1=j
   .rw[eO (p:=(p.1,y)) e,eO e,lR,ak (e.symm.trans h)]
   .rw[eQ (p:=(p.1,y)) e,eQ e,ih]
  .rw[av h];by_cases e:p.1=j
   .rw[eO (p:=p) e,eO e,lR,av (fun z=>h (e.trans z))]
   .rw[eQ (p:=p) e,eQ e,ih]
theorem ur(k j:κ)(y:V):∀dk:List (κ×V),ic dk k=none->ic (dk++[(k,y)]) j=if j=k then some y else ic dk j
 |[],_=>by
  by_cases e:k=j
  .rw[ak e.symm];exact eO (p:=(k,y)) e
  .rw[av (fun z=>e z.symm)];exact eQ (p:=(k,y)) e
 |p::r,hn=>by
  rw[List.cons_append];have hk:¬ p.1=k:=fun z=>by rw[eO z] at hn;cases hn
  rw[eQ hk] at hn;have ih:=ur k j y r hn;by_cases e:p.1=j
  .rw[eO e,eO e,av (fun z=>hk (e.trans z))]
  .rw[eQ e,eQ e,ih]
theorem Fx(dk:List (κ×V))(k j:κ)(y:V):ic (rN dk k y) j=if j=k then some y else ic dk j:=by
 unfold rN;by_cases a:(dk.any fun kv=>decide (kv.1=k))=true
 .rw[ak a,xE];rw[mR] at a;by_cases e:j=k
  .obtain⟨x,hx⟩:=uQ.mp a;rw[ak e,e,hx,lR,ak rfl]
  .rw[av e];cases ic dk j with
   |none=>rfl
   |some x=>rw[lR,av e]
 .rw[av a];refine ur k j y dk ?_;rw[mR] at a;cases q:ic dk k with
  |none=>rfl
  |some x=>rw[q] at a;exact(a rfl).elim
theorem xF(dk:List (κ×V))(k:κ)(v:V):(rN dk k v).length<=dk.length+1:=by
 unfold rN;split
 .rw[aR];lia
 .rw[df,eF,List.length_nil];lia
theorem mx.pq(r:mx o u):o.isSome=u.isSome:=by
 cases o with
 |none=>cases u with
  |none=>rfl
  |some _=>exact(show False from r).elim
 |some _=>cases u with
  |none=>exact(show False from r).elim
  |some _=>rfl
theorem KV.val{dk:List (κ×V)}{vs:List (κ×Value)}(r:KV dk vs)(k:κ):mx (ic dk k) (valueAt vs k):=by
 unfold KV at r;induction r with
 |nil=>exact True.intro
 |@cons p q ps qs h t ih=>
  obtain⟨h1,h2⟩:=h;by_cases e:p.1=k
  .have e':q.1=k:=h1.symm.trans e;have b:valueAt (q::qs) k=some q.2:=by simp[valueAt,j4,e']
   rw[eO e,b];exact h2
  .have e':¬ q.1=k:=fun z=>e (h1.trans z);have b:valueAt (q::qs) k=valueAt qs k:=by simp[valueAt,j4,e']
   rw[eQ e,b];exact ih
end
theorem K7(r:bR (kV k) u):(cp P w).is k u=true:=by
 cases k with
 |inl i=>obtain⟨t,e⟩:=(show ∃t,u=Value.int i t from r);subst e;exact wV P w i t
 |inr x=>obtain⟨t,e⟩:=(show ∃t,u=Value.str x t from r);subst e;exact wW P w x t
theorem ut:∀ {ks:List h_} {us:List Value},a8 (ks.map kV) us->ItemsAre (cp P w) ks us
 |[],_,r=>by rw[List.map_nil] at r;cases r;exact .nil
 |k::ks,_,r=>by
  rw[fh] at r;cases r with
  |cons h t=>exact .cons (K7 h) (ut t)
abbrev KT(H:Hp):List (List h_×V)->List (List h_×Addr×Value)->Prop:=Paired fun p q=>p.1=q.1/\H q.2.1=some (.tup (p.1.map kV))/\bR p.2 q.2.2
theorem KT.val{H:Hp}{dk:List (List h_×V)}{xs:List (List h_×Addr×Value)}(r:KT H dk xs)(k:List h_):mx (ic dk k) ((atKey xs k).map (·.2)):=by
 induction r with
 |nil=>exact True.intro
 |@cons p q ps qs h t ih=>
  obtain⟨h1,_,h2⟩:=h;by_cases e:p.1=k
  .have e':q.1=k:=h1.symm.trans e;have b:atKey (q::qs) k=some q.2:=by simp[atKey,j4,e']
   rw[eO e,b];exact h2
  .have e':¬ q.1=k:=fun z=>e (h1.trans z);have b:atKey (q::qs) k=atKey qs k:=by simp[atKey,j4,e']
   rw[eQ e,b];exact ih
theorem KT.V7(r:KT H dk xs)(k:List h_)(ry:bR y u):
  KT H (dk.map fun kv=>if kv.1=k then (kv.1,y) else kv) (xs.map (putAt k u)):=by
 induction r with
 |nil=>exact .nil
 |@cons p q ps qs h t ih=>
  rw[fh,fh];refine .cons ?_ ih;obtain⟨h1,h2,h3⟩:=h;unfold putAt;by_cases e:p.1=k
  .rw[ak e,ak (h1.symm.trans e)];exact⟨h1,h2,ry⟩
  .rw[av e,av (fun z=>e (h1.trans z))];exact⟨h1,h2,h3⟩
theorem KT.put(r:KT H dk xs)(k:List h_)(hb:H b=some (.tup (k.map kV)))(ry:bR y u):
  KT H (rN dk k y) (storedH xs k b u):=by
 have e:(dk.any fun kv=>decide (kv.1=k))=(atKey xs k).isSome:=by
  rw[mR,(r.val k).pq,Option.isSome_map]
 unfold rN storedH;rw[e];by_cases q:(atKey xs k).isSome=true
 .rw[ak q,ak q];exact r.V7 k ry
 .rw[av q,av q];exact Paired.snoc r ⟨rfl,hb,ry⟩
theorem KT.keeps(r:KT H dk xs)(ht:∀b ys,H b=some (.tup ys)->H' b=some (.tup ys)):KT H' dk xs:=
 Paired.LH r fun _ _ z=>⟨z.1,ht _ _ z.2.1,z.2.2⟩
section
variable {P:Program} {w:World} {H:Hp} {h:Heap} {a:Addr}
theorem K8(ok:lX P w H h)(e:Rd H a u):cL P w H h a u:=e.ok ok
theorem QQ(ok:lX P w H h)(e:Rd H a (.dK dk)):dk.length<=sizeLine/\(a==sysModules)=false/\∃vs,KV dk vs/\h.DictOf (cp P w) a vs:=
 show cL P w H h a (.dK dk) from K8 ok e
theorem pz(ok:lX P w H h)(e:H a=some (.tup (ks.map kV))):(tupleKind (cp P w)).is h ks a:=by
 obtain⟨_,its,r,o,h1,h2,n,h3,_⟩:=(show cL P w H h a (.tup (ks.map kV)) from ok a _ e)
 exact⟨o,its.toArray,n,h1,h2,h3,by simpa using ut r⟩
theorem QR(ok:lX P w H h)(e:Rd H a (.dT dk)):dk.length<=sizeLine/\(a==sysModules)=false/\
  ∃xs,KT H dk xs/\h.DictOfH (tupleKind (cp P w)) a xs:=by
 obtain⟨z,y,xs,r,o,es,ep,h1,h2,h3,h4,h5⟩:=(show cL P w H h a (.dT dk) from K8 ok e)
 refine⟨z,y,xs,r,o,es,ep,h1,h2,h3,h4,fun x hx=>?_,h5⟩;have all:∀ {l:List (List h_×V)} {m:List (List h_×Addr×Value)},KT H l m->∀x∈m,(tupleKind (cp P w)).is h x.1 x.2.1:=by
  intro l m q;induction q with
  |nil=>intro x hx;exact nomatch hx
  |@cons p q ps qs hq t ih=>
   intro x hx;rcases bn.mp hx with e|hx
   .subst e;exact pz ok (by rw[<-hq.1];exact hq.2.1)
   .exact ih x hx
 exact all r x hx
end
def Fy(H:Hp)(a:Addr)(y:V)(r:Option V):Prop:=
 (∃dk k,Rd H a (.dK dk)/\y=kV k/\r=ic dk k)\/∃dk k b,Rd H a (.dT dk)/\y=.ref b/\H b=some (.tup (k.map kV))/\r=ic dk k
theorem Fy.t(e:H a=some (.dT dk))(eb:H b=some (.tup (k.map kV))):Fy H a (.ref b) (ic dk k):=.inr ⟨dk,k,b,.inl e,rfl,eb,rfl⟩
section
variable {X:Cx} {af:List (Addr×Obj)} {σ:St} {H:Hp} {s:Shared} {a:Addr} {y v:V} {u r:Value} {o:Option V} {A:Around} {E:Value->Shared->Prop}
theorem V8(hu:A.units+1<cLine)(I:aS X af σ H s)(g:Fy H a y o)(ry:bR y u)(h:∀s',aS X af σ H s'->Q (.bool o.isSome) s'):
  wpAny (model X.prog X.w) A (compareOp .In u (.ref a)) Q E s:=by
 rcases g with ⟨dk,k,e,ey,l⟩|⟨dk,k,b,e,ey,eb,l⟩
 .subst ey;obtain⟨z,hd,vs,QS,dd⟩:=QQ I.cz e;refine wpAny_in_of (K7 ry) hd dd.mapOf ?_;rw[<-(QS.val k).pq,<-l];exact h _ (I.tok _)
 .subst ey;cases (show u=Value.ref b from ry);obtain⟨z,hd,xs,QS,dd⟩:=QR I.cz e;refine wpAny_in_heap (tupleKind_room_in1 hu) (pz I.cz eb) hd dd ?_;have q:=(QS.val k).pq;rw[Option.isSome_map] at q;rw[<-q,<-l];exact h _ (I.tok _)
end
section
variable {X:Cx} {af:List (Addr×Obj)} {σ:St} {H:Hp} {s:Shared} {a:Addr} {dk:List (h_×V)} {k:h_} {u:Value} {A:Around} {E:Value->Shared->Prop}
end
def QT(ty td:TE):TE:=fun σ H Q=>ty σ H fun y H1=>td σ H1 fun x H2=>∃a o,x=.ref a/\Fy H2 a y o/\Q (.bl o.isSome) H2
section
variable {X:Cx} {o i e value:Expr} {pos C6 Il:Pos} {td ty tv:TE}
theorem Mo(hu:X.A.units+1<cLine)(hi:PE X i ty)(ho:PE X o td):PC X .In i o (QT ty td):=by
 intro af s σ H Q I h;refine dJ (hi af s σ H _ I h) fun iv s1 ⟨y,H1,I1,ry,q1⟩=>dJ (ho af s1 σ H1 _ I1 q1) fun u s2 ⟨x,H2,I2,rx,a,ov,ex,g,q2⟩=>?_;subst ex;obtain rfl:u=Value.ref a:=rx;exact V8 hu I2 g ry fun s3 I3=>⟨.bl ov.isSome,H2,I3,rfl,q2⟩
end
section
variable {X:Cx} {pos:Pos}
end
section
variable {X:Cx} {af:List (Addr×Obj)} {σ:St} {H:Hp} {s:Shared} {a:Addr} {y d:V} {u r:Value} {o:Option V} {A:Around} {E:Value->Shared->Prop}
end
section
variable {X:Cx} {o e f:Expr} {vK vP:Pos} {td ty tx:TE}
end
section
variable {X:Cx} {af:List (Addr×Obj)} {σ:St} {H:Hp} {s:Shared} {a:Addr} {dk:List (h_×V)} {A:Around} {E:Value->Shared->Prop}
end
section
variable {X:Cx} {af:List (Addr×Obj)} {σ:St} {H:Hp} {s:Shared} {a:Addr} {y:V} {u:Value} {A:Around} {E:Value->Shared->Prop}
end
section
variable {X:Cx}
end
section
variable {κ:Type} [DecidableEq κ]
end
section
variable {X:Cx}
theorem rO:∀ {xs:List V} {its:List Value},a8 xs its->xs.all fE=true->its.countP (vN x)=xs.countP (fun z=>sQ z x)
 |[],_,.nil,_=>rfl
 |y::xs,_,.cons (b:=u) r rr,f=>by
  have fy:fE y=true:=by rw[j9,gm] at f;exact f.1
  have fx:xs.all fE=true:=by rw[j9,gm] at f;exact f.2
  have h1:[u].any (vN x)=[y].any (fun z=>sQ z x):=k4 (.cons r .nil) (by simp[fy]);have h2:vN x u=sQ y x:=by simpa using h1
  rw[ot,ot,rO rr fx,h2]
def Mp:V->List V->Hp->VK->Prop:=fun x vs H Q=>∃ (l:Addr) (xs:List V) (y:V),x=.ref l/\vs=[y]/\H l=some (.lst xs)/\fE y=true/\xs.all fE=true/\Q (.int (xs.countP fun z=>sQ z y)) H
theorem xG:Ub X "list.count" Mp:=by
 intro af s σ H x vs v us Q I rx rv h;obtain⟨l,xs,y,rfl,rfl,hH,fy,fs,q⟩:=h;cases rx;obtain⟨u,rfl,ru⟩:=rv.one;obtain⟨z,its,n,r,hl,e⟩:=I.vQ hH;refine lW F.slot_list_count ⟨_,e,rfl⟩ F.entry_list_count (F.args_list_count_2 _ _) (SeqAt.list_countAt l its.toArray n none #[] u (vN y)) ⟨e,fun w hw=>jb ru fy r fs w (by simpa using hw),?_⟩;refine⟨.int _,H,I.tok _,⟨s.toks,?_⟩,q⟩;rw[show its.toArray.toList=its by simp,rO r fs]
end
theorem aS.II(I:aS X af σ H s)(fe:gf X af H e)(fi:gf X af H it)(k:∀b o,b≠e->b≠it->s.heap.get? b=some o->h'.get? b=some o)(ke:∃o,h'.get? e=some o)(ki:∃o,h'.get? it=some o)(hp:s.heap.objs.size<=p)(hl:xs.length<=sizeLine)(r:a8 xs its)(ht:h'.get? p=some { cls:=.type "tuple",data:=.seq its.toArray }):aS X af σ (upd H p (.tup xs)) { s with heap:=h',toks:=t' }:=by
 have hn:=I.cz.fresh hp;obtain⟨e0,e1,e2,e3,e4,e5⟩:=fe;obtain⟨i0,i1,i2,i3,i4,i5⟩:=fi;have ne:∀b o,s.heap.get? b=some o->b≠p:=fun b o q=>aW (br (aT q) hp);have B1:∀b o,H b=some o->b≠e/\b≠it:=fun b o q=>⟨(fun z=>by rw[z,e0] at q;cases q),(fun z=>by rw[z,i0] at q;cases q)⟩
 refine I.step (g':=s.gens) (d':=s.drawn) (ch:=[e,it]) (fun b hb=>?_) (fun b o _ _ hb q _=>?_) (fun b o _ _ hb q _=>⟨o.slots,?_⟩) (fun b o hb q n=>by rw[ao (ne b o q)];exact n) (fun b o hb q=>⟨o,?_⟩)
  (fun b ys q=>by rw[ao (am q hn)];exact q) (fun b o u q=>by rw[ao (am q hn)];exact q) (fun b ps q=>⟨#[],by rw[ao (am q hn),q];simp⟩) (fun m hm=>?_) (fun b o q=>?_) I.bare
 .rcases bn.mp hb with rfl|hb
  .exact⟨e3,e1,e4,e5⟩
  .rw[cU.mp hb];exact⟨i3,i1,i4,i5⟩
 .exact k b o (fun z=>hb (z ▸ bu)) (fun z=>hb (z ▸ bA _ bu)) q
 .exact k b o (fun z=>hb (z ▸ bu)) (fun z=>hb (z ▸ bA _ bu)) q
 .exact k b o (fun z=>hb (z ▸ bu)) (fun z=>hb (z ▸ bA _ bu)) q
 .obtain⟨o,es,ep,q,d,r'⟩:=hm;exact⟨o,es,ep,k _ _ e1.symm i1.symm q,d,r'⟩
 .by_cases hb:b=p
  .subst hb;rw[ae] at q;cases q;exact⟨hl,its,r,_,ht,rfl,_,rfl,rfl⟩
  .rw[ao hb] at q;refine(I.cz b o q).iV (fun c u hc z=>k c u ?_ ?_ z) (fun c z=>by rw[ao (am z hn)];exact z) fun c ys z=>by rw[ao (am z hn)];exact z
   .rcases hc with rfl|hc
    .exact(B1 _ _ q).1
    .exact(B1 _ _ hc).1
   .rcases hc with rfl|hc
    .exact(B1 _ _ q).2
    .exact(B1 _ _ hc).2
section
variable {X:Cx}
end
section
variable {prog:Program} {w:World} {A:Around} {E:Value->Shared->Prop} {s:Shared}
theorem l7(wT:s.heap.IsTupleIter it t i)(ht:s.heap.IsTuple t xs)(hx:xs[i]?=some x)(q:∀h',h'.IsTupleIter it t (i+1)->Heap.SameBut it s.heap h'->Q x { s with heap:=h' }):wpAny (model prog w) A (Builtin.SmallTypes.nextOf (.ref it)) Q E s:=by
 obtain⟨o,h1,h2,h3⟩:=id wT;obtain⟨p,k1,_,n,k3⟩:=ht;unfold Builtin.SmallTypes.nextOf;refine aA (lF (name:=Str.ofString "__next__") wT.typeIs F.slot_tuple_iterator_next (jZ F.slot_tuple_iterator_next wT.typeIs F.entry_tuple_iterator_next ?_ (F.args_tuple_iterator_next_1 _)));change wpAny _ _ (field (.ref it) 0 >>= _) _ _ s;refine aA (fQ h1 h3 (x:=.ref t) rfl ?_);change wpAny _ _ (if (Value.ref t==Value.none)=true then _ else _) _ _ s;rw[av (by exact cG)];change wpAny _ _ (field (.ref it) 1 >>= _) _ _ s;refine aA (fQ h1 h3 (x:=.int i 0) rfl ?_);change wpAny _ _ (seqItems? (.ref t) >>= _) _ _ s;refine aA (jH k1 k3 ?_);simp only[gk,hx];refine aA (wpAny_setField h1 h3 (by simp) (wpAny_pure ⟨x,rfl,wpAny_pure (q _ ?_ (om ..))⟩));refine⟨_,lK _ h1 (Obj.isFreed_of_fields (Obj.data_mapFields h3 _)),(Obj.cls_mapFields ..).trans h2,?_⟩;rw[Obj.data_mapFields h3];simp[rawInt]
theorem pA(hh:A.handled=none)(wT:s.heap.IsTupleIter it t i)(ht:s.heap.IsTuple t xs)(hx:xs[i]?=none)(q:∀h' e,Heap.ExtBut it s.heap h'->(∃o,h'.get? e=some o/\o.cls=.type "StopIteration")->E (.ref e) { s with heap:=h' }):wpAny (model prog w) A (Builtin.SmallTypes.nextOf (.ref it)) Q E s:=by
 obtain⟨o,h1,h2,h3⟩:=id wT;obtain⟨p,k1,_,n,k3⟩:=ht;unfold Builtin.SmallTypes.nextOf;refine aA (lF (name:=Str.ofString "__next__") wT.typeIs F.slot_tuple_iterator_next (jZ F.slot_tuple_iterator_next wT.typeIs F.entry_tuple_iterator_next ?_ (F.args_tuple_iterator_next_1 _)));change wpAny _ _ (field (.ref it) 0 >>= _) _ _ s;refine aA (fQ h1 h3 (x:=.ref t) rfl ?_);change wpAny _ _ (if (Value.ref t==Value.none)=true then _ else _) _ _ s;rw[av (by exact cG)];change wpAny _ _ (field (.ref it) 1 >>= _) _ _ s;refine aA (fQ h1 h3 (x:=.int i 0) rfl ?_);change wpAny _ _ (seqItems? (.ref t) >>= _) _ _ s;refine aA (jH k1 k3 ?_);simp only[gk,hx];refine aA (fU (aA (wpAny_setField h1 h3 (by simp) ?stop)));case stop=>
  change wpAny _ _ (newExc (.type "StopIteration") [] >>= _) _ _ _;refine aA ?_;simp only[newExc,newTuple];refine aA (vi (aA (m:=firstArgMember _ _) (wpAny_of_eq (a:=Value.none) (by simp only[firstArgMember];rfl) (vi ?_ (by size_fits)))) (by size_fits));simp only[raiseNew];refine aA (wpAny_handled ?_);rw[show A.in1.handled=none from hh];exact aA (wpAny_pure (wpAny_throw (q _ _ (fun b u hb z=>bL _ (bL _ ((lI _ _ (dA hb)).trans z))) ⟨_,cB _ rfl,rfl⟩)))
theorem xH(hh:A.handled=none)(it t:Addr)(pP:t≠it)(xs:Array Value):Draws prog w A it [it,t] xs.size (fun i v=>xs[i]?=some v) (fun i h=>h.IsTupleIter it t i/\h.IsTuple t xs) where
 live:=fun _ _ st=>let ⟨o,ho,_⟩:=st.1;⟨o,ho⟩
 frame:=fun _ _ _ st hk=>⟨st.1.at fun o e=>hk it (by simp) o e,let ⟨o,e,r⟩:=st.2;⟨o,hk t (by simp) o e,r⟩⟩
 item:=fun i s Q E hi st q=>by
  refine l7 st.1 st.2 (x:=xs[i]) (by simp[hi]) fun h' a b=>?_;obtain⟨o,e,r⟩:=st.2;exact q _ h' s.toks (by simp[hi]) ⟨a,o,(b.2 t pP).trans e,r⟩ b
 done:=fun s Q E st q=>pA hh st.1 st.2 (by simp) q
end
theorem DA(t:Addr)(xs:Array Value):
  Meets (Builtin.«enumerate.__new__» ⟨[.type "enumerate",.ref t],[]⟩) (fun _ R s=>s.heap.IsTuple t xs/\
   R (.ok (.ret (.ref (s.heap.push { cls:=.type "tuple_iterator",data:=.fields #[.ref t,.int 0 0] }).objs.size)))
    { s with heap:=(s.heap.push { cls:=.type "tuple_iterator",data:=.fields #[.ref t,.int 0 0] }).push { cls:=.type "enumerate",data:=.fields #[.none,.bool false,.ref s.heap.objs.size,rawInt 0,.none,.none] } }):=
 .of_wp fun prog w A R s h=>by
  obtain⟨hp,g,d,tk,os⟩:=s;obtain⟨hT,h⟩:=h;have hs:=sub_enumerate
  wp_walk
  refine wpAny_stack_any fun st=>wpAny_pure ?_;split
  .rename_i c _ _ _ _ _;cases (c==Value.type "enumerate") <;> (wp_walk using qZ hT;exact⟨_,rfl,h⟩)
  .wp_walk using qZ hT
   exact⟨_,rfl,h⟩
theorem Ar(ht:s.heap.IsTuple t xs)(h:∀h',IsEnum h' (s.heap.objs.size+1) s.heap.objs.size 0 .none->h'.IsTupleIter s.heap.objs.size t 0->(∀b o,s.heap.get? b=some o->h'.get? b=some o)->Q (.ref (s.heap.objs.size+1)) { s with heap:=h' }):
  wpAny (model prog w) A (call (.type "enumerate") [.ref t]) Q E s:=by
 refine callType_new F.called_enumerate (by decide) (F.typeCall_enumerate_1 _) (F.newCall_enumerate_1 _) (fun obj=>F.args_object_init_2 obj _) F.entry_enumerate_new (DA t xs) ⟨ht,?_⟩;have hz:(s.heap.push { cls:=.type "tuple_iterator",data:=.fields #[.ref t,.int 0 0] }).objs.size=s.heap.objs.size+1:=im ..;have he:IsEnum ((s.heap.push { cls:=.type "tuple_iterator",data:=.fields #[.ref t,.int 0 0] }).push
   { cls:=.type "enumerate",data:=.fields #[.none,.bool false,.ref s.heap.objs.size,rawInt 0,.none,.none] }) (s.heap.objs.size+1) s.heap.objs.size 0 .none:=by
  have q:=cB (s.heap.push { cls:=.type "tuple_iterator",data:=.fields #[.ref t,.int 0 0] }) (o:={ cls:=.type "enumerate",data:=.fields #[.none,.bool false,.ref s.heap.objs.size,rawInt 0,.none,.none] }) rfl;rw[hz] at q;exact q
 show _/\_;rw[hz];exact⟨⟨_,he,rfl⟩,h _ he ⟨_,bL _ (cB _ rfl),rfl,rfl⟩ fun b o x=>bL _ (bL _ x)⟩
def DB(K:PySem.W.Frag)(a:Addr):It:=
 ⟨fun i H=>∃xs x,bU K H a xs/\xs[i]?=some x,fun i H x H'=>∃p v,x=.ref p/\H p=none/\H'=upd H p (.tup [.int i,v])/\∀xs,bU K H a xs->xs[i]?=some v,fun i H=>∃xs,bU K H a xs/\xs.length<=i⟩
theorem As{P:Program}{w:World}{K:PySem.W.Frag}{es:List Expr}{x1:Nat}{pos:Pos}(a e it:Addr)(pP:e≠it)(hae:a≠e)(hai:a≠it):
  xa P w K (.Tuple es x1 pos) (DB K a) [e,it] e (fun i h=>(∃gU,IsEnum h e it (i:Int) gU)/\h.IsTupleIter it a i) where
 mem:=by simp
 obj:=fun i h st b hb=>by
  obtain⟨⟨gU,he⟩,⟨o,q,c,d⟩⟩:=st;rcases bn.mp hb with rfl|hb
  .exact⟨_,he,fun v z=>by
    have z':Data.fields _=Data.cell v:=z;cases z'⟩
  .rw[cU.mp hb];exact⟨o,q,fun v z=>by rw[d] at z;cases z⟩
 keep:=fun i h h' st k=>by
  obtain⟨⟨gU,he⟩,hi⟩:=st;exact⟨⟨gU,k e (by simp) _ he⟩,hi.at fun o q=>k it (by simp) o q⟩
 item:=by
  intro X hP hw hK hc i af s σ H E I hf st hg;subst hP hw hK;obtain⟨xs,x,hq,hx⟩:=hg;obtain⟨its,rv,p,hz⟩:=I.tuple hq;obtain⟨u,hu,ru⟩:=rv.get hx;obtain⟨⟨gU,he⟩,hi⟩:=st;have d9:i<its.toArray.size:=by
   have:=(dN.mp hu).1;simpa using this
  have D:=xH (prog:=X.prog) (w:=X.w) (A:=X.A.in1) (I.ok.hd hc) it a hai its.toArray;refine wpAny_pyNext_enum_itemD D he ⟨hi,p⟩ d9 pP (by simp[pP,hae.symm]) fun u' h' tk qe ho nG ht ir k=>?_;have eu:u'=u:=by
   have h1:its.toArray[i]?=some u:=by simpa using hu
   rw[h1] at qe;exact(bN qe).symm
  subst eu;refine⟨_,rfl,wpAny_letOwnedTupleGo_enum ho fun h2 QU oX=>?_⟩;have Z1:s.heap.objs.size≠e:=fA (aT he);have Ah:h2.IsTupleIter it a (i+1):=nG.1.at fun o q=>(oX.2 it pP.symm).trans q;have fe:=hf e (by simp);have fi:=hf it (by simp);have I2:aS X af σ (upd H s.heap.objs.size (.tup [.int i,x])) { s with heap:=h2,toks:=tk+1 }:=by
   refine I.II (its:=[.int i tk,u']) fe fi (fun b o h1 h3 q=>(oX.2 b h1).trans (k b o h1 h3 q)) ⟨_,QU⟩ ?_ (aU _) (by show 2<=sizeLine;decide) (.cons ⟨_,rfl⟩ (.cons ru .nil)) ((oX.2 _ Z1).trans ht);obtain⟨o,q,_⟩:=Ah;exact⟨o,q⟩
  refine⟨.ref s.heap.objs.size,_,I2,rfl,⟨_,x,rfl,I.cz.fresh (aU _),rfl,fun ys hy=>by rw[I.gy hy hq];exact hx⟩,⟨⟨u',QU⟩,Ah⟩,fun b hb=>?_⟩;have f0:=(hf b hb).1;rw[ao]
  .exact f0
  .rcases bn.mp hb with rfl|hb
   .exact Z1.symm
   .rw[cU.mp hb];obtain⟨o,q,_⟩:=hi;exact aW (aT q)
 done:=by
  intro X hP hw hK hc i af s σ H E I hf st hg;subst hP hw hK;obtain⟨xs,hq,hx⟩:=hg;obtain⟨its,rv,p,hz⟩:=I.tuple hq;obtain⟨f0,f1,f2,f3,f4,f5⟩:=hf it (by simp);obtain⟨⟨gU,he⟩,hi⟩:=st;have hl:=rv.length;unfold pyNext;have hT:s.TypeIs (.ref e) "enumerate":=⟨_,he,rfl⟩
  refine aA (j_ (lF (name:=Str.ofString "__next__") hT F.slot_enumerate_next (jZ F.slot_enumerate_next hT F.entry_enumerate_next ?_ (F.args_enumerate_next_1 _))));change wpAny _ _ (field (.ref e) 2 >>= _) _ _ _;refine aA (fQ he rfl (x:=.ref it) rfl (aA (pA (I.ok.hd hc) hi p (by simp;lia) fun h' x eb vG=>?_)));obtain⟨o,ho,Er⟩:=vG;exact aA (zN (T:="StopIteration") (b:=true) ⟨o,ho,Er⟩ isSubtype_stop (wpAny_pure ⟨rfl,I.turned (t':=s.toks) (fun b o hb e=>eb b o hb e) f0 f1 f3 f4 f5⟩))
 self:=fun _ _ _ _ _ st h=>by
  obtain⟨⟨gU,he⟩,_⟩:=st;exact wpAny_pyIter_enum he h
section
variable {X:Cx}
def Mq(K:PySem.W.Frag)(ta:TA):TI:=fun σ H R=>ta σ H fun vs H1=>∃a xs,vs=[.ref a]/\bU K H1 a xs/\R (DB K a) H1
theorem rP(hg:Gl X "enumerate")(hm:X.mg "enumerate"=none)(ha:PA X [a] ta)(hs:starEach [a] X.env=[(false,eval a X.env)]:=by rfl):
  PI X (.Tuple es x1 Il) (.Call (.Name "enumerate" p) [a] [] pos) (Mq X.K ta):=by
 intro af s σ H R I h;refine Call_ (iW I hg hm (by decide +kernel:bootBuiltins "enumerate"=some (.type "enumerate")) (nM (dJ (ha pos af s σ H _ I h) fun us s1 ⟨vs,H1,I1,r1,q1⟩=>?_) hs rfl));obtain⟨l,xs,rfl,hl,q⟩:=q1;obtain⟨u1,rfl,QV⟩:=r1.one;obtain rfl:u1=Value.ref l:=QV;obtain⟨its,rv,pt,hz⟩:=I1.tuple hl;have d9:l<s1.heap.objs.size:=by obtain⟨o,e,_⟩:=pt;exact aT e
 refine Ar (show s1.heap.IsTuple l its.toArray from pt) fun h' he hi k=>?_;have pP:s1.heap.objs.size+1≠s1.heap.objs.size:=Nat.succ_ne_self _;refine wpAny_pyIter_enum he ?_;have I2:aS X af σ H1 { s1 with heap:=h' }:=I1.kept (t':=s1.toks) k;refine⟨s1.heap.objs.size+1,[s1.heap.objs.size+1,s1.heap.objs.size],_,_,H1,rfl,I2,As l _ _ pP (aW (ff d9)) (aW d9),⟨⟨_,he⟩,hi⟩,fun b hb=>?_,q⟩;have tG:s1.heap.objs.size<=b:=by
  rcases bn.mp hb with rfl|hb
  .exact vA _
  .rw[cU.mp hb];exact aU _
 exact I1.w_ tG (I1.cz.fresh tG)
theorem uv{K:PySem.W.Frag}{a:Addr}{xs:List V}{g:TG}{tb:TS}{D:wZ}{σ:St}{H:Hp}(Pv:Nat->St->Hp->Prop)(h0:Pv 0 σ H)(hl:∀i σ H,i<=xs.length->Pv i σ H->bU K H a xs)(hs:∀i x p σ H,xs[i]?=some x->Pv i σ H->H p=none->g (.ref p) σ (upd H p (.tup [.int i,x])) fun σ2 H2=>tb { D with nx:=Pv (i+1),ct:=Pv (i+1),bk:=D.nx } σ2 H2)(hd:∀σ H,Pv xs.length σ H->D.nx σ H):
  ∃W:Nat->Nat->St->Hp->Prop,(∃m,W 0 m σ H)/\∀i m σ H,W i m σ H->
   ((DB K a).stop i H/\D.nx σ H)\/((DB K a).go i H/\∃N:St->Hp->Prop,(∀σ' H',N σ' H'->∃m',m'<m/\W (i+1) m' σ' H')/\∀x H',(DB K a).LV i H x H'->g x σ H' fun σ2 H2=>tb { D with nx:=N,ct:=N,bk:=D.nx } σ2 H2):=by
 refine⟨fun i m σ H=>m=xs.length-i/\i<=xs.length/\Pv i σ H,⟨xs.length,by simp,cx _,h0⟩,?_⟩;rintro i m σ H ⟨rfl,hi,p⟩;have q:=hl i σ H hi p;by_cases d9:i<xs.length
 .refine .inr ⟨⟨xs,xs[i],q,by simp[d9]⟩,Pv (i+1),fun σ' H' p'=>⟨xs.length-(i+1),by lia,rfl,d9,p'⟩,fun x H' y=>?_⟩;obtain⟨pp,v,rfl,hn,rfl,hv⟩:=y;exact hs i v pp σ _ (hv xs q) p hn
 .have e:i=xs.length:=by lia
  subst e;exact .inl ⟨⟨xs,q,aU _⟩,hd σ H p⟩
theorem At{K:PySem.W.Frag}{a D:Addr}{xs:List V}{g:TG}{tt:TT}{te:TE}{d7:Hp->Prop}{σB:St}{H0:Hp}(Pv:Nat->List V->St->Hp->Prop)(h0:Pv 0 [] σB H0)(hl:∀i ys σ H,i<=xs.length->Pv i ys σ H->bU K H a xs)(hs:∀i x p ys σ H (Kt:V->St->Hp->Prop) (Kf:St->Hp->Prop),xs[i]?=some x->Pv i ys σ H->H p=none->
   (∀v σ2 H4,H4 D=some (.lst ys)->ys.length<sizeLine->Pv (i+1) (ys++[v]) σ2 (upd H4 D (.lst (ys++[v])))->Kt v σ2 H4)->(∀σ2 H3,Pv (i+1) ys σ2 H3->Kf σ2 H3)->
   g (.ref p) σ (upd H p (.tup [.int i,x])) fun σ2 H2=>tt σ2 H2 fun b H3=>if b=true then te σ2 H3 fun v H4=>Kt v σ2 H4 else Kf σ2 H3)(hd:∀ys σ H,Pv xs.length ys σ H->d7 H):gu (DB K a) g tt te D d7 σB H0:=by
 refine⟨fun i m σ H=>m=xs.length-i/\i<=xs.length/\∃ys,Pv i ys σ H,⟨xs.length,by simp,cx _,[],h0⟩,?_⟩;rintro i m σ H ⟨rfl,hi,ys,p⟩;have q:=hl i ys σ H hi p;by_cases d9:i<xs.length
 .refine .inr ⟨⟨xs,xs[i],q,by simp[d9]⟩,?_⟩;rintro x H' ⟨pp,v,rfl,hn,rfl,hv⟩;exact hs i v pp ys σ _ (fun v σ2 H4=>∃ys,H4 D=some (.lst ys)/\ys.length<sizeLine/\∃m',m'<xs.length-i/\m'=xs.length-(i+1)/\i+1<=xs.length/\∃tH,Pv (i+1) tH σ2 (upd H4 D (.lst (ys++[v]))))
   (fun σ2 H3=>∃m',m'<xs.length-i/\m'=xs.length-(i+1)/\i+1<=xs.length/\∃tH,Pv (i+1) tH σ2 H3) (hv xs q) p hn
   (fun v σ2 H4 z1 z2 z3=>⟨ys,z1,z2,_,by lia,rfl,d9,_,z3⟩) (fun σ2 H3 z=>⟨_,by lia,rfl,d9,_,z⟩)
 .have e:i=xs.length:=by lia
  subst e;exact .inl ⟨⟨xs,q,aU _⟩,hd ys σ H p⟩
end
section
variable {X:Cx} {tg:Expr}
end
theorem v5:typeLookup (.type "list") "keys"=pure none:=by rw[vq,u7];kernel_rfl
theorem qh:typeLookup (.type "list") "__getattr__"=pure none:=by rw[vq,u7];kernel_rfl
theorem rQ(l:Addr)(u:Tok)(items:Array Value)(n:Nat):
  Meets (Builtin.«object.__getattribute__» ⟨[.ref l,.str "keys" u],[]⟩) (fun A R s=>s.heap.get? l=some { cls:=.type "list",data:=.seq items n }/\raisesAttr (.ref l) "keys" A R s):=
 Meets.of_wp fun prog w A R s hs=>by
  obtain⟨hp,g,d,tk,os⟩:=s;obtain⟨hl,hs⟩:=hs;have hT:(⟨hp,g,d,tk,os⟩:Shared).TypeIs (.ref l) "list":=⟨_,hl,rfl⟩
  have f1:=v5;unfold Builtin.«object.__getattribute__»;repeat (any_goals (first|assumption|wp_step))
  exact wpAny_raiseAttrError hs.1 hs.2 (attrMsg_fits (by decide +kernel) (by decide +kernel))
theorem Mr(hA:A.handled=none)(hl:s.heap.get? l=some { cls:=.type "list",data:=.seq items n })(h:∀h' tk,(∀b o,s.heap.get? b=some o->h'.get? b=some o)->Q none { s with heap:=h',toks:=tk }):wpAny (model prog w) A (getAttr? (.ref l) "keys") Q E s:=by
 obtain⟨hp,g,d,tk,os⟩:=s;have hT:∀tk,(⟨hp,g,d,tk,os⟩:Shared).TypeIs (.ref l) "list":=fun _=>⟨_,hl,rfl⟩
 have f1:=sub_AttributeError;have f3:=F.slot_list_getattribute.lookup;have f4:=F.slot_list_getattribute.bind (.ref l);have f5:=qh;unfold getAttr? getAttrBy?;refine aA (wpAny_mkText ?_);refine aA (j_ ?_);unfold getAttrBy;repeat (any_goals (first|assumption|((with_reducible show wpAny _ _ (call (Value.builtin "list.__getattribute__") _ _) _ _ _);refine lW F.slot_list_getattribute (hT _) F.entry_list_ga (F.args_list_getattribute_2 _ _) (rQ l _ items n) ⟨hl,hA,fun h' tk' e hx=>?_⟩)|wp_step))
 obtain⟨t',u',he⟩:=hx.there;show wpAny _ _ (getattributeRaised _ _ _ _ _ _ _) _ _ _;unfold getattributeRaised;repeat (any_goals (first|assumption|wp_step))
 exact h _ _ hx.keeps
theorem pV:entryFor table "dict.update.loop"=some Builtin.«dict.update.loop»:=entryFor_of_tree (by kernel_rfl)
theorem iO:plainId "dict.update.loop"=true:=by decide +kernel
section
variable {prog:Program} {w:World} {A:Around} {E:Value->Shared->Prop} {s:Shared} {R:Result->Shared->Prop} {l d Ia:Addr}
end
section
variable {prog:Program} {w:World} {A:Around} {E:Value->Shared->Prop} {s:Shared} {l:Addr}
end
section
variable {X:Cx}
theorem DC(hc:X.calm=true):fj X (.builtin "all") (fun xs H Q=>∃ (p:Addr) (bs:List Bool),xs=[.ref p]/\a9 X.K H p (bs.map V.bl)/\Q (.bl (bs.all id)) H):=by
 intro af s σ H xs us Q I r h;obtain⟨p,bs,rfl,hp,q⟩:=h;obtain⟨u1,rfl,r1⟩:=r.one;obtain rfl:u1=Value.ref p:=r1;obtain⟨its,rv,pl,hz⟩:=I.list hp;have Ao:its=bs.map Value.bool:=by
  have go:∀ (bs:List Bool) (its:List Value),a8 (bs.map V.bl) its->its=bs.map Value.bool:=by
   intro bs;induction bs with
   |nil=>intro its r;cases r;rfl
   |cons b bs ih=>
    intro its r;cases r with
    |cons r rr=>
     obtain rfl:=(show _=Value.bool b from r)
     rw[ih _ rr];rfl
  exact go bs its rv
 subst Ao;obtain⟨ob,VR,_⟩:=id pl.isList;have d9:p<s.heap.objs.size:=aT VR;refine call_all_walk (q8 pl.isList ⟨s.heap.objs.size,_,_,_,_,_,fun i=>bs.getD i true,rfl,Walks.list (show X.A.in1.handled=none from I.ok.hd hc) _ p (aW d9) _,⟨⟨_,cB _ rfl,rfl,rfl⟩,pl.isList.push _⟩,fun i v s1 Q' E' hv hq=>?_,fun h' tk k=>?_⟩)
 .have C_:(bs.map Value.bool)[i]?=some v:=by simpa using hv
  rw[bZ] at C_;cases eb:bs[i]? with
  |none=>rw[eb] at C_;cases C_
  |some b=>
   rw[eb] at C_;obtain rfl:Value.bool b=v:=bN C_;have:bs.getD i true=b:=by rw[bY,eb];rfl
   have Io:Q' b s1:=by rw[<-this];exact hq
   exact wpAny_pure Io
 .have keep:∀b o,s.heap.get? b=some o->h'.get? b=some o:=fun b o e=>k b o (by simpa using aW (aT e)) (bL _ e);refine⟨.bl (bs.all id),H,I.kept (t':=tk) keep,?_,q⟩;show Value.bool _=Value.bool _;congr 1;have go:∀ (bs:List Bool),((List.range bs.length).all fun i=>bs.getD i true)=bs.all id:=by
   intro bs;induction bs with
   |nil=>rfl
   |cons b bs ih=>
    rw[eF,nW,j9,List.all_map,j9,<-ih];rfl
  rw[<-go bs];simp
end
structure dH(P:Program)(w:World)(K:PySem.W.Frag)(mg:Str->Option Value)(base:Heap)(CX:yF)(k:Nat)(x:Str)(ps:List Str)(sp:Sp):Prop where
 ex:∃f fd,mg x=some (.ref f)/\PySem.W.keepIn K (.ref f)=true/\jI K fd ps []/\bJ P w K mg base CX k f fd ps sp
theorem aJ(C:dH X.prog X.w X.K X.mg X.base CX k x ps sp)(hr:cy k X.A)(hx:lZ CX X E)(ha:PA X (e::es) t)(hg:Gl X x:=by rfl)(Dc:(x==("__debug__":Str))=false:=by decide)(he:starEach (e::es) X.env=(false,eval e X.env)::starEach es X.env:=by rfl)(Em:(backTo pos (starEach es X.env)).any (·.1)=false:=by rfl):
  PE X (.Call (.Name x p) (e::es) [] pos) (pO sp [] E t):=by
 obtain⟨f,fd,a,b,c,d⟩:=C.ex;exact Im d hr hg a b c .nil hx ha Dc he Em
theorem ai(h:H D=none):aL H (upd H D o):=fun b u e=>by rw[ao (am e h)];exact e
def aN(p:Addr)(H H':Hp):Prop:=∀b o,H b=some o->b≠p->H' b=some o
theorem aN.refl:aN p H H:=fun _ _ h _=>h
theorem aN.trans(a:aN p H H1)(b:aN p H1 H2):aN p H H2:=fun c o h n=>b c o (a c o h n) n
theorem aN.upd:aN p H (upd H p o):=fun b u h n=>by rw[ao n];exact h
theorem aN.of(s:aL H H'):aN p H H':=fun b o h _=>s b o h
theorem aN.free(s:aN p H H')(hp:H' p≠none)(h:H' q=none):H q=none:=by
 cases z:H q with
 |none=>rfl
 |some o=>
  by_cases e:q=p
  .subst e;exact absurd h hp
  .rw[s q o z e] at h;cases h
theorem eG(h:j<n):E6 n (j:Int)=some j:=by
 unfold E6;rw[ak (by lia),ak (by lia)];simp
theorem DD(h:as.length=n):(as++[t]).getD j 0=if j=n then t else as.getD j 0:=by
 rw[bY,bY];by_cases hj:j=n
 .subst hj;subst h;rw[ak rfl,pL (aU _),rf];rfl
 .rw[av hj];by_cases d9:j<as.length
  .rw[i6 d9]
  .rw[pL (by lia),eZ (by simp;lia),eZ (by lia)]
def Holds(H:Hp)(as:List Addr)(n:Nat)(o:Nat->HO):Prop:=as.length=n/\∀j,j<n->H (as.getD j 0)=some (o j)
theorem Holds.nil:Holds H [] 0 o:=⟨rfl,fun j hj=>absurd hj (by lia)⟩
theorem Holds.snoc(h:Holds H as n o)(ht:H t=some (o n)):Holds H (as++[t]) (n+1) o:=by
 refine⟨by rw[df,h.1];rfl,fun j hj=>?_⟩;rw[DD h.1];by_cases e:j=n
 .rw[ak e,e];exact ht
 .rw[av e];exact h.2 j (by lia)
theorem Holds.mono(h:Holds H as n o)(e:∀j,j<n->H (as.getD j 0)=some (o j)->H' (as.getD j 0)=some (o j)):Holds H' as n o:=⟨h.1,fun j hj=>e j hj (h.2 j hj)⟩
end L2
namespace PyProof.Rows
open PySem
def iP:Bool->Keyed->Array Keyed->Nat->Nat->Nat->StateT SortSt Sem (Option Nat):=sortPriv% PySem.Builtin.gallop
def rR:Array Keyed->Array Keyed->StateT SortSt Sem (Array Keyed):=sortPriv% PySem.Builtin.mergeLo
def rS:Array Keyed->Array Keyed->StateT SortSt Sem (Array Keyed):=sortPriv% PySem.Builtin.mergeHi
def fq:Nat->StateT SortSt Sem Unit:=sortPriv% PySem.Builtin.setMinGallop
def Eu(prog:Program)(w:World)(A:Around)(s:Shared)(κ:SortKind)(a₀:Array Keyed):Prop:=
 ∀x y,x∈a₀.toList->y∈a₀.toList->∀ (Q:Bool->Shared->Prop) (E:Value->Shared->Prop),(∀b,Q b s)->wpAny (model prog w) A (keyLt' κ x.1 y.1) Q E s
structure SQ(κ:SortKind)(a₀:Array Keyed)(pd:Array (Nat×Nat×Nat))(st:SortSt):Prop where
 perm:(arrOf st).Perm a₀
 kind:kindOf st=κ
 failed:failedOf st=none
 pend:pendingOf st=pd
section
variable {prog:Program} {w:World} {A:Around} {E:Value->Shared->Prop} {s:Shared} {κ:SortKind} {a₀:Array Keyed} {pd:Array (Nat×Nat×Nat)}
theorem SQ.size{st:SortSt}(h:SQ κ a₀ pd st):(arrOf st).size=a₀.size:=h.perm.size_eq
theorem SQ.setArr{st:SortSt}(h:SQ κ a₀ pd st){xs:Array Keyed}(hp:xs.Perm (arrOf st)):SQ κ a₀ pd (setArr st xs):=⟨hp.trans h.perm,h.kind,h.failed,h.pend⟩
theorem SQ.at{st:SortSt}(h:SQ κ a₀ pd st){i:Nat}(hi:i<a₀.size):∃p,(arrOf st)[i]?=some p/\p∈a₀.toList:=by
 have B3:i<(arrOf st).size:=by rw[h.size];exact hi
 exact⟨(arrOf st)[i],bo _ i B3,(lr.mp h.perm).mem_iff.mp (by simp)⟩
theorem rT{st:SortSt}{x y:Keyed}{Q:Option Bool->SortSt->Prop}(hC:Eu prog w A s κ a₀)(hk:kindOf st=κ)(hx:x∈a₀.toList)(hy:y∈a₀.toList)(h:∀b,Q (some b) st):wpS (model prog w) A E s (lt' x y) Q st:=by
 rw[lt'_eq];refine aF (gY ?_);rw[hk];refine aF (kh (j_ (hC x y hx hy _ _ fun b=>⟨rfl,?_⟩)));exact aE (h b)
theorem aH{st:SortSt}{arr:Array Keyed}{i:Nat}{p:Keyed}{Q:Keyed->SortSt->Prop}(hi:arr[i]?=some p)(h:Q p st):wpS (model prog w) A E s (elem' arr i) Q st:=by
 rw[elem'_eq,hi];exact aE h
theorem f8{st:SortSt}{i j:Nat}{Q:Option Bool->SortSt->Prop}(hC:Eu prog w A s κ a₀)(hB:SQ κ a₀ pd st)(hi:i<a₀.size)(hj:j<a₀.size)(h:∀b,Q (some b) st):wpS (model prog w) A E s (ltAt' i j) Q st:=by
 obtain⟨p,e1,m1⟩:=hB.at hi;obtain⟨q,e2,m2⟩:=hB.at hj;rw[ltAt'_eq];refine aF (gY ?_);exact aF (aH e1 (aF (aH e2 (rT hC hB.kind m1 m2 h))))
theorem ie{st:SortSt}{i j:Nat}{Q:Unit->SortSt->Prop}(hB:SQ κ a₀ pd st)(h:∀aZ,SQ κ a₀ pd aZ->Q () aZ):wpS (model prog w) A E s (reverseSlice' i j) Q st:=by
 rw[reverseSlice'_eq];exact fv (h _ (hB.setArr (mirror_perm _ _ _ _)))
theorem Fz{st:SortSt}{i j:Nat}{Q:Unit->SortSt->Prop}(hB:SQ κ a₀ pd st)(h:∀aZ,SQ κ a₀ pd aZ->Q () aZ):wpS (model prog w) A E s (moveDown' i j) Q st:=by
 rw[moveDown'_eq];exact fv (h _ (hB.setArr (bubble_perm _ _ _)))
theorem IJ{st:SortSt}{lo n ok:Nat}{Q:Bool->SortSt->Prop}(hC:Eu prog w A s κ a₀)(hn:lo+n<=a₀.size)(hB:SQ κ a₀ pd st)(h:∀aZ,SQ κ a₀ pd aZ->Q true aZ):wpS (model prog w) A E s (binarySort' lo n ok) Q st:=by
 rw[binarySort'_eq];refine aF (dw (eJ (I:=fun _ c aZ=>c=(none,())/\SQ κ a₀ pd aZ) (Q:=fun c aZ=>c=(none,())/\SQ κ a₀ pd aZ) ?_ (fun c aZ hh=>hh) ⟨rfl,hB⟩) ?_)
 .rintro k c aZ hk1 xI ⟨rfl,V9⟩;dsimp only;refine aF (dw (eJ (I:=fun _ c Ms=>(∃l r,c=(none,l,r)/\r<=k)/\SQ κ a₀ pd Ms) (Q:=fun c Ms=>(∃l r,c=(none,l,r)/\r<=k)/\SQ κ a₀ pd Ms) ?_ (fun c aZ hh=>hh) ⟨⟨_,_,rfl,aU _⟩,V9⟩) ?_)
  .rintro x c g7 _ _ ⟨⟨l,r,rfl,hr⟩,cW⟩;dsimp only;by_cases B4:l>=r
   .rw[ak B4];exact aE ⟨⟨_,_,rfl,hr⟩,cW⟩
   .rw[av B4];refine aF (f8 hC cW (by lia) (by lia) fun b=>?_);cases b
    .exact aE ⟨⟨_,_,rfl,hr⟩,cW⟩
    .exact aE ⟨⟨_,_,rfl,by lia⟩,cW⟩
  .rintro c g7 ⟨⟨l,r,rfl,hr⟩,cW⟩;dsimp only;exact aF (Fz cW fun sO qi=>aE ⟨rfl,qi⟩)
 .rintro c aZ ⟨rfl,V9⟩;exact aE (h aZ V9)
end
theorem Au(left:Bool)(key:Keyed)(arr:Array Keyed)(base n l8:Nat):iP left key arr base n l8=(do
 let v6 (i:Nat):StateT SortSt Sem (Option Bool):=do
  let x <- elem' arr (base+i)
  if left then lt' x key else return (<-lt' key x).map (!·)
 let mut lastofs:=0
 let mut ofs:=1
 let mut lo:=0
 let mut hi:=0
 let some right <- v6 l8|return none
 if right then
  let rV:=n-l8
  for _ in [0:n] do
   if ofs>=rV then break
   let some more <- v6 (l8+ofs)|return none
   if !more then break
   lastofs:=ofs
   ofs:=2*ofs+1
  lo:=l8+lastofs+1
  hi:=l8+min ofs rV
 else
  let rV:=l8+1
  for _ in [0:n] do
   if ofs>=rV then break
   let some FB <- v6 (l8-ofs)|return none
   if FB then break
   lastofs:=ofs
   ofs:=2*ofs+1
  lo:=l8+1-min ofs rV
  hi:=l8-lastofs
 for _ in [0:n] do
  if lo>=hi then break
  let m:=lo+(hi-lo) / 2
  let some more <- v6 m|return none
  if more then lo:=m+1 else hi:=m
 return some hi):=rfl
section
variable {prog:Program} {w:World} {A:Around} {E:Value->Shared->Prop} {s:Shared} {κ:SortKind} {a₀:Array Keyed} {pd:Array (Nat×Nat×Nat)}
theorem ix{st:SortSt}{left:Bool}{key:Keyed}{arr:Array Keyed}{j:Nat}{Q:Option Bool->SortSt->Prop}(hC:Eu prog w A s κ a₀)(hk:kindOf st=κ)(sZ:key∈a₀.toList)(uw:∀x∈arr.toList,x∈a₀.toList)(hj:j<arr.size)(h:∀b,Q (some b) st):
  wpS (model prog w) A E s (do
  let x <- elem' arr j
  if left then lt' x key else return (<-lt' key x).map (!·)) Q st:=by
 have hm:arr[j]∈a₀.toList:=uw _ (by simp);refine aF (aH (bo arr j hj) ?_);cases left
 .rw[av (by decide)];exact aF (rT hC hk sZ hm fun b=>aE (h (!b)))
 .rw[ak rfl];exact rT hC hk hm sZ h
theorem b_{st:SortSt}{left:Bool}{key:Keyed}{arr:Array Keyed}{base n l8:Nat}{Q:Option Nat->SortSt->Prop}(hC:Eu prog w A s κ a₀)(hk:kindOf st=κ)(sZ:key∈a₀.toList)(uw:∀x∈arr.toList,x∈a₀.toList)(hn:base+n<=arr.size)(hh:l8<n)(h:∀k,k<=n->Q (some k) st):wpS (model prog w) A E s (iP left key arr base n l8) Q st:=by
 rw[Au];refine aF (ix hC hk sZ uw (by lia) fun right=>?_);cases right
 .dsimp only;rw[av (by decide)];refine aF (dw (eJ (I:=fun _ c aZ=>(∃l o,c=(none,l,o))/\st=aZ) (Q:=fun c aZ=>(∃l o,c=(none,l,o))/\st=aZ) ?_ (fun c aZ hh=>hh) ⟨⟨_,_,rfl⟩,rfl⟩) ?_)
  .rintro x c aZ _ _ ⟨⟨l,o,rfl⟩,rfl⟩;dsimp only;by_cases B4:o>=l8+1
   .rw[ak B4];exact aE ⟨⟨_,_,rfl⟩,rfl⟩
   .rw[av B4];refine aF (ix hC hk sZ uw (by lia) fun FB=>?_);cases FB
    .exact aE ⟨⟨_,_,rfl⟩,rfl⟩
    .exact aE ⟨⟨_,_,rfl⟩,rfl⟩
  .rintro c aZ ⟨⟨l,o,rfl⟩,rfl⟩;dsimp only;refine aF (dw (eJ (I:=fun _ c aZ=>(∃l u,c=(none,l,u)/\u<=n)/\st=aZ) (Q:=fun c aZ=>(∃l u,c=(none,l,u)/\u<=n)/\st=aZ) ?_ (fun c aZ hh=>hh) ⟨⟨_,_,rfl,by lia⟩,rfl⟩) ?_)
   .rintro x c aZ _ _ ⟨⟨l,u,rfl,hu⟩,rfl⟩;dsimp only;by_cases B4:l>=u
    .rw[ak B4];exact aE ⟨⟨_,_,rfl,hu⟩,rfl⟩
    .rw[av B4];refine aF (ix hC hk sZ uw (by lia) fun more=>?_);cases more
     .exact aE ⟨⟨_,_,rfl,by lia⟩,rfl⟩
     .exact aE ⟨⟨_,_,rfl,hu⟩,rfl⟩
   .rintro c aZ ⟨⟨l,u,rfl,hu⟩,rfl⟩;exact aE (h u hu)
 .dsimp only;rw[ak rfl];refine aF (dw (eJ (I:=fun _ c aZ=>(∃l o,c=(none,l,o))/\st=aZ) (Q:=fun c aZ=>(∃l o,c=(none,l,o))/\st=aZ) ?_ (fun c aZ hh=>hh) ⟨⟨_,_,rfl⟩,rfl⟩) ?_)
  .rintro x c aZ _ _ ⟨⟨l,o,rfl⟩,rfl⟩;dsimp only;by_cases B4:o>=n-l8
   .rw[ak B4];exact aE ⟨⟨_,_,rfl⟩,rfl⟩
   .rw[av B4];refine aF (ix hC hk sZ uw (by lia) fun more=>?_);cases more
    .exact aE ⟨⟨_,_,rfl⟩,rfl⟩
    .exact aE ⟨⟨_,_,rfl⟩,rfl⟩
  .rintro c aZ ⟨⟨l,o,rfl⟩,rfl⟩;dsimp only;refine aF (dw (eJ (I:=fun _ c aZ=>(∃l u,c=(none,l,u)/\u<=n)/\st=aZ) (Q:=fun c aZ=>(∃l u,c=(none,l,u)/\u<=n)/\st=aZ) ?_ (fun c aZ hh=>hh) ⟨⟨_,_,rfl,by lia⟩,rfl⟩) ?_)
   .rintro x c aZ _ _ ⟨⟨l,u,rfl,hu⟩,rfl⟩;dsimp only;by_cases B4:l>=u
    .rw[ak B4];exact aE ⟨⟨_,_,rfl,hu⟩,rfl⟩
    .rw[av B4];refine aF (ix hC hk sZ uw (by lia) fun more=>?_);cases more
     .exact aE ⟨⟨_,_,rfl,by lia⟩,rfl⟩
     .exact aE ⟨⟨_,_,rfl,hu⟩,rfl⟩
   .rintro c aZ ⟨⟨l,u,rfl,hu⟩,rfl⟩;exact aE (h u hu)
end
theorem dv(g:Nat):fq g=modify fun s=>SortSt.mk' (kindOf s) (arrOf s) (pendingOf s) g (failedOf s):=rfl
theorem xJ(a b:Array Keyed):rR a b=(do
 rule "list.sort.merge-lo"
 let rW:=a.size+b.size
 let done (out:Array Keyed) (ia ib:Nat):=out++a.extract ia a.size++b.extract ib b.size
 let qD (out:Array Keyed) (ia ib:Nat):=out++b.extract ib b.size++a.extract ia a.size
 let mut out:Array Keyed:=#[<-elem' b 0]
 let mut ia:=0
 let mut ib:=1
 if ib==b.size then return done out ia ib
 if ia+1==a.size then return qD out ia ib
 let mut minGallop:=gallopOf (<-get)
 for _ in [0:rW] do
  let mut acount:=0
  let mut bcount:=0
  for _ in [0:rW] do
   let some QW <- lt' (<-elem' b ib) (<-elem' a ia)|return done out ia ib
   if QW then
    out:=out.push (<-elem' b ib);ib:=ib+1;bcount:=bcount+1;acount:=0
    if ib==b.size then return done out ia ib
    if bcount>=minGallop then break
   else
    out:=out.push (<-elem' a ia);ia:=ia+1;acount:=acount+1;bcount:=0
    if ia+1==a.size then return qD out ia ib
    if acount>=minGallop then break
  rule "list.sort.gallop"
  minGallop:=minGallop+1
  for _ in [0:rW] do
   if minGallop > 1 then minGallop:=minGallop-1
   fq minGallop
   let some k <- iP false (<-elem' b ib) a ia (a.size-ia) 0|return done out ia ib
   acount:=k
   if k > 0 then
    out:=out++a.extract ia (ia+k);ia:=ia+k
    if ia+1==a.size then return qD out ia ib
    if ia==a.size then return done out ia ib
   out:=out.push (<-elem' b ib);ib:=ib+1
   if ib==b.size then return done out ia ib
   let some k <- iP true (<-elem' a ia) b ib (b.size-ib) 0|return done out ia ib
   bcount:=k
   if k > 0 then
    out:=out++b.extract ib (ib+k);ib:=ib+k
    if ib==b.size then return done out ia ib
   out:=out.push (<-elem' a ia);ia:=ia+1
   if ia+1==a.size then return qD out ia ib
   if acount<7&&bcount<7 then break
  minGallop:=minGallop+1
  fq minGallop
 unsupported "internal:list.sort.merge-bound"):=rfl
structure SM(κ:SortKind)(ar:Array Keyed)(pd:Array (Nat×Nat×Nat))(st:SortSt):Prop where
 arr:arrOf st=ar
 kind:kindOf st=κ
 failed:failedOf st=none
 pend:pendingOf st=pd
def PI(a b out:Array Keyed)(ia ib:Nat):Prop:=out.toList.Perm (a.toList.take ia++b.toList.take ib)
theorem xK{l:List Keyed}{i:Nat}(h:i<l.length):l.take (i+1)=l.take i++[l[i]]:=by rw[gj,cg h];rfl
theorem PI.fJ{a b out:Array Keyed}{ia ib:Nat}(h:PI a b out ia ib)(hi:ia<a.size):PI a b (out.push a[ia]) (ia+1) ib:=by
 unfold PI at h |-;rw[lP,xK (by simpa using hi),dh];refine(h.append_right _).trans ?_;rw[dh];refine jR _ ?_;have:a.toList[ia]'(by simpa using hi)=a[ia]:=by simp
 rw[this];exact i7
theorem PI.jJ{a b out:Array Keyed}{ia ib:Nat}(h:PI a b out ia ib)(hi:ib<b.size):PI a b (out.push b[ib]) ia (ib+1):=by
 unfold PI at h |-;rw[lP,xK (by simpa using hi),<-dh];have:b.toList[ib]'(by simpa using hi)=b[ib]:=by simp
 rw[this];exact h.append_right _
theorem eR{a:Array Keyed}{i j:Nat}:(a.extract i j).toList=(a.toList.drop i).take (j-i):=by
 rw[ze,List.extract_eq_take_drop]
theorem PI.FE{a b out:Array Keyed}{ia ib:Nat}(h:PI a b out ia ib)(k:Nat):PI a b (out++a.extract ia (ia+k)) (ia+k) ib:=by
 unfold PI at h |-;rw[fz,eR,Nat.add_sub_cancel_left,List.take_add,dh];refine(h.append_right _).trans ?_;rw[dh];exact jR _ i7
theorem PI.v7{a b out:Array Keyed}{ia ib:Nat}(h:PI a b out ia ib)(k:Nat):PI a b (out++b.extract ib (ib+k)) ia (ib+k):=by
 unfold PI at h |-;rw[fz,eR,Nat.add_sub_cancel_left,List.take_add,<-dh];exact h.append_right _
theorem PI.done{a b out:Array Keyed}{ia ib:Nat}(h:PI a b out ia ib):(out++a.extract ia a.size++b.extract ib b.size).Perm (a++b):=by
 rw[lr];unfold PI at h;rw[fz,fz,fz,eR,eR];have e1:(a.toList.drop ia).take (a.size-ia)=a.toList.drop ia:=nV (by simp);have e2:(b.toList.drop ib).take (b.size-ib)=b.toList.drop ib:=nV (by simp);rw[e1,e2];refine((h.append_right _).append_right _).trans ?_;conv=>rhs;rw[<-lG ia a.toList,<-lG ib b.toList]
 rw[dh,dh,dh];refine jR _ ?_;rw[<-dh,<-dh];exact uR _ i7
theorem PI.last{a b out:Array Keyed}{ia ib:Nat}(h:PI a b out ia ib):(out++b.extract ib b.size++a.extract ia a.size).Perm (a++b):=by
 refine Array.Perm.trans ?_ h.done;rw[lr];rw[fz,fz,fz,fz,dh,dh];exact jR _ i7
section
variable {prog:Program} {w:World} {A:Around} {E:Value->Shared->Prop} {s:Shared} {κ:SortKind} {a₀:Array Keyed} {pd:Array (Nat×Nat×Nat)} {ar:Array Keyed}
theorem xL{st:SortSt}{a b:Array Keyed}{Q:Array Keyed->SortSt->Prop}(hC:Eu prog w A s κ a₀)(hB:SM κ ar pd st)(ha:∀x∈a.toList,x∈a₀.toList)(hb:∀x∈b.toList,x∈a₀.toList)(a1:1<=a.size)(b1:1<=b.size)(h:∀out aZ,out.Perm (a++b)->SM κ ar pd aZ->Q out aZ):wpS (model prog w) A E s (rR a b) Q st:=by
 rw[xJ];refine aF (kh (fU ⟨rfl,?_⟩));refine aF (aH (bo b 0 (by lia)) ?_);dsimp only;have p0:PI a b #[b[0]] 0 1:=by
  have:PI a b #[] 0 0:=by unfold PI;simp
  exact this.jJ (by lia)
 by_cases e1:(1==b.size)=true
 .rw[ak e1];exact aE (h _ _ p0.done hB)
 rw[av e1];have n1:¬ (1=b.size):=by simpa using e1
 by_cases e2:(0+1==a.size)=true
 .rw[ak e2];exact aE (h _ _ p0.last hB)
 rw[av e2];have n2:¬ (0+1=a.size):=by simpa using e2
 refine aF (gY ?_);refine aF (dw (eJ (I:=fun i c aZ=>SM κ ar pd aZ/\∃out ia ib mg,c=(none,out,ia,ib,mg)/\PI a b out ia ib/\ia+1<a.size/\ib<b.size/\i<=ia+ib) (Q:=fun c aZ=>SM κ ar pd aZ/\∃r c',c=(some r,c')/\r.Perm (a++b)) ?_ ?_ ⟨hB,_,_,_,_,rfl,p0,by lia,by lia,by lia⟩) ?_)
 .rintro i c tI _ hi ⟨IK,out,ia,ib,mg,rfl,p1,la,lb,li⟩;dsimp only;refine aF (dw (eJ (I:=fun x c aZ=>SM κ ar pd aZ/\∃out ia ib ac bc,c=(none,out,ia,ib,ac,bc)/\PI a b out ia ib/\ia+1<a.size/\ib<b.size/\i+x<=ia+ib) (Q:=fun c aZ=>SM κ ar pd aZ/\((∃r c',c=(some r,c')/\r.Perm (a++b))\/∃out ia ib ac bc,c=(none,out,ia,ib,ac,bc)/\PI a b out ia ib/\ia+1<a.size/\ib<b.size/\i+1<=ia+ib)) ?_ ?_ ⟨IK,_,_,_,_,_,rfl,p1,la,lb,by lia⟩) ?_)
  .rintro x c g7 _ hx ⟨eS,out,ia,ib,ac,bc,rfl,p1,la,lb,li⟩;dsimp only;refine aF (aH (bo b ib (by lia)) ?_);refine aF (aH (bo a ia (by lia)) ?_);refine aF (rT hC eS.kind (hb _ (by simp)) (ha _ (by simp)) fun bw=>?_);cases bw
   .dsimp only;rw[av (by decide)];refine aF (aH (bo a ia (by lia)) ?_);have p2:=p1.fJ (show ia<a.size by lia);by_cases f1:(ia+1+1==a.size)=true
    .rw[ak f1];exact aE ⟨eS,.inl ⟨_,_,rfl,p2.last⟩⟩
    rw[av f1];have g1:¬ (ia+1+1=a.size):=by simpa using f1
    split
    .exact aE ⟨eS,.inr ⟨_,_,_,_,_,rfl,p2,by lia,by lia,by lia⟩⟩
    .exact aE ⟨eS,_,_,_,_,_,rfl,p2,by lia,by lia,by lia⟩
   .dsimp only;rw[ak rfl];refine aF (aH (bo b ib (by lia)) ?_);have p2:=p1.jJ (show ib<b.size by lia);by_cases f1:(ib+1==b.size)=true
    .rw[ak f1];exact aE ⟨eS,.inl ⟨_,_,rfl,p2.done⟩⟩
    rw[av f1];have g1:¬ (ib+1=b.size):=by simpa using f1
    split
    .exact aE ⟨eS,.inr ⟨_,_,_,_,_,rfl,p2,by lia,by lia,by lia⟩⟩
    .exact aE ⟨eS,_,_,_,_,_,rfl,p2,by lia,by lia,by lia⟩
  .rintro c g7 ⟨eS,out,ia,ib,ac,bc,rfl,p1,la,lb,li⟩;exact⟨eS,.inr ⟨_,_,_,_,_,rfl,p1,la,lb,by lia⟩⟩
  .rintro c g7 ⟨eS,⟨r,c',rfl,hp⟩|⟨out,ia,ib,ac,bc,rfl,p1,la,lb,li⟩⟩
   .exact aE ⟨eS,_,_,rfl,hp⟩
   .dsimp only;refine aF (kh (fU ⟨rfl,?_⟩));refine aF (dw (eJ (I:=fun x c aZ=>SM κ ar pd aZ/\∃out ia ib mg ac bc,c=(none,out,ia,ib,mg,ac,bc)/\PI a b out ia ib/\ia+1<a.size/\ib<b.size/\i+1<=ia+ib) (Q:=fun c aZ=>SM κ ar pd aZ/\((∃r c',c=(some r,c')/\r.Perm (a++b))\/∃out ia ib mg ac bc,c=(none,out,ia,ib,mg,ac,bc)/\PI a b out ia ib/\ia+1<a.size/\ib<b.size/\i+1<=ia+ib)) ?_ ?_ ⟨eS,_,_,_,_,_,_,rfl,p1,la,lb,li⟩) ?_)
    .rintro x c g7 _ hx ⟨eS,out,ia,ib,mg,ac,bc,rfl,p1,la,lb,li⟩;dsimp only;by_cases Fb:mg > 1
     .rw[ak Fb];rw[dv];refine aF (fv ?_);refine aF (aH (bo b ib (by lia)) ?_);have cW:SM κ ar pd (SortSt.mk' (kindOf g7) (arrOf g7) (pendingOf g7) (mg-1) (failedOf g7)):=⟨eS.arr,eS.kind,eS.failed,eS.pend⟩
      refine aF (b_ hC cW.kind (hb _ (by simp)) ha (by lia) (by lia) fun k hk=>?_);dsimp only;by_cases kp:k > 0
      .rw[ak kp];have p2:=p1.FE k;by_cases f4:(ia+k+1==a.size)=true
       .rw[ak f4];exact aE ⟨cW,.inl ⟨_,_,rfl,p2.last⟩⟩
       rw[av f4];have g4:¬ (ia+k+1=a.size):=by simpa using f4
       by_cases f5:(ia+k==a.size)=true
       .rw[ak f5];exact aE ⟨cW,.inl ⟨_,_,rfl,p2.done⟩⟩
       rw[av f5];have g5:¬ (ia+k=a.size):=by simpa using f5
       refine aF (aH (bo b (ib) (by lia)) ?_);have pb:=p2.jJ (show ib<b.size by lia);by_cases f1:((ib)+1==b.size)=true
       .rw[ak f1];exact aE ⟨cW,.inl ⟨_,_,rfl,pb.done⟩⟩
       rw[av f1];have g1:¬ ((ib)+1=b.size):=by simpa using f1
       refine aF (aH (bo a (ia+k) (by lia)) ?_);refine aF (b_ hC cW.kind (ha _ (by simp)) hb (by lia) (by lia) fun k2 xI=>?_);dsimp only;by_cases rX:k2 > 0
       .rw[ak rX];have pB:=pb.v7 k2;by_cases f2:((ib)+1+k2==b.size)=true
        .rw[ak f2];exact aE ⟨cW,.inl ⟨_,_,rfl,pB.done⟩⟩
        rw[av f2];have g2:¬ ((ib)+1+k2=b.size):=by simpa using f2
        refine aF (aH (bo a (ia+k) (by lia)) ?_);have pc:=pB.fJ (show ia+k<a.size by lia);by_cases f3:((ia+k)+1+1==a.size)=true
        .rw[ak f3];exact aE ⟨cW,.inl ⟨_,_,rfl,pc.last⟩⟩
        rw[av f3];have g3:¬ ((ia+k)+1+1=a.size):=by simpa using f3
        split
        .exact aE ⟨cW,.inr ⟨_,_,_,_,_,_,rfl,pc,by lia,by lia,by lia⟩⟩
        .exact aE ⟨cW,⟨_,_,_,_,_,_,rfl,pc,by lia,by lia,by lia⟩⟩
       .rw[av rX];refine aF (aH (bo a (ia+k) (by lia)) ?_);have pc:=pb.fJ (show ia+k<a.size by lia);by_cases f3:((ia+k)+1+1==a.size)=true
        .rw[ak f3];exact aE ⟨cW,.inl ⟨_,_,rfl,pc.last⟩⟩
        rw[av f3];have g3:¬ ((ia+k)+1+1=a.size):=by simpa using f3
        split
        .exact aE ⟨cW,.inr ⟨_,_,_,_,_,_,rfl,pc,by lia,by lia,by lia⟩⟩
        .exact aE ⟨cW,⟨_,_,_,_,_,_,rfl,pc,by lia,by lia,by lia⟩⟩
      .rw[av kp];refine aF (aH (bo b (ib) (by lia)) ?_);have pb:=p1.jJ (show ib<b.size by lia);by_cases f1:((ib)+1==b.size)=true
       .rw[ak f1];exact aE ⟨cW,.inl ⟨_,_,rfl,pb.done⟩⟩
       rw[av f1];have g1:¬ ((ib)+1=b.size):=by simpa using f1
       refine aF (aH (bo a (ia) (by lia)) ?_);refine aF (b_ hC cW.kind (ha _ (by simp)) hb (by lia) (by lia) fun k2 xI=>?_);dsimp only;by_cases rX:k2 > 0
       .rw[ak rX];have pB:=pb.v7 k2;by_cases f2:((ib)+1+k2==b.size)=true
        .rw[ak f2];exact aE ⟨cW,.inl ⟨_,_,rfl,pB.done⟩⟩
        rw[av f2];have g2:¬ ((ib)+1+k2=b.size):=by simpa using f2
        refine aF (aH (bo a (ia) (by lia)) ?_);have pc:=pB.fJ (show ia<a.size by lia);by_cases f3:((ia)+1+1==a.size)=true
        .rw[ak f3];exact aE ⟨cW,.inl ⟨_,_,rfl,pc.last⟩⟩
        rw[av f3];have g3:¬ ((ia)+1+1=a.size):=by simpa using f3
        split
        .exact aE ⟨cW,.inr ⟨_,_,_,_,_,_,rfl,pc,by lia,by lia,by lia⟩⟩
        .exact aE ⟨cW,⟨_,_,_,_,_,_,rfl,pc,by lia,by lia,by lia⟩⟩
       .rw[av rX];refine aF (aH (bo a (ia) (by lia)) ?_);have pc:=pb.fJ (show ia<a.size by lia);by_cases f3:((ia)+1+1==a.size)=true
        .rw[ak f3];exact aE ⟨cW,.inl ⟨_,_,rfl,pc.last⟩⟩
        rw[av f3];have g3:¬ ((ia)+1+1=a.size):=by simpa using f3
        split
        .exact aE ⟨cW,.inr ⟨_,_,_,_,_,_,rfl,pc,by lia,by lia,by lia⟩⟩
        .exact aE ⟨cW,⟨_,_,_,_,_,_,rfl,pc,by lia,by lia,by lia⟩⟩
     .rw[av Fb];rw[dv];refine aF (fv ?_);refine aF (aH (bo b ib (by lia)) ?_);have cW:SM κ ar pd (SortSt.mk' (kindOf g7) (arrOf g7) (pendingOf g7) mg (failedOf g7)):=⟨eS.arr,eS.kind,eS.failed,eS.pend⟩
      refine aF (b_ hC cW.kind (hb _ (by simp)) ha (by lia) (by lia) fun k hk=>?_);dsimp only;by_cases kp:k > 0
      .rw[ak kp];have p2:=p1.FE k;by_cases f4:(ia+k+1==a.size)=true
       .rw[ak f4];exact aE ⟨cW,.inl ⟨_,_,rfl,p2.last⟩⟩
       rw[av f4];have g4:¬ (ia+k+1=a.size):=by simpa using f4
       by_cases f5:(ia+k==a.size)=true
       .rw[ak f5];exact aE ⟨cW,.inl ⟨_,_,rfl,p2.done⟩⟩
       rw[av f5];have g5:¬ (ia+k=a.size):=by simpa using f5
       refine aF (aH (bo b (ib) (by lia)) ?_);have pb:=p2.jJ (show ib<b.size by lia);by_cases f1:((ib)+1==b.size)=true
       .rw[ak f1];exact aE ⟨cW,.inl ⟨_,_,rfl,pb.done⟩⟩
       rw[av f1];have g1:¬ ((ib)+1=b.size):=by simpa using f1
       refine aF (aH (bo a (ia+k) (by lia)) ?_);refine aF (b_ hC cW.kind (ha _ (by simp)) hb (by lia) (by lia) fun k2 xI=>?_);dsimp only;by_cases rX:k2 > 0
       .rw[ak rX];have pB:=pb.v7 k2;by_cases f2:((ib)+1+k2==b.size)=true
        .rw[ak f2];exact aE ⟨cW,.inl ⟨_,_,rfl,pB.done⟩⟩
        rw[av f2];have g2:¬ ((ib)+1+k2=b.size):=by simpa using f2
        refine aF (aH (bo a (ia+k) (by lia)) ?_);have pc:=pB.fJ (show ia+k<a.size by lia);by_cases f3:((ia+k)+1+1==a.size)=true
        .rw[ak f3];exact aE ⟨cW,.inl ⟨_,_,rfl,pc.last⟩⟩
        rw[av f3];have g3:¬ ((ia+k)+1+1=a.size):=by simpa using f3
        split
        .exact aE ⟨cW,.inr ⟨_,_,_,_,_,_,rfl,pc,by lia,by lia,by lia⟩⟩
        .exact aE ⟨cW,⟨_,_,_,_,_,_,rfl,pc,by lia,by lia,by lia⟩⟩
       .rw[av rX];refine aF (aH (bo a (ia+k) (by lia)) ?_);have pc:=pb.fJ (show ia+k<a.size by lia);by_cases f3:((ia+k)+1+1==a.size)=true
        .rw[ak f3];exact aE ⟨cW,.inl ⟨_,_,rfl,pc.last⟩⟩
        rw[av f3];have g3:¬ ((ia+k)+1+1=a.size):=by simpa using f3
        split
        .exact aE ⟨cW,.inr ⟨_,_,_,_,_,_,rfl,pc,by lia,by lia,by lia⟩⟩
        .exact aE ⟨cW,⟨_,_,_,_,_,_,rfl,pc,by lia,by lia,by lia⟩⟩
      .rw[av kp];refine aF (aH (bo b (ib) (by lia)) ?_);have pb:=p1.jJ (show ib<b.size by lia);by_cases f1:((ib)+1==b.size)=true
       .rw[ak f1];exact aE ⟨cW,.inl ⟨_,_,rfl,pb.done⟩⟩
       rw[av f1];have g1:¬ ((ib)+1=b.size):=by simpa using f1
       refine aF (aH (bo a (ia) (by lia)) ?_);refine aF (b_ hC cW.kind (ha _ (by simp)) hb (by lia) (by lia) fun k2 xI=>?_);dsimp only;by_cases rX:k2 > 0
       .rw[ak rX];have pB:=pb.v7 k2;by_cases f2:((ib)+1+k2==b.size)=true
        .rw[ak f2];exact aE ⟨cW,.inl ⟨_,_,rfl,pB.done⟩⟩
        rw[av f2];have g2:¬ ((ib)+1+k2=b.size):=by simpa using f2
        refine aF (aH (bo a (ia) (by lia)) ?_);have pc:=pB.fJ (show ia<a.size by lia);by_cases f3:((ia)+1+1==a.size)=true
        .rw[ak f3];exact aE ⟨cW,.inl ⟨_,_,rfl,pc.last⟩⟩
        rw[av f3];have g3:¬ ((ia)+1+1=a.size):=by simpa using f3
        split
        .exact aE ⟨cW,.inr ⟨_,_,_,_,_,_,rfl,pc,by lia,by lia,by lia⟩⟩
        .exact aE ⟨cW,⟨_,_,_,_,_,_,rfl,pc,by lia,by lia,by lia⟩⟩
       .rw[av rX];refine aF (aH (bo a (ia) (by lia)) ?_);have pc:=pb.fJ (show ia<a.size by lia);by_cases f3:((ia)+1+1==a.size)=true
        .rw[ak f3];exact aE ⟨cW,.inl ⟨_,_,rfl,pc.last⟩⟩
        rw[av f3];have g3:¬ ((ia)+1+1=a.size):=by simpa using f3
        split
        .exact aE ⟨cW,.inr ⟨_,_,_,_,_,_,rfl,pc,by lia,by lia,by lia⟩⟩
        .exact aE ⟨cW,⟨_,_,_,_,_,_,rfl,pc,by lia,by lia,by lia⟩⟩
    .rintro c g7 ⟨eS,hh⟩;exact⟨eS,.inr hh⟩
    .rintro c g7 ⟨eS,⟨r,c',rfl,hp⟩|⟨out,ia,ib,mg,ac,bc,rfl,p1,la,lb,li⟩⟩
     .exact aE ⟨eS,_,_,rfl,hp⟩
     .dsimp only;rw[dv];refine aF (fv ?_);exact aE ⟨⟨eS.arr,eS.kind,eS.failed,eS.pend⟩,_,_,_,_,rfl,p1,la,lb,li⟩
 .rintro c tI ⟨IK,out,ia,ib,mg,rfl,p1,la,lb,li⟩;lia
 .rintro c tI ⟨IK,r,c',rfl,hp⟩;exact aE (h r tI hp IK)
end
theorem xM(a b:Array Keyed):rS a b=(do
 rule "list.sort.merge-hi"
 let rW:=a.size+b.size
 let done (out:Array Keyed) (na nb:Nat):=a.extract 0 na++b.extract 0 nb++out.reverse
 let mS (out:Array Keyed) (na nb:Nat):=b.extract 0 nb++a.extract 0 na++out.reverse
 let mut na:=a.size-1
 let mut nb:=b.size
 let mut out:Array Keyed:=#[<-elem' a na]
 if na==0 then return done out na nb
 if nb==1 then return mS out na nb
 let mut minGallop:=gallopOf (<-get)
 for _ in [0:rW] do
  let mut acount:=0
  let mut bcount:=0
  for _ in [0:rW] do
   let some QX <- lt' (<-elem' b (nb-1)) (<-elem' a (na-1))|return done out na nb
   if QX then
    na:=na-1;out:=out.push (<-elem' a na);acount:=acount+1;bcount:=0
    if na==0 then return done out na nb
    if acount>=minGallop then break
   else
    nb:=nb-1;out:=out.push (<-elem' b nb);bcount:=bcount+1;acount:=0
    if nb==1 then return mS out na nb
    if bcount>=minGallop then break
  rule "list.sort.gallop"
  minGallop:=minGallop+1
  for _ in [0:rW] do
   if minGallop > 1 then minGallop:=minGallop-1
   fq minGallop
   let some at_ <- iP false (<-elem' b (nb-1)) a 0 na (na-1)|return done out na nb
   let k:=na-at_
   acount:=k
   if k > 0 then
    out:=out++(a.extract at_ na).reverse;na:=at_
    if na==0 then return done out na nb
   nb:=nb-1;out:=out.push (<-elem' b nb)
   if nb==1 then return mS out na nb
   let some at_ <- iP true (<-elem' a (na-1)) b 0 nb (nb-1)|return done out na nb
   let k:=nb-at_
   bcount:=k
   if k > 0 then
    out:=out++(b.extract at_ nb).reverse;nb:=at_
    if nb==1 then return mS out na nb
    if nb==0 then return done out na nb
   na:=na-1;out:=out.push (<-elem' a na)
   if na==0 then return done out na nb
   if acount<7&&bcount<7 then break
  minGallop:=minGallop+1
  fq minGallop
 unsupported "internal:list.sort.merge-bound"):=rfl
def PH(a b out:Array Keyed)(na nb:Nat):Prop:=out.toList.Perm (a.toList.drop na++b.toList.drop nb)
theorem PH.fJ{a b out:Array Keyed}{na nb:Nat}(h:PH a b out na nb)(h1:1<=na)(hi:na-1<a.size):PH a b (out.push a[na-1]) (na-1) nb:=by
 unfold PH at h |-;have e:a.toList.drop (na-1)=a[na-1]::a.toList.drop na:=by
  have:=nN (l:=a.toList) (i:=na-1) (by simpa using hi);rw[this,Nat.sub_add_cancel h1];simp
 rw[lP,e];refine(h.append_right _).trans ?_;exact i7
theorem PH.jJ{a b out:Array Keyed}{na nb:Nat}(h:PH a b out na nb)(h1:1<=nb)(hi:nb-1<b.size):PH a b (out.push b[nb-1]) na (nb-1):=by
 unfold PH at h |-;have e:b.toList.drop (nb-1)=b[nb-1]::b.toList.drop nb:=by
  have:=nN (l:=b.toList) (i:=nb-1) (by simpa using hi);rw[this,Nat.sub_add_cancel h1];simp
 rw[lP,e];refine(h.append_right _).trans ?_;rw[dh];exact jR _ i7
theorem mT{l:List Keyed}{i j:Nat}(h:i<=j):l.drop i=(l.drop i).take (j-i)++l.drop j:=by
 have:=(lG (j-i) (l.drop i)).symm;rw[List.drop_drop,show i+(j-i)=j by lia] at this;exact this
theorem PH.FE{a b out:Array Keyed}{na nb:Nat}(h:PH a b out na nb){k:Nat}(hk:k<=na):PH a b (out++(a.extract k na).reverse) k nb:=by
 unfold PH at h |-;rw[fz,zd,eR];conv=>rhs;rw[mT hk]
 refine((h.append_left _).trans ?_ |> fun z=>(List.Perm.trans i7 ((zx _).append_right _)).trans z);rw[dh]
theorem PH.v7{a b out:Array Keyed}{na nb:Nat}(h:PH a b out na nb){k:Nat}(hk:k<=nb):PH a b (out++(b.extract k nb).reverse) na k:=by
 unfold PH at h |-;rw[fz,zd,eR];conv=>rhs;rw[mT hk]
 refine(h.append_right _).trans ?_;rw[dh];refine jR _ ?_;exact i7.trans ((zx _).append_right _)
theorem QY{a:Array Keyed}{j:Nat}:(a.extract 0 j).toList=a.toList.take j:=by rw[eR,List.drop_zero,Nat.sub_zero]
theorem PH.done{a b out:Array Keyed}{na nb:Nat}(h:PH a b out na nb):(a.extract 0 na++b.extract 0 nb++out.reverse).Perm (a++b):=by
 rw[lr];unfold PH at h;rw[fz,fz,fz,zd,QY,QY];conv=>rhs;rw[<-lG na a.toList,<-lG nb b.toList]
 refine(jR _ ((zx _).trans h)).trans ?_;rw[dh,dh];refine jR _ ?_;rw[<-dh,<-dh];exact uR _ i7
theorem PH.first{a b out:Array Keyed}{na nb:Nat}(h:PH a b out na nb):(b.extract 0 nb++a.extract 0 na++out.reverse).Perm (a++b):=by
 refine Array.Perm.trans ?_ h.done;rw[lr];rw[fz,fz,fz,fz];exact uR _ i7
section
variable {prog:Program} {w:World} {A:Around} {E:Value->Shared->Prop} {s:Shared} {κ:SortKind} {a₀:Array Keyed} {pd:Array (Nat×Nat×Nat)} {ar:Array Keyed}
theorem xN{st:SortSt}{a b:Array Keyed}{Q:Array Keyed->SortSt->Prop}(hC:Eu prog w A s κ a₀)(hB:SM κ ar pd st)(ha:∀x∈a.toList,x∈a₀.toList)(hb:∀x∈b.toList,x∈a₀.toList)(a1:1<=a.size)(b1:1<=b.size)(h:∀out aZ,out.Perm (a++b)->SM κ ar pd aZ->Q out aZ):wpS (model prog w) A E s (rS a b) Q st:=by
 rw[xM];refine aF (kh (fU ⟨rfl,?_⟩));refine aF (aH (bo a (a.size-1) (by lia)) ?_);dsimp only;have p0:PH a b #[a[a.size-1]] (a.size-1) b.size:=by
  have:PH a b #[] a.size b.size:=by unfold PH;simp
  exact this.fJ a1 (by lia)
 by_cases e1:(a.size-1==0)=true
 .rw[ak e1];exact aE (h _ _ p0.done hB)
 rw[av e1];have n1:¬ (a.size-1=0):=by simpa using e1
 by_cases e2:(b.size==1)=true
 .rw[ak e2];exact aE (h _ _ p0.first hB)
 rw[av e2];have n2:¬ (b.size=1):=by simpa using e2
 refine aF (gY ?_);refine aF (dw (eJ (I:=fun i c aZ=>SM κ ar pd aZ/\∃na nb out mg,c=(none,na,nb,out,mg)/\PH a b out na nb/\1<=na/\2<=nb/\na<=a.size/\nb<=b.size/\i+na+nb<=a.size+b.size) (Q:=fun c aZ=>SM κ ar pd aZ/\∃r c',c=(some r,c')/\r.Perm (a++b)) ?_ ?_ ⟨hB,_,_,_,_,rfl,p0,by lia,by lia,by lia,by lia,by lia⟩) ?_)
 .rintro i c tI _ hi ⟨IK,na,nb,out,mg,rfl,p1,la,lb,ma,mb,li⟩;dsimp only;refine aF (dw (eJ (I:=fun x c aZ=>SM κ ar pd aZ/\∃na nb out ac bc,c=(none,na,nb,out,ac,bc)/\PH a b out na nb/\1<=na/\2<=nb/\na<=a.size/\nb<=b.size/\i+x+na+nb<=a.size+b.size) (Q:=fun c aZ=>SM κ ar pd aZ/\((∃r c',c=(some r,c')/\r.Perm (a++b))\/∃na nb out ac bc,c=(none,na,nb,out,ac,bc)/\PH a b out na nb/\1<=na/\2<=nb/\na<=a.size/\nb<=b.size/\i+1+na+nb<=a.size+b.size)) ?_ ?_ ⟨IK,_,_,_,_,_,rfl,p1,la,lb,ma,mb,by lia⟩) ?_)
  .rintro x c g7 _ hx ⟨eS,na,nb,out,ac,bc,rfl,p1,la,lb,ma,mb,li⟩;dsimp only;refine aF (aH (bo b (nb-1) (by lia)) ?_);refine aF (aH (bo a (na-1) (by lia)) ?_);refine aF (rT hC eS.kind (hb _ (by simp)) (ha _ (by simp)) fun aw=>?_);cases aw
   .dsimp only;rw[av (by decide)];refine aF (aH (bo b (nb-1) (by lia)) ?_);have p2:=p1.jJ (show 1<=nb by lia) (show nb-1<b.size by lia);by_cases f1:(nb-1==1)=true
    .rw[ak f1];exact aE ⟨eS,.inl ⟨_,_,rfl,p2.first⟩⟩
    rw[av f1];have g1:¬ (nb-1=1):=by simpa using f1
    split
    .exact aE ⟨eS,.inr ⟨_,_,_,_,_,rfl,p2,by lia,by lia,by lia,by lia,by lia⟩⟩
    .exact aE ⟨eS,_,_,_,_,_,rfl,p2,by lia,by lia,by lia,by lia,by lia⟩
   .dsimp only;rw[ak rfl];refine aF (aH (bo a (na-1) (by lia)) ?_);have p2:=p1.fJ (show 1<=na by lia) (show na-1<a.size by lia);by_cases f1:(na-1==0)=true
    .rw[ak f1];exact aE ⟨eS,.inl ⟨_,_,rfl,p2.done⟩⟩
    rw[av f1];have g1:¬ (na-1=0):=by simpa using f1
    split
    .exact aE ⟨eS,.inr ⟨_,_,_,_,_,rfl,p2,by lia,by lia,by lia,by lia,by lia⟩⟩
    .exact aE ⟨eS,_,_,_,_,_,rfl,p2,by lia,by lia,by lia,by lia,by lia⟩
  .rintro c g7 ⟨eS,na,nb,out,ac,bc,rfl,p1,la,lb,ma,mb,li⟩;exact⟨eS,.inr ⟨_,_,_,_,_,rfl,p1,la,lb,ma,mb,by lia⟩⟩
  .rintro c g7 ⟨eS,⟨r,c',rfl,hp⟩|⟨na,nb,out,ac,bc,rfl,p1,la,lb,ma,mb,li⟩⟩
   .exact aE ⟨eS,_,_,rfl,hp⟩
   .dsimp only;refine aF (kh (fU ⟨rfl,?_⟩));refine aF (dw (eJ (I:=fun x c aZ=>SM κ ar pd aZ/\∃na nb out mg ac bc,c=(none,na,nb,out,mg,ac,bc)/\PH a b out na nb/\1<=na/\2<=nb/\na<=a.size/\nb<=b.size/\i+1+na+nb<=a.size+b.size) (Q:=fun c aZ=>SM κ ar pd aZ/\((∃r c',c=(some r,c')/\r.Perm (a++b))\/∃na nb out mg ac bc,c=(none,na,nb,out,mg,ac,bc)/\PH a b out na nb/\1<=na/\2<=nb/\na<=a.size/\nb<=b.size/\i+1+na+nb<=a.size+b.size)) ?_ ?_ ⟨eS,_,_,_,_,_,_,rfl,p1,la,lb,ma,mb,li⟩) ?_)
    .rintro x c g7 _ hx ⟨eS,na,nb,out,mg,ac,bc,rfl,p1,la,lb,ma,mb,li⟩;dsimp only;by_cases Fb:mg > 1
     .rw[ak Fb];rw[dv];refine aF (fv ?_);refine aF (aH (bo b (nb-1) (by lia)) ?_);have cW:SM κ ar pd (SortSt.mk' (kindOf g7) (arrOf g7) (pendingOf g7) (mg-1) (failedOf g7)):=⟨eS.arr,eS.kind,eS.failed,eS.pend⟩
      refine aF (b_ hC cW.kind (hb _ (by simp)) ha (by lia) (by lia) fun k hk=>?_);dsimp only;by_cases kp:na-k > 0
      .rw[ak kp];have p2:=p1.FE hk;by_cases f4:(k==0)=true
       .rw[ak f4];exact aE ⟨cW,.inl ⟨_,_,rfl,p2.done⟩⟩
       rw[av f4];have g4:¬ (k=0):=by simpa using f4
       refine aF (aH (bo b (nb-1) (by lia)) ?_);have pb:=p2.jJ (show 1<=nb by lia) (show nb-1<b.size by lia);by_cases f1:(nb-1==1)=true
       .rw[ak f1];exact aE ⟨cW,.inl ⟨_,_,rfl,pb.first⟩⟩
       rw[av f1];have g1:¬ (nb-1=1):=by simpa using f1
       refine aF (aH (bo a (k-1) (by lia)) ?_);refine aF (b_ hC cW.kind (ha _ (by simp)) hb (by lia) (by lia) fun k2 xI=>?_);dsimp only;by_cases rX:nb-1-k2 > 0
       .rw[ak rX];have pB:=pb.v7 xI;by_cases f2:(k2==1)=true
        .rw[ak f2];exact aE ⟨cW,.inl ⟨_,_,rfl,pB.first⟩⟩
        rw[av f2];have g2:¬ (k2=1):=by simpa using f2
        by_cases f6:(k2==0)=true
        .rw[ak f6];exact aE ⟨cW,.inl ⟨_,_,rfl,pB.done⟩⟩
        rw[av f6];have g6:¬ (k2=0):=by simpa using f6
        refine aF (aH (bo a (k-1) (by lia)) ?_);have pc:=pB.fJ (show 1<=k by lia) (show k-1<a.size by lia);by_cases f3:(k-1==0)=true
        .rw[ak f3];exact aE ⟨cW,.inl ⟨_,_,rfl,pc.done⟩⟩
        rw[av f3];have g3:¬ (k-1=0):=by simpa using f3
        split
        .exact aE ⟨cW,.inr ⟨_,_,_,_,_,_,rfl,pc,by lia,by lia,by lia,by lia,by lia⟩⟩
        .exact aE ⟨cW,⟨_,_,_,_,_,_,rfl,pc,by lia,by lia,by lia,by lia,by lia⟩⟩
       .rw[av rX];refine aF (aH (bo a (k-1) (by lia)) ?_);have pc:=pb.fJ (show 1<=k by lia) (show k-1<a.size by lia);by_cases f3:(k-1==0)=true
        .rw[ak f3];exact aE ⟨cW,.inl ⟨_,_,rfl,pc.done⟩⟩
        rw[av f3];have g3:¬ (k-1=0):=by simpa using f3
        split
        .exact aE ⟨cW,.inr ⟨_,_,_,_,_,_,rfl,pc,by lia,by lia,by lia,by lia,by lia⟩⟩
        .exact aE ⟨cW,⟨_,_,_,_,_,_,rfl,pc,by lia,by lia,by lia,by lia,by lia⟩⟩
      .rw[av kp];refine aF (aH (bo b (nb-1) (by lia)) ?_);have pb:=p1.jJ (show 1<=nb by lia) (show nb-1<b.size by lia);by_cases f1:(nb-1==1)=true
       .rw[ak f1];exact aE ⟨cW,.inl ⟨_,_,rfl,pb.first⟩⟩
       rw[av f1];have g1:¬ (nb-1=1):=by simpa using f1
       refine aF (aH (bo a (na-1) (by lia)) ?_);refine aF (b_ hC cW.kind (ha _ (by simp)) hb (by lia) (by lia) fun k2 xI=>?_);dsimp only;by_cases rX:nb-1-k2 > 0
       .rw[ak rX];have pB:=pb.v7 xI;by_cases f2:(k2==1)=true
        .rw[ak f2];exact aE ⟨cW,.inl ⟨_,_,rfl,pB.first⟩⟩
        rw[av f2];have g2:¬ (k2=1):=by simpa using f2
        by_cases f6:(k2==0)=true
        .rw[ak f6];exact aE ⟨cW,.inl ⟨_,_,rfl,pB.done⟩⟩
        rw[av f6];have g6:¬ (k2=0):=by simpa using f6
        refine aF (aH (bo a (na-1) (by lia)) ?_);have pc:=pB.fJ (show 1<=na by lia) (show na-1<a.size by lia);by_cases f3:(na-1==0)=true
        .rw[ak f3];exact aE ⟨cW,.inl ⟨_,_,rfl,pc.done⟩⟩
        rw[av f3];have g3:¬ (na-1=0):=by simpa using f3
        split
        .exact aE ⟨cW,.inr ⟨_,_,_,_,_,_,rfl,pc,by lia,by lia,by lia,by lia,by lia⟩⟩
        .exact aE ⟨cW,⟨_,_,_,_,_,_,rfl,pc,by lia,by lia,by lia,by lia,by lia⟩⟩
       .rw[av rX];refine aF (aH (bo a (na-1) (by lia)) ?_);have pc:=pb.fJ (show 1<=na by lia) (show na-1<a.size by lia);by_cases f3:(na-1==0)=true
        .rw[ak f3];exact aE ⟨cW,.inl ⟨_,_,rfl,pc.done⟩⟩
        rw[av f3];have g3:¬ (na-1=0):=by simpa using f3
        split
        .exact aE ⟨cW,.inr ⟨_,_,_,_,_,_,rfl,pc,by lia,by lia,by lia,by lia,by lia⟩⟩
        .exact aE ⟨cW,⟨_,_,_,_,_,_,rfl,pc,by lia,by lia,by lia,by lia,by lia⟩⟩
     .rw[av Fb];rw[dv];refine aF (fv ?_);refine aF (aH (bo b (nb-1) (by lia)) ?_);have cW:SM κ ar pd (SortSt.mk' (kindOf g7) (arrOf g7) (pendingOf g7) mg (failedOf g7)):=⟨eS.arr,eS.kind,eS.failed,eS.pend⟩
      refine aF (b_ hC cW.kind (hb _ (by simp)) ha (by lia) (by lia) fun k hk=>?_);dsimp only;by_cases kp:na-k > 0
      .rw[ak kp];have p2:=p1.FE hk;by_cases f4:(k==0)=true
       .rw[ak f4];exact aE ⟨cW,.inl ⟨_,_,rfl,p2.done⟩⟩
       rw[av f4];have g4:¬ (k=0):=by simpa using f4
       refine aF (aH (bo b (nb-1) (by lia)) ?_);have pb:=p2.jJ (show 1<=nb by lia) (show nb-1<b.size by lia);by_cases f1:(nb-1==1)=true
       .rw[ak f1];exact aE ⟨cW,.inl ⟨_,_,rfl,pb.first⟩⟩
       rw[av f1];have g1:¬ (nb-1=1):=by simpa using f1
       refine aF (aH (bo a (k-1) (by lia)) ?_);refine aF (b_ hC cW.kind (ha _ (by simp)) hb (by lia) (by lia) fun k2 xI=>?_);dsimp only;by_cases rX:nb-1-k2 > 0
       .rw[ak rX];have pB:=pb.v7 xI;by_cases f2:(k2==1)=true
        .rw[ak f2];exact aE ⟨cW,.inl ⟨_,_,rfl,pB.first⟩⟩
        rw[av f2];have g2:¬ (k2=1):=by simpa using f2
        by_cases f6:(k2==0)=true
        .rw[ak f6];exact aE ⟨cW,.inl ⟨_,_,rfl,pB.done⟩⟩
        rw[av f6];have g6:¬ (k2=0):=by simpa using f6
        refine aF (aH (bo a (k-1) (by lia)) ?_);have pc:=pB.fJ (show 1<=k by lia) (show k-1<a.size by lia);by_cases f3:(k-1==0)=true
        .rw[ak f3];exact aE ⟨cW,.inl ⟨_,_,rfl,pc.done⟩⟩
        rw[av f3];have g3:¬ (k-1=0):=by simpa using f3
        split
        .exact aE ⟨cW,.inr ⟨_,_,_,_,_,_,rfl,pc,by lia,by lia,by lia,by lia,by lia⟩⟩
        .exact aE ⟨cW,⟨_,_,_,_,_,_,rfl,pc,by lia,by lia,by lia,by lia,by lia⟩⟩
       .rw[av rX];refine aF (aH (bo a (k-1) (by lia)) ?_);have pc:=pb.fJ (show 1<=k by lia) (show k-1<a.size by lia);by_cases f3:(k-1==0)=true
        .rw[ak f3];exact aE ⟨cW,.inl ⟨_,_,rfl,pc.done⟩⟩
        rw[av f3];have g3:¬ (k-1=0):=by simpa using f3
        split
        .exact aE ⟨cW,.inr ⟨_,_,_,_,_,_,rfl,pc,by lia,by lia,by lia,by lia,by lia⟩⟩
        .exact aE ⟨cW,⟨_,_,_,_,_,_,rfl,pc,by lia,by lia,by lia,by lia,by lia⟩⟩
      .rw[av kp];refine aF (aH (bo b (nb-1) (by lia)) ?_);have pb:=p1.jJ (show 1<=nb by lia) (show nb-1<b.size by lia);by_cases f1:(nb-1==1)=true
       .rw[ak f1];exact aE ⟨cW,.inl ⟨_,_,rfl,pb.first⟩⟩
       rw[av f1];have g1:¬ (nb-1=1):=by simpa using f1
       refine aF (aH (bo a (na-1) (by lia)) ?_);refine aF (b_ hC cW.kind (ha _ (by simp)) hb (by lia) (by lia) fun k2 xI=>?_);dsimp only;by_cases rX:nb-1-k2 > 0
       .rw[ak rX];have pB:=pb.v7 xI;by_cases f2:(k2==1)=true
        .rw[ak f2];exact aE ⟨cW,.inl ⟨_,_,rfl,pB.first⟩⟩
        rw[av f2];have g2:¬ (k2=1):=by simpa using f2
        by_cases f6:(k2==0)=true
        .rw[ak f6];exact aE ⟨cW,.inl ⟨_,_,rfl,pB.done⟩⟩
        rw[av f6];have g6:¬ (k2=0):=by simpa using f6
        refine aF (aH (bo a (na-1) (by lia)) ?_);have pc:=pB.fJ (show 1<=na by lia) (show na-1<a.size by lia);by_cases f3:(na-1==0)=true
        .rw[ak f3];exact aE ⟨cW,.inl ⟨_,_,rfl,pc.done⟩⟩
        rw[av f3];have g3:¬ (na-1=0):=by simpa using f3
        split
        .exact aE ⟨cW,.inr ⟨_,_,_,_,_,_,rfl,pc,by lia,by lia,by lia,by lia,by lia⟩⟩
        .exact aE ⟨cW,⟨_,_,_,_,_,_,rfl,pc,by lia,by lia,by lia,by lia,by lia⟩⟩
       .rw[av rX];refine aF (aH (bo a (na-1) (by lia)) ?_);have pc:=pb.fJ (show 1<=na by lia) (show na-1<a.size by lia);by_cases f3:(na-1==0)=true
        .rw[ak f3];exact aE ⟨cW,.inl ⟨_,_,rfl,pc.done⟩⟩
        rw[av f3];have g3:¬ (na-1=0):=by simpa using f3
        split
        .exact aE ⟨cW,.inr ⟨_,_,_,_,_,_,rfl,pc,by lia,by lia,by lia,by lia,by lia⟩⟩
        .exact aE ⟨cW,⟨_,_,_,_,_,_,rfl,pc,by lia,by lia,by lia,by lia,by lia⟩⟩
    .rintro c g7 ⟨eS,hh⟩;exact⟨eS,.inr hh⟩
    .rintro c g7 ⟨eS,⟨r,c',rfl,hp⟩|⟨na,nb,out,mg,ac,bc,rfl,p1,la,lb,ma,mb,li⟩⟩
     .exact aE ⟨eS,_,_,rfl,hp⟩
     .dsimp only;rw[dv];refine aF (fv ?_);exact aE ⟨⟨eS.arr,eS.kind,eS.failed,eS.pend⟩,_,_,_,_,rfl,p1,la,lb,ma,mb,li⟩
 .rintro c tI ⟨IK,na,nb,out,mg,rfl,p1,la,lb,ma,mb,li⟩;lia
 .rintro c tI ⟨IK,r,c',rfl,hp⟩;exact aE (h r tI hp IK)
end
section
variable {prog:Program} {w:World} {A:Around} {E:Value->Shared->Prop} {s:Shared} {κ:SortKind} {a₀:Array Keyed} {pd:Array (Nat×Nat×Nat)}
theorem DE{st:SortSt}{lo pC:Nat}{Q:Option Nat->SortSt->Prop}(hC:Eu prog w A s κ a₀)(hn:lo+pC<=a₀.size)(h1:1<=pC)(hB:SQ κ a₀ pd st)(h:∀n aZ,SQ κ a₀ pd aZ->1<=n->n<=pC->Q (some n) aZ):wpS (model prog w) A E s (countRun' lo pC) Q st:=by
 rw[countRun'_eq];refine aF (dw (eJ (I:=fun i c aZ=>SQ κ a₀ pd aZ/\∃m,c=(none,m)/\m=i) (Q:=fun c aZ=>SQ κ a₀ pd aZ/\∃m,c=(none,m)/\1<=m/\m<=pC) ?_ ?_ ⟨hB,_,rfl,rfl⟩) ?_)
 .rintro i c tI O5 Ah ⟨eS,m,rfl,rfl⟩;dsimp only;refine aF (f8 hC eS (by lia) (by lia) fun b1=>?_);cases b1
  .exact aE ⟨eS,_,rfl,rfl⟩
  .exact aE ⟨eS,_,rfl,by lia,by lia⟩
 .rintro c tI ⟨eS,m,rfl,rfl⟩;exact⟨eS,_,rfl,by lia,by lia⟩
 .rintro c tI ⟨eS,n,rfl,n1,n2⟩;dsimp only;by_cases e1:(n==pC)=true
  .rw[ak e1];exact aE (h n tI eS n1 n2)
  rw[av e1];have g1:¬ (n=pC):=by simpa using e1
  by_cases e2:n > 1
  .rw[ak e2];refine aF (f8 hC eS (by lia) (by lia) fun b2=>?_);cases b2
   .dsimp only;rw[av (by decide)];refine aF (ie eS fun g7 cW=>?_);refine aF (kh (fU ⟨rfl,?_⟩));refine aF (dw (eJ (I:=fun i c aZ=>SQ κ a₀ pd aZ/\∃m q,c=(none,m,q)/\m=i) (Q:=fun c aZ=>SQ κ a₀ pd aZ/\∃m q,c=(none,m,q)/\1<=m/\m<=pC) ?_ ?_ ⟨cW,_,_,rfl,rfl⟩) ?_)
    .rintro i c sO O5 Ah ⟨qi,m,q,rfl,rfl⟩;dsimp only;refine aF (f8 hC qi (by lia) (by lia) fun b3=>?_);cases b3
     .dsimp only;rw[av (by decide)];refine aF (f8 hC qi (by lia) (by lia) fun b4=>?_);cases b4
      .exact aE ⟨qi,_,_,rfl,rfl⟩
      .exact aE ⟨qi,_,_,rfl,by lia,by lia⟩
     .dsimp only;rw[ak rfl];split
      .exact aF (ie qi fun sU Mt=>aE ⟨Mt,_,_,rfl,rfl⟩)
      .exact aE ⟨qi,_,_,rfl,rfl⟩
    .rintro c sO ⟨qi,m,q,rfl,rfl⟩;exact⟨qi,_,_,rfl,by lia,by lia⟩
    .rintro c sO ⟨qi,m,q,rfl,m1,m2⟩;dsimp only;split
     .refine aF (ie qi fun sU Mt=>?_);refine aF (ie Mt fun wS Mu=>?_);refine aF (dw (eJ (I:=fun i c aZ=>SQ κ a₀ pd aZ/\∃m,c=(none,m)/\m=i) (Q:=fun c aZ=>SQ κ a₀ pd aZ/\∃m,c=(none,m)/\1<=m/\m<=pC) ?_ ?_ ⟨Mu,_,rfl,rfl⟩) ?_)
      .rintro i c tJ O5 Ah ⟨l9,m,rfl,rfl⟩;dsimp only;refine aF (f8 hC l9 (by lia) (by lia) fun b6=>?_);cases b6
       .exact aE ⟨l9,_,rfl,rfl⟩
       .exact aE ⟨l9,_,rfl,by lia,by lia⟩
      .rintro c tJ ⟨l9,m,rfl,rfl⟩;exact⟨l9,_,rfl,by lia,by lia⟩
      .rintro c tJ ⟨l9,m,rfl,h1,h2⟩;exact aE (h m tJ l9 h1 h2)
     .refine aF (ie qi fun wS Mu=>?_);refine aF (dw (eJ (I:=fun i c aZ=>SQ κ a₀ pd aZ/\∃m,c=(none,m)/\m=i) (Q:=fun c aZ=>SQ κ a₀ pd aZ/\∃m,c=(none,m)/\1<=m/\m<=pC) ?_ ?_ ⟨Mu,_,rfl,rfl⟩) ?_)
      .rintro i c tJ O5 Ah ⟨l9,m,rfl,rfl⟩;dsimp only;refine aF (f8 hC l9 (by lia) (by lia) fun b6=>?_);cases b6
       .exact aE ⟨l9,_,rfl,rfl⟩
       .exact aE ⟨l9,_,rfl,by lia,by lia⟩
      .rintro c tJ ⟨l9,m,rfl,rfl⟩;exact⟨l9,_,rfl,by lia,by lia⟩
      .rintro c tJ ⟨l9,m,rfl,h1,h2⟩;exact aE (h m tJ l9 h1 h2)
   .exact aE (h n tI eS n1 n2)
  .rw[av e2];have cW:=eS;refine aF (kh (fU ⟨rfl,?_⟩));refine aF (dw (eJ (I:=fun i c aZ=>SQ κ a₀ pd aZ/\∃m q,c=(none,m,q)/\m=i) (Q:=fun c aZ=>SQ κ a₀ pd aZ/\∃m q,c=(none,m,q)/\1<=m/\m<=pC) ?_ ?_ ⟨cW,_,_,rfl,rfl⟩) ?_)
   .rintro i c sO O5 Ah ⟨qi,m,q,rfl,rfl⟩;dsimp only;refine aF (f8 hC qi (by lia) (by lia) fun b3=>?_);cases b3
    .dsimp only;rw[av (by decide)];refine aF (f8 hC qi (by lia) (by lia) fun b4=>?_);cases b4
     .exact aE ⟨qi,_,_,rfl,rfl⟩
     .exact aE ⟨qi,_,_,rfl,by lia,by lia⟩
    .dsimp only;rw[ak rfl];split
     .exact aF (ie qi fun sU Mt=>aE ⟨Mt,_,_,rfl,rfl⟩)
     .exact aE ⟨qi,_,_,rfl,rfl⟩
   .rintro c sO ⟨qi,m,q,rfl,rfl⟩;exact⟨qi,_,_,rfl,by lia,by lia⟩
   .rintro c sO ⟨qi,m,q,rfl,m1,m2⟩;dsimp only;split
    .refine aF (ie qi fun sU Mt=>?_);refine aF (ie Mt fun wS Mu=>?_);refine aF (dw (eJ (I:=fun i c aZ=>SQ κ a₀ pd aZ/\∃m,c=(none,m)/\m=i) (Q:=fun c aZ=>SQ κ a₀ pd aZ/\∃m,c=(none,m)/\1<=m/\m<=pC) ?_ ?_ ⟨Mu,_,rfl,rfl⟩) ?_)
     .rintro i c tJ O5 Ah ⟨l9,m,rfl,rfl⟩;dsimp only;refine aF (f8 hC l9 (by lia) (by lia) fun b6=>?_);cases b6
      .exact aE ⟨l9,_,rfl,rfl⟩
      .exact aE ⟨l9,_,rfl,by lia,by lia⟩
     .rintro c tJ ⟨l9,m,rfl,rfl⟩;exact⟨l9,_,rfl,by lia,by lia⟩
     .rintro c tJ ⟨l9,m,rfl,h1,h2⟩;exact aE (h m tJ l9 h1 h2)
    .refine aF (ie qi fun wS Mu=>?_);refine aF (dw (eJ (I:=fun i c aZ=>SQ κ a₀ pd aZ/\∃m,c=(none,m)/\m=i) (Q:=fun c aZ=>SQ κ a₀ pd aZ/\∃m,c=(none,m)/\1<=m/\m<=pC) ?_ ?_ ⟨Mu,_,rfl,rfl⟩) ?_)
     .rintro i c tJ O5 Ah ⟨l9,m,rfl,rfl⟩;dsimp only;refine aF (f8 hC l9 (by lia) (by lia) fun b6=>?_);cases b6
      .exact aE ⟨l9,_,rfl,rfl⟩
      .exact aE ⟨l9,_,rfl,by lia,by lia⟩
     .rintro c tJ ⟨l9,m,rfl,rfl⟩;exact⟨l9,_,rfl,by lia,by lia⟩
     .rintro c tJ ⟨l9,m,rfl,h1,h2⟩;exact aE (h m tJ l9 h1 h2)
end
abbrev O6:=Nat×Nat×Nat
def jd:List O6->Nat->Nat->Prop
 |[],s,e=>s=e
 |r::rs,s,e=>r.1=s/\1<=r.2.1/\jd rs (s+r.2.1) e
theorem jd.le:∀ {l:List O6} {s e:Nat},jd l s e->s<=e
 |[],_,_,h=>rh h
 |r::rs,s,e,⟨_,h2,h3⟩=>by have:=h3.le;lia
theorem jd.two:∀ {l:List O6} {s e i:Nat} {x y:O6},jd l s e->l[i]?=some x->l[i+1]?=some y->
  x.1+x.2.1=y.1/\y.1+y.2.1<=e/\1<=x.2.1/\1<=y.2.1/\∀p,jd ((l.set i (x.1,x.2.1+y.2.1,p)).eraseIdx (i+1)) s e
 |r::q::rs,s,e,0,x,y,⟨h1,h2,h3,h4,h5⟩,hx,hy=>by
  obtain rfl:=bN hx;obtain rfl:=bN hy;have:=h5.le;refine⟨by lia,by lia,h2,h4,fun p=>⟨h1,by show 1<=r.2.1+q.2.1;lia,?_⟩⟩;show jd rs (s+(r.2.1+q.2.1)) e;rw[<-Nat.add_assoc];exact h5
 |r::rs,s,e,i+1,x,y,⟨h1,h2,h3⟩,hx,hy=>by
  obtain⟨a1,a2,a3,a4,a5⟩:=jd.two (i:=i) h3 hx hy;exact⟨a1,a2,a3,a4,fun p=>⟨h1,h2,a5 p⟩⟩
theorem jd.push:∀ {l:List O6} {s e n p:Nat},jd l s e->1<=n->jd (l++[(e,n,p)]) s (e+n)
 |[],s,e,n,p,h,hn=>⟨h.symm,hn,by rw[h];rfl⟩
 |r::rs,s,e,n,p,⟨h1,h2,h3⟩,hn=>⟨h1,h2,jd.push h3 hn⟩
theorem jd.pw:∀ {l:List O6} {s e:Nat} (i p:Nat),jd l s e->jd (l.modify i fun r=>(r.1,r.2.1,p)) s e
 |[],s,e,i,p,h=>by cases i <;> exact h
 |r::rs,s,e,0,p,⟨h1,h2,h3⟩=>⟨h1,h2,h3⟩
 |r::rs,s,e,i+1,p,⟨h1,h2,h3⟩=>⟨h1,h2,jd.pw i p h3⟩
theorem IL{M:Model}{A:Around}{E:Value->Shared->Prop}{s:Shared}{σ:Type}{x:σ}{Q:PUnit->σ->Prop}{st:σ}(h:Q ⟨⟩ x):wpS M A E s (set x:StateT σ Sem PUnit) Q st:=by
 unfold wpS;rw[StateT.run_set];exact wpAny_pure ⟨rfl,h⟩
theorem xO(i:Nat):mergeAt' i=(do
 let s <- get
 let (some (sa,na,QZ),some (sb,nb,_)):=((pendingOf s)[i]?,(pendingOf s)[i+1]?)|unsupported "internal:list.sort.pending"
 set (setPending s (((pendingOf s).setIfInBounds i (sa,na+nb,QZ)).eraseIdxIfInBounds (i+1)))
 let some k <- iP false (<-elem' (arrOf s) sb) (arrOf s) sa na 0|return false
 let (sa,na):=(sa+k,na-k)
 if na==0 then return true
 let some nb <- iP true (<-elem' (arrOf s) (sa+na-1)) (arrOf s) sb nb (nb-1)|return false
 if nb==0 then return true
 let x:=(arrOf s).extract sa sb
 let y:=(arrOf s).extract sb (sb+nb)
 let merged <- if na<=nb then rR x y else rS x y
 modify fun s=>setArr s (merged.toList.zipIdx.foldl (fun a (p,j)=>a.setIfInBounds (sa+j) p) (arrOf s))
 return (failedOf (<-get)).isNone):=rfl
theorem rY{sa:Nat}:∀ (l:List Keyed) (k:Nat) (arr:Array Keyed),sa+k+l.length<=arr.size->
  ((l.zipIdx k).foldl (fun (a:Array Keyed) (x:Keyed×Nat)=>a.setIfInBounds (sa+x.2) x.1) arr).toList=arr.toList.take (sa+k)++l++arr.toList.drop (sa+k+l.length)
 |[],k,arr,_=>by simp
 |x::l,k,arr,h=>by
  rw[eF] at h;have hs:sa+k<arr.toList.length:=by rw[lu];lia
  rw[zD,iT,rY l (k+1) _ (by rw[Array.size_setIfInBounds];lia),ED];dsimp only;have e1:(arr.toList.set (sa+k) x).take (sa+(k+1))=arr.toList.take (sa+k)++[x]:=by
   rw[<-Nat.add_assoc,gj,nX hs,List.take_set_of_le (aU _)];rfl
  have e2:(arr.toList.set (sa+k) x).drop (sa+(k+1)+l.length)=arr.toList.drop (sa+k+(x::l).length):=by
   rw[List.drop_set_of_lt (by lia),eF];congr 1;lia
  rw[e1,e2,dh,dh,dh];rfl
section
variable {prog:Program} {w:World} {A:Around} {E:Value->Shared->Prop} {s:Shared} {κ:SortKind} {a₀:Array Keyed}
def SR(κ:SortKind)(a₀:Array Keyed)(lo:Nat)(st:SortSt):Prop:=∃pd,SQ κ a₀ pd st/\jd pd.toList 0 lo/\lo<=a₀.size
theorem kI{st:SortSt}{i lo:Nat}{Q:Bool->SortSt->Prop}(hC:Eu prog w A s κ a₀)(hB:SR κ a₀ lo st)(hi:i+1<(pendingOf st).size)(h:∀aZ,SR κ a₀ lo aZ->Q true aZ):wpS (model prog w) A E s (mergeAt' i) Q st:=by
 obtain⟨pd,hq,hr,O0⟩:=hB;rw[hq.pend] at hi;rw[xO];refine aF (gY ?_);have e1:pd[i]?=some pd[i]:=bo pd i (by lia);have e2:pd[i+1]?=some pd[i+1]:=bo pd (i+1) hi;obtain⟨a1,a2,a3,a4,a5⟩:=hr.two (i:=i) (x:=pd[i]) (y:=pd[i+1]) (by simpa using e1) (by simpa using e2);rw[hq.pend,e1,e2];revert a1 a2 a3 a4 a5;generalize pd[i]=x;generalize pd[i+1]=y;obtain⟨sa,na,pw⟩:=x;obtain⟨sb,nb,pw2⟩:=y;intro a1 a2 a3 a4 a5;dsimp only at a1 a2 a3 a4 a5 |-;obtain⟨IM,Q0⟩:∃IM,IM=(pd.setIfInBounds i (sa,na+nb,pw)).eraseIdxIfInBounds (i+1):=⟨_,rfl⟩
 have Es:jd IM.toList 0 lo:=by
  rw[Q0,Array.toList_eraseIdxIfInBounds,ED];exact a5 pw
 refine aF (IL ?_);rw[<-Q0];have K1:SM κ (arrOf st) IM (setPending st IM):=⟨rfl,hq.kind,hq.failed,rfl⟩
 have ir:=hq.size;have uw:∀x∈(arrOf st).toList,x∈a₀.toList:=fun x hx=>(lr.mp hq.perm).mem_iff.mp hx;have d7:∀aZ,SM κ (arrOf st) IM aZ->SR κ a₀ lo aZ:=fun aZ m=>⟨IM,⟨by rw[m.arr];exact hq.perm,m.kind,m.failed,m.pend⟩,Es,O0⟩
 refine aF (aH (bo (arrOf st) sb (by lia)) ?_);refine aF (b_ hC K1.kind (uw _ (by simp)) uw (by lia) (by lia) fun k hk=>?_);dsimp only;by_cases f1:(na-k==0)=true
 .rw[ak f1];exact aE (h _ (d7 _ K1))
 rw[av f1];have g1:¬ (na-k=0):=by simpa using f1
 refine aF (aH (bo (arrOf st) (sa+k+(na-k)-1) (by lia)) ?_);refine aF (b_ hC K1.kind (uw _ (by simp)) uw (by lia) (by lia) fun k2 xI=>?_);dsimp only;by_cases f2:(k2==0)=true
 .rw[ak f2];exact aE (h _ (d7 _ K1))
 rw[av f2];have g2:¬ (k2=0):=by simpa using f2
 have hx:∀x∈((arrOf st).extract (sa+k) sb).toList,x∈a₀.toList:=fun x hx=>uw x (by rw[eR] at hx;exact uY (n0 hx));have hy:∀x∈((arrOf st).extract sb (sb+k2)).toList,x∈a₀.toList:=fun x hx=>uw x (by rw[eR] at hx;exact uY (n0 hx));have sx:((arrOf st).extract (sa+k) sb).size=sb-(sa+k):=by rw[Array.size_extract];lia
 have sy:((arrOf st).extract sb (sb+k2)).size=k2:=by rw[Array.size_extract];lia
 have last:∀ (out:Array Keyed) (aZ:SortSt),out.Perm ((arrOf st).extract (sa+k) sb++(arrOf st).extract sb (sb+k2))->SM κ (arrOf st) IM aZ->wpS (model prog w) A E s (do
   modify fun s=>setArr s (out.toList.zipIdx.foldl (fun a (p,j)=>a.setIfInBounds (sa+k+j) p) (arrOf s))
   return (failedOf (<-get)).isNone) Q aZ:=by
  intro out aZ hp m;refine aF (fv ?_);refine aF (gY (aE ?_));have Z2:out.toList.length=sb-(sa+k)+k2:=by
   rw[lu,hp.size_eq,Array.size_append,sx,sy]
  have wl:=rY (sa:=sa+k) out.toList 0 (arrOf aZ) (by rw[m.arr,Z2];lia);have pm:(out.toList.zipIdx.foldl (fun a (p,j)=>a.setIfInBounds (sa+k+j) p) (arrOf aZ)).Perm (arrOf st):=by
   rw[lr];refine(j6 wl).trans ?_;rw[m.arr,Z2,Nat.add_zero];have O2:=lr.mp hp;rw[fz,eR,eR] at O2;refine((O2.append_left _).append_right _).trans ?_;have e1:(arrOf st).toList.drop (sa+k)=((arrOf st).toList.drop (sa+k)).take (sb-(sa+k))++(arrOf st).toList.drop sb:=mT (by lia);have e2:(arrOf st).toList.drop sb=((arrOf st).toList.drop sb).take (sb+k2-sb)++(arrOf st).toList.drop (sb+k2):=mT (by lia);have e3:sa+k+(sb-(sa+k)+k2)=sb+k2:=by lia
   rw[e3];refine j6 ?_;conv=>rhs;rw[<-lG (sa+k) (arrOf st).toList,e1,e2]
   simp only[dh]
  have hf:(failedOf aZ).isNone=true:=by rw[m.failed];rfl
  show Q (failedOf aZ).isNone _;rw[hf];exact h _ ⟨IM,⟨pm.trans hq.perm,m.kind,m.failed,m.pend⟩,Es,O0⟩
 by_cases f3:na-k<=k2
 .rw[ak f3];exact aF (xL hC K1 hx hy (by lia) (by lia) fun out aZ hp m=>last out aZ hp m)
 .rw[av f3];exact aF (xN hC K1 hx hy (by lia) (by lia) fun out aZ hp m=>last out aZ hp m)
theorem xP{c:Prop}[Decidable c]{x:Nat}:(if c then x-1 else x)<=x:=by split <;> lia
theorem SR.pw{lo:Nat}{st:SortSt}(h:SR κ a₀ lo st)(i p:Nat):SR κ a₀ lo (setPending st ((pendingOf st).modify i fun r=>(r.1,r.2.1,p))):=by
 obtain⟨pd,hq,hr,hl⟩:=h;refine⟨_,⟨hq.perm,hq.kind,hq.failed,rfl⟩,?_,hl⟩;show jd ((pendingOf st).modify i fun r=>(r.1,r.2.1,p)).toList 0 lo;rw[hq.pend,Array.toList_modify];exact hr.pw i p
theorem SR.push{lo n:Nat}{st:SortSt}(h:SR κ a₀ lo st)(h1:1<=n)(hn:lo+n<=a₀.size):SR κ a₀ (lo+n) (setPending st ((pendingOf st).push (lo,n,0))):=by
 obtain⟨pd,hq,hr,hl⟩:=h;refine⟨_,⟨hq.perm,hq.kind,hq.failed,rfl⟩,?_,hn⟩;show jd ((pendingOf st).push (lo,n,0)).toList 0 (lo+n);rw[hq.pend,lP];exact hr.push h1
theorem ux{st:SortSt}{Q:Unit->SortSt->Prop}(hC:Eu prog w A s κ a₀)(hp:(arrOf st).Perm a₀)(hk:kindOf st=κ)(hf:failedOf st=none)(Q3:pendingOf st=#[])(h:∀aZ,(arrOf aZ).Perm a₀->failedOf aZ=none->Q () aZ):wpS (model prog w) A E s sortRuns' Q st:=by
 have h0:SR κ a₀ 0 st:=⟨#[],⟨hp,hk,hf,Q3⟩,rfl,cx _⟩
 have ir:(arrOf st).size=a₀.size:=hp.size_eq;rw[sortRuns'_eq];refine aF (gY ?_);dsimp only;rw[ir];refine aF (dw (eJ (I:=fun _ c aZ=>∃lo,c=(none,lo)/\SR κ a₀ lo aZ) (Q:=fun c aZ=>∃lo,c=(none,lo)/\SR κ a₀ lo aZ) ?_ (fun c aZ hh=>hh) ⟨0,rfl,h0⟩) ?_)
 .rintro i c tI _ _ ⟨lo,rfl,hR⟩;dsimp only;by_cases e1:lo>=a₀.size
  .rw[ak e1];exact aE ⟨lo,rfl,hR⟩
  rw[av e1];have O0:lo<a₀.size:=by lia
  obtain⟨pd,hq,hr,hl⟩:=hR;refine aF (DE hC (by lia) (by lia) hq fun n g7 Ue n1 n2=>?_);dsimp only;by_cases hm:n<minRun' a₀.size a₀.size 0
  .rw[ak hm];refine aF (kh (fU ⟨rfl,?_⟩));refine aF (IJ hC (by lia) Ue fun sO ZN=>?_);simp only[vt,i8,eK];have yK:SR κ a₀ lo sO:=⟨pd,ZN,hr,hl⟩
   refine aF (gY ?_);cases hb:(pendingOf sO).back? with
   |none=>
    dsimp only;exact aF (fv (aE ⟨_,rfl,yK.push (by lia) (by lia)⟩))
   |some r=>
    obtain⟨s1,n1',pw1⟩:=r;dsimp only;refine aF (dw (eJ (I:=fun _ c aZ=>c=(none,())/\SR κ a₀ lo aZ) (Q:=fun c aZ=>c=(none,())/\SR κ a₀ lo aZ) ?_ (fun c aZ hh=>hh) ⟨rfl,yK⟩) ?_)
    .rintro x c sU _ _ ⟨rfl,qE⟩;refine aF (gY ?_);by_cases hs:(pendingOf sU).size > 1
     .rw[ak hs,bo (pendingOf sU) ((pendingOf sU).size-2) (by lia)];generalize (pendingOf sU)[(pendingOf sU).size-2]=r4;obtain⟨_,_,Q4⟩:=r4;dsimp only;split
      .exact aE ⟨rfl,qE⟩
      .refine aF (kI hC qE (by lia) fun wS Mv=>?_);simp only[vt,i8,eK];exact aE ⟨rfl,Mv⟩
     .rw[av hs];exact aE ⟨rfl,qE⟩
    .rintro c sU ⟨rfl,qE⟩;dsimp only;exact aF (fv (aF (fv (aE ⟨_,rfl,(qE.pw _ _).push (by lia) (by lia)⟩))))
  .rw[av hm];have yK:SR κ a₀ lo g7:=⟨pd,Ue,hr,hl⟩
   refine aF (gY ?_);cases hb:(pendingOf g7).back? with
   |none=>
    dsimp only;exact aF (fv (aE ⟨_,rfl,yK.push (by lia) (by lia)⟩))
   |some r=>
    obtain⟨s1,n1',pw1⟩:=r;dsimp only;refine aF (dw (eJ (I:=fun _ c aZ=>c=(none,())/\SR κ a₀ lo aZ) (Q:=fun c aZ=>c=(none,())/\SR κ a₀ lo aZ) ?_ (fun c aZ hh=>hh) ⟨rfl,yK⟩) ?_)
    .rintro x c sU _ _ ⟨rfl,qE⟩;refine aF (gY ?_);by_cases hs:(pendingOf sU).size > 1
     .rw[ak hs,bo (pendingOf sU) ((pendingOf sU).size-2) (by lia)];generalize (pendingOf sU)[(pendingOf sU).size-2]=r4;obtain⟨_,_,Q4⟩:=r4;dsimp only;split
      .exact aE ⟨rfl,qE⟩
      .refine aF (kI hC qE (by lia) fun wS Mv=>?_);simp only[vt,i8,eK];exact aE ⟨rfl,Mv⟩
     .rw[av hs];exact aE ⟨rfl,qE⟩
    .rintro c sU ⟨rfl,qE⟩;dsimp only;exact aF (fv (aF (fv (aE ⟨_,rfl,(qE.pw _ _).push (by lia) (by lia)⟩))))
 .rintro c tI ⟨lo,rfl,hR⟩;dsimp only;refine aF (dw (eJ (I:=fun _ c aZ=>c=(none,())/\SR κ a₀ lo aZ) (Q:=fun c aZ=>c=(none,())/\SR κ a₀ lo aZ) ?_ (fun c aZ hh=>hh) ⟨rfl,hR⟩) ?_)
  .rintro x c sU _ _ ⟨rfl,qE⟩;refine aF (gY ?_);by_cases hs:(pendingOf sU).size<=1
   .rw[ak hs];exact aE ⟨rfl,qE⟩
   rw[av hs];refine aF (kI hC qE ?_ fun wS Mv=>?_)
   .exact eD (zC xP) (show (pendingOf sU).size-2+1<(pendingOf sU).size by lia)
   .simp only[vt,i8,eK];exact aE ⟨rfl,Mv⟩
  .rintro c sU ⟨rfl,pd,hq,_⟩;exact aE (h _ hq.perm hq.failed)
end
end PyProof.Rows
namespace L2
open PySem PySem.Spec PyProof.Rows PySem.W
def jy(h:Heap)(vs:List Value):Prop:=∀v∈vs,∃a o n x t y u,v=Value.ref a/\h.get? a=some o/\o.cls=.type "tuple"/\o.data=.seq #[.int x t,.int y u] n
theorem jy.rp{h:Heap}:∀ {vs:List Value},jy h vs->∃fs,KatTups h vs fs/\fs.length=vs.length/\∀v∈fs,∃n t,v=Value.int n t
 |[],_=>⟨[],trivial,rfl,fun v hv=>nomatch hv⟩
 |v::vs,hp=>by
  obtain⟨fs,k1,k2,k3⟩:=jy.rp (vs:=vs) fun b hb=>hp b (bA _ hb);obtain⟨a,o,n,x,t,y,u,rfl,e,c,d⟩:=hp v bu;refine⟨.int x t::fs,KatTups.cons e c d rfl k1,by simp[k2],fun v hv=>?_⟩;rcases bn.mp hv with z|z
  .exact⟨x,t,z⟩
  .exact k3 v z
section
variable {prog:Program} {w:World} {A:Around} {E:Value->Shared->Prop} {s:Shared}
theorem DG{vs:List Value}(hp:jy s.heap vs):Eu prog w A s (tuples' true) (vs.toArray.zip vs.toArray):=by
 have mem:∀x∈(vs.toArray.zip vs.toArray).toList,x.1∈vs:=by
  intro x hx;rw[Array.toList_zip] at hx;exact(q9 hx).1
 intro x y hx hy Q E' q;obtain⟨a,o,n,x1,t1,x2,t2,e1,eo,_,ed⟩:=hp x.1 (mem x hx);obtain⟨b,o',n',y1,u1,y2,u2,e2,eo',_,ed'⟩:=hp y.1 (mem y hy);rw[e1,e2];refine kat_lt eo ed eo' ed' (kat_cons (zO ?_));by_cases h1:x1=y1
 .rw[fT.mpr h1];refine kat_yes (kat_cons (zO ?_));by_cases h2:x2=y2
  .rw[fT.mpr h2];exact kat_yes (kat_nil (q _))
  .rw[lL.mpr h2];exact kat_no (kat_one _ _ (lt_int (q _)))
 .rw[lL.mpr h1];exact kat_no (oneLt_int (q _))
theorem IN{vs:List Value}:((vs.toArray.zip vs.toArray).map (·.2)).toList=vs:=by
 rw[q0,Array.toList_zip];show (vs.zip vs).map (·.2)=vs;rw[<-List.unzip_snd,List.unzip_zip_right (aU _)]
theorem qj{a:Addr}{vs:List Value}{n:Nat}{P:PySem.Fin->Shared->Prop}(ho:s.heap.get? a=some (seqObj "list" vs.toArray n))(hp:jy s.heap vs)(hz:vs.length<=4096)(h:∀ (out:Array Value),out.toList.Perm vs->P (.done (.ret .none)) { s with heap:=sortedHeap s.heap a vs out }):
  wpAny (model prog w) A (Builtin.«list.sort» ⟨[.ref a],[]⟩) P E s:=by
 rw[list_sort_plain];have ha:a<s.heap.objs.size:=aT ho;have Uk:vs.toArray.size<=sizeLine:=by rw[cJ,gJ];lia
 refine aA (listItems_at ho rfl ?_);refine aA (lV ho rfl ?_ Uk (cx _));obtain⟨e1,Mw⟩:∃e1,(s.heap.update a (Obj.mapSeq fun _=>#[])).get? a=some (seqObj "list" #[] e1):=⟨_,oC ho (fun _=>#[])⟩
 refine aA (rn Mw rfl ?_);refine aA (vv ?_ (by show vs.length<=_;rw[gJ];lia));refine aA (vy ?_ (cx _));refine hJ ?_;have O7:(((s.heap.update a (Obj.mapSeq fun _=>#[])).push (seqObj "tuple" vs.toArray 0)).push (seqObj "list" #[] 0)).get? a=some (seqObj "list" #[] e1):=by
  rw[iL _ _ _ (by rw[iU,g_];exact aW (ff ha)),iL _ _ _ (by rw[g_];exact aW ha)];exact Mw
 have B5:jy (((s.heap.update a (Obj.mapSeq fun _=>#[])).push (seqObj "tuple" vs.toArray 0)).push (seqObj "list" #[] 0)) vs:=by
  intro v hv;obtain⟨b,o,n,x,t,y,u,ev,e,c,d⟩:=hp v hv;have hb:b<s.heap.objs.size:=aT e;have pP:b≠a:=by
   rintro rfl;rw[ho] at e;cases e;exact absurd (Value.type.inj c) (by decide)
  refine⟨b,o,n,x,t,y,u,ev,?_,c,d⟩;rw[iL _ _ _ (by rw[iU,g_];exact aW (ff hb)),iL _ _ _ (by rw[g_];exact aW hb),oj _ _ _ _ pP];exact e
 show wpAny (model prog w) A _ P E { s with heap:=((s.heap.update a (Obj.mapSeq fun _=>#[])).push (seqObj "tuple" vs.toArray 0)).push (seqObj "list" #[] 0) };dsimp only;have d7:∀aZ:SortSt,(arrOf aZ).Perm (vs.toArray.zip vs.toArray)->P (.done (.ret .none)) { s with heap:=sortedHeap s.heap a vs ((arrOf aZ).map (·.2)) }:=by
  intro aZ Ul;refine h _ ?_;have:=(lr.mp Ul).map (·.2);rw[<-q0,<-q0,IN] at this;exact this
 have Z3:(vs.toArray.zip vs.toArray).size=vs.length:=by simp
 by_cases h2:vs.toArray.size<2
 .rw[ak h2,ak h2];refine aA (wpAny_pure ?_);rw[StateT.run_pure];refine aA (wpAny_pure ?_);dsimp only;refine aA (rn O7 rfl ?_);refine aA (lV O7 rfl ?_ (cx _) (by show ((vs.toArray.zip vs.toArray).map (·.2)).size<=_;rw[io,Z3,gJ];lia));simp only[zw,i8,eK];exact wpAny_pure (d7 (SortSt.mk' general' (vs.toArray.zip vs.toArray) #[] 7 none) (vk _))
 .rw[av h2,av h2];have eX:2<=vs.length:=by rw[cJ] at h2;lia
  obtain⟨fs,k1,k2,k3⟩:=B5.rp;refine aA (kat_kind (T:=.type "int") k1 (by lia) (fun v hv=>?_) rfl ?_)
  .obtain⟨m,t,rfl⟩:=k3 v hv;exact .now
  refine aA (jn (ux (a₀:=vs.toArray.zip vs.toArray) (κ:=tuples' true) (st:=SortSt.mk' (tuples' true) (vs.toArray.zip vs.toArray) #[] 7 none)
   (Q:=fun _ aZ=>(arrOf aZ).Perm (vs.toArray.zip vs.toArray)/\failedOf aZ=none) (DG B5) (vk _) rfl rfl rfl fun aZ b1 b2=>⟨b1,b2⟩) ?_ fun _ _ e=>e)
  rintro⟨⟨⟩,aZ⟩ s' ⟨rfl,Ul,hf⟩;dsimp only;refine aA (rn O7 rfl ?_);refine aA (lV O7 rfl ?_ (cx _) (by refine ba (rh ((io ..).trans (Ul.size_eq.trans Z3))) ?_;rw[gJ];lia));rw[hf];simp only[zw,i8,eK];exact wpAny_pure (d7 aZ Ul)
theorem v8{l:Addr}{vs:List Value}{Q:Value->Shared->Prop}(hl:s.heap.IsList l vs.toArray)(hp:jy s.heap vs)(hz:vs.length<=4096)(h:∀ (out:Array Value),out.toList.Perm vs->Q (.ref (s.heap.objs.size+1)) { s with heap:=sortedAll s.heap vs out }):
  wpAny (model prog w) A (call (.builtin "sorted") [.ref l]) Q E s:=by
 have Uk:vs.length<=sizeLine:=by rw[gJ];lia
 refine Calls.call_function_entry kind_sorted plain_sorted entry_sorted (args_sorted1 _) ?_;unfold Builtin.«sorted»;refine aA (m:=checkCount "sorted" 1 1 _) (wpAny_pure ?_);refine aA (collect_list hl ?_ Uk);refine aA (vy ?_ Uk);have ir:((s.heap.push (seqObj "list" #[] 0)).update s.heap.objs.size (Obj.mapSeq (·++vs.toArray))).objs.size=s.heap.objs.size+1:=by
  rw[g_,iU]
 have C5:(((s.heap.push (seqObj "list" #[] 0)).update s.heap.objs.size (Obj.mapSeq (·++vs.toArray))).push (seqObj "list" vs.toArray 0)).get? (s.heap.objs.size+1)=some (seqObj "list" vs.toArray 0):=by
  rw[<-ir];exact cB _ rfl
 have xQ:jy (((s.heap.push (seqObj "list" #[] 0)).update s.heap.objs.size (Obj.mapSeq (·++vs.toArray))).push (seqObj "list" vs.toArray 0)) vs:=by
  intro v hv;obtain⟨b,o,n,x,t,y,u,ev,e,c,d⟩:=hp v hv;have hb:b<s.heap.objs.size:=aT e;refine⟨b,o,n,x,t,y,u,ev,?_,c,d⟩;rw[iL _ _ _ (by rw[ir];exact aW (ff hb)),oj _ _ _ _ (aW hb),iL _ _ _ (aW hb)];exact e
 show wpAny _ _ _ _ _ { s with heap:=((s.heap.push (seqObj "list" #[] 0)).update s.heap.objs.size (Obj.mapSeq (·++vs.toArray))).push (seqObj "list" vs.toArray 0) };rw[ir];refine aA (hJ (jZ slot_list_sort ⟨_,C5,rfl⟩ entry_list_sort (qj C5 xQ hz fun out a1=>⟨_,rfl,?_⟩) (args_list_sort _)));exact wpAny_pure ⟨_,rfl,h out a1⟩
end
theorem mU:∀ {as:List Addr} {its:List Value},a8 (as.map V.ref) its->its=as.map Value.ref
 |[],_,r=>by cases r;rfl
 |a::as,_,r=>by
  cases r with
  |cons r rr=>
   obtain rfl:=(show _=Value.ref a from r)
   rw[mU rr];rfl
theorem uy:∀ {as:List Addr},a8 (as.map V.ref) (as.map Value.ref)
 |[]=>.nil
 |_::_=>.cons rfl uy
theorem DH{as:List Addr}{vs:List Value}(h:vs.Perm (as.map Value.ref)):∃yL:List Addr,vs=yL.map Value.ref/\yL.Perm as:=by
 let un:Value->Addr:=fun v=>match v with|.ref a=>a|_=>0
 refine⟨vs.map un,?_,?_⟩
 .rw[dQ];have:∀v∈vs,(Value.ref ∘ un) v=v:=by
   intro v hv;obtain⟨a,_,rfl⟩:=bB.mp (h.mem_iff.mp hv);rfl
  conv=>lhs;rw[<-oJ vs]
  exact jT fun v hv=>(this v hv).symm
 .have:=h.map un;rw[dQ] at this;have e:as.map (un ∘ Value.ref)=as:=by
   conv=>rhs;rw[<-oJ as]
   exact jT fun a _=>rfl
  rw[e] at this;exact this
def FG(K:PySem.W.Frag):List V->Hp->VK->Prop:=fun xs H Q=>∃ (l:Addr) (as:List Addr),xs=[.ref l]/\a9 K H l (as.map V.ref)/\(∀a∈as,∃x y:Int,bU K H a [.int x,.int y])/\as.length<=4096/\
 ∀ (D:Addr) (yL:List Addr),H D=none->yL.Perm as->Q (.ref D) (upd H D (.lst (yL.map V.ref)))
theorem Av{X:Cx}:fj X (.builtin "sorted") (FG X.K):=by
 intro af s σ H xs us Q I r h;obtain⟨l,as,rfl,hl,hp,hz,q⟩:=h;obtain⟨u1,rfl,r1⟩:=r.one;obtain rfl:u1=Value.ref l:=r1;obtain⟨its,rv,pl,_⟩:=I.list hl;have Ao:=mU rv;subst Ao;have hpv:jy s.heap (as.map Value.ref):=by
  intro v hv;obtain⟨a,ha,rfl⟩:=bB.mp hv;obtain⟨x,y,Aw⟩:=hp a ha;obtain⟨its,r,⟨o,e,c,n,d⟩,_⟩:=I.tuple Aw;obtain⟨u1,u2,rfl,r1,r2⟩:=r.two;obtain⟨t,rfl⟩:=r1;obtain⟨t',rfl⟩:=r2;exact⟨a,o,n,x,t,y,t',rfl,e,c,d⟩
 refine v8 pl.isList hpv (by rw[aR];exact hz) fun out Q5=>?_;obtain⟨yL,eo,pa⟩:=DH Q5;have Dy:out=(yL.map Value.ref).toArray:=by rw[<-eo]
 subst Dy;have V_:((s.heap.push (seqObj "list" #[] 0)).update s.heap.objs.size (Obj.mapSeq (·++(as.map Value.ref).toArray))).objs.size=s.heap.objs.size+1:=by rw[g_,iU]
 have k1:∀b u,s.heap.get? b=some u->(((s.heap.push (seqObj "list" #[] 0)).update s.heap.objs.size (Obj.mapSeq (·++(as.map Value.ref).toArray))).push (seqObj "list" (as.map Value.ref).toArray 0)).get? b=some u:=fun b u e=>by
  have hb:b<s.heap.objs.size:=aT e;rw[iL _ _ _ (by rw[V_];exact aW (ff hb)),oj _ _ _ _ (aW hb),iL _ _ _ (aW hb)];exact e
 have C5:(((s.heap.push (seqObj "list" #[] 0)).update s.heap.objs.size (Obj.mapSeq (·++(as.map Value.ref).toArray))).push (seqObj "list" (as.map Value.ref).toArray 0)).get? (s.heap.objs.size+1)=some (seqObj "list" (as.map Value.ref).toArray 0):=by
  rw[<-V_];exact cB _ rfl
 have O8:(((s.heap.push (seqObj "list" #[] 0)).update s.heap.objs.size (Obj.mapSeq (·++(as.map Value.ref).toArray))).push (seqObj "list" (as.map Value.ref).toArray 0)).objs.size=s.heap.objs.size+2:=by rw[iU,V_]
 show EP X af σ Q (.ref (s.heap.objs.size+1)) { s with heap:=sortedHeap (((s.heap.push (seqObj "list" #[] 0)).update s.heap.objs.size (Obj.mapSeq (·++(as.map Value.ref).toArray))).push (seqObj "list" (as.map Value.ref).toArray 0)) (s.heap.objs.size+1) (as.map Value.ref) (yL.map Value.ref).toArray };revert k1 C5 O8;generalize ((s.heap.push (seqObj "list" #[] 0)).update s.heap.objs.size (Obj.mapSeq (·++(as.map Value.ref).toArray))).push (seqObj "list" (as.map Value.ref).toArray 0)=h1;intro k1 C5 O8;obtain⟨e1,Mw⟩:∃e1,(h1.update (s.heap.objs.size+1) (Obj.mapSeq fun _=>(#[]:Array Value))).get? (s.heap.objs.size+1)=some (seqObj "list" #[] e1):=⟨_,oC C5 (fun _=>#[])⟩
 have O7:(((h1.update (s.heap.objs.size+1) (Obj.mapSeq fun _=>(#[]:Array Value))).push (seqObj "tuple" (as.map Value.ref).toArray 0)).push (seqObj "list" #[] 0)).get? (s.heap.objs.size+1)=some (seqObj "list" #[] e1):=by
  rw[iL _ _ _ (by rw[iU,g_,O8];exact aW (ff (jk _))),iL _ _ _ (by rw[g_,O8];exact aW (jk _))];exact Mw
 obtain⟨e2,ho7⟩:∃e2,(sortedHeap h1 (s.heap.objs.size+1) (as.map Value.ref) (yL.map Value.ref).toArray).get? (s.heap.objs.size+1)=some (seqObj "list" (yL.map Value.ref).toArray e2):=⟨_,oC O7 (fun _=>(yL.map Value.ref).toArray)⟩
 have keep:∀b u,s.heap.get? b=some u->(sortedHeap h1 (s.heap.objs.size+1) (as.map Value.ref) (yL.map Value.ref).toArray).get? b=some u:=fun b u e=>by
  have hb:b<s.heap.objs.size:=aT e;unfold sortedHeap;rw[oj _ _ _ _ (aW (ff hb)),iL _ _ _ (by rw[iU,g_,O8];exact aW (ff (ff (ff hb)))),iL _ _ _ (by rw[g_,O8];exact aW (ff (ff hb))),oj _ _ _ _ (aW (ff hb))];exact k1 b u e
 have B6:s.heap.get? (s.heap.objs.size+1)=none:=qU (by lia);refine⟨.ref (s.heap.objs.size+1),_,I.BM (t':=s.toks) (o:=.lst (yL.map V.ref)) keep B6 ⟨?_,yL.map Value.ref,e2,uy,ho7⟩,rfl,q _ yL (I.cz.vW B6) pa⟩;rw[aR,pa.length_eq];exact ba hz (by decide)
open PySem PySem.Spec PyProof.Rows
theorem de(sb:Heap.SameBut c h h')(n:b≠c)(e:h.get? b=some o):h'.get? b=some o:=(sb.2 b n).trans e
theorem f9(r:h.IsTupleIter it t k)(sb:Heap.SameBut c h h')(n:it≠c):h'.IsTupleIter it t k:=r.at fun o e=>de sb n e
theorem rZ(r:h.IsTuple t xs)(sb:Heap.SameBut c h h')(n:t≠c):h'.IsTuple t xs:=let ⟨o,e,z⟩:=r;⟨o,de sb n e,z⟩
section
variable {prog:Program} {w:World} {A:Around} {E:Value->Shared->Prop} {s:Shared}
theorem DI{z ti tq i1 i2 t1 t2:Addr}{k:Nat}{xs ys:Array Value}{x y a b:Value}{Q:Value->Shared->Prop}(dj:ZipApart z ti tq i1 i2 t1 t2)(gz:IsZip s.heap z ti tq .none)(gi:IsPair s.heap ti (.ref i1) (.ref i2))(gq:IsPair s.heap tq a b)(r1:s.heap.IsTupleIter i1 t1 k)(r2:s.heap.IsTupleIter i2 t2 k)(g1:s.heap.IsTuple t1 xs)(g2:s.heap.IsTuple t2 ys)(ex:xs[k]?=some x)(ey:ys[k]?=some y)(q:∀h',IsZip h' z ti tq (rawInt s.heap.objs.size)->IsPair h' tq x y->h'.IsTupleIter i1 t1 (k+1)->h'.IsTupleIter i2 t2 (k+1)->IsPair h' s.heap.objs.size x y->(∀c o,c≠z->c≠tq->c≠i1->c≠i2->s.heap.get? c=some o->h'.get? c=some o)->Q (.ref s.heap.objs.size) { s with heap:=h' }):
  wpAny (model prog w) A (Builtin.«zip.__next__» ⟨[.ref z],[]⟩) (fun d7 s'=>∃v,d7=.done (.ret v)/\Q v s') E s:=by
 change wpAny _ _ (field (.ref z) 2 >>= _) _ _ _;refine aA (fQ gz rfl (x:=.bool false) rfl ?_);change wpAny _ _ (field (.ref z) 3 >>= _) _ _ _;refine aA (fQ gz rfl (x:=.ref ti) rfl (aA (jH gi rfl ?_)));change wpAny _ _ (Builtin.SmallTypes.ownedTupleIsFree (.ref z) >>= _) _ _ _;refine aA ?_;unfold Builtin.SmallTypes.ownedTupleIsFree;refine aA (fQ gz rfl (x:=.none) rfl (wpAny_pure ?_));simp only[jo];refine aA (fU (aA (fQ gz rfl (x:=.ref tq) rfl ?_)));refine aA (on gz (by simp) fun m1 IP qf=>?_);replace IP:IsZip m1 z ti tq .ellipsis:=IP;refine aA ?_;simp only[zD,List.zipIdx_nil,oz,oB];refine aA (aA (wpAny_onRaise ?_));change wpAny _ _ (Builtin.SmallTypes.nextOf (.ref i1) >>= _) _ _ _;refine aA (l7 (f9 r1 qf dj.i1z) (rZ g1 qf dj.l1z) ex fun m2 r12 mL=>wpAny_pure ?_);have Z4:IsPair m2 tq a b:=de mL dj.TOi1 (de qf dj.TOz gq);refine aA (jH Z4 rfl (aA (wpAny_updateSeq_pair Z4 fun m3 Wa IQ=>?_)));replace Wa:IsPair m3 tq x b:=Wa;refine aA (wpAny_letGo (wpAny_pure ?_));refine aA (aA (wpAny_onRaise ?_));change wpAny _ _ (Builtin.SmallTypes.nextOf (.ref i2) >>= _) _ _ _;refine aA (l7 (f9 (f9 (f9 r2 qf dj.i2z) mL dj.i12.symm) IQ dj.TOi2.symm) (rZ (rZ (rZ g2 qf dj.l2z) mL dj.l2i1) IQ dj.l2TO) ey fun m4 r24 Q6=>wpAny_pure ?_);have Z5:IsPair m4 tq x b:=de Q6 dj.TOi2 Wa;refine aA (jH Z5 rfl (aA (wpAny_updateSeq_pair Z5 fun m5 Um Q7=>?_)));replace Um:IsPair m5 tq x y:=Um;refine aA (wpAny_letGo (wpAny_pure (wpAny_pure ?_)));refine aA (jH Um rfl (aA (vv ?_)));have sz:m5.objs.size=s.heap.objs.size:=by rw[Q7.1,Q6.1,IQ.1,mL.1,qf.1]
 have Z6:IsZip m5 z ti tq .ellipsis:=de Q7 dj.TOz.symm (de Q6 dj.i2z.symm (de IQ dj.TOz.symm (de mL dj.i1z.symm IP)));have kp5:∀c o,c≠z->c≠tq->c≠i1->c≠i2->s.heap.get? c=some o->m5.get? c=some o:=fun c o c1 c2 c3 c4 e=>
  de Q7 c2 (de Q6 c4 (de IQ c2 (de mL c3 (de qf c1 e))))
 have r15:m5.IsTupleIter i1 t1 (k+1):=f9 (f9 (f9 r12 IQ dj.TOi1.symm) Q6 dj.i12) Q7 dj.TOi1.symm;have r25:m5.IsTupleIter i2 t2 (k+1):=f9 r24 Q7 dj.TOi2.symm;have zl:z<m5.objs.size:=aT Z6;change wpAny _ _ (Builtin.SmallTypes.ownedTupleHandOut (.ref z) (.ref m5.objs.size) >>= _) _ _ _;refine aA ?_;unfold Builtin.SmallTypes.ownedTupleHandOut;have gz6:IsZip (m5.push { cls:=.type "tuple",data:=.seq #[x,y] }) z ti tq .ellipsis:=bL _ Z6;refine aA (on gz6 (by simp) fun m7 Wb Z7=>?_);replace Wb:IsZip m7 z ti tq (rawInt m5.objs.size):=Wb;refine on Wb (by simp) fun m8 Uo Z8=>?_;replace Uo:IsZip m8 z ti tq (rawInt m5.objs.size):=Uo;have up:∀c o,c≠z->m5.get? c=some o->m8.get? c=some o:=fun c o c1 e=>de Z8 c1 (de Z7 c1 (bL _ e));have Z9:IsPair m8 m5.objs.size x y:=de Z8 (fA zl) (de Z7 (fA zl) (cB _ rfl));rw[sz] at Uo Z9;refine wpAny_pure ⟨_,rfl,?_⟩;change Q (.ref m5.objs.size) _;rw[sz];exact q m8 Uo (up _ _ dj.TOz Um) (r15.at fun o e=>up _ o dj.i1z e) (r25.at fun o e=>up _ o dj.i2z e) Z9 fun c o c1 c2 c3 c4 e=>up c o c1 (kp5 c o c1 c2 c3 c4 e)
theorem FH(hh:A.handled=none)(dj:ZipApart z ti tq i1 i2 t1 t2)(gz:IsZip s.heap z ti tq .none)(gi:IsPair s.heap ti (.ref i1) (.ref i2))(r1:s.heap.IsTupleIter i1 t1 k)(g1:s.heap.IsTuple t1 xs)(ex:xs[k]?=none)(q:∀h' e,(∀c o,c≠z->c≠i1->s.heap.get? c=some o->h'.get? c=some o)->(∃o,h'.get? e=some o/\o.cls=.type "StopIteration")->E (.ref e) { s with heap:=h' }):
  wpAny (model prog w) A (Builtin.«zip.__next__» ⟨[.ref z],[]⟩) Q E s:=by
 change wpAny _ _ (field (.ref z) 2 >>= _) _ _ _;refine aA (fQ gz rfl (x:=.bool false) rfl ?_);change wpAny _ _ (field (.ref z) 3 >>= _) _ _ _;refine aA (fQ gz rfl (x:=.ref ti) rfl (aA (jH gi rfl ?_)));change wpAny _ _ (Builtin.SmallTypes.ownedTupleIsFree (.ref z) >>= _) _ _ _;refine aA ?_;unfold Builtin.SmallTypes.ownedTupleIsFree;refine aA (fQ gz rfl (x:=.none) rfl (wpAny_pure ?_));simp only[jo];refine aA (fU (aA (fQ gz rfl (x:=.ref tq) rfl ?_)));refine aA (on gz (by simp) fun m1 IP qf=>?_);replace IP:IsZip m1 z ti tq .ellipsis:=IP;refine aA ?_;simp only[zD,List.zipIdx_nil,oz,oB];refine aA (aA (wpAny_onRaise ?_));change wpAny _ _ (Builtin.SmallTypes.nextOf (.ref i1) >>= _) _ _ _;refine aA (pA hh (f9 r1 qf dj.i1z) (rZ g1 qf dj.l1z) ex fun m2 e mL he=>?_);obtain⟨oe,Wc,Z_⟩:=he;have Up:IsZip m2 z ti tq .ellipsis:=mL _ _ dj.i1z.symm IP;have nez:e≠z:=fun y=>by subst y;rw[Up] at Wc;cases Wc;simp at Z_
 exact on Up (by simp) fun m3 _ IQ=>q m3 e (fun c o c1 c3 y=>de IQ c1 (mL _ _ c3 (de qf c1 y))) ⟨oe,de IQ nez Wc,Z_⟩
theorem Ax(dj:ZipApart z ti tq i1 i2 t1 t2)(gz:IsZip s.heap z ti tq .none)(gi:IsPair s.heap ti (.ref i1) (.ref i2))(gq:IsPair s.heap tq a b)(r1:s.heap.IsTupleIter i1 t1 k)(r2:s.heap.IsTupleIter i2 t2 k)(g1:s.heap.IsTuple t1 xs)(g2:s.heap.IsTuple t2 ys)(ex:xs[k]?=some x)(ey:ys[k]?=some y)(q:∀h',IsZip h' z ti tq (rawInt s.heap.objs.size)->IsPair h' tq x y->h'.IsTupleIter i1 t1 (k+1)->h'.IsTupleIter i2 t2 (k+1)->IsPair h' s.heap.objs.size x y->(∀c o,c≠z->c≠tq->c≠i1->c≠i2->s.heap.get? c=some o->h'.get? c=some o)->Q (some (.ref s.heap.objs.size)) { s with heap:=h' }):
  wpAny (model prog w) A (pyNext (.ref z)) Q E s:=by
 have ty:s.TypeIs (.ref z) "zip":=⟨_,gz,rfl⟩
 unfold pyNext;refine aA (j_ (lF (name:=Str.ofString "__next__") ty F.slot_zip_next (jZ F.slot_zip_next ty F.entry_zip_next ?_ (F.args_zip_next_1 _))));exact DI dj gz gi gq r1 r2 g1 g2 ex ey fun h' a1 a2 a3 a4 a5 a6=>wpAny_pure (q h' a1 a2 a3 a4 a5 a6)
theorem Ay(hh:A.handled=none)(dj:ZipApart z ti tq i1 i2 t1 t2)(gz:IsZip s.heap z ti tq .none)(gi:IsPair s.heap ti (.ref i1) (.ref i2))(r1:s.heap.IsTupleIter i1 t1 k)(g1:s.heap.IsTuple t1 xs)(ex:xs[k]?=none)(q:∀h',(∀c o,c≠z->c≠i1->s.heap.get? c=some o->h'.get? c=some o)->Q none { s with heap:=h' }):wpAny (model prog w) A (pyNext (.ref z)) Q E s:=by
 have ty:s.TypeIs (.ref z) "zip":=⟨_,gz,rfl⟩
 unfold pyNext;refine aA (j_ (lF (name:=Str.ofString "__next__") ty F.slot_zip_next (jZ F.slot_zip_next ty F.entry_zip_next (FH hh dj gz gi r1 g1 ex fun h' e hk he=>?_) (F.args_zip_next_1 _))));obtain⟨o,ho,hc⟩:=he;exact aA (zN (T:="StopIteration") (b:=true) ⟨o,ho,hc⟩ isSubtype_stop (wpAny_pure (q _ hk)))
abbrev zT(t:Addr):Obj:={ cls:=.type "tuple_iterator",data:=.fields #[.ref t,.int 0 0] }
abbrev Uq(h:Heap)(t1 t2:Addr):Heap:=((h.push (zT t1)).push (zT t2)).push { cls:=.type "tuple",data:=.seq #[.ref h.objs.size,.ref (h.push (zT t1)).objs.size] }
abbrev Ur(h:Heap)(t1 t2:Addr):Heap:=(Uq h t1 t2).push { cls:=.type "tuple",data:=.seq #[.none,.none] }
abbrev O9(h:Heap)(t1 t2:Addr):Heap:=(Ur h t1 t2).push { cls:=.type "zip",data:=.fields #[.none,.bool false,.bool false,.ref ((h.push (zT t1)).push (zT t2)).objs.size,.ref (Uq h t1 t2).objs.size] }
theorem FI(t1 t2:Addr)(xs ys:Array Value):
  Meets (Builtin.«zip.__new__» ⟨[.type "zip",.ref t1,.ref t2],[]⟩) (fun _ R s=>s.heap.IsTuple t1 xs/\s.heap.IsTuple t2 ys/\R (.ok (.ret (.ref (Ur s.heap t1 t2).objs.size))) { s with heap:=O9 s.heap t1 t2 }):=
 .of_wp fun prog w A R s h=>by
  obtain⟨hp,g,d,tk,os⟩:=s;obtain⟨g1,g2,h⟩:=h;have aaf:=sub_zip;have gA:Heap.IsTuple (Shared.heap ⟨hp,g,d,tk,os⟩) t1 xs:=g1;have gB:Heap.IsTuple (Shared.heap ⟨hp.push (zT t1),g,d,tk,os⟩) t2 ys:=let ⟨o,e,z⟩:=g2;⟨o,bL _ e,z⟩
  wp_walk using qZ gA,qZ gB
  exact⟨_,rfl,h⟩
theorem DJ(g1:s.heap.IsTuple t1 xs)(g2:s.heap.IsTuple t2 ys)(q:∀h',IsZip h' (s.heap.objs.size+4) (s.heap.objs.size+2) (s.heap.objs.size+3) .none->IsPair h' (s.heap.objs.size+2) (.ref s.heap.objs.size) (.ref (s.heap.objs.size+1))->IsPair h' (s.heap.objs.size+3) .none .none->
   h'.IsTupleIter s.heap.objs.size t1 0->h'.IsTupleIter (s.heap.objs.size+1) t2 0->(∀c o,s.heap.get? c=some o->h'.get? c=some o)->Q (.ref (s.heap.objs.size+4)) { s with heap:=h' }):
  wpAny (model prog w) A (call (.type "zip") [.ref t1,.ref t2]) Q E s:=by
 refine callType_new F.called_zip (by decide) (F.typeCall_zip_2 _ _) (F.newCall_zip_2 _ _) (fun obj=>F.args_object_init_3 obj _ _) F.entry_zip_new (FI t1 t2 xs ys) ⟨g1,g2,?_⟩;have n1:(s.heap.push (zT t1)).objs.size=s.heap.objs.size+1:=im ..;have n2:((s.heap.push (zT t1)).push (zT t2)).objs.size=s.heap.objs.size+2:=by rw[im,n1]
 have n3:(Uq s.heap t1 t2).objs.size=s.heap.objs.size+3:=by rw[im,n2]
 have n4:(Ur s.heap t1 t2).objs.size=s.heap.objs.size+4:=by rw[im,n3]
 have e5:(O9 s.heap t1 t2).get? (Ur s.heap t1 t2).objs.size=some _:=cB _ rfl;have e4:(O9 s.heap t1 t2).get? (Uq s.heap t1 t2).objs.size=some _:=bL _ (cB _ rfl);have e3:(O9 s.heap t1 t2).get? ((s.heap.push (zT t1)).push (zT t2)).objs.size=some _:=bL _ (bL _ (cB _ rfl));have e2:(O9 s.heap t1 t2).get? (s.heap.push (zT t1)).objs.size=some _:=bL _ (bL _ (bL _ (cB _ rfl)));have e1:(O9 s.heap t1 t2).get? s.heap.objs.size=some _:=bL _ (bL _ (bL _ (bL _ (cB _ rfl))));change _/\_;rw[n2,n3,n4] at e5;rw[n1,n2] at e3;rw[n3] at e4;rw[n1] at e2;rw[n4];exact⟨⟨_,e5,rfl⟩,q _ e5 e3 e4 ⟨_,e1,rfl,rfl⟩ ⟨_,e2,rfl,rfl⟩ fun c o y=>
  bL _ (bL _ (bL _ (bL _ (bL _ y))))⟩
end
theorem aS.IS{X:Cx}{af:List (Addr×Obj)}{σ:St}{H:Hp}{s:Shared}{h':Heap}{t':Nat}{ch:List Addr}(I:aS X af σ H s)(fe:∀e∈ch,gf X af H e)(k:∀b o,b∉ch->s.heap.get? b=some o->h'.get? b=some o):aS X af σ H { s with heap:=h',toks:=t' }:=by
 have KI:∀b u,H b=some u->b∉ch:=fun b u e z=>by rw[(fe b z).1] at e;cases e
 refine I.step (g':=s.gens) (d':=s.drawn) (ch:=ch) (fun b hb=>?_) (fun b o _ _ hc e _=>k b o hc e) (fun b o _ _ hc e _=>⟨o.slots,k b o hc e⟩) (fun _ _ _ _ n=>n) (fun b o hc e=>⟨o,k b o hc e⟩) (fun _ _ e=>e) (fun _ _ _ e=>e) (fun b ps e=>⟨#[],by rw[e];simp⟩) (fun m hm=>?_) (fun b u e=>?_) I.bare
 .obtain⟨_,f1,_,f3,f4,f5⟩:=fe b hb;exact⟨f3,f1,f4,f5⟩
 .obtain⟨o,es,ep,ho,r⟩:=hm;exact⟨o,es,ep,k _ o (fun z=>(fe _ z).2.1 rfl) ho,r⟩
 .refine(I.cz b u e).iV (fun c v hc q=>k c v ?_ q) (fun _ q=>q) fun _ _ q=>q;rcases hc with z|z
  .rw[z];exact KI b u e
  .exact KI c _ z
theorem aS.IT{X:Cx}{af:List (Addr×Obj)}{σ:St}{H:Hp}{s:Shared}{h':Heap}{p:Addr}{t':Nat}{ch:List Addr}{xs:List V}{its:List Value}(I:aS X af σ H s)(fe:∀e∈ch,gf X af H e)(k:∀b o,b∉ch->s.heap.get? b=some o->h'.get? b=some o)(hp:s.heap.objs.size<=p)(hl:xs.length<=sizeLine)(r:a8 xs its)(ht:h'.get? p=some { cls:=.type "tuple",data:=.seq its.toArray }):aS X af σ (upd H p (.tup xs)) { s with heap:=h',toks:=t' }:=by
 have hn:=I.cz.fresh hp;have ne:∀b o,s.heap.get? b=some o->b≠p:=fun b o q=>aW (br (aT q) hp);have KI:∀b u,H b=some u->b∉ch:=fun b u e z=>by rw[(fe b z).1] at e;cases e
 refine I.step (g':=s.gens) (d':=s.drawn) (ch:=ch) (fun b hb=>?_) (fun b o _ _ hb q _=>k b o hb q) (fun b o _ _ hb q _=>⟨o.slots,k b o hb q⟩) (fun b o hb q n=>by rw[ao (ne b o q)];exact n) (fun b o hb q=>⟨o,k b o hb q⟩)
  (fun b ys q=>by rw[ao (am q hn)];exact q) (fun b o u q=>by rw[ao (am q hn)];exact q) (fun b ps q=>⟨#[],by rw[ao (am q hn),q];simp⟩) (fun m hm=>?_) (fun b o q=>?_) I.bare
 .obtain⟨_,f1,_,f3,f4,f5⟩:=fe b hb;exact⟨f3,f1,f4,f5⟩
 .obtain⟨o,es,ep,q,d,r'⟩:=hm;exact⟨o,es,ep,k _ _ (fun z=>(fe _ z).2.1 rfl) q,d,r'⟩
 .by_cases hb:b=p
  .subst hb;rw[ae] at q;cases q;exact⟨hl,its,r,_,ht,rfl,_,rfl,rfl⟩
  .rw[ao hb] at q;refine(I.cz b o q).iV (fun c u hc z=>k c u ?_ z) (fun c z=>by rw[ao (am z hn)];exact z) fun c ys z=>by rw[ao (am z hn)];exact z
   rcases hc with rfl|hc
   .exact KI _ _ q
   .exact KI _ _ hc
def O_(K:PySem.W.Frag)(a b:Addr):It:=
 ⟨fun i H=>∃xs ys x y,bU K H a xs/\bU K H b ys/\xs[i]?=some x/\ys[i]?=some y,fun i H v H'=>∃p x y,v=.ref p/\H p=none/\H'=upd H p (.tup [x,y])/\(∀xs,bU K H a xs->xs[i]?=some x)/\∀ys,bU K H b ys->ys[i]?=some y,fun i H=>∃xs,bU K H a xs/\xs.length<=i⟩
theorem FJ{P:Program}{w:World}{K:PySem.W.Frag}{es:List Expr}{x1:Nat}{pos:Pos}(a b z ti tq i1 i2:Addr)(dj:ZipApart z ti tq i1 i2 a b):
  xa P w K (.Tuple es x1 pos) (O_ K a b) [z,ti,tq,i1,i2] z (fun i h=>IsZip h z ti tq .none/\IsPair h ti (.ref i1) (.ref i2)/\(∃u v,IsPair h tq u v)/\h.IsTupleIter i1 a i/\h.IsTupleIter i2 b i) where
 mem:=by simp
 obj:=fun i h st c hc=>by
  obtain⟨gz,gi,⟨u,v,gq⟩,⟨o1,q1,c1,d1⟩,⟨o2,q2,c2,d2⟩⟩:=st;simp only[bn,jV,iq] at hc;rcases hc with rfl|rfl|rfl|rfl|rfl
  .exact⟨_,gz,fun v z=>by have z':Data.fields _=Data.cell v:=z;cases z'⟩
  .exact⟨_,gi,fun v z=>by have z':Data.seq _ _=Data.cell v:=z;cases z'⟩
  .exact⟨_,gq,fun v z=>by have z':Data.seq _ _=Data.cell v:=z;cases z'⟩
  .exact⟨o1,q1,fun v z=>by rw[d1] at z;cases z⟩
  .exact⟨o2,q2,fun v z=>by rw[d2] at z;cases z⟩
 keep:=fun i h h' st k=>by
  obtain⟨gz,gi,⟨u,v,gq⟩,r1,r2⟩:=st;exact⟨k z (by simp) _ gz,k ti (by simp) _ gi,⟨u,v,k tq (by simp) _ gq⟩,r1.at fun o q=>k i1 (by simp) o q,r2.at fun o q=>k i2 (by simp) o q⟩
 item:=by
  intro X hP hw hK hc i af s σ H E I hf st hg;subst hP hw hK;obtain⟨xs,ys,x,y,hx,hy,ex,ey⟩:=hg;obtain⟨us,rx,px,_⟩:=I.tuple hx;obtain⟨vs,ry,py,_⟩:=I.tuple hy;obtain⟨u,hu,ru⟩:=rx.get ex;obtain⟨v,hv,rv⟩:=ry.get ey;obtain⟨gz,gi,⟨u0,v0,gq⟩,r1,r2⟩:=st;refine Ax dj gz gi gq r1 r2 (show s.heap.IsTuple a us.toArray from px) (show s.heap.IsTuple b vs.toArray from py) (x:=u) (y:=v) (by simpa using hu) (by simpa using hv) fun h1 IP gq1 r11 r21 gp1 kp=>?_;refine⟨_,rfl,wpAny_letOwnedTupleGo_zip IP fun h2 Up mL=>?_⟩;have zl:z<s.heap.objs.size:=aT gz;have nz:s.heap.objs.size≠z:=fA zl;have kp2:∀c o,c∉[z,tq,i1,i2]->s.heap.get? c=some o->h2.get? c=some o:=fun c o hc e=>by
   simp only[bn,jV,iq,not_or] at hc;exact de mL hc.1 (kp c o hc.1 hc.2.1 hc.2.2.1 hc.2.2.2 e)
  have gi2:IsPair h2 ti (.ref i1) (.ref i2):=kp2 _ _ (by simp only[bn,jV,iq,not_or];exact⟨dj.TIz,dj.TITO,dj.TIi1,dj.TIi2⟩) gi;have fe:∀e∈[z,tq,i1,i2],gf X af H e:=fun e he=>hf e (by simp only[bn,jV,iq] at he |-;rcases he with h|h|h|h <;> simp[h]);have I2:aS X af σ (upd H s.heap.objs.size (.tup [x,y])) { s with heap:=h2,toks:=s.toks }:=
   I.IT (its:=[u,v]) fe kp2 (aU _) (by show 2<=sizeLine;decide) (.cons ru (.cons rv .nil)) (de mL nz gp1)
  refine⟨.ref s.heap.objs.size,_,I2,rfl,⟨_,x,y,rfl,I.cz.fresh (aU _),rfl,fun zs hz=>by rw[I.gy hz hx];exact ex,fun zs hz=>by rw[I.gy hz hy];exact ey⟩,⟨Up,gi2,⟨u,v,de mL dj.TOz gq1⟩,f9 r11 mL dj.i1z,f9 r21 mL dj.i2z⟩,fun c hc=>?_⟩;have f0:=(hf c hc).1;have cl:c<s.heap.objs.size:=by
   simp only[bn,jV,iq] at hc;rcases hc with rfl|rfl|rfl|rfl|rfl
   .exact zl
   .exact aT gi
   .exact aT gq
   .obtain⟨o,q,_⟩:=r1;exact aT q
   .obtain⟨o,q,_⟩:=r2;exact aT q
  rw[ao (aW cl)];exact f0
 done:=by
  intro X hP hw hK hc i af s σ H E I hf st hg;subst hP hw hK;obtain⟨xs,hx,hi⟩:=hg;obtain⟨us,rx,px,_⟩:=I.tuple hx;obtain⟨gz,gi,⟨u0,v0,gq⟩,r1,r2⟩:=st;have hl:=rx.length;refine Ay (I.ok.hd hc) dj gz gi r1 (show s.heap.IsTuple a us.toArray from px) (by simp;lia) fun h' kp=>⟨rfl,?_⟩
  have fe:∀e∈[z,i1],gf X af H e:=fun e he=>hf e (by simp only[bn,jV,iq] at he |-;rcases he with h|h <;> simp[h]);refine I.IS (t':=s.toks) fe fun c o hc e=>?_;simp only[bn,jV,iq,not_or] at hc;exact kp c o hc.1 hc.2 e
 self:=fun _ _ _ _ _ st h=>zM st.1 h
section
variable {X:Cx}
def Q8(K:PySem.W.Frag)(ta:TA):TI:=fun σ H R=>ta σ H fun vs H1=>∃a b xs ys,vs=[.ref a,.ref b]/\bU K H1 a xs/\bU K H1 b ys/\xs.length=ys.length/\R (O_ K a b) H1
theorem B7{es:List Expr}{x1:Nat}{Il:Pos}{a b:Expr}{ta:TA}{p pos:Pos}(hg:Gl X "zip")(hm:X.mg "zip"=none)(ha:PA X [a,b] ta)(hs:starEach [a,b] X.env=[(false,eval a X.env),(false,eval b X.env)]:=by rfl)(oX:starEach [b] X.env=[(false,eval b X.env)]:=by rfl):
  PI X (.Tuple es x1 Il) (.Call (.Name "zip" p) [a,b] [] pos) (Q8 X.K ta):=by
 intro af s σ H R I h;refine Call_ (iW I hg hm PyProof.Rows.boot_zip (nM (dJ (ha pos af s σ H _ I h) fun us s1 ⟨vs,H1,I1,r1,q1⟩=>?_) (by rw[hs,oX]) (by rw[oX];rfl)));obtain⟨l,m,xs,ys,rfl,hl,Wd,Aw,q⟩:=q1;obtain⟨u1,u2,rfl,QV,We⟩:=r1.two;obtain rfl:u1=Value.ref l:=QV;obtain rfl:u2=Value.ref m:=We;obtain⟨its,rv,pt,_⟩:=I1.tuple hl;obtain⟨rF,Wf,HI,_⟩:=I1.tuple Wd;have d9:l<s1.heap.objs.size:=by obtain⟨o,e,_⟩:=pt;exact aT e
 have Az:m<s1.heap.objs.size:=by obtain⟨o,e,_⟩:=HI;exact aT e
 refine DJ (show s1.heap.IsTuple l its.toArray from pt) (show s1.heap.IsTuple m rF.toArray from HI) fun h' gz gi gq r1 r2 k=>?_;refine zM gz ?_;have I2:aS X af σ H1 { s1 with heap:=h' }:=I1.kept (t':=s1.toks) k;refine⟨s1.heap.objs.size+4,[s1.heap.objs.size+4,s1.heap.objs.size+2,s1.heap.objs.size+3,s1.heap.objs.size,s1.heap.objs.size+1],_,_,H1,rfl,I2,FJ l m _ _ _ _ _ (zipApart_new d9 Az),⟨gz,gi,⟨_,_,gq⟩,r1,r2⟩,fun b hb=>?_,q⟩;have tG:s1.heap.objs.size<=b:=by
  simp only[bn,jV,iq] at hb;rcases hb with rfl|rfl|rfl|rfl|rfl
  .exact vf _ _
  .exact vf _ _
  .exact vf _ _
  .exact aU _
  .exact vf _ _
 exact I1.w_ tG (I1.cz.fresh tG)
theorem FK{K:PySem.W.Frag}{a b D:Addr}{xs ys:List V}{g:TG}{tt:TT}{te:TE}{d7:Hp->Prop}{σB:St}{H0:Hp}(Aw:xs.length=ys.length)(Pv:Nat->List V->St->Hp->Prop)(h0:Pv 0 [] σB H0)(hl:∀i zs σ H,i<=xs.length->Pv i zs σ H->bU K H a xs/\bU K H b ys)(hs:∀i x y p zs σ H (Kt:V->St->Hp->Prop) (Kf:St->Hp->Prop),xs[i]?=some x->ys[i]?=some y->Pv i zs σ H->H p=none->
   (∀v σ2 H4,H4 D=some (.lst zs)->zs.length<sizeLine->Pv (i+1) (zs++[v]) σ2 (upd H4 D (.lst (zs++[v])))->Kt v σ2 H4)->(∀σ2 H3,Pv (i+1) zs σ2 H3->Kf σ2 H3)->
   g (.ref p) σ (upd H p (.tup [x,y])) fun σ2 H2=>tt σ2 H2 fun b H3=>if b=true then te σ2 H3 fun v H4=>Kt v σ2 H4 else Kf σ2 H3)(hd:∀zs σ H,Pv xs.length zs σ H->d7 H):gu (O_ K a b) g tt te D d7 σB H0:=by
 refine⟨fun i m σ H=>m=xs.length-i/\i<=xs.length/\∃zs,Pv i zs σ H,⟨xs.length,by simp,cx _,[],h0⟩,?_⟩;rintro i m σ H ⟨rfl,hi,zs,p⟩;obtain⟨q1,q2⟩:=hl i zs σ H hi p;by_cases d9:i<xs.length
 .have Az:i<ys.length:=by lia
  refine .inr ⟨⟨xs,ys,xs[i],ys[i],q1,q2,by simp[d9],by simp[Az]⟩,?_⟩;rintro v H' ⟨pp,x,y,rfl,hn,rfl,My,Wg⟩;exact hs i x y pp zs σ _ (fun v σ2 H4=>∃zs,H4 D=some (.lst zs)/\zs.length<sizeLine/\∃m',m'<xs.length-i/\m'=xs.length-(i+1)/\i+1<=xs.length/\∃r6,Pv (i+1) r6 σ2 (upd H4 D (.lst (zs++[v]))))
   (fun σ2 H3=>∃m',m'<xs.length-i/\m'=xs.length-(i+1)/\i+1<=xs.length/\∃r6,Pv (i+1) r6 σ2 H3) (My xs q1) (Wg ys q2) p hn
   (fun v σ2 H4 z1 z2 z3=>⟨zs,z1,z2,_,by lia,rfl,d9,_,z3⟩) (fun σ2 H3 z=>⟨_,by lia,rfl,d9,_,z⟩)
 .have e:i=xs.length:=by lia
  subst e;exact .inl ⟨⟨xs,q1,aU _⟩,hd zs σ H p⟩
theorem AA(rx:a8 xs us)(ry:a8 ys vs)(fx:xs.all fE=true)(fy:ys.all fE=true):
  ∀j (h1:j<us.toArray.size) (h2:j<vs.toArray.size),SeqAt.EqAt A s us.toArray[j] vs.toArray[j] (sQ (xs.getD j .cE) (ys.getD j .cE)):=by
 intro j h1 h2;have j1:j<xs.length:=by rw[rx.length];simpa using h1
 have j2:j<ys.length:=by rw[ry.length];simpa using h2
 have e1:xs[j]?=some (xs.getD j .cE):=by rw[bY,cg j1];rfl
 have e2:ys[j]?=some (ys.getD j .cE):=by rw[bY,cg j2];rfl
 obtain⟨u,Wi,ru⟩:=rx.get e1;obtain⟨v,My,rv⟩:=ry.get e2;have eu:us.toArray[j]=u:=by
  have:us[j]?=some us.toArray[j]:=by simp at h1 |-
  rw[Wi] at this;exact(bN this).symm
 have ev:vs.toArray[j]=v:=by
  have:vs[j]?=some vs.toArray[j]:=by simp at h2 |-
  rw[My] at this;exact(bN this).symm
 rw[eu,ev];exact E7 ru rv (lz.mp fx _ (cS e1)) (lz.mp fy _ (cS e2))
theorem FL(I:aS X af σ H s)(hu:A.units+1<cLine)(ha:bU X.K H a xs)(hb:bU X.K H b ys)(hl:xs.length=ys.length)(fx:xs.all fE=true)(fy:ys.all fE=true):
  SeqAt.EqAt A s (.ref a) (.ref b) (pT sQ xs ys):=by
 by_cases nI:a=b
 .subst nI;have e1:=I.gy ha hb;subst e1;have e2:pT sQ xs xs=true:=by
   clear ha hb hl fy;induction xs with
   |nil=>rfl
   |cons x xs ih=>
    rw[j9,gm] at fx;rw[pT,ih fx.2,Bool.and_true];cases x <;> first|rfl|(show (_==_)=true;simp)|exact absurd (show false=true from fx.1) cG
  rw[e2];exact SeqAt.EqAt.same _
 .obtain⟨us,r1,p1,_⟩:=I.tuple ha;obtain⟨vs,r2,p2,_⟩:=I.tuple hb;have h:=SeqAt.RcAt.tuples (A:=A) (s:=s) (l:=a) (b:=b) (e:=fun i=>sQ (xs.getD i .cE) (ys.getD i .cE)) (show s.heap.IsTuple a us.toArray from p1) (show s.heap.IsTuple b vs.toArray from p2) (by lia)
   (AA r1 r2 fx fy)
  refine SeqAt.EqAt.of_refs nI ?_;have er:((List.range (min us.toArray.size vs.toArray.size)).all (fun i=>sQ (xs.getD i .cE) (ys.getD i .cE))&&us.toArray.size==vs.toArray.size)=pT sQ xs ys:=by
   rw[cJ,cJ,<-r1.length,<-r2.length,<-hl,vw,beq_self_eq_true,Bool.and_true,pU hl]
  rw[er] at h;exact h
theorem AB{p q:Int×Int}:pT sQ [.int p.1,.int p.2] [.int q.1,.int q.2]=decide (p=q):=by
 obtain⟨a,b⟩:=p;obtain⟨c,d⟩:=q;show ((a==c)&&((b==d)&&true))=decide ((a,b)=(c,d));by_cases h1:a=c <;> by_cases h2:b=d <;> simp[h1,h2]
def IU(K:PySem.W.Frag)(Ql:Bool):R2:=fun x y H Q=>∃ (p l:Addr) (u:Int×Int) (as:List Addr) (ps:List (Int×Int)),x=.ref p/\y=.ref l/\bU K H p [.int u.1,.int u.2]/\a9 K H l (as.map V.ref)/\as.length=ps.length/\(∀i,i<ps.length->bU K H (as.getD i 0) [.int (ps.getD i (0,0)).1,.int (ps.getD i (0,0)).2])/\
 Q (.bl (if Ql then !decide (u∈ps) else decide (u∈ps))) H
open Classical in
theorem v9(I:aS X af σ H s):∀ {as:List Addr} {ps:List (Int×Int)},as.length=ps.length->(∀i,i<ps.length->bU X.K H (as.getD i 0) [.int (ps.getD i (0,0)).1,.int (ps.getD i (0,0)).2])->
  ((as.map Value.ref).any fun v=>decide (∃a,v=Value.ref a/\bU X.K H a [.int u.1,.int u.2]))=decide (u∈ps)
 |[],[],_,_=>by simp
 |a::as,p::ps,hl,h=>by
  have ih:=v9 I (u:=u) (as:=as) (ps:=ps) (by simpa using hl) (fun i hi=>h (i+1) (by simpa using hi));have h0:bU X.K H a [.int p.1,.int p.2]:=h 0 (by simp);rw[fh,jm,ih];have e:decide (∃b,Value.ref a=Value.ref b/\bU X.K H b [.int u.1,.int u.2])=decide (u=p):=by
   rw[j7,u9,u9];constructor
   .rintro⟨b,e,hb⟩;cases e;have:=I.gy h0 hb;have e1:p.1=u.1:=V.int.inj (lT this).1;have e2:p.2=u.2:=V.int.inj (lT (lT this).2).1;exact gw e1.symm e2.symm
   .rintro rfl;exact⟨a,rfl,h0⟩
  rw[e];by_cases z:u=p
  .simp[z]
  .simp[z]
open Classical in
theorem xR{af:List (Addr×Obj)}{σ:St}{H:Hp}{s:Shared}{A:Around}(I:aS X af σ H s)(hu:A.units+1<cLine){p:Addr}{u:Int×Int}(hp:bU X.K H p [.int u.1,.int u.2]){as:List Addr}{ps:List (Int×Int)}(hl:as.length=ps.length)(h:∀i,i<ps.length->bU X.K H (as.getD i 0) [.int (ps.getD i (0,0)).1,.int (ps.getD i (0,0)).2]):∀v∈as.map Value.ref,SeqAt.EqAt A s v (.ref p) (decide (∃a,v=Value.ref a/\bU X.K H a [.int u.1,.int u.2])):=by
 intro v hv;obtain⟨a,ha,rfl⟩:=bB.mp hv;obtain⟨i,hi,e⟩:=lJ.mp ha;have hq:=h i (by lia);have ea:as.getD i 0=a:=by rw[bY,cg hi];exact e
 rw[ea] at hq;have z:=FL (A:=A) I hu hq hp rfl rfl rfl;rw[AB] at z;have e:decide (∃b,Value.ref a=Value.ref b/\bU X.K H b [.int u.1,.int u.2])=decide (ps.getD i (0,0)=u):=by
  rw[j7,u9,u9];constructor
  .rintro⟨b,e,hb⟩;cases e;have:=I.gy hq hb;exact gw (V.int.inj (lT this).1) (V.int.inj (lT (lT this).2).1)
  .intro e;rw[<-e];exact⟨a,rfl,hq⟩
 rw[e];exact z
open Classical in
theorem Mz(hu:X.A.units+2<cLine):mq X (compareOp .In) (IU X.K false):=by
 intro af s σ H x y v u Q I rx ry h;obtain⟨p,l,w,as,ps,rfl,rfl,hp,hl,eX,Q9,q⟩:=h;obtain rfl:v=Value.ref p:=rx;obtain rfl:u=Value.ref l:=ry;obtain⟨its,r,pl,_⟩:=I.list hl;have e:=mU r;subst e;refine SeqAt.in_listAt (fun v=>decide (∃a,v=Value.ref a/\bU X.K H a [.int w.1,.int w.2])) pl.isList (fun y hy=>xR I (by show X.A.units+1+1<cLine;lia) hp eX Q9 y (by simpa using hy)) ⟨.bl _,H,I,rfl,?_⟩;rw[show (as.map Value.ref).toArray.any (fun v=>decide (∃a,v=Value.ref a/\bU X.K H a [.int w.1,.int w.2]))=(as.map Value.ref).any (fun v=>decide (∃a,v=Value.ref a/\bU X.K H a [.int w.1,.int w.2])) by simp,v9 I eX Q9];exact q
open Classical in
theorem k8(hu:X.A.units+2<cLine):mq X (compareOp .NotIn) (IU X.K true):=by
 intro af s σ H x y v u Q I rx ry h;obtain⟨p,l,w,as,ps,rfl,rfl,hp,hl,eX,Q9,q⟩:=h;obtain rfl:v=Value.ref p:=rx;obtain rfl:u=Value.ref l:=ry;obtain⟨its,r,pl,_⟩:=I.list hl;have e:=mU r;subst e;refine SeqAt.notIn_listAt (fun v=>decide (∃a,v=Value.ref a/\bU X.K H a [.int w.1,.int w.2])) pl.isList (fun y hy=>xR I (by show X.A.units+1+1<cLine;lia) hp eX Q9 y (by simpa using hy)) ⟨.bl _,H,I,rfl,?_⟩;rw[show (as.map Value.ref).toArray.any (fun v=>decide (∃a,v=Value.ref a/\bU X.K H a [.int w.1,.int w.2]))=(as.map Value.ref).any (fun v=>decide (∃a,v=Value.ref a/\bU X.K H a [.int w.1,.int w.2])) by simp,v9 I eX Q9];exact q
end
end L2
namespace je
abbrev Ts:=List (Int×Int)
def T(ts:Ts)(a b:Nat):Prop:=(((a:Nat):Int),((b:Nat):Int))∈ts
instance (ts:Ts) (a b:Nat):Decidable (T ts a b):=inferInstanceAs (Decidable (_∈_))
def eT(ts:Ts):Nat->Nat->Nat->Prop
 |0,a,b=>a=b
 |k+1,a,b=>∃c,eT ts k a c/\T ts c b
theorem eT.trans(h:eT ts k a b):∀ {l:Nat} {c:Nat},eT ts l b c->eT ts (k+l) a c
 |0,_,e=>by cases e;exact h
 |l+1,_,⟨d,w,t⟩=>⟨d,h.trans w,t⟩
theorem eT.one(h:T ts a b):eT ts 1 a b:=⟨a,rfl,h⟩
theorem eT.cons(h:T ts a b)(w:eT ts k b c):eT ts (k+1) a c:=by
 have:=(eT.one h).trans w;rwa [Nat.add_comm] at this
def uz(ts:Ts)(a b d:Nat):Prop:=eT ts d a b/\∀k,eT ts k a b->d<=k
theorem uz.uniq(h:uz ts a b d)(g:uz ts a b e):d=e:=Nat.le_antisymm (h.2 _ g.1) (g.2 _ h.1)
open Classical in
noncomputable def far(ts:Ts)(a b:Nat):Nat:=if h:∃d,uz ts a b d then h.choose else 0
theorem MA(h:uz ts a b d):far ts a b=d:=by
 unfold far;have hx:∃d,uz ts a b d:=⟨d,h⟩
 rw[dif_pos hx];exact hx.choose_spec.uniq h
structure b8(n:Nat)(ts:Ts):Prop where
 n1:2<=n
 n2:n<=32
 nd:ts.Nodup
 rg:∀t∈ts,(0<=t.1/\t.1<n)/\(0<=t.2/\t.2<n)
 ne:∀t∈ts,t.1≠t.2
 B8:∀h:Int,(ts.filter fun t=>decide (t.1=h)).length=(ts.filter fun t=>decide (t.2=h)).length
 most:∀h:Int,(ts.filter fun t=>decide (t.1=h)).length<=8
 con:∀a b,a<n->b<n->∃k,eT ts k a b
theorem DK(f:α->Int):∀ (l:List α) (n:Nat),(∀x∈l,0<=f x/\f x<n)->(∀h:Int,(l.filter fun t=>decide (f t=h)).length<=8)->l.length<=8*n:=by
 intro l n;induction n generalizing l with
 |zero=>
  intro h _;cases l with
  |nil=>simp
  |cons x xs=>have:=h x bu;lia
 |succ n ih=>
  intro h h8;have e:l.length=(l.filter fun t=>decide (f t=(n:Int))).length+(l.filter fun t=>!decide (f t=(n:Int))).length:=by
   induction l with
   |nil=>rfl
   |cons x xs ih2=>
    have:=ih2 (fun y hy=>h y (bA _ hy)) (fun hh=>ba (by rw[dO];split <;> simp) (h8 hh));by_cases q:f x=(n:Int) <;> simp[dO,q] <;> lia
  have i2:=ih (l.filter fun t=>!decide (f t=(n:Int))) (fun x hx=>by
   have a:=h x (dz.mp hx |>.1);have b:=(dz.mp hx).2;simp at b;lia) (fun hh=>by
   refine ba ?_ (h8 hh);exact(zj.filter _).length_le)
  have:=h8 (n:Int);lia
theorem b8.len(F:b8 n ts):ts.length<=256:=by
 have:=DK (·.1) ts n (fun t ht=>(F.rg t ht).1) F.most;have:=F.n2;lia
theorem b8.tlt(F:b8 n ts)(h:T ts a b):a<n/\b<n/\a≠b:=by
 have q:=F.rg _ h;have q2:=F.ne _ h;refine⟨by have:=q.1;simp at this;lia,by have:=q.2;simp at this;lia,fun e=>q2 (by rw[e])⟩
def bP(n:Nat)(ts:Ts)(h:Nat):List Nat:=((List.range n).map fun s=>(h+s) % n).filter fun o=>decide (T ts h o)
theorem ft(F:b8 n ts)(hh:h<n):o∈bP n ts h↔T ts h o:=by
 unfold bP;rw[dz,qX];refine⟨fun z=>z.2,fun z=>⟨?_,z⟩⟩;obtain⟨_,h2,_⟩:=F.tlt z;refine bB.mpr ⟨if h<=o then o-h else o+n-h,bK.mpr (by split <;> lia),?_⟩;split
 .rw[show h+(o-h)=o by lia,lx h2]
 .rw[show h+(o+n-h)=o+n by lia,Nat.add_mod_right,lx h2]
theorem k_(F:b8 n ts)(hh:h<n)(ho:o∈bP n ts h):o<n:=(F.tlt ((ft F hh).mp ho)).2.1
def key(n h o:Nat):Int:=((o:Int)-(h:Int)) % (n:Int)
theorem pz(hh:h<n)(hs:s<n):key n h ((h+s) % n)=(s:Int):=by
 unfold key;by_cases c:h+s<n
 .rw[lx c,show (((h+s:Nat):Int)-(h:Int))=(s:Int) by lia];exact Int.emod_eq_of_lt (by lia) (by lia)
 .have e:(h+s) % n=h+s-n:=by
   rw[Nat.mod_eq_sub_mod (by lia),lx (by lia)]
  rw[e,show ((((h+s-n:Nat)):Int)-(h:Int))=(s:Int)-(n:Int) by lia,Int.sub_emod_right];exact Int.emod_eq_of_lt (by lia) (by lia)
theorem pW(hh:h<n):(bP n ts h).Pairwise fun a b=>key n h a<key n h b:=by
 unfold bP;refine uZ _ ?_;refine iK.mpr ?_;refine EJ ?_ (List.pairwise_lt_range (n:=n));intro a b ha hb nI;rw[pz hh (bK.mp ha),pz hh (bK.mp hb)];lia
theorem pX{α:Type}{k:α->Int}:∀ {a b:List α},a.Pairwise (fun x y=>k x<k y)->b.Pairwise (fun x y=>k x<k y)->(∀x,x∈a↔x∈b)->a=b
 |[],[],_,_,_=>rfl
 |[],y::ys,_,_,h=>absurd ((h y).mpr bu) (by simp)
 |x::xs,[],_,_,h=>absurd ((h x).mp bu) (by simp)
 |x::xs,y::ys,ha,hb,h=>by
  obtain⟨a1,a2⟩:=vc.mp ha;obtain⟨b1,b2⟩:=vc.mp hb;have e:x=y:=by
   rcases bn.mp ((h x).mp bu) with z|z
   .exact z
   .rcases bn.mp ((h y).mpr bu) with z'|z'
    .exact z'.symm
    .have q1:=b1 x z;have q2:=a1 y z';lia
  subst e;refine congrArg (x::·) (pX a2 b2 fun z=>⟨fun hz=>?_,fun hz=>?_⟩)
  .rcases bn.mp ((h z).mp (bA _ hz)) with q|q
   .subst q;exact absurd (a1 _ hz) (by lia)
   .exact q
  .rcases bn.mp ((h z).mpr (bA _ hz)) with q|q
   .subst q;exact absurd (b1 _ hz) (by lia)
   .exact q
structure yM(n:Nat)(ts:Ts)(s i:Nat)(R:List Nat)(f:Nat->Nat):Prop where
 nd:R.Nodup
 lt:∀x∈R,x<n
 st:s∈R
 z:f s=0
 wk:∀x∈R,eT ts (f x) s x
 up:R.Pairwise fun a b=>f a<=f b
 bd:∀u,R[i]?=some u->∀x∈R,f x<=f u+1
 cl:∀j u,j<i->R[j]?=some u->∀v,T ts u v->v∈R/\f v<=f u+1
theorem yM.start(hs:s<n):yM n ts s 0 [s] (fun _=>0):=
 ⟨by simp,fun x hx=>by simp at hx;lia,by simp,rfl,fun x hx=>by simp at hx;subst hx;rfl,by simp,fun u _ x _=>by lia,fun j u h=>absurd h (by lia)⟩
def put(f:Nat->Nat)(v k:Nat):Nat->Nat:=fun y=>if y=v then k else f y
theorem jf:put f v k v=k:=by simp[put]
theorem f_(h:x≠v):put f v k x=f x:=by simp[put,h]
theorem yM.add(B:yM n ts s i R f)(hu:R[i]?=some u)(hv:v<n)(t:T ts u v)(hn:v∉R):yM n ts s i (R++[v]) (put f v (f u+1)):=by
 have hur:u∈R:=cS hu;have nv:∀x∈R,x≠v:=fun x hx e=>hn (e ▸ hx);have hi:i<R.length:=(dN.mp hu).1;refine⟨?_,fun x hx=>?_,fw _ B.st,by rw[f_ (nv s B.st)];exact B.z,fun x hx=>?_,?_,fun w hw x hx=>?_,fun j w hj hw x hx=>?_⟩
 .rw[jU];exact⟨B.nd,by simp,fun a ha b hb e=>by simp at hb;subst hb;exact hn (e ▸ ha)⟩
 .rcases cw.mp hx with z|z
  .exact B.lt x z
  .simp at z;lia
 .rcases cw.mp hx with z|z
  .rw[f_ (nv x z)];exact B.wk x z
  .simp at z;subst z;rw[jf];exact⟨u,B.wk u hur,t⟩
 .rw[List.pairwise_append];refine⟨B.up.imp_of_mem fun {a b} ha hb h=>by rw[f_ (nv a ha),f_ (nv b hb)];exact h,by simp,fun a ha b hb=>?_⟩;simp at hb;subst hb;rw[f_ (nv a ha),jf];exact B.bd u hu a ha
 .have hw':w=u:=by
   rw[i6 hi,hu] at hw;exact(bN hw).symm
  subst hw';rw[f_ (nv w hur)];rcases cw.mp hx with z|z
  .rw[f_ (nv x z)];exact B.bd w hu x z
  .simp at z;subst z;rw[jf];exact aU _
 .rw[i6 (by lia)] at hw;obtain⟨a,b⟩:=B.cl j w hj hw x hx;refine⟨fw _ a,?_⟩;rw[f_ (nv x a),f_ (nv w (cS hw))];exact b
theorem yM.next(B:yM n ts s i R f)(hu:R[i]?=some u)(h:∀v,T ts u v->v∈R/\f v<=f u+1):yM n ts s (i+1) R f:=by
 refine⟨B.nd,B.lt,B.st,B.z,B.wk,B.up,fun w hw x hx=>?_,fun j w hj hw v hv=>?_⟩
 .have h1:=B.bd u hu x hx;have h2:f u<=f w:=by
   have hi:i<R.length:=(dN.mp hu).1;have B3:i+1<R.length:=(dN.mp hw).1;have:=yT.mp B.up i (i+1) hi B3 (by lia);rw[cg hi] at hu;rw[cg B3] at hw;rw[bN hu,bN hw] at this;exact this
  lia
 .by_cases e:j=i
  .subst e;rw[hu] at hw;cases hw;exact h v hv
  .exact B.cl j w (by lia) hw v hv
theorem eY:∀ {n:Nat} {R:List Nat},R.Nodup->(∀x∈R,x<n)->R.length<=n:=by
 intro n R hn hl;have key:∀ (a b:List Nat),a.Nodup->(∀x∈a,x∈b)->a.length<=b.length:=by
  intro a;induction a with
  |nil=>intro b _ _;exact cx _
  |cons x xs ih=>
   intro b hn hs;obtain⟨h1,h2⟩:=fN.mp hn;have hx:x∈b:=hs x bu;have:=ih (b.erase x) h2 fun y hy=>(y_ (fun (e:y=x)=>h1 (e ▸ hy))).mpr (hs y (bA _ hy));rw[yV hx] at this;have:0<b.length:=qQ hx;rw[eF];lia
 have:=key R (List.range n) hn fun x hx=>bK.mpr (hl x hx);rwa [cu] at this
theorem yM.done(B:yM n ts s i R f)(F:b8 n ts)(hi:R.length<=i)(hx:x<n):x∈R/\f x=far ts s x:=by
 have cl:∀u∈R,∀v,T ts u v->v∈R/\f v<=f u+1:=fun u hu v hv=>by
  obtain⟨j,hj,e⟩:=lJ.mp hu;exact B.cl j u (by lia) (by rw[cg hj,e]) v hv
 have walk:∀k x,eT ts k s x->x∈R/\f x<=k:=by
  intro k;induction k with
  |zero=>intro x e;cases e;exact⟨B.st,by rw[B.z];exact aU _⟩
  |succ k ih=>
   rintro x ⟨c,w,t⟩;obtain⟨c1,c2⟩:=ih c w;obtain⟨d1,d2⟩:=cl c c1 x t;exact⟨d1,by lia⟩
 obtain⟨k,w⟩:=F.con s x (B.lt s B.st) hx;obtain⟨m,_⟩:=walk k x w;exact⟨m,(MA ⟨B.wk x m,fun k w=>(walk k x w).2⟩).symm⟩
theorem eT.mono(h:∀t∈ts,t∈Wj):∀ {k a b:Nat},eT ts k a b->eT Wj k a b
 |0,_,_,e=>e
 |_+1,_,_,⟨c,w,t⟩=>⟨c,w.mono h,h _ t⟩
structure yN(n:Nat)(ts:Ts):Prop where
 nd:ts.Nodup
 rg:∀t∈ts,(0<=t.1/\t.1<n)/\(0<=t.2/\t.2<n)
 ne:∀t∈ts,t.1≠t.2
 B8:∀h:Int,(ts.filter fun t=>decide (t.1=h)).length=(ts.filter fun t=>decide (t.2=h)).length
 most:∀h:Int,(ts.filter fun t=>decide (t.1=h)).length<=8
theorem b8.pre(F:b8 n ts):yN n ts:=⟨F.nd,F.rg,F.ne,F.B8,F.most⟩
theorem yN.jO(P:yN n ts)(n1:2<=n)(n2:n<=32)(c:∀a b,a<n->b<n->∃k,eT ts k a b):b8 n ts:=⟨n1,n2,P.nd,P.rg,P.ne,P.B8,P.most,c⟩
theorem b8.perm(F:b8 n ts)(p:Wj.Perm ts):b8 n Wj:=
  ⟨F.n1,F.n2,p.nodup_iff.mpr F.nd,fun t ht=>F.rg t (p.mem_iff.mp ht),fun t ht=>F.ne t (p.mem_iff.mp ht),fun h=>by rw[(p.filter _).length_eq,(p.filter _).length_eq];exact F.B8 h,
   fun h=>by rw[(p.filter _).length_eq];exact F.most h,fun a b ha hb=>let ⟨k,w⟩:=F.con a b ha hb;⟨k,w.mono fun t ht=>p.mem_iff.mpr ht⟩⟩
theorem b8.app(F:b8 n ts)(P:yN n (ts++us)):b8 n (ts++us):=
 P.jO F.n1 F.n2 fun a b ha hb=>let ⟨k,w⟩:=F.con a b ha hb;⟨k,w.mono fun t ht=>fw _ ht⟩
def pk(c k:Nat):Nat:=if k=0 then c-1 else k-1
abbrev ci(x:Nat):Int:=(x:Int)
def tK(xs:List Nat):Ts:=(List.range xs.length).map fun k=>(ci (xs.getD (pk xs.length k) 0),ci (xs.getD k 0))
theorem cM{xs:List Nat}{k:Nat}(h:k<xs.length):xs.getD k 0=xs[k]:=by rw[bY,cg h];rfl
theorem B9(xs:List Nat):(tK xs).map (·.2)=xs.map ci:=by
 unfold tK;rw[dQ];apply zF
 .simp
 .intro i h1 h2;simp only[vg,zo,Function.comp];rw[cM (by simpa using h2)]
theorem B_(xs:List Nat):((tK xs).map (·.1)).Perm (xs.map ci):=by
 cases hx:xs with
 |nil=>exact jG _
 |cons y ys=>
  rw[<-hx];have hl:xs.length=ys.length+1:=by rw[hx];rfl
  have e:(tK xs).map (·.1)=ci (xs.getD (xs.length-1) 0)::(xs.take (xs.length-1)).map ci:=by
   unfold tK;rw[dQ];apply zF
   .simp;lia
   .intro i h1 h2;simp only[vg,zo,Function.comp];cases i with
    |zero=>rfl
    |succ i=>
     have hi:i+1<xs.length:=by simpa using h1
     simp only[List.getElem_cons_succ,vg,List.getElem_take];unfold pk;rw[av (by lia),show i+1-1=i by lia,cM (by lia)]
  rw[e];have:xs.map ci=(xs.take (xs.length-1)).map ci++[ci (xs.getD (xs.length-1) 0)]:=by
   conv=>lhs;rw[<-lG (xs.length-1) xs]
   rw[di];congr 1;rw[nN (by lia),List.drop_eq_nil_of_le (by lia),cM (by lia)];rfl
  rw[this];exact(List.perm_append_singleton _ _).symm
theorem gD(ts:Ts)(h:Int):(ts.filter fun t=>decide (t.1=h)).length=(ts.map (·.1)).count h:=by
 induction ts with
 |nil=>rfl
 |cons t ts ih=>by_cases e:t.1=h <;> simp[dO,zJ,e,ih]
theorem pD(ts:Ts)(h:Int):(ts.filter fun t=>decide (t.2=h)).length=(ts.map (·.2)).count h:=by
 induction ts with
 |nil=>rfl
 |cons t ts ih=>by_cases e:t.2=h <;> simp[dO,zJ,e,ih]
theorem r9{xs:List Nat}(h:xs.Nodup):(xs.map ci).Nodup:=by
 refine iK.mpr (h.imp fun {a b} nI e=>nI ?_);exact cK e
theorem mV:∀ {l:List α},(l.map f).Nodup->l.Nodup
 |[],_=>jl
 |a::l,h=>by
  rw[fh] at h;obtain⟨h1,h2⟩:=fN.mp h;exact fN.mpr ⟨fun z=>h1 (bB.mpr ⟨a,z,rfl⟩),mV h2⟩
theorem mW(h:t∈tK xs):∃k,k<xs.length/\t=(ci (xs.getD (pk xs.length k) 0),ci (xs.getD k 0)):=by
 obtain⟨k,hk,rfl⟩:=bB.mp h;exact⟨k,bK.mp hk,rfl⟩
theorem uA(h:k<c):pk c k<c:=by unfold pk;split <;> lia
theorem lc{xs:List Nat}{k:Nat}(h:k<xs.length):xs.getD k 0∈xs:=by rw[cM h];exact ik h
theorem jg{xs:List Nat}(nd:xs.Nodup){i j:Nat}(hi:i<xs.length)(hj:j<xs.length)(e:xs[i]=xs[j]):i=j:=by
 have pw:=yT.mp nd;rcases Nat.lt_trichotomy i j with z|z|z
 .exact absurd e (pw i j hi hj z)
 .exact z
 .exact absurd e.symm (pw j i hj hi z)
theorem v_{n:Nat}{xs:List Nat}(nd:xs.Nodup)(lt:∀x∈xs,x<n)(c2:2<=xs.length):yN n (tK xs)/\∀h:Int,((tK xs).filter fun t=>decide (t.1=h)).length<=1:=by
 have Wk:((tK xs).map (·.2)).Nodup:=by rw[B9];exact r9 nd
 have one:∀h:Int,((tK xs).filter fun t=>decide (t.1=h)).length<=1:=fun h=>by
  rw[gD,(B_ xs).count_eq];exact List.nodup_iff_count.mp (r9 nd) h
 refine⟨⟨mV Wk,fun t ht=>?_,fun t ht=>?_,fun h=>?_,fun h=>ba (one h) (by decide)⟩,one⟩
 .obtain⟨k,hk,rfl⟩:=mW ht;have h1:=lt _ (lc (uA hk));have h2:=lt _ (lc hk);simp only[ci];lia
 .obtain⟨k,hk,rfl⟩:=mW ht;intro e;have e':xs.getD (pk xs.length k) 0=xs.getD k 0:=cK e;rw[cM (uA hk),cM hk] at e';have:=jg nd (uA hk) hk e';unfold pk at this;split at this <;> lia
 .rw[gD,pD,(B_ xs).count_eq,B9]
theorem qF(P:yN n ts)(Q:yN n us)(hd:∀t∈us,t∉ts)(hm:∀h:Int,(ts.filter fun t=>decide (t.1=h)).length+(us.filter fun t=>decide (t.1=h)).length<=8):yN n (ts++us):=by
 refine⟨jU.mpr ⟨P.nd,Q.nd,fun a ha b hb e=>hd b hb (e ▸ ha)⟩,fun t ht=>?_,fun t ht=>?_,fun h=>?_,fun h=>?_⟩
 .rcases cw.mp ht with z|z
  .exact P.rg t z
  .exact Q.rg t z
 .rcases cw.mp ht with z|z
  .exact P.ne t z
  .exact Q.ne t z
 .rw[gh,gh,df,df,P.B8,Q.B8]
 .rw[gh,df];exact hm h
theorem DL(P:yN n ts)(nd:xs.Nodup)(lt:∀x∈xs,x<n)(c2:2<=xs.length)(hf:∀t∈tK xs,(ts.filter fun u=>decide (u.1=t.1)).length<=7)(hn:∀t∈tK xs,t∉ts):yN n (ts++tK xs):=by
 obtain⟨Q,one⟩:=v_ nd lt c2;refine qF P Q hn fun h=>?_;by_cases z:(tK xs).filter (fun t=>decide (t.1=h))=[]
 .rw[z];simpa using P.most h
 .obtain⟨t,ht⟩:=List.exists_mem_of_ne_nil _ z;obtain⟨h1,h2⟩:=dz.mp ht;have e:t.1=h:=by simpa using h2
  have a:=hf t h1;rw[e] at a;have:=one h;lia
theorem K9(hk:k<xs.length):T (tK xs) (xs.getD (pk xs.length k) 0) (xs.getD k 0):=bB.mpr ⟨k,bK.mpr hk,rfl⟩
theorem AC(i:Nat):∀ (d:Nat),i+d<xs.length->eT (tK xs) d (xs.getD i 0) (xs.getD (i+d) 0)
 |0,_=>rfl
 |d+1,h=>by
  refine⟨_,AC i d (by lia),?_⟩;have:=K9 (xs:=xs) (k:=i+(d+1)) h;unfold pk at this;rw[av (by lia)] at this;exact this
theorem uB{n:Nat}{xs:List Nat}(n1:2<=n)(n2:n<=32)(pm:xs.Perm (List.range n)):b8 n (tK xs):=by
 have hl:xs.length=n:=by rw[pm.length_eq,cu]
 have nd:xs.Nodup:=pm.nodup_iff.mpr jW;have lt:∀x∈xs,x<n:=fun x hx=>bK.mp (pm.mem_iff.mp hx);refine(v_ nd lt (by lia)).1.jO n1 n2 fun a b ha hb=>?_;obtain⟨i,hi,ei⟩:=lJ.mp (pm.mem_iff.mpr (bK.mpr ha));obtain⟨j,hj,ej⟩:=lJ.mp (pm.mem_iff.mpr (bK.mpr hb));have w1:=AC (xs:=xs) i (xs.length-1-i) (by lia);have t0:=K9 (xs:=xs) (k:=0) (by lia);have w3:=AC (xs:=xs) 0 j (by lia);rw[show i+(xs.length-1-i)=xs.length-1 by lia] at w1;rw[show pk xs.length 0=xs.length-1 from rfl] at t0;rw[re] at w3;have w:=w1.trans (eT.cons t0 w3);rw[cM hi,cM hj,ei,ej] at w;exact⟨_,w⟩
structure r_(n:Nat)(os:List Nat)(k:Nat)(ts:Ts):Prop where
 pre:yN n ts
 ends:∀t∈ts,∃a b,a∈os.take k/\b∈os.take k/\t=(ci a,ci b)
 con:∀a b,a∈os.take k->b∈os.take k->∃j,eT ts j a b
 len:ts.length+2=2*k
theorem r_.start(h:0<os.length):r_ n os 1 []:=by
 refine⟨⟨jl,(fun t h=>nomatch h),(fun t h=>nomatch h),fun h=>rfl,fun h=>by simp⟩,(fun t h=>nomatch h),fun a b ha hb=>?_,rfl⟩;cases os with
 |nil=>simp at h
 |cons o os=>
  simp at ha hb;exact⟨0,by rw[ha,hb];rfl⟩
theorem r_.add(Tr:r_ n os k ts)(nd:os.Nodup)(lt:∀x∈os,x<n)(hv:os[k]?=some v)(hs:s∈os.take k)(hd:(ts.filter fun t=>decide (t.1=ci s)).length<8):r_ n os (k+1) (ts++[(ci s,ci v),(ci v,ci s)]):=by
 have tk:os.take (k+1)=os.take k++[v]:=by rw[gj,hv];rfl
 have nd1:(os.take k++[v]).Nodup:=by rw[<-tk];exact nd.sublist (List.take_sublist _ _)
 have vn:v∉os.take k:=fun z=>(jU.mp nd1).2.2 v z v (by simp) rfl;have sv:s≠v:=fun e=>vn (e ▸ hs);have vm:v∈os:=cS hv;have sl:=lt s (n0 hs);have vl:=lt v vm;have Wl:∀t∈ts,t.1≠ci v/\t.2≠ci v:=fun t ht=>by
  obtain⟨a,b,ha,hb,rfl⟩:=Tr.ends t ht;exact⟨fun e=>vn (cK e ▸ ha),fun e=>vn (cK e ▸ hb)⟩
 have Q:yN n [(ci s,ci v),(ci v,ci s)]:=by
  have Q_:ci s≠ci v:=fun e=>sv (cK e);refine⟨?_,fun t ht=>?_,fun t ht=>?_,fun h=>?_,fun h=>ba (ij _ _) (by simp)⟩
  .simp[Q_]
  .simp at ht;rcases ht with rfl|rfl <;> (simp only[ci];lia)
  .simp at ht;rcases ht with rfl|rfl
   .exact Q_
   .exact Q_.symm
  .by_cases a:ci s=h <;> by_cases b:ci v=h <;> simp[dO,a,b]
 have P2:yN n (ts++[(ci s,ci v),(ci v,ci s)]):=by
  refine qF Tr.pre Q (fun t ht z=>?_) fun h=>?_
  .simp at ht;rcases ht with rfl|rfl
   .exact(Wl _ z).2 rfl
   .exact(Wl _ z).1 rfl
  .have Q_:ci s≠ci v:=fun e=>sv (cK e);by_cases a:ci s=h
   .subst a;have b:¬ ci v=ci s:=Q_.symm;simp only[dO,decide_true,jo,fL b];simp;lia
   .by_cases b:ci v=h
    .subst b;have z:ts.filter (fun t=>decide (t.1=ci v))=[]:=nY.mpr fun t ht=>by simpa using (Wl t ht).1
     rw[z];exact ba (Nat.add_le_add_left (ij _ _) _) (by simp)
    .have:=Tr.pre.most h;simp[dO,a,b];exact this
 have up:∀t∈ts,t∈ts++[(ci s,ci v),(ci v,ci s)]:=fun t ht=>fw _ ht;have t1:T (ts++[(ci s,ci v),(ci v,ci s)]) s v:=dZ _ (by simp);have t2:T (ts++[(ci s,ci v),(ci v,ci s)]) v s:=dZ _ (by simp);have toS:∀a,a∈os.take k++[v]->∃j,eT (ts++[(ci s,ci v),(ci v,ci s)]) j a s:=fun a ha=>by
  rcases cw.mp ha with z|z
  .obtain⟨j,w⟩:=Tr.con a s z hs;exact⟨j,w.mono up⟩
  .simp at z;subst z;exact⟨1,eT.one t2⟩
 have ofS:∀b,b∈os.take k++[v]->∃j,eT (ts++[(ci s,ci v),(ci v,ci s)]) j s b:=fun b hb=>by
  rcases cw.mp hb with z|z
  .obtain⟨j,w⟩:=Tr.con s b hs z;exact⟨j,w.mono up⟩
  .simp at z;subst z;exact⟨1,eT.one t1⟩
 refine⟨P2,fun t ht=>?_,fun a b ha hb=>?_,?_⟩
 .rw[tk];rcases cw.mp ht with z|z
  .obtain⟨a,b,ha,hb,e⟩:=Tr.ends t z;exact⟨a,b,fw _ ha,fw _ hb,e⟩
  .simp at z;rcases z with rfl|rfl
   .exact⟨s,v,fw _ hs,by simp,rfl⟩
   .exact⟨v,s,by simp,fw _ hs,rfl⟩
 .rw[tk] at ha hb;obtain⟨i,w1⟩:=toS a ha;obtain⟨j,w2⟩:=ofS b hb;exact⟨i+j,w1.trans w2⟩
 .have:=Tr.len;rw[df];simp;lia
theorem r_.jO(Tr:r_ n os n ts)(n1:2<=n)(n2:n<=32)(pm:os.Perm (List.range n)):b8 n ts:=by
 have hl:os.length=n:=by rw[pm.length_eq,cu]
 refine Tr.pre.jO n1 n2 fun a b ha hb=>Tr.con a b ?_ ?_
 .rw[nV (by lia)];exact pm.mem_iff.mpr (bK.mpr ha)
 .rw[nV (by lia)];exact pm.mem_iff.mpr (bK.mpr hb)
theorem sf(hh:h<n):(bP n ts h).Nodup:=(pW hh).imp fun {a b} nI e=>by subst e;lia
end je
namespace L2
open PySem PySem.Spec PyProof.Rows
section
variable {X:Cx}
theorem xS:∀ {ns:List Int} {its:List Value},a8 (ns.map V.int) its->∃xs:List (Int×Tok),its=xs.map (fun p=>Value.int p.1 p.2)/\xs.map (·.1)=ns
 |[],_,r=>by cases r;exact⟨[],rfl,rfl⟩
 |n::ns,_,r=>by
  cases r with
  |cons r rr=>
   obtain⟨t,rfl⟩:=(show ∃t,_=Value.int n t from r)
   obtain⟨xs,rfl,e⟩:=xS rr;exact⟨(n,t)::xs,rfl,by rw[fh,e]⟩
def Ra(K:PySem.W.Frag):List V->Hp->VK->Prop:=fun xs H Q=>∃ (l:Addr) (ns:List Int),xs=[.ref l]/\a9 K H l (ns.map V.int)/\ns≠[]/\∀M,M∈ns->(∀a∈ns,a<=M)->Q (.int M) H
theorem DM(hc:X.calm=true):fj X (.builtin "max") (Ra X.K):=by
 intro af s σ H xs us Q I r h;obtain⟨l,ns,rfl,hl,pP,q⟩:=h;obtain⟨u1,rfl,r1⟩:=r.one;obtain rfl:u1=Value.ref l:=r1;obtain⟨its,rv,pl,_⟩:=I.list hl;obtain⟨ps,rfl,rfl⟩:=xS rv;have hi:intItems ps.toArray=(ps.map (fun p=>Value.int p.1 p.2)).toArray:=by unfold intItems;simp
 have ir:0<ps.toArray.size:=by
  cases ps with
  |nil=>exact absurd rfl pP
  |cons p ps=>simp
 refine max_intList (I.ok.hd hc) (xs:=ps.toArray) (by rw[hi];exact pl.isList) ir fun v h' tk hv hk=>?_;obtain⟨t,rfl⟩:=intItems_at hv;obtain⟨h1,h2⟩:=argBest_gt (numAt ps.toArray) (ps.toArray.size-1);have num:∀j,j<ps.length->numAt ps.toArray j∈ps.map (·.1)/\numAt ps.toArray j=(ps.map (·.1)).getD j 0:=fun j hj=>by
  have e:numAt ps.toArray j=ps[j].1:=by unfold numAt;simp[cg hj]
  refine⟨by rw[e];exact bB.mpr ⟨_,ik hj,rfl⟩,?_⟩;rw[e,bY,bZ,cg hj];rfl
 have hb:argBest (fun i j=>decide (numAt ps.toArray i > numAt ps.toArray j)) (ps.toArray.size-1)<ps.length:=by
  have:ps.toArray.size=ps.length:=by simp
  lia
 refine⟨.int _,H,I.kept (t':=tk) hk,⟨t,rfl⟩,q _ (num _ hb).1 fun a ha=>?_⟩;obtain⟨j,hj,e⟩:=lJ.mp ha;rw[aR] at hj;have:=h2 j (by (have:ps.toArray.size=ps.length:=by simp);lia);rw[(num j hj).2,bY,cg (by rw[aR];exact hj)] at this;rw[<-e];exact this
end
end L2
namespace je
abbrev tL(u:Int×Int):Int×Int:=(u.2,u.1)
def dE(ps:Ts):Ts:=ps.flatMap fun u=>[u,tL u]
theorem l_:dE (ps++qs)=dE ps++dE qs:=List.flatMap_append
theorem iy:∀ {ps:Ts},(dE ps).Perm (ps++ps.map tL)
 |[]=>jG _
 |u::ps=>by
  have ih:=iy (ps:=ps);show (u::tL u::dE ps).Perm (u::(ps++tL u::ps.map tL));refine List.Perm.cons _ ?_;exact(ih.cons _).trans List.perm_middle.symm
theorem qG:∀ {ps:Ts},(dE ps).length=2*ps.length
 |[]=>rfl
 |u::ps=>by
  have ih:=qG (ps:=ps);show (dE ps).length+2=2*(ps.length+1);lia
theorem Ca(h:u∈dE ps):tL u∈dE ps:=by
 obtain⟨v,hv,hu⟩:=zE.mp h;refine zE.mpr ⟨v,hv,?_⟩;rcases bn.mp hu with e|e
 .rw[e];exact bA _ (cU.mpr rfl)
 .rw[cU.mp e];exact bu
theorem mX:u∈dE ps↔u∈ps\/tL u∈ps:=by
 rw[(iy (ps:=ps)).mem_iff,cw];refine or_congr Iff.rfl ⟨fun h=>?_,fun h=>bB.mpr ⟨_,h,rfl⟩⟩;obtain⟨v,hv,rfl⟩:=bB.mp h;exact hv
theorem Cb:((dE ps).map tL).Perm (dE ps):=by
 refine((iy (ps:=ps)).map tL).trans (List.Perm.trans ?_ (iy (ps:=ps)).symm);rw[di,dQ];have e:ps.map (tL ∘ tL)=ps:=(jT fun u _=>rfl).trans (oJ ps);rw[e];exact i7
def DN(x:Nat):List Nat->Bool
 |[]=>false
 |y::ys=>Nat.beq x y||DN x ys
theorem sg:∀ {ys:List Nat},DN x ys=true↔x∈ys
 |[]=>by simp[DN]
 |y::ys=>by
  unfold DN;rw[rc,sg (ys:=ys),bn];exact or_congr ⟨fun h=>uV h,fun h=>by rw[h];exact vx y⟩ Iff.rfl
def Us:List Nat->Bool
 |[]=>true
 |x::xs=>!DN x xs&&Us xs
theorem FM:∀ {xs:List Nat},Us xs=true->xs.Nodup
 |[],_=>jl
 |x::xs,h=>by
  unfold Us at h;rw[gm] at h;refine fN.mpr ⟨fun z=>?_,FM h.2⟩;rw[sg.mpr z] at h;exact absurd h.1 (by decide)
def Ut:List Nat->Bool
 |x::y::r=>Nat.ble x y&&Ut (y::r)
 |_=>true
theorem FN:∀ {xs:List Nat},Ut xs=true->xs.Pairwise (·<=·)
 |[],_=>List.Pairwise.nil
 |[x],_=>List.pairwise_singleton _ _
 |x::y::r,h=>by
  unfold Ut at h;rw[gm] at h;have ih:=FN h.2;refine vc.mpr ⟨fun z hz=>?_,ih⟩;have h1:=qR h.1;rcases bn.mp hz with e|e
  .rw[e];exact h1
  .exact ba h1 ((vc.mp ih).1 z e)
abbrev iG(q:Nat×Nat):Int×Int:=((q.1:Int),(q.2:Int))
def Rb(qs:List (Nat×Nat)):List Nat:=qs.flatMap fun q=>[64*q.1+q.2,64*q.2+q.1]
def IW(c:Nat):Int×Int:=(((c / 64:Nat):Int),((c % 64:Nat):Int))
theorem AD(h:b<64):IW (64*a+b)=((a:Int),(b:Int)):=by
 unfold IW;rw[show (64*a+b) / 64=a by lia,show (64*a+b) % 64=b by lia]
theorem qH:∀ {qs:List (Nat×Nat)},(∀q∈qs,q.1<64/\q.2<64)->(Rb qs).map IW=dE (qs.map iG)
 |[],_=>rfl
 |q::qs,h=>by
  have ih:=qH (qs:=qs) fun x hx=>h x (bA _ hx);obtain⟨h1,h2⟩:=h q bu;show IW (64*q.1+q.2)::IW (64*q.2+q.1)::(Rb qs).map IW=iG q::tL (iG q)::dE (qs.map iG);rw[ih,AD h2,AD h1]
def b1(b:Bool):Nat:=cond b 1 0
def lq(h:Nat):List (Nat×Nat)->Nat
 |[]=>0
 |q::qs=>b1 (Nat.beq q.1 h)+(b1 (Nat.beq q.2 h)+lq h qs)
theorem wa{h:Nat}:∀ {qs:List (Nat×Nat)},((dE (qs.map iG)).filter fun t=>decide (t.1=(h:Int))).length=lq h qs
 |[]=>rfl
 |q::qs=>by
  have ih:=wa (h:=h) (qs:=qs);have e:∀a:Nat,(if decide ((a:Int)=(h:Int))=true then 1 else 0)=b1 (Nat.beq a h):=fun a=>by
   by_cases c:a=h
   .subst c;rw[ak (by simp),vx];rfl
   .rw[av (by simp;lia),show Nat.beq a h=false from zy.mpr fun z=>c (uV z)];rfl
  show ((iG q::tL (iG q)::dE (qs.map iG)).filter _).length=b1 (Nat.beq q.1 h)+(b1 (Nat.beq q.2 h)+lq h qs);rw[<-ih,<-e q.1,<-e q.2,dO,dO];split <;> split <;> simp <;> lia
def FO(n:Nat)(qs:List (Nat×Nat)):Bool:=Nat.ble 2 n&&(Nat.ble n 32&&(Us (Rb qs)&&(qs.all (fun q=>Nat.blt q.1 n&&(Nat.blt q.2 n&&!Nat.beq q.1 q.2))&&((List.range n).all (fun h=>Nat.ble (lq h qs) 8) &&
 (List.range n).all (fun v=>Nat.beq v 0||(List.range v).reverse.any (fun u=>DN (64*u+v) (Rb qs)))))))
theorem md(h:Nat.blt a b=true):a<b:=qR h
theorem FP(h:FO n qs=true):b8 n (dE (qs.map iG))/\∀q∈qs,q.1<64/\q.2<64:=by
 unfold FO at h;simp only[gm,lz,bK,rc,zG,List.mem_reverse] at h;obtain⟨h1,h2,h3,h4,h5,h6⟩:=h;have h1:=qR h1;have h2:=qR h2;have Rc:∀q∈qs,q.1<64/\q.2<64:=fun q hq=>⟨by have:=md (h4 q hq).1;lia,by have:=md (h4 q hq).2.1;lia⟩
 have mem:∀t∈dE (qs.map iG),∃q∈qs,t=iG q\/t=tL (iG q):=fun t ht=>by
  rcases mX.mp ht with z|z
  .obtain⟨q,hq,e⟩:=bB.mp z;exact⟨q,hq,.inl e.symm⟩
  .obtain⟨q,hq,e⟩:=bB.mp z;exact⟨q,hq,.inr (by rw[e])⟩
 have rg:∀t∈dE (qs.map iG),((0<=t.1/\t.1<n)/\(0<=t.2/\t.2<n))/\t.1≠t.2:=fun t ht=>by
  obtain⟨q,hq,e⟩:=mem t ht;have a:=md (h4 q hq).1;have b:=md (h4 q hq).2.1;have c:q.1≠q.2:=fun z=>by have:=(h4 q hq).2.2;rw[z,vx] at this;exact absurd this (by decide)
  rcases e with rfl|rfl
  .exact⟨⟨⟨by show (0:Int)<=(q.1:Int);lia,by show (q.1:Int)<n;lia⟩,by show (0:Int)<=(q.2:Int);lia,by show (q.2:Int)<n;lia⟩,by show ((q.1:Nat):Int)≠(q.2:Nat);lia⟩
  .exact⟨⟨⟨by show (0:Int)<=(q.2:Int);lia,by show (q.2:Int)<n;lia⟩,by show (0:Int)<=(q.1:Int);lia,by show (q.1:Int)<n;lia⟩,by show ((q.2:Nat):Int)≠(q.1:Nat);lia⟩
 have B8:∀h:Int,((dE (qs.map iG)).filter fun t=>decide (t.1=h)).length=((dE (qs.map iG)).filter fun t=>decide (t.2=h)).length:=fun h=>by
  rw[<-(Cb (ps:=qs.map iG)).filter (fun t=>decide (t.1=h)) |>.length_eq,oA,aR];rfl
 have nd:(dE (qs.map iG)).Nodup:=by
  rw[<-qH Rc];refine List.Pairwise.map _ (fun a b nI e=>nI ?_) (qO.mp (FM h3));have e1:a / 64=b / 64:=cK (congrArg Prod.fst e);have e2:a % 64=b % 64:=cK (congrArg Prod.snd e);lia
 refine⟨⟨h1,h2,nd,fun t ht=>(rg t ht).1,fun t ht=>(rg t ht).2,B8,fun h=>?_,fun a b ha hb=>?_⟩,Rc⟩
 .by_cases c:0<=h/\h<n
  .have:=qR (h5 h.toNat (by lia));rw[<-wa,n_ c.1] at this;exact this
  .have e:(dE (qs.map iG)).filter (fun t=>decide (t.1=h))=[]:=nY.mpr fun t ht e=>c ((show t.1=h from eE e) ▸ (rg t ht).1.1);rw[e];exact cx _
 .have Ab:∀v,v<n->(∃k,eT (dE (qs.map iG)) k 0 v)/\∃k,eT (dE (qs.map iG)) k v 0:=by
   intro v;induction v using Nat.strongRecOn with
   |ind v ih=>
    intro hv;rcases h6 v hv with e|⟨u,hu,t1⟩
    .have e:=uV e;subst e;exact⟨⟨0,rfl⟩,0,rfl⟩
    .obtain⟨⟨k,w⟩,l,w'⟩:=ih u hu (by lia);have t:T (dE (qs.map iG)) u v:=by
      have:=bB.mpr ⟨_,sg.mp t1,AD (a:=u) (b:=v) (by lia)⟩;rw[qH Rc] at this;exact this
     have t':T (dE (qs.map iG)) v u:=Ca t;exact⟨⟨k+1,u,w,t⟩,l+1,eT.cons t' w'⟩
  obtain⟨_,k,w⟩:=Ab a ha;obtain⟨⟨l,w'⟩,_⟩:=Ab b hb;exact⟨_,w.trans w'⟩
def si(f b:Nat):List (Nat×Nat):=(List.range f).flatMap fun at_=>(List.range (b ^ f)).flatMap fun h=>(List.range (b-h / b ^ at_ % b-1)).map fun k=>(h,h+(k+1)*b ^ at_)
def Re(f b h:Nat):List Nat:=(List.range f).map fun k=>h / b ^ k % b
def unl(f b o p:Nat):Nat:=((List.range f).filter fun k=>!Nat.beq ((Re f b o).getD k 0) ((Re f b p).getD k 0)).length
def AE(f b:Nat):List Nat:=(List.range (b ^ f)).flatMap fun o=>((List.range (b ^ f)).filter fun p=>Nat.beq (unl f b o p) 1).map fun p=>64*o+p
def AF(f b:Nat):Ts:=(AE f b).map IW
def Cc(f b:Nat):Bool:=FO (b ^ f) (si f b)&&((Rb (si f b)).isPerm (AE f b)&&Ut (AE f b))
theorem AG:(List.range 6).all (fun f=>(List.range 6).all fun b=>Nat.blt f 1||(Nat.blt b 2||(Nat.blt 32 (b ^ f)||Cc f b)))=true:=by decide +kernel
theorem AH(f1:1<=f)(f2:f<=5)(b1:2<=b)(b2:b<=5)(hm:b ^ f<=32):b8 (b ^ f) (dE ((si f b).map iG))/\(dE ((si f b).map iG)).Perm (AF f b)/\(AF f b).Pairwise (fun u v=>64*u.1+u.2<=64*v.1+v.2):=by
 have:=lz.mp (lz.mp AG f (bK.mpr (by lia))) b (bK.mpr (by lia));rw[rc,rc,rc] at this;rcases this with z|z|z|z
 .have:=md z;lia
 .have:=md z;lia
 .have:=md z;lia
 .unfold Cc at z;rw[gm,gm] at z;obtain⟨h1,h2,h3⟩:=z;obtain⟨F,Rc⟩:=FP h1;refine⟨F,?_,?_⟩
  .rw[<-qH Rc];exact(List.isPerm_iff.mp h2).map IW
  .unfold AF;rw[iK];refine(FN h3).imp fun {a b} h=>?_;unfold IW;show 64*((a / 64:Nat):Int)+((a % 64:Nat):Int)<=64*((b / 64:Nat):Int)+((b % 64:Nat):Int);lia
def pr:List Nat->Nat
 |[]=>1
 |n::ns=>n*pr ns
def Cd(m st n:Nat):List (Nat×Nat):=((List.range m).filter fun h=>decide (h / st % n+1<n)).map fun h=>(h,h+st)
def bx(m:Nat):Nat->List Nat->List (Nat×Nat)
 |_,[]=>[]
 |st,n::ns=>Cd m st n++bx m (st*n) ns
def mY(ns:List Nat):List (Nat×Nat):=bx (pr ns) 1 ns
def IX:Nat->List Nat->Nat->Nat->Prop
 |_,[],_,_=>False
 |st,n::ns,a,b=>(a / st % n+1<n/\b=a+st)\/IX (st*n) ns a b
theorem Ce:q∈Cd m st n↔q.1<m/\q.1 / st % n+1<n/\q.2=q.1+st:=by
 unfold Cd;rw[bB];constructor
 .rintro⟨h,hh,rfl⟩;obtain⟨h1,h2⟩:=dz.mp hh;exact⟨bK.mp h1,eE h2,rfl⟩
 .rintro⟨h1,h2,h3⟩;exact⟨q.1,dz.mpr ⟨bK.mpr h1,fP h2⟩,gw rfl h3.symm⟩
theorem wb:∀ {ns:List Nat} {st:Nat},q∈bx m st ns↔q.1<m/\IX st ns q.1 q.2
 |[],st=>⟨fun h=>(nomatch h),fun h=>h.2.elim⟩
 |n::ns,st=>by
  unfold bx IX;rw[cw,Ce,wb (ns:=ns)];constructor
  .rintro(⟨a,b,c⟩|⟨a,b⟩)
   .exact⟨a,.inl ⟨b,c⟩⟩
   .exact⟨a,.inr b⟩
  .rintro⟨a,⟨b,c⟩|b⟩
   .exact .inl ⟨a,b,c⟩
   .exact .inr ⟨a,b⟩
abbrev U(ns:List Nat):Nat->Nat->Prop:=IX 1 ns
theorem wc:∀ {ns:List Nat} {st a b:Nat},0<st->(∀n∈ns,0<n)->(IX st ns a b↔a % st=b % st/\U ns (a / st) (b / st))
 |[],st,a,b,h,_=>⟨fun z=>z.elim,fun z=>z.2.elim⟩
 |n::ns,st,a,b,h,hn=>by
  have Eo:=hn n bu;have xD:∀n∈ns,0<n:=fun x hx=>hn x (bA _ hx);show (_\/IX (st*n) ns a b)↔a % st=b % st/\(_\/IX (1*n) ns (a / st) (b / st))
  rw[Nat.one_mul,wc (rm h Eo) xD,wc Eo xD,Nat.div_one,yZ a st n,yZ b st n,Nat.mod_mul,Nat.mod_mul];have e1:=j3 a st;have e2:=j3 b st;constructor
  .rintro(⟨c,rfl⟩|⟨c,d⟩)
   .refine⟨by rw[Nat.add_mod_right],.inl ⟨c,by rw[Nat.add_div_right _ h]⟩⟩
   .have m1:a % st=b % st:=by
     have:=congrArg (· % st) c;simp only[Nat.add_mul_mod_self_left,Nat.mod_mod] at this;exact this
    refine⟨m1,.inr ⟨?_,d⟩⟩;rw[m1] at c;exact Nat.eq_of_mul_eq_mul_left h (Nat.add_left_cancel c)
  .rintro⟨m1,⟨c,d⟩|⟨c,d⟩⟩
   .refine .inl ⟨c,?_⟩;rw[<-e2,d,<-m1,Nat.mul_add,vz,Nat.add_right_comm,e1]
   .exact .inr ⟨by rw[m1,c],d⟩
theorem AI(h:∀x∈n::ns,0<x):U (n::ns) a b↔(a % n+1<n/\b=a+1)\/(a % n=b % n/\U ns (a / n) (b / n)):=by
 show (_\/IX (1*n) ns a b)↔_;rw[Nat.one_mul,wc (h n bu) fun x hx=>h x (bA _ hx),Nat.div_one]
theorem AJ(h:a % n+1<n):(a+1) / n=a / n/\(a+1) % n=a % n+1:=by
 have e:=j3 a n;have e2:a+1=n*(a / n)+(a % n+1):=by lia
 have hn:0<n:=by lia
 rw[e2,Nat.mul_add_div hn,Nat.mul_add_mod,Nat.div_eq_of_lt h,lx h];exact⟨rfl,rfl⟩
theorem Rf:∀ {ns:List Nat} {a b:Nat},(∀x∈ns,0<x)->U ns a b->a<pr ns->a<b/\b<pr ns
 |[],a,b,_,h,_=>h.elim
 |n::ns,a,b,hn,h,ha=>by
  have Eo:=hn n bu;have xD:∀n∈ns,0<n:=fun x hx=>hn x (bA _ hx);have L9:a<n*pr ns:=ha;have hq:a / n<pr ns:=Nat.div_lt_of_lt_mul L9;show a<b/\b<n*pr ns;rcases(AI hn).mp h with ⟨c,rfl⟩|⟨c,d⟩
  .refine⟨by lia,?_⟩;have e:=j3 a n;have:=qS n hq;rw[Nat.succ_eq_add_one,Nat.mul_add,vz] at this;lia
  .obtain⟨i1,i2⟩:=Rf xD d hq;refine⟨?_,?_⟩
   .have e1:=j3 a n;have e2:=j3 b n;have:=EC i1 Eo;lia
   .have e2:=j3 b n;have hm:=kg b Eo;have:=qS n i2;rw[Nat.succ_eq_add_one,Nat.mul_add,vz] at this;lia
theorem FQ:∀ {ns:List Nat} {v:Nat},(∀x∈ns,0<x)->0<v->v<pr ns->∃u,u<v/\U ns u v
 |[],v,_,h1,h2=>by have h2:v<1:=h2;lia
 |n::ns,v,hn,h1,h2=>by
  have Eo:=hn n bu;have xD:∀n∈ns,0<n:=fun x hx=>hn x (bA _ hx);have lv:=kg v Eo;have ev:=j3 v n;by_cases c:v % n=0
  .have hq:0<v / n:=by
    rcases Nat.eq_zero_or_pos (v / n) with z|z
    .rw[z,c] at ev;simp at ev;lia
    .exact z
   obtain⟨u,hu,uu⟩:=FQ (v:=v / n) xD hq (Nat.div_lt_of_lt_mul h2);refine⟨n*u,?_,(AI hn).mpr (.inr ⟨by rw[Nat.mul_mod_right,c],by rw[Nat.mul_div_cancel_left _ Eo];exact uu⟩)⟩;have:=EC hu Eo;lia
  .have hv:v-1=n*(v / n)+(v % n-1):=by lia
   have hm:(v-1) % n=v % n-1:=by rw[hv,Nat.mul_add_mod,lx (by lia)]
   exact⟨v-1,by lia,(AI hn).mpr (.inl ⟨by lia,by lia⟩)⟩
theorem Cf:∀ {ns:List Nat} {st a b:Nat},(∀x∈ns,0<x)->IX st ns a b->a+st<=b
 |[],st,a,b,_,h=>h.elim
 |n::ns,st,a,b,hn,h=>by
  rcases h with ⟨_,rfl⟩|h
  .exact aU _
  .have:=Cf (fun x hx=>hn x (bA _ hx)) h;have h1:=Nat.le_mul_of_pos_right st (hn n bu);lia
theorem DO:(Cd m st n).Nodup:=by
 unfold Cd;refine qO.mpr (iK.mpr ?_);exact(qO.mp (jW.sublist zj)).imp fun {a b} h e=>h (congrArg Prod.fst e)
theorem xT:∀ {ns:List Nat} {st:Nat},0<st->(∀x∈ns,2<=x)->(bx m st ns).Nodup
 |[],_,_,_=>jl
 |n::ns,st,h,hn=>by
  have OY:=hn n bu;have xD:∀x∈ns,2<=x:=fun x hx=>hn x (bA _ hx);refine jU.mpr ⟨DO,xT (rm h (by lia)) xD,fun x hx y hy e=>?_⟩;subst e;have h1:=(Ce.mp hx).2.2;have h2:=Cf (fun x hx=>by have:=xD x hx;lia) (wb.mp hy).2;have h3:=qS st OY;lia
theorem DP(nd:ps.Nodup)(h:∀u∈ps,u.1<u.2):(dE ps).Nodup:=by
 refine(iy (ps:=ps)).nodup_iff.mpr (jU.mpr ⟨nd,?_,fun x hx y hy e=>?_⟩)
 .refine qO.mpr (iK.mpr ((qO.mp nd).imp fun {a b} nI e=>nI ?_));exact gw (congrArg Prod.snd e) (congrArg Prod.fst e)
 .subst e;obtain⟨u,hu,rfl⟩:=bB.mp hy;have h1:=h _ hx;have h2:=h u hu;have h1:u.2<u.1:=h1;lia
theorem DQ{qs:List (Nat×Nat)}(h:qs.Nodup):(qs.map iG).Nodup:=by
 refine qO.mpr (iK.mpr ((qO.mp h).imp fun {a b} nI e=>nI ?_));exact gw (cK (congrArg Prod.fst e)) (cK (congrArg Prod.snd e))
theorem pY:∀ {a b:List (Nat×Nat)},lq h (a++b)=lq h a+lq h b
 |[],b=>by show lq h b=0+_;lia
 |q::a,b=>by
  have:=pY (h:=h) (a:=a) (b:=b);show b1 _+(b1 _+lq h (a++b))=b1 _+(b1 _+lq h a)+lq h b;lia
theorem K_:b1 (Nat.beq a b)=if a=b then 1 else 0:=by
 by_cases c:a=b
 .subst c;rw[ak rfl,vx];rfl
 .rw[av c,show Nat.beq a b=false from zy.mpr fun z=>c (uV z)];rfl
theorem Cg:∀ {L:List Nat},L.Nodup->lq h (L.map fun x=>(x,x+st))<=(if h∈L then 1 else 0)+(if st<=h/\h-st∈L then 1 else 0)
 |[],_=>cx _
 |x::L,nd=>by
  obtain⟨n1,n2⟩:=fN.mp nd;have ih:=Cg (h:=h) (st:=st) n2;show b1 (Nat.beq x h)+(b1 (Nat.beq (x+st) h)+lq h (L.map fun x=>(x,x+st)))<=_;rw[K_,K_];have e1:(if h∈x::L then 1 else 0)=(if x=h then 1 else 0)+(if h∈L then 1 else 0):=by
   by_cases c:x=h
   .subst c;rw[ak bu,ak rfl,av n1]
   .rw[av c];by_cases d:h∈L
    .rw[ak (bA _ d),ak d]
    .rw[av d,av (fun z=>(bn.mp z).elim (fun z=>c z.symm) d)]
  have e2:(if st<=h/\h-st∈x::L then 1 else 0)=(if x+st=h then 1 else 0)+(if st<=h/\h-st∈L then 1 else 0):=by
   by_cases c:x+st=h
   .have e:h-st=x:=by lia
    rw[ak c,e,ak ⟨by lia,bu⟩,av (fun z=>n1 z.2)]
   .rw[av c];by_cases d:st<=h/\h-st∈L
    .rw[ak d,ak ⟨d.1,bA _ d.2⟩]
    .rw[av d,av];rintro⟨z1,z2⟩;rcases bn.mp z2 with z|z
     .lia
     .exact d ⟨z1,z⟩
  rw[e1,e2];lia
def wt:List Nat->Nat
 |[]=>0
 |n::ns=>(if n=2 then 1 else 2)+wt ns
theorem IY(hs:0<st):lq h (Cd m st n)<=if n=2 then 1 else 2:=by
 have c:=Cg (h:=h) (st:=st) (L:=(List.range m).filter fun h=>decide (h / st % n+1<n)) (jW.sublist zj);refine ba c ?_;by_cases e:n=2
 .rw[ak e];by_cases c1:h∈(List.range m).filter fun h=>decide (h / st % n+1<n)
  .rw[ak c1,av]
   .lia
   .rintro⟨z1,z2⟩;have d1:h / st % n+1<n:=eE (dz.mp c1).2;have d2:(h-st) / st % n+1<n:=eE (dz.mp z2).2;have d3:h / st=(h-st) / st+1:=by
     have:=Nat.add_div_right (h-st) hs;rw[show h-st+st=h by lia] at this;exact this
    obtain⟨_,d4⟩:=AJ d2;rw[<-d3] at d4;lia
  .rw[av c1];split <;> lia
 .rw[av e];split <;> split <;> lia
theorem FR:∀ {ns:List Nat} {st:Nat},0<st->(∀x∈ns,0<x)->lq h (bx m st ns)<=wt ns
 |[],_,_,_=>aU _
 |n::ns,st,hs,hn=>by
  show lq h (Cd m st n++bx m (st*n) ns)<=_+wt ns;rw[pY];have h1:=IY (m:=m) (n:=n) (h:=h) hs;have h2:=FR (m:=m) (h:=h) (ns:=ns) (st:=st*n) (rm hs (hn n bu)) fun x hx=>hn x (bA _ hx);lia
theorem FS:∀ {ns:List Nat},(∀x∈ns,2<=x)->3 ^ wt ns<=pr ns*pr ns
 |[],_=>aU _
 |n::ns,hn=>by
  have ih:=FS (ns:=ns) fun x hx=>hn x (bA _ hx);have h2:=hn n bu;show 3 ^ ((if n=2 then 1 else 2)+wt ns)<=n*pr ns*(n*pr ns);rw[Nat.pow_add,Nat.mul_mul_mul_comm];refine zL ?_ ih;by_cases c:n=2
  .rw[ak c,c];decide
  .rw[av c];have:3<=n:=by lia
   exact zL this this
theorem Rg(hn:∀x∈ns,2<=x)(hp:pr ns<=32):wt ns<=8:=by
 refine uP fun z=>?_;have h1:3 ^ 9<=3 ^ wt ns:=Nat.pow_le_pow_right (by decide) (by lia);have h2:=FS hn;have h3:pr ns*pr ns<=32*32:=zL hp hp;have h4:(3:Nat) ^ 9=19683:=by decide
 lia
theorem FT{ns:List Nat}(hn:∀x∈ns,2<=x)(h0:ns≠[])(hp:pr ns<=32):b8 (pr ns) (dE ((mY ns).map iG)):=by
 have MB:∀x∈ns,0<x:=fun x hx=>by have:=hn x hx;lia
 have q:∀q∈mY ns,q.1<q.2/\q.2<pr ns:=fun q hq=>by
  obtain⟨a,b⟩:=wb.mp hq;exact Rf MB b a
 have n1:2<=pr ns:=by
  cases ns with
  |nil=>exact absurd rfl h0
  |cons n ns=>
   have h2:=hn n bu;have:∀ {l:List Nat},(∀x∈l,2<=x)->1<=pr l:=fun {l}=>by
    induction l with
    |nil=>intro _;exact aU _
    |cons x l ih=>intro hl;exact rm (by have:=hl x bu;lia) (ih fun y hy=>hl y (bA _ hy))
   have h3:=this (l:=ns) fun x hx=>hn x (bA _ hx);show 2<=n*pr ns;exact ba h2 (Nat.le_mul_of_pos_right n h3)
 have mem:∀t∈dE ((mY ns).map iG),∃q∈mY ns,t=iG q\/t=tL (iG q):=fun t ht=>by
  rcases mX.mp ht with z|z
  .obtain⟨q,hq,e⟩:=bB.mp z;exact⟨q,hq,.inl e.symm⟩
  .obtain⟨q,hq,e⟩:=bB.mp z;exact⟨q,hq,.inr (by rw[e])⟩
 have rg:∀t∈dE ((mY ns).map iG),((0<=t.1/\t.1<pr ns)/\(0<=t.2/\t.2<pr ns))/\t.1≠t.2:=fun t ht=>by
  obtain⟨p,hq,e⟩:=mem t ht;obtain⟨a,b⟩:=q p hq;rcases e with rfl|rfl
  .exact⟨⟨⟨by show (0:Int)<=(p.1:Int);lia,by show (p.1:Int)<(pr ns:Int);lia⟩,by show (0:Int)<=(p.2:Int);lia,by show (p.2:Int)<(pr ns:Int);lia⟩,by show ((p.1:Nat):Int)≠(p.2:Nat);lia⟩
  .exact⟨⟨⟨by show (0:Int)<=(p.2:Int);lia,by show (p.2:Int)<(pr ns:Int);lia⟩,by show (0:Int)<=(p.1:Int);lia,by show (p.1:Int)<(pr ns:Int);lia⟩,by show ((p.2:Nat):Int)≠(p.1:Nat);lia⟩
 have nd:(dE ((mY ns).map iG)).Nodup:=DP (DQ (xT (by decide) hn)) fun u hu=>by
  obtain⟨p,hq,rfl⟩:=bB.mp hu;have:=(q p hq).1;show (p.1:Int)<(p.2:Int);lia
 refine⟨n1,hp,nd,fun t ht=>(rg t ht).1,fun t ht=>(rg t ht).2,fun h=>?_,fun h=>?_,fun a b ha hb=>?_⟩
 .rw[<-(Cb (ps:=(mY ns).map iG)).filter (fun t=>decide (t.1=h)) |>.length_eq,oA,aR];rfl
 .by_cases c:0<=h/\h<pr ns
  .have:=FR (m:=pr ns) (h:=h.toNat) (ns:=ns) (st:=1) (by decide) MB;have e:=wa (h:=h.toNat) (qs:=mY ns);rw[n_ c.1] at e;rw[e];exact ba this (Rg hn hp)
  .have e:(dE ((mY ns).map iG)).filter (fun t=>decide (t.1=h))=[]:=nY.mpr fun t ht e=>c ((show t.1=h from eE e) ▸ (rg t ht).1.1);rw[e];exact cx _
 .have Ab:∀v,v<pr ns->(∃k,eT (dE ((mY ns).map iG)) k 0 v)/\∃k,eT (dE ((mY ns).map iG)) k v 0:=by
   intro v;induction v using Nat.strongRecOn with
   |ind v ih=>
    intro hv;rcases Nat.eq_zero_or_pos v with e|e
    .subst e;exact⟨⟨0,rfl⟩,0,rfl⟩
    .obtain⟨u,hu,uu⟩:=FQ MB e hv;obtain⟨⟨k,w⟩,l,w'⟩:=ih u hu (by lia);have t:T (dE ((mY ns).map iG)) u v:=mX.mpr (.inl (bB.mpr ⟨(u,v),wb.mpr ⟨by show u<pr ns;lia,uu⟩,rfl⟩));have t':T (dE ((mY ns).map iG)) v u:=Ca t;exact⟨⟨k+1,u,w,t⟩,l+1,eT.cons t' w'⟩
  obtain⟨_,k,w⟩:=Ab a ha;obtain⟨⟨l,w'⟩,_⟩:=Ab b hb;exact⟨_,w.trans w'⟩
end je
namespace L2
open PySem PySem.Spec PyProof.Rows
def AK(scope:Scope)(cV:List (Str×Addr))(qual:Str)(f c L:Addr):Env:=
 { scope:=scope,locals:=L,globals:=mainGlobals,cells:=cV,qual:=qual++".<locals>.",func:=some f,code:=.ref c,frame:=some L,builtins:=builtinsNs }
def pZ(X:Cx)(NB:List Str)(scope:Scope)(cV:List (Str×Addr))(qual:Str)(f c:Addr)(s:Shared)(H:Hp):Cx:=
 { X with A:=X.A.in1.in1.deeper (AK scope cV qual f c s.heap.objs.size),N:=NB,s₀:=s,H₀:=H,env:=AK scope cV qual f c s.heap.objs.size,outer:=X.stack,stack:=AK scope cV qual f c s.heap.objs.size::X.stack,ex:=[],fn:=fun _=>false,pn:=[],xe:=fun _ _=>False }
structure xU(X:Cx)(NB:List Str)(src:List (Option Nat))(scope:Scope)(qual:Str)(params:Arguments)(body:Expr)(y:Str):Prop where
 bs:gQ NB src scope X
 bind:∀cV pm c xB v,bindArgs (PySem.W.kla_fn "<lambda>" qual params body scope cV pm (.ref c) xB) ⟨[v],[]⟩=pure [(y,v)]
 y0:NB[0]?=some y
 s0:src[0]?=some none
 ly:scope.names.lookup y=some .local
 v3:∀z∈scope.names,z.2≠.cell
 co:scope.isCoroutine=false
 gen:scope.isGenerator=false
section
variable {X:Cx} {af:List (Addr×Obj)} {σ:St} {H:Hp} {s:Shared} {NB:List Str} {src:List (Option Nat)} {scope:Scope} {qual:Str} {params:Arguments} {body:Expr} {y:Str} {cV:List (Str×Addr)} {f c:Addr} {h₁:Heap} {t₁:Nat} {v:V} {u:Value}
theorem IZ(I:aS X af σ H s)(S:xU X NB src scope qual params body y)(hd:X.A.handled=none)(c1:∀x c,cV.lookup x=some c->X.env.cells.lookup x=some c)(c2:∀x,(x,NameKind.free)∈scope.names->∃c,cV.lookup x=some c)(hn:h₁.Ns s.heap.objs.size (fun x=>[(y,u)].lookup x))(hk:∀b o,s.heap.get? b=some o->h₁.get? b=some o)(rv:bR v u):
  aS (pZ X NB scope cV qual f c s H) [] ((yJ src σ).set 0 (some v)) H { s with heap:=h₁,toks:=t₁ }:=by
 have vU:∀x c,cV.lookup x=some c->∃v,s.heap.IsCell c v:=fun x c e=>I.cell x c (c1 x c e);have B:=S.bs;refine⟨⟨I.ok.mod,B.kind,rfl,rfl,aU _,fun x y c e1 e2=>I.ok.inj x y c (c1 x c e1) (c1 y c e2),fun x hx=>?_,(fun x c z e=>by cases z),fun _=>hd,Around.frames_deeper I.ok.frames,.inr ⟨rfl,rfl⟩,(fun b hb=>by cases hb),I.bs,ba I.ok.EM I.sz,(fun b o e hb=>by cases hb),(fun b hb=>by cases hb),I.stack,I.vE⟩,
  rfl,I.bare,Un.kept hk,⟨_,hn,fun i x w e1 e2 e3=>?_⟩,fun x c e=>?_,I.cz.fresh (aU _),fun x c e=>I.km x c (c1 x c e),fun p hp=>absurd (show p∈([]:List (Addr×Obj)) from hp) (by simp),I.cz.kept hk,?_⟩
 .have hx:scope.names.lookup x=some .cell\/scope.names.lookup x=some .free:=hx;rcases hx with z|z
  .exact absurd rfl (S.v3 _ (jS z))
  .exact c2 x (jS z)
 .have e1:NB[i]?=some x:=e1;cases i with
  |zero=>
   rw[S.y0] at e1;cases e1;have hl:0<(yJ src σ).length:=by
    unfold yJ;rw[aR];exact(dN.mp S.s0).1
   rw[nX hl] at e2;cases e2;exact⟨u,rv,.inl ⟨S.ly,by simp⟩⟩
  |succ i=>
   rw[n9 (by lia)] at e2;obtain⟨j,hj,hv⟩:=BJ e2;obtain⟨hN,hF⟩:=B.src (i+1) x j e1 hj;obtain⟨m0,Eo,Ma⟩:=I.loc;have Ac:=jS hF;have kx:=B.free _ Ac rfl;have P8:OV X.env.scope x:=by
    rcases kx with z|z
    .exact .inr (.inl z)
    .exact .inr (.inr z)
   obtain⟨u',r,l⟩:=Ma j x w hN hv P8;obtain⟨c',hc⟩:=c2 x Ac;refine⟨u',r,.inr ⟨.inr hF,c',hc,?_⟩⟩;rcases l with ⟨KY,_⟩|⟨_,c'',e,z⟩
   .have Fd:X.env.scope.names.lookup x=some .local:=KY;rcases kx with z|z <;> (rw[z] at Fd;cases Fd)
   .rw[c1 x c' hc] at e;cases e;obtain⟨o,ho,HZ⟩:=z;exact⟨o,hk _ _ ho,HZ⟩
 .obtain⟨v,o,ho,HZ⟩:=vU x c e;exact⟨v,o,hk _ _ ho,HZ⟩
 .show ((yJ src σ).set 0 (some v)).length=NB.length;unfold yJ;rw[jF,aR];exact B.len
theorem FU(hr:cy k X.A)(S:xU X NB src scope qual params body y)(I:aS X af σ H s)(hf:H f=some (tE f qual params body scope X.env.cells c))(hc:H c=some (mP c qual))(rv:bR v u)(hb:∀cV s H,PE (pZ X NB scope cV qual f c s H) body te)(h:te ((yJ src σ).set 0 (some v)) H Q):
  wpAny (model X.prog X.w) X.A.in1.in1 (call (.ref f) [u]) (EP X af σ Q) (fun _ _=>False) s:=by
 obtain⟨cV,pm,xB,c1,c2,L_⟩:=(I.cz f _ hf).1;have VY:s.heap.CodeRec (.ref c) qual:=(I.cz c _ hc).1;have Ft:X.A.in1.in1.depth<recursionLimit:=by
  have:=hr.dp;show X.A.depth<_;lia
 refine oO (PySem.W.kla_callFunE Ft L_ rfl S.co S.gen rfl VY ?_);rw[S.bind];refine wpAny_pure (wpAny_newFunctionEnv S.v3 (fun x hx=>by rw[cU.mp hx];exact S.ly) (fun h₁ xD QL=>⟨I.nolimit.fresh _ QL,?_⟩) S.bs.kind);have Mn:∀b o,s.heap.get? b=some o->h₁.get? b=some o:=fun b o e=>QL.extBut b o (aW (aT e)) (bL _ e);refine PySem.W.kla_codeExpr ?_;have J:=IZ (f:=f) (c:=c) (t₁:=s.toks+1) I S hr.hd c1 c2 xD Mn rv;refine jn (hb cV s H [] _ _ H Q J h) (fun w s' ⟨v',H',J',r',q'⟩=>?_) fun _ _ z=>z.elim;exact⟨v',H',I.KL (ch:=[]) J'.os J'.base J'.cz J'.bare (fun b hb=>by cases hb),r',q'⟩
end
def La(kz:Nat->Int)(a b:Nat):Prop:=kz a=kz a/\a=a/\b=b
structure HM(ns:List Nat)(kz:Nat->Int)(ps:List Keyed):Prop where
 len:ps.length=ns.length
 at_:∀ (i n:Nat),ns[i]?=some n->∃t u,ps[i]?=some (Value.int (kz n) t,Value.int (n:Int) u)
theorem HM.mem(P:HM ns kz ps)(h:p∈ps):∃n∈ns,∃t u,p=(Value.int (kz n) t,Value.int (n:Int) u):=by
 obtain⟨i,hi,e⟩:=qT h;have hn:i<ns.length:=by rw[<-P.len];exact hi
 obtain⟨t,u,e2⟩:=P.at_ i ns[i] (cg hn);rw[cg hi] at e2;exact⟨_,ik hn,t,u,by rw[<-e];exact bN e2⟩
theorem HM.map(P:HM ns kz ps):ps.map (fun p=>(numOf p.2).toNat)=ns:=by
 refine lw fun i=>?_;rw[bZ];cases e:ns[i]? with
 |none=>
  have:ns.length<=i:=List.getElem?_eq_none_iff.mp e;rw[eZ (by rw[P.len];exact this)];rfl
 |some n=>
  obtain⟨t,u,e2⟩:=P.at_ i n e;rw[e2];rfl
theorem HM.cmp(P:HM ns kz a.toList):Eu prog w A s oneType' a:=fun x y hx hy Q E h=>by
 obtain⟨n,_,t,u,rfl⟩:=P.mem hx;obtain⟨m,_,t',u',rfl⟩:=P.mem hy;rw[keyLt'_oneType];exact oneLt_int (h _)
theorem HM.out{ns:List Nat}{kz:Nat->Int}{a b:Array Keyed}(P:HM ns kz a.toList)(hp:b.Perm a):
  ∃out:List Nat,out.Perm ns/\out.Pairwise (La kz)/\a8 (out.map fun (x:Nat)=>V.int (x:Int)) (b.map (·.2)).toList:=by
 have hl:b.toList.Perm a.toList:=lr.mp hp;have mem:∀p∈b.toList,∃n∈ns,∃t u,p=(Value.int (kz n) t,Value.int (n:Int) u):=fun p h=>P.mem (hl.mem_iff.mp h);refine⟨b.toList.map fun p=>(numOf p.2).toNat,by rw[<-P.map];exact hl.map _,?_,?_⟩
 .exact yT.mpr fun _ _ _ _ _=>⟨rfl,rfl,rfl⟩
 .rw[q0,dQ];have go:∀l:List Keyed,(∀p∈l,∃n∈ns,∃t u,p=(Value.int (kz n) t,Value.int (n:Int) u))->a8 (l.map ((fun (x:Nat)=>V.int (x:Int)) ∘ fun p=>(numOf p.2).toNat)) (l.map (·.2)):=fun l=>by
   induction l with
   |nil=>intro _;exact .nil
   |cons x l ih=>
    intro h;obtain⟨n,_,t,u,rfl⟩:=h x bu;exact .cons ⟨u,rfl⟩ (ih fun p hp=>h p (bA _ hp))
  exact go _ mem
section
variable {X:Cx} {af:List (Addr×Obj)} {σ:St} {H:Hp} {s:Shared}
theorem aS.Rh(I:aS X af σ H s)(f:gf X af H a)(new:cL X.prog X.w (upd H a o) s.heap a o):aS X af σ (upd H a o) s:=by
 have ne:∀ {b u},H b=some u->b≠a:=fun {b u} e z=>by rw[z,f.1] at e;cases e
 obtain⟨h,g,d,t,os⟩:=s;refine I.step (g':=g) (d':=d) (t':=t) (h':=h) (ch:=[a]) (fun b hb=>?_) (fun b o _ _ _ e _=>e) (fun b o _ _ _ e _=>⟨o.slots,e⟩) (fun b o hc _ n=>by rw[ao (fun z=>hc (by simp[z]))];exact n)
  (fun b o _ e=>⟨o,e⟩) (fun b xs e=>by rw[ao (ne e)];exact e) (fun b o u e=>by rw[ao (ne e)];exact e) (fun b ps e=>⟨#[],by rw[ao (ne e),e];simp⟩) (fun m hm=>hm) (fun b u e=>?_) I.bare
 .have e:b=a:=by simpa using hb
  subst e;exact⟨f.2.2.2.1,f.2.1,f.2.2.2.2.1,f.2.2.2.2.2⟩
 .by_cases hb:b=a
  .subst hb;rw[ae] at e;cases e;exact new
  .rw[ao hb] at e;exact(I.cz b u e).iV (fun _ _ _ q=>q) (fun d q=>by rw[ao (ne q)];exact q) fun d xs q=>by rw[ao (ne q)];exact q
variable {NB:List Str} {src:List (Option Nat)} {scope:Scope} {qual:Str} {params:Arguments} {body:Expr} {y:Str} {f c:Addr} {te:TE} {k:Nat} {ns:List Nat} {kz:Nat->Int} {its:List Value} {a kS:Addr} {e1:Nat}
theorem xV{st:SortSt}{keys:Array Value}{e:Nat}{E:Value->Shared->Prop}{A:Around}(I:aS X af σ H s)(fa:gf X af H a)(fk:gf X af H kS)(ME:kS≠a)(oa:s.heap.get? a=some (seqObj "list" #[] e1))(ok:s.heap.get? kS=some (seqObj "list" keys e))(hk:keys.size<64)(K6:(arrOf st).size<64)(hfl:failedOf st=none){out:List Nat}(hv:a8 (out.map fun (x:Nat)=>V.int (x:Int)) ((arrOf st).map (·.2)).toList){P:PySem.Fin->Shared->Prop}(h:∀s',aS X af σ (upd H a (.lst (out.map fun (x:Nat)=>V.int (x:Int)))) s'->P (.done (.ret .none)) s'):
  wpAny (model X.prog X.w) A (ksk_tail a false e1 (.ref kS) st) P E s:=by
 have s1:=om s.heap kS (Obj.mapSeq fun _=>(#[]:Array Value));have Wm:(s.heap.update kS (Obj.mapSeq fun _=>(#[]:Array Value))).get? a=some (seqObj "list" #[] e1):=(s1.2 a ME.symm).trans oa;have s2:=om (s.heap.update kS (Obj.mapSeq fun _=>(#[]:Array Value))) a (Obj.mapSeq fun _=>(arrOf st).map (·.2));obtain⟨c2,Wn⟩:∃c2,((s.heap.update kS (Obj.mapSeq fun _=>(#[]:Array Value))).update a (Obj.mapSeq fun _=>(arrOf st).map (·.2))).get? a=some (seqObj "list" ((arrOf st).map (·.2)) c2):=⟨_,oC Wm fun _=>(arrOf st).map (·.2)⟩
 have J1:=I.turned (t':=s.toks) (h':=s.heap.update kS (Obj.mapSeq fun _=>(#[]:Array Value))) (it:=kS) (fun b o hb q=>(s1.2 b hb).trans q) fk.1 fk.2.1 fk.2.2.2.1 fk.2.2.2.2.1 fk.2.2.2.2.2;have J2:=J1.turned (t':=s.toks) (h':=(s.heap.update kS (Obj.mapSeq fun _=>(#[]:Array Value))).update a (Obj.mapSeq fun _=>(arrOf st).map (·.2))) (it:=a) (fun b o hb q=>(s2.2 b hb).trans q) fa.1 fa.2.1 fa.2.2.2.1 fa.2.2.2.2.1 fa.2.2.2.2.2;have J3:=J2.Rh fa (o:=.lst (out.map fun (x:Nat)=>V.int (x:Int))) ⟨?_,((arrOf st).map (·.2)).toList,c2,hv,by rw[Wn]⟩
 .unfold ksk_tail;try dsimp only
  refine aA (lV ok rfl ?_ (by rw[gJ];lia) (cx _));refine aA (wpAny_letGo ?_);refine aA (rn Wm rfl ?_);simp only[i8,eK];refine aA (lV Wm rfl ?_ (cx _) (by rw[io,gJ];lia));rw[hfl];simp only[zw,i8,eK];exact wpAny_pure (h _ J3)
 .have:=hv.length;rw[this,lu,io,gJ];lia
theorem I0{keys:Array Value}{e:Nat}{E:Value->Shared->Prop}{A:Around}(I:aS X af σ H s)(fa:gf X af H a)(fk:gf X af H kS)(ME:kS≠a)(oa:s.heap.get? a=some (seqObj "list" #[] e1))(ok:s.heap.get? kS=some (seqObj "list" keys e))(hk:IntsAre keys.toList (ns.map kz))(hP:HM ns kz (keys.zip its.toArray).toList)(hl:its.length=ns.length)(K6:ns.length<64)(Uu:ns.Pairwise (·<·))(Uv:∀n∈ns,n<64){P:PySem.Fin->Shared->Prop}(h:∀s' (out:List Nat),out.Perm ns->out.Pairwise (La kz)->aS X af σ (upd H a (.lst (out.map fun (x:Nat)=>V.int (x:Int)))) s'->P (.done (.ret .none)) s'):
  wpAny (model X.prog X.w) A (ksk_end a false its.toArray e1 (.ref kS) keys) P E s:=by
 have ir:keys.size=ns.length:=by
  have h1:=hk.length;rw[lu,aR] at h1;exact h1
 have hzs:(keys.zip its.toArray).size=ns.length:=by rw[Array.size_zip,ir,cJ,hl,vw]
 unfold ksk_end;simp only[i8,eK];by_cases h2:its.toArray.size<2
 .rw[ak h2,ak h2];refine aA (wpAny_pure ?_);rw[StateT.run_pure];refine aA (wpAny_pure ?_);try dsimp only
  rw[cJ,hl] at h2;obtain⟨out,o1,o2,o3⟩:=hP.out (b:=keys.zip its.toArray) (vk _);exact xV (st:=SortSt.mk' general' (keys.zip its.toArray) #[] 7 none) I fa fk ME oa ok (by lia) (by show (keys.zip its.toArray).size<64;lia) rfl o3 fun s' J=>h s' out o1 o2 J
 .rw[av h2,av h2];rw[cJ,hl] at h2;rw[ksk_kind hk (by lia)];refine aA (wpAny_pure ?_);refine aA (jn (ux (st:=SortSt.mk' oneType' (keys.zip its.toArray) #[] 7 none) (a₀:=keys.zip its.toArray) (κ:=oneType')
   (Q:=fun _ aZ=>(arrOf aZ).Perm (keys.zip its.toArray)/\failedOf aZ=none)
   hP.cmp (vk _) rfl rfl rfl fun aZ a1 a2=>⟨a1,a2⟩) ?_ fun _ _ e=>e)
  rintro⟨⟨⟩,aZ⟩ s' ⟨rfl,hp,hf⟩;try dsimp only
  obtain⟨out,o1,o2,o3⟩:=hP.out hp;exact xV I fa fk ME oa ok (by lia) (by rw[hp.size_eq];lia) hf o3 fun s' J=>h s' out o1 o2 J
theorem FV(hr:cy k X.A)(S:xU X NB src scope qual params body y)(hb:∀cV s H,PE (pZ X NB scope cV qual f c s H) body te)(I:aS X af σ H s)(hf:H f=some (tE f qual params body scope X.env.cells c))(hc:H c=some (mP c qual))(hv:a8 (ns.map fun (x:Nat)=>V.int (x:Int)) its)(K6:ns.length<64)(Uu:ns.Pairwise (·<·))(Uv:∀n∈ns,n<64)(fa:gf X af H a)(fk:gf X af H kS)(ME:kS≠a)(oa:s.heap.get? a=some (seqObj "list" #[] e1))(ok:s.heap.get? kS=some (seqObj "list" #[] 0))(Wo:∀n∈ns,∀H',aL H H'->te ((yJ src σ).set 0 (some (.int (n:Nat)))) H' fun v Ri=>v=.int (kz n)/\aL H' Ri)(h:∀H' s' (out:List Nat),aL H H'->H' a=none->out.Perm ns->out.Pairwise (La kz)->aS X af σ (upd H' a (.lst (out.map fun (x:Nat)=>V.int (x:Int)))) s'->P (.done (.ret .none)) s'):
  wpAny (model X.prog X.w) X.A.in1.in1 (ksk_rest a (.ref f) false its.toArray e1 (.ref kS)) P E s:=by
 have hl:its.length=ns.length:=by have:=hv.length;rw[aR] at this;exact this.symm
 unfold ksk_rest;refine aA (fU ?_);first
  |rw[List.forIn_toArray]
  |(rw[<-qW];simp only[List.toList_toArray])
  |rw[<-qW]
 have Rj:∀ {p:Addr×Obj} {b:Addr} {o:Obj} {H':Hp} {s':Shared},gf X af H b->H' b=none->s'.heap.get? b=some o->(∀v,o.data≠.cell v)->p=(b,o)->s'.heap.get? p.1=some p.2/\H' p.1=none/\p.1≠X.env.locals/\p.1∉X.fs/\∀v,p.2.data≠.cell v:=fun {p b o H' s'} F n e d z=>by
  subst z;exact⟨e,n,F.2.1,F.2.2.1,d⟩
 have two:∀ {H':Hp} {s':Shared} {oK:Obj} {Wp:List (Addr×Obj)},aS X Wp σ H' s'->(∀p∈af,p∈Wp)->H' a=none->H' kS=none->s'.heap.get? a=some (seqObj "list" #[] e1)->s'.heap.get? kS=some oK->(∀v,oK.data≠.cell v)->aS X (af++[(kS,oK),(a,seqObj "list" #[] e1)]) σ H' s':=fun {H' s' oK Wp} J sub na nk ea ek d=>J.mz fun p hp=>by
  rcases cw.mp hp with z|z
  .exact J.pin p (dZ _ (sub p z))
  .rcases bn.mp z with z|z
   .exact Rj fk nk ek d z
   .exact Rj fa na ea (fun v z=>by cases z) (cU.mp z)
 refine aA (ksk_fold (fun i s'=>∃H' kA e,aL H H'/\aS X (af++[(kS,seqObj "list" kA e),(a,seqObj "list" #[] e1)]) σ H' s'/\IntsAre kA.toList ((ns.take i).map kz)) its 0 s
  ⟨H,#[],0,aL.refl _,two I (fun p z=>z) fa.1 fk.1 oa ok (fun v z=>by cases z),by simpa using IntsAre.nil⟩ ?step ?done)
 case step=>
  rintro j x s' hx ⟨H',kA,e,sm,J,hk⟩;simp only[re] at hk |-;have hj:j<ns.length:=by rw[<-hl];exact(dN.mp hx).1
  have hnj:ns[j]?=some ns[j]:=cg hj;obtain⟨u,hu,ru⟩:=hv.get (i:=j) (x:=V.int ((ns[j]:Nat):Int)) (by rw[bZ,hnj];rfl);rw[hx] at hu;cases hu;refine aA (j_ (jn (FU hr S J (sm _ _ hf) (sm _ _ hc) ru hb (Wo ns[j] (ik hj) H' sm)) (fun w HK he=>?_) fun _ _ hF=>hF.elim));obtain⟨v,Ri,J2,⟨vF,QS⟩⟩:=he;obtain⟨rfl,Lb⟩:=QS;obtain⟨t2,rfl⟩:∃t,w=Value.int (kz ns[j]) t:=vF;try dsimp only
  have nk:=J2.pin (kS,seqObj "list" kA e) (dZ _ (dZ _ (.head _)));have na:=J2.pin (a,seqObj "list" #[] e1) (dZ _ (dZ _ (.tail _ (.head _))));have s1:=om HK.heap kS (Obj.mapSeq (·.push (.int (kz ns[j]) t2)));obtain⟨c2,Wn⟩:∃c2,(HK.heap.update kS (Obj.mapSeq (·.push (.int (kz ns[j]) t2)))).get? kS=some (seqObj "list" (kA.push (.int (kz ns[j]) t2)) c2):=⟨_,oC nk.1 (·.push (.int (kz ns[j]) t2))⟩
  have hz:kA.size<=64:=by
   have h1:=hk.length;rw[lu,aR,jY] at h1;lia
  have J3:=(J2.mz (pins':=af) fun p hp=>J2.pin p (dZ _ (fw _ hp))).turned (t':=HK.toks) (h':=HK.heap.update kS (Obj.mapSeq (·.push (.int (kz ns[j]) t2)))) (it:=kS) (fun b o hb q=>(s1.2 b hb).trans q) nk.2.1 fk.2.1 fk.2.2.2.1 fk.2.2.2.2.1 fk.2.2.2.2.2;refine aA (lV nk.1 rfl ?_ (by rw[gJ];lia) (ba (rh (Array.size_push ..)) (by rw[gJ];lia)));refine wpAny_pure ⟨rfl,Ri,_,c2,sm.trans Lb,two J3 (fun p z=>z) na.2.1 nk.2.1 ((s1.2 a ME.symm).trans na.1) Wn (fun v z=>by cases z),?_⟩;have ek:(ns.take (j+1)).map kz=(ns.take j).map kz++[kz ns[j]]:=by rw[gj,hnj,va,di];rfl
  have ea:(kA.push (Value.int (kz ns[j]) t2)).toList=kA.toList++[Value.int (kz ns[j]) t2]:=by simp
  rw[ea,ek];exact ksk_snoc hk
 case done=>
  rintro s' ⟨H',kA,e,sm,J,hk⟩;have KY:IntsAre kA.toList (ns.map kz):=by
   have e3:ns.take (0+its.length)=ns:=nV (by lia);rw[e3] at hk;exact hk
  have nk:=J.pin (kS,seqObj "list" kA e) (dZ _ (dZ _ (.head _)));have na:=J.pin (a,seqObj "list" #[] e1) (dZ _ (dZ _ (.tail _ (.head _))));try dsimp only
  refine aA (listItems_at nk.1 rfl ?_);have hP:HM ns kz (kA.zip its.toArray).toList:=by
   rw[ksk_zip];have l1:=KY.length;rw[aR] at l1;refine⟨by rw[oy,l1,hl,vw],fun i n hn=>?_⟩;have hi:i<ns.length:=(dN.mp hn).1;obtain⟨u,hu,t',rfl⟩:=hv.get (i:=i) (x:=V.int ((n:Nat):Int)) (by rw[bZ,hn];rfl);have hki:i<kA.toList.length:=by rw[l1];exact hi
   obtain⟨m,t,em,en⟩:=KY.at i kA.toList[i] (cg hki);rw[bZ,hn] at en;cases en;refine⟨t,t',?_⟩;rw[uO];exact⟨by rw[cg hki,em],hu⟩
  exact I0 (J.mz (pins':=af) fun p hp=>J.pin p (dZ _ (fw _ hp))) ⟨na.2.1,fa.2⟩ ⟨nk.2.1,fk.2⟩ ME na.1 nk.1 KY hP hl K6 Uu Uv fun s2 out o1 o2 J2=>h H' s2 out sm na.2.1 o1 o2 J2
end
def MH(X:Cx)(NB:List Str)(src:List (Option Nat))(qual:Str)(params:Arguments)(body:Expr)(scope:Scope)(te:TE):St->List V->List V->Hp->VK->Prop:=fun σ vs zs H Q=>
 ∃ (l f c:Addr) (ns:List Nat) (kz:Nat->Int),vs=[.ref l]/\zs=[.ref f]/\a9 X.K H l (ns.map fun (x:Nat)=>V.int (x:Int))/\ns.length<64/\ns.Pairwise (·<·)/\(∀n∈ns,n<64)/\H f=some (tE f qual params body scope X.env.cells c)/\H c=some (mP c qual)/\
  (∀n∈ns,∀H',aL H H'->te ((yJ src σ).set 0 (some (.int (n:Nat)))) H' fun v Ri=>v=.int (kz n)/\aL H' Ri)/\
  ∀ (r:Addr) (H':Hp) (out:List Nat),aL H H'->H' r=none->out.Perm ns->out.Pairwise (La kz)->Q (.ref r) (upd H' r (.lst (out.map fun (x:Nat)=>V.int (x:Int))))
theorem jz(hr:cy k X.A)(S:xU X NB src scope qual params body y)(hb:∀f c cV s H,PE (pZ X NB scope cV qual f c s H) body te):
  Ap X "sorted" ["key"] (MH X NB src qual params body scope te):=by
 intro af s σ H vs zs us ws Q I r rz h;obtain⟨l,f,c,ns,kz,rfl,rfl,hl,K6,Uu,Uv,hf,hc,Wo,q⟩:=h;obtain⟨u1,rfl,r1⟩:=r.one;obtain rfl:u1=Value.ref l:=r1;obtain⟨w1,rfl,VX⟩:=rz.one;obtain rfl:w1=Value.ref f:=VX;obtain⟨its,rv,pl,hz⟩:=I.list hl;have hln:its.length=ns.length:=by have:=rv.length;rw[aR] at this;exact this.symm
 show wpAny (model X.prog X.w) X.A (call (.builtin "sorted") [.ref l] [(Str.ofString "key",.ref f)]) _ _ s;refine call_function_entry_kw kind_sorted plain_sorted entry_sorted (ksk_s1 _ _) ?_;unfold Builtin.«sorted»;refine aA (m:=checkCount "sorted" 1 1 _) (wpAny_pure ?_);refine aA (collect_list pl.isList ?_ (by rw[gJ];lia));refine aA (vy ?_ (by rw[gJ];lia));have ir:((s.heap.push (seqObj "list" #[] 0)).update s.heap.objs.size (Obj.mapSeq (·++its.toArray))).objs.size=s.heap.objs.size+1:=by
  rw[g_,iU]
 have C5:(((s.heap.push (seqObj "list" #[] 0)).update s.heap.objs.size (Obj.mapSeq (·++its.toArray))).push (seqObj "list" its.toArray 0)).get? (s.heap.objs.size+1)=some (seqObj "list" its.toArray 0):=by
  rw[<-ir];exact cB _ rfl
 have keep:∀b o,s.heap.get? b=some o->(((s.heap.push (seqObj "list" #[] 0)).update s.heap.objs.size (Obj.mapSeq (·++its.toArray))).push (seqObj "list" its.toArray 0)).get? b=some o:=fun b o q=>by
  have d9:b<s.heap.objs.size:=aT q;rw[iL _ _ _ (by rw[ir];exact aW (ff d9)),oj _ _ _ _ (aW d9),iL _ _ _ (aW d9)];exact q
 show wpAny _ _ _ _ _ { s with heap:=((s.heap.push (seqObj "list" #[] 0)).update s.heap.objs.size (Obj.mapSeq (·++its.toArray))).push (seqObj "list" its.toArray 0) };rw[ir];have Dn:(((s.heap.push (seqObj "list" #[] 0)).update s.heap.objs.size (Obj.mapSeq (·++its.toArray))).push (seqObj "list" its.toArray 0)).objs.size=s.heap.objs.size+2:=by rw[iU,ir]
 generalize (((s.heap.push (seqObj "list" #[] 0)).update s.heap.objs.size (Obj.mapSeq (·++its.toArray))).push (seqObj "list" its.toArray 0))=h1 at *;refine aA (hJ (wpAny_call_entry_kw slot_list_sort ⟨_,C5,rfl⟩ entry_list_sort ?body (ksk_l1 _ _)));case body=>
  have ht':=ksk_t1 f (s.heap.objs.size+1);show wpAny (model X.prog X.w) X.A.in1.in1 (Builtin.«list.sort» ⟨[.ref (s.heap.objs.size+1)],[(Str.ofString "key",.ref f)]⟩) _ _ _;rw[ht'];have s1:=om h1 (s.heap.objs.size+1) (Obj.mapSeq fun _=>(#[]:Array Value));obtain⟨e1,Mw⟩:∃e1,(h1.update (s.heap.objs.size+1) (Obj.mapSeq fun _=>(#[]:Array Value))).get? (s.heap.objs.size+1)=some (seqObj "list" #[] e1):=⟨_,oC C5 fun _=>#[]⟩
  have hkS:((h1.update (s.heap.objs.size+1) (Obj.mapSeq fun _=>(#[]:Array Value))).push (seqObj "tuple" its.toArray 0)).objs.size=s.heap.objs.size+3:=by rw[iU,g_,Dn]
  unfold ksk_tree;refine aA (listItems_at C5 rfl ?_);refine aA (lV C5 rfl ?_ (by rw[cJ,gJ];lia) (cx _));refine aA (rn Mw rfl ?_);refine aA (vv ?_ (by show its.length<=_;rw[gJ];lia));refine aA (vy ?_ (cx _));refine hJ ?_;have Rk:∀b o,s.heap.get? b=some o->(((h1.update (s.heap.objs.size+1) (Obj.mapSeq fun _=>(#[]:Array Value))).push (seqObj "tuple" its.toArray 0)).push (seqObj "list" #[] 0)).get? b=some o:=fun b o e=>
   bL _ (bL _ ((s1.2 b (aW (ff (aT e)))).trans (keep b o e)))
  have I2:aS X af σ H { s with heap:=((h1.update (s.heap.objs.size+1) (Obj.mapSeq fun _=>(#[]:Array Value))).push (seqObj "tuple" its.toArray 0)).push (seqObj "list" #[] 0) }:=I.kept (t':=s.toks) Rk;refine FV hr S (hb f c) I2 hf hc rv K6 Uu Uv (I.w_ (by lia) (I.cz.fresh (by lia))) (I.w_ (b:=((h1.update (s.heap.objs.size+1) (Obj.mapSeq fun _=>(#[]:Array Value))).push (seqObj "tuple" its.toArray 0)).objs.size) (by lia) (I.cz.fresh (by lia))) (by lia) (bL _ (bL _ Mw)) (cB _ rfl) Wo fun H' s' out sm na o1 o2 J=>⟨_,rfl,?_⟩
  exact wpAny_pure ⟨_,rfl,.ref (s.heap.objs.size+1),_,J,rfl,q _ H' out sm na o1 o2⟩
end L2
namespace p6
open PySem L2
def top(i:Nat):Stmt:=PySem.Challenge.pw_neverwait_k33_whole_eager.main.body.getD i (.Pass ⟨0,0,0,0⟩)
abbrev AL:Stmt:=top 7
abbrev wd:Stmt:=top 8
abbrev AM:Stmt:=top 9
abbrev MI:Stmt:=top 11
structure Bl(mg:Str->Option Value):Prop where
 Lc:mg "isinstance"=none
 int:mg "int"=none
 bool:mg "bool"=none
 tup:mg "tuple"=none
 lst:mg "list"=none
 str:mg "str"=none
 set:mg "set"=none
 len:mg "len"=none
 range:mg "range"=none
 sorted:mg "sorted"=none
 any:mg "any"=none
 max:mg "max"=none
 min:mg "min"=none
 aag:mg "ValueError"=none
 all:mg "all"=none
def FW(K:PySem.W.Frag)(H:Hp)(x:V):Prop:=∃t,KZ K H x t/\(PySem.W.kitOne K t (.type "int")=some false\/(PySem.W.kitOne K t (.type "int")=some true/\PySem.W.kitOne K t (.type "bool")=some true))
theorem xW:PySem.W.kitOne K (.type "int") (.type "int")=some true:=by kernel_rfl
theorem mZ:PySem.W.kitOne K (.type "int") (.type "bool")=some false:=by kernel_rfl
inductive Wh (K:PySem.W.Frag) (H:Hp):V->Option Int->Prop where
 |int (i:Int):Wh K H (.int i) (some i)
 |no {x:V} (h:FW K H x):Wh K H x none
def m9(K:PySem.W.Frag):Sp:=fun vs H Q _=>∃x o,vs=[x]/\Wh K H x o/\Q (.bl o.isSome) H
section
variable {P:Program} {w:World} {K:PySem.W.Frag} {mg:Str->Option Value} {base:Heap}
theorem I_:aP ["thing"] ["thing"] (au AL):=⟨rfl,rfl,rfl,by decide +kernel,rfl,by decide +kernel,by decide +kernel⟩
theorem FX(F:hV K "is_whole" "is_whole" AL f fd)(B:Bl mg):bJ P w K mg base bh 1 f fd ["thing"] (m9 K):=by
 refine F.ok I_ (fun vs H Q E h=>?_) (fun eV A outer s H vs Q E hr h=>?_)
 .obtain⟨x,o,rfl,_⟩:=h;rfl
 .obtain⟨x,o,rfl,W,k⟩:=h;refine⟨_,ap (be (oU (aI iw (by rfl) B.Lc pK (aa (pv 0) (aa (jq (v:=.ty "int") rfl B.int PyProof.Rows.boot_int rfl) ag)))
   (rB (LM (aI iw (by rfl) B.Lc pK (aa (pv 0) (aa (jq (v:=.ty "bool") rfl B.bool PyProof.Rows.boot_bool rfl) ag))))))),?_⟩
  cases W with
  |int i=>
   refine⟨_,rfl,_,_,_,.type "int",true,rfl,⟨rfl,xW⟩,.of (.int _),true,rfl,?_⟩;exact⟨_,rfl,_,_,_,.type "int",false,rfl,⟨rfl,mZ⟩,.of (.int _),false,rfl,k⟩
  |no h=>
   obtain⟨t,ty,h|⟨h1,h2⟩⟩:=h
   .exact⟨_,rfl,_,_,_,t,false,rfl,⟨rfl,h⟩,ty,false,rfl,k⟩
   .refine⟨_,rfl,_,_,_,t,true,rfl,⟨rfl,h1⟩,ty,true,rfl,?_⟩;exact⟨_,rfl,_,_,_,t,true,rfl,⟨rfl,h2⟩,ty,true,rfl,k⟩
def iY(o:Option Int)(lo hi:Int):Bool:=match o with
 |some i=>decide (lo<=i)&&decide (i<=hi)
 |none=>false
def m_(K:PySem.W.Frag):Sp:=fun vs H Q _=>∃x o lo hi,vs=[x,.int lo,.int hi]/\Wh K H x o/\Q (.bl (iY o lo hi)) H
theorem FY:aP ["thing","least","most"] ["thing","least","most"] (au wd):=⟨rfl,rfl,rfl,by decide +kernel,rfl,by decide +kernel,by decide +kernel⟩
theorem DR(F:hV K "is_whole_within" "is_whole_within" wd f fd)(W:dH P w K mg base bh 1 "is_whole" ["thing"] (m9 K)):bJ P w K mg base bh 2 f fd ["thing","least","most"] (m_ K):=by
 refine F.ok FY (fun vs H Q E h=>?_) (fun eV A outer s H vs Q E hr h=>?_)
 .obtain⟨x,o,lo,hi,rfl,_⟩:=h;rfl
 .obtain⟨x,o,lo,hi,rfl,wh,k⟩:=h;refine⟨_,ap (be (oU (aJ W hr aO (aa (pv 0) ag)) (rB (EW KR KR (pv 1) (pv 0) (pv 2))))),?_⟩;refine⟨_,rfl,x,o,rfl,wh,?_⟩;cases wh with
  |no h=>exact⟨false,rfl,k⟩
  |int i=>
   refine⟨true,rfl,_,rfl,_,rfl,_,_,rfl,rfl,_,rfl,?_⟩;show if decide (lo<=i)=true then _ else _
   have k':Q (.bl (decide (lo<=i)&&decide (i<=hi))) H:=k;by_cases h:lo<=i
   .rw[fP h] at k' |-;exact⟨_,rfl,_,_,rfl,rfl,k'⟩
   .rw[fL h] at k' |-;exact k'
def qI(K:PySem.W.Frag):Sp:=fun vs H Q _=>∃x o n,vs=[.int n,x]/\Wh K H x o/\Q (.bl (iY o 0 (n-1))) H
theorem Ja:aP ["many","thing"] ["many","thing"] (au AM):=⟨rfl,rfl,rfl,by decide +kernel,rfl,by decide +kernel,by decide +kernel⟩
theorem FZ(F:hV K "is_house" "is_house" AM f fd)(W:dH P w K mg base bh 2 "is_whole_within" ["thing","least","most"] (m_ K)):bJ P w K mg base bh 3 f fd ["many","thing"] (qI K):=by
 refine F.ok Ja (fun vs H Q E h=>?_) (fun eV A outer s H vs Q E hr h=>?_)
 .obtain⟨x,o,n,rfl,_⟩:=h;rfl
 .obtain⟨x,o,n,rfl,wh,k⟩:=h;refine⟨_,ap (be (aJ W hr aO (aa (pv 1) (aa aB (aa (bb jt (pv 0) aB) ag))))),?_⟩;exact⟨_,rfl,_,rfl,_,_,rfl,rfl,x,o,0,n-1,rfl,wh,k⟩
inductive Rw (K:PySem.W.Frag) (H:Hp):V->Option (List V)->Prop where
 |tup {p:Addr} {xs:List V} (h:H p=some (.tup xs)):Rw K H (.ref p) (some xs)
 |no {x:V} {t:Value} (ty:KZ K H x t) (h:PySem.W.kitOne K t (.type "tuple")=some false):Rw K H x none
def Rm(o:Option (List V))(m:Int):Bool:=match o with
 |some xs=>decide ((xs.length:Int)=m)
 |none=>false
theorem we:PySem.W.kitOne K (.type "tuple") (.type "tuple")=some true:=by kernel_rfl
def F3(K:PySem.W.Frag):Sp:=fun vs H Q _=>∃x o m,vs=[x,.int m]/\Rw K H x o/\Q (.bl (Rm o m)) H
theorem Rn:aP ["thing","length"] ["thing","length"] (au MI):=⟨rfl,rfl,rfl,by decide +kernel,rfl,by decide +kernel,by decide +kernel⟩
theorem MJ(F:hV K "is_row" "is_row" MI f fd)(B:Bl mg):bJ P w K mg base bh 1 f fd ["thing","length"] (F3 K):=by
 refine F.ok Rn (fun vs H Q E h=>?_) (fun eV A outer s H vs Q E hr h=>?_)
 .obtain⟨x,o,m,rfl,_⟩:=h;rfl
 .obtain⟨x,o,m,rfl,W,k⟩:=h;refine⟨_,ap (be (oU (aI iw (by rfl) B.Lc pK (aa (pv 0) (aa (jq (v:=.ty "tuple") rfl B.tup pM rfl) ag)))
   (rB (qz hU (aI aQ (by rfl) B.len dU (aa (pv 0) ag)) (pv 1) (a_ _))))),?_⟩
  cases W with
  |@tup p xs h=>
   refine⟨_,rfl,_,_,_,.type "tuple",true,rfl,⟨rfl,we⟩,.of (.tup h),true,rfl,?_⟩;refine⟨_,rfl,_,_,rfl,.inr (bU.of h),_,rfl,rfl,?_⟩;have e:decide (V.int ((xs.length:Nat):Int)=V.int m)=decide (((xs.length:Nat):Int)=m):=by simp
   rw[e];exact k
  |no ty h=>exact⟨_,rfl,_,_,_,_,false,rfl,⟨rfl,h⟩,ty,false,rfl,k⟩
end
theorem bv(s:aL H H')(hD:H D=none):aL H (upd H' D o):=fun b u e=>by rw[ao (am e hD)];exact s b u e
abbrev IV(ns:List Int):List V:=ns.map V.int
abbrev NV(ns:List Nat):List V:=ns.map fun (x:Nat)=>V.int (x:Int)
theorem Wq(Gy Gn:Hp->Prop)(hy:∀H,Gy H->t D σ H)(hn:∀H,Gn H->u D σ H)(ht:∀Y N:Hp->Prop,(∀H,Gy H->Y H)->(∀H,Gn H->N H)->c σ H fun b H1=>if b=true then Y H1 else N H1):P4 c t u D σ H:=ht _ _ hy hn
theorem uC(G:St->Hp->Prop)(hr:∀σ H,G σ H->u D σ H)(ht:∀N:St->Hp->Prop,(∀σ H,G σ H->N σ H)->t { D with nx:=N } σ H):P0 t u D σ H:=ht _ hr
abbrev Zs:=List (Addr×(Int×Int))
abbrev ng(u:Int×Int):HO:=.tup [.int u.1,.int u.2]
def zr(zs:Zs):List V:=zs.map fun z=>V.ref z.1
def zp(zs:Zs):List (Int×Int):=zs.map (·.2)
def PO(H:Hp)(zs:Zs):Prop:=∀z∈zs,H z.1=some (ng z.2)
theorem et:zr (a++b)=zr a++zr b:=di
theorem eA:zp (a++b)=zp a++zp b:=di
theorem dD:(zr a).length=a.length:=aR _
theorem bQ:(zp a).length=a.length:=aR _
theorem iQ:zr a=(a.map (·.1)).map V.ref:=by unfold zr;rw[dQ];rfl
theorem sj{zs:Zs}{i:Nat}{x:V}(h:(zr zs)[i]?=some x):∃z,zs[i]?=some z/\x=.ref z.1:=by
 unfold zr at h;rw[bZ] at h;cases e:zs[i]? with
 |none=>rw[e] at h;cases h
 |some z=>rw[e] at h;exact⟨z,rfl,(bN h).symm⟩
theorem PO.nil:PO H []:=fun z hz=>(nomatch hz)
theorem PO.same(h:PO H zs)(s:aL H H'):PO H' zs:=fun z hz=>s _ _ (h z hz)
theorem PO.putL(h:PO H zs)(e:H D=some (.lst xs)):PO (upd H D o) zs:=fun z hz=>by
 have:=h z hz;rw[ao (by rintro rfl;rw[e] at this;cases this)];exact this
theorem PO.putN(h:PO H zs)(e:H D=none):PO (upd H D o) zs:=h.same (ai e)
theorem PO.append(h:PO H a)(h':PO H b):PO H (a++b):=fun z hz=>(cw.mp hz).elim (h z) (h' z)
theorem PO.one(h:H p=some (ng u)):PO H [(p,u)]:=fun z hz=>by rw[cU.mp hz];exact h
theorem xX{zs:Zs}{i:Nat}(h:i<zs.length):(zs.map (·.1)).getD i 0=zs[i].1:=by
 rw[bY,bZ,cg h];rfl
theorem Ch(h:i<zs.length):(zp zs).getD i (0,0)=zs[i].2:=by
 unfold zp;rw[bY,bZ,cg h];rfl
theorem DS(ho:PO H zs)(h:as.Perm (zs.map (·.1))):∃r6:Zs,r6.Perm zs/\as=r6.map (·.1):=by
 classical
 let f:Addr->Int×Int:=fun a=>match H a with
  |some (.tup [.int x,.int y])=>(x,y)
  |_=>(0,0)
 have e:(zs.map (·.1)).map (fun a=>(a,f a))=zs:=by
  rw[dQ];conv=>rhs;rw[<-oJ zs]
  refine jT fun z hz=>?_;have:=ho z hz;show (z.1,f z.1)=z;have e2:f z.1=z.2:=by
   show (match H z.1 with|some (.tup [.int x,.int y])=>(x,y)|_=>(0,0))=z.2;rw[this]
  rw[e2]
 refine⟨as.map fun a=>(a,f a),?_,?_⟩
 .have:=h.map (fun a=>(a,f a));rw[e] at this;exact this
 .rw[dQ];exact(oJ as).symm
abbrev Ord(us:List (Int×Int)):Prop:=us=us
theorem Jb(hl:H l=some (.lst (zr zs)))(ho:PO H zs)(hz:zs.length<=4096)(hb:∀u∈zp zs,0<=u.2/\u.2<64)(q:∀ (D:Addr) (r6:Zs),H D=none->r6.Perm zs->Ord (zp r6)->Q (.ref D) (upd H D (.lst (zr r6)))):FG K [.ref l] H Q:=by
 refine⟨l,zs.map (·.1),rfl,a9.of (by rw[<-iQ];exact hl),fun a ha=>?_,by rw[aR];exact hz,fun D yL hD hp=>?_⟩
 .obtain⟨z,hz,rfl⟩:=bB.mp ha;exact⟨_,_,bU.of (ho z hz)⟩
 .obtain⟨r6,h1,rfl⟩:=DS ho hp;rw[<-iQ];exact q D r6 hD h1 rfl
theorem xY(F:Nat->Int×Int)(bW:St->Prop)(hD:H0 D=none)(hn:n<=100000)(h0:bW σB)(hs:∀i σ H (R:V->St->Hp->Prop) (Kf:St->Hp->Prop),i<n->bW σ->aL H0 H->(∀σ2 p,bW σ2->H p=none->R (.ref p) σ2 (upd H p (ng (F i))))->g (.int (lo+i)) σ H fun σ2 H2=>tt σ2 H2 fun b H3=>if b=true then te σ2 H3 fun v H4=>R v σ2 H4 else Kf σ2 H3)(hd:∀zs H,aL H0 H->H D=some (.lst (zr zs))->PO H zs->zp zs=(List.range n).map F->(∀z∈zs,H0 z.1=none)->d7 H):gu (Ek lo n) g tt te D d7 σB (upd H0 D (.lst [])):=by
 refine eN (fun i ys σ H=>bW σ/\aL H0 H/\H D=some (.lst ys)/\∃zs:Zs,ys=zr zs/\PO H zs/\zp zs=(List.range i).map F/\∀z∈zs,H0 z.1=none) ⟨h0,ai hD,ae,[],rfl,PO.nil,rfl,fun z hz=>nomatch hz⟩ ?_ ?_
 .rintro i ys σ H Kt Kf hi ⟨sh,sm,iz,zs,rfl,po,ep,fr⟩ kt kf;have hl:zs.length=i:=by rw[<-bQ,ep,aR,cu]
  refine hs i σ H Kt Kf hi sh sm (fun σ2 p tP hp=>?_)
  .have nD:D≠p:=am iz hp;refine kt _ _ _ (by rw[ao nD];exact iz) (by rw[dD,hl];exact br hi (ba hn (by decide))) ⟨tP,bv (sm.trans (ai hp)) hD,ae,zs++[(p,F i)],?_,?_,?_,?_⟩
   .rw[et];rfl
   .refine PO.putL (xs:=zr zs) ?_ (by rw[ao nD];exact iz);exact(po.putN hp).append (PO.one ae)
   .rw[eA,ep,ja,di];rfl
   .intro z hz;rcases cw.mp hz with z'|z'
    .exact fr z z'
    .rw[cU.mp z'];exact sm.free hp
 .rintro ys σ H ⟨_,sm,iz,zs,rfl,po,ep,fr⟩;exact hd zs H sm iz po ep fr
theorem sn{K:PySem.W.Frag}{a D:Addr}{AN:Zs}{g:TG}{tt:TT}{te:TE}{d7:Hp->Prop}{σB:St}{H0:Hp}(F:Int×Int->Int×Int)(bW:St->Prop)(ha:H0 a=some (.lst (zr AN)))(Pa:PO H0 AN)(hD:H0 D=none)(hn:AN.length<=100000)(h0:bW σB)(hs:∀z σ H (R:V->St->Hp->Prop) (Kf:St->Hp->Prop),z∈AN->bW σ->aL H0 H->H z.1=some (ng z.2)->(∀σ2 p,bW σ2->H p=none->R (.ref p) σ2 (upd H p (ng (F z.2))))->g (.ref z.1) σ H fun σ2 H2=>tt σ2 H2 fun b H3=>if b=true then te σ2 H3 fun v H4=>R v σ2 H4 else Kf σ2 H3)(hd:∀zs H,aL H0 H->H D=some (.lst (zr zs))->PO H zs->zp zs=(zp AN).map F->(∀z∈zs,H0 z.1=none)->d7 H):gu (Ej K a) g tt te D d7 σB (upd H0 D (.lst [])):=by
 refine d_ (xs:=zr AN) (fun i ys σ H=>bW σ/\aL H0 H/\H D=some (.lst ys)/\∃zs:Zs,ys=zr zs/\PO H zs/\zp zs=((zp AN).take i).map F/\∀z∈zs,H0 z.1=none) ⟨h0,ai hD,ae,[],rfl,PO.nil,rfl,fun z hz=>nomatch hz⟩ (fun i ys σ H _ z=>a9.of (z.2.1 _ _ ha)) ?_ ?_
 .rintro i x ys σ H Kt Kf hx ⟨sh,sm,iz,zs,rfl,po,ep,fr⟩ kt kf;obtain⟨z,hz,rfl⟩:=sj hx;have hi:i<AN.length:=(dN.mp hz).1;have Ld:z∈AN:=cS hz;have hl:zs.length=i:=by rw[<-bQ,ep,aR,jY,bQ];lia
  refine hs z σ H Kt Kf Ld sh sm (sm _ _ (Pa z Ld)) (fun σ2 p tP hp=>?_)
  .have nD:D≠p:=am iz hp;refine kt _ _ _ (by rw[ao nD];exact iz) (by rw[dD,hl];exact br hi (ba hn (by decide))) ⟨tP,bv (sm.trans (ai hp)) hD,ae,zs++[(p,F z.2)],?_,?_,?_,?_⟩
   .rw[et];rfl
   .refine PO.putL (xs:=zr zs) ?_ (by rw[ao nD];exact iz);exact(po.putN hp).append (PO.one ae)
   .have e2:(zp AN)[i]?=some z.2:=by unfold zp;rw[bZ,hz];rfl
    rw[eA,ep,gj,e2,va,di];rfl
   .intro z hz;rcases cw.mp hz with z'|z'
    .exact fr z z'
    .rw[cU.mp z'];exact sm.free hp
 .rintro ys σ H ⟨_,sm,iz,zs,rfl,po,ep,fr⟩;rw[dD,<-bQ,i9] at ep;exact hd zs H sm iz po ep fr
open je
abbrev Cj:Stmt:=fu (top 31) 0
abbrev ML:Stmt:=fu (top 31) 3
abbrev MM:Stmt:=fu (top 31) 4
abbrev F5:Stmt:=fu (top 31) 6
abbrev AO:Stmt:=fu (top 31) 8
theorem n12:¬ (("house_count":Str)="tie_list"):=by decide +kernel
theorem n13:¬ (("house_count":Str)="out_lists"):=by decide +kernel
theorem n14:¬ (("house_count":Str)="distances"):=by decide +kernel
theorem n34:¬ (("out_lists":Str)="distances"):=by decide +kernel
def pE(n:Int)(tl ol ds:Addr):List (Str×V):=dW "distances" (.ref ds) (dW "out_lists" (.ref ol) (dW "tie_list" (.ref tl) (dW "house_count" (.int n) [])))
theorem Jc(n:Int)(tl ol ds:Addr):(pE n tl ol ds).lookup ("house_count":Str)=some (.int n):=by
 unfold pE;rw[bH,av n14,bH,av n13,bH,av n12,bH,ak rfl]
theorem qJ(n:Int)(tl ol ds:Addr){m:Str}(h1:¬ m="house_count")(h2:¬ m="tie_list")(h3:¬ m="out_lists")(h4:¬ m="distances"):(pE n tl ol ds).lookup m=none:=by
 unfold pE;rw[bH,av h4,bH,av h3,bH,av h2,bH,av h1];all_goals rfl
theorem Ck(n:Int)(tl ol ds:Addr):(pE n tl ol ds).lookup ("out_lists":Str)=some (.ref ol):=by
 unfold pE;rw[bH,av n34,bH,ak rfl]
theorem Cm(n:Int)(tl ol ds:Addr):(pE n tl ol ds).lookup ("distances":Str)=some (.ref ds):=by
 unfold pE;rw[bH,ak rfl]
def bX(H:Hp)(L:Addr->Prop)(l:Addr)(n:Nat)(r:Nat->List Nat):Prop:=∃bs:List Addr,H l=some (.lst (bs.map V.ref))/\(∀b∈bs,L b)/\Holds H bs n (fun h=>.lst (NV (r h)))
theorem bX.keep(R:bX H L l n r)(hl:L l)(k:∀b o,L b->H b=some o->H' b=some o):bX H' L l n r:=
 let ⟨bs,a,b,c⟩:=R
 ⟨bs,k _ _ hl a,b,c.mono fun j hj e=>k _ _ (b _ (by rw[bY,cg (by rw[c.1];exact hj)];exact ik _)) e⟩
theorem bX.row(R:bX H L l n r)(hh:h<n):∃ (bs:List Addr) (b:Addr),H l=some (.lst (bs.map V.ref))/\(bs.map V.ref)[h]?=some (V.ref b)/\H b=some (.lst (NV (r h)))/\L b:=by
 obtain⟨bs,a,b,c⟩:=R;have hl:h<bs.length:=by rw[c.1];exact hh
 refine⟨bs,bs[h],a,by rw[bZ,cg hl];rfl,?_,b _ (ik _)⟩;have:=c.2 h hh;rw[bY,cg hl] at this;exact this
def Jd(H:Hp)(L:Addr->Prop)(tl:Addr)(ts:Ts):Prop:=L tl/\∃zs:Zs,H tl=some (.lst (zr zs))/\PO H zs/\(∀z∈zs,L z.1)/\(zp zs).Perm ts/\Ord (zp zs)
theorem Jd.keep(h:Jd H L tl ts)(k:∀b o,L b->H b=some o->H' b=some o):Jd H' L tl ts:=
 let ⟨a,zs,b,c,d,e⟩:=h;⟨a,zs,k _ _ a b,fun z hz=>k _ _ (d z hz) (c z hz),d,e⟩
structure dB(C:Addr)(H:Hp)(L:Addr->Prop)(p:Addr)(n:Nat)(ts:Ts):Prop where
 jO:b8 n ts
 ob:∃dx tl ol ds,H p=some (.ins C dx (pE n tl ol ds))/\L ol/\L ds/\bX H L ol n (bP n ts)/\bX H L ds n (fun h=>(List.range n).map (far ts h))/\Jd H L tl ts
theorem dB.keep(N:dB C H L p n ts)(k:∀b o,L b->H b=some o->H' b=some o)(kp:∀o,H p=some o->H' p=some o):dB C H' L p n ts:=
 let ⟨dx,tl,ol,ds,a,l1,l2,b,c,d⟩:=N.ob
 ⟨N.jO,dx,tl,ol,ds,kp _ a,l1,l2,b.keep l1 k,c.keep l2 k,d.keep k⟩
theorem dB.same(N:dB C H L p n ts)(s:aL H H'):dB C H' L p n ts:=N.keep (fun b o _ e=>s b o e) (fun o e=>s _ o e)
structure NT(K:PySem.W.Frag)(mg:Str->Option Value)(C:Addr):Prop where
 cl:El K C
 nH:iu K C "house_count"
 nT:iu K C "tie_list"
 nO:iu K C "out_lists"
 nD:iu K C "distances"
 Je:mg "Net"=some (.ref C)
structure iZ(P:Program)(w:World)(K:PySem.W.Frag)(mg:Str->Option Value)(base:Heap)(CX:yF)(k:Nat)(C:Addr)(x:Str)(ps:List Str)(sp:Sp):Prop where
 ex:∃f fd,LZ K C x f/\jI K fd ps []/\bJ P w K mg base CX k f fd ps sp
section
variable {P:Program} {w:World} {K:PySem.W.Frag} {mg:Str->Option Value} {base:Heap}
theorem Jf:aP ["self","thing"] ["self","thing"] (au AO):=⟨rfl,rfl,rfl,by decide +kernel,rfl,by decide +kernel,by decide +kernel⟩
theorem DT{i n:Nat}(h:i<n):iY (some (i:Int)) 0 ((n:Int)-1)=true:=by unfold iY;simp;lia
def nh(C:Addr):Sp:=fun vs H Q _=>∃ (L:Addr->Prop) (p:Addr) (n:Nat) (ts:Ts) (i:Nat),vs=[.ref p,.int i]/\dB C H L p n ts/\i<n/\Q .cE H
theorem DU{f C:Addr}{fd:FuncData}(F:hV K "check_house" "Net.check_house" AO f fd)(T:NT K mg C)(HH:dH P w K mg base bh 3 "is_house" ["many","thing"] (qI K)):
  bJ P w K mg base bh 4 f fd ["self","thing"] (nh C):=by
 refine F.ok Jf (fun vs H Q E h=>?_) (fun eV A outer s H vs Q E hr h=>?_)
 .obtain⟨L,p,n,ts,i,rfl,_⟩:=h;rfl
 .obtain⟨L,p,n,ts,i,rfl,N,hi,k⟩:=h;obtain⟨dx,tl,ol,ds,h1,_⟩:=N.ob;refine⟨_,ap (cC (jr (gZ (aJ HH hr aO (aa (jv (pv 0) rfl) (aa (pv 1) ag))))) d8 bp),?_⟩;refine⟨_,rfl,p,C,dx,_,_,rfl,h1,T.cl,T.nH,Jc _ _ _ _,_,rfl,_,some (i:Int),n,rfl,.int _,_,rfl,?_⟩;rw[DT hi];exact gO k
theorem MN(n:Int)(tl ol ds:Addr):(pE n tl ol ds).lookup ("check_house":Str)=none:=qJ n tl ol ds (by decide +kernel) (by decide +kernel) (by decide +kernel) (by decide +kernel)
theorem MP(n:Int)(tl ol ds:Addr):(pE n tl ol ds).lookup ("far":Str)=none:=qJ n tl ol ds (by decide +kernel) (by decide +kernel) (by decide +kernel) (by decide +kernel)
theorem bj:(NV xs).length=xs.length:=aR _
theorem Ro:aP ["self","house"] ["self","house"] (au ML):=⟨rfl,rfl,rfl,by decide +kernel,rfl,by decide +kernel,by decide +kernel⟩
def AQ(C:Addr):Sp:=fun vs H Q _=>∃ (L:Addr->Prop) (p:Addr) (n:Nat) (ts:Ts) (i:Nat),vs=[.ref p,.int i]/\dB C H L p n ts/\i<n/\∀r H',aL H H'->H r=none->H' r=some (.lst (NV (bP n ts i)))->Q (.ref r) H'
theorem Jg(F:hV K "out" "Net.out" ML f fd)(T:NT K mg C)(B:Bl mg)(M:iZ P w K mg base bh 4 C "check_house" ["self","thing"] (nh C)):
  bJ P w K mg base bh 5 f fd ["self","house"] (AQ C):=by
 obtain⟨fM,fdM,mM,bM,GM⟩:=M.ex;refine F.ok Ro (fun vs H Q E h=>?_) (fun eV A outer s H vs Q E hr h=>?_)
 .obtain⟨L,p,n,ts,i,rfl,_⟩:=h;rfl
 .obtain⟨L,p,n,ts,i,rfl,N,hi,k2⟩:=h;obtain⟨dx,tl,ol,ds,h1,_,_,R,_⟩:=N.ob;refine⟨_,aj (cq (dX (pv 0) T.cl mM GM hr bM .nil aO (aa (pv 1) ag)))
   (ap (be (cA vO (by rfl) B.lst nU (aa (aX aK (jv (pv 0) rfl) (pv 1) (fun _ _=>rfl)) ag)))),?_⟩
  refine⟨_,rfl,p,dx,_,rfl,h1,MN _ _ _ _,_,rfl,L,p,n,ts,i,rfl,N,hi,?_⟩;obtain⟨bs,b,r1,r2,r3,_⟩:=R.row hi;exact⟨_,rfl,p,C,dx,_,_,rfl,h1,T.cl,T.nO,Ck _ _ _ _,_,rfl,ol,_,_,_,rfl,rfl,a9.of r1,aD r2,b,_,rfl,.inl (a9.of r3),fun l hl=>k2 l _ (ai hl) hl ae⟩
theorem Rp:aP ["self","one","other"] ["self","one","other"] (au MM):=⟨rfl,rfl,rfl,by decide +kernel,rfl,by decide +kernel,by decide +kernel⟩
def me(C:Addr):Sp:=fun vs H Q _=>∃ (L:Addr->Prop) (p:Addr) (n:Nat) (ts:Ts) (i j:Nat),vs=[.ref p,.int i,.int j]/\dB C H L p n ts/\i<n/\j<n/\Q (.int (far ts i j:Nat)) H
theorem Jh(F:hV K "far" "Net.far" MM f fd)(T:NT K mg C)(M:iZ P w K mg base bh 4 C "check_house" ["self","thing"] (nh C)):
  bJ P w K mg base bh 5 f fd ["self","one","other"] (me C):=by
 obtain⟨fM,fdM,mM,bM,GM⟩:=M.ex;refine F.ok Rp (fun vs H Q E h=>?_) (fun eV A outer s H vs Q E hr h=>?_)
 .obtain⟨L,p,n,ts,i,j,rfl,_⟩:=h;rfl
 .obtain⟨L,p,n,ts,i,j,rfl,N,hi,hj,k⟩:=h;obtain⟨dx,tl,ol,ds,h1,_,_,_,R,_⟩:=N.ob;refine⟨_,aj (cq (dX (pv 0) T.cl mM GM hr bM .nil aO (aa (pv 1) ag)))
   (aj (cq (dX (pv 0) T.cl mM GM hr bM .nil aO (aa (pv 2) ag)))
   (ap (be (aX aK (aX aK (jv (pv 0) rfl) (pv 1) (fun _ _=>rfl)) (pv 2) (fun _ _=>rfl))))),?_⟩
  refine⟨_,rfl,p,dx,_,rfl,h1,MN _ _ _ _,_,rfl,L,p,n,ts,i,rfl,N,hi,?_⟩;refine⟨_,rfl,p,dx,_,rfl,h1,MN _ _ _ _,_,rfl,L,p,n,ts,j,rfl,N,hj,?_⟩;obtain⟨bs,b,r1,r2,r3,_⟩:=R.row hi;have hg:(NV ((List.range n).map (far ts i)))[j]?=some (.int (far ts i j:Nat)):=by
   rw[bZ,bZ,fc hj];rfl
  exact⟨_,rfl,p,C,dx,_,_,rfl,h1,T.cl,T.nD,Cm _ _ _ _,_,rfl,ds,_,_,_,rfl,rfl,a9.of r1,aD r2,_,rfl,b,_,_,_,rfl,rfl,a9.of r3,aD hg,k⟩
end
open PySem L2 je
abbrev AR:Stmt:=top 32
abbrev MQ:Stmt:=top 33
abbrev MR:Stmt:=top 34
section
variable {P:Program} {w:World} {K:PySem.W.Frag} {mg:Str->Option Value} {base:Heap}
abbrev MS:Stmt:=top 10
theorem Rq:aP ["many","one","other"] ["many","one","other"] (au MS):=⟨rfl,rfl,rfl,by decide +kernel,rfl,by decide +kernel,by decide +kernel⟩
def F7:Sp:=fun vs H Q _=>∃ (n a b:Int),vs=[.int n,.int a,.int b]/\0<=a/\a<n/\0<=b/\b<n/\a≠b/\Q (.bl true) H
theorem MT(F:hV K "are_unlike_houses" "are_unlike_houses" MS f fd)(HH:dH P w K mg base bh 3 "is_house" ["many","thing"] (qI K)):
  bJ P w K mg base bh 4 f fd ["many","one","other"] F7:=by
 refine F.ok Rq (fun vs H Q E h=>?_) (fun eV A outer s H vs Q E hr h=>?_)
 .obtain⟨n,a,b,rfl,_⟩:=h;rfl
 .obtain⟨n,a,b,rfl,a1,a2,b1,b2,pP,k⟩:=h;refine⟨_,ap (be (oU (aJ HH hr aO (aa (pv 0) (aa (pv 1) ag))) (oU (aJ HH hr aO (aa (pv 0) (aa (pv 2) ag))) (rB (qz t_ (pv 1) (pv 2) (a_ _)))))),?_⟩;refine⟨_,rfl,_,rfl,_,_,n,rfl,.int a,_,rfl,?_⟩;rw[ak (show iY (some a) 0 (n-1)=true by unfold iY;simp;lia)];refine⟨_,rfl,_,rfl,_,_,n,rfl,.int b,_,rfl,?_⟩;rw[ak (show iY (some b) 0 (n-1)=true by unfold iY;simp;lia)];refine⟨_,rfl,_,rfl,rfl,?_⟩;have e:(!decide (V.int a=V.int b))=true:=by simp[pP]
  rw[e];exact k
theorem Rt:aP ["many","thing"] ["many","thing"] (au MQ):=⟨rfl,rfl,rfl,by decide +kernel,rfl,by decide +kernel,by decide +kernel⟩
def F8:Sp:=fun vs H Q _=>∃ (n:Int) (p:Addr) (a b:Int),vs=[.int n,.ref p]/\H p=some (.tup [.int a,.int b])/\0<=a/\a<n/\0<=b/\b<n/\a≠b/\Q (.bl true) H
theorem MU(F:hV K "is_tie" "is_tie" MQ f fd)(R:dH P w K mg base bh 1 "is_row" ["thing","length"] (F3 K))(U:dH P w K mg base bh 4 "are_unlike_houses" ["many","one","other"] F7):
  bJ P w K mg base bh 5 f fd ["many","thing"] F8:=by
 refine F.ok Rt (fun vs H Q E h=>?_) (fun eV A outer s H vs Q E hr h=>?_)
 .obtain⟨n,p,a,b,rfl,_⟩:=h;rfl
 .obtain⟨n,p,a,b,rfl,hp,a1,a2,b1,b2,pP,k⟩:=h;refine⟨_,ap (be (oU (aJ R (hr.mono (by decide)) aO (aa (pv 1) (aa aB ag)))
   (rB (aJ U hr aO (aa (pv 0) (aa (aX eM (pv 1) aB (fun _ _=>rfl)) (aa (aX eM (pv 1) aB (fun _ _=>rfl)) ag))))))),?_⟩
  refine⟨_,rfl,_,_,_,rfl,.tup hp,true,rfl,?_⟩;exact⟨_,rfl,_,rfl,p,_,_,_,rfl,rfl,bU.of hp,aD (j:=0) rfl,_,rfl,p,_,_,_,rfl,rfl,bU.of hp,aD (j:=1) rfl,n,a,b,rfl,a1,a2,b1,b2,pP,k⟩
theorem Cn:aP ["many","ties","tie"] ["many","ties"] (au AR):=⟨rfl,rfl,rfl,by decide +kernel,rfl,by decide +kernel,by decide +kernel⟩
theorem F9:PySem.W.kitOne K (.type "list") (.type "list")=some true:=by kernel_rfl
structure g8(H:Hp)(l:Addr)(n:Nat)(zs:Zs):Prop where
 jO:b8 n (zp zs)
 at_:H l=some (.lst (zr zs))
 po:PO H zs
theorem g8.same(h:g8 H l n zs)(s:aL H H'):g8 H' l n zs:=⟨h.jO,s _ _ h.at_,h.po.same s⟩
def lf:Sp:=fun vs H Q _=>∃ (n:Nat) (l:Addr) (zs:Zs),vs=[.int n,.ref l]/\g8 H l n zs/\∀H',aL H H'->Q .cE H'
theorem F_(F:hV K "check_ties" "check_ties" AR f fd)(B:Bl mg)(gF:∃t,mg "FEWEST_HOUSES"=some (.int 2 t))(gM:∃t,mg "MOST_HOUSES"=some (.int 32 t))(W:dH P w K mg base bh 2 "is_whole_within" ["thing","least","most"] (m_ K))(T:dH P w K mg base bh 5 "is_tie" ["many","thing"] F8):
  bJ P w K mg base bh 6 f fd ["many","ties"] lf:=by
 obtain⟨tF,gF⟩:=gF;obtain⟨tM,gM⟩:=gM;refine F.ok Cn (fun vs H Q E h=>?_) (fun eV A outer s H vs Q E hr h=>?_)
 .obtain⟨n,l,zs,rfl,_⟩:=h;rfl
 .refine⟨_,aj (cC (jr (gZ (aJ W (hr.mono (by decide)) aO (aa (pv 0) (aa (qx (v:=.int 2) rfl gF ⟨_,rfl⟩) (aa (qx (v:=.int 32) rfl gM ⟨_,rfl⟩) ag)))))) d8 bp)
   (aj (cC (jr (gZ (aI iw (by rfl) B.Lc pK (aa (pv 1) (aa (jq (v:=.ty "list") rfl B.lst nU rfl) ag))))) d8 bp)
   (aj (cQ dP rfl (bV (pv 1)) (az (i:=2) Cn.nd rfl (Or.inl rfl)) (ap (cC (jr (gZ (aJ T hr aO (aa (pv 0) (aa (pv 2) ag))))) d8 bp)))
   (ap (cC (aM t_ (aI xA (by rfl) B.len dU (aa (cA (Dv rfl (by have:=hr.un;show (A.deeper _).units+8<_;lia)) (by rfl) B.set PyProof.Rows.boot_set (aa (pv 1) ag)) ag)) (aI aQ (by rfl) B.len dU (aa (pv 1) ag)) (a_ _)) d8 bp)))),?_⟩
  obtain⟨n,l,zs,rfl,tt,k⟩:=h;obtain⟨fi,hl,po⟩:=id tt;have n1:=fi.n1;have n2:=fi.n2;refine⟨_,rfl,_,_,2,32,rfl,.int n,_,rfl,?_⟩;rw[show iY (some (n:Int)) 2 32=true by unfold iY;simp;lia];refine gO ?_;refine⟨_,rfl,_,_,_,.type "list",true,rfl,⟨rfl,F9⟩,.of (.lst hl),_,rfl,gO ?_⟩;refine⟨_,rfl,l,rfl,⟨_,a9.of hl⟩,fW (K:=K) (a:=l) (xs:=zr zs) (fun i σ H2=>H2=H/\∃v,σ=[some (.int n),some (.ref l),v]) ⟨rfl,none,rfl⟩ (fun i σ H2 _ ⟨e,_⟩=>by rw[e];exact a9.of hl) ?_ ?_⟩
  .rintro i x σ H2 hx ⟨rfl,v,rfl⟩;obtain⟨z,hz,rfl⟩:=sj hx;have Ld:z∈zs:=cS hz;have hzp:z.2∈zp zs:=bB.mpr ⟨z,Ld,rfl⟩;have r:=fi.rg _ hzp;exact⟨_,rfl,_,rfl,n,_,_,_,rfl,po z Ld,r.1.1,r.1.2,r.2.1,r.2.2,fi.ne _ hzp,_,rfl,gO ⟨rfl,_,rfl⟩⟩
  .rintro σ H2 ⟨rfl,v,rfl⟩;have eX:(zp zs).length<=256:=fi.len;refine⟨_,rfl,l,zs.map (·.1),zp zs,rfl,a9.of (by rw[<-iQ];exact hl),by rw[aR,bQ],fun i hi=>?_,fi.nd,fun y hy=>?_,by lia,fun D hD=>?_⟩
   .rw[bQ] at hi;rw[xX hi,Ch hi];exact bU.of (po _ (ik hi))
   .have r:=fi.rg _ hy;lia
   .have nl:l≠D:=am hl hD;refine⟨D,_,rfl,ae,by lia,_,rfl,l,zr zs,rfl,.inl (a9.of (by rw[ao nl];exact hl)),rfl,_,rfl,?_⟩;have ez:(!decide (V.int (((zp zs).length:Nat):Int)=V.int (((zr zs).length:Nat):Int)))=false:=by rw[bQ,dD];simp
    rw[ez];exact gO (k _ (ai hD))
end
abbrev xZ:Stmt:=top 35
section
variable {P:Program} {w:World} {K:PySem.W.Frag} {mg:Str->Option Value} {base:Heap}
theorem pF(S:St->Prop)(p q:Int×Int->Int)(h:Int)(hD:H D=none)(hl:H l=some (.lst (zr zs)))(po:PO H zs)(hn:zs.length<=1000)(s0:S σB)(hg:∀z σ H2 (Kt:V->St->Hp->Prop) (Kf:St->Hp->Prop),z∈zs->S σ->H2 z.1=some (ng z.2)->(∀σ2,S σ2->p z.2=h->Kt (.int (q z.2)) σ2 H2)->(∀σ2,S σ2->p z.2≠h->Kf σ2 H2)->
   g (.ref z.1) σ H2 fun σ2 H2=>tt σ2 H2 fun b H3=>if b=true then te σ2 H3 fun v H4=>Kt v σ2 H4 else Kf σ2 H3)(hd:d7 (upd H D (.lst (IV (((zp zs).filter fun y=>decide (p y=h)).map q))))):gu (Ej K l) g tt te D d7 σB (upd H D (.lst [])):=by
 have nl:l≠D:=am hl hD;have tk:∀ {i:Nat} {z:Addr×(Int×Int)},zs[i]?=some z->(zp zs).take (i+1)=(zp zs).take i++[z.2]:=fun {i z} hz=>by
  rw[gj,show (zp zs)[i]?=some z.2 by unfold zp;rw[bZ,hz];rfl];rfl
 refine d_ (xs:=zr zs) (fun i ys σ H2=>S σ/\ys=IV ((((zp zs).take i).filter fun y=>decide (p y=h)).map q)/\H2=upd H D (.lst ys)) ⟨s0,by simp,rfl⟩ (fun i ys σ H2 _ ⟨_,_,e⟩=>by rw[e];exact a9.of (by rw[ao nl];exact hl)) ?_ ?_
 .rintro i x ys σ H2 Kt Kf hx ⟨hS,ey,rfl⟩ kt kf;obtain⟨z,hz,rfl⟩:=sj hx;have Ld:z∈zs:=cS hz;have hp:=po z Ld;have na:z.1≠D:=am hp hD;have hi:i<zs.length:=(dN.mp hz).1;refine hg z σ _ Kt Kf Ld hS (by rw[ao na];exact hp) (fun σ2 s2 e=>?_) (fun σ2 s2 e=>?_)
  .refine kt _ _ _ ae ?_ ⟨s2,?_,?_⟩
   .rw[ey,aR,aR];exact eD (ij _ _) (eD (zh _ _) (br (show i<1000 by lia) (by decide)))
   .rw[ey,tk hz,gh,di];have:decide (p z.2=h)=true:=by simp[e]
    simp[dO,this]
   .rw[kY]
  .refine kf _ _ ⟨s2,?_,rfl⟩;have:decide (p z.2=h)=false:=by simp[e]
   rw[ey,tk hz,gh];simp[dO,this]
 .rintro ys σ H2 ⟨_,ey,rfl⟩;rw[dD,<-bQ,i9] at ey;rw[ey];exact hd
theorem Pb:(["one","other","house"]:List Str).Nodup:=by decide +kernel
theorem Co:aP ["many","ties","house","leading_out","leading_in"] ["many","ties"] (au MR):=⟨rfl,rfl,rfl,by decide +kernel,rfl,by decide +kernel,by decide +kernel⟩
theorem MV(F:hV K "check_balance" "check_balance" MR f fd)(B:Bl mg)(gM:∃t,mg "MOST_TIES_OUT"=some (.int 8 t)):
  bJ P w K mg base bh 1 f fd ["many","ties"] lf:=by
 obtain⟨tM,gM⟩:=gM;refine F.ok Co (fun vs H Q E h=>?_) (fun eV A outer s H vs Q E hr h=>?_)
 .obtain⟨n,l,zs,rfl,_⟩:=h;rfl
 .obtain⟨n,l,zs,rfl,T,k⟩:=h;have fi:=T.jO;have n1:=fi.n1;have n2:=fi.n2;have eX:zs.length<=256:=by have:=fi.len;rw[bQ] at this;exact this
  refine'⟨_,ap (cQ dP rfl (bE rfl B.range (aa (pv 0) ag)) (az (i:=2) Co.nd rfl (Or.inr rfl))
   (aj (aV (i:=3) Co.nd rfl (Or.inl rfl) (aI aQ (by rfl) B.len dU (aa ?c1 ag)))
   (aj (aV (i:=4) Co.nd rfl (Or.inl rfl) (aI aQ (by rfl) B.len dU (aa ?c2 ag)))
   (aj (cC (aM t_ (pv 3) (pv 4) (a_ _)) d8 bp)
   (ap (cC (aM KS (pv 3) (qx (v:=.int 8) rfl gM ⟨_,rfl⟩) (a_ _)) d8 bp)))))),?_⟩
  case c1=>
   refine' cD (g:=sY K 2 (fV (bD 0) (fV (bD 1) sX))) (NB:=["one","other","house"]) (src:=[none,none,some 2]) (bq (by kernel_rfl)) rfl (bV (pv 1)) ?g ?t ?e;case g=>exact fun cl C s₃ H₃ fp=>dC (n:=2) rfl (aG (az (i:=0) Pb rfl (Or.inl rfl) (Or.inr rfl)) (aG (az (i:=1) Pb rfl (Or.inl rfl) (Or.inr rfl)) cr))
   case t=>exact fun cl C s₃ H₃ fp=>fY (aM hU (pv 0) (pv 2) (a_ _))
   case e=>exact fun cl C s₃ H₃ fp=>pv 0
  case c2=>
   refine' cD (g:=sY K 2 (fV (bD 0) (fV (bD 1) sX))) (NB:=["one","other","house"]) (src:=[none,none,some 2]) (bq (by kernel_rfl)) rfl (bV (pv 1)) ?g ?t ?e;case g=>exact fun cl C s₃ H₃ fp=>dC (n:=2) rfl (aG (az (i:=0) Pb rfl (Or.inl rfl) (Or.inr rfl)) (aG (az (i:=1) Pb rfl (Or.inl rfl) (Or.inr rfl)) cr))
   case t=>exact fun cl C s₃ H₃ fp=>fY (aM hU (pv 1) (pv 2) (a_ _))
   case e=>exact fun cl C s₃ H₃ fp=>pv 1
  refine⟨_,rfl,n,rfl,by lia,by lia,dt (n:=n) (lo:=0) (fun i σ H2=>aL H H2/\∃a b c,σ=[some (.int n),some (.ref l),a,b,c]) ⟨aL.refl _,none,none,none,rfl⟩ ?_ ?_⟩
  .rintro i σ H2 hi ⟨sm,a,b,c,rfl⟩;have T2:=T.same sm;refine⟨_,rfl,l,rfl,⟨_,a9.of T2.at_⟩,fun D hD=>pF (fun σ=>∃a b,σ=[a,b,some (.int (0+(i:Int)))]) (·.1) (·.1) (0+(i:Int)) hD T2.at_ T2.po (by lia) ⟨_,_,rfl⟩ ?_ ?_⟩
   .rintro z σ H3 Kt Kf hj ⟨x,y,rfl⟩ ha kt kf;refine⟨z.1,_,rfl,bU.of ha,rfl,_,_,rfl,_,_,rfl,rfl,?_⟩;refine⟨_,rfl,_,rfl,rfl,_,rfl,?_⟩;refine fX (fun e=>?_) (fun e=>?_)
    .exact⟨_,rfl,kt _ ⟨_,_,rfl⟩ (by simpa using e)⟩
    .exact kf _ ⟨_,_,rfl⟩ (by simpa using e)
   .refine⟨D,_,rfl,.inl (a9.of ae),?_⟩;have Lb:=bv (o:=.lst (IV (((zp zs).filter fun y=>decide (y.1=0+(i:Int))).map (·.1)))) (sm.trans (aL.refl _)) (H:=H) (by cases z:H D with|none=>rfl|some o=>rw[sm _ _ z] at hD;cases hD);have T3:=T.same Lb;refine⟨_,rfl,l,rfl,⟨_,a9.of T3.at_⟩,fun D' hD'=>pF (fun σ=>∃a b,σ=[a,b,some (.int (0+(i:Int)))]) (·.2) (·.2) (0+(i:Int)) hD' T3.at_ T3.po (by lia) ⟨_,_,rfl⟩ ?_ ?_⟩
    .rintro z σ H3 Kt Kf hj ⟨x,y,rfl⟩ ha kt kf;refine⟨z.1,_,rfl,bU.of ha,rfl,_,_,rfl,_,_,rfl,rfl,?_⟩;refine⟨_,rfl,_,rfl,rfl,_,rfl,?_⟩;refine fX (fun e=>?_) (fun e=>?_)
     .exact⟨_,rfl,kt _ ⟨_,_,rfl⟩ (by simpa using e)⟩
     .exact kf _ ⟨_,_,rfl⟩ (by simpa using e)
    .refine⟨D',_,rfl,.inl (a9.of ae),?_⟩;rw[gv] at *;have q1:(IV (((zp zs).filter fun y=>decide (y.1=(i:Int))).map (·.1))).length=(IV (((zp zs).filter fun y=>decide (y.2=(i:Int))).map (·.2))).length:=by
      rw[aR,aR,aR,aR];exact fi.B8 i
     have q2:(IV (((zp zs).filter fun y=>decide (y.1=(i:Int))).map (·.1))).length<=8:=by
      rw[aR,aR];exact fi.most i
     refine⟨_,rfl,_,rfl,rfl,_,rfl,?_⟩;rw[<-q1];rw[show (!decide (V.int (((IV (((zp zs).filter fun y=>decide (y.1=(i:Int))).map (·.1))).length:Nat):Int)=V.int (((IV (((zp zs).filter fun y=>decide (y.1=(i:Int))).map (·.1))).length:Nat):Int)))=false by simp];refine gO ?_;refine⟨_,rfl,_,_,rfl,rfl,_,rfl,?_⟩;rw[show decide ((((IV (((zp zs).filter fun y=>decide (y.1=(i:Int))).map (·.1))).length:Nat):Int) > 8)=false by rw[yX];lia];exact gO ⟨Lb.trans (ai hD'),_,_,_,rfl⟩
  .rintro σ H2 ⟨sm,a,b,c,rfl⟩;exact k H2 sm
end
def Ji:Expr:=match (b9 xZ).getD 1 (.Pass ⟨0,0,0,0⟩) with
 |.Return (some (.Call _ _ (k::_) _)) _=>k.value
 |_=>.Name "x" ⟨0,0,0,0⟩
def Jj:Arguments:=match Ji with
 |.Lambda a _ _ _=>a
 |_=>{ posonlyargs:=[],args:=[],vararg:=none,kwonlyargs:=[],kw_defaults:=[],kwarg:=none,defaults:=[] }
def Jk:Expr:=match Ji with
 |.Lambda _ b _ _=>b
 |e=>e
def Ru:Scope:=match Ji with
 |.Lambda _ _ s _=>s
 |_=>{ kind:=.function,names:=[],isGenerator:=false,isCoroutine:=false }
def MW:Pos:=match Ji with
 |.Lambda _ _ _ p=>p
 |_=>⟨0,0,0,0⟩
def Le:Str:=("houses_out":Str)++".<locals>."++"<lambda>"
abbrev mv(Pt:Addr)(H:Hp):Prop:=dq MW Le Pt H
def kJ(Pt:Addr)(H H':Hp):Prop:=∀b o,H b=some o->b≠Pt->H' b=some o
theorem kJ.of(a:aL H H'):kJ Pt H H':=fun c o h _=>a c o h
theorem mv.not(t:mv Pt H)(h:H b=some o)(n:∀ps,o≠.iH ps):b≠Pt:=by
 rintro rfl;rcases t with z|⟨c,z,_⟩ <;> · rw[h] at z;exact n _ (bN z)
theorem mv.same(t:mv Pt H)(e:aL H H'):mv Pt H':=by
 rcases t with z|⟨c,z,y⟩
 .exact .inl (e _ _ z)
 .exact .inr ⟨c,e _ _ z,e _ _ y⟩
theorem Jl{n a b h:Int}(hn:0<n)(a0:0<=a)(a1:a<n)(b0:0<=b)(b1:b<n)(e:(a-h) % n=(b-h) % n):a=b:=by
 have h1:=Int.emod_emod_of_dvd (a-h) (Int.dvd_refl n);have q:(a-b) % n=0:=by
  have:a-b=(a-h)-(b-h):=by lia
  rw[this,Int.sub_emod,e,Int.sub_self,Int.zero_emod]
 obtain⟨c,hc⟩:=Int.dvd_of_emod_eq_zero q;have c0:c=0:=by
  rcases Int.lt_trichotomy c 0 with z|z|z
  .have:n*c<=n*(-1):=Ez (by lia) (by lia);lia
  .exact z
  .have:n*1<=n*c:=Ez (by lia) (by lia);lia
 rw[c0] at hc;lia
theorem tQ{ts:Ts}{h:Int}(nd:ts.Nodup):((ts.filter fun y=>decide (y.1=h)).map (·.2)).Nodup:=by
 refine L2.ph (nd.filter _) fun x hx y hy e=>?_;have a:=(dz.mp hx).2;have b:=(dz.mp hy).2;simp at a b;exact gw (a.trans b.symm) e
theorem DV{n:Nat}{ts:Ts}{h:Nat}(F:b8 n ts)(hh:h<n){out:List Int}(ko:Ml (h:Int) (n:Int) ((ts.filter fun y=>decide (y.1=(h:Int))).map (·.2)) out):out.map V.int=NV (bP n ts h):=by
 obtain⟨ps,hp,rfl,hs⟩:=ko;have Dy:(ps.map (·.2)).Perm ((ts.filter fun y=>decide (y.1=(h:Int))).map (·.2)):=by
  have:=hp.map (·.2);rw[dQ] at this;refine this.trans (j6 ?_);conv=>rhs;rw[<-oJ ((ts.filter fun y=>decide (y.1=(h:Int))).map (·.2))]
  rfl
 have mem:∀z,z∈ps.map (·.2)↔((h:Int),z)∈ts:=fun z=>by
  rw[Dy.mem_iff,bB];constructor
  .rintro⟨y,hy,rfl⟩;obtain⟨y1,y2⟩:=dz.mp hy;have:y.1=(h:Int):=by simpa using y2
   rw[<-this];exact y1
  .intro hz;exact⟨_,dz.mpr ⟨hz,by simp⟩,rfl⟩
 have nd:(ps.map (·.2)).Nodup:=Dy.nodup_iff.mpr (tQ F.nd);have key:∀q∈ps,q.1=(q.2-(h:Int)) % (n:Int):=fun q hq=>by
  obtain⟨z,_,e⟩:=bB.mp (hp.mem_iff.mp hq);rw[<-e]
 have hn:(0:Int)<n:=by have:=F.n1;lia
 have sorted:(ps.map (·.2)).Pairwise fun x y=>(x-(h:Int)) % (n:Int)<(y-(h:Int)) % (n:Int):=by
  refine iK.mpr ?_;have Wk:=iK.mp nd;refine(hs.and Wk).imp_of_mem fun {x y} hx hy Aw=>?_;have l1:=Aw.1;rw[key x hx,key y hy] at l1;have ax:=F.rg _ ((mem x.2).mp (bB.mpr ⟨x,hx,rfl⟩));have ay:=F.rg _ ((mem y.2).mp (bB.mpr ⟨y,hy,rfl⟩));have ne:(x.2-(h:Int)) % (n:Int)≠(y.2-(h:Int)) % (n:Int):=fun z=>Aw.2 (Jl hn ax.2.1 ax.2.2 ay.2.1 ay.2.2 z);lia
 have e:ps.map (·.2)=(bP n ts h).map fun (o:Nat)=>(o:Int):=by
  refine pX (k:=fun z=>(z-(h:Int)) % (n:Int)) sorted ?_ fun z=>?_
  .refine iK.mpr ?_;exact pW hh
  .rw[mem,bB];constructor
   .intro hz;have r:=F.rg _ hz;refine⟨z.toNat,(ft F hh).mpr ?_,by lia⟩;show (((h:Nat):Int),((z.toNat:Nat):Int))∈ts;rw[show ((z.toNat:Nat):Int)=z by lia];exact hz
   .rintro⟨o,ho,rfl⟩;exact(ft F hh).mp ho
 rw[e,dQ];rfl
section
variable {P:Program} {w:World} {K:PySem.W.Frag} {mg:Str->Option Value} {base:Heap}
theorem Ga:aP ["many","ties","house","others"] ["many","ties","house"] (au xZ):=⟨rfl,rfl,rfl,by decide +kernel,rfl,by decide +kernel,by decide +kernel⟩
def wf(Pt:Addr):Sp:=fun vs H Q _=>∃ (n:Nat) (l:Addr) (h:Nat) (zs:Zs),vs=[.int n,.ref l,.int h]/\h<n/\g8 H l n zs/\mv Pt H/\
 ∀ (r:Addr) (H':Hp),mv Pt H'->kJ Pt H H'->H r=none->H' r=some (.lst (NV (bP n (zp zs) h)))->Q (.ref r) H'
theorem Jm(F:qg K "houses_out" "houses_out" xZ f fd c)(B:Bl mg)(kb:K.In base)(hb:pi mg base)(hc:PySem.W.codeHdIn K c Pt=true):
  bJ P w K mg base bh 1 f fd ["many","ties","house"] (wf Pt):=by
 refine F.ok Ga (fun vs H Q E h=>?_) (fun A outer s H vs Q E hr h=>?_)
 .obtain⟨n,l,h,zs,rfl,_⟩:=h;rfl
 .obtain⟨n,l,h,zs,rfl,hh,T,tb,k⟩:=h;have fi:=T.jO;have n1:=fi.n1;have eX:zs.length<=256:=by have:=fi.len;rw[bQ] at this;exact this
  have LS:QI (kD bh P w K mg base ["many","ties","house","others"] "houses_out" (au xZ) f (.ref c) A outer s H E).yE Le Jj Jk Ru "other" "house" "many" 2 0:=
   ⟨⟨_,_,_,_,_,rfl⟩,fun _ _ _ _ _=>rfl,rfl,rfl,rfl,rfl,rfl,rfl,rfl,by decide +kernel,by decide +kernel,by decide +kernel,rfl,rfl,rfl,by decide,⟨by decide,by decide⟩,⟨by decide,by decide⟩⟩
  refine'⟨_,aj (dY (i:=3) (g:=sY K 2 (fV (bD 0) (fV (bD 1) sX))) (NB:=["one","other","house"]) (src:=[none,none,some 2]) (bq (by kernel_rfl)) rfl (bV (pv 1)) ?g ?t ?e Ga.nd rfl rfl rfl)
   (ap (be (jc (Aq LS hr) rfl B.sorted nQ (aa (pv 3) ag) (mH (rM (NB:=["other","house","many"]) (src:=[none,some 2,some 0]) (mQ kb hb hc) (bq (by kernel_rfl))) rE)))),?_⟩
  case g=>exact fun cl C s₃ H₃ fp=>dC (n:=2) rfl (aG (az (i:=0) Pb rfl (Or.inl rfl) (Or.inr rfl)) (aG (az (i:=1) Pb rfl (Or.inl rfl) (Or.inr rfl)) cr))
  case t=>exact fun cl C s₃ H₃ fp=>fY (aM hU (pv 0) (pv 2) (a_ _))
  case e=>exact fun cl C s₃ H₃ fp=>pv 1
  refine⟨_,rfl,l,rfl,⟨_,a9.of T.at_⟩,fun D hD=>pF (fun σ=>∃a b,σ=[a,b,some (.int (h:Int))]) (·.1) (·.2) (h:Int) hD T.at_ T.po (by lia) ⟨_,_,rfl⟩ ?_ ?_⟩
  .rintro z σ H3 Kt Kf hj ⟨x,y,rfl⟩ ha kt kf;refine⟨z.1,_,rfl,bU.of ha,rfl,_,_,rfl,_,_,rfl,rfl,?_⟩;refine⟨_,rfl,_,rfl,rfl,_,rfl,?_⟩;refine fX (fun e=>?_) (fun e=>?_)
   .exact⟨_,rfl,kt _ ⟨_,_,rfl⟩ (by simpa using e)⟩
   .exact kf _ ⟨_,_,rfl⟩ (by simpa using e)
  .generalize hos:((zp zs).filter fun y=>decide (y.1=(h:Int))).map (·.2)=os;have Et:os.length<=8:=by rw[<-hos,aR];exact fi.most h
   have sm:aL H (upd H D (.lst (IV os))):=ai hD;refine⟨_,rfl,tb.same sm,fun f' c' H2 t2' gU wY xu=>?_⟩;have t2:mv Pt H2:=t2';have jA:H2 D=some (.lst (IV os)):=gU _ _ ae ((tb.same sm).not ae (by intro ps z;cases z));refine⟨D,f',c',os,h,n,rfl,rfl,a9.of jA,(by lia),xu,wY,rfl,rfl,by lia,fun r out Es ko=>?_⟩;rw[<-hos] at ko;rw[DV fi hh ko];have Lb:aL H2 (upd H2 r (.lst (NV (bP n (zp zs) h)))):=ai Es;refine k r _ (t2.same Lb) (fun b o e hb=>Lb _ _ (gU b o (sm _ _ e) hb)) ?_ ae;cases z:H r with
   |none=>rfl
   |some o=>
    by_cases hP:r=Pt
    .rcases t2 with q|⟨_,q,_⟩ <;> · rw[<-hP,Es] at q;cases q
    .rw[gU r o (sm _ _ z) hP] at Es;cases Es
end
abbrev Gb:Stmt:=top 36
abbrev AS:Stmt:=top 37
def gW(n:Nat)(R:List Nat)(f:Nat->Nat):List V:=(List.range n).map fun x=>if x∈R then V.int ((f x:Nat):Int) else .cE
theorem jh:(gW n R f).length=n:=by unfold gW;rw[aR,cu]
theorem iA(h:x<n):(gW n R f)[x]?=some (if x∈R then V.int ((f x:Nat):Int) else .cE):=by
 unfold gW;rw[bZ,fc h];rfl
theorem so(hs:s<n):(List.replicate n V.cE).set s (V.int 0)=gW n [s] (fun _=>0):=by
 apply lw;intro x;by_cases hx:x<n
 .rw[iA hx];by_cases e:x=s
  .subst e;rw[nX (by rw[jQ];exact hx),ak (by simp)];rfl
  .rw[n9 (fun z=>e z.symm),qP,ak hx,av (by simp[e])]
 .rw[eZ (by rw[jF,jQ];lia),eZ (by rw[jh];lia)]
theorem x_(hv:v<n):(gW n R f).set v (V.int ((k:Nat):Int))=gW n (R++[v]) (put f v k):=by
 apply lw;intro x;by_cases hx:x<n
 .rw[iA hx];by_cases e:x=v
  .subst e;rw[nX (by rw[jh];exact hx),ak (by simp),jf]
  .rw[n9 (fun z=>e z.symm),iA hx,f_ e];by_cases h:x∈R
   .rw[ak h,ak (fw _ h)]
   .rw[av h,av (fun z=>(cw.mp z).elim h fun z=>e (by simpa using z))]
 .rw[eZ (by rw[jF,jh];lia),eZ (by rw[jh];lia)]
def Rv(σ:St):Nat:=match σ[4]? with
 |some (some (V.int z))=>z.toNat
 |_=>0
theorem nbO:(["others"]:List Str).Nodup:=by decide +kernel
def sq(H:Hp)(ol:Addr)(n:Nat)(ts:Ts):Prop:=∃bs:List Addr,H ol=some (.lst (bs.map V.ref))/\Holds H bs n (fun h=>.lst (NV (bP n ts h)))
theorem sq.same(x:sq H ol n ts)(e:aL H H'):sq H' ol n ts:=let ⟨bs,a,b⟩:=x;⟨bs,e _ _ a,b.mono fun _ _ z=>e _ _ z⟩
theorem Lf{as:List Addr}{i:Nat}{x:V}(h:(as.map V.ref)[i]?=some x):i<as.length/\x=.ref (as.getD i 0):=by
 rw[bZ] at h;cases e:as[i]? with
 |none=>rw[e] at h;cases h
 |some a=>
  rw[e] at h;refine⟨(dN.mp e).1,?_⟩;rw[bY,e];exact(bN h).symm
section
variable {P:Program} {w:World} {K:PySem.W.Frag} {mg:Str->Option Value} {base:Heap}
theorem mf:aP ["out_lists","start","distances","reached","at","house","other"] ["out_lists","start"] (au Gb):=⟨rfl,rfl,rfl,by decide +kernel,rfl,by decide +kernel,by decide +kernel⟩
def wg:Sp:=fun vs H Q _=>∃ (ol:Addr) (n s:Nat) (ts:Ts),vs=[.ref ol,.int s]/\b8 n ts/\s<n/\sq H ol n ts/\
 ∀ (r:Addr) (H':Hp),aL H H'->H r=none->H' r=some (.lst (NV ((List.range n).map (far ts s))))->Q (.ref r) H'
theorem Jn{f:Addr}{fd:FuncData}(F:hV K "distances_from" "distances_from" Gb f fd)(B:Bl mg):bJ P w K mg base bh 1 f fd ["out_lists","start"] wg:=by
 refine F.ok mf (fun vs H Q E h=>?_) (fun eV A outer s H vs Q E hr h=>?_)
 .obtain⟨ol,n,s,ts,rfl,_⟩:=h;rfl
 .obtain⟨ol,n,st,ts,rfl,fi,hs,O,k⟩:=h;have n1:=fi.n1;have n2:=fi.n2;refine'⟨_,aj (dY (i:=2) (g:=bD 0) (NB:=["others"]) (src:=[none]) (bq (by kernel_rfl)) rfl (bV (pv 0)) ?g ?t ?e mf.nd rfl rfl rfl)
   (aj (dL aB (gC (pv 2) (pv 1) dR))
   (aj (aV (i:=3) mf.nd rfl (Or.inl rfl) (cY (aa (pv 1) ag)))
   (aj (aV (i:=4) mf.nd rfl (Or.inl rfl) aB)
   (aj (w9 dP (aM kC (pv 4) (aI aQ (by rfl) B.len dU (aa (pv 3) ag)) (a_ _))
    (aj (aV (i:=5) mf.nd rfl (Or.inl rfl) (aX aK (pv 3) (pv 4) (fun _ _=>rfl)))
    (aj (cQ dP rfl (bV (aX aK (pv 0) (pv 5) (fun _ _=>rfl))) (az (i:=6) mf.nd rfl (Or.inl rfl))
     (ap (cC (aM vI (aX aK (pv 2) (pv 6) (fun _ _=>rfl)) eC (a_ _))
      (aj (dL (bb cX (aX aK (pv 2) (pv 5) (fun _ _=>rfl)) aB) (gC (pv 2) (pv 6) dR))
      (ap (cq (gK gI jE jD du (pv 3) (aa (pv 6) ag))))) bp)))
    (ap (LR (i:=4) mf.nd rfl (Or.inl rfl) aB LU)))))
   (ap (be (pv 2))))))),?_⟩
  case g=>exact fun cl C s₃ H₃ fp=>az (i:=0) nbO rfl (Or.inl rfl) (Or.inr rfl)
  case t=>exact fun cl C s₃ H₃ fp=>c_
  case e=>exact fun cl C s₃ H₃ fp=>eC
  obtain⟨bs,Et,Lg,K0⟩:=id O;refine⟨_,rfl,ol,rfl,⟨_,a9.of Et⟩,fun D hD=>?_⟩;have nol:ol≠D:=am Et hD;refine d_ (xs:=bs.map V.ref) (fun i ys σ H2=>(∃a,σ=[a])/\ys=List.replicate i V.cE/\H2=upd H D (.lst ys)) ⟨⟨_,rfl⟩,rfl,rfl⟩ (fun i ys σ H2 _ ⟨_,_,e⟩=>by rw[e];exact a9.of (by rw[ao nol];exact Et)) ?_ ?_
  .rintro i x ys σ H2 Kt Kf hx ⟨⟨a,rfl⟩,rfl,rfl⟩ kt kf;have hi:=(Lf hx).1;refine kt _ _ _ ae ?_ ⟨⟨_,rfl⟩,?_,by rw[kY]⟩
   .rw[jQ];exact br hi (by rw[Lg];exact ba n2 (by decide))
   .rw[uX]
  .rintro ys σ H2 ⟨_,rfl,rfl⟩;rw[aR,Lg];refine⟨_,rfl,_,rfl,D,_,st,st,rfl,rfl,ae,by rw[jQ];exact eG hs,?_⟩;rw[kY,so hs];refine⟨_,rfl,by show 1<=sizeLine;decide,fun R hR=>?_⟩;have Ev:D≠R:=am (H:=upd H D (.lst (gW n [st] (fun _=>0)))) ae hR;have Jo:H R=none:=by rw[ao Ev.symm] at hR;exact hR
   refine xc (fun σ H2=>∃ (i:Nat) (Rs:List Nat) (f:Nat->Nat),i<=Rs.length/\yM n ts st i Rs f/\(∃a b,σ=[some (.ref ol),some (.int st),some (.ref D),some (.ref R),some (.int (i:Int)),a,b])/\aL H H2/\H2 D=some (.lst (gW n Rs f))/\H2 R=some (.lst (NV Rs)))
    (fun σ _=>n-Rv σ) ⟨0,[st],fun _=>0,cx _,yM.start hs,⟨none,none,rfl⟩,bv (ai hD) Jo,?_,ae⟩ ?_ ?_
   .rw[ao Ev,ae]
   .rintro σ H2 ⟨i,Rs,f,hi,Bf,⟨a,b,rfl⟩,sm,jA,tR⟩;have hRn:Rs.length<=n:=eY Bf.nd Bf.lt;refine⟨_,rfl,_,rfl,R,_,rfl,.inl (a9.of tR),_,_,rfl,rfl,_,rfl,?_⟩;rw[bj];by_cases uw:i<Rs.length
    .rw[show decide ((i:Int)<((Rs.length:Nat):Int))=true by simp;lia];refine vR ?_;have hu:Rs[i]?=some Rs[i]:=cg uw;generalize Rs[i]=u at hu;have ya:u<n:=Bf.lt u (cS hu);have Wr:(NV Rs)[i]?=some (.int (u:Int)):=by rw[bZ,hu];rfl
     refine⟨_,rfl,_,rfl,R,_,_,_,rfl,rfl,a9.of tR,aD Wr,?_⟩;have Ws:(bs.map V.ref)[u]?=some (.ref (bs.getD u 0)):=by
      rw[bZ,bY,cg (by rw[Lg];exact ya)];rfl
     have Wt:=sm _ _ (K0 _ ya);refine⟨_,rfl,_,rfl,ol,_,_,_,rfl,rfl,a9.of (sm _ _ Et),aD Ws,_,rfl,⟨_,a9.of Wt⟩,?_⟩;have nbD:bs.getD u 0≠D:=am (K0 _ ya) hD;have nbR:bs.getD u 0≠R:=am (K0 _ ya) Jo;refine fW (K:=K) (xs:=NV (bP n ts u)) (fun j σ H3=>∃ (ig:List Nat) (f':Nat->Nat),yM n ts st i ig f'/\ig[i]?=some u/\(∀v∈(bP n ts u).take j,v∈ig/\f' v<=f' u+1)/\
      (∃b,σ=[some (.ref ol),some (.int st),some (.ref D),some (.ref R),some (.int (i:Int)),some (.int (u:Int)),b])/\aL H H3/\H3 D=some (.lst (gW n ig f'))/\H3 R=some (.lst (NV ig)))
      ⟨Rs,f,Bf,hu,fun v hv=>by simp at hv,⟨_,rfl⟩,sm,jA,tR⟩ (fun j σ H3 _ ⟨_,_,_,_,_,_,DW,_⟩=>a9.of (DW _ _ (K0 _ ya))) ?_ ?_
     .rintro j x σ H3 hx ⟨ig,f',wj,qe,dn,⟨b',rfl⟩,DW,nJ,yK⟩;rw[bZ] at hx;cases hv:(bP n ts u)[j]? with
      |none=>rw[hv] at hx;cases hx
      |some v=>
       rw[hv] at hx;obtain rfl:V.int ((v:Nat):Int)=x:=bN hx;have MX:v∈bP n ts u:=cS hv;have Gc:v<n:=k_ fi ya MX;have Wu:T ts u v:=(ft fi ya).mp MX;have tk:(bP n ts u).take (j+1)=(bP n ts u).take j++[v]:=by rw[gj,hv];rfl
       have Gd:u∈ig:=cS qe;refine⟨_,rfl,_,rfl,D,_,_,_,rfl,rfl,a9.of nJ,aD (iA Gc),rfl,_,rfl,?_⟩;by_cases AT:v∈ig
       .rw[ak AT];refine gO ⟨ig,f',wj,qe,fun x hx=>?_,⟨_,rfl⟩,DW,nJ,yK⟩;rw[tk] at hx;rcases cw.mp hx with z|z
        .exact dn x z
        .simp at z;subst z;exact⟨AT,wj.bd u qe _ AT⟩
       .rw[av AT];refine vR ?_;have HN:(gW n ig f')[u]?=some (.int ((f' u:Nat):Int)):=by rw[iA ya,ak Gd]
        refine⟨_,rfl,_,rfl,D,_,_,_,rfl,rfl,a9.of nJ,aD HN,_,_,rfl,rfl,_,rfl,_,rfl,D,_,_,_,rfl,rfl,nJ,by rw[jh];exact eG Gc,?_⟩;have e1:(gW n ig f').set v (.int (((f' u:Nat):Int)+1))=gW n (ig++[v]) (put f' v (f' u+1)):=by
         rw[show ((f' u:Nat):Int)+1=((f' u+1:Nat):Int) by lia,x_ Gc]
        rw[e1];have qE:(upd H3 D (.lst (gW n (ig++[v]) (put f' v (f' u+1))))) R=some (.lst (NV ig)):=by rw[ao Ev.symm];exact yK
        have Ge:ig.length<=n:=eY wj.nd wj.lt;refine⟨_,rfl,.inl ⟨rfl,_,a9.of qE⟩,_,rfl,R,_,_,rfl,rfl,qE,by rw[bj];exact br (show ig.length<33 by lia) (by decide),?_⟩;have B3:i<ig.length:=(dN.mp qe).1;have Wv:u≠v:=fun z=>AT (z ▸ Gd);refine⟨ig++[v],put f' v (f' u+1),wj.add qe Gc Wu AT,by rw[i6 B3];exact qe,fun x hx=>?_,⟨_,rfl⟩,bv (bv DW hD) Jo,?_,?_⟩
        .rw[f_ Wv];rw[tk] at hx;rcases cw.mp hx with z|z
         .obtain⟨q1,q2⟩:=dn x z;exact⟨fw _ q1,by rw[f_ (fun (z:x=v)=>AT (z ▸ q1))];exact q2⟩
         .simp at z;subst z;exact⟨by simp,by rw[jf];exact aU _⟩
        .rw[ao Ev,ae]
        .rw[ae];show _=some (HO.lst (NV (ig++[v])));rw[show NV (ig++[v])=NV ig++[.int (v:Int)] by unfold NV;rw[di];rfl]
     .rintro σ H3 ⟨ig,f',wj,qe,dn,⟨b',rfl⟩,DW,nJ,yK⟩;rw[bj,i9] at dn;have B3:i<ig.length:=(dN.mp qe).1;have Ge:ig.length<=n:=eY wj.nd wj.lt;refine⟨_,rfl,_,_,rfl,rfl,⟨⟨i+1,ig,f',B3,wj.next qe (fun v t=>dn v ((ft fi ya).mpr t)),⟨_,_,rfl⟩,DW,nJ,yK⟩,?_⟩⟩;show n-((i:Int)+1).toNat<n-(i:Int).toNat;lia
    .rw[show decide ((i:Int)<((Rs.length:Nat):Int))=false by rw[yX];lia];have e:gW n Rs f=NV ((List.range n).map (far ts st)):=by
      unfold gW NV;rw[dQ];refine jT fun x hx=>?_;obtain⟨q1,q2⟩:=Bf.done fi (by lia) (bK.mp hx);rw[ak q1,q2];rfl
     rw[e] at jA;refine gO ⟨_,rfl,k D H2 sm hD jA⟩
   .rintro σ H2 Q1 Q2 imp ⟨v,e1,v2,e2,p,ys,e3,e4,i1,i2,e5,e6,kk,e7,q⟩;exact⟨v,e1,v2,e2,p,ys,e3,e4,i1,i2,e5,e6,kk,e7,imp _ _ q⟩
end
theorem Rx:(["row"]:List Str).Nodup:=by decide +kernel
section
variable {P:Program} {w:World} {K:PySem.W.Frag} {mg:Str->Option Value} {base:Heap}
theorem Jp:aP ["distances"] ["distances"] (au AS):=⟨rfl,rfl,rfl,by decide +kernel,rfl,by decide +kernel,by decide +kernel⟩
def wm:Sp:=fun vs H Q _=>∃ (l:Addr) (ds:List Addr) (n:Nat) (o:Nat->List V),vs=[.ref l]/\H l=some (.lst (ds.map V.ref))/\n<=32/\Holds H ds n (fun j=>.lst (o j))/\(∀j,j<n->∀x∈o j,∃i,x=.int i)/\∀H',aL H H'->Q .cE H'
theorem Gf(F:hV K "check_reached" "check_reached" AS f fd)(B:Bl mg):bJ P w K mg base bh 1 f fd ["distances"] wm:=by
 refine F.ok Jp (fun vs H Q E h=>?_) (fun eV A outer s H vs Q E hr h=>?_)
 .obtain⟨l,ds,n,o,rfl,_⟩:=h;rfl
 .obtain⟨l,ds,n,o,rfl,hl,n2,hh,hx,k⟩:=h;refine'⟨_,ap (cC (gZ (aI (Dw rfl) (by rfl) B.any PyProof.Rows.boot_any (aa ?c ag))) d8 bp),?_⟩;case c=>
   refine' cD (g:=bD 0) (te:=iI (Vu K false) (tC .cE) (aY 0)) (NB:=["row"]) (src:=[none]) (bq (by kernel_rfl)) rfl (bV (pv 0)) ?g ?t ?e;case g=>exact fun cl C s₃ H₃ fp=>az (i:=0) Rx rfl (Or.inl rfl) (Or.inr rfl)
   case t=>exact fun cl C s₃ H₃ fp=>c_
   case e=>exact fun cl C s₃ H₃ fp=>qz De eC (pv 0) rfl
  refine⟨_,rfl,l,rfl,⟨_,a9.of hl⟩,fun D hD=>?_⟩;have nl:l≠D:=am hl hD;refine d_ (xs:=ds.map V.ref) (fun i ys σ H2=>(∃a,σ=[a])/\ys=(List.replicate i false).map V.bl/\H2=upd H D (.lst ys)) ⟨⟨_,rfl⟩,rfl,rfl⟩ (fun i ys σ H2 _ ⟨_,_,e⟩=>by rw[e];exact a9.of (by rw[ao nl];exact hl)) ?_ ?_
  .rintro i x ys σ H2 Kt Kf hxi ⟨⟨a,rfl⟩,rfl,rfl⟩ kt kf;obtain⟨hi,rfl⟩:=Lf hxi;rw[hh.1] at hi;have hd:=hh.2 i hi;have nd:ds.getD i 0≠D:=am hd hD;have q1:(o i).all fE=true:=lz.mpr fun x vG=>by obtain⟨z,rfl⟩:=hx i hi x vG;rfl
   have q2:yI .cE (o i)=false:=by
    unfold yI;rw[ve];intro x vG;obtain⟨z,rfl⟩:=hx i hi x vG;exact fun z=>by cases z
   refine⟨_,rfl,_,_,rfl,.inl (a9.of (by rw[ao nd];exact hd)),rfl,q1,?_⟩;refine kt _ _ _ ae ?_ ⟨⟨_,rfl⟩,?_,by rw[kY]⟩
   .rw[aR,jQ];exact br hi (ba n2 (by decide))
   .rw[uX,di,q2];rfl
  .rintro ys σ H2 ⟨_,rfl,rfl⟩;refine⟨D,_,rfl,a9.of ae,_,rfl,?_⟩;have e:(List.replicate (ds.map V.ref).length false).any id=false:=by
    rw[ve];intro x vG;rw[(List.mem_replicate.mp vG).2];decide
   rw[e];exact gO (k _ (ai hD))
end
theorem nb2:(["one","other"]:List Str).Nodup:=by decide +kernel
theorem Ry:(["house","many","ties"]:List Str).Nodup:=by decide +kernel
theorem Ww:(["house","self"]:List Str).Nodup:=by decide +kernel
def nq(p Pt:Addr)(H H':Hp):Prop:=∀b o,H b=some o->b≠p->b≠Pt->H' b=some o
theorem g8.mono(h:g8 H l n zs)(e:nq p Pt H H')(hp:H p=some (.ins C dx fs))(tb:mv Pt H):g8 H' l n zs:=
 ⟨h.jO,e _ _ h.at_ (gn h.at_ hp (by intro z;cases z)) (tb.not h.at_ (by intro ps z;cases z)),fun z hz=>e _ _ (h.po z hz) (gn (h.po z hz) hp (by intro z;cases z)) (tb.not (h.po z hz) (by intro ps z;cases z))⟩
theorem mv.mono(t:mv Pt H)(e:∀b o,H b=some o->b≠p->H' b=some o)(hp:H p=some (.ins C dx fs)):mv Pt H':=by
 rcases t with z|⟨c,z,y⟩
 .exact .inl (e _ _ z (gn z hp (by intro q;cases q)))
 .exact .inr ⟨c,e _ _ z (gn z hp (by intro q;cases q)),e _ _ y (gn y hp (by intro q;cases q))⟩
theorem mv.full(t:mv Pt H):H Pt≠none:=by
 rcases t with z|⟨c,z,y⟩ <;> rw[z] <;> intro q <;> cases q
theorem nq.free(s:nq p Pt H H')(hp:H' p≠none)(tb:mv Pt H')(h:H' r=none):H r=none:=by
 cases z:H r with
 |none=>rfl
 |some o=>
  by_cases e1:r=p
  .subst e1;exact absurd h hp
  .by_cases e2:r=Pt
   .subst e2;exact absurd h tb.full
   .rw[s r o z e1 e2] at h;cases h
theorem Rz(h:k [] H):gg σ H k:=h
theorem lh{H:Hp}{p:Addr}{o:HO}(h:H p=some o):H p≠none:=by rw[h];intro z;cases z
section
variable {P:Program} {w:World} {K:PySem.W.Frag} {mg:Str->Option Value} {base:Heap}
theorem MY:aP ["self","many","ties"] ["self","many","ties"] (au Cj):=⟨rfl,rfl,rfl,by decide +kernel,rfl,by decide +kernel,by decide +kernel⟩
def AU(C Pt:Addr):Sp:=fun vs H Q E=>∃ (p dx:Addr) (n:Nat) (l:Addr) (zs:Zs),vs=[.ref p,.int n,.ref l]/\H p=some (.ins C dx [])/\g8 H l n zs/\mv Pt H/\
  ∀H',dB C H' (fun a=>H a=none) p n (zp zs)->mv Pt H'->nq p Pt H H'->Q .cE H'
theorem Jq{f C Pt:Addr}{fd:FuncData}(F:hV K "__init__" "Net.__init__" Cj f fd)(T:NT K mg C)(B:Bl mg)(CT:dH P w K mg base bh 6 "check_ties" ["many","ties"] lf)(CB:dH P w K mg base bh 1 "check_balance" ["many","ties"] lf)(HO':dH P w K mg base bh 1 "houses_out" ["many","ties","house"] (wf Pt))(DF:dH P w K mg base bh 1 "distances_from" ["out_lists","start"] wg)(CR:dH P w K mg base bh 1 "check_reached" ["distances"] wm):
  bJ P w K mg base bh 7 f fd ["self","many","ties"] (AU C Pt):=by
 refine F.ok MY (fun vs H Q E h=>?_) (fun eV A outer s H vs Q E hr h=>?_)
 .obtain⟨p,dx,n,l,zs,rfl,_⟩:=h;rfl
 .have Jr:cy 1 _:=hr.mono (by decide);refine'⟨_,aj (cq (aJ CT hr aO (aa (pv 1) (aa (pv 2) ag))))
   (aj (cq (aJ CB Jr aO (aa (pv 1) (aa (pv 2) ag))))
   (aj (rD (pv 0) (pv 1) rfl)
   (aj (rD (pv 0) (aI Av (by rfl) B.sorted nQ (aa ?c1 ag)) rfl)
   (aj (rD (pv 0) ?c2 rfl)
   (aj (rD (pv 0) ?c3 rfl)
   (ap (cq (aJ CR Jr aO (aa (jv (pv 0) rfl) ag))))))))),?_⟩
  case c1=>
   refine' cD (g:=sY K 2 (fV (bD 0) (fV (bD 1) sX))) (te:=o4 (bz (aY 0) (bz (aY 1) gg))) (NB:=["one","other"]) (src:=[none,none]) (bq (by kernel_rfl)) rfl (bV (pv 2)) ?g ?t ?e;case g=>exact fun cl C s₃ H₃ fp=>dC (n:=2) rfl (aG (az (i:=0) nb2 rfl (Or.inl rfl) (Or.inr rfl)) (aG (az (i:=1) nb2 rfl (Or.inl rfl) (Or.inr rfl)) cr))
   case t=>exact fun cl C s₃ H₃ fp=>c_
   case e=>exact fun cl C s₃ H₃ fp=>cH (aa (pv 0) (aa (pv 1) ag))
  case c2=>
   refine' cD (g:=bD 0) (te:=pO (wf Pt) [] E0 (bz (aY 1) (bz (aY 2) (bz (aY 0) gg)))) (NB:=["house","many","ties"]) (src:=[none,some 1,some 2]) (bq (by kernel_rfl)) rfl (bE rfl B.range (aa (pv 1) ag)) ?g ?t ?e;case g=>exact fun cl C s₃ H₃ fp=>az (i:=0) Ry rfl (Or.inl rfl) (Or.inr rfl)
   case t=>exact fun cl C s₃ H₃ fp=>c_
   case e=>exact fun cl C s₃ H₃ fp=>aJ HO' Jr aO (aa (pv 1) (aa (pv 2) (aa (pv 0) ag)))
  case c3=>
   refine' cD (g:=bD 0) (te:=pO wg [] E0 (bz (Ik K (aY 1) "out_lists") (bz (aY 0) gg))) (NB:=["house","self"]) (src:=[none,some 0]) (bq (by kernel_rfl)) rfl (bE rfl B.range (aa (pv 1) ag)) ?g ?t ?e;case g=>exact fun cl C s₃ H₃ fp=>az (i:=0) Ww rfl (Or.inl rfl) (Or.inr rfl)
   case t=>exact fun cl C s₃ H₃ fp=>c_
   case e=>exact fun cl C s₃ H₃ fp=>aJ DF Jr aO (aa (jv (pv 1) rfl) (aa (pv 0) ag))
  obtain⟨p,dx,n,l,zs,rfl,hp,TT,tb,k⟩:=h;have fi:=TT.jO;have n1:=fi.n1;have n2:=fi.n2;have eX:zs.length<=256:=by have:=fi.len;rw[bQ] at this;exact this
  refine⟨_,rfl,_,rfl,n,l,zs,rfl,TT,fun H1 s1=>?_⟩;refine⟨_,rfl,_,rfl,n,l,zs,rfl,TT.same s1,fun H2 s2=>?_⟩;have Wx:aL H H2:=s1.trans s2;refine⟨_,rfl,_,rfl,p,C,dx,[],rfl,Wx _ _ hp,T.cl,T.nH,(by show 0<1000;decide),?_⟩
  let G1:Hp:=upd H2 p (.ins C dx (dW "house_count" (.int n) []))
  have d1:nq p Pt H G1:=fun b o e h1 _=>by show upd _ _ _ _=_;rw[ao h1];exact Wx _ _ e
  have Uw:G1 p=some (.ins C dx (dW "house_count" (.int n) [])):=ae;have Wy:g8 G1 l n zs:=TT.mono d1 hp tb;have Wz:mv Pt G1:=tb.mono (fun b o e h1=>by show upd _ _ _ _=_;rw[ao h1];exact Wx _ _ e) hp;refine⟨_,rfl,l,rfl,⟨_,a9.of Wy.at_⟩,fun D hD=>?_⟩;refine sn (fun y=>y) (fun σ=>∃a b,σ=[a,b]) Wy.at_ Wy.po hD (by lia) ⟨_,_,rfl⟩ ?_ ?_
  .rintro z σ H3 R Kf hz ⟨a,b,rfl⟩ _ ha kk;refine⟨_,_,rfl,bU.of ha,rfl,_,_,rfl,_,_,rfl,rfl,?_⟩;exact⟨_,rfl,_,rfl,by show 2<=sizeLine;decide,fun t ht=>kk _ _ ⟨_,_,rfl⟩ ht⟩
  .intro wU H3 sm nJ Js ez fr2;rw[List.map_id'] at ez;have En:wU.length=zs.length:=by rw[<-bQ,ez,bQ]
   refine Rz ?_;refine Jb nJ Js (by lia) (fun u hu=>by have:=(fi.rg u (ez ▸ hu)).2;lia) fun tl Lh WA pm nK=>?_;have WB:H tl=none:=d1.free (lh Uw) Wz (sm.free WA);have HJ:∀z∈Lh,H z.1=none:=fun z hz=>d1.free (lh Uw) Wz (fr2 z (pm.mem_iff.mp hz));have WC:H3 p=some (.ins C dx (dW "house_count" (.int n) [])):=sm _ _ Uw;have MZ:p≠tl:=am WC WA;refine⟨_,rfl,p,C,dx,_,rfl,by rw[ao MZ];exact WC,T.cl,T.nT,by show 1<1000;decide,?_⟩
   let G2:Hp:=upd (upd H3 tl (.lst (zr Lh))) p (.ins C dx (dW "tie_list" (.ref tl) (dW "house_count" (.int n) [])))
   have q2:∀b o,H3 b=some o->b≠p->G2 b=some o:=fun b o e h1=>by
    show upd _ _ _ _=_;rw[ao h1,ao (am e WA)];exact e
   have d2:nq p Pt H G2:=fun b o e h1 h2=>q2 _ _ (sm _ _ (d1 _ _ e h1 h2)) h1;have g2t:G2 tl=some (.lst (zr Lh)):=by show upd _ _ _ _=_;rw[ao MZ.symm,ae]
   have WD:PO G2 Lh:=fun z hz=>q2 _ _ (Js z (pm.mem_iff.mp hz)) (gn (Js z (pm.mem_iff.mp hz)) WC (by intro z;cases z));have M0:G2 p=some (.ins C dx (dW "tie_list" (.ref tl) (dW "house_count" (.int n) []))):=ae;have TT2:g8 G2 l n zs:=TT.mono d2 hp tb;have M1:mv Pt G2:=Wz.mono (fun b o e h1=>q2 _ _ (sm _ _ e) h1) Uw;refine⟨_,rfl,n,rfl,by lia,by lia,fun D2 jA=>?_⟩;refine eN (n:=n) (lo:=0) (fun i ys σ H4=>(∃a,σ=[a,some (.int n),some (.ref l)])/\∃bs:List Addr,ys=bs.map V.ref/\(∀b∈bs,H b=none)/\Holds H4 bs i (fun h=>.lst (NV (bP n (zp zs) h)))/\kJ Pt G2 H4/\mv Pt H4/\H4 D2=some (.lst ys)/\∀b∈bs,b≠D2)
    ⟨⟨_,rfl⟩,[],rfl,(fun _ h=>nomatch h),Holds.nil,kJ.of (ai jA),M1.same (ai jA),ae,(fun _ h=>nomatch h)⟩ ?_ ?_
   .rintro i ys σ H4 Kt Kf hi ⟨⟨a,rfl⟩,bs,rfl,WE,hb,wn,Pc,AV,WF⟩ kt kf;have TT4:g8 H4 l n zs:=TT2.mono (p:=p) (fun b o e _ h2=>wn _ _ e h2) M0 M1;have Pd:=wn _ _ M0 (M1.not M0 (by intro ps z;cases z));refine⟨_,rfl,_,rfl,_,rfl,n,l,i,zs,by rw[gv];rfl,hi,TT4,Pc,fun r H5 t5 wS yb hr5=>?_⟩;have WG:H r=none:=nq.free (fun b o e h1 h2=>wn _ _ (d2 _ _ e h1 h2) h2) (lh Pd) Pc yb;have Ux:H5 D2=some (.lst (bs.map V.ref)):=wS _ _ AV (Pc.not AV (by intro ps z;cases z));have RB:r≠D2:=by rintro rfl;rw[AV] at yb;cases yb
    have lC:∀b o tH,H5 b=some o->b≠D2->(upd H5 D2 tH) b=some o:=fun b o tH e h=>by rw[ao h];exact e
    refine kt _ _ _ Ux (by rw[aR,hb.1];exact br hi (ba n2 (by decide))) ⟨⟨_,rfl⟩,bs++[r],by rw[di];rfl,?_,?_,?_,?_,ae,?_⟩
    .intro b tG;rcases cw.mp tG with z|z
     .exact WE b z
     .rw[cU.mp z];exact WG
    .refine Holds.snoc (hb.mono fun j hj e=>?_) (lC _ _ _ hr5 RB);refine lC _ _ _ (wS _ _ e (Pc.not e (by intro ps z;cases z))) (WF _ ?_);rw[bY,cg (by rw[hb.1];exact hj)];exact ik _
    .intro b o e h;exact lC _ _ _ (wS _ _ (wn _ _ e h) h) (am e jA)
    .rcases t5 with z|⟨c,z,y⟩
     .exact .inl (lC _ _ _ z (gn z Ux (by intro q;cases q)))
     .exact .inr ⟨c,lC _ _ _ z (gn z Ux (by intro q;cases q)),lC _ _ _ y (gn y Ux (by intro q;cases q))⟩
    .intro b tG;rcases cw.mp tG with z|z
     .exact WF b z
     .rw[cU.mp z];exact RB
   .rintro ys σ H4 ⟨_,bs,rfl,WE,hb,wn,Pc,AV,WF⟩;have Pd:H4 p=some (.ins C dx (dW "tie_list" (.ref tl) (dW "house_count" (.int n) []))):=wn _ _ M0 (M1.not M0 (by intro ps z;cases z));have WI:H D2=none:=d2.free (lh M0) M1 jA;refine⟨_,rfl,p,C,dx,_,rfl,Pd,T.cl,T.nO,by have h1:=eL "tie_list" (V.ref tl) (dW "house_count" (V.int n) []);have h2:=eL "house_count" (V.int n) [];simp at h2;lia,?_⟩
    let G3:Hp:=upd H4 p (.ins C dx (dW "out_lists" (.ref D2) (dW "tie_list" (.ref tl) (dW "house_count" (.int n) []))))
    have q3:∀b o,H4 b=some o->b≠p->G3 b=some o:=fun b o e h1=>by show upd _ _ _ _=_;rw[ao h1];exact e
    have M2:G3 p=some (.ins C dx (dW "out_lists" (.ref D2) (dW "tie_list" (.ref tl) (dW "house_count" (.int n) [])))):=ae;have d3:nq p Pt H G3:=fun b o e h1 h2=>q3 _ _ (wn _ _ (d2 _ _ e h1 h2) h2) h1;have WJ:mv Pt G3:=Pc.mono q3 Pd;have hb3:Holds G3 bs n (fun h=>.lst (NV (bP n (zp zs) h))):=hb.mono fun j hj e=>q3 _ _ e (gn e Pd (by intro z;cases z));have WK:G3 D2=some (.lst (bs.map V.ref)):=q3 _ _ AV (gn AV Pd (by intro z;cases z));have O3:sq G3 D2 n (zp zs):=⟨bs,WK,hb3⟩
    refine⟨_,rfl,n,rfl,by lia,by lia,fun D3 M3=>?_⟩;refine eN (n:=n) (lo:=0) (fun i ys σ H6=>(∃a,σ=[a,some (.ref p)])/\∃ds:List Addr,ys=ds.map V.ref/\(∀b∈ds,H b=none)/\Holds H6 ds i (fun s=>.lst (NV ((List.range n).map (far (zp zs) s))))/\aL G3 H6/\H6 D3=some (.lst ys)/\∀b∈ds,b≠D3)
     ⟨⟨_,rfl⟩,[],rfl,(fun _ h=>nomatch h),Holds.nil,ai M3,ae,(fun _ h=>nomatch h)⟩ ?_ ?_
    .rintro i ys σ H6 Kt Kf hi ⟨⟨a,rfl⟩,ds,rfl,WL,hd,Jt,M4,Qd⟩ kt kf;refine⟨_,rfl,p,C,dx,_,_,rfl,Jt _ _ M2,T.cl,T.nO,by rw[bH,ak rfl],_,rfl,D2,n,i,zp zs,by rw[gv];rfl,fi,hi,O3.same Jt,fun r H7 WM M5 hr7=>?_⟩;have e7D:H7 D3=some (.lst (ds.map V.ref)):=WM _ _ M4;have RB:r≠D3:=by rintro rfl;rw[M4] at M5;cases M5
     have WG:H r=none:=nq.free (fun b o e h1 h2=>Jt _ _ (d3 _ _ e h1 h2)) (lh (Jt _ _ M2)) (WJ.same Jt) M5;have lC:∀b o tH,H7 b=some o->b≠D3->(upd H7 D3 tH) b=some o:=fun b o tH e h=>by rw[ao h];exact e
     refine kt _ _ _ e7D (by rw[aR,hd.1];exact br hi (ba n2 (by decide))) ⟨⟨_,rfl⟩,ds++[r],by rw[di];rfl,?_,?_,?_,ae,?_⟩
     .intro b tG;rcases cw.mp tG with z|z
      .exact WL b z
      .rw[cU.mp z];exact WG
     .refine Holds.snoc (hd.mono fun j hj e=>?_) (lC _ _ _ hr7 RB);refine lC _ _ _ (WM _ _ e) (Qd _ ?_);rw[bY,cg (by rw[hd.1];exact hj)];exact ik _
     .intro b o e;exact lC _ _ _ (WM _ _ (Jt _ _ e)) (am e M3)
     .intro b tG;rcases cw.mp tG with z|z
      .exact Qd b z
      .rw[cU.mp z];exact RB
    .rintro ys σ H6 ⟨_,ds,rfl,WL,hd,Jt,M4,Qd⟩;have RC:=Jt _ _ M2;refine⟨_,rfl,p,C,dx,_,rfl,RC,T.cl,T.nD,by have h1:=eL "tie_list" (V.ref tl) (dW "house_count" (V.int n) []);have h2:=eL "house_count" (V.int n) [];have h3:=eL "out_lists" (V.ref D2) (dW "tie_list" (V.ref tl) (dW "house_count" (V.int n) []));simp at h2;lia,?_⟩;have q4:∀b o u,H6 b=some o->b≠p->(upd H6 p u) b=some o:=fun b o u e h1=>by rw[ao h1];exact e
     refine⟨_,rfl,p,C,dx,_,_,rfl,ae,T.cl,T.nD,by rw[bH,ak rfl],D3,ds,n,fun s=>NV ((List.range n).map (far (zp zs) s)),rfl,q4 _ _ _ M4 (gn M4 RC (by intro z;cases z)),n2,hd.mono fun j hj e=>q4 _ _ _ e (gn e RC (by intro z;cases z)),fun j hj x hx=>?_,fun H8 s8=>?_⟩
     .obtain⟨y,hy,rfl⟩:=bB.mp hx;exact⟨_,rfl⟩
     .have up:∀b o,G3 b=some o->b≠p->H8 b=some o:=fun b o e h1=>s8 _ _ (q4 _ _ _ (Jt _ _ e) h1);have WN:H D3=none:=d3.free (lh M2) WJ M3;have upT:∀b o,G2 b=some o->b≠p->b≠Pt->H8 b=some o:=fun b o e h1 h2=>up _ _ (q3 _ _ (wn _ _ e h2) h1) h1;refine k H8 ⟨fi,dx,tl,D2,D3,s8 _ _ ae,WI,WN,⟨bs,up _ _ WK (gn WK M2 (by intro z;cases z)),WE,hb3.mono fun j hj e=>up _ _ e (gn e M2 (by intro z;cases z))⟩,
       ⟨ds,s8 _ _ (q4 _ _ _ M4 (gn M4 RC (by intro z;cases z))),WL,hd.mono fun j hj e=>s8 _ _ (q4 _ _ _ e (gn e RC (by intro z;cases z)))⟩,
       ⟨WB,Lh,upT _ _ g2t MZ.symm (M1.not g2t (by intro ps z;cases z)),fun z hz=>upT _ _ (WD z hz) (gn (WD z hz) M0 (by intro z;cases z)) (M1.not (WD z hz) (by intro ps z;cases z)),HJ,((show (zp Lh).Perm (zp wU) from pm.map _).trans (j6 ez)),nK⟩⟩ ?_ fun b o e h1 h2=>up _ _ (d3 _ _ e h1 h2) h1
      exact WJ.mono up M2
end
theorem iR:NV xs++[.int (x:Int)]=NV (xs++[x]):=by unfold NV;rw[di];rfl
theorem p7{xs:List Nat}{i:Nat}{x:V}(h:(NV xs)[i]?=some x):∃y,xs[i]?=some y/\x=.int (y:Int):=by
 unfold NV at h;rw[bZ] at h;cases e:xs[i]? with
 |none=>rw[e] at h;cases h
 |some z=>rw[e] at h;exact⟨z,rfl,(bN h).symm⟩
end p6
namespace L2
open PySem PySem.Spec PyProof.Rows
section
variable {X:Cx}
def EqD(X:Cx)(H:Hp)(d:Nat)(x y:V):Prop:=∀ (af:List (Addr×Obj)) (s:Shared) (σ:St) (A:Around) (u v:Value),aS X af σ H s->A.units+d<cLine->bR x u->bR y v->SeqAt.EqAt A s u v true
theorem DX(I:aS X af σ H s)(hu:A.units+d<cLine)(rx:a8 xs us)(ry:a8 ys vs)(he:∀i,i<xs.length->i<ys.length->EqD X H d (xs.getD i .cE) (ys.getD i .cE)):∀j (h1:j<us.toArray.size) (h2:j<vs.toArray.size),SeqAt.EqAt A s us.toArray[j] vs.toArray[j] true:=by
 intro j h1 h2;have j1:j<xs.length:=by rw[rx.length];simpa using h1
 have j2:j<ys.length:=by rw[ry.length];simpa using h2
 have e1:xs[j]?=some (xs.getD j .cE):=by rw[bY,cg j1];rfl
 have e2:ys[j]?=some (ys.getD j .cE):=by rw[bY,cg j2];rfl
 obtain⟨u,Wi,ru⟩:=rx.get e1;obtain⟨v,My,rv⟩:=ry.get e2;have eu:us.toArray[j]=u:=by
  have:us[j]?=some us.toArray[j]:=by simp at h1 |-
  rw[Wi] at this;exact(bN this).symm
 have ev:vs.toArray[j]=v:=by
  have:vs[j]?=some vs.toArray[j]:=by simp at h2 |-
  rw[My] at this;exact(bN this).symm
 rw[eu,ev];exact he j j1 j2 af s σ A u v I hu ru rv
theorem Gg:(List.range n).all (fun _=>true)=true:=lz.mpr fun _ _=>rfl
def RD(X:Cx)(Ql:Bool)(d:Nat):R2:=fun x y H Q=>∃p q xs ys,x=.ref p/\y=.ref q/\a9 X.K H p xs/\a9 X.K H q ys/\xs.length=ys.length/\(∀i,i<xs.length->i<ys.length->EqD X H d (xs.getD i .cE) (ys.getD i .cE))/\Q (.bl (!Ql)) H
theorem Ju{d:Nat}(hu:X.A.units+(d+1)<cLine):mq X (compareOp .NotEq) (RD X true d):=by
 intro af s σ H x y v u Q I rx ry h;obtain⟨p,q,xs,ys,rfl,rfl,hp,hq,hl,he,k⟩:=h;obtain rfl:v=Value.ref p:=rx;obtain rfl:u=Value.ref q:=ry;obtain⟨us,r1,p1,_⟩:=I.list hp;obtain⟨vs,r2,p2,_⟩:=I.list hq;refine SeqAt.RcNeAt.lists (e:=fun _=>true) p1.isList p2.isList (by simp only[cJ];rw[<-r1.length,<-r2.length];exact hl) (by lia) (DX I (by show X.A.units+1+d<cLine;lia) r1 r2 he) _ _ _ _ ⟨.bl _,H,I,rfl,?_⟩;rw[Gg];exact k
end
end L2
namespace p6
open PySem L2 je
section
variable {P:Program} {w:World} {K:PySem.W.Frag} {mg:Str->Option Value} {base:Heap}
end
end p6
namespace L2
open PySem PySem.Spec PyProof.Rows
def sr(P:Program)(w:World)(h:Heap)(vs:List Value)(ps:List (List h_×Addr×Value)):Prop:=vs.length=ps.length/\∀ (i:Nat) (v:Value),vs[i]?=some v->∃ (a:Addr) (o:Obj) (n:Nat) (b:Addr) (k:List h_) (x:Value),v=Value.ref a/\h.get? a=some o/\o.cls=.type "tuple"/\o.data=.seq #[.ref b,x] n/\(tupleKind (cp P w)).is h k b/\ps[i]?=some (k,b,x)
theorem yc(x:(tupleKind (cp P w)).is h k b)(q:∀b o,(∃xs n,o.data=.seq xs n)->h.get? b=some o->h'.get? b=some o):(tupleKind (cp P w)).is h' k b:=by
 obtain⟨o,its,n,h1,h2,h3,h4⟩:=x;exact⟨o,its,n,q _ _ ⟨_,_,h3⟩ h1,h2,h3,h4⟩
theorem sr.keeps(x:sr P w h vs ps)(k:∀b o,(∃xs n,o.data=.seq xs n)->h.get? b=some o->h'.get? b=some o):sr P w h' vs ps:=
 ⟨x.1,fun i v hv=>let ⟨a,o,n,b,kk,y,e1,e2,e3,e4,e5,e6⟩:=x.2 i v hv;⟨a,o,n,b,kk,y,e1,k a o ⟨_,_,e4⟩ e2,e3,e4,yc e5 k,e6⟩⟩
theorem su{P:Program}{w:World}{h h':Heap}{d:Addr}{xs:List (List h_×Addr×Value)}(x:h.DictOfH (tupleKind (cp P w)) d xs)(kd:∀o,h.get? d=some o->h'.get? d=some o)(q:∀b o,(∃xs n,o.data=.seq xs n)->h.get? b=some o->h'.get? b=some o):h'.DictOfH (tupleKind (cp P w)) d xs:=by
 obtain⟨o,es,ep,h1,h2,h3,h4,h5,h6⟩:=x;exact⟨o,es,ep,kd _ h1,h2,h3,h4,fun y hy=>yc (h5 y hy) q,h6⟩
section
variable {prog:Program} {w:World} {A:Around} {E:Value->Shared->Prop} {s:Shared} {R:Result->Shared->Prop} {l d Ia:Addr}
theorem AW{vs:List Value}{ps:List (List h_×Addr×Value)}(hh:A.handled=none)(hu:A.units+4<cLine)(hlD:l≠d)(VH:l≠Ia)(WP:d≠Ia):
  ∀ (k i:Nat) (j:Int) (t:Tok) (s:Shared) (dk:List (List h_×Addr×Value)),vs.length-i=k->i<=vs.length->s.heap.IsListIter Ia l i->s.heap.IsList l vs.toArray->sr prog w s.heap vs ps->s.heap.DictOfH (tupleKind (cp prog w)) d dk->dk.length+k<=4096->
   (∀h' tk,(∀b o,b≠d->b≠Ia->s.heap.get? b=some o->h'.get? b=some o)->h'.DictOfH (tupleKind (cp prog w)) d ((ps.drop i).foldl (fun m p=>storedH m p.1 p.2.1 p.2.2) dk)->R (.ok (.ret .none)) { s with heap:=h',toks:=tk })->
   codeAny (model prog w) A (.builtin "dict.update.loop" ⟨[.ref d,.ref Ia,.int j t,.none],[]⟩) R s:=by
 intro k;induction k with
 |zero=>
  intro i j t s dk hk hi wT hl hp hD hz hR;refine j8 pV ?_;rw[og iO _];show wpAny _ A.in1 (pyNext (.ref Ia) >>= _) _ _ s;refine aA (zm (show A.in1.handled=none from hh) wT hl (by simp;lia) fun h' eb=>?_);have hd:ps.drop i=[]:=by rw[List.drop_eq_nil_iff];have:=hp.1;lia
  have hR':=hR h' s.toks (fun b o hb IC e=>eb b o IC e);rw[hd] at hR';refine aA (wpAny_pure (wpAny_pure (hR' ?_)));refine su hD (fun o e=>eb d o WP e) fun b o hb e=>eb b o (fun z=>?_) e;obtain⟨oi,e1,_,d1⟩:=wT;obtain⟨xs,m,hb⟩:=hb;rw[z,e1] at e;cases e;rw[d1] at hb;cases hb
 |succ k ih=>
  intro i j t s dk hk hi wT hl hp hD hz hR;have d9:i<vs.length:=by lia
  refine j8 pV ?_;rw[og iO _];show wpAny _ A.in1 (pyNext (.ref Ia) >>= _) _ _ s;have hv:vs[i]?=some vs[i]:=cg d9;refine aA (zf wT hl (x:=vs[i]) (by simpa using hv) fun h1 Mg qf=>?_);have Uf:∀b ob,(∃xs n,ob.data=.seq xs n)->s.heap.get? b=some ob->b≠Ia:=fun b ob ⟨xs,m,z⟩ e z'=>by
   obtain⟨oi,e1,_,d1⟩:=wT;rw[z',e1] at e;cases e;rw[d1] at z;cases z
  have k1:∀b ob,(∃xs n,ob.data=.seq xs n)->s.heap.get? b=some ob->h1.get? b=some ob:=fun b ob hb e=>(qf.2 b (Uf b ob hb e)).trans e;have mr:sr prog w h1 vs ps:=hp.keeps k1;have AX:h1.DictOfH (tupleKind (cp prog w)) d dk:=su hD (fun o e=>(qf.2 d WP).trans e) k1;have Dp:h1.IsList l vs.toArray:=by
   obtain⟨ol,q1,q2⟩:=hl;exact⟨ol,(qf.2 l VH).trans q1,q2⟩
  obtain⟨a,o,n,b,kk,x,ea,Qz,ec,ed,ek,ep⟩:=mr.2 i _ hv;rw[ea];have neD:∀b ob,(∃xs n,ob.data=.seq xs n)->h1.get? b=some ob->b≠d:=fun b ob ⟨xs,m,z⟩ e z'=>by
   obtain⟨oS,es,PU,q1,_,q4,_⟩:=AX;rw[z',q1] at e;cases e;rw[q4] at z;cases z
  have hT:Shared.TypeIs { s with heap:=h1 } (.ref a) "tuple":=⟨o,Qz,ec⟩
  refine aA (hJ ?_);show wpAny _ A.in1 (Sem.tryCatch (Builtin.Dict.pairItems (.ref a)) _ >>= _) _ _ _;refine aA (wpAny_tryCatch ?_);unfold Builtin.Dict.pairItems;refine aA (wpAny_typeOf hT ?_);rw[ak (by decide)];refine aA (jH Qz ed (wpAny_pure ?_));show wpAny _ A.in1 (holding [.ref b,x] (dictSet d (.ref b) x)) _ _ _;refine hJ (wpAny_dictSet_heap (s:={ s with heap:=h1 }) (show A.in1.units<cLine from by show A.units+1<cLine;lia) ek AX (fun h2 jA mL=>?_) (ba (by lia:dk.length<=4096) (by decide)));refine wpAny_pure ⟨rj iO _,?_⟩;have Ah:i<ps.length:=by have:=hp.1;lia
  have VJ:ps.drop i=(kk,b,x)::ps.drop (i+1):=by
   rw[nN Ah];have:ps[i]?=some ps[i]:=cg Ah;rw[this] at ep;rw[bN ep]
  have eX:(storedH dk kk b x).length<=dk.length+1:=by
   unfold storedH;split
   .rw[aR];lia
   .rw[df];simp
  have k2:∀b ob,(∃xs n,ob.data=.seq xs n)->h1.get? b=some ob->h2.get? b=some ob:=fun b ob hb e=>(mL.2 b (neD b ob hb e)).trans e;refine ih (i+1) _ _ { s with heap:=h2,toks:=_ } (storedH dk kk b x) (by lia) d9 ?_ ?_ (mr.keeps k2) jA (by lia) fun h3 VL k3 D3=>?_
  .obtain⟨oi,q1,q2⟩:=Mg;exact⟨oi,(mL.2 Ia (dA WP)).trans q1,q2⟩
  .obtain⟨ol,q1,q2⟩:=Dp;exact⟨ol,(mL.2 l hlD).trans q1,q2⟩
  .refine hR h3 VL (fun b ob hb IC e=>k3 b ob hb IC ((mL.2 b hb).trans ((qf.2 b IC).trans e))) ?_;rw[VJ];exact D3
end
section
variable {prog:Program} {w:World} {A:Around} {E:Value->Shared->Prop} {s:Shared} {l:Addr}
theorem M6(h:Heap):(h.push { cls:=.type "dict",data:=.dict #[] }).DictOfH (tupleKind (cp P w)) h.objs.size []:=
 ⟨_,#[],0,cB _ rfl,⟨rfl,rfl,rfl⟩,rfl,rfl,(fun x hx=>nomatch hx),jl⟩
theorem AY(hh:A.handled=none)(hu:A.units+8<cLine)(hl:s.heap.get? l=some { cls:=.type "list",data:=.seq vs.toArray n })(hp:sr prog w s.heap vs ps)(hz:vs.length<=4096)(h:∀h' tk,h'.DictOfH (tupleKind (cp prog w)) s.heap.objs.size (ps.foldl (fun m p=>storedH m p.1 p.2.1 p.2.2) [])->(∀b o,s.heap.get? b=some o->h'.get? b=some o)->Q (.ref s.heap.objs.size) { s with heap:=h',toks:=tk }):
  wpAny (model prog w) A (call (.type "dict") [.ref l]) Q E s:=by
 refine callType_codes (Q₁:=fun obj s₁=>obj=.ref s.heap.objs.size/\s₁={ s with heap:=s.heap.push { cls:=.type "dict",data:=.dict #[] } }) F.kt_called_dict (F.kt_typeCall_dict_1 _) F.entry_dict_init (kt_code_dict_new _ ⟨rfl,rfl⟩) ?_;rintro obj s₁ ⟨rfl,rfl⟩;have Li:(s.heap.push { cls:=.type "dict",data:=.dict #[] }).DictOf (cp prog w) s.heap.objs.size []:=Heap.DictOf.new s.heap;have rG:(s.heap.push { cls:=.type "dict",data:=.dict #[] }).DictOfH (tupleKind (cp prog w)) s.heap.objs.size []:=M6 s.heap;have ir:(s.heap.push { cls:=.type "dict",data:=.dict #[] }).objs.size=s.heap.objs.size+1:=im ..;have up:∀b o,s.heap.get? b=some o->(s.heap.push { cls:=.type "dict",data:=.dict #[] }).get? b=some o:=fun b o e=>bL _ e;have d9:l<s.heap.objs.size:=aT hl;refine⟨Li.typeIs,F.args_dict_init_2 _ _,?_⟩;generalize (s.heap.push { cls:=.type "dict",data:=.dict #[] })=hD at *;have hT:Shared.TypeIs { s with heap:=hD } (.ref l) "list":=⟨_,up _ _ hl,rfl⟩
 unfold Builtin.«dict.__init__»;refine aA ?_;unfold Builtin.Dict.selfAndRest;refine aA (wpAny_notOrdered_dict Li.typeIs (wpAny_pure ?_));show wpAny _ _ (Builtin.Dict.updateFrom "dict.__init__" s.heap.objs.size (.ref l) [] .none) _ _ _;unfold Builtin.Dict.updateFrom;refine aA (wpAny_typeOf hT ?_);rw[ak (by decide)];refine aA (Mr (s:={ s with heap:=hD }) (show A.in1.handled=none from hh) (up _ _ hl) fun h1 tk1 k1=>?_);have Dp:h1.get? l=some { cls:=.type "list",data:=.seq vs.toArray n }:=k1 _ _ (up _ _ hl);have tS:h1.IsList l vs.toArray:=⟨_,Dp,rfl,n,rfl⟩
 rw[ak (by rfl)];refine aA (fU ?_);refine aA (q8 (s:={ s with heap:=h1,toks:=tk1 }) tS ?_);have WQ:s.heap.objs.size<h1.objs.size:=by
  obtain⟨o,es,ep,q1,q2⟩:=rG;exact aT (k1 _ _ q1)
 refine wpAny_pure ⟨rj iO _,?_⟩;refine AW (l:=l) (vs:=vs) (ps:=ps) (Ia:=h1.objs.size) (show A.in1.handled=none from hh) (show A.units+1+4<cLine by lia) (aW d9) (aW (oG d9 WQ)) (aW WQ) vs.length 0 0 0 _ [] (by simp) (cx _) ⟨_,cB _ rfl,rfl,rfl⟩ ?_ ?_ ?_ (by simpa using hz) fun h2 AZ k2 D2=>?_
 .exact⟨_,bL _ Dp,rfl,n,rfl⟩
 .exact hp.keeps fun b o _ e=>bL _ (k1 _ _ (up _ _ e))
 .exact su rG (fun o e=>bL _ (k1 _ _ e)) fun b o _ e=>bL _ (k1 _ _ e)
 .refine⟨rfl,h h2 AZ D2 fun b o e=>k2 b o (aW (aT e)) (aW (oG (aT e) WQ)) (bL _ (k1 _ _ (up _ _ e)))⟩
end
abbrev TK:=List h_×Addr×V
def dI(m:List (List h_×V))(ps:List TK):List (List h_×V):=ps.foldl (fun m p=>rN m p.1 p.2.2) m
inductive KP (H:Hp):List TK->List (List h_×Addr×Value)->Prop where
 |nil:KP H [] []
 |cons {k:List h_} {b:Addr} {v:V} {u:Value} {ps:List TK} {us:List (List h_×Addr×Value)} (hb:H b=some (.tup (k.map kV))) (r:bR v u) (t:KP H ps us):KP H ((k,b,v)::ps) ((k,b,u)::us)
theorem KP.fold:∀ {ps:List TK} {us:List (List h_×Addr×Value)} {m:List (List h_×V)} {m':List (List h_×Addr×Value)},KP H ps us->KT H m m'->KT H (dI m ps) (us.foldl (fun m p=>storedH m p.1 p.2.1 p.2.2) m')
 |[],_,_,_,.nil,r=>r
 |(k,b,v)::ps,_,m,m',.cons (us:=us) hb rv t,r=>by
  have:=KP.fold (ps:=ps) (us:=us) t (r.put k hb rv);exact this
theorem p8:∀ (ps:List TK) (m:List (List h_×V)),(dI m ps).length<=m.length+ps.length
 |[],m=>by show m.length<=_;simp
 |p::ps,m=>by
  have h1:=p8 ps (rN m p.1 p.2.2);have h2:=xF m p.1 p.2.2;show (dI (rN m p.1 p.2.2) ps).length<=_;rw[eF];lia
theorem yd(ok:lX P w H h):∀ (ts:List Addr) (ps:List TK),ts.length=ps.length->(∀i,i<ps.length->∃k b v,ps[i]?=some (k,b,v)/\H (ts.getD i 0)=some (.tup [.ref b,v])/\H b=some (.tup (k.map kV)))->
  ∃us:List (List h_×Addr×Value),KP H ps us/\sr P w h (ts.map Value.ref) us
 |[],[],_,_=>⟨[],.nil,rfl,fun i v hv=>by simp at hv⟩
 |[],_::_,e,_=>by simp at e
 |_::_,[],e,_=>by simp at e
 |t::ts,(k,b,v)::ps,e,hs=>by
  obtain⟨us,r,T⟩:=yd ok ts ps (by simpa using e) fun i hi=>by
   obtain⟨k',b',v',h1,h2,h3⟩:=hs (i+1) (by simp;lia);exact⟨k',b',v',by simpa using h1,by simpa using h2,h3⟩
  obtain⟨k0,b0,v0,g1,g2,g3⟩:=hs 0 (by simp);have g1':(k,b,v)=(k0,b0,v0):=by simpa using g1
  cases g1';have g2':H t=some (.tup [.ref b,v]):=by simpa using g2
  obtain⟨_,its,rv,o,q1,q2,n,q3⟩:=ok t _ g2';cases rv with
  |cons ra rr=>
   cases rr with
   |cons rb rr2=>
    cases rr2;rename_i ka vb;obtain rfl:ka=Value.ref b:=ra;refine⟨(k,b,vb)::us,.cons g3 rb r,by simp[T.1],fun i x hx=>?_⟩;cases i with
    |zero=>
     have vG:Value.ref t=x:=by simpa using hx
     exact⟨t,o,n,b,k,vb,vG.symm,q1,q2,q3.1,pz ok g3,rfl⟩
    |succ i=>exact T.2 i x (by simpa using hx)
section
variable {X:Cx}
def M7:List V->Hp->VK->Prop:=fun xs H Q=>∃ (l:Addr) (ts:List Addr) (ps:List TK),xs=[.ref l]/\H l=some (.lst (ts.map V.ref))/\ts.length=ps.length/\(∀i,i<ps.length->∃k b v,ps[i]?=some (k,b,v)/\H (ts.getD i 0)=some (.tup [.ref b,v])/\H b=some (.tup (k.map kV)))/\ps.length<=4096/\
 ∀D,H D=none->Q (.ref D) (upd H D (.dT (dI [] ps)))
theorem A0(hc:X.calm=true)(hu:X.A.units+8<cLine):fj X (.type "dict") M7:=by
 intro af s σ H xs us Q I r h;obtain⟨l,ts,ps,rfl,hl,eX,ht,hz,q⟩:=h;obtain⟨u1,rfl,r1⟩:=r.one;obtain rfl:u1=Value.ref l:=r1;obtain⟨z,its,n,rv,_,e⟩:=I.vQ hl;have Ao:its=ts.map Value.ref:=v1 rv;subst Ao;obtain⟨vs,kv,T⟩:=yd I.cz ts ps eX ht;refine AY (I.ok.hd hc) hu e T (by rw[aR,eX];exact hz) fun h' tk D k=>?_;have hs:sysModules<s.heap.objs.size:=oG (by decide:sysModules<mainGlobals) (I.mod.glob.keeps I.bk).lt;have nf:=I.cz.fresh (aU s.heap.objs.size);have I2:aS X af σ (upd H s.heap.objs.size (.dT (dI [] ps))) { s with heap:=h',toks:=tk }:=by
  obtain⟨o,es,ep,h1,h2,h3,h4,_,h6⟩:=D;refine I.BM (t':=tk) k (qU (aU _)) ⟨?_,?_,_,KT.keeps (KP.fold kv .nil) fun b ys eb=>?_,o,es,ep,h1,h2,h3,h4,h6⟩
  .have:=p8 ps [];exact ba this (ba (by simpa using hz) (by decide:4096<=sizeLine))
  .rw[lL];exact fA hs
  .rw[ao (am eb nf)];exact eb
 exact⟨.ref s.heap.objs.size,_,I2,rfl,q _ nf⟩
end
structure RE(K:PySem.W.Frag)(C:Addr):Prop where
 makes:PySem.W.makesIn K C=true
 init:PySem.W.findIn K (.ref C) "__init__"=some (some (.builtin "object.__init__"))
 keep:PySem.W.keepIn K (.ref C)=true
section
variable {X:Cx} {C:Addr} {x:Str} {p pos:Pos}
def WR(C:Addr):TE:=fun _ H Q=>∀y dx,H y=none->H dx=none->dx≠y->Q (.ref y) (upd (upd H dx (.own y)) y (.ins C dx []))
theorem wo(M:RE X.K C)(hg:Gl X x)(hm:X.mg x=some (.ref C))(Dc:(x==("__debug__":Str))=false:=by decide):PE X (.Call (.Name x p) [] [] pos) (WR C):=by
 intro af s σ H Q I h;refine lN (qw I hg hm ?_ Dc);have I2:=aS.made (C:=C) I;have d7:wpAny (model X.prog X.w) X.A (call (.ref C) []) (EP X af σ Q) X.xe s:=by
  refine oO ?_;refine Da I.my M.makes M.init (fun self=>PySem.W.Looks.of_pure (PySem.W.oi_bind self)) ?_;have Y:=zB (M:=model X.prog X.w) I.my M.makes;have t1:PySem.W.Looks (model X.prog X.w) ((s.heap.push PySem.W.emptyDict).push (PySem.W.instObj C s.heap.objs.size)) (typeOf (.ref (s.heap.objs.size+1))) (.ref C):=(PySem.W.Looks.ld (by heap_get)).andThen .now;have t2:PySem.W.Looks (model X.prog X.w) ((s.heap.push PySem.W.emptyDict).push (PySem.W.instObj C s.heap.objs.size)) (isInstance (.ref (s.heap.objs.size+1)) (.type "object")) true:=t1.andThen (Y.top.keeps fun b o e=>bL _ (bL _ e));refine u_ PySem.W.oi_plain PySem.W.entry_oi (@PySem.W.check_slot (model X.prog X.w) _ _ _ "object.__init__" "object" "__init__" (.ref (s.heap.objs.size+1)) [] [] _ PySem.W.oi_kind PySem.W.oi_split t2 (PySem.W.oi_args (.ref (s.heap.objs.size+1))) ?_);rw[PySem.W.oi_run];refine wpAny_pure (And.intro rfl ?_);exact⟨.ref (s.heap.objs.size+1),_,I2,rfl,h _ _ (I.cz.fresh (vA _)) (I.cz.fresh (aU _)) (aW (jk _))⟩
 exact PySem.W.callWith_K0 I.my M.keep d7
end
section
variable {X:Cx}
end
end L2
namespace je
abbrev e_(ts:Ts)(h:Int):Nat:=(ts.filter fun t=>decide (t.1=h)).length
theorem Cp:e_ (ts++us) h=e_ ts h+e_ us h:=by unfold e_;rw[gh,df]
theorem wq:e_ [(a,b),(b,a)] h=(if a=h then 1 else 0)+(if b=h then 1 else 0):=by
 unfold e_;by_cases c1:a=h <;> by_cases c2:b=h <;> simp[c1,c2]
theorem Cq:e_ (dE (ps++[(a,b)])) h=e_ (dE ps) h+((if a=h then 1 else 0)+(if b=h then 1 else 0)):=by
 rw[l_,Cp];exact congrArg _ wq
theorem Jv:dE [(a,b)]=[(a,b),(b,a)]:=rfl
theorem Jw(ha:a<n)(hb:b<n)(nI:a≠b):yN n [(ci a,ci b),(ci b,ci a)]:=by
 have ne:ci a≠ci b:=fun e=>nI (cK e);refine⟨?_,?_,?_,?_,?_⟩
 .rw[fN];refine⟨fun h=>?_,by simp⟩;have:=cU.mp h;exact ne (congrArg Prod.fst this)
 .intro t ht;rcases bn.mp ht with rfl|ht
  .exact⟨⟨by lia,by lia⟩,⟨by lia,by lia⟩⟩
  .rw[cU.mp ht];exact⟨⟨by lia,by lia⟩,⟨by lia,by lia⟩⟩
 .intro t ht;rcases bn.mp ht with rfl|ht
  .exact ne
  .rw[cU.mp ht];exact fun e=>ne e.symm
 .intro h;by_cases c1:ci a=h <;> by_cases c2:ci b=h <;> simp[c1,c2]
 .intro h;have:=wq (a:=ci a) (b:=ci b) (h:=h);show e_ [(ci a,ci b),(ci b,ci a)] h<=8;rw[this];split <;> split <;> lia
theorem b8.pair(F:b8 n (dE ps))(ha:a<n)(hb:b<n)(nI:a≠b)(h1:(ci a,ci b)∉ps)(h2:(ci b,ci a)∉ps)(d1:e_ (dE ps) (ci a)<=7)(d2:e_ (dE ps) (ci b)<=7):b8 n (dE (ps++[(ci a,ci b)])):=by
 rw[l_,Jv];have ne:ci a≠ci b:=fun e=>nI (cK e);refine F.app (qF F.pre (Jw ha hb nI) (fun t ht=>?_) fun h=>?_)
 .rcases bn.mp ht with rfl|ht
  .exact fun z=>(mX.mp z).elim h1 h2
  .rw[cU.mp ht];exact fun z=>(mX.mp z).elim h2 h1
 .show e_ (dE ps) h+e_ [(ci a,ci b),(ci b,ci a)] h<=8;rw[wq];have m:=F.most h;by_cases c1:ci a=h
  .subst c1;rw[ak rfl,av (fun e=>ne e.symm)];lia
  .by_cases c2:ci b=h
   .subst c2;rw[av c1,ak rfl];lia
   .rw[av c1,av c2];exact m
theorem Jx(P:yN n ts):yN n (ts.map tL):=by
 have fl:∀h:Int,((ts.map tL).filter fun t=>decide (t.1=h)).length=(ts.filter fun t=>decide (t.2=h)).length:=fun h=>by
  rw[oA,aR];rfl
 have fl2:∀h:Int,((ts.map tL).filter fun t=>decide (t.2=h)).length=(ts.filter fun t=>decide (t.1=h)).length:=fun h=>by
  rw[oA,aR];rfl
 refine⟨?_,fun t ht=>?_,fun t ht=>?_,fun h=>?_,fun h=>?_⟩
 .refine iK.mpr (P.nd.imp fun {x y} Aw e=>Aw ?_);have e1:=congrArg Prod.fst e;have e2:=congrArg Prod.snd e;exact gw e2 e1
 .obtain⟨u,hu,rfl⟩:=bB.mp ht;exact⟨(P.rg u hu).2,(P.rg u hu).1⟩
 .obtain⟨u,hu,rfl⟩:=bB.mp ht;exact fun e=>P.ne u hu e.symm
 .rw[fl,fl2,P.B8]
 .rw[fl,<-P.B8];exact P.most h
theorem M8(h:3<=m)(hk:k<m):pk m (pk m k)≠k:=by
 unfold pk;split <;> split <;> lia
theorem ye(n1:3<=n)(n2:n<=32)(pm:xs.Perm (List.range n)):b8 n (dE (tK xs)):=by
 have F:=uB (by lia) n2 pm;have nd:xs.Nodup:=pm.nodup_iff.mpr jW;have hl:xs.length=n:=by rw[pm.length_eq,cu]
 have lt:∀x∈xs,x<n:=fun x hx=>bK.mp (pm.mem_iff.mp hx);obtain⟨P,one⟩:=v_ nd lt (by lia);have Q:=Jx P;refine b8.perm ?_ iy;refine F.app (qF P Q (fun t ht hm=>?_) fun h=>?_)
 .obtain⟨u,hu,rfl⟩:=bB.mp ht;obtain⟨k,hk,rfl⟩:=mW hu;obtain⟨j,hj,e⟩:=mW hm;have e1:xs.getD k 0=xs.getD (pk xs.length j) 0:=cK (congrArg Prod.fst e);have e2:xs.getD (pk xs.length k) 0=xs.getD j 0:=cK (congrArg Prod.snd e);have pj:=uA hj;have pk':=uA hk;rw[cM hk,cM pj] at e1;rw[cM pk',cM hj] at e2;have i1:=jg nd hk pj e1;have i2:=jg nd pk' hj e2;rw[<-i2] at i1;exact M8 (by lia) hk i1.symm
 .have o1:=one h;have e:((tK xs).map tL).filter (fun t=>decide (t.1=h))=((tK xs).filter fun t=>decide (t.2=h)).map tL:=by rw[oA];rfl
  rw[e,aR,<-P.B8];lia
def mh(xs:List Nat):Ts:=(List.range xs.length).map fun k=>(ci (xs.getD k 0),ci (xs.getD ((k+1) % xs.length) 0))
theorem Gh:((List.range m).map fun k=>(k+1) % m).Perm (List.range m):=by
 cases m with
 |zero=>exact jG _
 |succ m=>
  rw[ja,di,List.map_singleton,Nat.mod_self];have e:(List.range m).map (fun k=>(k+1) % (m+1))=(List.range m).map (·+1):=jT fun k hk=>lx (by have:=bK.mp hk;lia);rw[e];refine i7.trans ?_;rw[<-ja,nW];exact jG _
theorem lj:(mh xs).Perm (tK xs):=by
 have h:=(Gh (m:=xs.length)).map fun k=>(ci (xs.getD (pk xs.length k) 0),ci (xs.getD k 0))
 rw[dQ] at h;refine List.Perm.trans (j6 ?_) h;unfold mh;refine jT fun k hk=>?_;have KY:=bK.mp hk;have:pk xs.length ((k+1) % xs.length)=k:=by
  by_cases c:k+1=xs.length
  .rw[c,Nat.mod_self];unfold pk;rw[ak rfl];lia
  .rw[lx (by lia)];unfold pk;rw[av (by lia)];lia
 show _=(ci (xs.getD (pk xs.length ((k+1) % xs.length)) 0),ci (xs.getD ((k+1) % xs.length) 0));rw[this]
theorem b8.round(F:b8 n ts)(nd:xs.Nodup)(lt:∀x∈xs,x<n)(c2:2<=xs.length)(hf:∀x∈xs,e_ ts (ci x)<=7)(hn:∀t∈mh xs,t∉ts):b8 n (ts++mh xs):=by
 have P:=DL F.pre nd lt c2 (fun t ht=>?_) (fun t ht=>hn t (lj.mem_iff.mpr ht))
 .exact(F.app P).perm (jR _ lj)
 .obtain⟨k,hk,rfl⟩:=mW ht;exact hf _ (lc (uA hk))
end je
namespace p6
open PySem L2 je
abbrev M9:Stmt:=top 39
abbrev Gi:Stmt:=top 40
abbrev Gj:Stmt:=top 52
structure M_(mg:Str->Option Value):Prop where
 abs:mg "abs"=none
 divmod:mg "divmod"=none
 dict:mg "dict"=none
 zip:mg "zip"=none
 repr:mg "repr"=none
def bf(H:Hp)(p:Addr):Prop:=∃a b:Int,H p=some (.lst [.int a,.int b])/\0<=a/\0<=b/\b<4294967296
theorem bf.same(h:bf H p)(s:aL H H'):bf H' p:=let ⟨a,b,e,r⟩:=h;⟨a,b,s _ _ e,r⟩
theorem bf.full(h:bf H p):H p≠none:=by obtain⟨a,b,e,_⟩:=h;rw[e];intro z;cases z
theorem bf.ne(h:bf H p)(e:H q=none):q≠p:=by rintro rfl;exact h.full e
theorem bf.put(h:bf H p)(n:p≠q):bf (upd H q o) p:=let ⟨a,b,e,r⟩:=h;⟨a,b,by rw[ao n];exact e,r⟩
theorem bf.neT(h:bf H p)(e:H q=some (.tup xs)):q≠p:=by rintro rfl;obtain⟨a,b,z,_⟩:=h;rw[e] at z;cases z
theorem PO.nr(h:PO H zs)(s:aN p H H')(hp:bf H p):PO H' zs:=fun z hz=>s _ _ (h z hz) (hp.neT (h z hz))
theorem RH{j:Int}(h1:0<j)(h2:j<2 ^ 200):Nat.log2 j.natAbs<200:=(Nat.log2_lt (by lia)).mpr (by lia)
theorem Gk{X:Cx}:mq X (binaryOp .FloorDiv) (rI (fun _ j=>0<j/\j<2 ^ 200) fun i j=>.int (i / j)):=Qa fun i j _ _ _ _ _ hc q=>by
 have h1:(0:Int)<j:=hc.1;have h2:j<2 ^ 200:=hc.2;refine PyProof.Rows.floordiv_int (by lia) (by rw[yR i (by lia)];exact q) (.inl (EH ?_));exact oG (RH h1 h2) (by decide)
theorem wr{X:Cx}:fj X (.builtin "divmod") (fun xs H Q=>∃i j,xs=[.int i,.int j]/\(0<j/\j<2 ^ 200)/\∀p,H p=none->Q (.ref p) (upd H p (.tup [.int (i / j),.int (i % j)]))):=by
 intro af s σ H xs us Q I r h;obtain⟨i,j,rfl,⟨h1,h2⟩,q⟩:=h;obtain⟨u,w',rfl,⟨t,rfl⟩,⟨t',rfl⟩⟩:=EX r;refine PyProof.Rows.divmod_int (by lia) ?_ (.inl (EH (oG (RH h1 h2) (by decide))));rw[yR i (by lia),yQ i (by lia)];have hn:H s.heap.objs.size=none:=I.cz.fresh (aU _);refine⟨.ref s.heap.objs.size,_,?_,rfl,q _ hn⟩;refine I.laid (fun b o e=>bL _ e) (aU _) ⟨by simp only[eF,List.length_nil];rw[gJ];decide,[.int (i / j) s.toks,.int (i % j) (s.toks+1)],.cons ⟨_,rfl⟩ (.cons ⟨_,rfl⟩ .nil),?_⟩;exact⟨_,cB s.heap rfl,rfl,0,rfl,rfl⟩
section
variable {P:Program} {w:World} {K:PySem.W.Frag} {mg:Str->Option Value} {base:Heap}
theorem Lj:aP ["_law_script","_law_k","_law_cell"] ["_law_script","_law_k"] (au M9):=⟨rfl,rfl,rfl,by decide +kernel,rfl,by decide +kernel,by decide +kernel⟩
def Gm(K:PySem.W.Frag):Sp:=fun vs H Q _=>∃ (a:Addr) (ns:List Int) (k:Nat),vs=[.ref a,.int k]/\a9 K H a (ns.map V.int)/\k<64/\∀ (r:Addr) (H':Hp),aL H H'->H r=none->bf H' r->Q (.ref r) H'
theorem Na(F:hV K "_law_pot" "_law_pot" M9 f fd)(B:Bl mg)(B2:M_ mg):bJ P w K mg base bh 1 f fd ["_law_script","_law_k"] (Gm K):=by
 refine F.ok Lj (fun vs H Q E h=>?_) (fun eV A outer s H vs Q E hr h=>?_)
 .obtain⟨a,ns,k,rfl,_⟩:=h;rfl
 .obtain⟨a,ns,k,rfl,hS,hk,q⟩:=h;refine⟨_,(aj (aV (i:=2) Lj.nd rfl (Or.inl rfl) (w5 (aM kC (pv 1) (aI aQ (by rfl) B.len dU (aa (pv 0) ag)) (a_ _)) (aX aK (pv 0) (pv 1) (fun _ _=>rfl)) aB))
   (ap (be (cY (aa (aI (oY rfl) (by rfl) B.max uU (aa aB (aa (bb jt (aI xg (by rfl) B2.abs PyProof.Rows.boot_abs (aa (pv 2) ag)) (bb zV aB aB)) ag))) (aa (bb cX (bb cX (bb iX (aI xg (by rfl) B2.abs PyProof.Rows.boot_abs (aa (pv 2) ag)) aB) (bb kB aB (pv 1))) aB) ag)))))),?_⟩
  dsimp only;refine uC (fun σ Hc=>Hc=H/\∃c:Int,σ=[some (.ref a),some (.int k),some (.int c)]) ?_ ?_
  .rintro σ Hc ⟨rfl,c,rfl⟩;obtain⟨z,hz,z0⟩:∃z:Int,z=(if c<0 then -c else c)/\0<=z:=⟨_,rfl,by split <;> lia⟩
   have m0:0<=z % 2147483629:=q_ _ (by decide);have m1:z % 2147483629<2147483629:=qV _ (by decide);refine⟨_,rfl,c,rfl,?_⟩;rw[<-hz];refine⟨_,_,rfl,rfl,⟨by decide,by decide,by decide⟩,_,_,rfl,rfl,0,_,rfl,_,rfl,c,rfl,?_⟩;rw[<-hz];refine⟨_,_,rfl,rfl,(by show (0:Int)<2147483629;decide),_,rfl,_,_,rfl,rfl,.inl ⟨by decide,by decide⟩,_,_,rfl,rfl,_,_,rfl,rfl,by show 2<=sizeLine;decide,fun r Es=>?_⟩;exact q r _ (ai Es) Es ⟨_,_,ae,by split <;> lia,by lia,by lia⟩
  .intro N hN;refine⟨_,rfl,_,rfl,a,_,rfl,.inl hS,_,_,rfl,rfl,_,rfl,fX (fun e=>?_) (fun e=>hN _ _ ⟨rfl,0,rfl⟩)⟩;have xI:k<ns.length:=by have:=eE e;rw[aR] at this;lia
   exact⟨_,rfl,_,rfl,a,_,_,.int ns[k],rfl,rfl,hS,aD (by rw[bZ,cg xI];rfl),hN _ _ ⟨rfl,_,rfl⟩⟩
theorem Go:aP ["_law_pot_here","_law_many","_law_digit"] ["_law_pot_here","_law_many"] (au Gi):=⟨rfl,rfl,rfl,by decide +kernel,rfl,by decide +kernel,by decide +kernel⟩
def gE:Sp:=fun vs H Q _=>∃ (p:Addr) (m:Nat),vs=[.ref p,.int m]/\0<m/\m<2 ^ 200/\bf H p/\∀ (d:Nat) (H':Hp),d<m->aN p H H'->bf H' p->Q (.int d) H'
theorem Jy(F:hV K "_law_take" "_law_take" Gi f fd)(B2:M_ mg):bJ P w K mg base bh 1 f fd ["_law_pot_here","_law_many"] gE:=by
 refine F.ok Go (fun vs H Q E h=>?_) (fun eV A outer s H vs Q E hr h=>?_)
 .obtain⟨p,m,rfl,_⟩:=h;rfl
 .obtain⟨p,m',rfl,m0',m1',⟨a,b,hp,a0,b0,b1⟩,q'⟩:=h;generalize hm:((m':Nat):Int)=m;have m0:0<m:=by lia
  have m1:m<2 ^ 200:=by lia
  have q:∀ (d a b:Int) (H':Hp),0<=d->d<m->0<=a->0<=b->b<4294967296->aN p H H'->H' p=some (.lst [.int a,.int b])->Q (.int d) H':=fun d a b H' h1 h2 h3 h4 h5 h6 h7=>by
   have:=q' d.toNat H' (by lia) h6 ⟨a,b,h7,h3,h4,h5⟩;rw[n_ h1] at this;exact this
  refine⟨_,(aj (cC (aM KS (aX aK (pv 0) aB (fun _ _=>rfl)) aB (a_ _)) (aj (dL (aI wr (by rfl) B2.divmod PyProof.Rows.boot_divmod (aa (aX aK (pv 0) aB (fun _ _=>rfl)) (aa (pv 1) ag))) (dC (n:=2) rfl (aG (gC (pv 0) aB dR) (aG (az (i:=2) Go.nd rfl (Or.inl rfl)) cr))))
    (ap (be (pv 2)))) bp)
   (aj (dL (bb iX (bb cX (bb kB (aX aK (pv 0) aB (fun _ _=>rfl)) aB) aB) aB) (gC (pv 0) aB dR))
   (ap (be (bb iX (bb Gk (bb iX (bb kB (aX aK (pv 0) aB (fun _ _=>rfl)) (aX aK (pv 0) aB (fun _ _=>rfl))) aB) aB) (pv 1)))))),?_⟩
  have g0:yH [V.int a,V.int b] 0=some (.int a):=aD (j:=0) rfl;have g1:yH [V.int a,V.int b] 1=some (.int b):=aD (j:=1) rfl;refine⟨_,rfl,p,_,_,_,rfl,rfl,a9.of hp,g0,_,_,rfl,rfl,_,rfl,?_⟩;refine fX (fun e=>?_) (fun e=>?_)
  .refine⟨_,rfl,p,_,_,_,rfl,rfl,a9.of hp,g0,_,rfl,_,_,rfl,⟨m0,by lia⟩,fun t ht=>?_⟩;have npt:p≠t:=am hp ht;refine⟨t,_,rfl,bU.of ae,rfl,_,_,rfl,?_⟩;refine⟨_,rfl,p,_,0,0,rfl,rfl,by rw[ao npt];exact hp,eG (j:=0) (by show 0<2;decide),_,_,rfl,rfl,_,rfl,?_⟩;exact q _ _ _ _ (q_ _ (by lia)) (qV _ m0) (Int.ediv_nonneg a0 (by lia)) b0 b1 (fun c o e n=>by rw[ao n,ao (am e ht)];exact e) ae
  .refine⟨_,rfl,p,_,_,_,rfl,rfl,a9.of hp,g1,_,_,rfl,rfl,.inl ⟨by lia,by lia⟩,_,_,rfl,rfl,_,_,rfl,rfl,(by show (0:Int)<2147483647;decide),?_⟩;refine⟨_,rfl,p,_,1,1,rfl,rfl,hp,eG (j:=1) (by show 1<2;decide),?_⟩;have c0:0<=(b*48271+12345) % 2147483647:=q_ _ (by decide);have c1:(b*48271+12345) % 2147483647<2147483647:=qV _ (by decide);refine⟨_,rfl,p,_,_,_,rfl,rfl,a9.of ae,aD (j:=1) rfl,_,rfl,p,_,_,_,rfl,rfl,a9.of ae,aD (j:=1) rfl,_,_,rfl,rfl,.inl ⟨by lia,by lia⟩,_,_,rfl,rfl,(by show (0:Int)<2147483629;decide),_,_,rfl,rfl,⟨by decide,by decide⟩,_,rfl,_,_,rfl,rfl,m0,?_⟩;exact q _ _ _ _ (q_ _ (by lia)) (qV _ m0) a0 c0 (by lia) aN.upd ae
theorem yf:∀ {xs:List Nat} {k:Nat},(NV xs).eraseIdx k=NV (xs.eraseIdx k)
 |[],_=>rfl
 |x::xs,0=>rfl
 |x::xs,k+1=>congrArg (V.int (x:Nat)::·) (yf (xs:=xs) (k:=k))
theorem sw:∀ {ls:List Nat} {k:Nat} (hk:k<ls.length),(ls[k]::ls.eraseIdx k).Perm ls
 |x::xs,0,_=>jG _
 |x::xs,k+1,h=>(List.Perm.swap x _ _).trans ((sw (ls:=xs) (k:=k) (by simpa using h)).cons x)
theorem Gp{xs ls:List Nat}{k v:Nat}{r:List Nat}(p:(xs++ls).Perm r)(h:ls[k]?=some v):(xs++[v]++ls.eraseIdx k).Perm r:=by
 refine List.Perm.trans ?_ p;rw[dh];refine jR _ ?_;obtain⟨hk,e⟩:=dN.mp h;subst e;exact sw hk
theorem Nb:aP ["_law_pot_here"] ["_law_pot_here"] (au Gj):=⟨rfl,rfl,rfl,by decide +kernel,rfl,by decide +kernel,by decide +kernel⟩
def A1:Sp:=fun vs H Q _=>∃ (p:Addr),vs=[.ref p]/\bf H p/\∀ (d:Nat) (H':Hp),d<10 ^ 18->aN p H H'->bf H' p->Q (.int d) H'
theorem Jz(F:hV K "_law_beat" "_law_beat" Gj f fd)(D:dH P w K mg base bh 1 "_law_take" ["_law_pot_here","_law_many"] gE):bJ P w K mg base bh 2 f fd ["_law_pot_here"] A1:=by
 refine F.ok Nb (fun vs H Q E h=>?_) (fun eV A outer s H vs Q E hr h=>?_)
 .obtain⟨p,rfl,_⟩:=h;rfl
 .obtain⟨p,rfl,hp,q⟩:=h;refine⟨_,(ap (be (aX aK (cY (aa (aJ D hr aO (aa (pv 0) (aa aB ag))) (aa (aJ D hr aO (aa (pv 0) (aa (bb zV aB aB) ag))) ag))) (aJ D hr aO (aa (pv 0) (aa aB ag))) (fun _ _=>rfl)))),?_⟩;refine⟨_,rfl,p,40,rfl,by decide,by decide,hp,fun d1 H1 hd1 s1 mr=>⟨_,rfl,_,_,rfl,rfl,⟨by decide,by decide,by decide⟩,p,10 ^ 18,rfl,by decide,by decide,mr,fun d2 H2 Uy s2 xQ=>⟨by show 2<=sizeLine;decide,fun l hl=>?_⟩⟩⟩;have sl:=ai (o:=.lst [.int (d1:Int),.int (d2:Int)]) hl;refine⟨_,rfl,p,2,rfl,by decide,by decide,xQ.same sl,fun d3 H3 hd3 s3 mw=>?_⟩;have s4:=((s1.trans s2).trans (aN.of sl)).trans s3;have hl3:=s3 _ _ (ae (H:=H2) (a:=l) (o:=.lst [.int (d1:Int),.int (d2:Int)])) (xQ.ne hl);rcases(show d3=0\/d3=1 by lia) with rfl|rfl
  .exact⟨l,_,_,_,rfl,rfl,a9.of hl3,aD (j:=0) rfl,q d1 H3 (by lia) s4 mw⟩
  .exact⟨l,_,_,_,rfl,rfl,a9.of hl3,aD (j:=1) rfl,q d2 H3 Uy s4 mw⟩
end
end p6
namespace je
theorem r_.zero(Tr:r_ n (List.range n) k ts)(hk:k<=n)(h:k<=x):e_ ts (ci x)=0:=by
 unfold e_;rw[nY.mpr];· rfl
 intro t ht z;obtain⟨a,b,ha,hb,rfl⟩:=Tr.ends t ht;rw[List.take_range,zH hk] at ha;have:=bK.mp ha;have:=cK (eE z);lia
def ren(xs:List Nat)(t:Int×Int):Int×Int:=(ci (xs.getD t.1.toNat 0),ci (xs.getD t.2.toNat 0))
theorem sC{n:Nat}{xs:List Nat}(pm:xs.Perm (List.range n)){a b:Nat}(ha:a<n)(hb:b<n)(e:xs.getD a 0=xs.getD b 0):a=b:=by
 have xl:xs.length=n:=by have:=pm.length_eq;rwa [cu] at this
 rw[cM (by lia),cM (by lia)] at e;exact jg (pm.nodup_iff.mpr jW) (by lia) (by lia) e
theorem Lk{n:Nat}{xs:List Nat}(pm:xs.Perm (List.range n)){a:Nat}(ha:a<n):xs.getD a 0<n:=by
 have xl:xs.length=n:=by have:=pm.length_eq;rwa [cu] at this
 exact bK.mp (pm.mem_iff.mp (lc (by lia)))
theorem Gq{n:Nat}{xs:List Nat}(pm:xs.Perm (List.range n)){b:Nat}(hb:b<n):∃a,a<n/\xs.getD a 0=b:=by
 have xl:xs.length=n:=by have:=pm.length_eq;rwa [cu] at this
 obtain⟨a,ha,e⟩:=lJ.mp (pm.mem_iff.mpr (bK.mpr hb));exact⟨a,by lia,by rw[cM ha];exact e⟩
theorem RI(h:T ts a b):T (ts.map (ren xs)) (xs.getD a 0) (xs.getD b 0):=bB.mpr ⟨_,h,rfl⟩
theorem yg:∀ {k b:Nat},eT ts k a b->eT (ts.map (ren xs)) k (xs.getD a 0) (xs.getD b 0)
 |0,b,h=>congrArg (fun x=>xs.getD x 0) (show a=b from h)
 |k+1,b,⟨c,w,t⟩=>⟨_,yg w,RI t⟩
theorem eU:∀ {l:List α},(∀x∈l,c (f x)=d x)->((l.map f).filter c).length=(l.filter d).length
 |[],_=>rfl
 |x::l,h=>by
  rw[fh,dO,dO,h x bu];have ih:=eU (l:=l) fun y hy=>h y (bA _ hy);split <;> simp[ih]
theorem b8.ren{n:Nat}{ts:Ts}{xs:List Nat}(F:b8 n ts)(pm:xs.Perm (List.range n)):b8 n (ts.map (ren xs)):=by
 have Ll:∀t∈ts,∃a b:Nat,a<n/\b<n/\t=(ci a,ci b):=fun t ht=>by
  obtain⟨⟨a0,a1⟩,⟨b0,b1⟩⟩:=F.rg t ht;exact⟨t.1.toNat,t.2.toNat,by lia,by lia,gw (n_ a0).symm (n_ b0).symm⟩
 have c1:∀h:Int,(∃a,a<n/\h=ci (xs.getD a 0))\/∀a,a<n->ci (xs.getD a 0)≠h:=fun h=>by
  by_cases z:∃a,a<n/\h=ci (xs.getD a 0)
  .exact .inl z
  .exact .inr fun a ha e=>z ⟨a,ha,e.symm⟩
 have cf:∀h:Int,((ts.map (je.ren xs)).filter fun t=>decide (t.1=h)).length=((ts.map (je.ren xs)).filter fun t=>decide (t.2=h)).length/\((ts.map (je.ren xs)).filter fun t=>decide (t.1=h)).length<=8:=fun h=>by
  rcases c1 h with ⟨a,ha,rfl⟩|no
  .rw[eU (d:=fun t=>decide (t.1=ci a)) fun t ht=>?_,eU (d:=fun t=>decide (t.2=ci a)) fun t ht=>?_]
   .exact⟨F.B8 _,F.most _⟩
   .obtain⟨x,y,hx,hy,rfl⟩:=Ll t ht;exact oo.mpr ⟨fun e=>congrArg ci (sC pm hy ha (cK e)),fun e=>by have:=cK e;show ci (xs.getD y 0)=_;rw[this]⟩
   .obtain⟨x,y,hx,hy,rfl⟩:=Ll t ht;exact oo.mpr ⟨fun e=>congrArg ci (sC pm hx ha (cK e)),fun e=>by have:=cK e;show ci (xs.getD x 0)=_;rw[this]⟩
  .rw[eU (d:=fun _=>false) fun t ht=>?_,eU (d:=fun _=>false) fun t ht=>?_]
   .have z:ts.filter (fun _=>false)=[]:=nY.mpr fun x _ q=>nomatch q;rw[z];exact⟨rfl,cx _⟩
   .obtain⟨x,y,hx,hy,rfl⟩:=Ll t ht;exact fL (no y hy)
   .obtain⟨x,y,hx,hy,rfl⟩:=Ll t ht;exact fL (no x hx)
 refine⟨F.n1,F.n2,?_,fun t ht=>?_,fun t ht=>?_,fun h=>(cf h).1,fun h=>(cf h).2,fun a b ha hb=>?_⟩
 .refine(iK.mpr (F.nd.imp_of_mem fun {t u} ht hu ne e=>ne ?_));obtain⟨x,y,hx,hy,rfl⟩:=Ll t ht;obtain⟨x',y',vG,hy',rfl⟩:=Ll u hu;have e1:x=x':=sC pm hx vG (cK (congrArg Prod.fst e));have e2:y=y':=sC pm hy hy' (cK (congrArg Prod.snd e));rw[e1,e2]
 .obtain⟨u,hu,rfl⟩:=bB.mp ht;obtain⟨x,y,hx,hy,rfl⟩:=Ll u hu;have:=Lk pm hx;have:=Lk pm hy;exact⟨⟨by show (0:Int)<=ci _;lia,by show ci (xs.getD x 0)<_;lia⟩,⟨by show (0:Int)<=ci _;lia,by show ci (xs.getD y 0)<_;lia⟩⟩
 .obtain⟨u,hu,rfl⟩:=bB.mp ht;have:=F.ne u hu;obtain⟨x,y,hx,hy,rfl⟩:=Ll u hu;intro e;exact this (congrArg ci (sC pm hx hy (cK e)))
 .obtain⟨a',L9,rfl⟩:=Gq pm ha;obtain⟨b',tG,rfl⟩:=Gq pm hb;obtain⟨k,w⟩:=F.con a' b' L9 tG;exact⟨k,yg w⟩
theorem Gr:∀ {xs:List α},(xs.flatMap fun x=>f x++g x).Perm (xs.flatMap f++xs.flatMap g)
 |[]=>.refl _
 |x::xs=>by
  rw[lO,lO,lO,dh,dh];refine jR _ (((Gr (xs:=xs)).append_left _).trans ?_);rw[<-dh,<-dh];exact uR _ i7
theorem wu{α β γ:Type}{f:α->β->List γ}{ys:List β}:∀ {xs:List α},(xs.flatMap fun x=>ys.flatMap (f x)).Perm (ys.flatMap fun y=>xs.flatMap fun x=>f x y)
 |[]=>by
  rw[List.flatMap_nil,List.flatMap_eq_nil_iff.mpr fun y _=>List.flatMap_nil]
 |x::xs=>by
  rw[lO];refine((wu (xs:=xs)).append_left _).trans ?_;refine(Gr (xs:=ys)).symm.trans (j6 ?_);exact congrArg (fun g=>ys.flatMap g) (funext fun y=>(lO (f:=fun x=>f x y)).symm)
theorem uD:∀ {l:List α},(l.filter c).map f=l.flatMap fun x=>if c x=true then [f x] else []
 |[]=>rfl
 |x::l=>by
  rw[dO,lO,<-uD (l:=l)];by_cases h:c x=true
  .rw[ak h,ak h];rfl
  .rw[av h,av h];rfl
def yh(ns:List Nat)(i h:Nat):List (Nat×Nat):=(List.range i).flatMap fun j=>if h / pr (ns.take j) % ns.getD j 0+1<ns.getD j 0 then [(h,h+pr (ns.take j))] else []
theorem Gs{m:Nat}{ns:List Nat}:((List.range m).flatMap (yh ns ns.length)).Perm ((List.range ns.length).flatMap fun j=>Cd m (pr (ns.take j)) (ns.getD j 0)):=by
 refine(wu (f:=fun h j=>if h / pr (ns.take j) % ns.getD j 0+1<ns.getD j 0 then [(h,h+pr (ns.take j))] else [])).trans (j6 ?_);refine congrArg (fun f=>(List.range ns.length).flatMap f) (funext fun j=>?_);unfold Cd;rw[uD];refine congrArg (fun f=>(List.range m).flatMap f) (funext fun h=>?_);simp
def JA(b i h:Nat):List (Nat×Nat):=(List.range (b-h / b ^ i % b-1)).map fun k=>(h,h+(k+1)*b ^ i)
def DY(b i h:Nat):List (Nat×Nat):=(List.range i).flatMap fun j=>JA b j h
theorem Gu{f b:Nat}:((List.range (b ^ f)).flatMap (DY b f)).Perm (si f b):=wu (f:=fun h j=>JA b j h)
theorem kK(h:ps.Perm qs):(dE ps).Perm (dE qs):=by
 unfold dE;exact List.Perm.flatMap_right _ h
theorem DZ(n1:3<=n)(n2:n<=32):b8 n (dE (mh (List.range n))):=(ye n1 n2 (jG _)).perm (kK lj)
end je
namespace p6
open PySem L2 je
theorem nu:∀ {k:Nat},(List.replicate k [x]).flatten=List.replicate k x
 |0=>rfl
 |k+1=>by rw[lM,qY,nu,lM];rfl
theorem kL{A B:Prop}{b:Bool}(hb:b=true)(h:A):if b=true then A else B:=by rw[ak hb];exact h
theorem gc{A B:Prop}{b:Bool}(hb:b=false)(h:B):if b=true then A else B:=by rw[av (by rw[hb];decide)];exact h
def nw(H:Hp)(D:Addr)(ts:Ts)(H2:Hp):Prop:=aL H H2/\∃zs:Zs,H2 D=some (.lst (zr zs))/\PO H2 zs/\zp zs=ts
theorem JB(c:Nat->Bool)(bW:St->Prop)(hD:H0 D=none)(hn:n<=1000)(h0:bW σB)(hs:∀x σ H (Kt:V->St->Hp->Prop) (Kf:St->Hp->Prop),x<n->bW σ->aL H0 H->(∀σ2 H2,bW σ2->aL H H2->c x=true->Kt (.int (lo+(x:Nat))) σ2 H2)->(∀σ2 H2,bW σ2->aL H H2->c x=false->Kf σ2 H2)->
   g (.int (lo+(x:Nat))) σ H fun σ2 H2=>tt σ2 H2 fun b H3=>if b=true then te σ2 H3 fun v H4=>Kt v σ2 H4 else Kf σ2 H3)(hd:∀H,aL H0 H->H D=some (.lst (((List.range n).filter c).map fun (x:Nat)=>V.int (lo+(x:Int))))->d7 H):gu (Ek lo n) g tt te D d7 σB (upd H0 D (.lst [])):=by
 refine eN (fun i ys σ H=>bW σ/\aL H0 H/\H D=some (.lst ys)/\ys=((List.range i).filter c).map fun (x:Nat)=>V.int (lo+(x:Int))) ⟨h0,ai hD,ae,rfl⟩ ?_ ?_
 .rintro i ys σ H Kt Kf hi ⟨sh,sm,iz,rfl⟩ kt kf;refine hs i σ H Kt Kf hi sh sm (fun σ2 H2 tP s2 e=>?_) (fun σ2 H2 tP s2 e=>?_)
  .refine kt _ _ _ (s2 _ _ iz) ?_ ⟨tP,bv (sm.trans s2) hD,ae,?_⟩
   .rw[aR];refine eD (ij _ _) ?_;rw[cu];exact br (show i<1000 by lia) (by decide)
   .rw[ja,gh,di];simp[dO,e]
  .refine kf _ _ ⟨tP,sm.trans s2,s2 _ _ iz,?_⟩;rw[ja,gh];simp[dO,e]
 .rintro ys σ H ⟨_,sm,iz,rfl⟩;exact hd H sm iz
theorem pG:∀ {xs:List Nat} {j x:Nat},(NV xs).set j (.int (x:Int))=NV (xs.set j x)
 |[],_,_=>rfl
 |y::ys,0,x=>rfl
 |y::ys,j+1,x=>congrArg (V.int (y:Int)::·) (pG (xs:=ys) (j:=j) (x:=x))
theorem hX(h:j<xs.length):(NV xs)[j]?=some (.int ((xs.getD j 0:Nat):Int)):=by
 unfold NV;rw[bZ,bY,cg h];rfl
def dS(n:Nat)(ps:Ts):List Nat:=(List.range n).map fun (h:Nat)=>e_ (dE ps) (ci h)
theorem gX:(dS n ps).length=n:=by unfold dS;rw[aR,cu]
theorem ji(hh:h<n):(dS n ps).getD h 0=e_ (dE ps) (ci h):=by
 unfold dS;rw[bY,bZ,fc hh];rfl
theorem yi(ha:a<n)(hb:b<n)(nI:a≠b):((dS n ps).set a (e_ (dE ps) (ci a)+1)).set b (e_ (dE ps) (ci b)+1)=dS n (ps++[(ci a,ci b)]):=by
 have ne:∀x y:Nat,ci x=ci y->x=y:=fun x y e=>cK e;refine lw fun i=>?_;by_cases hi:i<n
 .have g:∀qs:Ts,(dS n qs)[i]?=some (e_ (dE qs) (ci i)):=fun qs=>by unfold dS;rw[bZ,fc hi];rfl
  rw[g,Cq,vd,vd,g,jF,gX];by_cases c1:b=i
  .subst c1;rw[ak rfl,ak hb,av (fun z=>nI (ne _ _ z)),ak rfl,re]
  .rw[av c1,av (fun z=>c1 (ne _ _ z))];by_cases c2:a=i
   .subst c2;rw[ak rfl,ak ha,ak rfl]
   .rw[av c2,av (fun z=>c2 (ne _ _ z))];rfl
 .rw[eZ (by rw[jF,jF,gX];lia),eZ (by rw[gX];lia)]
theorem Gv:List.replicate n (V.int 0)=NV (dS n []):=by
 refine lw fun i=>?_;unfold NV dS;rw[dQ,qP,bZ];by_cases hi:i<n
 .rw[ak hi,fc hi];rfl
 .rw[av hi,eZ (by rw[cu];lia)];rfl
theorem yj(Pv:Nat->List V->St->Hp->Prop)(h0:Pv 0 [] σB H0)(hl:∀i ys σ H,i<=xs.length->Pv i ys σ H->bU K H a xs)(hs:∀i x ys σ H (Kt:V->St->Hp->Prop) (Kf:St->Hp->Prop),xs[i]?=some x->Pv i ys σ H->
   (∀v σ2 H4,H4 D=some (.lst ys)->ys.length<sizeLine->Pv (i+1) (ys++[v]) σ2 (upd H4 D (.lst (ys++[v])))->Kt v σ2 H4)->(∀σ2 H3,Pv (i+1) ys σ2 H3->Kf σ2 H3)->
   g x σ H fun σ2 H2=>tt σ2 H2 fun b H3=>if b=true then te σ2 H3 fun v H4=>Kt v σ2 H4 else Kf σ2 H3)(hd:∀ys σ H,Pv xs.length ys σ H->d7 H):gu (Vi K a) g tt te D d7 σB H0:=by
 refine⟨fun i m σ H=>m=xs.length-i/\i<=xs.length/\∃ys,Pv i ys σ H,⟨xs.length,by simp,cx _,[],h0⟩,?_⟩;rintro i m σ H ⟨rfl,hi,ys,p⟩;have q:=hl i ys σ H hi p;by_cases d9:i<xs.length
 .refine .inr ⟨⟨xs,xs[i],q,by simp[d9]⟩,?_⟩;rintro x H' ⟨rfl,y⟩;exact hs i x ys σ _ (fun v σ2 H4=>∃ys,H4 D=some (.lst ys)/\ys.length<sizeLine/\∃m',m'<xs.length-i/\m'=xs.length-(i+1)/\i+1<=xs.length/\∃tH,Pv (i+1) tH σ2 (upd H4 D (.lst (ys++[v]))))
   (fun σ2 H3=>∃m',m'<xs.length-i/\m'=xs.length-(i+1)/\i+1<=xs.length/\∃tH,Pv (i+1) tH σ2 H3) (y xs q) p
   (fun v σ2 H4 z1 z2 z3=>⟨ys,z1,z2,_,by lia,rfl,d9,_,z3⟩) (fun σ2 H3 z=>⟨_,by lia,rfl,d9,_,z⟩)
 .have e:i=xs.length:=by lia
  subst e;exact .inl ⟨⟨xs,q,aU _⟩,hd ys σ H p⟩
theorem JC(c:Int×Int->Bool)(bW:St->Prop)(ha:H0 a=some (.lst (zr zs)))(hD:H0 D=none)(hn:zs.length<=1000)(h0:bW σB)(hs:∀z σ H (Kt:V->St->Hp->Prop) (Kf:St->Hp->Prop),z∈zs->bW σ->aL H0 H->(∀σ2 H2,bW σ2->aL H H2->c z.2=true->Kt (.ref z.1) σ2 H2)->(∀σ2 H2,bW σ2->aL H H2->c z.2=false->Kf σ2 H2)->
   g (.ref z.1) σ H fun σ2 H2=>tt σ2 H2 fun b H3=>if b=true then te σ2 H3 fun v H4=>Kt v σ2 H4 else Kf σ2 H3)(hd:∀H,aL H0 H->H D=some (.lst (zr (zs.filter fun z=>c z.2)))->d7 H):gu (Ej K a) g tt te D d7 σB (upd H0 D (.lst [])):=by
 refine d_ (xs:=zr zs) (fun i ys σ H=>bW σ/\aL H0 H/\H D=some (.lst ys)/\ys=zr ((zs.take i).filter fun z=>c z.2)) ⟨h0,ai hD,ae,rfl⟩ (fun i ys σ H _ z=>a9.of (z.2.1 _ _ ha)) ?_ ?_
 .rintro i x ys σ H Kt Kf hx ⟨sh,sm,iz,rfl⟩ kt kf;obtain⟨z,hz,rfl⟩:=sj hx;have hi:i<zs.length:=(dN.mp hz).1;have tk:zs.take (i+1)=zs.take i++[z]:=by rw[gj,hz];rfl
  refine hs z σ H Kt Kf (cS hz) sh sm (fun σ2 H2 tP s2 e=>?_) (fun σ2 H2 tP s2 e=>?_)
  .refine kt _ _ _ (s2 _ _ iz) ?_ ⟨tP,bv (sm.trans s2) hD,ae,?_⟩
   .rw[dD];exact eD (ij _ _) (eD (zh _ _) (br (show i<1000 by lia) (by decide)))
   .rw[tk,gh,et];simp[dO,e,zr]
  .refine kf _ _ ⟨tP,sm.trans s2,s2 _ _ iz,?_⟩;rw[tk,gh];simp[dO,e]
 .rintro ys σ H ⟨_,sm,iz,rfl⟩;rw[dD,i9] at iz;exact hd H sm iz
theorem D5:zp (zs.filter fun z=>c z.2)=(zp zs).filter c:=by
 unfold zp;rw[oA];rfl
theorem tT:(zr (zs.filter fun z=>c z.2)).length=((zp zs).filter c).length:=by rw[dD,<-bQ,D5]
section
variable {K:PySem.W.Frag}
theorem yk(po:PO H zs):zs.length=(zp zs).length/\∀i,i<(zp zs).length->bU K H ((zs.map (·.1)).getD i 0) [.int ((zp zs).getD i (0,0)).1,.int ((zp zs).getD i (0,0)).2]:=by
 refine⟨bQ.symm,fun i hi=>?_⟩;rw[bQ] at hi;rw[xX hi,Ch hi];exact bU.of (po _ (ik hi))
end
theorem dM:(List.range (n+1)).flatMap f=(List.range n).flatMap f++f n:=by
 rw[ja,List.flatMap_append];simp
theorem qK:∀ {ns:List Nat} {x:Nat},pr (ns++[x])=pr ns*x
 |[],x=>by show x*1=1*x;lia
 |n::ns,x=>by show n*pr (ns++[x])=n*pr ns*x;rw[qK,Nat.mul_assoc]
theorem Gw:∀ {ns:List Nat} {st:Nat},bx m st ns=(List.range ns.length).flatMap fun j=>Cd m (st*pr (ns.take j)) (ns.getD j 0)
 |[],st=>rfl
 |n::ns,st=>by
  show Cd m st n++bx m (st*n) ns=_;rw[eF,nW,lO,Gw (ns:=ns)];congr 1
  .show Cd m st n=Cd m (st*1) n;rw[vz]
  .rw[List.flatMap_map];congr 1;funext j;show _=Cd m (st*(n*pr (ns.take j))) (ns.getD j 0);rw[Nat.mul_assoc]
theorem pf{α:Type}{g:Nat->List α}{M:Nat}(hg:∀x,(g x).length<=M):∀ {m:Nat},((List.range m).flatMap g).length<=m*M
 |0=>cx _
 |m+1=>by rw[dM,df,Nat.succ_mul];have:=hg m;have:=pf hg (m:=m);lia
theorem iB:∀ {ns:List Nat} {i:Nat},(∀x∈ns,1<=x)->pr (ns.take i)<=pr ns
 |[],i,_=>by rw[List.take_nil];exact aU _
 |n::ns,0,h=>by
  show 1<=n*pr ns;have:∀ {l:List Nat},(∀x∈l,1<=x)->1<=pr l:=fun {l}=>by
   induction l with
   |nil=>intro _;exact aU _
   |cons x l ih=>intro hl;exact rm (hl x bu) (ih fun y hy=>hl y (bA _ hy))
  exact this (l:=n::ns) h
 |n::ns,i+1,h=>by
  show n*pr (ns.take i)<=n*pr ns;exact qS n (iB fun x hx=>h x (bA _ hx))
theorem nw.ext(hD:H D=none)(sm:aL H H2)(h1:H2 D=some (.lst (zr wU)))(yl:PO H2 wU)(ez:zp wU=ts)(s3:aL H2 H3)(po:PO H3 zs)(e:zp zs=us):nw H D (ts++us) (upd H3 D (.lst (zr wU++zr zs))):=
 ⟨bv (sm.trans s3) hD,wU++zs,by rw[ae,et],PO.putL (xs:=zr wU) ((yl.same s3).append po) (s3 _ _ h1),by rw[eA,ez,e]⟩
theorem Gx{xs:List V}{k:Nat}:jN xs none (some (k:Int))=xs.take k:=by
 have h1:HT.tf xs.length 0 none=0:=rfl;have h2:HT.tf xs.length xs.length (some (k:Int))=min k xs.length:=by
  unfold HT.tf;simp;try lia
 unfold jN;rw[h1,h2,List.drop_zero,Nat.sub_zero,List.take_eq_take_iff];simp;try lia
theorem ym{xs:List V}{k:Nat}:jN xs (some (k:Int)) none=xs.drop k:=by
 have h1:HT.tf xs.length 0 (some (k:Int))=min k xs.length:=by
  unfold HT.tf;simp;try lia
 have h2:HT.tf xs.length xs.length none=xs.length:=rfl;unfold jN;rw[h1,h2];by_cases c:k<=xs.length
 .rw[zH c];exact nV (by rw[lQ];exact aU _)
 .rw[Nat.min_eq_right (by lia),List.drop_of_length_le (aU _),List.drop_of_length_le (by lia),List.take_nil]
theorem JD(ms:List β)(e G:β->V)(bW:St->Prop)(ha:H0 a=some (.lst (ms.map e)))(hD:H0 D=none)(hn:ms.length<=1000)(h0:bW σB)(hs:∀m σ H (R:V->St->Hp->Prop) (Kf:St->Hp->Prop),m∈ms->bW σ->aL H0 H->(∀σ2 H2,bW σ2->aL H H2->R (G m) σ2 H2)->
   g (e m) σ H fun σ2 H2=>tt σ2 H2 fun b H3=>if b=true then te σ2 H3 fun v H4=>R v σ2 H4 else Kf σ2 H3)(hd:∀H,aL H0 H->H D=some (.lst (ms.map G))->d7 H):gu (Ej K a) g tt te D d7 σB (upd H0 D (.lst [])):=by
 refine d_ (xs:=ms.map e) (fun i ys σ H=>bW σ/\aL H0 H/\H D=some (.lst ys)/\ys=(ms.take i).map G) ⟨h0,ai hD,ae,rfl⟩ (fun i ys σ H _ z=>a9.of (z.2.1 _ _ ha)) ?_ ?_
 .rintro i x ys σ H Kt Kf hx ⟨sh,sm,iz,rfl⟩ kt kf;rw[bZ] at hx;cases hz:ms[i]? with
  |none=>rw[hz] at hx;cases hx
  |some m=>
   rw[hz] at hx;obtain rfl:e m=x:=bN hx;refine hs m σ H Kt Kf (cS hz) sh sm (fun σ2 H2 tP s2=>?_);refine kt _ _ _ (s2 _ _ iz) ?_ ⟨tP,bv (sm.trans s2) hD,ae,?_⟩
   .rw[aR];exact eD (zc _ _) (eD hn (by decide))
   .rw[gj,hz,va,di];rfl
 .rintro ys σ H ⟨_,sm,iz,rfl⟩;rw[aR,i9] at iz;exact hd H sm iz
abbrev Gz:Stmt:=top 41
abbrev GA:Stmt:=top 44
theorem D6:(["_law_k","_law_many"]:List Str).Nodup:=by decide +kernel
theorem pH:(["_law_house","_law_degrees"]:List Str).Nodup:=by decide +kernel
section
variable {P:Program} {w:World} {K:PySem.W.Frag} {mg:Str->Option Value} {base:Heap}
theorem Nd:aP ["_law_many"] ["_law_many"] (au Gz):=⟨rfl,rfl,rfl,by decide +kernel,rfl,by decide +kernel,by decide +kernel⟩
def wv:Sp:=fun vs H Q _=>∃n:Nat,vs=[.int n]/\2<=n/\n<=32/\∀ (r:Addr) (zs:Zs) (H':Hp),aL H H'->H r=none->H' r=some (.lst (zr zs))->PO H' zs->zp zs=mh (List.range n)->Q (.ref r) H'
theorem JE(F:hV K "_law_ring" "_law_ring" Gz f fd)(B:Bl mg):bJ P w K mg base bh 1 f fd ["_law_many"] wv:=by
 refine F.ok Nd (fun vs H Q E h=>?_) (fun eV A outer s H vs Q E hr h=>?_)
 .obtain⟨n,rfl,_⟩:=h;rfl
 .obtain⟨n,rfl,n1,n2,q⟩:=h;refine'⟨_,(ap (be ?c1)),?_⟩;case c1=>
   refine' cD (g:=(bD 0)) (te:=(o4 (bz (aY 0) (bz (iI (rI (fun _ j=>0<j) fun i j=>.int (i % j)) (iI (xf fun i j=>.int (i+j)) (aY 0) (tC (.int 1))) (aY 1)) gg)))) (NB:=["_law_k","_law_many"]) (src:=[none,some 0]) (bq (by kernel_rfl)) rfl (bE rfl B.range (aa (pv 0) ag)) ?g ?t ?e;case g=>exact fun cl C s₃ H₃ fp=>(az (i:=0) D6 rfl (Or.inl rfl) (Or.inr rfl))
   case t=>exact fun cl C s₃ H₃ fp=>c_
   case e=>exact fun cl C s₃ H₃ fp=>(cH (aa (pv 0) (aa (bb iX (bb cX (pv 0) aB) (pv 1)) ag)))
  refine⟨_,rfl,(n:Int),rfl,by lia,by lia,fun T0 Nf=>?_⟩;refine xY (lo:=0) (n:=n) (fun k=>(ci k,ci ((k+1) % n))) (fun σ=>∃x,σ=[x,some (.int n)]) Nf (by lia) ⟨_,rfl⟩ ?_ ?_
  .rintro k σ H2 R Kf hk ⟨x,rfl⟩ Lb kt;rw[gv];exact⟨_,rfl,_,rfl,_,_,rfl,rfl,_,rfl,_,_,rfl,rfl,(by show (0:Int)<(n:Int);lia),by show 2<=sizeLine;decide,fun t ht=>kt _ _ ⟨_,rfl⟩ ht⟩
  intro zs H2 s2 hT2 yl JF _;refine q T0 zs H2 s2 Nf hT2 yl ?_;rw[JF];unfold mh;rw[cu];refine jT fun k hk=>?_;have hk:=bK.mp hk;have xI:(k+1) % n<n:=kg _ (by lia);rw[bY,fc hk,bY,fc xI];rfl
theorem kM:aP ["_law_pot_here","_law_many","_law_more","_law_found","_law_degrees","_law_k","_law_some","_law_one","_law_other"] ["_law_pot_here","_law_many","_law_more"] (au GA):=⟨rfl,rfl,rfl,by decide +kernel,rfl,by decide +kernel,by decide +kernel⟩
def A2:Sp:=fun vs H Q _=>∃ (p:Addr) (n m:Nat),vs=[.ref p,.int n,.int m]/\2<=n/\n<=32/\m<=64/\bf H p/\∀ (r:Addr) (zs:Zs) (H':Hp),aN p H H'->bf H' p->H r=none->H' r=some (.lst (zr zs))->PO H' zs->b8 n (dE (zp zs))->Q (.ref r) H'
theorem JG(F:hV K "_law_some_pairs" "_law_some_pairs" GA f fd)(B:Bl mg)(D:dH P w K mg base bh 1 "_law_take" ["_law_pot_here","_law_many"] gE):bJ P w K mg base bh 2 f fd ["_law_pot_here","_law_many","_law_more"] A2:=by
 refine F.ok kM (fun vs H Q E h=>?_) (fun eV A outer s H vs Q E hr h=>?_)
 .obtain⟨p,n,m,rfl,_⟩:=h;rfl
 .obtain⟨p,n,m,rfl,n1,n2,m1,hp,q⟩:=h;refine'⟨_,(aj (dL (cH (aa (cY ag) (aa (bb Aa (cY (aa aB ag)) (pv 1)) ag))) (dC (n:=2) rfl (aG (az (i:=3) kM.nd rfl (Or.inl rfl)) (aG (az (i:=4) kM.nd rfl (Or.inr rfl)) cr))))
   (aj (cQ dP rfl (oW rfl B.range (aa aB (aa (pv 1) ag))) (az (i:=5) kM.nd rfl (Or.inl rfl))
    (aj (dY (i:=6) (g:=(bD 0)) (tt:=(mE (iI (xf fun i j=>.bl (decide (i<j))) (iI (qc K) (aY 1) (aY 0)) (tC (.int 7))))) (te:=(aY 0)) (NB:=["_law_house","_law_degrees"]) (src:=[none,some 4]) (bq (by kernel_rfl)) rfl (bE rfl B.range (aa (pv 5) ag)) ?g1 ?t1 ?e1 kM.nd rfl rfl rfl)
    (aj (aV (i:=7) kM.nd rfl (Or.inl rfl) (aX aK (pv 6) (aJ D hr aO (aa (pv 0) (aa (aI aQ (by rfl) B.len dU (aa (pv 6) ag)) ag))) (fun _ _=>rfl)))
    (aj (cq (gK gI jE jD du (pv 3) (aa (cH (aa (pv 7) (aa (pv 5) ag))) ag)))
    (ap (dL (cH (aa (bb cX (aX aK (pv 4) (pv 7) (fun _ _=>rfl)) aB) (aa aB ag))) (dC (n:=2) rfl (aG (gC (pv 4) (pv 7) dR) (aG (gC (pv 4) (pv 5) dR) cr)))))))))
   (aj (cQ dP rfl (bE rfl B.range (aa (pv 2) ag)) (az (i:=5) kM.nd rfl (Or.inl rfl))
    (aj (zQ (i:=7) (j:=8) rfl kM.nd rfl rfl (by decide) rfl rfl (aa (aJ D hr aO (aa (pv 0) (aa (pv 1) ag))) (aa (aJ D hr aO (aa (pv 0) (aa (pv 1) ag))) ag)) (by rfl))
    (ap (cC (PW.pt (ku (aM t_ (pv 7) (pv 8) (a_ _)) (iN (aM kC (aI (oY rfl) (by rfl) B.max uU (aa (aX aK (pv 4) (pv 7) (fun _ _=>rfl)) (aa (aX aK (pv 4) (pv 8) (fun _ _=>rfl)) ag))) aB (a_ _))))) (ap (cC (PW.pt (ku (aM (k8 hr.u) (cH (aa (pv 7) (aa (pv 8) ag))) (pv 3) rfl) (iN (aM (k8 hr.u) (cH (aa (pv 8) (aa (pv 7) ag))) (pv 3) rfl)))) (aj (cq (gK gI jE jD du (pv 3) (aa (cH (aa (pv 7) (aa (pv 8) ag))) ag)))
      (aj (dL (bb cX (aX aK (pv 4) (pv 7) (fun _ _=>rfl)) aB) (gC (pv 4) (pv 7) dR))
      (ap (dL (bb cX (aX aK (pv 4) (pv 8) (fun _ _=>rfl)) aB) (gC (pv 4) (pv 8) dR))))) bp)) bp))))
   (ap (be (pv 3)))))),?_⟩
  case g1=>exact fun cl C s₃ H₃ fp=>(az (i:=0) pH rfl (Or.inl rfl) (Or.inr rfl))
  case t1=>exact fun cl C s₃ H₃ fp=>fY (aM kC (aX aK (pv 1) (pv 0) (fun _ _=>rfl)) aB (a_ _))
  case e1=>exact fun cl C s₃ H₃ fp=>(pv 0)
  refine⟨by show 0<=sizeLine;decide,fun Pr RJ=>⟨by show 1<=sizeLine;decide,fun L1 tS=>⟨_,rfl,L1,_,_,rfl,rfl,ae,by lia,by lia,by rw[gk,lH];exact ba (show 1*n<=32 by lia) (by decide),fun M hM=>?_⟩⟩⟩;rw[gk,nu,Gv];refine⟨by show 2<=sizeLine;decide,fun T0 Nf=>⟨T0,_,rfl,bU.of ae,rfl,_,_,rfl,_,_,rfl,rfl,?_⟩⟩;have sP:=ai (o:=.lst []) RJ;have s1:=sP.trans (ai (o:=.lst [.int 0]) tS);have s3:=ai (o:=.tup [.ref Pr,.ref M]) Nf;have s2:=(s1.trans (ai (o:=.lst (NV (dS n []))) hM)).trans s3;have gP:=s3 _ _ (ai (o:=.lst (NV (dS n []))) hM _ _ (ai (o:=.lst [.int 0]) tS _ _ (ae (H:=H) (a:=Pr) (o:=.lst (zr [])))));have gM:=s3 _ _ (ae (H:=upd (upd H Pr (.lst [])) L1 (.lst [.int 0])) (a:=M) (o:=.lst (NV (dS n []))));have Uz:Pr≠M:=am (ai tS _ _ ae) hM;have Pf:H M=none:=s1.free hM;have RM:Pr≠p:=hp.ne RJ;have HP:M≠p:=hp.ne Pf;generalize upd (upd (upd (upd H Pr _) L1 _) M _) T0 _=H0 at *;refine⟨_,rfl,1,(n:Int),rfl,⟨by decide,by decide,by lia,by lia⟩,?_⟩;rw[show ((n:Int)-1).toNat=n-1 by lia];refine dt (lo:=1) (n:=n-1) (fun i σ Hc=>∃zs:Zs,(∃a b c d,σ=[some (.ref p),some (.int n),some (.int m),some (.ref Pr),some (.ref M),a,b,c,d])/\aN p H Hc/\bf Hc p/\Hc Pr=some (.lst (zr zs))/\PO Hc zs/\Hc M=some (.lst (NV (dS n (zp zs))))/\r_ n (List.range n) (i+1) (dE (zp zs))/\e_ (dE (zp zs)) (ci i)<=1)
   ⟨[],⟨none,none,none,none,rfl⟩,aN.of s2,hp.same s2,gP,PO.nil,gM,r_.start (by rw[cu];lia),cx _⟩ ?_ ?_
  .rintro i σ Hc hi ⟨zs,⟨a,b,c,d',rfl⟩,sc,mi,JH,po,A3,Tr,dg⟩;have e1:(1:Int)+(i:Int)=((i+1:Nat):Int):=by lia
   rw[e1];have UA:zs.length=i:=by have:=Tr.len;rw[qG,bQ] at this;lia
   refine⟨_,rfl,((i+1:Nat):Int),rfl,by lia,by lia,fun D1 AX=>?_⟩;rw[show (((i+1:Nat):Int)).toNat=i+1 from rfl];refine JB (lo:=0) (n:=i+1) (fun x=>decide (e_ (dE (zp zs)) (ci x)<7)) (fun σ=>∃a,σ=[a,some (.ref M)]) AX (by lia) ⟨_,rfl⟩ ?_ ?_
   .rintro x σ H4 Kt Kf hx ⟨a',rfl⟩ wn kt kf;rw[gv] at kt |-;have vG:x<(dS n (zp zs)).length:=by rw[gX];lia
    refine⟨_,rfl,_,rfl,M,_,_,_,rfl,rfl,a9.of (wn _ _ A3),aD (hX vG),_,_,rfl,rfl,_,rfl,?_⟩;have ed:=ji (ps:=zp zs) (show x<n by lia);refine fX (fun e=>?_) (fun e=>?_)
    .exact⟨_,rfl,kt _ _ ⟨_,rfl⟩ (aL.refl _) (fP (by have:=eE e;lia))⟩
    .exact kf _ _ ⟨_,rfl⟩ (aL.refl _) (fL (fun z=>e (fP (by lia))))
   .intro H4 wn AV;have e0:((((List.range (i+1)).filter fun x=>decide (e_ (dE (zp zs)) (ci x)<7)).map fun (x:Nat)=>V.int (0+(x:Int))))=NV ((List.range (i+1)).filter fun x=>decide (e_ (dE (zp zs)) (ci x)<7)):=jT fun x _=>by rw[gv]
    rw[e0] at AV;have ne:0<((List.range (i+1)).filter fun x=>decide (e_ (dE (zp zs)) (ci x)<7)).length:=qQ (dz.mpr ⟨bK.mpr (jk i),fP (show e_ (dE (zp zs)) (ci i)<7 by lia)⟩);have le:((List.range (i+1)).filter fun x=>decide (e_ (dE (zp zs)) (ci x)<7)).length<=i+1:=ba (ij _ _) (by rw[cu];exact aU _);generalize hfs:(List.range (i+1)).filter (fun x=>decide (e_ (dE (zp zs)) (ci x)<7))=fs at *;have nL:=mi.same wn;refine⟨_,rfl,_,rfl,_,rfl,D1,_,rfl,.inl (a9.of AV),p,_,rfl,by rw[bj];exact ne,by rw[bj];lia,nL,fun d H5 hd s5 uE=>?_⟩;rw[bj] at hd;have nD1:D1≠p:=mi.ne AX;have hv:fs[d]?=some fs[d]:=cg hd;refine⟨D1,_,_,_,rfl,rfl,a9.of (s5 _ _ AV nD1),aD (hX hd),?_⟩;have hsm:fs.getD d 0∈fs:=by rw[bY,hv];exact ik _
    generalize fs.getD d 0=sv at *;rw[<-hfs] at hsm;obtain⟨Dn,oX⟩:=dz.mp hsm;have hsv:sv<i+1:=bK.mp Dn;have hsd:e_ (dE (zp zs)) (ci sv)<7:=eE oX;have Lm:=s5 _ _ (wn _ _ JH) RM;have Pg:=s5 _ _ (wn _ _ A3) HP;have Ln:PO H5 zs:=(po.same wn).nr s5 nL;refine⟨_,rfl,.inl ⟨rfl,_,a9.of Lm⟩,_,rfl,_,rfl,by show 2<=sizeLine;decide,fun t ht=>?_⟩;have st:=ai (o:=ng (ci sv,ci (i+1))) ht;refine⟨Pr,_,_,rfl,rfl,st _ _ Lm,by rw[dD,UA];exact br (show i<33 by lia) (by decide),?_⟩;have Lo:(upd (upd H5 t (ng (ci sv,ci (i+1)))) Pr (.lst (zr zs++[.ref t]))) M=some (.lst (NV (dS n (zp zs)))):=by rw[ao Uz.symm];exact st _ _ Pg
    have RP:sv<(dS n (zp zs)).length:=by rw[gX];lia
    refine⟨_,rfl,_,rfl,M,_,_,_,rfl,rfl,a9.of Lo,aD (hX RP),_,_,rfl,rfl,by show 2<=sizeLine;decide,fun T hT=>?_⟩;have RQ:(upd (upd H5 t (ng (ci sv,ci (i+1)))) Pr (.lst (zr zs++[.ref t]))) Pr=some (.lst (zr zs++[.ref t])):=ae;have o6:∀b,b≠Pr->(upd (upd H5 t (ng (ci sv,ci (i+1)))) Pr (.lst (zr zs++[.ref t]))) b=(upd H5 t (ng (ci sv,ci (i+1)))) b:=fun b n=>ao n;have Lp:PO (upd (upd H5 t (ng (ci sv,ci (i+1)))) Pr (.lst (zr zs++[.ref t]))) (zs++[(t,(ci sv,ci (i+1)))]):=PO.putL (xs:=zr zs) ((Ln.same st).append (PO.one ae)) (st _ _ Lm);generalize upd (upd H5 t (ng (ci sv,ci (i+1)))) Pr _=H6 at *;have sT:=ai (o:=.tup [.int ((((dS n (zp zs)).getD sv 0:Nat):Int)+1),.int 1]) hT;refine⟨T,_,rfl,bU.of ae,rfl,_,_,rfl,?_⟩;refine⟨_,rfl,_,rfl,M,_,(sv:Int),sv,rfl,rfl,sT _ _ Lo,eG (by rw[bj];exact RP),?_⟩;have e2:(NV (dS n (zp zs))).set sv (V.int ((((dS n (zp zs)).getD sv 0:Nat):Int)+1))=NV ((dS n (zp zs)).set sv (e_ (dE (zp zs)) (ci sv)+1)):=by
     rw[ji (by lia)];exact pG (x:=e_ (dE (zp zs)) (ci sv)+1)
    have Ph:i+1<((dS n (zp zs)).set sv (e_ (dE (zp zs)) (ci sv)+1)).length:=by rw[jF,gX];lia
    have z0:e_ (dE (zp zs)) (ci (i+1))=0:=Tr.zero (by lia) (aU _);generalize hH7:upd _ M _=H7;have gM7:H7 M=some (.lst (NV ((dS n (zp zs)).set sv (e_ (dE (zp zs)) (ci sv)+1)))):=by rw[<-hH7,ae];exact congrArg (fun l=>some (HO.lst l)) e2
    have o7:∀b,b≠M->∀o,H6 b=some o->H7 b=some o:=fun b n o e=>by rw[<-hH7,ao n];exact sT _ _ e
    refine⟨_,_,rfl,_,rfl,_,rfl,M,_,((i+1:Nat):Int),i+1,rfl,rfl,gM7,eG (by rw[bj];exact Ph),rfl,?_⟩;generalize RU:upd H7 M _=H8;have e3:(NV ((dS n (zp zs)).set sv (e_ (dE (zp zs)) (ci sv)+1))).set (i+1) (V.int 1)=NV (dS n (zp zs++[(ci sv,ci (i+1))])):=by
     rw[<-yi (by lia) (by lia) (by lia),z0];exact pG (x:=1)
    have UB:H8 M=some (.lst (NV (dS n (zp zs++[(ci sv,ci (i+1))])))):=by rw[<-RU,ae];exact congrArg (fun l=>some (HO.lst l)) e3
    have o8:∀b,b≠M->∀o,H6 b=some o->H8 b=some o:=fun b n o e=>by rw[<-RU,ao n];exact o7 b n o e
    have ez:zp (zs++[(t,(ci sv,ci (i+1)))])=zp zs++[(ci sv,ci (i+1))]:=by rw[eA];rfl
    refine⟨zs++[(t,(ci sv,ci (i+1)))],⟨_,_,_,_,rfl⟩,fun b o e n=>?_,?_,?_,fun z hz=>?_,by rw[ez];exact UB,?_,?_⟩
    .refine o8 _ (am e Pf) _ ?_;rw[o6 _ (am e RJ)];exact st _ _ (s5 _ _ (wn _ _ (sc _ _ e n)) n)
    .obtain⟨x,y,e,r⟩:=uE.same st;exact⟨x,y,o8 _ HP.symm _ (by rw[o6 _ RM.symm];exact e),r⟩
    .refine o8 _ Uz _ ?_;rw[RQ,et];rfl
    .have g:=Lp z hz;exact o8 _ (by rintro e;rw[e,Lo] at g;cases g) _ g
    .rw[ez,l_];exact Tr.add jW (fun x hx=>bK.mp hx) (fc (by lia)) (by rw[List.take_range,zH (by lia)];exact Dn) (by show e_ _ _<8;lia)
    .rw[ez,Cq,z0,av (fun z=>by have:=cK z;lia),ak rfl];lia
  rintro σ Hc ⟨zs,⟨a,b,c,d',rfl⟩,sc,mi,JH,po,A3,Tr,dg⟩;rw[show n-1+1=n by lia] at Tr;have F0:=Tr.jO n1 n2 (jG _);refine⟨_,rfl,(m:Int),rfl,by lia,by lia,?_⟩;refine dt (lo:=0) (n:=m) (fun i σ Hc=>∃zs:Zs,(∃a b c d,σ=[some (.ref p),some (.int n),some (.int m),some (.ref Pr),some (.ref M),a,b,c,d])/\aN p H Hc/\bf Hc p/\Hc Pr=some (.lst (zr zs))/\PO Hc zs/\Hc M=some (.lst (NV (dS n (zp zs))))/\b8 n (dE (zp zs)))
   ⟨zs,⟨_,_,_,_,rfl⟩,sc,mi,JH,po,A3,F0⟩ ?_ ?_
  .clear F0 Tr dg po JH A3 mi sc zs;rintro i σ Hc hi ⟨zs,⟨a',b',c',d',rfl⟩,sc,mi,JH,po,A3,Fi⟩;have UA:zs.length<=256:=by have:=Fi.len;rw[qG,bQ] at this;lia
   refine⟨_,rfl,_,rfl,p,n,rfl,by lia,by lia,mi,fun a H4 ha s4 nL=>⟨_,rfl,_,rfl,p,n,rfl,by lia,by lia,nL,fun b H5 hb s5 uE=>⟨_,_,rfl,?_⟩⟩⟩;have Ng:=(sc.trans s4).trans s5;have Lm:=s5 _ _ (s4 _ _ JH RM) RM;have Pg:=s5 _ _ (s4 _ _ A3 HP) HP;have Ln:=(po.nr s4 mi).nr s5 nL;clear s4 s5 nL JH A3 po mi sc;dsimp only;have iV:∀Hd:Hp,aL H5 Hd->∃zs:Zs,(∃x1 x2 x3 x4,[some (V.ref p),some (.int n),some (.int m),some (.ref Pr),some (.ref M),some (.int (0+(i:Int))),b',some (.int (a:Nat)),some (.int (b:Nat))]=[some (.ref p),some (.int n),some (.int m),some (.ref Pr),some (.ref M),x1,x2,x3,x4])/\aN p H Hd/\bf Hd p/\Hd Pr=some (.lst (zr zs))/\PO Hd zs/\Hd M=some (.lst (NV (dS n (zp zs))))/\b8 n (dE (zp zs)):=fun Hd sd=>⟨zs,⟨_,_,_,_,rfl⟩,Ng.trans (aN.of sd),uE.same sd,sd _ _ Lm,Ln.same sd,sd _ _ Pg,Fi⟩
   have WS:a<(dS n (zp zs)).length:=by rw[gX];exact ha
   have hbn:b<(dS n (zp zs)).length:=by rw[gX];exact hb
   refine⟨_,rfl,_,rfl,rfl,_,rfl,?_⟩;by_cases nI:a=b
   .exact gc (by subst nI;simp) (gO (iV _ (aL.refl _)))
   refine kL (by simp;lia) ⟨_,rfl,_,rfl,M,_,_,_,rfl,rfl,a9.of Pg,aD (hX WS),_,rfl,_,rfl,M,_,_,_,rfl,rfl,a9.of Pg,aD (hX hbn),_,_,rfl,_,_,rfl,rfl,_,rfl,?_⟩;rw[ji ha,ji hb];refine fX (fun cm=>?_) (fun cm=>iV _ (aL.refl _));have cm:=eE cm;have da:e_ (dE (zp zs)) (ci a)<=7:=by split at cm <;> lia
   have db:e_ (dE (zp zs)) (ci b)<=7:=by split at cm <;> lia
   refine⟨_,rfl,_,rfl,by show 2<=sizeLine;decide,fun t1 WT=>?_⟩;have tI:=ai (o:=ng (ci a,ci b)) WT;obtain⟨l1,l2⟩:=yk (K:=K) (Ln.same tI);refine⟨_,rfl,t1,Pr,(ci a,ci b),zs.map (fun z:Addr×Int×Int=>z.1),zp zs,rfl,rfl,bU.of ae,by rw[<-iQ];exact a9.of (tI _ _ Lm),by rw[aR];exact l1,l2,_,rfl,?_⟩;by_cases in1:(ci a,ci b)∈zp zs
   .exact gc (by simp[in1]) (gO (iV _ tI))
   refine kL (by simp[in1]) ⟨_,rfl,_,rfl,by show 2<=sizeLine;decide,fun t2 WU=>?_⟩;have g7:=tI.trans (ai (o:=ng (ci b,ci a)) WU);obtain⟨l1,l2⟩:=yk (K:=K) (Ln.same g7);refine⟨_,rfl,t2,Pr,(ci b,ci a),zs.map (fun z:Addr×Int×Int=>z.1),zp zs,rfl,rfl,bU.of ae,by rw[<-iQ];exact a9.of (g7 _ _ Lm),by rw[aR];exact l1,l2,_,rfl,?_⟩;by_cases WV:(ci b,ci a)∈zp zs
   .exact gc (by simp[WV]) (iV _ g7)
   have RQ:=g7 _ _ Lm;have Lo:=g7 _ _ Pg;refine kL (by simp[WV]) ⟨_,rfl,.inl ⟨rfl,_,a9.of RQ⟩,_,rfl,_,rfl,by show 2<=sizeLine;decide,fun t ht=>?_⟩;have sO:=ai (o:=ng (ci a,ci b)) ht;refine⟨Pr,_,_,rfl,rfl,sO _ _ RQ,by rw[dD];exact eD UA (by decide),?_⟩;have Nh:=PO.putL (xs:=zr zs) ((Ln.same (g7.trans sO)).append (PO.one ae)) (sO _ _ RQ) (o:=.lst (zr zs++[.ref t]));have UC:∀x o,H x=some o->x≠p->x≠Pr->(upd (upd (upd (upd H5 t1 (ng (ci a,ci b))) t2 (ng (ci b,ci a))) t (ng (ci a,ci b))) Pr (.lst (zr zs++[.ref t]))) x=some o:=fun x o e n n2=>by
    rw[ao n2];exact sO _ _ (g7 _ _ (Ng _ _ e n))
   have GB:=((uE.same g7).same sO).put (o:=.lst (zr zs++[.ref t])) RM.symm;have Pk:=(ao (H:=upd (upd (upd H5 t1 (ng (ci a,ci b))) t2 (ng (ci b,ci a))) t (ng (ci a,ci b))) (o:=.lst (zr zs++[.ref t])) Uz.symm).trans (sO _ _ Lo);have hP7:=ae (H:=upd (upd (upd H5 t1 (ng (ci a,ci b))) t2 (ng (ci b,ci a))) t (ng (ci a,ci b))) (a:=Pr) (o:=.lst (zr zs++[.ref t]));generalize upd (upd (upd (upd H5 _ _) _ _) _ _) Pr _=H7 at *;refine⟨_,rfl,_,rfl,M,_,_,_,rfl,rfl,a9.of Pk,aD (hX WS),_,_,rfl,rfl,_,rfl,_,rfl,M,_,(a:Int),a,rfl,rfl,Pk,eG (by rw[bj];exact WS),?_⟩;have e2:(NV (dS n (zp zs))).set a (V.int ((((dS n (zp zs)).getD a 0:Nat):Int)+1))=NV ((dS n (zp zs)).set a (e_ (dE (zp zs)) (ci a)+1)):=by
    rw[ji ha];exact pG (x:=e_ (dE (zp zs)) (ci a)+1)
   have Ph:b<((dS n (zp zs)).set a (e_ (dE (zp zs)) (ci a)+1)).length:=by rw[jF];exact hbn
   have ek:((dS n (zp zs)).set a (e_ (dE (zp zs)) (ci a)+1)).getD b 0=e_ (dE (zp zs)) (ci b):=by
    rw[bY,n9 nI,<-bY,ji hb]
   generalize RU:upd H7 M _=H8;have UB:H8 M=some (.lst (NV ((dS n (zp zs)).set a (e_ (dE (zp zs)) (ci a)+1)))):=by rw[<-RU,ae];exact congrArg (fun l=>some (HO.lst l)) e2
   have o8:∀b,b≠M->H8 b=H7 b:=fun b n=>by rw[<-RU,ao n]
   refine⟨_,rfl,_,rfl,M,_,_,_,rfl,rfl,a9.of UB,aD (hX Ph),_,_,rfl,rfl,_,rfl,_,rfl,M,_,(b:Int),b,rfl,rfl,UB,eG (by rw[bj];exact Ph),?_⟩;generalize hH9:upd H8 M _=H9;have e3:(NV ((dS n (zp zs)).set a (e_ (dE (zp zs)) (ci a)+1))).set b (V.int (((((dS n (zp zs)).set a (e_ (dE (zp zs)) (ci a)+1)).getD b 0:Nat):Int)+1))=NV (dS n (zp zs++[(ci a,ci b)])):=by
    rw[ek,<-yi ha hb nI];exact pG (x:=e_ (dE (zp zs)) (ci b)+1)
   have gM9:H9 M=some (.lst (NV (dS n (zp zs++[(ci a,ci b)])))):=by rw[<-hH9,ae];exact congrArg (fun l=>some (HO.lst l)) e3
   have o9:∀b,b≠M->H9 b=H7 b:=fun b n=>by rw[<-hH9,ao n];exact o8 b n
   have ez:zp (zs++[(t,(ci a,ci b))])=zp zs++[(ci a,ci b)]:=by rw[eA];rfl
   refine⟨zs++[(t,(ci a,ci b))],⟨_,_,_,_,rfl⟩,fun b o e n=>?_,?_,?_,fun z hz=>?_,by rw[ez];exact gM9,?_⟩
   .rw[o9 _ (am e Pf)];exact UC _ _ e n (am e RJ)
   .obtain⟨x,y,e,r⟩:=GB;exact⟨x,y,by rw[o9 _ HP.symm];exact e,r⟩
   .rw[o9 _ Uz,hP7,et];rfl
   .have g:=Nh z hz;rw[o9 _ (by rintro e;rw[e,Pk] at g;cases g)];exact g
   .rw[ez];exact Fi.pair ha hb nI in1 WV da db
  .rintro σ Hc ⟨zs,⟨a',b',c',d',rfl⟩,sc,mi,JH,po,A3,Fi⟩;exact⟨_,rfl,q Pr zs Hc sc mi RJ JH po Fi⟩
end
end p6
namespace L2
open PySem PySem.Spec PyProof.Rows
def Cr:List Nat->TA
 |[]=>gg
 |n::ns=>bz (tC (.int (n:Nat))) (Cr ns)
def GD:List (List Nat)->TA
 |[]=>gg
 |c::cs=>bz (o4 (Cr c)) (GD cs)
def WW:Expr->Option Nat
 |.Constant (.int (.ofNat n)) _ _=>some n
 |_=>none
def JI:List Expr->Option (List Nat)
 |[]=>some []
 |e::es=>(WW e).bind fun n=>(JI es).map (n::·)
def JJ:List Expr->Option (List (List Nat))
 |[]=>some []
 |.Tuple es _ _::r=>(JI es).bind fun c=>(JJ r).map (c::·)
 |_=>none
theorem Ni(h:WW e=some n):∃j pos,e=.Constant (.int (n:Nat)) j pos:=by
 unfold WW at h;split at h
 .cases h;exact⟨_,_,rfl⟩
 .cases h
theorem Cs:∀ {es:List Expr} {ns:List Nat},JI es=some ns->PA X es (Cr ns)
 |[],ns,h=>by cases h;exact ag
 |e::es,ns,h=>by
  unfold JI at h;obtain⟨n,h1,h2⟩:=Option.bind_eq_some_iff.mp h;obtain⟨ms,h3,rfl⟩:=Option.map_eq_some_iff.mp h2;obtain⟨j,pos,rfl⟩:=Ni h1;exact aa aB (Cs h3)
theorem Cu:∀ {es:List Expr} {cs:List (List Nat)},JJ es=some cs->PA X es (GD cs)
 |[],cs,h=>by cases h;exact ag
 |e::r,cs,h=>by
  unfold JJ at h;split at h
  .cases h;contradiction
  .rename_i es _ _ r' e';cases e';obtain⟨n,h1,h2⟩:=Option.bind_eq_some_iff.mp h;obtain⟨ms,h3,rfl⟩:=Option.map_eq_some_iff.mp h2;exact aa (cH (Cs h1)) (Cu h3)
  .cases h
end L2
namespace p6
open PySem L2 je
abbrev Nj:Stmt:=top 42
abbrev sD:Stmt:=top 43
theorem iJ:(["_law_more","_law_house","_law_figure","_law_step"]:List Str).Nodup:=by decide +kernel
theorem GE:∀ {ns:List Nat} {σ:St} {H:Hp} {Q:List V->Hp->Prop},Q (NV ns) H->Cr ns σ H Q
 |[],σ,H,Q,h=>h
 |n::ns,σ,H,Q,h=>GE (ns:=ns) (Q:=fun xs H2=>Q (.int (n:Nat)::xs) H2) h
theorem GH:∀ {cs:List (List Nat)} {σ:St} {H:Hp} {Q:List V->Hp->Prop},(∀c∈cs,c.length<=5)->(∀ (as:List Addr) (H':Hp),aL H H'->as.length=cs.length->(∀i,i<cs.length->H' (as.getD i 0)=some (.tup (NV (cs.getD i []))))->Q (as.map V.ref) H')->GD cs σ H Q
 |[],σ,H,Q,_,h=>h [] H (aL.refl _) rfl fun i hi=>nomatch hi
 |c::cs,σ,H,Q,hc,h=>by
  refine GE (ns:=c) ⟨?_,fun t ht=>?_⟩
  .rw[bj];exact ba (hc c bu) (by decide)
  refine GH (cs:=cs) (fun c wY=>hc c (bA _ wY)) fun as H' s l e=>?_;refine h (t::as) H' ((ai ht).trans s) (congrArg (·+1) l) fun i hi=>?_;cases i with
  |zero=>exact s _ _ ae
  |succ i=>exact e i (Nat.lt_of_succ_lt_succ hi)
theorem ww:∀ {i:Nat},(yh ns i h).length<=i
 |0=>cx _
 |i+1=>by
  have e:yh ns (i+1) h=yh ns i h++if h / pr (ns.take i) % ns.getD i 0+1<ns.getD i 0 then [(h,h+pr (ns.take i))] else []:=by unfold yh;rw[dM]
  rw[e,df];have:=ww (ns:=ns) (h:=h) (i:=i);split <;> simp <;> lia
theorem wx(hb:b<=5):∀ {i:Nat},(DY b i h).length<=5*i
 |0=>cx _
 |i+1=>by
  have e:DY b (i+1) h=DY b i h++JA b i h:=by unfold DY;rw[dM]
  rw[e,df];have:=wx (b:=b) (h:=h) hb (i:=i);have:(JA b i h).length<=5:=by unfold JA;rw[aR,cu];lia
  lia
theorem A4:∃es q1 q2 q3 cs r,b9 sD=.Assign [.Name "_law_sizes" q1] (.List es q2) q3::r/\r=(b9 sD).drop 1/\JJ es=some cs/\cs=[[1,3,3],[1,4,4],[1,5,5],[2,3,9],[2,4,16],[2,5,25],[3,3,27],[3,2,8],[5,2,32]]:=
 ⟨_,_,_,_,[[1,3,3],[1,4,4],[1,5,5],[2,3,9],[2,4,16],[2,5,25],[3,3,27],[3,2,8],[5,2,32]],_,rfl,rfl,by decide +kernel,rfl⟩
def JK(p:Addr)(H:Hp)(Q:V->Hp->Prop):Prop:=∀ (t r:Addr) (n:Nat) (zs:Zs) (H':Hp),aN p H H'->bf H' p->H t=none->H r=none->H' t=some (.tup [.int n,.ref r])->H' r=some (.lst (zr zs))->PO H' zs->b8 n (dE (zp zs))->Q (.ref t) H'
section
variable {P:Program} {w:World} {K:PySem.W.Frag} {mg:Str->Option Value} {base:Heap}
theorem ny:aP ["_law_pot_here","_law_sides","_law_whole","_law_k","_law_found","_law_house","_law_step","_law_side"] ["_law_pot_here"] (au Nj):=⟨rfl,rfl,rfl,by decide +kernel,rfl,by decide +kernel,by decide +kernel⟩
def uF:Sp:=fun vs H Q _=>∃p:Addr,vs=[.ref p]/\bf H p/\JK p H Q
theorem Nk(F:hV K "_law_box" "_law_box" Nj f fd)(B:Bl mg)(D:dH P w K mg base bh 1 "_law_take" ["_law_pot_here","_law_many"] gE):bJ P w K mg base bh 2 f fd ["_law_pot_here"] uF:=by
 refine F.ok ny (fun vs H Q E h=>?_) (fun eV A outer s H vs Q E hr h=>?_)
 .obtain⟨p,rfl,_⟩:=h;rfl
 .obtain⟨p,rfl,hp,q⟩:=h;refine⟨_,(aj (zQ (i:=1) (j:=2) rfl ny.nd rfl rfl (by decide) rfl rfl (aa (cY ag) (aa aB ag)) (by rfl))
   (aj (cQ dP rfl (bE rfl B.range (aa (bb cX aB (aJ D hr aO (aa (pv 0) (aa aB ag)))) ag)) (az (i:=3) ny.nd rfl (Or.inl rfl))
    (ap (cC (aM kC (pv 2) aB (a_ _)) (aj (cq (gK gI jE jD du (pv 1) (aa (bb cX aB (aJ D hr aO (aa (pv 0) (aa (aI (kZ rfl) (by rfl) B.min uT (aa aB (aa (bb jt (bb qy aB (pv 2)) aB) ag))) ag)))) ag)))
     (ap (aV (i:=2) ny.nd rfl (Or.inl rfl) (bb kB (pv 2) (aX aK (pv 1) (Bv vH aB) (fun _ _=>rfl)))))) bp)))
   (aj (aV (i:=4) ny.nd rfl (Or.inl rfl) (cY ag))
   (aj (cQ dP rfl (bE rfl B.range (aa (pv 2) ag)) (az (i:=5) ny.nd rfl (Or.inl rfl))
    (aj (aV (i:=6) ny.nd rfl (Or.inl rfl) aB)
    (ap (cQ dP rfl (bV (pv 1)) (az (i:=7) ny.nd rfl (Or.inl rfl))
     (aj (cC (aM kC (bb iX (bb qy (pv 5) (pv 6)) (pv 7)) (bb jt (pv 7) aB) (a_ _)) (ap (cq (gK gI jE jD du (pv 4) (aa (cH (aa (pv 5) (aa (bb cX (pv 5) (pv 6)) ag))) ag)))) bp)
     (ap (aV (i:=6) ny.nd rfl (Or.inl rfl) (bb kB (pv 6) (pv 7)))))))))
   (ap (be (cH (aa (pv 2) (aa (pv 4) ag))))))))),?_⟩
  refine⟨by show 0<=sizeLine;decide,fun S hS=>⟨_,_,rfl,?_⟩⟩;have sS:=ai (o:=.lst []) hS;have HQ:S≠p:=hp.ne hS;dsimp only;refine⟨_,rfl,p,5,rfl,by decide,by decide,hp.same sS,fun d H1 hd s1 mr=>⟨_,_,rfl,rfl,(1+(d:Int)),rfl,by lia,by lia,?_⟩⟩;rw[show (1+(d:Int)).toNat=1+d by lia];refine dt (lo:=0) (n:=1+d) (fun i σ Hc=>∃ns:List Nat,(∃a,σ=[some (.ref p),some (.ref S),some (.int ((pr ns:Nat):Int)),a,none,none,none,none])/\aN p H Hc/\bf Hc p/\Hc S=some (.lst (NV ns))/\ns.length<=i/\(∀x∈ns,2<=x/\x<=8)/\pr ns<=32/\(0<i->ns≠[]))
   ⟨[],⟨_,rfl⟩,(aN.of sS).trans s1,mr,s1 _ _ ae HQ,aU _,fun x hx=>(nomatch hx),by decide,fun z=>absurd z (ip _)⟩ ?_ ?_
  .rintro i σ Hc hi ⟨ns,⟨a,rfl⟩,sc,mi,yn,nl,nb,np,nn⟩;have p1:1<=pr ns:=iB (ns:=ns) (i:=0) fun x hx=>by have:=nb x hx;lia
   refine⟨_,rfl,_,_,rfl,rfl,_,rfl,fX (fun c=>?_) (fun c=>?_)⟩
   .have c:=eE c;have hq:(32:Int) / ((pr ns:Nat):Int)=((32 / pr ns:Nat):Int):=rfl;have q2:2<=32 / pr ns:=(Nat.le_div_iff_mul_le (by lia)).mpr (by lia);have em:(if (32:Int) / ((pr ns:Nat):Int)-1<7 then (32:Int) / ((pr ns:Nat):Int)-1 else 7)=((min 7 (32 / pr ns-1):Nat):Int):=by rw[hq];split <;> lia
    refine⟨_,rfl,.inl ⟨rfl,_,a9.of yn⟩,_,rfl,_,rfl,_,_,rfl,rfl,⟨by lia,by lia⟩,_,_,rfl,rfl,7,_,rfl,p,min 7 (32 / pr ns-1),by rw[em];rfl,by lia,by lia,mi,fun e H2 he s2 xQ=>⟨_,_,rfl,rfl,S,_,_,rfl,rfl,s2 _ _ yn HQ,by rw[bj];exact eD (show ns.length<=6 by lia) (by decide),?_⟩⟩;have e2:NV ns++[V.int (2+(e:Int))]=NV (ns++[2+e]):=by rw[<-iR];congr 2
    rw[e2];refine⟨_,rfl,_,rfl,_,rfl,S,_,_,_,rfl,rfl,a9.of ae,by rw[<-iR];exact xm _ _,_,_,rfl,rfl,.inr ⟨by lia,by lia⟩,?_⟩;have O4:pr ns*(2+e)<=32:=ba (qS _ (show 2+e<=32 / pr ns by lia)) (Nat.mul_div_le _ _);refine⟨ns++[2+e],⟨some (.int (0+(i:Int))),?_⟩,fun b o g n=>?_,xQ.put HQ.symm,ae,by rw[df,lH];lia,fun x hx=>?_,by rw[qK];exact O4,fun _=>by simp⟩
    .rw[qK,Int.natCast_mul];rfl
    .rw[ao (am g hS)];exact s2 _ _ (sc _ _ g n) n
    .rcases cw.mp hx with z|z
     .exact nb x z
     .rw[cU.mp z];lia
   .have c:¬ pr ns<17:=fun z=>c (fP (by lia));exact⟨ns,⟨_,rfl⟩,sc,mi,yn,by lia,nb,np,fun _ z=>by rw[z] at c;exact c (by decide)⟩
  rintro σ Hc ⟨ns,⟨a,rfl⟩,sc,mi,yn,nl,nb,np,nn⟩;have nn:=nn (by lia);have p1:1<=pr ns:=iB (ns:=ns) (i:=0) fun x hx=>by have:=nb x hx;lia
  have hn1:∀x∈ns,1<=x:=fun x hx=>by have:=nb x hx;lia
  refine⟨by show 0<=sizeLine;decide,fun R hR=>?_⟩;have sR:=ai (o:=.lst []) hR;refine⟨_,rfl,((pr ns:Nat):Int),rfl,by lia,by lia,?_⟩;rw[gk];have fl:∀i,i<=32->∀j,j<=5->(((List.range i).flatMap (yh ns ns.length))++yh ns j i).length<=200:=fun i hi j hj=>by
   rw[df];have:=pf (m:=i) (g:=yh ns ns.length) (M:=5) fun x=>ba ww (by lia);have:=ww (ns:=ns) (h:=i) (i:=j);lia
  refine dt (lo:=0) (n:=pr ns) (fun i σ Hd=>(∃x a b c,σ=[some (.ref p),some (.ref S),some (.int ((pr ns:Nat):Int)),x,some (.ref R),a,b,c])/\nw Hc R (((List.range i).flatMap (yh ns ns.length)).map iG) Hd) ⟨⟨_,_,_,_,rfl⟩,sR,[],ae,PO.nil,rfl⟩ ?_ ?_
  .rintro i σ Hd hi ⟨⟨x3,x5,x6,x7,rfl⟩,Pi⟩;rw[gv];refine⟨_,rfl,S,rfl,⟨_,a9.of (Pi.1 _ _ yn)⟩,fW (K:=K) (xs:=NV ns) (fun j σ He=>(∃x c,σ=[some (.ref p),some (.ref S),some (.int ((pr ns:Nat):Int)),x,some (.ref R),some (.int (i:Int)),some (.int ((pr (ns.take j):Nat):Int)),c])/\nw Hc R ((((List.range i).flatMap (yh ns ns.length))++yh ns j i).map iG) He) ⟨⟨_,_,rfl⟩,by simpa [yh] using Pi⟩ (fun j σ He _ z=>a9.of (z.2.1 _ _ yn)) ?_ ?_⟩
   .rintro j x σ He hx ⟨⟨y3,y7,rfl⟩,Pj⟩;obtain⟨n,hv,rfl⟩:=p7 hx;have hj:j<ns.length:=(dN.mp hv).1;have hnn:=nb n (cS hv);have nG:=iB (ns:=ns) (i:=j) hn1;have aah:1<=pr (ns.take j):=iB (ns:=ns.take j) (i:=0) fun x hx=>hn1 x (n0 hx);have gd:ns.getD j 0=n:=by rw[bY,hv];rfl
    have tk:ns.take (j+1)=ns.take j++[n]:=by rw[gj,hv];rfl
    have eB:yh ns (j+1) i=yh ns j i++if i / pr (ns.take j) % n+1<n then [(i,i+pr (ns.take j))] else []:=by unfold yh;rw[dM,gd]
    rw[tk,qK,eB];have fl':=fl i (by lia) j (by lia);generalize pr (ns.take j)=st at *;dsimp only;refine uC (fun σ He=>σ=[some (.ref p),some (.ref S),some (.int ((pr ns:Nat):Int)),y3,some (.ref R),some (.int (i:Int)),some (.int (st:Int)),some (.int (n:Int))]/\nw Hc R ((((List.range i).flatMap (yh ns ns.length))++(yh ns j i++if i / st % n+1<n then [(i,i+st)] else [])).map iG) He) ?_ ?_
    .rintro σ He ⟨rfl,Pe⟩;exact⟨_,rfl,_,rfl,_,_,rfl,rfl,.inr ⟨by lia,by lia⟩,⟨_,_,rfl⟩,Pe⟩
    .intro N hN;have WX:(i:Int) / (st:Int) % (n:Int)=((i / st % n:Nat):Int):=rfl;refine⟨_,rfl,_,rfl,_,_,rfl,rfl,⟨by lia,by lia⟩,_,rfl,_,_,rfl,rfl,(by show (0:Int)<(n:Int);lia),_,rfl,_,_,rfl,rfl,_,_,rfl,rfl,_,rfl,?_⟩;rw[WX];obtain⟨sm,wU,tR,yl,JF⟩:=Pj;refine fX (fun c=>?_) (fun c=>?_)
     .have c:=eE c;refine⟨_,rfl,.inl ⟨rfl,_,a9.of tR⟩,_,rfl,_,rfl,_,rfl,_,_,rfl,rfl,by show 2<=sizeLine;decide,fun t ht=>?_⟩;have aZ:=ai (o:=ng (iG (i,i+st))) ht;refine⟨R,_,_,rfl,rfl,aZ _ _ tR,?_,?_⟩
      .rw[dD,<-bQ,JF,aR];exact eD fl' (by decide)
      .refine hN _ _ ⟨rfl,?_⟩;rw[ak (by lia),<-dh,di];exact nw.ext (zs:=[(t,iG (i,i+st))]) hR sm tR yl JF aZ (PO.one ae) rfl
     .refine hN _ _ ⟨rfl,?_⟩;rw[av (fun z=>c (fP (by lia))),j5];exact⟨sm,wU,tR,yl,JF⟩
   .rintro σ He ⟨⟨y3,y7,rfl⟩,Pe⟩;refine⟨⟨_,_,_,_,rfl⟩,?_⟩;rw[bj] at Pe;rw[dM];exact Pe
  .rintro σ Hd ⟨⟨x3,x5,x6,x7,rfl⟩,sm,wU,tR,yl,JF⟩;refine⟨_,rfl,_,rfl,by show 2<=sizeLine;decide,fun t ht=>?_⟩;have st:=ai (o:=.tup [.int ((pr ns:Nat):Int),.ref R]) ht;have fr:∀ {a:Addr},Hc a=none->H a=none:=fun h=>sc.free mi.full h;refine q t R (pr ns) wU _ (sc.trans (aN.of (sm.trans st))) ((mi.same sm).same st) (fr (sm.free ht)) (fr hR) ae (st _ _ tR) (yl.same st) ?_;rw[JF];refine(FT (fun x hx=>(nb x hx).1) nn np).perm (kK (List.Perm.map _ ?_));refine Gs.trans (j6 ?_);unfold mY;rw[Gw];simp only[Nat.one_mul]
theorem ge:aP ["_law_pot_here","_law_sizes","_law_figures","_law_base","_law_many","_law_found","_law_house","_law_step","_law_k","_law_figure"] ["_law_pot_here"] (au sD):=⟨rfl,rfl,rfl,by decide +kernel,rfl,by decide +kernel,by decide +kernel⟩
theorem GJ(F:hV K "_law_words" "_law_words" sD f fd)(B:Bl mg)(D:dH P w K mg base bh 1 "_law_take" ["_law_pot_here","_law_many"] gE):bJ P w K mg base bh 2 f fd ["_law_pot_here"] uF:=by
 refine F.ok ge (fun vs H Q E h=>?_) (fun eV A outer s H vs Q E hr h=>?_)
 .obtain⟨p,rfl,_⟩:=h;rfl
 .obtain⟨p,rfl,hp,q⟩:=h;obtain⟨es,q1,q2,q3,cs,r,eb,er,VF,ec⟩:=A4;rw[eb,er];refine'⟨_,(aj (aV (i:=1) ge.nd rfl (Or.inl rfl) (cY (Cu VF)))
   (aj (dL (aX aK (pv 1) (aJ D hr aO (aa (pv 0) (aa aB ag))) (fun _ _=>rfl)) (dC (n:=3) rfl (aG (az (i:=2) ge.nd rfl (Or.inl rfl)) (aG (az (i:=3) ge.nd rfl (Or.inl rfl)) (aG (az (i:=4) ge.nd rfl (Or.inl rfl)) cr)))))
   (aj (aV (i:=5) ge.nd rfl (Or.inl rfl) (cY ag))
   (aj (cQ dP rfl (bE rfl B.range (aa (pv 4) ag)) (az (i:=6) ge.nd rfl (Or.inr rfl))
    (aj (aV (i:=7) ge.nd rfl (Or.inr rfl) aB)
    (ap (cQ dP rfl (bE rfl B.range (aa (pv 2) ag)) (az (i:=8) ge.nd rfl (Or.inl rfl))
     (aj (aV (i:=9) ge.nd rfl (Or.inr rfl) (bb iX (bb qy (pv 6) (pv 7)) (pv 3)))
     (aj (cq (gK gI PySem.F.slot_list_extend PySem.F.type_list_extend Df (pv 5) (aa ?c1 ag)))
     (ap (aV (i:=7) ge.nd rfl (Or.inr rfl) (bb kB (pv 7) (pv 3))))))))))
   (ap (be (cH (aa (pv 4) (aa (pv 5) ag))))))))),?_⟩
  case c1=>
   refine' cD (g:=(bD 0)) (te:=(o4 (bz (aY 1) (bz (iI (xf fun i j=>.int (i+j)) (aY 1) (iI (rI Ib fun i j=>.int (i*j)) (iI (xf fun i j=>.int (i-j)) (aY 0) (aY 2)) (aY 3))) gg)))) (NB:=["_law_more","_law_house","_law_figure","_law_step"]) (src:=[none,some 6,some 9,some 7]) (bq (by kernel_rfl)) rfl (oW rfl B.range (aa (bb cX (pv 9) aB) (aa (pv 3) ag))) ?g ?t ?e;case g=>exact fun cl C s₃ H₃ fp=>(az (i:=0) iJ rfl (Or.inl rfl) (Or.inr rfl))
   case t=>exact fun cl C s₃ H₃ fp=>c_
   case e=>exact fun cl C s₃ H₃ fp=>(cH (aa (pv 1) (aa (bb cX (pv 1) (bb kB (bb jt (pv 0) (pv 2)) (pv 3))) ag)))
  refine GH (cs:=cs) (by rw[ec];decide) fun as H4 s4 la ea=>⟨?_,fun S hS=>?_⟩
  .rw[aR,la,ec];show 9<=sizeLine;decide
  have sS:=ai (o:=.lst (as.map V.ref)) hS;refine⟨_,rfl,_,rfl,p,9,rfl,by decide,by decide,(hp.same s4).same sS,fun d H5 hd s5 uE=>?_⟩;have had:as[d]?=some (as.getD d 0):=by rw[bY,cg (by rw[la,ec];exact hd)];rfl
  have nS:S≠p:=(hp.same s4).ne hS;have ga:=ea d (by rw[ec];exact hd);have WY:=s5 _ _ (sS _ _ ga) ((hp.same s4).neT ga);have sd:∀d,d<9->∃f b:Nat,([[1,3,3],[1,4,4],[1,5,5],[2,3,9],[2,4,16],[2,5,25],[3,3,27],[3,2,8],[5,2,32]]:List (List Nat)).getD d []=[f,b,b ^ f]/\1<=f/\f<=5/\2<=b/\b<=5/\b ^ f<=32:=fun d hd=>
   ⟨(([[1,3,3],[1,4,4],[1,5,5],[2,3,9],[2,4,16],[2,5,25],[3,3,27],[3,2,8],[5,2,32]]:List (List Nat)).getD d []).getD 0 0,(([[1,3,3],[1,4,4],[1,5,5],[2,3,9],[2,4,16],[2,5,25],[3,3,27],[3,2,8],[5,2,32]]:List (List Nat)).getD d []).getD 1 0,by revert d;decide⟩
  obtain⟨fg,b,e9,f1,f2,b1,b2,hm⟩:=sd d hd;rw[ec,e9] at WY;refine⟨S,_,_,_,rfl,rfl,a9.of (s5 _ _ ae nS),aD (by rw[bZ,had];rfl),_,_,rfl,bU.of WY,rfl,_,_,rfl,_,_,rfl,_,_,rfl,rfl,?_⟩;have Ng:aN p H H5:=(aN.of (s4.trans sS)).trans s5;clear sd WY ga had ea la e9 hd s5;have hpw:∀i,i<=fg->b ^ i<=32:=fun i hi=>ba (Nat.pow_le_pow_right (by lia) hi) hm;refine⟨by show 0<=sizeLine;decide,fun R hR=>?_⟩;have sR:=ai (o:=.lst []) hR;refine⟨_,rfl,((b ^ fg:Nat):Int),rfl,by lia,by lia,?_⟩;rw[gk];refine dt (lo:=0) (n:=b ^ fg) (fun i σ Hd=>(∃u v c e,σ=[some (.ref p),some (.ref S),some (.int (fg:Int)),some (.int (b:Int)),some (.int ((b ^ fg:Nat):Int)),some (.ref R),u,v,c,e])/\nw H5 R (((List.range i).flatMap (DY b fg)).map iG) Hd) ⟨⟨_,_,_,_,rfl⟩,sR,[],ae,PO.nil,rfl⟩ ?_ ?_
  .rintro i σ Hd hi ⟨⟨x3,x5,x6,x7,rfl⟩,Pi⟩;rw[gv];refine⟨_,rfl,(fg:Int),rfl,by lia,by lia,?_⟩;rw[gk];refine dt (lo:=0) (n:=fg) (fun j σ He=>(∃c e,σ=[some (.ref p),some (.ref S),some (.int (fg:Int)),some (.int (b:Int)),some (.int ((b ^ fg:Nat):Int)),some (.ref R),some (.int (i:Int)),some (.int ((b ^ j:Nat):Int)),c,e])/\nw H5 R ((((List.range i).flatMap (DY b fg))++DY b j i).map iG) He) ⟨⟨_,_,rfl⟩,by simpa [DY] using Pi⟩ ?_ ?_
   .rintro j σ He hj ⟨⟨y8,y9,rfl⟩,wn,zs4,WZ,po4,ez4⟩;have hbi:=hpw j (by lia);have hbp:0<b ^ j:=Nat.pow_pos (by lia);have WX:(i:Int) / ((b ^ j:Nat):Int) % (b:Int)=((i / b ^ j % b:Nat):Int):=rfl;have d9:i / b ^ j % b<b:=kg _ (by lia);have zl:zs4.length<=1000:=by
     have e:=congrArg List.length ez4;rw[bQ,aR,df] at e;have z3:=pf (m:=i) (g:=DY b fg) (M:=25) fun x=>ba (wx b2) (by lia);have z5:=wx (b:=b) (h:=i) b2 (i:=j);lia
    refine⟨_,rfl,_,rfl,_,_,rfl,rfl,⟨by lia,by lia⟩,_,rfl,_,_,rfl,rfl,(by show (0:Int)<(b:Int);lia),?_⟩;change bD 9 (V.int ((i:Int) / ((b ^ j:Nat):Int) % (b:Int))) _ _ _;rw[WX];refine⟨_,rfl,.inl ⟨rfl,_,a9.of WZ⟩,_,rfl,_,_,rfl,rfl,_,rfl,_,_,rfl,⟨by lia,by lia,by lia,by lia⟩,fun L hL=>?_⟩;have hn:((b:Int)-(((i / b ^ j % b:Nat):Int)+1)).toNat=b-i / b ^ j % b-1:=by lia
    rw[hn];refine xY (lo:=((i / b ^ j % b:Nat):Int)+1) (fun c=>iG (i,i+(c+1)*b ^ j)) (fun σ=>∃x,σ=[x,some (.int (i:Int)),some (.int ((i / b ^ j % b:Nat):Int)),some (.int ((b ^ j:Nat):Int))]) hL (by lia) ⟨_,rfl⟩ ?_ ?_
    .rintro c σ H7 R' Kf hc ⟨x,rfl⟩ sm7 kt;have hq:(((i / b ^ j % b:Nat):Int)+1+(c:Int)-((i / b ^ j % b:Nat):Int))*((b ^ j:Nat):Int)=(((c+1)*b ^ j:Nat):Int):=by rw[show ((i / b ^ j % b:Nat):Int)+1+(c:Int)-((i / b ^ j % b:Nat):Int)=((c+1:Nat):Int) by lia];exact(Int.natCast_mul _ _).symm
     refine⟨_,rfl,_,rfl,_,rfl,_,rfl,_,_,rfl,rfl,_,rfl,_,_,rfl,rfl,.inr ⟨by lia,by lia⟩,_,_,rfl,rfl,by show 2<=sizeLine;decide,fun t ht=>?_⟩;rw[hq];exact kt _ _ ⟨_,rfl⟩ ht
    .intro zs H7 s7 hL7 Nh ez7 _;have e5:zp zs=(JA b j i).map iG:=by rw[ez7];unfold JA;rw[dQ];rfl
     have l5:zs.length<=5:=by rw[<-bQ,e5,aR];unfold JA;rw[aR,cu];lia
     refine⟨R,L,_,_,rfl,rfl,s7 _ _ WZ,hL7,by rw[dD,dD];exact ba (show _<=1005 by lia) (by decide),?_⟩;refine⟨_,rfl,_,rfl,_,_,rfl,rfl,.inr ⟨by lia,by lia⟩,⟨some (.int (0+(j:Int))),some (.int ((i / b ^ j % b:Nat):Int)),?_⟩,?_⟩
     .rw[Nat.pow_succ];rfl
     .have eW:DY b (j+1) i=DY b j i++JA b j i:=by unfold DY;rw[dM]
      rw[eW,<-dh,di];exact nw.ext hR wn WZ po4 ez4 s7 Nh e5
   .rintro σ He ⟨⟨y8,y9,rfl⟩,Pe⟩;refine⟨⟨_,_,_,_,rfl⟩,?_⟩;rw[dM];exact Pe
  .rintro σ Hd ⟨⟨x3,x5,x6,x7,rfl⟩,sm,wU,tR,yl,JF⟩;refine⟨_,rfl,_,rfl,by show 2<=sizeLine;decide,fun t ht=>?_⟩;have st:=ai (o:=.tup [.int ((b ^ fg:Nat):Int),.ref R]) ht;have fr:∀ {a:Addr},H5 a=none->H a=none:=fun h=>Ng.free uE.full h;refine q t R (b ^ fg) wU _ (Ng.trans (aN.of (sm.trans st))) ((uE.same sm).same st) (fr (sm.free ht)) (fr hR) ae (st _ _ tR) (yl.same st) ?_;rw[JF];exact(AH f1 f2 b1 b2 hm).1.perm (kK (List.Perm.map _ Gu))
end
end p6
namespace L2
open PySem PySem.Spec PyProof.Rows
abbrev mj(h:Heap)(z TI TO a:Addr)(f:Bool):Prop:=
 h.get? z=some { cls:=.type "zip",dict:=none,data:=.fields #[rawInt a,.bool f,.bool false,.ref TI,.ref TO],slots:=#[] }
theorem A5:typeLookup (.type "zip") "__len__"=pure none:=by rw[vq,u7];kernel_rfl
theorem yo:typeLookup (.type "zip") "__length_hint__"=pure none:=by rw[vq,u7];kernel_rfl
section
variable {prog:Program} {w:World} {A:Around} {E:Value->Shared->Prop} {s:Shared}
theorem uG{z TI TO a:Addr}{f:Bool}{oa:Obj}{Q:Bool->Shared->Prop}(hz:mj s.heap z TI TO a f)(ha:s.heap.get? a=some oa)(hQ:∀h',mj h' z TI TO a true->Heap.SameBut z s.heap h'->Q false { s with heap:=h' }):wpAny (model prog w) A (Builtin.SmallTypes.ownedTupleIsFree (.ref z)) Q E s:=by
 unfold Builtin.SmallTypes.ownedTupleIsFree;refine aA (fQ hz rfl (x:=rawInt a) rfl ?_);show wpAny _ _ (loadIfAlive ((a:Int).toNat) >>= _) _ _ _;rw[gk];refine aA (PySem.W.kdx_alive ha ?_);simp only[Option.isNone_some,i8,eK];refine aA (fQ hz rfl (x:=.bool f) rfl ?_);cases f with
 |true=>
  rw[av (show ¬ ((Value.bool true != Value.bool true)=true) from cG)];exact wpAny_pure (hQ s.heap hz (Heap.SameBut.refl _ _))
 |false=>
  rw[ak (show (Value.bool false != Value.bool true)=true from rfl)];refine aA (on hz (by simp) fun h₃ he₃ Pl=>?_);exact wpAny_pure (hQ h₃ he₃ Pl)
theorem D7{z TI TO i1 i2 l1 l2 a:Addr}{f:Bool}{oa:Obj}{k1 k2:Nat}{xs ys:Array Value}{x y:Value}{Q:Option Value->Shared->Prop}(D:ZipApart z TI TO i1 i2 l1 l2)(hz:mj s.heap z TI TO a f)(ha:s.heap.get? a=some oa)(W0:IsPair s.heap TI (.ref i1) (.ref i2))(h1:s.heap.IsListIter i1 l1 k1)(h2:s.heap.IsListIter i2 l2 k2)(Dp:s.heap.IsList l1 xs)(En:s.heap.IsList l2 ys)(hx:xs[k1]?=some x)(hy:ys[k2]?=some y)(hQ:∀h',mj h' z TI TO a true->h'.IsListIter i1 l1 (k1+1)->h'.IsListIter i2 l2 (k2+1)->IsPair h' s.heap.objs.size x y->h'.objs.size=s.heap.objs.size+1->
   (∀c o,c≠z->c≠i1->c≠i2->s.heap.get? c=some o->h'.get? c=some o)->Q (some (.ref s.heap.objs.size)) { s with heap:=h' }):
  wpAny (model prog w) A (pyNext (.ref z)) Q E s:=by
 have hT:s.TypeIs (.ref z) "zip":=⟨_,hz,rfl⟩
 unfold pyNext;refine aA (j_ (lF (name:=Str.ofString "__next__") hT F.slot_zip_next
  (jZ F.slot_zip_next hT F.entry_zip_next ?_ (F.args_zip_next_1 _))))
 show wpAny _ _ (field (.ref z) 2 >>= _) _ _ _;refine aA (fQ hz rfl (x:=.bool false) rfl ?_);show wpAny _ _ (field (.ref z) 3 >>= _) _ _ _;refine aA (fQ hz rfl (x:=.ref TI) rfl ?_);refine aA (jH W0 rfl ?_);show wpAny _ _ (Builtin.SmallTypes.ownedTupleIsFree (.ref z) >>= _) _ _ _;refine aA (uG hz ha fun h₁ hz₁ HR=>?_);simp only[i8,eK];refine aA ?_;show wpAny _ _ (forIn #[Value.ref i1,Value.ref i2] _ _) _ _ _;rw[<-qW];simp only[oz,oB];refine aA (aA (hJ ?_));show wpAny _ _ (Builtin.SmallTypes.nextOf (.ref i1) >>= _) _ _ _;refine aA (wpAny_nextOf_list_item (h1.extBut HR.extBut D.i1z) (Dp.extBut HR.extBut D.l1z) hx fun h₂ h1₂ Nl=>wpAny_pure ?_);refine wpAny_pure ?_;refine aA (aA (hJ ?_));show wpAny _ _ (Builtin.SmallTypes.nextOf (.ref i2) >>= _) _ _ _;refine aA (wpAny_nextOf_list_item ((h2.extBut HR.extBut D.i2z).extBut Nl.extBut D.i12.symm) ((En.extBut HR.extBut D.l2z).extBut Nl.extBut D.l2i1) hy fun h₃ h2₃ Pl=>wpAny_pure ?_);refine wpAny_pure (wpAny_pure ?_);dsimp only;refine aA (vv ?_ (by show 2<=sizeLine;decide));have ir:h₃.objs.size=s.heap.objs.size:=by rw[Pl.1,Nl.1,HR.1]
 refine wpAny_pure ⟨_,rfl,?_⟩;refine wpAny_pure ?_;show Q (some (.ref h₃.objs.size)) _;rw[ir];have up:∀c o,h₃.get? c=some o->(h₃.push { cls:=.type "tuple",data:=.seq #[x,y] }).get? c=some o:=fun c o e=>bL _ e;refine hQ _ (up _ _ (Pl.extBut _ _ D.i2z.symm (Nl.extBut _ _ D.i1z.symm hz₁))) ((h1₂.extBut Pl.extBut D.i12).at fun o e=>up _ o e) (h2₃.at fun o e=>up _ o e) ?_ (by rw[im,ir]) fun c o c1 c3 c4 e=>up c o (Pl.extBut _ _ c4 (Nl.extBut _ _ c3 (HR.extBut _ _ c1 e)));rw[<-ir];exact cB _ rfl
theorem GK{z TI TO i1 i2 l1 l2 a:Addr}{f:Bool}{oa:Obj}{k1:Nat}{xs:Array Value}{Q:Option Value->Shared->Prop}(hh:A.handled=none)(D:ZipApart z TI TO i1 i2 l1 l2)(hz:mj s.heap z TI TO a f)(ha:s.heap.get? a=some oa)(W0:IsPair s.heap TI (.ref i1) (.ref i2))(h1:s.heap.IsListIter i1 l1 k1)(Dp:s.heap.IsList l1 xs)(hx:xs[k1]?=none)(hQ:∀h',(∀c o,c≠z->c≠TO->c≠i1->c≠i2->s.heap.get? c=some o->h'.get? c=some o)->Q none { s with heap:=h' }):
  wpAny (model prog w) A (pyNext (.ref z)) Q E s:=by
 have hT:s.TypeIs (.ref z) "zip":=⟨_,hz,rfl⟩
 unfold pyNext;refine aA (j_ (lF (name:=Str.ofString "__next__") hT F.slot_zip_next
  (jZ F.slot_zip_next hT F.entry_zip_next ?_ (F.args_zip_next_1 _))))
 show wpAny _ _ (field (.ref z) 2 >>= _) _ _ _;refine aA (fQ hz rfl (x:=.bool false) rfl ?_);show wpAny _ _ (field (.ref z) 3 >>= _) _ _ _;refine aA (fQ hz rfl (x:=.ref TI) rfl ?_);refine aA (jH W0 rfl ?_);show wpAny _ _ (Builtin.SmallTypes.ownedTupleIsFree (.ref z) >>= _) _ _ _;refine aA (uG hz ha fun h₁ hz₁ HR=>?_);simp only[i8,eK];refine aA ?_;show wpAny _ _ (forIn #[Value.ref i1,Value.ref i2] _ _) _ _ _;rw[<-qW];simp only[oz,oB];refine aA (aA (hJ ?_));show wpAny _ _ (Builtin.SmallTypes.nextOf (.ref i1) >>= _) _ _ _;refine aA (wpAny_nextOf_list_end hh (h1.extBut HR.extBut D.i1z) (Dp.extBut HR.extBut D.l1z) hx fun h₂ e Nl he=>?_);obtain⟨o,ho,hc⟩:=he;refine aA (zN (T:="StopIteration") (b:=true) ⟨o,ho,hc⟩ isSubtype_stop ?_);exact wpAny_pure (hQ _ fun c o c1 _ c3 _ x=>Nl _ _ c3 (HR.extBut _ _ c1 x))
structure Nm(h:Heap)(z TI TO i1 i2 l1 l2:Addr)(i:Nat)(xs ys:Array Value)(as:List Addr):Prop where
 hz:(as=[]/\IsZip h z TI TO .none)\/∃a r f,as=a::r/\mj h z TI TO a f
 ti:IsPair h TI (.ref i1) (.ref i2)
 to:∃u v,IsPair h TO u v
 r1:h.IsListIter i1 l1 i
 r2:h.IsListIter i2 l2 i
 x:h.IsList l1 xs
 y:h.IsList l2 ys
 len:as.length=i
 pr:∀ (j:Nat) a,as[j]?=some a->∃x y,xs[j]?=some x/\ys[j]?=some y/\IsPair h a x y
theorem Nm.keep{h h':Heap}{z TI TO i1 i2 l1 l2 S:Addr}{i:Nat}{xs ys:Array Value}{as:List Addr}(t:Nm h z TI TO i1 i2 l1 l2 i xs ys as)(k:∀b o,b≠S->h.get? b=some o->h'.get? b=some o)(n1:z≠S)(n2:TI≠S)(n3:TO≠S)(n4:i1≠S)(n5:i2≠S)(n6:l1≠S)(n7:l2≠S)(n8:∀a∈as,a≠S):Nm h' z TI TO i1 i2 l1 l2 i xs ys as:=by
 obtain⟨hz,ti,⟨u,v,to⟩,r1,r2,x,y,len,pr⟩:=t;refine⟨?_,k _ _ n2 ti,⟨u,v,k _ _ n3 to⟩,r1.at fun o e=>k _ _ n4 e,r2.at fun o e=>k _ _ n5 e,?_,?_,len,fun j a hj=>?_⟩
 .rcases hz with ⟨e,q⟩|⟨a,r,f,e,q⟩
  .exact .inl ⟨e,k _ _ n1 q⟩
  .exact .inr ⟨a,r,f,e,k _ _ n1 q⟩
 .obtain⟨o,e,q⟩:=x;exact⟨o,k _ _ n6 e,q⟩
 .obtain⟨o,e,q⟩:=y;exact⟨o,k _ _ n7 e,q⟩
 .obtain⟨u,v,e1,e2,e3⟩:=pr j a hj;exact⟨u,v,e1,e2,k _ _ (n8 a (cS hj)) e3⟩
theorem GL{S z TI TO i1 i2 l1 l2 lo:Addr}{xs ys:Array Value}{R:Result->Shared->Prop}(hh:A.handled=none)(D:ZipApart z TI TO i1 i2 l1 l2)(hn:xs.size<=1000)(Aw:xs.size=ys.size)(res:Value){h₁:Heap}(n1:z≠S)(n2:TI≠S)(n3:TO≠S)(n4:i1≠S)(n5:i2≠S)(n6:l1≠S)(n7:l2≠S)(O0:S<lo/\z<lo/\TO<lo/\i1<lo/\i2<lo)(hR:∀ (h':Heap) (tk:Nat) (cZ:Array Value) (c:Nat) (as:List Addr),(∀b o,b≠S->b≠z->b≠TO->b≠i1->b≠i2->h₁.get? b=some o->h'.get? b=some o)->h'.get? S=some { cls:=.type "list",dict:=none,data:=.seq cZ c,slots:=#[] }->as.length=xs.size->as.Nodup->(∀a∈as,lo<=a)->
   (∀ (j:Nat) a,as[j]?=some a->∃x y,xs[j]?=some x/\ys[j]?=some y/\IsPair h' a x y)->cZ.toList=as.map Value.ref->R (.ok (.ret res)) { s with heap:=h',toks:=tk }):
  ∀ (k i:Nat) (h:Heap) (tk c:Nat) (cZ:Array Value) (as:List Addr),xs.size-i=k->i<=xs.size->Nm h z TI TO i1 i2 l1 l2 i xs ys as->lo<=h.objs.size->(∀b o,b≠S->b≠z->b≠TO->b≠i1->b≠i2->h₁.get? b=some o->h.get? b=some o)->
   h.get? S=some { cls:=.type "list",dict:=none,data:=.seq cZ c,slots:=#[] }->cZ.toList=as.map Value.ref->as.Nodup->(∀a∈as,lo<=a)->
   codeAny (model prog w) A (.builtin "list.extend.loop" ⟨[.ref S,.ref z,res],[]⟩) R { s with heap:=h,toks:=tk }:=by
 obtain⟨m1,m2,m3,m4,m5⟩:=O0;intro k;induction k with
 |zero=>
  intro i h tk c cZ as hk hi st hl GN hS yp nd ab;have uw:i=xs.size:=by lia
  have d7:∀h',(∀c o,c≠z->c≠TO->c≠i1->c≠i2->h.get? c=some o->h'.get? c=some o)->R (.ok (.ret res)) { s with heap:=h',toks:=tk }:=fun h' kp=>by
   refine hR h' tk cZ c as (fun b o h1 h2 h3 h4 h5 e=>kp b o h2 h3 h4 h5 (GN b o h1 h2 h3 h4 h5 e)) (kp S _ n1.symm n3.symm n4.symm n5.symm hS) (by rw[st.len,uw]) nd ab (fun j a hj=>?_) yp;obtain⟨u,v,e1,e2,e3⟩:=st.pr j a hj;have:=ab a (cS hj);exact⟨u,v,e1,e2,kp a _ (fA (by lia)) (fA (by lia)) (fA (by lia)) (fA (by lia)) e3⟩
  refine j8 EF ?_;rw[og yS _];show wpAny _ A.in1 (pyNext (.ref z) >>= _) _ _ _;obtain⟨u,v,HS⟩:=st.to;rcases st.hz with ⟨e,q⟩|⟨a,r,f,e,q⟩
  .exact aA (wpAny_pyNext_zip_end (s:={ s with heap:=h,toks:=tk }) (A:=A.in1) hh D q st.ti HS st.r1 st.r2 st.x st.y (.inl (by simp;lia)) fun h' kp=>wpAny_pure (d7 h' kp))
  .obtain⟨u',v',_,_,ga⟩:=st.pr 0 a (by rw[e];rfl);exact aA (GK (s:={ s with heap:=h,toks:=tk }) (A:=A.in1) hh D q ga st.ti st.r1 st.x (by simp;lia) fun h' kp=>wpAny_pure (d7 h' kp))
 |succ k ih=>
  intro i h tk c cZ as hk hi st hl GN hS yp nd ab;have d9:i<xs.size:=by lia
  have ir:cZ.size=i:=by rw[<-lu,yp,aR,st.len]
  have hx:xs[i]?=some xs[i]:=by simp[d9]
  have hy:ys[i]?=some (ys[i]'(by lia)):=by simp
  have W1:∀a∈as,a<h.objs.size:=fun a ha=>by
   obtain⟨j,hj⟩:=uW.mp ha;obtain⟨_,_,_,_,e⟩:=st.pr j a hj;exact aT e
  have go:∀h' f,(∃u v,IsPair h' TO u v)->mj h' z TI TO (as.headD h.objs.size) f->h'.IsListIter i1 l1 (i+1)->h'.IsListIter i2 l2 (i+1)->IsPair h' h.objs.size xs[i] (ys[i]'(by lia))->h'.objs.size=h.objs.size+1->(∀c o,c≠z->c≠TO->c≠i1->c≠i2->h.get? c=some o->h'.get? c=some o)->
    wpAny (model prog w) A.in1 (updateSeq S (·.push (Value.ref h.objs.size)) >>= fun _=>again (.builtin "list.extend.loop" ⟨[.ref S,.ref z,res],[]⟩)) (fun d7 s'=>match d7 with|.done f=>R (.ok f) s'|.again c'=>c'.quiet=true/\codeAny (model prog w) A c' R s') (fun e s'=>R (.error e) s') { s with heap:=h',toks:=tk }:=fun h' f ⟨u,v,HS⟩ gz g1 g2 gp gs kp=>by
   have UD:=kp S _ n1.symm n3.symm n4.symm n5.symm hS;have up:∀b o,b≠S->h'.get? b=some o->(h'.update S (Obj.mapSeq (·.push (Value.ref h.objs.size)))).get? b=some o:=fun b o hb e=>(lI _ _ (dA hb)).trans e;have Ew:=lK (Obj.mapSeq (·.push (Value.ref h.objs.size))) UD rfl;have PV:∀a∈as++[h.objs.size],lo<=a:=fun a ha=>by
    rcases cw.mp ha with q|q
    .exact ab a q
    .rw[cU.mp q];exact hl
   have hnS:∀a∈as++[h.objs.size],a≠S:=fun a ha=>fA (br m1 (PV a ha));refine aA (vo UD rfl (wpAny_pure ⟨rj yS _,ih (i+1) _ tk _ (cZ.push (Value.ref h.objs.size)) (as++[h.objs.size]) (by lia) d9 ?_ ?_ (fun b o h1 h2 h3 h4 h5 e=>up b o h1 (kp b o h2 h3 h4 h5 (GN b o h1 h2 h3 h4 h5 e))) Ew (by rw[lP,yp,di];rfl) ?_ PV⟩) (by rw[ir];exact ba (show i<=1000 by lia) (by decide)) (by show (cZ.push (Value.ref h.objs.size)).size<=sizeLine+1;rw[Array.size_push,ir];exact ba (show i+1<=1001 by lia) (by decide)))
   .refine Nm.keep (h:=h') ⟨.inr ?_,kp _ _ D.TIz D.TITO D.TIi1 D.TIi2 st.ti,⟨u,v,HS⟩,g1,g2,?_,?_,by rw[df,st.len];rfl,fun j b hj=>?_⟩ up n1 n2 n3 n4 n5 n6 n7 hnS
    .cases as with
     |nil=>exact⟨_,[],f,rfl,gz⟩
     |cons a r=>exact⟨a,r++[h.objs.size],f,rfl,gz⟩
    .obtain⟨o,e,q⟩:=st.x;exact⟨o,kp _ _ D.l1z D.l1TO D.l1i1 D.l1i2 e,q⟩
    .obtain⟨o,e,q⟩:=st.y;exact⟨o,kp _ _ D.l2z D.l2TO D.l2i1 D.l2i2 e,q⟩
    .rcases Nat.lt_trichotomy j as.length with h1|h1|h1
     .rw[i6 h1] at hj;obtain⟨u',v',e1,e2,e3⟩:=st.pr j b hj;have:=ab b (cS hj);exact⟨u',v',e1,e2,kp b _ (fA (by lia)) (fA (by lia)) (fA (by lia)) (fA (by lia)) e3⟩
     .subst h1;have hb:h.objs.size=b:=by simpa using hj
      subst hb;rw[st.len];exact⟨_,_,hx,hy,gp⟩
     .have B6:(as++[h.objs.size])[j]?=none:=eZ (by rw[df,lH];lia);rw[B6] at hj;cases hj
   .rw[g_,gs];lia
   .exact jU.mpr ⟨nd,by simp,fun a ha b hb=>by rw[cU.mp hb];exact aW (W1 a ha)⟩
  refine j8 EF ?_;rw[og yS _];show wpAny _ A.in1 (pyNext (.ref z) >>= _) _ _ _;obtain⟨u,v,HS⟩:=st.to;rcases st.hz with ⟨e,q⟩|⟨a,r,f,e,q⟩
  .refine aA (wpAny_pyNext_zip_item (s:={ s with heap:=h,toks:=tk }) D q st.ti HS st.r1 st.r2 st.x st.y hx hy fun h' a1 a2 a3 a4 a5 a6 a7=>?_);exact go h' false ⟨_,_,a2⟩ (by rw[e];exact a1) a3 a4 a5 a6 a7
  .obtain⟨u',v',_,_,ga⟩:=st.pr 0 a (by rw[e];rfl);refine aA (D7 (s:={ s with heap:=h,toks:=tk }) D q ga st.ti st.r1 st.r2 st.x st.y hx hy fun h' a1 a3 a4 a5 a6 a7=>?_);exact go h' true ⟨u,v,a7 TO _ D.TOz D.TOi1 D.TOi2 HS⟩ (by rw[e];exact a1) a3 a4 a5 a6 fun c o c1 _ c3 c4 e=>a7 c o c1 c3 c4 e
theorem A6{z TI TO i1 i2 l1 l2:Addr}{xs ys:Array Value}{R:Result->Shared->Prop}(hh:A.handled=none)(D:ZipApart z TI TO i1 i2 l1 l2)(hn:xs.size<=1000)(Aw:xs.size=ys.size)(S:Addr)(c₀:Nat)(hS:s.heap.get? S=some { cls:=.type "list",data:=.seq #[] c₀ })(n1:z≠S)(n2:TI≠S)(n3:TO≠S)(n4:i1≠S)(n5:i2≠S)(n6:l1≠S)(n7:l2≠S)(st:Nm s.heap z TI TO i1 i2 l1 l2 0 xs ys [])(hR:∀ (h':Heap) (tk:Nat) (cZ:Array Value) (c:Nat) (as:List Addr),(∀b o,b≠S->b≠z->b≠TO->b≠i1->b≠i2->s.heap.get? b=some o->h'.get? b=some o)->h'.get? S=some { cls:=.type "list",dict:=none,data:=.seq cZ c,slots:=#[] }->as.length=xs.size->as.Nodup->(∀a∈as,s.heap.objs.size<=a)->
   (∀ (j:Nat) a,as[j]?=some a->∃x y,xs[j]?=some x/\ys[j]?=some y/\IsPair h' a x y)->cZ.toList=as.map Value.ref->R (.ok (.ret .none)) { s with heap:=h',toks:=tk }):
  wpAny (model prog w) A.in1 (Builtin.List.listExtendWith (.ref S) (.ref z) .none)
   (fun d7 s'=>match d7 with|.done f=>R (.ok f) s'|.again c'=>c'.quiet=true/\codeAny (model prog w) A c' R s') (fun e s'=>R (.error e) s') s:=by
 have gz:IsZip s.heap z TI TO .none:=by
  rcases st.hz with ⟨_,q⟩|⟨a,r,f,e,q⟩
  .exact q
  .cases e
 have hT:s.TypeIs (.ref z) "zip":=⟨_,gz,rfl⟩
 unfold Builtin.List.listExtendWith;refine aA (wpAny_typeOf hT ?_);have h1:Builtin.List.listSameRef (.ref S) (.ref z)=false:=by simp[Builtin.List.listSameRef,n1.symm]
 have h2:(Value.type "zip"==Value.type "list")=false:=by decide
 have h3:(Value.type "zip"==Value.type "tuple")=false:=by decide
 simp only[h1,h2,h3,Bool.or_false,i8,eK];refine aA (zM gz ?_);refine aA (hJ ?_);unfold Builtin.List.listLengthHint;refine aA (wpAny_specialOf hT A5 ?_);show wpAny _ A.in1 (specialOf (Value.ref z) (Str.ofString "__length_hint__") >>= _) _ _ _;refine aA (wpAny_specialOf hT yo ?_);refine wpAny_pure ?_;show wpAny _ A.in1 (rule "list.extend.makes-room" >>= fun _=>Builtin.List.listTouch (.ref S) >>= fun _=>
  again (.builtin "list.extend.loop" ⟨[.ref S,.ref z,.none],[]⟩)) _ _ _
 refine aA (fU ?_);refine aA ?_;show wpAny _ A.in1 (updateSeq S (·.push .none) >>= fun _=>updateSeq S (·.pop)) _ _ _;refine aA (vo hS rfl ?_);have UE:=lK (Obj.mapSeq (·.push Value.none)) hS rfl;refine vo (hz:=by seq_fits) UE rfl ?_;have hS₃:=lK (Obj.mapSeq (·.pop)) UE rfl;have RV:∀b o,b≠S->s.heap.get? b=some o->((s.heap.update S (Obj.mapSeq (·.push Value.none))).update S (Obj.mapSeq (·.pop))).get? b=some o:=
  fun b o hb e=>(lI _ _ (dA hb)).trans ((lI _ _ (dA hb)).trans e)
 have RW:∀ {a k x},s.heap.IsListIter a k x->a<s.heap.objs.size:=fun h=>let ⟨o,e,_⟩:=h;aT e;obtain⟨u,v,HS⟩:=st.to;refine wpAny_pure ⟨rj F.plain_extend_loop _,GL (s:=s) (h₁:=s.heap) (lo:=s.heap.objs.size) hh D hn Aw .none n1 n2 n3 n4 n5 n6 n7 ⟨aT hS,aT gz,aT HS,RW st.r1,RW st.r2⟩ hR xs.size 0 _ s.toks _ #[] [] (Nat.sub_zero _) (cx _)
  (st.keep RV n1 n2 n3 n4 n5 n6 n7 fun a ha=>(nomatch ha)) (by rw[g_,g_];exact aU _) (fun b o hb _ _ _ _ e=>RV b o hb e) hS₃ rfl jl fun a ha=>(nomatch ha)⟩
theorem tU{z TI TO i1 i2 l1 l2:Addr}{xs ys:Array Value}{Q:Value->Shared->Prop}(hh:A.handled=none)(D:ZipApart z TI TO i1 i2 l1 l2)(hn:xs.size<=1000)(Aw:xs.size=ys.size)(st:Nm s.heap z TI TO i1 i2 l1 l2 0 xs ys [])(hQ:∀ (h':Heap) (tk:Nat) (cZ:Array Value) (c:Nat) (as:List Addr),(∀b o,b≠z->b≠TO->b≠i1->b≠i2->s.heap.get? b=some o->h'.get? b=some o)->h'.get? s.heap.objs.size=some { cls:=.type "list",dict:=none,data:=.seq cZ c,slots:=#[] }->as.length=xs.size->as.Nodup->(∀a∈as,s.heap.objs.size<a)->
   (∀ (j:Nat) a,as[j]?=some a->∃x y,xs[j]?=some x/\ys[j]?=some y/\IsPair h' a x y)->cZ.toList=as.map Value.ref->Q (.ref s.heap.objs.size) { s with heap:=h',toks:=tk }):
  wpAny (model prog w) A (call (.type "list") [.ref z]) Q E s:=by
 refine callType_codes (Q₁:=fun obj s₁=>obj=.ref s.heap.objs.size/\s₁={ s with heap:=s.heap.push { cls:=.type "list",data:=.seq #[] } }) PySem.F.called_list (PySem.F.typeCall_list_1 _) PySem.F.entry_list_init
  (code_list_new _ ⟨rfl,rfl⟩) fun obj s₁ h₁=>?_
 obtain⟨rfl,rfl⟩:=h₁;have hS:(s.heap.push { cls:=.type "list",data:=.seq #[] }).get? s.heap.objs.size=some { cls:=.type "list",data:=.seq #[] }:=cB _ rfl;have gz:IsZip s.heap z TI TO .none:=by
  rcases st.hz with ⟨_,q⟩|⟨a,r,f,e,q⟩
  .exact q
  .cases e
 obtain⟨u,v,HS⟩:=st.to;have RW:∀ {a k x},s.heap.IsListIter a k x->a≠s.heap.objs.size:=fun h=>let ⟨o,e,_⟩:=h;aW (aT e);have l2':∀ {a x},s.heap.IsList a x->a≠s.heap.objs.size:=fun h=>let ⟨o,e,_⟩:=h;aW (aT e);have n1:=aW (aT gz);have n2:=aW (aT st.ti);have n3:=aW (aT HS);have n4:=RW st.r1;have n5:=RW st.r2;have n6:=l2' st.x;have n7:=l2' st.y;have tI:=st.keep (h':=s.heap.push { cls:=.type "list",data:=.seq #[] }) (S:=s.heap.objs.size) (fun b o _ e=>bL _ e) n1 n2 n3 n4 n5 n6 n7 fun a ha=>(nomatch ha)
 refine⟨⟨_,hS,rfl⟩,PySem.F.args_list_init_2 _ _,?_⟩;show wpAny _ A.in1.in1 (do let gU <- Builtin.List.listItems (.ref s.heap.objs.size);Builtin.List.listUpdate (.ref s.heap.objs.size) (fun _=>#[]);letGo gU.toList.reverse;Builtin.List.listExtendWith (.ref s.heap.objs.size) (.ref z) .none) _ _ _;refine aA ?_;unfold Builtin.List.listItems;refine aA (jH hS rfl (wpAny_pure ?_));show wpAny _ A.in1.in1 (updateSeq s.heap.objs.size (fun _=>#[]) >>= fun _=>letGo (#[]:Array Value).toList.reverse >>= fun _=>Builtin.List.listExtendWith (.ref s.heap.objs.size) (.ref z) .none) _ _ _;refine aA (vo hS rfl ?_);have UE:=lK (Obj.mapSeq (fun _=>(#[]:Array Value))) hS rfl;have RV:∀b o,b≠s.heap.objs.size->(s.heap.push { cls:=.type "list",data:=.seq #[] }).get? b=some o->((s.heap.push { cls:=.type "list",data:=.seq #[] }).update s.heap.objs.size (Obj.mapSeq (fun _=>(#[]:Array Value)))).get? b=some o:=
  fun b o hb e=>(lI _ _ (dA hb)).trans e
 refine aA (wpAny_letGo ?_);refine A6 (A:=A.in1) hh D hn Aw _ _ UE n1 n2 n3 n4 n5 n6 n7 (tI.keep RV n1 n2 n3 n4 n5 n6 n7 fun a ha=>(nomatch ha)) fun h' tk cZ c as hk UD hl hnd nI hpr yp=>⟨rfl,?_⟩
 refine hQ h' tk cZ c as (fun b o b1 b2 b3 b4 e=>hk b o (aW (aT e)) b1 b2 b3 b4 (RV _ _ (aW (aT e)) (bL _ e))) UD hl hnd (fun a ha=>?_) hpr yp;have:=nI a ha;rw[g_,im] at this;exact this
end
theorem aS.many(I:aS X af σ H s)(k:∀b u,s.heap.get? b=some u->h'.get? b=some u)(gU:∀b,b<s.heap.objs.size->H' b=H b)(new:∀b o,s.heap.objs.size<=b->H' b=some o->cL X.prog X.w H' h' b o):aS X af σ H' { s with heap:=h',toks:=t' }:=by
 have sm:∀b o,H b=some o->H' b=some o:=fun b o e=>by rw[gU b (I.cz b o e).lt];exact e
 refine I.un ⟨fun b u q _ _ _=>k b u q,fun b u q _ _ _=>⟨u.slots,k b u q⟩,fun b u q n _=>by rw[gU b (aT q)];exact n,fun b u q _=>⟨u,k b u q⟩,fun b xs q=>sm b _ q,fun b u xs q=>sm b _ q,fun b ps q=>⟨#[],by rw[sm b _ q];simp⟩⟩ fun b o e=>?_;by_cases hb:b<s.heap.objs.size
 .rw[gU b hb] at e;exact(I.cz b o e).iV (fun d u _ q=>k d u q) (fun d q=>sm d _ q) fun d xs q=>sm d _ q
 .exact new b o (Nat.not_lt.mp hb) e
open p6 in
def yq(H:Hp)(S:Addr)(zs:Zs):Hp:=fun b=>if b=S then some (.lst (zr zs)) else match zs.find? (fun z=>decide (z.1=b)) with
 |some z=>some (ng z.2)
 |none=>H b
open p6 in
theorem Cv:∀ {zs:Zs} {z:Addr×Int×Int},(zs.map (·.1)).Nodup->z∈zs->zs.find? (fun y=>decide (y.1=z.1))=some z
 |y::zs,z,nd,hz=>by
  obtain⟨n1,n2⟩:=fN.mp nd;rw[j4];rcases bn.mp hz with rfl|q
  .simp
  .have:y.1≠z.1:=fun e=>n1 (bB.mpr ⟨z,q,e.symm⟩);rw[fL this];exact Cv n2 q
section
open p6
variable {X:Cx}
def tLZ(K:PySem.W.Frag)(ta:TA):TE:=fun σ H Q=>ta σ H fun vs H1=>∃ (a b:Addr) (ns ms:List Int),vs=[.ref a,.ref b]/\a9 K H1 a (ns.map V.int)/\a9 K H1 b (ms.map V.int)/\ns.length=ms.length/\ns.length<=1000/\
 ∀ (l:Addr) (zs:Zs) (H':Hp),aL H1 H'->H1 l=none->H' l=some (.lst (zr zs))->p6.PO H' zs->zp zs=ns.zip ms->Q (.ref l) H'
theorem sI:∀ {ns:List Int} {us:List Value} {j:Nat} {x:Value},a8 (ns.map V.int) us->us[j]?=some x->∃n t,ns[j]?=some n/\x=.int n t
 |[],_,j,x,.nil,h=>by cases h
 |n::ns,_,0,x,.cons ⟨t,e⟩ r,h=>by subst e;cases h;exact⟨n,t,rfl,rfl⟩
 |n::ns,_,j+1,x,.cons _ r,h=>sI (ns:=ns) r h
theorem Cw:∀ {zs:Zs},a8 (zr zs) (zs.map fun z=>Value.ref z.1)
 |[]=>.nil
 |z::zs=>.cons rfl (Cw (zs:=zs))
theorem RX{a b:Expr}{ta:TA}{p p2 pos RY:Pos}(hc:X.calm=true)(hg:Gl X "zip")(hm:X.mg "zip"=none)(HN:Gl X "list")(QD:X.mg "list"=none)(ha:PA X [a,b] ta)(hs:starEach [a,b] X.env=[(false,eval a X.env),(false,eval b X.env)]:=by rfl)(oX:starEach [b] X.env=[(false,eval b X.env)]:=by rfl)(he:starEach [.Call (.Name "zip" p) [a,b] [] pos] X.env=[(false,eval (.Call (.Name "zip" p) [a,b] [] pos) X.env)]:=by rfl)(QU:starEach [] X.env=[]:=by rfl):
  PE X (.Call (.Name "list" p2) [.Call (.Name "zip" p) [a,b] [] pos] [] RY) (tLZ X.K ta):=by
 intro af s σ H Q I h;refine lN (iW I HN QD nU ?_);refine callWith_type1 ?_ (by rw[he,QU]) (by rw[QU];rfl);rw[he];show wpAny _ _ (spliced ((false,eval (.Call (.Name "zip" p) [a,b] [] pos) X.env)::backTo RY [])) _ _ s;refine Calls.spliced_cons ?_;refine Call_ (iW I hg hm PyProof.Rows.boot_zip (nM (dJ (ha pos af s σ H _ I h) fun us s1 ⟨vs,H1,I1,r1,q1⟩=>?_) (by rw[hs,oX]) (by rw[oX];rfl)));obtain⟨l,m,ns,ms,rfl,hl,Wd,Aw,O4,q⟩:=q1;obtain⟨u1,u2,rfl,QV,We⟩:=r1.two;obtain rfl:u1=Value.ref l:=QV;obtain rfl:u2=Value.ref m:=We;obtain⟨its,rv,pt,_⟩:=I1.list hl;obtain⟨rF,Wf,HI,_⟩:=I1.list Wd;have il:its.length=ns.length:=by rw[<-rv.length,aR]
 have il2:rF.length=ms.length:=by rw[<-Wf.length,aR]
 have d9:l<s1.heap.objs.size:=by obtain⟨o,e,_⟩:=pt.isList;exact aT e
 have Az:m<s1.heap.objs.size:=by obtain⟨o,e,_⟩:=HI.isList;exact aT e
 refine call_zip_2 pt.isList HI.isList fun h' gz gi gq r1 r2 gs k=>?_;refine Calls.spliced_nil ?_;have kl:∀ {a x},s1.heap.IsList a x->h'.IsList a x:=fun z=>let ⟨o,e,r⟩:=z;⟨o,k _ _ e,r⟩;refine tU (s:={ s1 with heap:=h' }) (I1.ok.hd hc) (zipApart_new d9 Az) (by simp;lia) (by simp;lia) ⟨.inl ⟨rfl,gz⟩,gi,⟨_,_,gq⟩,r1,r2,kl pt.isList,kl HI.isList,rfl,fun j a hj=>by simp at hj⟩ fun h2 tk cZ c as k2 hS W1 nd ab pr yp=>?_;have kk:∀b u,s1.heap.get? b=some u->h2.get? b=some u:=fun b u e=>by
  have:=aT e;exact k2 b u (aW (by lia)) (aW (by lia)) (aW (by lia)) (aW (by lia)) (k b u e)
 have gs':h'.objs.size=s1.heap.objs.size+5:=gs;have aai:as.length=ns.length:=by rw[W1];simp;exact il
 let zs:Zs:=as.zip (ns.zip ms)
 have z1:zs.map (·.1)=as:=List.map_fst_zip (by rw[oy];lia);have z2:zp zs=ns.zip ms:=List.map_snd_zip (by rw[oy];lia);have W2:(zs.map (·.1)).Nodup:=by rw[z1];exact nd
 have W3:∀z∈zs,h'.objs.size<z.1/\∃t u,IsPair h2 z.1 (.int z.2.1 t) (.int z.2.2 u):=fun z hz=>by
  obtain⟨j,hj⟩:=uW.mp hz;obtain⟨e1,e2⟩:=uO.mp hj;obtain⟨e3,e4⟩:=uO.mp e2;obtain⟨x,y,f1,f2,f3⟩:=pr j z.1 e1;obtain⟨n,t,g1,rfl⟩:=sI rv (by simpa using f1);obtain⟨n',u,g2,rfl⟩:=sI Wf (by simpa using f2);rw[e3] at g1;rw[e4] at g2;cases g1;cases g2;exact⟨ab _ (cS e1),t,u,f3⟩
 have fS:∀z∈zs,z.1≠h'.objs.size:=fun z hz=>fA (W3 z hz).1;have po:p6.PO (yq H1 h'.objs.size zs) zs:=fun z hz=>by
  unfold yq;rw[av (fS z hz),Cv W2 hz]
 have GP:(yq H1 h'.objs.size zs) h'.objs.size=some (.lst (zr zs)):=by unfold yq;rw[ak rfl]
 have gU:∀b,b<s1.heap.objs.size->(yq H1 h'.objs.size zs) b=H1 b:=fun b hb=>by
  unfold yq;rw[av (aW (by lia)),zq.mpr fun z hz q=>?_];have:=(W3 z hz).1;have:=eE q;lia
 have hrl:cZ.toList=zs.map fun z=>Value.ref z.1:=by rw[yp,<-z1,dQ];rfl
 have I2:aS X af σ (yq H1 h'.objs.size zs) { s1 with heap:=h2,toks:=tk }:=I1.many (t':=tk) kk gU fun b o hb e=>by
  unfold yq at e;by_cases eb:b=h'.objs.size
  .subst eb;rw[ak rfl] at e;cases e;refine⟨?_,cZ.toList,c,?_,by simpa using hS⟩
   .rw[dD,<-bQ,z2,oy];exact ba (show _<=1000 by lia) (by decide)
   .rw[hrl];exact Cw
  .rw[av eb] at e;cases f:zs.find? (fun z=>decide (z.1=b)) with
   |none=>
    rw[f] at e;have:H1 b=some o:=e;exact absurd (I1.cz b o this).lt (by lia)
   |some z=>
    rw[f] at e;cases e;have hz:=EG f;obtain rfl:z.1=b:=eE (zI (p:=fun z:Addr×Int×Int=>decide (z.1=b)) f);obtain⟨_,t,u,gp⟩:=W3 z hz;exact⟨by show 2<=sizeLine;decide,[.int z.2.1 t,.int z.2.2 u],.cons ⟨_,rfl⟩ (.cons ⟨_,rfl⟩ .nil),_,gp,rfl,_,rfl,rfl⟩
 exact⟨.ref h'.objs.size,_,I2,rfl,q _ zs _ (fun b o e=>by rw[gU b (I1.cz b o e).lt];exact e) (I1.cz.fresh (by lia)) GP po z2⟩
end
end L2
namespace p6
open PySem L2 je
abbrev Nn:Stmt:=top 45
abbrev No:Stmt:=top 46
theorem jP:(["_law_turn","_law_left","_law_pot_here"]:List Str).Nodup:=by decide +kernel
theorem wz:(["_law_tie","_law_found"]:List Str).Nodup:=by decide +kernel
theorem qk:(["_law_house","_law_counts"]:List Str).Nodup:=by decide +kernel
theorem mm:(["_law_k","_law_left","_law_pot_here"]:List Str).Nodup:=by decide +kernel
theorem iC:(["_law_one","_law_other","_law_names"]:List Str).Nodup:=by decide +kernel
abbrev Np(K:PySem.W.Frag):TE:=(ZG K "list" E_ (aY 1) (bz (pO gE [] E0 (bz (aY 2) (bz (Ua (fun xs H Q=>∃p ys,xs=[V.ref p]/\(a9 K H p ys\/bU K H p ys)/\Q (.int ys.length) H) (bz (aY 1) gg)) gg))) gg))
def ql(n:Nat)(ts:Ts):List Nat:=(List.range n).map fun (h:Nat)=>e_ ts (ci h)
theorem GQ:(ql n ts).length=n:=by unfold ql;rw[aR,cu]
theorem GR(hh:h<n):(ql n ts).getD h 0=e_ ts (ci h):=by
 unfold ql;rw[bY,bZ,fc hh];rfl
theorem GS:(mh xs).map (·.1)=xs.map ci:=by
 unfold mh;rw[dQ];refine lw fun k=>?_;rw[bZ,bZ];by_cases h:k<xs.length
 .rw[fc h,cg h];exact congrArg (fun x=>some (ci x)) (cM h)
 .rw[eZ (by rw[cu];lia),eZ (by lia)];rfl
theorem yr(nd:xs.Nodup):e_ (mh xs) (ci h)=if h∈xs then 1 else 0:=by
 unfold e_;rw[gD,GS];have W2:=r9 nd;have e:ci h∈xs.map ci↔h∈xs:=by
  rw[bB];exact⟨fun ⟨a,ha,e⟩=>cK e ▸ ha,fun hh=>⟨h,hh,rfl⟩⟩
 by_cases hh:h∈xs
 .rw[ak hh];exact Nat.le_antisymm (List.nodup_iff_count.mp W2 _) (List.count_pos_iff.mpr (e.mpr hh))
 .rw[av hh];exact List.count_eq_zero.mpr fun z=>hh (e.mp z)
theorem D8:List.replicate n (V.int 1)=NV (ql n (mh (List.range n))):=by
 refine lw fun i=>?_;unfold NV ql;rw[dQ,qP,bZ];by_cases hi:i<n
 .rw[ak hi,fc hi];show some (V.int 1)=some (V.int ((e_ (mh (List.range n)) (ci i):Nat):Int));rw[yr jW,ak (bK.mpr hi)];rfl
 .rw[av hi,eZ (by rw[cu];lia)];rfl
theorem RZ(h:0<zs.length):zr zs≠NV ns:=fun e=>by
 cases zs with
 |nil=>exact absurd h (ip _)
 |cons z zs=>
  cases ns with
  |nil=>cases e
  |cons n ns=>exact absurd (lT e).1 (by intro z;cases z)
theorem _root_.je.b8.pos(F:b8 n ts):0<ts.length:=by
 obtain⟨k,w⟩:=F.con 0 1 (by have:=F.n1;lia) (by have:=F.n1;lia);cases k with
 |zero=>cases w
 |succ k=>obtain⟨c,_,t⟩:=w;exact qQ t
theorem D9:(cs.map ci).zip ((cs.drop 1++cs.take 1).map ci)=mh cs:=by
 refine lw fun k=>?_;unfold mh;rw[bZ];by_cases h:k<cs.length
 .rw[fc h];refine uO.mpr ⟨?_,?_⟩
  .show _=some (ci (cs.getD k 0));rw[bZ,cg h,cM h];rfl
  .show _=some (ci (cs.getD ((k+1) % cs.length) 0));rw[bZ];by_cases h2:k+1<cs.length
   .rw[i6 (by rw[lQ];lia),List.getElem?_drop,Nat.add_comm 1 k,cg h2,lx h2,cM h2];rfl
   .rw[pL (by rw[lQ];lia),lQ,show k-(cs.length-1)=0 by lia,show k+1=cs.length by lia,Nat.mod_self,yW (by lia),cg (by lia),cM (by lia)];rfl
 .rw[eZ (by rw[oy,aR,aR,df,lQ,jY];lia),eZ (by rw[cu];lia)];rfl
theorem yt(hp:bf H p)(hL:H L=some (.lst (NV (List.range m))))(npL:L≠p)(hD:H D'=none)(hr:r<=m)(hm:m<=32)(q:∀ (xs ls:List Nat) (H2:Hp),(∀b o,H b=some o->b≠p->b≠L->H2 b=some o)->bf H2 p->H2 D'=some (.lst (NV xs))->(xs++ls).Perm (List.range m)->xs.length=r->d7 H2):
  gu (Ek 0 r) (bD 0) Mb (Np K) D' d7 [none,some (.ref L),some (.ref p)] (upd H D' (.lst [])):=by
 have npD:D'≠p:=hp.ne hD;have W4:L≠D':=am hL hD;refine eN (n:=r) (lo:=0) (fun i ys σ H2=>(∃k,σ=[k,some (.ref L),some (.ref p)])/\(∀b o,H b=some o->b≠p->b≠L->H2 b=some o)/\bf H2 p/\∃ls xs:List Nat,H2 L=some (.lst (NV ls))/\H2 D'=some (.lst ys)/\ys=NV xs/\(xs++ls).Perm (List.range m)/\xs.length=i)
  ⟨⟨_,rfl⟩,fun b o e _ _=>ai hD b o e,hp.same (ai hD),List.range m,[],by rw[ao W4];exact hL,ae,rfl,jG _,rfl⟩ ?_ ?_
 .rintro i ys σ H2 Kt Kf hi ⟨⟨k',rfl⟩,sm,xQ,ls,xs,UF,jA,rfl,pm,xl⟩ kt kf;have ll:ls.length=m-i:=by have:=pm.length_eq;rw[df,cu] at this;lia
  refine⟨_,rfl,.inl ⟨rfl,_,a9.of UF⟩,_,rfl,_,rfl,L,_,rfl,.inl (a9.of UF),p,_,rfl,by rw[bj];lia,by rw[bj];lia,xQ,fun d H3 hd s3 mw=>?_⟩;rw[bj] at hd;have hv:ls[d]?=some ls[d]:=cg hd;refine⟨L,_,(d:Int),d,.int (ls[d]:Nat),rfl,rfl,s3 _ _ UF npL,by lia,by lia,(vL (eG (by rw[bj];exact hd))).1,by unfold NV;rw[bZ,hv];rfl,?_⟩;refine kt _ _ _ (by rw[ao W4.symm];exact s3 _ _ jA npD) (by rw[bj,xl];exact br (show i<33 by lia) (by decide)) ⟨⟨_,rfl⟩,fun b o e n n2=>?_,?_,ls.eraseIdx d,xs++[ls[d]],by rw[ao W4,ae,yf],ae,by rw[iR],Gp pm hv,by rw[df,xl];rfl⟩
  .rw[ao (am e hD),ao n2];exact s3 _ _ (sm _ _ e n n2) n
  .exact(mw.put npL.symm).put npD.symm
 .rintro ys σ H2 ⟨_,sm,xQ,ls,xs,UF,jA,rfl,pm,xl⟩;exact q xs ls H2 sm xQ jA pm xl
section
variable {P:Program} {w:World} {K:PySem.W.Frag} {mg:Str->Option Value} {base:Heap}
theorem Cy:aP ["_law_pot_here","_law_many","_law_ties","_law_names","_law_left"] ["_law_pot_here","_law_many","_law_ties"] (au No):=⟨rfl,rfl,rfl,by decide +kernel,rfl,by decide +kernel,by decide +kernel⟩
def Cz:Sp:=fun vs H Q _=>∃ (p l:Addr) (n:Nat) (zs:Zs),vs=[.ref p,.int n,.ref l]/\bf H p/\H l=some (.lst (zr zs))/\PO H zs/\l≠p/\b8 n (zp zs)/\∀ (r:Addr) (r6:Zs) (H':Hp),aN p H H'->bf H' p->H r=none->H' r=some (.lst (zr r6))->PO H' r6->b8 n (zp r6)->Q (.ref r) H'
theorem Nq(F:hV K "_law_renamed" "_law_renamed" No f fd)(B:Bl mg)(D:dH P w K mg base bh 1 "_law_take" ["_law_pot_here","_law_many"] gE):bJ P w K mg base bh 2 f fd ["_law_pot_here","_law_many","_law_ties"] Cz:=by
 refine F.ok Cy (fun vs H Q E h=>?_) (fun eV A outer s H vs Q E hr h=>?_)
 .obtain⟨p,l,n,zs,rfl,_⟩:=h;rfl
 .obtain⟨p,l,n,zs,rfl,hp,hl,po,nlp,Fi,q⟩:=h;have n2:=Fi.n2;have zl:zs.length<=256:=by have:=Fi.len;rwa [bQ] at this
  refine'⟨_,(aj (aV (i:=3) Cy.nd rfl (Or.inr rfl) (cA (l6 rfl) (by rfl) B.lst nU (aa (cA kH (by rfl) B.range yY (aa (pv 1) ag)) ag)))
   (aj (cC (aM hU (aJ D hr aO (aa (pv 0) (aa aB ag))) aB (a_ _)) (aj (aV (i:=4) Cy.nd rfl (Or.inr rfl) (cA (l6 rfl) (by rfl) B.lst nU (aa (cA kH (by rfl) B.range yY (aa (pv 1) ag)) ag)))
    (ap (aV (i:=3) Cy.nd rfl (Or.inr rfl) ?c1))) bp)
   (ap (be ?c2)))),?_⟩
  case c1=>
   refine' cD (g:=(bD 0)) (te:=(Np K)) (NB:=["_law_k","_law_left","_law_pot_here"]) (src:=[none,some 4,some 0]) (bq (by kernel_rfl)) rfl (bE rfl B.range (aa (pv 1) ag)) ?g ?t ?e;case g=>exact fun cl C s₃ H₃ fp=>(az (i:=0) mm rfl (Or.inl rfl) (Or.inr rfl))
   case t=>exact fun cl C s₃ H₃ fp=>c_
   case e=>exact fun cl C s₃ H₃ fp=>(gK gI PySem.F.slot_list_pop PySem.F.type_list_pop xo (pv 1) (aa (aJ D hr aO (aa (pv 2) (aa (aI aQ (by rfl) B.len dU (aa (pv 1) ag)) ag))) ag))
  case c2=>
   refine' cD (g:=(sY K 2 (fV (bD 0) (fV (bD 1) sX)))) (te:=(o4 (bz (iI (qc K) (aY 2) (aY 0)) (bz (iI (qc K) (aY 2) (aY 1)) gg)))) (NB:=["_law_one","_law_other","_law_names"]) (src:=[none,none,some 3]) (bq (by kernel_rfl)) rfl (bV (pv 2)) ?g ?t ?e;case g=>exact fun cl C s₃ H₃ fp=>(dC (n:=2) rfl (aG (az (i:=0) iC rfl (Or.inl rfl) (Or.inr rfl)) (aG (az (i:=1) iC rfl (Or.inl rfl) (Or.inr rfl)) cr)))
   case t=>exact fun cl C s₃ H₃ fp=>c_
   case e=>exact fun cl C s₃ H₃ fp=>(cH (aa (aX aK (pv 2) (pv 0) (fun _ _=>rfl)) (aa (aX aK (pv 2) (pv 1) (fun _ _=>rfl)) ag)))
  refine⟨_,rfl,n,rfl,fun R hR=>⟨R,n,rfl,ae,by lia,fun N hN=>?_⟩⟩;have s0:aL H (upd (upd H R (.Br 0 n)) N (.lst (NV (List.range n)))):=(ai hR).trans (ai hN);have gN:=ae (H:=upd H R (.Br 0 n)) (a:=N) (o:=.lst (NV (List.range n)));have W5:H N=none:=(ai hR).free hN;generalize upd (upd H R _) N _=H0 at *;dsimp only;refine uC (fun σ Hc=>∃N xs v,σ=[some (.ref p),some (.int n),some (.ref l),some (.ref N),v]/\aN p H Hc/\bf Hc p/\Hc N=some (.lst (NV xs))/\xs.Perm (List.range n)) ?_ ?_
  .rintro σ Hc ⟨N,xs,v,rfl,sc,mi,hNc,pm⟩;have xl:xs.length=n:=by have:=pm.length_eq;rwa [cu] at this
   have hlc:=sc _ _ hl nlp;have poc:=po.nr sc hp;refine⟨_,rfl,l,rfl,⟨_,a9.of hlc⟩,fun D1 AX=>?_⟩;refine sn (ren xs) (fun σ=>∃a b,σ=[a,b,some (.ref N)]) hlc poc AX (by lia) ⟨_,_,rfl⟩ ?_ ?_
   .rintro z σ H3 Rr Kf hz ⟨a,b,rfl⟩ s3 ha kt;obtain⟨⟨a0,a1⟩,⟨b0,b1⟩⟩:=Fi.rg z.2 (bB.mpr ⟨z,hz,rfl⟩);have gt:∀x:Int,0<=x->x<n->yH (NV xs) x=some (.int (ci (xs.getD x.toNat 0))):=fun x h0 h1=>by
     have:=aD (xs:=NV xs) (hX (xs:=xs) (j:=x.toNat) (by lia));rwa [n_ h0] at this
    refine⟨z.1,_,rfl,bU.of ha,rfl,_,_,rfl,_,_,rfl,rfl,?_⟩;exact⟨_,rfl,_,rfl,N,_,_,_,rfl,rfl,a9.of (s3 _ _ hNc),gt _ a0 a1,_,rfl,_,rfl,N,_,_,_,rfl,rfl,a9.of (s3 _ _ hNc),gt _ b0 b1,by show 2<=sizeLine;decide,fun t ht=>kt _ _ ⟨_,_,rfl⟩ ht⟩
   .intro r6 H3 s3 h3 Js e3 _;exact q D1 r6 H3 (sc.trans (aN.of s3)) (mi.same s3) (sc.free mi.full AX) h3 Js (by rw[e3];exact Fi.ren pm)
  .intro Nx hNx;refine⟨_,rfl,p,2,rfl,by decide,by decide,hp.same s0,fun d H1 hd s1 mr=>⟨rfl,_,rfl,?_⟩⟩;have Lq:aN p H H1:=(aN.of s0).trans s1;refine fX (fun c=>?_) (fun c=>hNx _ _ ⟨N,_,_,rfl,Lq,mr,s1 _ _ gN (hp.ne W5),jG _⟩);refine⟨_,rfl,n,rfl,fun R2 tR=>⟨R2,n,rfl,ae,by lia,fun L hL=>?_⟩⟩;have sL:aL H1 (upd (upd H1 R2 (.Br 0 n)) L (.lst (NV (List.range n)))):=(ai tR).trans (ai hL);have gL:=ae (H:=upd H1 R2 (.Br 0 n)) (a:=L) (o:=.lst (NV (List.range n)));have tS:H1 L=none:=(ai tR).free hL;generalize upd (upd H1 R2 _) L _=H2 at *;refine⟨_,rfl,(n:Int),rfl,by lia,by lia,fun D1 AX=>?_⟩;rw[gk];refine yt (mr.same sL) gL (mr.ne tS) AX (aU _) n2 fun xs ls H3 s3 mw h3 pm xl=>?_;obtain rfl:ls=[]:=List.length_eq_zero_iff.mp (by have:=pm.length_eq;rw[df,cu] at this;lia);rw[j5] at pm;refine hNx _ _ ⟨D1,xs,_,rfl,fun b o e m=>s3 _ _ (sL _ _ (Lq _ _ e m)) m ?_,mw,h3,pm⟩;rintro rfl;rw[Lq _ _ e m] at tS;cases tS
theorem kO:aP ["_law_pot_here","_law_many","_law_found","_law_counts","_law_k","_law_left","_law_size","_law_some","_law_ties","_law_new","_law_house"] ["_law_pot_here","_law_many"] (au Nn):=⟨rfl,rfl,rfl,by decide +kernel,rfl,by decide +kernel,by decide +kernel⟩
def GT:Sp:=fun vs H Q _=>∃ (p:Addr) (n:Nat),vs=[.ref p,.int n]/\2<=n/\n<=32/\bf H p/\∀ (r:Addr) (zs:Zs) (H':Hp),aN p H H'->bf H' p->H r=none->H' r=some (.lst (zr zs))->PO H' zs->b8 n (zp zs)->Q (.ref r) H'
theorem Nt(F:hV K "_law_one_way" "_law_one_way" Nn f fd)(B:Bl mg)(B2:M_ mg)(D:dH P w K mg base bh 1 "_law_take" ["_law_pot_here","_law_many"] gE)(RG:dH P w K mg base bh 1 "_law_ring" ["_law_many"] wv):bJ P w K mg base bh 2 f fd ["_law_pot_here","_law_many"] GT:=by
 refine F.ok kO (fun vs H Q E h=>?_) (fun eV A outer s H vs Q E hr h=>?_)
 .obtain⟨p,n,rfl,_⟩:=h;rfl
 .obtain⟨p,n,rfl,n1,n2,hp,q⟩:=h;refine'⟨_,(aj (dL (cH (aa (aJ RG hr aO (aa (pv 1) ag)) (aa (bb Aa (cY (aa aB ag)) (pv 1)) ag))) (dC (n:=2) rfl (aG (az (i:=2) kO.nd rfl (Or.inr rfl)) (aG (az (i:=3) kO.nd rfl (Or.inr rfl)) cr))))
   (aj (cQ dP rfl (bE rfl B.range (aa (aJ D hr aO (aa (pv 0) (aa (bb cX (pv 1) aB) ag))) ag)) (az (i:=4) kO.nd rfl (Or.inl rfl))
    (aj (aV (i:=5) kO.nd rfl (Or.inr rfl) (cA (l6 rfl) (by rfl) B.lst nU (aa (cA kH (by rfl) B.range yY (aa (pv 1) ag)) ag)))
    (aj (aV (i:=6) kO.nd rfl (Or.inl rfl) (bb cX aB (aJ D hr aO (aa (pv 0) (aa (aI (kZ rfl) (by rfl) B.min uT (aa aB (aa (bb jt (pv 1) aB) ag))) ag)))))
    (aj (dY (i:=7) (g:=(bD 0)) (te:=(Np K)) (NB:=["_law_turn","_law_left","_law_pot_here"]) (src:=[none,some 5,some 0]) (bq (by kernel_rfl)) rfl (bE rfl B.range (aa (pv 6) ag)) ?g1 ?t1 ?e1 kO.nd rfl rfl rfl)
    (aj (aV (i:=8) kO.nd rfl (Or.inl rfl) (RX rfl rfl B2.zip rfl B.lst (aa (pv 7) (aa (bb z_ (xj BI (pv 7) (BF aB) BC) (xj BI (pv 7) BC (BF aB))) ag))))
    (aj (dY (i:=9) (g:=(bD 0)) (tt:=(mE (iI (IU K true) (aY 0) (aY 1)))) (te:=(aY 0)) (NB:=["_law_tie","_law_found"]) (src:=[none,some 2]) (bq (by kernel_rfl)) rfl (bV (pv 8)) ?g2 ?t2 ?e2 kO.nd rfl rfl rfl)
    (ap (cC (PW.pt (ku (aM hU (aI aQ (by rfl) B.len dU (aa (pv 9) ag)) (aI aQ (by rfl) B.len dU (aa (pv 8) ag)) (a_ _)) (iN (aM kC (aI (DM rfl) (by rfl) B.max uU (aa ?c3 ag)) aB (a_ _))))) (aj (aV (i:=2) kO.nd rfl (Or.inr rfl) (bb z_ (pv 2) (pv 8)))
     (ap (cQ dP rfl (bV (pv 7)) (az (i:=10) kO.nd rfl (Or.inl rfl))
      (ap (dL (bb cX (aX aK (pv 3) (pv 10) (fun _ _=>rfl)) aB) (gC (pv 3) (pv 10) dR)))))) bp))))))))
   (ap (be (pv 2))))),?_⟩
  case g1=>exact fun cl C s₃ H₃ fp=>(az (i:=0) jP rfl (Or.inl rfl) (Or.inr rfl))
  case t1=>exact fun cl C s₃ H₃ fp=>c_
  case e1=>exact fun cl C s₃ H₃ fp=>(gK gI PySem.F.slot_list_pop PySem.F.type_list_pop xo (pv 1) (aa (aJ D hr aO (aa (pv 2) (aa (aI aQ (by rfl) B.len dU (aa (pv 1) ag)) ag))) ag))
  case g2=>exact fun cl C s₃ H₃ fp=>(az (i:=0) wz rfl (Or.inl rfl) (Or.inr rfl))
  case t2=>exact fun cl C s₃ H₃ fp=>fY (aM (k8 hr.u) (pv 0) (pv 1) rfl)
  case e2=>exact fun cl C s₃ H₃ fp=>(pv 0)
  case c3=>
   refine' cD (g:=(bD 0)) (te:=(iI (qc K) (aY 1) (aY 0))) (NB:=["_law_house","_law_counts"]) (src:=[none,some 3]) (bq (by kernel_rfl)) rfl (bV (pv 7)) ?g ?t ?e;case g=>exact fun cl C s₃ H₃ fp=>(az (i:=0) qk rfl (Or.inl rfl) (Or.inr rfl))
   case t=>exact fun cl C s₃ H₃ fp=>c_
   case e=>exact fun cl C s₃ H₃ fp=>(aX aK (pv 1) (pv 0) (fun _ _=>rfl))
  refine⟨_,rfl,n,rfl,n1,n2,fun T0 AN H1 s1 Nf hT1 R1 ez1=>⟨by show 1<=sizeLine;decide,fun L1 tS=>⟨_,rfl,L1,_,_,rfl,rfl,ae,by lia,by lia,by rw[gk,lH];exact ba (show 1*n<=32 by lia) (by decide),fun M hM=>?_⟩⟩⟩;rw[gk,nu,D8];refine⟨by show 2<=sizeLine;decide,fun T1 W6=>⟨T1,_,rfl,bU.of ae,rfl,_,_,rfl,_,_,rfl,rfl,?_⟩⟩;have F0:b8 n (zp AN):=by rw[ez1];exact(uB n1 n2 (jG _)).perm lj
  rw[<-ez1] at *;have s3:=ai (o:=.tup [.ref T0,.ref M]) W6;have sL:=ai (o:=.lst [.int 1]) tS;have s2:=(sL.trans (ai (o:=.lst (NV (ql n (zp AN)))) hM)).trans s3;have gT:=s2 _ _ hT1;have gM:=s3 _ _ (ae (H:=upd H1 L1 (.lst [.int 1])) (a:=M) (o:=.lst (NV (ql n (zp AN)))));have yl:=R1.same s2;have Pf:H M=none:=s1.free (sL.free hM);have HP:M≠p:=hp.ne Pf;have sH:=s1.trans s2;generalize upd (upd (upd H1 L1 _) M _) T1 _=H2 at *;clear s3 sL s2 hT1 R1;refine⟨_,rfl,_,rfl,_,_,rfl,rfl,p,n+1,rfl,by lia,by lia,hp.same sH,fun d H3 hd s3 mw=>⟨(d:Int),rfl,by lia,by lia,?_⟩⟩;rw[gk];refine dt (lo:=0) (n:=d) (fun i σ Hc=>∃ (T:Addr) (zs:Zs),(∃a b c e f g h,σ=[some (.ref p),some (.int n),some (.ref T),some (.ref M),a,b,c,e,f,g,h])/\aN p H Hc/\bf Hc p/\H T=none/\Hc T=some (.lst (zr zs))/\PO Hc zs/\Hc M=some (.lst (NV (ql n (zp zs))))/\b8 n (zp zs)) ⟨T0,AN,⟨_,_,_,_,_,_,_,rfl⟩,(aN.of sH).trans s3,mw,Nf,s3 _ _ gT (hp.ne Nf),yl.nr s3 (hp.same sH),s3 _ _ gM HP,F0⟩ ?_ ?_
  .clear gT gM yl F0 s3 mw sH;rintro i σ Hc hi ⟨T,zs,⟨x4,x5,x6,x7,x8,x9,HU,rfl⟩,sc,mi,hT,UG,po,A3,Fi⟩;have nTp:T≠p:=hp.ne hT;have UA:zs.length<=256:=by have:=Fi.len;rwa [bQ] at this
   have nTM:T≠M:=by rintro rfl;rw[UG] at A3;have:=HO.lst.inj (bN A3);exact RZ (by rw[bQ.symm];exact Fi.pos) this
   refine⟨_,rfl,n,rfl,fun R hR=>⟨R,n,rfl,ae,by lia,fun L hL=>?_⟩⟩;have sL:aL Hc (upd (upd Hc R (.Br 0 n)) L (.lst (NV (List.range n)))):=(ai hR).trans (ai hL);have gL:=ae (H:=upd Hc R (.Br 0 n)) (a:=L) (o:=.lst (NV (List.range n)));have hLc:Hc L=none:=(ai hR).free hL;have nLp:=mi.ne hLc;generalize upd (upd Hc R _) L _=H4 at *;have em:(if (n:Int)-1<4 then (n:Int)-1 else 4)=((min 4 (n-1):Nat):Int):=by split <;> lia
   refine⟨_,rfl,_,rfl,_,_,rfl,rfl,4,_,rfl,p,min 4 (n-1),by rw[em];rfl,by lia,by lia,mi.same sL,fun d2 H5 Uy s5 uE=>⟨_,_,rfl,rfl,?_⟩⟩;have e3:(2:Int)+(d2:Int)=((2+d2:Nat):Int):=by lia
   refine⟨_,rfl,((2+d2:Nat):Int),congrArg (fun v=>[V.int v]) e3,by lia,by lia,fun S hS=>?_⟩;rw[gk];refine yt uE (s5 _ _ gL nLp) nLp hS (by lia) n2 fun cs ls H6 s6 B5 R4 pm cl=>?_;have tJ:∀b o,Hc b=some o->b≠p->H6 b=some o:=fun b o e m=>s6 _ _ (s5 _ _ (sL _ _ e) m) m (am e hLc);have W7:cs.Nodup:=(jU.mp (pm.nodup_iff.mpr jW)).1;have UH:∀x∈cs,x<n:=fun x hx=>bK.mp (pm.mem_iff.mp (fw _ hx));have hT6:=tJ _ _ UG nTp;have Lo:=tJ _ _ A3 HP;have Lp:PO H6 zs:=fun z hz=>tJ _ _ (po z hz) (mi.neT (po z hz));have R7:aN p H H6:=fun b o e m=>tJ _ _ (sc _ _ e m) m;have nSM:S≠M:=(am (s5 _ _ (sL _ _ A3) HP) hS).symm;clear s6 s5 uE gL sL tJ hS pm;refine⟨_,rfl,_,rfl,_,rfl,S,_,rfl,a9.of R4,fun S1 Qy=>?_⟩;have W8:=ai (o:=.lst (jN (NV cs) (some 1) none)) Qy;refine⟨_,rfl,_,rfl,S,_,rfl,a9.of (W8 _ _ R4),fun S2 Ew=>?_⟩;have W9:=ai (o:=.lst (jN (NV cs) none (some 1))) Ew;refine⟨S1,S2,_,_,rfl,rfl,W9 _ _ ae,ae,?_,fun S3 hS3=>?_⟩
   .rw[show (1:Int)=((1:Nat):Int) from rfl,ym,Gx,lQ,jY,bj];exact ba (show _<=12 by lia) (by decide)
   have sS3:=ai (o:=.lst (jN (NV cs) (some 1) none++jN (NV cs) none (some 1))) hS3;have sS:=(W8.trans W9).trans sS3;have gS3:=ae (H:=upd (upd H6 S1 (.lst (jN (NV cs) (some 1) none))) S2 (.lst (jN (NV cs) none (some 1)))) (a:=S3) (o:=.lst (jN (NV cs) (some 1) none++jN (NV cs) none (some 1)));have e4:jN (NV cs) (some 1) none++jN (NV cs) none (some 1)=((cs.drop 1++cs.take 1).map ci).map V.int:=by
    rw[show (1:Int)=((1:Nat):Int) from rfl,ym,Gx];unfold NV;rw[<-List.map_drop,<-List.map_take,dQ,<-di];rfl
   have e5:NV cs=(cs.map ci).map V.int:=by unfold NV;rw[dQ];rfl
   refine⟨S,S3,cs.map ci,(cs.drop 1++cs.take 1).map ci,rfl,by rw[<-e5];exact a9.of (sS _ _ R4),by rw[<-e4];exact a9.of gS3,by simp;lia,by rw[aR];lia,fun Tn ms H7 s7 hTn UI W_ R8=>?_⟩;rw[D9] at R8;have HV:=sS.trans s7;have hS7:=HV _ _ R4;have Nu:=HV _ _ hT6;have Pk:=HV _ _ Lo;have Nh:=Lp.same HV;have GB:=B5.same HV;have UC:aN p H H7:=R7.trans (aN.of HV);have aaj:H Tn=none:=R7.free B5.full (sS.free hTn);clear HV s7 sS W8 W9 sS3 gS3 Lp Lo hT6 R4 R7 B5 e4 Qy Ew hS3;have ml:ms.length=cs.length:=by rw[<-bQ,R8];unfold mh;rw[aR,cu]
   refine⟨_,rfl,Tn,rfl,⟨_,a9.of UI⟩,fun Nw hNw=>?_⟩;refine JC (fun u=>!decide (u∈zp zs)) (fun σ=>∃x,σ=[x,some (.ref T)]) UI hNw (by lia) ⟨_,rfl⟩ ?_ ?_
   .rintro z σ H8 Kt Kf hz ⟨x,rfl⟩ Xa kt kf;obtain⟨l1,l2⟩:=yk (K:=K) (Nh.same Xa);refine⟨_,rfl,_,rfl,z.1,T,z.2,zs.map (fun z:Addr×Int×Int=>z.1),zp zs,rfl,rfl,bU.of (Xa _ _ (W_ z hz)),by rw[<-iQ];exact a9.of (Xa _ _ Nu),by rw[aR];exact l1,l2,_,rfl,?_⟩;exact fX (fun c=>⟨_,rfl,kt _ _ ⟨_,rfl⟩ (aL.refl _) c⟩) (fun c=>kf _ _ ⟨_,rfl⟩ (aL.refl _) (by simpa using c))
   intro H8 s8 hN8;have Xb:=s8 _ _ hS7;have R9:=s8 _ _ UI;have hT8:=s8 _ _ Nu;have UJ:=s8 _ _ Pk;have po8:=Nh.same s8;have Xc:=W_.same s8;have Xd:=GB.same s8;have Xe:aN p H H8:=UC.trans (aN.of s8);clear hS7 UI Nu Pk Nh W_ GB UC s8;refine⟨_,rfl,Nw,_,rfl,.inl (a9.of hN8),_,rfl,Tn,_,rfl,.inl (a9.of R9),rfl,_,rfl,?_⟩;have iV:∀Hd:Hp,aL H8 Hd->∃ (T':Addr) (r6:Zs),(∃a b c e f g h,[some (V.ref p),some (.int n),some (.ref T),some (.ref M),some (.int (0+(i:Int))),some (.ref L),some (.int (2+(d2:Int))),some (.ref S),some (.ref Tn),some (.ref Nw),HU]=[some (.ref p),some (.int n),some (.ref T'),some (.ref M),a,b,c,e,f,g,h])/\aN p H Hd/\bf Hd p/\H T'=none/\Hd T'=some (.lst (zr r6))/\PO Hd r6/\Hd M=some (.lst (NV (ql n (zp r6))))/\b8 n (zp r6):=fun Hd sd=>⟨T,zs,⟨_,_,_,_,_,_,_,rfl⟩,Xe.trans (aN.of sd),Xd.same sd,hT,sd _ _ hT8,po8.same sd,sd _ _ UJ,Fi⟩
   refine fX (fun c1=>?_) (fun c1=>gO (iV _ (aL.refl _)));have c2:(zr (ms.filter fun z=>!decide (z.2∈zp zs))).length=(zr ms).length:=cK (by simpa using c1);rw[tT (c:=fun u=>!decide (u∈zp zs)),dD,<-bQ] at c2;have Xf:∀t∈zp ms,t∉zp zs:=fun t ht=>by simpa using List.length_filter_eq_length_iff.mp c2 t ht
   refine⟨_,rfl,S,rfl,⟨_,a9.of Xb⟩,fun Ct hC=>?_⟩;refine JD cs (fun (x:Nat)=>V.int (x:Int)) (fun (x:Nat)=>V.int ((e_ (zp zs) (ci x):Nat):Int)) (fun σ=>∃x,σ=[x,some (.ref M)]) Xb hC (by lia) ⟨_,rfl⟩ ?_ ?_
   .rintro x σ UK R' Kf hx ⟨x',rfl⟩ Xg kt;refine⟨_,rfl,_,rfl,M,_,_,_,rfl,rfl,a9.of (Xg _ _ UJ),aD (hX (by rw[GQ];exact UH x hx)),?_⟩;rw[GR (UH x hx)];exact kt _ _ ⟨_,rfl⟩ (aL.refl _)
   intro UK Nv Xh;have R_:UK Ct=some (.lst ((cs.map fun (x:Nat)=>((e_ (zp zs) (ci x):Nat):Int)).map V.int)):=by rw[Xh,dQ];rfl
   refine⟨Ct,_,rfl,a9.of R_,fun z=>?_,fun Mx hMx tw=>⟨_,_,rfl,rfl,_,rfl,?_⟩⟩
   .have:=congrArg List.length z;rw[aR,cl] at this;simp at this
   refine fX (fun c3=>?_) (fun c3=>iV _ Nv);have Xi:=Nv _ _ hT8;have Sa:=Nv _ _ R9;refine⟨_,rfl,_,rfl,T,Tn,_,_,rfl,rfl,Xi,Sa,by rw[dD,dD];exact ba (show _<=300 by lia) (by decide),fun N hN=>?_⟩;have sN:=ai (o:=.lst (zr zs++zr ms)) hN;have W5:H N=none:=(Xe.trans (aN.of Nv)).free (Xd.same Nv).full hN;have F2:b8 n (zp (zs++ms)):=by
    rw[eA,R8];refine Fi.round W7 UH (by lia) (fun x hx=>?_) (fun t ht=>Xf t (by rw[R8];exact ht));have h7:((e_ (zp zs) (ci x):Nat):Int)<=Mx:=tw _ (bB.mpr ⟨x,hx,rfl⟩);have h8:Mx<8:=eE c3;lia
   have sA:=Nv.trans sN;have hMA:=sA _ _ UJ;have hSA:=sA _ _ Xb;have hNA:=ae (H:=UK) (a:=N) (o:=.lst (zr zs++zr ms));have poA:=(po8.append Xc).same sA;have hpA:=Xd.same sA;have sHA:aN p H _:=Xe.trans (aN.of sA);have nNM:N≠M:=(am (Nv _ _ UJ) hN).symm;generalize upd UK N _=HA at *;refine⟨_,rfl,S,rfl,⟨_,a9.of hSA⟩,fW (K:=K) (xs:=NV cs) (fun j σ He=>(∃a b c e f g h,σ=[some (.ref p),some (.int n),some (.ref N),some (.ref M),a,b,c,e,f,g,h])/\(∀b o,HA b=some o->b≠M->He b=some o)/\He M=some (.lst (NV ((List.range n).map fun (h:Nat)=>e_ (zp zs) (ci h)+if h∈cs.take j then 1 else 0)))) ⟨⟨_,_,_,_,_,_,_,rfl⟩,fun b o e _=>e,?_⟩ (fun j σ He _ z=>a9.of (z.2.1 _ _ hSA nSM)) ?_ ?_⟩
   .rw[hMA];simp[ql]
   .rintro j x σ He hx ⟨⟨y4,y5,y6,y7,y8,y9,Sb,rfl⟩,sk,UL⟩;obtain⟨c,hv,rfl⟩:=p7 hx;have hc:c<n:=UH c (cS hv);have hj:j<cs.length:=(dN.mp hv).1;have Er:c<((List.range n).map fun (h:Nat)=>e_ (zp zs) (ci h)+if h∈cs.take j then 1 else 0).length:=by rw[aR,cu];exact hc
    have cn:c∉cs.take j:=fun z=>by
     obtain⟨k,hk⟩:=uW.mp z;have hkl:k<j:=by have:=(dN.mp hk).1;rw[jY] at this;lia
     rw[yW hkl] at hk;obtain⟨k1,e1⟩:=dN.mp hk;obtain⟨k2,e2⟩:=dN.mp hv;have:=jg W7 k1 k2 (e1.trans e2.symm);lia
    refine⟨_,rfl,_,rfl,M,_,_,_,rfl,rfl,a9.of UL,aD (hX Er),_,_,rfl,rfl,_,rfl,_,rfl,M,_,(c:Int),c,rfl,rfl,UL,eG (by rw[bj];exact Er),⟨_,_,_,_,_,_,_,rfl⟩,fun b o e m=>by rw[ao m];exact sk b o e m,?_⟩;rw[ae];have eg:((List.range n).map fun (h:Nat)=>e_ (zp zs) (ci h)+if h∈cs.take j then 1 else 0).getD c 0=e_ (zp zs) (ci c):=by
     rw[bY,bZ,fc hc];show e_ (zp zs) (ci c)+(if c∈cs.take j then 1 else 0)=_;rw[av cn];rfl
    rw[eg];refine congrArg (fun l=>some (HO.lst l)) ((pG (x:=e_ (zp zs) (ci c)+1)).trans ?_);congr 1;refine lw fun k=>?_;rw[vd,bZ,bZ];have tk:cs.take (j+1)=cs.take j++[c]:=by rw[gj,hv];rfl
    by_cases hk:c=k
    .subst hk;rw[ak rfl,ak Er,fc hc];show _=some (e_ (zp zs) (ci c)+if c∈cs.take (j+1) then 1 else 0);rw[ak (by rw[tk];simp)]
    .rw[av hk];by_cases Ph:k<n
     .rw[fc Ph];show some (e_ (zp zs) (ci k)+if k∈cs.take j then 1 else 0)=some (e_ (zp zs) (ci k)+if k∈cs.take (j+1) then 1 else 0);have:(k∈cs.take (j+1))↔k∈cs.take j:=by rw[tk,cw,cU];exact⟨fun z=>z.resolve_right (fun e=>hk e.symm),.inl⟩
      simp only[this]
     .rw[eZ (by rw[cu];lia)];rfl
   .rintro σ He ⟨⟨y4,y5,y6,y7,y8,y9,Sb,rfl⟩,sk,UL⟩;have st:∀b o,HA b=some o->b≠M->He b=some o:=sk;refine⟨N,zs++ms,⟨_,_,_,_,_,_,_,rfl⟩,fun b o e m=>sk _ _ (sHA _ _ e m) (am e Pf),?_,W5,?_,fun z hz=>?_,?_,F2⟩
    .obtain⟨x,y,e,r⟩:=hpA;exact⟨x,y,sk _ _ e HP.symm,r⟩
    .rw[et];exact sk _ _ hNA nNM
    .have g:=poA z hz;exact sk _ _ g (by rintro e;rw[e,hMA] at g;cases g)
    .rw[UL,bj,i9];refine congrArg (fun l=>some (HO.lst (NV l))) ?_;unfold ql;refine jT fun h _=>?_;rw[eA,R8,Cp,yr W7]
  .rintro σ Hc ⟨T,zs,⟨x4,x5,x6,x7,x8,x9,HU,rfl⟩,sc,mi,hT,UG,po,A3,Fi⟩;exact⟨_,rfl,q T zs Hc sc mi hT UG po Fi⟩
end
abbrev GU:Stmt:=top 49
theorem CC{bs:List Addr}{h:Nat}(hh:h<bs.length):(bs.map V.ref)[h]?=some (.ref (bs.getD h 0)):=by
 rw[bZ,bY,cg hh];rfl
theorem Ny{cs:List Addr}{j:Nat}(h:j<cs.length):cs.getD j 0∈cs:=by rw[bY,cg h];exact ik _
def Sd(σ:St):Nat:=match σ[5]? with
 |some (some (V.int i))=>i.toNat
 |_=>0
section
variable {P:Program} {w:World} {K:PySem.W.Frag} {mg:Str->Option Value} {base:Heap}
theorem kP:aP ["_law_outs_here","_law_found","_law_begin","_law_far_here","_law_waiting","_law_at","_law_other"] ["_law_outs_here"] (au GU):=⟨rfl,rfl,rfl,by decide +kernel,rfl,by decide +kernel,by decide +kernel⟩
def A7:Sp:=fun vs H Q _=>∃ (L:Addr->Prop) (o:Addr) (n:Nat) (ts:Ts),vs=[.ref o]/\b8 n ts/\bX H L o n (bP n ts)/\∀ (r:Addr) (H':Hp),aL H H'->H r=none->bX H' (fun b=>H b=none) r n (fun h=>(List.range n).map (far ts h))->Q (.ref r) H'
theorem JL{f:Addr}{fd:FuncData}(F:hV K "_law_far" "_law_far" GU f fd)(B:Bl mg):bJ P w K mg base bh 1 f fd ["_law_outs_here"] A7:=by
 refine F.ok kP (fun vs H Q E h=>?_) (fun eV A outer s H vs Q E hr h=>?_)
 .obtain⟨L,o,n,ts,rfl,_⟩:=h;rfl
 .obtain⟨L,o,n,ts,rfl,fi,O,q⟩:=h;have n1:=fi.n1;have n2:=fi.n2;refine⟨_,(aj (aV (i:=1) kP.nd rfl (Or.inl rfl) (cY ag))
   (aj (cQ dP rfl (bE rfl B.range (aa (aI aQ (by rfl) B.len dU (aa (pv 0) ag)) ag)) (az (i:=2) kP.nd rfl (Or.inl rfl))
    (aj (aV (i:=3) kP.nd rfl (Or.inl rfl) (bb Aa (cY (aa eC ag)) (aI aQ (by rfl) B.len dU (aa (pv 0) ag))))
    (aj (dL aB (gC (pv 3) (pv 2) dR))
    (aj (aV (i:=4) kP.nd rfl (Or.inl rfl) (cY (aa (pv 2) ag)))
    (aj (aV (i:=5) kP.nd rfl (Or.inl rfl) aB)
    (aj (w9 dP (aM kC (pv 5) (aI aQ (by rfl) B.len dU (aa (pv 4) ag)) (a_ _)) (aj (cQ dP rfl (bV (aX aK (pv 0) (aX aK (pv 4) (pv 5) (fun _ _=>rfl)) (fun _ _=>rfl))) (az (i:=6) kP.nd rfl (Or.inl rfl))
      (ap (cC (aM vI (aX aK (pv 3) (pv 6) (fun _ _=>rfl)) eC (a_ _)) (aj (dL (bb cX (aX aK (pv 3) (aX aK (pv 4) (pv 5) (fun _ _=>rfl)) (fun _ _=>rfl)) aB) (gC (pv 3) (pv 6) dR))
       (ap (cq (gK gI jE jD du (pv 4) (aa (pv 6) ag))))) bp)))
     (ap (aV (i:=5) kP.nd rfl (Or.inl rfl) (bb cX (pv 5) aB)))))
    (ap (cq (gK gI jE jD du (pv 1) (aa (pv 3) ag))))))))))
   (ap (be (pv 1))))),?_⟩
  obtain⟨bs,Et,hbL,Lg,K0⟩:=O;refine⟨by show 0<=sizeLine;decide,fun F hF=>?_⟩;have sF:=ai (o:=.lst []) hF;have el:(((bs.map V.ref).length:Nat):Int)=(n:Int):=by rw[aR,Lg]
  refine⟨_,rfl,o,_,rfl,.inl (a9.of (sF _ _ Et)),(n:Int),congrArg (fun z=>[V.int z]) el,by lia,by lia,dt (n:=n) (lo:=0) (fun i σ Hc=>(∃a b c d e,σ=[some (.ref o),some (.ref F),a,b,c,d,e])/\aL H Hc/\∃ds:List Addr,Hc F=some (.lst (ds.map V.ref))/\(∀b∈ds,H b=none/\b≠F)/\ds.length=i/\∀j,j<i->Hc (ds.getD j 0)=some (.lst (NV ((List.range n).map (far ts j))))) ⟨⟨_,_,_,_,_,rfl⟩,sF,[],ae,fun b hb=>(nomatch hb),rfl,fun j hj=>absurd hj (vj _)⟩ ?_ ?_⟩
  rotate_left
  .rintro σ Hc ⟨⟨a,b,c,d,e,rfl⟩,sc,ds,JM,UM,dl,UN⟩;exact⟨_,rfl,q F Hc sc hF ⟨ds,JM,fun b hb=>(UM b hb).1,dl,UN⟩⟩
  .rintro b σ Hc hb ⟨⟨_,_,_,_,_,rfl⟩,sc,ds,JM,UM,dl,UN⟩;rw[gv];refine⟨by show 1<=sizeLine;decide,fun L1 tS=>⟨_,rfl,o,_,rfl,.inl (a9.of (ai tS _ _ (sc _ _ Et))),L1,_,_,rfl,rfl,ae,by rw[el];lia,by rw[el];lia,by rw[gk,lH,aR,Lg];exact ba (show 1*n<=32 by lia) (by decide),fun D hD=>?_⟩⟩;rw[gk,nu,aR,Lg];have s1:=sc.trans (ai (o:=.lst [.cE]) tS);have hFD:F≠D:=am ((ai (o:=.lst [.cE]) tS) _ _ JM) hD;have fD:=s1.free hD;have dsD:∀c∈ds,c≠D:=fun c hc=>by
    rintro rfl;exact absurd hD (by
     obtain⟨j,hj,e⟩:=qT hc;have:(upd Hc L1 (.lst [.cE])) c=some (.lst (NV ((List.range n).map (far ts j)))):=(ai tS) _ _ (by have:=UN j (by lia);rw[bY,cg hj,oq,e] at this;exact this);rw[this];exact fun z=>by cases z)
   have hF1:=(ai (o:=.lst [.cE]) tS) _ _ JM;have Se:∀j,j<b->(upd Hc L1 (.lst [.cE])) (ds.getD j 0)=some (.lst (NV ((List.range n).map (far ts j)))):=fun j hj=>(ai tS) _ _ (UN j hj);generalize upd Hc L1 _=H1 at *;refine⟨_,rfl,_,rfl,D,_,b,b,rfl,rfl,ae,by rw[jQ];exact eG hb,?_⟩;rw[kY,so hb];refine⟨_,rfl,by show 1<=sizeLine;decide,fun R hR=>?_⟩;have Ev:D≠R:=am (H:=upd H1 D (.lst (gW n [b] (fun _=>0)))) ae hR;have Jo:H1 R=none:=by rw[ao Ev.symm] at hR;exact hR
   have fR:=s1.free Jo;have hFR:F≠R:=am hF1 Jo;have dsR:∀c∈ds,c≠R:=fun c hc=>by
    rintro rfl;obtain⟨j,hj,e⟩:=qT hc;have:=Se j (by lia);rw[bY,cg hj,oq,e,Jo] at this;cases this
   have sm0:aL H1 (upd (upd H1 D (.lst (gW n [b] (fun _=>0)))) R (.lst [.int (b:Int)])):=bv (ai hD) Jo;have Xj:=s1 _ _ Et;have Sf:∀u,u<n->H1 (bs.getD u 0)=some (.lst (NV (bP n ts u))):=fun u hu=>s1 _ _ (K0 u hu);refine xc (fun σ H2=>∃ (i:Nat) (Rs:List Nat) (f:Nat->Nat),i<=Rs.length/\yM n ts b i Rs f/\(∃v,σ=[some (.ref o),some (.ref F),some (.int (b:Int)),some (.ref D),some (.ref R),some (.int (i:Int)),v])/\aL H1 H2/\H2 D=some (.lst (gW n Rs f))/\H2 R=some (.lst (NV Rs)))
    (fun σ _=>n-Sd σ) ⟨0,[b],fun _=>0,cx _,yM.start hb,⟨_,rfl⟩,sm0,?_,ae⟩ ?_ ?_
   .rw[ao Ev,ae]
   .rintro σ H2 ⟨i,Rs,f,hi,Bf,⟨v',rfl⟩,sm,jA,tR⟩;have hRn:Rs.length<=n:=eY Bf.nd Bf.lt;refine⟨_,rfl,_,rfl,R,_,rfl,.inl (a9.of tR),_,_,rfl,rfl,_,rfl,?_⟩;rw[bj];by_cases uw:i<Rs.length
    .rw[show decide ((i:Int)<((Rs.length:Nat):Int))=true by simp;lia];refine vR ?_;have hu:Rs[i]?=some Rs[i]:=cg uw;generalize Rs[i]=u at hu;have ya:u<n:=Bf.lt u (cS hu);have Wr:(NV Rs)[i]?=some (.int (u:Int)):=by rw[bZ,hu];rfl
     have Ws:=CC (bs:=bs) (h:=u) (by rw[Lg];exact ya);have Wt:=sm _ _ (Sf _ ya);refine⟨_,rfl,_,rfl,_,rfl,R,_,_,_,rfl,rfl,a9.of tR,aD Wr,o,_,_,_,rfl,rfl,a9.of (sm _ _ Xj),aD Ws,_,rfl,⟨_,a9.of Wt⟩,?_⟩;refine fW (K:=K) (xs:=NV (bP n ts u)) (fun j σ H3=>∃ (ig:List Nat) (f':Nat->Nat),yM n ts b i ig f'/\ig[i]?=some u/\(∀v∈(bP n ts u).take j,v∈ig/\f' v<=f' u+1)/\
      (∃c,σ=[some (.ref o),some (.ref F),some (.int (b:Int)),some (.ref D),some (.ref R),some (.int (i:Int)),c])/\aL H1 H3/\H3 D=some (.lst (gW n ig f'))/\H3 R=some (.lst (NV ig)))
      ⟨Rs,f,Bf,hu,fun v hv=>by simp at hv,⟨_,rfl⟩,sm,jA,tR⟩ (fun j σ H3 _ ⟨_,_,_,_,_,_,DW,_⟩=>a9.of (DW _ _ (Sf _ ya))) ?_ ?_
     .rintro j x σ H3 hx ⟨ig,f',wj,qe,dn,⟨b',rfl⟩,DW,nJ,yK⟩;obtain⟨v,hv,rfl⟩:=p7 hx;have MX:v∈bP n ts u:=cS hv;have Gc:v<n:=k_ fi ya MX;have Wu:T ts u v:=(ft fi ya).mp MX;have tk:(bP n ts u).take (j+1)=(bP n ts u).take j++[v]:=by rw[gj,hv];rfl
      have Gd:u∈ig:=cS qe;have Ge:ig.length<=n:=eY wj.nd wj.lt;refine⟨_,rfl,_,rfl,D,_,_,_,rfl,rfl,a9.of nJ,aD (iA Gc),rfl,_,rfl,?_⟩;by_cases AT:v∈ig
      .rw[ak AT];refine gO ⟨ig,f',wj,qe,fun x hx=>?_,⟨_,rfl⟩,DW,nJ,yK⟩;rw[tk] at hx;rcases cw.mp hx with z|z
       .exact dn x z
       .simp at z;subst z;exact⟨AT,wj.bd u qe _ AT⟩
      .rw[av AT];refine vR ?_;have HN:(gW n ig f')[u]?=some (.int ((f' u:Nat):Int)):=by rw[iA ya,ak Gd]
       refine⟨_,rfl,_,rfl,_,rfl,R,_,_,_,rfl,rfl,a9.of yK,aD (show (NV ig)[i]?=some (.int (u:Int)) by rw[bZ,qe];rfl),D,_,_,_,rfl,rfl,a9.of nJ,aD HN,_,_,rfl,rfl,_,rfl,_,rfl,D,_,_,_,rfl,rfl,nJ,by rw[jh];exact eG Gc,?_⟩;have e1:(gW n ig f').set v (.int (((f' u:Nat):Int)+1))=gW n (ig++[v]) (put f' v (f' u+1)):=by
        rw[show ((f' u:Nat):Int)+1=((f' u+1:Nat):Int) by lia,x_ Gc]
       rw[e1];have qE:(upd H3 D (.lst (gW n (ig++[v]) (put f' v (f' u+1))))) R=some (.lst (NV ig)):=by rw[ao Ev.symm];exact yK
       refine⟨_,rfl,.inl ⟨rfl,_,a9.of qE⟩,_,rfl,R,_,_,rfl,rfl,qE,by rw[bj];exact br (show ig.length<33 by lia) (by decide),?_⟩;have B3:i<ig.length:=(dN.mp qe).1;have Wv:u≠v:=fun z=>AT (z ▸ Gd);refine⟨ig++[v],put f' v (f' u+1),wj.add qe Gc Wu AT,by rw[i6 B3];exact qe,fun x hx=>?_,⟨_,rfl⟩,bv (bv DW hD) Jo,?_,?_⟩
       .rw[f_ Wv];rw[tk] at hx;rcases cw.mp hx with z|z
        .obtain⟨q1,q2⟩:=dn x z;exact⟨fw _ q1,by rw[f_ (fun (z:x=v)=>AT (z ▸ q1))];exact q2⟩
        .simp at z;subst z;exact⟨by simp,by rw[jf];exact aU _⟩
       .rw[ao Ev,ae]
       .rw[ae,iR]
     .rintro σ H3 ⟨ig,f',wj,qe,dn,⟨b',rfl⟩,DW,nJ,yK⟩;rw[bj,i9] at dn;have B3:i<ig.length:=(dN.mp qe).1;have Ge:ig.length<=n:=eY wj.nd wj.lt;refine⟨_,rfl,_,_,rfl,rfl,⟨⟨i+1,ig,f',B3,wj.next qe (fun v t=>dn v ((ft fi ya).mpr t)),⟨_,rfl⟩,DW,nJ,yK⟩,?_⟩⟩;show n-((i:Int)+1).toNat<n-(i:Int).toNat;lia
    .rw[show decide ((i:Int)<((Rs.length:Nat):Int))=false by rw[yX];lia];have e:gW n Rs f=NV ((List.range n).map (far ts b)):=by
      unfold gW NV;rw[dQ];refine jT fun x hx=>?_;obtain⟨q1,q2⟩:=Bf.done fi (by lia) (bK.mp hx);rw[ak q1,q2];rfl
     rw[e] at jA;have Pm:=sm _ _ hF1;refine gO ⟨_,rfl,.inl ⟨rfl,_,a9.of Pm⟩,_,rfl,F,_,_,rfl,rfl,Pm,by rw[aR,dl];exact br (show b<33 by lia) (by decide),?_⟩;refine⟨⟨_,_,_,_,_,rfl⟩,fun c ob ec=>?_,ds++[D],by rw[ae,di];rfl,fun c hc=>?_,by rw[df,dl];rfl,fun j hj=>?_⟩
     .rw[ao (am ec hF)];exact sm _ _ (s1 _ _ ec)
     .rcases cw.mp hc with z|z
      .exact UM c z
      .rw[cU.mp z];exact⟨fD,hFD.symm⟩
     .by_cases c:j<b
      .have m:=Ny (cs:=ds) (j:=j) (by lia);have e:(ds++[D]).getD j 0=ds.getD j 0:=by rw[bY,bY,i6 (by lia)]
       rw[e,ao (UM _ m).2];exact sm _ _ (Se j c)
      .obtain rfl:j=b:=by lia
       have e:(ds++[D]).getD j 0=D:=by rw[bY,pL (by lia),dl,rf];rfl
       rw[e,ao hFD.symm];exact jA
   .rintro σ H2 Q1 Q2 imp ⟨v,e1,v2,e2,p,ys,e3,e4,i1,i2,e5,e6,kk,e7,q⟩;exact⟨v,e1,v2,e2,p,ys,e3,e4,i1,i2,e5,e6,kk,e7,imp _ _ q⟩
end
end p6
namespace L2
open PySem PySem.Spec PyProof.Rows
theorem D_:fj X (.type "int") (fun xs H Q=>∃b,xs=[.bl b]/\Q (.int (if b then 1 else 0)) H):=by
 intro af s σ H xs us Q I r h;obtain⟨b,rfl,q⟩:=h;obtain⟨u1,rfl,r1⟩:=r.one;obtain rfl:u1=Value.bool b:=r1;exact call_int_bool ⟨.int _,H,I.tok _,⟨_,rfl⟩,q⟩
end L2
namespace p6
open PySem L2 je
abbrev Nz:Stmt:=top 47
theorem nA:(["_law_one","_law_other"]:List Str).Nodup:=by decide +kernel
def GV(p:Addr)(H:Hp)(Q:V->Hp->Prop):Prop:=∀ (t r:Addr) (n:Nat) (zs:Zs) (H':Hp),aN p H H'->bf H' p->H t=none->H' t=some (.tup [.int n,.ref r])->H r=none->H' r=some (.lst (zr zs))->PO H' zs->b8 n (zp zs)->Q (.ref t) H'
def GW:Sp:=fun vs H Q _=>∃ (p:Addr),vs=[.ref p]/\bf H p/\GV p H Q
theorem GV.go(k:GV p H Q)(s:aN p H H2)(hp:bf H2 p)(hr:H r=none)(hr2:H2 r=some (.lst (zr zs)))(po:PO H2 zs)(F:b8 n (zp zs))(ht:H2 t=none):Q (.ref t) (upd H2 t (.tup [.int n,.ref r])):=
 k t r n zs _ (s.trans (aN.of (ai ht))) (hp.same (ai ht)) (s.free hp.full ht) ae hr (ai ht _ _ hr2) (po.putN ht) F
section
variable {P:Program} {w:World} {K:PySem.W.Frag} {mg:Str->Option Value} {base:Heap}
theorem lD:aP ["_law_pot_here","_law_way","_law_many","_law_pairs"] ["_law_pot_here"] (au Nz):=⟨rfl,rfl,rfl,by decide +kernel,rfl,by decide +kernel,by decide +kernel⟩
theorem NA(F:hV K "_law_net" "_law_net" Nz f fd)(B:Bl mg)(D:dH P w K mg base bh 1 "_law_take" ["_law_pot_here","_law_many"] gE)(RG:dH P w K mg base bh 1 "_law_ring" ["_law_many"] wv)(BX:dH P w K mg base bh 2 "_law_box" ["_law_pot_here"] uF)(WO:dH P w K mg base bh 2 "_law_words" ["_law_pot_here"] uF)(SP:dH P w K mg base bh 2 "_law_some_pairs" ["_law_pot_here","_law_many","_law_more"] A2)(OW:dH P w K mg base bh 2 "_law_one_way" ["_law_pot_here","_law_many"] GT)(RN:dH P w K mg base bh 2 "_law_renamed" ["_law_pot_here","_law_many","_law_ties"] Cz):bJ P w K mg base bh 3 f fd ["_law_pot_here"] GW:=by
 refine F.ok lD (fun vs H Q E h=>?_) (fun eV A outer s H vs Q E h2 h=>?_)
 .obtain⟨p,rfl,_⟩:=h;rfl
 .obtain⟨p,rfl,hp,q⟩:=h;have h1:cy 1 _:=h2.mono (by decide);refine'⟨_,(aj (aV (i:=1) lD.nd rfl (Or.inl rfl) (aJ D h1 aO (aa (pv 0) (aa aB ag))))
   (aj (aV (i:=2) lD.nd rfl (Or.inl rfl) (bb cX aB (aJ D h1 aO (aa (pv 0) (aa (aX aK (cY (aa aB (aa aB (aa aB ag)))) (aJ D h1 aO (aa (pv 0) (aa aB ag))) (fun _ _=>rfl)) ag)))))
   (aj (cC (aM hU (pv 1) aB (a_ _)) (ap (be (cH (aa (pv 2) (aa (aJ RN h2 aO (aa (pv 0) (aa (pv 2) (aa (aJ OW h2 aO (aa (pv 0) (aa (pv 2) ag))) ag)))) ag))))) bp)
   (aj (cC (aM hU (pv 1) aB (a_ _)) (ap (aV (i:=3) lD.nd rfl (Or.inl rfl) (aJ RG h1 aO (aa (pv 2) ag)))) (ap (cC (aM hU (pv 1) aB (a_ _)) (ap (dL (aJ BX h2 aO (aa (pv 0) ag)) (dC (n:=2) rfl (aG (az (i:=2) lD.nd rfl (Or.inl rfl)) (aG (az (i:=3) lD.nd rfl (Or.inl rfl)) cr))))) (ap (cC (aM hU (pv 1) aB (a_ _)) (ap (dL (aJ WO h2 aO (aa (pv 0) ag)) (dC (n:=2) rfl (aG (az (i:=2) lD.nd rfl (Or.inl rfl)) (aG (az (i:=3) lD.nd rfl (Or.inl rfl)) cr))))) (aj (aV (i:=2) lD.nd rfl (Or.inl rfl) (bb jt (pv 2) (cA D_ (by rfl) B.int PyProof.Rows.boot_int (aa (qz hU (pv 1) aB (a_ _)) ag))))
      (ap (aV (i:=3) lD.nd rfl (Or.inl rfl) (aJ SP h2 aO (aa (pv 0) (aa (pv 2) (aa (aX aK (cY (aa aB (aa aB (aa (pv 2) ag)))) (bb jt (pv 1) aB) (fun _ _=>rfl)) ag))))))))))))
   (ap (be (cH (aa (pv 2) (aa (aJ RN h2 aO (aa (pv 0) (aa (pv 2) (aa (bb z_ (pv 3) ?c1) ag)))) ag))))))))),?_⟩
  case c1=>
   refine' cD (g:=(sY K 2 (fV (bD 0) (fV (bD 1) sX)))) (te:=(o4 (bz (aY 1) (bz (aY 0) gg)))) (NB:=["_law_one","_law_other"]) (src:=[none,none]) (bq (by kernel_rfl)) rfl (bV (pv 3)) ?g ?t ?e;case g=>exact fun cl C s₃ H₃ fp=>(dC (n:=2) rfl (aG (az (i:=0) nA rfl (Or.inl rfl) (Or.inr rfl)) (aG (az (i:=1) nA rfl (Or.inl rfl) (Or.inr rfl)) cr)))
   case t=>exact fun cl C s₃ H₃ fp=>c_
   case e=>exact fun cl C s₃ H₃ fp=>(cH (aa (pv 1) (aa (pv 0) ag)))
  refine⟨_,rfl,p,7,rfl,by decide,by decide,hp,fun wy H1 hw s1 mr=>?_⟩;refine⟨_,rfl,by show 3<=sizeLine;decide,fun l hl=>⟨_,rfl,p,3,rfl,by decide,by decide,mr.same (ai hl),fun d H2 hd s2 xQ=>?_⟩⟩;have gl:=s2 _ _ (ae (H:=H1) (a:=l) (o:=.lst [.int 4,.int 10,.int 30])) (mr.ne hl);obtain⟨m,hm,m1,m2⟩:∃m:Nat,yH [V.int 4,.int 10,.int 30] (d:Int)=some (.int m)/\4<=m/\m<=30:=by
   rcases(show d=0\/d=1\/d=2 by lia) with rfl|rfl|rfl
   .exact⟨4,aD (j:=0) rfl,by decide,by decide⟩
   .exact⟨10,aD (j:=1) rfl,by decide,by decide⟩
   .exact⟨30,aD (j:=2) rfl,by decide,by decide⟩
  refine⟨l,_,_,_,rfl,rfl,a9.of gl,hm,p,m,rfl,by lia,by lia,xQ,fun d2 H3 Uy s3 mw=>⟨_,_,rfl,rfl,?_⟩⟩;have sH:aN p H H3:=((s1.trans (aN.of (ai hl))).trans s2).trans s3;obtain⟨n,hn⟩:∃n:Nat,n=3+d2:=⟨_,rfl⟩
  have en:(3:Int)+(d2:Int)=((n:Nat):Int):=by lia
  change bD 2 (V.int ((3:Int)+(d2:Int))) _ _ _;rw[en];have n1:3<=n:=by lia
  have n2:n<=32:=by lia
  clear gl hm s1 s2 s3 mr xQ hl hd en;have d7:∀ (m:Nat) (r:Addr) (zs:Zs) (H4:Hp),aN p H H4->bf H4 p->H r=none->H4 r=some (.lst (zr zs))->PO H4 zs->b8 m (dE (zp zs))->P3 (o4 (bz (aY 2) (bz (pO Cz [] E0 (bz (aY 0) (bz (aY 2) (bz (iI Qo (aY 3) (Fe [none,none] (KO K (aY 3)) (sY K 2 (fV (bD 0) (fV (bD 1) sX))) Mb (o4 (bz (aY 1) (bz (aY 0) gg))))) gg)))) gg))) { nx:=fun _ H'=>Q .cE H',rt:=Q } [some (.ref p),some (.int (wy:Nat)),some (.int (m:Nat)),some (.ref r)] H4:=fun m r zs H4 sH nL hr yb po Fi=>by
   have zl:zs.length<=256:=by have:=Fi.len;rw[qG,bQ] at this;lia
   refine⟨_,rfl,_,rfl,_,rfl,_,rfl,_,rfl,r,rfl,⟨_,a9.of yb⟩,fun D1 AX=>?_⟩;refine sn tL (fun σ=>∃a b,σ=[a,b]) yb po AX (by lia) ⟨_,_,rfl⟩ ?_ ?_
   .rintro z σ H5 R Kf hz ⟨a,b,rfl⟩ _ ha kt;exact⟨z.1,_,rfl,bU.of ha,rfl,_,_,rfl,_,_,rfl,rfl,_,rfl,_,rfl,by show 2<=sizeLine;decide,fun t ht=>kt _ _ ⟨_,_,rfl⟩ ht⟩
   intro wU H5 s5 JN Ln e5 _;refine⟨r,D1,_,_,rfl,rfl,s5 _ _ yb,JN,by rw[dD,dD,<-bQ,<-bQ,e5,aR,bQ];exact ba (show _<=512 by lia) (by decide),fun L hL=>?_⟩;have sL:=ai (o:=.lst (zr zs++zr wU)) hL;have F2:b8 m (zp (zs++wU)):=by rw[eA,e5];exact Fi.perm iy.symm
   refine⟨p,L,m,zs++wU,rfl,(nL.same s5).same sL,by rw[ae,et],((po.same s5).append Ln).same sL,(nL.same s5).ne hL,F2,fun r3 Lh H6 s6 B5 M5 NC Lp F6=>⟨by show 2<=sizeLine;decide,fun t ht=>?_⟩⟩;have sA:aN p H H6:=(sH.trans (aN.of (s5.trans sL))).trans s6;exact q.go sA B5 ((sH.trans (aN.of s5)).free (nL.same s5).full (sL.free M5)) NC Lp F6 ht
  refine⟨_,rfl,rfl,_,rfl,fX (fun c=>?_) (fun c6=>?_)⟩
  .refine⟨_,rfl,_,rfl,_,rfl,_,rfl,_,rfl,p,n,rfl,by lia,n2,mw,fun r zs H4 s4 nL hr yb po F4=>?_⟩;refine⟨p,r,n,zs,rfl,nL,yb,po,mw.ne hr,F4,fun r3 Lh H6 s6 B5 M5 NC Lp F6=>⟨by show 2<=sizeLine;decide,fun t ht=>?_⟩⟩;exact q.go ((sH.trans s4).trans s6) B5 ((sH.trans s4).free nL.full M5) NC Lp F6 ht
  unfold KM;dsimp only;refine uC (fun σ Hc=>∃ (m:Nat) (r:Addr) (zs:Zs),σ=[some (.ref p),some (.int (wy:Nat)),some (.int (m:Nat)),some (.ref r)]/\aN p H Hc/\bf Hc p/\H r=none/\Hc r=some (.lst (zr zs))/\PO Hc zs/\b8 m (dE (zp zs))) ?_ ?_
  .rintro σ Hc ⟨m,r,zs,rfl,a1,a2,a3,a4,a5,a6⟩;exact d7 m r zs Hc a1 a2 a3 a4 a5 a6
  clear d7;intro N hN;have fr:∀ {a:Addr},H3 a=none->H a=none:=fun h=>sH.free mw.full h;refine⟨_,rfl,rfl,_,rfl,fX (fun c=>?_) (fun c0=>?_)⟩
  .exact⟨_,rfl,n,rfl,by lia,n2,fun r zs H4 s4 hr yb po ez=>hN _ _ ⟨n,r,zs,rfl,sH.trans (aN.of s4),mw.same s4,fr hr,yb,po,by rw[ez];exact DZ n1 n2⟩⟩
  refine⟨_,rfl,rfl,_,rfl,fX (fun c=>?_) (fun c1=>?_)⟩
  .exact⟨_,rfl,p,rfl,mw,fun t r m zs H4 s4 nL ht hr Xk yb po F4=>⟨t,_,rfl,bU.of Xk,rfl,_,_,rfl,_,_,rfl,rfl,hN _ _ ⟨m,r,zs,rfl,sH.trans s4,nL,fr hr,yb,po,F4⟩⟩⟩
  refine⟨_,rfl,rfl,_,rfl,fX (fun c=>?_) (fun c2=>?_)⟩
  .exact⟨_,rfl,p,rfl,mw,fun t r m zs H4 s4 nL ht hr Xk yb po F4=>⟨t,_,rfl,bU.of Xk,rfl,_,_,rfl,_,_,rfl,rfl,hN _ _ ⟨m,r,zs,rfl,sH.trans s4,nL,fr hr,yb,po,F4⟩⟩⟩
  have hw3:3<=wy/\wy<=5:=by
   have a0:wy≠0:=fun z=>c0 (by rw[z];rfl);have a1:wy≠1:=fun z=>c1 (by rw[z];rfl);have a2:wy≠2:=fun z=>c2 (by rw[z];rfl);have a6:wy≠6:=fun z=>c6 (by rw[z];rfl);lia
  obtain⟨k,hk,k1,k2⟩:∃k:Nat,(n:Int)-(if decide (V.int (wy:Int)=V.int 3)=true then 1 else 0)=(k:Int)/\2<=k/\k<=32:=by
   by_cases e:wy=3
   .exact⟨n-1,by rw[ak (by rw[e];rfl)];lia,by lia,by lia⟩
   .exact⟨n,by rw[av (by simp;lia)];lia,by lia,by lia⟩
  refine⟨_,rfl,_,rfl,rfl,_,rfl,_,_,rfl,rfl,?_⟩;change bD 2 (V.int ((n:Int)-(if decide (V.int (wy:Int)=V.int 3)=true then 1 else 0))) _ _ _;rw[hk];refine⟨_,rfl,_,rfl,_,rfl,by show 3<=sizeLine;decide,fun l hl=>⟨_,rfl,_,_,rfl,rfl,?_⟩⟩;have sl:=ai (o:=.lst [.int 0,.int 3,.int (k:Int)]) hl;obtain⟨g,hg,g1⟩:∃g:Nat,yH [V.int 0,.int 3,.int (k:Int)] ((wy:Int)-3)=some (.int g)/\g<=64:=by
   rcases(show wy=3\/wy=4\/wy=5 by lia) with e|e|e <;> rw[e]
   .exact⟨0,aD (j:=0) rfl,by decide⟩
   .exact⟨3,aD (j:=1) rfl,by decide⟩
   .exact⟨k,aD (j:=2) rfl,by lia⟩
  refine⟨l,_,_,_,rfl,rfl,a9.of ae,hg,p,k,g,rfl,k1,k2,g1,mw.same sl,fun r zs H4 s4 nL hr yb po F4=>?_⟩;exact hN _ _ ⟨k,r,zs,rfl,(sH.trans (aN.of sl)).trans s4,nL,fr (sl.free hr),yb,po,F4⟩
end
abbrev A8:Stmt:=top 48
theorem qm:(["_law_k","_law_house","_law_many"]:List Str).Nodup:=by decide +kernel
theorem kQ:(["_law_other","_law_house","_law_there"]:List Str).Nodup:=by decide +kernel
theorem JO(G:Nat->V)(bW:St->Prop)(hD:H0 D=none)(hn:n<=1000)(h0:bW σB)(hs:∀x σ H (R:V->St->Hp->Prop) (Kf:St->Hp->Prop),x<n->bW σ->aL H0 H->(∀σ2 H2,bW σ2->aL H H2->R (G x) σ2 H2)->g (.int (lo+(x:Nat))) σ H fun σ2 H2=>tt σ2 H2 fun b H3=>if b=true then te σ2 H3 fun v H4=>R v σ2 H4 else Kf σ2 H3)(hd:∀H,aL H0 H->H D=some (.lst ((List.range n).map G))->d7 H):gu (Ek lo n) g tt te D d7 σB (upd H0 D (.lst [])):=by
 refine eN (fun i ys σ H=>bW σ/\aL H0 H/\H D=some (.lst ys)/\ys=(List.range i).map G) ⟨h0,ai hD,ae,rfl⟩ ?_ ?_
 .rintro i ys σ H Kt Kf hi ⟨sh,sm,iz,rfl⟩ kt kf;refine hs i σ H Kt Kf hi sh sm (fun σ2 H2 tP s2=>?_);refine kt _ _ _ (s2 _ _ iz) ?_ ⟨tP,bv (sm.trans s2) hD,ae,by rw[ja,di];rfl⟩;rw[aR,cu];exact br (show i<1000 by lia) (by decide)
 .rintro ys σ H ⟨_,sm,iz,rfl⟩;exact hd H sm iz
theorem wA(ms:List β)(e:β->V)(c:β->Bool)(bW:St->Prop)(ha:H0 a=some (.lst (ms.map e)))(hD:H0 D=none)(hn:ms.length<=1000)(h0:bW σB)(hs:∀m σ H (Kt:V->St->Hp->Prop) (Kf:St->Hp->Prop),m∈ms->bW σ->aL H0 H->(∀σ2 H2,bW σ2->aL H H2->c m=true->Kt (e m) σ2 H2)->(∀σ2 H2,bW σ2->aL H H2->c m=false->Kf σ2 H2)->
   g (e m) σ H fun σ2 H2=>tt σ2 H2 fun b H3=>if b=true then te σ2 H3 fun v H4=>Kt v σ2 H4 else Kf σ2 H3)(hd:∀H,aL H0 H->H D=some (.lst ((ms.filter c).map e))->d7 H):gu (Ej K a) g tt te D d7 σB (upd H0 D (.lst [])):=by
 refine d_ (xs:=ms.map e) (fun i ys σ H=>bW σ/\aL H0 H/\H D=some (.lst ys)/\ys=((ms.take i).filter c).map e) ⟨h0,ai hD,ae,rfl⟩ (fun i ys σ H _ z=>a9.of (z.2.1 _ _ ha)) ?_ ?_
 .rintro i x ys σ H Kt Kf hx ⟨sh,sm,iz,rfl⟩ kt kf;rw[bZ] at hx;cases hz:ms[i]? with
  |none=>rw[hz] at hx;cases hx
  |some m=>
   rw[hz] at hx;obtain rfl:e m=x:=bN hx;have tk:ms.take (i+1)=ms.take i++[m]:=by rw[gj,hz];rfl
   refine hs m σ H Kt Kf (cS hz) sh sm (fun σ2 H2 tP s2 hc=>?_) (fun σ2 H2 tP s2 hc=>?_)
   .refine kt _ _ _ (s2 _ _ iz) ?_ ⟨tP,bv (sm.trans s2) hD,ae,by rw[tk,gh];simp[dO,hc]⟩;rw[aR];exact eD (ba (ij _ _) (zc _ _)) (eD hn (by decide))
   .exact kf _ _ ⟨tP,sm.trans s2,s2 _ _ iz,by rw[tk,gh];simp[dO,hc]⟩
 .rintro ys σ H ⟨_,sm,iz,rfl⟩;rw[aR,i9] at iz;exact hd H sm iz
def AZ(u:Int×Int):List h_:=[.inl u.1,.inl u.2]
theorem yu:∀ {ps:List TK} {m:List (List h_×V)},(ic (dI m ps) k).isSome=true↔(ic m k).isSome=true\/k∈ps.map fun p:TK=>p.1
 |[],m=>by unfold dI;simp
 |p::ps,m=>by
  have ih:=yu (k:=k) (ps:=ps) (m:=rN m p.1 p.2.2);rw[show dI m (p::ps)=dI (rN m p.1 p.2.2) ps from rfl,ih,Fx];by_cases c:k=p.1
  .rw[ak c];simp[c]
  .rw[av c,fh];simp[c]
theorem JP{u:Int×Int}{ts:Ts}:AZ u∈ts.map AZ↔u∈ts:=by
 constructor
 .intro h;obtain⟨v,hv,e⟩:=bB.mp h;unfold AZ at e;injection e with e1 e2;injection e2 with e2 _;rw[show u=v from gw (Sum.inl.inj e1).symm (Sum.inl.inj e2).symm];exact hv
 .exact fun h=>bB.mpr ⟨u,h,rfl⟩
theorem JQ(F:b8 n ts)(hh:h<n):((List.range (n-1)).map fun s=>(h+(s+1)) % n).filter (fun o=>decide ((ci h,ci o)∈ts))=bP n ts h:=by
 unfold bP;obtain⟨m,rfl⟩:∃m,n=m+1:=⟨n-1,by lia⟩
 have e0:(h+0) % (m+1)=h:=lx hh;rw[nW,fh,dO,dQ,e0];have nt:¬ T ts h h:=fun z=>F.ne _ z rfl;rw[av (fun z=>nt (eE z)),show m+1-1=m from rfl];exact List.filter_congr fun o _=>oo.mpr Iff.rfl
theorem ND:(["_law_tie"]:List Str).Nodup:=by decide +kernel
section
variable {P:Program} {w:World} {K:PySem.W.Frag} {mg:Str->Option Value} {base:Heap}
theorem nB:aP ["_law_many","_law_ties","_law_there","_law_found","_law_house","_law_around"] ["_law_many","_law_ties"] (au A8):=⟨rfl,rfl,rfl,by decide +kernel,rfl,by decide +kernel,by decide +kernel⟩
def wB:Sp:=fun vs H Q _=>∃ (n:Nat) (l:Addr) (zs:Zs),vs=[.int n,.ref l]/\H l=some (.lst (zr zs))/\PO H zs/\b8 n (zp zs)/\∀ (r:Addr) (H':Hp),aL H H'->H r=none->bX H' (fun a=>H a=none) r n (bP n (zp zs))->Q (.ref r) H'
theorem GX{f:Addr}{fd:FuncData}(F:hV K "_law_outs" "_law_outs" A8 f fd)(B:Bl mg)(B2:M_ mg):bJ P w K mg base bh 1 f fd ["_law_many","_law_ties"] wB:=by
 refine F.ok nB (fun vs H Q E h=>?_) (fun eV A outer s H vs Q E hr h=>?_)
 .obtain⟨n,l,zs,rfl,_⟩:=h;rfl
 .obtain⟨n,l,zs,rfl,hl,po,Fi,q⟩:=h;have n1:=Fi.n1;have n2:=Fi.n2;have zl:zs.length<=256:=by have:=Fi.len;rwa [bQ] at this
  refine'⟨_,(aj (aV (i:=2) nB.nd rfl (Or.inr rfl) (cA (A0 rfl hr.u) (by rfl) B2.dict PyProof.Rows.boot_dict (aa ?c1 ag)))
   (aj (aV (i:=3) nB.nd rfl (Or.inl rfl) (cY ag))
   (aj (cQ dP rfl (bE rfl B.range (aa (pv 0) ag)) (az (i:=4) nB.nd rfl (Or.inr rfl))
    (aj (dY (i:=5) (g:=(bD 0)) (te:=(iI (rI (fun _ j=>0<j) fun i j=>.int (i % j)) (iI (xf fun i j=>.int (i+j)) (aY 1) (aY 0)) (aY 2))) (NB:=["_law_k","_law_house","_law_many"]) (src:=[none,some 4,some 0]) (bq (by kernel_rfl)) rfl (oW rfl B.range (aa aB (aa (pv 0) ag))) ?g2 ?t2 ?e2 nB.nd rfl rfl rfl)
    (ap (cq (gK gI jE jD du (pv 3) (aa ?c3 ag))))))
   (ap (be (pv 3)))))),?_⟩
  case c1=>
   refine' cD (g:=(bD 0)) (te:=(o4 (bz (aY 0) (bz (tC (.bl true)) gg)))) (NB:=["_law_tie"]) (src:=[none]) (bq (by kernel_rfl)) rfl (bV (pv 1)) ?g ?t ?e;case g=>exact fun cl C s₃ H₃ fp=>(az (i:=0) ND rfl (Or.inl rfl) (Or.inr rfl))
   case t=>exact fun cl C s₃ H₃ fp=>c_
   case e=>exact fun cl C s₃ H₃ fp=>(cH (aa (pv 0) (aa mB ag)))
  case g2=>exact fun cl C s₃ H₃ fp=>(az (i:=0) qm rfl (Or.inl rfl) (Or.inr rfl))
  case t2=>exact fun cl C s₃ H₃ fp=>c_
  case e2=>exact fun cl C s₃ H₃ fp=>(bb iX (bb cX (pv 1) (pv 0)) (pv 2))
  case c3=>
   refine' cD (g:=(bD 0)) (tt:=(tB (QT (o4 (bz (aY 1) (bz (aY 0) gg))) (aY 2)))) (te:=(aY 0)) (NB:=["_law_other","_law_house","_law_there"]) (src:=[none,some 4,some 2]) (bq (by kernel_rfl)) rfl (bV (pv 5)) ?g ?t ?e;case g=>exact fun cl C s₃ H₃ fp=>(az (i:=0) kQ rfl (Or.inl rfl) (Or.inr rfl))
   case t=>exact fun cl C s₃ H₃ fp=>fY (LL (Mo hr.u (cH (aa (pv 1) (aa (pv 0) ag))) (pv 2)))
   case e=>exact fun cl C s₃ H₃ fp=>(pv 0)
  refine⟨_,rfl,l,rfl,⟨_,a9.of hl⟩,fun D1 AX=>?_⟩;refine d_ (xs:=zr zs) (fun i ys σ H2=>(∃x,σ=[x])/\aL H H2/\H2 D1=some (.lst ys)/\∃as:List Addr,ys=as.map V.ref/\as.length=i/\∀j,j<i->∃z,zs[j]?=some z/\H2 (as.getD j 0)=some (.tup [.ref z.1,.bl true])) ⟨⟨_,rfl⟩,ai AX,ae,[],rfl,rfl,fun j hj=>absurd hj (vj _)⟩ (fun i ys σ H2 _ z=>a9.of (z.2.1 _ _ hl)) ?_ ?_
  .rintro i x ys σ H2 Kt Kf hx ⟨⟨x',rfl⟩,sm,iz,as,rfl,al,ah⟩ kt kf;obtain⟨z,hz,rfl⟩:=sj hx;have hi:i<zs.length:=(dN.mp hz).1;refine⟨_,rfl,by show 2<=sizeLine;decide,fun t ht=>?_⟩;have st:=ai (o:=.tup [.ref z.1,.bl true]) ht;have nD:D1≠t:=am iz ht;refine kt _ _ _ (st _ _ iz) (by rw[aR,al];exact br (show i<1000 by lia) (by decide)) ⟨⟨_,rfl⟩,bv (sm.trans st) AX,ae,as++[t],by rw[di];rfl,by rw[df,al];rfl,fun j hj=>?_⟩;by_cases c:j<i
   .obtain⟨z',e1,e2⟩:=ah j c;refine⟨z',e1,?_⟩;have e3:=st _ _ e2;rw[bY,i6 (by lia),<-bY,ao (by rintro e;rw[e,st _ _ iz] at e3;cases e3)];exact e3
   .obtain rfl:j=i:=by lia
    refine⟨z,hz,?_⟩;rw[bY,pL (by lia),al,rf];show (upd _ D1 _) t=_;rw[ao nD.symm];exact ae
  rintro ys σ H2 ⟨_,s2,jA,as,rfl,al,ah⟩;rw[dD] at al ah;refine⟨D1,as,zs.map fun z=>(AZ z.2,z.1,V.bl true),rfl,jA,by rw[aR];exact al,fun i hi=>?_,by rw[aR];lia,fun Kn hK=>?_⟩
  .rw[aR] at hi;obtain⟨z,e1,e2⟩:=ah i hi;exact⟨AZ z.2,z.1,.bl true,by rw[bZ,e1];rfl,e2,s2 _ _ (po z (cS e1))⟩
  have Sg:∀u:Int×Int,(ic (dI [] (zs.map fun z=>(AZ z.2,z.1,V.bl true))) (AZ u)).isSome=decide (u∈zp zs):=fun u=>by
   rw[j7,yu,dQ,qX];have e:((fun p:TK=>p.1) ∘ fun z:Addr×Int×Int=>(AZ z.2,z.1,V.bl true))=AZ ∘ fun z:Addr×Int×Int=>z.2:=rfl;rw[e,<-dQ];have:=JP (u:=u) (ts:=zp zs);unfold zp at this |-;rw[this];simp[ic]
  have sK:=ai (o:=.dT (dI [] (zs.map fun z=>(AZ z.2,z.1,V.bl true)))) hK;have hKK:(upd H2 Kn (.dT (dI [] (zs.map fun z=>(AZ z.2,z.1,V.bl true))))) Kn=some (.dT (dI [] (zs.map fun z=>(AZ z.2,z.1,V.bl true)))):=ae;generalize dI [] _=kd at *;refine⟨by show 0<=sizeLine;decide,fun R hR=>?_⟩;have s3:aL H _:=s2.trans sK;have hK3:=ai (o:=.lst []) hR _ _ hKK;have hRH:=s3.free hR;have s4:=s3.trans (ai (o:=.lst []) hR);refine⟨_,rfl,(n:Int),rfl,by lia,by lia,dt (n:=n) (lo:=0) (fun i σ Hc=>(∃a b,σ=[some (.int n),some (.ref l),some (.ref Kn),some (.ref R),a,b])/\aL H Hc/\Hc Kn=some (.dT kd)/\∃bs:List Addr,Hc R=some (.lst (bs.map V.ref))/\(∀b∈bs,H b=none/\b≠R)/\Holds Hc bs i fun h=>.lst (NV (bP n (zp zs) h))) ⟨⟨_,_,rfl⟩,s4,hK3,[],ae,fun b hb=>(nomatch hb),Holds.nil⟩ ?_ ?_⟩
  .rintro i σ Hc hi ⟨⟨x4,x5,rfl⟩,sc,UO,bs,Sh,fr,hb⟩;have nKR:Kn≠R:=by rintro rfl;rw[UO] at Sh;cases Sh
   rw[gv];refine⟨_,rfl,1,(n:Int),rfl,⟨by decide,by decide,by lia,by lia⟩,fun D2 jA=>?_⟩;rw[show ((n:Int)-1).toNat=n-1 by lia];refine JO (lo:=1) (n:=n-1) (fun s=>V.int (((i+(s+1)) % n:Nat):Int)) (fun σ=>∃x,σ=[x,some (.int (i:Nat)),some (.int n)]) jA (by lia) ⟨_,rfl⟩ ?_ ?_
   .rintro x σ H4 R' Kf hx ⟨x',rfl⟩ wn kt;have e:((i:Int)+(1+(x:Int))) % (n:Int)=(((i+(x+1)) % n:Nat):Int):=by lia
    refine⟨_,rfl,_,rfl,_,_,rfl,rfl,_,rfl,_,_,rfl,rfl,(by show (0:Int)<(n:Int);lia),?_⟩;have:=kt [some (.int (1+(x:Int))),some (.int (i:Nat)),some (.int n)] H4 ⟨_,rfl⟩ (aL.refl _);rw[<-e] at this;exact this
   intro H4 s4 AV;have Si:H4 D2=some (.lst (((List.range (n-1)).map fun s=>(i+(s+1)) % n).map fun (x:Nat)=>V.int (x:Int))):=by rw[AV,dQ];rfl
   have qE:=s4 _ _ Sh;refine⟨_,rfl,.inl ⟨rfl,_,a9.of qE⟩,_,rfl,D2,rfl,⟨_,a9.of Si⟩,fun D3 nJ=>?_⟩;refine wA ((List.range (n-1)).map fun s=>(i+(s+1)) % n) (fun (x:Nat)=>V.int (x:Int)) (fun o=>decide ((ci i,ci o)∈zp zs)) (fun σ=>∃x,σ=[x,some (.int (i:Nat)),some (.ref Kn)]) Si nJ (by rw[aR,cu];lia) ⟨_,rfl⟩ ?_ ?_
   .rintro m σ H5 Kt Kf hm ⟨x',rfl⟩ Pn kt kf;refine⟨_,rfl,_,rfl,by show 2<=sizeLine;decide,fun t ht=>?_⟩;have st:=ai (o:=.tup [.int (i:Int),.int (m:Int)]) ht;have hK5:=st _ _ (Pn _ _ (s4 _ _ UO));refine⟨_,rfl,Kn,_,rfl,Fy.t (k:=AZ (ci i,ci m)) hK5 ae,_,rfl,?_⟩;rw[Sg];refine fX (fun c=>?_) (fun c=>?_)
    .exact⟨_,rfl,kt _ _ ⟨_,rfl⟩ st c⟩
    .exact kf _ _ ⟨_,rfl⟩ st (by simpa using c)
   intro H5 s5 JN;rw[JQ Fi hi] at JN;have Mv:=s5 _ _ qE;have bl:bs.length=i:=hb.1;have Ev:D3≠R:=by rintro rfl;rw[qE] at nJ;cases nJ
   refine⟨R,_,_,rfl,rfl,Mv,by rw[aR,bl];exact br (show i<33 by lia) (by decide),⟨_,_,rfl⟩,bv ((sc.trans s4).trans s5) hRH,?_,bs++[D3],by rw[ae,di];rfl,fun b tG=>?_,?_⟩
   .rw[ao nKR];exact s5 _ _ (s4 _ _ UO)
   .rcases cw.mp tG with z|z
    .exact fr b z
    .rw[cU.mp z];exact⟨(sc.trans s4).free nJ,Ev⟩
   .refine Holds.snoc (hb.mono fun j hj e=>?_) (by rw[ao Ev];exact JN);have e5:=s5 _ _ (s4 _ _ e);have hm:bs.getD j 0∈bs:=by rw[bY,cg (by lia)];exact ik _
    rw[ao (fr _ hm).2];exact e5
  .rintro σ Hc ⟨⟨x4,x5,rfl⟩,sc,UO,bs,Sh,fr,hb⟩;exact⟨_,rfl,q R Hc sc hRH ⟨bs,Sh,fun b tG=>(fr b tG).1,hb⟩⟩
end
abbrev A9:Stmt:=top 50
def oV:Option Nat->V
 |none=>.cE
 |some y=>.int (y:Nat)
theorem GY{y:Nat}:∀ {st:List (Option Nat)},(st.map oV).countP (fun z=>sQ z (.int (y:Int)))=st.count (some y)
 |[]=>rfl
 |o::st=>by
  rw[fh,ot,GY,zJ];cases o with
  |none=>rfl
  |some x=>
   congr 1;show (if decide ((x:Int)=(y:Int))=true then 1 else 0)=_;by_cases h:x=y
   .subst h;simp
   .rw[av (by simp;lia),av (by simp[h])]
theorem kR:∀ {st:List (Option Nat)},(st.map oV).all fE=true
 |[]=>rfl
 |none::st=>kR (st:=st)
 |some _::st=>kR (st:=st)
structure kU(n:Nat)(ts:Ts)(homes:List Nat)(st:List (Option Nat)):Prop where
 len:homes.length=st.length
 hs:∀x∈homes,x<n
 ss:∀i y:Nat,st[i]?=some (some y)->y<n/\homes[i]?≠some y
 cap:∀y,y<n->st.count (some y)<=(bP n ts y).length
theorem kU.snoc(S:kU n ts homes st)(hh:h<n)(ho:∀y,o=some y->y<n/\y≠h/\st.count (some y)<(bP n ts y).length):kU n ts (homes++[h]) (st++[o]):=by
 refine⟨by rw[df,df,S.len];rfl,fun x hx=>?_,fun i y e=>?_,fun y hy=>?_⟩
 .rcases cw.mp hx with z|z
  .exact S.hs x z
  .rw[cU.mp z];exact hh
 .by_cases c:i<st.length
  .rw[i6 c] at e;rw[i6 (by rw[S.len];exact c)];exact S.ss i y e
  .rw[pL (by lia)] at e;have hi:i=st.length:=by
    have:=(dN.mp e).1;rw[lH] at this;lia
   subst hi;rw[rf] at e;have:=ho y (bN e);refine⟨this.1,?_⟩;rw[<-S.len,pL (aU _),rf];exact fun z=>this.2.1 (bN z).symm
 .rw[List.count_append,List.count_singleton];by_cases e:o=some y
  .rw[ak (by rw[e];simp)];exact(ho y e).2.2
  .rw[av (by simpa using e)];exact S.cap y hy
section
variable {P:Program} {w:World} {K:PySem.W.Frag} {mg:Str->Option Value} {base:Heap}
theorem iS:aP ["_law_pot_here","_law_outs_here","_law_many","_law_crowd","_law_homes","_law_stand","_law_k","_law_house"] ["_law_pot_here","_law_outs_here"] (au A9):=⟨rfl,rfl,rfl,by decide +kernel,rfl,by decide +kernel,by decide +kernel⟩
def wC:Sp:=fun vs H Q _=>∃ (p r:Addr) (n:Nat) (ts:Ts) (L:Addr->Prop),vs=[.ref p,.ref r]/\2<=n/\n<=32/\bf H p/\bX H L r n (bP n ts)/\L r/\¬ L p/\
 ∀ (t a b:Addr) (homes:List Nat) (st:List (Option Nat)) (H':Hp),aN p H H'->bf H' p->H' t=some (.tup [.ref a,.ref b])->H' a=some (.tup (NV homes))->H' b=some (.tup (st.map oV))->st.length<=16->kU n ts homes st->Q (.ref t) H'
theorem GZ(F:hV K "_law_start" "_law_start" A9 f fd)(B:Bl mg)(D:dH P w K mg base bh 1 "_law_take" ["_law_pot_here","_law_many"] gE):bJ P w K mg base bh 2 f fd ["_law_pot_here","_law_outs_here"] wC:=by
 refine F.ok iS (fun vs H Q E h=>?_) (fun eV A outer s H vs Q E hr h=>?_)
 .obtain⟨p,r,n,ts,L,rfl,_⟩:=h;rfl
 .obtain⟨p,r,n,ts,L,rfl,n1,n2,hp,R0,hLr,hLp,q⟩:=h;refine⟨_,(aj (aV (i:=2) iS.nd rfl (Or.inl rfl) (aI aQ (by rfl) B.len dU (aa (pv 1) ag)))
   (aj (aV (i:=3) iS.nd rfl (Or.inl rfl) (aX aK (cY (aa (pv 2) (aa (pv 2) (aa aB (aa aB ag))))) (aJ D hr aO (aa (pv 0) (aa aB ag))) (fun _ _=>rfl)))
   (aj (zQ (i:=4) (j:=5) rfl iS.nd rfl rfl (by decide) rfl rfl (aa (cY ag) (aa (cY ag) ag)) (by rfl))
   (aj (cQ dP rfl (bE rfl B.range (aa (aJ D hr aO (aa (pv 0) (aa aB ag))) ag)) (az (i:=6) iS.nd rfl (Or.inl rfl))
    (aj (cq (gK gI jE jD du (pv 4) (aa (aJ D hr aO (aa (pv 0) (aa (pv 2) ag))) ag)))
    (aj (aV (i:=7) iS.nd rfl (Or.inl rfl) (aJ D hr aO (aa (pv 0) (aa (aI (kZ rfl) (by rfl) B.min uT (aa (pv 3) (aa (pv 2) ag))) ag))))
    (aj (cC (PW.pt (pN (aM hU (aJ D hr aO (aa (pv 0) (aa aB ag))) aB (a_ _)) (pN (aM hU (pv 7) (aX aK (pv 4) (Bv vH aB) (fun _ _=>rfl)) (a_ _)) (lY (aM KU (gK gI PySem.F.slot_list_count PySem.F.type_list_count xG (pv 5) (aa (pv 7) ag)) (aI aQ (by rfl) B.len dU (aa (aX aK (pv 1) (pv 7) (fun _ _=>rfl)) ag)) (a_ _)))))) (ap (aV (i:=7) iS.nd rfl (Or.inl rfl) (bb iX (bb cX (bb cX (pv 7) aB) (aJ D hr aO (aa (pv 0) (aa (pv 2) ag)))) (pv 2)))) bp)
    (aj (cC (PW.pt (pN (aM hU (pv 7) (aX aK (pv 4) (Bv vH aB) (fun _ _=>rfl)) (a_ _)) (lY (aM KU (gK gI PySem.F.slot_list_count PySem.F.type_list_count xG (pv 5) (aa (pv 7) ag)) (aI aQ (by rfl) B.len dU (aa (aX aK (pv 1) (pv 7) (fun _ _=>rfl)) ag)) (a_ _))))) (ap (aV (i:=7) iS.nd rfl (Or.inl rfl) eC)) bp)
    (ap (cq (gK gI jE jD du (pv 5) (aa (pv 7) ag)))))))))
   (ap (be (cH (aa (cA fm (by rfl) B.tup pM (aa (pv 4) ag)) (aa (cA fm (by rfl) B.tup pM (aa (pv 5) ag)) ag))))))))),?_⟩
  obtain⟨bs0,g1,g2,g3⟩:=id R0;have el:(((bs0.map V.ref).length:Nat):Int)=(n:Int):=by rw[aR,g3.1]
  refine⟨_,rfl,r,_,rfl,.inl (a9.of g1),?_⟩;rw[el];refine⟨_,rfl,_,rfl,by show 4<=sizeLine;decide,fun l hl=>⟨_,rfl,p,4,rfl,by decide,by decide,hp.same (ai hl),fun d1 H1 hd1 s1 mr=>?_⟩⟩;have gl:=s1 _ _ (ae (H:=H) (a:=l) (o:=.lst [.int (n:Int),.int (n:Int),.int 2,.int 1])) (hp.ne hl);obtain⟨c,hc,c1,c2⟩:∃c:Nat,yH [V.int (n:Int),.int (n:Int),.int 2,.int 1] (d1:Int)=some (.int c)/\1<=c/\c<=32:=by
   rcases(show d1=0\/d1=1\/d1=2\/d1=3 by lia) with rfl|rfl|rfl|rfl
   .exact⟨n,aD (j:=0) rfl,by lia,by lia⟩
   .exact⟨n,aD (j:=1) rfl,by lia,by lia⟩
   .exact⟨2,aD (j:=2) rfl,by decide,by decide⟩
   .exact⟨1,aD (j:=3) rfl,by decide,by decide⟩
  have Lq:aN p H H1:=(aN.of (ai hl)).trans s1;refine⟨l,_,_,_,rfl,rfl,a9.of gl,hc,by show 0<=sizeLine;decide,fun Hs hHs=>⟨by show 0<=sizeLine;decide,fun St Xl=>⟨_,_,rfl,?_⟩⟩⟩;have sA:=ai (o:=.lst []) hHs;have sB:=ai (o:=.lst []) Xl;have gH:=sB _ _ (ae (H:=H1) (a:=Hs) (o:=.lst (NV [])));have gS:(upd (upd H1 Hs (.lst [])) St (.lst [])) St=some (.lst (List.map oV [])):=ae;have fH:H Hs=none:=Lq.free mr.full hHs;have fS:H St=none:=Lq.free mr.full (sA.free Xl);have Po:Hs≠p:=hp.ne fH;have HQ:St≠p:=hp.ne fS;have nHS:Hs≠St:=am ae Xl;have Xm:=sA.trans sB;generalize upd (upd H1 Hs _) St _=H2 at *;refine⟨_,rfl,p,17,rfl,by decide,by decide,mr.same Xm,fun d2 H3 Uy s3 mw=>⟨(d2:Int),rfl,by lia,by lia,?_⟩⟩;rw[gk];refine dt (lo:=0) (n:=d2) (fun i σ Hc=>∃ (homes:List Nat) (st:List (Option Nat)),(∃a b,σ=[some (.ref p),some (.ref r),some (.int (n:Int)),some (.int (c:Int)),some (.ref Hs),some (.ref St),a,b])/\aN p H Hc/\bf Hc p/\Hc Hs=some (.lst (NV homes))/\Hc St=some (.lst (st.map oV))/\st.length=i/\kU n ts homes st)
   ⟨[],[],⟨_,_,rfl⟩,(Lq.trans (aN.of Xm)).trans s3,mw,s3 _ _ gH Po,s3 _ _ gS HQ,rfl,rfl,fun x hx=>(nomatch hx),fun i y e=>by simp at e,fun y _=>cx _⟩ ?_ ?_
  .clear gH gS s3 mw Xm sA sB gl Lq s1 mr;rintro i σ Hc hi ⟨homes,st,⟨x6,x7,rfl⟩,sc,mi,NF,yn,sl,SD⟩;refine⟨_,rfl,.inl ⟨rfl,_,a9.of NF⟩,_,rfl,_,rfl,p,n,rfl,by lia,by lia,mi,fun home H4 hh s4 nL=>⟨Hs,_,_,rfl,rfl,s4 _ _ NF Po,by rw[bj,SD.len,sl];exact br (show i<33 by lia) (by decide),?_⟩⟩;rw[iR];have Ng:aN p H (upd H4 Hs (.lst (NV (homes++[home])))):=fun b o e m=>by rw[ao (am e fH)];exact s4 _ _ (sc _ _ e m) m
   have uE:=nL.put (o:=.lst (NV (homes++[home]))) Po.symm;have hS5:(upd H4 Hs (.lst (NV (homes++[home])))) St=some (.lst (st.map oV)):=by rw[ao nHS.symm];exact s4 _ _ yn HQ
   have hH5:=ae (H:=H4) (a:=Hs) (o:=.lst (NV (homes++[home])));generalize upd H4 Hs _=H5 at *;clear s4 nL NF yn mi sc;have em:(if (n:Int)<(c:Int) then (n:Int) else (c:Int))=((min c n:Nat):Int):=by split <;> lia
   refine⟨_,rfl,_,rfl,_,rfl,_,_,rfl,p,min c n,by rw[em];rfl,by lia,by lia,uE,fun y0 H6 hy0 s6 B5=>?_⟩;have hgl:yH (NV (homes++[home])) (-1)=some (.int (home:Int)):=by rw[<-iR];exact xm _ _
   dsimp only;refine uC (fun σ Hd=>∃y:Nat,y<n/\σ=[some (.ref p),some (.ref r),some (.int (n:Int)),some (.int (c:Int)),some (.ref Hs),some (.ref St),some (.int (0+(i:Int))),some (.int (y:Int))]/\aN p H Hd/\bf Hd p/\Hd Hs=some (.lst (NV (homes++[home])))/\Hd St=some (.lst (st.map oV))) ?_ ?_
   .rintro σ Hd ⟨y,hy,rfl,sd,Q3,hH,hS⟩;refine uC (fun σ He=>He=Hd/\∃o:Option Nat,σ=[some (.ref p),some (.ref r),some (.int (n:Int)),some (.int (c:Int)),some (.ref Hs),some (.ref St),some (.int (0+(i:Int))),some (oV o)]/\∀y,o=some y->y<n/\y≠home/\st.count (some y)<(bP n ts y).length) ?_ ?_
    .rintro σ He ⟨rfl,o,rfl,ho⟩;refine⟨_,rfl,.inl ⟨rfl,_,a9.of hS⟩,_,rfl,St,_,_,rfl,rfl,hS,by rw[aR,sl];exact br (show i<33 by lia) (by decide),?_⟩;exact⟨homes++[home],st++[o],⟨_,_,rfl⟩,fun b o' e m=>by rw[ao (am e fS)];exact sd _ _ e m,Q3.put HQ.symm,by rw[ao nHS];exact hH,by rw[ae,di];rfl,by rw[df,sl];rfl,SD.snoc hh ho⟩
    .intro N hN;have Rd:=R0.keep hLr fun b o l e=>sd b o e fun z=>hLp (z ▸ l);obtain⟨bs,b1,b2,b3⟩:=Rd;have no:N _ Hd:=hN _ _ ⟨rfl,none,rfl,fun y e=>by cases e⟩;refine⟨_,rfl,_,rfl,_,rfl,Hs,_,_,_,rfl,rfl,a9.of hH,hgl,rfl,_,rfl,fX (fun e1=>vR ?_) (fun e1=>?_)⟩
     .exact no
     refine⟨_,rfl,.inl ⟨rfl,_,a9.of hS⟩,_,rfl,St,_,_,rfl,rfl,hS,rfl,kR,_,rfl,_,rfl,r,_,_,_,rfl,rfl,a9.of b1,aD (CC (by rw[b3.1];exact hy)),_,_,rfl,.inl (a9.of (b3.2 y hy)),_,_,rfl,rfl,_,rfl,?_⟩;refine fX (fun e2=>no) (fun e2=>hN _ _ ⟨rfl,some y,rfl,fun y' e=>?_⟩);cases e;refine⟨hy,fun z=>e1 (by rw[z];simp),?_⟩;have e2:=mt fP e2;rw[GY,bj] at e2;lia
   .intro N hN;have R7:=Ng.trans s6;have hH:=s6 _ _ hH5 Po;have hS:=s6 _ _ hS5 HQ;have hy:y0<n:=by lia
    have Rd:∀ {Hd},aN p H Hd->bX Hd L r n (bP n ts):=fun sd=>R0.keep hLr fun b o l e=>sd b o e fun z=>hLp (z ▸ l);refine Wq (fun Hd=>aN p H Hd/\bf Hd p/\Hd Hs=some (.lst (NV (homes++[home])))/\Hd St=some (.lst (st.map oV))) (fun Hd=>aN p H Hd/\bf Hd p/\Hd Hs=some (.lst (NV (homes++[home])))/\Hd St=some (.lst (st.map oV))) ?_ (fun Hd ⟨a1,a2,a3,a4⟩=>hN _ _ ⟨y0,hy,rfl,a1,a2,a3,a4⟩) ?_
    .rintro Hd ⟨sd,Q3,hHd,hSd⟩;refine⟨_,rfl,_,_,rfl,rfl,_,rfl,_,rfl,p,n,rfl,by lia,by lia,Q3,fun d3 H7 hd3 s7 GB=>⟨_,_,rfl,rfl,_,rfl,_,_,rfl,rfl,(by show (0:Int)<(n:Int);lia),?_⟩⟩;have ey:((y0:Int)+1+(d3:Int)) % (n:Int)=(((y0+1+d3) % n:Nat):Int):=by simp
     change bD 7 (V.int (((y0:Int)+1+(d3:Int)) % (n:Int))) _ _ _;rw[ey];exact hN _ _ ⟨_,kg _ (by lia),rfl,sd.trans s7,GB,s7 _ _ hHd Po,s7 _ _ hSd HQ⟩
    .intro Y N' hY hN';refine⟨_,rfl,p,7,rfl,by decide,by decide,B5,fun d3 H7 hd3 s7 GB=>⟨rfl,_,rfl,?_⟩⟩;have k7:=R7.trans s7;have hS:=s7 _ _ hS HQ;have hH:=s7 _ _ hH Po;refine fX (fun e0=>vR (hY _ ⟨k7,GB,hH,hS⟩)) (fun e0=>?_);refine⟨_,rfl,_,rfl,_,rfl,Hs,_,_,_,rfl,rfl,a9.of hH,hgl,rfl,_,rfl,fX (fun e1=>vR (hY _ ⟨k7,GB,hH,hS⟩)) (fun e1=>?_)⟩;obtain⟨bs,b1,b2,b3⟩:=Rd k7;refine⟨_,rfl,.inl ⟨rfl,_,a9.of hS⟩,_,rfl,St,_,_,rfl,rfl,hS,rfl,kR,_,rfl,_,rfl,r,_,_,_,rfl,rfl,a9.of b1,aD (CC (by rw[b3.1];exact hy)),_,_,rfl,.inl (a9.of (b3.2 y0 hy)),_,_,rfl,rfl,_,rfl,?_⟩;exact fX (fun e2=>hY _ ⟨k7,GB,hH,hS⟩) (fun e2=>hN' _ ⟨k7,GB,hH,hS⟩)
  .rintro σ Hc ⟨homes,st,⟨x6,x7,rfl⟩,sc,mi,NF,yn,sl,SD⟩;refine⟨_,rfl,Hs,_,rfl,.inl ⟨a9.of NF,fun ta hta=>⟨_,rfl,St,_,rfl,.inl ⟨a9.of (ai hta _ _ yn),fun tb Uh=>⟨by show 2<=sizeLine;decide,fun t ht=>?_⟩⟩⟩⟩⟩;have u1:=ai (o:=.tup (NV homes)) hta;have u2:=ai (o:=.tup (st.map oV)) Uh;have u3:=ai (o:=.tup [.ref ta,.ref tb]) ht;exact q t ta tb homes st _ (sc.trans (aN.of ((u1.trans u2).trans u3))) (((mi.same u1).same u2).same u3) ae (u3 _ _ (u2 _ _ ae)) (u3 _ _ ae) (by lia) SD
end
abbrev Xn:Stmt:=top 13
abbrev CD:Stmt:=fu (top 15) 1
abbrev Xo:Stmt:=top 26
abbrev sHT:Stmt:=top 25
abbrev G0:Stmt:=top 23
theorem jK:(["letter","house"]:List Str).Nodup:=by decide +kernel
theorem iD:(["ahead","goes","stand","letter"]:List Str).Nodup:=by decide +kernel
theorem JR:(["home"]:List Str).Nodup:=by decide +kernel
noncomputable def jj(n:Nat)(ts:Ts)(i j:Nat):List Nat:=(bP n ts i).filter fun o=>decide (far ts o j<far ts i j)
theorem nbG:(["other","self","home","own"]:List Str).Nodup:=by decide +kernel
def qo(st:List (Option Nat))(i:Nat):List Nat:=(List.range i).filter fun j=>(st.getD j none).isSome
theorem yv:qo st (i+1)=qo st i++if (st.getD i none).isSome then [i] else []:=by
 unfold qo;rw[ja,gh,dO];rfl
theorem nC:(qo st i).length<=i:=ba (ij _ _) (by rw[cu];exact aU _)
def Sj:R2:=fun x y H Q=>y=.cE/\Q (.bl (!decide (x=.cE))) H
theorem NG{st:List (Option Nat)}{i:Nat}{x:V}(h:(st.map oV)[i]?=some x):i<st.length/\x=oV (st.getD i none):=by
 have hi:=(dN.mp h).1;rw[aR] at hi;refine⟨hi,?_⟩;rw[bZ,cg hi] at h;rw[bY,cg hi];exact(bN h).symm
theorem JS:(!decide (oV o=.cE))=o.isSome:=by cases o <;> simp[oV]
theorem CG{α:Type}{l:List α}{i:Nat}{d:α}(h:i<l.length):l[i]?=some (l.getD i d):=by rw[bY,cg h];rfl
theorem lm(h:j∈qo st i):j<i/\st.getD j none=some ((st.getD j none).getD 0):=by
 obtain⟨a,b⟩:=dz.mp h;refine⟨bK.mp a,?_⟩;cases e:st.getD j none with
 |none=>rw[e] at b;cases b
 |some y=>rfl
def p9(st gs:List (Option Nat))(l:Nat)(os:List Nat):Option Nat:=os.find? fun h=>!((List.range st.length).any fun a=>decide (st.getD a none=st.getD l none)&&decide (gs.getD a none=some h))
theorem hZ{st:List (Option Nat)}{i:Nat}(h:i<st.length):(st.map oV)[i]?=some (oV (st.getD i none)):=by
 rw[bZ,bY,cg h];rfl
theorem Sk:decide (oV a=oV b)=decide (a=b):=by
 cases a <;> cases b <;> simp[oV];exact⟨fun h=>cK h,fun h=>by rw[h]⟩
theorem JT:Ic (oV a) (oV b)=true:=by cases a <;> cases b <;> rfl
theorem Lr{h:Nat}:∀ {xs:List (Option Nat)},yI (.int (h:Int)) (xs.map oV)=xs.any fun o=>decide (o=some h)
 |[]=>rfl
 |o::xs=>by
  have ih:=Lr (h:=h) (xs:=xs);unfold yI at *;rw[fh,jm,jm,ih];cases o with
  |none=>rfl
  |some x=>
   congr 1;show decide ((x:Int)=(h:Int))=_;by_cases e:x=h
   .subst e;simp
   .rw[fL (by lia),fL (by simp[e])]
theorem dB.own(N:dB C H L p n ts):dB C H (fun b=>H b≠none) p n ts:=by
 obtain⟨dx,tl,ol,ds,a,l1,l2,b,c,d⟩:=N.ob;have ne:∀ {b o},H b=some o->H b≠none:=fun e z=>by rw[e] at z;cases z
 have vF:∀ {l r},bX H L l n r->bX H (fun b=>H b≠none) l n r/\H l≠none:=fun ⟨bs,a,b,c⟩=>⟨⟨bs,a,fun x hx=>by
  obtain⟨j,hj,e⟩:=qT hx;have:=c.2 j (by rw[<-c.1];exact hj);rw[bY,cg hj,oq,e] at this;exact ne this,c⟩,ne a⟩
 obtain⟨t1,zs,t2,t3,t4,t5⟩:=d;exact⟨N.jO,dx,tl,ol,ds,a,(vF b).2,(vF c).2,(vF b).1,(vF c).1,ne t2,zs,t2,t3,fun z hz=>ne (t3 z hz),t5⟩
section
variable {P:Program} {w:World} {K:PySem.W.Frag} {mg:Str->Option Value} {base:Heap}
theorem G7:aP ["self","house","home","own"] ["self","house","home"] (au F5):=⟨rfl,rfl,rfl,by decide +kernel,rfl,by decide +kernel,by decide +kernel⟩
def wD(C:Addr):Sp:=fun vs H Q _=>∃ (L:Addr->Prop) (p:Addr) (n:Nat) (ts:Ts) (i j:Nat),vs=[.ref p,.int i,.int j]/\dB C H L p n ts/\i<n/\j<n/\∀r H',aL H H'->H r=none->H' r=some (.lst (NV (jj n ts i j)))->Q (.ref r) H'
theorem G8(F:hV K "good" "Net.good" F5 f fd)(T:NT K mg C)(M:iZ P w K mg base bh 5 C "far" ["self","one","other"] (me C)):
  bJ P w K mg base bh 6 f fd ["self","house","home"] (wD C):=by
 obtain⟨fM,fdM,mM,bM,GM⟩:=M.ex;refine F.ok G7 (fun vs H Q E h=>?_) (fun eV A outer s H vs Q E hr h=>?_)
 .obtain⟨L,p,n,ts,i,j,rfl,_⟩:=h;rfl
 .obtain⟨L,p,n,ts,i,j,rfl,N,hi,hj,k2⟩:=h;obtain⟨dx,tl,ol,ds,h1,_,_,RO,R,_⟩:=N.ob;have fi:=N.jO;have n2:=fi.n2;refine'⟨_,aj (aV (i:=3) G7.nd rfl (Or.inr rfl) (dX (pv 0) T.cl mM GM hr bM .nil aO (aa (pv 1) (aa (pv 2) ag))))
   (ap (be ?c)),?_⟩
  case c=>
   refine' cD (g:=bD 0) (tt:=mE (iI (xf fun i j=>.bl (decide (i<j))) (iI (qc K) (iI (qc K) (Ik K (aY 1) "distances") (aY 0)) (aY 2)) (aY 3))) (te:=aY 0) (NB:=["other","self","home","own"]) (src:=[none,some 0,some 2,some 3]) (bq (by kernel_rfl)) rfl (bV (aX aK (jv (pv 0) rfl) (pv 1) (fun _ _=>rfl))) ?g ?t ?e;case g=>exact fun cl C s₃ H₃ fp=>az (i:=0) nbG rfl (Or.inl rfl) (Or.inr rfl)
   case t=>exact fun cl C s₃ H₃ fp=>fY (aM kC (aX aK (aX aK (jv (pv 1) rfl) (pv 0) (fun _ _=>rfl)) (pv 2) (fun _ _=>rfl)) (pv 3) (a_ _))
   case e=>exact fun cl C s₃ H₃ fp=>pv 0
  refine⟨_,rfl,p,dx,_,rfl,h1,MP _ _ _ _,_,rfl,_,rfl,L,p,n,ts,i,j,rfl,N,hi,hj,?_⟩;obtain⟨bs,b,r1,r2,r3,_⟩:=RO.row hi;refine⟨_,rfl,p,C,dx,_,_,rfl,h1,T.cl,T.nO,Ck _ _ _ _,_,rfl,ol,_,_,_,rfl,rfl,a9.of r1,aD r2,b,rfl,⟨_,a9.of r3⟩,fun D hD=>?_⟩;have nb:b≠D:=am r3 hD;refine d_ (xs:=NV (bP n ts i)) (fun m ys σ H2=>(∃a,σ=[a,some (.ref p),some (.int (j:Int)),some (.int ((far ts i j:Nat):Int))])/\ys=NV (((bP n ts i).take m).filter fun o=>decide (far ts o j<far ts i j))/\H2=upd H D (.lst ys)) ⟨⟨_,rfl⟩,by simp,rfl⟩ (fun m ys σ H2 _ ⟨_,_,e⟩=>by rw[e];exact a9.of (by rw[ao nb];exact r3)) ?_ ?_
  .rintro m x ys σ H2 Kt Kf hx ⟨⟨a,rfl⟩,ey,rfl⟩ kt kf;obtain⟨v,hv,rfl⟩:=p7 hx;have MX:v∈bP n ts i:=cS hv;have Gc:v<n:=k_ fi hi MX;have sm:aL H (upd H D (.lst ys)):=ai hD;obtain⟨bs2,b2,q1,q2,q3,_⟩:=R.row Gc;have hg:(NV ((List.range n).map (far ts v)))[j]?=some (.int (far ts v j:Nat)):=by
    rw[bZ,bZ,fc hj];rfl
   have tk:(bP n ts i).take (m+1)=(bP n ts i).take m++[v]:=by rw[gj,hv];rfl
   have hm:m<(bP n ts i).length:=(dN.mp hv).1;refine⟨_,rfl,p,C,dx,_,_,rfl,sm _ _ h1,T.cl,T.nD,Cm _ _ _ _,_,rfl,ds,_,_,_,rfl,rfl,a9.of (sm _ _ q1),aD q2,_,rfl,b2,_,_,_,rfl,rfl,a9.of (sm _ _ q3),aD hg,_,rfl,_,_,rfl,rfl,_,rfl,?_⟩;refine fX (fun e=>?_) (fun e=>?_)
   .refine⟨_,rfl,kt _ _ _ ae ?_ ⟨⟨_,rfl⟩,?_,by rw[kY]⟩⟩
    .rw[ey,bj];refine eD (ij _ _) (eD (zh _ _) (br (show m<33 from ?_) (by decide)));have:(bP n ts i).length<=n:=ba (ij _ _) (by simp);lia
    .have:decide (far ts v j<far ts i j)=true:=by simp at e |-;lia
     rw[ey,tk,gh,iR];simp[dO,this]
   .refine kf _ _ ⟨⟨_,rfl⟩,?_,rfl⟩;have:decide (far ts v j<far ts i j)=false:=by simp at e |-;lia
    rw[ey,tk,gh];simp[dO,this]
  .rintro ys σ H2 ⟨_,ey,rfl⟩;rw[bj,i9] at ey;refine k2 D _ (ai hD) hD ?_;rw[ae,ey];rfl
theorem Xp:aP ["stand"] ["stand"] (au Xn):=⟨rfl,rfl,rfl,by decide +kernel,rfl,by decide +kernel,by decide +kernel⟩
def A_:Sp:=fun vs H Q _=>∃ (sa:Addr) (st:List (Option Nat)),vs=[.ref sa]/\H sa=some (.tup (st.map oV))/\st.length<=16/\∀ (r:Addr) (H':Hp),aL H H'->H r=none->H' r=some (.lst (NV (qo st st.length)))->Q (.ref r) H'
theorem Sl{f:Addr}{fd:FuncData}(F:hV K "under_way" "under_way" Xn f fd)(hE:mg "enumerate"=none):bJ P w K mg base bh 1 f fd ["stand"] A_:=by
 refine F.ok Xp (fun vs H Q E h=>?_) (fun eV A outer s H vs Q E hr h=>?_)
 .obtain⟨sa,st,rfl,_⟩:=h;rfl
 .obtain⟨sa,st,rfl,hS,hl,q⟩:=h;refine'⟨_,(ap (be ?c1)),?_⟩;case c1=>
   refine' cD (g:=(sY K 2 (fV (bD 0) (fV (bD 1) sX)))) (tt:=(mE (iI Sj (aY 1) (tC .cE)))) (te:=(aY 0)) (NB:=["letter","house"]) (src:=[none,none]) (bq (by kernel_rfl)) rfl (rP rfl hE (aa (pv 0) ag)) ?g ?t ?e;case g=>exact fun cl C s₃ H₃ fp=>(dC (n:=2) rfl (aG (az (i:=0) jK rfl (Or.inl rfl) (Or.inr rfl)) (aG (az (i:=1) jK rfl (Or.inl rfl) (Or.inr rfl)) cr)))
   case t=>exact fun cl C s₃ H₃ fp=>fY (aM ju (pv 1) eC (a_ _))
   case e=>exact fun cl C s₃ H₃ fp=>(pv 0)
  refine⟨_,rfl,sa,_,rfl,bU.of hS,fun D hD=>?_⟩;refine At (K:=K) (a:=sa) (xs:=st.map oV) (fun i ys σ H3=>(∃u v,σ=[u,v])/\ys=NV (qo st i)/\aL H H3/\H3 D=some (.lst ys)) ⟨⟨_,_,rfl⟩,rfl,ai hD,ae⟩ (fun i ys σ H3 _ z=>bU.of (z.2.2.1 _ _ hS)) ?_ ?_
  .rintro i x t ys σ H3 Kt Kf hx ⟨⟨u,v,rfl⟩,rfl,sm,nJ⟩ ht kt kf;obtain⟨hi,rfl⟩:=NG hx;have aZ:=ai (o:=.tup [.int (i:Int),oV (st.getD i none)]) ht;refine⟨_,_,rfl,bU.of ae,rfl,_,_,rfl,_,_,rfl,rfl,?_⟩;refine⟨_,rfl,rfl,_,rfl,?_⟩;rw[JS];refine fX (fun e=>?_) (fun e=>?_)
   .refine⟨_,rfl,kt _ _ _ (aZ _ _ nJ) (by rw[bj];exact eD nC (br (show i<17 by lia) (by decide))) ⟨⟨_,_,rfl⟩,?_,bv (sm.trans aZ) hD,ae⟩⟩;rw[yv,ak e,iR]
   .refine kf _ _ ⟨⟨_,_,rfl⟩,?_,sm.trans aZ,aZ _ _ nJ⟩;rw[yv,av e,j5]
  .rintro ys σ H3 ⟨_,rfl,sm,nJ⟩;rw[aR] at nJ;exact q D H3 sm hD nJ
theorem NH:aP ["self","net","homes","stand","beat"] ["self","net","homes","stand","beat"] (au CD):=⟨rfl,rfl,rfl,by decide +kernel,rfl,by decide +kernel,by decide +kernel⟩
def sJ:Sp:=fun vs H Q _=>∃ (x0 x1 x2 x4:V) (sa:Addr) (st:List (Option Nat)),vs=[x0,x1,x2,.ref sa,x4]/\H sa=some (.tup (st.map oV))/\st.length<=16/\∀ (r:Addr) (H':Hp),aL H H'->H r=none->H' r=some (.lst (NV (qo st st.length)))->Q (.ref r) H'
theorem CH(F:hV K "order" "Rule.order" CD f fd)(UW:dH P w K mg base bh 1 "under_way" ["stand"] A_):bJ P w K mg base bh 2 f fd ["self","net","homes","stand","beat"] sJ:=by
 refine F.ok NH (fun vs H Q E h=>?_) (fun eV A outer s H vs Q E hr h=>?_)
 .obtain⟨x0,x1,x2,x4,sa,st,rfl,_⟩:=h;rfl
 .obtain⟨x0,x1,x2,x4,sa,st,rfl,hS,hl,q⟩:=h;refine⟨_,(ap (be (aJ UW hr aO (aa (pv 3) ag)))),?_⟩;exact⟨_,rfl,sa,st,rfl,hS,hl,q⟩
theorem NI:aP ["others","stand","goes","letter","taken","house"] ["others","stand","goes","letter"] (au Xo):=⟨rfl,rfl,rfl,by decide +kernel,rfl,by decide +kernel,by decide +kernel⟩
def NJ:Sp:=fun vs H Q _=>∃ (oa sa ga:Addr) (os:List Nat) (st gs:List (Option Nat)) (l:Nat),vs=[.ref oa,.ref sa,.ref ga,.int l]/\H oa=some (.lst (NV os))/\H sa=some (.tup (st.map oV))/\H ga=some (.lst (gs.map oV))/\gs.length=st.length/\st.length<=16/\l<st.length/\∀H',aL H H'->Q (oV (p9 st gs l os)) H'
theorem Sm{f:Addr}{fd:FuncData}(F:hV K "first_free" "first_free" Xo f fd)(B:Bl mg):bJ P w K mg base bh 1 f fd ["others","stand","goes","letter"] NJ:=by
 refine F.ok NI (fun vs H Q E h=>?_) (fun eV A outer s H vs Q E hr h=>?_)
 .obtain⟨oa,sa,ga,os,st,gs,l,rfl,_⟩:=h;rfl
 .obtain⟨oa,sa,ga,os,st,gs,l,rfl,hO,hS,hG,gl,sl,hl,q⟩:=h;refine'⟨_,(aj (dY (i:=4) (g:=(bD 0)) (tt:=(mE (iI (Vo) (iI (tj K) (aY 2) (aY 0)) (iI (tj K) (aY 2) (aY 3))))) (te:=(iI (qc K) (aY 1) (aY 0))) (NB:=["ahead","goes","stand","letter"]) (src:=[none,some 2,some 1,some 3]) (bq (by kernel_rfl)) rfl (bE rfl B.range (aa (aI aQ (by rfl) B.len dU (aa (pv 1) ag)) ag)) ?g1 ?t1 ?e1 NI.nd rfl rfl rfl)
   (aj (cQ dP rfl (bV (pv 0)) (az (i:=5) NI.nd rfl (Or.inl rfl))
    (ap (cC (aM jw (pv 5) (pv 4) rfl) (ap (be (pv 5))) bp)))
   (ap (be eC)))),?_⟩
  case g1=>exact fun cl C s₃ H₃ fp=>(az (i:=0) iD rfl (Or.inl rfl) (Or.inr rfl))
  case t1=>exact fun cl C s₃ H₃ fp=>fY (aM hU (aX eM (pv 2) (pv 0) (fun _ _=>rfl)) (aX eM (pv 2) (pv 3) (fun _ _=>rfl)) (a_ _))
  case e1=>exact fun cl C s₃ H₃ fp=>(aX aK (pv 1) (pv 0) (fun _ _=>rfl))
  refine⟨_,rfl,sa,_,rfl,.inr (bU.of hS),(((st.map oV).length:Nat):Int),rfl,by lia,by rw[aR];lia,fun D hD=>?_⟩;rw[gk,aR];refine eN (fun i ys σ H2=>(∃x,σ=[x,some (.ref ga),some (.ref sa),some (.int (l:Int))])/\aL H H2/\H2 D=some (.lst ys)/\ys=(((List.range i).filter fun a=>decide (st.getD a none=st.getD l none)).map fun a=>gs.getD a none).map oV) ⟨⟨_,rfl⟩,ai hD,ae,rfl⟩ ?_ ?_
  .rintro i ys σ H2 Kt Kf hi ⟨⟨x,rfl⟩,sm,jA,rfl⟩ kt kf;rw[gv];refine⟨_,rfl,_,rfl,sa,_,_,_,rfl,rfl,bU.of (sm _ _ hS),aD (hZ hi),_,rfl,_,rfl,sa,_,_,_,rfl,rfl,bU.of (sm _ _ hS),aD (hZ hl),JT,_,rfl,?_⟩;rw[Sk];refine fX (fun c=>?_) (fun c=>?_)
   .refine⟨_,rfl,_,rfl,ga,_,_,_,rfl,rfl,a9.of (sm _ _ hG),aD (hZ (by lia)),?_⟩;refine kt _ _ _ jA ?_ ⟨⟨_,rfl⟩,bv sm hD,ae,?_⟩
    .rw[aR,aR];refine eD (ij _ _) ?_;rw[cu];exact br (show i<17 by lia) (by decide)
    .rw[ja,gh,di,di,dO,ak c];rfl
   .refine kf _ _ ⟨⟨_,rfl⟩,sm,jA,?_⟩;rw[ja,gh,dO,av c,List.filter_nil,j5]
  rintro ys σ H2 ⟨_,sm,jA,rfl⟩;have ein:∀h:Nat,yI (.int (h:Int)) ((((List.range st.length).filter fun a=>decide (st.getD a none=st.getD l none)).map fun a=>gs.getD a none).map oV)=(List.range st.length).any fun a=>decide (st.getD a none=st.getD l none)&&decide (gs.getD a none=some h):=fun h=>by
   rw[Lr,List.any_map,List.any_filter];rfl
  generalize hw:(((List.range st.length).filter fun a=>decide (st.getD a none=st.getD l none)).map fun a=>gs.getD a none)=ws at *;refine⟨_,rfl,oa,rfl,⟨_,a9.of (sm _ _ hO)⟩,fW (K:=K) (xs:=NV os) (fun j σ H3=>(∃x,σ=[some (.ref oa),some (.ref sa),some (.ref ga),some (.int (l:Int)),some (.ref D),x])/\H3=H2/\p9 st gs l os=p9 st gs l (os.drop j)) ⟨⟨_,rfl⟩,rfl,rfl⟩ (fun j σ H3 _ z=>by rw[z.2.1];exact a9.of (sm _ _ hO)) ?_ ?_⟩
  .rintro j x σ H3 hx ⟨⟨x5,rfl⟩,rfl,ef⟩;obtain⟨h,hv,rfl⟩:=p7 hx;have hj:j<os.length:=(dN.mp hv).1;have ed:os.drop j=h::os.drop (j+1):=by
    rw[nN hj];congr 1;exact(dN.mp hv).2
   refine⟨_,rfl,_,rfl,D,_,rfl,.inl (a9.of jA),rfl,kR,_,rfl,?_⟩;have ef2:p9 st gs l (h::os.drop (j+1))=if (!yI (.int (h:Int)) (ws.map oV))=true then some h else p9 st gs l (os.drop (j+1)):=by
    rw[ein];unfold p9;rw[j4];cases (!((List.range st.length).any fun a=>decide (st.getD a none=st.getD l none)&&decide (gs.getD a none=some h))) <;> rfl
   rw[ed,ef2] at ef;refine fX (fun c=>?_) (fun c=>?_)
   .have c:(!yI (.int (h:Int)) (ws.map oV))=true:=c;rw[ak c] at ef;refine⟨_,rfl,?_⟩;have:=q H3 sm;rw[ef] at this;exact this
   .have c:¬ (!yI (.int (h:Int)) (ws.map oV))=true:=c;rw[av c] at ef;exact⟨⟨_,rfl⟩,rfl,ef⟩
  .rintro σ H3 ⟨⟨x5,rfl⟩,rfl,ef⟩;have:=q H3 sm;rw[ef,bj,List.drop_length] at this;exact this
end
structure iE(n:Nat)(homes:List Nat)(st:List (Option Nat)):Prop where
 le:st.length<=16
 len:homes.length=st.length
 hs:∀x∈homes,x<n
 ss:∀y,some y∈st->y<n
theorem iE.at(S:iE n homes st)(h:l∈qo st st.length):l<st.length/\∃y,st.getD l none=some y/\y<n/\homes.getD l 0<n:=by
 obtain⟨a,b⟩:=lm h;refine⟨a,_,b,S.ss _ ?_,S.hs _ ?_⟩
 .rw[<-b,bY,cg a];exact ik _
 .rw[cM (by rw[S.len];exact a)];exact ik _
theorem Sn(n:Int)(tl ol ds:Addr):(pE n tl ol ds).lookup ("good":Str)=none:=qJ n tl ol ds (by decide +kernel) (by decide +kernel) (by decide +kernel) (by decide +kernel)
theorem Xq(n:Int)(tl ol ds:Addr):(pE n tl ol ds).lookup ("out":Str)=none:=qJ n tl ol ds (by decide +kernel) (by decide +kernel) (by decide +kernel) (by decide +kernel)
theorem qL:(bP n ts h).length<=n:=ba (ij _ _) (by simp)
theorem dB.JU(N:dB C H L p n ts):∃dx fs,H p=some (.ins C dx fs)/\fs.lookup ("good":Str)=none/\fs.lookup ("out":Str)=none:=by
 obtain⟨dx,tl,ol,ds,a,_⟩:=N.ob;exact⟨dx,_,a,Sn _ _ _ _,Xq _ _ _ _⟩
abbrev G9:Stmt:=top 51
theorem NK:Ic (oV o) (.int (h:Int))=true:=by cases o <;> rfl
theorem So{o:Option Nat}{h:Nat}:decide (oV o=V.int (h:Int))=decide (o=some h):=by
 cases o with
 |none=>exact oo.mpr ⟨(fun z=>by cases z),(fun z=>by cases z)⟩
 |some y=>exact oo.mpr ⟨(fun z=>by injection z with z;exact congrArg some (cK z)),(fun z=>by cases z;rfl)⟩
theorem dB.weak(N:dB C H L p n ts)(k:∀b,L b->L' b):dB C H L' p n ts:=by
 obtain⟨F',dx',tl,ol,ds,q1,q2,q3,⟨b1,c1,d1,e1⟩,⟨b2,c2,d2,e2⟩,⟨a3,zs,b3,c3,d3,e3⟩⟩:=N;exact⟨F',dx',tl,ol,ds,q1,k _ q2,k _ q3,⟨b1,c1,fun b hb=>k b (d1 b hb),e1⟩,⟨b2,c2,fun b hb=>k b (d2 b hb),e2⟩,⟨k _ a3,zs,b3,c3,fun z hz=>k _ (d3 z hz),e3⟩⟩
theorem mv.kW(t:mv Pt H)(s:aN p H H')(hp:bf H p):mv Pt H':=by
 obtain⟨a,b,e,_⟩:=hp;rcases t with z|⟨c,z,y⟩
 .exact .inl (s _ _ z (by rintro rfl;rw[z] at e;cases e))
 .exact .inr ⟨c,s _ _ z (by rintro rfl;rw[z] at e;cases e),s _ _ y (by rintro rfl;rw[y] at e;cases e)⟩
theorem bX.weak(R:bX H L l n r)(k:∀b,L b->L' b):bX H L' l n r:=let ⟨bs,a,b,c⟩:=R;⟨bs,a,fun x hx=>k x (b x hx),c⟩
def CJ(Pt p:Addr)(H H':Hp):Prop:=∀b o,H b=some o->b≠Pt->b≠p->H' b=some o
structure pI(C:Addr)(H0 H:Hp)(t px oa fa ha sa:Addr)(n:Nat)(ts:Ts)(homes:List Nat)(st:List (Option Nat)):Prop where
 tu:H t=some (.tup [.ref px,.ref oa,.ref fa,.ref ha,.ref sa])
 net:dB C H (fun b=>H0 b=none) px n ts
 px:H0 px=none
 out:bX H (fun b=>H0 b=none) oa n (bP n ts)
 oa:H0 oa=none
 far:bX H (fun b=>H0 b=none) fa n (fun h=>(List.range n).map (far ts h))
 fa:H0 fa=none
 ha:H ha=some (.tup (NV homes))
 sa:H sa=some (.tup (st.map oV))
 le:st.length<=16
 sd:kU n ts homes st
section
variable {P:Program} {w:World} {K:PySem.W.Frag} {mg:Str->Option Value} {base:Heap}
theorem pJ:aP ["_law_pot_here","_law_many","_law_ties","_law_outs_here","_law_homes","_law_stand"] ["_law_pot_here"] (au G9):=⟨rfl,rfl,rfl,by decide +kernel,rfl,by decide +kernel,by decide +kernel⟩
def Ba(C Pt:Addr):Sp:=fun vs H Q _=>∃p:Addr,vs=[.ref p]/\bf H p/\mv Pt H/\
 ∀ (t px oa fa ha sa:Addr) (n:Nat) (ts:Ts) (homes:List Nat) (st:List (Option Nat)) (H':Hp),CJ Pt p H H'->bf H' p->mv Pt H'->pI C H H' t px oa fa ha sa n ts homes st->Q (.ref t) H'
theorem JV(F:hV K "_law_case" "_law_case" G9 f fd)(T:NT K mg C)(M:Mk K C fI)(bI:jI K fdI ["self","many","ties"] [])(GI:bJ P w K mg base bh 7 fI fdI ["self","many","ties"] (AU C Pt))(NE:dH P w K mg base bh 3 "_law_net" ["_law_pot_here"] GW)(OU:dH P w K mg base bh 1 "_law_outs" ["_law_many","_law_ties"] wB)(ST:dH P w K mg base bh 2 "_law_start" ["_law_pot_here","_law_outs_here"] wC)(FA:dH P w K mg base bh 1 "_law_far" ["_law_outs_here"] A7):
  bJ P w K mg base bh 9 f fd ["_law_pot_here"] (Ba C Pt):=by
 refine F.ok pJ (fun vs H Q E h=>?_) (fun eV A outer s H vs Q E hr h=>?_)
 .obtain⟨p,rfl,_⟩:=h;rfl
 .obtain⟨p,rfl,hp,tb,q⟩:=h;have h1:cy 1 _:=hr.mono (by decide);have h2:cy 2 _:=hr.mono (by decide);have h3:cy 3 _:=hr.mono (by decide);refine⟨_,(aj (dL (aJ NE h3 aO (aa (pv 0) ag)) (dC (n:=2) rfl (aG (az (i:=1) pJ.nd rfl (Or.inl rfl)) (aG (az (i:=2) pJ.nd rfl (Or.inl rfl)) cr))))
   (aj (aV (i:=3) pJ.nd rfl (Or.inl rfl) (aJ OU h1 aO (aa (pv 1) (aa (pv 2) ag))))
   (aj (dL (aJ ST h2 aO (aa (pv 0) (aa (pv 3) ag))) (dC (n:=2) rfl (aG (az (i:=4) pJ.nd rfl (Or.inl rfl)) (aG (az (i:=5) pJ.nd rfl (Or.inl rfl)) cr))))
   (ap (be (cH (aa (BB M GI hr rfl T.Je bI .nil aO (aa (pv 1) (aa (pv 2) ag))) (aa (pv 3) (aa (aJ FA h1 aO (aa (pv 3) ag)) (aa (pv 4) (aa (pv 5) ag))))))))))),?_⟩
  refine⟨_,rfl,p,rfl,hp,fun t0 r n zs H1 s1 mr ht0 WT Ea Jr R1 F1=>⟨t0,_,rfl,bU.of WT,rfl,_,_,rfl,_,_,rfl,rfl,?_⟩⟩;refine⟨_,rfl,_,rfl,n,r,zs,rfl,Jr,R1,F1,fun oa H2 s2 UP R2=>?_⟩;have Xr:∀ {b:Addr},H1 b=none->H b=none:=fun h=>s1.free mr.full h;refine⟨_,rfl,_,rfl,p,oa,n,zp zs,_,rfl,F1.n1,F1.n2,mr.same s2,R2,UP,fun z=>mr.full z,fun t3 ha sa homes st H3 s3 mw ht3 Pp UQ sl SD=>⟨t3,_,rfl,bU.of ht3,rfl,_,_,rfl,_,_,rfl,rfl,?_⟩⟩;have R3:=R2.keep UP fun b o l e=>s3 b o e fun z=>mr.full (z ▸ l);have nrp:r≠p:=hp.ne Ea;have Bb:=s3 _ _ (s2 _ _ Jr) nrp;have Js:=(R1.same s2).nr s3 (mr.same s2);have G_:aN p H H3:=(s1.trans (aN.of s2)).trans s3;have t3':=tb.kW G_ hp;refine⟨_,rfl,_,rfl,fun px dx nx ndx UR=>?_⟩;have sN:aL H3 (upd (upd H3 dx (.own px)) px (.ins C dx [])):=(ai (o:=.own px) ndx).trans (ai (D:=px) (o:=.ins C dx []) (by rw[ao UR.symm];exact nx));refine⟨px,dx,n,r,zs,rfl,ae,⟨F1,sN _ _ Bb,Js.same sN⟩,t3'.same sN,fun H5 N5 t5 s5=>⟨rfl,?_⟩⟩;have Sq:∀b o,H3 b=some o->(∀ps,o≠.iH ps)->H5 b=some o:=fun b o e nt=>s5 b o (sN _ _ e) (am e nx) ((t3'.same sN).not (sN _ _ e) nt);have HJ:∀ {b:Addr},H3 b=none->H b=none:=fun h=>G_.free mw.full h;have Xs:∀ {b:Addr},(upd (upd H3 dx (.own px)) px (.ins C dx [])) b=none->H b=none:=fun h=>HJ (sN.free h);have nl:∀ {xs:List V} (ps),HO.lst xs≠.iH ps:=fun ps z=>by cases z
  have nt:∀ {xs:List V} (ps),HO.tup xs≠.iH ps:=fun ps z=>by cases z
  obtain⟨bs,b1,b2,b3⟩:=R3;have R5:bX H5 (fun a=>H1 a=none) oa n (bP n (zp zs)):=⟨bs,Sq _ _ b1 nl,b2,b3.mono fun j hj e=>Sq _ _ e nl⟩
  have uE:bf H5 p:=by obtain⟨x,y,e,r⟩:=mw;exact⟨x,y,Sq _ _ e nl,r⟩
  have kp:CJ Pt p H H5:=fun b o e n m=>s5 b o (sN _ _ (G_ _ _ e m)) (am (G_ _ _ e m) nx) n;refine⟨_,rfl,_,rfl,_,oa,n,zp zs,rfl,F1,R5,fun fa H6 s6 JW R6=>⟨_,rfl,_,rfl,by show 5<=sizeLine;decide,fun t ht=>?_⟩⟩;have sT:=ai (o:=.tup [.ref px,.ref oa,.ref fa,.ref ha,.ref sa]) ht;have NL:=s6.trans sT;have LW:∀ {b:Addr},H5 b=none->H b=none:=fun {b} h=>by
   cases e:H b with
   |none=>rfl
   |some o=>
    by_cases m:b=p
    .subst m;exact absurd h uE.full
    .by_cases z:b=Pt
     .subst z;rcases t5 with y|⟨c,y,_⟩ <;> (rw[h] at y;cases y)
     .rw[s5 b o (sN _ _ (G_ _ _ e m)) (am (G_ _ _ e m) nx) z] at h;cases h
  refine q t px oa fa ha sa n (zp zs) homes st _ (fun b o e n m=>NL _ _ (kp b o e n m)) (uE.same NL) (t5.same NL) ⟨ae,(N5.same NL).weak fun b hb=>Xs hb,HJ nx,(R5.weak fun b hb=>Xr hb).keep (Xr UP) (fun b o _ e=>NL _ _ e),Xr UP,(R6.weak fun b hb=>LW hb).keep (LW JW) (fun b o _ e=>sT _ _ e),LW JW,NL _ _ (Sq _ _ Pp nt),NL _ _ (Sq _ _ UQ nt),sl,SD⟩
end
theorem kU.let(S:kU n ts homes st)(le:st.length<=16):iE n homes st:=⟨le,S.len,S.hs,fun y hy=>by obtain⟨i,hi⟩:=uW.mp hy;exact(S.ss i y hi).1⟩
def Pq(o:HO):Prop:=∀ps,o≠.iH ps
theorem dB.US(N:dB C H L p n ts):dB C H (fun b=>L b/\∃o,H b=some o/\Pq o) p n ts:=by
 obtain⟨dx,tl,ol,ds,a,l1,l2,b,c,d⟩:=N.ob;have ne:∀ {b xs},L b->H b=some (.lst xs)->L b/\∃o,H b=some o/\Pq o:=fun l e=>⟨l,_,e,fun ps z=>by cases z⟩
 have ne':∀ {b xs},L b->H b=some (.tup xs)->L b/\∃o,H b=some o/\Pq o:=fun l e=>⟨l,_,e,fun ps z=>by cases z⟩
 have vF:∀ {l r},L l->bX H L l n r->bX H (fun b=>L b/\∃o,H b=some o/\Pq o) l n r/\(L l/\∃o,H l=some o/\Pq o):=fun hl ⟨bs,a,b,c⟩=>⟨⟨bs,a,fun x hx=>by
  obtain⟨j,hj,e⟩:=qT hx;have:=c.2 j (by rw[<-c.1];exact hj);rw[bY,cg hj,oq,e] at this;exact ne (b x hx) this,c⟩,ne hl a⟩
 obtain⟨t1,zs,t2,t3,t4,t5⟩:=d;exact⟨N.jO,dx,tl,ol,ds,a,(vF l1 b).2,(vF l2 c).2,(vF l1 b).1,(vF l2 c).1,ne t1 t2,zs,t2,t3,fun z hz=>ne' (t4 z hz) (t3 z hz),t5⟩
theorem _root_.L2.dq.not(t:dq lp q Pt H)(h:H b=some o)(n:∀ps,o≠.iH ps):b≠Pt:=by
 rintro rfl;rcases t with z|⟨c,z,_⟩ <;> · rw[h] at z;exact n _ (bN z)
theorem _root_.L2.dq.same(t:dq lp q Pt H)(e:aL H H'):dq lp q Pt H':=by
 rcases t with z|⟨c,z,y⟩
 .exact .inl (e _ _ z)
 .exact .inr ⟨c,e _ _ z,e _ _ y⟩
def wE(st:Stmt)(i:Nat):Expr:=match (b9 st).getD i (.Pass ⟨0,0,0,0⟩) with
 |.Return (some (.Call _ _ (k::_) _)) _=>k.value
 |_=>.Name "x" ⟨0,0,0,0⟩
def UT:Expr->Arguments
 |.Lambda a _ _ _=>a
 |_=>{ posonlyargs:=[],args:=[],vararg:=none,kwonlyargs:=[],kw_defaults:=[],kwarg:=none,defaults:=[] }
def Ls:Expr->Expr
 |.Lambda _ b _ _=>b
 |e=>e
def Lu:Expr->Scope
 |.Lambda _ _ s _=>s
 |_=>{ kind:=.function,names:=[],isGenerator:=false,isCoroutine:=false }
def UU:Expr->Pos
 |.Lambda _ _ _ p=>p
 |_=>⟨0,0,0,0⟩
theorem cy.lam(r:cy (k+3) A)(env:Env):cy k (A.in1.in1.deeper env):=r.in1.in1.deeper env
theorem qM:(qo st i).Pairwise (·<·):=uZ _ List.pairwise_lt_range
noncomputable def uH(ts:Ts)(homes:List Nat)(st:List (Option Nat))(l:Nat):Int:=((far ts ((st.getD l none).getD 0) (homes.getD l 0):Nat):Int)
theorem nE(s1:aL H H1)(t2:dq lp q PN H2)(gU:∀b o,H1 b=some o->b≠PN->H2 b=some o)(s3:aL H2 H3)(Bb:H3 r=none):H r=none:=by
 have h2:H2 r=none:=s3.free Bb;cases z:H r with
 |none=>rfl
 |some o=>
  by_cases e:r=PN
  .subst e;rcases t2 with q|⟨_,q,_⟩ <;> (rw[h2] at q;cases q)
  .rw[gU r o (s1 _ _ z) e] at h2;cases h2
def wF(CR:Addr)(H:Hp)(rx:Addr)(ranks:List Int):Prop:=∃rd ra,H rx=some (.ins CR rd [("ranks",.ref ra)])/\H ra=some (.tup (ranks.map V.int))
theorem wF.same{CR:Addr}{H H':Hp}{rx:Addr}{ranks:List Int}(h:wF CR H rx ranks)(s:aL H H'):wF CR H' rx ranks:=let ⟨rd,ra,a,b⟩:=h;⟨rd,ra,s _ _ a,s _ _ b⟩
structure UV(K:PySem.W.Frag)(mg:Str->Option Value)(CR:Addr):Prop where
 cl:El K CR
 nR:iu K CR "ranks"
 Je:mg "Ranked"=some (.ref CR)
theorem Sr:([("ranks",v)]:List (Str×V)).lookup ("check_letters":Str)=none:=by
 rw[fK];rw[show (("check_letters":Str)==("ranks":Str))=false by decide +kernel];rfl
theorem Lv:([("ranks",v)]:List (Str×V)).lookup ("ranks":Str)=some v:=by
 rw[fK];rw[show (("ranks":Str)==("ranks":Str))=true by decide +kernel]
abbrev wG:Stmt:=fu (top 21) 0
abbrev Hf:Stmt:=fu (top 21) 1
theorem JX:(["rank"]:List Str).Nodup:=by decide +kernel
abbrev uI:Stmt:=fu (top 18) 0
def Ps:Expr:=wE uI 0
def Xt:Str:=("Nearest.order":Str)++".<locals>."++"<lambda>"
abbrev wH(PN:Addr)(H:Hp):Prop:=dq (UU Ps) Xt PN H
abbrev uJ:Stmt:=fu (top 19) 0
def Pu:Expr:=wE uJ 0
def Xu:Str:=("Farthest.order":Str)++".<locals>."++"<lambda>"
abbrev wI(PN:Addr)(H:Hp):Prop:=dq (UU Pu) Xu PN H
abbrev uK:Stmt:=fu (top 20) 0
def Pw:Expr:=wE uK 0
def Xv:Str:=("Turns.order":Str)++".<locals>."++"<lambda>"
abbrev wJ(PN:Addr)(H:Hp):Prop:=dq (UU Pw) Xv PN H
abbrev uL:Stmt:=fu (top 21) 2
def Px:Expr:=wE uL 1
def Xw:Str:=("Ranked.order":Str)++".<locals>."++"<lambda>"
abbrev wK(PN:Addr)(H:Hp):Prop:=dq (UU Px) Xw PN H
section
variable {P:Program} {w:World} {K:PySem.W.Frag} {mg:Str->Option Value} {base:Heap}
theorem NM:aP ["self","net","homes","stand","beat"] ["self","net","homes","stand","beat"] (au uI):=⟨rfl,rfl,rfl,by decide +kernel,rfl,by decide +kernel,by decide +kernel⟩
def Bc(C PN:Addr):Sp:=fun vs H Q _=>∃ (L:Addr->Prop) (x0 x4:V) (px ha sa:Addr) (n:Nat) (ts:Ts) (homes:List Nat) (st:List (Option Nat)),vs=[x0,.ref px,.ref ha,.ref sa,x4]/\dB C H L px n ts/\H ha=some (.tup (NV homes))/\H sa=some (.tup (st.map oV))/\iE n homes st/\wH PN H/\
 ∀ (r:Addr) (H':Hp) (out:List Nat),wH PN H'->kJ PN H H'->H r=none->out.Perm (qo st st.length)->out.Pairwise (La (uH ts homes st))->H' r=some (.lst (NV out))->Q (.ref r) H'
theorem Ss(F:qg K "order" "Nearest.order" uI f fd c)(B:Bl mg)(kb:K.In base)(hb:pi mg base)(hc:PySem.W.codeHdIn K c PN=true)(T:NT K mg C)(MF:iZ P w K mg base bh 5 C "far" ["self","one","other"] (me C))(UW:dH P w K mg base bh 1 "under_way" ["stand"] A_):
  bJ P w K mg base bh 9 f fd ["self","net","homes","stand","beat"] (Bc C PN):=by
 obtain⟨fF,fdF,mF,bF,GF⟩:=MF.ex;refine F.ok NM (fun vs H Q E h=>?_) (fun A outer s H vs Q E hr h=>?_)
 .obtain⟨L,x0,x4,px,ha,sa,n,ts,homes,st,rfl,_⟩:=h;rfl
 .obtain⟨L,x0,x4,px,ha,sa,n,ts,homes,st,rfl,N,hH,hS,LO,tb,q⟩:=h;have h1:cy 1 _:=hr.mono (by decide);have LF:xU (kD bh P w K mg base ["self","net","homes","stand","beat"] "Nearest.order" (au uI) f (.ref c) A outer s H E).yE ["letter","net","stand","homes"] [none,some 1,some 3,some 2] (Lu Ps) Xt (UT Ps) (Ls Ps) "letter":=
   ⟨bq (by kernel_rfl),fun _ _ _ _ _=>rfl,rfl,rfl,rfl,by decide +kernel,rfl,rfl⟩
  have PB:∀f' c' cV s' H',PE (pZ (kD bh P w K mg base ["self","net","homes","stand","beat"] "Nearest.order" (au uI) f (.ref c) A outer s H E).yE ["letter","net","stand","homes"] (Lu Ps) cV Xt f' c' s' H') (Ls Ps) (BA C "far" (me C) [] E0 (aY 1) (bz (iI (tj K) (aY 2) (aY 0)) (bz (iI (tj K) (aY 3) (aY 0)) gg))):=fun f' c' cV s' H'=>
   dX (pv 1) T.cl mF GF (cy.lam hr _) bF .nil aO (aa (aX eM (pv 2) (pv 0) (fun _ _=>rfl)) (aa (aX eM (pv 3) (pv 0) (fun _ _=>rfl)) ag))
  refine⟨_,(ap (be (jc (jz hr LF PB) rfl B.sorted nQ (aa (aJ UW h1 aO (aa (pv 3) ag)) ag) (mH (rM (NB:=["letter","net","stand","homes"]) (src:=[none,some 1,some 3,some 2]) (mQ kb hb hc) (bq (by kernel_rfl))) rE)))),?_⟩;refine⟨_,rfl,sa,st,rfl,hS,LO.le,fun l H1 s1 Ma hl=>?_⟩;have t1:=tb.same s1;refine⟨t1,fun f' c' H2 t2 gU wY xu=>?_⟩;have tV:∀ {b o},H1 b=some o->(∀ps,o≠.iH ps)->H2 b=some o:=fun e n=>gU _ _ e (t1.not e n);have En:=tV hl (by intro ps z;cases z);have Py:=tV (s1 _ _ hH) (by intro ps z;cases z);have Ew:=tV (s1 _ _ hS) (by intro ps z;cases z);obtain⟨dx0,fs0,i0⟩:∃dx fs,H1 px=some (.ins C dx fs):=by obtain⟨dx,tl,ol,ds,a,_⟩:=(N.same s1).ob;exact⟨dx,_,a⟩
  have N2:=(N.same s1).US.keep (H':=H2) (fun b o l e=>by obtain⟨_,o',e',n⟩:=l;rw[e] at e';cases e';exact tV e n) (fun o e=>tV e (by rw[i0] at e;cases e;intro ps z;cases z));refine⟨l,f',c',qo st st.length,(uH ts homes st),rfl,rfl,a9.of En,eD nC (by have:=LO.le;lia),qM,fun n hn=>by have:=(lm hn).1;have:=LO.le;lia,xu,wY,fun m hm H3 s3=>?_,fun r H3 out s3 Bb op pw=>?_⟩
  .obtain⟨GP,y,ey,hy,Lw⟩:=LO.at hm;have N3:=N2.same s3;obtain⟨dx,tl,ol,ds,i1,_⟩:=N3.ob;refine⟨_,rfl,px,dx,_,rfl,i1,MP _ _ _ _,_,rfl,_,rfl,sa,_,_,_,rfl,rfl,bU.of (s3 _ _ Ew),aD (hZ GP),_,rfl,_,rfl,ha,_,_,_,rfl,rfl,bU.of (s3 _ _ Py),aD (hX (by rw[LO.len];exact GP)),?_⟩;rw[ey];refine⟨_,px,n,ts,y,homes.getD m 0,rfl,N3,hy,Lw,?_,aL.refl _⟩;unfold uH;rw[ey];rfl
  .have sm:=ai (o:=.lst (NV out)) Bb;exact q r _ out ((dq.same t2 s3).same sm) (fun b o e n=>sm _ _ (s3 _ _ (gU _ _ (s1 _ _ e) n))) (nE s1 t2 gU s3 Bb) op pw ae
theorem NN:aP ["self","net","homes","stand","beat"] ["self","net","homes","stand","beat"] (au uJ):=⟨rfl,rfl,rfl,by decide +kernel,rfl,by decide +kernel,by decide +kernel⟩
def Bd(C PN:Addr):Sp:=fun vs H Q _=>∃ (L:Addr->Prop) (x0 x4:V) (px ha sa:Addr) (n:Nat) (ts:Ts) (homes:List Nat) (st:List (Option Nat)),vs=[x0,.ref px,.ref ha,.ref sa,x4]/\dB C H L px n ts/\H ha=some (.tup (NV homes))/\H sa=some (.tup (st.map oV))/\iE n homes st/\wI PN H/\
 ∀ (r:Addr) (H':Hp) (out:List Nat),wI PN H'->kJ PN H H'->H r=none->out.Perm (qo st st.length)->out.Pairwise (La (fun l=>-uH ts homes st l))->H' r=some (.lst (NV out))->Q (.ref r) H'
theorem Su(F:qg K "order" "Farthest.order" uJ f fd c)(B:Bl mg)(kb:K.In base)(hb:pi mg base)(hc:PySem.W.codeHdIn K c PN=true)(T:NT K mg C)(MF:iZ P w K mg base bh 5 C "far" ["self","one","other"] (me C))(UW:dH P w K mg base bh 1 "under_way" ["stand"] A_):
  bJ P w K mg base bh 9 f fd ["self","net","homes","stand","beat"] (Bd C PN):=by
 obtain⟨fF,fdF,mF,bF,GF⟩:=MF.ex;refine F.ok NN (fun vs H Q E h=>?_) (fun A outer s H vs Q E hr h=>?_)
 .obtain⟨L,x0,x4,px,ha,sa,n,ts,homes,st,rfl,_⟩:=h;rfl
 .obtain⟨L,x0,x4,px,ha,sa,n,ts,homes,st,rfl,N,hH,hS,LO,tb,q⟩:=h;have h1:cy 1 _:=hr.mono (by decide);have LF:xU (kD bh P w K mg base ["self","net","homes","stand","beat"] "Farthest.order" (au uJ) f (.ref c) A outer s H E).yE ["letter","net","stand","homes"] [none,some 1,some 3,some 2] (Lu Pu) Xu (UT Pu) (Ls Pu) "letter":=
   ⟨bq (by kernel_rfl),fun _ _ _ _ _=>rfl,rfl,rfl,rfl,by decide +kernel,rfl,rfl⟩
  have PB:∀f' c' cV s' H',PE (pZ (kD bh P w K mg base ["self","net","homes","stand","beat"] "Farthest.order" (au uJ) f (.ref c) A outer s H E).yE ["letter","net","stand","homes"] (Lu Pu) cV Xu f' c' s' H') (Ls Pu) (ZB (rU fun i=>.int (-i)) (BA C "far" (me C) [] E0 (aY 1) (bz (iI (tj K) (aY 2) (aY 0)) (bz (iI (tj K) (aY 3) (aY 0)) gg)))):=fun f' c' cV s' H'=>
   Bv vH (dX (pv 1) T.cl mF GF (cy.lam hr _) bF .nil aO (aa (aX eM (pv 2) (pv 0) (fun _ _=>rfl)) (aa (aX eM (pv 3) (pv 0) (fun _ _=>rfl)) ag)))
  refine⟨_,(ap (be (jc (jz hr LF PB) rfl B.sorted nQ (aa (aJ UW h1 aO (aa (pv 3) ag)) ag) (mH (rM (NB:=["letter","net","stand","homes"]) (src:=[none,some 1,some 3,some 2]) (mQ kb hb hc) (bq (by kernel_rfl))) rE)))),?_⟩;refine⟨_,rfl,sa,st,rfl,hS,LO.le,fun l H1 s1 Ma hl=>?_⟩;have t1:=tb.same s1;refine⟨t1,fun f' c' H2 t2 gU wY xu=>?_⟩;have tV:∀ {b o},H1 b=some o->(∀ps,o≠.iH ps)->H2 b=some o:=fun e n=>gU _ _ e (t1.not e n);have En:=tV hl (by intro ps z;cases z);have Py:=tV (s1 _ _ hH) (by intro ps z;cases z);have Ew:=tV (s1 _ _ hS) (by intro ps z;cases z);obtain⟨dx0,fs0,i0⟩:∃dx fs,H1 px=some (.ins C dx fs):=by obtain⟨dx,tl,ol,ds,a,_⟩:=(N.same s1).ob;exact⟨dx,_,a⟩
  have N2:=(N.same s1).US.keep (H':=H2) (fun b o l e=>by obtain⟨_,o',e',n⟩:=l;rw[e] at e';cases e';exact tV e n) (fun o e=>tV e (by rw[i0] at e;cases e;intro ps z;cases z));refine⟨l,f',c',qo st st.length,(fun l=>-uH ts homes st l),rfl,rfl,a9.of En,eD nC (by have:=LO.le;lia),qM,fun n hn=>by have:=(lm hn).1;have:=LO.le;lia,xu,wY,fun m hm H3 s3=>?_,fun r H3 out s3 Bb op pw=>?_⟩
  .obtain⟨GP,y,ey,hy,Lw⟩:=LO.at hm;have N3:=N2.same s3;obtain⟨dx,tl,ol,ds,i1,_⟩:=N3.ob;refine⟨_,rfl,px,dx,_,rfl,i1,MP _ _ _ _,_,rfl,_,rfl,sa,_,_,_,rfl,rfl,bU.of (s3 _ _ Ew),aD (hZ GP),_,rfl,_,rfl,ha,_,_,_,rfl,rfl,bU.of (s3 _ _ Py),aD (hX (by rw[LO.len];exact GP)),?_⟩;rw[ey];refine⟨_,px,n,ts,y,homes.getD m 0,rfl,N3,hy,Lw,_,rfl,?_,aL.refl _⟩;unfold uH;dsimp only;rw[ey];rfl
  .have sm:=ai (o:=.lst (NV out)) Bb;exact q r _ out ((dq.same t2 s3).same sm) (fun b o e n=>sm _ _ (s3 _ _ (gU _ _ (s1 _ _ e) n))) (nE s1 t2 gU s3 Bb) op pw ae
theorem NO:aP ["self","net","homes","stand","beat"] ["self","net","homes","stand","beat"] (au uK):=⟨rfl,rfl,rfl,by decide +kernel,rfl,by decide +kernel,by decide +kernel⟩
def Be(PN:Addr):Sp:=fun vs H Q _=>∃ (x0 x1:V) (bt:Int) (ha sa:Addr) (n:Nat) (homes:List Nat) (st:List (Option Nat)),vs=[x0,x1,.ref ha,.ref sa,.int bt]/\0<=bt/\H ha=some (.tup (NV homes))/\H sa=some (.tup (st.map oV))/\iE n homes st/\wJ PN H/\
 ∀ (r:Addr) (H':Hp) (out:List Nat),wJ PN H'->kJ PN H H'->H r=none->out.Perm (qo st st.length)->out.Pairwise (La (fun l=>((l:Nat)+bt) % ((homes.length:Nat):Int)))->H' r=some (.lst (NV out))->Q (.ref r) H'
theorem Sv(F:qg K "order" "Turns.order" uK f fd c)(B:Bl mg)(kb:K.In base)(hb:pi mg base)(hc:PySem.W.codeHdIn K c PN=true)(UW:dH P w K mg base bh 1 "under_way" ["stand"] A_):
  bJ P w K mg base bh 9 f fd ["self","net","homes","stand","beat"] (Be PN):=by
 refine F.ok NO (fun vs H Q E h=>?_) (fun A outer s H vs Q E hr h=>?_)
 .obtain⟨x0,x1,bt,ha,sa,n,homes,st,rfl,_⟩:=h;rfl
 .obtain⟨x0,x1,bt,ha,sa,n,homes,st,rfl,b0,hH,hS,LO,tb,q⟩:=h;have h1:cy 1 _:=hr.mono (by decide);have LF:xU (kD bh P w K mg base ["self","net","homes","stand","beat"] "Turns.order" (au uK) f (.ref c) A outer s H E).yE ["letter","beat","homes"] [none,some 4,some 2] (Lu Pw) Xv (UT Pw) (Ls Pw) "letter":=
   ⟨bq (by kernel_rfl),fun _ _ _ _ _=>rfl,rfl,rfl,rfl,by decide +kernel,rfl,rfl⟩
  have PB:∀f' c' cV s' H',PE (pZ (kD bh P w K mg base ["self","net","homes","stand","beat"] "Turns.order" (au uK) f (.ref c) A outer s H E).yE ["letter","beat","homes"] (Lu Pw) cV Xv f' c' s' H') (Ls Pw) (iI (rI (fun _ j=>0<j) fun i j=>.int (i % j)) (iI (xf fun i j=>.int (i+j)) (aY 0) (aY 1)) (Ua (fun xs H Q=>∃p ys,xs=[V.ref p]/\(a9 K H p ys\/bU K H p ys)/\Q (.int ys.length) H) (bz (aY 2) gg))):=fun f' c' cV s' H'=>
   bb iX (bb cX (pv 0) (pv 1)) (aI aQ (by rfl) B.len dU (aa (pv 2) ag))
  refine⟨_,(ap (be (jc (jz hr LF PB) rfl B.sorted nQ (aa (aJ UW h1 aO (aa (pv 3) ag)) ag) (mH (rM (NB:=["letter","beat","homes"]) (src:=[none,some 4,some 2]) (mQ kb hb hc) (bq (by kernel_rfl))) rE)))),?_⟩;refine⟨_,rfl,sa,st,rfl,hS,LO.le,fun l H1 s1 Ma hl=>?_⟩;have t1:=tb.same s1;refine⟨t1,fun f' c' H2 t2 gU wY xu=>?_⟩;have tV:∀ {b o},H1 b=some o->(∀ps,o≠.iH ps)->H2 b=some o:=fun e n=>gU _ _ e (t1.not e n);have En:=tV hl (by intro ps z;cases z);have Py:=tV (s1 _ _ hH) (by intro ps z;cases z);have Ew:=tV (s1 _ _ hS) (by intro ps z;cases z);refine⟨l,f',c',qo st st.length,(fun l=>((l:Nat)+bt) % ((homes.length:Nat):Int)),rfl,rfl,a9.of En,eD nC (by have:=LO.le;lia),qM,fun n hn=>by have:=(lm hn).1;have:=LO.le;lia,xu,wY,fun m hm H3 s3=>?_,fun r H3 out s3 Bb op pw=>?_⟩
  .obtain⟨GP,y,ey,hy,Lw⟩:=LO.at hm;refine⟨_,rfl,_,rfl,_,_,rfl,rfl,_,rfl,ha,_,rfl,.inr (bU.of (s3 _ _ Py)),_,_,rfl,rfl,?_,?_,aL.refl _⟩
   .rw[bj,LO.len];lia
   .rw[bj]
  .have sm:=ai (o:=.lst (NV out)) Bb;exact q r _ out ((dq.same t2 s3).same sm) (fun b o e n=>sm _ _ (s3 _ _ (gU _ _ (s1 _ _ e) n))) (nE s1 t2 gU s3 Bb) op pw ae
theorem NP:aP ["self","homes"] ["self","homes"] (au Hf):=⟨rfl,rfl,rfl,by decide +kernel,rfl,by decide +kernel,by decide +kernel⟩
def Bg(CR:Addr):Sp:=fun vs H Q _=>∃ (rx ha:Addr) (ranks:List Int) (homes:List Nat),vs=[.ref rx,.ref ha]/\wF CR H rx ranks/\H ha=some (.tup (NV homes))/\ranks.length=homes.length/\Q .cE H
theorem JY{f CR:Addr}{fd:FuncData}(F:hV K "check_letters" "Ranked.check_letters" Hf f fd)(B:Bl mg)(RT:UV K mg CR):bJ P w K mg base bh 1 f fd ["self","homes"] (Bg CR):=by
 refine F.ok NP (fun vs H Q E h=>?_) (fun eV A outer s H vs Q E hr h=>?_)
 .obtain⟨rx,ha,ranks,homes,rfl,_⟩:=h;rfl
 .obtain⟨rx,ha,ranks,homes,rfl,⟨rd,ra,g1,g2⟩,hH,rl,q⟩:=h;refine⟨_,(ap (cC (aM t_ (aI aQ (by rfl) B.len dU (aa (jv (pv 0) rfl) ag)) (aI aQ (by rfl) B.len dU (aa (pv 1) ag)) (a_ _)) d8 bp)),?_⟩;exact⟨_,rfl,rx,CR,rd,_,_,rfl,g1,RT.cl,RT.nR,Lv,ra,_,rfl,.inr (bU.of g2),_,rfl,ha,_,rfl,.inr (bU.of hH),rfl,_,rfl,gc (by rw[aR,bj,rl];simp) q⟩
theorem JZ:aP ["self","ranks"] ["self","ranks"] (au wG):=⟨rfl,rfl,rfl,by decide +kernel,rfl,by decide +kernel,by decide +kernel⟩
def wL(CR:Addr):Sp:=fun vs H Q _=>∃ (p dx ra:Addr) (ranks:List Int),vs=[.ref p,.ref ra]/\H p=some (.ins CR dx [])/\H ra=some (.tup (ranks.map V.int))/\ranks.length<=16/\∀H',wF CR H' p ranks->aN p H H'->Q .cE H'
theorem Hg{f CR:Addr}{fd:FuncData}(F:hV K "__init__" "Ranked.__init__" wG f fd)(B:Bl mg)(RT:UV K mg CR)(WH:dH P w K mg base bh 1 "is_whole" ["thing"] (m9 K)):bJ P w K mg base bh 2 f fd ["self","ranks"] (wL CR):=by
 refine F.ok JZ (fun vs H Q E h=>?_) (fun eV A outer s H vs Q E hr h=>?_)
 .obtain⟨p,dx,ra,ranks,rfl,_⟩:=h;rfl
 .obtain⟨p,dx,ra,ranks,rfl,hp,Lx,rl,q⟩:=h;refine'⟨_,(aj (cC (PW.pt (pN (jr (gZ (aI iw (by rfl) B.Lc pK (aa (pv 1) (aa (jq (v:=.ty "tuple") rfl B.tup pM rfl) ag))))) (lY (jr (gZ (aI (DC rfl) (by rfl) B.all PyProof.Rows.boot_all (aa ?c1 ag))))))) d8 bp)
   (ap (rD (pv 0) (pv 1) rfl))),?_⟩
  case c1=>
   refine' cD (g:=(bD 0)) (te:=pO (m9 K) [] E0 (bz (aY 0) gg)) (NB:=["rank"]) (src:=[none]) (bq (by kernel_rfl)) rfl (EU (pv 1)) ?g ?t ?e;case g=>exact fun cl C s₃ H₃ fp=>(az (i:=0) JX rfl (Or.inl rfl) (Or.inr rfl))
   case t=>exact fun cl C s₃ H₃ fp=>c_
   case e=>exact fun cl C s₃ H₃ fp=>aJ WH hr aO (aa (pv 0) ag)
  refine⟨_,rfl,_,_,_,.type "tuple",true,rfl,⟨rfl,we⟩,.of (.tup Lx),_,rfl,gO ?_⟩;refine⟨_,rfl,ra,rfl,⟨_,bU.of Lx⟩,fun D hD=>?_⟩;refine yj (K:=K) (a:=ra) (xs:=ranks.map V.int) (fun i ys σ H2=>(∃x,σ=[x])/\aL H H2/\H2 D=some (.lst ys)/\ys=(List.replicate i true).map V.bl) ⟨⟨_,rfl⟩,ai hD,ae,rfl⟩ (fun i ys σ H2 _ z=>bU.of (z.2.1 _ _ Lx)) ?_ ?_
  .rintro i x ys σ H2 Kt Kf hx ⟨⟨x',rfl⟩,sm,jA,rfl⟩ kt kf;have hi:i<ranks.length:=by have:=(dN.mp hx).1;rwa [aR] at this
   rw[bZ,cg hi] at hx;cases hx;refine⟨_,rfl,_,_,rfl,.int _,?_⟩;exact kt _ _ _ jA (by rw[aR,jQ];exact br (show i<17 by lia) (by decide)) ⟨⟨_,rfl⟩,bv sm hD,ae,by rw[uX,di];rfl⟩
  .rintro ys σ H2 ⟨_,sm,jA,rfl⟩;refine⟨D,_,rfl,a9.of jA,_,rfl,?_⟩;have e:(List.replicate (ranks.map V.int).length true).all id=true:=by
    rw[lz];intro x vG;rw[(List.mem_replicate.mp vG).2];rfl
   rw[e];refine gO ⟨_,rfl,_,rfl,p,CR,dx,[],rfl,sm _ _ hp,RT.cl,RT.nR,(by show 0<1000;decide),?_⟩;have npr:ra≠p:=by rintro rfl;rw[hp] at Lx;cases Lx
   exact q _ ⟨dx,ra,by rw[ae];rfl,by rw[ao npr];exact sm _ _ Lx⟩ (fun b o e n=>by rw[ao n];exact sm _ _ e)
theorem NQ:aP ["self","net","homes","stand","beat"] ["self","net","homes","stand","beat"] (au uL):=⟨rfl,rfl,rfl,by decide +kernel,rfl,by decide +kernel,by decide +kernel⟩
def Bh(CR PN:Addr):Sp:=fun vs H Q _=>∃ (x1 x4:V) (rx ha sa:Addr) (n:Nat) (ranks:List Int) (homes:List Nat) (st:List (Option Nat)),vs=[.ref rx,x1,.ref ha,.ref sa,x4]/\wF CR H rx ranks/\ranks.length=homes.length/\H ha=some (.tup (NV homes))/\H sa=some (.tup (st.map oV))/\iE n homes st/\wK PN H/\
 ∀ (r:Addr) (H':Hp) (out:List Nat),wK PN H'->kJ PN H H'->H r=none->out.Perm (qo st st.length)->out.Pairwise (La (fun l=>ranks.getD l 0))->H' r=some (.lst (NV out))->Q (.ref r) H'
theorem Sw{f c CR PN:Addr}{fd:FuncData}(F:qg K "order" "Ranked.order" uL f fd c)(B:Bl mg)(kb:K.In base)(hb:pi mg base)(hc:PySem.W.codeHdIn K c PN=true)(RT:UV K mg CR)(MC:iZ P w K mg base bh 1 CR "check_letters" ["self","homes"] (Bg CR))(UW:dH P w K mg base bh 1 "under_way" ["stand"] A_):
  bJ P w K mg base bh 9 f fd ["self","net","homes","stand","beat"] (Bh CR PN):=by
 obtain⟨fC,fdC,mC,bC,GC⟩:=MC.ex;refine F.ok NQ (fun vs H Q E h=>?_) (fun A outer s H vs Q E hr h=>?_)
 .obtain⟨x1,x4,rx,ha,sa,n,ranks,homes,st,rfl,_⟩:=h;rfl
 .obtain⟨x1,x4,rx,ha,sa,n,ranks,homes,st,rfl,RK,rl,hH,hS,LO,tb,q⟩:=h;have h1:cy 1 _:=hr.mono (by decide);have LF:xU (kD bh P w K mg base ["self","net","homes","stand","beat"] "Ranked.order" (au uL) f (.ref c) A outer s H E).yE ["letter","self"] [none,some 0] (Lu Px) Xw (UT Px) (Ls Px) "letter":=
   ⟨bq (by kernel_rfl),fun _ _ _ _ _=>rfl,rfl,rfl,rfl,by decide +kernel,rfl,rfl⟩
  have PB:∀f' c' cV s' H',PE (pZ (kD bh P w K mg base ["self","net","homes","stand","beat"] "Ranked.order" (au uL) f (.ref c) A outer s H E).yE ["letter","self"] (Lu Px) cV Xw f' c' s' H') (Ls Px) (iI (tj K) (Ik K (aY 1) "ranks") (aY 0)):=fun f' c' cV s' H'=>
   aX eM (jv (pv 1) rfl) (pv 0) (fun _ _=>rfl)
  refine⟨_,(aj (cq (dX (pv 0) RT.cl mC GC h1 bC .nil aO (aa (pv 2) ag))) (ap (be (jc (jz hr LF PB) rfl B.sorted nQ (aa (aJ UW h1 aO (aa (pv 3) ag)) ag) (mH (rM (NB:=["letter","self"]) (src:=[none,some 0]) (mQ kb hb hc) (bq (by kernel_rfl))) rE))))),?_⟩;obtain⟨rd0,ra0,g10,g20⟩:=id RK;refine⟨_,rfl,rx,rd0,_,rfl,g10,Sr,_,rfl,rx,ha,ranks,homes,rfl,RK,hH,rl,?_⟩;refine⟨_,rfl,sa,st,rfl,hS,LO.le,fun l H1 s1 Ma hl=>?_⟩;have t1:=tb.same s1;refine⟨t1,fun f' c' H2 t2 gU wY xu=>?_⟩;have tV:∀ {b o},H1 b=some o->(∀ps,o≠.iH ps)->H2 b=some o:=fun e n=>gU _ _ e (t1.not e n);have En:=tV hl (by intro ps z;cases z);have Py:=tV (s1 _ _ hH) (by intro ps z;cases z);have Ew:=tV (s1 _ _ hS) (by intro ps z;cases z);obtain⟨rd,ra,g1,g2⟩:=RK.same s1;have g1:=tV g1 (by intro ps z;cases z);have g2:=tV g2 (by intro ps z;cases z);refine⟨l,f',c',qo st st.length,(fun l=>ranks.getD l 0),rfl,rfl,a9.of En,eD nC (by have:=LO.le;lia),qM,fun n hn=>by have:=(lm hn).1;have:=LO.le;lia,xu,wY,fun m hm H3 s3=>?_,fun r H3 out s3 Bb op pw=>?_⟩
  .obtain⟨GP,y,ey,hy,Lw⟩:=LO.at hm;refine⟨_,rfl,rx,CR,rd,_,_,rfl,s3 _ _ g1,RT.cl,RT.nR,Lv,_,rfl,ra,_,_,_,rfl,rfl,bU.of (s3 _ _ g2),aD (by rw[bZ,cg (show m<ranks.length by rw[rl,LO.len];exact GP)];rfl),?_,aL.refl _⟩;dsimp only;rw[bY,cg (show m<ranks.length by rw[rl,LO.len];exact GP)];rfl
  .have sm:=ai (o:=.lst (NV out)) Bb;exact q r _ out ((dq.same t2 s3).same sm) (fun b o e n=>sm _ _ (s3 _ _ (gU _ _ (s1 _ _ e) n))) (nE s1 t2 gU s3 Bb) op pw ae
end
theorem Bi[DecidableEq α]:∀ {a b:List α},a.Nodup->(∀x∈a,x∈b)->a.length<=b.length
 |[],b,_,_=>cx _
 |x::xs,b,hn,hs=>by
  obtain⟨h1,h2⟩:=fN.mp hn;have hx:x∈b:=hs x bu;have:=Bi (b:=b.erase x) h2 fun y hy=>(y_ (fun (e:y=x)=>h1 (e ▸ hy))).mpr (hs y (bA _ hy));rw[yV hx] at this;have:0<b.length:=qQ hx;rw[eF];lia
theorem Hh{n:Nat}{ts:Ts}{h:Nat}(F:b8 n ts)(hh:h<n):(bP n ts h).length=e_ ts (ci h):=by
 have p:((bP n ts h).map fun (o:Nat)=>(ci h,ci o)).Perm (ts.filter fun t=>decide (t.1=ci h)):=by
  refine(List.perm_ext_iff_of_nodup (iK.mpr ((sf hh).imp fun {x y} q e=>q (cK (congrArg Prod.snd e)))) (F.nd.filter _)).mpr fun u=>?_;rw[bB,dz];constructor
  .rintro⟨o,ho,rfl⟩;exact⟨(ft F hh).mp ho,fP rfl⟩
  .rintro⟨a,b⟩;have r:=F.rg u a;refine⟨u.2.toNat,(ft F hh).mpr ?_,?_⟩
   .show (ci h,ci u.2.toNat)∈ts;rw[show (ci h,ci u.2.toNat)=u from gw (eE b).symm (show ((u.2.toNat:Nat):Int)=u.2 by lia)];exact a
   .exact gw (eE b).symm (show ((u.2.toNat:Nat):Int)=u.2 by lia)
 unfold e_;rw[<-p.length_eq,aR]
theorem CK(he:∀j,j≠i->P' j=P j)(hi:P i=false):∀ {m:Nat},i<m->(List.range m).countP P'=(List.range m).countP P+(if P' i=true then 1 else 0)
 |0,h=>absurd h (vj _)
 |m+1,h=>by
  rw[ja,List.countP_append,List.countP_append,List.countP_singleton,List.countP_singleton];by_cases c:i<m
  .rw[CK he hi c,he m (by lia)];lia
  .obtain rfl:i=m:=by lia
   rw[show (List.range i).countP P'=(List.range i).countP P from List.countP_congr fun j hj=>by rw[he j (by have:=bK.mp hj;lia)],hi];simp
theorem yw(h:∀j,P j=true->P' j=true):(List.range m).countP P<=(List.range m).countP P':=List.countP_mono_left fun j _=>h j
theorem NR(h:∀j,P j=true->P' j=true)(hi:P i=false)(B3:P' i=true)(hm:i<m):(List.range m).countP P<(List.range m).countP P':=by
 have a:=CK (P:=P) (P':=fun j=>if j=i then true else P j) (i:=i) (fun j hj=>av hj) hi hm;have b:=yw (P:=fun j=>if j=i then true else P j) (P':=P') (m:=m) fun j hj=>by
  by_cases c:j=i
  .rw[c];exact B3
  .rw[av c] at hj;exact h j hj
 rw[ak rfl,ak rfl] at a;lia
theorem NS{st:List (Option Nat)}:st=(List.range st.length).map fun j=>st.getD j none:=by
 apply lw;intro i;by_cases h:i<st.length
 .rw[bZ,fc h];simp[bY,h]
 .rw[eZ (by lia),eZ (by rw[aR,cu];lia)]
theorem CL{st:List (Option Nat)}{o:Option Nat}:st.count o=(List.range st.length).countP fun j=>decide (st.getD j none=o):=by
 have e:st.count o=((List.range st.length).map fun j=>st.getD j none).count o:=congrArg _ NS;rw[e,List.count_eq_countP,List.countP_map];exact List.countP_congr fun j _=>by simp
theorem Hi:(List.replicate m (none:Option Nat)).getD j none=none:=by
 rw[bY,qP];split <;> rfl
theorem Bj{fs:List (Option Nat)}{i j:Nat}{o:Option Nat}(hi:i<fs.length):(fs.set i o).getD j none=if j=i then o else fs.getD j none:=by
 rw[bY,vd];by_cases c:i=j
 .subst c;rw[ak rfl,ak hi,ak rfl];rfl
 .rw[av c,av (fun z=>c z.symm),bY]
structure Hd(n:Nat)(ts:Ts)(st fs:List (Option Nat)):Prop where
 len:fs.length=st.length
 cE:∀j,st.getD j none=none->fs.getD j none=none
 out:∀j h,st.getD j none=some h->∃y,fs.getD j none=some y/\y∈bP n ts h
 inj:∀j k y,j≠k->fs.getD j none=some y->fs.getD k none=some y->st.getD j none≠st.getD k none
def CM(homes:List Nat)(fs:List (Option Nat)):List (Option Nat):=(List.range fs.length).map fun j=>if fs.getD j none=some (homes.getD j 0) then none else fs.getD j none
theorem ln:(CM homes fs).length=fs.length:=by unfold CM;rw[aR,cu]
theorem wM(h:(CM homes fs).getD j none=some y):fs.getD j none=some y:=by
 unfold CM at h;by_cases hj:j<fs.length
 .rw[bY,bZ,fc hj,lR,oq] at h;split at h
  .cases h
  .exact h
 .rw[bY,eZ (by rw[aR,cu];lia)] at h;cases h
theorem Hd.next{n:Nat}{ts:Ts}{homes:List Nat}{st fs:List (Option Nat)}(F:b8 n ts)(S:kU n ts homes st)(d:Hd n ts st fs):kU n ts homes (CM homes fs):=by
 have sto:∀j y,fs.getD j none=some y->∃h,h<n/\st.getD j none=some h/\y∈bP n ts h:=fun j y hy=>by
  match e:st.getD j none with
  |none=>rw[d.cE j e] at hy;cases hy
  |some h=>
   obtain⟨y',a,b⟩:=d.out j h e;rw[hy] at a;cases a;have hj:j<st.length:=by
    rcases Nat.lt_or_ge j st.length with c|c
    .exact c
    .rw[bY,eZ c] at e;cases e
   exact⟨h,(S.ss j h (by rw[CG (d:=none) hj,e])).1,rfl,b⟩
 refine⟨by rw[ln,d.len];exact S.len,S.hs,fun i y hy=>?_,fun y hy=>?_⟩
 .have hi:i<fs.length:=by have:=(dN.mp hy).1;rwa [ln] at this
  have e:(CM homes fs).getD i none=some y:=by rw[bY,hy];rfl
  obtain⟨h,hh,_,b⟩:=sto i y (wM e);refine⟨k_ F hh b,fun z=>?_⟩;have f:=wM e;unfold CM at hy;rw[bZ,fc hi,lR,f,ak (by rw[bY,z];rfl)] at hy;cases hy
 .rw[CL,ln,Hh F hy];refine ba (yw (P':=fun j=>decide (fs.getD j none=some y)) fun j hj=>fP (wM (eE hj))) ?_;unfold e_;rw[F.B8,EA];have e:∀j∈(List.range fs.length).filter (fun j=>decide (fs.getD j none=some y)),∃h:Nat,st.getD j none=some h/\(ci h,ci y)∈ts:=fun j hj=>by
   obtain⟨h,hh,a,b⟩:=sto j y (eE (dz.mp hj).2);exact⟨h,a,(ft F hh).mp b⟩
  have nd:(((List.range fs.length).filter (fun j=>decide (fs.getD j none=some y))).map fun j=>(ci ((st.getD j none).getD 0),ci y)).Nodup:=by
   refine iK.mpr ?_;refine EJ ?_ (uZ _ jW);intro a b ha hb nI ee;obtain⟨h1,g1,_⟩:=e a ha;obtain⟨h2,g2,_⟩:=e b hb;rw[g1,g2] at ee;have:h1=h2:=cK (congrArg Prod.fst ee);exact d.inj a b y nI (eE (dz.mp ha).2) (eE (dz.mp hb).2) (by rw[g1,g2,this])
  have:=Bi (b:=ts.filter fun t=>decide (t.2=ci y)) nd fun u hu=>by
   obtain⟨j,hj,rfl⟩:=bB.mp hu;obtain⟨h,g,t⟩:=e j hj;rw[g];exact dz.mpr ⟨t,fP rfl⟩
  rw[aR] at this;exact this
theorem CO{g:List (Option Nat)}{a x:Nat}(h:g.getD a none=some x):a<g.length:=by
 rcases Nat.lt_or_ge a g.length with c|c
 .exact c
 .rw[bY,eZ c] at h;cases h
section
variable {n:Nat} {ts:Ts} {homes:List Nat} {st g g1:List (Option Nat)} {gd ou:Nat->List Nat} {l x y:Nat} {os p:List Nat}
theorem qN(h:p9 st g l os=some x):x∈os/\∀a,a<st.length->st.getD a none=st.getD l none->g.getD a none≠some x:=by
 unfold p9 at h;refine⟨EG h,fun a ha e z=>?_⟩;have:=zI h;rw[Bool.not_eq_true',ve] at this;exact this a (bK.mpr ha) (by rw[fP e,fP z];rfl)
theorem CP(h:p9 st g l os=none)(hx:x∈os):∃a,a<st.length/\st.getD a none=st.getD l none/\g.getD a none=some x:=by
 unfold p9 at h;have:=zq.mp h x hx;rw[Bool.not_eq_true',Bool.not_eq_false,zG] at this;obtain⟨a,ha,b⟩:=this;rw[gm] at b;exact⟨a,bK.mp ha,eE b.1,eE b.2⟩
def Sx(st g:List (Option Nat)):Prop:=∀j k y,j≠k->g.getD j none=some y->g.getD k none=some y->st.getD j none≠st.getD k none
theorem Sx.put(I:Sx st g)(gl:g.length=st.length)(hl:l<st.length):Sx st (g.set l (p9 st g l os)):=by
 intro j k y n hj hk e;rw[Bj (by rw[gl];exact hl)] at hj hk;by_cases cj:j=l
 .rw[ak cj] at hj;rw[av (fun z=>n (cj.trans z.symm))] at hk;exact(qN hj).2 k (by rw[<-gl];exact CO hk) (by rw[<-cj];exact e.symm) hk
 .rw[av cj] at hj;by_cases ck:k=l
  .rw[ak ck] at hk;exact(qN hk).2 j (by rw[<-gl];exact CO hj) (by rw[<-ck];exact e) hj
  .rw[av ck] at hk;exact I j k y n hj hk e
structure E1(st g:List (Option Nat))(gd:Nat->List Nat)(p:List Nat):Prop where
 len:g.length=st.length
 inj:Sx st g
 cE:∀l,l∉p->g.getD l none=none
 ok:∀l,l∈p->(∃x,g.getD l none=some x/\x∈gd l)\/(g.getD l none=none/\∀o∈gd l,∃a,st.getD a none=st.getD l none/\g.getD a none=some o)
theorem E1.step(I:E1 st g gd p)(hl:l<st.length)(np:l∉p):E1 st (g.set l (p9 st g l (gd l))) gd (p++[l]):=by
 have gs:∀ {j:Nat},(g.set l (p9 st g l (gd l))).getD j none=if j=l then p9 st g l (gd l) else g.getD j none:=Bj (by rw[I.len];exact hl)
 have nl:=I.cE l np;have kp:∀ {a o:Nat},g.getD a none=some o->(g.set l (p9 st g l (gd l))).getD a none=some o:=fun {a o} e=>by rw[gs,av (by rintro rfl;rw[nl] at e;cases e)];exact e
 refine⟨by rw[jF,I.len],I.inj.put I.len hl,fun j hj=>?_,fun j hj=>?_⟩
 .rw[gs,av (by rintro rfl;exact hj (dZ _ bu))];exact I.cE j fun z=>hj (fw _ z)
 .by_cases c:j=l
  .subst c;rw[gs,ak rfl];cases e:p9 st g j (gd j) with
   |some x=>exact .inl ⟨x,rfl,(qN e).1⟩
   |none=>exact .inr ⟨rfl,fun o ho=>let ⟨a,_,e1,e2⟩:=CP e ho;⟨a,e1,by have:=kp e2;rwa [e] at this⟩⟩
  .rw[gs,av c];have hj:j∈p:=by
    rcases cw.mp hj with z|z
    .exact z
    .exact absurd (cU.mp z) c
   rcases I.ok j hj with z|⟨z,f⟩
   .exact .inl z
   .exact .inr ⟨z,fun o ho=>let ⟨a,e1,e2⟩:=f o ho;⟨a,e1,kp e2⟩⟩
theorem E1.fold:∀ {ls p:List Nat} {g:List (Option Nat)},E1 st g gd p->(∀l∈ls,l<st.length)->(p++ls).Nodup->E1 st (ls.foldl (fun g l=>g.set l (p9 st g l (gd l))) g) gd (p++ls)
 |[],p,g,I,_,_=>by rw[j5];exact I
 |l::ls,p,g,I,h,nd=>by
  rw[iT,show p++l::ls=(p++[l])++ls by simp];rw[show p++l::ls=(p++[l])++ls by simp] at nd;refine E1.fold (I.step (h l bu) fun z=>?_) (fun j hj=>h j (bA _ hj)) nd;exact(jU.mp (jU.mp nd).1).2.2 l z l bu rfl
noncomputable def Hj(n:Nat)(ts:Ts)(st g:List (Option Nat))(l:Nat):List (Option Nat):=if g.getD l none=none then g.set l (p9 st g l (bP n ts ((st.getD l none).getD 0))) else g
noncomputable def Eb(n:Nat)(ts:Ts)(homes:List Nat)(st g:List (Option Nat))(l:Nat):List (Option Nat):=g.set l (p9 st g l (jj n ts ((st.getD l none).getD 0) (homes.getD l 0)))
noncomputable def J0(n:Nat)(ts:Ts)(homes:List Nat)(st:List (Option Nat))(nK:List Nat):List (Option Nat):=nK.foldl (Hj n ts st) (nK.foldl (Eb n ts homes st) (List.replicate st.length none))
theorem J4(S:kU n ts homes st)(hl:l<st.length)(ey:st.getD l none=some y)(hy:y<n)(en:g.getD l none=none):∃x,p9 st g l (bP n ts y)=some x:=by
 cases e:p9 st g l (bP n ts y) with
 |some x=>exact⟨x,rfl⟩
 |none=>
  exfalso;have a:=Bi (b:=((List.range st.length).filter fun j=>decide (st.getD j none=some y)&&(g.getD j none).isSome).map fun j=>(g.getD j none).getD 0) (sf hy) fun x hx=>by
   obtain⟨a,ha,e1,e2⟩:=CP e hx;exact bB.mpr ⟨a,dz.mpr ⟨bK.mpr ha,by rw[e1,ey,e2];simp⟩,by rw[e2];rfl⟩
  rw[aR,<-EA] at a;have b:=NR (P:=fun j=>decide (st.getD j none=some y)&&(g.getD j none).isSome) (P':=fun j=>decide (st.getD j none=some y)) (i:=l) (fun j h=>(gm _ _ ▸ h:_/\_).1) (by rw[en];simp) (by rw[ey];simp) hl;have c:=S.cap y hy;rw[CL] at c;lia
structure E2(n:Nat)(ts:Ts)(st g1 g:List (Option Nat))(p:List Nat):Prop where
 len:g.length=st.length
 inj:Sx st g
 keep:∀l x,g1.getD l none=some x->g.getD l none=some x
 cE:∀l,l∉p->g.getD l none=g1.getD l none
 out:∀l,l∈p->∃x,g.getD l none=some x/\(g1.getD l none=some x\/x∈bP n ts ((st.getD l none).getD 0))
theorem E2.step(S:kU n ts homes st)(I:E2 n ts st g1 g p)(hl:l<st.length)(ey:st.getD l none=some y)(hy:y<n)(np:l∉p):E2 n ts st g1 (Hj n ts st g l) (p++[l]):=by
 have nl:=I.cE l np;unfold Hj;by_cases c:g.getD l none=none
 .rw[ak c,ey];obtain⟨x,ex⟩:=J4 S hl ey hy c;have gs:∀ {j:Nat},(g.set l (p9 st g l (bP n ts y))).getD j none=if j=l then p9 st g l (bP n ts y) else g.getD j none:=Bj (by rw[I.len];exact hl)
  refine⟨by rw[jF,I.len],I.inj.put I.len hl,fun j x e=>?_,fun j hj=>?_,fun j hj=>?_⟩
  .show (g.set l (p9 st g l (bP n ts y))).getD j none=_;rw[gs,av (by rintro rfl;rw[<-nl,c] at e;cases e)];exact I.keep j x e
  .show (g.set l (p9 st g l (bP n ts y))).getD j none=_;rw[gs,av (by rintro rfl;exact hj (dZ _ bu))];exact I.cE j fun z=>hj (fw _ z)
  .show ∃x,(g.set l (p9 st g l (bP n ts y))).getD j none=some x/\_;rw[gs];by_cases d:j=l
   .subst d;rw[ak rfl,ex,ey];exact⟨x,rfl,.inr (qN ex).1⟩
   .rw[av d];rcases cw.mp hj with z|z
    .exact I.out j z
    .exact absurd (cU.mp z) d
 .rw[av c];refine⟨I.len,I.inj,I.keep,fun j hj=>I.cE j fun z=>hj (fw _ z),fun j hj=>?_⟩;rcases cw.mp hj with z|z
  .exact I.out j z
  .rw[cU.mp z];cases e:g.getD l none with
   |none=>exact absurd e c
   |some x=>exact⟨x,rfl,.inl (by rw[<-nl,e])⟩
theorem E2.fold(S:kU n ts homes st):∀ {ls p:List Nat} {g:List (Option Nat)},E2 n ts st g1 g p->(∀l∈ls,∃y,l<st.length/\st.getD l none=some y/\y<n)->(p++ls).Nodup->E2 n ts st g1 (ls.foldl (Hj n ts st) g) (p++ls)
 |[],p,g,I,_,_=>by rw[j5];exact I
 |l::ls,p,g,I,h,nd=>by
  rw[iT,show p++l::ls=(p++[l])++ls by simp];rw[show p++l::ls=(p++[l])++ls by simp] at nd;obtain⟨y,a,b,c⟩:=h l bu;refine E2.fold S (I.step S a b c fun z=>?_) (fun j hj=>h j (bA _ hj)) nd;exact(jU.mp (jU.mp nd).1).2.2 l z l bu rfl
structure Eag(n:Nat)(ts:Ts)(homes:List Nat)(st fs:List (Option Nat)):Prop where
 hd:Hd n ts st fs
 eag:∀l y,st.getD l none=some y->(∃x,fs.getD l none=some x/\x∈jj n ts y (homes.getD l 0))\/∀o∈jj n ts y (homes.getD l 0),∃a,st.getD a none=some y/\fs.getD a none=some o/\o∈jj n ts y (homes.getD a 0)
theorem J5{nK:List Nat}(S:kU n ts homes st)(pm:nK.Perm (qo st st.length)):∀l∈nK,∃y,l<st.length/\st.getD l none=some y/\y<n:=fun l hl=>by
 obtain⟨a,b⟩:=lm (pm.mem_iff.mp hl);exact⟨_,a,b,(S.ss l _ (by rw[CG (d:=none) a];exact congrArg some b)).1⟩
theorem Hk(h:st.getD l none=some y):l∈qo st st.length:=dz.mpr ⟨bK.mpr (CO h),by rw[h];rfl⟩
theorem NU{nK:List Nat}(pm:nK.Perm (qo st st.length)):nK.Nodup:=pm.nodup_iff.mpr (uZ _ jW)
theorem NW{nK:List Nat}(S:kU n ts homes st)(pm:nK.Perm (qo st st.length)):Eag n ts homes st (J0 n ts homes st nK):=by
 have al:=J5 S pm;have nd:=NU pm;have i1:E1 st (nK.foldl (Eb n ts homes st) (List.replicate st.length none)) (fun l=>jj n ts ((st.getD l none).getD 0) (homes.getD l 0)) ([]++nK):=E1.fold (gd:=fun l=>jj n ts ((st.getD l none).getD 0) (homes.getD l 0)) ⟨jQ,(fun j k y _ hy=>by rw[Hi] at hy;cases hy),fun l _=>Hi,fun l hl=>(nomatch hl)⟩ (fun l hl=>let ⟨_,a,_⟩:=al l hl;a) nd;have i2:=E2.fold S (g1:=nK.foldl (Eb n ts homes st) (List.replicate st.length none)) (p:=[]) ⟨i1.len,i1.inj,fun _ _ e=>e,fun _ _=>rfl,fun l hl=>(nomatch hl)⟩ al nd;rw[List.nil_append] at i1 i2;have Xx:∀ {i j o},o∈jj n ts i j->o∈bP n ts i:=fun h=>(dz.mp h).1;have uo:∀ {l y},st.getD l none=some y->l∈nK:=fun h=>pm.mem_iff.mpr (Hk h);have g1k:∀ {l y x},st.getD l none=some y->(nK.foldl (Eb n ts homes st) (List.replicate st.length none)).getD l none=some x->x∈jj n ts y (homes.getD l 0):=fun {l y x} h e=>by
  rcases i1.ok l (uo h) with ⟨x',a,b⟩|⟨a,_⟩
  .rw[e] at a;cases a;rw[h] at b;exact b
  .rw[e] at a;cases a
 refine⟨⟨i2.len,fun j hj=>?_,fun j y hj=>?_,i2.inj⟩,fun l y hl=>?_⟩
 .have nj:j∉nK:=fun z=>by obtain⟨y,_,e,_⟩:=al j z;rw[hj] at e;cases e
  exact(i2.cE j nj).trans (i1.cE j nj)
 .obtain⟨x,a,b⟩:=i2.out j (uo hj);rcases b with b|b
  .exact⟨x,a,Xx (g1k hj b)⟩
  .rw[hj] at b;exact⟨x,a,b⟩
 .rcases i1.ok l (uo hl) with ⟨x,a,b⟩|⟨a,f⟩
  .rw[hl] at b;exact .inl ⟨x,i2.keep l x a,b⟩
  .refine .inr fun o ho=>?_;obtain⟨a',e1,e2⟩:=f o (by rw[hl];exact ho);rw[hl] at e1;exact⟨a',e1,i2.keep _ _ e2,g1k e1 e2⟩
end
abbrev Bk:Stmt:=top 53
theorem mn:(["_law_k","_law_pot_here","_law_size"]:List Str).Nodup:=by decide +kernel
section
variable {P:Program} {w:World} {K:PySem.W.Frag} {mg:Str->Option Value} {base:Heap}
theorem CQ:aP ["_law_pot_here","_law_many","_law_size"] ["_law_pot_here","_law_many"] (au Bk):=⟨rfl,rfl,rfl,by decide +kernel,rfl,by decide +kernel,by decide +kernel⟩
def wN:Sp:=fun vs H Q _=>∃ (p:Addr) (m:Nat),vs=[.ref p,.int (m:Nat)]/\bf H p/\m<=16/\∀ (t:Addr) (ranks:List Int) (H':Hp),aN p H H'->bf H' p->H' t=some (.tup (ranks.map V.int))->ranks.length=m->Q (.ref t) H'
theorem Hl(F:hV K "_law_ranks" "_law_ranks" Bk f fd)(B:Bl mg)(TK:dH P w K mg base bh 1 "_law_take" ["_law_pot_here","_law_many"] gE):bJ P w K mg base bh 2 f fd ["_law_pot_here","_law_many"] wN:=by
 refine F.ok CQ (fun vs H Q E h=>?_) (fun eV A outer s H vs Q E hr h=>?_)
 .obtain⟨p,m,rfl,_⟩:=h;rfl
 .obtain⟨p,m,rfl,hp,m1,q⟩:=h;refine'⟨_,(aj (aV (i:=2) CQ.nd rfl (Or.inr rfl) (aX aK (cY (aa aB (aa (bb kB aB (bb zV aB aB)) ag))) (aJ TK hr aO (aa (pv 0) (aa aB ag))) (fun _ _=>rfl)))
   (ap (be (cA fm (by rfl) B.tup pM (aa ?c1 ag))))),?_⟩
  case c1=>
   refine' cD (g:=(bD 0)) (te:=(iI (xf fun i j=>.int (i-j)) (pO gE [] E0 (bz (aY 1) (bz (aY 2) gg))) (iI (rI Qc fun i j=>.int (i / j)) (aY 2) (tC (.int 2))))) (NB:=["_law_k","_law_pot_here","_law_size"]) (src:=[none,some 0,some 2]) (bq (by kernel_rfl)) rfl (bE rfl B.range (aa (pv 1) ag)) ?g ?t ?e;case g=>exact fun cl C s₃ H₃ fp=>(az (i:=0) mn rfl (Or.inl rfl) (Or.inr rfl))
   case t=>exact fun cl C s₃ H₃ fp=>c_
   case e=>exact fun cl C s₃ H₃ fp=>(bb jt (aJ TK hr aO (aa (pv 1) (aa (pv 2) ag))) (bb qy (pv 2) aB))
  have e59:((10:Int) ^ Int.toNat 59)=100000000000000000000000000000000000000000000000000000000000:=by decide +kernel
  refine⟨_,_,rfl,rfl,⟨by decide,by decide,by decide⟩,_,_,rfl,rfl,?_,by show 2<=sizeLine;decide,fun l hl=>?_⟩
  .exact .inl ⟨by decide,by decide⟩
  have sl:=ai (o:=.lst [V.int 3,.int (2*10 ^ Int.toNat 59)]) hl;refine⟨_,rfl,p,2,rfl,by decide,by decide,hp.same sl,fun d H1 hd s1 mr=>?_⟩;have gl:=s1 _ _ (ae (H:=H) (a:=l) (o:=.lst [V.int 3,.int (2*10 ^ Int.toNat 59)])) (hp.ne hl);have s01:aN p H H1:=(aN.of sl).trans s1;obtain⟨z,hz,z0,z1⟩:∃z:Nat,yH [V.int 3,.int (2*10 ^ Int.toNat 59)] (d:Int)=some (.int (z:Nat))/\0<z/\z<2 ^ 200:=by
   rcases(show d=0\/d=1 by lia) with rfl|rfl
   .exact⟨3,aD (j:=0) rfl,by decide,by decide⟩
   .refine⟨200000000000000000000000000000000000000000000000000000000000,?_,by decide,by decide⟩;rw[e59];exact aD (j:=1) rfl
  refine⟨l,_,_,_,rfl,rfl,a9.of gl,hz,?_⟩;clear gl hz;refine⟨_,rfl,(m:Nat),rfl,by lia,by lia,fun D hD=>?_⟩;have nD:D≠p:=mr.ne hD;rw[gk];refine eN (fun i ys σ H2=>(∃x,σ=[x,some (.ref p),some (.int (z:Nat))])/\aN p H1 H2/\bf H2 p/\H2 D=some (.lst ys)/\∃rs:List Int,ys=rs.map V.int/\rs.length=i) ⟨⟨_,rfl⟩,aN.of (ai hD),mr.same (ai hD),ae,[],rfl,rfl⟩ ?_ ?_
  .rintro i ys σ H2 Kt Kf hi ⟨⟨x,rfl⟩,s2,xQ,jA,rs,rfl,rl⟩ kt kf;refine⟨_,rfl,_,rfl,p,z,rfl,z0,z1,xQ,fun e H3 he s3 mw=>⟨_,rfl,_,_,rfl,rfl,⟨by decide,by decide⟩,_,_,rfl,rfl,?_⟩⟩;refine kt _ _ _ (s3 _ _ jA nD) (by rw[aR,rl];exact br (show i<17 by lia) (by decide)) ⟨⟨_,rfl⟩,fun b o e' n=>?_,?_,ae,rs++[_],by rw[di];rfl,by rw[df,rl];rfl⟩
   .rw[ao (am e' hD)];exact s3 _ _ (s2 _ _ e' n) n
   .exact mw.put nD.symm
  .rintro ys σ H2 ⟨_,s2,xQ,jA,rs,rfl,rl⟩;refine⟨D,_,rfl,.inl ⟨a9.of jA,fun t ht=>?_⟩⟩;exact q t rs _ ((s01.trans s2).trans (aN.of (ai ht))) (xQ.same (ai ht)) ae rl
end
abbrev Pz:List Str:=["self","net","homes","stand","beat"]
theorem yx(a:PE X e t1)(b:PE X e t2):PE X e (fun σ H Q=>t1 σ H Q\/t2 σ H Q):=fun af s σ H Q I h=>h.elim (a af s σ H Q I) (b af s σ H Q I)
structure Ly(K:PySem.W.Frag)(mg:Str->Option Value)(nm:Str)(CB Ci:Addr)(bt:Bool):Prop where
 cl:El K Ci
 Je:mg nm=some (.ref Ci)
 ha:PySem.W.findIn K (.ref Ci) "__class__"=some (some (.builtin "object.__class__"))
 hn:PySem.W.specialIn K (.builtin "object.__class__") "__get__"=some (some (.builtin "getset_descriptor.__get__"))
 Qf:PySem.W.takesIn K (.builtin "object.__class__")=some true
 hm:PySem.W.mroIn K Ci (.type "object")=some true
 kt:PySem.W.kitOne K (.ref Ci) (.ref CB)=some bt
theorem Ly.ty(T:Ly K mg nm CB Ci bt)(e:H a=some (.ins Ci d fs)):KZ K H (.ref a) (.ref Ci):=.of (.ins e T.cl T.ha T.hn T.Qf T.hm)
structure jB(PN PF PT PR:Addr)(H:Hp):Prop where
 n:wH PN H
 f:wI PF H
 t:wJ PT H
 r:wK PR H
theorem jB.same{PN PF PT PR:Addr}{H H':Hp}(t:jB PN PF PT PR H)(s:aL H H'):jB PN PF PT PR H':=⟨t.n.same s,t.f.same s,t.t.same s,t.r.same s⟩
def KQ(PN PF PT PR:Addr)(H H':Hp):Prop:=∀b o,H b=some o->b≠PN->b≠PF->b≠PT->b≠PR->H' b=some o
def KN(H H':Hp):Prop:=∀b o,H b=some o->Pq o->H' b=some o
theorem KQ.kn{PN PF PT PR:Addr}{H H':Hp}(k:KQ PN PF PT PR H H')(t:jB PN PF PT PR H):KN H H':=fun b o e n=>k b o e (t.n.not e n) (t.f.not e n) (t.t.not e n) (t.r.not e n)
theorem KQ.of{PN PF PT PR:Addr}{H H':Hp}(s:aL H H'):KQ PN PF PT PR H H':=fun b o e _ _ _ _=>s b o e
theorem KQ.trans{PN PF PT PR:Addr}{H H1 H2:Hp}(a:KQ PN PF PT PR H H1)(b:KQ PN PF PT PR H1 H2):KQ PN PF PT PR H H2:=fun c o e n1 n2 n3 n4=>b c o (a c o e n1 n2 n3 n4) n1 n2 n3 n4
theorem _root_.L2.dq.jL(t:dq lp q P H)(s:kJ P' H H')(hp:∃ps,H P'=some (.iH ps))(n:P≠P'):dq lp q P H':=by
 obtain⟨ps,hp⟩:=hp;rcases t with z|⟨c,z,y⟩
 .exact .inl (s _ _ z n)
 .exact .inr ⟨c,s _ _ z n,s _ _ y (by rintro rfl;rw[hp] at y;cases y)⟩
theorem _root_.L2.dq.iH(t:dq lp q P H):∃ps,H P=some (.iH ps):=by
 rcases t with z|⟨c,z,y⟩
 .exact⟨_,z⟩
 .exact⟨_,z⟩
def Rl(CE CN CF CT CI CR:Addr)(ranks:List Int)(H:Hp):Nat->Addr->Prop
 |0,a=>∃d,H a=some (.ins CE d [])
 |1,a=>∃d,H a=some (.ins CN d [])
 |2,a=>∃d,H a=some (.ins CF d [])
 |3,a=>∃d,H a=some (.ins CT d [])
 |4,a=>∃d,H a=some (.ins CI d [])
 |_,a=>wF CR H a ranks
theorem Rl.kn{CE CN CF CT CI CR:Addr}{ranks:List Int}{H H':Hp}{sM:Nat}{a:Addr}(h:Rl CE CN CF CT CI CR ranks H sM a)(k:KN H H'):Rl CE CN CF CT CI CR ranks H' sM a:=by
 match sM,h with
 |0,⟨d,e⟩=>exact⟨d,k _ _ e (fun ps z=>by cases z)⟩
 |1,⟨d,e⟩=>exact⟨d,k _ _ e (fun ps z=>by cases z)⟩
 |2,⟨d,e⟩=>exact⟨d,k _ _ e (fun ps z=>by cases z)⟩
 |3,⟨d,e⟩=>exact⟨d,k _ _ e (fun ps z=>by cases z)⟩
 |4,⟨d,e⟩=>exact⟨d,k _ _ e (fun ps z=>by cases z)⟩
 |n+5,⟨d,ra,e,e'⟩=>exact⟨d,ra,k _ _ e (fun ps z=>by cases z),k _ _ e' (fun ps z=>by cases z)⟩
section
variable {K:PySem.W.Frag} {C CE CN CF CT CI CR PN PF PT PR:Addr}
abbrev tO(Ci:Addr)(sp:Sp):TE:=BA Ci "order" sp [] E0 (aY 0) (bz (aY 1) (bz (aY 2) (bz (aY 3) (bz (aY 4) gg))))
abbrev tOU(C CE CN CF CT CI CR PN PF PT PR:Addr):TE:=fun σ H Q=>tO CE sJ σ H Q\/(fun σ H Q=>tO CN (Bc C PN) σ H Q\/(fun σ H Q=>tO CF (Bd C PF) σ H Q\/(fun σ H Q=>tO CT (Be PT) σ H Q\/(fun σ H Q=>tO CI sJ σ H Q\/tO CR (Bh CR PR) σ H Q) σ H Q) σ H Q) σ H Q) σ H Q
theorem NX:([("ranks",v)]:List (Str×V)).lookup ("order":Str)=none:=by
 rw[fK];rw[show (("order":Str)==("ranks":Str))=false by decide +kernel];rfl
theorem Sy(nd:[PN,PF,PT,PR].Nodup)(tb:jB PN PF PT PR H)(N:dB C H L px n ts)(he:H ha=some (.tup (NV homes)))(se:H sa=some (.tup (st.map oV)))(LO:iE n homes st)(b0:0<=bt)(rl:ranks.length=homes.length)(w6:sM<6)(ra:Rl CE CN CF CT CI CR ranks H sM a)(q:∀ (r:Addr) (H':Hp) (out:List Nat),jB PN PF PT PR H'->KQ PN PF PT PR H H'->H r=none->out.Perm (qo st st.length)->H' r=some (.lst (NV out))->Q (.ref r) H'):
  tOU C CE CN CF CT CI CR PN PF PT PR [some (.ref a),some (.ref px),some (.ref ha),some (.ref sa),some (.int bt),x5,x6] H Q:=by
 simp only[fN,bn,jV,not_or,iq,not_false_eq_true,jl,and_true] at nd;obtain⟨⟨n1,n2,n3⟩,⟨n4,n5⟩,n6⟩:=nd;have kq:∀ {P H'},(P=PN\/P=PF\/P=PT\/P=PR)->kJ P H H'->KQ PN PF PT PR H H':=fun h s b o e m1 m2 m3 m4=>s b o e (by rcases h with rfl|rfl|rfl|rfl <;> assumption)
 match sM,w6,ra,q with
 |0,_,⟨d,e⟩,q=>exact .inl ⟨_,rfl,a,d,_,rfl,e,rfl,_,rfl,_,rfl,_,rfl,_,rfl,_,_,_,_,sa,st,rfl,se,LO.le,fun r H' s Ea hr=>q r H' _ (tb.same s) (KQ.of s) Ea (jG _) hr⟩
 |1,_,⟨d,e⟩,q=>exact .inr (.inl ⟨_,rfl,a,d,_,rfl,e,rfl,_,rfl,_,rfl,_,rfl,_,rfl,_,_,_,px,ha,sa,n,ts,homes,st,rfl,N,he,se,LO,tb.n,fun r H' out t' s Ea op _ hr=>q r H' out ⟨t',tb.f.jL s tb.n.iH (dA n1),tb.t.jL s tb.n.iH (dA n2),tb.r.jL s tb.n.iH (dA n3)⟩ (kq (.inl rfl) s) Ea op hr⟩)
 |2,_,⟨d,e⟩,q=>exact .inr (.inr (.inl ⟨_,rfl,a,d,_,rfl,e,rfl,_,rfl,_,rfl,_,rfl,_,rfl,_,_,_,px,ha,sa,n,ts,homes,st,rfl,N,he,se,LO,tb.f,fun r H' out t' s Ea op _ hr=>q r H' out ⟨tb.n.jL s tb.f.iH n1,t',tb.t.jL s tb.f.iH (dA n4),tb.r.jL s tb.f.iH (dA n5)⟩ (kq (.inr (.inl rfl)) s) Ea op hr⟩))
 |3,_,⟨d,e⟩,q=>exact .inr (.inr (.inr (.inl ⟨_,rfl,a,d,_,rfl,e,rfl,_,rfl,_,rfl,_,rfl,_,rfl,_,_,bt,ha,sa,n,homes,st,rfl,b0,he,se,LO,tb.t,fun r H' out t' s Ea op _ hr=>q r H' out ⟨tb.n.jL s tb.t.iH n2,tb.f.jL s tb.t.iH n4,t',tb.r.jL s tb.t.iH (dA n6)⟩ (kq (.inr (.inr (.inl rfl))) s) Ea op hr⟩)))
 |4,_,⟨d,e⟩,q=>exact .inr (.inr (.inr (.inr (.inl ⟨_,rfl,a,d,_,rfl,e,rfl,_,rfl,_,rfl,_,rfl,_,rfl,_,_,_,_,sa,st,rfl,se,LO.le,fun r H' s Ea hr=>q r H' _ (tb.same s) (KQ.of s) Ea (jG _) hr⟩))))
 |5,_,rk,q=>
  have rk:wF CR H a ranks:=rk;obtain⟨d,ra',e,e'⟩:=id rk;exact .inr (.inr (.inr (.inr (.inr ⟨_,rfl,a,d,_,rfl,e,NX,_,rfl,_,rfl,_,rfl,_,rfl,_,_,a,ha,sa,n,ranks,homes,st,rfl,rk,rl,he,se,LO,tb.r,fun r H' out t' s Ea op _ hr=>q r H' out ⟨tb.n.jL s tb.r.iH n3,tb.f.jL s tb.r.iH n5,tb.t.jL s tb.r.iH n6,t'⟩ (kq (.inr (.inr (.inr rfl))) s) Ea op hr⟩))))
end
section
variable {P:Program} {w:World} {K:PySem.W.Frag} {mg:Str->Option Value} {base:Heap}
structure Sz(P:Program)(w:World)(K:PySem.W.Frag)(mg:Str->Option Value)(base:Heap)(C CE CN CF CT CI CR PN PF PT PR:Addr):Prop where
 e:Ly K mg "Elder" CI CE false
 n:Ly K mg "Nearest" CI CN false
 f:Ly K mg "Farthest" CI CF false
 t:Ly K mg "Turns" CI CT false
 i:Ly K mg "InTurn" CI CI true
 r:Ly K mg "Ranked" CI CR false
 nd:[PN,PF,PT,PR].Nodup
 oE:iZ P w K mg base bh 2 CE "order" Pz sJ
 oN:iZ P w K mg base bh 9 CN "order" Pz (Bc C PN)
 oF:iZ P w K mg base bh 9 CF "order" Pz (Bd C PF)
 oT:iZ P w K mg base bh 9 CT "order" Pz (Be PT)
 oI:iZ P w K mg base bh 2 CI "order" Pz sJ
 oR:iZ P w K mg base bh 9 CR "order" Pz (Bh CR PR)
theorem Sz.ty{C CE CN CF CT CI CR PN PF PT PR:Addr}(R:Sz P w K mg base C CE CN CF CT CI CR PN PF PT PR){H:Hp}{ranks:List Int}{sM a:Nat}(w6:sM<6)(h:Rl CE CN CF CT CI CR ranks H sM a):∃t,PySem.W.kitOne K t (.ref CI)=some (decide (sM=4))/\KZ K H (.ref a) t:=by
 match sM,w6,h with
 |0,_,⟨d,e⟩=>exact⟨_,R.e.kt,R.e.ty e⟩
 |1,_,⟨d,e⟩=>exact⟨_,R.n.kt,R.n.ty e⟩
 |2,_,⟨d,e⟩=>exact⟨_,R.f.kt,R.f.ty e⟩
 |3,_,⟨d,e⟩=>exact⟨_,R.t.kt,R.t.ty e⟩
 |4,_,⟨d,e⟩=>exact⟨_,R.i.kt,R.i.ty e⟩
 |5,_,rk=>
  obtain⟨d,ra',e,e'⟩:=(show wF CR H a ranks from rk)
  exact⟨_,R.r.kt,R.r.ty e⟩
end
abbrev Xy:Stmt:=top 24
section
variable {P:Program} {w:World} {K:PySem.W.Frag} {mg:Str->Option Value} {base:Heap}
theorem NY:aP ["net","homes","stand","letters","goes","letter"] ["net","homes","stand","letters","goes"] (au Xy):=⟨rfl,rfl,rfl,by decide +kernel,rfl,by decide +kernel,by decide +kernel⟩
def NZ(C:Addr):Sp:=fun vs H Q _=>∃ (L:Addr->Prop) (px ha sa la ga:Addr) (n:Nat) (ts:Ts) (homes os:List Nat) (st gs:List (Option Nat)),vs=[.ref px,.ref ha,.ref sa,.ref la,.ref ga]/\dB C H L px n ts/\¬ L ga/\H ha=some (.tup (NV homes))/\H sa=some (.tup (st.map oV))/\iE n homes st/\(∀l∈os,l∈qo st st.length)/\H la=some (.lst (NV os))/\la≠ga/\H ga=some (.lst (gs.map oV))/\gs.length=st.length/\
 ∀H',aN ga H H'->H' ga=some (.lst ((os.foldl (Hj n ts st) (os.foldl (Eb n ts homes st) gs)).map oV))->Q .cE H'
theorem wO:∀ {ls:List Nat} {gs:List (Option Nat)},(ls.foldl (Eb n ts homes st) gs).length=gs.length
 |[],gs=>rfl
 |l::ls,gs=>by rw[iT,wO];unfold Eb;rw[jF]
theorem CS:∀ {ls:List Nat} {gs:List (Option Nat)},(ls.foldl (Hj n ts st) gs).length=gs.length
 |[],gs=>rfl
 |l::ls,gs=>by rw[iT,CS];unfold Hj;split <;> simp
theorem SA(F:hV K "hand_eagerly" "hand_eagerly" Xy f fd)(T:NT K mg C)(MG:iZ P w K mg base bh 6 C "good" ["self","house","home"] (wD C))(MO:iZ P w K mg base bh 5 C "out" ["self","house"] (AQ C))(FF:dH P w K mg base bh 1 "first_free" ["others","stand","goes","letter"] NJ):
  bJ P w K mg base bh 7 f fd ["net","homes","stand","letters","goes"] (NZ C):=by
 obtain⟨fG,fdG,mG,bG,GG⟩:=MG.ex;obtain⟨fO,fdO,mO,bO,GO⟩:=MO.ex;refine F.ok NY (fun vs H Q E h=>?_) (fun eV A outer s H vs Q E hr h=>?_)
 .obtain⟨L,px,ha,sa,la,ga,n,ts,homes,os,st,gs,rfl,_⟩:=h;rfl
 .obtain⟨L,px,ha,sa,la,ga,n,ts,homes,os,st,gs,rfl,N,nLg,hH,hS,LO,ho,hL,Xz,hG,gl,q⟩:=h;have h1:cy 1 _:=hr.mono (by decide);have h5:cy 5 _:=hr.mono (by decide);refine⟨_,(aj (cQ dP rfl (bV (pv 3)) (az (i:=5) NY.nd rfl (Or.inl rfl))
    (ap (dL (aJ FF h1 aO (aa (dX (pv 0) T.cl mG GG hr bG .nil aO (aa (aX eM (pv 2) (pv 5) (fun _ _=>rfl)) (aa (aX eM (pv 1) (pv 5) (fun _ _=>rfl)) ag))) (aa (pv 2) (aa (pv 4) (aa (pv 5) ag))))) (gC (pv 4) (pv 5) dR))))
   (ap (cQ dP rfl (bV (pv 3)) (az (i:=5) NY.nd rfl (Or.inl rfl))
    (ap (cC (aM vI (aX aK (pv 4) (pv 5) (fun _ _=>rfl)) eC (a_ _)) (ap (dL (aJ FF h1 aO (aa (dX (pv 0) T.cl mO GO h5 bO .nil aO (aa (aX eM (pv 2) (pv 5) (fun _ _=>rfl)) ag)) (aa (pv 2) (aa (pv 4) (aa (pv 5) ag))))) (gC (pv 4) (pv 5) dR))) bp))))),?_⟩
  have n2:=N.jO.n2;have npg:px≠ga:=by obtain⟨dx,fs,a,_⟩:=N.JU;rintro rfl;rw[a] at hG;cases hG
  have nhg:ha≠ga:=by rintro rfl;rw[hH] at hG;cases hG
  have nsg:sa≠ga:=by rintro rfl;rw[hS] at hG;cases hG
  refine⟨_,rfl,la,rfl,⟨_,a9.of hL⟩,fW (K:=K) (xs:=NV os) (fun j σ Hc=>(∃x,σ=[some (.ref px),some (.ref ha),some (.ref sa),some (.ref la),some (.ref ga),x])/\aN ga H Hc/\Hc ga=some (.lst (((os.take j).foldl (Eb n ts homes st) gs).map oV))) ⟨⟨_,rfl⟩,aN.refl,hG⟩ (fun j σ Hc _ z=>a9.of (z.2.1 _ _ hL Xz)) ?_ ?_⟩
  .rintro j x σ Hc hx ⟨⟨x5,rfl⟩,sc,yO⟩;obtain⟨l,hv,rfl⟩:=p7 hx;obtain⟨hl,y,ey,hy,Lw⟩:=LO.at (ho l (cS hv));have tk:os.take (j+1)=os.take j++[l]:=by rw[gj,hv];rfl
   rw[tk,List.foldl_append,iT,List.foldl_nil];have UX:((os.take j).foldl (Eb n ts homes st) gs).length=st.length:=by rw[wO,gl]
   generalize (os.take j).foldl (Eb n ts homes st) gs=g at *;have Nc:=N.keep (fun b o l e=>sc b o e (by rintro rfl;exact nLg l)) (fun o e=>sc _ _ e npg);have NF:=sc _ _ hH nhg;have yn:=sc _ _ hS nsg;obtain⟨dx,fs,i1,i2,i3⟩:=Nc.JU;refine⟨_,rfl,px,dx,fs,rfl,i1,i2,_,rfl,_,rfl,sa,_,_,_,rfl,rfl,bU.of yn,aD (hZ hl),?_⟩;rw[ey];have lg:(jj n ts y (homes.getD l 0)).length<=n:=ba (ij _ _) qL;refine⟨_,rfl,_,rfl,ha,_,_,_,rfl,rfl,bU.of NF,aD (hX (by rw[LO.len];exact hl)),L,px,n,ts,y,homes.getD l 0,rfl,Nc,hy,Lw,fun r1 H1 s1 Jr g1=>?_⟩;refine⟨_,rfl,_,rfl,_,rfl,r1,sa,ga,jj n ts y (homes.getD l 0),st,g,l,rfl,g1,s1 _ _ yn,s1 _ _ yO,UX,LO.le,hl,fun H4 s4=>?_⟩;have SB:=s1.trans s4;refine⟨_,rfl,_,rfl,ga,_,(l:Int),l,rfl,rfl,SB _ _ yO,eG (by rw[aR,UX];exact hl),⟨_,rfl⟩,fun b o e m=>by rw[ao m];exact SB _ _ (sc _ _ e m),?_⟩;rw[ae];unfold Eb;rw[ey,List.map_set];rfl
  .rintro σ Hc ⟨⟨x5,rfl⟩,sc,yO⟩;rw[bj,i9] at yO;have UX:(os.foldl (Eb n ts homes st) gs).length=st.length:=by rw[wO,gl]
   generalize os.foldl (Eb n ts homes st) gs=g0 at *;refine⟨_,rfl,la,rfl,⟨_,a9.of (sc _ _ hL Xz)⟩,fW (K:=K) (xs:=NV os) (fun j σ Hc=>(∃x,σ=[some (.ref px),some (.ref ha),some (.ref sa),some (.ref la),some (.ref ga),x])/\aN ga H Hc/\Hc ga=some (.lst (((os.take j).foldl (Hj n ts st) g0).map oV))) ⟨⟨_,rfl⟩,sc,yO⟩ (fun j σ Hc _ z=>a9.of (z.2.1 _ _ hL Xz)) ?_ ?_⟩
   .clear sc yO;rintro j x σ Hc hx ⟨⟨x5,rfl⟩,sc,yO⟩;obtain⟨l,hv,rfl⟩:=p7 hx;obtain⟨hl,y,ey,hy,Lw⟩:=LO.at (ho l (cS hv));have tk:os.take (j+1)=os.take j++[l]:=by rw[gj,hv];rfl
    rw[tk,List.foldl_append,iT,List.foldl_nil];have XA:((os.take j).foldl (Hj n ts st) g0).length=st.length:=by rw[CS,UX]
    generalize (os.take j).foldl (Hj n ts st) g0=g at *;have Nc:=N.keep (fun b o l e=>sc b o e (by rintro rfl;exact nLg l)) (fun o e=>sc _ _ e npg);have yn:=sc _ _ hS nsg;obtain⟨dx,fs,i1,i2,i3⟩:=Nc.JU;refine⟨_,rfl,_,rfl,ga,_,_,_,rfl,rfl,a9.of yO,aD (hZ (by rw[XA];exact hl)),rfl,_,rfl,?_⟩;unfold Hj;cases eg:g.getD l none with
    |some z=>refine gc rfl ⟨⟨_,rfl⟩,sc,?_⟩;rw[av (fun z=>by cases z)];exact yO
    |none=>
    rw[ak rfl];refine kL rfl ⟨_,rfl,px,dx,fs,rfl,i1,i3,_,rfl,_,rfl,sa,_,_,_,rfl,rfl,bU.of yn,aD (hZ hl),?_⟩;rw[ey];refine⟨L,px,n,ts,y,rfl,Nc,hy,fun r1 H1 s1 Jr g1=>?_⟩;have lo:=qL (n:=n) (ts:=ts) (h:=y);refine⟨_,rfl,_,rfl,_,rfl,r1,sa,ga,bP n ts y,st,g,l,rfl,g1,s1 _ _ yn,s1 _ _ yO,XA,LO.le,hl,fun H4 s4=>?_⟩;have SB:=s1.trans s4;refine⟨_,rfl,_,rfl,ga,_,(l:Int),l,rfl,rfl,SB _ _ yO,eG (by rw[aR,XA];exact hl),⟨_,rfl⟩,fun b o e m=>by rw[ao m];exact SB _ _ (sc _ _ e m),?_⟩;rw[ae,List.map_set];rfl
   .rintro σ Hc ⟨⟨x5,rfl⟩,sc,yO⟩;rw[bj,i9] at yO;exact q Hc sc yO
theorem Bm:aP ["rule","net","homes","stand","beat","letters","goes"] ["rule","net","homes","stand","beat"] (au G0):=⟨rfl,rfl,rfl,by decide +kernel,rfl,by decide +kernel,by decide +kernel⟩
def N0:Sp:=fun vs _ _ _=>vs.length=5/\False
theorem SC:bJ P w K mg base bh k f fd ["net","homes","stand","letters","goes"] N0:=⟨fun _ _ _ _ h=>h.2.elim,fun _ _ _ _ _ _ _ _ _ _ _ _ _ h=>h.2.elim⟩
def Bn(C CE CN CF CT CI CR PN PF PT PR:Addr):Sp:=fun vs H Q _=>∃ (L:Addr->Prop) (a px ha sa:Addr) (bt:Int) (sM n:Nat) (ts:Ts) (homes:List Nat) (st:List (Option Nat)) (ranks:List Int),vs=[.ref a,.ref px,.ref ha,.ref sa,.int bt]/\sM<6/\sM≠4/\Rl CE CN CF CT CI CR ranks H sM a/\dB C H L px n ts/\H ha=some (.tup (NV homes))/\H sa=some (.tup (st.map oV))/\iE n homes st/\0<=bt/\ranks.length=homes.length/\jB PN PF PT PR H/\
 ∀ (t:Addr) (H':Hp) (nK:List Nat),jB PN PF PT PR H'->KQ PN PF PT PR H H'->nK.Perm (qo st st.length)->H' t=some (.tup ((J0 n ts homes st nK).map oV))->Q (.ref t) H'
theorem J6{f C CE CN CF CT CI CR PN PF PT PR:Addr}{fd:FuncData}(F:hV K "hand" "hand" G0 f fd)(B:Bl mg)(R:Sz P w K mg base C CE CN CF CT CI CR PN PF PT PR)(HT:dH P w K mg base bh 1 "hand_in_turn" ["net","homes","stand","letters","goes"] N0)(HE:dH P w K mg base bh 7 "hand_eagerly" ["net","homes","stand","letters","goes"] (NZ C)):
  bJ P w K mg base bh 10 f fd ["rule","net","homes","stand","beat"] (Bn C CE CN CF CT CI CR PN PF PT PR):=by
 obtain⟨f1,d1,m1,b1,G1⟩:=R.oE.ex;obtain⟨f2,d2,m2,b2,G2⟩:=R.oN.ex;obtain⟨f3,d3,m3,b3,G3⟩:=R.oF.ex;obtain⟨f4,d4,m4,b4,G4⟩:=R.oT.ex;obtain⟨f5,d5,m5,b5,G5⟩:=R.oI.ex;obtain⟨f6,d6,m6,b6,G6⟩:=R.oR.ex;refine F.ok Bm (fun vs H Q E h=>?_) (fun eV A outer s H vs Q E hr h=>?_)
 .obtain⟨L,a,px,ha,sa,bt,sM,n,ts,homes,st,ranks,rfl,_⟩:=h;rfl
 .obtain⟨L,a,px,ha,sa,bt,sM,n,ts,homes,st,ranks,rfl,w6,w4,hR,N,hH,hS,LO,b0,UY,tb,q⟩:=h;have h1:cy 1 _:=hr.mono (by decide);have h2:cy 2 _:=hr.mono (by decide);have h7:cy 7 _:=hr.mono (by decide);refine'⟨_,(aj (aV (i:=5) Bm.nd rfl (Or.inl rfl) (yx (dX (pv 0) R.e.cl m1 G1 h2 b1 .nil aO (aa (pv 1) (aa (pv 2) (aa (pv 3) (aa (pv 4) ag))))) (yx (dX (pv 0) R.n.cl m2 G2 hr b2 .nil aO (aa (pv 1) (aa (pv 2) (aa (pv 3) (aa (pv 4) ag))))) (yx (dX (pv 0) R.f.cl m3 G3 hr b3 .nil aO (aa (pv 1) (aa (pv 2) (aa (pv 3) (aa (pv 4) ag))))) (yx (dX (pv 0) R.t.cl m4 G4 hr b4 .nil aO (aa (pv 1) (aa (pv 2) (aa (pv 3) (aa (pv 4) ag))))) (yx (dX (pv 0) R.i.cl m5 G5 h2 b5 .nil aO (aa (pv 1) (aa (pv 2) (aa (pv 3) (aa (pv 4) ag))))) (dX (pv 0) R.r.cl m6 G6 hr b6 .nil aO (aa (pv 1) (aa (pv 2) (aa (pv 3) (aa (pv 4) ag)))))))))))
   (aj (dY (i:=6) (g:=(bD 0)) (te:=(tC .cE)) (NB:=["home"]) (src:=[none]) (bq (by kernel_rfl)) rfl (EU (pv 2)) ?g1 ?t1 ?e1 Bm.nd rfl rfl rfl)
   (aj (cC (gZ (aI Dm (by rfl) B.Lc pK (aa (pv 0) (aa (qx (v:=.ref CI) rfl R.i.Je rfl) ag)))) (ap (cq (aJ HT h1 aO (aa (pv 1) (aa (pv 2) (aa (pv 3) (aa (pv 5) (aa (pv 6) ag)))))))) (ap (cq (aJ HE h7 aO (aa (pv 1) (aa (pv 2) (aa (pv 3) (aa (pv 5) (aa (pv 6) ag)))))))))
   (ap (be (cA fm (by rfl) B.tup pM (aa (pv 6) ag))))))),?_⟩
  case g1=>exact fun cl C s₃ H₃ fp=>(az (i:=0) JR rfl (Or.inl rfl) (Or.inr rfl))
  case t1=>exact fun cl C s₃ H₃ fp=>c_
  case e1=>exact fun cl C s₃ H₃ fp=>eC
  refine Sy (CE:=CE) (CN:=CN) (CF:=CF) (CT:=CT) (CI:=CI) (CR:=CR) (L:=L) R.nd tb N hH hS LO b0 UY w6 hR fun la H1 nK t1 k1 la0 op tS=>?_;have kn:=k1.kn tb;have XB:=kn _ _ hH (fun ps z=>by cases z);have ins:∃dx fs,H px=some (.ins C dx fs):=let ⟨dx,fs,a,_⟩:=N.JU;⟨dx,fs,a⟩;have N1:dB C H1 (fun b=>H1 b≠none) px n ts:=by
   obtain⟨dx,fs,a⟩:=ins;exact(N.US.keep (fun b o l e=>by obtain⟨_,o',e',n⟩:=l;rw[e] at e';cases e';exact kn b o e n) fun o e=>kn _ _ e (by rw[a] at e;cases e;exact fun ps z=>by cases z)).own
  refine⟨_,rfl,ha,rfl,⟨_,bU.of XB⟩,fun ga hg=>?_⟩;refine yj (K:=K) (a:=ha) (xs:=NV homes) (fun i ys σ H2=>(∃x,σ=[x])/\aL H1 H2/\H2 ga=some (.lst ys)/\ys=List.replicate i V.cE) ⟨⟨_,rfl⟩,ai hg,ae,rfl⟩ (fun i ys σ H2 _ z=>bU.of (z.2.1 _ _ XB)) ?_ ?_
  .rintro i x ys σ H2 Kt Kf hx ⟨⟨x',rfl⟩,sm,HN,rfl⟩ kt kf;have hi:i<homes.length:=by have:=(dN.mp hx).1;rwa [bj] at this
   have:=LO.len;have:=LO.le;exact kt _ _ _ HN (by rw[jQ];exact br (show i<17 by lia) (by decide)) ⟨⟨_,rfl⟩,bv sm hg,ae,by rw[uX]⟩
  rintro ys σ H2 ⟨_,sm,HN,rfl⟩;rw[bj,LO.len,show V.cE=oV none from rfl,<-List.map_replicate] at HN;have tR:=(hR.kn kn).kn (fun b o e _=>sm b o e);obtain⟨tt,kt,ty⟩:=R.ty w6 tR;rw[fL w4] at kt;have Ew:=sm _ _ (kn _ _ hS (fun ps z=>by cases z));refine⟨_,rfl,.ref a,CI,tt,false,rfl,kt,ty,_,rfl,?_⟩;refine gO ⟨_,rfl,_,rfl,_,rfl,_,rfl,_,rfl,fun b=>H1 b≠none,px,ha,sa,la,ga,n,ts,homes,nK,st,_,rfl,N1.same sm,fun z=>z hg,sm _ _ XB,Ew,LO,fun l hl=>op.mem_iff.mp hl,sm _ _ tS,am tS hg,HN,by rw[jQ],fun H3 s3 hg3=>?_⟩;refine⟨_,rfl,ga,_,rfl,.inl ⟨a9.of hg3,fun t ht=>?_⟩⟩;have k3:∀b o,H1 b=some o->(upd H3 t (.tup ((J0 n ts homes st nK).map oV))) b=some o:=fun b o e=>ai ht _ _ (s3 _ _ (sm _ _ e) (am e hg));exact q t _ nK (t1.same k3) (fun b o e n1 n2 n3 n4=>k3 _ _ (k1 b o e n1 n2 n3 n4)) op ae
end
end p6
namespace L2
open PySem PySem.Spec PyProof.Rows
theorem J7{K:PySem.W.Frag}{a b:Addr}{xs ys:List V}{g:TG}{tb:TS}{D:wZ}{σ:St}{H:Hp}(Aw:xs.length=ys.length)(Pv:Nat->St->Hp->Prop)(h0:Pv 0 σ H)(hl:∀i σ H,i<=xs.length->Pv i σ H->bU K H a xs/\bU K H b ys)(hs:∀i x y p σ H,xs[i]?=some x->ys[i]?=some y->Pv i σ H->H p=none->g (.ref p) σ (upd H p (.tup [x,y])) fun σ2 H2=>tb { D with nx:=Pv (i+1),ct:=Pv (i+1),bk:=D.nx } σ2 H2)(hd:∀σ H,Pv xs.length σ H->D.nx σ H):
  ∃W:Nat->Nat->St->Hp->Prop,(∃m,W 0 m σ H)/\∀i m σ H,W i m σ H->
   ((O_ K a b).stop i H/\D.nx σ H)\/((O_ K a b).go i H/\∃N:St->Hp->Prop,(∀σ' H',N σ' H'->∃m',m'<m/\W (i+1) m' σ' H')/\∀x H',(O_ K a b).LV i H x H'->g x σ H' fun σ2 H2=>tb { D with nx:=N,ct:=N,bk:=D.nx } σ2 H2):=by
 refine⟨fun i m σ H=>m=xs.length-i/\i<=xs.length/\Pv i σ H,⟨xs.length,by simp,cx _,h0⟩,?_⟩;rintro i m σ H ⟨rfl,hi,p⟩;obtain⟨q1,q2⟩:=hl i σ H hi p;by_cases d9:i<xs.length
 .have Az:i<ys.length:=by lia
  refine .inr ⟨⟨xs,ys,xs[i],ys[i],q1,q2,by simp[d9],by simp[Az]⟩,Pv (i+1),fun σ' H' p'=>⟨xs.length-(i+1),by lia,rfl,d9,p'⟩,?_⟩;rintro v H' ⟨pp,x,y,rfl,hn,rfl,My,Wg⟩;exact hs i x y pp σ _ (My xs q1) (Wg ys q2) p hn
 .have e:i=xs.length:=by lia
  subst e;exact .inl ⟨⟨xs,q1,aU _⟩,hd σ H p⟩
end L2
namespace p6
open PySem L2 je
abbrev XC:Stmt:=top 54
abbrev XD:Stmt:=top 55
theorem Bo{n:Nat}{ts:Ts}{a b:Nat}(h:b<n):(NV ((List.range n).map (far ts a)))[b]?=some (.int ((far ts a b:Nat):Int)):=by
 unfold NV;rw[bZ,bZ,fc h];rfl
theorem J8{homes:List Nat}{fs:List (Option Nat)}{i:Nat}(h:i<fs.length):((CM homes fs).map oV)[i]?=some (if fs.getD i none=some (homes.getD i 0) then V.cE else oV (fs.getD i none)):=by
 unfold CM;rw[bZ,bZ,fc h];show some (oV (if _ then none else _))=_;split <;> rfl
noncomputable def HW(ts:Ts)(homes:List Nat)(st fs:List (Option Nat))(i:Nat):Bool:=match st.getD i none with
 |none=>false
 |some h=>decide (far ts ((fs.getD i none).getD 0) (homes.getD i 0)<far ts h (homes.getD i 0))
noncomputable def Ex(ts:Ts)(homes:List Nat)(st fs:List (Option Nat))(i:Nat):List Nat:=(List.range i).filter (HW ts homes st fs)
theorem yy{ts:Ts}{homes:List Nat}{st fs:List (Option Nat)}{i:Nat}:Ex ts homes st fs (i+1)=Ex ts homes st fs i++if HW ts homes st fs i=true then [i] else []:=by
 unfold Ex;rw[ja,gh,dO];rfl
theorem CU{ts:Ts}{homes:List Nat}{st fs:List (Option Nat)}{i:Nat}:(Ex ts homes st fs i).length<=i:=ba (ij _ _) (by rw[cu];exact aU _)
theorem CV{xs:List Nat}:(NV xs).all fE=true:=by unfold NV;rw[List.all_map];exact lz.mpr fun x _=>rfl
theorem Hm{x:Nat}:∀ {xs:List Nat},yI (.int (x:Int)) (NV xs)=decide (x∈xs)
 |[]=>rfl
 |y::ys=>by
  have ih:=Hm (x:=x) (xs:=ys);unfold yI NV at *;rw[fh,jm,ih];by_cases e:y=x
  .subst e;simp[sQ]
  .have e':¬ x=y:=fun z=>e z.symm;have e2:¬ (y:Int)=(x:Int):=fun z=>e (cK z);have e3:¬ (x:Int)=(y:Int):=fun z=>e' (cK z);simp[sQ,e',e2,e3]
theorem iE.get{n:Nat}{homes:List Nat}{st:List (Option Nat)}{i y:Nat}(S:iE n homes st)(h:st.getD i none=some y):i<st.length/\y<n/\homes.getD i 0<n:=by
 obtain⟨a,y',b,c,d⟩:=S.at (Hk h);rw[h] at b;cases b;exact⟨a,c,d⟩
section
variable {P:Program} {w:World} {K:PySem.W.Frag} {mg:Str->Option Value} {base:Heap}
theorem J9:aP ["_law_outs_here","_law_stand","_law_told","_law_gone","_law_house","_law_other"] ["_law_outs_here","_law_stand","_law_told"] (au XC):=⟨rfl,rfl,rfl,by decide +kernel,rfl,by decide +kernel,by decide +kernel⟩
def N4:Sp:=fun vs H Q _=>∃ (L:Addr->Prop) (oa sa ta:Addr) (n:Nat) (ts:Ts) (homes:List Nat) (st fs:List (Option Nat)),vs=[.ref oa,.ref sa,.ref ta]/\bX H L oa n (bP n ts)/\H sa=some (.tup (st.map oV))/\H ta=some (.tup (fs.map oV))/\iE n homes st/\Hd n ts st fs/\n<=32/\∀H',aL H H'->Q (.bl true) H'
theorem SE{f:Addr}{fd:FuncData}(F:hV K "_law_is_right" "_law_is_right" XC f fd)(B:Bl mg)(B2:M_ mg):bJ P w K mg base bh 1 f fd ["_law_outs_here","_law_stand","_law_told"] N4:=by
 refine F.ok J9 (fun vs H Q E h=>?_) (fun eV A outer s H vs Q E hr h=>?_)
 .obtain⟨L,oa,sa,ta,n,ts,homes,st,fs,rfl,_⟩:=h;rfl
 .obtain⟨L,oa,sa,ta,n,ts,homes,st,fs,rfl,RO,hS,hT,LO,hd,n2,q⟩:=h;refine⟨_,(aj (cC (PW.pt (pN (jr (gZ (aI iw (by rfl) B.Lc pK (aa (pv 2) (aa (jq (v:=.ty "tuple") rfl B.tup pM rfl) ag))))) (lY (aM t_ (aI aQ (by rfl) B.len dU (aa (pv 2) ag)) (aI aQ (by rfl) B.len dU (aa (pv 1) ag)) (a_ _))))) (ap (be mB)) bp)
   (aj (aV (i:=3) J9.nd rfl (Or.inl rfl) (cY ag))
   (aj (cQ dP rfl (B7 rfl B2.zip (aa (pv 1) (aa (pv 2) ag))) (dC (n:=2) rfl (aG (az (i:=4) J9.nd rfl (Or.inl rfl)) (aG (az (i:=5) J9.nd rfl (Or.inl rfl)) cr)))
    (aj (cC (PW.pt (pN (PW.pt (ku (aM vI (pv 4) eC (a_ _)) (iN (aM ju (pv 5) eC (a_ _))))) (lY (PW.pt (ku (aM ju (pv 4) eC (a_ _)) (iN (aM jw (pv 5) (aX aK (pv 0) (pv 4) (fun _ _=>rfl)) rfl))))))) (ap (be mB)) bp)
    (aj (cC (PW.pt (ku (aM ju (pv 4) eC (a_ _)) (iN (PW.pt (pN (gZ (aI iw (by rfl) B.Lc pK (aa (pv 5) (aa (jq (v:=.ty "bool") rfl B.bool PyProof.Rows.boot_bool rfl) ag)))) (lY (aM (Mz hr.u) (cH (aa (pv 4) (aa (pv 5) ag))) (pv 3) rfl))))))) (ap (be mB)) bp)
    (ap (cC (aM ju (pv 4) eC (a_ _)) (ap (cq (gK gI jE jD du (pv 3) (aa (cH (aa (pv 4) (aa (pv 5) ag))) ag)))) bp)))))
   (ap (be mB))))),?_⟩
  have fl:=hd.len;have le:=LO.le;refine⟨_,rfl,_,_,_,.type "tuple",true,rfl,⟨rfl,we⟩,.of (.tup hT),true,rfl,gO ⟨_,rfl,ta,_,rfl,.inr (bU.of hT),_,rfl,sa,_,rfl,.inr (bU.of hS),rfl,_,rfl,?_⟩⟩;rw[aR,aR,fl];refine gc (by simp) ⟨by show 0<=sizeLine;decide,fun G hG=>?_⟩;have sG:=ai (o:=.lst []) hG;refine⟨_,rfl,_,rfl,sa,ta,_,_,rfl,bU.of (sG _ _ hS),bU.of (sG _ _ hT),by rw[aR,aR,fl],?_⟩;refine J7 (K:=K) (xs:=st.map oV) (ys:=fs.map oV) (by rw[aR,aR,fl]) (fun i σ Hc=>(∃u v,σ=[some (.ref oa),some (.ref sa),some (.ref ta),some (.ref G),u,v])/\aL H Hc/\∃zs:Zs,Hc G=some (.lst (zr zs))/\PO Hc zs/\zs.length<=i/\∀u∈zp zs,∃j y x:Nat,j<i/\st.getD j none=some y/\fs.getD j none=some x/\u=(ci y,ci x)) ⟨⟨_,_,rfl⟩,sG,[],ae,PO.nil,aU _,fun u hu=>(nomatch hu)⟩ (fun i σ Hc _ z=>⟨bU.of (z.2.1 _ _ hS),bU.of (z.2.1 _ _ hT)⟩) ?_ (fun σ Hc ⟨⟨u,v,e⟩,sc,_⟩=>q Hc sc);rintro i x y pp σ Hc hx hy ⟨⟨u,v,rfl⟩,sc,zs,yO,po,zl,zi⟩ N6;have hi:i<st.length:=by have:=(dN.mp hx).1;rwa [aR] at this
  rw[hZ hi] at hx;rw[hZ (by rw[fl];exact hi)] at hy;obtain rfl:=bN hx;obtain rfl:=bN hy;have sp:=ai (o:=.tup [oV (st.getD i none),oV (fs.getD i none)]) N6;refine⟨pp,_,rfl,bU.of ae,rfl,_,_,rfl,_,_,rfl,rfl,?_⟩;have s2:=sc.trans sp;have XE:=sp _ _ yO;have yl:=po.same sp;generalize upd Hc pp _=H2 at *;have zi':∀u∈zp zs,∃j y x:Nat,j<i+1/\st.getD j none=some y/\fs.getD j none=some x/\u=(ci y,ci x):=fun u hu=>let ⟨j,y,x,a,b⟩:=zi u hu;⟨j,y,x,by lia,b⟩;cases ho:st.getD i none with
  |none=>
   rw[hd.cE i ho];exact⟨_,rfl,rfl,_,rfl,kL rfl ⟨_,rfl,rfl,_,rfl,gc rfl ⟨_,rfl,rfl,_,rfl,gc rfl (gc rfl ⟨_,rfl,rfl,_,rfl,gc rfl (gc rfl ⟨_,rfl,rfl,_,rfl,gc rfl ⟨⟨_,_,rfl⟩,s2,zs,XE,yl,by lia,zi'⟩⟩)⟩)⟩⟩⟩
  |some h=>
   obtain⟨y,ey,hy⟩:=hd.out i h ho;rw[ey];obtain⟨_,hn,_⟩:=LO.get ho;obtain⟨bs,b,r1,r2,r3,_⟩:=RO.row hn;refine⟨_,rfl,rfl,_,rfl,gc rfl ⟨_,rfl,rfl,_,rfl,kL rfl ⟨_,rfl,_,rfl,_,rfl,oa,_,_,_,rfl,rfl,a9.of (s2 _ _ r1),aD r2,b,_,rfl,.inl (a9.of (s2 _ _ r3)),rfl,CV,_,rfl,gc (by show (if true=true then !yI _ _ else _)=false;rw[ak rfl];show (!yI (V.int (y:Int)) (NV (bP n ts h)))=false;rw[Hm,fP hy];rfl) ?_⟩⟩⟩;refine⟨_,rfl,rfl,_,rfl,kL rfl ⟨_,rfl,_,_,_,.type "int",false,rfl,⟨rfl,mZ⟩,.of (.int _),false,rfl,gO ⟨_,rfl,_,rfl,by show 2<=sizeLine;decide,fun t ht=>?_⟩⟩⟩;have aZ:=ai (o:=.tup [oV (some h),oV (some y)]) ht;obtain⟨l1,l2⟩:=yk (K:=K) (yl.same aZ);refine⟨_,rfl,t,G,(ci h,ci y),List.map (fun z:Addr×Int×Int=>z.1) zs,zp zs,rfl,rfl,bU.of ae,?_,?_,l2,_,rfl,?_⟩
   .rw[<-iQ];exact a9.of (aZ _ _ XE)
   .rw[aR];exact l1
   rw[av cG];have Xf:(ci h,ci y)∉zp zs:=fun z=>by
    obtain⟨j,h',y',a,b,c,e⟩:=zi _ z;have e1:h=h':=cK (congrArg Prod.fst e);have e2:y=y':=cK (congrArg Prod.snd e);subst e1;subst e2;exact hd.inj j i y (by lia) c ey (by rw[b,ho])
   rw[fL Xf];have s3:=s2.trans aZ;have XF:=aZ _ _ XE;have Js:=yl.same aZ;refine gO (⟨_,rfl,rfl,_,rfl,kL rfl ⟨_,rfl,.inl ⟨rfl,_,a9.of XF⟩,_,rfl,_,rfl,by show 2<=sizeLine;decide,fun t2 WU=>?_⟩⟩);have s4:=ai (o:=ng (ci h,ci y)) WU;refine⟨G,_,_,rfl,rfl,s4 _ _ XF,by rw[dD];exact eD zl (br (show i<16 by lia) (by decide)),⟨_,_,rfl⟩,bv (s3.trans s4) hG,zs++[(t2,(ci h,ci y))],by rw[ae,et];rfl,PO.putL (xs:=zr zs) ((Js.same s4).append (PO.one ae)) (s4 _ _ XF),by rw[df];exact zC zl,fun u hu=>?_⟩;rw[eA] at hu;rcases cw.mp hu with z|z
   .exact zi' u z
   .exact⟨i,h,y,by lia,ho,ey,cU.mp z⟩
theorem Hn:aP ["_law_far_here","_law_homes","_law_stand","_law_told","_law_found","_law_k","_law_house","_law_home"] ["_law_far_here","_law_homes","_law_stand","_law_told"] (au XD):=⟨rfl,rfl,rfl,by decide +kernel,rfl,by decide +kernel,by decide +kernel⟩
def N7:Sp:=fun vs H Q _=>∃ (L:Addr->Prop) (fr:Addr) (n:Nat) (ts:Ts) (ha:Addr) (homes:List Nat) (sa:Addr) (st:List (Option Nat)) (fa:Addr) (fs:List (Option Nat)),vs=[.ref fr,.ref ha,.ref sa,.ref fa]/\bX H L fr n (fun h=>(List.range n).map (far ts h))/\H ha=some (.tup (NV homes))/\H sa=some (.tup (st.map oV))/\H fa=some (.tup (fs.map oV))/\iE n homes st/\Hd n ts st fs/\b8 n ts/\∀r H',aL H H'->H r=none->H' r=some (.lst (NV (Ex ts homes st fs st.length)))->Q (.ref r) H'
theorem SF{f:Addr}{fd:FuncData}(F:hV K "_law_nearer" "_law_nearer" XD f fd)(hE:mg "enumerate"=none):bJ P w K mg base bh 1 f fd ["_law_far_here","_law_homes","_law_stand","_law_told"] N7:=by
 refine F.ok Hn (fun vs H Q E h=>?_) (fun eV A outer s H vs Q E hr h=>?_)
 .obtain⟨L,fr,n,ts,ha,homes,sa,st,fa,fs,rfl,_⟩:=h;rfl
 .obtain⟨L,fr,n,ts,ha,homes,sa,st,fa,fs,rfl,R,Pp,UQ,JW,LO,hd,fi,q⟩:=h;refine⟨_,(aj (aV (i:=4) Hn.nd rfl (Or.inl rfl) (cY ag))
   (aj (cQ dP rfl (rP rfl hE (aa (pv 2) ag)) (dC (n:=2) rfl (aG (az (i:=5) Hn.nd rfl (Or.inl rfl)) (aG (az (i:=6) Hn.nd rfl (Or.inl rfl)) cr)))
    (aj (aV (i:=7) Hn.nd rfl (Or.inl rfl) (aX eM (pv 1) (pv 5) (fun _ _=>rfl)))
    (ap (cC (PW.pt (ku (aM ju (pv 6) eC (a_ _)) (iN (aM kC (aX aK (aX aK (pv 0) (aX eM (pv 3) (pv 5) (fun _ _=>rfl)) (fun _ _=>rfl)) (pv 7) (fun _ _=>rfl)) (aX aK (aX aK (pv 0) (pv 6) (fun _ _=>rfl)) (pv 7) (fun _ _=>rfl)) (a_ _))))) (ap (cq (gK gI jE jD du (pv 4) (aa (pv 5) ag)))) bp))))
   (ap (be (pv 4))))),?_⟩
  have l1:=LO.len;have l2:=hd.len;have l3:=LO.le;obtain⟨bs,b1,b2,b3⟩:=R;refine⟨by show 0<=sizeLine;decide,fun Fo XG=>?_⟩;have sF:=ai (o:=.lst []) XG;refine⟨_,rfl,sa,_,rfl,bU.of (sF _ _ UQ),?_⟩;refine uv (K:=K) (xs:=st.map oV) (fun i σ Hc=>(∃u v x,σ=[some (.ref fr),some (.ref ha),some (.ref sa),some (.ref fa),some (.ref Fo),u,v,x])/\aL H Hc/\Hc Fo=some (.lst (NV (Ex ts homes st fs i)))) ⟨⟨_,_,_,rfl⟩,sF,ae⟩ (fun i σ Hc _ z=>bU.of (z.2.1 _ _ UQ)) ?_ ?_
  .rintro i x pp σ Hc hx ⟨⟨u,v,x7,rfl⟩,sc,JM⟩ N6;have hi:i<st.length:=by have:=(dN.mp hx).1;rwa [aR] at this
   rw[hZ hi] at hx;obtain rfl:=bN hx;have sp:=ai (o:=.tup [.int (i:Int),oV (st.getD i none)]) N6;refine⟨pp,_,rfl,bU.of ae,rfl,_,_,rfl,_,_,rfl,rfl,?_⟩;have s2:=sc.trans sp;have Pm:=sp _ _ JM;generalize upd Hc pp _=H2 at *;refine⟨_,rfl,_,rfl,ha,_,_,_,rfl,rfl,bU.of (s2 _ _ Pp),aD (hX (xs:=homes) (j:=i) (by lia)),?_⟩;have ll:=CU (ts:=ts) (homes:=homes) (st:=st) (fs:=fs) (i:=i);have nxt:HW ts homes st fs i=false->H2 Fo=some (.lst (NV (Ex ts homes st fs (i+1)))):=fun hb=>by rw[yy,hb,av (by decide),j5];exact Pm
   cases ho:st.getD i none with
   |none=>exact⟨_,rfl,rfl,_,rfl,gc rfl (gc rfl ⟨⟨_,_,_,rfl⟩,s2,nxt (by unfold HW;rw[ho])⟩)⟩
   |some h=>
    obtain⟨_,hn,hm⟩:=LO.get ho;obtain⟨y,ey,hyo⟩:=hd.out i h ho;have hy:=k_ fi hn hyo;have of_:(fs.map oV)[i]?=some (.int (y:Int)):=by rw[hZ (by lia),ey];rfl
    have gb:∀k,k<n->(bs.map V.ref)[k]?=some (.ref (bs.getD k 0)):=fun k hk=>CC (by rw[b3.1];exact hk);refine⟨_,rfl,rfl,_,rfl,kL rfl ⟨_,rfl,_,rfl,_,rfl,fa,_,_,_,rfl,rfl,bU.of (s2 _ _ JW),aD of_,fr,_,_,_,rfl,rfl,a9.of (s2 _ _ b1),aD (gb y hy),_,rfl,_,_,_,_,rfl,rfl,a9.of (s2 _ _ (b3.2 y hy)),aD (Bo hm),?_⟩⟩;refine⟨_,rfl,_,rfl,fr,_,_,_,rfl,rfl,a9.of (s2 _ _ b1),aD (gb h hn),_,rfl,_,_,_,_,rfl,rfl,a9.of (s2 _ _ (b3.2 h hn)),aD (Bo hm),_,_,rfl,rfl,_,rfl,?_⟩;have eb:HW ts homes st fs i=decide (((far ts y (homes.getD i 0):Nat):Int)<((far ts h (homes.getD i 0):Nat):Int)):=by
     unfold HW;rw[ho,ey];exact oo.mpr (by rw[oq];lia)
    rw[<-eb];cases hk:HW ts homes st fs i with
    |false=>exact gO ⟨⟨_,_,_,rfl⟩,s2,nxt hk⟩
    |true=>
     refine vR ⟨_,rfl,.inl ⟨rfl,_,a9.of Pm⟩,_,rfl,Fo,_,_,rfl,rfl,Pm,by rw[bj];exact br (show _<33 by lia) (by decide),?_⟩;exact⟨⟨_,_,_,rfl⟩,bv s2 XG,by rw[ae,yy,hk,ak rfl];unfold NV;rw[di];rfl⟩
  .rintro σ Hc ⟨⟨u,v,x7,rfl⟩,sc,JM⟩;rw[aR] at JM;exact⟨_,rfl,q Fo Hc sc XG JM⟩
end
abbrev UZ:Stmt:=top 56
abbrev XH:Stmt:=top 57
theorem qp:(["_law_k","_law_stand","_law_told"]:List Str).Nodup:=by decide +kernel
theorem g9:(["_law_other","_law_far_here","_law_home","_law_house"]:List Str).Nodup:=by decide +kernel
theorem nF:(["_law_other","_law_house","_law_by"]:List Str).Nodup:=by decide +kernel
theorem lE:(["_law_house","_law_home"]:List Str).Nodup:=by decide +kernel
theorem Ho{K:PySem.W.Frag}{a D:Addr}{g:TG}{tt:TT}{te:TE}{d7:Hp->Prop}{σB:St}{H0:Hp}(ms:List Nat)(F:Nat->Int×Int)(bW:St->Prop)(ha:H0 a=some (.lst (NV ms)))(hD:H0 D=none)(hn:ms.length<=1000)(h0:bW σB)(hs:∀m σ H (R:V->St->Hp->Prop) (Kf:St->Hp->Prop),m∈ms->bW σ->aL H0 H->(∀σ2 p,bW σ2->H p=none->R (.ref p) σ2 (upd H p (ng (F m))))->g (.int (m:Nat)) σ H fun σ2 H2=>tt σ2 H2 fun b H3=>if b=true then te σ2 H3 fun v H4=>R v σ2 H4 else Kf σ2 H3)(hd:∀zs H,aL H0 H->H D=some (.lst (zr zs))->PO H zs->zp zs=ms.map F->d7 H):gu (Ej K a) g tt te D d7 σB (upd H0 D (.lst [])):=by
 refine d_ (xs:=NV ms) (fun i ys σ H=>bW σ/\aL H0 H/\H D=some (.lst ys)/\∃zs:Zs,ys=zr zs/\PO H zs/\zp zs=(ms.take i).map F) ⟨h0,ai hD,ae,[],rfl,PO.nil,rfl⟩ (fun i ys σ H _ z=>a9.of (z.2.1 _ _ ha)) ?_ ?_
 .rintro i x ys σ H Kt Kf hx ⟨sh,sm,iz,zs,rfl,po,ep⟩ kt kf;obtain⟨m,hm,rfl⟩:=p7 hx;have hi:i<ms.length:=(dN.mp hm).1;have hl:zs.length=i:=by rw[<-bQ,ep,aR,jY];lia
  refine hs m σ H Kt Kf (cS hm) sh sm (fun σ2 p tP hp=>?_);have nD:D≠p:=am iz hp;refine kt _ _ _ (by rw[ao nD];exact iz) (by rw[dD,hl];exact br (show i<1000 by lia) (by decide)) ⟨tP,bv (sm.trans (ai hp)) hD,ae,zs++[(p,F m)],?_,?_,?_⟩
  .rw[et];rfl
  .refine PO.putL (xs:=zr zs) ?_ (by rw[ao nD];exact iz);exact(po.putN hp).append (PO.one ae)
  .rw[eA,ep,gj,hm,va,di];rfl
 .rintro ys σ H ⟨_,sm,iz,zs,rfl,po,ep⟩;rw[bj,i9] at ep;exact hd zs H sm iz po ep
section
variable {P:Program} {w:World} {K:PySem.W.Frag} {mg:Str->Option Value} {base:Heap}
theorem qq:aP ["_law_case_here","_law_stand","_law_told","_law_net_here","_law_outs_here","_law_far_here","_law_homes","_law_begun","_law_nearer_here","_law_by","_law_k","_law_house","_law_home","_law_good"] ["_law_case_here","_law_stand","_law_told"] (au UZ):=⟨rfl,rfl,rfl,by decide +kernel,rfl,by decide +kernel,by decide +kernel⟩
def N8:Sp:=fun vs H Q _=>∃ (L L':Addr->Prop) (t sa ta px oa fa ha bg:Addr) (n:Nat) (ts:Ts) (homes:List Nat) (st fs:List (Option Nat)),vs=[.ref t,.ref sa,.ref ta]/\H t=some (.tup [.ref px,.ref oa,.ref fa,.ref ha,.ref bg])/\bX H L oa n (bP n ts)/\bX H L' fa n (fun h=>(List.range n).map (far ts h))/\H ha=some (.tup (NV homes))/\H sa=some (.tup (st.map oV))/\H ta=some (.tup (fs.map oV))/\iE n homes st/\Eag n ts homes st fs/\b8 n ts/\∀H',aL H H'->Q (.bl true) H'
theorem SG{f:Addr}{fd:FuncData}(F:hV K "_law_is_eager" "_law_is_eager" UZ f fd)(hE:mg "enumerate"=none)(NE:dH P w K mg base bh 1 "_law_nearer" ["_law_far_here","_law_homes","_law_stand","_law_told"] N7):bJ P w K mg base bh 2 f fd ["_law_case_here","_law_stand","_law_told"] N8:=by
 refine F.ok qq (fun vs H Q E h=>?_) (fun eV A outer s H vs Q E hr h=>?_)
 .obtain⟨L,L',t,sa,ta,px,oa,fa,ha,bg,n,ts,homes,st,fs,rfl,_⟩:=h;rfl
 .obtain⟨L,L',t,sa,ta,px,oa,fa,ha,bg,n,ts,homes,st,fs,rfl,tu,RO,RF,hH,hS,hT,LO,ea,fi,q⟩:=h;have h1:cy 1 _:=hr.mono (by decide);have n2:=fi.n2;have fl:=ea.hd.len;have le:=LO.le;have ll:=LO.len;have hu:(A.deeper (PyProof.Rows.envOfC "_law_is_eager" (au UZ) s.heap.objs.size f eV)).units+(0+1)<cLine:=by have:=hr.un;lia
  refine'⟨_,(aj (dL (pv 0) (dC (n:=5) rfl (aG (az (i:=3) qq.nd rfl (Or.inl rfl)) (aG (az (i:=4) qq.nd rfl (Or.inl rfl)) (aG (az (i:=5) qq.nd rfl (Or.inr rfl)) (aG (az (i:=6) qq.nd rfl (Or.inl rfl)) (aG (az (i:=7) qq.nd rfl (Or.inl rfl)) cr)))))))
   (aj (aV (i:=8) qq.nd rfl (Or.inl rfl) (aJ NE h1 aO (aa (pv 5) (aa (pv 6) (aa (pv 1) (aa (pv 2) ag))))))
   (aj (aV (i:=9) qq.nd rfl (Or.inr rfl) ?c1)
   (aj (cQ dP rfl (rP rfl hE (aa (pv 1) ag)) (dC (n:=2) rfl (aG (az (i:=10) qq.nd rfl (Or.inl rfl)) (aG (az (i:=11) qq.nd rfl (Or.inr rfl)) cr)))
    (ap (cC (PW.pt (ku (aM ju (pv 11) eC (a_ _)) (iN (aM jw (pv 10) (pv 8) rfl)))) (aj (aV (i:=12) qq.nd rfl (Or.inr rfl) (aX eM (pv 6) (pv 10) (fun _ _=>rfl)))
     (aj (dY (i:=13) (g:=(bD 0)) (tt:=(mE (iI (xf fun i j=>.bl (decide (i<j))) (iI (qc K) (iI (qc K) (aY 1) (aY 0)) (aY 2)) (iI (qc K) (iI (qc K) (aY 1) (aY 3)) (aY 2))))) (te:=(aY 0)) (NB:=["_law_other","_law_far_here","_law_home","_law_house"]) (src:=[none,some 5,some 12,some 11]) (bq (by kernel_rfl)) rfl (bV (aX aK (pv 4) (pv 11) (fun _ _=>rfl))) ?g2 ?t2 ?e2 qq.nd rfl rfl rfl)
     (ap (cC (aM (Ju (d:=0) hu) ?c3 (cY ag) (a_ _)) (ap (be mB)) bp)))) bp)))
   (ap (be mB)))))),?_⟩
  case c1=>
   refine' cD (g:=(bD 0)) (te:=(o4 (bz (iI (tj K) (aY 1) (aY 0)) (bz (iI (tj K) (aY 2) (aY 0)) gg)))) (NB:=["_law_k","_law_stand","_law_told"]) (src:=[none,some 1,some 2]) (bq (by kernel_rfl)) rfl (bV (pv 8)) ?g ?t ?e;case g=>exact fun cl C s₃ H₃ fp=>(az (i:=0) qp rfl (Or.inl rfl) (Or.inr rfl))
   case t=>exact fun cl C s₃ H₃ fp=>c_
   case e=>exact fun cl C s₃ H₃ fp=>(cH (aa (aX eM (pv 1) (pv 0) (fun _ _=>rfl)) (aa (aX eM (pv 2) (pv 0) (fun _ _=>rfl)) ag)))
  case g2=>exact fun cl C s₃ H₃ fp=>(az (i:=0) g9 rfl (Or.inl rfl) (Or.inr rfl))
  case t2=>exact fun cl C s₃ H₃ fp=>fY (aM kC (aX aK (aX aK (pv 1) (pv 0) (fun _ _=>rfl)) (pv 2) (fun _ _=>rfl)) (aX aK (aX aK (pv 1) (pv 3) (fun _ _=>rfl)) (pv 2) (fun _ _=>rfl)) (a_ _))
  case e2=>exact fun cl C s₃ H₃ fp=>(pv 0)
  case c3=>
   refine' cD (g:=(bD 0)) (tt:=(mE (iI (IU K true) (o4 (bz (aY 1) (bz (aY 0) gg))) (aY 2)))) (te:=(aY 0)) (NB:=["_law_other","_law_house","_law_by"]) (src:=[none,some 11,some 9]) (bq (by kernel_rfl)) rfl (bV (pv 13)) ?g ?t ?e;case g=>exact fun cl C s₃ H₃ fp=>(az (i:=0) nF rfl (Or.inl rfl) (Or.inr rfl))
   case t=>exact fun cl C s₃ H₃ fp=>fY (aM (k8 hr.u) (cH (aa (pv 1) (aa (pv 0) ag))) (pv 2) rfl)
   case e=>exact fun cl C s₃ H₃ fp=>(pv 0)
  refine⟨_,rfl,t,_,rfl,bU.of tu,rfl,_,_,rfl,_,_,rfl,_,_,rfl,_,_,rfl,_,_,rfl,rfl,?_⟩;refine⟨_,rfl,_,rfl,_,rfl,_,rfl,L',fa,n,ts,ha,homes,sa,st,ta,fs,rfl,RF,hH,hS,hT,LO,ea.hd,fi,fun Nr H1 s1 Eo XI=>?_⟩;have nl:=CU (ts:=ts) (homes:=homes) (st:=st) (fs:=fs) (i:=st.length);refine⟨_,rfl,Nr,rfl,⟨_,a9.of XI⟩,fun D hD=>?_⟩;refine Ho (Ex ts homes st fs st.length) (fun k=>(ci ((st.getD k none).getD 0),ci ((fs.getD k none).getD 0))) (fun σ=>∃a,σ=[a,some (.ref sa),some (.ref ta)]) XI hD (by lia) ⟨_,rfl⟩ ?_ ?_
  .rintro m σ H2 R Kf hm ⟨a,rfl⟩ sm kk;obtain⟨m1,m2⟩:=dz.mp hm;obtain⟨h,eh⟩:∃h,st.getD m none=some h:=by
    unfold HW at m2;cases e:st.getD m none with
    |none=>rw[e] at m2;cases m2
    |some h=>exact⟨h,rfl⟩
   obtain⟨y,ey,hy⟩:=ea.hd.out m h eh;have ml:=bK.mp m1;have s2:=s1.trans sm;refine⟨_,rfl,_,rfl,sa,_,_,_,rfl,rfl,bU.of (s2 _ _ hS),aD (hZ ml),_,rfl,_,rfl,ta,_,_,_,rfl,rfl,bU.of (s2 _ _ hT),aD (hZ (by rw[fl];exact ml)),by show 2<=sizeLine;decide,fun p hp=>?_⟩;rw[eh,ey] at kk |-;exact kk _ p ⟨_,rfl⟩ hp
  .rintro zs H2 s2 jA po ez;have SH:=s1.trans s2;have hN2:=s2 _ _ XI;refine⟨_,rfl,sa,_,rfl,bU.of (SH _ _ hS),?_⟩;refine uv (K:=K) (xs:=st.map oV) (fun i σ Hc=>(∃HU N9 N_ Oa,σ=[some (.ref t),some (.ref sa),some (.ref ta),some (.ref px),some (.ref oa),some (.ref fa),some (.ref ha),some (.ref bg),some (.ref Nr),some (.ref D),HU,N9,N_,Oa])/\aL H2 Hc) ⟨⟨_,_,_,_,rfl⟩,aL.refl _⟩ (fun i σ Hc _ z=>bU.of (z.2 _ _ (SH _ _ hS))) ?_ (fun σ Hc ⟨⟨HU,N9,N_,Oa,e⟩,sc⟩=>q Hc (SH.trans sc));rintro i x pp σ Hc hx ⟨⟨HU,N9,N_,Oa,rfl⟩,sc⟩ N6;have hi:i<st.length:=by have:=(dN.mp hx).1;rwa [aR] at this
   rw[hZ hi] at hx;obtain rfl:=bN hx;have sp:=ai (o:=.tup [.int (i:Int),oV (st.getD i none)]) N6;refine⟨pp,_,rfl,bU.of ae,rfl,_,_,rfl,_,_,rfl,rfl,?_⟩;have s3:=sc.trans sp;generalize upd Hc pp _=H3 at *;cases ho:st.getD i none with
   |none=>exact⟨_,rfl,rfl,_,rfl,gc rfl (gc rfl ⟨⟨_,_,_,_,rfl⟩,s3⟩)⟩
   |some h=>
    obtain⟨_,hn,hm⟩:=LO.get ho;refine⟨_,rfl,rfl,_,rfl,kL rfl ⟨_,rfl,_,rfl,Nr,_,rfl,.inl (a9.of (s3 _ _ hN2)),rfl,CV,_,rfl,?_⟩⟩;have e0:(if true=true then !yI (V.int (i:Int)) (NV (Ex ts homes st fs st.length)) else yI (V.int (i:Int)) (NV (Ex ts homes st fs st.length)))=!decide (i∈Ex ts homes st fs st.length):=by rw[ak rfl,Hm]
    by_cases hk:i∈Ex ts homes st fs st.length
    .exact gc (by rw[fP hk] at e0;exact e0) ⟨⟨_,_,_,_,rfl⟩,s3⟩
    refine kL (by rw[fL hk] at e0;exact e0) ⟨_,rfl,_,rfl,ha,_,_,_,rfl,rfl,bU.of (s3 _ _ (SH _ _ hH)),aD (hX (xs:=homes) (j:=i) (by lia)),?_⟩;have G_:=SH.trans s3;obtain⟨bs,b,r1,r2,r3,_⟩:=RO.row hn;have hg:∀v,(NV ((List.range n).map (far ts v)))[homes.getD i 0]?=some (.int (far ts v (homes.getD i 0):Nat)):=fun v=>Bo hm;obtain⟨bi,b0,i1,i2,i3,_⟩:=RF.row hn;refine⟨_,rfl,_,rfl,oa,_,_,_,rfl,rfl,a9.of (G_ _ _ r1),aD r2,b,rfl,⟨_,a9.of (G_ _ _ r3)⟩,fun D2 XJ=>?_⟩;refine wA (bP n ts h) (fun (x:Nat)=>V.int (x:Int)) (fun o=>decide (far ts o (homes.getD i 0)<far ts h (homes.getD i 0))) (fun σ=>∃a,σ=[a,some (.ref fa),some (.int (homes.getD i 0:Nat)),some (.int (h:Nat))]) (G_ _ _ r3) XJ (ba qL (by lia)) ⟨_,rfl⟩ ?_ ?_
    .rintro x σ H4 Kt Kf hx ⟨a,rfl⟩ sm kt kf;obtain⟨bs2,b2,q1,q2,q3,_⟩:=RF.row (k_ fi hn hx);have s4:=G_.trans sm;refine⟨_,rfl,_,rfl,fa,_,_,_,rfl,rfl,a9.of (s4 _ _ q1),aD q2,_,rfl,b2,_,_,_,rfl,rfl,a9.of (s4 _ _ q3),aD (hg x),_,rfl,_,rfl,fa,_,_,_,rfl,rfl,a9.of (s4 _ _ i1),aD i2,_,rfl,b0,_,_,_,rfl,rfl,a9.of (s4 _ _ i3),aD (hg h),_,_,rfl,rfl,_,rfl,?_⟩;refine fX (fun e=>?_) (fun e=>?_)
     .exact⟨_,rfl,kt _ _ ⟨_,rfl⟩ (aL.refl _) (by simp at e |-;lia)⟩
     .exact kf _ _ ⟨_,rfl⟩ (aL.refl _) (by simp at e |-;lia)
    .intro H4 s4 hg4;have s24:=s3.trans s4;have all:(jj n ts h (homes.getD i 0)).filter (fun o=>!decide ((ci h,ci o)∈zp zs))=[]:=by
      refine nY.mpr fun o EO=>?_;rcases ea.eag i h ho with ⟨x,ex,gx⟩|f
      .exact absurd (dz.mpr ⟨bK.mpr hi,by unfold HW;rw[ho,ex];exact(dz.mp gx).2⟩) hk
      .obtain⟨a,XM,ea2,ga⟩:=f o EO;have:(ci h,ci o)∈zp zs:=by
        rw[ez];refine bB.mpr ⟨a,dz.mpr ⟨bK.mpr (CO XM),by unfold HW;rw[XM,ea2];exact(dz.mp ga).2⟩,?_⟩;rw[XM,ea2];rfl
       rw[fP this];decide
     refine⟨_,rfl,D2,rfl,⟨_,a9.of hg4⟩,fun D3 nJ=>?_⟩;refine wA (jj n ts h (homes.getD i 0)) (fun (x:Nat)=>V.int (x:Int)) (fun o=>!decide ((ci h,ci o)∈zp zs)) (fun σ=>∃a,σ=[a,some (.int (h:Nat)),some (.ref D)]) hg4 nJ (ba (ij _ _) (ba qL (by lia))) ⟨_,rfl⟩ ?_ ?_
     .rintro x σ H5 Kt Kf hx ⟨a,rfl⟩ sm kt kf;refine⟨_,rfl,_,rfl,by show 2<=sizeLine;decide,fun t ht=>?_⟩;have aZ:=ai (o:=.tup [.int (h:Nat),.int (x:Nat)]) ht;have s25:=(s24.trans sm).trans aZ;obtain⟨l1,l2⟩:=yk (K:=K) (po.same s25);refine⟨_,rfl,t,D,(ci h,ci x),List.map (fun z:Addr×Int×Int=>z.1) zs,zp zs,rfl,rfl,bU.of ae,?_,?_,l2,_,rfl,?_⟩
      .rw[<-iQ];exact a9.of (s25 _ _ jA)
      .rw[aR];exact l1
      rw[ak rfl];refine fX (fun e=>?_) (fun e=>?_)
      .exact⟨_,rfl,kt _ _ ⟨_,rfl⟩ aZ e⟩
      .exact kf _ _ ⟨_,rfl⟩ aZ (by simpa using e)
     .intro H5 s5 h5;rw[all] at h5;refine⟨by show 0<=sizeLine;decide,fun e hE'=>?_⟩;have sE:=ai (o:=.lst []) hE';exact⟨D3,e,_,_,rfl,rfl,a9.of (sE _ _ h5),a9.of ae,rfl,(fun i h=>absurd h (vj _)),_,rfl,gO ⟨⟨_,_,_,_,rfl⟩,(s24.trans s5).trans sE⟩⟩
theorem XN:aP ["_law_homes","_law_told"] ["_law_homes","_law_told"] (au XH):=⟨rfl,rfl,rfl,by decide +kernel,rfl,by decide +kernel,by decide +kernel⟩
def Ob:Sp:=fun vs H Q _=>∃ (ha fa:Addr) (homes:List Nat) (fs:List (Option Nat)),vs=[.ref ha,.ref fa]/\H ha=some (.tup (NV homes))/\H fa=some (.tup (fs.map oV))/\fs.length=homes.length/\fs.length<=16/\∀t H',aL H H'->H t=none->H' t=some (.tup ((CM homes fs).map oV))->Q (.ref t) H'
theorem SI{f:Addr}{fd:FuncData}(F:hV K "_law_behind" "_law_behind" XH f fd)(B:Bl mg)(B2:M_ mg):bJ P w K mg base bh 1 f fd ["_law_homes","_law_told"] Ob:=by
 refine F.ok XN (fun vs H Q E h=>?_) (fun eV A outer s H vs Q E hr h=>?_)
 .obtain⟨ha,fa,homes,fs,rfl,_⟩:=h;rfl
 .obtain⟨ha,fa,homes,fs,rfl,Pp,JW,fl,le,q⟩:=h;refine'⟨_,(ap (be (cA fm (by rfl) B.tup pM (aa ?c1 ag)))),?_⟩;case c1=>
   refine' cD (g:=(sY K 2 (fV (bD 0) (fV (bD 1) sX)))) (te:=(Zy (mE (iI (Vo) (aY 0) (aY 1))) (tC .cE) (aY 0))) (NB:=["_law_house","_law_home"]) (src:=[none,none]) (bq (by kernel_rfl)) rfl (B7 rfl B2.zip (aa (pv 1) (aa (pv 0) ag))) ?g ?t ?e;case g=>exact fun cl C s₃ H₃ fp=>(dC (n:=2) rfl (aG (az (i:=0) lE rfl (Or.inl rfl) (Or.inr rfl)) (aG (az (i:=1) lE rfl (Or.inl rfl) (Or.inr rfl)) cr)))
   case t=>exact fun cl C s₃ H₃ fp=>c_
   case e=>exact fun cl C s₃ H₃ fp=>(w5 (aM hU (pv 0) (pv 1) (a_ _)) eC (pv 0))
  refine⟨_,rfl,_,rfl,fa,ha,_,_,rfl,bU.of JW,bU.of Pp,by rw[aR,bj];exact fl,fun D4 AV=>?_⟩;refine FK (K:=K) (xs:=fs.map oV) (ys:=NV homes) (by rw[aR,bj];exact fl) (fun i zz σ H2=>(∃u v,σ=[u,v])/\aL H H2/\H2 D4=some (.lst zz)/\zz=((CM homes fs).map oV).take i) ⟨⟨_,_,rfl⟩,ai AV,ae,rfl⟩ (fun i zz σ H _ z=>⟨bU.of (z.2.1 _ _ JW),bU.of (z.2.1 _ _ Pp)⟩) ?_ ?_
  .rintro i x y pp zz σ H5 Kt Kf hx hy ⟨⟨u,v,rfl⟩,Pn,JN,rfl⟩ N6 kt kf;have hil:i<fs.length:=by have:=(dN.mp hx).1;rwa [aR] at this
   rw[hZ hil] at hx;obtain rfl:=bN hx;rw[hX (by lia)] at hy;obtain rfl:=bN hy;have sp:=ai (o:=.tup [oV (fs.getD i none),.int ((homes.getD i 0:Nat):Int)]) N6;have one:=J8 (homes:=homes) (fs:=fs) hil;have lt:(((CM homes fs).map oV).take i).length<sizeLine:=eD (zc _ _) (by rw[aR,ln];exact eD le (by decide));refine⟨pp,_,rfl,bU.of ae,rfl,_,_,rfl,_,_,rfl,rfl,?_⟩;refine⟨_,rfl,_,rfl,NK,_,rfl,?_⟩;rw[So];have go:∀v,((CM homes fs).map oV)[i]?=some v->∀σ2,(∃u v,σ2=[u,v])->Kt v σ2 (upd H5 pp (.tup [oV (fs.getD i none),.int ((homes.getD i 0:Nat):Int)])):=fun v hv σ2 sh=>kt v σ2 _ (sp _ _ JN) lt ⟨sh,bv (Pn.trans sp) AV,ae,by rw[gj,hv];rfl⟩;by_cases c:fs.getD i none=some (homes.getD i 0)
   .rw[ak c] at one;rw[fP c];exact vR (go _ one _ ⟨_,_,rfl⟩)
   .rw[av c] at one;rw[fL c];exact gO ⟨_,rfl,go _ one _ ⟨_,_,rfl⟩⟩
  .rintro zz σ H5 ⟨_,Pn,JN,rfl⟩;rw[aR,show fs.length=((CM homes fs).map oV).length by rw[aR,ln],i9] at JN;exact⟨D4,_,rfl,.inl ⟨a9.of JN,fun t ht=>q t _ (Pn.trans (ai ht)) (Pn.free ht) ae⟩⟩
end
abbrev Bp:Stmt:=top 58
theorem pI.nr{C p:Addr}{H0 H H':Hp}{t px oa fa ha sa:Addr}{n:Nat}{ts:Ts}{homes:List Nat}{st:List (Option Nat)}(c:pI C H0 H t px oa fa ha sa n ts homes st)(s:aN p H H')(f:H0 p≠none)(hp:bf H p):pI C H0 H' t px oa fa ha sa n ts homes st:=by
 have ne:∀b,H0 b=none->b≠p:=fun b e z=>f (z ▸ e);exact⟨s _ _ c.tu (hp.neT c.tu),c.net.keep (fun b o l e=>s b o e (ne b l)) (fun o e=>s _ _ e (ne _ c.px)),c.px,c.out.keep c.oa (fun b o l e=>s b o e (ne b l)),c.oa,c.far.keep c.fa (fun b o l e=>s b o e (ne b l)),c.fa,s _ _ c.ha (hp.neT c.ha),s _ _ c.sa (hp.neT c.sa),c.le,c.sd⟩
theorem _root_.L2.dq.kW{lp:Pos}{q:Str}{p Pt:Addr}{H H':Hp}(t:dq lp q Pt H)(s:aN p H H')(hp:bf H p):dq lp q Pt H':=by
 obtain⟨a,b,e,_⟩:=hp;rcases t with z|⟨c,z,y⟩
 .exact .inl (s _ _ z (by rintro rfl;rw[z] at e;cases e))
 .exact .inr ⟨c,s _ _ z (by rintro rfl;rw[z] at e;cases e),s _ _ y (by rintro rfl;rw[y] at e;cases e)⟩
theorem _root_.L2.dq.uM{lp:Pos}{q:Str}{p Pt P:Addr}{H H':Hp}(t:dq lp q P H)(k:CJ Pt p H H')(hp:bf H p)(tb:mv Pt H)(n:P≠Pt):dq lp q P H':=by
 obtain⟨a,b,e,_⟩:=hp;obtain⟨ps,hP⟩:=dq.iH tb;rcases t with z|⟨c,z,y⟩
 .exact .inl (k _ _ z n (by rintro rfl;rw[z] at e;cases e))
 .exact .inr ⟨c,k _ _ z n (by rintro rfl;rw[z] at e;cases e),k _ _ y (by rintro rfl;rw[hP] at y;cases y) (by rintro rfl;rw[y] at e;cases e)⟩
theorem jB.kW{PN PF PT PR p:Addr}{H H':Hp}(t:jB PN PF PT PR H)(s:aN p H H')(hp:bf H p):jB PN PF PT PR H':=⟨t.n.kW s hp,t.f.kW s hp,t.t.kW s hp,t.r.kW s hp⟩
theorem jB.uM{PN PF PT PR p Pt:Addr}{H H':Hp}(t:jB PN PF PT PR H)(k:CJ Pt p H H')(hp:bf H p)(tb:mv Pt H)(n:Pt∉[PN,PF,PT,PR]):jB PN PF PT PR H':=by
 simp only[bn,jV,not_or,iq] at n;obtain⟨n1,n2,n3,n4⟩:=n;exact⟨t.n.uM k hp tb (dA n1),t.f.uM k hp tb (dA n2),t.t.uM k hp tb (dA n3),t.r.uM k hp tb (dA n4)⟩
theorem kX{H:Hp}{C x d:Addr}(nx:H x=none)(nd:H d=none)(ne:x≠d):aL H (upd (upd H d (.own x)) x (.ins C d [])):=(ai (o:=.own x) nd).trans (ai (D:=x) (o:=.ins C d []) (by rw[ao ne];exact nx))
theorem _root_.L2.dq.SJ{lp:Pos}{q:Str}{PN PF PT PR P:Addr}{H H':Hp}(t:dq lp q P H)(k:KQ PN PF PT PR H H')(tb:jB PN PF PT PR H)(n:P∉[PN,PF,PT,PR]):dq lp q P H':=by
 simp only[bn,jV,not_or,iq] at n;obtain⟨n1,n2,n3,n4⟩:=n;rcases t with z|⟨c,z,y⟩
 .exact .inl (k _ _ z n1 n2 n3 n4)
 .exact .inr ⟨c,k _ _ z n1 n2 n3 n4,k.kn tb _ _ y (fun ps z=>by cases z)⟩
structure CW(C:Addr)(H:Hp)(t px oa fa ha sa:Addr)(n:Nat)(ts:Ts)(homes:List Nat)(st:List (Option Nat)):Prop where
 tu:H t=some (.tup [.ref px,.ref oa,.ref fa,.ref ha,.ref sa])
 net:dB C H (fun _=>True) px n ts
 out:bX H (fun _=>True) oa n (bP n ts)
 far:bX H (fun _=>True) fa n (fun h=>(List.range n).map (far ts h))
 he:H ha=some (.tup (NV homes))
 se:H sa=some (.tup (st.map oV))
 le:st.length<=16
 sd:kU n ts homes st
theorem bX.kn{H H':Hp}{l n:Nat}{r:Nat->List Nat}(R:bX H (fun _=>True) l n r)(k:KN H H'):bX H' (fun _=>True) l n r:=by
 obtain⟨bs,b1,b2,b3⟩:=R;exact⟨bs,k _ _ b1 (fun ps z=>by cases z),b2,b3.mono fun j hj e=>k _ _ e (fun ps z=>by cases z)⟩
theorem CW.kn{C:Addr}{H H':Hp}{t px oa fa ha sa:Addr}{n:Nat}{ts:Ts}{homes:List Nat}{st:List (Option Nat)}(c:CW C H t px oa fa ha sa n ts homes st)(k:KN H H'):CW C H' t px oa fa ha sa n ts homes st:=by
 obtain⟨dx,tl,ol,ds,a,_⟩:=c.net.ob;exact⟨k _ _ c.tu (fun ps z=>by cases z),(c.net.US.keep (fun b o l e=>by obtain⟨_,o',e',n⟩:=l;rw[e] at e';cases e';exact k b o e n) fun o e=>k _ _ e (by rw[a] at e;cases e;exact fun ps z=>by cases z)).weak fun _ _=>trivial,
  c.out.kn k,c.far.kn k,k _ _ c.he (fun ps z=>by cases z),k _ _ c.se (fun ps z=>by cases z),c.le,c.sd⟩
theorem pI.toN{C:Addr}{H0 H:Hp}{t px oa fa ha sa:Addr}{n:Nat}{ts:Ts}{homes:List Nat}{st:List (Option Nat)}(c:pI C H0 H t px oa fa ha sa n ts homes st):CW C H t px oa fa ha sa n ts homes st:=⟨c.tu,c.net.weak fun _ _=>trivial,c.out.weak fun _ _=>trivial,c.far.weak fun _ _=>trivial,c.ha,c.sa,c.le,c.sd⟩
section
variable {P:Program} {w:World} {K:PySem.W.Frag} {mg:Str->Option Value} {base:Heap}
def Lz(K:PySem.W.Frag)(H:Hp)(a:Addr)(xs:List V):Prop:=(∃o,H a=some (.wR o (.lst xs)))\/(∀H':Hp,a9 K H' a xs)
theorem Lz.seq{H:Hp}{a:Addr}{xs:List V}(h:Lz K H a xs):a9 K H a xs:=by
 rcases h with ⟨o,h⟩|h
 .exact .inl (.inr ⟨o,h⟩)
 .exact h H
theorem Lz.mono{H H':Hp}{a:Addr}{xs:List V}(h:Lz K H a xs)(e:∀o u,H a=some (.wR o u)->H' a=some (.wR o u)):Lz K H' a xs:=by
 rcases h with ⟨o,h⟩|h
 .exact .inl ⟨o,e _ _ h⟩
 .exact .inr h
theorem iF:aP ["_law_script","_law_k","_law_pot_here","_law_beat_here","_law_case_here","_law_net_here","_law_outs_here","_law_far_here","_law_homes","_law_begun","_law_rule","_law_stand","_law_turn","_law_told"] ["_law_script"] (au Bp):=⟨rfl,rfl,rfl,by decide +kernel,rfl,by decide +kernel,by decide +kernel⟩
def CY(K:PySem.W.Frag)(Pt PN PF PT PR:Addr):Sp:=fun vs H Q _=>∃ (a:Addr) (ns:List Int),vs=[.ref a]/\Lz K H a (ns.map V.int)/\ns.length<=63/\mv Pt H/\jB PN PF PT PR H/\∀H',Q (.bl true) H'
theorem Oc{f fRI C CE CN CF CT CI CR Pt PN PF PT PR:Addr}{fd SK:FuncData}(F:hV K "law" "law" Bp f fd)(B:Bl mg)(R:Sz P w K mg base C CE CN CF CT CI CR PN PF PT PR)(nP:Pt∉[PN,PF,PT,PR])(kE:RE K CE)(kN:RE K CN)(kF:RE K CF)(kT:RE K CT)(M:Mk K CR fRI)(bI:jI K SK ["self","ranks"] [])(GI:bJ P w K mg base bh 2 fRI SK ["self","ranks"] (wL CR))(PT':dH P w K mg base bh 1 "_law_pot" ["_law_script","_law_k"] (Gm K))(BE:dH P w K mg base bh 2 "_law_beat" ["_law_pot_here"] A1)(CA:dH P w K mg base bh 9 "_law_case" ["_law_pot_here"] (Ba C Pt))(RA:dH P w K mg base bh 2 "_law_ranks" ["_law_pot_here","_law_many"] wN)(HA:dH P w K mg base bh 10 "hand" ["rule","net","homes","stand","beat"] (Bn C CE CN CF CT CI CR PN PF PT PR))(IR:dH P w K mg base bh 1 "_law_is_right" ["_law_outs_here","_law_stand","_law_told"] N4)(IE:dH P w K mg base bh 2 "_law_is_eager" ["_law_case_here","_law_stand","_law_told"] N8)(BH:dH P w K mg base bh 1 "_law_behind" ["_law_homes","_law_told"] Ob):bJ P w K mg base bh 11 f fd ["_law_script"] (CY K Pt PN PF PT PR):=by
 refine F.ok iF (fun vs H Q E h=>?_) (fun eV A outer s H vs Q E hr h=>?_)
 .obtain⟨a,ns,rfl,_⟩:=h;rfl
 .obtain⟨a,ns,rfl,hS,xD,tp,tb,q⟩:=h;have h1:cy 1 _:=hr.mono (by decide);have h2:cy 2 _:=hr.mono (by decide);have h3:cy 3 _:=hr.mono (by decide);have h9:cy 9 _:=hr.mono (by decide);refine⟨_,(aj (cQ dP rfl (bE rfl B.range (aa (aI (oY rfl) (by rfl) B.max uU (aa aB (aa (aI (kZ rfl) (by rfl) B.min uT (aa aB (aa (aI aQ (by rfl) B.len dU (aa (pv 0) ag)) ag))) ag))) ag)) (az (i:=1) iF.nd rfl (Or.inl rfl))
    (aj (aV (i:=2) iF.nd rfl (Or.inl rfl) (aJ PT' h1 aO (aa (pv 0) (aa (pv 1) ag))))
    (aj (aV (i:=3) iF.nd rfl (Or.inl rfl) (aJ BE h2 aO (aa (pv 2) ag)))
    (aj (aV (i:=4) iF.nd rfl (Or.inl rfl) (aJ CA h9 aO (aa (pv 2) ag)))
    (aj (dL (pv 4) (dC (n:=5) rfl (aG (az (i:=5) iF.nd rfl (Or.inl rfl)) (aG (az (i:=6) iF.nd rfl (Or.inl rfl)) (aG (az (i:=7) iF.nd rfl (Or.inl rfl)) (aG (az (i:=8) iF.nd rfl (Or.inl rfl)) (aG (az (i:=9) iF.nd rfl (Or.inl rfl)) cr)))))))
    (ap (cQ dP rfl (bV (cY (aa (wo kE rfl R.e.Je) (aa (wo kN rfl R.n.Je) (aa (wo kF rfl R.f.Je) (aa (wo kT rfl R.t.Je) (aa (BB M GI h3 rfl R.r.Je bI .nil aO (aa (aJ RA h2 aO (aa (pv 2) (aa (aI aQ (by rfl) B.len dU (aa (pv 8) ag)) ag))) ag)) ag))))))) (az (i:=10) iF.nd rfl (Or.inl rfl))
     (aj (aV (i:=11) iF.nd rfl (Or.inl rfl) (pv 9))
     (ap (cQ dP rfl (bE rfl B.range (aa aB ag)) (az (i:=12) iF.nd rfl (Or.inl rfl))
      (aj (aV (i:=13) iF.nd rfl (Or.inl rfl) (aJ HA hr aO (aa (pv 10) (aa (pv 5) (aa (pv 8) (aa (pv 11) (aa (bb cX (pv 3) (pv 12)) ag)))))))
      (aj (cC (PW.pt (pN (jr (gZ (aJ IR h1 aO (aa (pv 6) (aa (pv 11) (aa (pv 13) ag)))))) (lY (jr (gZ (aJ IE h2 aO (aa (pv 4) (aa (pv 11) (aa (pv 13) ag))))))))) (ap (be mB)) bp)
      (ap (aV (i:=11) iF.nd rfl (Or.inl rfl) (aJ BH h1 aO (aa (pv 8) (aa (pv 13) ag)))))))))))))))))
   (ap (be mB))),?_⟩
  refine⟨_,rfl,a,_,rfl,.inl hS.seq,2,_,rfl,1,_,rfl,_,rfl,?_⟩;obtain⟨j,hj,j1⟩:∃j:Int,(if (if (((ns.map V.int).length:Nat):Int)<2 then (((ns.map V.int).length:Nat):Int) else 2) > 1 then (if (((ns.map V.int).length:Nat):Int)<2 then (((ns.map V.int).length:Nat):Int) else 2) else 1)=j/\1<=j/\j<=2:=⟨_,rfl,by split <;> split <;> lia⟩
  rw[hj];refine⟨by lia,by lia,dt (n:=j.toNat) (lo:=0) (fun k σ H2=>(∃x1 x2 x3 x4 x5 x6 x7 x8 x9 HU N9 N_ Oa,σ=[some (.ref a),x1,x2,x3,x4,x5,x6,x7,x8,x9,HU,N9,N_,Oa])/\Lz K H2 a (ns.map V.int)/\mv Pt H2/\jB PN PF PT PR H2) ⟨⟨_,_,_,_,_,_,_,_,_,_,_,_,_,rfl⟩,hS,tp,tb⟩ ?_ ?_⟩
  rotate_left
  .rintro σ H2 ⟨⟨x1,x2,x3,x4,x5,x6,x7,x8,x9,HU,N9,N_,Oa,rfl⟩,_⟩;exact q H2
  clear hS tp tb;rintro k σ Hc hk ⟨⟨x1,x2,x3,x4,x5,x6,x7,x8,x9,HU,N9,N_,Oa,rfl⟩,Sc,tp,tb⟩;rw[gv];refine⟨_,rfl,_,rfl,a,ns,k,rfl,Sc.seq,by lia,fun p H3 s3 Pa mw=>?_⟩;refine⟨_,rfl,p,rfl,mw,fun bt H4 hbt s4 nL=>?_⟩;have t4:=(tp.same s3).kW s4 mw;have u4:=(tb.same s3).kW s4 mw;refine⟨_,rfl,p,rfl,nL,t4,fun t px oa fa ha sa n ts homes st H5 k5 uE t5 ca=>?_⟩;have u5:=u4.uM k5 nL t4 nP;have S5:=Sc.mono fun o u e=>k5 _ _ (s4 _ _ (s3 _ _ e) (am e Pa)) (t4.not (s4 _ _ (s3 _ _ e) (am e Pa)) (fun ps z=>by cases z)) (am e Pa);have LO:=ca.sd.let ca.le;refine⟨_,rfl,t,_,rfl,bU.of ca.tu,rfl,_,_,rfl,_,_,rfl,_,_,rfl,_,_,rfl,_,_,rfl,rfl,?_⟩;refine fun a0 d0 x0 y0 z0=>?_;have w0:=kX (C:=CE) x0 y0 (dA z0);have g0:=ae (H:=upd H5 d0 (.own a0)) (a:=a0) (o:=.ins CE d0 []);generalize upd (upd H5 d0 _) a0 _=Ha at *;refine fun a1 d1 x1 y1 z1=>?_;have w1:=kX (C:=CN) x1 y1 (dA z1);have g1:=ae (H:=upd Ha d1 (.own a1)) (a:=a1) (o:=.ins CN d1 []);generalize upd (upd Ha d1 _) a1 _=Hb at *;refine fun a2 d2 x2 y2 z2=>?_;have w2:=kX (C:=CF) x2 y2 (dA z2);have g2:=ae (H:=upd Hb d2 (.own a2)) (a:=a2) (o:=.ins CF d2 []);generalize upd (upd Hb d2 _) a2 _=Hd at *;refine fun a3 d3 x3 y3 z3=>?_;have w3:=kX (C:=CT) x3 y3 (dA z3);have g3:=ae (H:=upd Hd d3 (.own a3)) (a:=a3) (o:=.ins CT d3 []);generalize upd (upd Hd d3 _) a3 _=He at *;have XO:=w2.trans w3;have XQ:=w1.trans XO;have Od:=w0.trans XQ;have PD:=uE.same Od;refine⟨_,rfl,_,rfl,ha,_,rfl,.inr (bU.of (Od _ _ ca.ha)),p,homes.length,by rw[bj];rfl,PD,by rw[LO.len];exact LO.le,fun ra ranks H6 s6 B5 Lx UY=>?_⟩;have caE:=(ca.nr (aN.of Od) nL.full uE).nr s6 nL.full PD;have t6:=(t5.same Od).kW s6 PD;have u6:=(u5.same Od).kW s6 PD;have ni:∀ {b C d},He b=some (.ins C d [])->H6 b=some (.ins C d []):=fun e=>s6 _ _ e (by obtain⟨_,_,z,_⟩:=PD;rintro rfl;rw[e] at z;cases z);have S6:=S5.mono fun o u e=>s6 _ _ (Od _ _ e) (by obtain⟨_,_,z,_⟩:=uE;rintro rfl;rw[e] at z;cases z);refine fun rx rd nx nrd UR=>?_;have sN:=kX (C:=CR) nx nrd (dA UR);refine⟨rx,rd,ra,ranks,rfl,ae,sN _ _ Lx,by rw[UY,LO.len];exact ba LO.le (by decide),fun H7 rk7 se7=>?_⟩;have HV:aL H6 H7:=fun b o e=>se7 _ _ (sN _ _ e) (am e nx);refine⟨rfl,by show 5<=sizeLine;decide,fun RL hRL=>?_⟩;have sL:=ai (o:=.lst [V.ref a0,.ref a1,.ref a2,.ref a3,.ref rx]) hRL;have gL:=ae (H:=H7) (a:=RL) (o:=.lst [V.ref a0,.ref a1,.ref a2,.ref a3,.ref rx]);generalize upd H7 RL _=H8 at *;have J_:=HV.trans sL;have U0:=caE.toN.kn (fun b o e _=>J_ b o e);have t8:=t6.same J_;have u8:=u6.same J_;have S8:=S6.mono fun o u e=>J_ _ _ e;have r0:Rl CE CN CF CT CI CR ranks H8 0 a0:=⟨d0,J_ _ _ (ni (XQ _ _ g0))⟩
  have r1:Rl CE CN CF CT CI CR ranks H8 1 a1:=⟨d1,J_ _ _ (ni (XO _ _ g1))⟩
  have r2:Rl CE CN CF CT CI CR ranks H8 2 a2:=⟨d2,J_ _ _ (ni (w3 _ _ g2))⟩
  have r3:Rl CE CN CF CT CI CR ranks H8 3 a3:=⟨d3,J_ _ _ (ni g3)⟩
  have r5:Rl CE CN CF CT CI CR ranks H8 5 rx:=rk7.same sL;clear g0 g1 g2 g3 w0 w1 w2 w3 XO XQ Od x0 x1 x2 x3 y0 y1 y2 y3 z0 z1 z2 z3 hRL sL se7 rk7 HV J_ sN nx nrd UR ni caE ca t6 u6 S6 S5 t5 u5 u4 t4 k5 Sc tp tb s3 s4 s6 Pa mw nL uE B5 PD;refine⟨RL,rfl,⟨_,a9.of gL⟩,fW (K:=K) (xs:=[.ref a0,.ref a1,.ref a2,.ref a3,.ref rx]) (fun i σ Hc=>(∃Sb XR Oe Of,σ=[some (.ref a),some (.int (k:Int)),some (.ref p),some (.int (bt:Nat)),some (.ref t),some (.ref px),some (.ref oa),some (.ref fa),some (.ref ha),some (.ref sa),Sb,XR,Oe,Of])/\jB PN PF PT PR Hc/\KQ PN PF PT PR H8 Hc) ⟨⟨_,_,_,_,rfl⟩,u8,KQ.of (aL.refl _)⟩ (fun i σ Hc _ z=>a9.of (z.2.2.kn u8 _ _ gL (fun ps z=>by cases z))) ?_ ?_⟩
  rotate_left
  .rintro σ Hc ⟨⟨Sb,XR,Oe,Of,rfl⟩,tc,kc⟩;exact⟨⟨_,_,_,_,_,_,_,_,_,_,_,_,_,rfl⟩,S8.mono fun o u e=>kc.kn u8 _ _ e (fun ps z=>by cases z),t8.SJ kc u8 nP,tc⟩
  rintro i x σ Hc hx ⟨⟨Sb,XR,Oe,Of,rfl⟩,tc,kc⟩;obtain⟨aq,sM,rfl,w6,w4,rq⟩:∃ (aq sM:Nat),x=.ref aq/\sM<6/\sM≠4/\Rl CE CN CF CT CI CR ranks H8 sM aq:=by
   match i,hx with
   |0,hx=>cases hx;exact⟨a0,0,rfl,by decide,by decide,r0⟩
   |1,hx=>cases hx;exact⟨a1,1,rfl,by decide,by decide,r1⟩
   |2,hx=>cases hx;exact⟨a2,2,rfl,by decide,by decide,r2⟩
   |3,hx=>cases hx;exact⟨a3,3,rfl,by decide,by decide,r3⟩
   |4,hx=>cases hx;exact⟨rx,5,rfl,by decide,by decide,r5⟩
   |i+5,hx=>cases hx
  clear r0 r1 r2 r3 r5 hx;refine⟨_,rfl,4,rfl,by decide,by decide,dt (n:=4) (lo:=0) (fun i σ Hd=>∃ (sb:Addr) (aZ:List (Option Nat)),(∃Oe Of,σ=[some (.ref a),some (.int (k:Int)),some (.ref p),some (.int (bt:Nat)),some (.ref t),some (.ref px),some (.ref oa),some (.ref fa),some (.ref ha),some (.ref sa),some (.ref aq),some (.ref sb),Oe,Of])/\jB PN PF PT PR Hd/\KQ PN PF PT PR H8 Hd/\Hd sb=some (.tup (aZ.map oV))/\aZ.length<=16/\kU n ts homes aZ) ⟨sa,st,⟨_,_,rfl⟩,tc,kc,(U0.kn (kc.kn u8)).se,U0.le,U0.sd⟩ ?_ ?_⟩
  rotate_left
  .rintro σ Hd ⟨sb,aZ,⟨Oe,Of,rfl⟩,td,kd,_⟩;exact⟨⟨_,_,_,_,rfl⟩,td,kd⟩
  clear tc kc;rintro i σ Hd hi ⟨sb,aZ,⟨Oe,Of,rfl⟩,td,kd,hb,le,sd⟩;rw[gv];have cd:=U0.kn (kd.kn u8);have U1:=sd.let le;refine⟨_,rfl,_,rfl,_,rfl,_,rfl,_,rfl,_,rfl,_,_,rfl,rfl,_,aq,px,ha,sb,_,sM,n,ts,homes,aZ,ranks,rfl,w6,w4,rq.kn (kd.kn u8),cd.net,cd.he,hb,U1,by lia,UY,td,fun tt H9 nK t9 k9 op XS=>?_⟩;have kn9:=k9.kn td;have c9:=cd.kn kn9;have hb9:=kn9 _ _ hb (fun ps z=>by cases z);have ea:=NW sd op;generalize J0 n ts homes aZ nK=fs at *;have fi:=cd.net.jO;refine⟨_,rfl,_,rfl,_,rfl,_,oa,sb,tt,n,ts,homes,aZ,fs,rfl,c9.out,hb9,XS,U1,ea.hd,fi.n2,fun Hx sx=>⟨_,rfl,gO ?_⟩⟩;refine⟨_,rfl,_,rfl,_,rfl,_,_,t,sb,tt,px,oa,fa,ha,sa,n,ts,homes,aZ,fs,rfl,sx _ _ c9.tu,c9.out.kn (fun b o e _=>sx b o e),c9.far.kn (fun b o e _=>sx b o e),sx _ _ c9.he,sx _ _ hb9,sx _ _ XS,U1,ea,fi,fun Hy sy=>⟨_,rfl,gO ?_⟩⟩;have s9:=sx.trans sy;refine⟨_,rfl,_,rfl,ha,tt,homes,fs,rfl,s9 _ _ c9.he,s9 _ _ XS,by rw[ea.hd.len,U1.len],by rw[ea.hd.len];exact le,fun mL Hz sz _ hz=>?_⟩;have s99:=s9.trans sz;exact⟨mL,_,⟨_,_,rfl⟩,t9.same s99,(kd.trans k9).trans (KQ.of s99),hz,by rw[ln,ea.hd.len];exact le,ea.hd.next fi sd⟩
end
def FD(K:PySem.W.Frag)(n:Str)(st:Stmt):Prop:=∃ (f:Addr) (oc:Value) (od an:Option Addr) (sl:Array (Option Value)) (kV dc pm cd ct:Value),PySem.W.nsIn K mainGlobals n=some (some (.ref f))/\K.lookup f=some ⟨oc,od,.func (PySem.W.fnOf n n (dG st) (b9 st) (au st) .none kV dc pm an cd ct),sl⟩/\PySem.W.codeIn K cd n=true/\PySem.W.keepIn K (.ref f)=true
def FC(K:PySem.W.Frag)(n:Str)(st:Stmt)(c:Addr):Prop:=∃ (f:Addr) (oc:Value) (od an:Option Addr) (sl:Array (Option Value)) (kV dc pm ct:Value),PySem.W.nsIn K mainGlobals n=some (some (.ref f))/\K.lookup f=some ⟨oc,od,.func (PySem.W.fnOf n n (dG st) (b9 st) (au st) .none kV dc pm an (.ref c) ct),sl⟩/\PySem.W.codeIn K (.ref c) n=true/\PySem.W.keepIn K (.ref f)=true
def MD(K:PySem.W.Frag)(C:Addr)(n q:Str)(st:Stmt):Prop:=∃ (f:Addr) (oc:Value) (od an:Option Addr) (sl:Array (Option Value)) (kV dc pm cd ct:Value),PySem.W.findIn K (.ref C) n=some (some (.ref f))/\PySem.W.isFn K (.ref f)=true/\K.lookup f=some ⟨oc,od,.func (PySem.W.fnOf n q (dG st) (b9 st) (au st) .none kV dc pm an cd ct),sl⟩/\PySem.W.codeIn K cd q=true/\PySem.W.keepIn K (.ref f)=true
def MC(K:PySem.W.Frag)(C:Addr)(n q:Str)(st:Stmt)(c:Addr):Prop:=∃ (f:Addr) (oc:Value) (od an:Option Addr) (sl:Array (Option Value)) (kV dc pm ct:Value),PySem.W.findIn K (.ref C) n=some (some (.ref f))/\PySem.W.isFn K (.ref f)=true/\K.lookup f=some ⟨oc,od,.func (PySem.W.fnOf n q (dG st) (b9 st) (au st) .none kV dc pm an (.ref c) ct),sl⟩/\PySem.W.codeIn K (.ref c) q=true/\PySem.W.keepIn K (.ref f)=true
section
variable {P:Program} {w:World} {K:PySem.W.Frag} {mg:Str->Option Value} {base h:Heap} {n q:Str} {st:Stmt} {f c C:Addr} {oc kV dc pm cd ct:Value} {od an:Option Addr} {sl:Array (Option Value)} {CX:yF} {k:Nat} {ps:List Str} {sp:Sp}
theorem FD.mk(a:PySem.W.nsIn K mainGlobals n=some (some (.ref f)))(l:K.lookup f=some ⟨oc,od,.func (PySem.W.fnOf n n (dG st) (b9 st) (au st) .none kV dc pm an cd ct),sl⟩)(d:PySem.W.codeIn K cd n=true)(k:PySem.W.keepIn K (.ref f)=true):FD K n st:=⟨f,oc,od,an,sl,kV,dc,pm,cd,ct,a,l,d,k⟩
theorem FC.mk(a:PySem.W.nsIn K mainGlobals n=some (some (.ref f)))(l:K.lookup f=some ⟨oc,od,.func (PySem.W.fnOf n n (dG st) (b9 st) (au st) .none kV dc pm an (.ref c) ct),sl⟩)(d:PySem.W.codeIn K (.ref c) n=true)(k:PySem.W.keepIn K (.ref f)=true):FC K n st c:=⟨f,oc,od,an,sl,kV,dc,pm,ct,a,l,d,k⟩
theorem MD.mk(a:PySem.W.findIn K (.ref C) n=some (some (.ref f)))(i:PySem.W.isFn K (.ref f)=true)(l:K.lookup f=some ⟨oc,od,.func (PySem.W.fnOf n q (dG st) (b9 st) (au st) .none kV dc pm an cd ct),sl⟩)(d:PySem.W.codeIn K cd q=true)(k:PySem.W.keepIn K (.ref f)=true):MD K C n q st:=⟨f,oc,od,an,sl,kV,dc,pm,cd,ct,a,i,l,d,k⟩
theorem MC.mk(a:PySem.W.findIn K (.ref C) n=some (some (.ref f)))(i:PySem.W.isFn K (.ref f)=true)(l:K.lookup f=some ⟨oc,od,.func (PySem.W.fnOf n q (dG st) (b9 st) (au st) .none kV dc pm an (.ref c) ct),sl⟩)(d:PySem.W.codeIn K (.ref c) q=true)(k:PySem.W.keepIn K (.ref f)=true):MC K C n q st c:=⟨f,oc,od,an,sl,kV,dc,pm,ct,a,i,l,d,k⟩
def BD(n q:Str)(st:Stmt)(ps:List Str):Prop:=∀ (kV mI pm:Value) (an:Option Addr) (eV ct:Value) (us:List Value),us.length=ps.length->bindArgs (PySem.W.fnOf n q (dG st) (b9 st) (au st) .none kV mI pm an eV ct) ⟨us,[]⟩=pure (ps.zip us)
theorem FD.ii(X:K.In h)(G:h.Ns mainGlobals mg)(D:FD K n st)(b:BD n n st ps)(o:∀ {f fd},hV K n n st f fd->bJ P w K mg base CX k f fd ps sp):dH P w K mg base CX k n ps sp:=by
 obtain⟨f,_,_,_,_,_,_,_,_,_,a,l,d,kp⟩:=D;have F:=rH (x:=n) (qual:=n) (st:=st) l d kp;exact⟨⟨f,_,iM X G a,kp,F.binds b,o F⟩⟩
theorem FC.ii(X:K.In h)(G:h.Ns mainGlobals mg)(D:FC K n st c)(b:BD n n st ps)(o:∀ {f fd},qg K n n st f fd c->bJ P w K mg base CX k f fd ps sp):dH P w K mg base CX k n ps sp:=by
 obtain⟨f,_,_,_,_,_,_,_,_,a,l,d,kp⟩:=D;have F:=BZ (x:=n) (qual:=n) (st:=st) l d kp;exact⟨⟨f,_,iM X G a,kp,F.fun.binds b,o F⟩⟩
theorem MD.ii(D:MD K C n q st)(b:BD n q st ps)(o:∀ {f fd},hV K n q st f fd->bJ P w K mg base CX k f fd ps sp):iZ P w K mg base CX k C n ps sp:=by
 obtain⟨f,_,_,_,_,_,_,_,_,_,a,i,l,d,kp⟩:=D;have F:=rH (x:=n) (qual:=q) (st:=st) l d kp;exact⟨⟨f,_,⟨a,i,kp⟩,F.binds b,o F⟩⟩
theorem MC.ii(D:MC K C n q st c)(b:BD n q st ps)(o:∀ {f fd},qg K n q st f fd c->bJ P w K mg base CX k f fd ps sp):iZ P w K mg base CX k C n ps sp:=by
 obtain⟨f,_,_,_,_,_,_,_,_,a,i,l,d,kp⟩:=D;have F:=BZ (x:=n) (qual:=q) (st:=st) l d kp;exact⟨⟨f,_,⟨a,i,kp⟩,F.fun.binds b,o F⟩⟩
end
theorem Og{l:PySem.W.OpenLaw}{w:World}{K:PySem.W.Frag}{h:Heap}{mg:Str->Option Value}{fa:Addr}(X:K.In h)(G:h.Ns mainGlobals mg)(JW:mg "law"=some (.ref fa)){C cO Pt cN PN cF PF cT PT cR PR eH cP ce eI cI bT:Addr}{qr tW qt:Tok}(aC:PySem.W.nsIn K mainGlobals "Net"=some (some (.ref C)))(Ka:PySem.W.nsIn K mainGlobals "Elder"=some (some (.ref eH)))(Ec:PySem.W.nsIn K mainGlobals "Nearest"=some (some (.ref cP)))(Bq:PySem.W.nsIn K mainGlobals "Farthest"=some (some (.ref ce)))(Kb:PySem.W.nsIn K mainGlobals "Turns"=some (some (.ref eI)))(Hq:PySem.W.nsIn K mainGlobals "InTurn"=some (some (.ref cI)))(yz:PySem.W.nsIn K mainGlobals "Ranked"=some (some (.ref bT)))(Kc:FD K "is_whole" AL)(Hr:FD K "is_whole_within" wd)(Kd:FD K "is_house" AM)(SL:FD K "is_row" MI)(SN:FD K "are_unlike_houses" MS)(SO:FD K "is_tie" MQ)(Ke:FD K "check_ties" AR)(SS:FD K "check_balance" MR)(Oh:FC K "houses_out" xZ cO)(Oi:FD K "distances_from" Gb)(Kg:FD K "check_reached" AS)(XT:FD K "under_way" Xn)(XU:FD K "first_free" Xo)(SU:FD K "_law_pot" M9)(Oj:FD K "_law_take" Gi)(Ol:FD K "_law_beat" Gj)(Om:FD K "_law_ring" Gz)(On:FD K "_law_some_pairs" GA)(SV:FD K "_law_box" Nj)(Kh:FD K "_law_words" sD)(SW:FD K "_law_one_way" Nn)(SX:FD K "_law_renamed" No)(SY:FD K "_law_net" Nz)(Ki:FD K "_law_outs" A8)(Oo:FD K "_law_far" GU)(Kj:FD K "_law_start" A9)(Op:FD K "_law_case" G9)(Kk:FD K "_law_ranks" Bk)(XV:FD K "hand_in_turn" sHT)(XW:FD K "hand_eagerly" Xy)(Oq:FD K "hand" G0)(XX:FD K "_law_is_right" XC)(XY:FD K "_law_nearer" XD)(XZ:FD K "_law_is_eager" UZ)(X0:FD K "_law_behind" XH)(SZ:FD K "law" Bp)(Os:MD K C "__init__" "Net.__init__" Cj)(Kl:MD K C "check_house" "Net.check_house" AO)(S0:MD K C "far" "Net.far" MM)(S4:MD K C "out" "Net.out" ML)(Ot:MD K C "good" "Net.good" F5)(pg:PySem.W.plainGet K C Str.empty=true)(X1:PySem.W.hasDictIn K C=true)(po:PySem.W.plainOver K C=true)(sa:PySem.W.findIn K (.ref C) "__setattr__"=some (some (.builtin "object.__setattr__")))(mk:PySem.W.makesIn K C=true)(kc:PySem.W.keepIn K (.ref C)=true)(nH:PySem.W.findIn K (.ref C) "house_count"=some none)(nT:PySem.W.findIn K (.ref C) "tie_list"=some none)(nO:PySem.W.findIn K (.ref C) "out_lists"=some none)(nD:PySem.W.findIn K (.ref C) "distances"=some none)(wP:PySem.W.nsIn K mainGlobals "isinstance"=some none)(S7:PySem.W.nsIn K mainGlobals "int"=some none)(Ou:PySem.W.nsIn K mainGlobals "bool"=some none)(Km:PySem.W.nsIn K mainGlobals "tuple"=some none)(Ov:PySem.W.nsIn K mainGlobals "list"=some none)(S9:PySem.W.nsIn K mainGlobals "str"=some none)(S_:PySem.W.nsIn K mainGlobals "set"=some none)(Ta:PySem.W.nsIn K mainGlobals "len"=some none)(Ko:PySem.W.nsIn K mainGlobals "range"=some none)(Ht:PySem.W.nsIn K mainGlobals "sorted"=some none)(Tb:PySem.W.nsIn K mainGlobals "any"=some none)(Tc:PySem.W.nsIn K mainGlobals "max"=some none)(Td:PySem.W.nsIn K mainGlobals "min"=some none)(wQ:PySem.W.nsIn K mainGlobals "ValueError"=some none)(Te:PySem.W.nsIn K mainGlobals "all"=some none)(Tf:PySem.W.nsIn K mainGlobals "abs"=some none)(Hu:PySem.W.nsIn K mainGlobals "divmod"=some none)(Ow:PySem.W.nsIn K mainGlobals "dict"=some none)(Tg:PySem.W.nsIn K mainGlobals "zip"=some none)(Ox:PySem.W.nsIn K mainGlobals "repr"=some none)(p_:PySem.W.nsIn K mainGlobals "enumerate"=some none)(qu:PySem.W.nsIn K mainGlobals "FEWEST_HOUSES"=some (some (.int 2 qr)))(tX:PySem.W.nsIn K mainGlobals "MOST_HOUSES"=some (some (.int 32 tW)))(qv:PySem.W.nsIn K mainGlobals "MOST_TIES_OUT"=some (some (.int 8 qt)))(Ed:PySem.W.specialIn K (.builtin "object.__class__") "__get__"=some (some (.builtin "getset_descriptor.__get__")))(Ee:PySem.W.takesIn K (.builtin "object.__class__")=some true)(X2:PySem.W.plainGet K eH Str.empty=true)(X3:PySem.W.hasDictIn K eH=true)(X4:PySem.W.plainOver K eH=true)(X5:PySem.W.findIn K (.ref eH) "__setattr__"=some (some (.builtin "object.__setattr__")))(X6:PySem.W.findIn K (.ref eH) "__class__"=some (some (.builtin "object.__class__")))(X7:PySem.W.mroIn K eH (.type "object")=some true)(X8:PySem.W.kitOne K (.ref eH) (.ref cI)=some false)(X9:PySem.W.makesIn K eH=true)(X_:PySem.W.keepIn K (.ref eH)=true)(Ya:PySem.W.findIn K (.ref eH) "__init__"=some (some (.builtin "object.__init__")))(Yb:MD K eH "order" "Rule.order" CD)(Yc:PySem.W.plainGet K cP Str.empty=true)(Yd:PySem.W.hasDictIn K cP=true)(Ye:PySem.W.plainOver K cP=true)(Yf:PySem.W.findIn K (.ref cP) "__setattr__"=some (some (.builtin "object.__setattr__")))(Yg:PySem.W.findIn K (.ref cP) "__class__"=some (some (.builtin "object.__class__")))(Yh:PySem.W.mroIn K cP (.type "object")=some true)(Yi:PySem.W.kitOne K (.ref cP) (.ref cI)=some false)(Yj:PySem.W.makesIn K cP=true)(Yk:PySem.W.keepIn K (.ref cP)=true)(Yl:PySem.W.findIn K (.ref cP) "__init__"=some (some (.builtin "object.__init__")))(Ym:MC K cP "order" "Nearest.order" uI cN)(Yn:PySem.W.plainGet K ce Str.empty=true)(Yo:PySem.W.hasDictIn K ce=true)(Yp:PySem.W.plainOver K ce=true)(Yq:PySem.W.findIn K (.ref ce) "__setattr__"=some (some (.builtin "object.__setattr__")))(Yr:PySem.W.findIn K (.ref ce) "__class__"=some (some (.builtin "object.__class__")))(Ys:PySem.W.mroIn K ce (.type "object")=some true)(Yt:PySem.W.kitOne K (.ref ce) (.ref cI)=some false)(Yu:PySem.W.makesIn K ce=true)(Yv:PySem.W.keepIn K (.ref ce)=true)(Yw:PySem.W.findIn K (.ref ce) "__init__"=some (some (.builtin "object.__init__")))(Yx:MC K ce "order" "Farthest.order" uJ cF)(Yy:PySem.W.plainGet K eI Str.empty=true)(Yz:PySem.W.hasDictIn K eI=true)(YA:PySem.W.plainOver K eI=true)(YB:PySem.W.findIn K (.ref eI) "__setattr__"=some (some (.builtin "object.__setattr__")))(YC:PySem.W.findIn K (.ref eI) "__class__"=some (some (.builtin "object.__class__")))(YD:PySem.W.mroIn K eI (.type "object")=some true)(YE:PySem.W.kitOne K (.ref eI) (.ref cI)=some false)(YF:PySem.W.makesIn K eI=true)(YG:PySem.W.keepIn K (.ref eI)=true)(YH:PySem.W.findIn K (.ref eI) "__init__"=some (some (.builtin "object.__init__")))(YI:MC K eI "order" "Turns.order" uK cT)(YJ:PySem.W.plainGet K cI Str.empty=true)(YK:PySem.W.hasDictIn K cI=true)(YL:PySem.W.plainOver K cI=true)(YM:PySem.W.findIn K (.ref cI) "__setattr__"=some (some (.builtin "object.__setattr__")))(YN:PySem.W.findIn K (.ref cI) "__class__"=some (some (.builtin "object.__class__")))(YO:PySem.W.mroIn K cI (.type "object")=some true)(YQ:PySem.W.kitOne K (.ref cI) (.ref cI)=some true)(YR:MD K cI "order" "Rule.order" CD)(Th:PySem.W.plainGet K bT Str.empty=true)(Ti:PySem.W.hasDictIn K bT=true)(Tj:PySem.W.plainOver K bT=true)(Tk:PySem.W.findIn K (.ref bT) "__setattr__"=some (some (.builtin "object.__setattr__")))(YS:PySem.W.findIn K (.ref bT) "__class__"=some (some (.builtin "object.__class__")))(YT:PySem.W.mroIn K bT (.type "object")=some true)(YU:PySem.W.kitOne K (.ref bT) (.ref cI)=some false)(YV:PySem.W.makesIn K bT=true)(YW:PySem.W.keepIn K (.ref bT)=true)(YX:MC K bT "order" "Ranked.order" uL cR)(YY:MD K bT "check_letters" "Ranked.check_letters" Hf)(Oy:MD K bT "__init__" "Ranked.__init__" wG)(YZ:PySem.W.findIn K (.ref bT) "ranks"=some none)(q_n:PySem.W.codeHdIn K cN PN=true)(q_f:PySem.W.codeHdIn K cF PF=true)(q_t:PySem.W.codeHdIn K cT PT=true)(q_r:PySem.W.codeHdIn K cR PR=true)(ndT:[PN,PF,PT,PR].Nodup)(nPt:Pt∉[PN,PF,PT,PR])(Oz:PySem.W.codeHdIn K cO Pt=true):
  ∃fd:FuncData,(∀ (s:Shared) (v:Value),BindsTo s fd ⟨[v],[]⟩ [("_law_script",v)])/\∀base:Heap,K.In base->base.Ns mainGlobals mg->pi mg base->bJ l.prog w K mg base bh 11 fa fd ["_law_script"] (CY K Pt PN PF PT PR):=by
 obtain⟨aaa,oc,od,an,sl,kV,dc,pm,cd,ct,Tl,To,Tp,Tq⟩:=SZ;have e:=JW.symm.trans (iM X G Tl);cases e;have Tt:=rH (x:="law") (qual:="law") (st:=Bp) To Tp Tq;obtain⟨f_i,oci,odi,ani,sli,kVi,dci,pmi,cdi,cti,a_i,i_i,l_i,d_i,k_i⟩:=Os;have yA:=rH (x:="__init__") (qual:="Net.__init__") (st:=Cj) l_i d_i k_i;have Hv:=yA.binds (ps:=["self","many","ties"]) fun _ _ _ _ _ _ us hl=>match us,hl with|[_,_,_],_=>rfl
 have MK:Mk K C f_i:=⟨mk,a_i,i_i,kc⟩
 have B:Bl mg:=⟨e8 X G wP,e8 X G S7,e8 X G Ou,e8 X G Km,e8 X G Ov,e8 X G S9,e8 X G S_,e8 X G Ta,e8 X G Ko,e8 X G Ht,e8 X G Tb,e8 X G Tc,e8 X G Td,e8 X G wQ,e8 X G Te⟩
 have T:NT K mg C:=⟨⟨pg,X1,po,sa⟩,nH,nT,nO,nD,iM X G aC⟩
 have B2:M_ mg:=⟨e8 X G Tf,e8 X G Hu,e8 X G Ow,e8 X G Tg,e8 X G Ox⟩
 have hE:mg "enumerate"=none:=e8 X G p_;have Y0:UV K mg bT:=⟨⟨Th,Ti,Tj,Tk⟩,YZ,iM X G yz⟩
 obtain⟨Tu,oc9,od9,an9,sl9,kV9,dc9,pm9,cd9,ct9,Y1,Y2,Y3,Y4,Y5⟩:=Oy;have Tv:=rH (x:="__init__") (qual:="Ranked.__init__") (st:=wG) Y3 Y4 Y5;have Y6:=Tv.binds (ps:=["self","ranks"]) fun _ _ _ _ _ _ us hl=>match us,hl with|[_,_],_=>rfl
 have RMK:Mk K bT Tu:=⟨YV,Y1,Y2,YW⟩
 refine⟨PySem.W.fnOf "law" "law" (dG Bp) (b9 Bp) (au Bp) .none kV dc pm an cd ct,fun s v=>.of_eq rfl,fun base kb nb hb=>?_⟩;have CZ:dH l.prog w K mg base bh 1 "is_whole" ["thing"] (m9 K):=FD.ii X G Kc (fun _ _ _ _ _ _ us hl=>match us,hl with|[_],_=>rfl) fun Kp=>FX Kp B;have yB:dH l.prog w K mg base bh 2 "is_whole_within" ["thing","least","most"] (m_ K):=FD.ii X G Hr (fun _ _ _ _ _ _ us hl=>match us,hl with|[_,_,_],_=>rfl) fun Hw=>DR Hw CZ;have C0:dH l.prog w K mg base bh 3 "is_house" ["many","thing"] (qI K):=FD.ii X G Kd (fun _ _ _ _ _ _ us hl=>match us,hl with|[_,_],_=>rfl) fun Kq=>FZ Kq yB;have Tw:dH l.prog w K mg base bh 1 "is_row" ["thing","length"] (F3 K):=FD.ii X G SL (fun _ _ _ _ _ _ us hl=>match us,hl with|[_,_],_=>rfl) fun Tx=>MJ Tx B;have Tz:dH l.prog w K mg base bh 4 "are_unlike_houses" ["many","one","other"] F7:=FD.ii X G SN (fun _ _ _ _ _ _ us hl=>match us,hl with|[_,_,_],_=>rfl) fun TB=>MT TB C0;have TC:dH l.prog w K mg base bh 5 "is_tie" ["many","thing"] F8:=FD.ii X G SO (fun _ _ _ _ _ _ us hl=>match us,hl with|[_,_],_=>rfl) fun TD=>MU TD Tw Tz;have Kr:dH l.prog w K mg base bh 6 "check_ties" ["many","ties"] lf:=FD.ii X G Ke (fun _ _ _ _ _ _ us hl=>match us,hl with|[_,_],_=>rfl) fun Ks=>F_ Ks B ⟨_,iM X G qu⟩ ⟨_,iM X G tX⟩ yB TC;have TF:dH l.prog w K mg base bh 1 "check_balance" ["many","ties"] lf:=FD.ii X G SS (fun _ _ _ _ _ _ us hl=>match us,hl with|[_,_],_=>rfl) fun TH=>MV TH B ⟨_,iM X G qv⟩;have OA:dH l.prog w K mg base bh 1 "houses_out" ["many","ties","house"] (wf Pt):=FC.ii X G Oh (fun _ _ _ _ _ _ us hl=>match us,hl with|[_,_,_],_=>rfl) fun OB=>Jm OB B kb hb Oz;have OC:dH l.prog w K mg base bh 1 "distances_from" ["out_lists","start"] wg:=FD.ii X G Oi (fun _ _ _ _ _ _ us hl=>match us,hl with|[_,_],_=>rfl) fun OD=>Jn OD B;have Ku:dH l.prog w K mg base bh 1 "check_reached" ["distances"] wm:=FD.ii X G Kg (fun _ _ _ _ _ _ us hl=>match us,hl with|[_],_=>rfl) fun Kv=>Gf Kv B;have OE:bJ l.prog w K mg base bh 7 f_i _ ["self","many","ties"] (AU C Pt):=Jq yA T B Kr TF OA OC Ku;have C1:iZ l.prog w K mg base bh 4 C "check_house" ["self","thing"] (nh C):=MD.ii Kl (fun _ _ _ _ _ _ us hl=>match us,hl with|[_,_],_=>rfl) fun Ef=>DU Ef T C0;have HB:iZ l.prog w K mg base bh 5 C "far" ["self","one","other"] (me C):=MD.ii S0 (fun _ _ _ _ _ _ us hl=>match us,hl with|[_,_,_],_=>rfl) fun Kw=>Jh Kw T C1;have TJ:iZ l.prog w K mg base bh 5 C "out" ["self","house"] (AQ C):=MD.ii S4 (fun _ _ _ _ _ _ us hl=>match us,hl with|[_,_],_=>rfl) fun Kx=>Jg Kx T B C1;have OF:iZ l.prog w K mg base bh 6 C "good" ["self","house","home"] (wD C):=MD.ii Ot (fun _ _ _ _ _ _ us hl=>match us,hl with|[_,_,_],_=>rfl) fun HC=>G8 HC T HB;have Eg:dH l.prog w K mg base bh 1 "under_way" ["stand"] A_:=FD.ii X G XT (fun _ _ _ _ _ _ us hl=>match us,hl with|[_],_=>rfl) fun Y7=>Sl Y7 (e8 X G p_);have Y8:dH l.prog w K mg base bh 1 "first_free" ["others","stand","goes","letter"] NJ:=FD.ii X G XU (fun _ _ _ _ _ _ us hl=>match us,hl with|[_,_,_,_],_=>rfl) fun Y9=>Sm Y9 B;have TL:dH l.prog w K mg base bh 1 "_law_pot" ["_law_script","_law_k"] (Gm K):=FD.ii X G SU (fun _ _ _ _ _ _ us hl=>match us,hl with|[_,_],_=>rfl) fun TM=>Na TM B B2;have jC:dH l.prog w K mg base bh 1 "_law_take" ["_law_pot_here","_law_many"] gE:=FD.ii X G Oj (fun _ _ _ _ _ _ us hl=>match us,hl with|[_,_],_=>rfl) fun OG=>Jy OG B2;have OH:dH l.prog w K mg base bh 2 "_law_beat" ["_law_pot_here"] A1:=FD.ii X G Ol (fun _ _ _ _ _ _ us hl=>match us,hl with|[_],_=>rfl) fun OI=>Jz OI jC;have HD:dH l.prog w K mg base bh 1 "_law_ring" ["_law_many"] wv:=FD.ii X G Om (fun _ _ _ _ _ _ us hl=>match us,hl with|[_],_=>rfl) fun OJ=>JE OJ B;have OK:dH l.prog w K mg base bh 2 "_law_some_pairs" ["_law_pot_here","_law_many","_law_more"] A2:=FD.ii X G On (fun _ _ _ _ _ _ us hl=>match us,hl with|[_,_,_],_=>rfl) fun OL=>JG OL B jC;have TN:dH l.prog w K mg base bh 2 "_law_box" ["_law_pot_here"] uF:=FD.ii X G SV (fun _ _ _ _ _ _ us hl=>match us,hl with|[_],_=>rfl) fun TQ=>Nk TQ B jC;have Ky:dH l.prog w K mg base bh 2 "_law_words" ["_law_pot_here"] uF:=FD.ii X G Kh (fun _ _ _ _ _ _ us hl=>match us,hl with|[_],_=>rfl) fun Kz=>GJ Kz B jC;have TR:dH l.prog w K mg base bh 2 "_law_one_way" ["_law_pot_here","_law_many"] GT:=FD.ii X G SW (fun _ _ _ _ _ _ us hl=>match us,hl with|[_,_],_=>rfl) fun TU=>Nt TU B B2 jC HD;have TV:dH l.prog w K mg base bh 2 "_law_renamed" ["_law_pot_here","_law_many","_law_ties"] Cz:=FD.ii X G SX (fun _ _ _ _ _ _ us hl=>match us,hl with|[_,_,_],_=>rfl) fun TW=>Nq TW B jC;have TX:dH l.prog w K mg base bh 3 "_law_net" ["_law_pot_here"] GW:=FD.ii X G SY (fun _ _ _ _ _ _ us hl=>match us,hl with|[_],_=>rfl) fun TY=>NA TY B jC HD TN Ky OK TR TV;have KA:dH l.prog w K mg base bh 1 "_law_outs" ["_law_many","_law_ties"] wB:=FD.ii X G Ki (fun _ _ _ _ _ _ us hl=>match us,hl with|[_,_],_=>rfl) fun KB=>GX KB B B2;have OM:dH l.prog w K mg base bh 1 "_law_far" ["_law_outs_here"] A7:=FD.ii X G Oo (fun _ _ _ _ _ _ us hl=>match us,hl with|[_],_=>rfl) fun ON=>JL ON B;have KC:dH l.prog w K mg base bh 2 "_law_start" ["_law_pot_here","_law_outs_here"] wC:=FD.ii X G Kj (fun _ _ _ _ _ _ us hl=>match us,hl with|[_,_],_=>rfl) fun KD=>GZ KD B jC;have OO:dH l.prog w K mg base bh 9 "_law_case" ["_law_pot_here"] (Ba C Pt):=FD.ii X G Op (fun _ _ _ _ _ _ us hl=>match us,hl with|[_],_=>rfl) fun OP=>JV OP T MK Hv OE TX KA KC OM;have KE:dH l.prog w K mg base bh 2 "_law_ranks" ["_law_pot_here","_law_many"] wN:=FD.ii X G Kk (fun _ _ _ _ _ _ us hl=>match us,hl with|[_,_],_=>rfl) fun KG=>Hl KG B jC;have Y_:bJ l.prog w K mg base bh 2 Tu _ ["self","ranks"] (wL bT):=Hg Tv B Y0 CZ;have TZ:iZ l.prog w K mg base bh 1 bT "check_letters" ["self","homes"] (Bg bT):=MD.ii YY (fun _ _ _ _ _ _ us hl=>match us,hl with|[_,_],_=>rfl) fun F=>JY F B Y0;have RS:Sz l.prog w K mg base C eH cP ce eI cI bT PN PF PT PR:=⟨⟨⟨X2,X3,X4,X5⟩,iM X G Ka,X6,Ed,Ee,X7,X8⟩,⟨⟨Yc,Yd,Ye,Yf⟩,iM X G Ec,Yg,Ed,Ee,Yh,Yi⟩,⟨⟨Yn,Yo,Yp,Yq⟩,iM X G Bq,Yr,Ed,Ee,Ys,Yt⟩,⟨⟨Yy,Yz,YA,YB⟩,iM X G Kb,YC,Ed,Ee,YD,YE⟩,⟨⟨YJ,YK,YL,YM⟩,iM X G Hq,YN,Ed,Ee,YO,YQ⟩,⟨⟨Th,Ti,Tj,Tk⟩,iM X G yz,YS,Ed,Ee,YT,YU⟩,ndT,(MD.ii Yb (fun _ _ _ _ _ _ us hl=>match us,hl with|[_,_,_,_,_],_=>rfl) fun F=>CH F Eg),(MC.ii Ym (fun _ _ _ _ _ _ us hl=>match us,hl with|[_,_,_,_,_],_=>rfl) fun F=>Ss F B kb hb q_n T HB Eg),(MC.ii Yx (fun _ _ _ _ _ _ us hl=>match us,hl with|[_,_,_,_,_],_=>rfl) fun F=>Su F B kb hb q_f T HB Eg),(MC.ii YI (fun _ _ _ _ _ _ us hl=>match us,hl with|[_,_,_,_,_],_=>rfl) fun F=>Sv F B kb hb q_t Eg),(MD.ii YR (fun _ _ _ _ _ _ us hl=>match us,hl with|[_,_,_,_,_],_=>rfl) fun F=>CH F Eg),(MC.ii YX (fun _ _ _ _ _ _ us hl=>match us,hl with|[_,_,_,_,_],_=>rfl) fun F=>Sw F B kb hb q_r Y0 TZ Eg)⟩
 have Za:dH l.prog w K mg base bh 1 "hand_in_turn" ["net","homes","stand","letters","goes"] N0:=FD.ii X G XV (fun _ _ _ _ _ _ us hl=>match us,hl with|[_,_,_,_,_],_=>rfl) fun aak=>SC;have Zb:dH l.prog w K mg base bh 7 "hand_eagerly" ["net","homes","stand","letters","goes"] (NZ C):=FD.ii X G XW (fun _ _ _ _ _ _ us hl=>match us,hl with|[_,_,_,_,_],_=>rfl) fun Zc=>SA Zc T OF TJ Y8;have OQ:dH l.prog w K mg base bh 10 "hand" ["rule","net","homes","stand","beat"] (Bn C eH cP ce eI cI bT PN PF PT PR):=FD.ii X G Oq (fun _ _ _ _ _ _ us hl=>match us,hl with|[_,_,_,_,_],_=>rfl) fun OR=>J6 OR B RS Za Zb;have Zd:dH l.prog w K mg base bh 1 "_law_is_right" ["_law_outs_here","_law_stand","_law_told"] N4:=FD.ii X G XX (fun _ _ _ _ _ _ us hl=>match us,hl with|[_,_,_],_=>rfl) fun Ze=>SE Ze B B2;have Zf:dH l.prog w K mg base bh 1 "_law_nearer" ["_law_far_here","_law_homes","_law_stand","_law_told"] N7:=FD.ii X G XY (fun _ _ _ _ _ _ us hl=>match us,hl with|[_,_,_,_],_=>rfl) fun Zg=>SF Zg hE;have Zh:dH l.prog w K mg base bh 2 "_law_is_eager" ["_law_case_here","_law_stand","_law_told"] N8:=FD.ii X G XZ (fun _ _ _ _ _ _ us hl=>match us,hl with|[_,_,_],_=>rfl) fun Zi=>SG Zi hE Zf;have Zj:dH l.prog w K mg base bh 1 "_law_behind" ["_law_homes","_law_told"] Ob:=FD.ii X G X0 (fun _ _ _ _ _ _ us hl=>match us,hl with|[_,_],_=>rfl) fun Zk=>SI Zk B B2;exact Oc Tt B RS nPt ⟨X9,Ya,X_⟩ ⟨Yj,Yl,Yk⟩ ⟨Yu,Yw,Yv⟩ ⟨YF,YH,YG⟩ RMK Y6 Y_ TL OH OO KE OQ Zd Zh Zj
theorem yC(h:((List.range 2000).any fun c=>PySem.W.codeHdIn K c P)=true):∃c,PySem.W.codeHdIn K c P=true:=
 let ⟨c,_,e⟩:=zG.mp h;⟨c,e⟩
theorem OS(hO:BY ts H)(h:a9 K H a xs):Lz K H a xs:=by
 rcases h with h|h
 .rcases h with h|⟨o,h⟩
  .rcases hO.2 a with z|⟨_,z⟩|⟨o,ys,z⟩ <;> · rw[h] at z;cases z
  .exact .inl ⟨o,h⟩
 .exact .inr fun H'=>.inr h
theorem walk{l:PySem.W.OpenLaw}{q:Program}{uh:List Str}{XP:(Str->Option Value)->Heap->Prop}{YP:World->Heap->Prop}{d:DefRec}{K:Params->PySem.W.Frag}{Pt PR PT PF PN:Addr}(hn:l.most=some 63)(Qp:d.params.defaults=[])(hY:∀ (w:World) (h:Heap),YP w h->(K w.params).In h)(hT:∀ (w:World) (h:Heap),YP w h->∀P∈[Pt,PR,PT,PF,PN],h.get? P=some (PySem.W.tabObj #[]))(Zl:∀ (w:World),((List.range 2000).any fun c=>PySem.W.codeHdIn (K w.params) c Pt)=true)(Zm:∀ (w:World),(K w.params).lookup Pt=none)(Zn:∀ (w:World),((List.range 2000).any fun c=>PySem.W.codeHdIn (K w.params) c PR)=true)(Zo:∀ (w:World),(K w.params).lookup PR=none)(Zp:∀ (w:World),((List.range 2000).any fun c=>PySem.W.codeHdIn (K w.params) c PT)=true)(Zq:∀ (w:World),(K w.params).lookup PT=none)(Zr:∀ (w:World),((List.range 2000).any fun c=>PySem.W.codeHdIn (K w.params) c PF)=true)(Zt:∀ (w:World),(K w.params).lookup PF=none)(Zu:∀ (w:World),((List.range 2000).any fun c=>PySem.W.codeHdIn (K w.params) c PN)=true)(Zv:∀ (w:World),(K w.params).lookup PN=none)(F:∀ (w:World) (mg:Str->Option Value) (fa:Addr) (h:Heap),(K w.params).In h->h.Ns mainGlobals mg->mg d.name=some (.ref fa)->
   ∃fd:FuncData,(∀ (s:Shared) (u:Value),BindsTo s fd ⟨[u],[]⟩ [("_law_script",u)])/\∀base:Heap,(K w.params).In base->base.Ns mainGlobals mg->pi mg base->bJ l.prog w (K w.params) mg base bh 11 fa fd ["_law_script"] (CY (K w.params) Pt PN PF PT PR)):
  PySem.W.WalkO q uh XP YP l.row.toRowW d [] (fun f vs=>PySem.call f vs):=
 Fu (n:=63) (k:=11) (x:="_law_script") (ts:=[Pt,PR,PT,PF,PN]) (K:=K) (CX:=fun _=>bh) (sp:=fun w=>(CY (K w.params) Pt PN PF PT PR)) hn (by decide) Qp ⟨rfl,by decide,by decide,rfl⟩ hY hT
  (fun w P=>fun e=>(bn.mp e).elim (fun e=>by rw[e];exact yC (Zl w)) (fun e=>(bn.mp e).elim (fun e=>by rw[e];exact yC (Zn w)) (fun e=>(bn.mp e).elim (fun e=>by rw[e];exact yC (Zp w)) (fun e=>(bn.mp e).elim (fun e=>by rw[e];exact yC (Zr w)) (fun e=>by rw[cU.mp e];exact yC (Zu w)))))) (fun w P=>fun e=>(bn.mp e).elim (fun e=>by rw[e];exact Zm w) (fun e=>(bn.mp e).elim (fun e=>by rw[e];exact Zo w) (fun e=>(bn.mp e).elim (fun e=>by rw[e];exact Zq w) (fun e=>(bn.mp e).elim (fun e=>by rw[e];exact Zt w) (fun e=>by rw[cU.mp e];exact Zv w))))) F
  (fun w H a ns hl hO hS=>⟨a,ns,rfl,OS hO hS,hl,.inl (hO.1 _ (by simp)),⟨.inl (hO.1 _ (by simp)),.inl (hO.1 _ (by simp)),.inl (hO.1 _ (by simp)),.inl (hO.1 _ (by simp))⟩,fun _=>rfl⟩) fun _ _ _ _ _ z=>z
end p6
open PySem PySem.W PyProof.Rows
namespace PySem.W.Fast
def tw8893662263538076276:=trivial
def tw11809800963264323651:=trivial
def tw4733501700103390034:=trivial
def tw8790786640640756856:=trivial
def tw3418135186302620234:=trivial
def tw18379992711471180631:=trivial
def tw17265853419015840704:=trivial
def tw2708050454609679275:=trivial
def tw7398726690686235734:=trivial
def tw8178211641429574990:=trivial
def tw18147106249497662632:=trivial
def tw7182209847736526767:=trivial
def tw5288265299265625061:=trivial
def tw12038499110412114998:=trivial
def tw2648450739736214571:=trivial
def tw4010431763387290392:=trivial
def tw13327136612133518445:=trivial
def tw11985182673197937440:=trivial
def tw6971997936697184963:=trivial
def tw12137750990626948701:=trivial
def tw13816584135474798420:=trivial
def tw6404894091764723634:=trivial
def tw7809471443602012370:=trivial
def tw12225371499178547616:=trivial
def tw14503452876195256791:=trivial
def tw6431295281825276272:=trivial
def tw4208099648516682594:=trivial
def tw2146058100257481097:=trivial
def tw9861472705477554497:=trivial
def tw18085260347030553048:=trivial
def tw627694660667012892:=trivial
def tw7199677856061512122:=trivial
def tw2406982684248641202:=trivial
def tw7197485788460480168:=trivial
def tw6123471009079905479:=trivial
def tw11292809958172023129:=trivial
def tw11012981363249701110:=trivial
def tw397814714295976720:=trivial
def tw13904576093950129186:=trivial
def tw12429196076355923418:=trivial
def tw15625932816290673272:=trivial
def tw10374414200376138769:=trivial
def tw6615365330755572473:=trivial
def tw291596741457429783:=trivial
def tw16486140682915413165:=trivial
def tw4377717584708545030:=trivial
def tw3452261603619681556:=trivial
def tw14075986945119169213:=trivial
def tw11608830674616055542:=trivial
def tw803736198911157649:=trivial
def tw12925778967698406098:=trivial
def tw6092706396387279722:=trivial
def tw1842228674015471110:=trivial
def tw16322624550572772716:=trivial
def tw17004369289438935054:=trivial
def tw3989574107893280077:=trivial
def tw18218309894726750465:=trivial
def tw6738109607082333180:=trivial
def tw16939144959319120234:=trivial
def tw4493764498851497733:=trivial
def tw10360466419251645137:=trivial
def tw530862249345006579:=trivial
def tw11489093218495856500:=trivial
def tw6349907367549610688:=trivial
def tw4496450343391689491:=trivial
def tw8741292889183021593:=trivial
def tw18136208769681085933:=trivial
def tw5515868038680153955:=trivial
def tw8766602175702353240:=trivial
def tw6262547739588484025:=trivial
def tw2867129647623158245:=trivial
def tw4400698603757249618:=trivial
def tw18186937778535762912:=trivial
def tw15183968289653596090:=trivial
def tw8364816563535508970:=trivial
def tw11134123877144095005:=trivial
def tw12673030758073174483:=trivial
def tw13266431254959584374:=trivial
def tw16096203152620717038:=trivial
def tw6348306954006844997:=trivial
def tw14773552858526727473:=trivial
def tw5843053843018093802:=trivial
def tw1993247482001075159:=trivial
def tw4323335179278353013:=trivial
def tw17042400594484876105:=trivial
def tw11109902270604396798:=trivial
def tw11805434229312543525:=trivial
def tw5275564206187903508:=trivial
def tw6483583180744684491:=trivial
def tw14867614731028152682:=trivial
def tw7109031336344845861:=trivial
def tw2297076150482330351:=trivial
def tw5451501908679431235:=trivial
def tw9620377512868871065:=trivial
def tw5774383209895447062:=trivial
def tw11948329089769691838:=trivial
def tw11017861393752339700:=trivial
def tw4324487073273097355:=trivial
def tw14980828147383577528:=trivial
def tw1082378147951403494:=trivial
def tw7216780347810615541:=trivial
def tw366619502706499245:=trivial
def tw3561033876147850089:=trivial
def tw10085459150981113402:=trivial
def tw4097537436248665757:=trivial
def tw6876787979981267734:=trivial
def tw15494920862193576323:=trivial
def tw16612507087269465937:=trivial
def tw18088122830998460923:=trivial
def tw6012286692813444437:=trivial
def tw8992619978486534750:=trivial
def tw5625711904180676302:=trivial
def tw17293941857078893292:=trivial
def tw12862200768101569024:=trivial
def tw11309483631415877011:=trivial
def tw16051793750649466569:=trivial
def tw15533229563646174258:=trivial
def tw9184348693328512396:=trivial
def tw13094012676626684779:=trivial
def tw7416750897811834386:=trivial
def tw17874020227202412109:=trivial
def tw3379947786328868602:=trivial
def tw2113277633338795926:=trivial
def tw12099953757049882145:=trivial
def tw17077128069306820207:=trivial
def tw7340134260573742103:=trivial
def tw3762601623885975387:=trivial
def tw4798311846838400117:=trivial
def tw13008252639302002315:=trivial
def tw16426832979884336023:=trivial
def tw3468125401428038507:=trivial
def tw15957099668928051933:=trivial
def tw17681863398784070852:=trivial
def tw3316102019074571627:=trivial
def tw7212406136953354397:=trivial
def tw3524988879362203494:=trivial
def tw8060644069125389662:=trivial
def tw14917174367468303625:=trivial
def tw17446378219501074745:=trivial
def tw17752096684395585931:=trivial
def tw5229289357111998407:=trivial
def tw6428171968173593521:=trivial
def tw16800181250961348963:=trivial
def tw7947770741460644496:=trivial
def tw3860079860068222240:=trivial
def tw17744396979864302888:=trivial
def tw4836128447258885092:=trivial
def tw525940426547181794:=trivial
def tw3038388020064451051:=trivial
def tw13259761208475375709:=trivial
def tw17075072585477765744:=trivial
def tw18094996032696036098:=trivial
def tw11975606911995145573:=trivial
def tw16056356669915157114:=trivial
def tw16084831077726947739:=trivial
def tw14385230096330956731:=trivial
def tw2568865152262114089:=trivial
def tw14107955979078101111:=trivial
def tw17385492378247466263:=trivial
def tw5229855900163809572:=trivial
def tw1450370811025686881:=trivial
def tw4415978067804995074:=trivial
def tw1745378635765922647:=trivial
def tw15709192547529609354:=trivial
def tw5388369976832959630:=trivial
def tw230570523139221465:=trivial
def tw8449394164097503062:=trivial
def tw15307034863403771033:=trivial
def tw15780017016695693059:=trivial
def tw4433720433126583619:=trivial
def tw15788051183973623902:=trivial
def tw15527956327663138696:=trivial
def tw14367626435317221377:=trivial
def tw12134418776987453683:=trivial
def tw491623181401449762:=trivial
def tw2303789379568596969:=trivial
def tw6858138709570244299:=trivial
def tw1733670747141487005:=trivial
def tw53920081032764887:=trivial
def tw2786653394399066444:=trivial
def tw15392769614936718656:=trivial
def tw2221620077799896119:=trivial
def tw16403653612531546551:=trivial
def tw12491397052779510893:=trivial
def tw7621533067504357874:=trivial
def tw4673455810910644848:=trivial
def tw934578782695422413:=trivial
def tw15981111774617465008:=trivial
def tw4744651427011680760:=trivial
def tw2230386432739980502:=trivial
def tw13758123342793053245:=trivial
def tw1486405693648818902:=trivial
def tw16681308767164278925:=trivial
def tw10430988711989111900:=trivial
def tw18344480384937278956:=trivial
def tw18157610143049724221:=trivial
def tw17008527065729273954:=trivial
def tw3300967650524392795:=trivial
def tw5954371592736279386:=trivial
def tw14611472730653591352:=trivial
def tw5033491781825689486:=trivial
def tw5096560935254013982:=trivial
def tw12665979456973345608:=trivial
def tw11476564651692537971:=trivial
def tw5372813000656799085:=trivial
def tw5601101426898364645:=trivial
def tw10136408513765838734:=trivial
def tw18040885002608353494:=trivial
def tw11258795054616302687:=trivial
def tw11300891032922899221:=trivial
def tw9805800563439522494:=trivial
def tw2786327463755388133:=trivial
def tw2661868449260149550:=trivial
def tw2422201228359812324:=trivial
def tw15138653830252389511:=trivial
def tw15129948892090863128:=trivial
def tw6649164332946469865:=trivial
def tw533600074139726736:=trivial
def tw8403813029279227406:=trivial
def tw7930871205671390243:=trivial
def tw11511356782545267609:=trivial
def tw14663219747591313266:=trivial
def tw14081571823650041723:=trivial
def tw11291390379346896959:=trivial
def tw17918049448623850266:=trivial
def tw17758643290260238094:=trivial
def tw11744833647637585177:=trivial
def tw13486104191021707565:=trivial
def tw4655129619988542163:=trivial
def tw13911849668883440198:=trivial
def tw4910400983553935979:=trivial
def tw15555168349957578314:=trivial
def tw13268146360580659430:=trivial
def tw14890667633619937122:=trivial
def tw14274638679455582722:=trivial
def tw13464636369177834090:=trivial
def tw3241956775027489763:=trivial
def tw8264946097246114443:=trivial
def tw9178220487127694664:=trivial
def tw14926533836788798227:=trivial
def tw6926089696530603087:=trivial
def tw9379063185177033704:=trivial
def tw12241691636538252444:=trivial
def tw513014726243977075:=trivial
def tw9690808150107704439:=trivial
def tw11232213102026483608:=trivial
def tw8089103127317320735:=trivial
def tw13769933950355031209:=trivial
def tw8718476284466659786:=trivial
def tw9629665091485846487:=trivial
def tw5544998507021100878:=trivial
def tw15268115506690104492:=trivial
def tw1422593008293220457:=trivial
def tw10023188022989659284:=trivial
def tw15288303513392759060:=trivial
def tw736514813877880285:=trivial
def tw16190107634689605227:=trivial
def tw13013956878315115397:=trivial
def tw5334562874313235411:=trivial
def tw13295757282001110935:=trivial
def tw16130752382586632191:=trivial
def tw6315194565918938546:=trivial
def tw9014306704643862578:=trivial
def tw6096606300141796875:=trivial
def tw4676880439955867750:=trivial
def tw11052683190849767839:=trivial
def tw14396372585338645332:=trivial
def tw3168772793277054985:=trivial
def tw6631542104150921461:=trivial
def tw2987438711295562082:=trivial
def tw12691177041883347676:=trivial
def tw661777865643443939:=trivial
def tw15140336488007118934:=trivial
def tw8456908449806699144:=trivial
def tw4348964117708940782:=trivial
def tw7899368851089992307:=trivial
def tw6083225815089875540:=trivial
def tw8243862426775536498:=trivial
def tw8564200653326064751:=trivial
def tw4742240937313372189:=trivial
def tw10031447258137645153:=trivial
def tw13834764955749934597:=trivial
def tw1780953973414962465:=trivial
def tw235558572491360010:=trivial
def tw8627294817889173555:=trivial
def tw9987229001935837096:=trivial
def tw12051683593331978436:=trivial
def tw1009936675398961971:=trivial
def tw10562257202580192111:=trivial
def tw10960708686117116677:=trivial
def tw9998830284990679586:=trivial
def tw7700644300646732456:=trivial
def tw6106783634205724086:=trivial
def tw12151821594461977961:=trivial
def tw15734024372213249001:=trivial
def tw13321906975396979343:=trivial
def tw3393802903512677402:=trivial
def tw6918863609495908548:=trivial
def tw2965133155168945335:=trivial
def tw9591064912291973673:=trivial
def tw8524107157402161601:=trivial
def tw2011842664793672482:=trivial
def tw16772354019125811239:=trivial
def tw1899640857444858460:=trivial
def tw5970607455445818148:=trivial
def tw1113361338391951213:=trivial
def tw4156817001882187165:=trivial
def tw6528990646930973621:=trivial
def tw6088546515702780426:=trivial
def tw15485952236637828386:=trivial
def tw11285165581156773333:=trivial
def tw15322015444513306751:=trivial
def tw15720886831708856634:=trivial
def tw16668855633833355763:=trivial
def tw13483834954335804927:=trivial
def tw5261551550066199858:=trivial
def tw3749466547594500860:=trivial
def tw7116497769821246418:=trivial
def tw11448698046465725331:=trivial
def tw8776912302127458453:=trivial
def tw3175308910134996888:=trivial
def tw2362530711310859251:=trivial
def tw3707344644997157952:=trivial
def tw4820957591236143584:=trivial
def tw5806535476428865259:=trivial
def tw107467999866639307:=trivial
def tw15538111376805078089:=trivial
def tw3247127854015500907:=trivial
def tw4725610023789388536:=trivial
def tw984792936039279298:=trivial
def tw3954402673189006173:=trivial
def tw1967561810350884393:=trivial
def tw13111394964883362579:=trivial
def tw8308005857237816064:=trivial
def tw16639983918154223283:=trivial
def tw2863902391555908241:=trivial
def tw1461485123464198252:=trivial
def tw14903438677802881398:=trivial
def tw5633138662119724069:=trivial
def tw16797458540959901720:=trivial
def tw11946513825779755890:=trivial
def tw4447325999819287754:=trivial
def tw17263998337791924984:=trivial
def tw17520056099311188271:=trivial
def tw4539503475640463391:=trivial
def tw10190652445485198476:=trivial
def tw17482838526847998441:=trivial
def tw13994611953525662996:=trivial
def tw18187132659924069077:=trivial
def tw18353201169790171394:=trivial
def tw17182482666734804433:=trivial
def tw11652203855282372513:=trivial
def tw16869897221998136718:=trivial
def tw11374520404620509864:=trivial
def tw7840268591513708246:=trivial
def tw4149124710173812611:=trivial
def tw3221161328503005772:=trivial
def tw4491539413846272572:=trivial
def tw9552809361743689603:=trivial
def tw5885416839050059224:=trivial
def tw12265345657338408925:=trivial
def tw1910111888871413351:=trivial
def tw8799273183443904374:=trivial
def tw7775120111526931726:=trivial
def tw6262270049813893366:=trivial
def tw8567782424200437143:=trivial
def tw8006895250306717761:=trivial
def tw9882541115343621486:=trivial
def tw8142450267820495256:=trivial
def tw4781275895600100784:=trivial
def tw16654982884584431513:=trivial
def tw11293343810253332320:=trivial
def tw6081309026034907392:=trivial
def tw4600556548723957114:=trivial
def tw15047262207053614648:=trivial
def tw11379238214211848638:=trivial
def tw11455540510535407194:=trivial
def tw4689357920387513094:=trivial
def tw16545387930941146278:=trivial
def tw5269265627600618624:=trivial
def tw11593050179688622645:=trivial
def tw12431036603860426386:=trivial
def tw17190614058427530072:=trivial
def tw16469382011497920284:=trivial
def tw3612863091466072508:=trivial
def tw6377593127151065885:=trivial
def tw5351929909901393446:=trivial
def tw11314662354914839016:=trivial
def tw2469095563786917424:=trivial
def tw4038692000342508826:=trivial
def tw17308151094751771936:=trivial
def tw15668916307974732238:=trivial
def tw15100115104367218481:=trivial
def tw2007078926246734083:=trivial
def tw9962821762054037115:=trivial
def tw17717356413592200212:=trivial
def tw6805866386416494100:=trivial
def tw17049339249488616544:=trivial
def tw16330509177939639792:=trivial
def tw739306932540229547:=trivial
def tw3645728240036111778:=trivial
def tw16653372607103372156:=trivial
def tw7498319109503361635:=trivial
def tw3923130288639996699:=trivial
def tw13521767905201475344:=trivial
def tw392071210524993666:=trivial
def tw8207067913635460094:=trivial
def tw16214457668612634205:=trivial
def tw11590532830892629983:=trivial
def tw14149676373610807070:=trivial
def tw18297612067033234234:=trivial
def tw17714526254321931996:=trivial
def tw5576655498022428465:=trivial
def tw8948747588877304811:=trivial
def tw12002951913467673541:=trivial
def tw16846272182517798176:=trivial
def tw1459475678210010269:=trivial
def tw9455831361478463779:=trivial
def tw1129179374333291147:=trivial
def tw14675817717303225645:=trivial
def tw18083037427351864438:=trivial
def tw6305503241242852683:=trivial
def tw16112108085280170094:=trivial
def tw12474304554429879602:=trivial
def tw5803790078456353807:=trivial
def tw12945295012504579527:=trivial
def tw379121519797614346:=trivial
def tw3460592347479298427:=trivial
def tw12921849547337738331:=trivial
def tw6741108452020555094:=trivial
def tw17108216066307445115:=trivial
def tw14443669965205432543:=trivial
def tw9333938632429689150:=trivial
def tw17602021350441118111:=trivial
def tw17498745148638257804:=trivial
def tw5844136883021878285:=trivial
def tw12251310070242273300:=trivial
def tw354973200189238670:=trivial
def tw4818109491752654756:=trivial
def tw15754407987241933442:=trivial
def tw16993658766605537161:=trivial
def tw13995465066562713419:=trivial
def tw2878308309900079642:=trivial
def tw4342334691088998214:=trivial
def tw11064536013255706252:=trivial
def tw18097380066544219515:=trivial
def tw16641527933422216457:=trivial
def tw8691647127528758812:=trivial
def tw7652530330789595789:=trivial
def tw7515263131950642822:=trivial
def tw14694611634202769099:=trivial
def tw15787214658672339655:=trivial
def tw1919460223736112619:=trivial
def tw13419218255272483478:=trivial
def tw17424917781577024054:=trivial
def tw999974432093717191:=trivial
def tw5243143011635521095:=trivial
def tw12121716538315303224:=trivial
def tw17744020025104764608:=trivial
def tw9731598896620329904:=trivial
def tw5273629123231416090:=trivial
def tw8564065269147540842:=trivial
def tw4611141745447270766:=trivial
def tw15778891572337942931:=trivial
def tw8135413949214102435:=trivial
def tw12450827498037602775:=trivial
def tw12060122312633340173:=trivial
def tw15090997662457860644:=trivial
def tw9264151535957049870:=trivial
def tw1103992233612570404:=trivial
def tw11198960932870705571:=trivial
def tw1130290967895929883:=trivial
def tw14990740445989565819:=trivial
def tw2535414939577437076:=trivial
def tw14583360821735009700:=trivial
def tw2552461546601426162:=trivial
def tw396617898206030840:=trivial
def tw1090252098514649754:=trivial
def tw9632380321425072369:=trivial
def tw7180539446025938859:=trivial
def tw10440748432668270610:=trivial
def tw4952399846902137463:=trivial
def tw17587442279683636838:=trivial
def tw10963196051993655555:=trivial
def tw16032421233104885493:=trivial
def tw55627079881090079:=trivial
def tw15649591361831470982:=trivial
def tw5180796481418258501:=trivial
def tw6999687193448732899:=trivial
def tw12061431306148979507:=trivial
def tw17453261160339633566:=trivial
def tw6025913843522997205:=trivial
def tw5731318655407705309:=trivial
def tw10363343443993229803:=trivial
def tw14885098368220997918:=trivial
def tw8579255011659737883:=trivial
def tw18286646233133989719:=trivial
def tw7830282148339739644:=trivial
def tw439778495397592159:=trivial
def tw12504842339189447955:=trivial
def tw17155752778351669481:=trivial
end PySem.W.Fast
set_option maxRecDepth 100000 in
set_option maxHeartbeats 0 in
theorem PySem.Challenge.cw_neverwait_k33_whole_eager_holds : PySem.Challenge.rw_neverwait_k33_whole_eager.Holds := by
 w_on; o_law; k_head; (case hw=>w_witness2)
 k_fill
 refine p6.walk (l:=PySem.Challenge.rw_neverwait_k33_whole_eager) (Pt:=_) (PR:=_) (PT:=_) (PF:=_) (PN:=_) rfl rfl (fun w h Y=>PySem.W.km_in_of Y) (fun w h Y=>PySem.W.km_tabs_of Y) ?cd0 ?kt0 ?cd1 ?kt1 ?cd2 ?kt2 ?cd3 ?kt3 ?cd4 ?kt4 ?F;case F =>
  intro w mg fa h KX G Fb;refine' p6.Og (Pt:=_) (PR:=_) (PT:=_) (PF:=_) (PN:=_) KX G Fb ?_ ?_ ?_ ?_ ?_ ?_ ?_ ?_ ?_ ?_ ?_ ?_ ?_ ?_ ?_ ?_ ?_ ?_ ?_ ?_ ?_ ?_ ?_ ?_ ?_ ?_ ?_ ?_ ?_ ?_ ?_ ?_ ?_ ?_ ?_ ?_ ?_ ?_ ?_ ?_ ?_ ?_ ?_ ?_ ?_ ?_ ?_ ?_ ?_ ?_ ?_ ?_ ?_ ?_ ?_ ?_ ?_ ?_ ?_ ?_ ?_ ?_ ?_ ?_ ?_ ?_ ?_ ?_ ?_ ?_ ?_ ?_ ?_ ?_ ?_ ?_ ?_ ?_ ?_ ?_ ?_ ?_ ?_ ?_ ?_ ?_ ?_ ?_ ?_ ?_ ?_ ?_ ?_ ?_ ?_ ?_ ?_ ?_ ?_ ?_ ?_ ?_ ?_ ?_ ?_ ?_ ?_ ?_ ?_ ?_ ?_ ?_ ?_ ?_ ?_ ?_ ?_ ?_ ?_ ?_ ?_ ?_ ?_ ?_ ?_ ?_ ?_ ?_ ?_ ?_ ?_ ?_ ?_ ?_ ?_ ?_ ?_ ?_ ?_ ?_ ?_ ?_ ?_ ?_ ?_ ?_ ?_ ?_ ?_ ?_ ?_ ?_ ?_ ?_ ?_ ?_;all_goals first
   | (refine' p6.FD.mk ?a ?l ?d ?k; (case a=>k_is); (case l=>k_is); (case d=>k_is); (case k=>k_is))
   | (refine' p6.FC.mk ?a ?l ?d ?k; (case a=>k_is); (case l=>k_is); (case d=>k_is); (case k=>k_is))
   | (refine' p6.MD.mk ?a ?i ?l ?d ?k; (case a=>k_is); (case i=>k_is); (case l=>k_is); (case d=>k_is); (case k=>k_is))
   | (refine' p6.MC.mk ?a ?i ?l ?d ?k; (case a=>k_is); (case i=>k_is); (case l=>k_is); (case d=>k_is); (case k=>k_is))
   | k_is
   | kernel_rfl
   | decide
   | exact ⟨by kernel_rfl,by k_is,by k_is,by k_is,by k_is,by k_is,by k_is,by kernel_rfl⟩
   | skip
 case kt0=>intro w; kernel_rfl
 case cd0=>intro w; kernel_rfl
 case kt1=>intro w; kernel_rfl
 case cd1=>intro w; kernel_rfl
 case kt2=>intro w; kernel_rfl
 case cd2=>intro w; kernel_rfl
 case kt3=>intro w; kernel_rfl
 case cd3=>intro w; kernel_rfl
 case kt4=>intro w; kernel_rfl
 case cd4=>intro w; kernel_rfl
