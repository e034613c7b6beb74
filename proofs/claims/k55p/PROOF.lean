import PyProof.Rows.All
import Wide.All
import OpenK.AllK
import Wide.FinOn
import Lean
import PyProof.EqAt
import PyProof.EqKinds
import PyProof.TupleCall
import PySem.Challenge.RW_neverwait_k55_whole_far_and_two
set_option Elab.async false
set_option linter.all false
set_option maxRecDepth 100000
set_option maxHeartbeats 8000000
def aI:=@List.length_map
def bv:=@List.getD_eq_getElem?_getD
def aw:=@PySem.wpAny_bind
def b9:=@PySem.Heap.get?_push_of_some
def cH:=@List.getElem?_eq_getElem
def cp:=@List.mem_cons_of_mem
def b_:=@Nat.lt_of_lt_of_le
def bX:=@List.getElem?_map
def cg:=@List.mem_cons_self
def dO:=@List.getElem?_eq_some_iff
def bh:=@Option.some.inj
def am:=@if_pos
def aW:=@Nat.ne_of_lt
def av:=@PyProof.Rows.wpS_bind
def aX:=@List.mem_map
def aT:=@Nat.le_refl
def a8:=@PySem.Heap.lt_size
def a9:=@Nat.le_trans
def ce:=@List.length_append
def bi:=@List.mem_cons
def cI:=@List.mem_of_getElem?
def cm:=@List.size_toArray
def bT:=@List.map_append
def cA:=@List.mem_singleton
def bK:=@List.mem_range
def cL:=@PySem.Heap.get?_push_size
def bY:=@List.mem_append
def cJ:=@Bool.false_ne_true
def dP:=@List.mem_append_right
def cq:=@List.mem_filter
def cX:=@Nat.lt_succ_of_lt
def aU:=@PyProof.Rows.wpS_pure
def dk:=@of_decide_eq_true
def dq:=@List.length_range
def eM:=@List.getElem?_eq_none
def dQ:=@List.append_assoc
def fh:=@List.length_filter_le
def cZ:=@decide_eq_true
def dR:=@List.length_cons
def dS:=@List.filter_cons
def fj:=@List.mem_append_left
def eX:=@Array.toList_append
def eN:=@List.filter_append
def gH:=@PySem.F.plainAttrs_list
def cu:=@Nat.zero_le
def eY:=@Nat.lt_of_le_of_lt
def d6:=@decide_eq_false
def dt:=@Int.ofNat.inj
def dU:=@PySem.boot_len
def eZ:=@List.take_add_one
def e_:=@PySem.Heap.get?_push_ne
def eG:=@List.nodup_cons
def fS:=@PySem.W.mg_none_of
def eI:=@PySem.PassesOwn.never
def fT:=@Int.toNat_natCast
def d7:=@List.map_cons
def dC:=@getElem?_pos
def dD:=@List.map_map
def ju:=@PySem.F.type_list_append
def jv:=@PySem.F.slot_list_append
def fU:=@List.lookup_cons
def fV:=@List.getElem_mem
def gX:=@List.getElem?_range
def gh:=@List.take_length
def gj:=@Bool.and_eq_true
def ik:=@PySem.mem_of_lookup
def il:=@List.map_congr_left
def gk:=@PySem.Heap.size_update
def k4:=@Array.perm_iff_toList_perm
def jw:=@List.perm_append_comm
def k6:=@List.getElem?_append_left
def im:=@List.pairwise_map
def fm:=@Int.zero_add
def k7:=@List.length_replicate
def o4:=@List.nodup_iff_pairwise_ne
def jE:=@Bool.false_eq_true
def gI:=@PySem.wpAny_holding
def fW:=@PyProof.Rows.wpS_forRange
def iP:=@PySem.W.kia_one
def o5:=@PyProof.Rows.boot_sorted
def jF:=@List.nodup_append
def fX:=@PySem.sizeLine_eq
def o9:=@PyProof.Rows.boot_tuple
def qo:=@List.getElem?_append_right
def jx:=@List.append_nil
def jG:=@List.length_take
def qp:=@List.drop_eq_getElem_cons
def qq:=@Classical.byContradiction
def lY:=@Int.toNat_of_nonneg
def lZ:=@Array.length_toList
def tJ:=@Int.mul_le_mul_of_nonneg_left
def o_:=@List.length_singleton
def pb:=@List.Perm.append_left
def jH:=@Nat.not_lt_zero
def jI:=@List.range_succ
def jJ:=@List.length_set
def l4:=@PySem.Heap.get?_update_ne
def k8:=@PySem.wpAny_truthy_bool
def l5:=@Int.emod_lt_of_pos
def k9:=@Nat.lt_succ_self
def iw:=@List.not_mem_nil
def iy:=@List.nodup_range
def jK:=@List.mem_of_mem_take
def gx:=@PySem.Heap.size_push
def gy:=@PySem.W.mg_of
def gY:=@Array.size_map
def iz:=@List.foldl_cons
def iA:=@Bool.eq_iff_iff
def ln:=@List.take_append_drop
def jL:=@PySem.F.called_set
def jM:=@Option.toList_some
def i6:=@List.all_eq_true
def mW:=@Option.isSome_iff_exists
def jN:=@PySem.wpAny_Call_Name_kw
def fq:=@beq_iff_eq
def qr:=@PyProof.Rows.boot_isinstance
def i7:=@Int.emod_nonneg
def f8:=@PySem.wpAny_field
def lq:=@beq_eq_false_iff_ne
def dY:=@Prod.ext
def lr:=@List.replicate_succ
def qt:=@PyProof.Rows.callWith_type1
def mX:=@List.take_of_length_le
def mY:=@List.getElem?_set_self
def iB:=@Nat.lt_irrefl
def iC:=@List.any_cons
def i8:=@List.nodup_nil
def mZ:=@Array.getElem?_toList
def ft:=@PyProof.Rows.size_push'
def jO:=@Nat.div_add_mod
def jP:=@List.find?_cons
def f9:=@PySem.wpAny_mono
def m6:=@List.getElem?_set_ne
def dZ:=@PyProof.Rows.wpS_mono
def eT:=@if_false
def lu:=@Nat.mod_eq_of_lt
def i9:=@Nat.ne_of_gt
def qu:=@List.range_succ_eq_map
def m_:=@List.mem_filterMap
def qv:=@List.filter_eq_nil_iff
def ng:=@PySem.Heap.SameBut.update
def jQ:=@PySem.wpAny_seqItems
def qw:=@PySem.wpAny_callSpecial?_slot
def jR:=@PyProof.Rows.get?_update_seq
def qx:=@List.filter_map
def jS:=@List.all_cons
def gC:=@PyProof.Rows.wpS_modify
def ni:=@List.ext_getElem?
def nq:=@Array.toList_push
def uO:=@Array.getD_eq_getD_getElem?
def lw:=@PySem.wpAny_passesOwn
def qy:=@List.mem_iff_getElem
def qz:=@List.Pairwise.filter
def jT:=@Nat.le_of_lt
def nu:=@List.countP_cons
def zc:=@PyProof.Rows.F.plain_set_update_loop
def iD:=@PySem.wpAny_rule
def qA:=@PySem.Heap.get?_none_of_le
def nw:=@ne_of_beq_false
def nB:=@List.of_mem_zip
def nC:=@PySem.wpAny_call_entry
def uP:=@List.getElem?_replicate
def uQ:=@PyProof.Rows.boot_list
def uR:=@List.length_pos_of_mem
def qB:=@List.flatten_cons
def qC:=@List.any_eq_false
def uS:=@List.Perm.append_right
def uT:=@Array.toList_filterMap
def qD:=@PySem.wpAny_setField_rec
def qE:=@PySem.wpAny_pyIter_tuple
def uU:=@PyProof.Rows.boot_min
def uV:=@PyProof.Rows.boot_max
def uW:=@PyProof.Rows.boot_int
def uX:=@Nat.le_of_ble_eq_true
def uY:=@Nat.eq_of_beq_eq_true
def qF:=@Array.toList_map
def nE:=@List.cons.inj
def uZ:=@PySem.wpAny_pyNext_list_item
def qG:=@PySem.wpAny_pyIter_list
def iE:=@or_false
def lx:=@PySem.codeAny_mono
def lz:=@Nat.mul_pos
def u3:=@List.replicate_succ'
def u4:=@List.mem_of_mem_drop
def u5:=@List.mem_erase_of_ne
def lA:=@List.map_id
def lB:=@PyProof.Rows.listUpdate_at
def qH:=@List.count_cons
def u6:=@List.getElem_of_mem
def jU:=@PySem.wpAny_call
def nF:=@Nat.succ.inj
def nG:=@Nat.le_of_eq
def nI:=@PySem.wpAny_standAt
def u7:=@decide_eq_true_iff
def u8:=@PySem.codeAny_call_builtin
def u9:=@PySem.W.callWith_K
def qI:=@Nat.mul_le_mul
def qJ:=@List.Perm.refl
def zd:=@List.pairwise_iff_getElem
def ze:=@Array.getElem?_eq_getElem
def u_:=@decide_eq_true_eq
def iF:=@Ne.symm
def nJ:=@Nat.mul_add
def va:=@List.take_sublist
def vb:=@List.reverse_perm
def qK:=@Nat.mul_assoc
def zf:=@List.length_erase_of_mem
def zg:=@decide_eq_false_iff_not
def zh:=@PySem.F.type_list_count
def zi:=@PySem.F.slot_list_count
def vc:=@Nat.le_add_right
def vd:=@List.getElem_map
def ve:=@List.any_eq_true
def i_:=@if_true
def zj:=@Option.map_eq_some_iff
def qL:=@Nat.zero_add
def qM:=@Nat.lt_or_ge
def zk:=@Nat.div_div_eq_div_mul
def qN:=@List.map_nil
def vf:=@PySem.wpAny_setState_of
def vg:=@List.forIn_cons
def vh:=@List.Perm.of_eq
def vi:=@Int.natCast_mul
def vj:=@Array.Perm.refl
def qO:=@PySem.wpAny_attempt
def zm:=@PyProof.Rows.boot_all
def gZ:=@PyProof.Rows.wpS_get
def zn:=@PySem.W.kla_codeExpr
def zo:=@PySem.W.kla_callFunE
def qP:=@Nat.one_mul
def qQ:=@Nat.mul_one
def qR:=@Nat.le_succ
def zq:=@List.length_take_le'
def vk:=@List.forIn_nil
def zu:=@Array.toList_reverse
def zw:=@Array.toList_extract
def nK:=@PySem.wpAny_Name
def zx:=@PySem.W.plainGet_of
def EF:=@PyProof.Rows.F.entry_set_update_loop
def zy:=@Nat.mul_le_mul_left
def zA:=@List.length_take_le
def zB:=@List.filter_sublist
def zC:=@List.filterMap_cons
def zD:=@PySem.Heap.get?_update_other
def vo:=@PySem.wpAny_execs_nil
def vp:=@PySem.codeAny_builtin
def vq:=@Bool.not_true
def zE:=@PySem.wpAny_pyNext_list_end
def qS:=@Nat.mod_lt
def zF:=@List.getElem_range
def zG:=@List.filter_filter
def zH:=@PySem.Heap.get?_update_self
def zI:=@Array.forIn_toList
def zJ:=@PySem.wpAny_newFunctionEnv
def zK:=@PySem.wpAny_loadName_local
def zL:=@bne_self_eq_false
def vt:=@Nat.mul_comm
def vw:=@Nat.min_self
def vx:=@Nat.lt_trans
def vy:=@Nat.beq_refl
def zM:=@List.getElem?_set
def zN:=@List.foldl_append
def zO:=@List.countP_congr
def zP:=@Int.emod_eq_of_lt
def zQ:=@Bool.not_eq_true'
def zR:=@Bool.eq_false_iff
def zS:=@PySem.Around.frames_deeper
def zU:=@PySem.wpAny_loadName_free
def zV:=@PySem.W.makes_of
def zW:=@Option.getD_some
def zX:=@List.zipIdx_cons
def zY:=@List.mem_flatMap
def zZ:=@List.length_drop
def z0:=@List.ext_getElem
def EG:=@Int.mul_le_mul_of_nonneg_right
def vz:=@PySem.wpAny_newList
def z4:=@PySem.tupleKind_room_in1
def qT:=@PySem.call_meets
def z5:=@Option.map_some
def z6:=@List.find?_some
def z7:=@List.filter_nil
def z8:=@List.countP_map
def EH:=@List.countP_eq_length_filter
def z9:=@Int.natCast_add
def EI:=@PySem.F.typeOf_object_class
def z_:=@PySem.wpAny_newObj_type
def Aa:=@PySem.wpAny_loadPart_at
def EJ:=@Nat.mul_lt_mul_of_pos_left
def EK:=@List.perm_ext_iff_of_nodup
def EL:=@Int.fmod_eq_emod_of_nonneg
def EM:=@Int.fdiv_eq_ediv_of_nonneg
def EN:=@Array.toList_setIfInBounds
def EO:=@Array.getElem?_eq_some_iff
def lC:=@PyProof.Rows.wpS_lift
def qU:=@PyProof.Rows.seqEpoch_at
def EQ:=@Nat.add_mul_mod_self_left
def ER:=@List.mem_of_find?_eq_some
def ES:=@List.getElem?_zip_eq_some
def Ab:=@PySem.wpAny_eqBool_int
def ET:=@List.getElem?_take_of_lt
def EU:=@List.filterMap_cons_some
def EV:=@List.Pairwise.imp_of_mem
def Ac:=@Int.mul_assoc
namespace L2
open PySem PySem.Spec PyProof.Rows
abbrev gJ:=Sum Int Str
def tK:gJ->Value->Bool
 |.inl k,v=>Value.isInt k v
 |.inr x,v=>Value.isStrOf x v
def WR(w:World):gJ->Int
 |.inl k=>hashInt k
 |.inr x=>hashStr w x
theorem c_:∀ {k:gJ} {v:Value},tK k v=true->(∃i t,k=Sum.inl i/\v=Value.int i t)\/(∃x t,k=Sum.inr x/\v=Value.str x t)
 |.inl i,v,h=>by
  obtain⟨t,e⟩:=Value.isInt_shape (k:=i) (v:=v) h;exact .inl ⟨i,t,rfl,e⟩
 |.inr x,v,h=>by
  obtain⟨t,e⟩:=Value.isStrOf_shape (x:=x) (v:=v) h;exact .inr ⟨x,t,rfl,e⟩
theorem Dm(i:Int)(t:Tok):tK (.inl i) (.int i t)=true:=by simp[tK,Value.isInt]
theorem Dn(x:Str)(t:Tok):tK (.inr x) (.str x t)=true:=by simp[tK,Value.isStrOf]
theorem Nm(a b:Int):decide ((Sum.inl a:gJ)=Sum.inl b)=(a==b):=by
 by_cases e:a=b
 .subst e;simp
 .have h:¬ (Sum.inl a:gJ)=Sum.inl b:=fun q=>e (Sum.inl.inj q);rw[d6 h];exact(lq.mpr e).symm
theorem Nn(a b:Str):decide ((Sum.inr a:gJ)=Sum.inr b)=decide (a=b):=by
 by_cases e:a=b
 .subst e;simp
 .have h:¬ (Sum.inr a:gJ)=Sum.inr b:=fun q=>e (Sum.inr.inj q);rw[d6 h,d6 e]
theorem No(a:Int)(b:Str):decide ((Sum.inl a:gJ)=Sum.inr b)=false:=d6 (fun q=>nomatch q)
theorem Np(a:Str)(b:Int):decide ((Sum.inr a:gJ)=Sum.inl b)=false:=d6 (fun q=>nomatch q)
def dw(prog:Program)(w:World):PySem.KeyKind prog w gJ where
 is:=tK
 hash:=WR w
 inj:=fun v a b ha hb=>by
  rcases c_ ha with ⟨i,t,rfl,rfl⟩|⟨x,t,rfl,rfl⟩
  .rcases c_ hb with ⟨j,u,rfl,e⟩|⟨y,u,rfl,e⟩
   .injection e with e1 _;rw[e1]
   .exact nomatch e
  .rcases c_ hb with ⟨j,u,rfl,e⟩|⟨y,u,rfl,e⟩
   .exact nomatch e
   .injection e with e1 _;rw[e1]
 byValue:=fun k v h=>by
  rcases c_ h with ⟨i,t,rfl,rfl⟩|⟨x,t,rfl,rfl⟩ <;> rfl
 pyHash:=fun hv h=>by
  rcases c_ hv with ⟨i,t,rfl,rfl⟩|⟨x,t,rfl,rfl⟩
  .exact wpAny_pyHash_int h
  .exact wpAny_pyHash_str h
 eqBool:=fun hu hv h=>by
  rcases c_ hu with ⟨i,t,rfl,rfl⟩|⟨x,t,rfl,rfl⟩
  .rcases c_ hv with ⟨j,u,rfl,rfl⟩|⟨y,u,rfl,rfl⟩
   .rw[Nm] at h;exact Ab h
   .rw[No] at h;exact SeqAt.EqAt.int_str i t y u _ _ _ _ h
  .rcases c_ hv with ⟨j,u,rfl,rfl⟩|⟨y,u,rfl,rfl⟩
   .rw[Np] at h;exact SeqAt.EqAt.str_int x t j u _ _ _ _ h
   .rw[Nn] at h;exact wpAny_eqBool_str h
 «strs»:=fun k x t v h=>by
  rcases c_ h with ⟨i,u,rfl,e⟩|⟨y,u,rfl,e⟩
  .exact nomatch e
  .injection e with e1 _
   subst e1
   cases v <;> rfl
theorem xo(prog:Program)(w:World)(i:Int)(t:Tok):(dw prog w).is (.inl i) (.int i t)=true:=Dm i t
theorem xp(prog:Program)(w:World)(x:Str)(t:Tok):(dw prog w).is (.inr x) (.str x t)=true:=Dn x t
inductive V where
 |bV|bl (b:Bool)|int (i:Int)|str (x:Str)|Ad (b:Array UInt8)|Mu (b:UInt64)|ref (a:Addr)|ty (n:String)
 deriving DecidableEq
def bw:V->Value->Prop
 |.bV,u=>u=Value.none
 |.bl b,u=>u=Value.bool b
 |.int i,u=>∃t,u=Value.int i t
 |.str x,u=>∃t,u=Value.str x t
 |.Ad b,u=>∃t,u=Value.bytes b t
 |.Mu b,u=>∃t,u=Value.float b t
 |.ref a,u=>u=Value.ref a
 |.ty n,u=>u=Value.type n
abbrev aY:List V->List Value->Prop:=Paired bw
theorem aY.length(r:aY xs us):xs.length=us.length:=Paired.length r
theorem aY.get:∀ {xs:List V} {us:List Value} {i:Nat} {x:V},aY xs us->xs[i]?=some x->∃u,us[i]?=some u/\bw x u
 |_,_,_,_,.nil,e=>by simp at e
 |_,_,0,_,.cons r _,e=>by simp at e;subst e;exact⟨_,rfl,r⟩
 |_,_,i+1,x,.cons _ t,e=>by
  obtain⟨u,h1,h2⟩:=aY.get (i:=i) (x:=x) t (by simpa using e);exact⟨u,by simpa using h1,h2⟩
theorem aY.set(r:bw x u):∀ {xs:List V} {us:List Value} (i:Nat),aY xs us->aY (xs.set i x) (us.set i u)
 |_,_,_,.nil=>.nil
 |_,_,0,.cons _ t=>.cons r t
 |_,_,i+1,.cons q t=>.cons q (aY.set r i t)
theorem aY.append:∀ {xs ys:List V} {us ws:List Value},aY xs us->aY ys ws->aY (xs++ys) (us++ws)
 |_,_,_,_,.nil,s=>s
 |_,_,_,_,.cons r t,s=>.cons r (aY.append t s)
theorem aY.take:∀ {xs:List V} {us:List Value} (n:Nat),aY xs us->aY (xs.take n) (us.take n)
 |_,_,0,_=>.nil
 |_,_,_+1,.nil=>.nil
 |_,_,n+1,.cons r t=>.cons r (aY.take n t)
theorem aY.drop:∀ {xs:List V} {us:List Value} (n:Nat),aY xs us->aY (xs.drop n) (us.drop n)
 |_,_,0,r=>r
 |_,_,_+1,.nil=>.nil
 |_,_,n+1,.cons _ t=>aY.drop n t
def kU:Option V->Option Value->Prop
 |some v,some u=>bw v u
 |none,none=>True
 |_,_=>False
def KV{κ:Type}:List (κ×V)->List (κ×Value)->Prop:=Paired fun (p:κ×V) (q:κ×Value)=>p.1=q.1/\bw p.2 q.2
def kV:gJ->V
 |.inl i=>.int i
 |.inr x=>.str x
inductive HO where
 |lst (xs:List V)
 |tup (xs:List V)
 |dK (bj:List (gJ×V))|dT (bj:List (List gJ×V))
 |set (S:Int->Bool) (n:Nat)
 |ins (C dx:Addr) (fs:List (Str×V))
 |own (x:Addr)
 |xd (fs:List (Str×V))
 |met (f x:Addr)
 |VH (lo hi:Int)
 |xg (o:Obj) (u:HO)
 |gQ (ps:Array Value)
 |ext (φ:Heap->Prop)
abbrev Hp:=Addr->Option HO
def upd(H:Hp)(a:Addr)(o:HO):Hp:=fun b=>if b=a then some o else H b
theorem af:upd H a o a=some o:=by unfold upd;rw[am rfl]
theorem ao(h:b≠a):upd H a o b=H b:=by unfold upd;rw[if_neg h]
theorem kB:upd (upd H a o) a u=upd H a u:=by
 funext b;unfold upd;split <;> rfl
theorem fu{H:Hp}{a b:Addr}{o u:HO}(h:H a=some o)(h':H b=some u)(d:o≠u):a≠b:=by
 intro e;subst e;rw[h] at h';exact d (bh h')
theorem aj{H:Hp}{a b:Addr}{o:HO}(h:H a=some o)(h':H b=none):a≠b:=by
 intro e;subst e;rw[h] at h';cases h'
section
variable (P:Program) (w:World)
def nM(h:Heap)(a:Addr)(tL:Array Value):Prop:=∃o,h.get? a=some o/\o.cls=.type "tuple"/\∃n,o.data=.seq tL n/\o.dict=none
theorem nM.tup(p:nM h a tL):IsTup h a tL:=let ⟨o,e,c,n,d,_⟩:=p;⟨o,e,c,n,d⟩
theorem nM.new(h:Heap)(tL:Array Value):nM (h.push { cls:=.type "tuple",data:=.seq tL }) h.objs.size tL:=⟨_,cL _ rfl,rfl,_,rfl,rfl⟩
def cw(H:Hp)(h:Heap)(a:Addr):HO->Prop
 |.lst xs=>xs.length<=sizeLine/\∃ (its:List Value) (n:Nat),aY xs its/\h.get? a=some { cls:=.type "list",data:=.seq its.toArray n }
 |.tup xs=>xs.length<=sizeLine/\∃its:List Value,aY xs its/\nM h a its.toArray
 |.dK bj=>bj.length<=sizeLine/\(a==sysModules)=false/\∃vs,KV bj vs/\h.DictOf (dw P w) a vs
 |.dT bj=>bj.length<=sizeLine/\(a==sysModules)=false/\∃xs:List (List gJ×Addr×Value),
   Paired (fun (p:List gJ×V) (q:List gJ×Addr×Value)=>p.1=q.1/\H q.2.1=some (.tup (p.1.map kV))/\bw p.2 q.2.2) bj xs/\
   ∃o es ep,h.get? a=some o/\o.ExactDict/\o.data=.dict es ep/\es.toList=xs.map (entryOfKey (tupleKind (dw P w)))/\(xs.map (·.1)).Nodup
 |.set S n=>h.SetOf (intKind P w) a S n
 |.ins C dx fs=>H dx=some (.own a)/\fs.length<=1000/\dx≠a/\h.get? a=some (PySem.W.instObj C dx)/\
   ∃mA,h.Ns1 dx mA/\(∀f,kU (fs.lookup f) (mA f))/\PySem.Within mA (fs.map (·.1))
 |.own _=>∃o,h.get? a=some o
 |.xd fs=>∃mA,h.Ns1 a mA/\∀f,kU (fs.lookup f) (mA f)
 |.VH lo hi=>∃t u v,h.get? a=some { cls:=.type "range",data:=.fields #[.int lo t,.int hi u,.int 1 v] }
 |.xg o u=>h.get? a=some o/\cw H h a u
 |.gQ ps=>h.get? a=some { cls:=.none,data:=.fields ps }
 |.met f x=>h.get? a=some (PySem.W.methodObj (.ref f) (.ref x))
 |.ext φ=>φ h/\(∃o,h.get? a=some o)/\∀h1 h2:Heap,φ h1->(∀o,h1.get? a=some o->h2.get? a=some o)->φ h2
def jB(H:Hp)(h:Heap):Prop:=∀a o,H a=some o->cw P w H h a o
end
section
variable {P:Program} {w:World} {H H':Hp} {h h':Heap} {a:Addr} {o:HO}
theorem cw.lt(x:cw P w H h a o):a<h.objs.size:=by
 cases o with
 |lst xs=>obtain⟨_,_,_,_,e⟩:=x;exact a8 e
 |tup xs=>obtain⟨_,_,_,p⟩:=x;exact p.tup.lt
 |dK bj=>obtain⟨_,_,_,_,o,_,_,e,_⟩:=x;exact a8 e
 |dT bj=>obtain⟨_,_,_,_,o,_,_,e,_⟩:=x;exact a8 e
 |set S n=>obtain⟨o,_,_,_,e,_⟩:=x;exact a8 e
 |ins C dx fs=>obtain⟨_,_,_,e,_⟩:=x;exact a8 e
 |own y=>obtain⟨_,e⟩:=x;exact a8 e
 |xd fs=>obtain⟨_,⟨_,_,_,e,_⟩,_⟩:=x;exact a8 e
 |VH lo hi=>obtain⟨_,_,_,e⟩:=x;exact a8 e
 |xg ob u=>obtain⟨e,_⟩:=x;exact a8 e
 |gQ ps=>exact a8 (show h.get? a=some _ from x)
 |met f y=>exact a8 (show h.get? a=some _ from x)
 |ext φ=>obtain⟨_,⟨_,e⟩,_⟩:=x;exact a8 e
theorem Paired.Nq:∀ {l₁:List α} {l₂:List β},Paired F l₁ l₂->(∀a b,F a b->G a b)->Paired G l₁ l₂
 |_,_,.nil,_=>.nil
 |_,_,.cons r t,f=>.cons (f _ _ r) (Paired.Nq t f)
theorem cw.l6(x:cw P w H h a o)(k:∀b u,(b=a\/H b=some (.own a))->h.get? b=some u->h'.get? b=some u)(ho:∀b,H b=some (.own a)->H' b=some (.own a))(ht:∀b xs,H b=some (.tup xs)->H' b=some (.tup xs)):cw P w H' h' a o:=by
 induction o with
 |lst xs=>obtain⟨z,its,n,r,e⟩:=x;exact⟨z,its,n,r,k _ _ (.inl rfl) e⟩
 |tup xs=>obtain⟨z,its,r,ob,e,c⟩:=x;exact⟨z,its,r,ob,k _ _ (.inl rfl) e,c⟩
 |dK bj=>obtain⟨z,y,vs,r,ob,es,ep,e,c⟩:=x;exact⟨z,y,vs,r,ob,es,ep,k _ _ (.inl rfl) e,c⟩
 |dT bj=>
  obtain⟨z,y,xs,r,ob,es,ep,e,c⟩:=x;exact⟨z,y,xs,Paired.Nq r fun p q z=>⟨z.1,ht _ _ z.2.1,z.2.2⟩,ob,es,ep,k _ _ (.inl rfl) e,c⟩
 |set S n=>obtain⟨ob,es,ep,t,e,c⟩:=x;exact⟨ob,es,ep,t,k _ _ (.inl rfl) e,c⟩
 |ins C dx fs=>
  obtain⟨d,z,ne,e,mA,⟨od,es,ep,e2,c⟩,r⟩:=x;exact⟨ho _ d,z,ne,k _ _ (.inl rfl) e,mA,⟨od,es,ep,k _ _ (.inr d) e2,c⟩,r⟩
 |own y=>obtain⟨ob,e⟩:=x;exact⟨ob,k _ _ (.inl rfl) e⟩
 |xd fs=>obtain⟨mA,⟨od,es,ep,e,c⟩,r⟩:=x;exact⟨mA,⟨od,es,ep,k _ _ (.inl rfl) e,c⟩,r⟩
 |VH lo hi=>obtain⟨t,u,v,e⟩:=x;exact⟨t,u,v,k _ _ (.inl rfl) e⟩
 |xg ob u ih=>obtain⟨e,q⟩:=x;exact⟨k _ _ (.inl rfl) e,ih q⟩
 |gQ ps=>
  have e:h.get? a=some { cls:=.none,data:=.fields ps }:=x;show h'.get? a=some { cls:=.none,data:=.fields ps };exact k a _ (.inl rfl) e
 |met f y=>
  have e:h.get? a=some (PySem.W.methodObj (.ref f) (.ref y)):=x;show h'.get? a=some (PySem.W.methodObj (.ref f) (.ref y));exact k a _ (.inl rfl) e
 |ext φ=>obtain⟨p,⟨o,e⟩,st⟩:=x;exact⟨st _ _ p fun o q=>k _ _ (.inl rfl) q,⟨o,k _ _ (.inl rfl) e⟩,st⟩
theorem jB.lt(x:jB P w H h)(e:H a=some o):a<h.objs.size:=(x a o e).lt
theorem jB.fresh(x:jB P w H h)(e:h.objs.size<=a):H a=none:=by
 cases q:H a with
 |none=>rfl
 |some u=>exact absurd (b_ (x.lt q) e) (iB _)
theorem jB.kept(x:jB P w H h)(k:∀b u,h.get? b=some u->h'.get? b=some u):jB P w H h':=fun a o e=>
 (x a o e).l6 (fun b u _ q=>k b u q) (fun _ q=>q) fun _ _ q=>q
theorem jB.laid(x:jB P w H h)(k:∀b u,h.get? b=some u->h'.get? b=some u)(hp:h.objs.size<=a)(new:cw P w (upd H a o) h' a o):jB P w (upd H a o) h':=fun b u e=>by
 have hn:=x.fresh hp;by_cases hb:b=a
 .subst hb;rw[af] at e;cases e;exact new
 .rw[ao hb] at e;exact(x b u e).l6 (fun c v _ q=>k c v q) (fun c q=>by rw[ao (aj q hn)];exact q) fun c xs q=>by rw[ao (aj q hn)];exact q
end
def Rd(H:Hp)(a:Addr)(u:HO):Prop:=H a=some u\/∃o,H a=some (.xg o u)
theorem Rd.ok(r:Rd H a u)(x:jB P w H h):cw P w H h a u:=by
 rcases r with r|⟨o,r⟩
 .exact x a u r
 .obtain⟨_,q⟩:=x a _ r;exact q
def Rg:Option HO->Prop
 |some (.lst _)=>True
 |some (.dK _)=>True
 |some (.dT _)=>True
 |some (.set _ _)=>True
 |some (.ins _ _ _)=>True
 |some (.ext _)=>True
 |_=>False
section
variable {P:Program} {w:World} {H:Hp} {h h':Heap} {x e:Addr} {o':HO}
theorem jB.write(ok:jB P w H h)(mu:Rg (H x))(he:e=x\/H e=some (.own x))(k:∀b u,b≠e->h.get? b=some u->h'.get? b=some u)(Qo:∃u,h'.get? e=some u)(new:cw P w (upd H x o') h' x o'):jB P w (upd H x o') h':=fun b u q=>by
 have Rh:∀c y,H c=some (.own y)->c≠x:=fun c y r z=>by subst z;rw[r] at mu;exact mu
 have WS:∀c xs,H c=some (.tup xs)->c≠x:=fun c xs r z=>by subst z;rw[r] at mu;exact mu
 by_cases hb:b=x
 .subst hb;rw[af] at q;cases q;exact new
 .rw[ao hb] at q;by_cases Ix:b=e
  .have q':H b=some (.own x):=by
    rcases he with z|z
    .exact absurd (Ix.trans z) hb
    .rw[Ix];exact z
   rw[q] at q';cases q';obtain⟨v,hv⟩:=Qo;exact⟨v,by rw[Ix];exact hv⟩
  .refine(ok b u q).l6 (fun c v hc r=>k c v ?_ r) (fun c r=>by rw[ao (Rh c b r)];exact r) fun c xs r=>by rw[ao (WS c xs r)];exact r
   rcases hc with rfl|hc
   .exact Ix
   .rintro rfl;rcases he with z|z
    .exact Rh c b hc z
    .rw[hc] at z;cases z;exact hb rfl
end
structure Un(fs ex:List Addr)(H H':Hp)(h h':Heap):Prop where
 keep:∀b o,h.get? b=some o->H b=none->b∉fs->b∉ex->h'.get? b=some o
 slot:∀b o,h.get? b=some o->H b=none->b∈fs->b∉ex->∃sl,h'.get? b=some { o with slots:=sl }
 free:∀b o,h.get? b=some o->H b=none->b∉ex->H' b=none
 there:∀b o,h.get? b=some o->b∉ex->∃o',h'.get? b=some o'
 lD:∀b xs,H b=some (.tup xs)->H' b=some (.tup xs)
 nQ:∀b o u,H b=some (.xg o u)->H' b=some (.xg o u)
 nR:∀b ps,H b=some (.gQ ps)->∃more,H' b=some (.gQ (ps++more))
section
variable {fs fs' ex ex':List Addr} {H H1 H2:Hp} {h h1 h2 h':Heap} {a x e:Addr} {o:HO}
theorem Un.any(u:Un fs ex H H1 h h1)(q:h.get? b=some ob)(n:H b=none)(hx:b∉ex):∃sl,h1.get? b=some { ob with slots:=sl }:=by
 by_cases hb:b∈fs
 .exact u.slot b ob q n hb hx
 .exact⟨ob.slots,u.keep b ob q n hb hx⟩
theorem Un.kept(k:∀b u,h.get? b=some u->h'.get? b=some u):Un fs ex H H h h':=
 ⟨fun b ob q _ _ _=>k b ob q,fun b ob q _ _ _=>⟨ob.slots,k b ob q⟩,fun _ _ _ n _=>n,fun b ob q _=>⟨ob,k b ob q⟩,fun _ _ q=>q,fun _ _ _ q=>q,fun _ ps q=>⟨#[],by rw[q];simp⟩⟩
theorem Un.refl:Un fs ex H H h h:=Un.kept fun _ _ q=>q
theorem Un.laid(k:∀b u,h.get? b=some u->h'.get? b=some u)(hp:h.objs.size<=a)(hn:H a=none):Un fs ex H (upd H a o) h h' where
 keep:=fun b u q _ _ _=>k b u q
 slot:=fun b u q _ _ _=>⟨u.slots,k b u q⟩
 free:=fun b u q n _=>by rw[ao (aW (b_ (a8 q) hp))];exact n
 there:=fun b u q _=>⟨u,k b u q⟩
 lD:=fun b xs q=>by rw[ao (aj q hn)];exact q
 nQ:=fun b u xs q=>by rw[ao (aj q hn)];exact q
 nR:=fun b ps q=>⟨#[],by rw[ao (aj q hn),q];simp⟩
theorem Un.write(mu:Rg (H x))(he:e=x\/H e=some (.own x))(k:∀b u,b≠e->h.get? b=some u->h'.get? b=some u)(Qo:∃u,h'.get? e=some u):Un fs ex H (upd H x o) h h':=by
 have hx:∀b,H b=none->b≠x:=fun b n z=>by subst z;rw[n] at mu;exact mu
 have hb:∀b,H b=none->b≠e:=fun b n z=>by
  subst z;rcases he with r|r
  .exact hx b n r
  .rw[n] at r;cases r
 have hm:∀b u,H b=some u->¬ Rg (some u)->b≠x:=fun b u q nm z=>by subst z;rw[q] at mu;exact nm mu
 refine⟨fun b u q n _ _=>k b u (hb b n) q,fun b u q n _ _=>⟨u.slots,k b u (hb b n) q⟩,fun b u q n _=>by rw[ao (hx b n)];exact n,fun b u q _=>?_,
  fun b xs q=>by rw[ao (hm b _ q fun z=>z)];exact q,fun b u xs q=>by rw[ao (hm b _ q fun z=>z)];exact q,fun b ps q=>⟨#[],by rw[ao (hm b _ q fun z=>z),q];simp⟩⟩
 by_cases Ix:b=e
 .subst Ix;exact Qo
 .exact⟨u,k b u Ix q⟩
end
def trk(h:Heap)(H:Hp):List Addr:=(List.range h.objs.size).filter fun a=>(H a).isSome
def sK(h:Heap)(H:Hp):Heap:=PySem.W.hideAll h (trk h H)
theorem Do(h:Heap)(H:Hp):(sK h H).objs.size=h.objs.size:=PySem.W.hideAll_size _ _
theorem EW(e:h.get? b=some o)(n:H b=none):(sK h H).get? b=some o:=
 PySem.W.hideAll_get _ e fun hm=>by
  have q:(H b).isSome=true:=(cq.mp hm).2;rw[n] at q;simp at q
theorem IY(e:(sK h H).get? b=some o):h.get? b=some o/\H b=none:=by
 have e':h.get? b=some o:=PySem.W.of_hideAll (trk h H) e;refine⟨e',?_⟩;cases q:H b with
 |none=>rfl
 |some x=>
  have hm:b∈trk h H:=cq.mpr ⟨bK.mpr (a8 e'),by simp[q]⟩;have z:(sK h H).get? b=none:=PySem.W.hideAll_none (trk h H) hm;rw[z] at e;cases e
def ja(g h:Heap)(L:Addr):List (Addr×Obj):=(List.range h.objs.size).filterMap fun a=>if a=L\/(g.get? a).isSome=true then none else (h.get? a).map fun o=>(a,o)
theorem jV(h1:a≠L)(h2:g.get? a=none)(h3:h.get? a=some o):(a,o)∈ja g h L:=
 m_.mpr ⟨a,bK.mpr (a8 h3),by simp[h1,h2,h3]⟩
theorem qV(hp:p∈ja g h L):p.1≠L/\g.get? p.1=none/\h.get? p.1=some p.2:=by
 obtain⟨b,_,e⟩:=m_.mp hp;split at e
 .cases e
 .rename_i hn;cases q:h.get? b with
  |none=>rw[q] at e;simp at e
  |some u=>
   rw[q] at e;simp only[z5,Option.some.injEq] at e;subst e;refine⟨fun z=>hn (.inl z),?_,q⟩;show g.get? b=none;cases r:g.get? b with
   |none=>rfl
   |some v=>exact(hn (.inr (by simp[r]))).elim
theorem EX:News g L h (ja g h L):=fun p hp=>let ⟨a,b,c⟩:=qV hp;⟨c,a,b⟩
structure Mod(K:PySem.W.Frag)(mg:Str->Option Value)(base:Heap):Prop where
 Qp:K.In base
 glob:base.Ns mainGlobals mg
 blt:∃mb,base.Ns builtinsNs mb/\∀x:Str,x≠"__name__"->mb x=bootBuiltins x
 nolimit:base.NoLimit
structure Cx where
 prog:Program
 w:World
 K:PySem.W.Frag
 mg:Str->Option Value
 base:Heap
 A:Around
 N:List Str
 s₀:Shared
 H₀:Hp
 env:Env
 outer:List Env
 stack:List Env
 ex:List Addr
 fn:Str->Bool
 calm:Bool
 pn:List (Addr×Obj)
 xe:Value->Shared->Prop
def Dp(l:List Env):List Addr:=l.filterMap (·.frame)
abbrev Cx.fs(X:Cx):List Addr:=Dp X.outer
def Qq(sc:Scope)(x:Str):Prop:=sc.names.lookup x=some .local\/sc.names.lookup x=some .cell\/sc.names.lookup x=some .free
def Ri(sc:Scope)(x:Str):Prop:=sc.names.lookup x=some .local\/sc.names.lookup x=some .cell
def WU(env:Env)(h:Heap)(m:Str->Option Value)(x:Str)(u:Value):Prop:=
 (env.kindOf x=some .local/\m x=some u)\/((env.kindOf x=some .cell\/env.kindOf x=some .free)/\∃c,env.cells.lookup x=some c/\h.IsCell c (some u))
structure Cx.Ok(X:Cx):Prop where
 mod:Mod X.K X.mg X.base
 kind:X.env.scope.kind=.function
 glob:X.env.globals=mainGlobals
 blt:X.env.builtins=builtinsNs
 above:X.s₀.heap.objs.size<=X.env.locals
 inj:∀x y c,X.env.cells.lookup x=some c->X.env.cells.lookup y=some c->x=y
 has:∀x,(X.env.kindOf x=some .cell\/X.env.kindOf x=some .free)->∃c,X.env.cells.lookup x=some c
 Qr:∀x c,X.fn x=true->X.env.cells.lookup x=some c->X.s₀.heap.objs.size<=c
 hd:X.calm=true->X.A.handled=none
 frames:X.A.frames=some X.stack
 Qs:X.stack=X.outer\/(X.stack=X.env::X.outer/\X.env.frame=some X.env.locals)
 WV:∀b∈X.ex,b≠X.env.locals/\∀x c,X.env.cells.lookup x=some c->c≠b
 bs:∀b o,X.base.get? b=some o->X.s₀.heap.get? b=some o/\X.H₀ b=none
 Dq:X.base.objs.size<=X.s₀.heap.objs.size
 EY:∀b o,X.base.get? b=some o->b∉X.ex
 IZ:∀b∈X.ex,b∉X.fs
 nU:X.s₀.heap.FunFrames X.base X.outer
 Nr:∀b∈X.fs,X.H₀ b=none
structure aM(X:Cx)(ae:List (Addr×Obj))(σ:List (Option V))(H:Hp)(s:Shared):Prop where
 ok:X.Ok
 os:s.os=X.s₀.os
 bare:AllBare s.gens
 base:Un X.fs X.ex X.H₀ H X.s₀.heap s.heap
 loc:∃m,s.heap.Ns X.env.locals m/\∀ (i:Nat) (x:Str) (v:V),X.N[i]?=some x->σ[i]?=some (some v)->Qq X.env.scope x->∃u,bw v u/\WU X.env s.heap m x u
 cell:∀x c,X.env.cells.lookup x=some c->∃v,s.heap.IsCell c v
 free:H X.env.locals=none
 jy:∀x c,X.env.cells.lookup x=some c->H c=none
 pin:∀p∈X.pn++ae,s.heap.get? p.1=some p.2/\H p.1=none/\p.1≠X.env.locals/\p.1∉X.fs/\∀v,p.2.data≠.cell v
 bL:jB X.prog X.w H s.heap
 len:σ.length=X.N.length
section
variable {X:Cx} {ae:List (Addr×Obj)} {σ:List (Option V)} {H H':Hp} {s:Shared} {h':Heap}
theorem Cx.Ok.WW(ok:X.Ok)(e:X.base.get? b=some o):b∉X.fs:=fun hb=>by
 have:=(ok.nU.mem hb).1;rw[e] at this;cases this
theorem aM.bs(I:aM X ae σ H s):∀b o,X.base.get? b=some o->s.heap.get? b=some o/\H b=none:=fun b o e=>
 ⟨I.base.keep b o (I.ok.bs b o e).1 (I.ok.bs b o e).2 (I.ok.WW e) (I.ok.EY b o e),I.base.free b o (I.ok.bs b o e).1 (I.ok.bs b o e).2 (I.ok.EY b o e)⟩
theorem aM.bk(I:aM X ae σ H s):∀b o,X.base.get? b=some o->s.heap.get? b=some o:=fun b o e=>(I.bs b o e).1
theorem aM.mod(I:aM X ae σ H s):Mod X.K X.mg X.base:=I.ok.mod
theorem aM.lE(I:aM X ae σ H s):X.K.In s.heap:=I.ok.mod.Qp.keeps I.bk
theorem aM.nolimit(I:aM X ae σ H s):s.heap.NoLimit:=I.ok.mod.nolimit.keeps I.bk
theorem aM.fr(I:aM X ae σ H s):∃m,Fr X.base X.env.locals s.heap m:=
 let ⟨m,hn,_⟩:=I.loc
 ⟨m,hn,I.bk,a9 I.ok.Dq I.ok.above⟩
theorem aM.lt(I:aM X ae σ H s):X.env.locals<s.heap.objs.size:=let ⟨_,hn,_⟩:=I.loc;hn.lt
theorem aM.sz(I:aM X ae σ H s):X.s₀.heap.objs.size<=s.heap.objs.size:=a9 I.ok.above (jT I.lt)
theorem aM.WX(I:aM X ae σ H s)(h:s.heap.objs.size<=a):a∉X.fs:=fun hb=>by
 obtain⟨_,o,ho,_⟩:=I.ok.nU.mem hb;exact absurd (b_ (a8 ho) (a9 I.sz h)) (iB _)
theorem aM.Mv(I:aM X ae σ H s):∀x c,X.env.cells.lookup x=some c->c≠X.env.locals:=fun x c e z=>by
 obtain⟨v,o,ho,hd⟩:=I.cell x c e;obtain⟨m,⟨o',es,ep,Ae,EZ,_⟩,_⟩:=I.loc;rw[z,Ae] at ho;cases ho;rw[EZ] at hd;cases hd
theorem aM.nU(I:aM X ae σ H s):s.heap.FunFrames X.base X.outer:=by
 have all:∀ (l:List Env),(∀b∈Dp l,b∈X.fs)->X.s₀.heap.FunFrames X.base l->s.heap.FunFrames X.base l:=by
  intro l;induction l with
  |nil=>intro _ _;trivial
  |cons env r ih=>
   intro hs hl;obtain⟨hk,⟨L,o,hf,hn,ho,hd⟩,hr⟩:=hl;have hL:L∈X.fs:=hs L (by unfold Dp;rw[zC,hf];exact cg);obtain⟨sl,e⟩:=I.base.slot L o ho (I.ok.Nr L hL) hL fun z=>I.ok.IZ L z hL;exact⟨hk,⟨L,_,hf,hn,e,hd⟩,ih (fun b hb=>hs b (by unfold Dp;rw[zC,hf];exact cp _ hb)) hr⟩
 exact all X.outer (fun _ hb=>hb) I.ok.nU
theorem aM.stack(I:aM X ae σ H s):s.heap.FunFrames X.base X.stack:=by
 rcases I.ok.Qs with e|⟨e,hf⟩
 .rw[e];exact I.nU
 .rw[e];obtain⟨m,hn,_⟩:=I.loc;refine .cons (by rw[I.ok.kind];decide) hf hn ?_ I.nU;exact qA (a9 I.ok.Dq I.ok.above)
theorem aM.qW(I:aM X ae σ H s):∀b∈Dp X.stack,b∈X.env.locals::X.fs:=fun b hb=>by
 rcases I.ok.Qs with e|⟨e,hf⟩
 .rw[e] at hb;exact cp _ hb
 .rw[e] at hb;unfold Dp at hb;rw[zC,hf] at hb;exact hb
theorem aM.l7(I:aM X ae σ H s):∀b∈Dp X.stack,H b=none:=fun b hb=>by
 rcases bi.mp (I.qW b hb) with e|hb
 .rw[e];exact I.free
 .obtain⟨_,o,ho,_⟩:=I.ok.nU.mem hb;exact I.base.free b o ho (I.ok.Nr b hb) fun z=>I.ok.IZ b z hb
theorem aM.step{g':Array GenState}{t':Nat}{d':Drawn}{ch:List Addr}(I:aM X ae σ H s)(Iy:∀b∈ch,(b∈X.ex\/X.s₀.heap.objs.size<=b)/\b≠X.env.locals/\(∀x c,X.env.cells.lookup x=some c->c≠b)/\∀p∈X.pn++ae,p.1≠b)(keep:∀b o,b≠X.env.locals->b∉X.fs->b∉ch->s.heap.get? b=some o->H b=none->h'.get? b=some o)(slot:∀b o,b≠X.env.locals->b∈X.fs->b∉ch->s.heap.get? b=some o->H b=none->∃sl,h'.get? b=some { o with slots:=sl })(free:∀b o,b∉ch->s.heap.get? b=some o->H b=none->H' b=none)(there:∀b o,b∉ch->s.heap.get? b=some o->∃o',h'.get? b=some o')(lD:∀b xs,H b=some (.tup xs)->H' b=some (.tup xs))(nQ:∀b o u,H b=some (.xg o u)->H' b=some (.xg o u))(nR:∀b ps,H b=some (.gQ ps)->∃more,H' b=some (.gQ (ps++more)))(ns:∀m,s.heap.Ns X.env.locals m->h'.Ns X.env.locals m)(bL:jB X.prog X.w H' h')(hg:AllBare g'):
  aM X ae σ H' { s with heap:=h',gens:=g',drawn:=d',toks:=t' }:=by
 have VI:∀b o,X.s₀.heap.get? b=some o->b≠X.env.locals:=fun b o e=>aW (b_ (a8 e) I.ok.above);have VJ:∀b o,X.s₀.heap.get? b=some o->b∉X.ex->b∉ch:=fun b o e hx hb=>by
  rcases(Iy b hb).1 with z|z
  .exact hx z
  .exact absurd (b_ (a8 e) z) (iB _)
 have Mw:∀x c,X.env.cells.lookup x=some c->∀v,s.heap.IsCell c v->h'.IsCell c v:=fun x c e v ⟨o,ho,hd⟩=>by
  have Rj:c∉ch:=fun z=>(Iy c z).2.2.1 x c e rfl;by_cases hc:c∈X.fs
  .obtain⟨sl,q⟩:=slot c o (I.Mv x c e) hc Rj ho (I.jy x c e);exact⟨_,q,hd⟩
  .exact⟨o,keep c o (I.Mv x c e) hc Rj ho (I.jy x c e),hd⟩
 refine⟨I.ok,I.os,hg,⟨fun b o e n hb hx=>?_,fun b o e n hb hx=>?_,fun b o e n hx=>?_,fun b o e hx=>?_,fun b xs e=>lD b xs (I.base.lD b xs e),fun b o xs e=>nQ b o xs (I.base.nQ b o xs e),fun b ps e=>?_⟩,?_,fun x c e=>?_,?_,fun x c e=>?_,fun p hp=>?_,bL,I.len⟩
 .exact keep b o (VI b o e) hb (VJ b o e hx) (I.base.keep b o e n hb hx) (I.base.free b o e n hx)
 .obtain⟨sl,e1⟩:=I.base.slot b o e n hb hx;obtain⟨WY,e2⟩:=slot b _ (VI b o e) hb (VJ b o e hx) e1 (I.base.free b o e n hx);exact⟨WY,e2⟩
 .obtain⟨o',e1⟩:=I.base.there b o e hx;exact free b o' (VJ b o e hx) e1 (I.base.free b o e n hx)
 .obtain⟨o',e1⟩:=I.base.there b o e hx;exact there b o' (VJ b o e hx) e1
 .obtain⟨m1,e1⟩:=I.base.nR b ps e;obtain⟨m2,e2⟩:=nR b _ e1;exact⟨m1++m2,by rw[e2,Array.append_assoc]⟩
 .obtain⟨m,hn,hl⟩:=I.loc;refine⟨m,ns m hn,fun i x v e1 e2 e3=>?_⟩;obtain⟨u,r,l⟩:=hl i x v e1 e2 e3;refine⟨u,r,?_⟩;rcases l with l|⟨k,c,e,z⟩
  .exact .inl l
  .exact .inr ⟨k,c,e,Mw x c e _ z⟩
 .obtain⟨v,z⟩:=I.cell x c e;exact⟨v,Mw x c e v z⟩
 .obtain⟨m,⟨o,_,_,ho,_⟩,_⟩:=I.loc;exact free _ o (fun z=>(Iy _ z).2.1 rfl) ho I.free
 .obtain⟨v,o,ho,hd⟩:=I.cell x c e;exact free c o (fun z=>(Iy c z).2.2.1 x c e rfl) ho (I.jy x c e)
 .obtain⟨e,n,ne,nf,d⟩:=I.pin p hp;have Rj:p.1∉ch:=fun z=>(Iy p.1 z).2.2.2 p hp rfl;exact⟨keep p.1 p.2 ne nf Rj e n,free p.1 p.2 Rj e n,ne,nf,d⟩
theorem aM.un{t':Nat}(I:aM X ae σ H s)(u:Un X.fs [] H H' s.heap h')(bL:jB X.prog X.w H' h'):aM X ae σ H' { s with heap:=h',toks:=t' }:=by
 obtain⟨m,⟨o,es,ep,ho,r⟩,_⟩:=id I.loc;obtain⟨sl,hL⟩:=u.any ho I.free (by simp);exact I.step (g':=s.gens) (d':=s.drawn) (ch:=[]) (fun _ z=>nomatch z) (fun b o _ hb _ e n=>u.keep b o e n hb (by simp)) (fun b o _ hb _ e n=>u.slot b o e n hb (by simp)) (fun b o _ e n=>u.free b o e n (by simp)) (fun b o _ e=>u.there b o e (by simp)) u.lD u.nQ u.nR (fun m' hm=>by
  obtain⟨o',yU,VL,Ae,r'⟩:=hm;rw[ho] at Ae;cases Ae;exact⟨_,yU,VL,hL,r'⟩) bL I.bare
theorem aM.call{g':Array GenState}{t':Nat}{d':Drawn}{ch:List Addr}(I:aM X ae σ H s)(u:Un (Dp X.stack) ch H H' s.heap h')(bL:jB X.prog X.w H' h')(hg:AllBare g')(Iy:∀b∈ch,(b∈X.ex\/X.s₀.heap.objs.size<=b)/\b≠X.env.locals/\(∀x c,X.env.cells.lookup x=some c->c≠b)/\∀p∈X.pn++ae,p.1≠b):
  aM X ae σ H' { s with heap:=h',gens:=g',drawn:=d',toks:=t' }:=by
 obtain⟨m,⟨o,es,ep,ho,r⟩,_⟩:=id I.loc;obtain⟨sl,hL⟩:=u.any ho I.free fun z=>(Iy _ z).2.1 rfl;exact I.step (ch:=ch) Iy (fun b o hL hb hc e n=>u.keep b o e n (fun z=>(bi.mp (I.qW b z)).elim hL hb) hc) (fun b o _ _ hc e n=>u.any e n hc) (fun b o hc e n=>u.free b o e n hc) (fun b o hc e=>u.there b o e hc) u.lD u.nQ u.nR (fun m' hm=>by
  obtain⟨o',yU,VL,Ae,r'⟩:=hm;rw[ho] at Ae;cases Ae;exact⟨_,yU,VL,hL,r'⟩) bL hg
theorem aM.turned{t':Nat}{it:Addr}(I:aM X ae σ H s)(k:∀b o,b≠it->s.heap.get? b=some o->h'.get? b=some o)(hn:H it=none)(hL:it≠X.env.locals)(h1:it∈X.ex\/X.s₀.heap.objs.size<=it)(h2:∀x c,X.env.cells.lookup x=some c->c≠it)(h3:∀p∈X.pn++ae,p.1≠it):aM X ae σ H { s with heap:=h',toks:=t' }:=by
 have Mx:∀b u,H b=some u->b≠it:=fun b u e z=>by rw[z,hn] at e;cases e
 refine I.step (g':=s.gens) (d':=s.drawn) (ch:=[it]) (fun b hb=>?_) (fun b o _ _ hc e _=>k b o (fun z=>hc (by simp[z])) e) (fun b o _ _ hc e _=>⟨o.slots,k b o (fun z=>hc (by simp[z])) e⟩) (fun _ _ _ _ n=>n)
  (fun b o hc e=>⟨o,k b o (fun z=>hc (by simp[z])) e⟩) (fun _ _ e=>e) (fun _ _ _ e=>e) (fun b ps e=>⟨#[],by rw[e];simp⟩) (fun m hm=>?_) (fun b u e=>?_) I.bare
 .have e:b=it:=by simpa using hb
  subst e;exact⟨h1,hL,h2,h3⟩
 .obtain⟨o,es,ep,ho,r⟩:=hm;exact⟨o,es,ep,k _ o (iF hL) ho,r⟩
 .refine(I.bL b u e).l6 (fun c v hc q=>k c v ?_ q) (fun _ q=>q) fun _ _ q=>q;rcases hc with z|z
  .rw[z];exact Mx b u e
  .exact Mx c _ z
theorem aM.tok(I:aM X ae σ H s)(t:Nat):aM X ae σ H { s with toks:=t }:=I.un (h':=s.heap) (t':=t) Un.refl I.bL
theorem aM.kept(I:aM X ae σ H s)(k:∀b u,s.heap.get? b=some u->h'.get? b=some u):aM X ae σ H { s with heap:=h',toks:=t' }:=I.un (Un.kept k) (I.bL.kept k)
theorem aM.laid(I:aM X ae σ H s)(k:∀b u,s.heap.get? b=some u->h'.get? b=some u)(hp:s.heap.objs.size<=a)(new:cw X.prog X.w (upd H a o) h' a o):
  aM X ae σ (upd H a o) { s with heap:=h',toks:=t' }:=I.un (Un.laid k hp (I.bL.fresh hp)) (I.bL.laid k hp new)
theorem aM.write(I:aM X ae σ H s)(mu:Rg (H x))(he:e=x\/H e=some (.own x))(k:∀b u,b≠e->s.heap.get? b=some u->h'.get? b=some u)(Qo:∃u,h'.get? e=some u)(new:cw X.prog X.w (upd H x o) h' x o):aM X ae σ (upd H x o) { s with heap:=h',toks:=t' }:=I.un (Un.write mu he k Qo) (I.bL.write mu he k Qo new)
theorem aM.l8(I:aM X ae σ H s)(h:∀p∈pins',s.heap.get? p.1=some p.2/\H p.1=none/\p.1≠X.env.locals/\p.1∉X.fs/\∀v,p.2.data≠.cell v):aM X pins' σ H s:=
 ⟨I.ok,I.os,I.bare,I.base,I.loc,I.cell,I.free,I.jy,fun p hp=>(bY.mp hp).elim (fun z=>I.pin p (fj _ z)) (h p),I.bL,I.len⟩
theorem xq{N:List Str}(hN:N.Nodup){i j:Nat}{x:Str}(a:N[i]?=some x)(b:N[j]?=some x):i=j:=by
 obtain⟨h1,e1⟩:=dO.mp a;obtain⟨h2,e2⟩:=dO.mp b;exact(List.getElem_inj hN).mp (e1.trans e2.symm)
theorem tP{M:Model}{A:Around}{E:Value->Shared->Prop}{i:Nat}{x:Str}{v:V}{u:Value}{Q:Unit->Shared->Prop}(I:aM X ae σ H s)(hN:X.N.Nodup)(hi:X.N[i]?=some x)(hx:Ri X.env.scope x)(r:bw v u)(h:∀s',aM X ae (σ.set i (some v)) H s'->(∃a,Heap.SameBut a s.heap s'.heap/\(a=X.env.locals\/X.env.cells.lookup x=some a))->Q () s')(hf:X.fn x=true\/X.env.scope.names.lookup x=some .local:=by first|exact .inl rfl|exact .inr rfl|assumption):wpAny M A (storeName X.env x u) Q E s:=by
 obtain⟨m,hn,hl⟩:=id I.loc;have WZ:(X.env.scope.kind==.class||(X.env.scope.kind==.module&&X.env.locals != X.env.globals))=false:=by rw[I.ok.kind];rfl
 have hiσ:i<σ.length:=by rw[I.len];exact(dO.mp hi).1
 have Mv:=I.Mv;have BF:∀ {a:Addr} {h':Heap},(∃o,s.heap.get? a=some o/\H a=none)->Heap.SameBut a s.heap h'->jB X.prog X.w H h':=fun {a h'} ha hs b ob e=>by
  obtain⟨_,_,My⟩:=ha;refine(I.bL b ob e).l6 (fun c w' hc q=>(hs.2 c ?_).trans q) (fun _ q=>q) fun _ _ q=>q;rintro rfl;rcases hc with rfl|hc
  .rw[My] at e;cases e
  .rw[My] at hc;cases hc
 rcases hx with hk|hk
 .refine wpAny_storeName_local hk hn (fun h' hn' hs=>?_) WZ;obtain⟨oL,_,_,xr,_⟩:=id hn;refine h _ ⟨I.ok,I.os,I.bare,⟨fun b o e n hb hx=>?_,fun b o e n hb hx=>?_,I.base.free,fun b o e hx=>?_,I.base.lD,I.base.nQ,I.base.nR⟩,⟨_,hn',fun j y v' e1 e2 e3=>?_⟩,fun y c e=>?_,I.free,I.jy,fun p hp=>?_,BF ⟨oL,xr,I.free⟩ hs,by simpa using I.len⟩ ⟨_,hs,.inl rfl⟩
  .exact(hs.2 b (aW (b_ (a8 e) I.ok.above))).trans (I.base.keep b o e n hb hx)
  .obtain⟨sl,e1⟩:=I.base.slot b o e n hb hx;exact⟨sl,(hs.2 b (aW (b_ (a8 e) I.ok.above))).trans e1⟩
  .obtain⟨o',e1⟩:=I.base.there b o e hx;exact⟨o',(hs.2 b (aW (b_ (a8 e) I.ok.above))).trans e1⟩
  .by_cases hj:j=i
   .subst hj;rw[hi] at e1;cases e1;rw[mY hiσ] at e2;cases e2;exact⟨u,r,.inl ⟨hk,by simp⟩⟩
   .rw[m6 (iF hj)] at e2;obtain⟨u',r',q⟩:=hl j y v' e1 e2 e3;refine⟨u',r',?_⟩;rcases q with ⟨k,e⟩|⟨k,c,e,z⟩
    .refine .inl ⟨k,?_⟩;have:y≠x:=fun e=>hj (xq hN e1 (e ▸ hi));simp[this,e]
    .exact .inr ⟨k,c,e,z.sameBut hs (Mv y c e)⟩
  .obtain⟨w',z⟩:=I.cell y c e;exact⟨w',z.sameBut hs (Mv y c e)⟩
  .obtain⟨e,n,ne,nf,d⟩:=I.pin p hp;exact⟨(hs.2 p.1 ne).trans e,n,ne,nf,d⟩
 .have Rk:X.fn x=true:=by
   rcases hf with z|z
   .exact z
   .rw[z] at hk;cases hk
  obtain⟨c,hc⟩:=I.ok.has x (.inl hk);obtain⟨w',z⟩:=I.cell x c hc;refine wpAny_storeName_cell I.ok.kind hk hc z (fun h' Af hs=>?_);obtain⟨oc,VM,W0⟩:=id z;refine h { s with heap:=h' } ⟨I.ok,I.os,I.bare,⟨fun b o e n hb hx=>?_,fun b o e n hb hx=>?_,I.base.free,fun b o e hx=>?_,I.base.lD,I.base.nQ,I.base.nR⟩,⟨m,hn.sameBut hs (iF (Mv x c hc)),fun j y v' e1 e2 e3=>?_⟩,fun y c' e=>?_,I.free,I.jy,fun p hp=>?_,BF ⟨oc,VM,I.jy x c hc⟩ hs,by simpa using I.len⟩ ⟨c,hs,.inr hc⟩
  .exact(hs.2 b (aW (b_ (a8 e) (I.ok.Qr x c Rk hc)))).trans (I.base.keep b o e n hb hx)
  .obtain⟨sl,e1⟩:=I.base.slot b o e n hb hx;exact⟨sl,(hs.2 b (aW (b_ (a8 e) (I.ok.Qr x c Rk hc)))).trans e1⟩
  .obtain⟨o',e1⟩:=I.base.there b o e hx;exact⟨o',(hs.2 b (aW (b_ (a8 e) (I.ok.Qr x c Rk hc)))).trans e1⟩
  .by_cases hj:j=i
   .subst hj;rw[hi] at e1;cases e1;rw[mY hiσ] at e2;cases e2;exact⟨u,r,.inr ⟨.inl hk,c,hc,Af⟩⟩
   .rw[m6 (iF hj)] at e2;obtain⟨u',r',q⟩:=hl j y v' e1 e2 e3;refine⟨u',r',?_⟩;rcases q with q|⟨k,c',e,z'⟩
    .exact .inl q
    .refine .inr ⟨k,c',e,z'.sameBut hs ?_⟩;rintro rfl;exact hj (xq hN e1 (I.ok.inj _ _ _ e hc ▸ hi))
  .by_cases hcc:c'=c
   .subst hcc;exact⟨_,Af⟩
   .obtain⟨w2,z2⟩:=I.cell y c' e;exact⟨w2,z2.sameBut hs hcc⟩
  .obtain⟨e,n,ne,nf,d⟩:=I.pin p hp;refine⟨(hs.2 p.1 ?_).trans e,n,ne,nf,d⟩;intro q;rw[q,VM] at e;have q':oc=p.2:=bh e;exact d w' (by rw[<-q'];exact W0)
theorem qX(I:aM X ae σ H s)(hN:X.N.Nodup)(hi:X.N[i]?=some x)(hx:Ri X.env.scope x)(r:bw v u)(h:∀s',aM X ae (σ.set i (some v)) H s'->Q () s')(hf:X.fn x=true\/X.env.scope.names.lookup x=some .local:=by first|exact .inl rfl|exact .inr rfl|assumption):wpAny M A (storeName X.env x u) Q E s:=
 tP I hN hi hx r (fun s' I' _=>h s' I') hf
theorem aM.E3(I:aM X ae σ H s)(ho:s'.os=s.os)(u:Un (Dp X.stack) ch H H' s.heap s'.heap)(bL:jB X.prog X.w H' s'.heap)(hg:AllBare s'.gens)(Iy:∀b∈ch,(b∈X.ex\/X.s₀.heap.objs.size<=b)/\b≠X.env.locals/\(∀x c,X.env.cells.lookup x=some c->c≠b)/\∀p∈X.pn++ae,p.1≠b):aM X ae σ H' s':=by
 obtain⟨h',g',d',t',o'⟩:=s';have e:o'=s.os:=ho;subst e;exact I.call (g':=g') (t':=t') (d':=d') u bL hg Iy
end
abbrev XK:=Value->Option Addr->Hp->Prop
abbrev St:=List (Option V)
abbrev VK:=V->Hp->Prop
abbrev TE:=St->Hp->VK->Prop
abbrev TT:=St->Hp->(Bool->Hp->Prop)->Prop
abbrev TA:=St->Hp->(List V->Hp->Prop)->Prop
structure xt where
 nx:St->Hp->Prop
 rt:VK
 bk:St->Hp->Prop:=fun _ _=>False
 ct:St->Hp->Prop:=fun _ _=>False
abbrev TS:=xt->St->Hp->Prop
def EP(X:Cx)(ae:List (Addr×Obj))(σ:St)(Q:VK)(u:Value)(s':Shared):Prop:=∃v H',aM X ae σ H' s'/\bw v u/\Q v H'
def TP(X:Cx)(ae:List (Addr×Obj))(σ:St)(Q:Bool->Hp->Prop)(b:Bool)(s':Shared):Prop:=∃H',aM X ae σ H' s'/\Q b H'
def AP(X:Cx)(ae:List (Addr×Obj))(σ:St)(Q:List V->Hp->Prop)(us:List Value)(s':Shared):Prop:=∃vs H',aM X ae σ H' s'/\aY vs us/\Q vs H'
def SP(X:Cx)(ae:List (Addr×Obj))(D:xt)(f:Flow)(s':Shared):Prop:=
 match f with
 |.next=>∃σ' H',aM X ae σ' H' s'/\D.nx σ' H'
 |.brk=>∃σ' H',aM X ae σ' H' s'/\D.bk σ' H'
 |.cont=>∃σ' H',aM X ae σ' H' s'/\D.ct σ' H'
 |.ret u=>∃v σ' H',aM X ae σ' H' s'/\bw v u/\D.rt v H'
def PE(X:Cx)(e:Expr)(t:TE):Prop:=
 ∀ (ae:List (Addr×Obj)) (s:Shared) (σ:St) (H:Hp) (Q:VK),aM X ae σ H s->t σ H Q->wpAny (model X.prog X.w) X.A (eval e X.env) (EP X ae σ Q) X.xe s
def PT(X:Cx)(e:Expr)(t:TT):Prop:=
 ∀ (ae:List (Addr×Obj)) (s:Shared) (σ:St) (H:Hp) (Q:Bool->Hp->Prop),aM X ae σ H s->t σ H Q->wpAny (model X.prog X.w) X.A (isTrue e X.env (eval e X.env)) (TP X ae σ Q) X.xe s
def PW(X:Cx)(e:Expr)(t:TT):Prop:=
 ∀ (qY:Sem Value) (ae:List (Addr×Obj)) (s:Shared) (σ:St) (H:Hp) (Q:Bool->Hp->Prop),aM X ae σ H s->t σ H Q->wpAny (model X.prog X.w) X.A (isTrue e X.env qY) (TP X ae σ Q) X.xe s
theorem PW.pt(h:PW X e t):PT X e t:=h _
def PA(X:Cx)(es:List Expr)(t:TA):Prop:=
 ∀ (pos:Pos) (ae:List (Addr×Obj)) (s:Shared) (σ:St) (H:Hp) (Q:List V->Hp->Prop),aM X ae σ H s->t σ H Q->wpAny (model X.prog X.w) X.A (spliced (backTo pos (starEach es X.env))) (AP X ae σ Q) X.xe s
def PS(X:Cx)(st:Stmt)(t:TS):Prop:=
 ∀ (ae:List (Addr×Obj)) (s:Shared) (σ:St) (H:Hp) (D:xt),aM X ae σ H s->t D σ H->wpAny (model X.prog X.w) X.A (exec st X.env) (SP X ae D) X.xe s
def Ag(X:Cx)(st:List Stmt)(t:TS):Prop:=
 ∀ (ae:List (Addr×Obj)) (s:Shared) (σ:St) (H:Hp) (D:xt),aM X ae σ H s->t D σ H->wpAny (model X.prog X.w) X.A (execs st X.env) (SP X ae D) X.xe s
theorem cz(h:wpAny M A t Q E s)(hQ:∀a s,Q a s->Q' a s):wpAny M A t Q' E s:=f9 h hQ fun _ _ x=>x
section
variable {X:Cx}
def aB(i:Nat):TE:=fun σ H Q=>∃v,σ[i]?=some (some v)/\Q v H
def tC(v:V):TE:=fun _ H Q=>Q v H
theorem Nt(hN:X.N[i]?=some x)(hv:Qq X.env.scope x)(hd:(x==("__debug__":Str))=false:=by decide)(tQ:(x==("__classdict__":Str))=false:=by decide):PE X (.Name x pos) (aB i):=by
 intro ae s σ H Q I h;obtain⟨v,e,h⟩:=h;obtain⟨m,hn,hl⟩:=I.loc;obtain⟨u,r,l⟩:=hl i x v hN e hv;have dE:EP X ae σ Q u s:=⟨v,H,I,r,h⟩
 rcases l with ⟨hk,hm⟩|⟨hk,c,hc,BI⟩
 .exact nK (zK I.ok.kind hk hn hm dE) hd
 .rcases hk with hk|hk
  .exact nK (wpAny_loadName_cell I.ok.kind hk hc BI dE) hd
  .exact nK (zU I.ok.kind hk hc BI dE tQ) hd
theorem aq{i j pos}:PE X (.Constant (.int i) j pos) (tC (.int i)):=fun _ _ _ H _ I h=>wpAny_Constant_int ⟨.int i,H,I.tok _,⟨_,rfl⟩,h⟩
theorem xu{b j pos}:PE X (.Constant (.bool b) j pos) (tC (.bl b)):=fun _ _ _ H _ I h=>Constant_bool ⟨.bl b,H,I,rfl,h⟩
theorem dF{j pos}:PE X (.Constant .none j pos) (tC .bV):=fun _ _ _ H _ I h=>Constant_none ⟨.bV,H,I,rfl,h⟩
def Gl(X:Cx)(x:Str):Prop:=X.env.kindOf x=some .globalImplicit
theorem l9(I:aM X ae σ H s)(hg:Gl X x)(hm:X.mg x=some u)(h:Q u s)(hd:(x==("__debug__":Str))=false:=by decide):wpAny (model X.prog X.w) X.A (eval (.Name x pos) X.env) Q E s:=
 Calls.Name_function_global I.ok.kind hg (Calls.loadGlobal_global (by rw[I.ok.glob];exact I.mod.glob.keeps I.bk) hm h) hd
theorem jW(I:aM X ae σ H s)(hg:Gl X x)(hm:X.mg x=none)(hv:bootBuiltins x=some u)(h:Q u s)(hn:x≠"__name__":=by decide)(hd:(x==("__debug__":Str))=false:=by decide):wpAny (model X.prog X.w) X.A (eval (.Name x pos) X.env) Q E s:=by
 obtain⟨mb,h1,h2⟩:=I.mod.blt;exact Calls.Name_function_global I.ok.kind hg (Calls.loadGlobal_builtin (by rw[I.ok.glob];exact I.mod.glob.keeps I.bk) hm (by rw[I.ok.blt];exact h1.keeps I.bk) ((h2 x hn).trans hv) h) hd
theorem pV(hg:Gl X x)(hm:X.mg x=some u)(r:bw v u)(hd:(x==("__debug__":Str))=false:=by decide):PE X (.Name x pos) (tC v):=
 fun _ _ _ H _ I h=>l9 I hg hm ⟨v,H,I,r,h⟩ hd
theorem pW(hg:Gl X x)(hm:X.mg x=none)(hv:bootBuiltins x=some u)(r:bw v u)(hn:x≠"__name__":=by decide)(hd:(x==("__debug__":Str))=false:=by decide):PE X (.Name x pos) (tC v):=
 fun _ _ _ H _ I h=>jW I hg hm hv ⟨v,H,I,r,h⟩ hn hd
variable {a b:Expr} {ta tb:TE} {pos:Pos}
def PC(X:Cx)(op:CmpOp)(a b:Expr)(t:TE):Prop:=
 ∀ (ae:List (Addr×Obj)) (s:Shared) (σ:St) (H:Hp) (Q:VK),aM X ae σ H s->t σ H Q->
  wpAny (model X.prog X.w) X.A (eval a X.env) (fun v s₁=>wpAny (model X.prog X.w) X.A (eval b X.env) (fun u s₂=>wpAny (model X.prog X.w) X.A (compareOp op v u) (EP X ae σ Q) X.xe s₂) X.xe s₁) X.xe s
theorem xv(b:Expr){op:CmpOp}(h:op≠.In)(h2:op≠.NotIn):behindInMarks op b=false:=by
 have e1:(op==CmpOp.In)=false:=by cases op <;> first|rfl|exact absurd rfl h
 have e2:(op==CmpOp.NotIn)=false:=by cases op <;> first|rfl|exact absurd rfl h2
 cases b <;> simp[behindInMarks,e1,e2]
def W1(ta:TE):TE:=fun σ H Q=>ta σ H fun x H1=>Q (.bl (decide (x=.bV))) H1
theorem bw.E4{x:V}{v:Value}(r:bw x v):(v==Value.none)=decide (x=.bV):=by
 cases x with
 |bV=>cases r;rfl
 |bl _=>cases r;rfl
 |int _=>obtain⟨t,rfl⟩:=r;rfl
 |str _=>obtain⟨t,rfl⟩:=r;rfl
 |Ad _=>obtain⟨t,rfl⟩:=r;rfl
 |Mu _=>obtain⟨t,rfl⟩:=r;rfl
 |ref _=>cases r;rfl
 |ty _=>cases r;rfl
theorem Nu{j sM}(ha:PE X a ta):PC X .Is a (.Constant .none j sM) (W1 ta):=by
 intro ae s σ H Q I h;refine cz (ha ae s σ H _ I h) fun v s1 ⟨x,H1,I1,r1,q1⟩=>?_;exact Constant_none (is_none_gen ⟨.bl _,H1,I1,by rw[r1.E4];rfl,q1⟩)
def tB(t:TE):TT:=fun σ H Q=>t σ H fun x H1=>∃c,x=.bl c/\Q c H1
theorem Nv{op:CmpOp}{t:TE}(h:PC X op a b t)(h1:behindInMarks op b=false:=by first|exact xv _ (by decide) (by decide)|rfl):PE X (.Compare a [op] [b] pos) t:=fun ae s σ H Q I hw=>wpAny_Compare1 (h ae s σ H Q I hw) h1
theorem Nw(h:PC X op a b t)(h1:behindInMarks op b=false:=by first|exact xv _ (by decide) (by decide)|rfl):PT X (.Compare a [op] [b] pos) (tB t):=by
 intro ae s σ H Q I hw;refine wpAny_isTrue_Compare1 (cz (h ae s σ H _ I hw) fun v s1 h1=>cz h1 fun u s2 h2=>cz h2 fun c s3 ⟨x,H1,I1,r1,q1⟩=>?_) h1;obtain⟨d,rfl,q⟩:=q1;cases r1;exact k8 ⟨H1,I1,q⟩
theorem gE(h:PE X e t)(he:∀qY,isTrue e X.env qY=(do let v <- qY;standAt e.pos;holding [v] (truthy v)):=by intro _;rfl):PT X e (tB t):=by
 intro ae s σ H Q I hw;refine isTrue_plain (cz (h ae s σ H _ I hw) fun v s1 ⟨x,H1,I1,r1,q1⟩=>?_) (he _);obtain⟨d,rfl,q⟩:=q1;cases r1;exact k8 ⟨H1,I1,q⟩
variable {tA VN:TT} {l_:List Expr}
def Rl(t u:TT):TT:=fun σ H Q=>t σ H fun c H1=>if c=true then u σ H1 Q else Q false H1
def tOr(t u:TT):TT:=fun σ H Q=>t σ H fun c H1=>if c=true then Q true H1 else u σ H1 Q
def W2(t:TT):TT:=fun σ H Q=>t σ H fun c H1=>Q (!c) H1
theorem md(ha:PT X a tA):PW X (.BoolOp .And [a] pos) tA:=by
 intro wh ae s σ H Q I h;refine isTrue_and (cz (ha ae s σ H Q I h) fun c s1 e=>?_);cases c with
 |true=>exact isTrue_and_nil e
 |false=>exact e
theorem qZ(ha:PT X a tA):PW X (.BoolOp .Or [a] pos) tA:=by
 intro wh ae s σ H Q I h;refine isTrue_or (cz (ha ae s σ H Q I h) fun c s1 e=>?_);cases c with
 |false=>exact isTrue_or_nil e
 |true=>exact e
theorem nV(ha:PT X a tA)(hb:PW X (.BoolOp .And (b::l_) pos) VN):PW X (.BoolOp .And (a::b::l_) pos) (Rl tA VN):=by
 intro wh ae s σ H Q I h;refine isTrue_and (cz (ha ae s σ H _ I h) fun c s1 ⟨H1,I1,q1⟩=>?_);cases c with
 |true=>exact hb wh ae s1 σ H1 Q I1 q1
 |false=>exact⟨H1,I1,q1⟩
theorem xw(ha:PT X a tA)(hb:PW X (.BoolOp .Or (b::l_) pos) VN):PW X (.BoolOp .Or (a::b::l_) pos) (tOr tA VN):=by
 intro wh ae s σ H Q I h;refine isTrue_or (cz (ha ae s σ H _ I h) fun c s1 ⟨H1,I1,q1⟩=>?_);cases c with
 |true=>exact⟨H1,I1,q1⟩
 |false=>exact hb wh ae s1 σ H1 Q I1 q1
theorem nW(ha:PT X a tA):PT X (.UnaryOp .Not a pos) (W2 tA):=by
 intro ae s σ H Q I h;exact isTrue_not (ha ae s σ H (fun c H1=>Q (!c) H1) I h)
def Rm(ta tb:TE):TE:=fun σ H Q=>ta σ H fun x H1=>∃c,x=.bl c/\if c=true then tb σ H1 Q else Q (.bl false) H1
def W3(ta tb:TE):TE:=fun σ H Q=>ta σ H fun x H1=>∃c,x=.bl c/\if c=true then Q (.bl true) H1 else tb σ H1 Q
def Rn(ta:TE):TE:=fun σ H Q=>ta σ H fun x H1=>∃c,x=.bl c/\Q (.bl (!c)) H1
theorem iG{op}(h:PE X a t):PE X (.BoolOp op [a] pos) t:=fun ae s σ H Q I hw=>BoolOp_one (h ae s σ H Q I hw)
theorem jX(ha:PE X a ta)(hb:PE X (.BoolOp .And (b::l_) pos) tb):PE X (.BoolOp .And (a::b::l_) pos) (Rm ta tb):=by
 intro ae s σ H Q I h;refine BoolOp_and (cz (ha ae s σ H _ I h) fun v s1 ⟨x,H1,I1,r1,q1⟩=>?_);obtain⟨c,rfl,q1⟩:=q1;cases r1;refine k8 ?_;cases c with
 |true=>exact hb ae s1 σ H1 Q I1 q1
 |false=>exact⟨.bl false,H1,I1,rfl,q1⟩
theorem E5(ha:PE X a ta)(hb:PE X (.BoolOp .Or (b::l_) pos) tb):PE X (.BoolOp .Or (a::b::l_) pos) (W3 ta tb):=by
 intro ae s σ H Q I h;refine BoolOp_or (cz (ha ae s σ H _ I h) fun v s1 ⟨x,H1,I1,r1,q1⟩=>?_);obtain⟨c,rfl,q1⟩:=q1;cases r1;refine k8 ?_;cases c with
 |false=>exact hb ae s1 σ H1 Q I1 q1
 |true=>exact⟨.bl true,H1,I1,rfl,q1⟩
theorem E6(ha:PE X a ta):PE X (.UnaryOp .Not a pos) (Rn ta):=by
 intro ae s σ H Q I h;refine UnaryOp_ (cz (ha ae s σ H _ I h) fun v s1 ⟨x,H1,I1,r1,q1⟩=>?_);obtain⟨c,rfl,q1⟩:=q1;cases r1;exact not_of (k8 ⟨.bl (!c),H1,I1,rfl,q1⟩)
def tIf(t:TT)(ta tb:TE):TE:=fun σ H Q=>t σ H fun c H1=>if c=true then ta σ H1 Q else tb σ H1 Q
theorem xx(hc:PT X c tA)(ha:PE X a ta)(hb:PE X b tb):PE X (.IfExp c a b pos) (tIf tA ta tb):=by
 intro ae s σ H Q I h;refine wpAny_IfExp (cz (hc ae s σ H _ I h) fun d s1 ⟨H1,I1,q1⟩=>?_);cases d with
 |true=>exact ha ae s1 σ H1 Q I1 q1
 |false=>exact hb ae s1 σ H1 Q I1 q1
end
def aV(K:PySem.W.Frag)(H:Hp)(a:Addr)(xs:List V):Prop:=
 Rd H a (.lst xs)\/
  ∃ (o:Obj) (its:Array Value) (n:Nat),K.lookup a=some o/\o.cls=.type "list"/\o.dict=none/\o.data=.seq its n/\its.size<=sizeLine/\aY xs its.toList
def bW(K:PySem.W.Frag)(H:Hp)(a:Addr)(xs:List V):Prop:=
 Rd H a (.tup xs)\/
  ∃ (o:Obj) (its:Array Value) (n:Nat),K.lookup a=some o/\o.cls=.type "tuple"/\o.data=.seq its n/\its.size<=sizeLine/\aY xs its.toList
def W4:Value->Option V
 |.none=>some .bV
 |.bool b=>some (.bl b)
 |.int i _=>some (.int i)
 |.str x _=>some (.str x)
 |.bytes b _=>some (.Ad b)
 |.float b _=>some (.Mu b)
 |.ref a=>some (.ref a)
 |.type n=>some (.ty n)
 |_=>none
theorem bw.abs(r:bw x u):W4 u=some x:=by
 cases x with
 |bV=>cases r;rfl
 |bl _=>cases r;rfl
 |int _=>obtain⟨t,rfl⟩:=r;rfl
 |str _=>obtain⟨t,rfl⟩:=r;rfl
 |Ad _=>obtain⟨t,rfl⟩:=r;rfl
 |Mu _=>obtain⟨t,rfl⟩:=r;rfl
 |ref _=>cases r;rfl
 |ty _=>cases r;rfl
theorem bw.inj(r:bw x u)(q:bw y u):x=y:=bh (r.abs.symm.trans q.abs)
theorem aY.inj:∀ {xs ys:List V} {us:List Value},aY xs us->aY ys us->xs=ys
 |_,_,_,.nil,.nil=>rfl
 |_,_,_,.cons r t,.cons r' t'=>by rw[r.inj r',aY.inj t t']
section
variable {X:Cx} {ae:List (Addr×Obj)} {σ:St} {H:Hp} {s:Shared} {a:Addr} {xs ys:List V}
theorem aV.of{K:PySem.W.Frag}(h:H a=some (.lst xs)):aV K H a xs:=.inl (.inl h)
theorem bW.of{K:PySem.W.Frag}(h:H a=some (.tup xs)):bW K H a xs:=.inl (.inl h)
theorem aM.list(I:aM X ae σ H s)(h:aV X.K H a xs):∃its:List Value,aY xs its/\PlainL s.heap a its.toArray/\xs.length<=sizeLine:=by
 rcases h with h|⟨o,its,n,hk,hc,hd,hs,hz,r⟩
 .obtain⟨z,its,n,r,e⟩:=h.ok I.bL;exact⟨its,r,⟨_,n,e,rfl,rfl,rfl⟩,z⟩
 .refine⟨its.toList,r,⟨o,n,I.lE a o hk,hc,hd,by simpa using hs⟩,?_⟩;have e:=r.length;simp only[lZ] at e;lia
theorem aM.tuple(I:aM X ae σ H s)(h:bW X.K H a xs):∃its:List Value,aY xs its/\IsTup s.heap a its.toArray/\xs.length<=sizeLine:=by
 rcases h with h|⟨o,its,n,hk,hc,hs,hz,r⟩
 .obtain⟨z,its,r,p⟩:=h.ok I.bL;exact⟨its,r,p.tup,z⟩
 .refine⟨its.toList,r,⟨o,I.lE a o hk,hc,n,by simpa using hs⟩,?_⟩;have e:=r.length;simp only[lZ] at e;lia
theorem aM.E7(I:aM X ae σ H s)(h:aV X.K H a xs)(h':aV X.K H a ys):xs=ys:=by
 obtain⟨its,r,⟨o,n,e,_,_,d⟩,_⟩:=I.list h;obtain⟨its',r',⟨o',n',e',_,_,d'⟩,_⟩:=I.list h';rw[e] at e';cases e';rw[d] at d';injection d' with d1 _;have:its=its':=by simpa using congrArg Array.toList d1
 subst this;exact r.inj r'
theorem aM.f_(I:aM X ae σ H s)(h:bW X.K H a xs)(h':bW X.K H a ys):xs=ys:=by
 obtain⟨its,r,⟨o,e,_,n,d⟩,_⟩:=I.tuple h;obtain⟨its',r',⟨o',e',_,n',d'⟩,_⟩:=I.tuple h';rw[e] at e';cases e';rw[d] at d';injection d' with d1 _;have:its=its':=by simpa using congrArg Array.toList d1
 subst this;exact r.inj r'
end
abbrev Cx.sO(X:Cx)(E:Value->Shared->Prop):Cx:={ X with xe:=E }
abbrev Cx.BJ(X:Cx):Cx:=X.sO fun _ _=>False
theorem Cx.Ok.sO{X:Cx}(ok:X.Ok)(E:Value->Shared->Prop):(X.sO E).Ok:=
 ⟨ok.mod,ok.kind,ok.glob,ok.blt,ok.above,ok.inj,ok.has,ok.Qr,ok.hd,ok.frames,ok.Qs,ok.WV,ok.bs,ok.Dq,ok.EY,ok.IZ,ok.nU,ok.Nr⟩
theorem Cx.Ok.jY{X:Cx}{E:Value->Shared->Prop}(ok:(X.sO E).Ok):X.Ok:=
 ⟨ok.mod,ok.kind,ok.glob,ok.blt,ok.above,ok.inj,ok.has,ok.Qr,ok.hd,ok.frames,ok.Qs,ok.WV,ok.bs,ok.Dq,ok.EY,ok.IZ,ok.nU,ok.Nr⟩
section
variable {X:Cx} {ae:List (Addr×Obj)} {σ:St} {H:Hp} {s:Shared} {E:Value->Shared->Prop}
theorem aM.sO(I:aM X ae σ H s)(E:Value->Shared->Prop):aM (X.sO E) ae σ H s:=⟨I.ok.sO E,I.os,I.bare,I.base,I.loc,I.cell,I.free,I.jy,I.pin,I.bL,I.len⟩
theorem aM.jY(I:aM (X.sO E) ae σ H s):aM X ae σ H s:=⟨I.ok.jY,I.os,I.bare,I.base,I.loc,I.cell,I.free,I.jy,I.pin,I.bL,I.len⟩
theorem SP.jY(h:SP (X.sO E) ae D f s'):SP X ae D f s':=by
 cases f with
 |next=>obtain⟨σ',H',I,q⟩:=h;exact⟨σ',H',I.jY,q⟩
 |brk=>obtain⟨σ',H',I,q⟩:=h;exact⟨σ',H',I.jY,q⟩
 |cont=>obtain⟨σ',H',I,q⟩:=h;exact⟨σ',H',I.jY,q⟩
 |ret u=>obtain⟨v,σ',H',I,r,q⟩:=h;exact⟨v,σ',H',I.jY,r,q⟩
theorem Ag.BJ{st:List Stmt}{t:TS}(h:Ag X.BJ st t):Ag X st t:=fun ae s σ H D I hw=>
 f9 (h ae s σ H D (I.sO _) hw) (fun _ _ q=>q.jY) fun _ _ z=>False.elim z
end
section
variable {X:Cx} {st:Stmt} {l_:List Stmt} {t u:TS} {e:Expr} {te:TE} {pos:Pos}
def Mz:TS:=fun D σ H=>D.nx σ H
def I0(t u:TS):TS:=fun D σ H=>t { D with nx:=u D } σ H
theorem bE:Ag X [] Mz:=fun _ _ σ H _ I h=>vo ⟨σ,H,I,h⟩
theorem ai(h1:PS X st t)(h2:Ag X l_ u):Ag X (st::l_) (I0 t u):=by
 intro ae s σ H D I h;refine wpAny_execs_cons (cz (h1 ae s σ H { D with nx:=u D } I h) fun f s1 q=>?_);cases f with
 |next=>
  obtain⟨σ',H',I',q⟩:=q;exact h2 ae s1 σ' H' D I' q
 |ret v=>exact q
 |brk=>exact q
 |cont=>exact q
theorem ap(h1:PS X st t):Ag X [st] t:=by
 intro ae s σ H D I h;refine wpAny_execs_cons (cz (h1 ae s σ H D I h) fun f s1 q=>?_);cases f with
 |next=>exact vo q
 |ret v=>exact q
 |brk=>exact q
 |cont=>exact q
theorem I_:PS X (.Pass pos) Mz:=fun _ _ σ H _ I h=>wpAny_Pass ⟨σ,H,I,h⟩
theorem aM.quiet(I:aM X ae σ H s):interactive X.env=false:=by simp[interactive,I.ok.kind]
def Ro(te:TE):TS:=fun D σ H=>te σ H fun _ H1=>D.nx σ H1
theorem cr(he:PE X e te)(hs:swapsWith e none pos.line X.env=pure false:=by rfl):PS X (.Expr e pos) (Ro te):=by
 intro ae s σ H D I h;exact wpAny_Expr_any (cz (he ae s σ H _ I h) fun v s1 ⟨x,H1,I1,r1,q1⟩=>⟨σ,H1,I1,q1⟩) I.quiet hs
def W5(te:TE):TS:=fun D σ H=>te σ H D.rt
theorem aR(he:PE X e te):PS X (.Return (some e) pos) (W5 te):=by
 intro ae s σ H D I h;exact wpAny_Return_some (cz (he ae s σ H _ I h) fun v s1 ⟨x,H1,I1,r1,q1⟩=>⟨x,σ,H1,I1,r1,q1⟩)
def Rp(c:TT)(t u:TS):TS:=fun D σ H=>c σ H fun b H1=>if b=true then t D σ H1 else u D σ H1
theorem de(hc:PT X c tc)(ha:Ag X a t)(hb:Ag X b u):PS X (.If c a b pos) (Rp tc t u):=by
 intro ae s σ H D I h;refine wpAny_If (cz (hc ae s σ H _ I h) fun d s1 ⟨H1,I1,q1⟩=>?_);cases d with
 |true=>exact ha ae s1 σ H1 D I1 q1
 |false=>exact hb ae s1 σ H1 D I1 q1
def Nx:TS:=fun _ _ _=>False
theorem fc:Ag X sts Nx:=fun _ _ _ _ _ _ h=>h.elim
end
abbrev TG:=V->St->Hp->(St->Hp->Prop)->Prop
abbrev Ny:=List V->St->Hp->(St->Hp->Prop)->Prop
def PG(X:Cx)(Nz:Expr)(t:TG):Prop:=
 ∀ (ae:List (Addr×Obj)) (s:Shared) (σ:St) (H:Hp) (v:V) (u:Value) (Q:St->Hp->Prop),aM X ae σ H s->bw v u->t v σ H Q->
  wpAny (model X.prog X.w) X.A (assign Nz X.env u) (fun _ s'=>∃σ' H',aM X ae σ' H' s'/\Q σ' H') X.xe s
def Rq(X:Cx)(ts:List Expr)(t:Ny):Prop:=
 ∀ (ae:List (Addr×Obj)) (s:Shared) (σ:St) (H:Hp) (vs:List V) (us:List Value) (Q:St->Hp->Prop),aM X ae σ H s->aY vs us->t vs σ H Q->
  wpAny (model X.prog X.w) X.A (assignInOrder ((assignEach ts X.env).map (·.2)) us) (fun _ s'=>∃σ' H',aM X ae σ' H' s'/\Q σ' H') X.xe s
abbrev Rr:=V->V->V->Hp->(Hp->Prop)->Prop
def Rt(X:Cx)(t:Rr):Prop:=
 ∀ (ae:List (Addr×Obj)) (s:Shared) (σ:St) (H:Hp) (o i v:V) (ov iv u:Value) (Q:Hp->Prop),aM X ae σ H s->bw o ov->bw i iv->bw v u->t o i v H Q->
  wpAny (model X.prog X.w) X.A (setItem ov iv u) (fun _ s'=>∃H',aM X ae σ H' s'/\Q H') X.xe s
abbrev W6:=V->V->Hp->VK->Prop
def PIp(X:Cx)(op:Operator)(t:W6):Prop:=
 ∀ (ae:List (Addr×Obj)) (s:Shared) (σ:St) (H:Hp) (x y:V) (v u:Value) (Q:VK),aM X ae σ H s->bw x v->bw y u->t x y H Q->
  wpAny (model X.prog X.w) X.A (inplaceOp op v u) (EP X ae σ Q) X.xe s
section
variable {X:Cx} {pos:Pos}
def be(i:Nat):TG:=fun v σ H Q=>Q (σ.set i (some v)) H
theorem au(hN:X.N.Nodup)(hi:X.N[i]?=some x)(hx:Ri X.env.scope x)(hf:X.fn x=true\/X.env.scope.names.lookup x=some .local:=by first|exact .inl rfl|exact .inr rfl|assumption):PG X (.Name x pos) (be i):=by
 intro ae s σ H v u Q I r h;exact wpAny_assign_Name (qX I hN hi hx r (fun s' I'=>⟨_,H,I',h⟩) hf)
def q8:Ny:=fun vs σ H Q=>vs=[]/\Q σ H
def eO(t:TG)(u:Ny):Ny:=fun vs σ H Q=>∃v r,vs=v::r/\t v σ H fun σ' H'=>u r σ' H' Q
theorem dG:Rq X [] q8:=by
 intro ae s σ H vs us Q I r h;obtain⟨e,h⟩:=h;subst e;cases r;exact assignInOrder_nil ⟨σ,H,I,h⟩
theorem bb(h1:PG X e t)(h2:Rq X es u)(hs:(assignEach (e::es) X.env).map (·.2)=assign e X.env::(assignEach es X.env).map (·.2):=by rfl):Rq X (e::es) (eO t u):=by
 intro ae s σ H vs us Q I r h;obtain⟨v,vr,e1,h⟩:=h;subst e1;cases r with
 |cons r rr=>
  rw[hs];refine assignInOrder_cons (cz (h1 ae s σ H _ _ _ I r h) fun _ s1 ⟨σ1,H1,I1,q1⟩=>?_);exact h2 ae s1 σ1 H1 _ _ Q I1 rr q1
def q9(K:PySem.W.Frag)(n:Nat)(t:Ny):TG:=fun v σ H Q=>∃a xs,v=.ref a/\bW K H a xs/\xs.length=n/\t xs σ H Q
theorem fv(hc:X.calm=true)(h:Rq X es t)(hn:(assignEach es X.env).length=n:=by rfl)(kW:(assignEach es X.env).findIdx? (·.1)=none:=by rfl):PG X (.Tuple es k pos) (q9 X.K n t):=by
 intro ae s σ H v u Q I r hw;obtain⟨a,xs,e1,hq,hl,hw⟩:=hw;subst e1;cases r;obtain⟨its,rv,ht,hz⟩:=I.tuple hq;refine assign_Tuple_tuple (I.ok.hd hc) ht (by simp[hn,<-hl,rv.length]) kW fun h' hx=>?_;have I1:aM X ae σ H { s with heap:=h' }:=I.kept (t':=s.toks) fun b o e=>hx b o (aW (a8 e)) e;exact h ae _ σ H xs _ Q I1 (by simpa using rv) hw
def W7(to ti:TE)(t:Rr):TG:=fun v σ H Q=>to σ H fun o H1=>ti σ H1 fun i H2=>t o i v H2 fun H3=>Q σ H3
theorem jb(ho:PE X o to)(hi:PE X i ti)(hs:Rt X t)(ha:∀v,assign (.Subscript o i pos) X.env v=(do
   let ov <- holding [v] (eval o X.env)
   let iv <- holding [v,ov] (eval i X.env)
   standAt pos
   holding [v,ov,iv] (setItem ov iv v)
   release [v,ov,iv] []):=by intro _;rfl):PG X (.Subscript o i pos) (W7 to ti t):=by
 intro ae s σ H v u Q I r h;rw[ha];refine aw (gI (cz (ho ae s σ H _ I h) fun ov s1 ⟨x,H1,I1,r1,q1⟩=>?_));refine aw (gI (cz (hi ae s1 σ H1 _ I1 q1) fun iv s2 ⟨y,H2,I2,r2,q2⟩=>?_));refine aw (nI (aw (gI (cz (hs ae s2 σ H2 x y v ov iv u _ I2 r1 r2 r q2) fun _ s3 ⟨H3,I3,q3⟩=>?_))));exact wpAny_release ⟨σ,H3,I3,q3⟩
def Ja(te:TE)(g:TG):TS:=fun D σ H=>te σ H fun x H1=>g x σ H1 D.nx
theorem gb(he:PE X e te)(hg:PG X tg g)(hs:swapsWithSole [tg] e pos.line X.env=pure false:=by rfl)(hw:swappedStores [tg] e X.env=pure none:=by rfl)(h1:(assignEach [tg] X.env).map (·.2)=[assign tg X.env]:=by rfl):PS X (.Assign [tg] e pos) (Ja te g):=by
 intro ae s σ H D I h;refine wpAny_Assign_stores (cz (he ae s σ H _ I h) fun v s1 ⟨x,H1,I1,r1,q1⟩=>?_) hs hw;rw[h1];exact cz (hg ae s1 σ H1 x v _ I1 r1 q1) fun _ s2 q=>q
theorem aE(hN:X.N.Nodup)(hi:X.N[i]?=some x)(hx:Ri X.env.scope x)(he:PE X e te)(hs:swapsWith e (some (.Name x sM)) pos.line X.env=pure false:=by rfl)(hf:X.fn x=true\/X.env.scope.names.lookup x=some .local:=by first|exact .inl rfl|exact .inr rfl|assumption):
  PS X (.Assign [.Name x sM] e pos) (Ja te (be i)):=by
 intro ae s σ H D I h;refine wpAny_Assign_Name (cz (he ae s σ H _ I h) fun v s1 ⟨y,H1,I1,r1,q1⟩=>?_) hs;exact qX I1 hN hi hx r1 (fun s2 I2=>⟨_,H1,I2,q1⟩) hf
def W8(i:Nat)(te:TE)(ti:W6):TS:=fun D σ H=>∃x,σ[i]?=some (some x)/\te σ H fun y H1=>ti x y H1 fun z H2=>D.nx (σ.set i (some z)) H2
theorem NC(hN:X.N.Nodup)(hi:X.N[i]?=some x)(hx:Ri X.env.scope x)(he:PE X e te)(ho:PIp X op ti)(hf:X.fn x=true\/X.env.scope.names.lookup x=some .local:=by first|exact .inl rfl|exact .inr rfl|assumption):
  PS X (.AugAssign (.Name x sM) op e pos) (W8 i te ti):=by
 intro ae s σ H D I h;obtain⟨v,e1,h⟩:=h;obtain⟨m,hn,hl⟩:=I.loc;have Ru:Qq X.env.scope x:=by rcases hx with k|k;exact .inl k;exact .inr (.inl k)
 obtain⟨u,r,l⟩:=hl i x v hi e1 Ru;refine wpAny_AugAssign_Name ?_;have go:wpAny (model X.prog X.w) X.A (eval e X.env) (fun w s₂=>wpAny (model X.prog X.w) X.A (inplaceOp op u w) (fun r s₃=>wpAny (model X.prog X.w) X.A (storeName X.env x r) (fun _=>SP X ae D .next) X.xe s₃) X.xe s₂) X.xe s:=by
  refine cz (he ae s σ H _ I h) fun w s1 ⟨y,H1,I1,r1,q1⟩=>?_;refine cz (ho ae s1 σ H1 v y u w _ I1 r r1 q1) fun z s2 ⟨zv,H2,I2,r2,q2⟩=>?_;exact qX I2 hN hi hx r2 (fun s3 I3=>⟨_,H2,I3,q2⟩) hf
 rcases l with ⟨hk,hm⟩|⟨hk,c,hc,BI⟩
 .exact zK I.ok.kind hk hn hm go
 .rcases hk with hk|hk
  .exact wpAny_loadName_cell I.ok.kind hk hc BI go
  .rcases hx with k|k
   .have:X.env.scope.names.lookup x=some .free:=hk;rw[k] at this;cases this
   .have:X.env.scope.names.lookup x=some .free:=hk;rw[k] at this;cases this
def ipI(f:Int->Int->Int):W6:=fun x y H Q=>∃i j,x=.int i/\y=.int j/\Q (.int (f i j)) H
theorem ND:PIp X .Add (ipI fun i j=>i+j):=by
 intro ae s σ H x y v u Q I r1 r2 h;obtain⟨i,j,e1,e2,q⟩:=h;subst e1;subst e2;obtain⟨t,rfl⟩:=r1;obtain⟨t',rfl⟩:=r2;exact iadd_int ⟨.int _,H,I.tok _,⟨_,rfl⟩,q⟩
def E8(c:TT)(tb:TS):TS:=fun D σ H=>∃W:Nat->St->Hp->Prop,(∃m,W m σ H)/\∀m σ H,W m σ H->
 c σ H fun b H1=>if b=true then ∃N:St->Hp->Prop,(∀σ' H',N σ' H'->∃m',m'<m/\W m' σ' H')/\tb { D with nx:=N,ct:=N,bk:=D.nx } σ H1 else D.nx σ H1
theorem q_(hp:PassesOwn (model X.prog X.w) X.A X.env X.xe)(hc:PT X c tc)(hb:Ag X body tb):PS X (.While c body [] pos) (E8 tc tb):=by
 intro ae s σ H D I h;obtain⟨W,⟨m0,w0⟩,E9⟩:=h;refine wpAny_While (codeAny_whileLoop (fun n s'=>∃σ' H',aM X ae σ' H' s'/\W n σ' H') ?_ m0 ⟨σ,H,I,w0⟩);rintro n s1 ⟨σ1,H1,I1,w1⟩;refine lw hp (cz (hc ae s1 σ1 H1 _ I1 (E9 n σ1 H1 w1)) fun b s2 ⟨H2,I2,q2⟩=>?_);cases b with
 |true=>
  obtain⟨N,hN,q2⟩:=q2;rw[am rfl];refine lw hp (cz (hb ae s2 σ1 H2 _ I2 q2) fun f s3 q3=>?_);cases f with
  |next=>
   obtain⟨σ3,H3,I3,n3⟩:=q3;obtain⟨m',hm,w3⟩:=hN σ3 H3 n3;exact⟨m',hm,σ3,H3,I3,w3⟩
  |cont=>
   obtain⟨σ3,H3,I3,n3⟩:=q3;obtain⟨m',hm,w3⟩:=hN σ3 H3 n3;exact⟨m',hm,σ3,H3,I3,w3⟩
  |brk=>exact q3
  |ret v=>exact q3
 |false=>
  rw[if_neg cJ];exact vo ⟨σ1,H2,I2,q2⟩
end
structure It where
 go:Nat->Hp->Prop
 Qt:Nat->Hp->V->Hp->Prop
 stop:Nat->Hp->Prop
def fP(X:Cx)(ae:List (Addr×Obj))(H:Hp)(b:Addr):Prop:=
 H b=none/\b≠X.env.locals/\b∉X.fs/\(b∈X.ex\/X.s₀.heap.objs.size<=b)/\(∀x c,X.env.cells.lookup x=some c->c≠b)/\∀p∈X.pn++ae,p.1≠b
theorem aM.xy(I:aM X ae σ H s)(hb:s.heap.objs.size<=b)(hn:H' b=none):fP X ae H' b:=by
 refine⟨hn,i9 (b_ I.lt hb),I.WX hb,.inr (a9 I.sz hb),fun x c e z=>?_,fun p hp z=>?_⟩
 .obtain⟨v,q⟩:=I.cell x c e;exact absurd (b_ q.lt (by rw[z];exact hb)) (iB _)
 .exact absurd (b_ (a8 (I.pin p hp).1) (by rw[z];exact hb)) (iB _)
structure xz(P:Program)(w:World)(K:PySem.W.Frag)(tg:Expr)(J:It)(fp:List Addr)(it:Addr)(tn:Nat->Heap->Prop):Prop where
 mem:it∈fp
 obj:∀i h,tn i h->∀b∈fp,∃o,h.get? b=some o/\∀v,o.data≠.cell v
 keep:∀i h h',tn i h->(∀b∈fp,∀o,h.get? b=some o->h'.get? b=some o)->tn i h'
 item:∀ (X:Cx),X.prog=P->X.w=w->X.K=K->X.calm=true->∀ (i:Nat) (ae:List (Addr×Obj)) (s:Shared) (σ:St) (H:Hp) (E:Value->Shared->Prop),aM X ae σ H s->(∀b∈fp,fP X ae H b)->tn i s.heap->J.go i H->
  wpAny (model P w) X.A (pyNext (.ref it)) (fun r s1=>∃u,r=some u/\
   wpAny (model P w) X.A (letOwnedTupleGo tg (.ref it) u) (fun _ s2=>∃x H',aM X ae σ H' s2/\bw x u/\J.Qt i H x H'/\tn (i+1) s2.heap/\∀b∈fp,H' b=none) E s1) E s
 done:∀ (X:Cx),X.prog=P->X.w=w->X.K=K->X.calm=true->∀ (i:Nat) (ae:List (Addr×Obj)) (s:Shared) (σ:St) (H:Hp) (E:Value->Shared->Prop),aM X ae σ H s->(∀b∈fp,fP X ae H b)->tn i s.heap->J.stop i H->
  wpAny (model P w) X.A (pyNext (.ref it)) (fun r s1=>r=none/\aM X ae σ H s1) E s
 self:∀ (A:Around) (i:Nat) (s:Shared) (Q:Value->Shared->Prop) (E:Value->Shared->Prop),tn i s.heap->Q (.ref it) s->wpAny (model P w) A (pyIter (.ref it)) Q E s
abbrev TI:=St->Hp->(It->Hp->Prop)->Prop
def PIE(X:Cx)(ae:List (Addr×Obj))(σ:St)(tg:Expr)(R:It->Hp->Prop)(VO:Value)(s2:Shared):Prop:=
 ∃ (it:Addr) (fp:List Addr) (tn:Nat->Heap->Prop) (J:It) (H':Hp),VO=.ref it/\aM X ae σ H' s2/\xz X.prog X.w X.K tg J fp it tn/\tn 0 s2.heap/\(∀b∈fp,fP X ae H' b)/\R J H'
def PI(X:Cx)(tg jC:Expr)(wi:TI):Prop:=
 ∀ (ae:List (Addr×Obj)) (s:Shared) (σ:St) (H:Hp) (R:It->Hp->Prop),aM X ae σ H s->wi σ H R->
  wpAny (model X.prog X.w) X.A (eval jC X.env) (fun v s1=>wpAny (model X.prog X.w) X.A (pyIter v) (PIE X ae σ tg R) X.xe s1) X.xe s
theorem E_(ho:s.heap.get? it=some o)(hc:o.cls=.type n)(hd:o.data=.fields vs)(hn:["enumerate","zip","dict_itemiterator","dict_reverseitemiterator","odict_iterator","itertools.zip_longest","itertools.pairwise"].contains n=false)(hQ:Q () s):wpAny M A (letOwnedTupleGo tg (.ref it) u) Q E s:=by
 unfold letOwnedTupleGo;cases tg <;> first
  |exact wpAny_pure hQ
  |(cases u <;> first
    |exact wpAny_pure hQ
    |(refine aw (wpAny_load ho ?_);rw[hc,hd];show wpAny M A (if (["enumerate","zip","dict_itemiterator","dict_reverseitemiterator","odict_iterator","itertools.zip_longest","itertools.pairwise"].contains n&&vs[0]?==some (rawInt _))=true then _ else _) Q E s;rw[if_neg (by intro h;rw[hn,Bool.false_and] at h;cases h)];exact wpAny_pure hQ))
def Dr(K:PySem.W.Frag)(a:Addr):It:=
 ⟨fun i H=>∃xs x,aV K H a xs/\xs[i]?=some x,fun i H x H'=>H'=H/\∀xs,aV K H a xs->xs[i]?=some x,fun i H=>∃xs,aV K H a xs/\xs.length<=i⟩
def Qu(K:PySem.W.Frag)(a:Addr):It:=
 ⟨fun i H=>∃xs x,bW K H a xs/\xs[i]?=some x,fun i H x H'=>H'=H/\∀xs,bW K H a xs->xs[i]?=some x,fun i H=>∃xs,bW K H a xs/\xs.length<=i⟩
def Iz(lo:Int)(n:Nat):It:=⟨fun i _=>i<n,fun i H x H'=>H'=H/\x=.int (lo+i),fun i _=>n<=i⟩
theorem Ds{P:Program}{w:World}{K:PySem.W.Frag}{tg:Expr}(a it:Addr):xz P w K tg (Dr K a) [it] it (fun i h=>h.IsListIter it a i) where
 mem:=by simp
 obj:=fun i h st b hb=>by
  have e:b=it:=by simpa using hb
  subst e;obtain⟨o,e,c,d⟩:=st;exact⟨o,e,fun v z=>by rw[d] at z;cases z⟩
 keep:=fun i h h' st k=>st.at fun o e=>k it (by simp) o e
 item:=by
  intro X hP hw hK hc i ae s σ H E I hf st hg;subst hP hw hK;obtain⟨xs,x,hq,hx⟩:=hg;obtain⟨its,rv,p,hz⟩:=I.list hq;obtain⟨u,hu,ru⟩:=rv.get hx;obtain⟨f0,f1,f2,f3,f4,f5⟩:=hf it (by simp);refine uZ st p.isList (x:=u) (by simpa using hu) fun h' bg sb=>?_;have I1:aM X ae σ H { s with heap:=h' }:=I.turned (t':=s.toks) (fun b o hb e=>(sb.2 b hb).trans e) f0 f1 f3 f4 f5;obtain⟨o,e,c,d⟩:=id bg;exact⟨u,rfl,E_ (s:={ s with heap:=h' }) e c d (by decide) ⟨x,H,I1,ru,⟨rfl,fun ys hy=>by rw[I.E7 hy hq];exact hx⟩,bg,fun b hb=>(hf b hb).1⟩⟩
 done:=by
  intro X hP hw hK hc i ae s σ H E I hf st hg;subst hP hw hK;obtain⟨xs,hq,hx⟩:=hg;obtain⟨its,rv,p,hz⟩:=I.list hq;obtain⟨f0,f1,f2,f3,f4,f5⟩:=hf it (by simp);have hl:=rv.length;exact zE (I.ok.hd hc) st p.isList (by simp;lia) fun h' eb=>⟨rfl,I.turned (t':=s.toks) (fun b o hb e=>eb b o hb e) f0 f1 f3 f4 f5⟩
 self:=fun _ _ _ _ _ st h=>wpAny_pyIter_listiter st h
theorem Ah{P:Program}{w:World}{K:PySem.W.Frag}{tg:Expr}(a it:Addr):xz P w K tg (Qu K a) [it] it (fun i h=>h.IsTupleIter it a i) where
 mem:=by simp
 obj:=fun i h st b hb=>by
  have e:b=it:=by simpa using hb
  subst e;obtain⟨o,e,c,d⟩:=st;exact⟨o,e,fun v z=>by rw[d] at z;cases z⟩
 keep:=fun i h h' st k=>st.at fun o e=>k it (by simp) o e
 item:=by
  intro X hP hw hK hc i ae s σ H E I hf st hg;subst hP hw hK;obtain⟨xs,x,hq,hx⟩:=hg;obtain⟨its,rv,p,hz⟩:=I.tuple hq;obtain⟨u,hu,ru⟩:=rv.get hx;obtain⟨f0,f1,f2,f3,f4,f5⟩:=hf it (by simp);refine wpAny_pyNext_tuple_item st (show s.heap.IsTuple a its.toArray from p) (x:=u) (by simpa using hu) fun h' bg sb=>?_;have I1:aM X ae σ H { s with heap:=h' }:=I.turned (t':=s.toks) (fun b o hb e=>(sb.2 b hb).trans e) f0 f1 f3 f4 f5;obtain⟨o,e,c,d⟩:=id bg;exact⟨u,rfl,E_ (s:={ s with heap:=h' }) e c d (by decide) ⟨x,H,I1,ru,⟨rfl,fun ys hy=>by rw[I.f_ hy hq];exact hx⟩,bg,fun b hb=>(hf b hb).1⟩⟩
 done:=by
  intro X hP hw hK hc i ae s σ H E I hf st hg;subst hP hw hK;obtain⟨xs,hq,hx⟩:=hg;obtain⟨its,rv,p,hz⟩:=I.tuple hq;obtain⟨f0,f1,f2,f3,f4,f5⟩:=hf it (by simp);have hl:=rv.length;exact wpAny_pyNext_tuple_end (I.ok.hd hc) st (show s.heap.IsTuple a its.toArray from p) (by simp;lia) fun h' eb=>⟨rfl,I.turned (t':=s.toks) (fun b o hb e=>eb b o hb e) f0 f1 f3 f4 f5⟩
 self:=fun _ _ _ _ _ st h=>wpAny_pyIter_tupleiter st h
theorem Ai{P:Program}{w:World}{K:PySem.W.Frag}{tg:Expr}(it:Addr)(lo:Int)(n:Nat):xz P w K tg (Iz lo n) [it] it (fun i h=>IsRangeIter h it (lo+(i:Nat)*1) ((n:Int)-(i:Nat)) 1) where
 mem:=by simp
 obj:=fun i h st b hb=>by
  have e:b=it:=by simpa using hb
  subst e;exact⟨_,st,fun v z=>by
   have z':Data.fields _=Data.cell v:=z;cases z'⟩
 keep:=fun i h h' st k=>k it (by simp) _ st
 item:=by
  intro X hP hw hK hc i ae s σ H E I hf st hg;subst hP hw hK;obtain⟨f0,f1,f2,f3,f4,f5⟩:=hf it (by simp);have W:=Walks.range (prog:=X.prog) (w:=X.w) (I.ok.hd hc) it lo 1 n;refine W.item i s _ _ hg st fun v h' tk hv bg kk=>?_;obtain⟨t,rfl⟩:=hv;have I1:aM X ae σ H { s with heap:=h',toks:=tk }:=I.turned (fun b o hb e=>kk b o (by simpa using hb) e) f0 f1 f3 f4 f5;refine⟨_,rfl,E_ (s:={ s with heap:=h',toks:=tk }) (n:="range_iterator") bg rfl rfl (by decide) ⟨.int (lo+i),H,I1,⟨t,?_⟩,⟨rfl,rfl⟩,bg,fun b hb=>(hf b hb).1⟩⟩;rw[Int.mul_one]
 done:=by
  intro X hP hw hK hc i ae s σ H E I hf st hg;subst hP hw hK;obtain⟨f0,f1,f2,f3,f4,f5⟩:=hf it (by simp);exact wpAny_pyNext_range_end (I.ok.hd hc) st (by have:n<=i:=hg;lia) fun h' eb=>⟨rfl,I.turned (t':=s.toks) (fun b o hb e=>eb b o hb e) f0 f1 f3 f4 f5⟩
 self:=fun _ _ _ _ _ st h=>wpAny_pyIter_rangeiter st h
section
variable {X:Cx} {tg:Expr}
def Rv(K:PySem.W.Frag)(tl:TE):TI:=fun σ H R=>tl σ H fun x H1=>∃a,x=.ref a/\(∃xs,aV K H1 a xs)/\R (Dr K a) H1
def W9(K:PySem.W.Frag)(tl:TE):TI:=fun σ H R=>tl σ H fun x H1=>∃a,x=.ref a/\(∃xs,bW K H1 a xs)/\R (Qu K a) H1
theorem bA{l:Expr}{tl:TE}(hl:PE X l tl):PI X tg l (Rv X.K tl):=by
 intro ae s σ H R I h;refine cz (hl ae s σ H _ I h) fun v s1 ⟨x,H1,I1,r1,q1⟩=>?_;obtain⟨a,e,⟨xs,hq⟩,q⟩:=q1;subst e;cases r1;obtain⟨its,rv,p,hz⟩:=I1.list hq;refine qG p.isList ?_;refine⟨s1.heap.objs.size,[s1.heap.objs.size],_,_,H1,rfl,I1.kept (t':=s1.toks) fun b o e=>b9 _ e,Ds a _,⟨_,cL _ rfl,rfl,rfl⟩,fun b hb=>?_,q⟩;have e:b=s1.heap.objs.size:=by simpa using hb
 subst e;exact I1.xy (aT _) (I1.bL.fresh (aT _))
theorem vA{l:Expr}{tl:TE}(hl:PE X l tl):PI X tg l (W9 X.K tl):=by
 intro ae s σ H R I h;refine cz (hl ae s σ H _ I h) fun v s1 ⟨x,H1,I1,r1,q1⟩=>?_;obtain⟨a,e,⟨xs,hq⟩,q⟩:=q1;subst e;cases r1;obtain⟨its,rv,p,hz⟩:=I1.tuple hq;refine qE (show s1.heap.IsTuple a its.toArray from p) ?_;refine⟨s1.heap.objs.size,[s1.heap.objs.size],_,_,H1,rfl,I1.kept (t':=s1.toks) fun b o e=>b9 _ e,Ah a _,⟨_,cL _ rfl,rfl,rfl⟩,fun b hb=>?_,q⟩;have e:b=s1.heap.objs.size:=by simpa using hb
 subst e;exact I1.xy (aT _) (I1.bL.fresh (aT _))
theorem xA{ae:List (Addr×Obj)}{σ:St}{H:Hp}{s:Shared}{R:It->Hp->Prop}{E:Value->Shared->Prop}{lo hi:Int}{t u v:Tok}{tk:Nat}(I:aM X ae σ H s)(h1:-(2 ^ 62)<=lo)(h2:lo<2 ^ 62)(h3:-(2 ^ 62)<=hi)(h4:hi<2 ^ 62)(q:R (Iz lo (hi-lo).toNat) H):wpAny (model X.prog X.w) X.A (pyIter (.ref s.heap.objs.size)) (PIE X ae σ tg R) E { s with heap:=s.heap.push { cls:=.type "range",data:=.fields #[.int lo t,.int hi u,.int 1 v] },toks:=tk }:=by
 refine wpAny_pyIter_range (IsRange.new ..) (small_one h1 h2 h3 h4) ?_;have I1:aM X ae σ H { s with heap:=s.heap.push { cls:=.type "range",data:=.fields #[.int lo t,.int hi u,.int 1 v] },toks:=tk }:=I.kept fun b o e=>b9 _ e;refine⟨(s.heap.push { cls:=.type "range",data:=.fields #[.int lo t,.int hi u,.int 1 v] }).objs.size,[(s.heap.push { cls:=.type "range",data:=.fields #[.int lo t,.int hi u,.int 1 v] }).objs.size],_,_,H,rfl,
  I1.kept (t':=tk) fun b o e=>b9 _ e,Ai _ lo (hi-lo).toNat,?_,fun b hb=>?_,q⟩
 .have e1:lo+((0:Nat):Int)*1=lo:=by simp
  have e2:(((hi-lo).toNat:Nat):Int)-((0:Nat):Int)=Builtin.Range.rangeSize lo hi 1:=by rw[rangeSize_one];split <;> lia
  show IsRangeIter _ _ (lo+((0:Nat):Int)*1) ((((hi-lo).toNat:Nat):Int)-((0:Nat):Int)) 1;rw[e1,e2];exact cL _ rfl
 .have e:b=(s.heap.push { cls:=.type "range",data:=.fields #[.int lo t,.int hi u,.int 1 v] }).objs.size:=by simpa using hb
  subst e;exact I1.xy (aT _) (I1.bL.fresh (aT _))
def Rx(ta:TA):TI:=fun σ H R=>ta σ H fun vs H1=>∃j:Int,vs=[.int j]/\-(2 ^ 62)<=j/\j<2 ^ 62/\R (Iz 0 j.toNat) H1
def Ry(ta:TA):TI:=fun σ H R=>ta σ H fun vs H1=>∃i j:Int,vs=[.int i,.int j]/\(-(2 ^ 62)<=i/\i<2 ^ 62/\-(2 ^ 62)<=j/\j<2 ^ 62)/\R (Iz i (j-i).toNat) H1
theorem bq{a:Expr}{ta:TA}{p pos:Pos}(hg:Gl X "range")(hm:X.mg "range"=none)(ha:PA X [a] ta)(hs:starEach [a] X.env=[(false,eval a X.env)]:=by rfl):PI X tg (.Call (.Name "range" p) [a] [] pos) (Rx ta):=by
 intro ae s σ H R I h;refine Call_ (jW I hg hm boot_range (qt (cz (ha pos ae s σ H _ I h) fun us s1 ⟨vs,H1,I1,r1,q1⟩=>?_) hs rfl));obtain⟨j,e,q1,q2,q⟩:=q1;subst e;cases r1 with
 |cons r rr=>
  cases rr;obtain⟨t,rfl⟩:=r;exact call_range_1 (xA I1 (by lia) (by lia) q1 q2 (by simpa using q))
theorem Dt(hg:Gl X "range")(hm:X.mg "range"=none)(ha:PA X [a,b] ta)(hs:starEach [a,b] X.env=[(false,eval a X.env),(false,eval b X.env)]:=by rfl)(pF:starEach [b] X.env=[(false,eval b X.env)]:=by rfl):
  PI X tg (.Call (.Name "range" p) [a,b] [] pos) (Ry ta):=by
 intro ae s σ H R I h;refine Call_ (jW I hg hm boot_range (qt (cz (ha pos ae s σ H _ I h) fun us s1 ⟨vs,H1,I1,r1,q1⟩=>?_) (by rw[hs,pF]) (by rw[pF];rfl)));obtain⟨i,j,e,⟨q1,q2,q3,q4⟩,q⟩:=q1;subst e;cases r1 with
 |cons r rr=>
  cases rr with
  |cons r' rr=>
   cases rr;obtain⟨t,rfl⟩:=r;obtain⟨t',rfl⟩:=r';exact call_range_2 (xA I1 q1 q2 q3 q4 q)
def W_(wi:TI)(g:TG)(tb:TS):TS:=fun D σ H=>wi σ H fun J H1=>∃W:Nat->Nat->St->Hp->Prop,(∃m,W 0 m σ H1)/\∀i m σ H,W i m σ H->
 (J.stop i H/\D.nx σ H)\/(J.go i H/\∃N:St->Hp->Prop,(∀σ' H',N σ' H'->∃m',m'<m/\W (i+1) m' σ' H')/\∀x H',J.Qt i H x H'->g x σ H' fun σ2 H2=>tb { D with nx:=N,ct:=N,bk:=D.nx } σ2 H2)
def ra(fp:List Addr)(h:Heap):List (Addr×Obj):=fp.filterMap fun b=>(h.get? b).map fun o=>(b,o)
theorem jc(hb:b∈fp)(e:h.get? b=some o):(b,o)∈ra fp h:=m_.mpr ⟨b,hb,by rw[e];rfl⟩
theorem Du(hp:p∈ra fp h):p.1∈fp/\h.get? p.1=some p.2:=by
 obtain⟨b,hb,e⟩:=m_.mp hp;cases q:h.get? b with
 |none=>rw[q] at e;cases e
 |some o=>
  rw[q] at e;have e':(b,o)=p:=bh e;subst e';exact⟨hb,q⟩
theorem aM.pinned(I:aM X ae σ H s)(hf:∀b∈fp,fP X ae H b)(ho:∀b∈fp,∃o,s.heap.get? b=some o/\∀v,o.data≠.cell v):aM X (ae++ra fp s.heap) σ H s:=
 I.l8 fun p hp=>(bY.mp hp).elim (fun z=>I.pin p (dP _ z)) fun z=>by
  obtain⟨hb,e⟩:=Du z;obtain⟨f0,f1,f2,_⟩:=hf p.1 hb;obtain⟨o,e',d⟩:=ho p.1 hb;rw[e] at e';cases e';exact⟨e,f0,f1,f2,d⟩
theorem aM.me(I:aM X (ae++pl) σ H s):aM X ae σ H s:=I.l8 fun p hp=>I.pin p (dP _ (fj _ hp))
theorem dH(hp:PassesOwn (model X.prog X.w) X.A X.env X.xe)(hc:X.calm=true)(hi:PI X tg jC wi)(hg:PG X tg g)(hb:Ag X body tb)(hs:∀x,foldedSetIterable jC X.env x=pure x:=by intro _;rfl):PS X (.For tg jC body [] pos) (W_ wi g tb):=by
 intro ae s σ H D I h;refine wpAny_For (cz (hi ae s σ H _ I h) fun v s1 h1=>cz h1 fun VO s2 h2=>?_) hs;obtain⟨it,fp,tn,J,H2,e,I2,T,Aj,f2,W,⟨m0,w0⟩,E9⟩:=h2;subst e;have Ak:∀ {H':Hp},(∀b∈fp,H' b=none)->∀b∈fp,fP X ae H' b:=fun hn b hb=>⟨hn b hb,(f2 b hb).2⟩
 refine codeAny_forLoop_any (fun n s'=>∃i σ' H',aM X ae σ' H' s'/\tn i s'.heap/\(∀b∈fp,H' b=none)/\W i n σ' H') ?_ m0 ⟨0,σ,H2,I2,Aj,fun b hb=>(f2 b hb).1,w0⟩;rintro n s3 ⟨i,σ3,H3,I3,Al,Jb,w3⟩;rcases E9 i n σ3 H3 w3 with ⟨stop,qn⟩|⟨go,N,hN,step⟩
 .refine lw hp (cz (T.done X rfl rfl rfl hc i ae s3 σ3 H3 X.xe I3 (Ak Jb) Al stop) fun r s4 ⟨hr,I4⟩=>?_);subst hr;exact vo ⟨σ3,H3,I4,qn⟩
 .refine lw hp (cz (T.item X rfl rfl rfl hc i ae s3 σ3 H3 X.xe I3 (Ak Jb) Al go) fun r s4 ⟨u,hr,h4⟩=>?_);subst hr;refine lw hp (cz h4 fun _ s5 ⟨x,H5,I5,r5,y5,xh,Xa⟩=>?_);have Xb:=I5.pinned (Ak Xa) (T.obj _ _ xh);refine lw hp (cz (hg _ s5 σ3 H5 x u _ Xb r5 (step x H5 y5)) fun _ s6 ⟨σ6,H6,I6,q6⟩=>?_);refine lw hp (cz (hb _ s6 σ6 H6 _ I6 q6) fun f s7 q7=>?_);have again:∀ {σ7:St} {H7:Hp},aM X (ae++ra fp s5.heap) σ7 H7 s7->N σ7 H7->∃m,m<n/\∃i σ' H',aM X ae σ' H' s7/\tn i s7.heap/\(∀b∈fp,H' b=none)/\W i m σ' H':=fun {σ7 H7} I7 n7=>by
   obtain⟨m',hm,w7⟩:=hN σ7 H7 n7;refine⟨m',hm,i+1,σ7,H7,I7.me,T.keep _ _ _ xh fun b hb o e=>(I7.pin (b,o) (dP _ (dP _ (jc hb e)))).1,fun b hb=>?_,w7⟩;obtain⟨o,e,d⟩:=T.obj _ _ xh b hb;exact(I7.pin (b,o) (dP _ (dP _ (jc hb e)))).2.1
  cases f with
  |next=>obtain⟨σ7,H7,I7,n7⟩:=q7;exact again I7 n7
  |cont=>obtain⟨σ7,H7,I7,n7⟩:=q7;exact again I7 n7
  |brk=>obtain⟨σ7,H7,I7,q7⟩:=q7;exact⟨σ7,H7,I7.me,q7⟩
  |ret v=>obtain⟨x7,σ7,H7,I7,r7,q7⟩:=q7;exact⟨x7,σ7,H7,I7.me,r7,q7⟩
end
theorem g7{K:PySem.W.Frag}{a:Addr}{xs:List V}{g:TG}{tb:TS}{D:xt}{σ:St}{H:Hp}(Pv:Nat->St->Hp->Prop)(h0:Pv 0 σ H)(hl:∀i σ H,i<=xs.length->Pv i σ H->aV K H a xs)(hs:∀i x σ H,xs[i]?=some x->Pv i σ H->g x σ H fun σ2 H2=>tb { D with nx:=Pv (i+1),ct:=Pv (i+1),bk:=D.nx } σ2 H2)(hd:∀σ H,Pv xs.length σ H->D.nx σ H):
  ∃W:Nat->Nat->St->Hp->Prop,(∃m,W 0 m σ H)/\∀i m σ H,W i m σ H->
   ((Dr K a).stop i H/\D.nx σ H)\/((Dr K a).go i H/\∃N:St->Hp->Prop,(∀σ' H',N σ' H'->∃m',m'<m/\W (i+1) m' σ' H')/\∀x H',(Dr K a).Qt i H x H'->g x σ H' fun σ2 H2=>tb { D with nx:=N,ct:=N,bk:=D.nx } σ2 H2):=by
 refine⟨fun i m σ H=>m=xs.length-i/\i<=xs.length/\Pv i σ H,⟨xs.length,by simp,cu _,h0⟩,?_⟩;rintro i m σ H ⟨rfl,hi,p⟩;have q:=hl i σ H hi p;by_cases eL:i<xs.length
 .refine .inr ⟨⟨xs,xs[i],q,by simp[eL]⟩,Pv (i+1),fun σ' H' p'=>⟨xs.length-(i+1),by lia,rfl,eL,p'⟩,fun x H' y=>?_⟩;obtain⟨e,y⟩:=y;subst e;exact hs i x σ _ (y xs q) p
 .have e:i=xs.length:=by lia
  subst e;exact .inl ⟨⟨xs,q,aT _⟩,hd σ H p⟩
theorem BK{K:PySem.W.Frag}{a:Addr}{xs:List V}{g:TG}{tb:TS}{D:xt}{σ:St}{H:Hp}(Pv:Nat->St->Hp->Prop)(h0:Pv 0 σ H)(hl:∀i σ H,i<=xs.length->Pv i σ H->bW K H a xs)(hs:∀i x σ H,xs[i]?=some x->Pv i σ H->g x σ H fun σ2 H2=>tb { D with nx:=Pv (i+1),ct:=Pv (i+1),bk:=D.nx } σ2 H2)(hd:∀σ H,Pv xs.length σ H->D.nx σ H):
  ∃W:Nat->Nat->St->Hp->Prop,(∃m,W 0 m σ H)/\∀i m σ H,W i m σ H->
   ((Qu K a).stop i H/\D.nx σ H)\/((Qu K a).go i H/\∃N:St->Hp->Prop,(∀σ' H',N σ' H'->∃m',m'<m/\W (i+1) m' σ' H')/\∀x H',(Qu K a).Qt i H x H'->g x σ H' fun σ2 H2=>tb { D with nx:=N,ct:=N,bk:=D.nx } σ2 H2):=by
 refine⟨fun i m σ H=>m=xs.length-i/\i<=xs.length/\Pv i σ H,⟨xs.length,by simp,cu _,h0⟩,?_⟩;rintro i m σ H ⟨rfl,hi,p⟩;have q:=hl i σ H hi p;by_cases eL:i<xs.length
 .refine .inr ⟨⟨xs,xs[i],q,by simp[eL]⟩,Pv (i+1),fun σ' H' p'=>⟨xs.length-(i+1),by lia,rfl,eL,p'⟩,fun x H' y=>?_⟩;obtain⟨e,y⟩:=y;subst e;exact hs i x σ _ (y xs q) p
 .have e:i=xs.length:=by lia
  subst e;exact .inl ⟨⟨xs,q,aT _⟩,hd σ H p⟩
theorem dX{lo:Int}{n:Nat}{g:TG}{tb:TS}{D:xt}{σ:St}{H:Hp}(Pv:Nat->St->Hp->Prop)(h0:Pv 0 σ H)(hs:∀i σ H,i<n->Pv i σ H->g (.int (lo+i)) σ H fun σ2 H2=>tb { D with nx:=Pv (i+1),ct:=Pv (i+1),bk:=D.nx } σ2 H2)(hd:∀σ H,Pv n σ H->D.nx σ H):
  ∃W:Nat->Nat->St->Hp->Prop,(∃m,W 0 m σ H)/\∀i m σ H,W i m σ H->
   ((Iz lo n).stop i H/\D.nx σ H)\/((Iz lo n).go i H/\∃N:St->Hp->Prop,(∀σ' H',N σ' H'->∃m',m'<m/\W (i+1) m' σ' H')/\∀x H',(Iz lo n).Qt i H x H'->g x σ H' fun σ2 H2=>tb { D with nx:=N,ct:=N,bk:=D.nx } σ2 H2):=by
 refine⟨fun i m σ H=>m=n-i/\i<=n/\Pv i σ H,⟨n,by simp,cu _,h0⟩,?_⟩;rintro i m σ H ⟨rfl,hi,p⟩;by_cases eL:i<n
 .refine .inr ⟨eL,Pv (i+1),fun σ' H' p'=>⟨n-(i+1),by lia,rfl,eL,p'⟩,fun x H' y=>?_⟩;obtain⟨e,y⟩:=y;subst e y;exact hs i σ _ eL p
 .have e:i=n:=by lia
  subst e;exact .inl ⟨aT _,hd σ H p⟩
theorem Fa(Pv:St->Hp->Prop)(μ:St->Hp->Nat)(h0:Pv σ H)(hs:∀σ H,Pv σ H->c σ H fun b H1=>if b=true then tb { D with nx:=fun σ' H'=>Pv σ' H'/\μ σ' H'<μ σ H,ct:=fun σ' H'=>Pv σ' H'/\μ σ' H'<μ σ H,bk:=D.nx } σ H1 else D.nx σ H1)(mono:∀σ H Q Q',(∀b H1,Q b H1->Q' b H1)->c σ H Q->c σ H Q'):E8 c tb D σ H:=by
 refine⟨fun m σ H=>m=μ σ H/\Pv σ H,⟨_,rfl,h0⟩,?_⟩;rintro m σ H ⟨rfl,p⟩;refine mono σ H _ _ (fun b H1 q=>?_) (hs σ H p);cases b with
 |true=>exact⟨_,fun σ' H' ⟨p',l⟩=>⟨_,l,rfl,p'⟩,q⟩
 |false=>exact q
abbrev R2:=V->V->Hp->VK->Prop
def k_(X:Cx)(f:Value->Value->Sem Value)(r:R2):Prop:=
 ∀ (ae:List (Addr×Obj)) (s:Shared) (σ:St) (H:Hp) (x y:V) (v u:Value) (Q:VK),aM X ae σ H s->bw x v->bw y u->r x y H Q->
  wpAny (model X.prog X.w) X.A (f v u) (EP X ae σ Q) X.xe s
def Xc(X:Cx)(f:Value->Sem Value)(r:V->Hp->VK->Prop):Prop:=
 ∀ (ae:List (Addr×Obj)) (s:Shared) (σ:St) (H:Hp) (x:V) (v:Value) (Q:VK),aM X ae σ H s->bw x v->r x H Q->
  wpAny (model X.prog X.w) X.A (f v) (EP X ae σ Q) X.xe s
def gm(X:Cx)(f:Value)(r:List V->Hp->VK->Prop):Prop:=
 ∀ (ae:List (Addr×Obj)) (s:Shared) (σ:St) (H:Hp) (xs:List V) (us:List Value) (Q:VK),aM X ae σ H s->aY xs us->r xs H Q->
  wpAny (model X.prog X.w) X.A (call f us) (EP X ae σ Q) X.xe s
def Xd(X:Cx)(r:V->Hp->(Bool->Hp->Prop)->Prop):Prop:=
 ∀ (ae:List (Addr×Obj)) (s:Shared) (σ:St) (H:Hp) (x:V) (v:Value) (Q:Bool->Hp->Prop),aM X ae σ H s->bw x v->r x H Q->
  wpAny (model X.prog X.w) X.A (truthy v) (TP X ae σ Q) X.xe s
def eU(r:R2)(ta tb:TE):TE:=fun σ H Q=>ta σ H fun x H1=>tb σ H1 fun y H2=>r x y H2 Q
def tUn(r:V->Hp->VK->Prop)(ta:TE):TE:=fun σ H Q=>ta σ H fun x H1=>r x H1 Q
def rI(C:Int->Int->Prop)(g:Int->Int->V):R2:=fun x y H Q=>∃i j,x=.int i/\y=.int j/\C i j/\Q (g i j) H
def rb(g:Int->Int->V):R2:=fun x y H Q=>∃i j,x=.int i/\y=.int j/\Q (g i j) H
def rU(g:Int->V):V->Hp->VK->Prop:=fun x H Q=>∃i,x=.int i/\Q (g i) H
section
variable {X:Cx} {a b c:Expr} {ta tb tc:TE} {pos:Pos}
theorem NE(ha:PE X a ta)(hb:PE X b tb){ae:List (Addr×Obj)}{s:Shared}{σ:St}{H:Hp}{R:V->V->Hp->Prop}(I:aM X ae σ H s)(h:ta σ H fun x H1=>tb σ H1 fun y H2=>R x y H2){Q:Value->Shared->Prop}{f:Value->Value->Sem Value}(hf:∀v u s2 x y H2,aM X ae σ H2 s2->bw x v->bw y u->R x y H2->wpAny (model X.prog X.w) X.A (f v u) Q X.xe s2):
  wpAny (model X.prog X.w) X.A (eval a X.env) (fun v s₁=>wpAny (model X.prog X.w) X.A (eval b X.env) (fun u s₂=>wpAny (model X.prog X.w) X.A (f v u) Q X.xe s₂) X.xe s₁) X.xe s:=by
 refine cz (ha ae s σ H _ I h) fun v s1 ⟨x,H1,I1,r1,q1⟩=>?_;refine cz (hb ae s1 σ H1 _ I1 q1) fun u s2 ⟨y,H2,I2,r2,q2⟩=>?_;exact hf v u s2 x y H2 I2 r1 r2 q2
theorem aP{op:Operator}{r:R2}(ho:k_ X (binaryOp op) r)(ha:PE X a ta)(hb:PE X b tb):PE X (.BinOp a op b pos) (eU r ta tb):=by
 intro ae s σ H Q I h;exact wpAny_BinOp (NE ha hb I h fun v u s2 x y H2 I2 rx ry q=>ho ae s2 σ H2 x y v u Q I2 rx ry q)
theorem BL(ho:Xc X (unaryOp op) r)(ha:PE X a ta):PE X (.UnaryOp op a pos) (tUn r ta):=by
 intro ae s σ H Q I h;exact UnaryOp_ (cz (ha ae s σ H _ I h) fun v s1 ⟨x,H1,I1,r1,q1⟩=>ho ae s1 σ H1 x v Q I1 r1 q1)
theorem Rz{f:Value->Value->Sem Value}{C:Int->Int->Prop}{g:Int->Int->Int}(rule:∀ (i j:Int) (t u:Tok) (s:Shared) (Q:Value->Shared->Prop) (E:Value->Shared->Prop),C i j->Q (.int (g i j) s.toks) { s with toks:=s.toks+1 }->wpAny (model X.prog X.w) X.A (f (.int i t) (.int j u)) Q E s):
  k_ X f (rI C fun i j=>.int (g i j)):=by
 intro ae s σ H x y v u Q I rx ry h;obtain⟨i,j,rfl,rfl,hc,q⟩:=h;obtain⟨t,rfl⟩:=rx;obtain⟨t',rfl⟩:=ry;exact rule i j t t' s _ _ hc ⟨.int (g i j),H,I.tok _,⟨_,rfl⟩,q⟩
theorem RA{f:Value->Value->Sem Value}{g:Int->Int->Int}(rule:∀ (i j:Int) (t u:Tok) (s:Shared) (Q:Value->Shared->Prop) (E:Value->Shared->Prop),Q (.int (g i j) s.toks) { s with toks:=s.toks+1 }->wpAny (model X.prog X.w) X.A (f (.int i t) (.int j u)) Q E s):
  k_ X f (rb fun i j=>.int (g i j)):=by
 intro ae s σ H x y v u Q I rx ry h;obtain⟨i,j,rfl,rfl,q⟩:=h;obtain⟨t,rfl⟩:=rx;obtain⟨t',rfl⟩:=ry;exact rule i j t t' s _ _ ⟨.int (g i j),H,I.tok _,⟨_,rfl⟩,q⟩
theorem Jc{f:Value->Value->Sem Value}{g:Int->Int->Bool}(rule:∀ (i j:Int) (t u:Tok) (s:Shared) (Q:Value->Shared->Prop) (E:Value->Shared->Prop),Q (.bool (g i j)) s->wpAny (model X.prog X.w) X.A (f (.int i t) (.int j u)) Q E s):
  k_ X f (rb fun i j=>.bl (g i j)):=by
 intro ae s σ H x y v u Q I rx ry h;obtain⟨i,j,rfl,rfl,q⟩:=h;obtain⟨t,rfl⟩:=rx;obtain⟨t',rfl⟩:=ry;exact rule i j t t' s _ _ ⟨.bl (g i j),H,I,rfl,q⟩
def Xe(i j:Int):Prop:=0<j/\j<1073741824
def Xf(i j:Int):Prop:=0<=j/\j<=1000000/\i.natAbs<2 ^ 64
def Fb(i j:Int):Prop:=(-(2 ^ 64)<i/\i<2 ^ 64)\/(-(2 ^ 64)<j/\j<2 ^ 64)
theorem Fb.ok(h:Fb i j):IntMulOk i j:=by
 rcases h with ⟨h1,h2⟩|⟨h1,h2⟩
 .exact .of_left (intBits_le_64 h1 h2)
 .exact .of_right (intBits_le_64 h1 h2)
theorem cx:k_ X (binaryOp .Add) (rb fun i j=>.int (i+j)):=RA fun _ _ _ _ _ _ _ q=>add_int q
theorem iH:k_ X (binaryOp .Sub) (rb fun i j=>.int (i-j)):=RA fun _ _ _ _ _ _ _ q=>sub_int q
theorem fw:k_ X (binaryOp .Mult) (rI Fb fun i j=>.int (i*j)):=Rz fun _ _ _ _ _ _ _ hc q=>mul_int q hc.ok
theorem vB:k_ X (binaryOp .FloorDiv) (rI Xe fun i j=>.int (i / j)):=Rz fun i j _ _ _ _ _ hc q=>by
 have h1:(0:Int)<j:=hc.1;have h2:j<1073741824:=hc.2;exact floordiv_int (by lia) (by rw[EM i (by lia)];exact q) (.inl (PyProof.noPylong_small (by lia)))
theorem gc:k_ X (binaryOp .Mod) (rI (fun _ j=>0<j) fun i j=>.int (i % j)):=Rz fun i j _ _ _ _ _ hc q=>by
 have h1:(0:Int)<j:=hc;exact mod_int' (by lia) (by rw[EL i (by lia)];exact q)
theorem NF:k_ X (binaryOp .Pow) (rI Xf fun i j=>.int (i ^ j.toNat)):=Rz fun _ _ _ _ _ _ _ hc q=>pow_int_small hc.1 hc.2.1 hc.2.2 q
theorem unI{f:Value->Sem Value}{g:Int->Int}(rule:∀ (i:Int) (t:Tok) (s:Shared) (Q:Value->Shared->Prop) (E:Value->Shared->Prop),Q (.int (g i) s.toks) { s with toks:=s.toks+1 }->wpAny (model X.prog X.w) X.A (f (.int i t)) Q E s):
  Xc X f (rU fun i=>.int (g i)):=by
 intro ae s σ H x v Q I rx h;obtain⟨i,rfl,q⟩:=h;obtain⟨t,rfl⟩:=rx;exact rule i t s _ _ ⟨.int (g i),H,I.tok _,⟨_,rfl⟩,q⟩
theorem vC:Xc X (unaryOp .USub) (rU fun i=>.int (-i)):=unI fun _ _ _ _ _ q=>neg_int q
end
def Fc:V->V->Bool
 |.bV,.bV=>true|.bV,.int _=>true|.int _,.bV=>true|.bV,.bl _=>true|.bl _,.bV=>true|.bV,.str _=>true|.str _,.bV=>true
 |.int _,.int _=>true|.bl _,.bl _=>true|.str _,.str _=>true|.Ad _,.Ad _=>true
 |.int _,.str _=>true|.str _,.int _=>true|.bl _,.str _=>true|.str _,.bl _=>true
 |_,_=>false
def Qv:R2:=fun x y H Q=>Fc x y=true/\Q (.bl (decide (x=y))) H
def rNe:R2:=fun x y H Q=>Fc x y=true/\Q (.bl (!decide (x=y))) H
theorem BM:decide (V.int i=V.int j)=(i==j):=by
 rw[iA];simp
theorem Fd:decide (V.bl i=V.bl j)=(i==j):=by
 rw[iA];simp
theorem BN:decide (V.str i=V.str j)=(i==j):=by
 rw[iA];simp
theorem BO:decide (V.Ad i=V.Ad j)=(i.toList==j.toList):=by
 rw[iA];cases i;cases j;simp
section
variable {X:Cx} {a b c:Expr} {ta tb tc:TE} {pos:Pos}
theorem bP(I:aM X ae σ H s)(q:Q (.bl k) H)(e:k=k'):EP X ae σ Q (.bool k') s:=by
 subst e;exact⟨.bl k,H,I,rfl,q⟩
theorem gn:k_ X (compareOp .Eq) Qv:=by
 intro ae s σ H x y v u Q I rx ry h;obtain⟨hs,q⟩:=h;cases x with
 |bV=>
  cases rx;cases y with
  |bV=>cases ry;exact PySem.EqNone.eq_none_none (bP I q (by simp))
  |bl j=>cases ry;exact PySem.EqNone.eq_none_bool (bP I q (by simp))
  |int j=>obtain⟨t',rfl⟩:=ry;exact PySem.EqNone.eq_none_int (bP I q (by simp))
  |str j=>obtain⟨t',rfl⟩:=ry;exact PySem.EqNone.eq_none_str (bP I q (by simp))
  |_=>exact absurd (show false=true from hs) cJ
 |bl i=>
  cases rx;cases y with
  |bV=>cases ry;exact PySem.EqNone.eq_bool_none (bP I q (by simp))
  |bl j=>cases ry;exact eq_bool (bP I q Fd)
  |str j=>obtain⟨t',rfl⟩:=ry;exact PySem.EqMixed.eq_bool_str (bP I q (by simp))
  |_=>exact absurd (show false=true from hs) cJ
 |int i=>
  obtain⟨t,rfl⟩:=rx;cases y with
  |bV=>cases ry;exact PySem.EqNone.eq_int_none (bP I q (by simp))
  |int j=>obtain⟨t',rfl⟩:=ry;exact eq_int (bP I q BM)
  |str j=>obtain⟨t',rfl⟩:=ry;exact PySem.EqMixed.eq_int_str (bP I q (by simp))
  |_=>exact absurd (show false=true from hs) cJ
 |str i=>
  obtain⟨t,rfl⟩:=rx;cases y with
  |bV=>cases ry;exact PySem.EqNone.eq_str_none (bP I q (by simp))
  |bl j=>cases ry;exact PySem.EqMixed.eq_str_bool (bP I q (by simp))
  |int j=>obtain⟨t',rfl⟩:=ry;exact PySem.EqMixed.eq_str_int (bP I q (by simp))
  |str j=>obtain⟨t',rfl⟩:=ry;exact eq_str (bP I q BN)
  |_=>exact absurd (show false=true from hs) cJ
 |Ad i=>
  obtain⟨t,rfl⟩:=rx;cases y with
  |Ad j=>obtain⟨t',rfl⟩:=ry;exact PySem.W.eq_bytes (bP I q BO)
  |_=>exact absurd (show false=true from hs) cJ
 |_=>cases y <;> exact absurd (show false=true from hs) cJ
theorem BP:k_ X (compareOp .NotEq) rNe:=by
 intro ae s σ H x y v u Q I rx ry h;obtain⟨hs,q⟩:=h;cases x with
 |bV=>
  cases rx;cases y with
  |bV=>cases ry;exact PySem.EqNone.ne_none_none (bP I q (by simp))
  |bl j=>cases ry;exact PySem.EqNone.ne_none_bool (bP I q (by simp))
  |int j=>obtain⟨t',rfl⟩:=ry;exact PySem.EqNone.ne_none_int (bP I q (by simp))
  |str j=>obtain⟨t',rfl⟩:=ry;exact PySem.EqNone.ne_none_str (bP I q (by simp))
  |_=>exact absurd (show false=true from hs) cJ
 |bl i=>
  cases rx;cases y with
  |bV=>cases ry;exact PySem.EqNone.ne_bool_none (bP I q (by simp))
  |bl j=>cases ry;exact ne_bool (bP I q (congrArg not Fd))
  |str j=>obtain⟨t',rfl⟩:=ry;exact PySem.EqMixed.ne_bool_str (bP I q (by simp))
  |_=>exact absurd (show false=true from hs) cJ
 |int i=>
  obtain⟨t,rfl⟩:=rx;cases y with
  |bV=>cases ry;exact PySem.EqNone.ne_int_none (bP I q (by simp))
  |int j=>obtain⟨t',rfl⟩:=ry;exact ne_int (bP I q (congrArg not BM))
  |str j=>obtain⟨t',rfl⟩:=ry;exact PySem.EqMixed.ne_int_str (bP I q (by simp))
  |_=>exact absurd (show false=true from hs) cJ
 |str i=>
  obtain⟨t,rfl⟩:=rx;cases y with
  |bV=>cases ry;exact PySem.EqNone.ne_str_none (bP I q (by simp))
  |bl j=>cases ry;exact PySem.EqMixed.ne_str_bool (bP I q (by simp))
  |int j=>obtain⟨t',rfl⟩:=ry;exact PySem.EqMixed.ne_str_int (bP I q (by simp))
  |str j=>obtain⟨t',rfl⟩:=ry;exact ne_str (bP I q (congrArg not BN))
  |_=>exact absurd (show false=true from hs) cJ
 |Ad i=>
  obtain⟨t,rfl⟩:=rx;cases y with
  |Ad j=>obtain⟨t',rfl⟩:=ry;exact PySem.W.ne_bytes (bP I q (congrArg not BO))
  |_=>exact absurd (show false=true from hs) cJ
 |_=>cases y <;> exact absurd (show false=true from hs) cJ
theorem jZ:k_ X (compareOp .Lt) (rb fun i j=>.bl (decide (i<j))):=Jc fun _ _ _ _ _ _ _ q=>lt_int q
theorem xB:k_ X (compareOp .LtE) (rb fun i j=>.bl (decide (i<=j))):=Jc fun _ _ _ _ _ _ _ q=>le_int q
theorem BQ:k_ X (compareOp .Gt) (rb fun i j=>.bl (decide (j<i))):=Jc fun _ _ _ _ _ _ _ q=>gt_int q
theorem MA:k_ X (compareOp .GtE) (rb fun i j=>.bl (decide (j<=i))):=Jc fun _ _ _ _ _ _ _ q=>ge_int q
theorem nX:k_ X (compareOp .Is) (fun x y H Q=>y=.bV/\Q (.bl (decide (x=.bV))) H):=by
 intro ae s σ H x y v u Q I rx ry h;obtain⟨rfl,q⟩:=h;cases ry;refine is_none_gen (bP I q ?_);cases x <;> first
  |(cases rx;rfl)
  |(obtain⟨t,rfl⟩:=rx;rfl)
theorem pX:k_ X (compareOp .IsNot) (fun x y H Q=>y=.bV/\Q (.bl (!decide (x=.bV))) H):=by
 intro ae s σ H x y v u Q I rx ry h;obtain⟨rfl,q⟩:=h;cases ry;refine isnot_none_gen (bP I q ?_);cases x <;> first
  |(cases rx;rfl)
  |(obtain⟨t,rfl⟩:=rx;rfl)
theorem aS(b:Expr)(h:op≠.In:=by decide)(h2:op≠.NotIn:=by decide):behindInMarks op b=false:=by
 have e1:(op==CmpOp.In)=false:=by cases op <;> first|rfl|exact absurd rfl h
 have e2:(op==CmpOp.NotIn)=false:=by cases op <;> first|rfl|exact absurd rfl h2
 cases b <;> simp[behindInMarks,e1,e2]
theorem dI(ho:k_ X (compareOp op) r)(ha:PE X a ta)(hb:PE X b tb)(hm:behindInMarks op b=false):PE X (.Compare a [op] [b] pos) (eU r ta tb):=by
 intro ae s σ H Q I h;exact wpAny_Compare1 (NE ha hb I h fun v u s2 x y H2 I2 rx ry q=>ho ae s2 σ H2 x y v u Q I2 rx ry q) hm
def iQ(t:TE):TT:=fun σ H Q=>t σ H fun x H'=>∃k,x=.bl k/\Q k H'
theorem aQ(ho:k_ X (compareOp op) r)(ha:PE X a ta)(hb:PE X b tb)(hm:behindInMarks op b=false):PT X (.Compare a [op] [b] pos) (iQ (eU r ta tb)):=by
 intro ae s σ H Q I h;refine wpAny_isTrue_Compare1 (cz (ha ae s σ H _ I h) fun v s1 ⟨x,H1,I1,r1,q1⟩=>cz (hb ae s1 σ H1 _ I1 q1) fun u s2 ⟨y,H2,I2,r2,q2⟩=>
  cz (ho ae s2 σ H2 x y v u _ I2 r1 r2 q2) fun c s3 ⟨z,H3,I3,r3,k,e,q3⟩=>?_) hm
 subst e;cases r3;exact k8 ⟨H3,I3,q3⟩
def Fe(r r':R2)(ta tb tc:TE):TE:=fun σ H Q=>ta σ H fun x H1=>tb σ H1 fun y H2=>r x y H2 fun z H3=>∃k,z=.bl k/\
 (if k=true then tc σ H3 fun w' H4=>r' y w' H4 Q else Q (.bl false) H3)
theorem Ff(ho:k_ X (compareOp op) r)(Ae:k_ X (compareOp Qw) r')(ha:PE X a ta)(hb:PE X b tb)(hc:PE X c tc)(hm:lastMarks [op,Qw] [b,c]=false:=by with_unfolding_all rfl):PE X (.Compare a [op,Qw] [b,c] pos) (Fe r r' ta tb tc):=by
 intro ae s σ H Q I h;refine Compare_chain (cz (ha ae s σ H _ I h) fun v s1 ⟨x,H1,I1,r1,q1⟩=>chain_link (cz (hb ae s1 σ H1 _ I1 q1) fun u s2 ⟨y,H2,I2,r2,q2⟩=>
  cz (ho ae s2 σ H2 x y v u _ I2 r1 r2 q2) fun d s3 ⟨z,H3,I3,r3,k,e,q3⟩=>?_)) hm
 subst e;cases r3;refine k8 ?_;cases k with
 |false=>exact ite_ff ⟨.bl false,H3,I3,rfl,q3⟩
 |true=>exact ite_tt (chain_last (cz (hc ae s3 σ H3 _ I3 q3) fun w' s4 ⟨z',H4,I4,r4,q4⟩=>Ae ae s4 σ H4 y z' u w' Q I4 r2 r4 q4))
theorem Fg{op Qw:CmpOp}{r r':R2}(ho:k_ X (compareOp op) r)(Ae:k_ X (compareOp Qw) r')(ha:PE X a ta)(hb:PE X b tb)(hc:PE X c tc)(hm:lastMarks [op,Qw] [b,c]=false:=by with_unfolding_all rfl):PT X (.Compare a [op,Qw] [b,c] pos) (iQ (Fe r r' ta tb tc)):=by
 intro ae s σ H Q I h;refine isTrue_chain (cz (ha ae s σ H _ I h) fun v s1 ⟨x,H1,I1,r1,q1⟩=>test_link (cz (hb ae s1 σ H1 _ I1 q1) fun u s2 ⟨y,H2,I2,r2,q2⟩=>
  cz (ho ae s2 σ H2 x y v u _ I2 r1 r2 q2) fun d s3 ⟨z,H3,I3,r3,k,e,q3⟩=>?_)) hm
 subst e;cases r3;refine k8 ?_;cases k with
 |false=>
  obtain⟨k',e',q'⟩:=q3;cases e';exact ite_ff ⟨H3,I3,q'⟩
 |true=>
  refine ite_tt (test_last (cz (hc ae s3 σ H3 _ I3 q3) fun w' s4 ⟨z',H4,I4,r4,q4⟩=>cz (Ae ae s4 σ H4 y z' u w' _ I4 r2 r4 q4) fun d' s5 ⟨z2,H5,I5,r5,k2,e2,q5⟩=>?_));subst e2;cases r5;exact k8 ⟨H5,I5,q5⟩
def RB(K:PySem.W.Frag)(x:V)(H:Hp)(k:Bool):Prop:=
 match x with
 |.bV=>k=false
 |.bl b=>k=b
 |.int i=>k=(i != 0)
 |.str y=>y.length<=sizeLine/\k=((y.length:Int) != 0)
 |.Ad y=>y.size<=sizeLine/\k=((y.size:Int) != 0)
 |.ref p=>(∃xs,aV K H p xs/\k=!xs.isEmpty)\/(∃xs,bW K H p xs/\k=!xs.isEmpty)\/∃bj,H p=some (.dK bj)/\k=!bj.isEmpty
 |_=>False
theorem Am{κ:Type}{bj:List (κ×V)}{vs:List (κ×Value)}(r:KV bj vs):(!vs.isEmpty)=!bj.isEmpty:=by
 cases r <;> rfl
theorem rc{xs:List V}{its:List Value}(r:aY xs its):(!its.toArray.isEmpty)=!xs.isEmpty:=by
 cases r <;> simp
theorem rd:(sizeLine:Nat)<2 ^ 63:=by rw[fX];decide
theorem NG:Xd X (fun x H Q=>∃k,RB X.K x H k/\Q k H):=by
 intro ae s σ H x v Q I rx h;obtain⟨k,e,q⟩:=h;have hl:=rd;have hs:sizeLine=16777216:=fX;cases x with
 |bV=>
  cases rx;have e':k=false:=e;subst e';exact truthy_none ⟨H,I,q⟩
 |bl b=>
  cases rx;have e':k=b:=e;subst e';exact k8 ⟨H,I,q⟩
 |int i=>
  obtain⟨t,rfl⟩:=rx;have e':k=(i != 0):=e;subst e';exact PySem.P.truthy_int ⟨H,I,q⟩
 |str y=>
  obtain⟨t,rfl⟩:=rx;obtain⟨hy,e'⟩:y.length<=sizeLine/\k=((y.length:Int) != 0):=e;subst e';exact PySem.P.truthy_str (by lia) ⟨H,I.tok _,q⟩
 |Ad y=>
  obtain⟨t,rfl⟩:=rx;obtain⟨hy,e'⟩:y.size<=sizeLine/\k=((y.size:Int) != 0):=e;subst e';exact PySem.W.truthy_bytes (by lia) ⟨H,I.tok _,q⟩
 |ref p=>
  cases rx;have e':(∃xs,aV X.K H p xs/\k=!xs.isEmpty)\/(∃xs,bW X.K H p xs/\k=!xs.isEmpty)\/∃bj,H p=some (.dK bj)/\k=!bj.isEmpty:=e;rcases e' with ⟨xs,hx,e'⟩|⟨xs,hx,e'⟩|⟨bj,hx,e'⟩
  .subst e';obtain⟨its,r,pl,hz⟩:=I.list hx;have d9:=r.length;exact wpAny_truthy_list pl.isList (by simp only[cm];lia) ⟨H,I.tok _,by rw[rc r];exact q⟩
  .subst e';obtain⟨its,r,pl,hz⟩:=I.tuple hx;have d9:=r.length;exact truthy_tuple pl (by simp only[cm];lia) ⟨H,I.tok _,by rw[rc r];exact q⟩
  .subst e';obtain⟨hz,hS,vs,r,m⟩:bj.length<=sizeLine/\(p==sysModules)=false/\∃vs,KV bj vs/\s.heap.DictOf (dw X.prog X.w) p vs:=I.bL p _ hx;have d9:bj.length=vs.length:=Paired.length r;exact wpAny_truthy_dict hS m (by lia) ⟨H,I.tok _,by rw[Am r];exact q⟩
 |_=>exact(show False from e).elim
theorem Fh(ha:PE X a ta)(he:∀qY,isTrue a X.env qY=(do let v <- qY;standAt a.pos;holding [v] (truthy v))):
  PT X a (fun σ H Q=>ta σ H fun x H'=>∃k,RB X.K x H' k/\Q k H'):=by
 intro ae s σ H Q I h;exact isTrue_plain (cz (ha ae s σ H _ I h) fun v s1 ⟨x,H1,I1,r1,q1⟩=>NG ae s1 σ H1 x v Q I1 r1 q1) (he _)
theorem tR(r:aY [x] us):∃u,us=[u]/\bw x u:=by
 cases r with
 |cons r1 r2=>cases r2;exact⟨_,rfl,r1⟩
theorem MB(r:aY [x,y] us):∃u w',us=[u,w']/\bw x u/\bw y w':=by
 cases r with
 |cons r1 r2=>
  cases r2 with
  |cons r3 r4=>cases r4;exact⟨_,_,rfl,r1,r3⟩
theorem Fj:gm X (.builtin "abs") (fun xs H Q=>∃i,xs=[.int i]/\Q (.int (if i<0 then -i else i)) H):=by
 intro ae s σ H xs us Q I r h;obtain⟨i,rfl,q⟩:=h;obtain⟨u,rfl,t,rfl⟩:=tR r;exact call_abs_int fun u tk=>⟨.int (if i<0 then -i else i),H,I.tok _,⟨_,rfl⟩,q⟩
theorem kC(hc:X.calm=true):gm X (.builtin "max") (fun xs H Q=>∃i j,xs=[.int i,.int j]/\Q (.int (if j > i then j else i)) H):=by
 intro ae s σ H xs us Q I r h;obtain⟨i,j,rfl,q⟩:=h;obtain⟨u,w',rfl,⟨t,rfl⟩,⟨t',rfl⟩⟩:=MB r;refine max_two_ints (I.ok.hd hc) fun h' tk k=>⟨_,H,I.kept k,?_,q⟩
 by_cases hj:j > i
 .rw[am hj,am hj];exact⟨_,rfl⟩
 .rw[if_neg hj,if_neg hj];exact⟨_,rfl⟩
theorem kG(hc:X.calm=true):gm X (.builtin "min") (fun xs H Q=>∃i j,xs=[.int i,.int j]/\Q (.int (if j<i then j else i)) H):=by
 intro ae s σ H xs us Q I r h;obtain⟨i,j,rfl,q⟩:=h;obtain⟨u,w',rfl,⟨t,rfl⟩,⟨t',rfl⟩⟩:=MB r;refine min_two_ints (I.ok.hd hc) fun h' tk k=>⟨_,H,I.kept k,?_,q⟩
 by_cases hj:j<i
 .rw[am hj,am hj];exact⟨_,rfl⟩
 .rw[if_neg hj,if_neg hj];exact⟨_,rfl⟩
theorem nY:gm X (.type "int") (fun xs H Q=>(∃i,xs=[.int i]/\Q (.int i) H)\/∃k,xs=[.bl k]/\Q (.int (if k then 1 else 0)) H):=by
 intro ae s σ H xs us Q I r h;rcases h with ⟨i,rfl,q⟩|⟨k,rfl,q⟩
 .obtain⟨u,rfl,t,rfl⟩:=tR r;exact call_int_int ⟨.int i,H,I,⟨_,rfl⟩,q⟩
 .obtain⟨u,rfl,r1⟩:=tR r;cases r1;exact call_int_bool ⟨.int (if k then 1 else 0),H,I.tok _,⟨_,rfl⟩,q⟩
end
structure An(h:Heap)(x dx C:Addr)(mA:Str->Option Value):Prop where
 obj:h.get? x=some (PySem.W.instObj C dx)
 ns:h.Ns1 dx mA
 ne:dx≠x
theorem Dv{h:Heap}{dx:Addr}{mA:Str->Option Value}(n:h.Ns1 dx mA):∃od,h.get? dx=some od/\∀name,PySem.W.lookIn name od=some (mA name):=by
 obtain⟨o,es,ep,ho,hd,hk,_,hm⟩:=n;refine⟨o,ho,fun name=>?_⟩;have e:=hm name;unfold nsFind findBy at e;rw[<-Array.find?_toList] at e;unfold PySem.W.lookIn;rw[hd];dsimp only;split
 .rename_i y q;rw[q] at e;exact congrArg some e
 .rename_i q;rw[q] at e;have a:es.toList.any (·.refKey)=false:=by
   rw[qC];intro y hy;obtain⟨z,t,sQ⟩:=hk y (Array.mem_toList_iff.mp hy);simp[DictEntry.refKey,sQ]
  have a':¬ es.toList.any (·.refKey)=true:=by rw[a];exact cJ
  rw[if_neg a'];exact congrArg some e
theorem An.look(I:An h x dx C mA):∃od,PySem.W.InstAt h x (PySem.W.instObj C dx) C (some od)/\∀name,PySem.W.lookIn name od=some (mA name):=
 let ⟨od,ho,hl⟩:=Dv I.ns
 ⟨od,⟨I.obj,rfl,rfl,ho⟩,hl⟩
section
variable {prog:Program} {w:World} {A:Around} {E:Value->Shared->Prop} {s:Shared} {K:PySem.W.Frag} {x dx C f:Addr} {mA:Str->Option Value} {name:Str} {v:Value}
theorem Jd(X:K.In s.heap)(I:An s.heap x dx C mA)(hg:PySem.W.plainGet K C name=true)(hh:PySem.W.hasDictIn K C=true)(ha:PySem.W.findIn K (.ref C) name=some none)(hv:mA name=some v)(Ao:PySem.W.handedIn v=true)(h:Q v { s with toks:=s.toks+1 }):
  wpAny (model prog w) A (getAttr (.ref x) name Je) Q E s:=by
 obtain⟨od,J,hl⟩:=I.look;exact PySem.W.get_value X J (zx hg).1 (PySem.W.findObj_own hh ha rfl (by rw[hl,hv])) Ao h
theorem Fk(X:K.In s.heap)(I:An s.heap x dx C mA)(hg:PySem.W.plainGet K C name=true)(hf:PySem.W.findIn K (.ref C) name=some (some (.ref f)))(ht:PySem.W.isFn K (.ref f)=true)(hv:mA name=none)(h:Q (.ref f,[.ref x]) s):
  wpAny (model prog w) A (getMethod (.ref x) name pl) Q E s:=by
 obtain⟨od,J,hl⟩:=I.look;exact PySem.W.method_fn X J (zx hg).1 (zx hg).2 hf (fq.mp ht) (by show (PySem.W.lookIn name od).map (·.isSome)=some false;rw[hl,hv];rfl) h
theorem Jf(X:K.In s.heap)(I:An s.heap x dx C mA)(hs:PySem.W.findIn K (.ref C) "__setattr__"=some (some (.builtin "object.__setattr__")))(hp:PySem.W.plainOver K C=true)(ht:PySem.W.takerIn K C name=some none)(hh:PySem.W.hasDictIn K C=true)(hw:PySem.Within mA ns)(hsz:ns.length<=sizeLine)(h:∀h',An h' x dx C (fun y=>if y=name then some v else mA y)->Heap.SameBut dx s.heap h'->Q () { s with heap:=h',toks:=s.toks+2 }):
  wpAny (model prog w) A (setAttr (.ref x) name v) Q E s:=by
 obtain⟨od,J,hl⟩:=I.look;refine PySem.W.set_plain X J hs (PySem.W.osa_open (s:={ s with toks:=s.toks+1 }) (r:=none) X J hp ht fun b=>?_);obtain⟨cd,hc,EZ⟩:=PySem.W.any_some hh;have hx:s.heap.get? x=some ⟨.ref C,some dx,.plain,#[]⟩:=I.obj;refine aw (wpAny_pure (aw (aw (wpAny_loadPart hx (aw (PySem.W.Looks.here (s:={ s with toks:=s.toks+1 }) (PySem.W.looks_clsIn X hc) ?_))))));rw[EZ];refine wpAny_pure (a:=some dx) (aw (wpAny_pure (aw ?_)));refine wpAny_nsSet1 (s:={ s with toks:=s.toks+1 }) I.ns fun h' Qx pF=>?_;obtain⟨oD,esD,epD,hoD,RC,Jg⟩:=Qx.count (PySem.Within.cons name v hw);refine aw (wpAny_lookBehind hoD (by rw[RC];exact pastItsLine_dict (a9 Jg (by rw[dR];lia))) ?_);exact wpAny_pure (h _ ⟨(pF.2 _ (iF I.ne)).trans I.obj,Qx,I.ne⟩ pF)
theorem Fl(X:K.In s.heap)(hm:PySem.W.makesIn K C=true)(hi:PySem.W.findIn K (.ref C) "__init__"=some (some (.ref f)))(hf:PySem.W.typeIn K (.ref f)=some (.type "function"))(h:codeAny (model prog w) (A.under (.builtin "type.__call__" ⟨.ref C::vs,kw⟩)) (.call (.ref f) ⟨.ref (s.heap.objs.size+1)::vs,kw⟩) (PySem.W.InitBack (s.heap.objs.size+1) R)
   { s with heap:=(s.heap.push PySem.W.emptyDict).push (PySem.W.instObj C s.heap.objs.size) }):
  codeAny (model prog w) A (.call (.ref C) ⟨vs,kw⟩) R s:=by
 obtain⟨hh,g,d,t,os⟩:=s;exact PySem.W.make_core (zV X hm) (PySem.W.looks_findIn X hi) (fun self=>PySem.W.bind_fn X self hf) (.inl rfl) h
theorem Dw(X:K.In s.heap)(hm:PySem.W.makesIn K C=true)(hi:PySem.W.findIn K (.ref C) "__init__"=some (some (.builtin "object.__init__")))(hb:∀self,PySem.W.Looks (model prog w) s.heap (bindSpecial (.builtin "object.__init__") self) (.builtin "object.__init__",[self]))(h:codeAny (model prog w) (A.under (.builtin "type.__call__" ⟨[.ref C],[]⟩)) (.call (.builtin "object.__init__") ⟨[.ref (s.heap.objs.size+1)],[]⟩) (PySem.W.InitBack (s.heap.objs.size+1) R)
   { s with heap:=(s.heap.push PySem.W.emptyDict).push (PySem.W.instObj C s.heap.objs.size) }):
  codeAny (model prog w) A (.call (.ref C) ⟨[],[]⟩) R s:=by
 obtain⟨hh,g,d,t,os⟩:=s;exact PySem.W.make_core (zV X hm) (PySem.W.looks_findIn X hi) hb (.inr ⟨rfl,rfl⟩) h
end
def dJ(f:Str)(v:V):List (Str×V)->List (Str×V)
 |[]=>[(f,v)]
 |(g,x)::r=>if g=f then (g,v)::r else (g,x)::dJ f v r
theorem bB(f g:Str)(v:V):∀fs:List (Str×V),(dJ f v fs).lookup g=if g=f then some v else fs.lookup g
 |[]=>by
  show List.lookup g [(f,v)]=_;by_cases h:g=f
  .have hb:(g==f)=true:=fq.mpr h;simp only[List.lookup,hb,am h]
  .have hb:(g==f)=false:=lq.mpr h;simp only[List.lookup,hb,if_neg h]
 |(k,x)::r=>by
  have ih:=bB f g v r;rw[show dJ f v ((k,x)::r)=(if k=f then (k,v)::r else (k,x)::dJ f v r) from rfl];by_cases hk:k=f
  .rw[am hk];by_cases h:g=k
   .have hb:(g==k)=true:=fq.mpr h;simp only[List.lookup,hb,am (h.trans hk)]
   .have hb:(g==k)=false:=lq.mpr h;simp only[List.lookup,hb,if_neg (fun e:g=f=>h (e.trans hk.symm))]
  .rw[if_neg hk];by_cases h:g=k
   .have hb:(g==k)=true:=fq.mpr h;simp only[List.lookup,hb,if_neg (fun e:g=f=>hk (h.symm.trans e))]
   .have hb:(g==k)=false:=lq.mpr h;simp only[List.lookup,hb];exact ih
theorem nZ(f:Str)(v:V):∀fs:List (Str×V),f∈(dJ f v fs).map (·.1)/\∀g,g∈fs.map (·.1)->g∈(dJ f v fs).map (·.1)
 |[]=>⟨by simp[dJ],fun g h=>by simp at h⟩
 |(k,x)::r=>by
  obtain⟨i1,i2⟩:=nZ f v r;rw[show dJ f v ((k,x)::r)=(if k=f then (k,v)::r else (k,x)::dJ f v r) from rfl];by_cases hk:k=f
  .rw[am hk];subst hk;exact⟨by simp,fun g h=>by simpa using h⟩
  .rw[if_neg hk];refine⟨?_,fun g h=>?_⟩
   .rw[d7];exact cp _ i1
   .rw[d7] at h |-;rcases bi.mp h with e|e
    .exact bi.mpr (.inl e)
    .exact cp _ (i2 g e)
theorem d_(f:Str)(v:V):∀fs:List (Str×V),(dJ f v fs).length<=fs.length+1
 |[]=>by simp[dJ]
 |(k,x)::r=>by
  have ih:=d_ f v r;rw[show dJ f v ((k,x)::r)=(if k=f then (k,v)::r else (k,x)::dJ f v r) from rfl];by_cases hk:k=f
  .rw[am hk,dR,dR];lia
  .rw[if_neg hk,dR,dR];lia
theorem kU.some_of(r:kU (some v) o):∃u,o=some u/\bw v u:=by
 cases o with
 |none=>exact(show False from r).elim
 |some u=>exact⟨u,rfl,r⟩
theorem kU.none_of(r:kU none o):o=none:=by
 cases o with
 |none=>rfl
 |some u=>exact(show False from r).elim
theorem Dx(r:bw v u):PySem.W.handedIn u=true:=by
 cases v with
 |bV=>cases (show u=Value.none from r);rfl
 |bl b=>cases (show u=Value.bool b from r);rfl
 |int i=>obtain⟨t,e⟩:=(show ∃t,u=Value.int i t from r);cases e;rfl
 |str x=>obtain⟨t,e⟩:=(show ∃t,u=Value.str x t from r);cases e;rfl
 |Ad b=>obtain⟨t,e⟩:=(show ∃t,u=Value.bytes b t from r);cases e;rfl
 |Mu b=>obtain⟨t,e⟩:=(show ∃t,u=Value.float b t from r);cases e;rfl
 |ref a=>cases (show u=Value.ref a from r);rfl
 |ty n=>cases (show u=Value.type n from r);rfl
section
variable {P:Program} {w:World} {H H':Hp} {h h':Heap} {a C dx:Addr} {fs fs':List (Str×V)}
theorem pY(bL:jB P w H h)(e:H a=some (.ins C dx fs)):∃mA,An h a dx C mA/\(∀f,kU (fs.lookup f) (mA f))/\PySem.Within mA (fs.map (·.1))/\fs.length<=1000/\H dx=some (.own a):=by
 obtain⟨d,z,ne,ob,mA,n,r,q⟩:=(show cw P w H h a (.ins C dx fs) from bL a _ e)
 exact⟨mA,⟨ob,n,ne⟩,r,q,z,d⟩
end
structure Fm(K:PySem.W.Frag)(C:Addr):Prop where
 pg:PySem.W.plainGet K C Str.empty=true
 hd:PySem.W.hasDictIn K C=true
 po:PySem.W.plainOver K C=true
 sa:PySem.W.findIn K (.ref C) "__setattr__"=some (some (.builtin "object.__setattr__"))
theorem Fm.get{K:PySem.W.Frag}{C:Addr}(c:Fm K C)(f:Str):PySem.W.plainGet K C f=true:=c.pg
def iI(K:PySem.W.Frag)(C:Addr)(f:Str):Prop:=PySem.W.findIn K (.ref C) f=some none
theorem iI.RD{K:PySem.W.Frag}{C:Addr}{f:Str}(n:iI K C f):PySem.W.takerIn K C f=some none:=by
 unfold PySem.W.takerIn;rw[show PySem.W.findIn K (.ref C) f=some none from n];rfl
structure NH(K:PySem.W.Frag)(C:Addr)(m:Str)(f:Addr):Prop where
 at_:PySem.W.findIn K (.ref C) m=some (some (.ref f))
 fn:PySem.W.isFn K (.ref f)=true
 kp:PySem.W.keepIn K (.ref f)=true
section
variable {X:Cx} {ae:List (Addr×Obj)} {σ:St} {H:Hp} {s:Shared} {a C dx:Addr} {fs:List (Str×V)} {f:Str} {v:V} {A:Around} {E:Value->Shared->Prop}
theorem Ap(I:aM X ae σ H s)(e:H a=some (.ins C dx fs))(c:Fm X.K C)(n:iI X.K C f)(l:fs.lookup f=some v)(h:∀u s',aM X ae σ H s'->bw v u->Q u s'):wpAny (model X.prog X.w) A (getAttr (.ref a) f b) Q E s:=by
 obtain⟨mA,O,r,_,_,_⟩:=pY I.bL e;obtain⟨u,hu,ru⟩:=kU.some_of (v:=v) (o:=mA f) (by rw[<-l];exact r f);exact Jd I.lE O (c.get f) c.hd n hu (Dx ru) (h u _ (I.tok _) ru)
theorem Aq(I:aM X ae σ H s)(e:H a=some (.ins C dx fs))(c:Fm X.K C)(k:NH X.K C m g)(l:fs.lookup m=none)(h:Q (.ref g,[.ref a]) s):wpAny (model X.prog X.w) A (getMethod (.ref a) m pl) Q E s:=by
 obtain⟨mA,O,r,_,_,_⟩:=pY I.bL e;have hn:mA m=none:=kU.none_of (by rw[<-l];exact r m);exact Fk I.lE O (c.get m) k.at_ k.fn hn h
theorem Ar(I:aM X ae σ H s)(e:H a=some (.ins C dx fs))(c:Fm X.K C)(n:iI X.K C f)(hl:fs.length<1000)(ry:bw y u)(h:∀s',aM X ae σ (upd H a (.ins C dx (dJ f y fs))) s'->Q () s'):wpAny (model X.prog X.w) A (setAttr (.ref a) f u) Q E s:=by
 obtain⟨mA,O,r,wi,_,ho⟩:=pY I.bL e;have hz:(fs.map (·.1)).length<=sizeLine:=by rw[aI,fX];lia
 refine Jf I.lE O c.sa c.po n.RD c.hd wi hz fun h' O' sb=>h _ ?_;have hd:∃o,h'.get? dx=some o:=let ⟨o,_,_,e',_⟩:=O'.ns;⟨o,e'⟩;refine I.write (x:=a) (e:=dx) (by rw[e];exact True.intro) (.inr ho) (fun b q hb z=>(sb.2 b hb).trans z) hd ?_;refine⟨by rw[ao O.ne];exact ho,?_,O.ne,O'.obj,_,O'.ns,fun g=>?_,fun g hg=>?_⟩
 .have:=d_ f y fs;lia
 .show kU ((dJ f y fs).lookup g) (if g=f then some u else mA g);rw[bB];by_cases q:g=f
  .rw[am q,am q];exact ry
  .rw[if_neg q,if_neg q];exact r g
 .by_cases q:g=f
  .rw[q];exact(nZ f y fs).1
  .refine(nZ f y fs).2 g (wi g fun z=>hg ?_);show (if g=f then some u else mA g)=none;rw[if_neg q];exact z
theorem aM.made(I:aM X ae σ H s):aM X ae σ (upd (upd H s.heap.objs.size (.own (s.heap.objs.size+1))) (s.heap.objs.size+1) (.ins C s.heap.objs.size []))
  { s with heap:=(s.heap.push PySem.W.emptyDict).push (PySem.W.instObj C s.heap.objs.size) }:=by
 have e1:(s.heap.push PySem.W.emptyDict).get? s.heap.objs.size=some PySem.W.emptyDict:=cL s.heap rfl;have e2:((s.heap.push PySem.W.emptyDict).push (PySem.W.instObj C s.heap.objs.size)).get? (s.heap.objs.size+1)=some (PySem.W.instObj C s.heap.objs.size):=by
  have:=cL (s.heap.push PySem.W.emptyDict) (o:=PySem.W.instObj C s.heap.objs.size) rfl;rwa [gx] at this
 have e3:(s.heap.push PySem.W.emptyDict).Ns s.heap.objs.size (fun _=>none):=⟨PySem.W.emptyDict,#[],_,e1,rfl,(fun e he=>absurd he (by simp)),fun _=>rfl⟩
 have I1:=I.laid (a:=s.heap.objs.size) (o:=.own (s.heap.objs.size+1)) (h':=s.heap.push PySem.W.emptyDict) (t':=s.toks) (fun b u q=>b9 _ q) (aT _) ⟨_,e1⟩;refine I1.laid (a:=s.heap.objs.size+1) (o:=.ins C s.heap.objs.size []) (t':=s.toks) (fun b u q=>b9 _ q) (nG (gx _ _)) ?_;have ne:s.heap.objs.size≠s.heap.objs.size+1:=aW (k9 _);refine⟨by rw[ao ne,af],cu _,ne,e2,fun _=>none,(Heap.Ns1.of_empty e3).at fun o q=>b9 _ q,fun _=>True.intro,fun y hy=>absurd rfl hy⟩
theorem Jh(hb:attributeBase e f env (eval e env)=eval e env)(h:wpAny (model prog w) A (eval e env) (fun o s₁=>wpAny (model prog w) A (getAttr o f true) Q E s₁) E s):wpAny (model prog w) A (eval (.Attribute e f pos) env) Q E s:=
 Attribute_any_ h (by rw[arm_eval_Attribute,hb])
end
def NI(K:PySem.W.Frag)(ta:TE)(f:Str):TE:=fun σ H Q=>ta σ H fun x H1=>∃a C dx fs v,x=.ref a/\H1 a=some (.ins C dx fs)/\Fm K C/\iI K C f/\fs.lookup f=some v/\Q v H1
def Xg(K:PySem.W.Frag)(ta tv:TE)(f:Str):TS:=fun D σ H=>tv σ H fun y H1=>ta σ H1 fun x H2=>∃a C dx fs,x=.ref a/\H2 a=some (.ins C dx fs)/\Fm K C/\iI K C f/\fs.length<1000/\
 D.nx σ (upd H2 a (.ins C dx (dJ f y fs)))
section
variable {X:Cx} {o e value:Expr} {f:Str} {pos sM Ji:Pos} {ta tv:TE}
theorem lF(he:PE X e ta)(hb:attributeBase e f X.env (eval e X.env)=eval e X.env):PE X (.Attribute e f pos) (NI X.K ta f):=by
 intro ae s σ H Q I h;refine Jh hb (cz (he ae s σ H _ I h) fun u s1 ⟨x,H1,I1,rx,a,C,dx,fs,v,ex,ea,c,n,l,q⟩=>?_);subst ex;obtain rfl:u=Value.ref a:=rx;exact Ap I1 ea c n l fun u' s2 I2 ru=>⟨v,H1,I2,ru,q⟩
theorem vD(ha:PE X o ta)(hv:PE X value tv)(hs:swapsWith value (some (.Attribute o f sM)) pos.line X.env=pure false):PS X (.Assign [.Attribute o f sM] value pos) (Xg X.K ta tv f):=by
 intro ae s σ H D I h;refine plainObj_wpAny_Assign_Attribute (cz (hv ae s σ H _ I h) fun u s1 ⟨y,H1,I1,ry,q⟩=>cz (ha ae s1 σ H1 _ I1 q) fun ov s2 ⟨x,H2,I2,rx,a,C,dx,fs,ex,ea,c,n,l,q2⟩=>?_) hs;subst ex;obtain rfl:ov=Value.ref a:=rx;exact Ar I2 ea c n l ry fun s3 I3=>⟨σ,_,I3,q2⟩
end
section
variable {X:Cx} {ae:List (Addr×Obj)} {σ:St} {H:Hp} {s:Shared} {A:Around} {E:Value->Shared->Prop} {Q:Value->Shared->Prop} {c:Value} {b:Bool}
inductive n0 (K:PySem.W.Frag) (H:Hp):V->Value->Prop where
 |bV:n0 K H .bV (.type "NoneType")
 |bl (x:Bool):n0 K H (.bl x) (.type "bool")
 |int (i:Int):n0 K H (.int i) (.type "int")
 |str (x:Str):n0 K H (.str x) (.type "str")
 |Mu (x:UInt64):n0 K H (.Mu x) (.type "float")
 |lst {a:Addr} {xs:List V} (e:H a=some (.lst xs)):n0 K H (.ref a) (.type "list")
 |xg {a:Addr} {o:Obj} {xs:List V} (e:H a=some (.xg o (.lst xs))):n0 K H (.ref a) (.type "list")
 |tup {a:Addr} {xs:List V} (e:H a=some (.tup xs)):n0 K H (.ref a) (.type "tuple")
 |dK {a:Addr} {bj:List (gJ×V)} (e:H a=some (.dK bj)):n0 K H (.ref a) (.type "dict")
 |dT {a:Addr} {bj:List (List gJ×V)} (e:H a=some (.dT bj)):n0 K H (.ref a) (.type "dict")
 |ins {a C dx:Addr} {fs:List (Str×V)} (e:H a=some (.ins C dx fs)) (cl:Fm K C) (ha:PySem.W.findIn K (.ref C) "__class__"=some (some (.builtin "object.__class__")))
   (hn:PySem.W.specialIn K (.builtin "object.__class__") "__get__"=some (some (.builtin "getset_descriptor.__get__"))) (RE:PySem.W.takesIn K (.builtin "object.__class__")=some true)
   (hm:PySem.W.mroIn K C (.type "object")=some true):n0 K H (.ref a) (.ref C)
theorem tS(I:aM X ae σ H s)(rx:bw x u)(ty:n0 X.K H x t)(e:PySem.W.kitOne X.K t c=some b)(h:∀tk,Q (.bool b) { s with toks:=tk }):
  wpAny (model X.prog X.w) A (call (.builtin "isinstance") [u,c]) Q E s:=by
 cases ty with
 |bV=>cases (show u=Value.none from rx);exact iP PySem.W.kitx_none I.lE True.intro e (fun z=>nomatch z) h
 |bl y=>cases (show u=Value.bool y from rx);exact iP PySem.W.kitx_bool I.lE True.intro e (fun z=>nomatch z) h
 |int i=>obtain⟨t,q⟩:=(show ∃t,u=Value.int i t from rx);cases q;exact iP PySem.W.kitx_int I.lE True.intro e (fun z=>nomatch z) h
 |str y=>obtain⟨t,q⟩:=(show ∃t,u=Value.str y t from rx);cases q;exact iP PySem.W.kitx_str I.lE True.intro e (fun z=>nomatch z) h
 |Mu y=>obtain⟨t,q⟩:=(show ∃t,u=Value.float y t from rx);cases q;exact iP PySem.W.kitx_float I.lE True.intro e (fun z=>nomatch z) h
 |@lst a xs ea=>
  cases (show u=Value.ref a from rx);obtain⟨_,_,n,_,h1⟩:=(show cw X.prog X.w H s.heap a (.lst xs) from I.bL a _ ea)
  exact iP PySem.W.kitx_list I.lE ⟨_,h1,rfl⟩ e (fun z=>nomatch z) h
 |@xg a ob xs ea=>
  cases (show u=Value.ref a from rx);obtain⟨_,_,_,n,_,h1⟩:=(show cw X.prog X.w H s.heap a (.xg ob (.lst xs)) from I.bL a _ ea)
  exact iP PySem.W.kitx_list I.lE ⟨_,h1,rfl⟩ e (fun z=>nomatch z) h
 |@tup a xs ea=>
  cases (show u=Value.ref a from rx);obtain⟨_,_,_,p⟩:=(show cw X.prog X.w H s.heap a (.tup xs) from I.bL a _ ea)
  obtain⟨o,h1,h2,_⟩:=p;exact iP PySem.W.kitx_tuple I.lE ⟨o,h1,h2⟩ e (fun z=>nomatch z) h
 |@dK a bj ea=>
  cases (show u=Value.ref a from rx);obtain⟨_,_,vs,_,p⟩:=(show cw X.prog X.w H s.heap a (.dK bj) from I.bL a _ ea)
  obtain⟨o,es,ep,h1,h2,_⟩:=p;exact iP PySem.W.kitx_dict I.lE ⟨o,h1,h2.1⟩ e (fun z=>nomatch z) h
 |@dT a bj ea=>
  cases (show u=Value.ref a from rx);obtain⟨_,_,xs,_,o,es,ep,h1,h2,_⟩:=(show cw X.prog X.w H s.heap a (.dT bj) from I.bL a _ ea)
  exact iP PySem.W.kitx_dict I.lE ⟨o,h1,h2.1⟩ e (fun z=>nomatch z) h
 |@ins a C dx fs ea cl ha hn RE hm=>
  cases (show u=Value.ref a from rx);obtain⟨mA,O,_⟩:=pY I.bL ea;obtain⟨od,J,_⟩:=O.look;exact iP (PySem.W.kitx_own (cl.get _) cl.hd ha hn RE hm) I.lE J e (fun z=>nomatch z) h
end
structure bQ(k:Nat)(A:Around):Prop where
 hd:A.handled=none
 dp:A.depth+3*k+5<recursionLimit
 un:A.units+16*k+200<cLine
 gd:A.guards=some []
theorem bQ.mono(r:bQ k A)(h:j<=k):bQ j A:=⟨r.hd,by have:=r.dp;lia,by have:=r.un;lia,r.gd⟩
theorem bQ.deeper(r:bQ (k+1) A)(env:Env):bQ k (A.deeper env):=
 ⟨r.hd,by have:=r.dp;show A.depth+1+3*k+5<_;lia,by have:=r.un;show A.units+3+16*k+200<_;lia,r.gd⟩
theorem bQ.in1(r:bQ (k+1) A):bQ k A.in1:=
 ⟨r.hd,by have:=r.dp;show A.depth+3*k+5<_;lia,by have:=r.un;show A.units+1+16*k+200<_;lia,r.gd⟩
theorem As{A:Around}{C:Addr}{us:List Value}{kw:List (Str×Value)}:(A.under (.builtin "type.__call__" ⟨.ref C::us,kw⟩)).depth=A.depth+1:=by
 first|rfl|simp[Around.under,Code.weight,Code.isCreation,Code.isGuard,Code.isCaller,Code.frames,Code.isFrame,guardIds]
theorem At{A:Around}{C:Addr}{us:List Value}{kw:List (Str×Value)}:(A.under (.builtin "type.__call__" ⟨.ref C::us,kw⟩)).units=A.units+1:=by
 first|rfl|simp[Around.under,Code.cUnits,Code.frames,Code.isFrame]
theorem bQ.make(r:bQ (k+1) A)(C:Addr)(us:List Value)(kw:List (Str×Value)):bQ k (A.under (.builtin "type.__call__" ⟨.ref C::us,kw⟩)):=
 ⟨r.hd,by have:=r.dp;rw[As];lia,by have:=r.un;rw[At];lia,r.gd⟩
theorem bQ.depth(r:bQ k A):A.depth<recursionLimit:=by have:=r.dp;lia
theorem bQ.u(r:bQ k A)(h:n<=200:=by decide):A.units+n<cLine:=by have:=r.un;lia
def fg:TA:=fun _ H Q=>Q [] H
def aZ(ta:TE)(tr:TA):TA:=fun σ H Q=>ta σ H fun x H1=>tr σ H1 fun xs H2=>Q (x::xs) H2
section
variable {X:Cx} {e:Expr} {es:List Expr} {te:TE} {t:TA} {pos:Pos}
theorem ag:PA X [] fg:=fun _ _ _ _ H Q I h=>Calls.spliced_nil ⟨[],H,I,.nil,h⟩
theorem aa(ha:PE X e te)(hr:PA X es t)(hs:starEach (e::es) X.env=(false,eval e X.env)::starEach es X.env:=by rfl):PA X (e::es) (aZ te t):=by
 intro pos ae s σ H Q I h;rw[hs];show wpAny _ _ (spliced ((false,eval e X.env)::backTo pos (starEach es X.env))) _ _ s;refine Calls.spliced_cons (cz (ha ae s σ H _ I h) fun u s1 ⟨x,H1,I1,r1,q1⟩=>?_);exact cz (hr pos ae s1 σ H1 _ I1 q1) fun us s2 ⟨xs,H2,I2,r2,q2⟩=>⟨x::xs,H2,I2,.cons r1 r2,q2⟩
def xC(t:TA):TE:=fun σ H Q=>t σ H fun xs H1=>xs.length<=sizeLine/\∀p,H1 p=none->Q (.ref p) (upd H1 p (.tup xs))
def Xh(t:TA):TE:=fun σ H Q=>t σ H fun xs H1=>xs.length<=sizeLine/\∀p,H1 p=none->Q (.ref p) (upd H1 p (.lst xs))
theorem eK{x1}(h:PA X es t):PE X (.Tuple es x1 pos) (xC t):=by
 intro ae s σ H Q I hq;refine wpAny_Tuple_spliced (cz (h pos ae s σ H _ I hq) fun us s1 ⟨xs,H1,I1,r,z,q⟩=>⟨by rw[<-r.length];exact z,?_⟩);have hf:H1 s1.heap.objs.size=none:=I1.bL.fresh (aT _);refine⟨.ref s1.heap.objs.size,upd H1 s1.heap.objs.size (.tup xs),I1.laid (t':=s1.toks) (fun b u e=>b9 _ e) (aT _) ?_,rfl,q _ hf⟩;exact⟨z,us,r,⟨_,cL _ rfl,rfl,_,rfl,rfl⟩⟩
theorem cf(h:PA X es t):PE X (.List es pos) (Xh t):=by
 intro ae s σ H Q I hq;refine wpAny_List_spliced (cz (h pos ae s σ H _ I hq) fun us s1 ⟨xs,H1,I1,r,z,q⟩=>⟨by rw[<-r.length];exact z,?_⟩);have hf:H1 s1.heap.objs.size=none:=I1.bL.fresh (aT _);refine⟨.ref s1.heap.objs.size,upd H1 s1.heap.objs.size (.lst xs),I1.laid (t':=s1.toks) (fun b u e=>b9 _ e) (aT _) ?_,rfl,q _ hf⟩;exact⟨z,us,0,r,cL _ rfl⟩
end
abbrev Sp:=List V->Hp->VK->XK->Prop
abbrev xi:=List Env->Hp->Shared->XK->Value->Shared->Prop
structure xD(P:Program)(w:World)(K:PySem.W.Frag)(mg:Str->Option Value)(base:Heap)(A:Around)(outer:List Env)(s:Shared)(H:Hp):Prop where
 frames:A.frames=some outer
 mod:Mod K mg base
 bs:∀b o,base.get? b=some o->s.heap.get? b=some o/\H b=none
 Dq:base.objs.size<=s.heap.objs.size
 nU:s.heap.FunFrames base outer
 Nr:∀b∈Dp outer,H b=none
 bL:jB P w H s.heap
 bare:AllBare s.gens
def CE(outer:List Env)(P:Program)(w:World)(H:Hp)(s:Shared)(Q:VK)(u:Value)(s':Shared):Prop:=
 ∃v H',s'.os=s.os/\AllBare s'.gens/\Un (Dp outer) [] H H' s.heap s'.heap/\jB P w H' s'.heap/\bw v u/\Q v H'
def CR(CX:xi)(outer:List Env)(P:Program)(w:World)(H:Hp)(s:Shared)(Q:VK)(E:XK)(r:Result)(s':Shared):Prop:=
 match r with
 |.ok (.ret u)=>CE outer P w H s Q u s'
 |.ok _=>False
 |.error e=>CX outer H s E e s'
structure bo(P:Program)(w:World)(K:PySem.W.Frag)(mg:Str->Option Value)(base:Heap)(CX:xi)(k:Nat)(f:Addr)(fd:FuncData)(ps:List Str)(sp:Sp):Prop where
 len:∀vs H Q E,sp vs H Q E->vs.length=ps.length
 run:∀ (A:Around) (outer:List Env) (s:Shared) (H:Hp) (args:Args) (us:List Value) (vs:List V) (Q:VK) (E:XK),bQ k A->xD P w K mg base A outer s H->BindsTo s fd args (ps.zip us)->aY vs us->sp vs H Q E->
  codeAny (model P w) A (.call (.ref f) args) (CR CX outer P w H s Q E) s
theorem bo.mono{P:Program}{w:World}{K:PySem.W.Frag}{mg:Str->Option Value}{base:Heap}{CX:xi}{j k:Nat}{f:Addr}{fd:FuncData}{ps:List Str}{sp:Sp}(F:bo P w K mg base CX j f fd ps sp)(h:j<=k):
  bo P w K mg base CX k f fd ps sp:=⟨F.len,fun A outer s H args us vs Q E hr=>F.run A outer s H args us vs Q E (hr.mono h)⟩
theorem bo.imp{P:Program}{w:World}{K:PySem.W.Frag}{mg:Str->Option Value}{base:Heap}{CX:xi}{k:Nat}{f:Addr}{fd:FuncData}{ps:List Str}{sp sp':Sp}(F:bo P w K mg base CX k f fd ps sp)(h:∀vs H Q E,sp' vs H Q E->sp vs H Q E):bo P w K mg base CX k f fd ps sp':=
 ⟨fun vs H Q E q=>F.len vs H Q E (h _ _ _ _ q),fun A outer s H args us vs Q E hr he hb hv hs=>F.run A outer s H args us vs Q E hr he hb hv (h _ _ _ _ hs)⟩
theorem xD.make{P:Program}{w:World}{K:PySem.W.Frag}{mg:Str->Option Value}{base:Heap}{A:Around}{outer:List Env}{s:Shared}{H:Hp}(e:xD P w K mg base A outer s H)(C:Addr)(us:List Value)(kw:List (Str×Value)):
  xD P w K mg base (A.under (.builtin "type.__call__" ⟨.ref C::us,kw⟩)) outer s H:=⟨by first|exact e.frames|(simpa [Around.under,Code.envs,Code.isFrame,pushEnvs] using e.frames),e.mod,e.bs,e.Dq,e.nU,e.Nr,e.bL,e.bare⟩
section
variable {X:Cx} {ae:List (Addr×Obj)} {σ:St} {H:Hp} {s s':Shared}
theorem aM.NJ(I:aM X ae σ H s):xD X.prog X.w X.K X.mg X.base X.A X.stack s H:=
 ⟨I.ok.frames,I.ok.mod,I.bs,a9 I.ok.Dq I.sz,I.stack,I.l7,I.bL,I.bare⟩
theorem aM.after(I:aM X ae σ H s)(h:CE X.stack X.prog X.w H s Q u s'):EP X ae σ Q u s':=by
 obtain⟨v,H',os,bare,un,bL,r,q⟩:=h;obtain⟨hh,g,d,t,os'⟩:=s';obtain rfl:os'=s.os:=os;exact⟨v,H',I.call (h':=hh) (g':=g) (d':=d) (t':=t) (ch:=[]) un bL bare (fun b z=>absurd z (by simp)),r,q⟩
end
def iR(sp:Sp)(sR:List V)(E:XK)(t:TA):TE:=fun σ H Q=>t σ H fun vs H1=>sp (vs++sR) H1 Q E
def xE(C:Addr)(m:Str)(sp:Sp)(sR:List V)(E:XK)(ta:TE)(t:TA):TE:=fun σ H Q=>ta σ H fun x H1=>∃a dx fs,x=.ref a/\H1 a=some (.ins C dx fs)/\fs.lookup m=none/\
 t σ H1 fun vs H2=>sp (x::(vs++sR)) H2 Q E
def RF(C:Addr)(sp:Sp)(sR:List V)(E:XK)(t:TA):TE:=fun σ H Q=>t σ H fun vs H1=>∀x dx,H1 x=none->H1 dx=none->dx≠x->
 sp (.ref x::(vs++sR)) (upd (upd H1 dx (.own x)) x (.ins C dx [])) (fun v H2=>v=.bV/\Q (.ref x) H2) E
def j3(K:PySem.W.Frag)(fd:FuncData)(ps:List Str)(ds:List Value):Prop:=
 ∀ (s:Shared) (us:List Value),K.In s.heap->(us++ds).length=ps.length->BindsTo s fd ⟨us,[]⟩ (ps.zip (us++ds))
theorem j3.all{K:PySem.W.Frag}{fd:FuncData}{ps:List Str}(h:∀us:List Value,us.length=ps.length->bindArgs fd ⟨us,[]⟩=pure (ps.zip us)):j3 K fd ps []:=fun s us _ hl=>by
 rw[jx] at hl |-;exact .of_eq (h us hl)
def lG(CX:xi)(X:Cx)(E:XK):Prop:=∀ (ae:List (Addr×Obj)) (σ:St) (H:Hp) (s:Shared) (e:Value) (s':Shared),aM X ae σ H s->CX X.stack H s E e s'->X.xe e s'
section
variable {X:Cx} {CX:xi} {k:Nat} {f C:Addr} {fd:FuncData} {ps:List Str} {sp:Sp} {sR:List V} {ds:List Value} {E:XK} {x m:Str} {p pos vE:Pos} {e o:Expr} {es:List Expr} {ta:TE} {t:TA}
theorem Fn(F:bo X.prog X.w X.K X.mg X.base CX k f fd ps sp)(hr:bQ k X.A)(hb:j3 X.K fd ps ds)(hd:aY sR ds)(hx:lG CX X E)(I:aM X ae σ H s)(r:aY vs us)(h:sp (vs++sR) H Q E):wpAny (model X.prog X.w) X.A (call (.ref f) us) (EP X ae σ Q) X.xe s:=by
 have r2:aY (vs++sR) (us++ds):=r.append hd;have hl:(us++ds).length=ps.length:=by rw[<-r2.length];exact F.len _ _ _ _ h
 refine jU (lx (F.run X.A X.stack s H ⟨us,[]⟩ (us++ds) (vs++sR) Q E hr I.NJ (hb s us I.lE hl) r2 h) fun r s' hq=>?_);cases r with
 |error e=>exact hx ae σ H s e s' I hq
 |ok fl=>
  cases fl with
  |ret u=>exact I.after hq
  |next=>exact False.elim hq
  |brk=>exact False.elim hq
  |cont=>exact False.elim hq
theorem Jj(F:bo X.prog X.w X.K X.mg X.base CX k f fd ps sp)(hr:bQ k X.A)(hg:Gl X x)(hm:X.mg x=some (.ref f))(hk:PySem.W.keepIn X.K (.ref f)=true)(hb:j3 X.K fd ps ds)(hd:aY sR ds)(hx:lG CX X E)(ha:PA X (e::es) t)(Au:(x==("__debug__":Str))=false:=by decide)(he:starEach (e::es) X.env=(false,eval e X.env)::starEach es X.env:=by rfl)(yV:(backTo pos (starEach es X.env)).any (·.1)=false:=by rfl):
  PE X (.Call (.Name x p) (e::es) [] pos) (iR sp sR E t):=by
 intro ae s σ H Q I h;refine jN (l9 I hg hm ?_ Au);refine u9 (h₀:=X.base) I.ok.mod.Qp hk (cz (ha pos ae s σ H _ I h) fun us s1 ⟨vs,H1,I1,r,q⟩=>⟨I1.lE,?_⟩) he yV;exact Fn F hr hb hd hx I1 r q
theorem cR(he:PE X o ta)(c:Fm X.K C)(hm:NH X.K C m f)(F:bo X.prog X.w X.K X.mg X.base CX k f fd ps sp)(hr:bQ k X.A)(hb:j3 X.K fd ps ds)(hd:aY sR ds)(hx:lG CX X E)(ha:PA X (e::es) t)(kW:starEach (e::es) X.env=(false,eval e X.env)::starEach es X.env:=by rfl)(yV:(backTo pos (starEach es X.env)).any (·.1)=false:=by rfl)(ht:eval (.Call (.Attribute o m vE) (e::es) [] pos) X.env=(do
   let ov <- eval o X.env
   standAt vE.atName
   let (f,first) <- holding [ov] (getMethod ov m pl)
   callWith pos f first (backTo pos (starEach (e::es) X.env)) (backToKw pos (keywordEach [] X.env))):=by rfl):
  PE X (.Call (.Attribute o m vE) (e::es) [] pos) (xE C m sp sR E ta t):=by
 intro ae s σ H Q I h;refine PySem.W.methodCall_KW (pl:=pl) (cz (he ae s σ H _ I h) fun u s1 ⟨x,H1,I1,rx,a,dx,fs,ex,ea,l,q⟩=>?_) ht;subst ex;obtain rfl:u=Value.ref a:=rx;refine Aq I1 ea c hm l ?_;refine u9 (first:=[.ref a]) (h₀:=X.base) I.ok.mod.Qp hm.kp (cz (ha pos ae s1 σ H1 _ I1 q) fun us s2 ⟨vs,H2,I2,r,q2⟩=>⟨I2.lE,?_⟩) kW yV;exact Fn (us:=.ref a::us) (vs:=.ref a::vs) F hr hb hd hx I2 (.cons rfl r) q2
structure Mk(K:PySem.W.Frag)(C f:Addr):Prop where
 makes:PySem.W.makesIn K C=true
 init:PySem.W.findIn K (.ref C) "__init__"=some (some (.ref f))
 fn:PySem.W.isFn K (.ref f)=true
 kp:PySem.W.keepIn K (.ref C)=true
theorem Fo(M:Mk X.K C f)(F:bo X.prog X.w X.K X.mg X.base CX k f fd ps sp)(hr:bQ (k+1) X.A)(hb:j3 X.K fd ps ds)(hd:aY sR ds)(hx:lG CX X E)(I:aM X ae σ H s)(r:aY vs us)(h:∀x dx,H x=none->H dx=none->dx≠x->sp (.ref x::(vs++sR)) (upd (upd H dx (.own x)) x (.ins C dx [])) (fun v H2=>v=.bV/\Q (.ref x) H2) E):
  wpAny (model X.prog X.w) X.A (call (.ref C) us) (EP X ae σ Q) X.xe s:=by
 have hq:=h (s.heap.objs.size+1) s.heap.objs.size (I.bL.fresh (qR _)) (I.bL.fresh (aT _)) (aW (k9 _));have I2:=aM.made (C:=C) I;have r2:aY (V.ref (s.heap.objs.size+1)::(vs++sR)) (Value.ref (s.heap.objs.size+1)::(us++ds)):=.cons rfl (r.append hd);have hl:(Value.ref (s.heap.objs.size+1)::us++ds).length=ps.length:=by
  have e:=r2.length;rw[F.len _ _ _ _ hq] at e;exact e.symm
 refine jU (Fl (f:=f) I.lE M.makes M.init (fq.mp M.fn) (lx (F.run _ X.stack _ _ ⟨Value.ref (s.heap.objs.size+1)::us,[]⟩ (Value.ref (s.heap.objs.size+1)::(us++ds)) _ _ E (hr.make C us [])
  (I2.NJ.make C us []) (hb _ (Value.ref (s.heap.objs.size+1)::us) I2.lE hl) r2 hq) fun r s' Jk=>?_))
 cases r with
 |error e=>exact hx ae σ _ _ e s' I2 Jk
 |ok fl=>
  cases fl with
  |ret u=>
   obtain⟨v,H',I3,rv,ev,q3⟩:=I2.after Jk;subst ev;exact⟨rv,⟨V.ref (s.heap.objs.size+1),H',I3,rfl,q3⟩⟩
  |next=>exact False.elim Jk
  |brk=>exact False.elim Jk
  |cont=>exact False.elim Jk
theorem Jl(M:Mk X.K C f)(F:bo X.prog X.w X.K X.mg X.base CX k f fd ps sp)(hr:bQ (k+1) X.A)(hg:Gl X x)(hm:X.mg x=some (.ref C))(hb:j3 X.K fd ps ds)(hd:aY sR ds)(hx:lG CX X E)(ha:PA X (e::es) t)(Au:(x==("__debug__":Str))=false:=by decide)(he:starEach (e::es) X.env=(false,eval e X.env)::starEach es X.env:=by rfl)(yV:(backTo pos (starEach es X.env)).any (·.1)=false:=by rfl):
  PE X (.Call (.Name x p) (e::es) [] pos) (RF C sp sR E t):=by
 intro ae s σ H Q I h;refine jN (l9 I hg hm ?_ Au);refine u9 (h₀:=X.base) I.ok.mod.Qp M.kp (cz (ha pos ae s σ H _ I h) fun us s1 ⟨vs,H1,I1,r,q⟩=>⟨I1.lE,?_⟩) he yV;exact Fo M F hr hb hd hx I1 r q
end
def PK(X:Cx)(Fp:List Keyword)(t:TA):Prop:=
 ∀ (pos:Pos) (ae:List (Addr×Obj)) (s:Shared) (σ:St) (H:Hp) (Q:List V->Hp->Prop),aM X ae σ H s->t σ H Q->wpAny (model X.prog X.w) X.A (evalAll ((backToKw pos (keywordEach Fp X.env)).map (·.2))) (AP X ae σ Q) X.xe s
section
variable {X:Cx} {CX:xi} {k:Nat} {f C:Addr} {fd:FuncData} {ps ks:List Str} {sp:Sp} {E:XK} {x m:Str} {p pos vE Xi:Pos} {e o:Expr} {es:List Expr} {Fp:List Keyword} {te ta:TE} {t tk:TA} {nm:Option Str}
theorem vF:PK X [] fg:=fun _ _ _ _ H Q I h=>wpAny_evalAll_nil ⟨[],H,I,.nil,h⟩
theorem pZ(ha:PE X e te)(hr:PK X Fp t):PK X (⟨nm,e,Xi⟩::Fp) (aZ te t):=by
 intro pos ae s σ H Q I h;show wpAny _ _ (evalAll ((do let v <- eval e X.env;standAt pos;pure v)::(backToKw pos (keywordEach Fp X.env)).map (·.2))) _ _ s;refine wpAny_evalAll_cons (aw (cz (ha ae s σ H _ I h) fun u s1 ⟨x,H1,I1,r1,q1⟩=>aw (nI (wpAny_pure ?_))));exact cz (hr pos ae s1 σ H1 _ I1 q1) fun us s2 ⟨xs,H2,I2,r2,q2⟩=>⟨x::xs,H2,I2,.cons r1 r2,q2⟩
variable {g:List Value->List Value->List Value} {gV:List V->List V->List V}
end
structure aG(N P:List Str)(sc:Scope):Prop where
 kind:sc.kind=.function
 co:sc.isCoroutine=false
 gen:sc.isGenerator=false
 nd:N.Nodup
 pre:N.take P.length=P
 par:∀x∈P,sc.names.lookup x=some .local\/sc.names.lookup x=some .cell
 NK:∀y∈sc.names,y.2≠.free
theorem tT{kindOf:Str->Option NameKind}{x:Str}:∀ {binds:List (Str×Value)} {m:Str->Option Value},(∀v,(x,v)∉binds)->bindL kindOf binds m x=m x
 |[],_,_=>rfl
 |(n,v)::r,m,h=>by
  unfold bindL;rw[tT fun w hw=>h w (cp _ hw)];split
  .have:x≠n:=by rintro rfl;exact h v cg
   simp[this]
  .rfl
theorem tU{kindOf:Str->Option NameKind}{x:Str}:∀ {binds:List (Str×Value)} {m:Str->Option Value},(∀v,(x,v)∉binds)->bindC kindOf binds m x=m x
 |[],_,_=>rfl
 |(n,v)::r,m,h=>by
  unfold bindC;rw[tU fun w hw=>h w (cp _ hw)];split
  .rfl
  .have:x≠n:=by rintro rfl;exact h v cg
   simp[this]
theorem tV{kindOf:Str->Option NameKind}{x:Str}{v:Value}:∀ {P:List Str} {vs:List Value} {i:Nat} {m:Str->Option Value},P.Nodup->P[i]?=some x->vs[i]?=some v->kindOf x=some .local->
  bindL kindOf (P.zip vs) m x=some v
 |[],_,_,_,_,h,_,_=>by simp at h
 |_::_,[],_,_,_,_,h,_=>by simp at h
 |p::P,w::vs,0,m,nd,h1,h2,hk=>by
  simp at h1 h2;subst h1;subst h2;show bindL kindOf ((p,w)::P.zip vs) m p=_;unfold bindL;rw[tT fun v hv=>(eG.mp nd).1 (nB hv).1,am hk];simp
 |p::P,w::vs,i+1,m,nd,h1,h2,hk=>by
  show bindL kindOf ((p,w)::P.zip vs) m x=_;unfold bindL;exact tV (i:=i) (eG.mp nd).2 (by simpa using h1) (by simpa using h2) hk
theorem tW{kindOf:Str->Option NameKind}{x:Str}{v:Value}:∀ {P:List Str} {vs:List Value} {i:Nat} {m:Str->Option Value},P.Nodup->P[i]?=some x->vs[i]?=some v->kindOf x≠some .local->
  bindC kindOf (P.zip vs) m x=some v
 |[],_,_,_,_,h,_,_=>by simp at h
 |_::_,[],_,_,_,_,h,_=>by simp at h
 |p::P,w::vs,0,m,nd,h1,h2,hk=>by
  simp at h1 h2;subst h1;subst h2;show bindC kindOf ((p,w)::P.zip vs) m p=_;unfold bindC;rw[tU fun v hv=>(eG.mp nd).1 (nB hv).1,if_neg hk];simp
 |p::P,w::vs,i+1,m,nd,h1,h2,hk=>by
  show bindC kindOf ((p,w)::P.zip vs) m x=_;unfold bindC;exact tW (i:=i) (eG.mp nd).2 (by simpa using h1) (by simpa using h2) hk
def start(N:List Str)(vs:List V):St:=vs.map some++List.replicate (N.length-vs.length) none
def lH(CX:xi)(P:Program)(w:World)(K:PySem.W.Frag)(mg:Str->Option Value)(base:Heap)(N:List Str)(qual:Str)(scope:Scope)(f:Addr)(cd:Value)(A:Around)(outer:List Env)(s:Shared)(H:Hp)(E:XK):Cx where
 prog:=P
 w:=w
 K:=K
 mg:=mg
 base:=base
 A:=A.deeper (envOfC qual scope s.heap.objs.size f cd)
 N:=N
 s₀:=s
 H₀:=H
 env:=envOfC qual scope s.heap.objs.size f cd
 outer:=outer
 stack:=envOfC qual scope s.heap.objs.size f cd::outer
 ex:=[]
 calm:=true
 fn:=fun _=>true
 pn:=[]
 xe:=fun e s'=>wpAny (model P w) (A.deeper (envOfC qual scope s.heap.objs.size f cd)) (leaving (envOfC qual scope s.heap.objs.size f cd) e) (fun _ IA=>CX outer H s E e IA) (fun e' IA=>CX outer H s E e' IA) s'
theorem xF{sc:Scope}{n:Nat}{x:Str}(h:sc.names.lookup x=some .cell):∃c,(cellsFrom n sc.names []).lookup x=some c:=by
 have q:=PySem.W.cellsFrom_some sc.names n [] (.inl h);exact mW.mp q
theorem Dy{CX:xi}{P:Program}{w:World}{K:PySem.W.Frag}{mg:Str->Option Value}{base:Heap}{N ps:List Str}{qual:Str}{scope:Scope}{f:Addr}{cd:Value}{A:Around}{outer:List Env}{s s1:Shared}{H:Hp}{E:XK}{us:List Value}{vs:List V}(S:aG N ps scope)(hd:A.handled=none)(e0:xD P w K mg base A outer s H)(hl:vs.length=ps.length)(r:aY vs us)(x:InCallC s s.heap.objs.size (bindL (envOfC qual scope s.heap.objs.size f cd).kindOf (ps.zip us) fun _=>none) (cellsFrom (s.heap.objs.size+1) scope.names []) (bindC (envOfC qual scope s.heap.objs.size f cd).kindOf (ps.zip us) fun _=>none) s1):
  aM (lH CX P w K mg base N qual scope f cd A outer s H E) [] (start N vs) H s1:=by
 have yV:ps.length<=N.length:=by have:=congrArg List.length S.pre;rw[jG] at this;lia
 obtain⟨h1,tk,rfl,hk⟩:=x.done;have Qy:∀b:Addr,b∉(lH CX P w K mg base N qual scope f cd A outer s H E).ex:=fun b z=>absurd (show b∈([]:List Addr) from z) (by simp);refine⟨⟨e0.mod,S.kind,rfl,rfl,aT _,fun y z c h1 h2=>?_,fun y hy=>?_,fun y c _ h=>?_,fun _=>hd,zS e0.frames,.inr ⟨rfl,rfl⟩,fun b z=>absurd z (Qy b),e0.bs,e0.Dq,fun b _ _=>Qy b,fun b z=>absurd z (Qy b),e0.nU,e0.Nr⟩,
  rfl,e0.bare,Un.kept hk,⟨_,x.toInCall.ns,fun i y v h1 h2 h3=>?_⟩,fun y c h=>⟨_,x.cell y c h⟩,e0.bL.fresh (aT _),fun y c h=>?_,fun p hp=>absurd (show p∈([]:List (Addr×Obj)) from hp) (by simp),e0.bL.kept hk,?_⟩
 .exact name_of_addr x.apart (ik h1) (ik h2)
 .have hy:scope.names.lookup y=some .cell\/scope.names.lookup y=some .free:=hy;rcases hy with hy|hy
  .exact xF hy
  .exact absurd rfl (S.NK _ (ik hy))
 .exact jT (x.above y c (ik h))
 .have hi:i<vs.length:=by
   unfold start at h2;by_cases hi:i<vs.length
   .exact hi
   .rw[qo (by simpa using hi)] at h2;rw[uP] at h2;split at h2 <;> cases h2
  have ha:vs[i]?=some v:=by
   unfold start at h2;rw[k6 (by simpa using hi),bX] at h2;cases e:vs[i]? with
   |none=>rw[e] at h2;cases h2
   |some a=>rw[e] at h2;cases h2;rfl
  obtain⟨u,hu,rv⟩:=r.get ha;have hp:ps[i]?=some y:=by
   rw[<-S.pre,ET (by lia)];exact h1
  have ndP:ps.Nodup:=by rw[<-S.pre];exact S.nd.sublist (va _ _)
  refine⟨u,rv,?_⟩;rcases S.par y (cI hp) with k|k
  .exact .inl ⟨k,tV ndP hp hu k⟩
  .obtain⟨c,e⟩:=xF (n:=s.heap.objs.size+1) k;refine .inr ⟨.inl k,c,e,?_⟩;have q:=x.cell y c e;rw[tW ndP hp hu (by show scope.names.lookup y≠_;rw[k];decide)] at q;exact q
 .exact e0.bL.fresh (jT (x.above y c (ik h)))
 .unfold start;show _=N.length;rw[ce,aI,k7];lia
theorem ME{CX:xi}{P:Program}{w:World}{K:PySem.W.Frag}{mg:Str->Option Value}{base:Heap}{k:Nat}{f:Addr}{name qual:Str}{params:Arguments}{body:List Stmt}{scope:Scope}{dV kV mf pm dN ct oc:Value}{an od:Option Addr}{yW:Array (Option Value)}{N ps:List Str}{sp:Sp}(lk:K.lookup f=some ⟨oc,od,.func (PySem.W.fnOf name qual params body scope dV kV mf pm an dN ct),yW⟩)(tQ:PySem.W.codeIn K dN qual=true)(S:aG N ps scope)(len:∀vs H Q E,sp vs H Q E->vs.length=ps.length)(xG:∀ (A:Around) (outer:List Env) (s:Shared) (H:Hp) (vs:List V) (Q:VK) (E:XK),bQ k (A.deeper (envOfC qual scope s.heap.objs.size f dN))->sp vs H Q E->
   ∃t,Ag (lH CX P w K mg base N qual scope f dN A outer s H E) body t/\t { nx:=fun _ H'=>Q .bV H',rt:=Q } (start N vs) H):
  bo P w K mg base CX (k+1) f (PySem.W.fnOf name qual params body scope dV kV mf pm an dN ct) ps sp:=by
 refine⟨len,fun A outer s H args us vs Q E hr e0 hb r IC=>?_⟩;have hl:=len _ _ _ _ IC;have KX:K.In s.heap:=e0.mod.Qp.keeps fun b o e=>(e0.bs b o e).1;have lim:s.heap.NoLimit:=e0.mod.nolimit.keeps fun b o e=>(e0.bs b o e).1;have RG:∀y∈ps.zip us,scope.names.lookup y.1=some .local\/(scope.names.lookup y.1=some .cell/\((cellsFrom (s.heap.objs.size+1) scope.names []).lookup y.1).isSome=true):=fun ⟨n,v⟩ hy=>by
  rcases S.par n (nB hy).1 with q|q
  .exact .inl q
  .exact .inr ⟨q,PySem.W.cellsFrom_some _ _ _ (.inl q)⟩
 refine codeAny_call_function hr.depth (KX _ _ lk) rfl S.co S.gen rfl (PySem.W.codeRec_of KX tQ) (hb _ _ _ _ ?_);refine wpAny_newFunctionEnv_cells S.kind RG fun env he s1 x=>?_;subst he;refine⟨lim.keeps x.toInCall.keep,codeAny_func ?_⟩;obtain⟨t,ht,hq⟩:=xG A outer s H vs Q E (hr.deeper _) IC;have I:aM (lH CX P w K mg base N qual scope f dN A outer s H E) [] (start N vs) H s1:=Dy S hr.hd e0 hl r x;refine f9 (ht [] s1 (start N vs) H _ I hq) (fun fl s' hs=>?_) fun e s' hs=>hs;have dE:∀ {σ':St} {H':Hp} {v:V} {u:Value},aM (lH CX P w K mg base N qual scope f dN A outer s H E) [] σ' H' s'->bw v u->Q v H'->CE outer P w H s Q u s':=
  fun {σ' H' v u} J rv q=>⟨v,H',J.os,J.bare,J.base,J.bL,rv,q⟩
 cases fl with
 |ret u=>
  obtain⟨v,σ',H',J,rv,q⟩:=hs;exact dE J rv q
 |next=>
  obtain⟨σ',H',J,q⟩:=hs;exact dE (v:=V.bV) (u:=Value.none) J rfl q
 |brk=>
  obtain⟨_,_,_,q⟩:=hs;exact False.elim q
 |cont=>
  obtain⟨_,_,_,q⟩:=hs;exact False.elim q
section
variable {X:Cx} {x:Str} {p pos:Pos} {e:Expr} {es:List Expr} {t:TA} {id T:String} {r:List V->Hp->VK->Prop}
def RH(r:List V->Hp->VK->Prop)(t:TA):TE:=fun σ H Q=>t σ H fun vs H1=>r vs H1 Q
theorem aD(hc:gm X (.builtin id) r)(hg:Gl X x)(hm:X.mg x=none)(hv:bootBuiltins x=some (.builtin id))(ha:PA X (e::es) t)(hn:x≠"__name__":=by decide)(Au:(x==("__debug__":Str))=false:=by decide)(he:starEach (e::es) X.env=(false,eval e X.env)::starEach es X.env:=by rfl)(yV:(backTo pos (starEach es X.env)).any (·.1)=false:=by rfl):PE X (.Call (.Name x p) (e::es) [] pos) (RH r t):=by
 intro ae s σ H Q I h;refine jN (jW I hg hm hv ?_ hn Au);exact PyProof.Rows.callWith_builtin1 (cz (ha pos ae s σ H _ I h) fun us s1 ⟨vs,H1,I1,r1,q1⟩=>hc ae s1 σ H1 vs us Q I1 r1 q1) he yV
theorem cB(hc:gm X (.type T) r)(hg:Gl X x)(hm:X.mg x=none)(hv:bootBuiltins x=some (.type T))(ha:PA X (e::es) t)(hn:x≠"__name__":=by decide)(Au:(x==("__debug__":Str))=false:=by decide)(he:starEach (e::es) X.env=(false,eval e X.env)::starEach es X.env:=by rfl)(yV:(backTo pos (starEach es X.env)).any (·.1)=false:=by rfl):PE X (.Call (.Name x p) (e::es) [] pos) (RH r t):=by
 intro ae s σ H Q I h;refine jN (jW I hg hm hv ?_ hn Au);exact qt (cz (ha pos ae s σ H _ I h) fun us s1 ⟨vs,H1,I1,r1,q1⟩=>hc ae s1 σ H1 vs us Q I1 r1 q1) he yV
end
end L2
namespace HT
open PySem PyProof.Rows
section
open PySem.SeqAt
open PySem.AutoSeq1 (wpAny_loadPart')
open PySem.MeetsSeq PySem.MeetsSeq2 PySem.MeetsSeq3
end
section
variable {prog:Program} {w:World} {A:Around} {E:Value->Shared->Prop} {s:Shared}
def xj(n d:Nat):Option Int->Nat
 |none=>d
 |some v=>if v<0 then (v+(n:Int)).toNat else min v.toNat n
end
end HT
namespace L2
open PySem PySem.Spec PyProof.Rows
abbrev TO:=St->Hp->(Option Int->Hp->Prop)->Prop
def PO(X:Cx)(e:Option Expr)(t:TO):Prop:=
 ∀ (ae:List (Addr×Obj)) (s:Shared) (σ:St) (H:Hp) (Q:Option Int->Hp->Prop),aM X ae σ H s->t σ H Q->
  wpAny (model X.prog X.w) X.A (evalPart e X.env) (fun u s'=>∃o H',aM X ae σ H' s'/\IsPart u o/\Q o H') X.xe s
def Jm:TO:=fun _ H Q=>Q none H
def RI(t:TE):TO:=fun σ H Q=>t σ H fun x H1=>∃i,x=.int i/\Q (some i) H1
theorem Av{ns:List Int}:∀ {us:List Value},aY (ns.map V.int) us->IntsAre us ns:=by
 induction ns with
 |nil=>intro us r;rw[qN] at r;cases r;exact .nil
 |cons n ns ih=>
  intro us r;rw[d7] at r;cases r with
  |cons r1 r2=>
   obtain⟨t,e⟩:=r1;subst e;exact .cons n t (ih r2)
section
variable {X:Cx} {e:Expr} {te:TE} {lo hi:Option Expr} {tl th:TO} {pos p2:Pos}
theorem Jn:PO X none Jm:=by
 intro ae s σ H Q I h;rw[evalPart_none];exact wpAny_pure ⟨none,H,I,.none,h⟩
theorem Jo(h:PE X e te):PO X (some e) (RI te):=by
 intro ae s σ H Q I hw;rw[evalPart_some];refine cz (h ae s σ H _ I hw) fun u s1 ⟨x,H1,I1,r1,q1⟩=>?_;obtain⟨i,rfl,q⟩:=q1;obtain⟨t,rfl⟩:=r1;exact⟨some i,H1,I1,.int i t,q⟩
def SlR(X:Cx)(r:V->Option Int->Option Int->Hp->VK->Prop):Prop:=
 ∀ (ae:List (Addr×Obj)) (s:Shared) (σ:St) (H:Hp) (x:V) (v vl vu:Value) (lo hi:Option Int) (sl:Addr) (Q:VK),aM X ae σ H s->bw x v->s.heap.IsSliceOf sl vl vu .none->IsPart vl lo->IsPart vu hi->r x lo hi H Q->
  ∃T id,typeLookup (.type T) "__getitem__"=pure (some (.builtin id))/\s.TypeIs v T/\wpAny (model X.prog X.w) X.A (getItem v (.ref sl)) (EP X ae σ Q) X.xe s
def tSl(r:V->Option Int->Option Int->Hp->VK->Prop)(te:TE)(tl th:TO):TE:=fun σ H Q=>te σ H fun x H1=>tl σ H1 fun l H2=>th σ H2 fun u H3=>r x l u H3 Q
theorem Fq(hr:SlR X r)(he:PE X e te)(hl:PO X lo tl)(hu:PO X hi th):PE X (.Subscript e (.Slice lo hi none p2) pos) (tSl r te tl th):=by
 intro ae s σ H Q I h;refine Subscript_ (cz (he ae s σ H _ I h) fun v s1 ⟨x,H1,I1,r1,q1⟩=>?_);refine wpAny_Slice (cz (hl ae s1 σ H1 _ I1 q1) fun vl s2 ⟨l,H2,I2,pl,q2⟩=>cz (hu ae s2 σ H2 _ I2 q2) fun vu s3 ⟨u,H3,I3,pu,q3⟩=>?_);rw[evalPart_none];refine wpAny_pure ?_;have I4:aM X ae σ H3 { s3 with heap:=s3.heap.push { cls:=.type "slice",data:=.fields #[vl,vu,.none] } }:=I3.kept (t':=s3.toks) fun b ob q=>b9 _ q;obtain⟨T,id,hT,ht,hg⟩:=hr ae { s3 with heap:=s3.heap.push { cls:=.type "slice",data:=.fields #[vl,vu,.none] } } σ H3 x v vl vu l u s3.heap.objs.size Q I4 r1 (Heap.IsSliceOf.new ..) pl pu q3;show wpAny (model X.prog X.w) X.A (subscriptTail e (.Slice lo hi none p2) v (.ref s3.heap.objs.size)) (EP X ae σ Q) X.xe { s3 with heap:=s3.heap.push { cls:=.type "slice",data:=.fields #[vl,vu,.none] } };exact tail_any (ops:=[.ref s3.heap.objs.size,v]) ht hT hg (by with_unfolding_all rfl)
def Aw(xs:List V)(lo hi:Option Int):List V:=(xs.drop (HT.xj xs.length 0 lo)).take (HT.xj xs.length xs.length hi-HT.xj xs.length 0 lo)
theorem xH(xs:List V)(lo hi:Option Int):(Aw xs lo hi).length<=xs.length:=by
 unfold Aw;rw[jG,zZ];lia
end
def Fs(n:Nat)(i:Int):Option Nat:=if 0<=i then (if i<n then some i.toNat else none) else if -(n:Int)<=i then some (i+n).toNat else none
def sF{α:Type}(xs:List α)(i:Int):Option α:=(Fs xs.length i).bind fun j=>xs[j]?
theorem BR(h:Fs n i=some j):seqIndex? i n=some j/\j<n/\-(n:Int)<=i/\i<n:=by
 unfold Fs at h;by_cases h0:0<=i
 .rw[am h0] at h;by_cases h1:i<n
  .rw[am h1] at h;have e:i.toNat=j:=bh h;exact⟨by rw[seqIndex_of h0 h1,e],by lia,by lia,h1⟩
  .rw[if_neg h1] at h;cases h
 .rw[if_neg h0] at h;by_cases h1:-(n:Int)<=i
  .rw[am h1] at h;have e:(i+n).toNat=j:=bh h;exact⟨by rw[seqIndex_neg (by lia) h1,e],by lia,h1,by lia⟩
  .rw[if_neg h1] at h;cases h
theorem BS(h:sF xs i=some v):∃j,seqIndex? i xs.length=some j/\xs[j]?=some v/\j<xs.length/\-(xs.length:Int)<=i/\i<xs.length:=by
 unfold sF at h;cases e:Fs xs.length i with
 |none=>rw[e] at h;cases h
 |some j=>
  rw[e] at h;obtain⟨h1,h2,h3,h4⟩:=BR e;exact⟨j,h1,h,h2,h3,h4⟩
theorem az{α:Type}{xs:List α}{j:Nat}{v:α}(h:xs[j]?=some v):sF xs (j:Int)=some v:=by
 have hj:j<xs.length:=(dO.mp h).1;have e:Fs xs.length (j:Int)=some j:=by
  unfold Fs;rw[am (by lia),am (by lia)];simp
 unfold sF;rw[e];exact h
theorem re(xs:List α)(v:α):sF (xs++[v]) (-1)=some v:=by
 have hl:(xs++[v]).length=xs.length+1:=by simp
 have e:Fs (xs++[v]).length (-1)=some xs.length:=by
  unfold Fs;rw[hl,if_neg (by decide),am (by lia)];congr 1;lia
 unfold sF;rw[e];show (xs++[v])[xs.length]?=some v;simp
def Jp(b:Expr):Prop:=∀o i,subscripted b false o i=operate [o,i] (getItem o i)
def Xj(X:Cx)(r:R2):Prop:=
 ∀ (value slice:Expr) (ae:List (Addr×Obj)) (s:Shared) (σ:St) (H:Hp) (x y:V) (v u:Value) (Q:VK),aM X ae σ H s->bw x v->bw y u->r x y H Q->
  subscripted slice false v u=operate [v,u] (getItem v u)->wpAny (model X.prog X.w) X.A (subscriptTail value slice v u) (EP X ae σ Q) X.xe s
def MtR(X:Cx)(id:String)(r:V->List V->Hp->VK->Prop):Prop:=
 ∀ (ae:List (Addr×Obj)) (s:Shared) (σ:St) (H:Hp) (x:V) (xs:List V) (v:Value) (us:List Value) (Q:VK),aM X ae σ H s->bw x v->aY xs us->r x xs H Q->
  wpAny (model X.prog X.w) X.A (call (.builtin id) (v::us)) (EP X ae σ Q) X.xe s
section
variable {X:Cx} {a b:Expr} {ta tb:TE} {pos:Pos}
theorem aL(hr:Xj X r)(ha:PE X a ta)(hb:PE X b tb)(hs:Jp b):PE X (.Subscript a b pos) (eU r ta tb):=by
 intro ae s σ H Q I h;exact Subscript_ (NE ha hb I h fun v u s2 x y H2 I2 rx ry q=>hr a b ae s2 σ H2 x y v u Q I2 rx ry q (hs _ _))
def j4(K:PySem.W.Frag):R2:=fun x y H Q=>∃p xs i v,x=.ref p/\y=.int i/\aV K H p xs/\sF xs i=some v/\Q v H
def n6(K:PySem.W.Frag):R2:=fun x y H Q=>∃p xs i v,x=.ref p/\y=.int i/\bW K H p xs/\sF xs i=some v/\Q v H
theorem aJ:Xj X (j4 X.K):=by
 intro value slice ae s σ H x y v u Q I rx ry h hs;obtain⟨p,xs,i,z,rfl,rfl,hq,he,q⟩:=h;cases rx;obtain⟨t,rfl⟩:=ry;obtain⟨its,r,pl,hz⟩:=I.list hq;obtain⟨j,h1,h2,h3,h4,h5⟩:=BS he;obtain⟨w,ew,rf⟩:=r.get h2;have hl:=r.length;have hn:=rd;have dE:EP X ae σ Q w s:=⟨z,H,I,rf,q⟩
 by_cases h0:0<=i
 .have hj:i.toNat=j:=by
   rw[seqIndex_of h0 h5] at h1;exact bh h1
  exact item_listR pl.isList h0 (by lia) (by rw[hj];simpa using ew) dE hs
 .have hj:(i+(its.toArray.size:Int)).toNat=j:=by
   rw[seqIndex_neg (by lia) h4] at h1;rw[cm,<-hl];exact bh h1
  exact subscriptTail_builtinR (x:=w) pl.isList.typeIs slot_list_getitem.lookup
   (wpAny_getItem_list_neg (Q:=fun r s'=>r=w/\EP X ae σ Q r s') pl.isList (by lia) (by rw[cm] <;> lia) (by lia) (by rw[hj];simpa using ew) ⟨rfl,dE⟩) hs
theorem bH:Xj X (n6 X.K):=by
 intro value slice ae s σ H x y v u Q I rx ry h hs;obtain⟨p,xs,i,z,rfl,rfl,hq,he,q⟩:=h;cases rx;obtain⟨t,rfl⟩:=ry;obtain⟨its,r,pl,hz⟩:=I.tuple hq;obtain⟨j,h1,h2,h3,h4,h5⟩:=BS he;obtain⟨w,ew,rf⟩:=r.get h2;have hl:=r.length;have hn:=rd;have dE:EP X ae σ Q w s:=⟨z,H,I,rf,q⟩
 exact subscriptTail_builtinR (x:=w) pl.typeIs slot_tuple_getitem.lookup
  (getItem_tuple (j:=j) (Q:=fun r s'=>r=w/\EP X ae σ Q r s') pl (by lia) (by lia) (by rw[cm,<-hl];exact h1) (by simpa using ew) ⟨rfl,dE⟩) hs
theorem Ax(its:List Value)(n j:Nat)(u:Value):Obj.mapSeq (·.setIfInBounds j u) { cls:=.type "list",data:=.seq its.toArray n }={ cls:=.type "list",data:=.seq (its.set j u).toArray n }:=by
 simp[Obj.mapSeq]
theorem aM.lst(I:aM X ae σ H s)(h:H p=some (.lst xs)):
  ∃ (its:List Value) (n:Nat),aY xs its/\s.heap.get? p=some { cls:=.type "list",data:=.seq its.toArray n }/\xs.length<=sizeLine:=by
 obtain⟨z,its,n,r,e⟩:=I.bL p _ h;exact⟨its,n,r,e,z⟩
theorem aM.NL{ae:List (Addr×Obj)}{σ:St}{H:Hp}{s:Shared}{p:Addr}{xs ys:List V}{its its':List Value}{n n':Nat}{f:Obj->Obj}(I:aM X ae σ H s)(h:H p=some (.lst xs))(ho:s.heap.get? p=some { cls:=.type "list",data:=.seq its.toArray n })(hf:f { cls:=.type "list",data:=.seq its.toArray n }={ cls:=.type "list",data:=.seq its'.toArray n' })(r:aY ys its')(hz:ys.length<=sizeLine)(t:Nat):
  aM X ae σ (upd H p (.lst ys)) { s with heap:=s.heap.update p f,toks:=t }:=by
 have e:(s.heap.update p f).get? p=some { cls:=.type "list",data:=.seq its'.toArray n' }:=by
  rw[zH f ho (by rw[hf] <;> rfl),hf]
 refine I.write (x:=p) (e:=p) (by rw[h];trivial) (.inl rfl) (fun b u hb q=>(zD _ _ (iF hb)).trans q) ⟨_,e⟩ ?_;exact⟨hz,its',n',r,e⟩
def RJ:V->V->V->Hp->(Hp->Prop)->Prop:=fun o i v H Q=>∃p xs k j,o=.ref p/\i=.int k/\H p=some (.lst xs)/\Fs xs.length k=some j/\Q (upd H p (.lst (xs.set j v)))
theorem fz:Rt X RJ:=by
 intro ae s σ H o i v ov iv u Q I ro ri rv h;obtain⟨p,xs,k,j,rfl,rfl,hp,hj,q⟩:=h;cases ro;obtain⟨t,rfl⟩:=ri;obtain⟨its,n,r,ho,hz⟩:=I.lst hp;obtain⟨h1,h2,h3,h4⟩:=BR hj;have hl:=r.length;have hn:=rd;have I':aM X ae σ (upd H p (.lst (xs.set j v))) { s with heap:=s.heap.update p (Obj.mapSeq (·.setIfInBounds j u)) }:=
  I.NL hp ho (Ax its n j u) (r.set rv j) (by rw[jJ];exact hz) s.toks
 by_cases h0:0<=k
 .have hk:k.toNat=j:=by
   rw[seqIndex_of h0 h4] at h1;exact bh h1
  exact PySem.W.ki_setAt ho h0 (by lia) (by rw[cm,<-hl];exact h4) (by rw[hk];exact⟨_,I',q⟩)
 .have hk:(k+(its.toArray.size:Int)).toNat=j:=by
   rw[seqIndex_neg (by lia) h3] at h1;rw[cm,<-hl];exact bh h1
  exact PySem.W.ki_setBack ho (by lia) (by rw[cm,<-hl];exact h3) (by lia) (by rw[hk];exact⟨_,I',q⟩)
theorem vG(lo hi:Option Int)(n:Nat):(sliceBounds lo hi none n).1=((HT.xj n 0 lo:Nat):Int)/\(sliceBounds lo hi none n).2.1=((HT.xj n n hi:Nat):Int)/\(sliceBounds lo hi none n).2.2=1:=by
 refine⟨?_,?_,rfl⟩
 .cases lo with
  |none=>simp[sliceBounds,HT.xj]
  |some i=>
   simp only[sliceBounds,HT.xj,Option.getD_none,show (1:Int) > 0 by decide,i_];by_cases h:i<0
   .simp only[h,i_] <;> lia
   .simp only[h,eT] <;> lia
 .cases hi with
  |none=>simp[sliceBounds,HT.xj]
  |some i=>
   simp only[sliceBounds,HT.xj,Option.getD_none,show (1:Int) > 0 by decide,i_];by_cases h:i<0
   .simp only[h,i_] <;> lia
   .simp only[h,eT] <;> lia
theorem sU(its:List Value)(lo hi:Option Int):slicePick its.toArray lo hi none=((its.drop (HT.xj its.length 0 lo)).take (HT.xj its.length its.length hi-HT.xj its.length 0 lo)).toArray:=by
 obtain⟨h1,h2,h3⟩:=vG lo hi its.toArray.size;unfold slicePick;rw[h1,h2,h3];simp only[sliceRange_one,pick_run,cm] <;> rfl
def Xk(K:PySem.W.Frag):V->Option Int->Option Int->Hp->VK->Prop:=fun x lo hi H Q=>∃a xs,x=.ref a/\aV K H a xs/\∀p,H p=none->Q (.ref p) (upd H p (.lst (Aw xs lo hi)))
theorem Jq:SlR X (Xk X.K):=by
 intro ae s σ H x v vl vu lo hi sl Q I rx hs pl pu h;obtain⟨a,xs,rfl,hx,q⟩:=h;cases rx;obtain⟨its,r,ht,hz⟩:=I.list hx;have d9:=r.length;refine⟨"list",_,slot_list_getitem.lookup,ht.isList.typeIs,?_⟩;refine wpAny_getItem_list_slice ht.isList hs pl pu .none (by simp) ?_ (by rw[cm] <;> lia);rw[sU,<-d9];refine⟨.ref s.heap.objs.size,_,I.laid (t':=s.toks) (o:=.lst (Aw xs lo hi)) (fun b ob q=>b9 _ q) (aT _) ?_,rfl,q _ (I.bL.fresh (aT _))⟩;exact⟨a9 (xH xs lo hi) hz,_,0,(r.drop (HT.xj xs.length 0 lo)).take (HT.xj xs.length xs.length hi-HT.xj xs.length 0 lo),cL _ rfl⟩
def eQ:V->Bool
 |.bV=>true
 |.bl _=>true
 |.int _=>true
 |.str _=>true
 |_=>false
def mh:V->V->Bool
 |.bV,.bV=>true
 |.bl a,.bl b=>a==b
 |.bl a,.int b=>(if a then 1 else 0)==b
 |.int a,.bl b=>a==(if b then 1 else 0)
 |.int a,.int b=>a==b
 |.str a,.str b=>a==b
 |_,_=>false
theorem Ft(ry:bw y u)(rx:bw x v)(fy:eQ y=true)(fx:eQ x=true):SeqAt.EqAt A s u v (mh y x):=by
 cases y with
 |bV=>
  cases ry;cases x with
  |bV=>cases rx;exact SeqAt.EqAt.same _
  |bl b=>cases rx;exact SeqAt.EqAt.none_bool b
  |int b=>obtain⟨t,rfl⟩:=rx;exact SeqAt.EqAt.none_int b t
  |str b=>obtain⟨t,rfl⟩:=rx;exact SeqAt.EqAt.none_str b t
  |_=>exact absurd (show false=true from fx) cJ
 |bl a=>
  cases ry;cases x with
  |bV=>cases rx;exact SeqAt.EqAt.bool_none a
  |bl b=>cases rx;exact SeqAt.EqAt.bool_bool a b
  |int b=>obtain⟨t,rfl⟩:=rx;exact SeqAt.EqAt.bool_int a b t
  |str b=>obtain⟨t,rfl⟩:=rx;exact SeqAt.EqAt.bool_str a b t
  |_=>exact absurd (show false=true from fx) cJ
 |int a=>
  obtain⟨t',rfl⟩:=ry;cases x with
  |bV=>cases rx;exact SeqAt.EqAt.int_none a t'
  |bl b=>cases rx;exact SeqAt.EqAt.int_bool a t' b
  |int b=>obtain⟨t,rfl⟩:=rx;exact SeqAt.EqAt.int_int a t' b t
  |str b=>obtain⟨t,rfl⟩:=rx;exact SeqAt.EqAt.int_str a t' b t
  |_=>exact absurd (show false=true from fx) cJ
 |str a=>
  obtain⟨t',rfl⟩:=ry;cases x with
  |bV=>cases rx;exact SeqAt.EqAt.str_none a t'
  |bl b=>cases rx;exact SeqAt.EqAt.str_bool a t' b
  |int b=>obtain⟨t,rfl⟩:=rx;exact SeqAt.EqAt.str_int a t' b t
  |str b=>obtain⟨t,rfl⟩:=rx;exact SeqAt.EqAt.str_str a t' b t
  |_=>exact absurd (show false=true from fx) cJ
 |_=>exact absurd (show false=true from fy) cJ
def vH(x:V)(u:Value):Bool:=match u with
 |.none=>mh .bV x
 |.bool b=>mh (.bl b) x
 |.int i _=>mh (.int i) x
 |.str z _=>mh (.str z) x
 |_=>false
theorem Fu(r:bw y u)(f:eQ y=true):vH x u=mh y x:=by
 cases y with
 |bV=>cases r;rfl
 |bl b=>cases r;rfl
 |int i=>obtain⟨t,rfl⟩:=r;rfl
 |str z=>obtain⟨t,rfl⟩:=r;rfl
 |_=>exact absurd (show false=true from f) cJ
theorem kH:∀ {xs:List V} {us:List Value},aY xs us->xs.all eQ=true->us.any (vH x)=xs.any fun y=>mh y x
 |_,_,.nil,_=>rfl
 |y::xs,u::us,.cons r t,f=>by
  rw[jS,gj] at f;rw[iC,iC,Fu r f.1,kH t f.2]
theorem iS(rx:bw x v)(fx:eQ x=true):∀ {xs:List V} {us:List Value},aY xs us->xs.all eQ=true->∀u∈us,SeqAt.EqAt A s u v (vH x u)
 |_,_,.nil,_=>fun u hu=>by cases hu
 |y::xs,u::us,.cons r t,f=>fun u' hu=>by
  rw[jS,gj] at f;rcases bi.mp hu with rfl|hu
  .rw[Fu r f.1];exact Ft r rx f.1 fx
  .exact iS rx fx t f.2 u' hu
def ID(x:V)(xs:List V):Bool:=xs.any fun y=>mh y x
def Xl(K:PySem.W.Frag)(MH:Bool):R2:=fun x y H Q=>∃p xs,y=.ref p/\(aV K H p xs\/bW K H p xs)/\eQ x=true/\xs.all eQ=true/\Q (.bl (if MH then !ID x xs else ID x xs)) H
theorem tX:k_ X (compareOp .In) (Xl X.K false):=by
 intro ae s σ H x y v u Q I rx ry h;obtain⟨p,xs,rfl,hq,fx,fs,q⟩:=h;cases ry;rcases hq with hq|hq
 .obtain⟨its,r,pl,hz⟩:=I.list hq;refine SeqAt.in_listAt (vH x) pl.isList (fun w hw=>iS rx fx r fs w (by simpa using hw)) ⟨.bl _,H,I,rfl,?_⟩;rw[show its.toArray.any (vH x)=its.any (vH x) by simp,kH r fs];exact q
 .obtain⟨its,r,pl,hz⟩:=I.tuple hq;refine SeqAt.in_tupleAt (vH x) pl (fun w hw=>iS rx fx r fs w (by simpa using hw)) ⟨.bl _,H,I,rfl,?_⟩;rw[show its.toArray.any (vH x)=its.any (vH x) by simp,kH r fs];exact q
theorem vI:k_ X (compareOp .NotIn) (Xl X.K true):=by
 intro ae s σ H x y v u Q I rx ry h;obtain⟨p,xs,rfl,hq,fx,fs,q⟩:=h;cases ry;rcases hq with hq|hq
 .obtain⟨its,r,pl,hz⟩:=I.list hq;refine SeqAt.notIn_listAt (vH x) pl.isList (fun w hw=>iS rx fx r fs w (by simpa using hw)) ⟨.bl _,H,I,rfl,?_⟩;rw[show its.toArray.any (vH x)=its.any (vH x) by simp,kH r fs];exact q
 .obtain⟨its,r,pl,hz⟩:=I.tuple hq;refine SeqAt.notIn_tupleAt (vH x) pl (fun w hw=>iS rx fx r fs w (by simpa using hw)) ⟨.bl _,H,I,rfl,?_⟩;rw[show its.toArray.any (vH x)=its.any (vH x) by simp,kH r fs];exact q
theorem aO:gm X (.builtin "len") (fun xs H Q=>∃p ys,xs=[.ref p]/\(aV X.K H p ys\/bW X.K H p ys)/\Q (.int ys.length) H):=by
 intro ae s σ H xs us Q I r h;obtain⟨p,ys,rfl,hq,q⟩:=h;obtain⟨u,rfl,rx⟩:=tR r;cases rx;have hn:=rd;rcases hq with hq|hq
 .obtain⟨its,r',pl,hz⟩:=I.list hq;have d9:=r'.length;exact Calls.call_len_list pl.isList (by simp only[cm] <;> lia) ⟨.int ys.length,H,I.tok _,⟨s.toks+1,by rw[cm,d9]⟩,q⟩
 .obtain⟨its,r',pl,hz⟩:=I.tuple hq;have d9:=r'.length;exact len_tuple pl (by simp only[cm] <;> lia) ⟨.int ys.length,H,I.tok _,⟨s.toks+1,by rw[cm,d9]⟩,q⟩
theorem jd:gm X (.type "list") (fun xs H Q=>∃p ys,xs=[.ref p]/\(aV X.K H p ys\/bW X.K H p ys)/\∀l,H l=none->Q (.ref l) (upd H l (.lst ys))):=by
 intro ae s σ H xs us Q I r h;obtain⟨p,ys,rfl,hq,q⟩:=h;obtain⟨u,rfl,rx⟩:=tR r;cases rx;have dE:∀ (its:List Value),aY ys its->ys.length<=sizeLine->∀ (h':Heap) (c':Nat),(∀b o',s.heap.get? b=some o'->h'.get? b=some o')->
   h'.get? s.heap.objs.size=some { cls:=.type "list",dict:=none,data:=.seq its.toArray c',slots:=#[] }->EP X ae σ Q (.ref s.heap.objs.size) { s with heap:=h' }:=fun its r' hz h' c' kp e=>
  ⟨.ref s.heap.objs.size,_,I.laid (t':=s.toks) kp (aT _) (show cw X.prog X.w _ h' _ (.lst ys) from ⟨hz,its,c',r',e⟩),rfl,q _ (I.bL.fresh (aT _))⟩
 rcases hq with hq|hq
 .obtain⟨its,r',pl,hz⟩:=I.list hq;have d9:=r'.length;obtain⟨o,ho,hc,n,hd⟩:=pl.isList;exact call_list_seq p (.inl rfl) ho hc hd (fun h' c' kp e=>dE its r' hz h' c' kp e) (by simp only[cm] <;> lia)
 .obtain⟨its,r',pl,hz⟩:=I.tuple hq;have d9:=r'.length;obtain⟨o,ho,hc,n,hd⟩:=pl;exact call_list_seq p (.inr rfl) ho hc hd (fun h' c' kp e=>dE its r' hz h' c' kp e) (by simp only[cm] <;> lia)
theorem dg:gm X (.type "tuple") (fun xs H Q=>∃p ys,xs=[.ref p]/\((aV X.K H p ys/\∀l,H l=none->Q (.ref l) (upd H l (.tup ys)))\/(bW X.K H p ys/\Q (.ref p) H))):=by
 intro ae s σ H xs us Q I r h;obtain⟨p,ys,rfl,h⟩:=h;obtain⟨u,rfl,rx⟩:=tR r;cases rx;rcases h with ⟨hq,q⟩|⟨hq,q⟩
 .obtain⟨its,r',pl,hz⟩:=I.list hq;have d9:=r'.length;refine call_tuple_list pl.isList (fun h' kp=>?_) (by simp only[cm] <;> lia);have I1:aM X ae σ H { s with heap:=h' }:=I.kept (t':=s.toks) kp;have I2:aM X ae σ (upd H h'.objs.size (.tup ys)) { s with heap:=h'.push { cls:=.type "tuple",data:=.seq its.toArray } }:=
   I1.laid (t':=s.toks) (fun b o e=>b9 _ e) (aT _) (show cw X.prog X.w _ _ _ (.tup ys) from ⟨hz,its,r',nM.new _ _⟩)
  exact⟨.ref h'.objs.size,_,I2,rfl,q _ (I1.bL.fresh (aT _))⟩
 .obtain⟨its,r',pl,hz⟩:=I.tuple hq;exact call_tuple_same pl ⟨.ref p,H,I,rfl,q⟩
def tyV(K:PySem.W.Frag)(T:String)(x:V)(H:Hp):Prop:=match x with
 |.str _=>T="str"
 |.int _=>T="int"
 |.ref p=>(T="list"/\∃xs,aV K H p xs)\/(T="tuple"/\∃o,K.lookup p=some o/\o.cls=.type "tuple"/\o.dict=none)\/
   (T="dict"/\((∃bj,H p=some (.dK bj))\/∃bj,H p=some (.dT bj)))\/(T="set"/\∃S n,H p=some (.set S n))
 |_=>False
theorem NM(I:aM X ae σ H s)(r:bw x v)(ty:tyV X.K T x H):
  s.TypeIs v T/\∀a,v=.ref a->∃ob,s.heap.get? a=some ob/\ob.dict=none:=by
 cases x with
 |str z=>
  obtain⟨t,rfl⟩:=r;cases (show T="str" from ty);exact⟨typeIs_str s z t,fun _ e=>nomatch e⟩
 |int i=>
  obtain⟨t,rfl⟩:=r;cases (show T="int" from ty);exact⟨typeIs_int s i t,fun _ e=>nomatch e⟩
 |ref p=>
  cases r;rcases ty with ⟨rfl,xs,hq⟩|⟨rfl,o,hk,hc,hd⟩|⟨rfl,hk⟩|⟨rfl,S,n,hk⟩
  .obtain⟨its,_,pl,_⟩:=I.list hq;refine⟨pl.isList.typeIs,fun a e=>?_⟩;cases e;obtain⟨o,n,e,c,hd,_⟩:=pl;exact⟨o,e,hd⟩
  .refine⟨⟨o,I.lE p o hk,hc⟩,fun a e=>?_⟩;cases e;exact⟨o,I.lE _ o hk,hd⟩
  .have z:∃o,s.heap.get? p=some o/\o.ExactDict:=by
    rcases hk with ⟨bj,hk⟩|⟨bj,hk⟩
    .obtain⟨_,_,_,_,o,_,_,e,ex,_⟩:=I.bL p _ hk;exact⟨o,e,ex⟩
    .obtain⟨_,_,_,_,o,_,_,e,ex,_⟩:=I.bL p _ hk;exact⟨o,e,ex⟩
   obtain⟨o,e,ex⟩:=z;refine⟨⟨o,e,ex.1⟩,fun a e2=>?_⟩;cases e2;exact⟨o,e,ex.2.1⟩
  .obtain⟨o,_,_,_,e,ex,_⟩:=I.bL p _ hk;refine⟨⟨o,e,ex.1⟩,fun a e2=>?_⟩;cases e2;exact⟨o,e,ex.2.1⟩
 |_=>exact False.elim ty
def tBM(K:PySem.W.Frag)(T:String)(r:V->List V->Hp->VK->Prop)(to:TE)(t:TA):TE:=fun σ H Q=>to σ H fun x H1=>tyV K T x H1/\t σ H1 fun xs H2=>r x xs H2 Q
variable {o e:Expr} {es:List Expr} {to:TE} {t:TA} {name:Str} {vE vJ:Pos} {T id:String} {r:V->List V->Hp->VK->Prop}
theorem gK(pa:PlainAttrs T)(slot:Slot T name id)(hty:typeOf (.builtin id)=pure (.type "method_descriptor"))(hm:MtR X id r)(ho:PE X o to)(ha:PA X (e::es) t)(RK:attributeBase o name X.env (eval o X.env)=eval o X.env:=by rfl)(Xm:((backTo vJ (starEach (e::es) X.env)).all (fun x=>!x.1)&&(backToKw vJ (keywordEach [] X.env)).all (fun x=>x.1.isSome)
   && decide ((e::es).length+([]:List Keyword).length+(if ([]:List Keyword).isEmpty then 0 else 1)<30))=true:=by rfl)(RL:(vE.endLine==vJ.line)=true:=by rfl)(hs:starEach (e::es) X.env=(false,eval e X.env)::starEach es X.env:=by rfl)(Ay:(backTo vJ (starEach es X.env)).any (·.1)=false:=by rfl):
  PE X (.Call (.Attribute o name vE) (e::es) [] vJ) (tBM X.K T r to t):=by
 intro ae s σ H Q I h;refine wpAny_Call_method_late RK Xm RL rfl (cz (ho ae s σ H _ I h) fun v s1 ⟨x,H1,I1,r1,ty,q1⟩=>?_);obtain⟨h1,h2⟩:=NM I1 r1 ty;refine⟨T,id,pa,slot,hty,h1,h2,?_⟩;have hA:=ha vJ ae s1 σ H1 _ I1 q1;rw[hs] at hA |-;refine Calls.callWith_builtin (by show (false||(backTo vJ (starEach es X.env)).any (·.1))=false;rw[Ay] <;> rfl) (Calls.evalArgs_plain ?_);exact cz hA fun us s2 ⟨vs,H2,I2,r2,q2⟩=>hm ae s2 σ H2 x vs v us Q I2 r1 r2 q2
end
def Xn(X:Cx)(id:String)(r:V->List V->Hp->VK->Prop):Prop:=
 ∀ (ae:List (Addr×Obj)) (s:Shared) (σ:St) (H:Hp) (x:V) (xs:List V) (v:Value) (us:List Value) (Q:VK),aM X ae σ H s->bw x v->aY xs us->r x xs H Q->
  wpAny (model X.prog X.w) X.A (call (.builtin id) (v::us)) (EP X ae σ Q) X.xe s
theorem aY.one{x:V}{us:List Value}(h:aY [x] us):∃u,us=[u]/\bw x u:=by
 cases h with
 |cons r h=>cases h;exact⟨_,rfl,r⟩
theorem aY.two{x y:V}{us:List Value}(h:aY [x,y] us):∃u v,us=[u,v]/\bw x u/\bw y v:=by
 cases h with
 |cons r h=>
  cases h with
  |cons q h=>cases h;exact⟨_,_,rfl,r,q⟩
theorem aY.eraseIdx:∀ {xs:List V} {us:List Value} (i:Nat),aY xs us->aY (xs.eraseIdx i) (us.eraseIdx i)
 |_,_,_,.nil=>.nil
 |_,_,0,.cons _ t=>t
 |_,_,i+1,.cons r t=>.cons r (aY.eraseIdx i t)
theorem aY.rep(h:aY xs us):∀k:Nat,aY (List.replicate k xs).flatten (List.replicate k us).flatten
 |0=>.nil
 |k+1=>by
  rw[lr,lr,qB,qB];exact aY.append h (aY.rep h k)
theorem tY:∀ (l:List α) (i:Nat),(l.eraseIdx i).length<=l.length
 |[],_=>aT _
 |_::_,0=>qR _
 |_::r,i+1=>Nat.succ_le_succ (tY r i)
theorem tZ(its:List Value):∀ (k:Nat) (d5:List Value),
  List.foldl (fun x1 x2=>x1++x2) d5.toArray (List.replicate k its.toArray)=(d5++(List.replicate k its).flatten).toArray
 |0,d5=>by simp
 |k+1,d5=>by
  have e:d5.toArray++its.toArray=(d5++its).toArray:=by simp
  have e2:(d5++its)++(List.replicate k its).flatten=d5++(List.replicate (k+1) its).flatten:=by
   rw[lr,qB,dQ]
  rw[<-e2,<-tZ its k (d5++its),<-e,lr,iz]
section
variable {X:Cx} {ae:List (Addr×Obj)} {σ:St} {H:Hp} {s:Shared} {l b:Addr} {xs ys zs:List V}
theorem aM.RM{its its':List Value}{n:Nat}{f:Array Value->Array Value}{t':Nat}(I:aM X ae σ H s)(hH:H l=some (.lst xs))(e:s.heap.get? l=some { cls:=.type "list",data:=.seq its.toArray n })(hf:f its.toArray=its'.toArray)(hv:aY ys its')(hz:ys.length<=sizeLine):
  aM X ae σ (upd H l (.lst ys)) { s with heap:=s.heap.update l (Obj.mapSeq f),toks:=t' }:=by
 have q:=PySem.IsL.update e f;rw[hf] at q;refine I.write (x:=l) (e:=l) (by rw[hH];exact trivial) (.inl rfl) (fun b' u hb hu=>(zD s.heap (Obj.mapSeq f) (iF hb)).trans hu) ⟨_,q⟩ ?_;exact⟨hz,its',_,hv,q⟩
theorem aM.NN(I:aM X ae σ H s)(hv:aY ys its)(hz:ys.length<=sizeLine):
  aM X ae σ (upd H s.heap.objs.size (.lst ys)) { s with heap:=s.heap.push { cls:=.type "list",data:=.seq its.toArray },toks:=t' }:=
 I.laid (fun _ _ q=>b9 _ q) (aT _) ⟨hz,its,0,hv,cL _ rfl⟩
theorem aM.fresh(I:aM X ae σ H s):H s.heap.objs.size=none:=I.bL.fresh (aT _)
theorem aM.Dz(I:aM X ae σ H s)(hH:H l=some (.lst xs)):xs.length<=sizeLine/\∃ (its:List Value) (n:Nat),aY xs its/\xs.length=its.length/\s.heap.get? l=some { cls:=.type "list",data:=.seq its.toArray n }:=by
 obtain⟨z,its,n,r,e⟩:=I.bL l _ hH;exact⟨z,its,n,r,r.length,e⟩
theorem Fv(h:n<=sizeLine):Builtin.List.listTooLong n=false:=by
 unfold Builtin.List.listTooLong;exact d6 (by lia)
end
section
variable {X:Cx}
def Jr:V->List V->Hp->VK->Prop:=fun x vs H Q=>∃l xs y,x=.ref l/\vs=[y]/\H l=some (.lst xs)/\xs.length<sizeLine/\Q .bV (upd H l (.lst (xs++[y])))
theorem cM:Xn X "list.append" Jr:=by
 intro ae s σ H x vs v us Q I rx rv h;obtain⟨l,xs,y,rfl,rfl,hH,hz,q⟩:=h;cases rx;obtain⟨u,rfl,ru⟩:=rv.one;obtain⟨z,its,n,r,hl,e⟩:=I.Dz hH;refine qT F.slot_list_append ⟨_,e,rfl⟩ F.entry_list_append (F.args_list_append_2 _ _) (PySem.list_append l its.toArray n u (by rw[cm];lia)) ⟨e,?_⟩;refine⟨.bV,_,I.RM (its':=its++[u]) hH e (by simp) (r.append (.cons ru .nil)) ?_,rfl,q⟩;rw[ce,o_];lia
def NO:V->List V->Hp->VK->Prop:=fun x vs H Q=>∃l xs i k y,x=.ref l/\vs=[.int i]/\H l=some (.lst xs)/\-(2 ^ 63)<=i/\i<2 ^ 63/\seqIndex? i xs.length=some k/\xs[k]?=some y/\Q y (upd H l (.lst (xs.eraseIdx k)))
theorem Fw:Xn X "list.pop" NO:=by
 intro ae s σ H x vs v us Q I rx rv h;obtain⟨l,xs,i,k,y,rfl,rfl,hH,h1,h2,hk,hy,q⟩:=h;cases rx;obtain⟨u,rfl,ru⟩:=rv.one;obtain⟨t,rfl⟩:=ru;obtain⟨z,its,n,r,hl,e⟩:=I.Dz hH;obtain⟨w,hw,rf⟩:=r.get hy;refine qT F.slot_list_pop ⟨_,e,rfl⟩ F.entry_list_pop (F.args_list_pop_2 _ _)
  (MeetsSeq.list_pop_at l its.toArray n i t k w (fitsIndex_both h1 h2) (by rw[cm,<-hl];exact hk) (by rw[<-mZ];exact hw) (by rw[cm];lia)) ⟨e,?_⟩
 refine⟨y,_,I.RM (its':=its.eraseIdx k) hH e ?_ (r.eraseIdx k) ?_,rf,q⟩
 .show its.toArray.eraseIdxIfInBounds k=(its.eraseIdx k).toArray;rw[List.eraseIdxIfInBounds_toArray]
 .have:=tY xs k;lia
def Xo:R2:=fun x y H Q=>∃l b xs zs,x=.ref l/\y=.ref b/\H l=some (.lst xs)/\H b=some (.lst zs)/\xs.length+zs.length<=sizeLine/\∀p,H p=none->Q (.ref p) (upd H p (.lst (xs++zs)))
theorem je:k_ X (binaryOp .Add) Xo:=by
 intro ae s σ H x y v u Q I rx ry h;obtain⟨l,b,xs,zs,rfl,rfl,hH,hB,hz,q⟩:=h;cases rx;cases ry;obtain⟨z,its,n,r,hl,e⟩:=I.Dz hH;obtain⟨z2,Js,n2,r2,xI,e2⟩:=I.Dz hB;refine PySem.P.add_list e e2 ?_ (by rw[cm,cm];lia);have ea:its.toArray++Js.toArray=(its++Js).toArray:=by simp
 rw[ea];exact⟨.ref _,_,I.NN (t':=s.toks) (r.append r2) (by rw[ce];lia),rfl,q _ I.fresh⟩
def Xp:R2:=fun x y H Q=>∃l k xs,x=.ref l/\y=.int k/\H l=some (.lst xs)/\-(2 ^ 63)<=k/\k<2 ^ 63/\xs.length*k.toNat<=sizeLine/\
 ∀p,H p=none->Q (.ref p) (upd H p (.lst (List.replicate k.toNat xs).flatten))
theorem Jt(xs:List α)(k:Nat):(List.replicate k xs).flatten.length=k*xs.length:=by
 induction k with
 |zero=>simp
 |succ k ih=>rw[lr,qB,ce,ih,Nat.succ_mul,Nat.add_comm]
theorem NP:k_ X (binaryOp .Mult) Xp:=by
 intro ae s σ H x y v u Q I rx ry h;obtain⟨l,k,xs,rfl,rfl,hH,h1,h2,hz,q⟩:=h;cases rx;obtain⟨t,rfl⟩:=ry;obtain⟨z,its,n,r,hl,e⟩:=I.Dz hH;have d9:its.toArray.size*k.toNat<=sizeLine:=by rw[cm,<-hl];exact hz
 have Xq:¬ its.toArray.size*k.toNat > (2 ^ 63-1) / 8:=by
  have:(sizeLine:Nat)<=(2 ^ 63-1) / 8:=by decide
  lia
 have Xr:¬ (!Builtin.List.listFitsIndex k)=true:=by
  rw[fitsIndex_both h1 h2];exact cJ
 have RN:¬ Builtin.List.listTooLong (its.toArray.size*k.toNat)=true:=by
  rw[Fv d9];exact cJ
 have xJ:List.foldl (fun x1 x2=>x1++x2) #[] (List.replicate (if its.toArray.isEmpty=true then 0 else k.toNat) its.toArray)=(List.replicate k.toNat its).flatten.toArray:=by
  have f0:∀m:Nat,List.foldl (fun x1 x2=>x1++x2) #[] (List.replicate m its.toArray)=(List.replicate m its).flatten.toArray:=fun m=>by
   have:=tZ its m [];rw[List.nil_append] at this;exact this
  rw[f0];cases its with
  |nil=>simp
  |cons a r'=>rw[if_neg (by simp)]
 refine wpAny_binaryOp_repeat_ref (T:="list") (U:="int") (by decide) ⟨_,e,rfl⟩ (fun s'=>typeIs_int s' k t) noFill_list_mul F.fills_int_mul F.slot_int_rmul repeat_list F.slot_int_index.lookup
  (qT F.slot_int_rmul (typeIs_int s k t) F.entry_int_rmul (F.args_int_rmul_2 _ _) (int___rmul___int_list k t l its.toArray n)
   ⟨e,rfl,⟨_,e,rfl⟩,qT F.slot_list_mul ⟨_,e,rfl⟩ F.entry_list_mul (F.args_list_mul_2 _ _) (AutoListH.list___mul___list_int_3 l its.toArray n k t Xr Xq RN) ⟨e,?_⟩⟩)
 rw[xJ];exact⟨.ref _,_,I.NN (t':=s.toks) (r.rep k.toNat) (by rw[Jt,vt];exact hz),rfl,q _ I.fresh⟩
end
section
variable {prog:Program} {w:World} {A:Around} {E:Value->Shared->Prop} {s:Shared}
end
section
variable {X:Cx}
end
end L2
namespace Att
open PySem PySem.W PySem.Calls PyProof.Rows
theorem pG:∀ (ns:List Int) (vs:List Value),WellAll P h vs (ns.map WData.int)->IntsAre vs ns:=by
 intro ns;induction ns with
 |nil=>
  intro vs w;rw[qN] at w;cases w;exact .nil
 |cons n ns ih=>
  intro vs w;rw[d7] at w;cases w with
  |cons a b=>
   cases a;exact .cons _ _ (ih _ b)
theorem DA{l:OpenLaw}{n:Nat}(hn:l.most=some n){P:Params}{h:Heap}{args:List WData}{Fx:List Value}(Ju:l.row.toRowW.claim.pre args=true)(Xs:WellAll P h Fx args):
  ∃a vs ns,Fx=[Value.ref a]/\args=[WData.list (ns.map WData.int)]/\h.get? a=some { cls:=.type "list",data:=.seq vs.toArray }/\IntsAre vs ns/\ns.length<=n:=by
 have hsh:WShape.hasAll [] args [.list .int]=true:=(pre_splitW Ju).1;have hc:l.pre.holds [] { args:=args }=true:=(pre_splitW Ju).2;obtain⟨d,r,rfl,h1,h2⟩:=hasAllW_cons hsh;obtain rfl:=hasAllW_nil h2;obtain⟨xs,rfl,h3⟩:=hasW_list h1;obtain⟨ns,rfl⟩:=items_int h3;have d9:ns.length<=n:=by
  unfold OpenLaw.pre at hc;have h4:(WTm.not (.lt (.lit (.int (n:Int))) (.len (.arg 0)))).holds [] { args:=[.list (ns.map .int)] }=true:=by
   have h4:=(holds_andW hc).1;rw[hn] at h4;exact h4
  have h5:=condW_of h4 (w_not (w_lt w_lit (w_len_list (w_arg rfl))));rw[aI] at h5;refine Nat.le_of_not_lt fun q=>?_;have q':(n:Int)<((ns.length:Nat):Int):=by lia
  first
   |(rw[cZ q'] at h5;exact absurd h5 (by decide))
   |(simp at h5;lia)
 cases Xs with
 |cons w1 w2=>
  cases w2;cases w1 with
  |list ho sV=>exact⟨_,_,ns,rfl,rfl,ho,pG ns _ sV,d9⟩
theorem DB(l:OpenLaw)(args:List WData):l.row.toRowW.claim.post args (.bool true) args=true:=
 postW_of (r:=l.row.toRowW) (X:=(true==true))
  (show WShape.has [] (.bool true) .bool=true by first|rfl|decide|simp[WShape.has,WShape.arms,WShape.armsAll])
  (show (WTm.eq .res (.lit (.bool true))).value [] { args:=args,res:=some (.bool true),after:=args }=some (.bool (true==true)) from w_eq_bool (w_res rfl) w_lit) rfl
theorem xK{l:OpenLaw}{n:Nat}{q:Program}{t7:List Str}{XP:(Str->Option Value)->Heap->Prop}{YP:World->Heap->Prop}{d:DefRec}(hn:l.most=some n)(RP:d.params.defaults=[])(call:∀ (w:World) (s₀ s₁:Shared) (mg mb:Str->Option Value) (fa:Addr) (o:Obj) (pm cd mf:Value) (a:Addr) (vs:List Value) (ns:List Int),
   Ground q t7 [] XP w s₀ mg mb s₁.heap->YP w s₁.heap->
   s₁.heap.get? fa=some o->o.data=.func (docDef d.name d.params d.body d.scope pm cd mf)->s₁.heap.CodeRec cd d.name->mg d.name=some (.ref fa)->
   s₁.heap.get? a=some { cls:=.type "list",data:=.seq vs.toArray }->IntsAre vs ns->ns.length<=n->s₁.gens=#[]->
   codeAny (model l.prog w) callerA (.call (.ref fa) ⟨[.ref a],[]⟩) (fun r s'=>r=.ok (.ret (.bool true))/\OldK s₁.heap s'.heap/\s'.os=s₁.os/\AllBare s'.gens) s₁):
  WalkO q t7 XP YP l.row.toRowW d [] (fun f vs=>PySem.call f vs):=by
 intro w s₀ s₁ mg mb G Y fa o pm cd mf dV kV ho hd tQ hD RQ hg args Fx as Ju abZ hrd Xs VP;obtain rfl:dV=.none:=Dflts.none hD RP;obtain rfl:kV=.none:=Dflts.noKw hD;obtain⟨a,vs,ns,rfl,rfl,NQ,Fy,d9⟩:=DA hn Ju Xs;refine enter_call (lx (call w s₀ s₁ mg mb fa o pm cd mf a vs ns G Y ho (fd_plain hd) tQ RQ NQ Fy d9 hg) fun r s' hq=>?_);obtain⟨rfl,h2,h3,h4⟩:=hq;exact⟨.inl ⟨.bool true,.bool true,[],rfl,fun _=>rfl,.bool true,DB l _,fun _=>⟨List.Pairwise.nil,fun _ hm=>(nomatch hm)⟩⟩,h2,h3,h4⟩
section
variable {prog:Program} {w:World} {A:Around} {E:Value->Shared->Prop} {s:Shared} {K:Frag}
end
end Att
namespace L2
open PySem PySem.Spec PyProof.Rows
theorem n8:∀ {vs:List Value} {ns:List Int},IntsAre vs ns->aY (ns.map V.int) vs
 |_,_,.nil=>.nil
 |_,_,.cons n t h=>.cons ⟨t,rfl⟩ (n8 h)
def gf(s:Stmt)(j:Nat):Stmt:=match s with
 |.ClassDef _ _ _ body _ _ _ _ _ _ _=>body.getD j (.Pass ⟨0,0,0,0⟩)
 |_=>.Pass ⟨0,0,0,0⟩
def df(s:Stmt):Arguments:=match s with
 |.FunctionDef _ a _ _ _ _ _ _ _ _=>a
 |_=>{ posonlyargs:=[],args:=[],vararg:=none,kwonlyargs:=[],kw_defaults:=[],kwarg:=none,defaults:=[] }
def cn(s:Stmt):List Stmt:=match s with
 |.FunctionDef _ _ b _ _ _ _ _ _ _=>b
 |_=>[]
def ak(s:Stmt):Scope:=match s with
 |.FunctionDef _ _ _ _ _ _ sc _ _ _=>sc
 |_=>{ kind:=.function,names:=[],isGenerator:=false,isCoroutine:=false }
abbrev a7:xi:=fun _ _ _ _ _ _=>False
abbrev E0:XK:=fun _ _ _=>False
theorem aK:lG a7 X E0:=fun _ _ _ _ _ _ _ h=>h.elim
structure fY(K:PySem.W.Frag)(x qual:Str)(st:Stmt)(f:Addr)(fd:FuncData):Prop where
 ex:∃ (oc:Value) (od:Option Addr) (kV mf pm:Value) (an:Option Addr) (dN ct:Value) (yW:Array (Option Value)),
  fd=PySem.W.fnOf x qual (df st) (cn st) (ak st) .none kV mf pm an dN ct/\K.lookup f=some ⟨oc,od,.func fd,yW⟩/\PySem.W.codeIn K dN qual=true
 kp:PySem.W.keepIn K (.ref f)=true
section
variable {P:Program} {w:World} {K:PySem.W.Frag} {mg:Str->Option Value} {base:Heap}
theorem fY.ok{x qual:Str}{st:Stmt}{f:Addr}{fd:FuncData}{N ps:List Str}{k:Nat}{sp:Sp}(F:fY K x qual st f fd)(S:aG N ps (ak st))(len:∀vs H Q E,sp vs H Q E->vs.length=ps.length)(xG:∀ (dN:Value) (A:Around) (outer:List Env) (s:Shared) (H:Hp) (vs:List V) (Q:VK) (E:XK),bQ k (A.deeper (envOfC qual (ak st) s.heap.objs.size f dN))->sp vs H Q E->
   ∃t,Ag (lH a7 P w K mg base N qual (ak st) f dN A outer s H E).BJ (cn st) t/\t { nx:=fun _ H'=>Q .bV H',rt:=Q } (start N vs) H):bo P w K mg base a7 (k+1) f fd ps sp:=by
 obtain⟨oc,od,kV,mf,pm,an,dN,ct,yW,rfl,lk,tQ⟩:=F.ex;refine ME lk tQ S len fun A outer s H vs Q E hr IC=>?_;obtain⟨t,h,q⟩:=xG dN A outer s H vs Q E hr IC;exact⟨t,h.BJ,q⟩
theorem fY.binds{x qual:Str}{st:Stmt}{f:Addr}{fd:FuncData}{ps:List Str}(F:fY K x qual st f fd)(h:∀ (kV mf pm:Value) (an:Option Addr) (dN ct:Value) (us:List Value),us.length=ps.length->bindArgs (PySem.W.fnOf x qual (df st) (cn st) (ak st) .none kV mf pm an dN ct) ⟨us,[]⟩=pure (ps.zip us)):j3 K fd ps []:=by
 obtain⟨oc,od,kV,mf,pm,an,dN,ct,yW,rfl,lk,tQ⟩:=F.ex;exact .all (h kV mf pm an dN ct)
theorem vK{x qual:Str}{st:Stmt}{f:Addr}{oc:Value}{od an:Option Addr}{yW:Array (Option Value)}{kV mf pm dN ct:Value}(l:K.lookup f=some ⟨oc,od,.func (PySem.W.fnOf x qual (df st) (cn st) (ak st) .none kV mf pm an dN ct),yW⟩)(c:PySem.W.codeIn K dN qual=true)(k:PySem.W.keepIn K (.ref f)=true):fY K x qual st f (PySem.W.fnOf x qual (df st) (cn st) (ak st) .none kV mf pm an dN ct):=⟨⟨oc,od,kV,mf,pm,an,dN,ct,yW,rfl,l,c⟩,k⟩
end
section
variable {X:Cx}
theorem pv(i:Nat)(hN:X.N[i]?=some x:=by rfl)(hv:Qq X.env.scope x:=by first|exact Or.inl rfl|exact Or.inr (Or.inl rfl)|exact Or.inr (Or.inr rfl))(hd:(x==("__debug__":Str))=false:=by decide)(tQ:(x==("__classdict__":Str))=false:=by decide):PE X (.Name x pos) (aB i):=Nt hN hv hd tQ
end
theorem lI{A B:Prop}(h:B):if false=true then A else B:=by
 rw[if_neg cJ];exact h
theorem vL{A B:Prop}(h:A):if true=true then A else B:=by
 rw[am rfl];exact h
theorem eA{c A B:Prop}[Decidable c](h1:c->A)(h2:¬ c->B):if c then A else B:=by
 by_cases h:c
 .rw[am h];exact h1 h
 .rw[if_neg h];exact h2 h
def aA(H H':Hp):Prop:=∀b o,H b=some o->H' b=some o
theorem aA.refl(H:Hp):aA H H:=fun _ _ h=>h
theorem aA.trans(a:aA H H1)(b:aA H1 H2):aA H H2:=fun c o h=>b c o (a c o h)
theorem aA.free(e:aA H H')(h:H' l=Option.none):H l=Option.none:=by
 cases q:H l with
 |none=>rfl
 |some o=>
  rw[e l o q] at h;cases h
def yX(src:List (Option Nat))(σ:St):St:=src.map fun o=>match o with|some j=>σ.getD j none|none=>none
theorem BV{src:List (Option Nat)}{σ:St}{i:Nat}{v:V}(h:(yX src σ)[i]?=some (some v)):∃j,src[i]?=some (some j)/\σ[j]?=some (some v):=by
 unfold yX at h;rw[bX] at h;cases e:src[i]? with
 |none=>rw[e] at h;cases h
 |some o=>
  rw[e] at h;cases o with
  |none=>cases h
  |some j=>
   refine⟨j,rfl,?_⟩;have h':σ.getD j none=some v:=bh h;rw[bv] at h';cases e2:σ[j]? with
   |none=>rw[e2] at h';cases h'
   |some o=>rw[e2] at h';rw[show o=some v from h']
structure gp(NB:List Str)(src:List (Option Nat))(scope:Scope)(X:Cx):Prop where
 kind:scope.kind=.function
 nd:NB.Nodup
 len:src.length=NB.length
 cells:∀y∈scope.names,y.2=.cell->scope.names.lookup y.1=some .cell
 names:∀y∈scope.names,y.2=.local->scope.names.lookup y.1=some .local
 free:∀y∈scope.names,y.2=.free->X.env.scope.names.lookup y.1=some .cell\/X.env.scope.names.lookup y.1=some .free
 src:∀ (i:Nat) (x:Str) (j:Nat),NB[i]?=some x->src[i]?=some (some j)->X.N[j]?=some x/\scope.names.lookup x=some .free
def vM(scope:Scope)(x:Str):Bool:=match scope.names.lookup x with
 |some .cell=>true
 |_=>false
theorem xL:vM scope x=true↔scope.names.lookup x=some .cell:=by
 unfold vM;split
 .rename_i h;exact⟨fun _=>h,fun _=>rfl⟩
 .rename_i h;exact⟨fun z=>(by cases z),fun z=>absurd z h⟩
def BW(X:Cx)(NB:List Str)(scope:Scope)(cl:List (Str×Addr))(C:Addr)(s₃:Shared)(H₃:Hp)(fp:List Addr):Cx:=
 { X with N:=NB,s₀:=s₃,H₀:=H₃,env:=compEnvC scope cl C X.env,outer:=X.stack,stack:=X.stack,ex:=fp,fn:=vM scope,pn:=[],xe:=fun _ _=>False }
theorem lJ:∀ (names:List (Str×NameKind)) (d5:List (Str×Addr)),(∀y∈names,y.2=NameKind.free->∃c,env.cells.lookup y.1=some c)->(∀x c,d5.lookup x=some c->env.cells.lookup x=some c)->
  ∃cl,(forIn names d5 fun x r=>(if (x.2==NameKind.free)=true then (do let a <- cellOf env x.1;pure (ForInStep.yield ((x.1,a)::r))) else pure (ForInStep.yield r):Sem (ForInStep (List (Str×Addr)))))=(pure cl:Sem (List (Str×Addr)))/\
   (∀x c,cl.lookup x=some c->env.cells.lookup x=some c)/\(∀x c,d5.lookup x=some c->∃c',cl.lookup x=some c')/\∀x,(x,NameKind.free)∈names->∃c,cl.lookup x=some c
 |[],d5,_,ha=>⟨d5,by rw[vk],ha,fun x c h=>⟨c,h⟩,fun x h=>nomatch h⟩
 |(n,k)::r,d5,hf,ha=>by
  by_cases hk:k=NameKind.free
  .subst hk;obtain⟨c,hc⟩:=hf (n,NameKind.free) cg rfl;have RS:∀x c',((n,c)::d5).lookup x=some c'->env.cells.lookup x=some c':=fun x c' h=>by
    rw[fU] at h;cases hx:x==n with
    |true=>
     rw[hx] at h;cases h;have:x=n:=by simpa using hx
     rw[this];exact hc
    |false=>rw[hx] at h;exact ha x c' h
   obtain⟨cl,e1,e2,e3,e4⟩:=lJ r ((n,c)::d5) (fun y hy=>hf y (cp _ hy)) RS;refine⟨cl,?_,e2,fun x c' h=>?_,fun x h=>?_⟩
   .rw[vg];have ec:cellOf env n=pure c:=by unfold cellOf;rw[hc]
    have e0:(if ((n,NameKind.free).2==NameKind.free)=true then (do let a <- cellOf env (n,NameKind.free).1;pure (ForInStep.yield (((n,NameKind.free).1,a)::d5))) else pure (ForInStep.yield d5):Sem (ForInStep (List (Str×Addr))))=pure (ForInStep.yield ((n,c)::d5)):=by
     rw[am (show (NameKind.free==NameKind.free)=true by decide)];show cellOf env n >>= _=_;rw[ec];rfl
    rw[e0];exact e1
   .cases hx:x==n with
    |true=>exact e3 x c (by rw[fU,hx])
    |false=>exact e3 x c' (by rw[fU,hx];exact h)
   .rcases bi.mp h with h|h
    .cases h;exact e3 n c (by rw[fU];simp)
    .exact e4 x h
  .obtain⟨cl,e1,e2,e3,e4⟩:=lJ r d5 (fun y hy=>hf y (cp _ hy)) ha;refine⟨cl,?_,e2,e3,fun x h=>?_⟩
   .rw[vg];have hb:(k==NameKind.free)=false:=by simpa using hk
    have e0:(if ((n,k).2==NameKind.free)=true then (do let a <- cellOf env (n,k).1;pure (ForInStep.yield (((n,k).1,a)::d5))) else pure (ForInStep.yield d5):Sem (ForInStep (List (Str×Addr))))=pure (ForInStep.yield d5):=by
     rw[if_neg (by show ¬ (k==NameKind.free)=true;rw[hb];decide)]
    rw[e0];exact e1
   .rcases bi.mp h with h|h
    .cases h;exact absurd rfl hk
    .exact e4 x h
theorem lK(ok:X.Ok)(S:gp NB src scope X):
  ∃cl,closureFor scope X.env=pure cl/\(∀x c,cl.lookup x=some c->X.env.cells.lookup x=some c)/\∀x,(x,NameKind.free)∈scope.names->∃c,cl.lookup x=some c:=by
 obtain⟨cl,e1,e2,_,e4⟩:=lJ (env:=X.env) scope.names [] (fun y hy hk=>ok.has y.1 (S.free y hy hk)) (fun x c h=>nomatch h);refine⟨cl,?_,e2,e4⟩;unfold closureFor;simp only[bind_pure];exact e1
theorem vN(h:scope.names.lookup x=some .free):(relabel scope env).names.lookup x=some .cell\/(relabel scope env).names.lookup x=some .free:=by
 have go:∀names:List (Str×NameKind),names.lookup x=some .free->
   (names.map fun (n,k)=>if (k==NameKind.free&&env.scope.kind==.function&&env.kindOf n==some .cell) then (n,NameKind.cell) else (n,k)).lookup x=some .cell\/
   (names.map fun (n,k)=>if (k==NameKind.free&&env.scope.kind==.function&&env.kindOf n==some .cell) then (n,NameKind.cell) else (n,k)).lookup x=some .free:=by
  intro names;induction names with
  |nil=>intro h;simp at h
  |cons y r ih=>
   intro h;obtain⟨n,k⟩:=y;rw[fU] at h;rw[d7];cases hx:x==n with
   |true=>
    rw[hx] at h;cases h;by_cases hc:(NameKind.free==NameKind.free&&env.scope.kind==.function&&env.kindOf n==some .cell)=true
    .left;show List.lookup x ((if _ then _ else _)::_)=_;rw[am hc,fU,hx]
    .right;show List.lookup x ((if _ then _ else _)::_)=_;rw[if_neg hc,fU,hx]
   |false=>
    rw[hx] at h;by_cases hc:(k==NameKind.free&&env.scope.kind==.function&&env.kindOf n==some .cell)=true
    .show List.lookup x ((if _ then _ else _)::_)=_\/List.lookup x ((if _ then _ else _)::_)=_;rw[am hc,fU,hx];exact ih h
    .show List.lookup x ((if _ then _ else _)::_)=_\/List.lookup x ((if _ then _ else _)::_)=_;rw[if_neg hc,fU,hx];exact ih h
 exact go scope.names h
theorem mi(h:(relabel scope env).names.lookup x=some k)(hk:k=.cell\/k=.free):(x,NameKind.free)∈scope.names\/(x,NameKind.cell)∈scope.names:=by
 have m:=ik h;obtain⟨⟨n,k'⟩,hm,e⟩:=aX.mp m;by_cases q:(k'==NameKind.free&&env.scope.kind==.function&&env.kindOf n==some .cell)=true
 .have e':(n,NameKind.cell)=(x,k):=by simpa [q] using e
  have k1:k'=NameKind.free:=by
   simp only[gj,fq] at q;exact q.1.1
  cases e';left;rw[<-k1];exact hm
 .have e':(n,k')=(x,k):=by simpa [q] using e
  cases e';rcases hk with z|z
  .subst z;exact .inr hm
  .subst z;exact .inl hm
theorem n_:∀ (names:List (Str×NameKind)) (h:Heap) (d5:List (Str×Addr)) (x:Str) (c:Addr),(cellsFrom h.objs.size names d5).lookup x=some c->d5.lookup x=some c\/(h.objs.size<=c/\(pushCells h names).IsCell c none)
 |[],_,_,_,_,e=>.inl e
 |(name,kind)::r,h,d5,x,c,e=>by
  unfold cellsFrom at e;unfold pushCells;split at e
  .rename_i hk;rw[am hk];have hsz:(h.push { cls:=.type "cell",data:=.cell none }).objs.size=h.objs.size+1:=gx ..;rw[<-hsz] at e;rcases n_ r _ _ x c e with z|⟨z1,z2⟩
   .rw[fU] at z;cases hx:x==name with
    |true=>
     rw[hx] at z;cases z;exact .inr ⟨aT _,_,pushCells_keeps r _ _ _ (cL _ rfl),rfl⟩
    |false=>rw[hx] at z;exact .inl z
   .exact .inr ⟨by lia,z2⟩
  .rename_i hk;rw[if_neg hk];exact n_ r h d5 x c e
theorem t9:∀ (names:List (Str×NameKind)) (n:Nat) (d5:List (Str×Addr)) (x:Str),(x,NameKind.cell)∈names->∃c,n<=c/\(cellsFrom n names d5).lookup x=some c:=by
 have up:∀ (names:List (Str×NameKind)) (n m:Nat) (d5:List (Str×Addr)) (x:Str) (c:Addr),d5.lookup x=some c->m<=c->m<=n->∃c',m<=c'/\(cellsFrom n names d5).lookup x=some c':=by
  intro names;induction names with
  |nil=>intro n m d5 x c e h _;exact⟨c,h,e⟩
  |cons y r ih=>
   intro n m d5 x c e h hm;obtain⟨name,kind⟩:=y;unfold cellsFrom;split
   .cases hx:x==name with
    |true=>exact ih (n+1) m _ x n (by rw[fU,hx]) hm (by lia)
    |false=>exact ih (n+1) m _ x c (by rw[fU,hx];exact e) h (by lia)
   .exact ih n m d5 x c e h hm
 intro names;induction names with
 |nil=>intro n d5 x h;cases h
 |cons y r ih=>
  intro n d5 x h;obtain⟨name,kind⟩:=y;unfold cellsFrom;rcases bi.mp h with z|z
  .cases z;rw[am (by decide)];exact up r (n+1) n _ x n (by rw[fU];simp) (aT _) (by lia)
  .split
   .obtain⟨c,h1,h2⟩:=ih (n+1) ((name,n)::d5) x z;exact⟨c,by lia,h2⟩
   .exact ih n d5 x z
theorem kI:∀ (names:List (Str×NameKind)) (n:Nat) (d5:List (Str×Addr)) (x:Str) (c:Addr),d5.lookup x=some c->(x,NameKind.cell)∉names->(cellsFrom n names d5).lookup x=some c
 |[],_,_,_,_,e,_=>e
 |(name,kind)::r,n,d5,x,c,e,h=>by
  have hr:(x,NameKind.cell)∉r:=fun z=>h (cp _ z);unfold cellsFrom;split
  .rename_i hk;have og:(x==name)=false:=by
    cases hx:x==name with
    |false=>rfl
    |true=>
     have e1:x=name:=by simpa using hx
     have e2:kind=.cell:=by simpa using hk
     exact absurd (by rw[e1,e2];exact cg) h
   exact kI r (n+1) _ x c (by rw[fU,og];exact e) hr
  .exact kI r n d5 x c e hr
theorem oh:∀ (names:List (Str×NameKind)) (n:Nat) (d5:List (Str×Addr)),(∀x y c,d5.lookup x=some c->d5.lookup y=some c->x=y)->(∀x c,d5.lookup x=some c->c<n)->∀x y c,(cellsFrom n names d5).lookup x=some c->(cellsFrom n names d5).lookup y=some c->x=y
 |[],_,_,hi,_=>hi
 |(name,kind)::r,n,d5,hi,hl=>by
  unfold cellsFrom;split
  .refine oh r (n+1) _ (fun x y c h1 h2=>?_) (fun x c h=>?_)
   .rw[fU] at h1 h2;cases hx:x==name <;> cases hy:y==name <;> rw[hx] at h1 <;> rw[hy] at h2
    .exact hi x y c h1 h2
    .cases h2;exact absurd (hl x _ h1) (iB _)
    .cases h1;exact absurd (hl y _ h2) (iB _)
    .have e1:x=name:=by simpa using hx
     have e2:y=name:=by simpa using hy
     rw[e1,e2]
   .rw[fU] at h;cases hx:x==name <;> rw[hx] at h
    .exact cX (hl x c h)
    .cases h;exact k9 _
  .exact oh r n d5 hi hl
section
variable {X:Cx} {ae:List (Addr×Obj)} {σ:St} {H:Hp} {s:Shared} {NB:List Str} {src:List (Option Nat)} {scope:Scope} {cl:List (Str×Addr)} {fp:List Addr} {h₁:Heap} {t₁:Nat}
theorem Jv(I:aM X ae σ H s)(S:gp NB src scope X)(c1:∀x c,cl.lookup x=some c->X.env.cells.lookup x=some c)(c2:∀x,(x,NameKind.free)∈scope.names->∃c,cl.lookup x=some c)(hf:∀b∈fp,fP X ae H b)(Jw:∀b∈fp,b<s.heap.objs.size){m:Str->Option Value}(hn:h₁.Ns s.heap.objs.size m)(hk:∀b o,s.heap.get? b=some o->h₁.get? b=some o)(xJ:∀x c,(cellsFrom (s.heap.objs.size+1) scope.names cl).lookup x=some c->cl.lookup x=some c\/(s.heap.objs.size<c/\h₁.IsCell c none)):
  aM (BW X NB scope (cellsFrom (s.heap.objs.size+1) scope.names cl) s.heap.objs.size s H fp) [] (yX src σ) H { s with heap:=h₁,toks:=t₁ }:=by
 have Qs:∀b∈Dp X.stack,b∈X.env.locals::X.fs:=I.qW;have lL:∀x c,cl.lookup x=some c->∃v,s.heap.IsCell c v:=fun x c e=>I.cell x c (c1 x c e);have Xt:∀x c,cl.lookup x=some c->c<s.heap.objs.size:=fun x c e=>by obtain⟨v,o,ho,_⟩:=lL x c e;exact a8 ho
 refine⟨⟨I.ok.mod,S.kind,I.ok.glob,I.ok.blt,aT _,oh _ _ _ (fun x y c e1 e2=>I.ok.inj x y c (c1 x c e1) (c1 y c e2)) (fun x c e=>cX (Xt x c e)),fun x hx=>?_,fun x c z e=>?_,I.ok.hd,I.ok.frames,.inl rfl,fun b hb=>⟨?_,fun x c e=>?_⟩,I.bs,a9 I.ok.Dq I.sz,fun b o e hb=>?_,fun b hb=>?_,I.stack,I.l7⟩,
  rfl,I.bare,Un.kept hk,⟨m,hn,fun i x v e1 e2 e3=>?_⟩,fun x c e=>?_,I.bL.fresh (aT _),fun x c e=>?_,fun p hp=>absurd (show p∈([]:List (Addr×Obj)) from hp) (by simp),I.bL.kept hk,?_⟩
 .have Az:(x,NameKind.free)∈scope.names\/(x,NameKind.cell)∈scope.names:=by
   rcases hx with hx|hx
   .exact mi hx (.inl rfl)
   .exact mi hx (.inr rfl)
  by_cases hc:(x,NameKind.cell)∈scope.names
  .obtain⟨c,_,e⟩:=t9 scope.names (s.heap.objs.size+1) cl x hc;exact⟨c,e⟩
  .rcases Az with z|z
   .obtain⟨c,e⟩:=c2 x z;exact⟨c,kI _ _ _ _ _ e hc⟩
   .exact absurd z hc
 .have hm:=ik (xL.mp z);obtain⟨c',h1,h2⟩:=t9 scope.names (s.heap.objs.size+1) cl x hm;have e':(cellsFrom (s.heap.objs.size+1) scope.names cl).lookup x=some c:=e;rw[h2] at e';cases e';exact Nat.le_of_succ_le h1
 .exact aW (Jw b hb)
 .rcases xJ x c e with z|⟨z,_⟩
  .exact(hf b hb).2.2.2.2.1 x c (c1 x c z)
  .exact i9 (vx (Jw b hb) z)
 .rcases(hf b hb).2.2.2.1 with z|z
  .exact I.ok.EY b o e z
  .exact absurd (b_ (a8 e) (a9 I.ok.Dq z)) (iB _)
 .intro z;rcases bi.mp (Qs b z) with e|e
  .exact(hf b hb).2.1 e
  .exact(hf b hb).2.2.1 e
 .obtain⟨j,hj,hv⟩:=BV e2;obtain⟨hN,hF⟩:=S.src i x j e1 hj;obtain⟨m0,Fz,Qz⟩:=I.loc;have AA:=ik hF;have kx:=S.free _ AA rfl;have Ru:Qq X.env.scope x:=by
   rcases kx with z|z
   .exact .inr (.inl z)
   .exact .inr (.inr z)
  obtain⟨u,r,l⟩:=Qz j x v hN hv Ru;refine⟨u,r,.inr ⟨vN hF,?_⟩⟩;obtain⟨c,hc⟩:=c2 x AA;have hnc:(x,NameKind.cell)∉scope.names:=fun z=>by
   have:=S.cells _ z rfl;rw[hF] at this;cases this
  refine⟨c,kI _ _ _ _ _ hc hnc,?_⟩;rcases l with ⟨NR,_⟩|⟨_,c',e,z⟩
  .have FB:X.env.scope.names.lookup x=some .local:=NR;rcases kx with z|z <;> (rw[z] at FB;cases FB)
  .rw[c1 x c hc] at e;cases e;obtain⟨o,ho,hd⟩:=z;exact⟨o,hk _ _ ho,hd⟩
 .rcases xJ x c e with z|⟨_,z⟩
  .obtain⟨v,o,ho,hd⟩:=lL x c z;exact⟨v,o,hk _ _ ho,hd⟩
  .exact⟨none,z⟩
 .rcases xJ x c e with z|⟨z,_⟩
  .exact I.jy x c (c1 x c z)
  .exact I.bL.fresh (jT z)
 .show (yX src σ).length=NB.length;unfold yX;rw[aI];exact S.len
theorem aM.RV(I:aM X ae σ H s)(J:aM (BW X NB scope cl C s H fp) [] σB H' s')(hf:∀b∈fp,fP X ae H b):aM X ae σ H' s':=by
 refine I.E3 (ch:=fp) J.os J.base J.bL J.bare fun b hb=>?_;obtain⟨_,f1,_,f3,f4,f5⟩:=hf b hb;exact⟨f3,f1,f4,f5⟩
end
def QA(X:Cx)(BY:List Expr)(t:TT):Prop:=
 ∀ (ae:List (Addr×Obj)) (s:Shared) (σ:St) (H:Hp) (Q:Bool->Hp->Prop),aM X ae σ H s->t σ H Q->
  wpAny (model X.prog X.w) X.A (forIn BY true fun c r=>if r=true then do let ok <- isTrue c X.env (eval c X.env);pure (ForInStep.yield ok) else pure (ForInStep.yield r)) (TP X ae σ Q) X.xe s
def Xu:TT:=fun _ H Q=>Q true H
theorem b8:QA X [] Xu:=fun _ _ _ H _ I h=>wpAny_tests_nil ⟨H,I,h⟩
theorem d8(h:PT X c t):QA X [c] t:=fun ae s σ H Q I q=>wpAny_tests_one (h ae s σ H Q I q)
def gu(J:It)(g:TG)(tt:TT)(te:TE)(D:Addr)(dE:Hp->Prop)(σB:St)(H1:Hp):Prop:=
 ∃W:Nat->Nat->St->Hp->Prop,(∃m,W 0 m σB H1)/\∀i m σ H,W i m σ H->(J.stop i H/\dE H)\/(J.go i H/\∀x H',J.Qt i H x H'->g x σ H' fun σ2 H2=>tt σ2 H2 fun b H3=>
  if b=true then te σ2 H3 fun v H4=>∃ys,H4 D=some (.lst ys)/\ys.length<sizeLine/\∃m',m'<m/\W (i+1) m' σ2 (upd H4 D (.lst (ys++[v]))) else ∃m',m'<m/\W (i+1) m' σ2 H3)
theorem DC(hx:B.xe=fun _ _=>False)(hc:B.calm=true)(T:xz B.prog B.w B.K tg J fp it tn)(hg:PG B tg g)(ht:QA B BY tt)(he:PE B Ez te)(I:aM B [] σB H1 s)(st:tn 0 s.heap)(hf:∀b∈fp,fP B [] H1 b)(hw:gu J g tt te D dE σB H1)(hR:∀σ' H' s',aM B [] σ' H' s'->dE H'->R (.ok .next) s'):
  codeAny (model B.prog B.w) B.A (.compLoop (.ListComp Ez [⟨tg,jC,BY,0⟩] scope pos) 0 (.ref it) (.ref D) B.env) R s:=by
 obtain⟨W,⟨m0,w0⟩,E9⟩:=hw;have Ak:∀ {H':Hp},(∀b∈fp,H' b=none)->∀b∈fp,fP B [] H' b:=fun hn b hb=>⟨hn b hb,(hf b hb).2⟩
 refine codeAny_loop rfl (fun n s'=>∃i σ' H',aM B [] σ' H' s'/\tn i s'.heap/\(∀b∈fp,H' b=none)/\W i n σ' H') ?_ m0 ⟨0,σB,H1,I,st,fun b hb=>(hf b hb).1,w0⟩;rintro n s3 ⟨i,σ3,H3,I3,Al,Jb,w3⟩;show wpAny _ B.A ((compTurn (.ListComp Ez [⟨tg,jC,BY,0⟩] scope pos) 0 (.ref it) (.ref D) B.env).onRaise (fun x=>do noteFrame x B.env;theTreesLotGoes x)) _ _ s3;refine wpAny_noted ?_;rw[compTurn_list];have nx:∀ {α:Type} {t:Sem α} {Q:α->Shared->Prop} {E':Value->Shared->Prop} {s:Shared},wpAny (model B.prog B.w) B.A t Q B.xe s->wpAny (model B.prog B.w) B.A t Q E' s:=fun h=>
  f9 h (fun _ _ q=>q) fun _ _ z=>by rw[hx] at z;exact z.elim
 rcases E9 i n σ3 H3 w3 with ⟨stop,qn⟩|⟨go,step⟩
 .refine aw (nI (aw (cz (T.done B rfl rfl rfl hc i [] s3 σ3 H3 _ I3 (Ak Jb) Al stop) fun r s4 ⟨hr,I4⟩=>?_)));subst hr;exact wpAny_pure (hR σ3 H3 s4 I4 qn)
 .refine aw (nI (aw (cz (T.item B rfl rfl rfl hc i [] s3 σ3 H3 _ I3 (Ak Jb) Al go) fun r s4 ⟨u,hr,h4⟩=>?_)));subst hr;refine aw (cz h4 fun _ s5 ⟨x,H5,I5,r5,y5,xh,Xa⟩=>?_);have Xb:=I5.pinned (Ak Xa) (T.obj _ _ xh);refine aw (nx (cz (hg _ s5 σ3 H5 x u _ Xb r5 (step x H5 y5)) fun _ s6 ⟨σ6,H6,I6,q6⟩=>?_));have back:∀ {σ7:St} {H7:Hp} {s7:Shared} {m':Nat},aM B ([]++ra fp s5.heap) σ7 H7 s7->m'<n->W (i+1) m' σ7 H7->∃m,m<n/\∃i σ' H',aM B [] σ' H' s7/\tn i s7.heap/\(∀b∈fp,H' b=none)/\W i m σ' H':=fun {σ7 H7 s7 m'} I7 hm w7=>by
   refine⟨m',hm,i+1,σ7,H7,I7.me,T.keep _ _ _ xh fun b hb o e=>(I7.pin (b,o) (dP _ (dP _ (jc hb e)))).1,fun b hb=>?_,w7⟩;obtain⟨o,e,d⟩:=T.obj _ _ xh b hb;exact(I7.pin (b,o) (dP _ (dP _ (jc hb e)))).2.1
  refine aw (nx (cz (ht _ s6 σ6 H6 _ I6 q6) fun ok s7 ⟨H7,I7,q7⟩=>?_));cases ok with
  |false=>
   rw[if_neg cJ] at q7;obtain⟨m',hm,w7⟩:=q7;exact wpAny_pure ⟨rfl,back I7 hm w7⟩
  |true=>
   rw[am rfl] at q7;refine aw (aw (nx (cz (he _ s7 σ6 H7 _ I7 q7) fun v s8 ⟨y,H8,I8,r8,ys,hD,hl,m',hm,w8⟩=>?_)));refine aw (nx (cz (cM _ s8 σ6 H8 (.ref D) [y] (.ref D) [v] (fun _ H9=>H9=upd H8 D (.lst (ys++[y]))) I8 rfl (.cons r8 .nil) ⟨D,ys,y,rfl,rfl,hD,hl,rfl⟩) fun _ s9 ⟨_,H9,I9,_,e9⟩=>?_));subst e9;exact wpAny_pure (wpAny_pure ⟨rfl,back I9 hm w8⟩)
theorem vO(hQ:Q { scope:=scope,locals:=s.heap.objs.size,globals:=globals,cells:=cellsFrom (s.heap.objs.size+1) scope.names cl,qual:=qual,func:=none,code:=outer.code,frame:=outer.frame,builtins:=outer.builtins }
   { s with heap:=pushCells (s.heap.push { cls:=.type "dict",data:=.dict #[] }) scope.names }):
  wpAny M A (newFunctionEnv scope globals cl [] qual none .none (some outer)) Q E s:=by
 simp only[newFunctionEnv,Option.isSome_some,i_];refine aw (wpAny_alloc ?_);refine aw (wpAny_layCells _ (fun name kind cells=>by cases hkc:kind==NameKind.cell <;> simp[hkc]) _ _ _ _ ?_);rw[show ({ s with heap:=s.heap.push { cls:=.type "dict",data:=.dict #[] } }:Shared).heap.objs.size=s.heap.objs.size+1 from gx ..];refine aw ?_;rw[vk];exact wpAny_pure (wpAny_pure hQ)
section
variable {X:Cx} {Ez tg jC:Expr} {BY:List Expr} {scope:Scope} {pos:Pos} {wi:TI} {g:TG} {tt:TT} {te:TE} {NB:List Str} {src:List (Option Nat)}
def MI(src:List (Option Nat))(wi:TI)(g:TG)(tt:TT)(te:TE):TE:=fun σ H Q=>wi σ H fun J H1=>∀D,H1 D=none->gu J g tt te D (fun H'=>Q (.ref D) H') (yX src σ) (upd H1 D (.lst []))
theorem rh{ae:List (Addr×Obj)}{σ:St}{H2:Hp}{s2:Shared}{J:It}{fp:List Addr}{it:Addr}{tn:Nat->Heap->Prop}{cl:List (Str×Addr)}{dE:Addr->Hp->Prop}{E':Value->Shared->Prop}{RR:Value->Addr->Result->Shared->Prop}(S:gp NB src scope X)(hc:X.calm=true)(c1:∀x c,cl.lookup x=some c->X.env.cells.lookup x=some c)(c2:∀x,(x,NameKind.free)∈scope.names->∃c,cl.lookup x=some c)(hg:∀cl C s₃ H₃ fp,PG (BW X NB scope cl C s₃ H₃ fp) tg g)(ht:∀cl C s₃ H₃ fp,QA (BW X NB scope cl C s₃ H₃ fp) BY tt)(he:∀cl C s₃ H₃ fp,PE (BW X NB scope cl C s₃ H₃ fp) Ez te)(I2:aM X ae σ H2 s2)(T:xz X.prog X.w X.K tg J fp it tn)(Aj:tn 0 s2.heap)(f2:∀b∈fp,fP X ae H2 b)(hw:∀D,H2 D=none->gu J g tt te D (dE D) (yX src σ) (upd H2 D (.lst [])))(hR:∀D C H' s',fP X ae H' C->aM X ae σ H' s'->(∃m,s'.heap.Ns C m)->dE D H'->RR (.ref D) C (.ok .next) s'):
  wpAny (model X.prog X.w) X.A (newList []) (fun d5 s₃=>wpAny (model X.prog X.w) X.A (newFunctionEnv scope X.env.globals cl [] X.env.qual none .none (some X.env)) (fun RW s₄=>
   codeAny (model X.prog X.w) X.A (.compStart (.ListComp Ez [⟨tg,jC,BY,0⟩] scope pos) 0 (.ref it) d5 { RW with scope:=relabel scope X.env }) (RR d5 RW.locals) s₄) E' s₃) E' s2:=by
 refine z_ (vO ?_);have I3:=I2.NN (ys:=[]) (its:=[]) (t':=s2.toks) .nil (cu _);have hD:H2 s2.heap.objs.size=none:=I2.fresh;have fo:∀b∈fp,b<s2.heap.objs.size:=fun b hb=>by obtain⟨o,e,_⟩:=T.obj _ _ Aj b hb;exact a8 e
 have up:∀ {b:Addr},b∈fp->upd H2 s2.heap.objs.size (.lst []) b=H2 b:=fun {b} hb=>ao (aW (fo b hb));have f3:∀b∈fp,fP X ae (upd H2 s2.heap.objs.size (.lst [])) b:=fun b hb=>⟨by rw[up hb];exact(f2 b hb).1,(f2 b hb).2⟩
 have hsz:(s2.heap.push { cls:=.type "list",data:=.seq ([]:List Value).toArray }).objs.size=s2.heap.objs.size+1:=by rw[gx]
 generalize RX:({ s2 with heap:=s2.heap.push { cls:=.type "list",data:=.seq ([]:List Value).toArray } }:Shared)=s3 at I3 |-;have hh3:s3.heap=s2.heap.push { cls:=.type "list",data:=.seq ([]:List Value).toArray }:=by rw[<-RX]
 have fo3:∀b∈fp,b<s3.heap.objs.size:=fun b hb=>by rw[hh3,hsz];exact cX (fo b hb)
 have RY:(s3.heap.push { cls:=.type "dict",data:=.dict #[] }).objs.size=s3.heap.objs.size+1:=gx ..;have xJ:∀x c,(cellsFrom (s3.heap.objs.size+1) scope.names cl).lookup x=some c->cl.lookup x=some c\/(s3.heap.objs.size<c/\(pushCells (s3.heap.push { cls:=.type "dict",data:=.dict #[] }) scope.names).IsCell c none):=fun x c e=>by
  rw[<-RY] at e;rcases n_ _ _ _ _ _ e with z|⟨z1,z2⟩
  .exact .inl z
  .exact .inr ⟨by rw[RY] at z1;exact z1,z2⟩
 have RZ:=(Heap.Ns.new s3.heap (.type "dict")).keeps (pushCells_keeps scope.names _);have keep:∀b o,s3.heap.get? b=some o->(pushCells (s3.heap.push { cls:=.type "dict",data:=.dict #[] }) scope.names).get? b=some o:=fun b o e=>pushCells_keeps _ _ b o (b9 _ e);generalize hh1:pushCells (s3.heap.push { cls:=.type "dict",data:=.dict #[] }) scope.names=h₁ at xJ RZ keep |-;have IB:aM (BW X NB scope (cellsFrom (s3.heap.objs.size+1) scope.names cl) s3.heap.objs.size s3 (upd H2 s2.heap.objs.size (.lst [])) fp) [] (yX src σ) (upd H2 s2.heap.objs.size (.lst [])) { s3 with heap:=h₁,toks:=s3.toks }:=
  Jv I3 S c1 c2 f3 fo3 RZ keep xJ
 have stB:tn 0 h₁:=T.keep 0 s2.heap h₁ Aj fun b hb o e=>keep b o (by rw[hh3];exact b9 _ e);have fB:∀b∈fp,fP (BW X NB scope (cellsFrom (s3.heap.objs.size+1) scope.names cl) s3.heap.objs.size s3 (upd H2 s2.heap.objs.size (.lst [])) fp) [] (upd H2 s2.heap.objs.size (.lst [])) b:=fun b hb=>by
  refine⟨(f3 b hb).1,aW (fo3 b hb),fun z=>?_,.inl hb,fun x c e=>(IB.ok.WV b hb).2 x c e,fun p hp=>absurd (show p∈([]:List (Addr×Obj)) from hp) (by simp)⟩;rcases bi.mp (I3.qW b z) with e|e
  .exact(f3 b hb).2.1 e
  .exact(f3 b hb).2.2.1 e
 have loop:codeAny (model X.prog X.w) X.A (.compLoop (.ListComp Ez [⟨tg,jC,BY,0⟩] scope pos) 0 (.ref it) (.ref s2.heap.objs.size) (compEnvC scope (cellsFrom (s3.heap.objs.size+1) scope.names cl) s3.heap.objs.size X.env)) (RR (.ref s2.heap.objs.size) s3.heap.objs.size)
   { s3 with heap:=h₁,toks:=s3.toks }:=by
  refine DC (B:=BW X NB scope (cellsFrom (s3.heap.objs.size+1) scope.names cl) s3.heap.objs.size s3 (upd H2 s2.heap.objs.size (.lst [])) fp) rfl hc T (hg _ _ _ _ _) (ht _ _ _ _ _) (he _ _ _ _ _) IB stB fB (hw _ hD) fun σ' H' s' J' q=>?_;obtain⟨m,hm,_⟩:=J'.loc;exact hR _ _ H' s' (I3.xy (aT _) J'.free) (I3.RV J' f3) ⟨m,hm⟩ q
 exact codeAny_compStart_list loop (T.self _ 0 _ _ _ stB loop)
theorem bz(S:gp NB src scope X)(hc:X.calm=true)(hi:PI X tg jC wi)(hg:∀cl C s₃ H₃ fp,PG (BW X NB scope cl C s₃ H₃ fp) tg g)(ht:∀cl C s₃ H₃ fp,QA (BW X NB scope cl C s₃ H₃ fp) BY tt)(he:∀cl C s₃ H₃ fp,PE (BW X NB scope cl C s₃ H₃ fp) Ez te)(hs:∀x,foldedSetIterable jC X.env x=pure x:=by intro _;rfl):PE X (.ListComp Ez [⟨tg,jC,BY,0⟩] scope pos) (MI src wi g tt te):=by
 intro ae s σ H Q I h;obtain⟨cl,MJ,c1,c2⟩:=lK I.ok S;rw[eval_ListComp];refine wpAny_comprehension_free (use:=none) (cl:=cl) rfl hs MJ S.kind S.names (cz (hi ae s σ H _ I h) fun v s1 h1=>cz h1 fun VO s2 h2=>?_);obtain⟨it,fp,tn,J,H2,e,I2,T,Aj,f2,hw⟩:=h2;subst e;refine rh (RR:=fun d5 C=>compPost (model X.prog X.w) X.A X.xe none (EP X ae σ Q) d5 C) S hc c1 c2 hg ht he I2 T Aj f2 hw fun D C H' s' fC I' hm q=>?_;obtain⟨m,hm⟩:=hm;refine⟨m,hm,fun h' sb=>⟨.ref D,H',?_,rfl,q⟩⟩;obtain⟨g0,g1,_,g3,g4,g5⟩:=fC;exact I'.turned (t':=s'.toks) (fun b o hb e=>(sb.2 b hb).trans e) g0 g1 g3 g4 g5
theorem dL{i:Nat}{y:Str}{py R0:Pos}(S:gp NB src scope X)(hc:X.calm=true)(hi:PI X tg jC wi)(hg:∀cl C s₃ H₃ fp,PG (BW X NB scope cl C s₃ H₃ fp) tg g)(ht:∀cl C s₃ H₃ fp,QA (BW X NB scope cl C s₃ H₃ fp) BY tt)(he:∀cl C s₃ H₃ fp,PE (BW X NB scope cl C s₃ H₃ fp) Ez te)(hN:X.N.Nodup)(hix:X.N[i]?=some y)(hy:X.env.scope.names.lookup y=some .local)(hsw:swapsWith (.ListComp Ez [⟨tg,jC,BY,0⟩] scope pos) (some (.Name y py)) R0.line X.env=pure true)(hs:∀x,foldedSetIterable jC X.env x=pure x:=by intro _;rfl):
  PS X (.Assign [.Name y py] (.ListComp Ez [⟨tg,jC,BY,0⟩] scope pos) R0) (Ja (MI src wi g tt te) (be i)):=by
 intro ae s σ H D0 I h;obtain⟨cl,MJ,c1,c2⟩:=lK I.ok S;rw[exec_Assign_Name_used _ _ _ _ hsw];refine aw (nI (aw ?_));show wpAny _ X.A (do let _ <- comprehension (.ListComp Ez [⟨tg,jC,BY,0⟩] scope pos) scope X.env _ (newList []) false (eval jC X.env) (some (assign (.Name y py) X.env))) _ _ s;refine aw (f9 (wpAny_comprehension_free (use:=some (assign (.Name y py) X.env)) (Q:=fun _ s'=>SP X ae D0 .next s') (cl:=cl) rfl hs MJ S.kind S.names
  (cz (hi ae s σ H _ I h) fun v s1 h1=>cz h1 fun VO s2 h2=>?_)) (fun _ s' hq=>wpAny_pure (wpAny_pure hq)) fun _ _ e=>e)
 obtain⟨it,fp,tn,J,H2,e,I2,T,Aj,f2,hw⟩:=h2;subst e;refine rh (RR:=fun d5 C=>compPost (model X.prog X.w) X.A X.xe (some (assign (.Name y py) X.env)) (fun _ s'=>SP X ae D0 .next s') d5 C) S hc c1 c2 hg ht he I2 T Aj f2 hw fun D C H' s' fC I' hm q=>?_;obtain⟨m,hm⟩:=hm;obtain⟨g0,g1,_,g3,g4,g5⟩:=fC;show wpAny _ X.A (assign (.Name y py) X.env (.ref D)) _ _ _;refine wpAny_assign_Name (tP I' hN hix (.inl hy) (v:=.ref D) rfl (fun IA I'' sb=>?_) (.inr hy));obtain⟨a,sb,ha⟩:=sb;have og:C≠a:=by
  rcases ha with z|z
  .rw[z];exact g1
  .exact fun z'=>g4 y a z z'.symm
 refine⟨m,hm.sameBut sb og,fun h' sb'=>⟨_,H',I''.turned (t':=IA.toks) (fun b o hb e=>(sb'.2 b hb).trans e) g0 g1 g3 g4 g5,q⟩⟩
end
section
variable {P:Program} {w:World} {K:PySem.W.Frag} {mg:Str->Option Value} {base:Heap} {N:List Str} {qual:Str} {scope:Scope} {f:Addr} {cd:Value} {A:Around} {outer:List Env} {s:Shared} {H:Hp} {E:XK}
end
open PySem PySem.Spec PyProof.Rows PySem.W
abbrev bmV:List Value:=[.type "ValueError",.type "Exception",.type "BaseException",.type "object"]
structure DD(K:PySem.W.Frag)(C:Addr):Prop where
 ex:PySem.W.excIn K C bmV "ValueError.__new__"=true
 kp:PySem.W.keepIn K (.ref C)=true
 ga:PySem.W.findIn K (.ref C) "__getattribute__"=some (some (.builtin "BaseException.__getattribute__"))
 gt:PySem.W.findIn K (.ref C) "__getattr__"=some none
 cl:PySem.W.findIn K (.ref C) "__class__"=some (some (.builtin "object.__class__"))
 mo:PySem.W.mroIn K C (.type "object")=some true
 mb:PySem.W.mroIn K C (.type "BaseException")=some true
 ty:(PySem.W.clsIn K C).isSome=true
def VQ(p:Addr)(C:Value)(h:Heap):Prop:=∃o,h.get? p=some o/\o.cls=C
abbrev Xv(p:Addr)(C:Value):HO:=.ext (VQ p C)
theorem cw.get(x:cw P w H h a o):∃u,h.get? a=some u:=by
 cases o with
 |lst xs=>obtain⟨_,_,_,_,e⟩:=x;exact⟨_,e⟩
 |tup xs=>obtain⟨_,_,_,ob,e,_⟩:=x;exact⟨_,e⟩
 |dK bj=>obtain⟨_,_,_,_,o,_,_,e,_⟩:=x;exact⟨_,e⟩
 |dT bj=>obtain⟨_,_,_,_,o,_,_,e,_⟩:=x;exact⟨_,e⟩
 |set S n=>obtain⟨o,_,_,_,e,_⟩:=x;exact⟨_,e⟩
 |ins C dx fs=>obtain⟨_,_,_,e,_⟩:=x;exact⟨_,e⟩
 |own y=>exact x
 |xd fs=>obtain⟨_,⟨_,_,_,e,_⟩,_⟩:=x;exact⟨_,e⟩
 |VH lo hi=>obtain⟨_,_,_,e⟩:=x;exact⟨_,e⟩
 |xg ob u=>obtain⟨e,_⟩:=x;exact⟨_,e⟩
 |gQ ps=>exact⟨_,(show h.get? a=some _ from x)⟩
 |met f y=>exact⟨_,(show h.get? a=some _ from x)⟩
 |ext φ=>exact x.2.1
theorem jB.rj(x:jB P w H h)(e:h.get? a=none):H a=none:=by
 cases q:H a with
 |none=>rfl
 |some u=>obtain⟨o,z⟩:=(x a u q).get;rw[e] at z;cases z
theorem aM.FE(I:aM X ae σ H s)(k:∀b u,s.heap.get? b=some u->h'.get? b=some u)(hp:s.heap.get? a=none)(new:cw X.prog X.w (upd H a o) h' a o):
  aM X ae σ (upd H a o) { s with heap:=h',toks:=t' }:=by
 have hn:=I.bL.rj hp;have ne:∀b u,s.heap.get? b=some u->b≠a:=fun b u e z=>by rw[z,hp] at e;cases e
 refine I.un ⟨fun b u e _ _ _=>k b u e,fun b u e _ _ _=>⟨u.slots,k b u e⟩,fun b u e n _=>by rw[ao (ne b u e)];exact n,fun b u e _=>⟨u,k b u e⟩,fun b xs e=>by rw[ao (aj e hn)];exact e,fun b u v e=>by rw[ao (aj e hn)];exact e,fun b ps e=>⟨#[],by rw[ao (aj e hn),e];simp⟩⟩ fun b u e=>?_;by_cases hb:b=a
 .subst hb;rw[af] at e;cases e;exact new
 .rw[ao hb] at e;exact(I.bL b u e).l6 (fun c v _ q=>k c v q) (fun c q=>by rw[ao (aj q hn)];exact q) fun c xs q=>by rw[ao (aj q hn)];exact q
section
variable {prog:Program} {w:World} {A:Around} {E:Value->Shared->Prop} {s:Shared} {K:PySem.W.Frag} {x C:Addr} {ox:Obj}
theorem BZ(hx:h.get? x=some ox)(hc:ox.cls=.ref C):PySem.W.Looks M h (typeOf (.ref x)) (.ref C):=hc ▸ (PySem.W.Looks.ld hx).andThen .now
open Builtin Builtin.ObjectAttr Builtin.Getset_descriptor in
theorem AB(X:K.In s.heap)(hx:s.heap.get? x=some ox)(hc:ox.cls=.ref C)(hm:PySem.W.mroIn K C (.type "object")=some true)(h:R (.ok (.ret (.ref C))) s):codeAny (model prog w) A (.call (.builtin "getset_descriptor.__get__") ⟨[.builtin "object.__class__",.ref x,tp],[]⟩) R s:=by
 obtain⟨hh,g,dr,t,os⟩:=s;have L0:=BZ (M:=model prog w) hx hc;have L1:=looks_mroIn (M:=model prog w) X hm;refine u8 KF.slot_gs.plain KF.entry_gs (KF.slot_gs.check _ _ _ _ _ _ _ _ KF.type_class (KF.args_gs _ _ _) ?_);unfold Builtin.«getset_descriptor.__get__» descrGet;rw[dga_obj];refine aw (wpAny_pure ?_);unfold descrGetter descrCheckInstance descrNameAndClass isInstance;simp only[KF.owner_class];repeat lk
 refine⟨Code.quiet_builtin _ (by decide +kernel),vp KF.entry_class ?_⟩;unfold Builtin.«object.__class__» shownTypeOf;repeat lk
 exact h
theorem DE{g d t os}(T:DD K C)(X:K.In h)(hx:h.get? x=some ox)(hc:ox.cls=.ref C)(hq:Q (.done (.ret (.ref C))) ⟨h,g,d,t,os⟩):
  wpAny (model prog w) A (Builtin.«object.__getattribute__» ⟨[.ref x,.str "__class__" tk],[]⟩) Q E ⟨h,g,d,t,os⟩:=by
 have f5:=F.typeOf_bexc_args;have hT5:(⟨h,g,d,t,os⟩:Shared).TypeIs (.builtin "object.__class__") "getset_descriptor":=EI;have f5':=EI;have f6:=F.slot_gs_get.lookup;have f7:=F.slot_gs_set.lookup;have L1:=looks_findIn (M:=model prog w) X T.cl;repeat (any_goals (first|assumption|(with_reducible refine Aa hx ?_;rw[hc])|with_reducible refine L1.at ?_|wp_step))
 refine AB (s:=⟨h,g,d,t,os⟩) X hx hc T.mo ?_;repeat (any_goals (first|assumption|wp_step))
theorem DG{g d t os}(T:DD K C)(X:K.In h)(hx:h.get? x=some ox)(hc:ox.cls=.ref C)(hq:Q () ⟨h,g,d,t,os⟩):
  wpAny M A (checkBuiltinCall "BaseException.__getattribute__" ⟨[.ref x,R1],[]⟩) Q E ⟨h,g,d,t,os⟩:=by
 have hk:builtinKind "BaseException.__getattribute__"=some .slot:=by decide +kernel
 have NS:splitId "BaseException.__getattribute__"=some ("BaseException","__getattribute__"):=by decide +kernel
 have ha:=F.args_bexc_ga (.ref x) R1;have L1:=looks_mroIn (M:=M) X T.mb;simp only[checkBuiltinCall,hk,NS];refine aw ?_
 .unfold isInstance;repeat (first|(with_reducible refine Aa hx ?_;rw[hc])|with_reducible refine L1.at ?_|wp_step)
  exact hq
theorem NU{tk:Tok}{fill Je:Bool}{Q:Value->Shared->Prop}{h:Heap}{g d t os}(T:DD K C)(X:K.In h)(hx:h.get? x=some ox)(hc:ox.cls=.ref C)(hq:Q (.ref C) ⟨h,g,d,t,os⟩):
  wpAny (model prog w) A (getAttrBy (.ref x) (.str "__class__" tk) fill Je) Q E ⟨h,g,d,t,os⟩:=by
 have f3:=F.attr_ValueError.ga.bind (.ref x);have hx0:(Je&&onTheHeap (Value.builtin "BaseException.__getattribute__"))=false:=by cases Je <;> rfl
 have hx2:(Value.builtin "BaseException.__getattribute__"==Value.builtin "object.__getattribute__")=false:=by decide +kernel
 have hx1:(onTheHeap (Value.ref C)&&Value.builtin "BaseException.__getattribute__"==Value.builtin "object.__getattribute__")=false:=by rw[hx2];rfl
 have L1:=looks_findIn (M:=model prog w) X T.ga;have L2:=looks_findIn (M:=model prog w) X T.gt;repeat (any_goals (first|assumption|(with_reducible refine Aa hx ?_;rw[hc])|with_reducible refine L1.at ?_|with_reducible refine L2.at ?_|wp_step))
 refine u8 F.attr_ValueError.ga.plain F.entry_bexc_ga (DG T X hx hc (DE T X hx hc ?_));repeat (any_goals (first|assumption|wp_step))
theorem FG{Q:Option Value->Shared->Prop}{h:Heap}{g d t os}(T:DD K C)(X:K.In h)(hx:h.get? x=some ox)(hc:ox.cls=.ref C)(hq:Q (some (.ref C)) ⟨h,g,d,t+1,os⟩):
  wpAny (model prog w) A (getAttr? (.ref x) "__class__") Q E ⟨h,g,d,t,os⟩:=by
 unfold getAttr?;repeat (any_goals (first|assumption|with_reducible apply NU T X hx hc|wp_step))
theorem xM(T:DD K C):PySem.W.KitX K (.ref x) (.ref C) (VQ x (.ref C)) where
 ty:=fun _ _ _ ⟨o,e,c⟩=>BZ e c
 it:=fun _ _ X _=>by
  obtain⟨cdD,Jg⟩:=mW.mp T.ty;unfold clsIn at Jg;split at Jg
  .rename_i c' d' cd' WY ho;intro A' Q' E' s' k q;unfold isType loadHead;exact aw (wpAny_loadPart (k _ _ (X _ _ ho)) (wpAny_pure q))
  .cases Jg
 ne:=fun h tp dd its n sl X htp=>by
  obtain⟨cdD,Jg⟩:=mW.mp T.ty;refine zR.mpr fun q=>?_;have e:C=tp:=Value.ref.inj (fq.mp q);subst e;unfold clsIn at Jg;split at Jg
  .rename_i c' d' cd' WY ho;have z:=(X _ _ ho).symm.trans htp;cases z
  .cases Jg
 ca:=fun {_ _ _ _ _ s} X ⟨o,e,c⟩ k=>by
  obtain⟨h,g,d,t,os⟩:=s;exact FG T X e c k
end
section
variable {X:Cx}
inductive ML (K:PySem.W.Frag) (H:Hp):V->Value->Prop where
 |of {v:V} {t:Value} (h:n0 K H v t):ML K H v t
 |exc {p C:Addr} (T:DD K C) (e:H p=some (Xv p (.ref C))):ML K H (.ref p) (.ref C)
def Xw(K:PySem.W.Frag):List V->Hp->VK->Prop:=fun xs H Q=>∃x c cv t b,xs=[x,c]/\(c=.ty cv/\PySem.W.kitOne K t (.type cv)=some b)/\ML K H x t/\Q (.bl b) H
theorem mj:gm X (.builtin "isinstance") (Xw X.K):=by
 intro ae s σ H xs us Q I r h;obtain⟨x,c,cv,t,b,rfl,⟨rfl,e⟩,ty,q⟩:=h;obtain⟨u1,u2,rfl,r1,r2⟩:=r.two;obtain rfl:u2=Value.type cv:=r2;cases ty with
 |of ty=>exact tS I r1 ty e fun tk=>⟨.bl b,H,I.tok tk,rfl,q⟩
 |@exc p C T ea=>
  obtain rfl:u1=Value.ref p:=r1;have p1:VQ p (.ref C) s.heap:=(I.bL p _ ea).1;exact iP (xM T) I.lE p1 e (fun z=>nomatch z) fun tk=>⟨.bl b,H,I.tok tk,rfl,q⟩
def R3(K:PySem.W.Frag):List V->Hp->VK->Prop:=fun xs H Q=>∃x c t b,xs=[x,.ref c]/\PySem.W.kitOne K t (.ref c)=some b/\ML K H x t/\Q (.bl b) H
theorem DH:gm X (.builtin "isinstance") (R3 X.K):=by
 intro ae s σ H xs us Q I r h;obtain⟨x,c,t,b,rfl,e,ty,q⟩:=h;obtain⟨u1,u2,rfl,r1,r2⟩:=r.two;obtain rfl:u2=Value.ref c:=r2;cases ty with
 |of ty=>exact tS I r1 ty e fun tk=>⟨.bl b,H,I.tok tk,rfl,q⟩
 |@exc p C T ea=>
  obtain rfl:u1=Value.ref p:=r1;have p1:VQ p (.ref C) s.heap:=(I.bL p _ ea).1;exact iP (xM T) I.lE p1 e (fun z=>nomatch z) fun tk=>⟨.bl b,H,I.tok tk,rfl,q⟩
end
section
variable {X:Cx} {x:Str} {C:Addr} {np vJ pos:Pos} {e:Expr} {es:List Expr} {t:TA}
end
section
variable {X:Cx} {CX:xi} {k:Nat} {f C:Addr} {fd:FuncData} {ps:List Str} {sp:Sp} {sR:List V} {ds:List Value} {E:St->XK} {x m:Str} {p pos vE:Pos} {e o:Expr} {es:List Expr} {ta:TE} {t:TA}
end
section
variable {X:Cx} {CX:xi} {k:Nat} {f:Addr} {fd:FuncData} {ps:List Str} {sp:Sp} {sR:List V} {ds:List Value} {E:XK} {x:Str} {p pos:Pos} {e:Expr} {es:List Expr} {t:TA}
end
section
variable {P:Program} {w:World} {K:PySem.W.Frag} {mg:Str->Option Value} {base:Heap}
end
section
variable {X:Cx} {ae:List (Addr×Obj)} {σ:St} {H:Hp} {s:Shared}
end
theorem Jx{h:Heap}{a:Addr}{m m':Str->Option Value}(x:h.Ns a m)(y:h.Ns a m'):m=m':=by
 obtain⟨o,es,ep,e,d,_,q⟩:=x;obtain⟨o',yU,VL,e',d',_,q'⟩:=y;rw[e] at e';cases e';rw[d] at d';cases d';funext z;rw[<-q z,q' z]
theorem aM.R4{X:Cx}{ae:List (Addr×Obj)}{σ:St}{H:Hp}{s:Shared}{h':Heap}{m:Str->Option Value}{D:Addr}{o:HO}{t':Nat}(I:aM X ae σ H s)(F:Fr X.base X.env.locals s.heap m)(F':Fr X.base X.env.locals h' m)(N':News X.base X.env.locals h' (ja X.base s.heap X.env.locals))(hD:s.heap.get? D=none)(new:cw X.prog X.w (upd H D o) h' D o):aM X ae σ (upd H D o) { s with heap:=h',toks:=t' }:=by
 have hn:=I.bL.rj hD;have ne:∀b u,s.heap.get? b=some u->b≠D:=fun b u e z=>by rw[z,hD] at e;cases e
 have keep:∀b u,b≠X.env.locals->s.heap.get? b=some u->h'.get? b=some u:=fun b u hb e=>by
  cases q:X.base.get? b with
  |some v=>
   have:=I.bk b v q;rw[e] at this;cases this;exact F'.keep b _ q
  |none=>exact(N' (b,u) (jV hb q e)).1
 refine I.step (g':=s.gens) (d':=s.drawn) (ch:=[]) (fun _ z=>absurd z (by simp)) (fun b u hb _ _ e _=>keep b u hb e) (fun b u hb _ _ e _=>⟨u.slots,keep b u hb e⟩) (fun b u _ e n=>by rw[ao (ne b u e)];exact n) (fun b u _ e=>?_)
  (fun b xs e=>by rw[ao (aj e hn)];exact e) (fun b u v e=>by rw[ao (aj e hn)];exact e) (fun b ps e=>⟨#[],by rw[ao (aj e hn),e];simp⟩) (fun m1 hm=>by rw[Jx hm F.ns];exact F'.ns) (fun b u e=>?_) I.bare
 .by_cases hb:b=X.env.locals
  .obtain⟨o',_,_,q,_⟩:=F'.ns;exact⟨o',by rw[hb];exact q⟩
  .exact⟨u,keep b u hb e⟩
 .by_cases hb:b=D
  .subst hb;rw[af] at e;cases e;exact new
  .rw[ao hb] at e;refine(I.bL b u e).l6 (fun c v hc q=>keep c v ?_ q) (fun c q=>by rw[ao (aj q hn)];exact q) fun c xs q=>by rw[ao (aj q hn)];exact q
   rintro rfl;rcases hc with z|hc
   .have f:=I.free;rw[z,e] at f;cases f
   .rw[I.free] at hc;cases hc
theorem sW(I:aM X ae σ H s)(N:News X.base X.env.locals h' ((D,o)::ja X.base s.heap X.env.locals))(eL:∀q∈ja X.base s.heap X.env.locals,q.1<D):s.heap.get? D=none:=by
 cases e:s.heap.get? D with
 |none=>rfl
 |some u=>
  obtain⟨_,n1,n2⟩:=N (D,o) cg;exact absurd (eL (D,u) (jV n1 n2 e)) (iB _)
def FH(K:PySem.W.Frag)(H:Hp)(a:Addr)(y:Int×Int):Prop:=bW K H a [.int y.1,.int y.2]
section
variable {X:Cx}
theorem AC(I:aM X ae σ H s)(h:FH X.K H a y):∃o n t u,s.heap.get? a=some o/\o.cls=.type "tuple"/\o.data=.seq #[.int y.1 t,.int y.2 u] n:=by
 obtain⟨its,r,p,_⟩:=I.tuple h;obtain⟨u1,u2,rfl,r1,r2⟩:=r.two;obtain⟨t,rfl⟩:=r1;obtain⟨t',rfl⟩:=r2;obtain⟨o,e,c,n,d⟩:=p;exact⟨o,n,t,t',e,c,d⟩
end
def NW(hs:Array Int)(i:Nat):Int:=(hs[i]?).getD 0
def gg(hs:Array Int)(t:SetTable)(h:Int):Option (Array Int×SetTable):=
 if t.gaveWay then none else
 match t.probe (NW hs) h (t.probeStart h) with
 |some (.empty j none)=>
  let q:=t.put j
  let DI:=SetTable.insertAt hs q.2 h
  if q.1.fits DI.size&&decide (DI.size<=4096) then
   if q.1.tooFull then
    (match q.1.relaid DI (SetTable.grown (hs.size+1)) with
    |some (t2,order)=>
     let pF:=order.filterMap (DI[·]?)
     if pF.size==DI.size&&t2.fits pF.size&&decide (SetTable.sizeAbove (SetTable.grown (hs.size+1))<=4096) then some (pF,t2) else none
    |none=>none)
   else some (DI,q.1)
  else none
 |_=>none
def vP(led:Bool):List Int->Option (Array Int×SetTable):=fun l=>l.foldlM (fun q h=>gg q.1 q.2 h) (#[],SetTable.fresh 0 0 led)
def j5(h:Heap)(S:Addr)(hs:Array Int)(t:SetTable):Prop:=∃o es ep,h.get? S=some o/\o.cls=.type "set"/\(o.dict=none/\o.slots=#[])/\o.data=.set es ep t/\es.map (·.1)=hs/\t.fits es.size=true
section
variable {prog:Program} {w:World} {A:Around} {E:Value->Shared->Prop} {s:Shared} {S:Addr}
theorem NX(es:Array (Int×Value)):(fun i=>(es[i]?.map (·.1)).getD 0)=NW (es.map (·.1)):=by
 funext i;unfold NW;rw[Array.getElem?_map]
theorem ml(es:Array (Int×Value))(p:Nat)(x:Int×Value):(SetTable.insertAt es p x).map (·.1)=SetTable.insertAt (es.map (·.1)) p x.1:=by
 unfold SetTable.insertAt;simp
theorem oj(es:Array (Int×Value))(order:Array Nat):(order.filterMap (es[·]?)).map (·.1)=order.filterMap ((es.map (·.1))[·]?):=by
 apply Array.ext';rw[qF,uT,uT,List.map_filterMap];congr 1;funext i;rw[Array.getElem?_map]
theorem AD(hS:j5 s.heap S hs t)(hg:t.gaveWay=false)(hp:t.probe (NW hs) h (t.probeStart h)=some (.empty j none))(q:Q (.free j false) s):
  wpAny (model prog w) A (setSearch S x h true) Q E s:=by
 obtain⟨o,es,ep,ho,hc,hdi,hd,hm,hf⟩:=hS;unfold setSearch setSearchFrom;refine aw (vf ho hd hf ?_);dsimp only;rw[hg,if_neg cJ];have QB:t.probe (fun i=>(es[i]?.map (·.1)).getD 0) h (t.probeStart h)=some (.empty j none):=by rw[NX,hm];exact hp
 refine aw (wpAny_pure ?_);erw[QB];exact wpAny_pure q
theorem DJ(ho:s.heap.get? a=some o)(hc:o.cls=.type "tuple")(hd:o.data=.seq #[.int x t,.int y u] n)(q:Q true s):
  wpAny (model prog w) A (hashByValue 8 (.ref a)) Q E s:=by
 have hT:s.TypeIs (.ref a) "tuple":=⟨_,ho,hc⟩
 unfold hashByValue;refine aw (wpAny_specialOf hT PySem.F.slot_tuple_hash.lookup ?_);refine aw (jQ ho hd ?_);refine aw ?_;show wpAny _ _ (forIn #[Value.int x t,Value.int y u] _ _) _ _ s;rw[<-zI];refine wpAny_forIn_list _ (fun l_ r s'=>r.1=none/\s'=s/\∀v∈l_,∃z k,v=Value.int z k) _ ?_ ?_ _ _ ⟨rfl,rfl,fun v hv=>?_⟩
 .rintro v l_ r s' ⟨hr,rfl,sV⟩;obtain⟨z,k,rfl⟩:=sV v cg;refine aw (wpAny_pure ?_);exact wpAny_pure ⟨rfl,rfl,fun u' sX=>sV u' (cp _ sX)⟩
 .rintro⟨r1,r2⟩ s' ⟨hr,rfl,_⟩;have fQ:r1=none:=hr;subst fQ;exact wpAny_pure q
 .rcases bi.mp hv with z|z
  .exact⟨_,_,z⟩
  .rcases bi.mp z with z|z
   .exact⟨_,_,z⟩
   .cases z
theorem B0(hS:j5 s.heap S hs t)(hf:t'.fits yU.size=true)(hz:yU.size<=4096)(q:∀h',Heap.SameBut S s.heap h'->j5 h' S (yU.map (·.1)) t'->Q () { s with heap:=h' }):wpAny (model prog w) A (storeSet S yU t') Q E s:=by
 obtain⟨o,es,ep,ho,hc,hdi,hd,hm,_⟩:=hS;refine wpAny_storeSet_of ho hd (q _ (ng s.heap S (Obj.putSet yU t')) ?_) (a9 hz (by decide));have g:=zH (Obj.putSet yU t') ho (by rw[putSet_of yU t' hd];rfl);rw[putSet_of yU t' hd] at g;exact⟨_,yU,ep+1,g,hc,hdi,rfl,rfl,hf⟩
theorem Jy(hu:A.units<cLine)(hS:j5 s.heap S hs t)(ho:s.heap.get? a=some o)(hc:o.cls=.type "tuple")(hd:o.data=.seq #[.int x tx,.int y ty] n)(og:a≠S)(kW:gg hs t (tupleKeyHash (intKind prog w) [x,y])=some (hs',t'))(q:∀h' tk,Heap.SameBut S s.heap h'->j5 h' S hs' t'->Q true { s with heap:=h',toks:=tk }):wpAny (model prog w) A (setAdd S (.ref a)) Q E s:=by
 have hk:IsTupleKey (intKind prog w) s.heap [x,y] a:=⟨o,_,n,ho,hc,hd,.cons (intKind_is _ _ _ _) (.cons (intKind_is _ _ _ _) .nil)⟩
 unfold setAdd;refine gI (aw (wpAny_pyHash_tuple hu hk ?_));generalize RE:s.toks+([x,y].length+1)=tk;generalize hh:tupleKeyHash (intKind prog w) [x,y]=h at kW |-;have hS0:=hS;obtain⟨ob,es,ep,hb,Xx,hbd,Ix,hm,hf⟩:=hS;unfold setAddHashed setAddHashedIn;refine gI (aw (vf (s:={ s with toks:=tk }) hb Ix hf ?_));dsimp only;have QC:byScan (.ref a) es=false:=by unfold byScan;rfl
 rw[QC,if_neg cJ];unfold gg at kW;cases hg:t.gaveWay with
 |true=>rw[hg,am rfl] at kW;cases kW
 |false=>
  rw[hg,if_neg cJ] at kW;split at kW
  .rename_i j hp;dsimp only at kW;split at kW
   .rename_i VR;rw[gj,u_] at VR;refine aw (AD (s:={ s with toks:=tk }) hS0 hg hp ?_);dsimp only;refine aw (vf (s:={ s with toks:=tk }) hb Ix hf ?_);dsimp only;have byv:∀ {kk:Bool->Sem Bool},wpAny (model prog w) A (kk true) Q E { s with toks:=tk }->wpAny (model prog w) A (if (t.put j).1.plain=true then hashByValue 8 (.ref a) >>= kk else pure true >>= kk) Q E { s with toks:=tk }:=fun {kk} hP=>by
     split
     .exact aw (DJ (s:={ s with toks:=tk }) ho hc hd hP)
     .exact aw (wpAny_pure hP)
    refine byv ?_;simp only[i_];have hsz:(SetTable.insertAt es (t.put j).2 (h,Value.ref a)).size=(SetTable.insertAt hs (t.put j).2 h).size:=by
     rw[<-hm,<-ml es (t.put j).2 (h,Value.ref a),gY]
    refine aw (B0 (s:={ s with toks:=tk }) hS0 (by rw[hsz];exact VR.1) (by rw[hsz];exact VR.2) fun h1 rm S1=>?_);rw[ml,hm] at S1;split at kW
    .rename_i Xy;rw[show (!false&&(t.put j).1.tooFull)=true by rw[Xy];rfl,am rfl];split at kW
     .rename_i t2 order hr;split at kW
      .rename_i hq;rw[gj,gj,u_,fq] at hq;obtain⟨⟨MM,VS⟩,hq3⟩:=hq;cases kW;have hes:es.size=hs.size:=by rw[<-hm,gY]
       refine aw ?_;unfold setRelay;obtain⟨o1,Jz,ep1,g1,g2,g3,g4,g5,g6⟩:=id S1;refine aw (vf (s:={ s with heap:=h1,toks:=tk }) g1 g4 g6 ?_);dsimp only;rw[hes];rw[if_neg (by (have h4:(4096:Nat)<=sizeLine:=by decide);lia)];refine aw ?_;rw[g5,hr];have AE:(order.filterMap (Jz[·]?)).size=Jz.size:=by
        have e1:=congrArg Array.size (oj Jz order);rw[gY,g5] at e1;rw[e1,MM,<-g5,gY]
       refine wpAny_of_eq (show _=(pure (order.filterMap (Jz[·]?),t'):Sem (Array (Int×Value)×SetTable)) from ?_) ?_
       .show (do
         let yU:=order.filterMap (Jz[·]?)
         if yU.size != Jz.size then unsupported "internal:set-table-lost-an-element"
         pure (yU,t'):Sem (Array (Int×Value)×SetTable))=_
        simp[AE]
       dsimp only;have Xz:Jz.size<=4096:=by
        have e1:=congrArg Array.size g5;rw[gY] at e1;rw[e1];exact VR.2
       have hfm:(order.filterMap (Jz[·]?)).size=(order.filterMap ((SetTable.insertAt hs (t.put j).2 h)[·]?)).size:=by
        have e1:=congrArg Array.size (oj Jz order);rw[gY,g5] at e1;exact e1
       refine B0 (s:={ s with heap:=h1,toks:=tk }) S1 (by rw[hfm];exact VS) (by rw[AE];exact Xz) fun h2 pH S2=>?_;rw[oj,g5] at S2;exact wpAny_pure (q h2 tk (rm.trans pH) S2)
      .cases kW
     .cases kW
    .rename_i Xy;cases kW;have XA:(t.put j).1.tooFull=false:=by simpa using Xy
     rw[show (!false&&(t.put j).1.tooFull)=false by rw[XA];rfl,if_neg cJ];exact wpAny_pure (q h1 tk rm S1)
   .cases kW
  .cases kW
end
section
variable {prog:Program} {w:World} {A:Around} {E:Value->Shared->Prop} {s:Shared} {S Ia l:Addr} {R:Result->Shared->Prop}
def jf(h:Heap)(vs:List Value)(ys:List (Int×Int)):Prop:=vs.length=ys.length/\∀i v,vs[i]?=some v->∃a o n t u,v=.ref a/\h.get? a=some o/\o.cls=.type "tuple"/\o.data=.seq #[.int (ys.getD i (0,0)).1 t,.int (ys.getD i (0,0)).2 u] n
theorem jf.keeps(p:jf h vs ys)(k:∀b o,(∃xs n,o.data=.seq xs n)->h.get? b=some o->h'.get? b=some o):jf h' vs ys:=
 ⟨p.1,fun i v e=>let ⟨a,o,n,t,u,e1,e2,c,d⟩:=p.2 i v e;⟨a,o,n,t,u,e1,k a o ⟨_,_,d⟩ e2,c,d⟩⟩
def fA(prog:Program)(w:World)(y:Int×Int):Int:=tupleKeyHash (intKind prog w) [y.1,y.2]
theorem FI(hh:A.handled=none)(hu:A.units+1<cLine)(hlS:l≠S)(hlI:l≠Ia)(XB:S≠Ia):
  ∀ (k i:Nat) (s:Shared) (hs:Array Int) (t:SetTable),vs.length-i=k->i<=vs.length->s.heap.IsListIter Ia l i->s.heap.IsList l vs.toArray->jf s.heap vs ys->j5 s.heap S hs t->
   ((ys.drop i).map (fA prog w)).foldlM (fun q h=>gg q.1 q.2 h) (hs,t)=some (hsN,tN)->
   (∀h' tk,(∀b o,b≠S->b≠Ia->s.heap.get? b=some o->h'.get? b=some o)->j5 h' S hsN tN->R (.ok (.ret .none)) { s with heap:=h',toks:=tk })->
   codeAny (model prog w) A (.builtin "set.update.loop" ⟨[.ref S,.ref Ia],[]⟩) R s:=by
 intro k;induction k with
 |zero=>
  intro i s hs t hk hi EA hl hp hS hf hR;have e:i=vs.length:=by lia
  refine vp EF ?_;rw[Around.under_plainId zc _];show wpAny _ A.in1 (pyNext (.ref Ia) >>= _) _ _ s;refine aw (zE (show A.in1.handled=none from hh) EA hl (by simp;lia) fun h' eb=>?_);show wpAny _ A.in1 (ret Value.none) _ _ _;have hd:ys.drop i=[]:=by rw[List.drop_eq_nil_iff];have:=hp.1;lia
  rw[hd] at hf;cases hf;obtain⟨o,es,ep,q1,q2⟩:=hS;exact wpAny_pure (hR h' s.toks (fun b o hb VT e=>eb b o VT e) ⟨o,es,ep,eb S o XB q1,q2⟩)
 |succ k ih=>
  intro i s hs t hk hi EA hl hp hS hf hR;have eL:i<vs.length:=by lia
  refine vp EF ?_;rw[Around.under_plainId zc _];show wpAny _ A.in1 (pyNext (.ref Ia) >>= _) _ _ s;have hv:vs[i]?=some vs[i]:=cH eL;refine aw (uZ EA hl (x:=vs[i]) (by simpa using hv) fun h1 XC rm=>?_);obtain⟨a,o,n,tx,ty,ea,eo,ec,ed⟩:=hp.2 i _ hv;rw[ea];have neI:∀b ob,(∃xs n,ob.data=.seq xs n)->s.heap.get? b=some ob->b≠Ia:=fun b ob ⟨xs,m,z⟩ e z'=>by
   obtain⟨oi,e1,_,d1⟩:=EA;rw[z',e1] at e;cases e;rw[d1] at z;cases z
  have hp1:jf h1 vs ys:=hp.keeps fun b ob hb e=>(rm.2 b (neI b ob hb e)).trans e;have VU:j5 h1 S hs t:=by
   obtain⟨oS,es,ep,q1,q2⟩:=hS;exact⟨oS,es,ep,(rm.2 S XB).trans q1,q2⟩
  have VW:h1.IsList l vs.toArray:=by
   obtain⟨ol,q1,q2⟩:=hl;exact⟨ol,(rm.2 l hlI).trans q1,q2⟩
  have eo1:h1.get? a=some o:=(rm.2 a (neI a o ⟨_,_,ed⟩ eo)).trans eo;have neS:∀b ob,(∃xs n,ob.data=.seq xs n)->h1.get? b=some ob->b≠S:=fun b ob ⟨xs,m,z⟩ e z'=>by
   obtain⟨oS,es,ep,q1,_,_,q4,_⟩:=VU;rw[z',q1] at e;cases e;rw[q4] at z;cases z
  have EB:i<ys.length:=by have:=hp.1;lia
  have QD:ys.drop i=ys[i]::ys.drop (i+1):=qp EB;have hgy:ys.getD i (0,0)=ys[i]:=by rw[bv,cH EB];rfl
  rw[QD,d7,List.foldlM_cons] at hf;cases kW:gg hs t (fA prog w ys[i]) with
  |none=>rw[kW] at hf;cases hf
  |some q=>
   obtain⟨pF,t2⟩:=q;rw[kW] at hf;have hf2:((ys.drop (i+1)).map (fA prog w)).foldlM (fun q h=>gg q.1 q.2 h) (pF,t2)=some (hsN,tN):=hf;show wpAny _ A.in1 (holding [Value.ref a] (setAdd S (.ref a)) >>= _) _ _ _;refine aw (gI (Jy (s:={ s with heap:=h1 }) (by show A.units+1<cLine;exact hu) VU eo1 ec ed (neS a o ⟨_,_,ed⟩ eo1) (hs':=pF) (t':=t2) (by rw[hgy];exact kW) fun h2 tk pH S2=>?_));refine wpAny_pure ⟨plainId_quiet zc _,?_⟩;refine ih (i+1) { s with heap:=h2,toks:=tk } pF t2 (by lia) eL ?_ ?_ (hp1.keeps fun b ob hb e=>(pH.2 b (neS b ob hb e)).trans e) S2 hf2 fun h3 XD k3 S3=>?_
   .obtain⟨oi,q1,q2⟩:=XC;exact⟨oi,(pH.2 Ia (iF XB)).trans q1,q2⟩
   .obtain⟨ol,q1,q2⟩:=VW;exact⟨ol,(pH.2 l hlS).trans q1,q2⟩
   .exact hR h3 XD (fun b ob hb VT e=>k3 b ob hb VT ((pH.2 b hb).trans ((rm.2 b VT).trans e))) S3
theorem FJ{vs:List Value}{ys:List (Int×Int)}{hsN:Bool->Array Int}{tN:Bool->SetTable}{Q:Value->Shared->Prop}(hh:A.handled=none)(hu:A.units+8<cLine)(hl:s.heap.IsList l vs.toArray)(hp:jf s.heap vs ys)(DK:∀led,vP led (ys.map (fA prog w))=some (hsN led,tN led))(h:∀ (led:Bool) (h':Heap) (tk:Nat),j5 h' s.heap.objs.size (hsN led) (tN led)->(∀b o,b<s.heap.objs.size->s.heap.get? b=some o->h'.get? b=some o)->Q (.ref s.heap.objs.size) { s with heap:=h',toks:=tk }):
  wpAny (model prog w) A (call (.type "set") [.ref l]) Q E s:=by
 obtain⟨c,tl,ab0⟩:=jL.mro;have c1:=jL.made;have c2:=jL.sub;refine jU (codeAny_of_tree ?_);show wpAny _ _ (callAny (.type "set") _) _ _ _;refine wpAny_pure ⟨Code.quiet_builtin _ (by decide +kernel),vp PySem.F.entry_type_call ?_⟩;rw[Around.under_plain (weight_type_call_type "set" [.ref l] []) rfl];have c3:=jL.notType;have c4:=jL.canCreate;have c5:=PySem.F.typeCall_set_1 (.ref l);repeat (any_goals (first|assumption|wp_step))
 refine lx (code_set_new_1 (.ref l) (E:=E) (Q₁:=fun obj s₁=>∃led:Bool,obj=.ref s.heap.objs.size/\s₁={ s with heap:=s.heap.push { cls:=.type "set",dict:=none,data:=.set #[] 0 (.fresh 0 0 led) } }) fun led=>⟨led,rfl,rfl⟩) fun r s₁ hr=>?_;cases r with
 |error e=>exact hr
 |ok fl=>
  cases fl with
  |next=>exact hr.elim
  |brk=>exact hr.elim
  |cont=>exact hr.elim
  |ret obj=>
   obtain⟨led,rfl,rfl⟩:=hr;generalize XE:s.heap.push { cls:=.type "set",dict:=none,data:=.set #[] 0 (.fresh 0 0 led) }=hS;have hsz:hS.objs.size=s.heap.objs.size+1:=by rw[<-XE,gx]
   have gS:hS.get? s.heap.objs.size=some { cls:=.type "set",dict:=none,data:=.set #[] 0 (.fresh 0 0 led) }:=by rw[<-XE];exact cL _ rfl
   have up:∀b o,s.heap.get? b=some o->hS.get? b=some o:=fun b o e=>by rw[<-XE];exact b9 _ e
   have hT:Shared.TypeIs { s with heap:=hS } (.ref s.heap.objs.size) "set":=⟨_,gS,rfl⟩
   have c6:=jL.init.lookup;have c7:=jL.init.bind (.ref s.heap.objs.size);repeat (any_goals (first|assumption|wp_step))
   refine lx (u8 (R:=wants (fun r s₂=>r=.none/\∃h' tk,s₂={ s with heap:=h',toks:=tk }/\j5 h' s.heap.objs.size (hsN led) (tN led)/\
     (∀b o,b<s.heap.objs.size->s.heap.get? b=some o->h'.get? b=some o)) E) jL.init.plain PySem.F.entry_set_init (check_set_init_1 hT ?_)) fun r₂ s₂ R5=>?_
   .obtain⟨ol,MN,MJ,nl,hdl⟩:=hl;obtain⟨ab1,abV,abW,XF⟩:=ol;simp only at MJ hdl;subst MJ;subst hdl;have XG:=up _ _ MN;have c8:=PySem.F.sub_list_set;have c9:=PySem.F.sub_list_frozenset;have c10:(Value.type "list"==Value.type "dict")=false:=by decide
    have VW:hS.IsList l vs.toArray:=⟨_,XG,rfl,nl,rfl⟩
    unfold Builtin.«set.__init__» noKeywords Builtin.Frozenset.updateFrom;generalize hPI:pyIter=PI
    wp_walk
    subst hPI;refine qG VW ?_;refine aw (wpAny_runValue ?_);have eL:l<s.heap.objs.size:=a8 MN;refine FI (l:=l) (vs:=vs) (ys:=ys) (hsN:=hsN led) (tN:=tN led) (by simp[hh]) (by simp;lia) (aW eL) (by rw[hsz];exact aW (cX eL)) (by rw[hsz];exact aW (k9 _))
     (vs.length-0) 0 _ #[] (.fresh 0 0 led) rfl (cu _) ⟨_,cL _ rfl,rfl,rfl⟩ (VW.push _) (hp.keeps fun b o _ e=>b9 _ (up b o e)) ⟨_,#[],0,b9 _ gS,rfl,⟨rfl,rfl⟩,rfl,by simp,rfl⟩ (DK led) fun h' tk k S'=>?_
    show wpAny _ _ _ _ _ _;refine wpAny_pure ?_;show wpAny _ _ (ret Value.none) _ _ _;refine wpAny_pure ⟨rfl,h',tk,rfl,S',fun b o hb e=>?_⟩;exact k b o (aW hb) (by rw[hsz];exact aW (cX hb)) (b9 _ (up b o e))
   .cases r₂ with
    |error e=>exact R5
    |ok fl₂=>
     cases fl₂ with
     |next=>exact R5.elim
     |brk=>exact R5.elim
     |cont=>exact R5.elim
     |ret r=>
      obtain⟨rfl,h',tk,rfl,S',k⟩:=R5;repeat (any_goals (first|assumption|wp_step))
      exact h led h' tk S' k
end
open PySem
def FK(l:List Nat):Nat:=l.foldl (fun a x=>a ||| (1 <<< x)) 0
theorem DL(l:List Nat)(a j:Nat):(l.foldl (fun a x=>a ||| (1 <<< x)) a).testBit j=(a.testBit j||l.contains j):=by
 induction l generalizing a with
 |nil=>simp
 |cons x xs ih=>
  rw[iz,ih,Nat.testBit_or,List.contains_cons];have:(1 <<< x).testBit j=(j==x):=by
   rw[Nat.one_shiftLeft,Nat.testBit_two_pow];by_cases h:x=j
   .simp[h]
   .have h':¬ j=x:=fun e=>h e.symm;simp[h,h']
  rw[this,Bool.or_assoc]
theorem pc(h:FK l=2 ^ n-1)(hj:j<n):j∈l:=by
 have e:=DL l 0 j;have h':l.foldl (fun a x=>a ||| (1 <<< x)) 0=2 ^ n-1:=h;rw[h',Nat.testBit_two_pow_sub_one] at e;simp[hj] at e;exact e
def FL(M:Nat):Nat->Nat->Nat
 |0,i=>i
 |n+1,i=>FL M n ((i*5+1) % M)
theorem p_(M a:Nat):∀b i,FL M (b+a) i=FL M a (FL M b i)
 |0,i=>by rw[qL];rfl
 |b+1,i=>by
  rw[show b+1+a=(b+a)+1 by lia];show FL M (b+a) _=FL M a (FL M b _);exact p_ M a b _
def NY(M:Nat):Nat->Nat->List Nat
 |0,_=>[]
 |n+1,i=>i::NY M n ((i*5+1) % M)
theorem rp:∀ {n i},j∈NY M n i->∃k,k<n/\FL M k i=j
 |0,_,h=>by cases h
 |n+1,i,h=>by
  rcases bi.mp h with z|z
  .exact⟨0,by lia,z.symm⟩
  .obtain⟨k,a,b⟩:=rp z;exact⟨k+1,by lia,b⟩
structure DM(M:Nat):Prop where
 all:FK (NY M M 0)=2 ^ M-1
 back:FL M M 0=0
theorem XH:DM 8:=⟨by decide +kernel,by decide +kernel⟩
theorem MP:DM 32:=⟨by decide +kernel,by decide +kernel⟩
theorem FM:DM 128:=⟨by decide +kernel,by decide +kernel⟩
theorem FO:DM 512:=⟨by decide +kernel,by decide +kernel⟩
theorem DM.cover(R:DM M)(hi:i<M)(hj:j<M):∃n,n<M/\FL M n i=j:=by
 obtain⟨a,ha,ea⟩:=rp (pc R.all hi);obtain⟨b,hb,eb⟩:=rp (pc R.all hj);by_cases h:a<=b
 .refine⟨b-a,by lia,?_⟩;rw[<-ea,<-p_,show a+(b-a)=b by lia,eb]
 .refine⟨M+b-a,by lia,?_⟩;rw[<-ea,<-p_,show a+(M+b-a)=M+b by lia,p_,R.back,eb]
def gL(mask:Nat):Nat->Nat×Nat->Nat×Nat
 |0,q=>q
 |n+1,q=>gL mask n (SetTable.leap mask q.1 q.2)
theorem t_(m a:Nat):∀b q,gL m (b+a) q=gL m a (gL m b q)
 |0,q=>by rw[qL];rfl
 |b+1,q=>by
  rw[show b+1+a=(b+a)+1 by lia];exact t_ m a b _
theorem xN:∀ {n:Nat} {q:Nat×Nat},q.1<m+1->(gL m n q).1<m+1
 |0,_,h=>h
 |n+1,q,h=>xN (n:=n) (qS _ (Nat.succ_pos _))
theorem B1:∀ {n:Nat} {q:Nat×Nat},(gL m n q).2=q.2 / 32 ^ n
 |0,_=>by simp[gL]
 |n+1,q=>by
  show (gL m n _).2=_;rw[B1];show q.2 / 32 / 32 ^ n=_;rw[zk,Nat.pow_succ,vt]
theorem ua:∀ {n i:Nat},gL m n (i,0)=(FL (m+1) n i,0)
 |0,_=>rfl
 |n+1,i=>by
  show gL m n (SetTable.leap m i 0)=_;unfold SetTable.leap;simp only[Nat.zero_div,Nat.add_zero];exact ua
theorem pe(R:DM (m+1))(hi:i<m+1)(hp:p<2 ^ 64)(hj:j<m+1):∃n,n<m+14/\(gL m n (i,p)).1=j:=by
 have h1:=xN (m:=m) (n:=13) (q:=(i,p)) hi;have h2:(gL m 13 (i,p)).2=0:=by
  rw[B1];exact Nat.div_eq_of_lt (b_ hp (by decide))
 obtain⟨n,hn,e⟩:=R.cover h1 hj;refine⟨13+n,by lia,?_⟩;rw[t_];have:gL m 13 (i,p)=((gL m 13 (i,p)).1,0):=dY rfl h2;rw[this,ua];exact e
theorem B3(h:Int):SetTable.bits h<2 ^ 64:=by
 unfold SetTable.bits;have a:=i7 h (show (2 ^ 64:Int)≠0 by decide);have b:=l5 h (show (0:Int)<2 ^ 64 by decide);lia
theorem R6{M:Nat}{l:List Nat}(h:l.length<M):∃j,j<M/\j∉l:=by
 have key:∀ (a b:List Nat),a.Nodup->(∀x∈a,x∈b)->a.length<=b.length:=by
  intro a;induction a with
  |nil=>intro b _ _;exact cu _
  |cons x xs ih=>
   intro b hn hs;obtain⟨h1,h2⟩:=eG.mp hn;have hx:x∈b:=hs x cg;have:=ih (b.erase x) h2 fun y hy=>(u5 (fun (e:y=x)=>h1 (e ▸ hy))).mpr (hs y (cp _ hy));rw[zf hx] at this;have:0<b.length:=uR hx;rw[dR];lia
 apply qq;intro JA;have:=key (List.range M) l iy fun x hx=>qq fun DN=>JA ⟨x,bK.mp hx,DN⟩;rw[dq] at this;lia
def AF(mask i p:Nat):SetTable.Probe:={ j:=i,more:=SetTable.runEnd mask i-i,i:=i,perturb:=p,dummy:=none }
theorem NZ(mask i:Nat):SetTable.runEnd mask i-i<=9:=by unfold SetTable.runEnd;split <;> lia
theorem vQ{t:SetTable}(hd:t.dummies=#[])(j:Nat):t.slot j=.empty\/∃i,t.slot j=.live i/\t.place[i]?=some j:=by
 unfold SetTable.slot;dsimp only;split
 .rename_i h;exact .inr ⟨_,rfl,by simpa using h⟩
 .left;rw[hd];rfl
theorem AG{t:SetTable}(hd:t.dummies=#[]){j:Nat}(h:j∉t.place.toList):t.slot j=.empty:=by
 rcases vQ hd j with e|⟨i,_,e2⟩
 .exact e
 .exact absurd (by rw[<-mZ] at e2;exact cI e2) h
section
variable {t:SetTable} {hashAt:Nat->Int} {h:Int}
theorem FP(hd:t.dummies=#[])(hh:∀i,i<t.place.size->hashAt i≠h)(i p:Nat):∀ (r:Nat) (j gv:Nat),
  (∃j',SetTable.probe.go t hashAt h (gv+r+1) { j:=j,more:=r,i:=i,perturb:=p,dummy:=none }=some (.empty j' none))\/
  SetTable.probe.go t hashAt h (gv+r+1) { j:=j,more:=r,i:=i,perturb:=p,dummy:=none }=SetTable.probe.go t hashAt h gv (AF t.mask (SetTable.leap t.mask i p).1 (SetTable.leap t.mask i p).2)
 |0,j,gv=>by
  rcases vQ hd j with e|⟨k,e,e2⟩
  .exact .inl ⟨j,by unfold SetTable.probe.go;rw[e]⟩
  .right;have hk:k<t.place.size:=(EO.mp e2).1;conv=>lhs;unfold SetTable.probe.go
   rw[e];simp only[fq,hh k hk,eT];rfl
 |r+1,j,gv=>by
  rcases vQ hd j with e|⟨k,e,e2⟩
  .exact .inl ⟨j,by rw[show gv+(r+1)+1=(gv+r+1)+1 by lia];unfold SetTable.probe.go;rw[e]⟩
  .have hk:k<t.place.size:=(EO.mp e2).1;have st:SetTable.probe.go t hashAt h (gv+(r+1)+1) { j:=j,more:=r+1,i:=i,perturb:=p,dummy:=none }=SetTable.probe.go t hashAt h (gv+r+1) { j:=j+1,more:=r,i:=i,perturb:=p,dummy:=none }:=by
    rw[show gv+(r+1)+1=(gv+r+1)+1 by lia];conv=>lhs;unfold SetTable.probe.go
    rw[e];simp only[fq,hh k hk,eT];rfl
   rw[st];exact FP hd hh i p r (j+1) gv
theorem B4(hd:t.dummies=#[])(hh:∀i,i<t.place.size->hashAt i≠h):∀ (m:Nat) (i p gv:Nat),10*(m+1)<=gv->t.slot (gL t.mask m (i,p)).1=.empty->
  ∃j',SetTable.probe.go t hashAt h gv (AF t.mask i p)=some (.empty j' none)
 |0,i,p,gv,hf,e=>by
  obtain⟨f,rfl⟩:∃f,gv=f+1:=⟨gv-1,by lia⟩
  refine⟨i,?_⟩;have e':t.slot i=.empty:=e;unfold SetTable.probe.go AF;dsimp only;rw[e']
 |m+1,i,p,gv,hf,e=>by
  have hr:=NZ t.mask i;obtain⟨f,vR⟩:∃f,gv=f+(SetTable.runEnd t.mask i-i)+1:=⟨gv-(SetTable.runEnd t.mask i-i)-1,by lia⟩
  rcases FP (hashAt:=hashAt) (h:=h) hd hh i p (SetTable.runEnd t.mask i-i) i f with z|z
  .rw[vR];exact z
  .rw[vR];show ∃j',SetTable.probe.go t hashAt h _ { j:=i,more:=_,i:=i,perturb:=p,dummy:=none }=_;rw[z];exact B4 hd hh m _ _ f (by lia) e
theorem AH(R:DM (t.mask+1))(hd:t.dummies=#[])(hs:t.place.size<=t.mask)(hh:∀i,i<t.place.size->hashAt i≠h):∃j,t.probe hashAt h (t.probeStart h)=some (.empty j none):=by
 obtain⟨j,hj,hn⟩:=R6 (M:=t.mask+1) (l:=t.place.toList) (by simpa using Nat.lt_succ_of_le hs);obtain⟨m,hm,e⟩:=pe R (qS (SetTable.bits h) (Nat.succ_pos t.mask)) (B3 h) hj;refine B4 hd hh m _ _ _ ?_ (by rw[e];exact AG hd hn);unfold SetTable.turns;lia
end
theorem FQ{α β:Type}{f:α->Option β}:∀ {l:List α},(∀q∈l,(f q).isSome=true)->(l.filterMap f).length=l.length
 |[],_=>rfl
 |q::l,h=>by
  have hq:=h q cg;cases e:f q with
  |none=>rw[e] at hq;cases hq
  |some b=>rw[EU e,dR,dR,FQ fun x hx=>h x (cp _ hx)]
theorem ub:∀ (m gv i p:Nat),m<gv->owner.getD (gL mask m (i,p)).1 (some 0)=none->∃j,SetTable.layClean.free mask owner gv i p=some j/\owner.getD j (some 0)=none
 |m,0,_,_,h,_=>by lia
 |m,gv+1,i,p,h,e=>by
  unfold SetTable.layClean.free;cases hf:(List.range (SetTable.runEnd mask i+1-i)).find? fun k=>(owner.getD (i+k) (some 0)).isNone with
  |some k=>
   refine⟨i+k,rfl,?_⟩;have:=z6 hf;simpa using this
  |none=>
   cases m with
   |zero=>
    have h0:(0:Nat)∈List.range (SetTable.runEnd mask i+1-i):=bK.mpr (by unfold SetTable.runEnd;split <;> lia);have:=List.find?_eq_none.mp hf 0 h0;have e':owner.getD i (some 0)=none:=e;rw[Nat.add_zero,e'] at this;exact absurd rfl this
   |succ m=>
    exact ub m gv _ _ (by lia) e
structure xO(M:Nat)(owner:Array (Option Nat))(k:Nat):Prop where
 size:owner.size=M
 cnt:owner.toList.countP Option.isSome=k
 lt:∀x,some x∈owner.toList->x<k
theorem AI{l:List (Option Nat)}{j:Nat}{x:Nat}(hj:l[j]?=some none):(l.set j (some x)).countP Option.isSome=l.countP Option.isSome+1:=by
 induction l generalizing j with
 |nil=>cases hj
 |cons a l ih=>
  cases j with
  |zero=>
   obtain rfl:a=none:=by simpa using hj
   simp
  |succ j=>
   rw[List.set_cons_succ,nu,nu,ih (by simpa using hj)];lia
theorem xO.one{mask:Nat}{owner:Array (Option Nat)}{k:Nat}(L:xO (mask+1) owner k)(R:DM (mask+1))(hk:k<mask+1)(h:Int):
  ∃j,SetTable.layClean.free mask owner (SetTable.turns mask) (SetTable.bits h % (mask+1)) (SetTable.bits h)=some j/\xO (mask+1) (owner.setIfInBounds j (some k)) (k+1):=by
 have JA:∃j,j<mask+1/\owner.toList[j]?=some none:=by
  apply qq;intro JA;have sV:∀x∈owner.toList,x.isSome=true:=by
   intro x hx;obtain⟨j,hj,e⟩:=qy.mp hx;cases x with
   |some _=>rfl
   |none=>
    refine absurd ⟨j,?_,?_⟩ JA
    .rw[<-L.size];simpa using hj
    .rw[cH hj,e]
  have:=List.countP_eq_length.mpr sV;rw[L.cnt,lZ,L.size] at this;lia
 obtain⟨j0,hj0,e0⟩:=JA;obtain⟨m,hm,em⟩:=pe R (qS (SetTable.bits h) (Nat.succ_pos mask)) (B3 h) hj0;obtain⟨j,ej,en⟩:=ub (mask:=mask) (owner:=owner) m (SetTable.turns mask) (SetTable.bits h % (mask+1)) (SetTable.bits h) (by unfold SetTable.turns;lia)
  (by rw[em,uO,<-mZ,e0];rfl)
 refine⟨j,ej,?_⟩;have hjn:owner.toList[j]?=some none:=by
  rw[uO,<-mZ] at en;cases hq:owner.toList[j]? with
  |none=>rw[hq] at en;cases en
  |some v=>rw[hq] at en;rw[show v=none from en]
 have R7:(owner.setIfInBounds j (some k)).toList=owner.toList.set j (some k):=by simp
 refine⟨by simp[L.size],by rw[R7,AI hjn,L.cnt],fun x hx=>?_⟩;rw[R7] at hx;rcases List.mem_or_eq_of_mem_set hx with z|z
 .exact cX (L.lt x z)
 .cases z;exact k9 _
theorem B5(R:DM (mask+1)):∀ (l:List Int) (owner:Array (Option Nat)) (k:Nat),xO (mask+1) owner k->k+l.length<=mask->
  ∃FS,l.foldl (fun d5 h=>do
   let (owner,k) <- d5
   let j <- SetTable.layClean.free mask owner (SetTable.turns mask) (SetTable.bits h % (mask+1)) (SetTable.bits h)
   pure (owner.setIfInBounds j (some k),k+1)) (some (owner,k))=some (FS,k+l.length)/\xO (mask+1) FS (k+l.length)
 |[],owner,k,L,_=>⟨owner,rfl,L⟩
 |h::l,owner,k,L,hl=>by
  rw[dR] at hl;obtain⟨j,ej,L'⟩:=L.one R (by lia) h;obtain⟨o',e,L2⟩:=B5 R l _ _ L' (by lia);refine⟨o',?_,by rw[dR,show k+(l.length+1)=k+1+l.length by lia];exact L2⟩;rw[iz];have:(do
   let (owner,k) <- some (owner,k)
   let j <- SetTable.layClean.free mask owner (SetTable.turns mask) (SetTable.bits h % (mask+1)) (SetTable.bits h)
   pure (owner.setIfInBounds j (some k),k+1):Option (Array (Option Nat)×Nat))=some (owner.setIfInBounds j (some k),k+1):=by
   show (SetTable.layClean.free mask owner (SetTable.turns mask) (SetTable.bits h % (mask+1)) (SetTable.bits h)).bind _=_;rw[ej];rfl
  rw[this,e,dR,show k+(l.length+1)=k+1+l.length by lia]
theorem xP(R:DM (mask+1))(hs:Array Int)(h:hs.size<=mask):∃owner,SetTable.layClean mask hs=some owner/\xO (mask+1) owner hs.size:=by
 have L0:xO (mask+1) (Array.replicate (mask+1) none) 0:=⟨by simp,by simp[List.countP_replicate],fun x hx=>by simp at hx⟩
 obtain⟨o,e,L⟩:=B5 R hs.toList _ 0 L0 (by simpa using h);refine⟨o,?_,by simpa using L⟩;unfold SetTable.layClean;rw[<-Array.foldl_toList];have e':=congrArg (Option.map (·.1)) e;exact e'
theorem AJ(L:xO M owner n):
  ((List.range M).filterMap fun j=>(owner.getD j none).map (j,·)).length=n/\∀q∈(List.range M).filterMap (fun j=>(owner.getD j none).map (j,·)),q.2<n:=by
 constructor
 .rw[<-L.cnt];have e:owner.toList=(List.range M).map fun j=>owner.getD j none:=by
   apply z0
   .simp[L.size]
   .intro i h1 h2;simp only[vd,zF,Array.getElem_toList];rw[uO,ze (by simpa using h1)];rfl
  conv=>rhs;rw[e]
  rw[z8];generalize List.range M=l;induction l with
  |nil=>rfl
  |cons a l ih=>
   rw[nu,<-ih];cases hq:owner.getD a none with
   |none=>rw[List.filterMap_cons_none (by rw[hq];rfl),show (Option.isSome ∘ fun j=>owner.getD j none) a=false by show (owner.getD a none).isSome=false;rw[hq];rfl];simp
   |some x=>rw[EU (b:=(a,x)) (by rw[hq];rfl),show (Option.isSome ∘ fun j=>owner.getD j none) a=true by show (owner.getD a none).isSome=true;rw[hq];rfl];simp
 .intro q hq;obtain⟨j,_,e⟩:=m_.mp hq;cases hx:owner.getD j none with
  |none=>rw[hx] at e;cases e
  |some x=>
   rw[hx] at e;cases e;refine L.lt x ?_;rw[uO,<-mZ] at hx;cases hy:owner.toList[j]? with
   |none=>rw[hy] at hx;cases hx
   |some v=>rw[hy] at hx;obtain rfl:v=some x:=hx;exact cI hy
structure xQ(hs:Array Int)(t:SetTable):Prop where
 dm:t.dummies=#[]
 sz:t.place.size=hs.size
 ms:(t.mask=7/\hs.size<=4)\/(t.mask=31/\hs.size<=18)\/(t.mask=127/\hs.size<=76)\/(t.mask=511/\hs.size<=306)
theorem xQ.rnd(T:xQ hs t):DM (t.mask+1):=by
 rcases T.ms with ⟨e,_⟩|⟨e,_⟩|⟨e,_⟩|⟨e,_⟩ <;> rw[e]
 .exact XH
 .exact MP
 .exact FM
 .exact FO
theorem lc(xs:Array α)(p:Nat)(x:α):(SetTable.insertAt xs p x).size=xs.size+1:=by
 unfold SetTable.insertAt;simp;lia
theorem mm(h:y∈(SetTable.insertAt xs p x).toList):y=x\/y∈xs.toList:=by
 unfold SetTable.insertAt at h;rw[eX,nq,zw,zw] at h;rcases bY.mp h with z|z
 .rcases bY.mp z with z|z
  .right;rw[List.extract_eq_drop_take] at z;exact u4 (jK z)
  .left;simpa using z
 .right;rw[List.extract_eq_drop_take] at z;exact u4 (jK z)
theorem AK{hs:Array Int}{t:SetTable}{h:Int}(T:xQ hs t)(hn:h∉hs.toList)(hl:hs.size<300):∃hs' t',gg hs t h=some (hs',t')/\xQ hs' t'/\hs'.size=hs.size+1/\∀x∈hs'.toList,x=h\/x∈hs.toList:=by
 have Xz:t.place.size<=t.mask:=by rw[T.sz];rcases T.ms with ⟨e,z⟩|⟨e,z⟩|⟨e,z⟩|⟨e,z⟩ <;> lia
 have hh:∀i,i<t.place.size->NW hs i≠h:=by
  intro i hi e;rw[T.sz] at hi;unfold NW at e;rw[ze hi] at e;exact hn (by rw[<-e];simp)
 obtain⟨j,hp⟩:=AH (hashAt:=NW hs) (h:=h) T.rnd T.dm Xz hh;have hg:t.gaveWay=false:=by
  unfold SetTable.gaveWay;rcases T.ms with ⟨e,_⟩|⟨e,_⟩|⟨e,_⟩|⟨e,_⟩ <;> rw[e] <;> rfl
 have q1:(t.put j).1.place=SetTable.insertAt t.place (SetTable.below t.place j) j:=rfl;have q2:(t.put j).1.dummies=#[]:=by
  show (if SetTable.has t.dummies j=true then _ else t.dummies)=_;rw[T.dm];rfl
 have q3:(t.put j).1.mask=t.mask:=rfl;have s1:(SetTable.insertAt hs (t.put j).2 h).size=hs.size+1:=lc _ _ _;have s2:(t.put j).1.place.size=hs.size+1:=by rw[q1,lc,T.sz]
 have fl:(t.put j).1.fill=hs.size+1:=by unfold SetTable.fill;rw[s2,q2];rfl
 have fit:(t.put j).1.fits (SetTable.insertAt hs (t.put j).2 h).size=true:=by
  unfold SetTable.fits;rw[s1,s2,fl,q3];simp;rcases T.ms with ⟨e,z⟩|⟨e,z⟩|⟨e,z⟩|⟨e,z⟩ <;> lia
 unfold gg;rw[hg,if_neg cJ,hp];dsimp only;rw[am (by rw[fit,s1];simp;lia)];by_cases hf:(t.put j).1.tooFull=true
 .rw[am hf];have vR:=hf;unfold SetTable.tooFull at vR;rw[fl,q3] at vR;have hf2:(hs.size+1)*5>=t.mask*3:=by simpa using vR
  have gr:SetTable.grown (hs.size+1)=(hs.size+1)*4:=by unfold SetTable.grown;rw[if_neg (by lia)]
  obtain⟨m2,em2,XI,R2⟩:∃m2,SetTable.sizeAbove (SetTable.grown (hs.size+1))=m2+1/\((m2=31/\hs.size+1<=18)\/(m2=127/\hs.size+1<=76)\/(m2=511/\hs.size+1<=306))/\DM (m2+1):=by
   rw[gr];rcases T.ms with ⟨e,z⟩|⟨e,z⟩|⟨e,z⟩|⟨e,z⟩
   .have:hs.size=4:=by lia
    exact⟨31,by rw[this];rfl,.inl ⟨rfl,by lia⟩,MP⟩
   .have:hs.size=18:=by lia
    exact⟨127,by rw[this];rfl,.inr (.inl ⟨rfl,by lia⟩),FM⟩
   .have:hs.size=76:=by lia
    exact⟨511,by rw[this];rfl,.inr (.inr ⟨rfl,by lia⟩),FO⟩
   .lia
  have hm3:(SetTable.insertAt hs (t.put j).2 h).size<=m2:=by rw[s1];rcases XI with ⟨e,z⟩|⟨e,z⟩|⟨e,z⟩ <;> lia
  obtain⟨owner,eo,L⟩:=xP R2 (SetTable.insertAt hs (t.put j).2 h) hm3;obtain⟨R8,XJ⟩:=AJ L;rw[s1] at R8 XJ;generalize R9:(List.range (m2+1)).filterMap (fun j=>(owner.getD j none).map (j,·))=live at R8 XJ;have er:(t.put j).1.relaid (SetTable.insertAt hs (t.put j).2 h) (SetTable.grown (hs.size+1))=some ({ mask:=m2,place:=(live.map (·.1)).toArray,dummies:=#[],finger:=(t.put j).1.finger,led:=(t.put j).1.led,moves:=(t.put j).1.movedTo m2,plain:=(t.put j).1.plain },(live.map (·.2)).toArray):=by
   unfold SetTable.relaid SetTable.laid;rw[em2];simp only[Nat.add_sub_cancel];rw[eo];show some _=some _;rw[<-R9]
  rw[er];dsimp only;have AE:((live.map (·.2)).toArray.filterMap ((SetTable.insertAt hs (t.put j).2 h)[·]?)).size=hs.size+1:=by
   rw[<-lZ,uT];show ((live.map (·.2)).filterMap _).length=_;rw[<-R8,List.filterMap_map];refine FQ fun q hq=>?_;show ((SetTable.insertAt hs (t.put j).2 h)[q.2]?).isSome=true;rw[ze (by rw[s1];exact XJ q hq)];rfl
  have emf:∀x,({ mask:=m2,place:=(live.map (·.1)).toArray,dummies:=#[],finger:=(t.put j).1.finger,led:=(t.put j).1.led,moves:=(t.put j).1.movedTo m2,plain:=(t.put j).1.plain }:SetTable).fits x=(decide (hs.size+1=x)&&decide (hs.size+1<=m2)):=by
   intro x;unfold SetTable.fits SetTable.fill;simp[R8];rw[iA];simp
  rw[am (by
   rw[AE,s1,emf,em2];have:hs.size+1<=m2:=by rw[<-s1];exact hm3
   simp[this];rcases XI with ⟨e,z⟩|⟨e,z⟩|⟨e,z⟩ <;> lia)]
  refine⟨_,_,rfl,⟨rfl,?_,?_⟩,AE,fun x hx=>?_⟩
  .rw[AE];simp[R8]
  .rw[AE];exact .inr XI
  .rw[uT] at hx;obtain⟨k,_,ek⟩:=m_.mp hx;refine mm (p:=(t.put j).2) ?_;rw[<-mZ] at ek;exact cI ek
 .rw[if_neg hf];refine⟨_,_,rfl,⟨q2,by rw[s2,s1],?_⟩,s1,fun x hx=>mm hx⟩;have vR:¬ (hs.size+1)*5>=t.mask*3:=by
   intro z;refine hf ?_;unfold SetTable.tooFull;rw[fl,q3];simpa using z
  rw[s1,q3];rcases T.ms with ⟨e,z⟩|⟨e,z⟩|⟨e,z⟩|⟨e,z⟩ <;> lia
theorem pf:∀ (l:List Int) (hs:Array Int) (t:SetTable),xQ hs t->(∀x∈l,x∉hs.toList)->l.Nodup->hs.size+l.length<=300->∃hs' t',l.foldlM (fun q h=>gg q.1 q.2 h) (hs,t)=some (hs',t')/\hs'.size=hs.size+l.length
 |[],hs,t,_,_,_,_=>⟨hs,t,rfl,rfl⟩
 |h::l,hs,t,T,hn,nd,hl=>by
  rw[dR] at hl;obtain⟨n1,n2⟩:=eG.mp nd;obtain⟨DI,t1,e1,T1,z1,m1⟩:=AK T (hn h cg) (by lia);obtain⟨pF,t2,e2,z2⟩:=pf l DI t1 T1 (fun x hx hy=>by
   rcases m1 x hy with e|e
   .exact n1 (e ▸ hx)
   .exact hn x (cp _ hx) e) n2 (by lia)
  refine⟨pF,t2,?_,by rw[z2,z1,dR];lia⟩;rw[List.foldlM_cons];show (gg hs t h).bind _=_;rw[e1];exact e2
theorem DO(led:Bool)(nd:l.Nodup)(hl:l.length<=300):∃hs t,vP led l=some (hs,t)/\hs.size=l.length:=by
 obtain⟨hs,t,e,z⟩:=pf l #[] (SetTable.fresh 0 0 led) ⟨rfl,rfl,.inl ⟨rfl,by decide⟩⟩ (fun x _ h=>by simp at h) nd (by simpa using hl);exact⟨hs,t,e,by simpa using z⟩
def B6:List Nat->Nat->Bool
 |[],_=>true
 |x::xs,d5=>bif Nat.testBit d5 x then false else B6 xs (d5 ||| (1 <<< x))
theorem xR:∀ (l:List Nat) (d5:Nat),B6 l d5=true->l.Nodup/\∀x∈l,d5.testBit x=false
 |[],_,_=>⟨i8,fun x h=>(nomatch h)⟩
 |x::xs,d5,h=>by
  unfold B6 at h;cases hb:d5.testBit x with
  |true=>rw[hb] at h;cases h
  |false=>
   rw[hb] at h;obtain⟨nd,hx⟩:=xR xs _ h;have hor:∀y∈xs,d5.testBit y=false/\y≠x:=by
    intro y hy;have:=hx y hy;rw[Nat.testBit_or,Nat.one_shiftLeft,Nat.testBit_two_pow] at this;rw[Bool.or_eq_false_iff] at this;exact⟨this.1,fun e=>by have:=this.2;simp[e] at this⟩
   refine⟨eG.mpr ⟨fun hm=>(hor x hm).2 rfl,nd⟩,fun y hy=>?_⟩;rcases bi.mp hy with z|z
   .rw[z];exact hb
   .exact(hor y z).1
def rq:List (Int×Int):=(List.range 32).flatMap fun a=>(List.range 32).map fun b=>(Int.ofNat a,Int.ofNat b)
def MQ(h:Int):Nat:=(h % 6554).toNat
theorem DP(P:Program)(w:World):B6 (rq.map fun y=>MQ (fA P w y)) 0=true:=by kernel_rfl
theorem B7(h1:0<=y.1/\y.1<32)(h2:0<=y.2/\y.2<32):y∈rq:=by
 unfold rq;refine zY.mpr ⟨y.1.toNat,bK.mpr (by lia),aX.mpr ⟨y.2.toNat,bK.mpr (by lia),dY ?_ ?_⟩⟩
 .show ((y.1.toNat:Nat):Int)=y.1;lia
 .show ((y.2.toNat:Nat):Int)=y.2;lia
theorem lf:∀ {l:List α},(l.map f).Nodup->∀x∈l,∀y∈l,f x=f y->x=y
 |[],_,_,h,_,_,_=>by cases h
 |a::l,h,x,hx,y,hy,e=>by
  rw[d7] at h;obtain⟨h1,h2⟩:=eG.mp h;rcases bi.mp hx with z|z <;> rcases bi.mp hy with z'|z'
  .rw[z,z']
  .exact absurd (aX.mpr ⟨y,z',by rw[<-e,z]⟩) h1
  .exact absurd (aX.mpr ⟨x,z,by rw[e,z']⟩) h1
  .exact lf h2 x z y z' e
theorem vS(hx:(0<=x.1/\x.1<32)/\(0<=x.2/\x.2<32))(hy:(0<=y.1/\y.1<32)/\(0<=y.2/\y.2<32))(e:fA P w x=fA P w y):x=y:=
 lf (xR _ _ (DP P w)).1 x (B7 hx.1 hx.2) y (B7 hy.1 hy.2) (congrArg MQ e)
theorem om:∀ {l:List α},l.Nodup->(∀x∈l,∀y∈l,f x=f y->x=y)->(l.map f).Nodup
 |[],_,_=>i8
 |a::l,h,hf=>by
  obtain⟨h1,h2⟩:=eG.mp h;rw[d7];refine eG.mpr ⟨fun z=>?_,om h2 fun x hx y hy=>hf x (cp _ hx) y (cp _ hy)⟩;obtain⟨y,hy,e⟩:=aX.mp z;have:=hf y (cp _ hy) a cg e;exact h1 (this ▸ hy)
theorem xS{P:Program}{w:World}(led:Bool){ys:List (Int×Int)}(nd:ys.Nodup)(hr:∀y∈ys,(0<=y.1/\y.1<32)/\(0<=y.2/\y.2<32))(hl:ys.length<=300):
  ∃hs t,vP led (ys.map (fA P w))=some (hs,t)/\hs.size=ys.length:=by
 obtain⟨hs,t,e,z⟩:=DO led (om nd fun x hx y hy e=>vS (P:=P) (w:=w) (hr x hx) (hr y hy) e) (by rw[aI];exact hl);exact⟨hs,t,e,by rw[z,aI]⟩
theorem B8:∀ {as:List Addr} {its:List Value},aY (as.map V.ref) its->its=as.map Value.ref
 |[],_,r=>by cases r;rfl
 |a::as,_,r=>by
  cases r with
  |cons r rr=>
   obtain rfl:=(show _=Value.ref a from r)
   rw[B8 rr];rfl
def JB(D:Addr)(n:Nat):HO:=.ext fun h=>∃hs t,j5 h D hs t/\hs.size=n
section
variable {X:Cx}
def R_(K:PySem.W.Frag):List V->Hp->VK->Prop:=fun xs H Q=>∃ (l:Addr) (as:List Addr) (ys:List (Int×Int)),xs=[.ref l]/\aV K H l (as.map V.ref)/\as.length=ys.length/\
 (∀i,i<ys.length->FH K H (as.getD i 0) (ys.getD i (0,0)))/\ys.Nodup/\(∀y∈ys,(0<=y.1/\y.1<32)/\(0<=y.2/\y.2<32))/\ys.length<=300/\∀D,H D=none->Q (.ref D) (upd H D (JB D ys.length))
theorem DQ(hc:X.calm=true)(hu:X.A.units+8<cLine):gm X (.type "set") (R_ X.K):=by
 intro ae s σ H xs us Q I r h;obtain⟨l,as,ys,rfl,hl,d9,hp,nd,rg,h3,q⟩:=h;obtain⟨u1,rfl,r1⟩:=r.one;obtain rfl:u1=Value.ref l:=r1;obtain⟨its,rv,pl,hz⟩:=I.list hl;have e:=B8 rv;subst e;have hpi:jf s.heap (as.map Value.ref) ys:=⟨by rw[aI,d9],fun i v hv=>by
  rw[bX] at hv;cases ea:as[i]? with
  |none=>rw[ea] at hv;cases hv
  |some a=>
   rw[ea] at hv;obtain rfl:Value.ref a=v:=bh hv;have hi:i<as.length:=(dO.mp ea).1;obtain⟨o,n,t,u,e1,c,d⟩:=AC I (hp i (by lia));have eg:as.getD i 0=a:=by rw[bv,ea];rfl
   rw[eg] at e1;exact⟨a,o,n,t,u,rfl,e1,c,d⟩⟩
 have DK:∀led,∃q:Array Int×SetTable,vP led (ys.map (fA X.prog X.w))=some q/\q.1.size=ys.length:=fun led=>
  let ⟨hs,t,e,z⟩:=xS (P:=X.prog) (w:=X.w) led nd rg h3;⟨(hs,t),e,z⟩
 refine FJ (I.ok.hd hc) hu pl.isList hpi (hsN:=fun led=>(DK led).choose.1) (tN:=fun led=>(DK led).choose.2) (fun led=>(DK led).choose_spec.1) fun led h' tk S' k=>?_;refine⟨.ref s.heap.objs.size,_,I.FE (t':=tk) (o:=JB s.heap.objs.size ys.length) (fun b u e=>k b u (a8 e) e) (qA (aT _)) ⟨⟨_,_,S',(DK led).choose_spec.2⟩,?_,fun h1 h2 ⟨hs,t,⟨o,es,ep,q1,q2⟩,z⟩ kk=>⟨hs,t,⟨o,es,ep,kk o q1,q2⟩,z⟩⟩,rfl,q _ I.fresh⟩;obtain⟨o,_,_,q1,_⟩:=S';exact⟨o,q1⟩
theorem xU:gm X (.builtin "len") (fun xs H Q=>∃D n,xs=[.ref D]/\H D=some (JB D n)/\n<=4096/\Q (.int n) H):=by
 intro ae s σ H xs us Q I r h;obtain⟨D,n,rfl,e,hn,q⟩:=h;obtain⟨u1,rfl,r1⟩:=r.one;obtain rfl:u1=Value.ref D:=r1;obtain⟨⟨hs,t,⟨o,es,ep,q1,q2,q3,q4,q5,q6⟩,z⟩,_⟩:=(show cw X.prog X.w H s.heap D (JB D n) from I.bL D _ e)
 have hsz:es.size=n:=by rw[<-z,<-q5,gY]
 exact call_len_set q1 ⟨q2,q3.1,q3.2⟩ q4 q6 (by rw[hsz];lia) ⟨.int n,H,I.tok _,⟨_,by rw[hsz]⟩,q⟩
end
def io(e:V->V->Bool):List V->List V->Bool
 |[],[]=>true
 |x::xs,y::ys=>e x y&&io e xs ys
 |_,_=>false
theorem ip:∀ {xs ys:List V},xs.length=ys.length->io e xs ys=(List.range xs.length).all fun i=>e (xs.getD i .bV) (ys.getD i .bV)
 |[],[],_=>rfl
 |x::xs,y::ys,h=>by
  have h':xs.length=ys.length:=by simpa using h
  rw[io,ip h',dR,qu,jS,List.all_map];rfl
 |[],_::_,h=>by simp at h
 |_::_,[],h=>by simp at h
theorem oo:∀ {xs ys:List V},xs.length≠ys.length->io e xs ys=false
 |[],[],h=>absurd rfl h
 |x::xs,y::ys,h=>by
  have h':xs.length≠ys.length:=fun z=>h (by simp[z]);rw[io,oo h',Bool.and_false]
 |[],_::_,_=>rfl
 |_::_,[],_=>rfl
section
variable {X:Cx}
def Sa(X:Cx)(H:Hp)(e:V->V->Bool)(x y:V):Prop:=∀ (ae:List (Addr×Obj)) (s:Shared) (σ:St) (A:Around) (u v:Value),aM X ae σ H s->A.units+1<cLine->bw x u->bw y v->SeqAt.EqAt A s u v (e x y)
def Sb(X:Cx)(MH:Bool)(e:V->V->Bool):R2:=fun x y H Q=>∃p q xs ys,x=.ref p/\y=.ref q/\aV X.K H p xs/\aV X.K H q ys/\(∀i,i<xs.length->i<ys.length->Sa X H e (xs.getD i .bV) (ys.getD i .bV))/\Q (.bl (if MH then !io e xs ys else io e xs ys)) H
theorem xV(I:aM X ae σ H s)(hu:A.units+1<cLine)(rx:aY xs us)(ry:aY ys vs)(he:∀i,i<xs.length->i<ys.length->Sa X H e (xs.getD i .bV) (ys.getD i .bV)):∀j (h1:j<us.toArray.size) (h2:j<vs.toArray.size),SeqAt.EqAt A s us.toArray[j] vs.toArray[j] (e (xs.getD j .bV) (ys.getD j .bV)):=by
 intro j h1 h2;have j1:j<xs.length:=by rw[rx.length];simpa using h1
 have j2:j<ys.length:=by rw[ry.length];simpa using h2
 have e1:xs[j]?=some (xs.getD j .bV):=by rw[bv,cH j1];rfl
 have e2:ys[j]?=some (ys.getD j .bV):=by rw[bv,cH j2];rfl
 obtain⟨u,MR,ru⟩:=rx.get e1;obtain⟨v,Sd,rv⟩:=ry.get e2;have eu:us.toArray[j]=u:=by
  have:us[j]?=some us.toArray[j]:=by simp at h1 |-
  rw[MR] at this;exact(bh this).symm
 have ev:vs.toArray[j]=v:=by
  have:vs[j]?=some vs.toArray[j]:=by simp at h2 |-
  rw[Sd] at this;exact(bh this).symm
 rw[eu,ev];exact he j j1 j2 ae s σ A u v I hu ru rv
theorem FT{e:V->V->Bool}(hu:X.A.units+2<cLine):k_ X (compareOp .NotEq) (Sb X true e):=by
 intro ae s σ H x y v u Q I rx ry h;obtain⟨p,q,xs,ys,rfl,rfl,hp,hq,he,k⟩:=h;obtain rfl:v=Value.ref p:=rx;obtain rfl:u=Value.ref q:=ry;obtain⟨us,r1,p1,_⟩:=I.list hp;obtain⟨vs,r2,p2,_⟩:=I.list hq;by_cases hl:xs.length=ys.length
 .refine SeqAt.RcNeAt.lists (e:=fun i=>e (xs.getD i .bV) (ys.getD i .bV)) p1.isList p2.isList (by simp only[cm];rw[<-r1.length,<-r2.length];exact hl) (by lia) (xV I (by show X.A.units+1+1<cLine;lia) r1 r2 he) _ _ _ _ ⟨.bl _,H,I,rfl,?_⟩;rw[show us.toArray.size=xs.length by rw[cm,r1.length],<-ip hl];exact k
 .refine SeqAt.RcNeAt.lists_lengths p1.isList p2.isList (by simp only[cm];rw[<-r1.length,<-r2.length];simpa using hl) (by lia) _ _ _ _ ⟨.bl _,H,I,rfl,?_⟩;have k':=k;rw[oo hl] at k';exact k'
theorem AL(hu:X.A.units+2<cLine):k_ X (compareOp .Eq) (Sb X false e):=by
 intro ae s σ H x y v u Q I rx ry h;obtain⟨p,q,xs,ys,rfl,rfl,hp,hq,he,k⟩:=h;obtain rfl:v=Value.ref p:=rx;obtain rfl:u=Value.ref q:=ry;obtain⟨us,r1,p1,_⟩:=I.list hp;obtain⟨vs,r2,p2,_⟩:=I.list hq;by_cases hl:xs.length=ys.length
 .refine SeqAt.eq_listAt (e:=fun i=>e (xs.getD i .bV) (ys.getD i .bV)) p1.isList p2.isList (by simp only[cm];rw[<-r1.length,<-r2.length];exact hl) (by lia) (xV I (by show X.A.units+1+1<cLine;lia) r1 r2 he) ⟨.bl _,H,I,rfl,?_⟩;rw[show us.toArray.size=xs.length by rw[cm,r1.length],<-ip hl];exact k
 .refine SeqAt.eq_list_lengthsAt p1.isList p2.isList (by simp only[cm];rw[<-r1.length,<-r2.length];simpa using hl) (by lia) ⟨.bl _,H,I,rfl,?_⟩;have k':=k;rw[oo hl] at k';exact k'
theorem uc(hc:X.calm=true):gm X (.builtin "any") (fun xs H Q=>∃ (p:Addr) (bs:List Bool),xs=[.ref p]/\aV X.K H p (bs.map V.bl)/\Q (.bl (bs.any id)) H):=by
 intro ae s σ H xs us Q I r h;obtain⟨p,bs,rfl,hp,q⟩:=h;obtain⟨u1,rfl,r1⟩:=r.one;obtain rfl:u1=Value.ref p:=r1;obtain⟨its,rv,pl,hz⟩:=I.list hp;have FU:its=bs.map Value.bool:=by
  have go:∀ (bs:List Bool) (its:List Value),aY (bs.map V.bl) its->its=bs.map Value.bool:=by
   intro bs;induction bs with
   |nil=>intro its r;cases r;rfl
   |cons b bs ih=>
    intro its r;cases r with
    |cons r rr=>
     obtain rfl:=(show _=Value.bool b from r)
     rw[ih _ rr];rfl
  exact go bs its rv
 subst FU;obtain⟨ob,XM,_⟩:=id pl.isList;have eL:p<s.heap.objs.size:=a8 XM;refine call_any_walk (qG pl.isList ⟨s.heap.objs.size,_,_,_,_,_,fun i=>bs.getD i false,rfl,Walks.list (show X.A.in1.handled=none from I.ok.hd hc) _ p (aW eL) _,⟨⟨_,cL _ rfl,rfl,rfl⟩,pl.isList.push _⟩,fun i v s1 Q' E' hv hq=>?_,fun h' tk k=>?_⟩)
 .have Ao:(bs.map Value.bool)[i]?=some v:=by simpa using hv
  rw[bX] at Ao;cases eb:bs[i]? with
  |none=>rw[eb] at Ao;cases Ao
  |some b=>
   rw[eb] at Ao;obtain rfl:Value.bool b=v:=bh Ao;have:bs.getD i false=b:=by rw[bv,eb];rfl
   have Jk:Q' b s1:=by rw[<-this];exact hq
   exact wpAny_pure Jk
 .have keep:∀b o,s.heap.get? b=some o->h'.get? b=some o:=fun b o e=>k b o (by simpa using aW (a8 e)) (b9 _ e);refine⟨.bl (bs.any id),H,I.kept (t':=tk) keep,?_,q⟩;show Value.bool _=Value.bool _;congr 1;have go:∀ (bs:List Bool),((List.range bs.length).any fun i=>bs.getD i false)=bs.any id:=by
   intro bs;induction bs with
   |nil=>rfl
   |cons b bs ih=>
    rw[dR,qu,iC,List.any_map,iC,<-ih];rfl
  rw[<-go bs];simp
end
def j6(c:Addr)(qual:Str):HO:=.ext fun h=>h.CodeRec (.ref c) qual
theorem FV(x:h.CodeRec (.ref c) qual):cw P w H h c (j6 c qual):=by
 refine⟨x,?_,?_⟩
 .obtain⟨c',o,vs,t,e,ho,_⟩:=x;cases e;exact⟨o,ho⟩
 .rintro h1 h2 ⟨c',o,vs,t,e,ho,r⟩ k;cases e;exact⟨c,o,vs,t,rfl,k o ho,r⟩
def MS(f:Addr)(qual:Str)(params:Arguments)(body:Expr)(scope:Scope)(cells:List (Str×Addr))(c:Addr)(h:Heap):Prop:=
 ∃ (bJ:List (Str×Addr)) (pm sG:Value),(∀x a,bJ.lookup x=some a->cells.lookup x=some a)/\(∀x,(x,NameKind.free)∈scope.names->∃a,bJ.lookup x=some a)/\
  h.get? f=some (PySem.W.kla_obj "<lambda>" qual params body scope bJ pm c sG)
def mn(f:Addr)(qual:Str)(params:Arguments)(body:Expr)(scope:Scope)(cells:List (Str×Addr))(c:Addr):HO:=.ext (MS f qual params body scope cells c)
theorem B9(x:MS f qual params body scope cells c h):
  cw P w H h f (mn f qual params body scope cells c):=by
 refine⟨x,?_,?_⟩
 .obtain⟨_,_,_,_,_,e⟩:=x;exact⟨_,e⟩
 .rintro h1 h2 ⟨bJ,pm,sG,a,b,e⟩ k;exact⟨bJ,pm,sG,a,b,k _ e⟩
def cC(lp:Pos)(qual:Str)(P:Addr)(H:Hp):Prop:=H P=some (.gQ #[])\/∃c,H P=some (.gQ #[rawInt lp.line,rawInt lp.col,.ref c])/\H c=some (j6 c qual)
structure JC(X:Cx)(c P:Addr):Prop where
 code:X.env.code=.ref c
 hd:PySem.W.CodeHd X.base c P
 bm:∃bm o,X.mg "__builtins__"=some (.ref bm)/\bm≠builtinsNs/\bm≠mainGlobals/\X.base.get? bm=some o/\o.cls=.type "module"/\o.dict=some builtinsNs/\o.data=.plain
def XN(lp:Pos)(qual:Str)(P:Addr)(params:Arguments)(body:Expr)(scope:Scope)(cells:List (Str×Addr)):TE:=fun _ H Q=>cC lp qual P H/\
 ∀ (f c:Addr) (H2:Hp),cC lp qual P H2->(∀b o,H b=some o->b≠P->H2 b=some o)->H2 c=some (j6 c qual)->H2 f=some (mn f qual params body scope cells c)->Q (.ref f) H2
theorem xW{lp:Pos}{c:Addr}:TriplesOk (#[rawInt lp.line,rawInt lp.col,.ref c]:Array Value).toList:=trivial
theorem DR:codeAmong lp (#[rawInt lp.line,rawInt lp.col,.ref c]:Array Value).toList=some (.ref c):=by
 show (if ((lp.line:Int)==(lp.line:Int)&&(lp.col:Int)==(lp.col:Int))=true then some (Value.ref c) else _)=_;simp
section
variable {X:Cx} {c P:Addr} {params:Arguments} {body:Expr} {scope:Scope} {lp:Pos} {NB:List Str} {src:List (Option Nat)}
theorem JC.at(C:JC X c P)(I:aM X ae σ H s)(hP:H P=some (.gQ ps)):s.heap.BuiltinsAt X.mg P:=by
 obtain⟨bm,o,b1,b2,b3,b4,b5,b6,b7⟩:=C.bm;refine⟨bm,o,b1,b2,b3,fun z=>?_,I.bk _ _ b4,b5,b6,b7⟩;have:=(I.bs _ _ b4).2;rw[z,hP] at this;cases this
theorem aM.MT(I:aM X ae σ H s):s.heap.Ns mainGlobals X.mg:=I.mod.glob.keeps I.bk
theorem rA(C:JC X c P)(S:gp NB src scope X)(XO:defaultsOf params X.env=([],[]):=by rfl):PE X (.Lambda params body scope lp) (XN lp (X.env.qual++"<lambda>") P params body scope X.env.cells):=by
 intro ae s σ H Q I h;obtain⟨tab,h⟩:=h;obtain⟨bJ,ecl,c1,c2⟩:=lK I.ok S;refine PySem.W.kla_eval XO ?_;have hsz:∀b o,s.heap.get? b=some o->b<s.heap.objs.size:=fun b o e=>a8 e;rcases tab with hP|⟨c',hP,Af⟩
 .-- the first time
  have Se:s.heap.get? P=some (PySem.W.tabObj #[]):=I.bL P _ hP;have hPL:X.env.locals≠P:=fun z=>by have f:=I.free;rw[z,hP] at f;cases f
  have hPg:mainGlobals≠P:=fun z=>by
   obtain⟨o,es,ep,e,d,_⟩:=I.mod.glob;have:=(I.bs _ _ e).2;rw[z,hP] at this;cases this
  refine PySem.W.kla_makeFunction (mg:=X.mg) ecl I.ok.glob I.MT C.code (C.hd.keeps I.bk) Se (by trivial) rfl hPg (C.at I hP) fun c' sG h' tk hx JD eL XQ htb=>?_;have JE:∀b o,b≠P->s.heap.get? b=some o->(h'.push (PySem.W.kla_obj "<lambda>" (X.env.qual++"<lambda>") params body scope bJ ((X.mg "__name__").getD .none) c' sG)).get? b=some o:=fun b o hb e=>b9 _ (hx b o hb e);have hcP:c'≠P:=i9 (b_ (hsz _ _ Se) JD);have hfP:h'.objs.size≠P:=i9 (b_ (hsz _ _ Se) (a9 JD (jT eL)));have hfc:h'.objs.size≠c':=i9 eL;have nf:H h'.objs.size=none:=I.bL.fresh (by lia);have nc:H c'=none:=I.bL.fresh JD
  let H2:Hp:=upd (upd (upd H P (.gQ #[rawInt lp.line,rawInt lp.col,.ref c'])) c' (j6 c' (X.env.qual++"<lambda>"))) h'.objs.size (mn h'.objs.size (X.env.qual++"<lambda>") params body scope X.env.cells c')
  have eP:H2 P=some (.gQ #[rawInt lp.line,rawInt lp.col,.ref c']):=by
   show upd _ _ _ _=_;rw[ao hfP.symm,ao hcP.symm,af]
  have ec:H2 c'=some (j6 c' (X.env.qual++"<lambda>")):=by
   show upd _ _ _ _=_;rw[ao hfc.symm,af]
  have ef:H2 h'.objs.size=some (mn h'.objs.size (X.env.qual++"<lambda>") params body scope X.env.cells c'):=af;have eo:∀b,b≠P->b≠c'->b≠h'.objs.size->H2 b=H b:=fun b h1 h2 h3=>by
   show upd _ _ _ _=_;rw[ao h3,ao h2,ao h1]
  have hW:∀b o,H b=some o->b≠P->H2 b=some o:=fun b o e hb=>by
   rw[eo b hb (aj e nc) (aj e nf)];exact e
  have I2:aM X ae σ H2 { s with heap:=h'.push (PySem.W.kla_obj "<lambda>" (X.env.qual++"<lambda>") params body scope bJ ((X.mg "__name__").getD .none) c' sG),toks:=tk }:=by
   refine I.step (g':=s.gens) (d':=s.drawn) (ch:=[]) (fun _ z=>absurd z (by simp)) (fun b o _ _ _ e n=>JE b o (fun z=>by rw[z,hP] at n;cases n) e) (fun b o _ _ _ e n=>⟨o.slots,JE b o (fun z=>by rw[z,hP] at n;cases n) e⟩)
    (fun b o _ e n=>?_) (fun b o _ e=>?_) (fun b xs e=>hW b _ e fun z=>by rw[z,hP] at e;cases e) (fun b o u e=>hW b _ e fun z=>by rw[z,hP] at e;cases e) (fun b ps e=>?_) (fun m hm=>?_) (fun b o e=>?_) I.bare
   .rw[eo b (fun z=>by rw[z,hP] at n;cases n) (aW (b_ (hsz b o e) JD)) (aW (b_ (hsz b o e) (a9 JD (jT eL))))];exact n
   .by_cases hb:b=P
    .exact⟨_,by rw[hb];exact b9 _ htb⟩
    .exact⟨o,JE b o hb e⟩
   .by_cases hb:b=P
    .rw[hb] at e |-;rw[hP] at e;cases e;exact⟨#[rawInt lp.line,rawInt lp.col,.ref c'],by rw[eP];simp⟩
    .exact⟨#[],by rw[hW b _ e hb];simp⟩
   .exact(hm.extBut hx hPL).push _
   .by_cases hbf:b=h'.objs.size
    .subst hbf;rw[ef] at e;cases e;exact B9 ⟨bJ,_,sG,c1,c2,cL _ rfl⟩
    .by_cases Xx:b=c'
     .subst Xx;rw[ec] at e;cases e;refine FV ?_;obtain⟨c₂,oc,vs,t,e2,VM,r⟩:=XQ;exact⟨c₂,oc,vs,t,e2,b9 _ VM,r⟩
     .by_cases XR:b=P
      .subst XR;rw[eP] at e;cases e;exact b9 _ htb
      .rw[eo b XR Xx hbf] at e;refine(I.bL b o e).l6 (fun d u hd q=>JE d u ?_ q) (fun d q=>hW d _ q fun z=>by rw[z,hP] at q;cases q) fun d xs q=>hW d _ q fun z=>by rw[z,hP] at q;cases q
       rintro rfl;rcases hd with z|z
       .exact XR z.symm
       .rw[hP] at z;cases z
  exact⟨.ref h'.objs.size,H2,I2,rfl,h _ c' H2 (.inr ⟨c',eP,ec⟩) hW ec ef⟩
 .-- again
  have Se:s.heap.get? P=some (PySem.W.tabObj #[rawInt lp.line,rawInt lp.col,.ref c']):=I.bL P _ hP;refine PySem.W.kla_makeFunctionHit (mg:=X.mg) ecl I.ok.glob I.MT C.code (C.hd.keeps I.bk) Se xW DR (C.at I hP) fun sG h' tk hk JD=>?_;have nf:H h'.objs.size=none:=I.bL.fresh JD
  let H2:Hp:=upd H h'.objs.size (mn h'.objs.size (X.env.qual++"<lambda>") params body scope X.env.cells c')
  have ef:H2 h'.objs.size=some (mn h'.objs.size (X.env.qual++"<lambda>") params body scope X.env.cells c'):=af;have hW:∀b o,H b=some o->H2 b=some o:=fun b o e=>by
   show upd _ _ _ _=_;rw[ao (aj e nf)];exact e
  have JE:∀b o,s.heap.get? b=some o->(h'.push (PySem.W.kla_obj "<lambda>" (X.env.qual++"<lambda>") params body scope bJ ((X.mg "__name__").getD .none) c' sG)).get? b=some o:=fun b o e=>b9 _ (hk b o e);have I2:aM X ae σ H2 { s with heap:=h'.push (PySem.W.kla_obj "<lambda>" (X.env.qual++"<lambda>") params body scope bJ ((X.mg "__name__").getD .none) c' sG),toks:=tk }:=by
   refine I.step (g':=s.gens) (d':=s.drawn) (ch:=[]) (fun _ z=>absurd z (by simp)) (fun b o _ _ _ e n=>JE b o e) (fun b o _ _ _ e n=>⟨o.slots,JE b o e⟩)
    (fun b o _ e n=>?_) (fun b o _ e=>⟨o,JE b o e⟩) (fun b xs e=>hW b _ e) (fun b o u e=>hW b _ e) (fun b ps e=>⟨#[],by rw[hW b _ e];simp⟩) (fun m hm=>(hm.keeps hk).push _) (I.bL.laid JE JD (B9 ⟨bJ,_,sG,c1,c2,cL _ rfl⟩)) I.bare
   .show upd _ _ _ _=_;rw[ao (aW (b_ (hsz b o e) JD))];exact n
  exact⟨.ref h'.objs.size,H2,I2,rfl,h _ c' H2 (.inr ⟨c',hW _ _ hP,hW _ _ Af⟩) (fun b o e _=>hW b o e) (hW _ _ Af) ef⟩
end
def AM(X:Cx)(id:String)(ks:List Str)(r:St->List V->List V->Hp->VK->Prop):Prop:=
 ∀ (ae:List (Addr×Obj)) (s:Shared) (σ:St) (H:Hp) (vs zs:List V) (us ws:List Value) (Q:VK),aM X ae σ H s->aY vs us->aY zs ws->r σ vs zs H Q->
  wpAny (model X.prog X.w) X.A (call (.builtin id) us (ks.zip ws)) (EP X ae σ Q) X.xe s
def XS(r:St->List V->List V->Hp->VK->Prop)(t tk:TA):TE:=fun σ H Q=>t σ H fun vs H1=>tk σ H1 fun zs H2=>r σ vs zs H2 Q
section
variable {X:Cx} {x:Str} {p pos:Pos} {e:Expr} {es:List Expr} {Fp:List Keyword} {t tk:TA} {id:String} {ks:List Str} {r:St->List V->List V->Hp->VK->Prop}
theorem kJ(hc:AM X id ks r)(hg:Gl X x)(hm:X.mg x=none)(hv:bootBuiltins x=some (.builtin id))(ha:PA X (e::es) t)(hkw:PK X Fp tk)(hn:x≠"__name__":=by decide)(Au:(x==("__debug__":Str))=false:=by decide)(hks:(backToKw pos (keywordEach Fp X.env)).filterMap (·.1)=ks:=by rfl)(he:backTo pos (starEach (e::es) X.env)=(false,eval e X.env)::backTo pos (starEach es X.env):=by rfl)(Ay:(backTo pos (starEach (e::es) X.env)).any (·.1)=false:=by rfl)(sV:(backToKw pos (keywordEach Fp X.env)).all (·.1.isSome)=true:=by rfl)(JA:(backToKw pos (keywordEach Fp X.env)).any (·.1.isNone)=false:=by rfl):PE X (.Call (.Name x p) (e::es) Fp pos) (XS r t tk):=by
 intro ae s σ H Q I h;refine jN (jW I hg hm hv ?_ hn Au);refine PyProof.Rows.callWith_kw (cz (ha pos ae s σ H _ I h) fun us s1 ⟨vs,H1,I1,r1,q1⟩=>?_) he Ay sV JA;refine cz (hkw pos ae s1 σ H1 _ I1 q1) fun ws s2 ⟨zs,H2,I2,rz,q2⟩=>?_;rw[hks];exact hc ae s2 σ H2 vs zs us ws Q I2 r1 rz q2
end
def N4(za zb:Int)(ns out:List Int):Prop:=∃ps:List (Int×Int),ps.Perm (ns.map fun z=>((z-za) % zb,z))/\out=ps.map (·.2)/\ps.Pairwise fun p q=>p.1<=q.1
def N6(X:Cx)(qual:Str)(params:Arguments)(body:Expr)(scope:Scope)(ia ib:Nat):St->List V->List V->Hp->VK->Prop:=fun σ vs zs H Q=>
 ∃ (l f c:Addr) (ns:List Int) (za zb:Int),vs=[.ref l]/\zs=[.ref f]/\aV X.K H l (ns.map V.int)/\ns.length<64/\H f=some (mn f qual params body scope X.env.cells c)/\H c=some (j6 c qual)/\
  σ[ia]?=some (some (.int za))/\σ[ib]?=some (some (.int zb))/\0<zb/\∀ (r:Addr) (out:List Int),H r=none->N4 za zb ns out->Q (.ref r) (upd H r (.lst (out.map V.int)))
theorem ud:∀ {ns:List Int} {vs:List Value},aY (ns.map V.int) vs->IntsAre vs ns
 |[],_,.nil=>.nil
 |_::_,_,.cons ⟨t,e⟩ r=>by subst e;exact .cons _ t (ud r)
structure Sf(X:Cx)(qual:Str)(params:Arguments)(body:Expr)(scope:Scope)(y a b:Str)(ia ib:Nat):Prop where
 bd:∃p1 p2 p3 p4 p5,body=.BinOp (.BinOp (.Name y p1) .Sub (.Name a p2) p3) .Mod (.Name b p4) p5
 bind:∀bJ pm c sG v,bindArgs (PySem.W.kla_fn "<lambda>" qual params body scope bJ pm (.ref c) sG) ⟨[v],[]⟩=pure [(y,v)]
 na:X.N[ia]?=some a
 nb:X.N[ib]?=some b
 ca:X.env.scope.names.lookup a=some .cell
 cb:X.env.scope.names.lookup b=some .cell
 ly:scope.names.lookup y=some .local
 fa:scope.names.lookup a=some .free
 fb:scope.names.lookup b=some .free
 ma:(a,NameKind.free)∈scope.names
 mb:(b,NameKind.free)∈scope.names
 lM:∀z∈scope.names,z.2≠.cell
 kind:scope.kind=.function
 co:scope.isCoroutine=false
 gen:scope.isGenerator=false
 dy:(y==("__debug__":Str))=false
 da:(a==("__debug__":Str))=false/\(a==("__classdict__":Str))=false
 db:(b==("__debug__":Str))=false/\(b==("__classdict__":Str))=false
theorem AN(S:Sf X qual params body scope y a b ia ib)(hr:bQ k X.A):
  AM X "sorted" ["key"] (N6 X qual params body scope ia ib):=by
 intro ae s σ H vs zs us ws Q I r rz h;obtain⟨l,f,c,ns,za,zb,rfl,rfl,hl,FW,hf,hc,sa,sb,hb0,q⟩:=h;obtain⟨u1,rfl,r1⟩:=r.one;obtain rfl:u1=Value.ref l:=r1;obtain⟨w1,rfl,XT⟩:=rz.one;obtain rfl:w1=Value.ref f:=XT;obtain⟨its,rv,pl,hz⟩:=I.list hl;have hI:=ud rv;obtain⟨m,F⟩:=I.fr;obtain⟨p1,p2,p3,p4,p5,rfl⟩:=S.bd;obtain⟨bJ,pm,sG,c1,c2,Jw⟩:=(I.bL f _ hf).1;have Sg:s.heap.CodeRec (.ref c) qual:=(I.bL c _ hc).1;obtain⟨m',hn',hlk⟩:=I.loc;have Sh:∃ca ta,bJ.lookup a=some ca/\s.heap.IsCell ca (some (.int za ta)):=by
  obtain⟨u,⟨ta,rfl⟩,lk⟩:=hlk ia a (.int za) S.na sa (.inr (.inl S.ca));obtain⟨ca,e1⟩:=c2 a S.ma;rcases lk with ⟨z,_⟩|⟨_,ca',e2,e3⟩
  .have z':X.env.scope.names.lookup a=some .local:=z;rw[S.ca] at z';cases z'
  .have e4:=c1 a ca e1;rw[e2] at e4;cases e4;exact⟨ca,ta,e1,e3⟩
 have Si:∃cb tb,bJ.lookup b=some cb/\s.heap.IsCell cb (some (.int zb tb)):=by
  obtain⟨u,⟨tb,rfl⟩,lk⟩:=hlk ib b (.int zb) S.nb sb (.inr (.inl S.cb));obtain⟨cb,e1⟩:=c2 b S.mb;rcases lk with ⟨z,_⟩|⟨_,cb',e2,e3⟩
  .have z':X.env.scope.names.lookup b=some .local:=z;rw[S.cb] at z';cases z'
  .have e4:=c1 b cb e1;rw[e2] at e4;cases e4;exact⟨cb,tb,e1,e3⟩
 obtain⟨ca,ta,ea,ha⟩:=Sh;obtain⟨cb,tb,eb,hb⟩:=Si;have VX:∀b' (o:Obj),s.heap.get? b'=some o->(∀es ep,o.data≠.dict es ep)->b'≠X.env.locals:=fun b' o e d z=>by
  obtain⟨o',es,ep,e',d',_⟩:=F.ns;rw[z,e'] at e;cases e;exact d _ _ d'
 have len:(ns.map fun z=>(z-za) % zb).length=its.length:=by rw[aI,hI.length]
 refine ksk_sorted (b:=false) (f:=.ref f) (kz:=ns.map fun z=>(z-za) % zb) F EX pl.isList len (by rw[hI.length];exact FW) (ksk_s1 _ _) (fun x=>ksk_l1 _ _) (fun x=>ksk_t1 _ _) ?_ ?_
 .-- one key
  intro i v k hv hk h tk own F' N';have at_:∀b' u,b'≠X.env.locals->s.heap.get? b'=some u->h.get? b'=some u:=fun b' u og e=>by
   cases z:X.base.get? b' with
   |some o=>
    have:=I.bk b' o z;rw[e] at this;cases this;exact F'.keep b' _ z
   |none=>exact(N' (b',u) (fj _ (jV og z e))).1
  have XU:=at_ f _ (VX f _ Jw (by intro es ep z;cases z)) Jw;have XV:h.CodeRec (.ref c) qual:=by
   obtain⟨c0,o,vs0,t0,e0,ho,hd,hv0⟩:=Sg;refine⟨c0,o,vs0,t0,e0,at_ _ _ (VX _ _ ho (by rw[hd];intro es ep z;cases z)) ho,hd,hv0⟩
  have RS:h.IsCell ca (some (.int za ta)):=by
   obtain⟨o,ho,hd⟩:=ha;exact⟨o,at_ _ _ (VX _ _ ho (by rw[hd];intro es ep z;cases z)) ho,hd⟩
  have pI:h.IsCell cb (some (.int zb tb)):=by
   obtain⟨o,ho,hd⟩:=hb;exact⟨o,at_ _ _ (VX _ _ ho (by rw[hd];intro es ep z;cases z)) ho,hd⟩
  obtain⟨z,tz,rfl,rfl⟩:∃z tz,v=.int z tz/\k=(z-za) % zb:=by
   obtain⟨n,t,e⟩:=hI.all v (cI hv);refine⟨n,t,e,?_⟩;rw[bX] at hk;have hn:=hI.nums;have e1:(its.map numOf)[i]?=some n:=by rw[bX,hv,e];rfl
   rw[hn] at e1;rw[e1] at hk;exact(bh hk).symm
  have xX:X.A.in1.in1.depth<recursionLimit:=by
   have:=hr.dp;show X.A.depth<_;lia
  refine jU (zo xX XU rfl S.co S.gen rfl XV ?_);rw[S.bind];refine wpAny_pure (zJ S.lM (fun x hx=>by rw[cA.mp hx];exact S.ly) (fun h₁ ue MU=>⟨((I.ok.mod.nolimit).keeps F'.keep).fresh _ MU,?_⟩) S.kind);have JF:∀b o,h.get? b=some o->h₁.get? b=some o:=fun b o e=>MU.extBut b o (aW (a8 e)) (b9 _ e);have ha₁:=RS.keeps JF;have hb₁:=pI.keeps JF;refine zn ?_;refine wpAny_BinOp (wpAny_BinOp ?_);refine nK (zK S.kind S.ly ue (v:=.int z tz) (by simp) ?_) S.dy;refine nK (zU S.kind S.fa ea ha₁ ?_ S.da.2) S.da.1;refine sub_int ?_;refine nK (zU S.kind S.fb eb hb₁ ?_ S.db.2) S.db.1;refine mod_int' (by lia) ?_;rw[EL _ (by lia)];refine KskEnd.intro (news':=ja X.base s.heap X.env.locals++own) ⟨F'.ns.keeps JF,fun b o e=>JF b o (F'.keep b o e),F'.above⟩ (fun p hp=>⟨JF _ _ (N' p hp).1,(N' p hp).2⟩) fun p hp=>hp
 .-- the list
  intro D h' tk out cc F' N' eL XW;have hD:=sW I N' eL;obtain⟨ps,hp,ho,hs⟩:=XW;have AA:∀p∈ps,∃n t,p.2=.int n t:=fun p QB=>by
   have:=hp.mem_iff.mp QB;exact hI.all _ (nB this).2
  have hz':((ns.map fun z=>(z-za) % zb).zip its).map (fun p=>(p.1,numOf p.2))=ns.map fun z=>((z-za) % zb,z):=by
   have hn:=hI.nums;rw[<-hn];have go:∀ (l:List Value),((((l.map numOf).map fun z=>(z-za) % zb).zip l).map fun p=>(p.1,numOf p.2))=(l.map numOf).map fun z=>((z-za) % zb,z):=by
    intro l;induction l with
    |nil=>rfl
    |cons x l ih=>simp only[d7,List.zip_cons_cons,ih]
   exact go its
  have Fx:aY ((ps.map fun p=>(p.1,numOf p.2)).map (fun p=>V.int p.2)) (ps.map Prod.snd):=by
   have go:∀ (l:List (Int×Value)),(∀p∈l,∃n t,p.2=.int n t)->aY ((l.map fun p=>(p.1,numOf p.2)).map (fun p=>V.int p.2)) (l.map Prod.snd):=by
    intro l;induction l with
    |nil=>intro _;exact .nil
    |cons x l ih=>
     intro hx;refine .cons ?_ (ih fun p hp=>hx p (cp _ hp));obtain⟨n,t,e⟩:=hx x cg;show ∃t,x.2=Value.int (numOf x.2) t;rw[e];exact⟨t,rfl⟩
   exact go ps AA
  have DS:N4 za zb ns ((ps.map fun p=>(p.1,numOf p.2)).map (·.2)):=by
   refine⟨ps.map fun p=>(p.1,numOf p.2),?_,rfl,?_⟩
   .rw[<-hz'];exact hp.map _
   .refine im.mpr (hs.imp fun {p q} z=>?_);simpa using z
  have hDo:h'.get? D=some (seqObj "list" out cc):=(N' _ cg).1;have I2:aM X ae σ (upd H D (.lst (((ps.map fun p=>(p.1,numOf p.2)).map (·.2)).map V.int))) { s with heap:=h',toks:=tk }:=by
   refine I.R4 F F' (fun p hp=>N' p (cp _ hp)) hD ⟨?_,ps.map Prod.snd,cc,?_,?_⟩
   .have h1:=hp.length_eq;rw[List.length_zip,len,vw] at h1;simp only[aI];rw[h1,hI.length];exact a9 (jT FW) (by decide)
   .have ev:=Fx;simp only[dD] at ev |-;exact ev
   .rw[hDo,<-ho]
  exact⟨.ref D,_,I2,rfl,q D _ (I.bL.rj hD) DS⟩
def oq(mg:Str->Option Value)(base:Heap):Prop:=∃bm o,mg "__builtins__"=some (.ref bm)/\bm≠builtinsNs/\bm≠mainGlobals/\base.get? bm=some o/\o.cls=.type "module"/\o.dict=some builtinsNs/\o.data=.plain
def B_(ts:List Addr)(H:Hp):Prop:=(∀P∈ts,H P=some (.gQ #[]))/\∀b,H b=none\/(b∈ts/\H b=some (.gQ #[]))\/∃o xs,H b=some (.xg o (.lst xs))
theorem DT{P:Program}{w:World}{K:PySem.W.Frag}{mg mb:Str->Option Value}{CX:xi}{k:Nat}{fa a:Addr}{fd:FuncData}{x:Str}{sp:Sp}{s₁:Shared}{vs:List Value}{ns:List Int}{ts:List Addr}(KX:K.In s₁.heap)(ue:s₁.heap.Ns mainGlobals mg)(hb:s₁.heap.Ns builtinsNs mb)(hbb:∀x:Str,x≠"__name__"->mb x=bootBuiltins x)(XX:s₁.heap.NoLimit)(hg:s₁.gens=#[])(hbm:oq mg s₁.heap)(Sj:∀P∈ts,s₁.heap.get? P=some (PySem.W.tabObj #[]))(tQ:∀P∈ts,∃c,PySem.W.codeHdIn K c P=true)(XY:∀P∈ts,K.lookup P=none)(ha:s₁.heap.get? a=some { cls:=.type "list",data:=.seq vs.toArray })(hi:IntsAre vs ns)(hl:ns.length<=sizeLine)(hr:bQ k callerA)(F:∀base:Heap,K.In base->base.Ns mainGlobals mg->oq mg base->bo P w K mg base CX k fa fd [x] sp)(Sl:∀ (s:Shared) (u:Value),BindsTo s fd ⟨[u],[]⟩ [(x,u)])(IC:∀H:Hp,B_ ts H->aV K H a (ns.map V.int)->sp [.ref a] H (fun v _=>v=.bl true) fun _ _ _=>False)(XZ:∀H e s',CX [] H s₁ (fun _ _ _=>False) e s'->False):
  codeAny (model P w) callerA (.call (.ref fa) ⟨[.ref a],[]⟩) (fun r s'=>r=.ok (.ret (.bool true))/\OldK s₁.heap s'.heap/\s'.os=s₁.os/\AllBare s'.gens) s₁:=by
 have rv:=n8 hi;have X0:=hi.length;have hat:a∉ts:=fun z=>by
  have:=Sj a z;rw[ha] at this;cases this
 have Sm:∀H:Hp,B_ ts H->aV K H a (ns.map V.int)->jB P w H s₁.heap->(∀b,H b≠none->b=a\/b∈ts)->(H a≠none->K.lookup a=none)->
   codeAny (model P w) callerA (.call (.ref fa) ⟨[.ref a],[]⟩) (fun r s'=>r=.ok (.ret (.bool true))/\OldK s₁.heap s'.heap/\s'.os=s₁.os/\AllBare s'.gens) s₁:=by
  intro H hO hS bL hA hK;have vT:∀ {b:Addr} {o:Obj},s₁.heap.get? b=some o->H b=none->(sK s₁.heap H).get? b=some o:=fun e n=>EW e n;have Qy:∀ {b:Addr} {o:Obj},s₁.heap.get? b=some o->(∀v n,o.data≠.seq v n)->(∀v,o.data≠.fields v)->H b=none:=fun {b o} e d1 d2=>by
   cases q:H b with
   |none=>rfl
   |some u=>
    rcases hA b (by rw[q];simp) with e'|e'
    .subst e';rw[ha] at e;cases e;exact absurd rfl (d1 _ _)
    .rw[Sj b e'] at e;cases e;exact absurd rfl (d2 _)
  have VY:∀ {b:Addr} {m:Str->Option Value},s₁.heap.Ns b m->(sK s₁.heap H).Ns b m:=fun {b m} ⟨o,es,ep,e,d,r⟩=>⟨o,es,ep,vT e (Qy e (by rw[d];intro v n z;cases z) (by rw[d];intro v z;cases z)),d,r⟩
  have hKb:K.In (sK s₁.heap H):=fun b o e=>vT (KX b o e) (by
   cases q:H b with
   |none=>rfl
   |some u=>
    rcases hA b (by rw[q];simp) with e'|e'
    .subst e';rw[hK (by rw[q];simp)] at e;cases e
    .rw[XY b e'] at e;cases e)
  have hB:oq mg (sK s₁.heap H):=by
   obtain⟨bm,o,b1,b2,b3,b4,b5,b6,b7⟩:=hbm;exact⟨bm,o,b1,b2,b3,vT b4 (Qy b4 (by rw[b7];intro v n z;cases z) (by rw[b7];intro v z;cases z)),b5,b6,b7⟩
  have hM:Mod K mg (sK s₁.heap H):=⟨hKb,VY ue,⟨mb,VY hb,hbb⟩,let ⟨mc,h1,h2⟩:=XX;⟨mc,VY h1,h2⟩⟩
  have e0:xD P w K mg (sK s₁.heap H) callerA [] s₁ H:=⟨rfl,hM,fun b o e=>IY e,nG (Do _ _),trivial,fun b hb=>absurd (show b∈([]:List Addr) from hb) (by simp),bL,.of_eq hg⟩
  refine lx ((F _ hKb (VY ue) hB).run callerA [] s₁ H ⟨[.ref a],[]⟩ [.ref a] [.ref a] _ _ hr e0 (Sl s₁ (.ref a)) (.cons rfl .nil) (IC H hO hS)) fun r s' h=>?_;cases r with
  |error e=>exact(XZ H e s' h).elim
  |ok fl=>
   cases fl with
   |next=>exact False.elim h
   |brk=>exact False.elim h
   |cont=>exact False.elim h
   |ret u=>
    obtain⟨v,H',os,bare,un,Sn,r',q⟩:=h;have q':v=.bl true:=q;subst q';obtain rfl:u=Value.bool true:=r';refine⟨rfl,⟨fun b o e=>?_,fun b o e=>un.there b o e (by simp)⟩,os,bare⟩;cases q:H b with
    |none=>exact .inl (un.keep b o e q (by intro z;exact absurd (show b∈([]:List Addr) from z) (by simp)) (by simp))
    |some u=>
     rcases hO.2 b with z|⟨zt,z⟩|⟨ob,xs,z⟩
     .rw[q] at z;cases z
     .obtain⟨more,z2⟩:=un.nR b _ z;have e1:=Sj b zt;rw[e] at e1;cases e1;have e2:s'.heap.get? b=some { cls:=.none,data:=.fields (#[]++more) }:=Sn b _ z2;obtain⟨c,hc⟩:=tQ b zt;obtain⟨oc,vsc,_,_,_,_,_,_,_,g1,g2,g3,g4,_⟩:=PySem.W.codeHd_of_K KX hc;exact .inr (.inl ⟨⟨c,oc,vsc,g1,g2,g3,g4⟩,rfl,#[],more,rfl,e2⟩)
     .have z2:=un.nQ b ob _ z;obtain⟨e1,_⟩:=bL b _ z;obtain⟨e2,_⟩:=Sn b _ z2;rw[e] at e1;cases e1;exact .inl e2
 have abX:∀ (H:Hp),(∀P∈ts,H P=some (.gQ #[]))->True:=fun _ _=>trivial
 classical
 cases hk:K.lookup a with
 |some o=>
  have e:=KX a o hk;rw[ha] at e;cases e;refine Sm (fun b=>if b∈ts then some (.gQ #[]) else none) ⟨fun P hP=>am hP,fun b=>?_⟩ (.inr ⟨_,vs.toArray,_,hk,rfl,rfl,rfl,by rw[cm,X0];exact hl,by simpa using rv⟩) (fun b u z=>?_) (fun b z=>?_) fun z=>absurd (if_neg hat) z
  .by_cases hb:b∈ts
   .exact .inr (.inl ⟨hb,am hb⟩)
   .exact .inl (if_neg hb)
  .by_cases hb:b∈ts
   .have z':=(am hb).symm.trans z;cases z';exact Sj b hb
   .have z':=(if_neg hb).symm.trans z;cases z'
  .by_cases hb:b∈ts
   .exact .inr hb
   .exact absurd (if_neg hb) z
 |none=>
  refine Sm (fun b=>if b=a then some (.xg { cls:=.type "list",data:=.seq vs.toArray } (.lst (ns.map V.int))) else if b∈ts then some (.gQ #[]) else none) ⟨fun P hP=>?_,fun b=>?_⟩ (.inl (.inr ⟨{ cls:=.type "list",data:=.seq vs.toArray },am rfl⟩)) (fun b u z=>?_) (fun b z=>?_) fun _=>hk
  .have:P≠a:=fun z=>hat (z ▸ hP);show (if P=a then _ else if P∈ts then _ else _)=_;rw[if_neg this,am hP]
  .by_cases hb:b=a
   .exact .inr (.inr ⟨_,_,am hb⟩)
   .by_cases ht:b∈ts
    .exact .inr (.inl ⟨ht,by show (if b=a then _ else if b∈ts then _ else _)=_;rw[if_neg hb,am ht]⟩)
    .exact .inl (by show (if b=a then _ else if b∈ts then _ else _)=_;rw[if_neg hb,if_neg ht])
  .by_cases hb:b=a
   .have z':=(am hb).symm.trans z;cases z';subst hb;exact⟨ha,by rw[aI];exact hl,vs,_,rv,ha⟩
   .have z1:(if b∈ts then some (HO.gQ #[]) else none)=some u:=(if_neg hb).symm.trans z;by_cases ht:b∈ts
    .rw[am ht] at z1;cases z1;exact Sj b ht
    .rw[if_neg ht] at z1;cases z1
  .by_cases hb:b=a
   .exact .inl hb
   .by_cases ht:b∈ts
    .exact .inr ht
    .exact absurd (by show (if b=a then _ else if b∈ts then _ else _)=_;rw[if_neg hb,if_neg ht]) z
theorem FX{l:PySem.W.OpenLaw}{n k:Nat}{q:Program}{t7:List Str}{XP:(Str->Option Value)->Heap->Prop}{YP:World->Heap->Prop}{d:DefRec}{K:Params->PySem.W.Frag}{CX:World->xi}{sp:World->Sp}{x:Str}{ts:List Addr}(hn:l.most=some n)(Qx:n<=sizeLine)(RP:d.params.defaults=[])(hr:bQ k callerA)(hY:∀ (w:World) (h:Heap),YP w h->(K w.params).In h)(hT:∀ (w:World) (h:Heap),YP w h->∀P∈ts,h.get? P=some (PySem.W.tabObj #[]))(tQ:∀ (w:World),∀P∈ts,∃c,PySem.W.codeHdIn (K w.params) c P=true)(XY:∀ (w:World),∀P∈ts,(K w.params).lookup P=none)(F:∀ (w:World) (mg:Str->Option Value) (fa:Addr) (h:Heap),(K w.params).In h->h.Ns mainGlobals mg->mg d.name=some (.ref fa)->
   ∃fd:FuncData,(∀ (s:Shared) (u:Value),BindsTo s fd ⟨[u],[]⟩ [(x,u)])/\
    ∀base:Heap,(K w.params).In base->base.Ns mainGlobals mg->oq mg base->bo l.prog w (K w.params) mg base (CX w) k fa fd [x] (sp w))(IC:∀ (w:World) (H:Hp) (a:Addr) (ns:List Int),ns.length<=n->B_ ts H->aV (K w.params) H a (ns.map V.int)->sp w [.ref a] H (fun v _=>v=.bl true) fun _ _ _=>False)(XZ:∀ (w:World) (H:Hp) (s:Shared) (e:Value) (s':Shared),CX w [] H s (fun _ _ _=>False) e s'->False):
  PySem.W.WalkO q t7 XP YP l.row.toRowW d [] (fun f vs=>PySem.call f vs):=by
 refine Att.xK hn RP fun w s₀ s₁ mg mb fa o pm cd mf a vs ns G Y ho hd ab2 RQ NQ Fy d9 hg=>?_;have KX:=hY w _ Y;obtain⟨fd,hb,hF⟩:=F w mg fa _ KX G.T.g RQ;have hB:oq mg s₁.heap:=by
  obtain⟨bm,ob,b1,b2,b3,b4,b5,b6⟩:=G.T.bmain;refine⟨bm,ob,b1,b2,fun z=>?_,b3,b4,b5,b6⟩;obtain⟨o',es,ep,e,EZ,_⟩:=G.T.g;rw[z,e] at b3;cases b3;rw[EZ] at b6;cases b6
 exact DT KX G.T.g G.T.b G.T.builtins G.T.nolimit hg hB (hT w _ Y) (tQ w) (XY w) NQ Fy (a9 d9 Qx) hr hF hb (fun H hO hS=>IC w H a ns d9 hO hS) fun H e s'=>XZ w H s₁ e s'
structure pJ(K:PySem.W.Frag)(x qual:Str)(st:Stmt)(f:Addr)(fd:FuncData)(c:Addr):Prop where
 ex:∃ (oc:Value) (od:Option Addr) (kV mf pm:Value) (an:Option Addr) (ct:Value) (yW:Array (Option Value)),
  fd=PySem.W.fnOf x qual (df st) (cn st) (ak st) .none kV mf pm an (.ref c) ct/\K.lookup f=some ⟨oc,od,.func fd,yW⟩/\PySem.W.codeIn K (.ref c) qual=true
 kp:PySem.W.keepIn K (.ref f)=true
theorem pJ.fun{K:PySem.W.Frag}{x qual:Str}{st:Stmt}{f:Addr}{fd:FuncData}{c:Addr}(F:pJ K x qual st f fd c):fY K x qual st f fd:=by
 obtain⟨oc,od,kV,mf,pm,an,ct,yW,e,lk,tQ⟩:=F.ex;exact⟨⟨oc,od,kV,mf,pm,an,_,ct,yW,e,lk,tQ⟩,F.kp⟩
section
variable {P:Program} {w:World} {K:PySem.W.Frag} {mg:Str->Option Value} {base:Heap}
theorem pJ.ok{x qual:Str}{st:Stmt}{f:Addr}{fd:FuncData}{c:Addr}{N ps:List Str}{k:Nat}{sp:Sp}(F:pJ K x qual st f fd c)(S:aG N ps (ak st))(len:∀vs H Q E,sp vs H Q E->vs.length=ps.length)(xG:∀ (A:Around) (outer:List Env) (s:Shared) (H:Hp) (vs:List V) (Q:VK) (E:XK),bQ k (A.deeper (envOfC qual (ak st) s.heap.objs.size f (.ref c)))->sp vs H Q E->
   ∃t,Ag (lH a7 P w K mg base N qual (ak st) f (.ref c) A outer s H E).BJ (cn st) t/\t { nx:=fun _ H'=>Q .bV H',rt:=Q } (start N vs) H):bo P w K mg base a7 (k+1) f fd ps sp:=by
 obtain⟨oc,od,kV,mf,pm,an,ct,yW,rfl,lk,tQ⟩:=F.ex;refine ME lk tQ S len fun A outer s H vs Q E hr IC=>?_;obtain⟨t,h,q⟩:=xG A outer s H vs Q E hr IC;exact⟨t,h.BJ,q⟩
theorem Ca{x qual:Str}{st:Stmt}{f c:Addr}{oc:Value}{od an:Option Addr}{yW:Array (Option Value)}{kV mf pm ct:Value}(l:K.lookup f=some ⟨oc,od,.func (PySem.W.fnOf x qual (df st) (cn st) (ak st) .none kV mf pm an (.ref c) ct),yW⟩)(tQ:PySem.W.codeIn K (.ref c) qual=true)(kp:PySem.W.keepIn K (.ref f)=true):pJ K x qual st f (PySem.W.fnOf x qual (df st) (cn st) (ak st) .none kV mf pm an (.ref c) ct) c:=⟨⟨oc,od,kV,mf,pm,an,ct,yW,rfl,l,tQ⟩,kp⟩
theorem mq(kb:K.In base)(hb:oq mg base)(hc:PySem.W.codeHdIn K c P'=true):
  JC (lH CX P w K mg base N qual scope f (.ref c) A outer s H E).BJ c P':=⟨rfl,PySem.W.codeHd_of_K kb hc,hb⟩
end
def qa(sc X1:Scope)(y:Str×NameKind):Bool:=match y.2 with
 |.cell=>(match sc.names.lookup y.1 with|some .cell=>true|_=>false)
 |.local=>(match sc.names.lookup y.1 with|some .local=>true|_=>false)
 |.free=>(match X1.names.lookup y.1 with|some .cell=>true|some .free=>true|_=>false)
 |_=>true
def FY(NB:List Str)(src:List (Option Nat))(sc:Scope)(N:List Str)(i:Nat):Bool:=match NB[i]?,src[i]? with
 |some x,some (some j)=>(N[j]?==some x)&&(match sc.names.lookup x with|some .free=>true|_=>false)
 |_,_=>true
def Cb(sc:Scope):Bool:=match sc.kind with|.function=>true|_=>false
def FZ(NB:List Str)(src:List (Option Nat))(sc X1:Scope)(N:List Str):Bool:=
 Cb sc&&decide NB.Nodup&&(src.length==NB.length)&&(sc.names.all (qa sc X1))&&(List.range NB.length).all (FY NB src sc N)
theorem a_(h:FZ NB src sc X.env.scope X.N=true):gp NB src sc X:=by
 unfold FZ at h;simp only[gj,u_,fq,i6] at h;obtain⟨⟨⟨⟨h1,h2⟩,h3⟩,h4⟩,h5⟩:=h;refine⟨?_,h2,h3,fun y hy z=>?_,fun y hy z=>?_,fun y hy z=>?_,fun i x j e1 e2=>?_⟩
 .unfold Cb at h1;split at h1
  .assumption
  .cases h1
 .have:=h4 y hy;obtain⟨n,k⟩:=y;obtain rfl:k=.cell:=z;dsimp only[qa] at this |-;split at this
  .assumption
  .cases this
 .have:=h4 y hy;obtain⟨n,k⟩:=y;obtain rfl:k=.local:=z;dsimp only[qa] at this |-;split at this
  .assumption
  .cases this
 .have:=h4 y hy;obtain⟨n,k⟩:=y;obtain rfl:k=.free:=z;dsimp only[qa] at this |-;split at this
  .exact .inl (by assumption)
  .exact .inr (by assumption)
  .cases this
 .have hi:i<NB.length:=(dO.mp e1).1;have:=h5 i (bK.mpr hi);unfold FY at this;rw[e1,e2] at this;simp only[gj,fq] at this;refine⟨this.1,?_⟩;have t2:=this.2;split at t2
  .assumption
  .cases t2
theorem cP{K:PySem.W.Frag}{a D:Addr}{xs:List V}{g:TG}{tt:TT}{te:TE}{dE:Hp->Prop}{σB:St}{H0:Hp}(Pv:Nat->List V->St->Hp->Prop)(h0:Pv 0 [] σB H0)(hl:∀i ys σ H,i<=xs.length->Pv i ys σ H->aV K H a xs)(hs:∀i x ys σ H (Kt:V->St->Hp->Prop) (Kf:St->Hp->Prop),xs[i]?=some x->Pv i ys σ H->
   (∀v σ2 H4,H4 D=some (.lst ys)->ys.length<sizeLine->Pv (i+1) (ys++[v]) σ2 (upd H4 D (.lst (ys++[v])))->Kt v σ2 H4)->(∀σ2 H3,Pv (i+1) ys σ2 H3->Kf σ2 H3)->
   g x σ H fun σ2 H2=>tt σ2 H2 fun b H3=>if b=true then te σ2 H3 fun v H4=>Kt v σ2 H4 else Kf σ2 H3)(hd:∀ys σ H,Pv xs.length ys σ H->dE H):gu (Dr K a) g tt te D dE σB H0:=by
 refine⟨fun i m σ H=>m=xs.length-i/\i<=xs.length/\∃ys,Pv i ys σ H,⟨xs.length,by simp,cu _,[],h0⟩,?_⟩;rintro i m σ H ⟨rfl,hi,ys,p⟩;have q:=hl i ys σ H hi p;by_cases eL:i<xs.length
 .refine .inr ⟨⟨xs,xs[i],q,by simp[eL]⟩,?_⟩;rintro x H' ⟨rfl,y⟩;exact hs i x ys σ _ (fun v σ2 H4=>∃ys,H4 D=some (.lst ys)/\ys.length<sizeLine/\∃m',m'<xs.length-i/\m'=xs.length-(i+1)/\i+1<=xs.length/\∃sY,Pv (i+1) sY σ2 (upd H4 D (.lst (ys++[v]))))
   (fun σ2 H3=>∃m',m'<xs.length-i/\m'=xs.length-(i+1)/\i+1<=xs.length/\∃sY,Pv (i+1) sY σ2 H3) (y xs q) p
   (fun v σ2 H4 z1 z2 z3=>⟨ys,z1,z2,_,by lia,rfl,eL,_,z3⟩) (fun σ2 H3 z=>⟨_,by lia,rfl,eL,_,z⟩)
 .have e:i=xs.length:=by lia
  subst e;exact .inl ⟨⟨xs,q,aT _⟩,hd ys σ H p⟩
theorem dh{lo:Int}{n:Nat}{D:Addr}{g:TG}{tt:TT}{te:TE}{dE:Hp->Prop}{σB:St}{H0:Hp}(Pv:Nat->List V->St->Hp->Prop)(h0:Pv 0 [] σB H0)(hs:∀i ys σ H (Kt:V->St->Hp->Prop) (Kf:St->Hp->Prop),i<n->Pv i ys σ H->
   (∀v σ2 H4,H4 D=some (.lst ys)->ys.length<sizeLine->Pv (i+1) (ys++[v]) σ2 (upd H4 D (.lst (ys++[v])))->Kt v σ2 H4)->(∀σ2 H3,Pv (i+1) ys σ2 H3->Kf σ2 H3)->
   g (.int (lo+i)) σ H fun σ2 H2=>tt σ2 H2 fun b H3=>if b=true then te σ2 H3 fun v H4=>Kt v σ2 H4 else Kf σ2 H3)(hd:∀ys σ H,Pv n ys σ H->dE H):gu (Iz lo n) g tt te D dE σB H0:=by
 refine⟨fun i m σ H=>m=n-i/\i<=n/\∃ys,Pv i ys σ H,⟨n,by simp,cu _,[],h0⟩,?_⟩;rintro i m σ H ⟨rfl,hi,ys,p⟩;by_cases eL:i<n
 .refine .inr ⟨eL,?_⟩;rintro x H' ⟨rfl,rfl⟩;exact hs i ys σ _ (fun v σ2 H4=>∃ys,H4 D=some (.lst ys)/\ys.length<sizeLine/\∃m',m'<n-i/\m'=n-(i+1)/\i+1<=n/\∃sY,Pv (i+1) sY σ2 (upd H4 D (.lst (ys++[v]))))
   (fun σ2 H3=>∃m',m'<n-i/\m'=n-(i+1)/\i+1<=n/\∃sY,Pv (i+1) sY σ2 H3) eL p
   (fun v σ2 H4 z1 z2 z3=>⟨ys,z1,z2,_,by lia,rfl,eL,_,z3⟩) (fun σ2 H3 z=>⟨_,by lia,rfl,eL,_,z⟩)
 .have e:i=n:=by lia
  subst e;exact .inl ⟨aT _,hd ys σ H p⟩
section
variable {κ:Type} [DecidableEq κ]
def ot(bj:List (κ×V))(k:κ):Option V:=(bj.find? fun kv=>decide (kv.1=k)).map (·.2)
def jg(bj:List (κ×V))(k:κ)(v:V):List (κ×V):=
 if (bj.any fun kv=>decide (kv.1=k))=true then bj.map (fun kv=>if kv.1=k then (kv.1,v) else kv) else bj++[(k,v)]
theorem mr{p:κ×V}{r:List (κ×V)}{k:κ}(e:p.1=k):ot (p::r) k=some p.2:=by simp[ot,jP,e]
theorem mv{p:κ×V}{r:List (κ×V)}{k:κ}(e:¬ p.1=k):ot (p::r) k=ot r k:=by simp[ot,jP,e]
theorem rB(k:κ):∀bj:List (κ×V),(bj.any fun kv=>decide (kv.1=k))=(ot bj k).isSome
 |[]=>rfl
 |p::r=>by
  rw[iC];by_cases e:p.1=k
  .simp only[mr e,cZ e,Bool.true_or,Option.isSome_some]
  .rw[mv e,d6 e,Bool.false_or];exact rB k r
theorem j7(bj:List (κ×V))(k:κ)(v:V):(jg bj k v).length<=bj.length+1:=by
 unfold jg;split
 .rw[aI];lia
 .rw[ce,dR,List.length_nil];lia
theorem F0{bj:List (κ×V)}{k:κ}(v:V)(h:ot bj k=none):jg bj k v=bj++[(k,v)]:=by
 unfold jg;rw[rB,h];exact if_neg (by decide)
theorem kU.ow(r:kU o u):o.isSome=u.isSome:=by
 cases o with
 |none=>cases u with
  |none=>rfl
  |some _=>exact(show False from r).elim
 |some _=>cases u with
  |none=>exact(show False from r).elim
  |some _=>rfl
theorem KV.val{bj:List (κ×V)}{vs:List (κ×Value)}(r:KV bj vs)(k:κ):kU (ot bj k) (valueAt vs k):=by
 unfold KV at r;induction r with
 |nil=>exact True.intro
 |@cons p q ps qs h t ih=>
  obtain⟨h1,h2⟩:=h;by_cases e:p.1=k
  .have e':q.1=k:=h1.symm.trans e;have b:valueAt (q::qs) k=some q.2:=by simp[valueAt,jP,e']
   rw[mr e,b];exact h2
  .have e':¬ q.1=k:=fun z=>e (h1.trans z);have b:valueAt (q::qs) k=valueAt qs k:=by simp[valueAt,jP,e']
   rw[mv e,b];exact ih
theorem KV.any{bj:List (κ×V)}{vs:List (κ×Value)}(r:KV bj vs)(k:κ):(bj.any fun kv=>decide (kv.1=k))=vs.any fun kv=>decide (kv.1=k):=by
 unfold KV at r;induction r with
 |nil=>rfl
 |cons h t ih=>rw[iC,iC,ih,h.1]
theorem KV.N7{bj:List (κ×V)}{vs:List (κ×Value)}(r:KV bj vs)(k:κ){y:V}{u:Value}(ry:bw y u):
  KV (bj.map fun kv=>if kv.1=k then (kv.1,y) else kv) (vs.map fun kv=>if kv.1=k then (kv.1,u) else kv):=by
 unfold KV at r |-;induction r with
 |nil=>exact .nil
 |@cons p q ps qs h t ih=>
  rw[d7,d7];refine .cons ?_ ih;obtain⟨h1,h2⟩:=h;by_cases e:p.1=k
  .rw[am e,am (h1.symm.trans e)];exact⟨h1,ry⟩
  .rw[if_neg e,if_neg (fun z=>e (h1.trans z))];exact⟨h1,h2⟩
theorem KV.put{bj:List (κ×V)}{vs:List (κ×Value)}(r:KV bj vs)(k:κ){y:V}{u:Value}(ry:bw y u):KV (jg bj k y) (stored vs k u):=by
 unfold jg stored;rw[r.any k];by_cases e:(vs.any fun kv=>decide (kv.1=k))=true
 .rw[am e,am e];exact r.N7 k ry
 .rw[if_neg e,if_neg e];exact Paired.snoc r ⟨rfl,ry⟩
theorem KV.length{bj:List (κ×V)}{vs:List (κ×Value)}(r:KV bj vs):bj.length=vs.length:=Paired.length r
end
theorem xY(r:bw (kV k) u):(dw P w).is k u=true:=by
 cases k with
 |inl i=>obtain⟨t,e⟩:=(show ∃t,u=Value.int i t from r);subst e;exact xo P w i t
 |inr x=>obtain⟨t,e⟩:=(show ∃t,u=Value.str x t from r);subst e;exact xp P w x t
theorem uf:∀ {ks:List gJ} {us:List Value},aY (ks.map kV) us->ItemsAre (dw P w) ks us
 |[],_,r=>by rw[qN] at r;cases r;exact .nil
 |k::ks,_,r=>by
  rw[d7] at r;cases r with
  |cons h t=>exact .cons (xY h) (uf t)
abbrev KT(H:Hp):List (List gJ×V)->List (List gJ×Addr×Value)->Prop:=Paired fun p q=>p.1=q.1/\H q.2.1=some (.tup (p.1.map kV))/\bw p.2 q.2.2
theorem KT.val{H:Hp}{bj:List (List gJ×V)}{xs:List (List gJ×Addr×Value)}(r:KT H bj xs)(k:List gJ):kU (ot bj k) ((atKey xs k).map (·.2)):=by
 induction r with
 |nil=>exact True.intro
 |@cons p q ps qs h t ih=>
  obtain⟨h1,_,h2⟩:=h;by_cases e:p.1=k
  .have e':q.1=k:=h1.symm.trans e;have b:atKey (q::qs) k=some q.2:=by simp[atKey,jP,e']
   rw[mr e,b];exact h2
  .have e':¬ q.1=k:=fun z=>e (h1.trans z);have b:atKey (q::qs) k=atKey qs k:=by simp[atKey,jP,e']
   rw[mv e,b];exact ih
theorem KT.N7(r:KT H bj xs)(k:List gJ)(ry:bw y u):
  KT H (bj.map fun kv=>if kv.1=k then (kv.1,y) else kv) (xs.map (putAt k u)):=by
 induction r with
 |nil=>exact .nil
 |@cons p q ps qs h t ih=>
  rw[d7,d7];refine .cons ?_ ih;obtain⟨h1,h2,h3⟩:=h;unfold putAt;by_cases e:p.1=k
  .rw[am e,am (h1.symm.trans e)];exact⟨h1,h2,ry⟩
  .rw[if_neg e,if_neg (fun z=>e (h1.trans z))];exact⟨h1,h2,h3⟩
theorem KT.put(r:KT H bj xs)(k:List gJ)(hb:H b=some (.tup (k.map kV)))(ry:bw y u):
  KT H (jg bj k y) (storedH xs k b u):=by
 have e:(bj.any fun kv=>decide (kv.1=k))=(atKey xs k).isSome:=by
  rw[rB,(r.val k).ow,Option.isSome_map]
 unfold jg storedH;rw[e];by_cases q:(atKey xs k).isSome=true
 .rw[am q,am q];exact r.N7 k ry
 .rw[if_neg q,if_neg q];exact Paired.snoc r ⟨rfl,hb,ry⟩
theorem KT.keeps(r:KT H bj xs)(ht:∀b ys,H b=some (.tup ys)->H' b=some (.tup ys)):KT H' bj xs:=
 Paired.Nq r fun _ _ z=>⟨z.1,ht _ _ z.2.1,z.2.2⟩
section
variable {P:Program} {w:World} {H:Hp} {h:Heap} {a:Addr}
theorem MV(ok:jB P w H h)(e:Rd H a u):cw P w H h a u:=e.ok ok
theorem Cc(ok:jB P w H h)(e:Rd H a (.dK bj)):bj.length<=sizeLine/\(a==sysModules)=false/\∃vs,KV bj vs/\h.DictOf (dw P w) a vs:=
 show cw P w H h a (.dK bj) from MV ok e
theorem MW{bj:List (gJ×V)}(ok:jB P w H h)(e:H a=some (.dK bj)):bj.length<=sizeLine/\(a==sysModules)=false/\∃vs,KV bj vs/\h.DictOf (dw P w) a vs:=Cc ok (.inl e)
theorem lN(ok:jB P w H h)(e:H a=some (.tup (ks.map kV))):(tupleKind (dw P w)).is h ks a:=by
 obtain⟨_,its,r,o,h1,h2,n,h3,_⟩:=(show cw P w H h a (.tup (ks.map kV)) from ok a _ e)
 exact⟨o,its.toArray,n,h1,h2,h3,by simpa using uf r⟩
theorem Cd(ok:jB P w H h)(e:Rd H a (.dT bj)):bj.length<=sizeLine/\(a==sysModules)=false/\
  ∃xs,KT H bj xs/\h.DictOfH (tupleKind (dw P w)) a xs:=by
 obtain⟨z,y,xs,r,o,es,ep,h1,h2,h3,h4,h5⟩:=(show cw P w H h a (.dT bj) from MV ok e)
 refine⟨z,y,xs,r,o,es,ep,h1,h2,h3,h4,fun x hx=>?_,h5⟩;have all:∀ {l:List (List gJ×V)} {m:List (List gJ×Addr×Value)},KT H l m->∀x∈m,(tupleKind (dw P w)).is h x.1 x.2.1:=by
  intro l m q;induction q with
  |nil=>intro x hx;exact nomatch hx
  |@cons p q ps qs hq t ih=>
   intro x hx;rcases bi.mp hx with e|hx
   .subst e;exact lN ok (by rw[<-hq.1];exact hq.2.1)
   .exact ih x hx
 exact all r x hx
theorem So{bj:List (List gJ×V)}(ok:jB P w H h)(e:H a=some (.dT bj)):bj.length<=sizeLine/\(a==sysModules)=false/\
  ∃xs,KT H bj xs/\h.DictOfH (tupleKind (dw P w)) a xs:=Cd ok (.inl e)
end
def sZ(H:Hp)(a:Addr)(y:V)(r:Option V):Prop:=
 (∃bj k,Rd H a (.dK bj)/\y=kV k/\r=ot bj k)\/∃bj k b,Rd H a (.dT bj)/\y=.ref b/\H b=some (.tup (k.map kV))/\r=ot bj k
def F1(H:Hp)(a:Addr)(y v:V)(H':Hp):Prop:=
 (∃bj k,H a=some (.dK bj)/\y=kV k/\bj.length<sizeLine/\H'=upd H a (.dK (jg bj k v)))\/
 ∃bj k b,H a=some (.dT bj)/\y=.ref b/\H b=some (.tup (k.map kV))/\bj.length<sizeLine/\H'=upd H a (.dT (jg bj k v))
theorem sZ.k{H:Hp}{a:Addr}{bj:List (gJ×V)}{k:gJ}(e:H a=some (.dK bj)):sZ H a (kV k) (ot bj k):=.inl ⟨bj,k,.inl e,rfl,rfl⟩
theorem F1.k{H:Hp}{a:Addr}{bj:List (gJ×V)}{k:gJ}{v:V}(e:H a=some (.dK bj))(hl:bj.length<sizeLine):F1 H a (kV k) v (upd H a (.dK (jg bj k v))):=.inl ⟨bj,k,e,rfl,hl,rfl⟩
section
variable {X:Cx} {ae:List (Addr×Obj)} {σ:St} {H:Hp} {s:Shared} {a:Addr} {y v:V} {u r:Value} {o:Option V} {A:Around} {E:Value->Shared->Prop}
theorem aM.big(I:aM X ae σ H s):sysModules<s.heap.objs.size:=by
 have h:mainGlobals<s.heap.objs.size:=(I.mod.glob.keeps I.bk).lt;exact vx (by decide) h
theorem DU{Q:Value->Shared->Prop}(hu:A.units+1<cLine)(I:aM X ae σ H s)(g:sZ H a y (some v))(ry:bw y u)(h:∀w' s',aM X ae σ H s'->bw v w'->Q w' s'):
  wpAny (model X.prog X.w) A (getItem (.ref a) u) Q E s:=by
 rcases g with ⟨bj,k,e,ey,l⟩|⟨bj,k,b,e,ey,eb,l⟩
 .subst ey;obtain⟨z,hd,vs,s_,dd⟩:=Cc I.bL e;obtain⟨w',hw,rf⟩:=kU.some_of (v:=v) (o:=valueAt vs k) (by rw[l];exact s_.val k);exact wpAny_getItem_of (xY ry) dd.mapOf hw (h w' _ (I.tok _) rf)
 .subst ey;cases (show u=Value.ref b from ry);obtain⟨z,hd,xs,s_,dd⟩:=Cd I.bL e;obtain⟨w',hw,rf⟩:=kU.some_of (v:=v) (o:=(atKey xs k).map (·.2)) (by rw[l];exact s_.val k);obtain⟨p,hp,QE⟩:=zj.mp hw;refine wpAny_getItem_heap (z4 hu) (lN I.bL eb) dd hp ?_;rw[QE];exact h w' _ (I.tok _) rf
theorem JG{Q:Value->Shared->Prop}(hu:A.units+1<cLine)(I:aM X ae σ H s)(g:sZ H a y o)(ry:bw y u)(h:∀s',aM X ae σ H s'->Q (.bool (!o.isSome)) s'):
  wpAny (model X.prog X.w) A (compareOp .NotIn u (.ref a)) Q E s:=by
 rcases g with ⟨bj,k,e,ey,l⟩|⟨bj,k,b,e,ey,eb,l⟩
 .subst ey;obtain⟨z,hd,vs,s_,dd⟩:=Cc I.bL e;refine wpAny_notIn_of (xY ry) hd dd.mapOf ?_;rw[<-(s_.val k).ow,<-l];exact h _ (I.tok _)
 .subst ey;cases (show u=Value.ref b from ry);obtain⟨z,hd,xs,s_,dd⟩:=Cd I.bL e;refine wpAny_notIn_heap (z4 hu) (lN I.bL eb) hd dd ?_;have q:=(s_.val k).ow;rw[Option.isSome_map] at q;rw[<-q,<-l];exact h _ (I.tok _)
theorem vU{h':Heap}{t':Nat}{ob:HO}(I:aM X ae σ H s)(mu:Rg (H a))(hs:Heap.SameBut a s.heap h')(he:∃q,h'.get? a=some q)(new:cw X.prog X.w (upd H a ob) h' a ob):
  aM X ae σ (upd H a ob) { s with heap:=h',toks:=t' }:=
 I.write (x:=a) (e:=a) mu (.inl rfl) (fun b q hb z=>(hs.2 b hb).trans z) he new
theorem F2{P:Program}{w:World}{H':Hp}{h':Heap}{bj:List (gJ×V)}{vs:List (gJ×Value)}(z:bj.length<=sizeLine)(hd:(a==sysModules)=false)(s_:KV bj vs)(dd:h'.DictOf (dw P w) a vs):
  cw P w H' h' a (.dK bj):=⟨z,hd,vs,s_,dd⟩
theorem DV{H':Hp}{Q:Unit->Shared->Prop}(hu:A.units+1<cLine)(I:aM X ae σ H s)(g:F1 H a y v H')(ry:bw y u)(rv:bw v r)(h:∀s',aM X ae σ H' s'->Q () s'):
  wpAny (model X.prog X.w) A (setItem (.ref a) u r) Q E s:=by
 rcases g with ⟨bj,k,e,ey,l,eH⟩|⟨bj,k,b,e,ey,eb,l,eH⟩
 .subst ey eH;obtain⟨z,hd,vs,s_,dd⟩:=MW I.bL e;have hz:vs.length<=sizeLine:=by rw[<-s_.length];exact z
  have hl:(jg bj k v).length<=sizeLine:=by have:=j7 bj k v;lia
  refine wpAny_setItem_pairs (hsz:=hz) (xY ry) dd fun h' N8 hs=>h _ ?_;have he:∃q,h'.get? a=some q:=let ⟨q,_,_,hq,_⟩:=N8;⟨q,hq⟩;exact vU I (by rw[e];exact True.intro) hs he (F2 hl hd (s_.put k rv) N8)
 .subst ey eH;cases (show u=Value.ref b from ry);obtain⟨z,hd,xs,s_,dd⟩:=So I.bL e;have hz:xs.length<=sizeLine:=by rw[<-Paired.length s_];exact z
  have hl:(jg bj k v).length<=sizeLine:=by have:=j7 bj k v;lia
  refine wpAny_setItem_heap (hsz:=hz) (z4 hu) (lN I.bL eb) dd fun h' N8 hs=>h _ ?_;obtain⟨q,es,ep,hq,h2,h3,h4,_,h5⟩:=N8;refine vU I (by rw[e];exact True.intro) hs ⟨q,hq⟩ ⟨hl,hd,_,(s_.put k eb rv).keeps fun c ys ec=>?_,q,es,ep,hq,h2,h3,h4,h5⟩;rw[ao (fu ec e (fun z=>nomatch z))];exact ec
end
section
variable {X:Cx} {ae:List (Addr×Obj)} {σ:St} {H:Hp} {s:Shared} {a:Addr} {bj:List (gJ×V)} {k:gJ} {u:Value} {A:Around} {E:Value->Shared->Prop}
end
def Sq(i:Expr):Prop:=∀ov iv,subscripted i false ov iv=operate [ov,iv] (getItem ov iv)
theorem JI{prog:Program}{w:World}{A:Around}{E:Value->Shared->Prop}{s:Shared}{env:Env}{value slice:Expr}{pos:Pos}{T id:String}{Q:Value->Shared->Prop}(hl:typeLookup (.type T) "__getitem__"=pure (some (.builtin id)))(hs:Sq slice)(h:wpAny (model prog w) A (eval value env) (fun o s₁=>wpAny (model prog w) A (eval slice env) (fun i s₂=>s₂.TypeIs o T/\wpAny (model prog w) A (getItem o i) Q E s₂) E s₁) E s):
  wpAny (model prog w) A (eval (.Subscript value slice pos) env) Q E s:=by
 refine Subscript_ (f9 h (fun o s₁ h₁=>f9 h₁ (fun i s₂ h₂=>?_) fun _ _ x=>x) fun _ _ x=>x);obtain⟨hT,h₂⟩:=h₂;unfold subscriptTail;refine aw ?_;rw[getitemInPython_of_ne hT.not_modules];refine aw (wpAny_specialOf hT hl ?_);have dE:wpAny (model prog w) A (subscripted slice false o i) (fun r s₃=>wpAny (model prog w) A (letTemporaryGo value o r >>= fun _=>pure r) Q E s₃) E s₂:=by
  rw[hs o i];exact wpAny_operating (f9 h₂ (fun r s₃ h₃=>aw (wpAny_letTemporaryGo (wpAny_pure h₃))) fun _ _ x=>x)
 first
  |exact wpAny_pure (aw dE)
  |exact aw (wpAny_pure (aw dE))
  |exact aw dE
theorem xZ{X:Cx}{ae:List (Addr×Obj)}{σ:St}{H:Hp}{s:Shared}{a:Addr}{y:V}{o:Option V}(I:aM X ae σ H s)(g:sZ H a y o):s.TypeIs (.ref a) "dict":=by
 rcases g with ⟨bj,k,e,_,_⟩|⟨bj,k,b,e,_,_,_⟩
 .obtain⟨_,_,vs,_,dd⟩:=Cc I.bL e;exact dd.typeIs
 .obtain⟨_,_,xs,_,dd⟩:=Cd I.bL e;exact dd.typeIs
def MX(td ty:TE):TE:=fun σ H Q=>td σ H fun x H1=>ty σ H1 fun y H2=>∃a v,x=.ref a/\sZ H2 a y (some v)/\Q v H2
def JJ(ty td:TE):TE:=fun σ H Q=>ty σ H fun y H1=>td σ H1 fun x H2=>∃a o,x=.ref a/\sZ H2 a y o/\Q (.bl (!o.isSome)) H2
def Sr(td ty tv:TE):TS:=fun D σ H=>tv σ H fun v H1=>td σ H1 fun x H2=>ty σ H2 fun y H3=>∃a H4,x=.ref a/\F1 H3 a y v H4/\D.nx σ H4
section
variable {X:Cx} {o i e value:Expr} {pos sM Ji:Pos} {td ty tv:TE}
theorem Ce(hu:X.A.units+1<cLine)(ho:PE X o td)(hi:PE X i ty)(hs:Sq i):PE X (.Subscript o i pos) (MX td ty):=by
 intro ae s σ H Q I h;refine JI PySem.F.slot_dict_getitem.lookup hs (cz (ho ae s σ H _ I h) fun u s1 ⟨x,H1,I1,rx,q1⟩=>cz (hi ae s1 σ H1 _ I1 q1) fun iv s2 ⟨y,H2,I2,ry,a,v,ex,g,q2⟩=>?_);subst ex;obtain rfl:u=Value.ref a:=rx;exact⟨xZ I2 g,DU hu I2 g ry fun w' s3 I3 rf=>⟨v,H2,I3,rf,q2⟩⟩
theorem DW(hu:X.A.units+1<cLine)(hi:PE X i ty)(ho:PE X o td):PC X .NotIn i o (JJ ty td):=by
 intro ae s σ H Q I h;refine cz (hi ae s σ H _ I h) fun iv s1 ⟨y,H1,I1,ry,q1⟩=>cz (ho ae s1 σ H1 _ I1 q1) fun u s2 ⟨x,H2,I2,rx,a,ov,ex,g,q2⟩=>?_;subst ex;obtain rfl:u=Value.ref a:=rx;exact JG hu I2 g ry fun s3 I3=>⟨.bl (!ov.isSome),H2,I3,rfl,q2⟩
theorem JK(hu:X.A.units+1<cLine)(ho:PE X o td)(hi:PE X i ty)(hv:PE X value tv)(hs:swapsWith value (some (.Subscript o i sM)) pos.line X.env=pure false):
  PS X (.Assign [.Subscript o i sM] value pos) (Sr td ty tv):=by
 intro ae s σ H D I h;refine wpAny_Assign_Subscript (cz (hv ae s σ H _ I h) fun r s1 ⟨v,H1,I1,rv,q1⟩=>cz (ho ae s1 σ H1 _ I1 q1) fun u s2 ⟨x,H2,I2,rx,q2⟩=>cz (hi ae s2 σ H2 _ I2 q2) fun iv s3 ⟨y,H3,I3,ry,a,H4,ex,g,q3⟩=>?_) hs;subst ex;obtain rfl:u=Value.ref a:=rx;exact DV hu I3 g ry rv fun s4 I4=>⟨σ,H4,I4,q3⟩
end
theorem F3{P:Program}{w:World}{H:Hp}(h:Heap)(hb:sysModules<h.objs.size):cw P w H (h.push { cls:=.type "dict",data:=.dict #[] }) h.objs.size (.dK []):=
 ⟨cu _,lq.mpr (iF (aW hb)),[],.nil,Heap.DictOf.new h⟩
section
variable {X:Cx} {pos:Pos}
end
def AO:List (TE×TE)->St->Hp->(List (V×V)->Hp->Prop)->Prop
 |[],_,H,Q=>Q [] H
 |(tk,tv)::r,σ,H,Q=>tk σ H fun x H1=>tv σ H1 fun y H2=>AO r σ H2 fun ps H3=>Q ((x,y)::ps) H3
abbrev VV:List (V×V)->List (Value×Value)->Prop:=Paired fun p q=>bw p.1 q.1/\bw p.2 q.2
def VZ(X:Cx)(pos:Pos)(gR:List (Option Expr))(rC:List Expr)(JM:List (TE×TE)):Prop:=
 ∀ (ae:List (Addr×Obj)) (s:Shared) (σ:St) (H:Hp) (Q:List (V×V)->Hp->Prop),aM X ae σ H s->AO JM σ H Q->
  wpAny (model X.prog X.w) X.A (evalPairs (pairTrees gR rC X.env pos)) (fun vs s'=>∃ps H',aM X ae σ H' s'/\VV ps vs/\Q ps H') X.xe s
theorem JN{X:Cx}{pos:Pos}:VZ X pos [] [] []:=fun ae s σ H Q I h=>pairTrees_nil_walk ⟨[],H,I,.nil,h⟩
theorem F4{X:Cx}{pos:Pos}{k v:Expr}{ks:List (Option Expr)}{vs:List Expr}{tk tv:TE}{JM:List (TE×TE)}(hk:PE X k tk)(hv:PE X v tv)(hr:VZ X pos ks vs JM):
  VZ X pos (some k::ks) (v::vs) ((tk,tv)::JM):=fun ae s σ H Q I h=>
 pairTrees_cons_walk (cz (hk ae s σ H _ I h) fun u s1 ⟨x,H1,I1,rx,q1⟩=>cz (hv ae s1 σ H1 _ I1 q1) fun w2 s2 ⟨y,H2,I2,ry,q2⟩=>
  cz (hr ae s2 σ H2 _ I2 q2) fun ws s3 ⟨ps,H3,I3,s_,q3⟩=>⟨(x,y)::ps,H3,I3,.cons ⟨rx,ry⟩ s_,q3⟩)
def oy(bj more:List (gJ×V)):List (gJ×V):=more.foldl (fun d5 kv=>jg d5 kv.1 kv.2) bj
theorem KV.merge:∀ {more:List (gJ×V)} {rs:List (gJ×Value)} {bj:List (gJ×V)} {vs:List (gJ×Value)},KV more rs->KV bj vs->KV (oy bj more) (merged vs rs):=by
 intro more rs bj vs r;unfold KV at r;induction r generalizing bj vs with
 |nil=>intro q;exact q
 |@cons p q ps qs h t ih=>
  intro r0;have e:KV (jg bj p.1 p.2) (stored vs q.1 q.2):=by
   have:=r0.put p.1 h.2;rw[<-h.1];exact this
  exact ih e
theorem lh:∀ (more bj:List (gJ×V)),(oy bj more).length<=bj.length+more.length
 |[],bj=>by show bj.length<=bj.length+0;lia
 |p::r,bj=>by
  have h1:=lh r (jg bj p.1 p.2);have h2:=j7 bj p.1 p.2;show (oy (jg bj p.1 p.2) r).length<=_;rw[dR];lia
theorem rD{P:Program}{w:World}:∀ {bj:List (gJ×V)} {ws:List (Value×Value)},VV (bj.map fun kv=>(kV kv.1,kv.2)) ws->∃rs,Carries (dw P w) ws rs/\KV bj rs
 |[],_,r=>by rw[qN] at r;cases r;exact⟨[],True.intro,.nil⟩
 |p::bj,_,r=>by
  rw[d7] at r;cases r with
  |@cons a b as bs h t=>
   obtain⟨rs,c,q⟩:=rD (P:=P) (w:=w) t;obtain⟨b1,b2⟩:=b;exact⟨(p.1,b2)::rs,⟨xY h.1,rfl,c⟩,.cons ⟨rfl,h.2⟩ q⟩
def Ss(JM:List (TE×TE)):TE:=fun σ H Q=>∀p,H p=none->AO JM σ (upd H p (.dK [])) fun ps H2=>H2 p=some (.dK [])/\∃bj:List (gJ×V),ps=bj.map (fun kv=>(kV kv.1,kv.2))/\bj.length<=15/\Q (.ref p) (upd H2 p (.dK (oy [] bj)))
theorem JO{X:Cx}{pos:Pos}{gR:List (Option Expr)}{rC:List Expr}{JM:List (TE×TE)}(h:VZ X pos gR rC JM)(sV:gR.all (·.isSome)=true)(hl:gR.length=rC.length)(h0:gR≠[])(h15:gR.length<=15):PE X (.Dict gR rC pos) (Ss JM):=by
 intro ae s σ H Q I q;have hn:=I.bL.fresh (aT s.heap.objs.size);have I1:=I.laid (a:=s.heap.objs.size) (o:=.dK []) (h':=s.heap.push { cls:=.type "dict",data:=.dict #[] }) (t':=s.toks) (fun _ _ q=>b9 _ q) (aT _) (F3 s.heap I.big);refine wpAny_Dict_walk (knd:=dw X.prog X.w) sV hl h0 h15 (cz (h ae _ σ _ _ I1 (q _ hn)) fun ws s2 ⟨ps,H2,I2,s_,e,bj,ep,lk,q2⟩=>?_);subst ep;obtain⟨rs,c,rk⟩:=rD (P:=X.prog) (w:=X.w) s_;obtain⟨z,hd,vs0,r0,dd⟩:=MW I2.bL e;cases r0;refine⟨rs,c,dd,fun h' N8 hs=>⟨.ref s.heap.objs.size,_,?_,rfl,q2⟩⟩;have hz:(oy [] bj).length<=sizeLine:=by
  have h1:=lh bj [];rw[List.length_nil] at h1;rw[fX];lia
 have he:∃q,h'.get? s.heap.objs.size=some q:=let ⟨q,_,_,hq,_⟩:=N8;⟨q,hq⟩;exact vU I2 (by rw[e];exact True.intro) hs he (F2 hz hd (rk.merge .nil) N8)
section
variable {X:Cx} {ae:List (Addr×Obj)} {σ:St} {H:Hp} {s:Shared} {a:Addr} {y d:V} {u r:Value} {o:Option V} {A:Around} {E:Value->Shared->Prop}
end
section
variable {X:Cx} {o e f:Expr} {vE vJ:Pos} {td ty tx:TE}
end
section
variable {X:Cx} {ae:List (Addr×Obj)} {σ:St} {H:Hp} {s:Shared} {a:Addr} {bj:List (gJ×V)} {A:Around} {E:Value->Shared->Prop}
end
section
variable {X:Cx} {ae:List (Addr×Obj)} {σ:St} {H:Hp} {s:Shared} {a:Addr} {y:V} {u:Value} {A:Around} {E:Value->Shared->Prop}
end
section
variable {X:Cx}
end
section
variable {κ:Type} [DecidableEq κ]
end
section
variable {X:Cx}
theorem rE:∀ {xs:List V} {its:List Value},aY xs its->xs.all eQ=true->its.countP (vH x)=xs.countP (fun z=>mh z x)
 |[],_,.nil,_=>rfl
 |y::xs,_,.cons (b:=u) r rr,f=>by
  have fy:eQ y=true:=by rw[jS,gj] at f;exact f.1
  have fx:xs.all eQ=true:=by rw[jS,gj] at f;exact f.2
  have h1:[u].any (vH x)=[y].any (fun z=>mh z x):=kH (.cons r .nil) (by simp[fy]);have h2:vH x u=mh y x:=by simpa using h1
  rw[nu,nu,rE rr fx,h2]
def F5:V->List V->Hp->VK->Prop:=fun x vs H Q=>∃ (l:Addr) (xs:List V) (y:V),x=.ref l/\vs=[y]/\H l=some (.lst xs)/\eQ y=true/\xs.all eQ=true/\Q (.int (xs.countP fun z=>mh z y)) H
theorem rF:Xn X "list.count" F5:=by
 intro ae s σ H x vs v us Q I rx rv h;obtain⟨l,xs,y,rfl,rfl,hH,fy,fs,q⟩:=h;cases rx;obtain⟨u,rfl,ru⟩:=rv.one;obtain⟨z,its,n,r,hl,e⟩:=I.Dz hH;refine qT F.slot_list_count ⟨_,e,rfl⟩ F.entry_list_count (F.args_list_count_2 _ _) (SeqAt.list_countAt l its.toArray n none #[] u (vH y)) ⟨e,fun w hw=>iS ru fy r fs w (by simpa using hw),?_⟩;refine⟨.int _,H,I.tok _,⟨s.toks,?_⟩,q⟩;rw[show its.toArray.toList=its by simp,rE r fs]
end
theorem aM.JP(I:aM X ae σ H s)(fe:fP X ae H e)(fi:fP X ae H it)(k:∀b o,b≠e->b≠it->s.heap.get? b=some o->h'.get? b=some o)(ke:∃o,h'.get? e=some o)(ki:∃o,h'.get? it=some o)(hp:s.heap.objs.size<=p)(hl:xs.length<=sizeLine)(r:aY xs its)(ht:h'.get? p=some { cls:=.type "tuple",data:=.seq its.toArray }):aM X ae σ (upd H p (.tup xs)) { s with heap:=h',toks:=t' }:=by
 have hn:=I.bL.fresh hp;obtain⟨e0,e1,e2,e3,e4,e5⟩:=fe;obtain⟨i0,i1,i2,i3,i4,i5⟩:=fi;have ne:∀b o,s.heap.get? b=some o->b≠p:=fun b o q=>aW (b_ (a8 q) hp);have Cf:∀b o,H b=some o->b≠e/\b≠it:=fun b o q=>⟨(fun z=>by rw[z,e0] at q;cases q),(fun z=>by rw[z,i0] at q;cases q)⟩
 refine I.step (g':=s.gens) (d':=s.drawn) (ch:=[e,it]) (fun b hb=>?_) (fun b o _ _ hb q _=>?_) (fun b o _ _ hb q _=>⟨o.slots,?_⟩) (fun b o hb q n=>by rw[ao (ne b o q)];exact n) (fun b o hb q=>⟨o,?_⟩)
  (fun b ys q=>by rw[ao (aj q hn)];exact q) (fun b o u q=>by rw[ao (aj q hn)];exact q) (fun b ps q=>⟨#[],by rw[ao (aj q hn),q];simp⟩) (fun m hm=>?_) (fun b o q=>?_) I.bare
 .rcases bi.mp hb with rfl|hb
  .exact⟨e3,e1,e4,e5⟩
  .rw[cA.mp hb];exact⟨i3,i1,i4,i5⟩
 .exact k b o (fun z=>hb (z ▸ cg)) (fun z=>hb (z ▸ cp _ cg)) q
 .exact k b o (fun z=>hb (z ▸ cg)) (fun z=>hb (z ▸ cp _ cg)) q
 .exact k b o (fun z=>hb (z ▸ cg)) (fun z=>hb (z ▸ cp _ cg)) q
 .obtain⟨o,es,ep,q,d,r'⟩:=hm;exact⟨o,es,ep,k _ _ e1.symm i1.symm q,d,r'⟩
 .by_cases hb:b=p
  .subst hb;rw[af] at q;cases q;exact⟨hl,its,r,_,ht,rfl,_,rfl,rfl⟩
  .rw[ao hb] at q;refine(I.bL b o q).l6 (fun c u hc z=>k c u ?_ ?_ z) (fun c z=>by rw[ao (aj z hn)];exact z) fun c ys z=>by rw[ao (aj z hn)];exact z
   .rcases hc with rfl|hc
    .exact(Cf _ _ q).1
    .exact(Cf _ _ hc).1
   .rcases hc with rfl|hc
    .exact(Cf _ _ q).2
    .exact(Cf _ _ hc).2
section
variable {X:Cx}
end
section
variable {prog:Program} {w:World} {A:Around} {E:Value->Shared->Prop} {s:Shared}
theorem lO(EA:s.heap.IsTupleIter it t i)(ht:s.heap.IsTuple t xs)(hx:xs[i]?=some x)(q:∀h',h'.IsTupleIter it t (i+1)->Heap.SameBut it s.heap h'->Q x { s with heap:=h' }):wpAny (model prog w) A (Builtin.SmallTypes.nextOf (.ref it)) Q E s:=by
 obtain⟨o,h1,h2,h3⟩:=id EA;obtain⟨p,k1,_,n,k3⟩:=ht;unfold Builtin.SmallTypes.nextOf;refine aw (qw (name:=Str.ofString "__next__") EA.typeIs F.slot_tuple_iterator_next (nC F.slot_tuple_iterator_next EA.typeIs F.entry_tuple_iterator_next ?_ (F.args_tuple_iterator_next_1 _)));change wpAny _ _ (field (.ref it) 0 >>= _) _ _ s;refine aw (f8 h1 h3 (x:=.ref t) rfl ?_);change wpAny _ _ (if (Value.ref t==Value.none)=true then _ else _) _ _ s;rw[if_neg (by exact cJ)];change wpAny _ _ (field (.ref it) 1 >>= _) _ _ s;refine aw (f8 h1 h3 (x:=.int i 0) rfl ?_);change wpAny _ _ (seqItems? (.ref t) >>= _) _ _ s;refine aw (jQ k1 k3 ?_);simp only[fT,hx];refine aw (wpAny_setField h1 h3 (by simp) (wpAny_pure ⟨x,rfl,wpAny_pure (q _ ?_ (ng ..))⟩));refine⟨_,zH _ h1 (Obj.isFreed_of_fields (Obj.data_mapFields h3 _)),(Obj.cls_mapFields ..).trans h2,?_⟩;rw[Obj.data_mapFields h3];simp[rawInt]
theorem oz(hh:A.handled=none)(EA:s.heap.IsTupleIter it t i)(ht:s.heap.IsTuple t xs)(hx:xs[i]?=none)(q:∀h' e,Heap.ExtBut it s.heap h'->(∃o,h'.get? e=some o/\o.cls=.type "StopIteration")->E (.ref e) { s with heap:=h' }):wpAny (model prog w) A (Builtin.SmallTypes.nextOf (.ref it)) Q E s:=by
 obtain⟨o,h1,h2,h3⟩:=id EA;obtain⟨p,k1,_,n,k3⟩:=ht;unfold Builtin.SmallTypes.nextOf;refine aw (qw (name:=Str.ofString "__next__") EA.typeIs F.slot_tuple_iterator_next (nC F.slot_tuple_iterator_next EA.typeIs F.entry_tuple_iterator_next ?_ (F.args_tuple_iterator_next_1 _)));change wpAny _ _ (field (.ref it) 0 >>= _) _ _ s;refine aw (f8 h1 h3 (x:=.ref t) rfl ?_);change wpAny _ _ (if (Value.ref t==Value.none)=true then _ else _) _ _ s;rw[if_neg (by exact cJ)];change wpAny _ _ (field (.ref it) 1 >>= _) _ _ s;refine aw (f8 h1 h3 (x:=.int i 0) rfl ?_);change wpAny _ _ (seqItems? (.ref t) >>= _) _ _ s;refine aw (jQ k1 k3 ?_);simp only[fT,hx];refine aw (iD (aw (wpAny_setField h1 h3 (by simp) ?stop)));case stop=>
  change wpAny _ _ (newExc (.type "StopIteration") [] >>= _) _ _ _;refine aw ?_;simp only[newExc,newTuple];refine aw (z_ (aw (m:=firstArgMember _ _) (wpAny_of_eq (a:=Value.none) (by simp only[firstArgMember];rfl) (z_ ?_ (by size_fits)))) (by size_fits));simp only[raiseNew];refine aw (wpAny_handled ?_);rw[show A.in1.handled=none from hh];exact aw (wpAny_pure (wpAny_throw (q _ _ (fun b u hb z=>b9 _ (b9 _ ((zD _ _ (iF hb)).trans z))) ⟨_,cL _ rfl,rfl⟩)))
theorem x_(hh:A.handled=none)(it t:Addr)(og:t≠it)(xs:Array Value):Draws prog w A it [it,t] xs.size (fun i v=>xs[i]?=some v) (fun i h=>h.IsTupleIter it t i/\h.IsTuple t xs) where
 live:=fun _ _ st=>let ⟨o,ho,_⟩:=st.1;⟨o,ho⟩
 frame:=fun _ _ _ st hk=>⟨st.1.at fun o e=>hk it (by simp) o e,let ⟨o,e,r⟩:=st.2;⟨o,hk t (by simp) o e,r⟩⟩
 item:=fun i s Q E hi st q=>by
  refine lO st.1 st.2 (x:=xs[i]) (by simp[hi]) fun h' a b=>?_;obtain⟨o,e,r⟩:=st.2;exact q _ h' s.toks (by simp[hi]) ⟨a,o,(b.2 t og).trans e,r⟩ b
 done:=fun s Q E st q=>oz hh st.1 st.2 (by simp) q
end
theorem DX(t:Addr)(xs:Array Value):
  Meets (Builtin.«enumerate.__new__» ⟨[.type "enumerate",.ref t],[]⟩) (fun _ R s=>s.heap.IsTuple t xs/\
   R (.ok (.ret (.ref (s.heap.push { cls:=.type "tuple_iterator",data:=.fields #[.ref t,.int 0 0] }).objs.size)))
    { s with heap:=(s.heap.push { cls:=.type "tuple_iterator",data:=.fields #[.ref t,.int 0 0] }).push { cls:=.type "enumerate",data:=.fields #[.none,.bool false,.ref s.heap.objs.size,rawInt 0,.none,.none] } }):=
 .of_wp fun prog w A R s h=>by
  obtain⟨hp,g,d,tk,os⟩:=s;obtain⟨hT,h⟩:=h;have hs:=sub_enumerate
  wp_walk
  refine wpAny_stack_any fun st=>wpAny_pure ?_;split
  .rename_i c _ _ _ _ _;cases (c==Value.type "enumerate") <;> (wp_walk using qE hT;exact⟨_,rfl,h⟩)
  .wp_walk using qE hT
   exact⟨_,rfl,h⟩
theorem AQ(ht:s.heap.IsTuple t xs)(h:∀h',IsEnum h' (s.heap.objs.size+1) s.heap.objs.size 0 .none->h'.IsTupleIter s.heap.objs.size t 0->(∀b o,s.heap.get? b=some o->h'.get? b=some o)->Q (.ref (s.heap.objs.size+1)) { s with heap:=h' }):
  wpAny (model prog w) A (call (.type "enumerate") [.ref t]) Q E s:=by
 refine callType_new F.called_enumerate (by decide) (F.typeCall_enumerate_1 _) (F.newCall_enumerate_1 _) (fun obj=>F.args_object_init_2 obj _) F.entry_enumerate_new (DX t xs) ⟨ht,?_⟩;have hz:(s.heap.push { cls:=.type "tuple_iterator",data:=.fields #[.ref t,.int 0 0] }).objs.size=s.heap.objs.size+1:=gx ..;have he:IsEnum ((s.heap.push { cls:=.type "tuple_iterator",data:=.fields #[.ref t,.int 0 0] }).push
   { cls:=.type "enumerate",data:=.fields #[.none,.bool false,.ref s.heap.objs.size,rawInt 0,.none,.none] }) (s.heap.objs.size+1) s.heap.objs.size 0 .none:=by
  have q:=cL (s.heap.push { cls:=.type "tuple_iterator",data:=.fields #[.ref t,.int 0 0] }) (o:={ cls:=.type "enumerate",data:=.fields #[.none,.bool false,.ref s.heap.objs.size,rawInt 0,.none,.none] }) rfl;rw[hz] at q;exact q
 show _/\_;rw[hz];exact⟨⟨_,he,rfl⟩,h _ he ⟨_,b9 _ (cL _ rfl),rfl,rfl⟩ fun b o x=>b9 _ (b9 _ x)⟩
def N9(K:PySem.W.Frag)(a:Addr):It:=
 ⟨fun i H=>∃xs x,bW K H a xs/\xs[i]?=some x,fun i H x H'=>∃p v,x=.ref p/\H p=none/\H'=upd H p (.tup [.int i,v])/\∀xs,bW K H a xs->xs[i]?=some v,fun i H=>∃xs,bW K H a xs/\xs.length<=i⟩
theorem AR{P:Program}{w:World}{K:PySem.W.Frag}{es:List Expr}{x1:Nat}{pos:Pos}(a e it:Addr)(og:e≠it)(hae:a≠e)(hai:a≠it):
  xz P w K (.Tuple es x1 pos) (N9 K a) [e,it] e (fun i h=>(∃hW,IsEnum h e it (i:Int) hW)/\h.IsTupleIter it a i) where
 mem:=by simp
 obj:=fun i h st b hb=>by
  obtain⟨⟨hW,he⟩,⟨o,q,c,d⟩⟩:=st;rcases bi.mp hb with rfl|hb
  .exact⟨_,he,fun v z=>by
    have z':Data.fields _=Data.cell v:=z;cases z'⟩
  .rw[cA.mp hb];exact⟨o,q,fun v z=>by rw[d] at z;cases z⟩
 keep:=fun i h h' st k=>by
  obtain⟨⟨hW,he⟩,hi⟩:=st;exact⟨⟨hW,k e (by simp) _ he⟩,hi.at fun o q=>k it (by simp) o q⟩
 item:=by
  intro X hP hw hK hc i ae s σ H E I hf st hg;subst hP hw hK;obtain⟨xs,x,hq,hx⟩:=hg;obtain⟨its,rv,p,hz⟩:=I.tuple hq;obtain⟨u,hu,ru⟩:=rv.get hx;obtain⟨⟨hW,he⟩,hi⟩:=st;have eL:i<its.toArray.size:=by
   have:=(dO.mp hu).1;simpa using this
  have D:=x_ (prog:=X.prog) (w:=X.w) (A:=X.A.in1) (I.ok.hd hc) it a hai its.toArray;refine wpAny_pyNext_enum_itemD D he ⟨hi,p⟩ eL og (by simp[og,hae.symm]) fun u' h' tk sX ho kW ht hsz k=>?_;have eu:u'=u:=by
   have h1:its.toArray[i]?=some u:=by simpa using hu
   rw[h1] at sX;exact(bh sX).symm
  subst eu;refine⟨_,rfl,wpAny_letOwnedTupleGo_enum ho fun h2 he2 pF=>?_⟩;have hpe:s.heap.objs.size≠e:=i9 (a8 he);have EB:h2.IsTupleIter it a (i+1):=kW.1.at fun o q=>(pF.2 it og.symm).trans q;have fe:=hf e (by simp);have fi:=hf it (by simp);have I2:aM X ae σ (upd H s.heap.objs.size (.tup [.int i,x])) { s with heap:=h2,toks:=tk+1 }:=by
   refine I.JP (its:=[.int i tk,u']) fe fi (fun b o h1 h3 q=>(pF.2 b h1).trans (k b o h1 h3 q)) ⟨_,he2⟩ ?_ (aT _) (by show 2<=sizeLine;decide) (.cons ⟨_,rfl⟩ (.cons ru .nil)) ((pF.2 _ hpe).trans ht);obtain⟨o,q,_⟩:=EB;exact⟨o,q⟩
  refine⟨.ref s.heap.objs.size,_,I2,rfl,⟨_,x,rfl,I.bL.fresh (aT _),rfl,fun ys hy=>by rw[I.f_ hy hq];exact hx⟩,⟨⟨u',he2⟩,EB⟩,fun b hb=>?_⟩;have f0:=(hf b hb).1;rw[ao]
  .exact f0
  .rcases bi.mp hb with rfl|hb
   .exact hpe.symm
   .rw[cA.mp hb];obtain⟨o,q,_⟩:=hi;exact aW (a8 q)
 done:=by
  intro X hP hw hK hc i ae s σ H E I hf st hg;subst hP hw hK;obtain⟨xs,hq,hx⟩:=hg;obtain⟨its,rv,p,hz⟩:=I.tuple hq;obtain⟨f0,f1,f2,f3,f4,f5⟩:=hf it (by simp);obtain⟨⟨hW,he⟩,hi⟩:=st;have hl:=rv.length;unfold pyNext;have hT:s.TypeIs (.ref e) "enumerate":=⟨_,he,rfl⟩
  refine aw (qO (qw (name:=Str.ofString "__next__") hT F.slot_enumerate_next (nC F.slot_enumerate_next hT F.entry_enumerate_next ?_ (F.args_enumerate_next_1 _))));change wpAny _ _ (field (.ref e) 2 >>= _) _ _ _;refine aw (f8 he rfl (x:=.ref it) rfl (aw (oz (I.ok.hd hc) hi p (by simp;lia) fun h' x eb DN=>?_)));obtain⟨o,ho,MJ⟩:=DN;exact aw (wpAny_isInstance (T:="StopIteration") (b:=true) ⟨o,ho,MJ⟩ isSubtype_stop (wpAny_pure ⟨rfl,I.turned (t':=s.toks) (fun b o hb e=>eb b o hb e) f0 f1 f3 f4 f5⟩))
 self:=fun _ _ _ _ _ st h=>by
  obtain⟨⟨hW,he⟩,_⟩:=st;exact wpAny_pyIter_enum he h
section
variable {X:Cx}
def N_(K:PySem.W.Frag)(ta:TA):TI:=fun σ H R=>ta σ H fun vs H1=>∃a xs,vs=[.ref a]/\bW K H1 a xs/\R (N9 K a) H1
theorem F6(hg:Gl X "enumerate")(hm:X.mg "enumerate"=none)(ha:PA X [a] ta)(hs:starEach [a] X.env=[(false,eval a X.env)]:=by rfl):
  PI X (.Tuple es x1 Ji) (.Call (.Name "enumerate" p) [a] [] pos) (N_ X.K ta):=by
 intro ae s σ H R I h;refine Call_ (jW I hg hm (by decide +kernel:bootBuiltins "enumerate"=some (.type "enumerate")) (qt (cz (ha pos ae s σ H _ I h) fun us s1 ⟨vs,H1,I1,r1,q1⟩=>?_) hs rfl));obtain⟨l,xs,rfl,hl,q⟩:=q1;obtain⟨u1,rfl,X2⟩:=r1.one;obtain rfl:u1=Value.ref l:=X2;obtain⟨its,rv,pt,hz⟩:=I1.tuple hl;have eL:l<s1.heap.objs.size:=by obtain⟨o,e,_⟩:=pt;exact a8 e
 refine AQ (show s1.heap.IsTuple l its.toArray from pt) fun h' he hi k=>?_;have og:s1.heap.objs.size+1≠s1.heap.objs.size:=Nat.succ_ne_self _;refine wpAny_pyIter_enum he ?_;have I2:aM X ae σ H1 { s1 with heap:=h' }:=I1.kept (t':=s1.toks) k;refine⟨s1.heap.objs.size+1,[s1.heap.objs.size+1,s1.heap.objs.size],_,_,H1,rfl,I2,AR l _ _ og (aW (cX eL)) (aW eL),⟨⟨_,he⟩,hi⟩,fun b hb=>?_,q⟩;have pI:s1.heap.objs.size<=b:=by
  rcases bi.mp hb with rfl|hb
  .exact qR _
  .rw[cA.mp hb];exact aT _
 exact I1.xy pI (I1.bL.fresh pI)
theorem AS{K:PySem.W.Frag}{a D:Addr}{xs:List V}{g:TG}{tt:TT}{te:TE}{dE:Hp->Prop}{σB:St}{H0:Hp}(Pv:Nat->List V->St->Hp->Prop)(h0:Pv 0 [] σB H0)(hl:∀i ys σ H,i<=xs.length->Pv i ys σ H->bW K H a xs)(hs:∀i x p ys σ H (Kt:V->St->Hp->Prop) (Kf:St->Hp->Prop),xs[i]?=some x->Pv i ys σ H->H p=none->
   (∀v σ2 H4,H4 D=some (.lst ys)->ys.length<sizeLine->Pv (i+1) (ys++[v]) σ2 (upd H4 D (.lst (ys++[v])))->Kt v σ2 H4)->(∀σ2 H3,Pv (i+1) ys σ2 H3->Kf σ2 H3)->
   g (.ref p) σ (upd H p (.tup [.int i,x])) fun σ2 H2=>tt σ2 H2 fun b H3=>if b=true then te σ2 H3 fun v H4=>Kt v σ2 H4 else Kf σ2 H3)(hd:∀ys σ H,Pv xs.length ys σ H->dE H):gu (N9 K a) g tt te D dE σB H0:=by
 refine⟨fun i m σ H=>m=xs.length-i/\i<=xs.length/\∃ys,Pv i ys σ H,⟨xs.length,by simp,cu _,[],h0⟩,?_⟩;rintro i m σ H ⟨rfl,hi,ys,p⟩;have q:=hl i ys σ H hi p;by_cases eL:i<xs.length
 .refine .inr ⟨⟨xs,xs[i],q,by simp[eL]⟩,?_⟩;rintro x H' ⟨pp,v,rfl,hn,rfl,hv⟩;exact hs i v pp ys σ _ (fun v σ2 H4=>∃ys,H4 D=some (.lst ys)/\ys.length<sizeLine/\∃m',m'<xs.length-i/\m'=xs.length-(i+1)/\i+1<=xs.length/\∃sY,Pv (i+1) sY σ2 (upd H4 D (.lst (ys++[v]))))
   (fun σ2 H3=>∃m',m'<xs.length-i/\m'=xs.length-(i+1)/\i+1<=xs.length/\∃sY,Pv (i+1) sY σ2 H3) (hv xs q) p hn
   (fun v σ2 H4 z1 z2 z3=>⟨ys,z1,z2,_,by lia,rfl,eL,_,z3⟩) (fun σ2 H3 z=>⟨_,by lia,rfl,eL,_,z⟩)
 .have e:i=xs.length:=by lia
  subst e;exact .inl ⟨⟨xs,q,aT _⟩,hd ys σ H p⟩
end
section
variable {X:Cx} {tg:Expr}
end
section
variable {prog:Program} {w:World} {A:Around} {E:Value->Shared->Prop} {s:Shared} {R:Result->Shared->Prop} {l d Ia:Addr}
end
section
variable {prog:Program} {w:World} {A:Around} {E:Value->Shared->Prop} {s:Shared} {l:Addr}
end
section
variable {X:Cx}
theorem oA(hc:X.calm=true):gm X (.builtin "all") (fun xs H Q=>∃ (p:Addr) (bs:List Bool),xs=[.ref p]/\aV X.K H p (bs.map V.bl)/\Q (.bl (bs.all id)) H):=by
 intro ae s σ H xs us Q I r h;obtain⟨p,bs,rfl,hp,q⟩:=h;obtain⟨u1,rfl,r1⟩:=r.one;obtain rfl:u1=Value.ref p:=r1;obtain⟨its,rv,pl,hz⟩:=I.list hp;have FU:its=bs.map Value.bool:=by
  have go:∀ (bs:List Bool) (its:List Value),aY (bs.map V.bl) its->its=bs.map Value.bool:=by
   intro bs;induction bs with
   |nil=>intro its r;cases r;rfl
   |cons b bs ih=>
    intro its r;cases r with
    |cons r rr=>
     obtain rfl:=(show _=Value.bool b from r)
     rw[ih _ rr];rfl
  exact go bs its rv
 subst FU;obtain⟨ob,XM,_⟩:=id pl.isList;have eL:p<s.heap.objs.size:=a8 XM;refine call_all_walk (qG pl.isList ⟨s.heap.objs.size,_,_,_,_,_,fun i=>bs.getD i true,rfl,Walks.list (show X.A.in1.handled=none from I.ok.hd hc) _ p (aW eL) _,⟨⟨_,cL _ rfl,rfl,rfl⟩,pl.isList.push _⟩,fun i v s1 Q' E' hv hq=>?_,fun h' tk k=>?_⟩)
 .have Ao:(bs.map Value.bool)[i]?=some v:=by simpa using hv
  rw[bX] at Ao;cases eb:bs[i]? with
  |none=>rw[eb] at Ao;cases Ao
  |some b=>
   rw[eb] at Ao;obtain rfl:Value.bool b=v:=bh Ao;have:bs.getD i true=b:=by rw[bv,eb];rfl
   have Jk:Q' b s1:=by rw[<-this];exact hq
   exact wpAny_pure Jk
 .have keep:∀b o,s.heap.get? b=some o->h'.get? b=some o:=fun b o e=>k b o (by simpa using aW (a8 e)) (b9 _ e);refine⟨.bl (bs.all id),H,I.kept (t':=tk) keep,?_,q⟩;show Value.bool _=Value.bool _;congr 1;have go:∀ (bs:List Bool),((List.range bs.length).all fun i=>bs.getD i true)=bs.all id:=by
   intro bs;induction bs with
   |nil=>rfl
   |cons b bs ih=>
    rw[dR,qu,jS,List.all_map,jS,<-ih];rfl
  rw[<-go bs];simp
end
structure cs(P:Program)(w:World)(K:PySem.W.Frag)(mg:Str->Option Value)(base:Heap)(CX:xi)(k:Nat)(x:Str)(ps:List Str)(sp:Sp):Prop where
 ex:∃f fd,mg x=some (.ref f)/\PySem.W.keepIn K (.ref f)=true/\j3 K fd ps []/\bo P w K mg base CX k f fd ps sp
theorem aF(C:cs X.prog X.w X.K X.mg X.base CX k x ps sp)(hr:bQ k X.A)(hx:lG CX X E)(ha:PA X (e::es) t)(hg:Gl X x:=by rfl)(Au:(x==("__debug__":Str))=false:=by decide)(he:starEach (e::es) X.env=(false,eval e X.env)::starEach es X.env:=by rfl)(yV:(backTo pos (starEach es X.env)).any (·.1)=false:=by rfl):
  PE X (.Call (.Name x p) (e::es) [] pos) (iR sp [] E t):=by
 obtain⟨f,fd,a,b,c,d⟩:=C.ex;exact Jj d hr hg a b c .nil hx ha Au he yV
theorem ah(h:H D=none):aA H (upd H D o):=fun b u e=>by rw[ao (aj e h)];exact e
def aH(p:Addr)(H H':Hp):Prop:=∀b o,H b=some o->b≠p->H' b=some o
theorem aH.refl:aH p H H:=fun _ _ h _=>h
theorem aH.trans(a:aH p H H1)(b:aH p H1 H2):aH p H H2:=fun c o h n=>b c o (a c o h n) n
theorem aH.upd:aH p H (upd H p o):=fun b u h n=>by rw[ao n];exact h
theorem aH.of(s:aA H H'):aH p H H':=fun b o h _=>s b o h
theorem aH.free(s:aH p H H')(hp:H' p≠none)(h:H' q=none):H q=none:=by
 cases z:H q with
 |none=>rfl
 |some o=>
  by_cases e:q=p
  .subst e;exact absurd h hp
  .rw[s q o z e] at h;cases h
theorem gT(h:j<n):Fs n (j:Int)=some j:=by
 unfold Fs;rw[am (by lia),am (by lia)];simp
theorem ug(h:as.length=n):(as++[t]).getD j 0=if j=n then t else as.getD j 0:=by
 rw[bv,bv];by_cases hj:j=n
 .subst hj;subst h;rw[am rfl,qo (aT _),Nat.sub_self];rfl
 .rw[if_neg hj];by_cases eL:j<as.length
  .rw[k6 eL]
  .rw[qo (by lia),eM (by simp;lia),eM (by lia)]
def Holds(H:Hp)(as:List Addr)(n:Nat)(o:Nat->HO):Prop:=as.length=n/\∀j,j<n->H (as.getD j 0)=some (o j)
theorem Holds.nil:Holds H [] 0 o:=⟨rfl,fun j hj=>absurd hj (by lia)⟩
theorem Holds.snoc(h:Holds H as n o)(ht:H t=some (o n)):Holds H (as++[t]) (n+1) o:=by
 refine⟨by rw[ce,h.1];rfl,fun j hj=>?_⟩;rw[ug h.1];by_cases e:j=n
 .rw[am e,e];exact ht
 .rw[if_neg e];exact h.2 j (by lia)
theorem Holds.mono(h:Holds H as n o)(e:∀j,j<n->H (as.getD j 0)=some (o j)->H' (as.getD j 0)=some (o j)):Holds H' as n o:=⟨h.1,fun j hj=>e j hj (h.2 j hj)⟩
end L2
namespace PyProof.Rows
open PySem
def iq:Bool->Keyed->Array Keyed->Nat->Nat->Nat->StateT SortSt Sem (Option Nat):=sortPriv% PySem.Builtin.gallop
def rG:Array Keyed->Array Keyed->StateT SortSt Sem (Array Keyed):=sortPriv% PySem.Builtin.mergeLo
def rH:Array Keyed->Array Keyed->StateT SortSt Sem (Array Keyed):=sortPriv% PySem.Builtin.mergeHi
def iJ:Nat->StateT SortSt Sem Unit:=sortPriv% PySem.Builtin.setMinGallop
def xk(prog:Program)(w:World)(A:Around)(s:Shared)(κ:SortKind)(a₀:Array Keyed):Prop:=
 ∀x y,x∈a₀.toList->y∈a₀.toList->∀ (Q:Bool->Shared->Prop) (E:Value->Shared->Prop),(∀b,Q b s)->wpAny (model prog w) A (keyLt' κ x.1 y.1) Q E s
structure SQ(κ:SortKind)(a₀:Array Keyed)(pd:Array (Nat×Nat×Nat))(st:SortSt):Prop where
 perm:(arrOf st).Perm a₀
 kind:kindOf st=κ
 failed:failedOf st=none
 pend:pendingOf st=pd
section
variable {prog:Program} {w:World} {A:Around} {E:Value->Shared->Prop} {s:Shared} {κ:SortKind} {a₀:Array Keyed} {pd:Array (Nat×Nat×Nat)}
theorem SQ.size{st:SortSt}(h:SQ κ a₀ pd st):(arrOf st).size=a₀.size:=h.perm.size_eq
theorem SQ.setArr{st:SortSt}(h:SQ κ a₀ pd st){xs:Array Keyed}(hp:xs.Perm (arrOf st)):SQ κ a₀ pd (setArr st xs):=⟨hp.trans h.perm,h.kind,h.failed,h.pend⟩
theorem SQ.at{st:SortSt}(h:SQ κ a₀ pd st){i:Nat}(hi:i<a₀.size):∃p,(arrOf st)[i]?=some p/\p∈a₀.toList:=by
 have AT:i<(arrOf st).size:=by rw[h.size];exact hi
 exact⟨(arrOf st)[i],dC _ i AT,(k4.mp h.perm).mem_iff.mp (by simp)⟩
theorem rJ{st:SortSt}{x y:Keyed}{Q:Option Bool->SortSt->Prop}(hC:xk prog w A s κ a₀)(hk:kindOf st=κ)(hx:x∈a₀.toList)(hy:y∈a₀.toList)(h:∀b,Q (some b) st):wpS (model prog w) A E s (lt' x y) Q st:=by
 rw[lt'_eq];refine av (gZ ?_);rw[hk];refine av (lC (qO (hC x y hx hy _ _ fun b=>⟨rfl,?_⟩)));exact aU (h b)
theorem bC{st:SortSt}{arr:Array Keyed}{i:Nat}{p:Keyed}{Q:Keyed->SortSt->Prop}(hi:arr[i]?=some p)(h:Q p st):wpS (model prog w) A E s (elem' arr i) Q st:=by
 rw[elem'_eq,hi];exact aU h
theorem fD{st:SortSt}{i j:Nat}{Q:Option Bool->SortSt->Prop}(hC:xk prog w A s κ a₀)(hB:SQ κ a₀ pd st)(hi:i<a₀.size)(hj:j<a₀.size)(h:∀b,Q (some b) st):wpS (model prog w) A E s (ltAt' i j) Q st:=by
 obtain⟨p,e1,m1⟩:=hB.at hi;obtain⟨q,e2,m2⟩:=hB.at hj;rw[ltAt'_eq];refine av (gZ ?_);exact av (bC e1 (av (bC e2 (rJ hC hB.kind m1 m2 h))))
theorem gU{st:SortSt}{i j:Nat}{Q:Unit->SortSt->Prop}(hB:SQ κ a₀ pd st)(h:∀bg,SQ κ a₀ pd bg->Q () bg):wpS (model prog w) A E s (reverseSlice' i j) Q st:=by
 rw[reverseSlice'_eq];exact gC (h _ (hB.setArr (mirror_perm _ _ _ _)))
theorem F7{st:SortSt}{i j:Nat}{Q:Unit->SortSt->Prop}(hB:SQ κ a₀ pd st)(h:∀bg,SQ κ a₀ pd bg->Q () bg):wpS (model prog w) A E s (moveDown' i j) Q st:=by
 rw[moveDown'_eq];exact gC (h _ (hB.setArr (bubble_perm _ _ _)))
theorem JQ{st:SortSt}{lo n ok:Nat}{Q:Bool->SortSt->Prop}(hC:xk prog w A s κ a₀)(hn:lo+n<=a₀.size)(hB:SQ κ a₀ pd st)(h:∀bg,SQ κ a₀ pd bg->Q true bg):wpS (model prog w) A E s (binarySort' lo n ok) Q st:=by
 rw[binarySort'_eq];refine av (dZ (fW (I:=fun _ c bg=>c=(none,())/\SQ κ a₀ pd bg) (Q:=fun c bg=>c=(none,())/\SQ κ a₀ pd bg) ?_ (fun c bg hh=>hh) ⟨rfl,hB⟩) ?_)
 .rintro k c bg V0 Su ⟨rfl,X3⟩;dsimp only;refine av (dZ (fW (I:=fun _ c Oa=>(∃l r,c=(none,l,r)/\r<=k)/\SQ κ a₀ pd Oa) (Q:=fun c Oa=>(∃l r,c=(none,l,r)/\r<=k)/\SQ κ a₀ pd Oa) ?_ (fun c bg hh=>hh) ⟨⟨_,_,rfl,aT _⟩,X3⟩) ?_)
  .rintro x c Aj _ _ ⟨⟨l,r,rfl,hr⟩,tf⟩;dsimp only;by_cases Cg:l>=r
   .rw[am Cg];exact aU ⟨⟨_,_,rfl,hr⟩,tf⟩
   .rw[if_neg Cg];refine av (fD hC tf (by lia) (by lia) fun b=>?_);cases b
    .exact aU ⟨⟨_,_,rfl,hr⟩,tf⟩
    .exact aU ⟨⟨_,_,rfl,by lia⟩,tf⟩
  .rintro c Aj ⟨⟨l,r,rfl,hr⟩,tf⟩;dsimp only;exact av (F7 tf fun Al pK=>aU ⟨rfl,pK⟩)
 .rintro c bg ⟨rfl,X3⟩;exact aU (h bg X3)
end
theorem AU(left:Bool)(key:Keyed)(arr:Array Keyed)(base n lP:Nat):iq left key arr base n lP=(do
 let vV (i:Nat):StateT SortSt Sem (Option Bool):=do
  let x <- elem' arr (base+i)
  if left then lt' x key else return (<-lt' key x).map (!·)
 let mut lastofs:=0
 let mut ofs:=1
 let mut lo:=0
 let mut hi:=0
 let some right <- vV lP|return none
 if right then
  let rK:=n-lP
  for _ in [0:n] do
   if ofs>=rK then break
   let some more <- vV (lP+ofs)|return none
   if !more then break
   lastofs:=ofs
   ofs:=2*ofs+1
  lo:=lP+lastofs+1
  hi:=lP+min ofs rK
 else
  let rK:=lP+1
  for _ in [0:n] do
   if ofs>=rK then break
   let some F8 <- vV (lP-ofs)|return none
   if F8 then break
   lastofs:=ofs
   ofs:=2*ofs+1
  lo:=lP+1-min ofs rK
  hi:=lP-lastofs
 for _ in [0:n] do
  if lo>=hi then break
  let m:=lo+(hi-lo) / 2
  let some more <- vV m|return none
  if more then lo:=m+1 else hi:=m
 return some hi):=rfl
section
variable {prog:Program} {w:World} {A:Around} {E:Value->Shared->Prop} {s:Shared} {κ:SortKind} {a₀:Array Keyed} {pd:Array (Nat×Nat×Nat)}
theorem g8{st:SortSt}{left:Bool}{key:Keyed}{arr:Array Keyed}{j:Nat}{Q:Option Bool->SortSt->Prop}(hC:xk prog w A s κ a₀)(hk:kindOf st=κ)(sQ:key∈a₀.toList)(vW:∀x∈arr.toList,x∈a₀.toList)(hj:j<arr.size)(h:∀b,Q (some b) st):
  wpS (model prog w) A E s (do
  let x <- elem' arr j
  if left then lt' x key else return (<-lt' key x).map (!·)) Q st:=by
 have hm:arr[j]∈a₀.toList:=vW _ (by simp);refine av (bC (dC arr j hj) ?_);cases left
 .rw[if_neg (by decide)];exact av (rJ hC hk sQ hm fun b=>aU (h (!b)))
 .rw[am rfl];exact rJ hC hk hm sQ h
theorem ge{st:SortSt}{left:Bool}{key:Keyed}{arr:Array Keyed}{base n lP:Nat}{Q:Option Nat->SortSt->Prop}(hC:xk prog w A s κ a₀)(hk:kindOf st=κ)(sQ:key∈a₀.toList)(vW:∀x∈arr.toList,x∈a₀.toList)(hn:base+n<=arr.size)(hh:lP<n)(h:∀k,k<=n->Q (some k) st):wpS (model prog w) A E s (iq left key arr base n lP) Q st:=by
 rw[AU];refine av (g8 hC hk sQ vW (by lia) fun right=>?_);cases right
 .dsimp only;rw[if_neg (by decide)];refine av (dZ (fW (I:=fun _ c bg=>(∃l o,c=(none,l,o))/\st=bg) (Q:=fun c bg=>(∃l o,c=(none,l,o))/\st=bg) ?_ (fun c bg hh=>hh) ⟨⟨_,_,rfl⟩,rfl⟩) ?_)
  .rintro x c bg _ _ ⟨⟨l,o,rfl⟩,rfl⟩;dsimp only;by_cases Cg:o>=lP+1
   .rw[am Cg];exact aU ⟨⟨_,_,rfl⟩,rfl⟩
   .rw[if_neg Cg];refine av (g8 hC hk sQ vW (by lia) fun F8=>?_);cases F8
    .exact aU ⟨⟨_,_,rfl⟩,rfl⟩
    .exact aU ⟨⟨_,_,rfl⟩,rfl⟩
  .rintro c bg ⟨⟨l,o,rfl⟩,rfl⟩;dsimp only;refine av (dZ (fW (I:=fun _ c bg=>(∃l u,c=(none,l,u)/\u<=n)/\st=bg) (Q:=fun c bg=>(∃l u,c=(none,l,u)/\u<=n)/\st=bg) ?_ (fun c bg hh=>hh) ⟨⟨_,_,rfl,by lia⟩,rfl⟩) ?_)
   .rintro x c bg _ _ ⟨⟨l,u,rfl,hu⟩,rfl⟩;dsimp only;by_cases Cg:l>=u
    .rw[am Cg];exact aU ⟨⟨_,_,rfl,hu⟩,rfl⟩
    .rw[if_neg Cg];refine av (g8 hC hk sQ vW (by lia) fun more=>?_);cases more
     .exact aU ⟨⟨_,_,rfl,by lia⟩,rfl⟩
     .exact aU ⟨⟨_,_,rfl,hu⟩,rfl⟩
   .rintro c bg ⟨⟨l,u,rfl,hu⟩,rfl⟩;exact aU (h u hu)
 .dsimp only;rw[am rfl];refine av (dZ (fW (I:=fun _ c bg=>(∃l o,c=(none,l,o))/\st=bg) (Q:=fun c bg=>(∃l o,c=(none,l,o))/\st=bg) ?_ (fun c bg hh=>hh) ⟨⟨_,_,rfl⟩,rfl⟩) ?_)
  .rintro x c bg _ _ ⟨⟨l,o,rfl⟩,rfl⟩;dsimp only;by_cases Cg:o>=n-lP
   .rw[am Cg];exact aU ⟨⟨_,_,rfl⟩,rfl⟩
   .rw[if_neg Cg];refine av (g8 hC hk sQ vW (by lia) fun more=>?_);cases more
    .exact aU ⟨⟨_,_,rfl⟩,rfl⟩
    .exact aU ⟨⟨_,_,rfl⟩,rfl⟩
  .rintro c bg ⟨⟨l,o,rfl⟩,rfl⟩;dsimp only;refine av (dZ (fW (I:=fun _ c bg=>(∃l u,c=(none,l,u)/\u<=n)/\st=bg) (Q:=fun c bg=>(∃l u,c=(none,l,u)/\u<=n)/\st=bg) ?_ (fun c bg hh=>hh) ⟨⟨_,_,rfl,by lia⟩,rfl⟩) ?_)
   .rintro x c bg _ _ ⟨⟨l,u,rfl,hu⟩,rfl⟩;dsimp only;by_cases Cg:l>=u
    .rw[am Cg];exact aU ⟨⟨_,_,rfl,hu⟩,rfl⟩
    .rw[if_neg Cg];refine av (g8 hC hk sQ vW (by lia) fun more=>?_);cases more
     .exact aU ⟨⟨_,_,rfl,by lia⟩,rfl⟩
     .exact aU ⟨⟨_,_,rfl,hu⟩,rfl⟩
   .rintro c bg ⟨⟨l,u,rfl,hu⟩,rfl⟩;exact aU (h u hu)
end
structure SM(κ:SortKind)(ar:Array Keyed)(pd:Array (Nat×Nat×Nat))(st:SortSt):Prop where
 arr:arrOf st=ar
 kind:kindOf st=κ
 failed:failedOf st=none
 pend:pendingOf st=pd
abbrev pL:=Option (Array Keyed)
abbrev uh:=StateT SortSt Sem
def yb{τ:Type}(c:Bool)(d:Prop)[Decidable d](r:Array Keyed)(t:τ):uh (ForInStep (pL×τ)):=if c then pure (.done (some r,t)) else if d then pure (.done (none,t)) else pure (.yield (none,t))
def mgO{α β γ:Type}(N:Nat)(f:Nat->pL×α×β×γ×Nat×Nat->uh (ForInStep (pL×α×β×γ×Nat×Nat)))(g:pL×α×β×γ×Nat×Nat×Nat->uh (ForInStep (pL×α×β×γ×Nat×Nat×Nat)))(s:pL×α×β×γ×Nat):uh (ForInStep (pL×α×β×γ×Nat)):=do
 let t <- forIn [0:N] ((none,s.2.1,s.2.2.1,s.2.2.2.1,0,0):pL×α×β×γ×Nat×Nat) fun _ t=>f s.2.2.2.2 t
 match t.1 with
 |some r=>pure (.done (some r,t.2.1,t.2.2.1,t.2.2.2.1,s.2.2.2.2))
 |none=>do
  liftM (rule "list.sort.gallop")
  let u <- forIn [0:N] ((none,t.2.1,t.2.2.1,t.2.2.2.1,s.2.2.2.2+1,t.2.2.2.2.1,t.2.2.2.2.2):pL×α×β×γ×Nat×Nat×Nat) fun _ u=>g u
  match u.1 with
  |some r=>pure (.done (some r,u.2.1,u.2.2.1,u.2.2.2.1,u.2.2.2.2.1))
  |none=>do
   iJ (u.2.2.2.2.1+1)
   pure (.yield (none,u.2.1,u.2.2.1,u.2.2.2.1,u.2.2.2.2.1+1))
def V1{α β γ:Type}(N:Nat)(f:Nat->pL×α×β×γ×Nat×Nat->uh (ForInStep (pL×α×β×γ×Nat×Nat)))(g:pL×α×β×γ×Nat×Nat×Nat->uh (ForInStep (pL×α×β×γ×Nat×Nat×Nat)))(x:α)(y:β)(z:γ):uh (Array Keyed):=do
 let st <- get
 let s <- forIn [0:N] ((none,x,y,z,gallopOf st):pL×α×β×γ×Nat) fun _ s=>mgO N f g s
 match s.1 with
 |some r=>pure r
 |none=>liftM (unsupported "internal:list.sort.merge-bound")
section
variable {prog:Program} {w:World} {A:Around} {E:Value->Shared->Prop} {s:Shared} {κ:SortKind} {a₀:Array Keyed} {pd:Array (Nat×Nat×Nat)} {ar:Array Keyed} {F:Array Keyed->Prop}
def GP{τ:Type}(κ:SortKind)(ar:Array Keyed)(pd:Array (Nat×Nat×Nat))(F:Array Keyed->Prop)(D J:τ->Prop)(r:ForInStep (pL×τ))(st:SortSt):Prop:=SM κ ar pd st/\
 ((∃x t,r=.done (some x,t)/\F x)\/(∃t,r=.done (none,t)/\D t)\/∃t,r=.yield (none,t)/\J t)
theorem fE{τ:Type}{D J:τ->Prop}{st:SortSt}{x:Array Keyed}{t:τ}(m:SM κ ar pd st)(h:F x):wpS (model prog w) A E s (pure (.done (some x,t))) (GP κ ar pd F D J) st:=aU ⟨m,.inl ⟨_,_,rfl,h⟩⟩
theorem iT{τ:Type}{D J:τ->Prop}{c:Bool}{d:Prop}[Decidable d]{r:Array Keyed}{t:τ}{st:SortSt}(m:SM κ ar pd st)(h1:c=true->F r)(h2:c=false->D t/\J t):wpS (model prog w) A E s (yb c d r t) (GP κ ar pd F D J) st:=by
 unfold yb;cases c
 .rw[if_neg cJ];split
  .exact aU ⟨m,.inr (.inl ⟨_,rfl,(h2 rfl).1⟩)⟩
  .exact aU ⟨m,.inr (.inr ⟨_,rfl,(h2 rfl).2⟩)⟩
 .rw[am rfl];exact fE m (h1 rfl)
theorem oB{τ:Type}{D:τ->Prop}{J:Nat->τ->Prop}{N:Nat}{f:pL×τ->uh (ForInStep (pL×τ))}{t:τ}{st:SortSt}{Q:pL×τ->SortSt->Prop}(m:SM κ ar pd st)(hJ:J 0 t)(up:∀t,J N t->D t)(b:∀t st,SM κ ar pd st->∀i,J i t->wpS (model prog w) A E s (f (none,t)) (GP κ ar pd F D (J (i+1))) st)(h1:∀x t bg,SM κ ar pd bg->F x->Q (some x,t) bg)(h2:∀t bg,SM κ ar pd bg->D t->Q (none,t) bg):wpS (model prog w) A E s (forIn [0:N] ((none,t):pL×τ) fun _ c=>f c) Q st:=by
 refine fW (I:=fun i c bg=>c.1=none/\SM κ ar pd bg/\J i c.2) ?_ ?_ ⟨rfl,m,hJ⟩
 .rintro i ⟨_,t⟩ bg _ _ ⟨rfl,m',j⟩;refine dZ (b t bg m' i j) ?_;rintro r Aj ⟨m2,⟨x,t,rfl,h⟩|⟨t,rfl,h⟩|⟨t,rfl,h⟩⟩
  .exact h1 _ _ _ m2 h
  .exact h2 _ _ m2 h
  .exact⟨rfl,m2,h⟩
 .rintro⟨_,t⟩ bg ⟨rfl,m',j⟩;rw[Nat.max_eq_right (cu _)] at j;exact h2 _ _ m' (up _ j)
theorem Ch{α β γ:Type}{N:Nat}{f:Nat->pL×α×β×γ×Nat×Nat->uh (ForInStep (pL×α×β×γ×Nat×Nat))}{g:pL×α×β×γ×Nat×Nat×Nat->uh (ForInStep (pL×α×β×γ×Nat×Nat×Nat))}{x:α}{y:β}{z:γ}{J:Nat->α->β->γ->Prop}{st:SortSt}{Q:Array Keyed->SortSt->Prop}(m:SM κ ar pd st)(h0:J 0 x y z)(dn:∀i k x y z,J (i+k) x y z->J i x y z)(no:∀x y z,¬ J N x y z)(N1:1<=N)(hf:∀mg n k x y z p st,SM κ ar pd st->J (n+k) x y z->wpS (model prog w) A E s (f mg (none,x,y,z,p)) (GP κ ar pd F (fun t=>J (n+1) t.1 t.2.1 t.2.2.1) fun t=>J (n+(k+1)) t.1 t.2.1 t.2.2.1) st)(hg:∀n x y z p st,SM κ ar pd st->J n x y z->wpS (model prog w) A E s (g (none,x,y,z,p)) (GP κ ar pd F (fun t=>J n t.1 t.2.1 t.2.2.1) fun t=>J n t.1 t.2.1 t.2.2.1) st)(h:∀x bg,F x->SM κ ar pd bg->Q x bg):wpS (model prog w) A E s (V1 N f g x y z) Q st:=by
 unfold V1;refine av (gZ ?_);refine av (oB (F:=F) (D:=fun _=>False) (J:=fun n (t:α×β×γ×Nat)=>J n t.1 t.2.1 t.2.2.1) m h0 (fun t h=>no _ _ _ h) ?_ (fun x t st m hx=>aU (h _ _ hx m)) fun t st m j=>j.elim);intro t st m i j;unfold mgO;refine av (oB (F:=F) (D:=fun t=>J (i+1) t.1 t.2.1 t.2.2.1) (J:=fun n (t:α×β×γ×Nat×Nat)=>J (i+n) t.1 t.2.1 t.2.2.1) m j (fun t h=>dn _ (N-1) _ _ _ (by rw[show i+1+(N-1)=i+N by lia];exact h)) (fun t st m n j=>hf _ _ _ _ _ _ _ _ m j) (fun x t st m hx=>fE m hx) ?_);intro t st m j;refine av (lC (iD ⟨rfl,?_⟩));refine av (oB (F:=F) (D:=fun t=>J (i+1) t.1 t.2.1 t.2.2.1) (J:=fun n (t:α×β×γ×Nat×Nat×Nat)=>J (i+1) t.1 t.2.1 t.2.2.1) m j (fun _ h=>h) (fun t st m n j=>hg _ _ _ _ _ _ m j) (fun x t st m hx=>fE m hx) ?_);intro t st m j;refine av (gC ?_);exact aU ⟨⟨m.arr,m.kind,m.failed,m.pend⟩,.inr (.inr ⟨_,rfl,j⟩)⟩
end
abbrev j8(a b out:Array Keyed)(ia ib:Nat):=out++a.extract ia a.size++b.extract ib b.size
abbrev vX(a b out:Array Keyed)(ia ib:Nat):=out++b.extract ib b.size++a.extract ia a.size
abbrev MY ρ:=pL×Array Keyed×Nat×Nat×ρ
def loW(a b:Array Keyed)(mg:Nat)(t:MY (Nat×Nat)):uh (ForInStep (MY (Nat×Nat))):=do
 let x <- elem' b t.2.2.2.1
 let y <- elem' a t.2.2.1
 let some w <- lt' x y|pure (.done (some (j8 a b t.2.1 t.2.2.1 t.2.2.2.1),t.2.1,t.2.2.1,t.2.2.2.1,t.2.2.2.2.1,t.2.2.2.2.2))
 if w then do
  let x <- elem' b t.2.2.2.1
  yb (t.2.2.2.1+1==b.size) (t.2.2.2.2.2+1>=mg) (j8 a b (t.2.1.push x) t.2.2.1 (t.2.2.2.1+1)) (t.2.1.push x,t.2.2.1,t.2.2.2.1+1,0,t.2.2.2.2.2+1)
 else do
  let x <- elem' a t.2.2.1
  yb (t.2.2.1+1+1==a.size) (t.2.2.2.2.1+1>=mg) (vX a b (t.2.1.push x) (t.2.2.1+1) t.2.2.2.1) (t.2.1.push x,t.2.2.1+1,t.2.2.2.1,t.2.2.2.2.1+1,0)
def X4(a b out:Array Keyed)(ia ib mg ac bc:Nat):uh (ForInStep (MY (Nat×Nat×Nat))):=do
 let x <- elem' a ia
 yb (ia+1+1==a.size) ((ac<7&&bc<7)=true) (vX a b (out.push x) (ia+1) ib) (out.push x,ia+1,ib,mg,ac,bc)
def X5(a b out:Array Keyed)(ia ib mg ac bc:Nat):uh (ForInStep (MY (Nat×Nat×Nat))):=do
 let x <- elem' b ib
 if ib+1==b.size then pure (.done (some (j8 a b (out.push x) ia (ib+1)),out.push x,ia,ib+1,mg,ac,bc))
 else do
  let y <- elem' a ia
  let some k <- iq true y b (ib+1) (b.size-(ib+1)) 0|pure (.done (some (j8 a b (out.push x) ia (ib+1)),out.push x,ia,ib+1,mg,ac,bc))
  if k > 0 then
   if ib+1+k==b.size then pure (.done (some (j8 a b (out.push x++b.extract (ib+1) (ib+1+k)) ia (ib+1+k)),out.push x++b.extract (ib+1) (ib+1+k),ia,ib+1+k,mg,ac,k))
   else X4 a b (out.push x++b.extract (ib+1) (ib+1+k)) ia (ib+1+k) mg ac k
  else X4 a b (out.push x) ia (ib+1) mg ac k
def X6(a b out:Array Keyed)(ia ib mg ac bc:Nat):uh (ForInStep (MY (Nat×Nat×Nat))):=do
 iJ mg
 let y <- elem' b ib
 let some k <- iq false y a ia (a.size-ia) 0|pure (.done (some (j8 a b out ia ib),out,ia,ib,mg,ac,bc))
 if k > 0 then
  if ia+k+1==a.size then pure (.done (some (vX a b (out++a.extract ia (ia+k)) (ia+k) ib),out++a.extract ia (ia+k),ia+k,ib,mg,k,bc))
  else if ia+k==a.size then pure (.done (some (j8 a b (out++a.extract ia (ia+k)) (ia+k) ib),out++a.extract ia (ia+k),ia+k,ib,mg,k,bc))
  else X5 a b (out++a.extract ia (ia+k)) (ia+k) ib mg k bc
 else X5 a b out ia ib mg k bc
def loG(a b:Array Keyed)(t:MY (Nat×Nat×Nat)):uh (ForInStep (MY (Nat×Nat×Nat))):=
 if t.2.2.2.2.1 > 1 then X6 a b t.2.1 t.2.2.1 t.2.2.2.1 (t.2.2.2.2.1-1) t.2.2.2.2.2.1 t.2.2.2.2.2.2 else X6 a b t.2.1 t.2.2.1 t.2.2.2.1 t.2.2.2.2.1 t.2.2.2.2.2.1 t.2.2.2.2.2.2
theorem yc(a b:Array Keyed):rG a b=(do
 liftM (rule "list.sort.merge-lo")
 let x <- elem' b 0
 if 1==b.size then pure (j8 a b #[x] 0 1) else if 0+1==a.size then pure (vX a b #[x] 0 1) else V1 (a.size+b.size) (loW a b) (loG a b) #[x] 0 1):=by kernel_rfl
def PI(a b out:Array Keyed)(ia ib:Nat):Prop:=out.toList.Perm (a.toList.take ia++b.toList.take ib)
theorem yd{l:List Keyed}{i:Nat}(h:i<l.length):l.take (i+1)=l.take i++[l[i]]:=by rw[eZ,cH h];rfl
theorem PI.ui{a b out:Array Keyed}{ia ib:Nat}(h:PI a b out ia ib)(hi:ia<a.size):PI a b (out.push a[ia]) (ia+1) ib:=by
 unfold PI at h |-;rw[nq,yd (by simpa using hi),dQ];refine(h.append_right _).trans ?_;rw[dQ];refine pb _ ?_;have:a.toList[ia]'(by simpa using hi)=a[ia]:=by simp
 rw[this];exact jw
theorem PI.uj{a b out:Array Keyed}{ia ib:Nat}(h:PI a b out ia ib)(hi:ib<b.size):PI a b (out.push b[ib]) ia (ib+1):=by
 unfold PI at h |-;rw[nq,yd (by simpa using hi),<-dQ];have:b.toList[ib]'(by simpa using hi)=b[ib]:=by simp
 rw[this];exact h.append_right _
theorem el{a:Array Keyed}{i j:Nat}:(a.extract i j).toList=(a.toList.drop i).take (j-i):=by
 rw[zw,List.extract_eq_take_drop]
theorem PI.DY{a b out:Array Keyed}{ia ib:Nat}(h:PI a b out ia ib)(k:Nat):PI a b (out++a.extract ia (ia+k)) (ia+k) ib:=by
 unfold PI at h |-;rw[eX,el,Nat.add_sub_cancel_left,List.take_add,dQ];refine(h.append_right _).trans ?_;rw[dQ];exact pb _ jw
theorem PI.DZ{a b out:Array Keyed}{ia ib:Nat}(h:PI a b out ia ib)(k:Nat):PI a b (out++b.extract ib (ib+k)) ia (ib+k):=by
 unfold PI at h |-;rw[eX,el,Nat.add_sub_cancel_left,List.take_add,<-dQ];exact h.append_right _
theorem PI.done{a b out:Array Keyed}{ia ib:Nat}(h:PI a b out ia ib):(out++a.extract ia a.size++b.extract ib b.size).Perm (a++b):=by
 rw[k4];unfold PI at h;rw[eX,eX,eX,el,el];have e1:(a.toList.drop ia).take (a.size-ia)=a.toList.drop ia:=mX (by simp);have e2:(b.toList.drop ib).take (b.size-ib)=b.toList.drop ib:=mX (by simp);rw[e1,e2];refine((h.append_right _).append_right _).trans ?_;conv=>rhs;rw[<-ln ia a.toList,<-ln ib b.toList]
 rw[dQ,dQ,dQ];refine pb _ ?_;rw[<-dQ,<-dQ];exact uS _ jw
theorem PI.last{a b out:Array Keyed}{ia ib:Nat}(h:PI a b out ia ib):(out++b.extract ib b.size++a.extract ia a.size).Perm (a++b):=by
 refine Array.Perm.trans ?_ h.done;rw[k4];rw[eX,eX,eX,eX,dQ,dQ];exact pb _ jw
section
variable {prog:Program} {w:World} {A:Around} {E:Value->Shared->Prop} {s:Shared} {κ:SortKind} {a₀:Array Keyed} {pd:Array (Nat×Nat×Nat)} {ar:Array Keyed} {a b out:Array Keyed} {ia ib mg ac bc n:Nat} {st:SortSt}
def JL(a b:Array Keyed)(n:Nat)(out:Array Keyed)(ia ib:Nat):Prop:=PI a b out ia ib/\ia+1<a.size/\ib<b.size/\n<=ia+ib
abbrev GL{ρ:Type}(κ:SortKind)(ar:Array Keyed)(pd:Array (Nat×Nat×Nat))(a b:Array Keyed)(n m:Nat):ForInStep (MY ρ)->SortSt->Prop:=GP κ ar pd (fun x=>x.Perm (a++b)) (fun t=>JL a b n t.1 t.2.1 t.2.2.1) fun t=>JL a b m t.1 t.2.1 t.2.2.1
theorem Cj(hB:SM κ ar pd st)(h:JL a b n out ia ib):wpS (model prog w) A E s (X4 a b out ia ib mg ac bc) (GL κ ar pd a b n n) st:=by
 obtain⟨p,la,lb,li⟩:=h;refine av (bC (dC a ia (by lia)) ?_);have p:=p.ui (show ia<a.size by lia);refine iT hB (fun _=>p.last) fun f=>?_;have g:=nw f;have j:JL a b n (out.push a[ia]) (ia+1) ib:=⟨p,by lia,lb,by lia⟩
 exact⟨j,j⟩
theorem Ck(hC:xk prog w A s κ a₀)(ha:∀x∈a.toList,x∈a₀.toList)(hb:∀x∈b.toList,x∈a₀.toList)(hB:SM κ ar pd st)(h:JL a b n out ia ib):wpS (model prog w) A E s (X5 a b out ia ib mg ac bc) (GL κ ar pd a b n n) st:=by
 obtain⟨p,la,lb,li⟩:=h;refine av (bC (dC b ib lb) ?_);have p:=p.uj lb;split
 .exact fE hB p.done
 next f=>
 have g:ib+1≠b.size:=by simpa using f
 refine av (bC (dC a ia (by lia)) ?_);refine av (ge hC hB.kind (ha _ (by simp)) hb (by lia) (by lia) fun k hk=>?_);dsimp only;split
 .split
  .exact fE hB (p.DZ k).done
  next f=>
  have g:ib+1+k≠b.size:=by simpa using f
  exact Cj hB ⟨p.DZ k,la,by lia,by lia⟩
 .exact Cj hB ⟨p,la,by lia,by lia⟩
theorem JR(hC:xk prog w A s κ a₀)(ha:∀x∈a.toList,x∈a₀.toList)(hb:∀x∈b.toList,x∈a₀.toList)(hB:SM κ ar pd st)(h:JL a b n out ia ib):wpS (model prog w) A E s (X6 a b out ia ib mg ac bc) (GL κ ar pd a b n n) st:=by
 obtain⟨p,la,lb,li⟩:=h;refine av (gC ?_);refine av (bC (dC b ib lb) ?_);have tf:SM κ ar pd (SortSt.mk' (kindOf st) (arrOf st) (pendingOf st) mg (failedOf st)):=⟨hB.arr,hB.kind,hB.failed,hB.pend⟩
 refine av (ge hC tf.kind (hb _ (by simp)) ha (by lia) (by lia) fun k hk=>?_);dsimp only;split
 .split
  .exact fE tf (p.DY k).last
  next f=>
  split
  .exact fE tf (p.DY k).done
  next f'=>
  have g:ia+k+1≠a.size:=by simpa using f
  have g':ia+k≠a.size:=by simpa using f'
  exact Ck hC ha hb tf ⟨p.DY k,by lia,lb,by lia⟩
 .exact Ck hC ha hb tf ⟨p,la,lb,li⟩
theorem JS{k:Nat}(hC:xk prog w A s κ a₀)(ha:∀x∈a.toList,x∈a₀.toList)(hb:∀x∈b.toList,x∈a₀.toList)(hB:SM κ ar pd st)(h:JL a b (n+k) out ia ib){q:Nat×Nat}:wpS (model prog w) A E s (loW a b mg (none,out,ia,ib,q)) (GL κ ar pd a b (n+1) (n+(k+1))) st:=by
 obtain⟨p,la,lb,li⟩:=h;refine av (bC (dC b ib lb) (av (bC (dC a ia (by lia)) (av (rJ hC hB.kind (hb _ (by simp)) (ha _ (by simp)) fun w=>?_)))));cases w
 .refine av (bC (dC a ia (by lia)) ?_);have p:=p.ui (show ia<a.size by lia);refine iT hB (fun _=>p.last) fun f=>?_;have g:=nw f;exact⟨⟨p,by dsimp only;lia,lb,by dsimp only;lia⟩,p,by dsimp only;lia,lb,by dsimp only;lia⟩
 .refine av (bC (dC b ib lb) ?_);have p:=p.uj lb;refine iT hB (fun _=>p.done) fun f=>?_;have g:=nw f;exact⟨⟨p,la,by dsimp only at g |-;lia,by dsimp only;lia⟩,p,la,by dsimp only at g |-;lia,by dsimp only;lia⟩
theorem ye{Q:Array Keyed->SortSt->Prop}(hC:xk prog w A s κ a₀)(hB:SM κ ar pd st)(ha:∀x∈a.toList,x∈a₀.toList)(hb:∀x∈b.toList,x∈a₀.toList)(a1:1<=a.size)(b1:1<=b.size)(h:∀out bg,out.Perm (a++b)->SM κ ar pd bg->Q out bg):wpS (model prog w) A E s (rG a b) Q st:=by
 rw[yc];refine av (lC (iD ⟨rfl,?_⟩));refine av (bC (dC b 0 (by lia)) ?_);have p0:PI a b #[b[0]] 0 1:=by
  have:PI a b #[] 0 0:=by unfold PI;simp
  exact this.uj (by lia)
 split
 .exact aU (h _ _ p0.done hB)
 next f=>
 split
 .exact aU (h _ _ p0.last hB)
 next f'=>
 have g:1≠b.size:=by simpa using f
 have g':0+1≠a.size:=by simpa using f'
 refine Ch (J:=JL a b) hB ⟨p0,by lia,by lia,by lia⟩ (fun i k x y z h=>⟨h.1,h.2.1,h.2.2.1,by have:=h.2.2.2;lia⟩) (fun x y z h=>by have:=h.2;lia) (by lia) (fun mg n k x y z p st m j=>JS hC ha hb m j) (fun n x y z p st m j=>?_) h;unfold loG;split <;> exact JR hC ha hb m j
end
abbrev j9(a b out:Array Keyed)(na nb:Nat):=a.extract 0 na++b.extract 0 nb++out.reverse
abbrev qb(a b out:Array Keyed)(na nb:Nat):=b.extract 0 nb++a.extract 0 na++out.reverse
abbrev MZ ρ:=pL×Nat×Nat×Array Keyed×ρ
def hiW(a b:Array Keyed)(mg:Nat)(t:MZ (Nat×Nat)):uh (ForInStep (MZ (Nat×Nat))):=do
 let x <- elem' b (t.2.2.1-1)
 let y <- elem' a (t.2.1-1)
 let some w <- lt' x y|pure (.done (some (j9 a b t.2.2.2.1 t.2.1 t.2.2.1),t.2.1,t.2.2.1,t.2.2.2.1,t.2.2.2.2.1,t.2.2.2.2.2))
 if w then do
  let x <- elem' a (t.2.1-1)
  yb (t.2.1-1==0) (t.2.2.2.2.1+1>=mg) (j9 a b (t.2.2.2.1.push x) (t.2.1-1) t.2.2.1) (t.2.1-1,t.2.2.1,t.2.2.2.1.push x,t.2.2.2.2.1+1,0)
 else do
  let x <- elem' b (t.2.2.1-1)
  yb (t.2.2.1-1==1) (t.2.2.2.2.2+1>=mg) (qb a b (t.2.2.2.1.push x) t.2.1 (t.2.2.1-1)) (t.2.1,t.2.2.1-1,t.2.2.2.1.push x,0,t.2.2.2.2.2+1)
def X7(a b:Array Keyed)(na nb:Nat)(out:Array Keyed)(mg ac bc:Nat):uh (ForInStep (MZ (Nat×Nat×Nat))):=do
 let x <- elem' a (na-1)
 yb (na-1==0) ((ac<7&&bc<7)=true) (j9 a b (out.push x) (na-1) nb) (na-1,nb,out.push x,mg,ac,bc)
def X8(a b:Array Keyed)(na nb:Nat)(out:Array Keyed)(mg ac bc:Nat):uh (ForInStep (MZ (Nat×Nat×Nat))):=do
 let x <- elem' b (nb-1)
 if nb-1==1 then pure (.done (some (qb a b (out.push x) na (nb-1)),na,nb-1,out.push x,mg,ac,bc))
 else do
  let y <- elem' a (na-1)
  let some k <- iq true y b 0 (nb-1) (nb-1-1)|pure (.done (some (j9 a b (out.push x) na (nb-1)),na,nb-1,out.push x,mg,ac,bc))
  if nb-1-k > 0 then
   if k==1 then pure (.done (some (qb a b (out.push x++(b.extract k (nb-1)).reverse) na k),na,k,out.push x++(b.extract k (nb-1)).reverse,mg,ac,nb-1-k))
   else if k==0 then pure (.done (some (j9 a b (out.push x++(b.extract k (nb-1)).reverse) na k),na,k,out.push x++(b.extract k (nb-1)).reverse,mg,ac,nb-1-k))
   else X7 a b na k (out.push x++(b.extract k (nb-1)).reverse) mg ac (nb-1-k)
  else X7 a b na (nb-1) (out.push x) mg ac (nb-1-k)
def X9(a b:Array Keyed)(na nb:Nat)(out:Array Keyed)(mg ac bc:Nat):uh (ForInStep (MZ (Nat×Nat×Nat))):=do
 iJ mg
 let y <- elem' b (nb-1)
 let some k <- iq false y a 0 na (na-1)|pure (.done (some (j9 a b out na nb),na,nb,out,mg,ac,bc))
 if na-k > 0 then
  if k==0 then pure (.done (some (j9 a b (out++(a.extract k na).reverse) k nb),k,nb,out++(a.extract k na).reverse,mg,na-k,bc))
  else X8 a b k nb (out++(a.extract k na).reverse) mg (na-k) bc
 else X8 a b na nb out mg (na-k) bc
def hiG(a b:Array Keyed)(t:MZ (Nat×Nat×Nat)):uh (ForInStep (MZ (Nat×Nat×Nat))):=
 if t.2.2.2.2.1 > 1 then X9 a b t.2.1 t.2.2.1 t.2.2.2.1 (t.2.2.2.2.1-1) t.2.2.2.2.2.1 t.2.2.2.2.2.2 else X9 a b t.2.1 t.2.2.1 t.2.2.2.1 t.2.2.2.2.1 t.2.2.2.2.2.1 t.2.2.2.2.2.2
theorem yf(a b:Array Keyed):rH a b=(do
 liftM (rule "list.sort.merge-hi")
 let x <- elem' a (a.size-1)
 if a.size-1==0 then pure (j9 a b #[x] (a.size-1) b.size) else if b.size==1 then pure (qb a b #[x] (a.size-1) b.size) else V1 (a.size+b.size) (hiW a b) (hiG a b) (a.size-1) b.size #[x]):=by kernel_rfl
def PH(a b out:Array Keyed)(na nb:Nat):Prop:=out.toList.Perm (a.toList.drop na++b.toList.drop nb)
theorem PH.ui{a b out:Array Keyed}{na nb:Nat}(h:PH a b out na nb)(h1:1<=na)(hi:na-1<a.size):PH a b (out.push a[na-1]) (na-1) nb:=by
 unfold PH at h |-;have e:a.toList.drop (na-1)=a[na-1]::a.toList.drop na:=by
  have:=qp (l:=a.toList) (i:=na-1) (by simpa using hi);rw[this,Nat.sub_add_cancel h1];simp
 rw[nq,e];refine(h.append_right _).trans ?_;exact jw
theorem PH.uj{a b out:Array Keyed}{na nb:Nat}(h:PH a b out na nb)(h1:1<=nb)(hi:nb-1<b.size):PH a b (out.push b[nb-1]) na (nb-1):=by
 unfold PH at h |-;have e:b.toList.drop (nb-1)=b[nb-1]::b.toList.drop nb:=by
  have:=qp (l:=b.toList) (i:=nb-1) (by simpa using hi);rw[this,Nat.sub_add_cancel h1];simp
 rw[nq,e];refine(h.append_right _).trans ?_;rw[dQ];exact pb _ jw
theorem mw{l:List Keyed}{i j:Nat}(h:i<=j):l.drop i=(l.drop i).take (j-i)++l.drop j:=by
 have:=(ln (j-i) (l.drop i)).symm;rw[List.drop_drop,show i+(j-i)=j by lia] at this;exact this
theorem PH.DY{a b out:Array Keyed}{na nb:Nat}(h:PH a b out na nb){k:Nat}(hk:k<=na):PH a b (out++(a.extract k na).reverse) k nb:=by
 unfold PH at h |-;rw[eX,zu,el];conv=>rhs;rw[mw hk]
 refine((h.append_left _).trans ?_ |> fun z=>(List.Perm.trans jw ((vb _).append_right _)).trans z);rw[dQ]
theorem PH.DZ{a b out:Array Keyed}{na nb:Nat}(h:PH a b out na nb){k:Nat}(hk:k<=nb):PH a b (out++(b.extract k nb).reverse) na k:=by
 unfold PH at h |-;rw[eX,zu,el];conv=>rhs;rw[mw hk]
 refine(h.append_right _).trans ?_;rw[dQ];refine pb _ ?_;exact jw.trans ((vb _).append_right _)
theorem Sv{a:Array Keyed}{j:Nat}:(a.extract 0 j).toList=a.toList.take j:=by rw[el,List.drop_zero,Nat.sub_zero]
theorem PH.done{a b out:Array Keyed}{na nb:Nat}(h:PH a b out na nb):(a.extract 0 na++b.extract 0 nb++out.reverse).Perm (a++b):=by
 rw[k4];unfold PH at h;rw[eX,eX,eX,zu,Sv,Sv];conv=>rhs;rw[<-ln na a.toList,<-ln nb b.toList]
 refine(pb _ ((vb _).trans h)).trans ?_;rw[dQ,dQ];refine pb _ ?_;rw[<-dQ,<-dQ];exact uS _ jw
theorem PH.first{a b out:Array Keyed}{na nb:Nat}(h:PH a b out na nb):(b.extract 0 nb++a.extract 0 na++out.reverse).Perm (a++b):=by
 refine Array.Perm.trans ?_ h.done;rw[k4];rw[eX,eX,eX,eX];exact uS _ jw
section
variable {prog:Program} {w:World} {A:Around} {E:Value->Shared->Prop} {s:Shared} {κ:SortKind} {a₀:Array Keyed} {pd:Array (Nat×Nat×Nat)} {ar:Array Keyed} {a b out:Array Keyed} {na nb mg ac bc n:Nat} {st:SortSt}
def JH(a b:Array Keyed)(n na nb:Nat)(out:Array Keyed):Prop:=PH a b out na nb/\1<=na/\2<=nb/\na<=a.size/\nb<=b.size/\n+na+nb<=a.size+b.size
abbrev GH{ρ:Type}(κ:SortKind)(ar:Array Keyed)(pd:Array (Nat×Nat×Nat))(a b:Array Keyed)(n m:Nat):ForInStep (MZ ρ)->SortSt->Prop:=GP κ ar pd (fun x=>x.Perm (a++b)) (fun t=>JH a b n t.1 t.2.1 t.2.2.1) fun t=>JH a b m t.1 t.2.1 t.2.2.1
theorem Cm(hB:SM κ ar pd st)(p:PH a b out na nb)(la:1<=na)(lb:2<=nb)(ma:na<=a.size)(mb:nb<=b.size)(li:n+na+nb<=a.size+b.size+1):wpS (model prog w) A E s (X7 a b na nb out mg ac bc) (GH κ ar pd a b n n) st:=by
 refine av (bC (dC a (na-1) (by lia)) ?_);have p:=p.ui la (show na-1<a.size by lia);refine iT hB (fun _=>p.done) fun f=>?_;have g:=nw f;have j:JH a b n (na-1) nb (out.push a[na-1]):=⟨p,by lia,lb,by lia,mb,by lia⟩
 exact⟨j,j⟩
theorem Cn(hC:xk prog w A s κ a₀)(ha:∀x∈a.toList,x∈a₀.toList)(hb:∀x∈b.toList,x∈a₀.toList)(hB:SM κ ar pd st)(h:JH a b n na nb out):wpS (model prog w) A E s (X8 a b na nb out mg ac bc) (GH κ ar pd a b n n) st:=by
 obtain⟨p,la,lb,ma,mb,li⟩:=h;refine av (bC (dC b (nb-1) (by lia)) ?_);have p:=p.uj (show 1<=nb by lia) (show nb-1<b.size by lia);split
 .exact fE hB p.first
 next f=>
 have g:nb-1≠1:=by simpa using f
 refine av (bC (dC a (na-1) (by lia)) ?_);refine av (ge hC hB.kind (ha _ (by simp)) hb (by lia) (by lia) fun k hk=>?_);dsimp only;split
 .split
  .exact fE hB (p.DZ hk).first
  next f=>
  split
  .exact fE hB (p.DZ hk).done
  next f'=>
  have g:k≠1:=by simpa using f
  have g':k≠0:=by simpa using f'
  exact Cm hB (p.DZ hk) la (by lia) ma (by lia) (by lia)
 .exact Cm hB p la (by lia) ma (by lia) (by lia)
theorem JT(hC:xk prog w A s κ a₀)(ha:∀x∈a.toList,x∈a₀.toList)(hb:∀x∈b.toList,x∈a₀.toList)(hB:SM κ ar pd st)(h:JH a b n na nb out):wpS (model prog w) A E s (X9 a b na nb out mg ac bc) (GH κ ar pd a b n n) st:=by
 obtain⟨p,la,lb,ma,mb,li⟩:=h;refine av (gC ?_);refine av (bC (dC b (nb-1) (by lia)) ?_);have tf:SM κ ar pd (SortSt.mk' (kindOf st) (arrOf st) (pendingOf st) mg (failedOf st)):=⟨hB.arr,hB.kind,hB.failed,hB.pend⟩
 refine av (ge hC tf.kind (hb _ (by simp)) ha (by lia) (by lia) fun k hk=>?_);dsimp only;split
 .split
  .exact fE tf (p.DY hk).done
  next f=>
  have g:k≠0:=by simpa using f
  exact Cn hC ha hb tf ⟨p.DY hk,by lia,lb,by lia,mb,by lia⟩
 .exact Cn hC ha hb tf ⟨p,la,lb,ma,mb,li⟩
theorem JU{k:Nat}(hC:xk prog w A s κ a₀)(ha:∀x∈a.toList,x∈a₀.toList)(hb:∀x∈b.toList,x∈a₀.toList)(hB:SM κ ar pd st)(h:JH a b (n+k) na nb out){q:Nat×Nat}:wpS (model prog w) A E s (hiW a b mg (none,na,nb,out,q)) (GH κ ar pd a b (n+1) (n+(k+1))) st:=by
 obtain⟨p,la,lb,ma,mb,li⟩:=h;refine av (bC (dC b (nb-1) (by lia)) (av (bC (dC a (na-1) (by lia)) (av (rJ hC hB.kind (hb _ (by simp)) (ha _ (by simp)) fun w=>?_)))));cases w
 .refine av (bC (dC b (nb-1) (by lia)) ?_);have p:=p.uj (show 1<=nb by lia) (show nb-1<b.size by lia);refine iT hB (fun _=>p.first) fun f=>?_;have g:nb-1≠1:=nw f;have j:JH a b (n+(k+1)) na (nb-1) (out.push b[nb-1]):=⟨p,la,by lia,ma,by lia,by lia⟩
  exact⟨⟨p,la,j.2.2.1,ma,j.2.2.2.2.1,by have:=j.2.2.2.2.2;dsimp only;lia⟩,j⟩
 .refine av (bC (dC a (na-1) (by lia)) ?_);have p:=p.ui la (show na-1<a.size by lia);refine iT hB (fun _=>p.done) fun f=>?_;have g:na-1≠0:=nw f;have j:JH a b (n+(k+1)) (na-1) nb (out.push a[na-1]):=⟨p,by lia,lb,by lia,mb,by lia⟩
  exact⟨⟨p,j.2.1,lb,j.2.2.2.1,mb,by have:=j.2.2.2.2.2;dsimp only;lia⟩,j⟩
theorem yg{Q:Array Keyed->SortSt->Prop}(hC:xk prog w A s κ a₀)(hB:SM κ ar pd st)(ha:∀x∈a.toList,x∈a₀.toList)(hb:∀x∈b.toList,x∈a₀.toList)(a1:1<=a.size)(b1:1<=b.size)(h:∀out bg,out.Perm (a++b)->SM κ ar pd bg->Q out bg):wpS (model prog w) A E s (rH a b) Q st:=by
 rw[yf];refine av (lC (iD ⟨rfl,?_⟩));refine av (bC (dC a (a.size-1) (by lia)) ?_);have p0:PH a b #[a[a.size-1]] (a.size-1) b.size:=by
  have:PH a b #[] a.size b.size:=by unfold PH;simp
  exact this.ui a1 (by lia)
 split
 .exact aU (h _ _ p0.done hB)
 next f=>
 split
 .exact aU (h _ _ p0.first hB)
 next f'=>
 have g:a.size-1≠0:=by simpa using f
 have g':b.size≠1:=by simpa using f'
 refine Ch (J:=JH a b) hB ⟨p0,by lia,by lia,by lia,by lia,by lia⟩ (fun i k x y z h=>⟨h.1,h.2.1,h.2.2.1,h.2.2.2.1,h.2.2.2.2.1,by have:=h.2.2.2.2.2;lia⟩) (fun x y z h=>by have:=h.2;lia) (by lia) (fun mg n k x y z p st m j=>JU hC ha hb m j) (fun n x y z p st m j=>?_) h;unfold hiG;split <;> exact JT hC ha hb m j
end
section
variable {prog:Program} {w:World} {A:Around} {E:Value->Shared->Prop} {s:Shared} {κ:SortKind} {a₀:Array Keyed} {pd:Array (Nat×Nat×Nat)}
theorem D5{st:SortSt}{lo oC:Nat}{Q:Option Nat->SortSt->Prop}(hC:xk prog w A s κ a₀)(hn:lo+oC<=a₀.size)(h1:1<=oC)(hB:SQ κ a₀ pd st)(h:∀n bg,SQ κ a₀ pd bg->1<=n->n<=oC->Q (some n) bg):wpS (model prog w) A E s (countRun' lo oC) Q st:=by
 rw[countRun'_eq];refine av (dZ (fW (I:=fun i c bg=>SQ κ a₀ pd bg/\∃m,c=(none,m)/\m=i) (Q:=fun c bg=>SQ κ a₀ pd bg/\∃m,c=(none,m)/\1<=m/\m<=oC) ?_ ?_ ⟨hB,_,rfl,rfl⟩) ?_)
 .rintro i c QF QG EB ⟨F9,m,rfl,rfl⟩;dsimp only;refine av (fD hC F9 (by lia) (by lia) fun b1=>?_);cases b1
  .exact aU ⟨F9,_,rfl,rfl⟩
  .exact aU ⟨F9,_,rfl,by lia,by lia⟩
 .rintro c QF ⟨F9,m,rfl,rfl⟩;exact⟨F9,_,rfl,by lia,by lia⟩
 .rintro c QF ⟨F9,n,rfl,n1,n2⟩;dsimp only;by_cases e1:(n==oC)=true
  .rw[am e1];exact aU (h n QF F9 n1 n2)
  rw[if_neg e1];have g1:¬ (n=oC):=by simpa using e1
  by_cases e2:n > 1
  .rw[am e2];refine av (fD hC F9 (by lia) (by lia) fun b2=>?_);cases b2
   .dsimp only;rw[if_neg (by decide)];refine av (gU F9 fun Aj tf=>?_);refine av (lC (iD ⟨rfl,?_⟩));refine av (dZ (fW (I:=fun i c bg=>SQ κ a₀ pd bg/\∃m q,c=(none,m,q)/\m=i) (Q:=fun c bg=>SQ κ a₀ pd bg/\∃m q,c=(none,m,q)/\1<=m/\m<=oC) ?_ ?_ ⟨tf,_,_,rfl,rfl⟩) ?_)
    .rintro i c Al QG EB ⟨pK,m,q,rfl,rfl⟩;dsimp only;refine av (fD hC pK (by lia) (by lia) fun b3=>?_);cases b3
     .dsimp only;rw[if_neg (by decide)];refine av (fD hC pK (by lia) (by lia) fun b4=>?_);cases b4
      .exact aU ⟨pK,_,_,rfl,rfl⟩
      .exact aU ⟨pK,_,_,rfl,by lia,by lia⟩
     .dsimp only;rw[am rfl];split
      .exact av (gU pK fun sH Ob=>aU ⟨Ob,_,_,rfl,rfl⟩)
      .exact aU ⟨pK,_,_,rfl,rfl⟩
    .rintro c Al ⟨pK,m,q,rfl,rfl⟩;exact⟨pK,_,_,rfl,by lia,by lia⟩
    .rintro c Al ⟨pK,m,q,rfl,m1,m2⟩;dsimp only;split
     .refine av (gU pK fun sH Ob=>?_);refine av (gU Ob fun xh Oc=>?_);refine av (dZ (fW (I:=fun i c bg=>SQ κ a₀ pd bg/\∃m,c=(none,m)/\m=i) (Q:=fun c bg=>SQ κ a₀ pd bg/\∃m,c=(none,m)/\1<=m/\m<=oC) ?_ ?_ ⟨Oc,_,rfl,rfl⟩) ?_)
      .rintro i c AV QG EB ⟨lQ,m,rfl,rfl⟩;dsimp only;refine av (fD hC lQ (by lia) (by lia) fun b6=>?_);cases b6
       .exact aU ⟨lQ,_,rfl,rfl⟩
       .exact aU ⟨lQ,_,rfl,by lia,by lia⟩
      .rintro c AV ⟨lQ,m,rfl,rfl⟩;exact⟨lQ,_,rfl,by lia,by lia⟩
      .rintro c AV ⟨lQ,m,rfl,h1,h2⟩;exact aU (h m AV lQ h1 h2)
     .refine av (gU pK fun xh Oc=>?_);refine av (dZ (fW (I:=fun i c bg=>SQ κ a₀ pd bg/\∃m,c=(none,m)/\m=i) (Q:=fun c bg=>SQ κ a₀ pd bg/\∃m,c=(none,m)/\1<=m/\m<=oC) ?_ ?_ ⟨Oc,_,rfl,rfl⟩) ?_)
      .rintro i c AV QG EB ⟨lQ,m,rfl,rfl⟩;dsimp only;refine av (fD hC lQ (by lia) (by lia) fun b6=>?_);cases b6
       .exact aU ⟨lQ,_,rfl,rfl⟩
       .exact aU ⟨lQ,_,rfl,by lia,by lia⟩
      .rintro c AV ⟨lQ,m,rfl,rfl⟩;exact⟨lQ,_,rfl,by lia,by lia⟩
      .rintro c AV ⟨lQ,m,rfl,h1,h2⟩;exact aU (h m AV lQ h1 h2)
   .exact aU (h n QF F9 n1 n2)
  .rw[if_neg e2];have tf:=F9;refine av (lC (iD ⟨rfl,?_⟩));refine av (dZ (fW (I:=fun i c bg=>SQ κ a₀ pd bg/\∃m q,c=(none,m,q)/\m=i) (Q:=fun c bg=>SQ κ a₀ pd bg/\∃m q,c=(none,m,q)/\1<=m/\m<=oC) ?_ ?_ ⟨tf,_,_,rfl,rfl⟩) ?_)
   .rintro i c Al QG EB ⟨pK,m,q,rfl,rfl⟩;dsimp only;refine av (fD hC pK (by lia) (by lia) fun b3=>?_);cases b3
    .dsimp only;rw[if_neg (by decide)];refine av (fD hC pK (by lia) (by lia) fun b4=>?_);cases b4
     .exact aU ⟨pK,_,_,rfl,rfl⟩
     .exact aU ⟨pK,_,_,rfl,by lia,by lia⟩
    .dsimp only;rw[am rfl];split
     .exact av (gU pK fun sH Ob=>aU ⟨Ob,_,_,rfl,rfl⟩)
     .exact aU ⟨pK,_,_,rfl,rfl⟩
   .rintro c Al ⟨pK,m,q,rfl,rfl⟩;exact⟨pK,_,_,rfl,by lia,by lia⟩
   .rintro c Al ⟨pK,m,q,rfl,m1,m2⟩;dsimp only;split
    .refine av (gU pK fun sH Ob=>?_);refine av (gU Ob fun xh Oc=>?_);refine av (dZ (fW (I:=fun i c bg=>SQ κ a₀ pd bg/\∃m,c=(none,m)/\m=i) (Q:=fun c bg=>SQ κ a₀ pd bg/\∃m,c=(none,m)/\1<=m/\m<=oC) ?_ ?_ ⟨Oc,_,rfl,rfl⟩) ?_)
     .rintro i c AV QG EB ⟨lQ,m,rfl,rfl⟩;dsimp only;refine av (fD hC lQ (by lia) (by lia) fun b6=>?_);cases b6
      .exact aU ⟨lQ,_,rfl,rfl⟩
      .exact aU ⟨lQ,_,rfl,by lia,by lia⟩
     .rintro c AV ⟨lQ,m,rfl,rfl⟩;exact⟨lQ,_,rfl,by lia,by lia⟩
     .rintro c AV ⟨lQ,m,rfl,h1,h2⟩;exact aU (h m AV lQ h1 h2)
    .refine av (gU pK fun xh Oc=>?_);refine av (dZ (fW (I:=fun i c bg=>SQ κ a₀ pd bg/\∃m,c=(none,m)/\m=i) (Q:=fun c bg=>SQ κ a₀ pd bg/\∃m,c=(none,m)/\1<=m/\m<=oC) ?_ ?_ ⟨Oc,_,rfl,rfl⟩) ?_)
     .rintro i c AV QG EB ⟨lQ,m,rfl,rfl⟩;dsimp only;refine av (fD hC lQ (by lia) (by lia) fun b6=>?_);cases b6
      .exact aU ⟨lQ,_,rfl,rfl⟩
      .exact aU ⟨lQ,_,rfl,by lia,by lia⟩
     .rintro c AV ⟨lQ,m,rfl,rfl⟩;exact⟨lQ,_,rfl,by lia,by lia⟩
     .rintro c AV ⟨lQ,m,rfl,h1,h2⟩;exact aU (h m AV lQ h1 h2)
end
abbrev JV:=Nat×Nat×Nat
def iU:List JV->Nat->Nat->Prop
 |[],s,e=>s=e
 |r::rs,s,e=>r.1=s/\1<=r.2.1/\iU rs (s+r.2.1) e
theorem iU.le:∀ {l:List JV} {s e:Nat},iU l s e->s<=e
 |[],_,_,h=>nG h
 |r::rs,s,e,⟨_,h2,h3⟩=>by have:=h3.le;lia
theorem iU.two:∀ {l:List JV} {s e i:Nat} {x y:JV},iU l s e->l[i]?=some x->l[i+1]?=some y->
  x.1+x.2.1=y.1/\y.1+y.2.1<=e/\1<=x.2.1/\1<=y.2.1/\∀p,iU ((l.set i (x.1,x.2.1+y.2.1,p)).eraseIdx (i+1)) s e
 |r::q::rs,s,e,0,x,y,⟨h1,h2,h3,h4,h5⟩,hx,hy=>by
  obtain rfl:=bh hx;obtain rfl:=bh hy;have:=h5.le;refine⟨by lia,by lia,h2,h4,fun p=>⟨h1,by show 1<=r.2.1+q.2.1;lia,?_⟩⟩;show iU rs (s+(r.2.1+q.2.1)) e;rw[<-Nat.add_assoc];exact h5
 |r::rs,s,e,i+1,x,y,⟨h1,h2,h3⟩,hx,hy=>by
  obtain⟨a1,a2,a3,a4,a5⟩:=iU.two (i:=i) h3 hx hy;exact⟨a1,a2,a3,a4,fun p=>⟨h1,h2,a5 p⟩⟩
theorem iU.push:∀ {l:List JV} {s e n p:Nat},iU l s e->1<=n->iU (l++[(e,n,p)]) s (e+n)
 |[],s,e,n,p,h,hn=>⟨h.symm,hn,by rw[h];rfl⟩
 |r::rs,s,e,n,p,⟨h1,h2,h3⟩,hn=>⟨h1,h2,iU.push h3 hn⟩
theorem iU.pw:∀ {l:List JV} {s e:Nat} (i p:Nat),iU l s e->iU (l.modify i fun r=>(r.1,r.2.1,p)) s e
 |[],s,e,i,p,h=>by cases i <;> exact h
 |r::rs,s,e,0,p,⟨h1,h2,h3⟩=>⟨h1,h2,h3⟩
 |r::rs,s,e,i+1,p,⟨h1,h2,h3⟩=>⟨h1,h2,iU.pw i p h3⟩
theorem JW{M:Model}{A:Around}{E:Value->Shared->Prop}{s:Shared}{σ:Type}{x:σ}{Q:PUnit->σ->Prop}{st:σ}(h:Q ⟨⟩ x):wpS M A E s (set x:StateT σ Sem PUnit) Q st:=by
 unfold wpS;rw[StateT.run_set];exact wpAny_pure ⟨rfl,h⟩
theorem yh(i:Nat):mergeAt' i=(do
 let s <- get
 let (some (sa,na,Sw),some (sb,nb,_)):=((pendingOf s)[i]?,(pendingOf s)[i+1]?)|unsupported "internal:list.sort.pending"
 set (setPending s (((pendingOf s).setIfInBounds i (sa,na+nb,Sw)).eraseIdxIfInBounds (i+1)))
 let some k <- iq false (<-elem' (arrOf s) sb) (arrOf s) sa na 0|return false
 let (sa,na):=(sa+k,na-k)
 if na==0 then return true
 let some nb <- iq true (<-elem' (arrOf s) (sa+na-1)) (arrOf s) sb nb (nb-1)|return false
 if nb==0 then return true
 let x:=(arrOf s).extract sa sb
 let y:=(arrOf s).extract sb (sb+nb)
 let merged <- if na<=nb then rG x y else rH x y
 modify fun s=>setArr s (merged.toList.zipIdx.foldl (fun a (p,j)=>a.setIfInBounds (sa+j) p) (arrOf s))
 return (failedOf (<-get)).isNone):=rfl
theorem rL{sa:Nat}:∀ (l:List Keyed) (k:Nat) (arr:Array Keyed),sa+k+l.length<=arr.size->
  ((l.zipIdx k).foldl (fun (a:Array Keyed) (x:Keyed×Nat)=>a.setIfInBounds (sa+x.2) x.1) arr).toList=arr.toList.take (sa+k)++l++arr.toList.drop (sa+k+l.length)
 |[],k,arr,_=>by simp
 |x::l,k,arr,h=>by
  rw[dR] at h;have hs:sa+k<arr.toList.length:=by rw[lZ];lia
  rw[zX,iz,rL l (k+1) _ (by rw[Array.size_setIfInBounds];lia),EN];dsimp only;have e1:(arr.toList.set (sa+k) x).take (sa+(k+1))=arr.toList.take (sa+k)++[x]:=by
   rw[<-Nat.add_assoc,eZ,mY hs,List.take_set_of_le (aT _)];rfl
  have e2:(arr.toList.set (sa+k) x).drop (sa+(k+1)+l.length)=arr.toList.drop (sa+k+(x::l).length):=by
   rw[List.drop_set_of_lt (by lia),dR];congr 1;lia
  rw[e1,e2,dQ,dQ,dQ];rfl
section
variable {prog:Program} {w:World} {A:Around} {E:Value->Shared->Prop} {s:Shared} {κ:SortKind} {a₀:Array Keyed}
def SR(κ:SortKind)(a₀:Array Keyed)(lo:Nat)(st:SortSt):Prop:=∃pd,SQ κ a₀ pd st/\iU pd.toList 0 lo/\lo<=a₀.size
theorem j_{st:SortSt}{i lo:Nat}{Q:Bool->SortSt->Prop}(hC:xk prog w A s κ a₀)(hB:SR κ a₀ lo st)(hi:i+1<(pendingOf st).size)(h:∀bg,SR κ a₀ lo bg->Q true bg):wpS (model prog w) A E s (mergeAt' i) Q st:=by
 obtain⟨pd,hq,hr,VP⟩:=hB;rw[hq.pend] at hi;rw[yh];refine av (gZ ?_);have e1:pd[i]?=some pd[i]:=dC pd i (by lia);have e2:pd[i+1]?=some pd[i+1]:=dC pd (i+1) hi;obtain⟨a1,a2,a3,a4,a5⟩:=hr.two (i:=i) (x:=pd[i]) (y:=pd[i+1]) (by simpa using e1) (by simpa using e2);rw[hq.pend,e1,e2];revert a1 a2 a3 a4 a5;generalize pd[i]=x;generalize pd[i+1]=y;obtain⟨sa,na,pw⟩:=x;obtain⟨sb,nb,pw2⟩:=y;intro a1 a2 a3 a4 a5;dsimp only at a1 a2 a3 a4 a5 |-;obtain⟨JX,Sx⟩:∃JX,JX=(pd.setIfInBounds i (sa,na+nb,pw)).eraseIdxIfInBounds (i+1):=⟨_,rfl⟩
 have fQ:iU JX.toList 0 lo:=by
  rw[Sx,Array.toList_eraseIdxIfInBounds,EN];exact a5 pw
 refine av (JW ?_);rw[<-Sx];have MM:SM κ (arrOf st) JX (setPending st JX):=⟨rfl,hq.kind,hq.failed,rfl⟩
 have hsz:=hq.size;have vW:∀x∈(arrOf st).toList,x∈a₀.toList:=fun x hx=>(k4.mp hq.perm).mem_iff.mp hx;have dE:∀bg,SM κ (arrOf st) JX bg->SR κ a₀ lo bg:=fun bg m=>⟨JX,⟨by rw[m.arr];exact hq.perm,m.kind,m.failed,m.pend⟩,fQ,VP⟩
 refine av (bC (dC (arrOf st) sb (by lia)) ?_);refine av (ge hC MM.kind (vW _ (by simp)) vW (by lia) (by lia) fun k hk=>?_);dsimp only;by_cases f1:(na-k==0)=true
 .rw[am f1];exact aU (h _ (dE _ MM))
 rw[if_neg f1];have g1:¬ (na-k=0):=by simpa using f1
 refine av (bC (dC (arrOf st) (sa+k+(na-k)-1) (by lia)) ?_);refine av (ge hC MM.kind (vW _ (by simp)) vW (by lia) (by lia) fun k2 Su=>?_);dsimp only;by_cases f2:(k2==0)=true
 .rw[am f2];exact aU (h _ (dE _ MM))
 rw[if_neg f2];have g2:¬ (k2=0):=by simpa using f2
 have hx:∀x∈((arrOf st).extract (sa+k) sb).toList,x∈a₀.toList:=fun x hx=>vW x (by rw[el] at hx;exact u4 (jK hx));have hy:∀x∈((arrOf st).extract sb (sb+k2)).toList,x∈a₀.toList:=fun x hx=>vW x (by rw[el] at hx;exact u4 (jK hx));have sx:((arrOf st).extract (sa+k) sb).size=sb-(sa+k):=by rw[Array.size_extract];lia
 have sy:((arrOf st).extract sb (sb+k2)).size=k2:=by rw[Array.size_extract];lia
 have last:∀ (out:Array Keyed) (bg:SortSt),out.Perm ((arrOf st).extract (sa+k) sb++(arrOf st).extract sb (sb+k2))->SM κ (arrOf st) JX bg->wpS (model prog w) A E s (do
   modify fun s=>setArr s (out.toList.zipIdx.foldl (fun a (p,j)=>a.setIfInBounds (sa+k+j) p) (arrOf s))
   return (failedOf (<-get)).isNone) Q bg:=by
  intro out bg hp m;refine av (gC ?_);refine av (gZ (aU ?_));have osz:out.toList.length=sb-(sa+k)+k2:=by
   rw[lZ,hp.size_eq,Array.size_append,sx,sy]
  have wl:=rL (sa:=sa+k) out.toList 0 (arrOf bg) (by rw[m.arr,osz];lia);have pm:(out.toList.zipIdx.foldl (fun a (p,j)=>a.setIfInBounds (sa+k+j) p) (arrOf bg)).Perm (arrOf st):=by
   rw[k4];refine(vh wl).trans ?_;rw[m.arr,osz,Nat.add_zero];have QB:=k4.mp hp;rw[eX,el,el] at QB;refine((QB.append_left _).append_right _).trans ?_;have e1:(arrOf st).toList.drop (sa+k)=((arrOf st).toList.drop (sa+k)).take (sb-(sa+k))++(arrOf st).toList.drop sb:=mw (by lia);have e2:(arrOf st).toList.drop sb=((arrOf st).toList.drop sb).take (sb+k2-sb)++(arrOf st).toList.drop (sb+k2):=mw (by lia);have e3:sa+k+(sb-(sa+k)+k2)=sb+k2:=by lia
   rw[e3];refine vh ?_;conv=>rhs;rw[<-ln (sa+k) (arrOf st).toList,e1,e2]
   simp only[dQ]
  have hf:(failedOf bg).isNone=true:=by rw[m.failed];rfl
  show Q (failedOf bg).isNone _;rw[hf];exact h _ ⟨JX,⟨pm.trans hq.perm,m.kind,m.failed,m.pend⟩,fQ,VP⟩
 by_cases f3:na-k<=k2
 .rw[am f3];exact av (ye hC MM hx hy (by lia) (by lia) fun out bg hp m=>last out bg hp m)
 .rw[if_neg f3];exact av (yg hC MM hx hy (by lia) (by lia) fun out bg hp m=>last out bg hp m)
theorem yi{c:Prop}[Decidable c]{x:Nat}:(if c then x-1 else x)<=x:=by split <;> lia
theorem SR.pw{lo:Nat}{st:SortSt}(h:SR κ a₀ lo st)(i p:Nat):SR κ a₀ lo (setPending st ((pendingOf st).modify i fun r=>(r.1,r.2.1,p))):=by
 obtain⟨pd,hq,hr,hl⟩:=h;refine⟨_,⟨hq.perm,hq.kind,hq.failed,rfl⟩,?_,hl⟩;show iU ((pendingOf st).modify i fun r=>(r.1,r.2.1,p)).toList 0 lo;rw[hq.pend,Array.toList_modify];exact hr.pw i p
theorem SR.push{lo n:Nat}{st:SortSt}(h:SR κ a₀ lo st)(h1:1<=n)(hn:lo+n<=a₀.size):SR κ a₀ (lo+n) (setPending st ((pendingOf st).push (lo,n,0))):=by
 obtain⟨pd,hq,hr,hl⟩:=h;refine⟨_,⟨hq.perm,hq.kind,hq.failed,rfl⟩,?_,hn⟩;show iU ((pendingOf st).push (lo,n,0)).toList 0 (lo+n);rw[hq.pend,nq];exact hr.push h1
theorem uk{st:SortSt}{Q:Unit->SortSt->Prop}(hC:xk prog w A s κ a₀)(hp:(arrOf st).Perm a₀)(hk:kindOf st=κ)(hf:failedOf st=none)(hpd:pendingOf st=#[])(h:∀bg,(arrOf bg).Perm a₀->failedOf bg=none->Q () bg):wpS (model prog w) A E s sortRuns' Q st:=by
 have h0:SR κ a₀ 0 st:=⟨#[],⟨hp,hk,hf,hpd⟩,rfl,cu _⟩
 have hsz:(arrOf st).size=a₀.size:=hp.size_eq;rw[sortRuns'_eq];refine av (gZ ?_);dsimp only;rw[hsz];refine av (dZ (fW (I:=fun _ c bg=>∃lo,c=(none,lo)/\SR κ a₀ lo bg) (Q:=fun c bg=>∃lo,c=(none,lo)/\SR κ a₀ lo bg) ?_ (fun c bg hh=>hh) ⟨0,rfl,h0⟩) ?_)
 .rintro i c QF _ _ ⟨lo,rfl,hR⟩;dsimp only;by_cases e1:lo>=a₀.size
  .rw[am e1];exact aU ⟨lo,rfl,hR⟩
  rw[if_neg e1];have VP:lo<a₀.size:=by lia
  obtain⟨pd,hq,hr,hl⟩:=hR;refine av (D5 hC (by lia) (by lia) hq fun n Aj VS n1 n2=>?_);dsimp only;by_cases hm:n<minRun' a₀.size a₀.size 0
  .rw[am hm];refine av (lC (iD ⟨rfl,?_⟩));refine av (JQ hC (by lia) VS fun Al hq3=>?_);simp only[vq,jE,eT];have IF:SR κ a₀ lo Al:=⟨pd,hq3,hr,hl⟩
   refine av (gZ ?_);cases hb:(pendingOf Al).back? with
   |none=>
    dsimp only;exact av (gC (aU ⟨_,rfl,IF.push (by lia) (by lia)⟩))
   |some r=>
    obtain⟨s1,n1',pw1⟩:=r;dsimp only;refine av (dZ (fW (I:=fun _ c bg=>c=(none,())/\SR κ a₀ lo bg) (Q:=fun c bg=>c=(none,())/\SR κ a₀ lo bg) ?_ (fun c bg hh=>hh) ⟨rfl,IF⟩) ?_)
    .rintro x c sH _ _ ⟨rfl,vY⟩;refine av (gZ ?_);by_cases hs:(pendingOf sH).size > 1
     .rw[am hs,dC (pendingOf sH) ((pendingOf sH).size-2) (by lia)];generalize (pendingOf sH)[(pendingOf sH).size-2]=r4;obtain⟨_,_,Sy⟩:=r4;dsimp only;split
      .exact aU ⟨rfl,vY⟩
      .refine av (j_ hC vY (by lia) fun xh F_=>?_);simp only[vq,jE,eT];exact aU ⟨rfl,F_⟩
     .rw[if_neg hs];exact aU ⟨rfl,vY⟩
    .rintro c sH ⟨rfl,vY⟩;dsimp only;exact av (gC (av (gC (aU ⟨_,rfl,(vY.pw _ _).push (by lia) (by lia)⟩))))
  .rw[if_neg hm];have IF:SR κ a₀ lo Aj:=⟨pd,VS,hr,hl⟩
   refine av (gZ ?_);cases hb:(pendingOf Aj).back? with
   |none=>
    dsimp only;exact av (gC (aU ⟨_,rfl,IF.push (by lia) (by lia)⟩))
   |some r=>
    obtain⟨s1,n1',pw1⟩:=r;dsimp only;refine av (dZ (fW (I:=fun _ c bg=>c=(none,())/\SR κ a₀ lo bg) (Q:=fun c bg=>c=(none,())/\SR κ a₀ lo bg) ?_ (fun c bg hh=>hh) ⟨rfl,IF⟩) ?_)
    .rintro x c sH _ _ ⟨rfl,vY⟩;refine av (gZ ?_);by_cases hs:(pendingOf sH).size > 1
     .rw[am hs,dC (pendingOf sH) ((pendingOf sH).size-2) (by lia)];generalize (pendingOf sH)[(pendingOf sH).size-2]=r4;obtain⟨_,_,Sy⟩:=r4;dsimp only;split
      .exact aU ⟨rfl,vY⟩
      .refine av (j_ hC vY (by lia) fun xh F_=>?_);simp only[vq,jE,eT];exact aU ⟨rfl,F_⟩
     .rw[if_neg hs];exact aU ⟨rfl,vY⟩
    .rintro c sH ⟨rfl,vY⟩;dsimp only;exact av (gC (av (gC (aU ⟨_,rfl,(vY.pw _ _).push (by lia) (by lia)⟩))))
 .rintro c QF ⟨lo,rfl,hR⟩;dsimp only;refine av (dZ (fW (I:=fun _ c bg=>c=(none,())/\SR κ a₀ lo bg) (Q:=fun c bg=>c=(none,())/\SR κ a₀ lo bg) ?_ (fun c bg hh=>hh) ⟨rfl,hR⟩) ?_)
  .rintro x c sH _ _ ⟨rfl,vY⟩;refine av (gZ ?_);by_cases hs:(pendingOf sH).size<=1
   .rw[am hs];exact aU ⟨rfl,vY⟩
   rw[if_neg hs];refine av (j_ hC vY ?_ fun xh F_=>?_)
   .exact eY (Nat.succ_le_succ yi) (show (pendingOf sH).size-2+1<(pendingOf sH).size by lia)
   .simp only[vq,jE,eT];exact aU ⟨rfl,F_⟩
  .rintro c sH ⟨rfl,pd,hq,_⟩;exact aU (h _ hq.perm hq.failed)
end
end PyProof.Rows
namespace L2
open PySem PySem.Spec PyProof.Rows PySem.W
def jh(h:Heap)(vs:List Value):Prop:=∀v∈vs,∃a o n x t y u,v=Value.ref a/\h.get? a=some o/\o.cls=.type "tuple"/\o.data=.seq #[.int x t,.int y u] n
theorem jh.lD{h:Heap}:∀ {vs:List Value},jh h vs->∃fs,KatTups h vs fs/\fs.length=vs.length/\∀v∈fs,∃n t,v=Value.int n t
 |[],_=>⟨[],trivial,rfl,fun v hv=>nomatch hv⟩
 |v::vs,hp=>by
  obtain⟨fs,k1,k2,k3⟩:=jh.lD (vs:=vs) fun b hb=>hp b (cp _ hb);obtain⟨a,o,n,x,t,y,u,rfl,e,c,d⟩:=hp v cg;refine⟨.int x t::fs,KatTups.cons e c d rfl k1,by simp[k2],fun v hv=>?_⟩;rcases bi.mp hv with z|z
  .exact⟨x,t,z⟩
  .exact k3 v z
section
variable {prog:Program} {w:World} {A:Around} {E:Value->Shared->Prop} {s:Shared}
theorem D6{vs:List Value}(hp:jh s.heap vs):xk prog w A s (tuples' true) (vs.toArray.zip vs.toArray):=by
 have mem:∀x∈(vs.toArray.zip vs.toArray).toList,x.1∈vs:=by
  intro x hx;rw[Array.toList_zip] at hx;exact(nB hx).1
 intro x y hx hy Q E' q;obtain⟨a,o,n,x1,t1,x2,t2,e1,eo,_,ed⟩:=hp x.1 (mem x hx);obtain⟨b,o',n',y1,u1,y2,u2,e2,eo',_,ed'⟩:=hp y.1 (mem y hy);rw[e1,e2];refine kat_lt eo ed eo' ed' (kat_cons (Ab ?_));by_cases h1:x1=y1
 .rw[fq.mpr h1];refine kat_yes (kat_cons (Ab ?_));by_cases h2:x2=y2
  .rw[fq.mpr h2];exact kat_yes (kat_nil (q _))
  .rw[lq.mpr h2];exact kat_no (kat_one _ _ (lt_int (q _)))
 .rw[lq.mpr h1];exact kat_no (oneLt_int (q _))
theorem JY{vs:List Value}:((vs.toArray.zip vs.toArray).map (·.2)).toList=vs:=by
 rw[qF,Array.toList_zip];show (vs.zip vs).map (·.2)=vs;rw[<-List.unzip_snd,List.unzip_zip_right (aT _)]
theorem pM{a:Addr}{vs:List Value}{n:Nat}{P:PySem.Fin->Shared->Prop}(ho:s.heap.get? a=some (seqObj "list" vs.toArray n))(hp:jh s.heap vs)(hz:vs.length<=4096)(h:∀ (out:Array Value),out.toList.Perm vs->P (.done (.ret .none)) { s with heap:=sortedHeap s.heap a vs out }):
  wpAny (model prog w) A (Builtin.«list.sort» ⟨[.ref a],[]⟩) P E s:=by
 rw[list_sort_plain];have ha:a<s.heap.objs.size:=a8 ho;have V2:vs.toArray.size<=sizeLine:=by rw[cm,fX];lia
 refine aw (listItems_at ho rfl ?_);refine aw (lB ho rfl ?_ V2 (cu _));obtain⟨e1,JZ⟩:∃e1,(s.heap.update a (Obj.mapSeq fun _=>#[])).get? a=some (seqObj "list" #[] e1):=⟨_,jR ho (fun _=>#[])⟩
 refine aw (qU JZ rfl ?_);refine aw (wpAny_newTuple ?_ (by show vs.length<=_;rw[fX];lia));refine aw (vz ?_ (cu _));refine gI ?_;have IG:(((s.heap.update a (Obj.mapSeq fun _=>#[])).push (seqObj "tuple" vs.toArray 0)).push (seqObj "list" #[] 0)).get? a=some (seqObj "list" #[] e1):=by
  rw[e_ _ _ _ (by rw[ft,gk];exact aW (cX ha)),e_ _ _ _ (by rw[gk];exact aW ha)];exact JZ
 have hp6:jh (((s.heap.update a (Obj.mapSeq fun _=>#[])).push (seqObj "tuple" vs.toArray 0)).push (seqObj "list" #[] 0)) vs:=by
  intro v hv;obtain⟨b,o,n,x,t,y,u,ev,e,c,d⟩:=hp v hv;have hb:b<s.heap.objs.size:=a8 e;have og:b≠a:=by
   rintro rfl;rw[ho] at e;cases e;exact absurd (Value.type.inj c) (by decide)
  refine⟨b,o,n,x,t,y,u,ev,?_,c,d⟩;rw[e_ _ _ _ (by rw[ft,gk];exact aW (cX hb)),e_ _ _ _ (by rw[gk];exact aW hb),l4 _ _ _ _ og];exact e
 show wpAny (model prog w) A _ P E { s with heap:=((s.heap.update a (Obj.mapSeq fun _=>#[])).push (seqObj "tuple" vs.toArray 0)).push (seqObj "list" #[] 0) };dsimp only;have dE:∀bg:SortSt,(arrOf bg).Perm (vs.toArray.zip vs.toArray)->P (.done (.ret .none)) { s with heap:=sortedHeap s.heap a vs ((arrOf bg).map (·.2)) }:=by
  intro bg V3;refine h _ ?_;have:=(k4.mp V3).map (·.2);rw[<-qF,<-qF,JY] at this;exact this
 have zsz:(vs.toArray.zip vs.toArray).size=vs.length:=by simp
 by_cases h2:vs.toArray.size<2
 .rw[am h2,am h2];refine aw (wpAny_pure ?_);rw[StateT.run_pure];refine aw (wpAny_pure ?_);dsimp only;refine aw (qU IG rfl ?_);refine aw (lB IG rfl ?_ (cu _) (by show ((vs.toArray.zip vs.toArray).map (·.2)).size<=_;rw[gY,zsz,fX];lia));simp only[zL,jE,eT];exact wpAny_pure (dE (SortSt.mk' general' (vs.toArray.zip vs.toArray) #[] 7 none) (vj _))
 .rw[if_neg h2,if_neg h2];have d9:2<=vs.length:=by rw[cm] at h2;lia
  obtain⟨fs,k1,k2,k3⟩:=hp6.lD;refine aw (kat_kind (T:=.type "int") k1 (by lia) (fun v hv=>?_) rfl ?_)
  .obtain⟨m,t,rfl⟩:=k3 v hv;exact .now
  refine aw (f9 (uk (a₀:=vs.toArray.zip vs.toArray) (κ:=tuples' true) (st:=SortSt.mk' (tuples' true) (vs.toArray.zip vs.toArray) #[] 7 none)
   (Q:=fun _ bg=>(arrOf bg).Perm (vs.toArray.zip vs.toArray)/\failedOf bg=none) (D6 hp6) (vj _) rfl rfl rfl fun bg b1 b2=>⟨b1,b2⟩) ?_ fun _ _ e=>e)
  rintro⟨⟨⟩,bg⟩ s' ⟨rfl,V3,hf⟩;dsimp only;refine aw (qU IG rfl ?_);refine aw (lB IG rfl ?_ (cu _) (by refine a9 (nG ((gY ..).trans (V3.size_eq.trans zsz))) ?_;rw[fX];lia));rw[hf];simp only[zL,jE,eT];exact wpAny_pure (dE bg V3)
theorem vZ{l:Addr}{vs:List Value}{Q:Value->Shared->Prop}(hl:s.heap.IsList l vs.toArray)(hp:jh s.heap vs)(hz:vs.length<=4096)(h:∀ (out:Array Value),out.toList.Perm vs->Q (.ref (s.heap.objs.size+1)) { s with heap:=sortedAll s.heap vs out }):
  wpAny (model prog w) A (call (.builtin "sorted") [.ref l]) Q E s:=by
 have V2:vs.length<=sizeLine:=by rw[fX];lia
 refine Calls.call_function_entry kind_sorted plain_sorted entry_sorted (args_sorted1 _) ?_;unfold Builtin.«sorted»;refine aw (m:=checkCount "sorted" 1 1 _) (wpAny_pure ?_);refine aw (collect_list hl ?_ V2);refine aw (vz ?_ V2);have hsz:((s.heap.push (seqObj "list" #[] 0)).update s.heap.objs.size (Obj.mapSeq (·++vs.toArray))).objs.size=s.heap.objs.size+1:=by
  rw[gk,ft]
 have xr:(((s.heap.push (seqObj "list" #[] 0)).update s.heap.objs.size (Obj.mapSeq (·++vs.toArray))).push (seqObj "list" vs.toArray 0)).get? (s.heap.objs.size+1)=some (seqObj "list" vs.toArray 0):=by
  rw[<-hsz];exact cL _ rfl
 have QE:jh (((s.heap.push (seqObj "list" #[] 0)).update s.heap.objs.size (Obj.mapSeq (·++vs.toArray))).push (seqObj "list" vs.toArray 0)) vs:=by
  intro v hv;obtain⟨b,o,n,x,t,y,u,ev,e,c,d⟩:=hp v hv;have hb:b<s.heap.objs.size:=a8 e;refine⟨b,o,n,x,t,y,u,ev,?_,c,d⟩;rw[e_ _ _ _ (by rw[hsz];exact aW (cX hb)),l4 _ _ _ _ (aW hb),e_ _ _ _ (aW hb)];exact e
 show wpAny _ _ _ _ _ { s with heap:=((s.heap.push (seqObj "list" #[] 0)).update s.heap.objs.size (Obj.mapSeq (·++vs.toArray))).push (seqObj "list" vs.toArray 0) };rw[hsz];refine aw (gI (nC slot_list_sort ⟨_,xr,rfl⟩ entry_list_sort (pM xr QE hz fun out a1=>⟨_,rfl,?_⟩) (args_list_sort _)));exact wpAny_pure ⟨_,rfl,h out a1⟩
end
theorem rM:∀ {as:List Addr} {its:List Value},aY (as.map V.ref) its->its=as.map Value.ref
 |[],_,r=>by cases r;rfl
 |a::as,_,r=>by
  cases r with
  |cons r rr=>
   obtain rfl:=(show _=Value.ref a from r)
   rw[rM rr];rfl
theorem ul:∀ {as:List Addr},aY (as.map V.ref) (as.map Value.ref)
 |[]=>.nil
 |_::_=>.cons rfl ul
theorem D7{as:List Addr}{vs:List Value}(h:vs.Perm (as.map Value.ref)):∃v9:List Addr,vs=v9.map Value.ref/\v9.Perm as:=by
 let un:Value->Addr:=fun v=>match v with|.ref a=>a|_=>0
 refine⟨vs.map un,?_,?_⟩
 .rw[dD];have:∀v∈vs,(Value.ref ∘ un) v=v:=by
   intro v hv;obtain⟨a,_,rfl⟩:=aX.mp (h.mem_iff.mp hv);rfl
  conv=>lhs;rw[<-lA vs]
  exact il fun v hv=>(this v hv).symm
 .have:=h.map un;rw[dD] at this;have e:as.map (un ∘ Value.ref)=as:=by
   conv=>rhs;rw[<-lA as]
   exact il fun a _=>rfl
  rw[e] at this;exact this
def AW(K:PySem.W.Frag):List V->Hp->VK->Prop:=fun xs H Q=>∃ (l:Addr) (as:List Addr),xs=[.ref l]/\aV K H l (as.map V.ref)/\(∀a∈as,∃x y:Int,bW K H a [.int x,.int y])/\as.length<=4096/\
 ∀ (D:Addr) (v9:List Addr),H D=none->v9.Perm as->Q (.ref D) (upd H D (.lst (v9.map V.ref)))
theorem rN{X:Cx}:gm X (.builtin "sorted") (AW X.K):=by
 intro ae s σ H xs us Q I r h;obtain⟨l,as,rfl,hl,hp,hz,q⟩:=h;obtain⟨u1,rfl,r1⟩:=r.one;obtain rfl:u1=Value.ref l:=r1;obtain⟨its,rv,pl,_⟩:=I.list hl;have FU:=rM rv;subst FU;have hpv:jh s.heap (as.map Value.ref):=by
  intro v hv;obtain⟨a,ha,rfl⟩:=aX.mp hv;obtain⟨x,y,Co⟩:=hp a ha;obtain⟨its,r,⟨o,e,c,n,d⟩,_⟩:=I.tuple Co;obtain⟨u1,u2,rfl,r1,r2⟩:=r.two;obtain⟨t,rfl⟩:=r1;obtain⟨t',rfl⟩:=r2;exact⟨a,o,n,x,t,y,t',rfl,e,c,d⟩
 refine vZ pl.isList hpv (by rw[aI];exact hz) fun out Sz=>?_;obtain⟨v9,eo,pa⟩:=D7 Sz;have DS:out=(v9.map Value.ref).toArray:=by rw[<-eo]
 subst DS;have Od:((s.heap.push (seqObj "list" #[] 0)).update s.heap.objs.size (Obj.mapSeq (·++(as.map Value.ref).toArray))).objs.size=s.heap.objs.size+1:=by rw[gk,ft]
 have k1:∀b u,s.heap.get? b=some u->(((s.heap.push (seqObj "list" #[] 0)).update s.heap.objs.size (Obj.mapSeq (·++(as.map Value.ref).toArray))).push (seqObj "list" (as.map Value.ref).toArray 0)).get? b=some u:=fun b u e=>by
  have hb:b<s.heap.objs.size:=a8 e;rw[e_ _ _ _ (by rw[Od];exact aW (cX hb)),l4 _ _ _ _ (aW hb),e_ _ _ _ (aW hb)];exact e
 have xr:(((s.heap.push (seqObj "list" #[] 0)).update s.heap.objs.size (Obj.mapSeq (·++(as.map Value.ref).toArray))).push (seqObj "list" (as.map Value.ref).toArray 0)).get? (s.heap.objs.size+1)=some (seqObj "list" (as.map Value.ref).toArray 0):=by
  rw[<-Od];exact cL _ rfl
 have D8:(((s.heap.push (seqObj "list" #[] 0)).update s.heap.objs.size (Obj.mapSeq (·++(as.map Value.ref).toArray))).push (seqObj "list" (as.map Value.ref).toArray 0)).objs.size=s.heap.objs.size+2:=by rw[ft,Od]
 show EP X ae σ Q (.ref (s.heap.objs.size+1)) { s with heap:=sortedHeap (((s.heap.push (seqObj "list" #[] 0)).update s.heap.objs.size (Obj.mapSeq (·++(as.map Value.ref).toArray))).push (seqObj "list" (as.map Value.ref).toArray 0)) (s.heap.objs.size+1) (as.map Value.ref) (v9.map Value.ref).toArray };revert k1 xr D8;generalize ((s.heap.push (seqObj "list" #[] 0)).update s.heap.objs.size (Obj.mapSeq (·++(as.map Value.ref).toArray))).push (seqObj "list" (as.map Value.ref).toArray 0)=h1;intro k1 xr D8;obtain⟨e1,JZ⟩:∃e1,(h1.update (s.heap.objs.size+1) (Obj.mapSeq fun _=>(#[]:Array Value))).get? (s.heap.objs.size+1)=some (seqObj "list" #[] e1):=⟨_,jR xr (fun _=>#[])⟩
 have IG:(((h1.update (s.heap.objs.size+1) (Obj.mapSeq fun _=>(#[]:Array Value))).push (seqObj "tuple" (as.map Value.ref).toArray 0)).push (seqObj "list" #[] 0)).get? (s.heap.objs.size+1)=some (seqObj "list" #[] e1):=by
  rw[e_ _ _ _ (by rw[ft,gk,D8];exact aW (cX (k9 _))),e_ _ _ _ (by rw[gk,D8];exact aW (k9 _))];exact JZ
 obtain⟨e2,ho7⟩:∃e2,(sortedHeap h1 (s.heap.objs.size+1) (as.map Value.ref) (v9.map Value.ref).toArray).get? (s.heap.objs.size+1)=some (seqObj "list" (v9.map Value.ref).toArray e2):=⟨_,jR IG (fun _=>(v9.map Value.ref).toArray)⟩
 have keep:∀b u,s.heap.get? b=some u->(sortedHeap h1 (s.heap.objs.size+1) (as.map Value.ref) (v9.map Value.ref).toArray).get? b=some u:=fun b u e=>by
  have hb:b<s.heap.objs.size:=a8 e;unfold sortedHeap;rw[l4 _ _ _ _ (aW (cX hb)),e_ _ _ _ (by rw[ft,gk,D8];exact aW (cX (cX (cX hb)))),e_ _ _ _ (by rw[gk,D8];exact aW (cX (cX hb))),l4 _ _ _ _ (aW (cX hb))];exact k1 b u e
 have yj:s.heap.get? (s.heap.objs.size+1)=none:=qA (by lia);refine⟨.ref (s.heap.objs.size+1),_,I.FE (t':=s.toks) (o:=.lst (v9.map V.ref)) keep yj ⟨?_,v9.map Value.ref,e2,ul,ho7⟩,rfl,q _ v9 (I.bL.rj yj) pa⟩;rw[aI,pa.length_eq];exact a9 hz (by decide)
open PySem PySem.Spec PyProof.Rows
theorem cK(sb:Heap.SameBut c h h')(n:b≠c)(e:h.get? b=some o):h'.get? b=some o:=(sb.2 b n).trans e
theorem fH(r:h.IsTupleIter it t k)(sb:Heap.SameBut c h h')(n:it≠c):h'.IsTupleIter it t k:=r.at fun o e=>cK sb n e
theorem rO(r:h.IsTuple t xs)(sb:Heap.SameBut c h h')(n:t≠c):h'.IsTuple t xs:=let ⟨o,e,z⟩:=r;⟨o,cK sb n e,z⟩
section
variable {prog:Program} {w:World} {A:Around} {E:Value->Shared->Prop} {s:Shared}
theorem D9{z ti tq i1 i2 t1 t2:Addr}{k:Nat}{xs ys:Array Value}{x y a b:Value}{Q:Value->Shared->Prop}(dj:ZipApart z ti tq i1 i2 t1 t2)(gz:IsZip s.heap z ti tq .none)(gi:IsPair s.heap ti (.ref i1) (.ref i2))(gq:IsPair s.heap tq a b)(r1:s.heap.IsTupleIter i1 t1 k)(r2:s.heap.IsTupleIter i2 t2 k)(g1:s.heap.IsTuple t1 xs)(g2:s.heap.IsTuple t2 ys)(ex:xs[k]?=some x)(ey:ys[k]?=some y)(q:∀h',IsZip h' z ti tq (rawInt s.heap.objs.size)->IsPair h' tq x y->h'.IsTupleIter i1 t1 (k+1)->h'.IsTupleIter i2 t2 (k+1)->IsPair h' s.heap.objs.size x y->(∀c o,c≠z->c≠tq->c≠i1->c≠i2->s.heap.get? c=some o->h'.get? c=some o)->Q (.ref s.heap.objs.size) { s with heap:=h' }):
  wpAny (model prog w) A (Builtin.«zip.__next__» ⟨[.ref z],[]⟩) (fun dE s'=>∃v,dE=.done (.ret v)/\Q v s') E s:=by
 change wpAny _ _ (field (.ref z) 2 >>= _) _ _ _;refine aw (f8 gz rfl (x:=.bool false) rfl ?_);change wpAny _ _ (field (.ref z) 3 >>= _) _ _ _;refine aw (f8 gz rfl (x:=.ref ti) rfl (aw (jQ gi rfl ?_)));change wpAny _ _ (Builtin.SmallTypes.ownedTupleIsFree (.ref z) >>= _) _ _ _;refine aw ?_;unfold Builtin.SmallTypes.ownedTupleIsFree;refine aw (f8 gz rfl (x:=.none) rfl (wpAny_pure ?_));simp only[i_];refine aw (iD (aw (f8 gz rfl (x:=.ref tq) rfl ?_)));refine aw (qD gz (by simp) fun m1 J0 rm=>?_);replace J0:IsZip m1 z ti tq .ellipsis:=J0;refine aw ?_;simp only[zX,List.zipIdx_nil,vg,vk];refine aw (aw (wpAny_onRaise ?_));change wpAny _ _ (Builtin.SmallTypes.nextOf (.ref i1) >>= _) _ _ _;refine aw (lO (fH r1 rm dj.i1z) (rO g1 rm dj.l1z) ex fun m2 r12 pH=>wpAny_pure ?_);have gq2:IsPair m2 tq a b:=cK pH dj.TOi1 (cK rm dj.TOz gq);refine aw (jQ gq2 rfl (aw (wpAny_updateSeq_pair gq2 fun m3 X_ J4=>?_)));replace X_:IsPair m3 tq x b:=X_;refine aw (wpAny_letGo (wpAny_pure ?_));refine aw (aw (wpAny_onRaise ?_));change wpAny _ _ (Builtin.SmallTypes.nextOf (.ref i2) >>= _) _ _ _;refine aw (lO (fH (fH (fH r2 rm dj.i2z) pH dj.i12.symm) J4 dj.TOi2.symm) (rO (rO (rO g2 rm dj.l2z) pH dj.l2i1) J4 dj.l2TO) ey fun m4 r24 SC=>wpAny_pure ?_);have gq4:IsPair m4 tq x b:=cK SC dj.TOi2 X_;refine aw (jQ gq4 rfl (aw (wpAny_updateSeq_pair gq4 fun m5 V4 SE=>?_)));replace V4:IsPair m5 tq x y:=V4;refine aw (wpAny_letGo (wpAny_pure (wpAny_pure ?_)));refine aw (jQ V4 rfl (aw (wpAny_newTuple ?_)));have sz:m5.objs.size=s.heap.objs.size:=by rw[SE.1,SC.1,J4.1,pH.1,rm.1]
 have gz5:IsZip m5 z ti tq .ellipsis:=cK SE dj.TOz.symm (cK SC dj.i2z.symm (cK J4 dj.TOz.symm (cK pH dj.i1z.symm J0)));have kp5:∀c o,c≠z->c≠tq->c≠i1->c≠i2->s.heap.get? c=some o->m5.get? c=some o:=fun c o c1 c2 c3 c4 e=>
  cK SE c2 (cK SC c4 (cK J4 c2 (cK pH c3 (cK rm c1 e))))
 have r15:m5.IsTupleIter i1 t1 (k+1):=fH (fH (fH r12 J4 dj.TOi1.symm) SC dj.i12) SE dj.TOi1.symm;have r25:m5.IsTupleIter i2 t2 (k+1):=fH r24 SE dj.TOi2.symm;have zl:z<m5.objs.size:=a8 gz5;change wpAny _ _ (Builtin.SmallTypes.ownedTupleHandOut (.ref z) (.ref m5.objs.size) >>= _) _ _ _;refine aw ?_;unfold Builtin.SmallTypes.ownedTupleHandOut;have gz6:IsZip (m5.push { cls:=.type "tuple",data:=.seq #[x,y] }) z ti tq .ellipsis:=b9 _ gz5;refine aw (qD gz6 (by simp) fun m7 Ya sb7=>?_);replace Ya:IsZip m7 z ti tq (rawInt m5.objs.size):=Ya;refine qD Ya (by simp) fun m8 V5 sb8=>?_;replace V5:IsZip m8 z ti tq (rawInt m5.objs.size):=V5;have up:∀c o,c≠z->m5.get? c=some o->m8.get? c=some o:=fun c o c1 e=>cK sb8 c1 (cK sb7 c1 (b9 _ e));have gp8:IsPair m8 m5.objs.size x y:=cK sb8 (i9 zl) (cK sb7 (i9 zl) (cL _ rfl));rw[sz] at V5 gp8;refine wpAny_pure ⟨_,rfl,?_⟩;change Q (.ref m5.objs.size) _;rw[sz];exact q m8 V5 (up _ _ dj.TOz V4) (r15.at fun o e=>up _ o dj.i1z e) (r25.at fun o e=>up _ o dj.i2z e) gp8 fun c o c1 c2 c3 c4 e=>up c o c1 (kp5 c o c1 c2 c3 c4 e)
theorem Ga(hh:A.handled=none)(dj:ZipApart z ti tq i1 i2 t1 t2)(gz:IsZip s.heap z ti tq .none)(gi:IsPair s.heap ti (.ref i1) (.ref i2))(r1:s.heap.IsTupleIter i1 t1 k)(g1:s.heap.IsTuple t1 xs)(ex:xs[k]?=none)(q:∀h' e,(∀c o,c≠z->c≠i1->s.heap.get? c=some o->h'.get? c=some o)->(∃o,h'.get? e=some o/\o.cls=.type "StopIteration")->E (.ref e) { s with heap:=h' }):
  wpAny (model prog w) A (Builtin.«zip.__next__» ⟨[.ref z],[]⟩) Q E s:=by
 change wpAny _ _ (field (.ref z) 2 >>= _) _ _ _;refine aw (f8 gz rfl (x:=.bool false) rfl ?_);change wpAny _ _ (field (.ref z) 3 >>= _) _ _ _;refine aw (f8 gz rfl (x:=.ref ti) rfl (aw (jQ gi rfl ?_)));change wpAny _ _ (Builtin.SmallTypes.ownedTupleIsFree (.ref z) >>= _) _ _ _;refine aw ?_;unfold Builtin.SmallTypes.ownedTupleIsFree;refine aw (f8 gz rfl (x:=.none) rfl (wpAny_pure ?_));simp only[i_];refine aw (iD (aw (f8 gz rfl (x:=.ref tq) rfl ?_)));refine aw (qD gz (by simp) fun m1 J0 rm=>?_);replace J0:IsZip m1 z ti tq .ellipsis:=J0;refine aw ?_;simp only[zX,List.zipIdx_nil,vg,vk];refine aw (aw (wpAny_onRaise ?_));change wpAny _ _ (Builtin.SmallTypes.nextOf (.ref i1) >>= _) _ _ _;refine aw (oz hh (fH r1 rm dj.i1z) (rO g1 rm dj.l1z) ex fun m2 e pH he=>?_);obtain⟨oe,Yb,hce⟩:=he;have V6:IsZip m2 z ti tq .ellipsis:=pH _ _ dj.i1z.symm J0;have nez:e≠z:=fun y=>by subst y;rw[V6] at Yb;cases Yb;simp at hce
 exact qD V6 (by simp) fun m3 _ J4=>q m3 e (fun c o c1 c3 y=>cK J4 c1 (pH _ _ c3 (cK rm c1 y))) ⟨oe,cK J4 nez Yb,hce⟩
theorem AX(dj:ZipApart z ti tq i1 i2 t1 t2)(gz:IsZip s.heap z ti tq .none)(gi:IsPair s.heap ti (.ref i1) (.ref i2))(gq:IsPair s.heap tq a b)(r1:s.heap.IsTupleIter i1 t1 k)(r2:s.heap.IsTupleIter i2 t2 k)(g1:s.heap.IsTuple t1 xs)(g2:s.heap.IsTuple t2 ys)(ex:xs[k]?=some x)(ey:ys[k]?=some y)(q:∀h',IsZip h' z ti tq (rawInt s.heap.objs.size)->IsPair h' tq x y->h'.IsTupleIter i1 t1 (k+1)->h'.IsTupleIter i2 t2 (k+1)->IsPair h' s.heap.objs.size x y->(∀c o,c≠z->c≠tq->c≠i1->c≠i2->s.heap.get? c=some o->h'.get? c=some o)->Q (some (.ref s.heap.objs.size)) { s with heap:=h' }):
  wpAny (model prog w) A (pyNext (.ref z)) Q E s:=by
 have ty:s.TypeIs (.ref z) "zip":=⟨_,gz,rfl⟩
 unfold pyNext;refine aw (qO (qw (name:=Str.ofString "__next__") ty F.slot_zip_next (nC F.slot_zip_next ty F.entry_zip_next ?_ (F.args_zip_next_1 _))));exact D9 dj gz gi gq r1 r2 g1 g2 ex ey fun h' a1 a2 a3 a4 a5 a6=>wpAny_pure (q h' a1 a2 a3 a4 a5 a6)
theorem AY(hh:A.handled=none)(dj:ZipApart z ti tq i1 i2 t1 t2)(gz:IsZip s.heap z ti tq .none)(gi:IsPair s.heap ti (.ref i1) (.ref i2))(r1:s.heap.IsTupleIter i1 t1 k)(g1:s.heap.IsTuple t1 xs)(ex:xs[k]?=none)(q:∀h',(∀c o,c≠z->c≠i1->s.heap.get? c=some o->h'.get? c=some o)->Q none { s with heap:=h' }):wpAny (model prog w) A (pyNext (.ref z)) Q E s:=by
 have ty:s.TypeIs (.ref z) "zip":=⟨_,gz,rfl⟩
 unfold pyNext;refine aw (qO (qw (name:=Str.ofString "__next__") ty F.slot_zip_next (nC F.slot_zip_next ty F.entry_zip_next (Ga hh dj gz gi r1 g1 ex fun h' e hk he=>?_) (F.args_zip_next_1 _))));obtain⟨o,ho,hc⟩:=he;exact aw (wpAny_isInstance (T:="StopIteration") (b:=true) ⟨o,ho,hc⟩ isSubtype_stop (wpAny_pure (q _ hk)))
abbrev zT(t:Addr):Obj:={ cls:=.type "tuple_iterator",data:=.fields #[.ref t,.int 0 0] }
abbrev V7(h:Heap)(t1 t2:Addr):Heap:=((h.push (zT t1)).push (zT t2)).push { cls:=.type "tuple",data:=.seq #[.ref h.objs.size,.ref (h.push (zT t1)).objs.size] }
abbrev V8(h:Heap)(t1 t2:Addr):Heap:=(V7 h t1 t2).push { cls:=.type "tuple",data:=.seq #[.none,.none] }
abbrev QH(h:Heap)(t1 t2:Addr):Heap:=(V8 h t1 t2).push { cls:=.type "zip",data:=.fields #[.none,.bool false,.bool false,.ref ((h.push (zT t1)).push (zT t2)).objs.size,.ref (V7 h t1 t2).objs.size] }
theorem Gb(t1 t2:Addr)(xs ys:Array Value):
  Meets (Builtin.«zip.__new__» ⟨[.type "zip",.ref t1,.ref t2],[]⟩) (fun _ R s=>s.heap.IsTuple t1 xs/\s.heap.IsTuple t2 ys/\R (.ok (.ret (.ref (V8 s.heap t1 t2).objs.size))) { s with heap:=QH s.heap t1 t2 }):=
 .of_wp fun prog w A R s h=>by
  obtain⟨hp,g,d,tk,os⟩:=s;obtain⟨g1,g2,h⟩:=h;have ab3:=sub_zip;have gA:Heap.IsTuple (Shared.heap ⟨hp,g,d,tk,os⟩) t1 xs:=g1;have gB:Heap.IsTuple (Shared.heap ⟨hp.push (zT t1),g,d,tk,os⟩) t2 ys:=let ⟨o,e,z⟩:=g2;⟨o,b9 _ e,z⟩
  wp_walk using qE gA,qE gB
  exact⟨_,rfl,h⟩
theorem D_(g1:s.heap.IsTuple t1 xs)(g2:s.heap.IsTuple t2 ys)(q:∀h',IsZip h' (s.heap.objs.size+4) (s.heap.objs.size+2) (s.heap.objs.size+3) .none->IsPair h' (s.heap.objs.size+2) (.ref s.heap.objs.size) (.ref (s.heap.objs.size+1))->IsPair h' (s.heap.objs.size+3) .none .none->
   h'.IsTupleIter s.heap.objs.size t1 0->h'.IsTupleIter (s.heap.objs.size+1) t2 0->(∀c o,s.heap.get? c=some o->h'.get? c=some o)->Q (.ref (s.heap.objs.size+4)) { s with heap:=h' }):
  wpAny (model prog w) A (call (.type "zip") [.ref t1,.ref t2]) Q E s:=by
 refine callType_new F.called_zip (by decide) (F.typeCall_zip_2 _ _) (F.newCall_zip_2 _ _) (fun obj=>F.args_object_init_3 obj _ _) F.entry_zip_new (Gb t1 t2 xs ys) ⟨g1,g2,?_⟩;have n1:(s.heap.push (zT t1)).objs.size=s.heap.objs.size+1:=gx ..;have n2:((s.heap.push (zT t1)).push (zT t2)).objs.size=s.heap.objs.size+2:=by rw[gx,n1]
 have n3:(V7 s.heap t1 t2).objs.size=s.heap.objs.size+3:=by rw[gx,n2]
 have n4:(V8 s.heap t1 t2).objs.size=s.heap.objs.size+4:=by rw[gx,n3]
 have e5:(QH s.heap t1 t2).get? (V8 s.heap t1 t2).objs.size=some _:=cL _ rfl;have e4:(QH s.heap t1 t2).get? (V7 s.heap t1 t2).objs.size=some _:=b9 _ (cL _ rfl);have e3:(QH s.heap t1 t2).get? ((s.heap.push (zT t1)).push (zT t2)).objs.size=some _:=b9 _ (b9 _ (cL _ rfl));have e2:(QH s.heap t1 t2).get? (s.heap.push (zT t1)).objs.size=some _:=b9 _ (b9 _ (b9 _ (cL _ rfl)));have e1:(QH s.heap t1 t2).get? s.heap.objs.size=some _:=b9 _ (b9 _ (b9 _ (b9 _ (cL _ rfl))));change _/\_;rw[n2,n3,n4] at e5;rw[n1,n2] at e3;rw[n3] at e4;rw[n1] at e2;rw[n4];exact⟨⟨_,e5,rfl⟩,q _ e5 e3 e4 ⟨_,e1,rfl,rfl⟩ ⟨_,e2,rfl,rfl⟩ fun c o y=>
  b9 _ (b9 _ (b9 _ (b9 _ (b9 _ y))))⟩
end
theorem aM.J5{X:Cx}{ae:List (Addr×Obj)}{σ:St}{H:Hp}{s:Shared}{h':Heap}{t':Nat}{ch:List Addr}(I:aM X ae σ H s)(fe:∀e∈ch,fP X ae H e)(k:∀b o,b∉ch->s.heap.get? b=some o->h'.get? b=some o):aM X ae σ H { s with heap:=h',toks:=t' }:=by
 have Mx:∀b u,H b=some u->b∉ch:=fun b u e z=>by rw[(fe b z).1] at e;cases e
 refine I.step (g':=s.gens) (d':=s.drawn) (ch:=ch) (fun b hb=>?_) (fun b o _ _ hc e _=>k b o hc e) (fun b o _ _ hc e _=>⟨o.slots,k b o hc e⟩) (fun _ _ _ _ n=>n) (fun b o hc e=>⟨o,k b o hc e⟩) (fun _ _ e=>e) (fun _ _ _ e=>e) (fun b ps e=>⟨#[],by rw[e];simp⟩) (fun m hm=>?_) (fun b u e=>?_) I.bare
 .obtain⟨_,f1,_,f3,f4,f5⟩:=fe b hb;exact⟨f3,f1,f4,f5⟩
 .obtain⟨o,es,ep,ho,r⟩:=hm;exact⟨o,es,ep,k _ o (fun z=>(fe _ z).2.1 rfl) ho,r⟩
 .refine(I.bL b u e).l6 (fun c v hc q=>k c v ?_ q) (fun _ q=>q) fun _ _ q=>q;rcases hc with z|z
  .rw[z];exact Mx b u e
  .exact Mx c _ z
theorem aM.J6{X:Cx}{ae:List (Addr×Obj)}{σ:St}{H:Hp}{s:Shared}{h':Heap}{p:Addr}{t':Nat}{ch:List Addr}{xs:List V}{its:List Value}(I:aM X ae σ H s)(fe:∀e∈ch,fP X ae H e)(k:∀b o,b∉ch->s.heap.get? b=some o->h'.get? b=some o)(hp:s.heap.objs.size<=p)(hl:xs.length<=sizeLine)(r:aY xs its)(ht:h'.get? p=some { cls:=.type "tuple",data:=.seq its.toArray }):aM X ae σ (upd H p (.tup xs)) { s with heap:=h',toks:=t' }:=by
 have hn:=I.bL.fresh hp;have ne:∀b o,s.heap.get? b=some o->b≠p:=fun b o q=>aW (b_ (a8 q) hp);have Mx:∀b u,H b=some u->b∉ch:=fun b u e z=>by rw[(fe b z).1] at e;cases e
 refine I.step (g':=s.gens) (d':=s.drawn) (ch:=ch) (fun b hb=>?_) (fun b o _ _ hb q _=>k b o hb q) (fun b o _ _ hb q _=>⟨o.slots,k b o hb q⟩) (fun b o hb q n=>by rw[ao (ne b o q)];exact n) (fun b o hb q=>⟨o,k b o hb q⟩)
  (fun b ys q=>by rw[ao (aj q hn)];exact q) (fun b o u q=>by rw[ao (aj q hn)];exact q) (fun b ps q=>⟨#[],by rw[ao (aj q hn),q];simp⟩) (fun m hm=>?_) (fun b o q=>?_) I.bare
 .obtain⟨_,f1,_,f3,f4,f5⟩:=fe b hb;exact⟨f3,f1,f4,f5⟩
 .obtain⟨o,es,ep,q,d,r'⟩:=hm;exact⟨o,es,ep,k _ _ (fun z=>(fe _ z).2.1 rfl) q,d,r'⟩
 .by_cases hb:b=p
  .subst hb;rw[af] at q;cases q;exact⟨hl,its,r,_,ht,rfl,_,rfl,rfl⟩
  .rw[ao hb] at q;refine(I.bL b o q).l6 (fun c u hc z=>k c u ?_ z) (fun c z=>by rw[ao (aj z hn)];exact z) fun c ys z=>by rw[ao (aj z hn)];exact z
   rcases hc with rfl|hc
   .exact Mx _ _ q
   .exact Mx _ _ hc
def Yc(K:PySem.W.Frag)(a b:Addr):It:=
 ⟨fun i H=>∃xs ys x y,bW K H a xs/\bW K H b ys/\xs[i]?=some x/\ys[i]?=some y,fun i H v H'=>∃p x y,v=.ref p/\H p=none/\H'=upd H p (.tup [x,y])/\(∀xs,bW K H a xs->xs[i]?=some x)/\∀ys,bW K H b ys->ys[i]?=some y,fun i H=>∃xs,bW K H a xs/\xs.length<=i⟩
theorem Gc{P:Program}{w:World}{K:PySem.W.Frag}{es:List Expr}{x1:Nat}{pos:Pos}(a b z ti tq i1 i2:Addr)(dj:ZipApart z ti tq i1 i2 a b):
  xz P w K (.Tuple es x1 pos) (Yc K a b) [z,ti,tq,i1,i2] z (fun i h=>IsZip h z ti tq .none/\IsPair h ti (.ref i1) (.ref i2)/\(∃u v,IsPair h tq u v)/\h.IsTupleIter i1 a i/\h.IsTupleIter i2 b i) where
 mem:=by simp
 obj:=fun i h st c hc=>by
  obtain⟨gz,gi,⟨u,v,gq⟩,⟨o1,q1,c1,d1⟩,⟨o2,q2,c2,d2⟩⟩:=st;simp only[bi,iw,iE] at hc;rcases hc with rfl|rfl|rfl|rfl|rfl
  .exact⟨_,gz,fun v z=>by have z':Data.fields _=Data.cell v:=z;cases z'⟩
  .exact⟨_,gi,fun v z=>by have z':Data.seq _ _=Data.cell v:=z;cases z'⟩
  .exact⟨_,gq,fun v z=>by have z':Data.seq _ _=Data.cell v:=z;cases z'⟩
  .exact⟨o1,q1,fun v z=>by rw[d1] at z;cases z⟩
  .exact⟨o2,q2,fun v z=>by rw[d2] at z;cases z⟩
 keep:=fun i h h' st k=>by
  obtain⟨gz,gi,⟨u,v,gq⟩,r1,r2⟩:=st;exact⟨k z (by simp) _ gz,k ti (by simp) _ gi,⟨u,v,k tq (by simp) _ gq⟩,r1.at fun o q=>k i1 (by simp) o q,r2.at fun o q=>k i2 (by simp) o q⟩
 item:=by
  intro X hP hw hK hc i ae s σ H E I hf st hg;subst hP hw hK;obtain⟨xs,ys,x,y,hx,hy,ex,ey⟩:=hg;obtain⟨us,rx,px,_⟩:=I.tuple hx;obtain⟨vs,ry,py,_⟩:=I.tuple hy;obtain⟨u,hu,ru⟩:=rx.get ex;obtain⟨v,hv,rv⟩:=ry.get ey;obtain⟨gz,gi,⟨u0,v0,gq⟩,r1,r2⟩:=st;refine AX dj gz gi gq r1 r2 (show s.heap.IsTuple a us.toArray from px) (show s.heap.IsTuple b vs.toArray from py) (x:=u) (y:=v) (by simpa using hu) (by simpa using hv) fun h1 J0 gq1 r11 r21 gp1 kp=>?_;refine⟨_,rfl,wpAny_letOwnedTupleGo_zip J0 fun h2 V6 pH=>?_⟩;have zl:z<s.heap.objs.size:=a8 gz;have nz:s.heap.objs.size≠z:=i9 zl;have kp2:∀c o,c∉[z,tq,i1,i2]->s.heap.get? c=some o->h2.get? c=some o:=fun c o hc e=>by
   simp only[bi,iw,iE,not_or] at hc;exact cK pH hc.1 (kp c o hc.1 hc.2.1 hc.2.2.1 hc.2.2.2 e)
  have gi2:IsPair h2 ti (.ref i1) (.ref i2):=kp2 _ _ (by simp only[bi,iw,iE,not_or];exact⟨dj.TIz,dj.TITO,dj.TIi1,dj.TIi2⟩) gi;have fe:∀e∈[z,tq,i1,i2],fP X ae H e:=fun e he=>hf e (by simp only[bi,iw,iE] at he |-;rcases he with h|h|h|h <;> simp[h]);have I2:aM X ae σ (upd H s.heap.objs.size (.tup [x,y])) { s with heap:=h2,toks:=s.toks }:=
   I.J6 (its:=[u,v]) fe kp2 (aT _) (by show 2<=sizeLine;decide) (.cons ru (.cons rv .nil)) (cK pH nz gp1)
  refine⟨.ref s.heap.objs.size,_,I2,rfl,⟨_,x,y,rfl,I.bL.fresh (aT _),rfl,fun zs hz=>by rw[I.f_ hz hx];exact ex,fun zs hz=>by rw[I.f_ hz hy];exact ey⟩,⟨V6,gi2,⟨u,v,cK pH dj.TOz gq1⟩,fH r11 pH dj.i1z,fH r21 pH dj.i2z⟩,fun c hc=>?_⟩;have f0:=(hf c hc).1;have cl:c<s.heap.objs.size:=by
   simp only[bi,iw,iE] at hc;rcases hc with rfl|rfl|rfl|rfl|rfl
   .exact zl
   .exact a8 gi
   .exact a8 gq
   .obtain⟨o,q,_⟩:=r1;exact a8 q
   .obtain⟨o,q,_⟩:=r2;exact a8 q
  rw[ao (aW cl)];exact f0
 done:=by
  intro X hP hw hK hc i ae s σ H E I hf st hg;subst hP hw hK;obtain⟨xs,hx,hi⟩:=hg;obtain⟨us,rx,px,_⟩:=I.tuple hx;obtain⟨gz,gi,⟨u0,v0,gq⟩,r1,r2⟩:=st;have hl:=rx.length;refine AY (I.ok.hd hc) dj gz gi r1 (show s.heap.IsTuple a us.toArray from px) (by simp;lia) fun h' kp=>⟨rfl,?_⟩
  have fe:∀e∈[z,i1],fP X ae H e:=fun e he=>hf e (by simp only[bi,iw,iE] at he |-;rcases he with h|h <;> simp[h]);refine I.J5 (t':=s.toks) fe fun c o hc e=>?_;simp only[bi,iw,iE,not_or] at hc;exact kp c o hc.1 hc.2 e
 self:=fun _ _ _ _ _ st h=>wpAny_pyIter_zip st.1 h
section
variable {X:Cx}
def SF(K:PySem.W.Frag)(ta:TA):TI:=fun σ H R=>ta σ H fun vs H1=>∃a b xs ys,vs=[.ref a,.ref b]/\bW K H1 a xs/\bW K H1 b ys/\xs.length=ys.length/\R (Yc K a b) H1
theorem J7{es:List Expr}{x1:Nat}{Ji:Pos}{a b:Expr}{ta:TA}{p pos:Pos}(hg:Gl X "zip")(hm:X.mg "zip"=none)(ha:PA X [a,b] ta)(hs:starEach [a,b] X.env=[(false,eval a X.env),(false,eval b X.env)]:=by rfl)(pF:starEach [b] X.env=[(false,eval b X.env)]:=by rfl):
  PI X (.Tuple es x1 Ji) (.Call (.Name "zip" p) [a,b] [] pos) (SF X.K ta):=by
 intro ae s σ H R I h;refine Call_ (jW I hg hm PyProof.Rows.boot_zip (qt (cz (ha pos ae s σ H _ I h) fun us s1 ⟨vs,H1,I1,r1,q1⟩=>?_) (by rw[hs,pF]) (by rw[pF];rfl)));obtain⟨l,m,xs,ys,rfl,hl,hm',Co,q⟩:=q1;obtain⟨u1,u2,rfl,X2,ru2⟩:=r1.two;obtain rfl:u1=Value.ref l:=X2;obtain rfl:u2=Value.ref m:=ru2;obtain⟨its,rv,pt,_⟩:=I1.tuple hl;obtain⟨Js,rv2,Ea,_⟩:=I1.tuple hm';have eL:l<s1.heap.objs.size:=by obtain⟨o,e,_⟩:=pt;exact a8 e
 have Oe:m<s1.heap.objs.size:=by obtain⟨o,e,_⟩:=Ea;exact a8 e
 refine D_ (show s1.heap.IsTuple l its.toArray from pt) (show s1.heap.IsTuple m Js.toArray from Ea) fun h' gz gi gq r1 r2 k=>?_;refine wpAny_pyIter_zip gz ?_;have I2:aM X ae σ H1 { s1 with heap:=h' }:=I1.kept (t':=s1.toks) k;refine⟨s1.heap.objs.size+4,[s1.heap.objs.size+4,s1.heap.objs.size+2,s1.heap.objs.size+3,s1.heap.objs.size,s1.heap.objs.size+1],_,_,H1,rfl,I2,Gc l m _ _ _ _ _ (zipApart_new eL Oe),⟨gz,gi,⟨_,_,gq⟩,r1,r2⟩,fun b hb=>?_,q⟩;have pI:s1.heap.objs.size<=b:=by
  simp only[bi,iw,iE] at hb;rcases hb with rfl|rfl|rfl|rfl|rfl
  .exact vc _ _
  .exact vc _ _
  .exact vc _ _
  .exact aT _
  .exact vc _ _
 exact I1.xy pI (I1.bL.fresh pI)
theorem Gd{K:PySem.W.Frag}{a b D:Addr}{xs ys:List V}{g:TG}{tt:TT}{te:TE}{dE:Hp->Prop}{σB:St}{H0:Hp}(Co:xs.length=ys.length)(Pv:Nat->List V->St->Hp->Prop)(h0:Pv 0 [] σB H0)(hl:∀i zs σ H,i<=xs.length->Pv i zs σ H->bW K H a xs/\bW K H b ys)(hs:∀i x y p zs σ H (Kt:V->St->Hp->Prop) (Kf:St->Hp->Prop),xs[i]?=some x->ys[i]?=some y->Pv i zs σ H->H p=none->
   (∀v σ2 H4,H4 D=some (.lst zs)->zs.length<sizeLine->Pv (i+1) (zs++[v]) σ2 (upd H4 D (.lst (zs++[v])))->Kt v σ2 H4)->(∀σ2 H3,Pv (i+1) zs σ2 H3->Kf σ2 H3)->
   g (.ref p) σ (upd H p (.tup [x,y])) fun σ2 H2=>tt σ2 H2 fun b H3=>if b=true then te σ2 H3 fun v H4=>Kt v σ2 H4 else Kf σ2 H3)(hd:∀zs σ H,Pv xs.length zs σ H->dE H):gu (Yc K a b) g tt te D dE σB H0:=by
 refine⟨fun i m σ H=>m=xs.length-i/\i<=xs.length/\∃zs,Pv i zs σ H,⟨xs.length,by simp,cu _,[],h0⟩,?_⟩;rintro i m σ H ⟨rfl,hi,zs,p⟩;obtain⟨q1,q2⟩:=hl i zs σ H hi p;by_cases eL:i<xs.length
 .have Oe:i<ys.length:=by lia
  refine .inr ⟨⟨xs,ys,xs[i],ys[i],q1,q2,by simp[eL],by simp[Oe]⟩,?_⟩;rintro v H' ⟨pp,x,y,rfl,hn,rfl,Sd,hv2⟩;exact hs i x y pp zs σ _ (fun v σ2 H4=>∃zs,H4 D=some (.lst zs)/\zs.length<sizeLine/\∃m',m'<xs.length-i/\m'=xs.length-(i+1)/\i+1<=xs.length/\∃qc,Pv (i+1) qc σ2 (upd H4 D (.lst (zs++[v]))))
   (fun σ2 H3=>∃m',m'<xs.length-i/\m'=xs.length-(i+1)/\i+1<=xs.length/\∃qc,Pv (i+1) qc σ2 H3) (Sd xs q1) (hv2 ys q2) p hn
   (fun v σ2 H4 z1 z2 z3=>⟨zs,z1,z2,_,by lia,rfl,eL,_,z3⟩) (fun σ2 H3 z=>⟨_,by lia,rfl,eL,_,z⟩)
 .have e:i=xs.length:=by lia
  subst e;exact .inl ⟨⟨xs,q1,aT _⟩,hd zs σ H p⟩
theorem AZ(rx:aY xs us)(ry:aY ys vs)(fx:xs.all eQ=true)(fy:ys.all eQ=true):
  ∀j (h1:j<us.toArray.size) (h2:j<vs.toArray.size),SeqAt.EqAt A s us.toArray[j] vs.toArray[j] (mh (xs.getD j .bV) (ys.getD j .bV)):=by
 intro j h1 h2;have j1:j<xs.length:=by rw[rx.length];simpa using h1
 have j2:j<ys.length:=by rw[ry.length];simpa using h2
 have e1:xs[j]?=some (xs.getD j .bV):=by rw[bv,cH j1];rfl
 have e2:ys[j]?=some (ys.getD j .bV):=by rw[bv,cH j2];rfl
 obtain⟨u,MR,ru⟩:=rx.get e1;obtain⟨v,Sd,rv⟩:=ry.get e2;have eu:us.toArray[j]=u:=by
  have:us[j]?=some us.toArray[j]:=by simp at h1 |-
  rw[MR] at this;exact(bh this).symm
 have ev:vs.toArray[j]=v:=by
  have:vs[j]?=some vs.toArray[j]:=by simp at h2 |-
  rw[Sd] at this;exact(bh this).symm
 rw[eu,ev];exact Ft ru rv (i6.mp fx _ (cI e1)) (i6.mp fy _ (cI e2))
theorem Ge(I:aM X ae σ H s)(hu:A.units+1<cLine)(ha:bW X.K H a xs)(hb:bW X.K H b ys)(hl:xs.length=ys.length)(fx:xs.all eQ=true)(fy:ys.all eQ=true):
  SeqAt.EqAt A s (.ref a) (.ref b) (io mh xs ys):=by
 by_cases pN:a=b
 .subst pN;have e1:=I.f_ ha hb;subst e1;have e2:io mh xs xs=true:=by
   clear ha hb hl fy;induction xs with
   |nil=>rfl
   |cons x xs ih=>
    rw[jS,gj] at fx;rw[io,ih fx.2,Bool.and_true];cases x <;> first|rfl|(show (_==_)=true;simp)|exact absurd (show false=true from fx.1) cJ
  rw[e2];exact SeqAt.EqAt.same _
 .obtain⟨us,r1,p1,_⟩:=I.tuple ha;obtain⟨vs,r2,p2,_⟩:=I.tuple hb;have h:=SeqAt.RcAt.tuples (A:=A) (s:=s) (l:=a) (b:=b) (e:=fun i=>mh (xs.getD i .bV) (ys.getD i .bV)) (show s.heap.IsTuple a us.toArray from p1) (show s.heap.IsTuple b vs.toArray from p2) (by lia)
   (AZ r1 r2 fx fy)
  refine SeqAt.EqAt.of_refs pN ?_;have er:((List.range (min us.toArray.size vs.toArray.size)).all (fun i=>mh (xs.getD i .bV) (ys.getD i .bV))&&us.toArray.size==vs.toArray.size)=io mh xs ys:=by
   rw[cm,cm,<-r1.length,<-r2.length,<-hl,vw,beq_self_eq_true,Bool.and_true,ip hl]
  rw[er] at h;exact h
theorem A0{p q:Int×Int}:io mh [.int p.1,.int p.2] [.int q.1,.int q.2]=decide (p=q):=by
 obtain⟨a,b⟩:=p;obtain⟨c,d⟩:=q;show ((a==c)&&((b==d)&&true))=decide ((a,b)=(c,d));by_cases h1:a=c <;> by_cases h2:b=d <;> simp[h1,h2]
def Of(K:PySem.W.Frag)(MH:Bool):R2:=fun x y H Q=>∃ (p l:Addr) (u:Int×Int) (as:List Addr) (ps:List (Int×Int)),x=.ref p/\y=.ref l/\bW K H p [.int u.1,.int u.2]/\aV K H l (as.map V.ref)/\as.length=ps.length/\(∀i,i<ps.length->bW K H (as.getD i 0) [.int (ps.getD i (0,0)).1,.int (ps.getD i (0,0)).2])/\
 Q (.bl (if MH then !decide (u∈ps) else decide (u∈ps))) H
open Classical in
theorem Cp(I:aM X ae σ H s):∀ {as:List Addr} {ps:List (Int×Int)},as.length=ps.length->(∀i,i<ps.length->bW X.K H (as.getD i 0) [.int (ps.getD i (0,0)).1,.int (ps.getD i (0,0)).2])->
  ((as.map Value.ref).any fun v=>decide (∃a,v=Value.ref a/\bW X.K H a [.int u.1,.int u.2]))=decide (u∈ps)
 |[],[],_,_=>by simp
 |a::as,p::ps,hl,h=>by
  have ih:=Cp I (u:=u) (as:=as) (ps:=ps) (by simpa using hl) (fun i hi=>h (i+1) (by simpa using hi));have h0:bW X.K H a [.int p.1,.int p.2]:=h 0 (by simp);rw[d7,iC,ih];have e:decide (∃b,Value.ref a=Value.ref b/\bW X.K H b [.int u.1,.int u.2])=decide (u=p):=by
   rw[iA,u7,u7];constructor
   .rintro⟨b,e,hb⟩;cases e;have:=I.f_ h0 hb;have e1:p.1=u.1:=V.int.inj (nE this).1;have e2:p.2=u.2:=V.int.inj (nE (nE this).2).1;exact dY e1.symm e2.symm
   .rintro rfl;exact⟨a,rfl,h0⟩
  rw[e];by_cases z:u=p
  .simp[z]
  .simp[z]
open Classical in
theorem Gf{ae:List (Addr×Obj)}{σ:St}{H:Hp}{s:Shared}{A:Around}(I:aM X ae σ H s)(hu:A.units+1<cLine){p:Addr}{u:Int×Int}(hp:bW X.K H p [.int u.1,.int u.2]){as:List Addr}{ps:List (Int×Int)}(hl:as.length=ps.length)(h:∀i,i<ps.length->bW X.K H (as.getD i 0) [.int (ps.getD i (0,0)).1,.int (ps.getD i (0,0)).2]):∀v∈as.map Value.ref,SeqAt.EqAt A s v (.ref p) (decide (∃a,v=Value.ref a/\bW X.K H a [.int u.1,.int u.2])):=by
 intro v hv;obtain⟨a,ha,rfl⟩:=aX.mp hv;obtain⟨i,hi,e⟩:=qy.mp ha;have hq:=h i (by lia);have ea:as.getD i 0=a:=by rw[bv,cH hi];exact e
 rw[ea] at hq;have z:=Ge (A:=A) I hu hq hp rfl rfl rfl;rw[A0] at z;have e:decide (∃b,Value.ref a=Value.ref b/\bW X.K H b [.int u.1,.int u.2])=decide (ps.getD i (0,0)=u):=by
  rw[iA,u7,u7];constructor
  .rintro⟨b,e,hb⟩;cases e;have:=I.f_ hq hb;exact dY (V.int.inj (nE this).1) (V.int.inj (nE (nE this).2).1)
  .intro e;rw[<-e];exact⟨a,rfl,hq⟩
 rw[e];exact z
open Classical in
theorem um(hu:X.A.units+2<cLine):k_ X (compareOp .NotIn) (Of X.K true):=by
 intro ae s σ H x y v u Q I rx ry h;obtain⟨p,l,w,as,ps,rfl,rfl,hp,hl,d9,hps,q⟩:=h;obtain rfl:v=Value.ref p:=rx;obtain rfl:u=Value.ref l:=ry;obtain⟨its,r,pl,_⟩:=I.list hl;have e:=rM r;subst e;refine SeqAt.notIn_listAt (fun v=>decide (∃a,v=Value.ref a/\bW X.K H a [.int w.1,.int w.2])) pl.isList (fun y hy=>Gf I (by show X.A.units+1+1<cLine;lia) hp d9 hps y (by simpa using hy)) ⟨.bl _,H,I,rfl,?_⟩;rw[show (as.map Value.ref).toArray.any (fun v=>decide (∃a,v=Value.ref a/\bW X.K H a [.int w.1,.int w.2]))=(as.map Value.ref).any (fun v=>decide (∃a,v=Value.ref a/\bW X.K H a [.int w.1,.int w.2])) by simp,Cp I d9 hps];exact q
def SH(K:PySem.W.Frag)(t:Ny):TG:=fun v σ H Q=>∃a x y,v=.ref a/\aV K H a [x,y]/\t [x,y] σ H Q
theorem J8{es:List Expr}{k:Nat}{t:Ny}{pos:Pos}(hc:X.calm=true)(h:Rq X es t)(hn:(assignEach es X.env).length=2:=by rfl)(kW:(assignEach es X.env).findIdx? (·.1)=none:=by rfl):PG X (.Tuple es k pos) (SH X.K t):=by
 intro ae s σ H v u Q I r hw;obtain⟨a,x,y,e1,hq,hw⟩:=hw;subst e1;cases r;obtain⟨its,rv,ht,hz⟩:=I.list hq;obtain⟨u1,u2,rfl,r1,r2⟩:=rv.two;have eL:a≠s.heap.objs.size:=by
  obtain⟨o,ho,_⟩:=ht.isList;exact aW (a8 ho)
 rw[assign_Tuple];refine aw (nI ?_);unfold unpack;rw[hn,kW];refine aw (gI ?_);unfold unpackItems;refine aw ?_;unfold notIterableAtAll;refine aw (wpAny_specialOf ht.isList.typeIs slot_list_iter.lookup (wpAny_pure ?_));simp only[jE,eT];refine aw (gI (qG ht.isList ?_));have v_:(s.heap.push { cls:=.type "list_iterator",data:=.fields #[.ref a,.int 0 0] }).IsList a [u1,u2].toArray:=ht.isList.push _;refine aw (gI ?_);change wpAny _ _ (pyNext (.ref s.heap.objs.size) >>= _) _ _ _;refine aw (uZ (it:=s.heap.objs.size) (l:=a) (i:=0) (s:={ s with heap:=s.heap.push { cls:=.type "list_iterator",data:=.fields #[.ref a,.int 0 0] } }) ⟨_,cL _ rfl,rfl,rfl⟩ v_ (x:=u1) rfl fun h1 it1 rm=>?_);refine aw (gI ?_);change wpAny _ _ (pyNext (.ref s.heap.objs.size) >>= _) _ _ _;have A1:h1.IsList a [u1,u2].toArray:=v_.extBut rm.extBut eL;refine aw (uZ (s:={ s with heap:=h1 }) it1 A1 (x:=u2) rfl fun h2 it2 pH=>?_);have SI:h2.IsList a [u1,u2].toArray:=A1.extBut pH.extBut eL;refine aw (gI (wpAny_pure (wpAny_pure (wpAny_pure ?_))));rw[if_neg (by simp)];refine aw (gI (zE (s:={ s with heap:=h2 }) (I.ok.hd hc) it2 SI rfl fun h3 eb3=>?_));simp only[Option.isSome_none,jE,eT];refine wpAny_pure ?_;have I1:aM X ae σ H { s with heap:=h3 }:=I.kept (t':=s.toks) fun b o e=>by
  have nb:b≠s.heap.objs.size:=aW (a8 e);exact eb3 b o nb (pH.extBut b o nb (rm.extBut b o nb (b9 _ e)))
 exact h ae _ σ H [x,y] _ Q I1 (.cons r1 (.cons r2 .nil)) hw
end
theorem yk{h:Heap}{vs:List Value}{out:Array Value}:(∃e,(sortedAll h vs out).get? (h.objs.size+1)=some (seqObj "list" out e))/\∀b u,h.get? b=some u->(sortedAll h vs out).get? b=some u:=by
 have Od:((h.push (seqObj "list" #[] 0)).update h.objs.size (Obj.mapSeq (·++vs.toArray))).objs.size=h.objs.size+1:=by rw[gk,ft]
 have k1:∀b u,h.get? b=some u->(((h.push (seqObj "list" #[] 0)).update h.objs.size (Obj.mapSeq (·++vs.toArray))).push (seqObj "list" vs.toArray 0)).get? b=some u:=fun b u e=>by
  have hb:b<h.objs.size:=a8 e;rw[e_ _ _ _ (by rw[Od];exact aW (cX hb)),l4 _ _ _ _ (aW hb),e_ _ _ _ (aW hb)];exact e
 have xr:(((h.push (seqObj "list" #[] 0)).update h.objs.size (Obj.mapSeq (·++vs.toArray))).push (seqObj "list" vs.toArray 0)).get? (h.objs.size+1)=some (seqObj "list" vs.toArray 0):=by
  rw[<-Od];exact cL _ rfl
 have D8:(((h.push (seqObj "list" #[] 0)).update h.objs.size (Obj.mapSeq (·++vs.toArray))).push (seqObj "list" vs.toArray 0)).objs.size=h.objs.size+2:=by rw[ft,Od]
 unfold sortedAll;revert k1 xr D8;generalize ((h.push (seqObj "list" #[] 0)).update h.objs.size (Obj.mapSeq (·++vs.toArray))).push (seqObj "list" vs.toArray 0)=h1;intro k1 xr D8;obtain⟨e1,JZ⟩:∃e1,(h1.update (h.objs.size+1) (Obj.mapSeq fun _=>(#[]:Array Value))).get? (h.objs.size+1)=some (seqObj "list" #[] e1):=⟨_,jR xr (fun _=>#[])⟩
 have IG:(((h1.update (h.objs.size+1) (Obj.mapSeq fun _=>(#[]:Array Value))).push (seqObj "tuple" vs.toArray 0)).push (seqObj "list" #[] 0)).get? (h.objs.size+1)=some (seqObj "list" #[] e1):=by
  rw[e_ _ _ _ (by rw[ft,gk,D8];exact aW (cX (k9 _))),e_ _ _ _ (by rw[gk,D8];exact aW (k9 _))];exact JZ
 refine⟨⟨_,jR IG (fun _=>out)⟩,fun b u e=>?_⟩;have hb:b<h.objs.size:=a8 e;unfold sortedHeap;rw[l4 _ _ _ _ (aW (cX hb)),e_ _ _ _ (by rw[ft,gk,D8];exact aW (cX (cX (cX hb)))),e_ _ _ _ (by rw[gk,D8];exact aW (cX (cX hb))),l4 _ _ _ _ (aW (cX hb))];exact k1 b u e
def Og(K:PySem.W.Frag):List V->Hp->VK->Prop:=fun xs H Q=>∃ (l:Addr) (ns:List Int),xs=[.ref l]/\aV K H l (ns.map V.int)/\ns.length<64/\∀ (D:Addr) (Eb:List Int),H D=none->Eb.Perm ns->Q (.ref D) (upd H D (.lst (Eb.map V.int)))
theorem rP{X:Cx}:gm X (.builtin "sorted") (Og X.K):=by
 intro ae s σ H xs us Q I r h;obtain⟨l,ns,rfl,hl,FW,q⟩:=h;obtain⟨u1,rfl,r1⟩:=r.one;obtain rfl:u1=Value.ref l:=r1;obtain⟨its,rv,pl,_⟩:=I.list hl;have ia:=Av rv;refine sorted_ints pl.isList ia (by rw[ia.length];exact FW) fun out Eb a1 a2 _=>?_;obtain⟨⟨e,ho⟩,keep⟩:=yk (h:=s.heap) (vs:=its) (out:=out);have yj:s.heap.get? (s.heap.objs.size+1)=none:=qA (qR _);have eo:out=out.toList.toArray:=by simp
 refine⟨.ref (s.heap.objs.size+1),_,I.FE (t':=s.toks) (o:=.lst (Eb.map V.int)) keep yj ⟨?_,out.toList,e,n8 a1,by rw[ho]⟩,rfl,q _ Eb (I.bL.rj yj) a2⟩;rw[aI,a2.length_eq];exact a9 (jT FW) (by decide)
end L2
namespace gw
abbrev Ts:=List (Int×Int)
def T(ts:Ts)(a b:Nat):Prop:=(((a:Nat):Int),((b:Nat):Int))∈ts
instance (ts:Ts) (a b:Nat):Decidable (T ts a b):=inferInstanceAs (Decidable (_∈_))
def cV(ts:Ts):Nat->Nat->Nat->Prop
 |0,a,b=>a=b
 |k+1,a,b=>∃c,cV ts k a c/\T ts c b
theorem cV.trans(h:cV ts k a b):∀ {l:Nat} {c:Nat},cV ts l b c->cV ts (k+l) a c
 |0,_,e=>by cases e;exact h
 |l+1,_,⟨d,w,t⟩=>⟨d,h.trans w,t⟩
theorem cV.one(h:T ts a b):cV ts 1 a b:=⟨a,rfl,h⟩
theorem cV.cons(h:T ts a b)(w:cV ts k b c):cV ts (k+1) a c:=by
 have:=(cV.one h).trans w;rwa [Nat.add_comm] at this
def mx(ts:Ts)(a b d:Nat):Prop:=cV ts d a b/\∀k,cV ts k a b->d<=k
theorem mx.uniq(h:mx ts a b d)(g:mx ts a b e):d=e:=Nat.le_antisymm (h.2 _ g.1) (g.2 _ h.1)
theorem Oh{ts:Ts}{a b:Nat}:∀k,cV ts k a b->∃d,mx ts a b d:=by
 intro k;induction k using Nat.strongRecOn with
 |ind k ih=>
  intro w;by_cases h:∃j,j<k/\cV ts j a b
  .obtain⟨j,hj,wj⟩:=h;exact ih j hj wj
  .exact⟨k,w,fun j wj=>qq fun z=>h ⟨j,by lia,wj⟩⟩
open Classical in
noncomputable def far(ts:Ts)(a b:Nat):Nat:=if h:∃d,mx ts a b d then h.choose else 0
theorem A3(h:mx ts a b d):far ts a b=d:=by
 unfold far;have hx:∃d,mx ts a b d:=⟨d,h⟩
 rw[dif_pos hx];exact hx.choose_spec.uniq h
theorem Oi{ts:Ts}{a b k:Nat}(w:cV ts k a b):mx ts a b (far ts a b):=by
 obtain⟨d,h⟩:=Oh k w;rw[A3 h];exact h
structure bD(n:Nat)(ts:Ts):Prop where
 n1:2<=n
 n2:n<=32
 nd:ts.Nodup
 rg:∀t∈ts,(0<=t.1/\t.1<n)/\(0<=t.2/\t.2<n)
 ne:∀t∈ts,t.1≠t.2
 ym:∀h:Int,(ts.filter fun t=>decide (t.1=h)).length=(ts.filter fun t=>decide (t.2=h)).length
 most:∀h:Int,(ts.filter fun t=>decide (t.1=h)).length<=8
 con:∀a b,a<n->b<n->∃k,cV ts k a b
theorem Ec(f:α->Int):∀ (l:List α) (n:Nat),(∀x∈l,0<=f x/\f x<n)->(∀h:Int,(l.filter fun t=>decide (f t=h)).length<=8)->l.length<=8*n:=by
 intro l n;induction n generalizing l with
 |zero=>
  intro h _;cases l with
  |nil=>simp
  |cons x xs=>have:=h x cg;lia
 |succ n ih=>
  intro h h8;have e:l.length=(l.filter fun t=>decide (f t=(n:Int))).length+(l.filter fun t=>!decide (f t=(n:Int))).length:=by
   induction l with
   |nil=>rfl
   |cons x xs ih2=>
    have:=ih2 (fun y hy=>h y (cp _ hy)) (fun hh=>a9 (by rw[dS];split <;> simp) (h8 hh));by_cases q:f x=(n:Int) <;> simp[dS,q] <;> lia
  have i2:=ih (l.filter fun t=>!decide (f t=(n:Int))) (fun x hx=>by
   have a:=h x (cq.mp hx |>.1);have b:=(cq.mp hx).2;simp at b;lia) (fun hh=>by
   refine a9 ?_ (h8 hh);exact(zB.filter _).length_le)
  have:=h8 (n:Int);lia
theorem bD.len(F:bD n ts):ts.length<=256:=by
 have:=Ec (·.1) ts n (fun t ht=>(F.rg t ht).1) F.most;have:=F.n2;lia
theorem bD.IH(F:bD n ts)(h:T ts a b):a<n/\b<n/\a≠b:=by
 have q:=F.rg _ h;have q2:=F.ne _ h;refine⟨by have:=q.1;simp at this;lia,by have:=q.2;simp at this;lia,fun e=>q2 (by rw[e])⟩
theorem bD.Ed{n:Nat}{ts:Ts}(F:bD n ts){a b:Nat}(ha:a<n)(hb:b<n):mx ts a b (far ts a b):=
 let ⟨_,w⟩:=F.con a b ha hb;Oi w
def cQ(n:Nat)(ts:Ts)(h:Nat):List Nat:=((List.range n).map fun s=>(h+s) % n).filter fun o=>decide (T ts h o)
theorem dW(F:bD n ts)(hh:h<n):o∈cQ n ts h↔T ts h o:=by
 unfold cQ;rw[cq,u_];refine⟨fun z=>z.2,fun z=>⟨?_,z⟩⟩;obtain⟨_,h2,_⟩:=F.IH z;refine aX.mpr ⟨if h<=o then o-h else o+n-h,bK.mpr (by split <;> lia),?_⟩;split
 .rw[show h+(o-h)=o by lia,lu h2]
 .rw[show h+(o+n-h)=o+n by lia,Nat.add_mod_right,lu h2]
theorem wa(F:bD n ts)(hh:h<n)(ho:o∈cQ n ts h):o<n:=(F.IH ((dW F hh).mp ho)).2.1
def key(n h o:Nat):Int:=((o:Int)-(h:Int)) % (n:Int)
theorem lN(hh:h<n)(hs:s<n):key n h ((h+s) % n)=(s:Int):=by
 unfold key;by_cases c:h+s<n
 .rw[lu c,show (((h+s:Nat):Int)-(h:Int))=(s:Int) by lia];exact zP (by lia) (by lia)
 .have e:(h+s) % n=h+s-n:=by
   rw[Nat.mod_eq_sub_mod (by lia),lu (by lia)]
  rw[e,show ((((h+s-n:Nat)):Int)-(h:Int))=(s:Int)-(n:Int) by lia,Int.sub_emod_right];exact zP (by lia) (by lia)
theorem ph(hh:h<n):(cQ n ts h).Pairwise fun a b=>key n h a<key n h b:=by
 unfold cQ;refine qz _ ?_;refine im.mpr ?_;refine EV ?_ (List.pairwise_lt_range (n:=n));intro a b ha hb pN;rw[lN hh (bK.mp ha),lN hh (bK.mp hb)];lia
theorem pi{α:Type}{k:α->Int}:∀ {a b:List α},a.Pairwise (fun x y=>k x<k y)->b.Pairwise (fun x y=>k x<k y)->(∀x,x∈a↔x∈b)->a=b
 |[],[],_,_,_=>rfl
 |[],y::ys,_,_,h=>absurd ((h y).mpr cg) (by simp)
 |x::xs,[],_,_,h=>absurd ((h x).mp cg) (by simp)
 |x::xs,y::ys,ha,hb,h=>by
  obtain⟨a1,a2⟩:=List.pairwise_cons.mp ha;obtain⟨b1,b2⟩:=List.pairwise_cons.mp hb;have e:x=y:=by
   rcases bi.mp ((h x).mp cg) with z|z
   .exact z
   .rcases bi.mp ((h y).mpr cg) with z'|z'
    .exact z'.symm
    .have q1:=b1 x z;have q2:=a1 y z';lia
  subst e;refine congrArg (x::·) (pi a2 b2 fun z=>⟨fun hz=>?_,fun hz=>?_⟩)
  .rcases bi.mp ((h z).mp (cp _ hz)) with q|q
   .subst q;exact absurd (a1 _ hz) (by lia)
   .exact q
  .rcases bi.mp ((h z).mpr (cp _ hz)) with q|q
   .subst q;exact absurd (b1 _ hz) (by lia)
   .exact q
structure yY(n:Nat)(ts:Ts)(s i:Nat)(R:List Nat)(f:Nat->Nat):Prop where
 nd:R.Nodup
 lt:∀x∈R,x<n
 st:s∈R
 z:f s=0
 wk:∀x∈R,cV ts (f x) s x
 up:R.Pairwise fun a b=>f a<=f b
 bd:∀u,R[i]?=some u->∀x∈R,f x<=f u+1
 cl:∀j u,j<i->R[j]?=some u->∀v,T ts u v->v∈R/\f v<=f u+1
theorem yY.start(hs:s<n):yY n ts s 0 [s] (fun _=>0):=
 ⟨by simp,fun x hx=>by simp at hx;lia,by simp,rfl,fun x hx=>by simp at hx;subst hx;rfl,by simp,fun u _ x _=>by lia,fun j u h=>absurd h (by lia)⟩
def put(f:Nat->Nat)(v k:Nat):Nat->Nat:=fun y=>if y=v then k else f y
theorem g9:put f v k v=k:=by simp[put]
theorem eV(h:x≠v):put f v k x=f x:=by simp[put,h]
theorem yY.add(B:yY n ts s i R f)(hu:R[i]?=some u)(hv:v<n)(t:T ts u v)(hn:v∉R):yY n ts s i (R++[v]) (put f v (f u+1)):=by
 have hur:u∈R:=cI hu;have nv:∀x∈R,x≠v:=fun x hx e=>hn (e ▸ hx);have hi:i<R.length:=(dO.mp hu).1;refine⟨?_,fun x hx=>?_,fj _ B.st,by rw[eV (nv s B.st)];exact B.z,fun x hx=>?_,?_,fun w hw x hx=>?_,fun j w hj hw x hx=>?_⟩
 .rw[jF];exact⟨B.nd,by simp,fun a ha b hb e=>by simp at hb;subst hb;exact hn (e ▸ ha)⟩
 .rcases bY.mp hx with z|z
  .exact B.lt x z
  .simp at z;lia
 .rcases bY.mp hx with z|z
  .rw[eV (nv x z)];exact B.wk x z
  .simp at z;subst z;rw[g9];exact⟨u,B.wk u hur,t⟩
 .rw[List.pairwise_append];refine⟨B.up.imp_of_mem fun {a b} ha hb h=>by rw[eV (nv a ha),eV (nv b hb)];exact h,by simp,fun a ha b hb=>?_⟩;simp at hb;subst hb;rw[eV (nv a ha),g9];exact B.bd u hu a ha
 .have hw':w=u:=by
   rw[k6 hi,hu] at hw;exact(bh hw).symm
  subst hw';rw[eV (nv w hur)];rcases bY.mp hx with z|z
  .rw[eV (nv x z)];exact B.bd w hu x z
  .simp at z;subst z;rw[g9];exact aT _
 .rw[k6 (by lia)] at hw;obtain⟨a,b⟩:=B.cl j w hj hw x hx;refine⟨fj _ a,?_⟩;rw[eV (nv x a),eV (nv w (cI hw))];exact b
theorem yY.next(B:yY n ts s i R f)(hu:R[i]?=some u)(h:∀v,T ts u v->v∈R/\f v<=f u+1):yY n ts s (i+1) R f:=by
 refine⟨B.nd,B.lt,B.st,B.z,B.wk,B.up,fun w hw x hx=>?_,fun j w hj hw v hv=>?_⟩
 .have h1:=B.bd u hu x hx;have h2:f u<=f w:=by
   have hi:i<R.length:=(dO.mp hu).1;have AT:i+1<R.length:=(dO.mp hw).1;have:=zd.mp B.up i (i+1) hi AT (by lia);rw[cH hi] at hu;rw[cH AT] at hw;rw[bh hu,bh hw] at this;exact this
  lia
 .by_cases e:j=i
  .subst e;rw[hu] at hw;cases hw;exact h v hv
  .exact B.cl j w (by lia) hw v hv
theorem dM:∀ {n:Nat} {R:List Nat},R.Nodup->(∀x∈R,x<n)->R.length<=n:=by
 intro n R hn hl;have key:∀ (a b:List Nat),a.Nodup->(∀x∈a,x∈b)->a.length<=b.length:=by
  intro a;induction a with
  |nil=>intro b _ _;exact cu _
  |cons x xs ih=>
   intro b hn hs;obtain⟨h1,h2⟩:=eG.mp hn;have hx:x∈b:=hs x cg;have:=ih (b.erase x) h2 fun y hy=>(u5 (fun (e:y=x)=>h1 (e ▸ hy))).mpr (hs y (cp _ hy));rw[zf hx] at this;have:0<b.length:=uR hx;rw[dR];lia
 have:=key R (List.range n) hn fun x hx=>bK.mpr (hl x hx);rwa [dq] at this
theorem yY.done(B:yY n ts s i R f)(F:bD n ts)(hi:R.length<=i)(hx:x<n):x∈R/\f x=far ts s x:=by
 have cl:∀u∈R,∀v,T ts u v->v∈R/\f v<=f u+1:=fun u hu v hv=>by
  obtain⟨j,hj,e⟩:=qy.mp hu;exact B.cl j u (by lia) (by rw[cH hj,e]) v hv
 have walk:∀k x,cV ts k s x->x∈R/\f x<=k:=by
  intro k;induction k with
  |zero=>intro x e;cases e;exact⟨B.st,by rw[B.z];exact aT _⟩
  |succ k ih=>
   rintro x ⟨c,w,t⟩;obtain⟨c1,c2⟩:=ih c w;obtain⟨d1,d2⟩:=cl c c1 x t;exact⟨d1,by lia⟩
 obtain⟨k,w⟩:=F.con s x (B.lt s B.st) hx;obtain⟨m,_⟩:=walk k x w;exact⟨m,(A3 ⟨B.wk x m,fun k w=>(walk k x w).2⟩).symm⟩
theorem cV.mono(h:∀t∈ts,t∈Yd):∀ {k a b:Nat},cV ts k a b->cV Yd k a b
 |0,_,_,e=>e
 |_+1,_,_,⟨c,w,t⟩=>⟨c,w.mono h,h _ t⟩
structure Cq(n:Nat)(ts:Ts):Prop where
 nd:ts.Nodup
 rg:∀t∈ts,(0<=t.1/\t.1<n)/\(0<=t.2/\t.2<n)
 ne:∀t∈ts,t.1≠t.2
 ym:∀h:Int,(ts.filter fun t=>decide (t.1=h)).length=(ts.filter fun t=>decide (t.2=h)).length
 most:∀h:Int,(ts.filter fun t=>decide (t.1=h)).length<=8
theorem bD.pre(F:bD n ts):Cq n ts:=⟨F.nd,F.rg,F.ne,F.ym,F.most⟩
theorem Cq.iK(P:Cq n ts)(n1:2<=n)(n2:n<=32)(c:∀a b,a<n->b<n->∃k,cV ts k a b):bD n ts:=⟨n1,n2,P.nd,P.rg,P.ne,P.ym,P.most,c⟩
theorem bD.perm(F:bD n ts)(p:Yd.Perm ts):bD n Yd:=
  ⟨F.n1,F.n2,p.nodup_iff.mpr F.nd,fun t ht=>F.rg t (p.mem_iff.mp ht),fun t ht=>F.ne t (p.mem_iff.mp ht),fun h=>by rw[(p.filter _).length_eq,(p.filter _).length_eq];exact F.ym h,
   fun h=>by rw[(p.filter _).length_eq];exact F.most h,fun a b ha hb=>let ⟨k,w⟩:=F.con a b ha hb;⟨k,w.mono fun t ht=>p.mem_iff.mpr ht⟩⟩
theorem bD.app(F:bD n ts)(P:Cq n (ts++us)):bD n (ts++us):=
 P.iK F.n1 F.n2 fun a b ha hb=>let ⟨k,w⟩:=F.con a b ha hb;⟨k,w.mono fun t ht=>fj _ ht⟩
def pk(c k:Nat):Nat:=if k=0 then c-1 else k-1
abbrev ci(x:Nat):Int:=(x:Int)
def xm(xs:List Nat):Ts:=(List.range xs.length).map fun k=>(ci (xs.getD (pk xs.length k) 0),ci (xs.getD k 0))
theorem dz{xs:List Nat}{k:Nat}(h:k<xs.length):xs.getD k 0=xs[k]:=by rw[bv,cH h];rfl
theorem Cr(xs:List Nat):(xm xs).map (·.2)=xs.map ci:=by
 unfold xm;rw[dD];apply z0
 .simp
 .intro i h1 h2;simp only[vd,zF,Function.comp];rw[dz (by simpa using h2)]
theorem Ct(xs:List Nat):((xm xs).map (·.1)).Perm (xs.map ci):=by
 cases hx:xs with
 |nil=>exact qJ _
 |cons y ys=>
  rw[<-hx];have hl:xs.length=ys.length+1:=by rw[hx];rfl
  have e:(xm xs).map (·.1)=ci (xs.getD (xs.length-1) 0)::(xs.take (xs.length-1)).map ci:=by
   unfold xm;rw[dD];apply z0
   .simp;lia
   .intro i h1 h2;simp only[vd,zF,Function.comp];cases i with
    |zero=>rfl
    |succ i=>
     have hi:i+1<xs.length:=by simpa using h1
     simp only[List.getElem_cons_succ,vd,List.getElem_take];unfold pk;rw[if_neg (by lia),show i+1-1=i by lia,dz (by lia)]
  rw[e];have:xs.map ci=(xs.take (xs.length-1)).map ci++[ci (xs.getD (xs.length-1) 0)]:=by
   conv=>lhs;rw[<-ln (xs.length-1) xs]
   rw[bT];congr 1;rw[qp (by lia),List.drop_eq_nil_of_le (by lia),dz (by lia)];rfl
  rw[this];exact(List.perm_append_singleton _ _).symm
theorem dA(ts:Ts)(h:Int):(ts.filter fun t=>decide (t.1=h)).length=(ts.map (·.1)).count h:=by
 induction ts with
 |nil=>rfl
 |cons t ts ih=>by_cases e:t.1=h <;> simp[dS,qH,e,ih]
theorem iV(ts:Ts)(h:Int):(ts.filter fun t=>decide (t.2=h)).length=(ts.map (·.2)).count h:=by
 induction ts with
 |nil=>rfl
 |cons t ts ih=>by_cases e:t.2=h <;> simp[dS,qH,e,ih]
theorem yo{xs:List Nat}(h:xs.Nodup):(xs.map ci).Nodup:=by
 refine im.mpr (h.imp fun {a b} pN e=>pN ?_);exact dt e
theorem my:∀ {l:List α},(l.map f).Nodup->l.Nodup
 |[],_=>i8
 |a::l,h=>by
  rw[d7] at h;obtain⟨h1,h2⟩:=eG.mp h;exact eG.mpr ⟨fun z=>h1 (aX.mpr ⟨a,z,rfl⟩),my h2⟩
theorem qd(h:t∈xm xs):∃k,k<xs.length/\t=(ci (xs.getD (pk xs.length k) 0),ci (xs.getD k 0)):=by
 obtain⟨k,hk,rfl⟩:=aX.mp h;exact⟨k,bK.mp hk,rfl⟩
theorem yp(h:k<c):pk c k<c:=by unfold pk;split <;> lia
theorem uq{xs:List Nat}{k:Nat}(h:k<xs.length):xs.getD k 0∈xs:=by rw[dz h];exact fV h
theorem oG{xs:List Nat}(nd:xs.Nodup){i j:Nat}(hi:i<xs.length)(hj:j<xs.length)(e:xs[i]=xs[j]):i=j:=by
 have pw:=zd.mp nd;rcases Nat.lt_trichotomy i j with z|z|z
 .exact absurd e (pw i j hi hj z)
 .exact z
 .exact absurd e.symm (pw j i hj hi z)
theorem Cu{n:Nat}{xs:List Nat}(nd:xs.Nodup)(lt:∀x∈xs,x<n)(c2:2<=xs.length):Cq n (xm xs)/\∀h:Int,((xm xs).filter fun t=>decide (t.1=h)).length<=1:=by
 have Oj:((xm xs).map (·.2)).Nodup:=by rw[Cr];exact yo nd
 have one:∀h:Int,((xm xs).filter fun t=>decide (t.1=h)).length<=1:=fun h=>by
  rw[dA,(Ct xs).count_eq];exact List.nodup_iff_count.mp (yo nd) h
 refine⟨⟨my Oj,fun t ht=>?_,fun t ht=>?_,fun h=>?_,fun h=>a9 (one h) (by decide)⟩,one⟩
 .obtain⟨k,hk,rfl⟩:=qd ht;have h1:=lt _ (uq (yp hk));have h2:=lt _ (uq hk);simp only[ci];lia
 .obtain⟨k,hk,rfl⟩:=qd ht;intro e;have e':xs.getD (pk xs.length k) 0=xs.getD k 0:=dt e;rw[dz (yp hk),dz hk] at e';have:=oG nd (yp hk) hk e';unfold pk at this;split at this <;> lia
 .rw[dA,iV,(Ct xs).count_eq,Cr]
theorem wb(P:Cq n ts)(Q:Cq n us)(hd:∀t∈us,t∉ts)(hm:∀h:Int,(ts.filter fun t=>decide (t.1=h)).length+(us.filter fun t=>decide (t.1=h)).length<=8):Cq n (ts++us):=by
 refine⟨jF.mpr ⟨P.nd,Q.nd,fun a ha b hb e=>hd b hb (e ▸ ha)⟩,fun t ht=>?_,fun t ht=>?_,fun h=>?_,fun h=>?_⟩
 .rcases bY.mp ht with z|z
  .exact P.rg t z
  .exact Q.rg t z
 .rcases bY.mp ht with z|z
  .exact P.ne t z
  .exact Q.ne t z
 .rw[eN,eN,ce,ce,P.ym,Q.ym]
 .rw[eN,ce];exact hm h
theorem M0(hk:k<xs.length):T (xm xs) (xs.getD (pk xs.length k) 0) (xs.getD k 0):=aX.mpr ⟨k,bK.mpr hk,rfl⟩
theorem A4(i:Nat):∀ (d:Nat),i+d<xs.length->cV (xm xs) d (xs.getD i 0) (xs.getD (i+d) 0)
 |0,_=>rfl
 |d+1,h=>by
  refine⟨_,A4 i d (by lia),?_⟩;have:=M0 (xs:=xs) (k:=i+(d+1)) h;unfold pk at this;rw[if_neg (by lia)] at this;exact this
theorem Ee{n:Nat}{xs:List Nat}(n1:2<=n)(n2:n<=32)(pm:xs.Perm (List.range n)):bD n (xm xs):=by
 have hl:xs.length=n:=by rw[pm.length_eq,dq]
 have nd:xs.Nodup:=pm.nodup_iff.mpr iy;have lt:∀x∈xs,x<n:=fun x hx=>bK.mp (pm.mem_iff.mp hx);refine(Cu nd lt (by lia)).1.iK n1 n2 fun a b ha hb=>?_;obtain⟨i,hi,ei⟩:=qy.mp (pm.mem_iff.mpr (bK.mpr ha));obtain⟨j,hj,ej⟩:=qy.mp (pm.mem_iff.mpr (bK.mpr hb));have w1:=A4 (xs:=xs) i (xs.length-1-i) (by lia);have t0:=M0 (xs:=xs) (k:=0) (by lia);have w3:=A4 (xs:=xs) 0 j (by lia);rw[show i+(xs.length-1-i)=xs.length-1 by lia] at w1;rw[show pk xs.length 0=xs.length-1 from rfl] at t0;rw[qL] at w3;have w:=w1.trans (cV.cons t0 w3);rw[dz hi,dz hj,ei,ej] at w;exact⟨_,w⟩
structure rQ(n:Nat)(os:List Nat)(k:Nat)(ts:Ts):Prop where
 pre:Cq n ts
 ends:∀t∈ts,∃a b,a∈os.take k/\b∈os.take k/\t=(ci a,ci b)
 con:∀a b,a∈os.take k->b∈os.take k->∃j,cV ts j a b
 len:ts.length+2=2*k
theorem rQ.start(h:0<os.length):rQ n os 1 []:=by
 refine⟨⟨i8,(fun t h=>nomatch h),(fun t h=>nomatch h),fun h=>rfl,fun h=>by simp⟩,(fun t h=>nomatch h),fun a b ha hb=>?_,rfl⟩;cases os with
 |nil=>simp at h
 |cons o os=>
  simp at ha hb;exact⟨0,by rw[ha,hb];rfl⟩
theorem rQ.add(Tr:rQ n os k ts)(nd:os.Nodup)(lt:∀x∈os,x<n)(hv:os[k]?=some v)(hs:s∈os.take k)(hd:(ts.filter fun t=>decide (t.1=ci s)).length<8):rQ n os (k+1) (ts++[(ci s,ci v),(ci v,ci s)]):=by
 have tk:os.take (k+1)=os.take k++[v]:=by rw[eZ,hv];rfl
 have Ye:(os.take k++[v]).Nodup:=by rw[<-tk];exact nd.sublist (va _ _)
 have vn:v∉os.take k:=fun z=>(jF.mp Ye).2.2 v z v (by simp) rfl;have sv:s≠v:=fun e=>vn (e ▸ hs);have vm:v∈os:=cI hv;have sl:=lt s (jK hs);have vl:=lt v vm;have Yf:∀t∈ts,t.1≠ci v/\t.2≠ci v:=fun t ht=>by
  obtain⟨a,b,ha,hb,rfl⟩:=Tr.ends t ht;exact⟨fun e=>vn (dt e ▸ ha),fun e=>vn (dt e ▸ hb)⟩
 have Q:Cq n [(ci s,ci v),(ci v,ci s)]:=by
  have SJ:ci s≠ci v:=fun e=>sv (dt e);refine⟨?_,fun t ht=>?_,fun t ht=>?_,fun h=>?_,fun h=>a9 (fh _ _) (by simp)⟩
  .simp[SJ]
  .simp at ht;rcases ht with rfl|rfl <;> (simp only[ci];lia)
  .simp at ht;rcases ht with rfl|rfl
   .exact SJ
   .exact SJ.symm
  .by_cases a:ci s=h <;> by_cases b:ci v=h <;> simp[dS,a,b]
 have P2:Cq n (ts++[(ci s,ci v),(ci v,ci s)]):=by
  refine wb Tr.pre Q (fun t ht z=>?_) fun h=>?_
  .simp at ht;rcases ht with rfl|rfl
   .exact(Yf _ z).2 rfl
   .exact(Yf _ z).1 rfl
  .have SJ:ci s≠ci v:=fun e=>sv (dt e);by_cases a:ci s=h
   .subst a;have b:¬ ci v=ci s:=SJ.symm;simp only[dS,decide_true,i_,d6 b];simp;lia
   .by_cases b:ci v=h
    .subst b;have z:ts.filter (fun t=>decide (t.1=ci v))=[]:=qv.mpr fun t ht=>by simpa using (Yf t ht).1
     rw[z];exact a9 (Nat.add_le_add_left (fh _ _) _) (by simp)
    .have:=Tr.pre.most h;simp[dS,a,b];exact this
 have up:∀t∈ts,t∈ts++[(ci s,ci v),(ci v,ci s)]:=fun t ht=>fj _ ht;have t1:T (ts++[(ci s,ci v),(ci v,ci s)]) s v:=dP _ (by simp);have t2:T (ts++[(ci s,ci v),(ci v,ci s)]) v s:=dP _ (by simp);have toS:∀a,a∈os.take k++[v]->∃j,cV (ts++[(ci s,ci v),(ci v,ci s)]) j a s:=fun a ha=>by
  rcases bY.mp ha with z|z
  .obtain⟨j,w⟩:=Tr.con a s z hs;exact⟨j,w.mono up⟩
  .simp at z;subst z;exact⟨1,cV.one t2⟩
 have ofS:∀b,b∈os.take k++[v]->∃j,cV (ts++[(ci s,ci v),(ci v,ci s)]) j s b:=fun b hb=>by
  rcases bY.mp hb with z|z
  .obtain⟨j,w⟩:=Tr.con s b hs z;exact⟨j,w.mono up⟩
  .simp at z;subst z;exact⟨1,cV.one t1⟩
 refine⟨P2,fun t ht=>?_,fun a b ha hb=>?_,?_⟩
 .rw[tk];rcases bY.mp ht with z|z
  .obtain⟨a,b,ha,hb,e⟩:=Tr.ends t z;exact⟨a,b,fj _ ha,fj _ hb,e⟩
  .simp at z;rcases z with rfl|rfl
   .exact⟨s,v,fj _ hs,by simp,rfl⟩
   .exact⟨v,s,by simp,fj _ hs,rfl⟩
 .rw[tk] at ha hb;obtain⟨i,w1⟩:=toS a ha;obtain⟨j,w2⟩:=ofS b hb;exact⟨i+j,w1.trans w2⟩
 .have:=Tr.len;rw[ce];simp;lia
theorem rQ.iK(Tr:rQ n os n ts)(n1:2<=n)(n2:n<=32)(pm:os.Perm (List.range n)):bD n ts:=by
 have hl:os.length=n:=by rw[pm.length_eq,dq]
 refine Tr.pre.iK n1 n2 fun a b ha hb=>Tr.con a b ?_ ?_
 .rw[mX (by lia)];exact pm.mem_iff.mpr (bK.mpr ha)
 .rw[mX (by lia)];exact pm.mem_iff.mpr (bK.mpr hb)
theorem bD.Gg{n:Nat}{ts:Ts}(F:bD n ts){a b k:Nat}(ha:a<n)(hb:b<n)(w:cV ts k a b):far ts a b<=k:=(F.Ed ha hb).2 k w
theorem rR(hh:h<n):(cQ n ts h).Nodup:=(ph hh).imp fun {a b} pN e=>by subst e;lia
end gw
namespace L2
open PySem PySem.Spec PyProof.Rows
section
variable {X:Cx}
end
end L2
namespace gw
abbrev ur(u:Int×Int):Int×Int:=(u.2,u.1)
def di(ps:Ts):Ts:=ps.flatMap fun u=>[u,ur u]
theorem ji:di (ps++qs)=di ps++di qs:=List.flatMap_append
theorem fJ:∀ {ps:Ts},(di ps).Perm (ps++ps.map ur)
 |[]=>qJ _
 |u::ps=>by
  have ih:=fJ (ps:=ps);show (u::ur u::di ps).Perm (u::(ps++ur u::ps.map ur));refine List.Perm.cons _ ?_;exact(ih.cons _).trans List.perm_middle.symm
theorem wc:∀ {ps:Ts},(di ps).length=2*ps.length
 |[]=>rfl
 |u::ps=>by
  have ih:=wc (ps:=ps);show (di ps).length+2=2*(ps.length+1);lia
theorem wd(h:u∈di ps):ur u∈di ps:=by
 obtain⟨v,hv,hu⟩:=zY.mp h;refine zY.mpr ⟨v,hv,?_⟩;rcases bi.mp hu with e|e
 .rw[e];exact cp _ (cA.mpr rfl)
 .rw[cA.mp e];exact cg
theorem mz:u∈di ps↔u∈ps\/ur u∈ps:=by
 rw[(fJ (ps:=ps)).mem_iff,bY];refine or_congr Iff.rfl ⟨fun h=>?_,fun h=>aX.mpr ⟨_,h,rfl⟩⟩;obtain⟨v,hv,rfl⟩:=aX.mp h;exact hv
theorem Cv:((di ps).map ur).Perm (di ps):=by
 refine((fJ (ps:=ps)).map ur).trans (List.Perm.trans ?_ (fJ (ps:=ps)).symm);rw[bT,dD];have e:ps.map (ur ∘ ur)=ps:=(il fun u _=>rfl).trans (lA ps);rw[e];exact jw
def Ef(x:Nat):List Nat->Bool
 |[]=>false
 |y::ys=>Nat.beq x y||Ef x ys
theorem rS:∀ {ys:List Nat},Ef x ys=true↔x∈ys
 |[]=>by simp[Ef]
 |y::ys=>by
  unfold Ef;rw[Bool.or_eq_true,rS (ys:=ys),bi];exact or_congr ⟨fun h=>uY h,fun h=>by rw[h];exact vy y⟩ Iff.rfl
def V9:List Nat->Bool
 |[]=>true
 |x::xs=>!Ef x xs&&V9 xs
theorem Gh:∀ {xs:List Nat},V9 xs=true->xs.Nodup
 |[],_=>i8
 |x::xs,h=>by
  unfold V9 at h;rw[gj] at h;refine eG.mpr ⟨fun z=>?_,Gh h.2⟩;rw[rS.mpr z] at h;exact absurd h.1 (by decide)
abbrev iW(q:Nat×Nat):Int×Int:=((q.1:Int),(q.2:Int))
def V_(qs:List (Nat×Nat)):List Nat:=qs.flatMap fun q=>[64*q.1+q.2,64*q.2+q.1]
def QI(c:Nat):Int×Int:=(((c / 64:Nat):Int),((c % 64:Nat):Int))
theorem A5(h:b<64):QI (64*a+b)=((a:Int),(b:Int)):=by
 unfold QI;rw[show (64*a+b) / 64=a by lia,show (64*a+b) % 64=b by lia]
theorem we:∀ {qs:List (Nat×Nat)},(∀q∈qs,q.1<64/\q.2<64)->(V_ qs).map QI=di (qs.map iW)
 |[],_=>rfl
 |q::qs,h=>by
  have ih:=we (qs:=qs) fun x hx=>h x (cp _ hx);obtain⟨h1,h2⟩:=h q cg;show QI (64*q.1+q.2)::QI (64*q.2+q.1)::(V_ qs).map QI=iW q::ur (iW q)::di (qs.map iW);rw[ih,A5 h2,A5 h1]
def b1(b:Bool):Nat:=cond b 1 0
def kX(h:Nat):List (Nat×Nat)->Nat
 |[]=>0
 |q::qs=>b1 (Nat.beq q.1 h)+(b1 (Nat.beq q.2 h)+kX h qs)
theorem wf{h:Nat}:∀ {qs:List (Nat×Nat)},((di (qs.map iW)).filter fun t=>decide (t.1=(h:Int))).length=kX h qs
 |[]=>rfl
 |q::qs=>by
  have ih:=wf (h:=h) (qs:=qs);have e:∀a:Nat,(if decide ((a:Int)=(h:Int))=true then 1 else 0)=b1 (Nat.beq a h):=fun a=>by
   by_cases c:a=h
   .subst c;rw[am (by simp),vy];rfl
   .rw[if_neg (by simp;lia),show Nat.beq a h=false from zR.mpr fun z=>c (uY z)];rfl
  show ((iW q::ur (iW q)::di (qs.map iW)).filter _).length=b1 (Nat.beq q.1 h)+(b1 (Nat.beq q.2 h)+kX h qs);rw[<-ih,<-e q.1,<-e q.2,dS,dS];split <;> split <;> simp <;> lia
def Gi(n:Nat)(qs:List (Nat×Nat)):Bool:=Nat.ble 2 n&&(Nat.ble n 32&&(V9 (V_ qs)&&(qs.all (fun q=>Nat.blt q.1 n&&(Nat.blt q.2 n&&!Nat.beq q.1 q.2))&&((List.range n).all (fun h=>Nat.ble (kX h qs) 8) &&
 (List.range n).all (fun v=>Nat.beq v 0||(List.range v).reverse.any (fun u=>Ef (64*u+v) (V_ qs)))))))
theorem wg(h:Nat.blt a b=true):a<b:=uX h
theorem Gj(h:Gi n qs=true):bD n (di (qs.map iW))/\∀q∈qs,q.1<64/\q.2<64:=by
 unfold Gi at h;simp only[gj,i6,bK,Bool.or_eq_true,ve,List.mem_reverse] at h;obtain⟨h1,h2,h3,h4,h5,h6⟩:=h;have h1:=uX h1;have h2:=uX h2;have Yg:∀q∈qs,q.1<64/\q.2<64:=fun q hq=>⟨by have:=wg (h4 q hq).1;lia,by have:=wg (h4 q hq).2.1;lia⟩
 have mem:∀t∈di (qs.map iW),∃q∈qs,t=iW q\/t=ur (iW q):=fun t ht=>by
  rcases mz.mp ht with z|z
  .obtain⟨q,hq,e⟩:=aX.mp z;exact⟨q,hq,.inl e.symm⟩
  .obtain⟨q,hq,e⟩:=aX.mp z;exact⟨q,hq,.inr (by rw[e])⟩
 have rg:∀t∈di (qs.map iW),((0<=t.1/\t.1<n)/\(0<=t.2/\t.2<n))/\t.1≠t.2:=fun t ht=>by
  obtain⟨q,hq,e⟩:=mem t ht;have a:=wg (h4 q hq).1;have b:=wg (h4 q hq).2.1;have c:q.1≠q.2:=fun z=>by have:=(h4 q hq).2.2;rw[z,vy] at this;exact absurd this (by decide)
  rcases e with rfl|rfl
  .exact⟨⟨⟨by show (0:Int)<=(q.1:Int);lia,by show (q.1:Int)<n;lia⟩,by show (0:Int)<=(q.2:Int);lia,by show (q.2:Int)<n;lia⟩,by show ((q.1:Nat):Int)≠(q.2:Nat);lia⟩
  .exact⟨⟨⟨by show (0:Int)<=(q.2:Int);lia,by show (q.2:Int)<n;lia⟩,by show (0:Int)<=(q.1:Int);lia,by show (q.1:Int)<n;lia⟩,by show ((q.2:Nat):Int)≠(q.1:Nat);lia⟩
 have ym:∀h:Int,((di (qs.map iW)).filter fun t=>decide (t.1=h)).length=((di (qs.map iW)).filter fun t=>decide (t.2=h)).length:=fun h=>by
  rw[<-(Cv (ps:=qs.map iW)).filter (fun t=>decide (t.1=h)) |>.length_eq,qx,aI];rfl
 have nd:(di (qs.map iW)).Nodup:=by
  rw[<-we Yg];refine List.Pairwise.map _ (fun a b pN e=>pN ?_) (o4.mp (Gh h3));have e1:a / 64=b / 64:=dt (congrArg Prod.fst e);have e2:a % 64=b % 64:=dt (congrArg Prod.snd e);lia
 refine⟨⟨h1,h2,nd,fun t ht=>(rg t ht).1,fun t ht=>(rg t ht).2,ym,fun h=>?_,fun a b ha hb=>?_⟩,Yg⟩
 .by_cases c:0<=h/\h<n
  .have:=uX (h5 h.toNat (by lia));rw[<-wf,lY c.1] at this;exact this
  .have e:(di (qs.map iW)).filter (fun t=>decide (t.1=h))=[]:=qv.mpr fun t ht e=>c ((show t.1=h from dk e) ▸ (rg t ht).1.1);rw[e];exact cu _
 .have Az:∀v,v<n->(∃k,cV (di (qs.map iW)) k 0 v)/\∃k,cV (di (qs.map iW)) k v 0:=by
   intro v;induction v using Nat.strongRecOn with
   |ind v ih=>
    intro hv;rcases h6 v hv with e|⟨u,hu,t1⟩
    .have e:=uY e;subst e;exact⟨⟨0,rfl⟩,0,rfl⟩
    .obtain⟨⟨k,w⟩,l,w'⟩:=ih u hu (by lia);have t:T (di (qs.map iW)) u v:=by
      have:=aX.mpr ⟨_,rS.mp t1,A5 (a:=u) (b:=v) (by lia)⟩;rw[we Yg] at this;exact this
     have t':T (di (qs.map iW)) v u:=wd t;exact⟨⟨k+1,u,w,t⟩,l+1,cV.cons t' w'⟩
  obtain⟨_,k,w⟩:=Az a ha;obtain⟨⟨l,w'⟩,_⟩:=Az b hb;exact⟨_,w.trans w'⟩
def pr:List Nat->Nat
 |[]=>1
 |n::ns=>n*pr ns
def Ol(m st n:Nat):List (Nat×Nat):=((List.range m).filter fun h=>decide (h / st % n+1<n)).map fun h=>(h,h+st)
def bx(m:Nat):Nat->List Nat->List (Nat×Nat)
 |_,[]=>[]
 |st,n::ns=>Ol m st n++bx m (st*n) ns
def lR(ns:List Nat):List (Nat×Nat):=bx (pr ns) 1 ns
def yq:Nat->List Nat->Nat->Nat->Prop
 |_,[],_,_=>False
 |st,n::ns,a,b=>(a / st % n+1<n/\b=a+st)\/yq (st*n) ns a b
theorem Cw:q∈Ol m st n↔q.1<m/\q.1 / st % n+1<n/\q.2=q.1+st:=by
 unfold Ol;rw[aX];constructor
 .rintro⟨h,hh,rfl⟩;obtain⟨h1,h2⟩:=cq.mp hh;exact⟨bK.mp h1,dk h2,rfl⟩
 .rintro⟨h1,h2,h3⟩;exact⟨q.1,cq.mpr ⟨bK.mpr h1,cZ h2⟩,dY rfl h3.symm⟩
theorem oH:∀ {ns:List Nat} {st:Nat},q∈bx m st ns↔q.1<m/\yq st ns q.1 q.2
 |[],st=>⟨fun h=>(nomatch h),fun h=>h.2.elim⟩
 |n::ns,st=>by
  unfold bx yq;rw[bY,Cw,oH (ns:=ns)];constructor
  .rintro(⟨a,b,c⟩|⟨a,b⟩)
   .exact⟨a,.inl ⟨b,c⟩⟩
   .exact⟨a,.inr b⟩
  .rintro⟨a,⟨b,c⟩|b⟩
   .exact .inl ⟨a,b,c⟩
   .exact .inr ⟨a,b⟩
abbrev U(ns:List Nat):Nat->Nat->Prop:=yq 1 ns
theorem wm:∀ {ns:List Nat} {st a b:Nat},0<st->(∀n∈ns,0<n)->(yq st ns a b↔a % st=b % st/\U ns (a / st) (b / st))
 |[],st,a,b,h,_=>⟨fun z=>z.elim,fun z=>z.2.elim⟩
 |n::ns,st,a,b,h,hn=>by
  have Fz:=hn n cg;have ue:∀n∈ns,0<n:=fun x hx=>hn x (cp _ hx);show (_\/yq (st*n) ns a b)↔a % st=b % st/\(_\/yq (1*n) ns (a / st) (b / st))
  rw[qP,wm (lz h Fz) ue,wm Fz ue,Nat.div_one,zk a st n,zk b st n,Nat.mod_mul,Nat.mod_mul];have e1:=jO a st;have e2:=jO b st;constructor
  .rintro(⟨c,rfl⟩|⟨c,d⟩)
   .refine⟨by rw[Nat.add_mod_right],.inl ⟨c,by rw[Nat.add_div_right _ h]⟩⟩
   .have m1:a % st=b % st:=by
     have:=congrArg (· % st) c;simp only[EQ,Nat.mod_mod] at this;exact this
    refine⟨m1,.inr ⟨?_,d⟩⟩;rw[m1] at c;exact Nat.eq_of_mul_eq_mul_left h (Nat.add_left_cancel c)
  .rintro⟨m1,⟨c,d⟩|⟨c,d⟩⟩
   .refine .inl ⟨c,?_⟩;rw[<-e2,d,<-m1,nJ,qQ,Nat.add_right_comm,e1]
   .exact .inr ⟨by rw[m1,c],d⟩
theorem A6(h:∀x∈n::ns,0<x):U (n::ns) a b↔(a % n+1<n/\b=a+1)\/(a % n=b % n/\U ns (a / n) (b / n)):=by
 show (_\/yq (1*n) ns a b)↔_;rw[qP,wm (h n cg) fun x hx=>h x (cp _ hx),Nat.div_one]
theorem A7(h:a % n+1<n):(a+1) / n=a / n/\(a+1) % n=a % n+1:=by
 have e:=jO a n;have e2:a+1=n*(a / n)+(a % n+1):=by lia
 have hn:0<n:=by lia
 rw[e2,Nat.mul_add_div hn,Nat.mul_add_mod,Nat.div_eq_of_lt h,lu h];exact⟨rfl,rfl⟩
theorem SK:∀ {ns:List Nat} {a b:Nat},(∀x∈ns,0<x)->U ns a b->a<pr ns->a<b/\b<pr ns
 |[],a,b,_,h,_=>h.elim
 |n::ns,a,b,hn,h,ha=>by
  have Fz:=hn n cg;have ue:∀n∈ns,0<n:=fun x hx=>hn x (cp _ hx);have RS:a<n*pr ns:=ha;have hq:a / n<pr ns:=Nat.div_lt_of_lt_mul RS;show a<b/\b<n*pr ns;rcases(A6 hn).mp h with ⟨c,rfl⟩|⟨c,d⟩
  .refine⟨by lia,?_⟩;have e:=jO a n;have:=zy n hq;rw[Nat.succ_eq_add_one,nJ,qQ] at this;lia
  .obtain⟨i1,i2⟩:=SK ue d hq;refine⟨?_,?_⟩
   .have e1:=jO a n;have e2:=jO b n;have:=EJ i1 Fz;lia
   .have e2:=jO b n;have hm:=qS b Fz;have:=zy n i2;rw[Nat.succ_eq_add_one,nJ,qQ] at this;lia
theorem Gk:∀ {ns:List Nat} {v:Nat},(∀x∈ns,0<x)->0<v->v<pr ns->∃u,u<v/\U ns u v
 |[],v,_,h1,h2=>by have h2:v<1:=h2;lia
 |n::ns,v,hn,h1,h2=>by
  have Fz:=hn n cg;have ue:∀n∈ns,0<n:=fun x hx=>hn x (cp _ hx);have lv:=qS v Fz;have ev:=jO v n;by_cases c:v % n=0
  .have hq:0<v / n:=by
    rcases Nat.eq_zero_or_pos (v / n) with z|z
    .rw[z,c] at ev;simp at ev;lia
    .exact z
   obtain⟨u,hu,uu⟩:=Gk (v:=v / n) ue hq (Nat.div_lt_of_lt_mul h2);refine⟨n*u,?_,(A6 hn).mpr (.inr ⟨by rw[Nat.mul_mod_right,c],by rw[Nat.mul_div_cancel_left _ Fz];exact uu⟩)⟩;have:=EJ hu Fz;lia
  .have hv:v-1=n*(v / n)+(v % n-1):=by lia
   have hm:(v-1) % n=v % n-1:=by rw[hv,Nat.mul_add_mod,lu (by lia)]
   exact⟨v-1,by lia,(A6 hn).mpr (.inl ⟨by lia,by lia⟩)⟩
theorem Cy:∀ {ns:List Nat} {st a b:Nat},(∀x∈ns,0<x)->yq st ns a b->a+st<=b
 |[],st,a,b,_,h=>h.elim
 |n::ns,st,a,b,hn,h=>by
  rcases h with ⟨_,rfl⟩|h
  .exact aT _
  .have:=Cy (fun x hx=>hn x (cp _ hx)) h;have h1:=Nat.le_mul_of_pos_right st (hn n cg);lia
theorem Eg:(Ol m st n).Nodup:=by
 unfold Ol;refine o4.mpr (im.mpr ?_);exact(o4.mp (iy.sublist zB)).imp fun {a b} h e=>h (congrArg Prod.fst e)
theorem yr:∀ {ns:List Nat} {st:Nat},0<st->(∀x∈ns,2<=x)->(bx m st ns).Nodup
 |[],_,_,_=>i8
 |n::ns,st,h,hn=>by
  have Qx:=hn n cg;have ue:∀x∈ns,2<=x:=fun x hx=>hn x (cp _ hx);refine jF.mpr ⟨Eg,yr (lz h (by lia)) ue,fun x hx y hy e=>?_⟩;subst e;have h1:=(Cw.mp hx).2.2;have h2:=Cy (fun x hx=>by have:=ue x hx;lia) (oH.mp hy).2;have h3:=zy st Qx;lia
theorem Eh(nd:ps.Nodup)(h:∀u∈ps,u.1<u.2):(di ps).Nodup:=by
 refine(fJ (ps:=ps)).nodup_iff.mpr (jF.mpr ⟨nd,?_,fun x hx y hy e=>?_⟩)
 .refine o4.mpr (im.mpr ((o4.mp nd).imp fun {a b} pN e=>pN ?_));exact dY (congrArg Prod.snd e) (congrArg Prod.fst e)
 .subst e;obtain⟨u,hu,rfl⟩:=aX.mp hy;have h1:=h _ hx;have h2:=h u hu;have h1:u.2<u.1:=h1;lia
theorem Ei{qs:List (Nat×Nat)}(h:qs.Nodup):(qs.map iW).Nodup:=by
 refine o4.mpr (im.mpr ((o4.mp h).imp fun {a b} pN e=>pN ?_));exact dY (dt (congrArg Prod.fst e)) (dt (congrArg Prod.snd e))
theorem pq:∀ {a b:List (Nat×Nat)},kX h (a++b)=kX h a+kX h b
 |[],b=>by show kX h b=0+_;lia
 |q::a,b=>by
  have:=pq (h:=h) (a:=a) (b:=b);show b1 _+(b1 _+kX h (a++b))=b1 _+(b1 _+kX h a)+kX h b;lia
theorem M1:b1 (Nat.beq a b)=if a=b then 1 else 0:=by
 by_cases c:a=b
 .subst c;rw[am rfl,vy];rfl
 .rw[if_neg c,show Nat.beq a b=false from zR.mpr fun z=>c (uY z)];rfl
theorem Cz:∀ {L:List Nat},L.Nodup->kX h (L.map fun x=>(x,x+st))<=(if h∈L then 1 else 0)+(if st<=h/\h-st∈L then 1 else 0)
 |[],_=>cu _
 |x::L,nd=>by
  obtain⟨n1,n2⟩:=eG.mp nd;have ih:=Cz (h:=h) (st:=st) n2;show b1 (Nat.beq x h)+(b1 (Nat.beq (x+st) h)+kX h (L.map fun x=>(x,x+st)))<=_;rw[M1,M1];have e1:(if h∈x::L then 1 else 0)=(if x=h then 1 else 0)+(if h∈L then 1 else 0):=by
   by_cases c:x=h
   .subst c;rw[am cg,am rfl,if_neg n1]
   .rw[if_neg c];by_cases d:h∈L
    .rw[am (cp _ d),am d]
    .rw[if_neg d,if_neg (fun z=>(bi.mp z).elim (fun z=>c z.symm) d)]
  have e2:(if st<=h/\h-st∈x::L then 1 else 0)=(if x+st=h then 1 else 0)+(if st<=h/\h-st∈L then 1 else 0):=by
   by_cases c:x+st=h
   .have e:h-st=x:=by lia
    rw[am c,e,am ⟨by lia,cg⟩,if_neg (fun z=>n1 z.2)]
   .rw[if_neg c];by_cases d:st<=h/\h-st∈L
    .rw[am d,am ⟨d.1,cp _ d.2⟩]
    .rw[if_neg d,if_neg];rintro⟨z1,z2⟩;rcases bi.mp z2 with z|z
     .lia
     .exact d ⟨z1,z⟩
  rw[e1,e2];lia
def wt:List Nat->Nat
 |[]=>0
 |n::ns=>(if n=2 then 1 else 2)+wt ns
theorem J9(hs:0<st):kX h (Ol m st n)<=if n=2 then 1 else 2:=by
 have c:=Cz (h:=h) (st:=st) (L:=(List.range m).filter fun h=>decide (h / st % n+1<n)) (iy.sublist zB);refine a9 c ?_;by_cases e:n=2
 .rw[am e];by_cases c1:h∈(List.range m).filter fun h=>decide (h / st % n+1<n)
  .rw[am c1,if_neg]
   .lia
   .rintro⟨z1,z2⟩;have d1:h / st % n+1<n:=dk (cq.mp c1).2;have d2:(h-st) / st % n+1<n:=dk (cq.mp z2).2;have d3:h / st=(h-st) / st+1:=by
     have:=Nat.add_div_right (h-st) hs;rw[show h-st+st=h by lia] at this;exact this
    obtain⟨_,d4⟩:=A7 d2;rw[<-d3] at d4;lia
  .rw[if_neg c1];split <;> lia
 .rw[if_neg e];split <;> split <;> lia
theorem Gm:∀ {ns:List Nat} {st:Nat},0<st->(∀x∈ns,0<x)->kX h (bx m st ns)<=wt ns
 |[],_,_,_=>aT _
 |n::ns,st,hs,hn=>by
  show kX h (Ol m st n++bx m (st*n) ns)<=_+wt ns;rw[pq];have h1:=J9 (m:=m) (n:=n) (h:=h) hs;have h2:=Gm (m:=m) (h:=h) (ns:=ns) (st:=st*n) (lz hs (hn n cg)) fun x hx=>hn x (cp _ hx);lia
theorem Go:∀ {ns:List Nat},(∀x∈ns,2<=x)->3 ^ wt ns<=pr ns*pr ns
 |[],_=>aT _
 |n::ns,hn=>by
  have ih:=Go (ns:=ns) fun x hx=>hn x (cp _ hx);have h2:=hn n cg;show 3 ^ ((if n=2 then 1 else 2)+wt ns)<=n*pr ns*(n*pr ns);rw[Nat.pow_add,Nat.mul_mul_mul_comm];refine qI ?_ ih;by_cases c:n=2
  .rw[am c,c];decide
  .rw[if_neg c];have:3<=n:=by lia
   exact qI this this
theorem SL(hn:∀x∈ns,2<=x)(hp:pr ns<=32):wt ns<=8:=by
 refine qq fun z=>?_;have h1:3 ^ 9<=3 ^ wt ns:=Nat.pow_le_pow_right (by decide) (by lia);have h2:=Go hn;have h3:pr ns*pr ns<=32*32:=qI hp hp;have h4:(3:Nat) ^ 9=19683:=by decide
 lia
theorem Gp{ns:List Nat}(hn:∀x∈ns,2<=x)(h0:ns≠[])(hp:pr ns<=32):bD (pr ns) (di ((lR ns).map iW)):=by
 have Om:∀x∈ns,0<x:=fun x hx=>by have:=hn x hx;lia
 have q:∀q∈lR ns,q.1<q.2/\q.2<pr ns:=fun q hq=>by
  obtain⟨a,b⟩:=oH.mp hq;exact SK Om b a
 have n1:2<=pr ns:=by
  cases ns with
  |nil=>exact absurd rfl h0
  |cons n ns=>
   have h2:=hn n cg;have:∀ {l:List Nat},(∀x∈l,2<=x)->1<=pr l:=fun {l}=>by
    induction l with
    |nil=>intro _;exact aT _
    |cons x l ih=>intro hl;exact lz (by have:=hl x cg;lia) (ih fun y hy=>hl y (cp _ hy))
   have h3:=this (l:=ns) fun x hx=>hn x (cp _ hx);show 2<=n*pr ns;exact a9 h2 (Nat.le_mul_of_pos_right n h3)
 have mem:∀t∈di ((lR ns).map iW),∃q∈lR ns,t=iW q\/t=ur (iW q):=fun t ht=>by
  rcases mz.mp ht with z|z
  .obtain⟨q,hq,e⟩:=aX.mp z;exact⟨q,hq,.inl e.symm⟩
  .obtain⟨q,hq,e⟩:=aX.mp z;exact⟨q,hq,.inr (by rw[e])⟩
 have rg:∀t∈di ((lR ns).map iW),((0<=t.1/\t.1<pr ns)/\(0<=t.2/\t.2<pr ns))/\t.1≠t.2:=fun t ht=>by
  obtain⟨p,hq,e⟩:=mem t ht;obtain⟨a,b⟩:=q p hq;rcases e with rfl|rfl
  .exact⟨⟨⟨by show (0:Int)<=(p.1:Int);lia,by show (p.1:Int)<(pr ns:Int);lia⟩,by show (0:Int)<=(p.2:Int);lia,by show (p.2:Int)<(pr ns:Int);lia⟩,by show ((p.1:Nat):Int)≠(p.2:Nat);lia⟩
  .exact⟨⟨⟨by show (0:Int)<=(p.2:Int);lia,by show (p.2:Int)<(pr ns:Int);lia⟩,by show (0:Int)<=(p.1:Int);lia,by show (p.1:Int)<(pr ns:Int);lia⟩,by show ((p.2:Nat):Int)≠(p.1:Nat);lia⟩
 have nd:(di ((lR ns).map iW)).Nodup:=Eh (Ei (yr (by decide) hn)) fun u hu=>by
  obtain⟨p,hq,rfl⟩:=aX.mp hu;have:=(q p hq).1;show (p.1:Int)<(p.2:Int);lia
 refine⟨n1,hp,nd,fun t ht=>(rg t ht).1,fun t ht=>(rg t ht).2,fun h=>?_,fun h=>?_,fun a b ha hb=>?_⟩
 .rw[<-(Cv (ps:=(lR ns).map iW)).filter (fun t=>decide (t.1=h)) |>.length_eq,qx,aI];rfl
 .by_cases c:0<=h/\h<pr ns
  .have:=Gm (m:=pr ns) (h:=h.toNat) (ns:=ns) (st:=1) (by decide) Om;have e:=wf (h:=h.toNat) (qs:=lR ns);rw[lY c.1] at e;rw[e];exact a9 this (SL hn hp)
  .have e:(di ((lR ns).map iW)).filter (fun t=>decide (t.1=h))=[]:=qv.mpr fun t ht e=>c ((show t.1=h from dk e) ▸ (rg t ht).1.1);rw[e];exact cu _
 .have Az:∀v,v<pr ns->(∃k,cV (di ((lR ns).map iW)) k 0 v)/\∃k,cV (di ((lR ns).map iW)) k v 0:=by
   intro v;induction v using Nat.strongRecOn with
   |ind v ih=>
    intro hv;rcases Nat.eq_zero_or_pos v with e|e
    .subst e;exact⟨⟨0,rfl⟩,0,rfl⟩
    .obtain⟨u,hu,uu⟩:=Gk Om e hv;obtain⟨⟨k,w⟩,l,w'⟩:=ih u hu (by lia);have t:T (di ((lR ns).map iW)) u v:=mz.mpr (.inl (aX.mpr ⟨(u,v),oH.mpr ⟨by show u<pr ns;lia,uu⟩,rfl⟩));have t':T (di ((lR ns).map iW)) v u:=wd t;exact⟨⟨k+1,u,w,t⟩,l+1,cV.cons t' w'⟩
  obtain⟨_,k,w⟩:=Az a ha;obtain⟨⟨l,w'⟩,_⟩:=Az b hb;exact⟨_,w.trans w'⟩
end gw
namespace L2
open PySem PySem.Spec PyProof.Rows
def A8(scope:Scope)(bJ:List (Str×Addr))(qual:Str)(f c L:Addr):Env:=
 { scope:=scope,locals:=L,globals:=mainGlobals,cells:=bJ,qual:=qual++".<locals>.",func:=some f,code:=.ref c,frame:=some L,builtins:=builtinsNs }
def rT(X:Cx)(NB:List Str)(scope:Scope)(bJ:List (Str×Addr))(qual:Str)(f c:Addr)(s:Shared)(H:Hp):Cx:=
 { X with A:=X.A.in1.in1.deeper (A8 scope bJ qual f c s.heap.objs.size),N:=NB,s₀:=s,H₀:=H,env:=A8 scope bJ qual f c s.heap.objs.size,outer:=X.stack,stack:=A8 scope bJ qual f c s.heap.objs.size::X.stack,ex:=[],fn:=fun _=>false,pn:=[],xe:=fun _ _=>False }
structure A9(X:Cx)(NB:List Str)(src:List (Option Nat))(scope:Scope)(qual:Str)(params:Arguments)(body:Expr)(y:Str):Prop where
 bs:gp NB src scope X
 bind:∀bJ pm c sG v,bindArgs (PySem.W.kla_fn "<lambda>" qual params body scope bJ pm (.ref c) sG) ⟨[v],[]⟩=pure [(y,v)]
 y0:NB[0]?=some y
 s0:src[0]?=some none
 ly:scope.names.lookup y=some .local
 lM:∀z∈scope.names,z.2≠.cell
 co:scope.isCoroutine=false
 gen:scope.isGenerator=false
section
variable {X:Cx} {ae:List (Addr×Obj)} {σ:St} {H:Hp} {s:Shared} {NB:List Str} {src:List (Option Nat)} {scope:Scope} {qual:Str} {params:Arguments} {body:Expr} {y:Str} {bJ:List (Str×Addr)} {f c:Addr} {h₁:Heap} {t₁:Nat} {v:V} {u:Value}
theorem J_(I:aM X ae σ H s)(S:A9 X NB src scope qual params body y)(hd:X.A.handled=none)(c1:∀x c,bJ.lookup x=some c->X.env.cells.lookup x=some c)(c2:∀x,(x,NameKind.free)∈scope.names->∃c,bJ.lookup x=some c)(hn:h₁.Ns s.heap.objs.size (fun x=>[(y,u)].lookup x))(hk:∀b o,s.heap.get? b=some o->h₁.get? b=some o)(rv:bw v u):
  aM (rT X NB scope bJ qual f c s H) [] ((yX src σ).set 0 (some v)) H { s with heap:=h₁,toks:=t₁ }:=by
 have lL:∀x c,bJ.lookup x=some c->∃v,s.heap.IsCell c v:=fun x c e=>I.cell x c (c1 x c e);have B:=S.bs;refine⟨⟨I.ok.mod,B.kind,rfl,rfl,aT _,fun x y c e1 e2=>I.ok.inj x y c (c1 x c e1) (c1 y c e2),fun x hx=>?_,(fun x c z e=>by cases z),fun _=>hd,zS I.ok.frames,.inr ⟨rfl,rfl⟩,(fun b hb=>by cases hb),I.bs,a9 I.ok.Dq I.sz,(fun b o e hb=>by cases hb),(fun b hb=>by cases hb),I.stack,I.l7⟩,
  rfl,I.bare,Un.kept hk,⟨_,hn,fun i x w e1 e2 e3=>?_⟩,fun x c e=>?_,I.bL.fresh (aT _),fun x c e=>I.jy x c (c1 x c e),fun p hp=>absurd (show p∈([]:List (Addr×Obj)) from hp) (by simp),I.bL.kept hk,?_⟩
 .have hx:scope.names.lookup x=some .cell\/scope.names.lookup x=some .free:=hx;rcases hx with z|z
  .exact absurd rfl (S.lM _ (ik z))
  .exact c2 x (ik z)
 .have e1:NB[i]?=some x:=e1;cases i with
  |zero=>
   rw[S.y0] at e1;cases e1;have hl:0<(yX src σ).length:=by
    unfold yX;rw[aI];exact(dO.mp S.s0).1
   rw[mY hl] at e2;cases e2;exact⟨u,rv,.inl ⟨S.ly,by simp⟩⟩
  |succ i=>
   rw[m6 (by lia)] at e2;obtain⟨j,hj,hv⟩:=BV e2;obtain⟨hN,hF⟩:=B.src (i+1) x j e1 hj;obtain⟨m0,Fz,Qz⟩:=I.loc;have AA:=ik hF;have kx:=B.free _ AA rfl;have Ru:Qq X.env.scope x:=by
    rcases kx with z|z
    .exact .inr (.inl z)
    .exact .inr (.inr z)
   obtain⟨u',r,l⟩:=Qz j x w hN hv Ru;obtain⟨c',hc⟩:=c2 x AA;refine⟨u',r,.inr ⟨.inr hF,c',hc,?_⟩⟩;rcases l with ⟨NR,_⟩|⟨_,SN,e,z⟩
   .have FB:X.env.scope.names.lookup x=some .local:=NR;rcases kx with z|z <;> (rw[z] at FB;cases FB)
   .rw[c1 x c' hc] at e;cases e;obtain⟨o,ho,EZ⟩:=z;exact⟨o,hk _ _ ho,EZ⟩
 .obtain⟨v,o,ho,EZ⟩:=lL x c e;exact⟨v,o,hk _ _ ho,EZ⟩
 .show ((yX src σ).set 0 (some v)).length=NB.length;unfold yX;rw[jJ,aI];exact B.len
theorem Gq(hr:bQ k X.A)(S:A9 X NB src scope qual params body y)(I:aM X ae σ H s)(hf:H f=some (mn f qual params body scope X.env.cells c))(hc:H c=some (j6 c qual))(rv:bw v u)(hb:∀bJ s H,PE (rT X NB scope bJ qual f c s H) body te)(h:te ((yX src σ).set 0 (some v)) H Q):
  wpAny (model X.prog X.w) X.A.in1.in1 (call (.ref f) [u]) (EP X ae σ Q) (fun _ _=>False) s:=by
 obtain⟨bJ,pm,sG,c1,c2,Jw⟩:=(I.bL f _ hf).1;have Sg:s.heap.CodeRec (.ref c) qual:=(I.bL c _ hc).1;have xX:X.A.in1.in1.depth<recursionLimit:=by
  have:=hr.dp;show X.A.depth<_;lia
 refine jU (zo xX Jw rfl S.co S.gen rfl Sg ?_);rw[S.bind];refine wpAny_pure (zJ S.lM (fun x hx=>by rw[cA.mp hx];exact S.ly) (fun h₁ ue MU=>⟨I.nolimit.fresh _ MU,?_⟩) S.bs.kind);have JF:∀b o,s.heap.get? b=some o->h₁.get? b=some o:=fun b o e=>MU.extBut b o (aW (a8 e)) (b9 _ e);refine zn ?_;have J:=J_ (f:=f) (c:=c) (t₁:=s.toks+1) I S hr.hd c1 c2 ue JF rv;refine f9 (hb bJ s H [] _ _ H Q J h) (fun w s' ⟨v',H',J',r',q'⟩=>?_) fun _ _ z=>z.elim;exact⟨v',H',I.E3 (ch:=[]) J'.os J'.base J'.bL J'.bare (fun b hb=>by cases hb),r',q'⟩
end
def On(kz:Nat->Int)(a b:Nat):Prop:=kz a=kz a/\a=a/\b=b
structure II(ns:List Nat)(kz:Nat->Int)(ps:List Keyed):Prop where
 len:ps.length=ns.length
 at_:∀ (i n:Nat),ns[i]?=some n->∃t u,ps[i]?=some (Value.int (kz n) t,Value.int (n:Int) u)
theorem II.mem(P:II ns kz ps)(h:p∈ps):∃n∈ns,∃t u,p=(Value.int (kz n) t,Value.int (n:Int) u):=by
 obtain⟨i,hi,e⟩:=u6 h;have hn:i<ns.length:=by rw[<-P.len];exact hi
 obtain⟨t,u,e2⟩:=P.at_ i ns[i] (cH hn);rw[cH hi] at e2;exact⟨_,fV hn,t,u,by rw[<-e];exact bh e2⟩
theorem II.map(P:II ns kz ps):ps.map (fun p=>(numOf p.2).toNat)=ns:=by
 refine ni fun i=>?_;rw[bX];cases e:ns[i]? with
 |none=>
  have:ns.length<=i:=List.getElem?_eq_none_iff.mp e;rw[eM (by rw[P.len];exact this)];rfl
 |some n=>
  obtain⟨t,u,e2⟩:=P.at_ i n e;rw[e2];rfl
theorem II.cmp(P:II ns kz a.toList):xk prog w A s oneType' a:=fun x y hx hy Q E h=>by
 obtain⟨n,_,t,u,rfl⟩:=P.mem hx;obtain⟨m,_,t',u',rfl⟩:=P.mem hy;rw[keyLt'_oneType];exact oneLt_int (h _)
theorem II.out{ns:List Nat}{kz:Nat->Int}{a b:Array Keyed}(P:II ns kz a.toList)(hp:b.Perm a):
  ∃out:List Nat,out.Perm ns/\out.Pairwise (On kz)/\aY (out.map fun (x:Nat)=>V.int (x:Int)) (b.map (·.2)).toList:=by
 have hl:b.toList.Perm a.toList:=k4.mp hp;have mem:∀p∈b.toList,∃n∈ns,∃t u,p=(Value.int (kz n) t,Value.int (n:Int) u):=fun p h=>P.mem (hl.mem_iff.mp h);refine⟨b.toList.map fun p=>(numOf p.2).toNat,by rw[<-P.map];exact hl.map _,?_,?_⟩
 .exact zd.mpr fun _ _ _ _ _=>⟨rfl,rfl,rfl⟩
 .rw[qF,dD];have go:∀l:List Keyed,(∀p∈l,∃n∈ns,∃t u,p=(Value.int (kz n) t,Value.int (n:Int) u))->aY (l.map ((fun (x:Nat)=>V.int (x:Int)) ∘ fun p=>(numOf p.2).toNat)) (l.map (·.2)):=fun l=>by
   induction l with
   |nil=>intro _;exact .nil
   |cons x l ih=>
    intro h;obtain⟨n,_,t,u,rfl⟩:=h x cg;exact .cons ⟨u,rfl⟩ (ih fun p hp=>h p (cp _ hp))
  exact go _ mem
section
variable {X:Cx} {ae:List (Addr×Obj)} {σ:St} {H:Hp} {s:Shared}
theorem aM.SS(I:aM X ae σ H s)(f:fP X ae H a)(new:cw X.prog X.w (upd H a o) s.heap a o):aM X ae σ (upd H a o) s:=by
 have ne:∀ {b u},H b=some u->b≠a:=fun {b u} e z=>by rw[z,f.1] at e;cases e
 obtain⟨h,g,d,t,os⟩:=s;refine I.step (g':=g) (d':=d) (t':=t) (h':=h) (ch:=[a]) (fun b hb=>?_) (fun b o _ _ _ e _=>e) (fun b o _ _ _ e _=>⟨o.slots,e⟩) (fun b o hc _ n=>by rw[ao (fun z=>hc (by simp[z]))];exact n)
  (fun b o _ e=>⟨o,e⟩) (fun b xs e=>by rw[ao (ne e)];exact e) (fun b o u e=>by rw[ao (ne e)];exact e) (fun b ps e=>⟨#[],by rw[ao (ne e),e];simp⟩) (fun m hm=>hm) (fun b u e=>?_) I.bare
 .have e:b=a:=by simpa using hb
  subst e;exact⟨f.2.2.2.1,f.2.1,f.2.2.2.2.1,f.2.2.2.2.2⟩
 .by_cases hb:b=a
  .subst hb;rw[af] at e;cases e;exact new
  .rw[ao hb] at e;exact(I.bL b u e).l6 (fun _ _ _ q=>q) (fun d q=>by rw[ao (ne q)];exact q) fun d xs q=>by rw[ao (ne q)];exact q
variable {NB:List Str} {src:List (Option Nat)} {scope:Scope} {qual:Str} {params:Arguments} {body:Expr} {y:Str} {f c:Addr} {te:TE} {k:Nat} {ns:List Nat} {kz:Nat->Int} {its:List Value} {a kS:Addr} {e1:Nat}
theorem yt{st:SortSt}{gR:Array Value}{e:Nat}{E:Value->Shared->Prop}{A:Around}(I:aM X ae σ H s)(fa:fP X ae H a)(fk:fP X ae H kS)(Oo:kS≠a)(oa:s.heap.get? a=some (seqObj "list" #[] e1))(ok:s.heap.get? kS=some (seqObj "list" gR e))(hk:gR.size<64)(FW:(arrOf st).size<64)(hfl:failedOf st=none){out:List Nat}(hv:aY (out.map fun (x:Nat)=>V.int (x:Int)) ((arrOf st).map (·.2)).toList){P:PySem.Fin->Shared->Prop}(h:∀s',aM X ae σ (upd H a (.lst (out.map fun (x:Nat)=>V.int (x:Int)))) s'->P (.done (.ret .none)) s'):
  wpAny (model X.prog X.w) A (ksk_tail a false e1 (.ref kS) st) P E s:=by
 have s1:=ng s.heap kS (Obj.mapSeq fun _=>(#[]:Array Value));have Yh:(s.heap.update kS (Obj.mapSeq fun _=>(#[]:Array Value))).get? a=some (seqObj "list" #[] e1):=(s1.2 a Oo.symm).trans oa;have s2:=ng (s.heap.update kS (Obj.mapSeq fun _=>(#[]:Array Value))) a (Obj.mapSeq fun _=>(arrOf st).map (·.2));obtain⟨c2,Yi⟩:∃c2,((s.heap.update kS (Obj.mapSeq fun _=>(#[]:Array Value))).update a (Obj.mapSeq fun _=>(arrOf st).map (·.2))).get? a=some (seqObj "list" ((arrOf st).map (·.2)) c2):=⟨_,jR Yh fun _=>(arrOf st).map (·.2)⟩
 have J1:=I.turned (t':=s.toks) (h':=s.heap.update kS (Obj.mapSeq fun _=>(#[]:Array Value))) (it:=kS) (fun b o hb q=>(s1.2 b hb).trans q) fk.1 fk.2.1 fk.2.2.2.1 fk.2.2.2.2.1 fk.2.2.2.2.2;have J2:=J1.turned (t':=s.toks) (h':=(s.heap.update kS (Obj.mapSeq fun _=>(#[]:Array Value))).update a (Obj.mapSeq fun _=>(arrOf st).map (·.2))) (it:=a) (fun b o hb q=>(s2.2 b hb).trans q) fa.1 fa.2.1 fa.2.2.2.1 fa.2.2.2.2.1 fa.2.2.2.2.2;have J3:=J2.SS fa (o:=.lst (out.map fun (x:Nat)=>V.int (x:Int))) ⟨?_,((arrOf st).map (·.2)).toList,c2,hv,by rw[Yi]⟩
 .unfold ksk_tail;try dsimp only
  refine aw (lB ok rfl ?_ (by rw[fX];lia) (cu _));refine aw (wpAny_letGo ?_);refine aw (qU Yh rfl ?_);simp only[jE,eT];refine aw (lB Yh rfl ?_ (cu _) (by rw[gY,fX];lia));rw[hfl];simp only[zL,jE,eT];exact wpAny_pure (h _ J3)
 .have:=hv.length;rw[this,lZ,gY,fX];lia
theorem Ka{gR:Array Value}{e:Nat}{E:Value->Shared->Prop}{A:Around}(I:aM X ae σ H s)(fa:fP X ae H a)(fk:fP X ae H kS)(Oo:kS≠a)(oa:s.heap.get? a=some (seqObj "list" #[] e1))(ok:s.heap.get? kS=some (seqObj "list" gR e))(hk:IntsAre gR.toList (ns.map kz))(hP:II ns kz (gR.zip its.toArray).toList)(hl:its.length=ns.length)(FW:ns.length<64)(Wa:ns.Pairwise (·<·))(Wb:∀n∈ns,n<64){P:PySem.Fin->Shared->Prop}(h:∀s' (out:List Nat),out.Perm ns->out.Pairwise (On kz)->aM X ae σ (upd H a (.lst (out.map fun (x:Nat)=>V.int (x:Int)))) s'->P (.done (.ret .none)) s'):
  wpAny (model X.prog X.w) A (ksk_end a false its.toArray e1 (.ref kS) gR) P E s:=by
 have hsz:gR.size=ns.length:=by
  have h1:=hk.length;rw[lZ,aI] at h1;exact h1
 have hzs:(gR.zip its.toArray).size=ns.length:=by rw[Array.size_zip,hsz,cm,hl,vw]
 unfold ksk_end;simp only[jE,eT];by_cases h2:its.toArray.size<2
 .rw[am h2,am h2];refine aw (wpAny_pure ?_);rw[StateT.run_pure];refine aw (wpAny_pure ?_);try dsimp only
  rw[cm,hl] at h2;obtain⟨out,o1,o2,o3⟩:=hP.out (b:=gR.zip its.toArray) (vj _);exact yt (st:=SortSt.mk' general' (gR.zip its.toArray) #[] 7 none) I fa fk Oo oa ok (by lia) (by show (gR.zip its.toArray).size<64;lia) rfl o3 fun s' J=>h s' out o1 o2 J
 .rw[if_neg h2,if_neg h2];rw[cm,hl] at h2;rw[ksk_kind hk (by lia)];refine aw (wpAny_pure ?_);refine aw (f9 (uk (st:=SortSt.mk' oneType' (gR.zip its.toArray) #[] 7 none) (a₀:=gR.zip its.toArray) (κ:=oneType')
   (Q:=fun _ bg=>(arrOf bg).Perm (gR.zip its.toArray)/\failedOf bg=none)
   hP.cmp (vj _) rfl rfl rfl fun bg a1 a2=>⟨a1,a2⟩) ?_ fun _ _ e=>e)
  rintro⟨⟨⟩,bg⟩ s' ⟨rfl,hp,hf⟩;try dsimp only
  obtain⟨out,o1,o2,o3⟩:=hP.out hp;exact yt I fa fk Oo oa ok (by lia) (by rw[hp.size_eq];lia) hf o3 fun s' J=>h s' out o1 o2 J
theorem Gr(hr:bQ k X.A)(S:A9 X NB src scope qual params body y)(hb:∀bJ s H,PE (rT X NB scope bJ qual f c s H) body te)(I:aM X ae σ H s)(hf:H f=some (mn f qual params body scope X.env.cells c))(hc:H c=some (j6 c qual))(hv:aY (ns.map fun (x:Nat)=>V.int (x:Int)) its)(FW:ns.length<64)(Wa:ns.Pairwise (·<·))(Wb:∀n∈ns,n<64)(fa:fP X ae H a)(fk:fP X ae H kS)(Oo:kS≠a)(oa:s.heap.get? a=some (seqObj "list" #[] e1))(ok:s.heap.get? kS=some (seqObj "list" #[] 0))(Yj:∀n∈ns,∀H',aA H H'->te ((yX src σ).set 0 (some (.int (n:Nat)))) H' fun v SU=>v=.int (kz n)/\aA H' SU)(h:∀H' s' (out:List Nat),aA H H'->H' a=none->out.Perm ns->out.Pairwise (On kz)->aM X ae σ (upd H' a (.lst (out.map fun (x:Nat)=>V.int (x:Int)))) s'->P (.done (.ret .none)) s'):
  wpAny (model X.prog X.w) X.A.in1.in1 (ksk_rest a (.ref f) false its.toArray e1 (.ref kS)) P E s:=by
 have hl:its.length=ns.length:=by have:=hv.length;rw[aI] at this;exact this.symm
 unfold ksk_rest;refine aw (iD ?_);first
  |rw[List.forIn_toArray]
  |(rw[<-zI];simp only[List.toList_toArray])
  |rw[<-zI]
 have SW:∀ {p:Addr×Obj} {b:Addr} {o:Obj} {H':Hp} {s':Shared},fP X ae H b->H' b=none->s'.heap.get? b=some o->(∀v,o.data≠.cell v)->p=(b,o)->s'.heap.get? p.1=some p.2/\H' p.1=none/\p.1≠X.env.locals/\p.1∉X.fs/\∀v,p.2.data≠.cell v:=fun {p b o H' s'} F n e d z=>by
  subst z;exact⟨e,n,F.2.1,F.2.2.1,d⟩
 have two:∀ {H':Hp} {s':Shared} {oK:Obj} {Yk:List (Addr×Obj)},aM X Yk σ H' s'->(∀p∈ae,p∈Yk)->H' a=none->H' kS=none->s'.heap.get? a=some (seqObj "list" #[] e1)->s'.heap.get? kS=some oK->(∀v,oK.data≠.cell v)->aM X (ae++[(kS,oK),(a,seqObj "list" #[] e1)]) σ H' s':=fun {H' s' oK Yk} J sub na nk ea ek d=>J.l8 fun p hp=>by
  rcases bY.mp hp with z|z
  .exact J.pin p (dP _ (sub p z))
  .rcases bi.mp z with z|z
   .exact SW fk nk ek d z
   .exact SW fa na ea (fun v z=>by cases z) (cA.mp z)
 refine aw (ksk_fold (fun i s'=>∃H' kA e,aA H H'/\aM X (ae++[(kS,seqObj "list" kA e),(a,seqObj "list" #[] e1)]) σ H' s'/\IntsAre kA.toList ((ns.take i).map kz)) its 0 s
  ⟨H,#[],0,aA.refl _,two I (fun p z=>z) fa.1 fk.1 oa ok (fun v z=>by cases z),by simpa using IntsAre.nil⟩ ?step ?done)
 case step=>
  rintro j x s' hx ⟨H',kA,e,sm,J,hk⟩;simp only[qL] at hk |-;have hj:j<ns.length:=by rw[<-hl];exact(dO.mp hx).1
  have hnj:ns[j]?=some ns[j]:=cH hj;obtain⟨u,hu,ru⟩:=hv.get (i:=j) (x:=V.int ((ns[j]:Nat):Int)) (by rw[bX,hnj];rfl);rw[hx] at hu;cases hu;refine aw (qO (f9 (Gq hr S J (sm _ _ hf) (sm _ _ hc) ru hb (Yj ns[j] (fV hj) H' sm)) (fun w IA he=>?_) fun _ _ hF=>hF.elim));obtain⟨v,SU,J2,⟨rf,s_⟩⟩:=he;obtain⟨rfl,CA⟩:=s_;obtain⟨t2,rfl⟩:∃t,w=Value.int (kz ns[j]) t:=rf;try dsimp only
  have nk:=J2.pin (kS,seqObj "list" kA e) (dP _ (dP _ (.head _)));have na:=J2.pin (a,seqObj "list" #[] e1) (dP _ (dP _ (.tail _ (.head _))));have s1:=ng IA.heap kS (Obj.mapSeq (·.push (.int (kz ns[j]) t2)));obtain⟨c2,Yi⟩:∃c2,(IA.heap.update kS (Obj.mapSeq (·.push (.int (kz ns[j]) t2)))).get? kS=some (seqObj "list" (kA.push (.int (kz ns[j]) t2)) c2):=⟨_,jR nk.1 (·.push (.int (kz ns[j]) t2))⟩
  have hz:kA.size<=64:=by
   have h1:=hk.length;rw[lZ,aI,jG] at h1;lia
  have J3:=(J2.l8 (pins':=ae) fun p hp=>J2.pin p (dP _ (fj _ hp))).turned (t':=IA.toks) (h':=IA.heap.update kS (Obj.mapSeq (·.push (.int (kz ns[j]) t2)))) (it:=kS) (fun b o hb q=>(s1.2 b hb).trans q) nk.2.1 fk.2.1 fk.2.2.2.1 fk.2.2.2.2.1 fk.2.2.2.2.2;refine aw (lB nk.1 rfl ?_ (by rw[fX];lia) (a9 (nG (Array.size_push ..)) (by rw[fX];lia)));refine wpAny_pure ⟨rfl,SU,_,c2,sm.trans CA,two J3 (fun p z=>z) na.2.1 nk.2.1 ((s1.2 a Oo.symm).trans na.1) Yi (fun v z=>by cases z),?_⟩;have ek:(ns.take (j+1)).map kz=(ns.take j).map kz++[kz ns[j]]:=by rw[eZ,hnj,jM,bT];rfl
  have ea:(kA.push (Value.int (kz ns[j]) t2)).toList=kA.toList++[Value.int (kz ns[j]) t2]:=by simp
  rw[ea,ek];exact ksk_snoc hk
 case done=>
  rintro s' ⟨H',kA,e,sm,J,hk⟩;have NR:IntsAre kA.toList (ns.map kz):=by
   have e3:ns.take (0+its.length)=ns:=mX (by lia);rw[e3] at hk;exact hk
  have nk:=J.pin (kS,seqObj "list" kA e) (dP _ (dP _ (.head _)));have na:=J.pin (a,seqObj "list" #[] e1) (dP _ (dP _ (.tail _ (.head _))));try dsimp only
  refine aw (listItems_at nk.1 rfl ?_);have hP:II ns kz (kA.zip its.toArray).toList:=by
   rw[ksk_zip];have l1:=NR.length;rw[aI] at l1;refine⟨by rw[List.length_zip,l1,hl,vw],fun i n hn=>?_⟩;have hi:i<ns.length:=(dO.mp hn).1;obtain⟨u,hu,t',rfl⟩:=hv.get (i:=i) (x:=V.int ((n:Nat):Int)) (by rw[bX,hn];rfl);have hki:i<kA.toList.length:=by rw[l1];exact hi
   obtain⟨m,t,em,en⟩:=NR.at i kA.toList[i] (cH hki);rw[bX,hn] at en;cases en;refine⟨t,t',?_⟩;rw[ES];exact⟨by rw[cH hki,em],hu⟩
  exact Ka (J.l8 (pins':=ae) fun p hp=>J.pin p (dP _ (fj _ hp))) ⟨na.2.1,fa.2⟩ ⟨nk.2.1,fk.2⟩ Oo na.1 nk.1 NR hP hl FW Wa Wb fun s2 out o1 o2 J2=>h H' s2 out sm na.2.1 o1 o2 J2
end
def Op(X:Cx)(NB:List Str)(src:List (Option Nat))(qual:Str)(params:Arguments)(body:Expr)(scope:Scope)(te:TE):St->List V->List V->Hp->VK->Prop:=fun σ vs zs H Q=>
 ∃ (l f c:Addr) (ns:List Nat) (kz:Nat->Int),vs=[.ref l]/\zs=[.ref f]/\aV X.K H l (ns.map fun (x:Nat)=>V.int (x:Int))/\ns.length<64/\ns.Pairwise (·<·)/\(∀n∈ns,n<64)/\H f=some (mn f qual params body scope X.env.cells c)/\H c=some (j6 c qual)/\
  (∀n∈ns,∀H',aA H H'->te ((yX src σ).set 0 (some (.int (n:Nat)))) H' fun v SU=>v=.int (kz n)/\aA H' SU)/\
  ∀ (r:Addr) (H':Hp) (out:List Nat),aA H H'->H' r=none->out.Perm ns->out.Pairwise (On kz)->Q (.ref r) (upd H' r (.lst (out.map fun (x:Nat)=>V.int (x:Int))))
theorem lS(hr:bQ k X.A)(S:A9 X NB src scope qual params body y)(hb:∀f c bJ s H,PE (rT X NB scope bJ qual f c s H) body te):
  AM X "sorted" ["key"] (Op X NB src qual params body scope te):=by
 intro ae s σ H vs zs us ws Q I r rz h;obtain⟨l,f,c,ns,kz,rfl,rfl,hl,FW,Wa,Wb,hf,hc,Yj,q⟩:=h;obtain⟨u1,rfl,r1⟩:=r.one;obtain rfl:u1=Value.ref l:=r1;obtain⟨w1,rfl,XT⟩:=rz.one;obtain rfl:w1=Value.ref f:=XT;obtain⟨its,rv,pl,hz⟩:=I.list hl;have hln:its.length=ns.length:=by have:=rv.length;rw[aI] at this;exact this.symm
 show wpAny (model X.prog X.w) X.A (call (.builtin "sorted") [.ref l] [(Str.ofString "key",.ref f)]) _ _ s;refine call_function_entry_kw kind_sorted plain_sorted entry_sorted (ksk_s1 _ _) ?_;unfold Builtin.«sorted»;refine aw (m:=checkCount "sorted" 1 1 _) (wpAny_pure ?_);refine aw (collect_list pl.isList ?_ (by rw[fX];lia));refine aw (vz ?_ (by rw[fX];lia));have hsz:((s.heap.push (seqObj "list" #[] 0)).update s.heap.objs.size (Obj.mapSeq (·++its.toArray))).objs.size=s.heap.objs.size+1:=by
  rw[gk,ft]
 have xr:(((s.heap.push (seqObj "list" #[] 0)).update s.heap.objs.size (Obj.mapSeq (·++its.toArray))).push (seqObj "list" its.toArray 0)).get? (s.heap.objs.size+1)=some (seqObj "list" its.toArray 0):=by
  rw[<-hsz];exact cL _ rfl
 have keep:∀b o,s.heap.get? b=some o->(((s.heap.push (seqObj "list" #[] 0)).update s.heap.objs.size (Obj.mapSeq (·++its.toArray))).push (seqObj "list" its.toArray 0)).get? b=some o:=fun b o q=>by
  have eL:b<s.heap.objs.size:=a8 q;rw[e_ _ _ _ (by rw[hsz];exact aW (cX eL)),l4 _ _ _ _ (aW eL),e_ _ _ _ (aW eL)];exact q
 show wpAny _ _ _ _ _ { s with heap:=((s.heap.push (seqObj "list" #[] 0)).update s.heap.objs.size (Obj.mapSeq (·++its.toArray))).push (seqObj "list" its.toArray 0) };rw[hsz];have DI:(((s.heap.push (seqObj "list" #[] 0)).update s.heap.objs.size (Obj.mapSeq (·++its.toArray))).push (seqObj "list" its.toArray 0)).objs.size=s.heap.objs.size+2:=by rw[ft,hsz]
 generalize (((s.heap.push (seqObj "list" #[] 0)).update s.heap.objs.size (Obj.mapSeq (·++its.toArray))).push (seqObj "list" its.toArray 0))=h1 at *;refine aw (gI (wpAny_call_entry_kw slot_list_sort ⟨_,xr,rfl⟩ entry_list_sort ?body (ksk_l1 _ _)));case body=>
  have Yl:=ksk_t1 f (s.heap.objs.size+1);show wpAny (model X.prog X.w) X.A.in1.in1 (Builtin.«list.sort» ⟨[.ref (s.heap.objs.size+1)],[(Str.ofString "key",.ref f)]⟩) _ _ _;rw[Yl];have s1:=ng h1 (s.heap.objs.size+1) (Obj.mapSeq fun _=>(#[]:Array Value));obtain⟨e1,JZ⟩:∃e1,(h1.update (s.heap.objs.size+1) (Obj.mapSeq fun _=>(#[]:Array Value))).get? (s.heap.objs.size+1)=some (seqObj "list" #[] e1):=⟨_,jR xr fun _=>#[]⟩
  have hkS:((h1.update (s.heap.objs.size+1) (Obj.mapSeq fun _=>(#[]:Array Value))).push (seqObj "tuple" its.toArray 0)).objs.size=s.heap.objs.size+3:=by rw[ft,gk,DI]
  unfold ksk_tree;refine aw (listItems_at xr rfl ?_);refine aw (lB xr rfl ?_ (by rw[cm,fX];lia) (cu _));refine aw (qU JZ rfl ?_);refine aw (wpAny_newTuple ?_ (by show its.length<=_;rw[fX];lia));refine aw (vz ?_ (cu _));refine gI ?_;have SX:∀b o,s.heap.get? b=some o->(((h1.update (s.heap.objs.size+1) (Obj.mapSeq fun _=>(#[]:Array Value))).push (seqObj "tuple" its.toArray 0)).push (seqObj "list" #[] 0)).get? b=some o:=fun b o e=>
   b9 _ (b9 _ ((s1.2 b (aW (cX (a8 e)))).trans (keep b o e)))
  have I2:aM X ae σ H { s with heap:=((h1.update (s.heap.objs.size+1) (Obj.mapSeq fun _=>(#[]:Array Value))).push (seqObj "tuple" its.toArray 0)).push (seqObj "list" #[] 0) }:=I.kept (t':=s.toks) SX;refine Gr hr S (hb f c) I2 hf hc rv FW Wa Wb (I.xy (by lia) (I.bL.fresh (by lia))) (I.xy (b:=((h1.update (s.heap.objs.size+1) (Obj.mapSeq fun _=>(#[]:Array Value))).push (seqObj "tuple" its.toArray 0)).objs.size) (by lia) (I.bL.fresh (by lia))) (by lia) (b9 _ (b9 _ JZ)) (cL _ rfl) Yj fun H' s' out sm na o1 o2 J=>⟨_,rfl,?_⟩
  exact wpAny_pure ⟨_,rfl,.ref (s.heap.objs.size+1),_,J,rfl,q _ H' out sm na o1 o2⟩
def br(cells:List (Str×Addr))(a:Addr):Prop:=∃x,cells.lookup x=some a
abbrev ka(h0:Heap)(b:Addr):HO:=.ext fun h=>h.get? b=h0.get? b
open Classical in
noncomputable def h_(S:Addr->Prop)(h0:Heap)(H:Hp):Hp:=fun b=>if S b then some (ka h0 b) else H b
open Classical in
noncomputable def pO(S:Addr->Prop)(H:Hp):Hp:=fun b=>if S b then none else H b
section
variable {S:Addr->Prop} {h0 h h':Heap} {H H':Hp} {b:Addr} {P:Program} {w:World} {fs:List Addr}
theorem mB(e:S b):h_ S h0 H b=some (ka h0 b):=am e
theorem bZ(e:¬ S b):h_ S h0 H b=H b:=if_neg e
theorem iL(e:S b):pO S H b=none:=am e
theorem cD(e:¬ S b):pO S H b=H b:=if_neg e
theorem g_(e:H b=none):pO S H b=none:=by
 by_cases c:S b
 .exact iL c
 .rw[cD c];exact e
theorem CC(x:jB P w H h)(l:∀a,S a->H a=some (ka h0 a)):jB P w (pO S H) h:=fun a o e=>by
 by_cases c:S a
 .rw[iL c] at e;cases e
 .rw[cD c] at e;exact(x a o e).l6 (fun _ _ _ q=>q) (fun d q=>by rw[cD fun z=>by rw[l d z] at q;cases q];exact q) fun d xs q=>by rw[cD fun z=>by rw[l d z] at q;cases q];exact q
theorem yu(x:jB P w H h)(l:∀a,S a->H a=none/\h.get? a=h0.get? a/\∃o,h0.get? a=some o):jB P w (h_ S h0 H) h:=fun a o e=>by
 by_cases c:S a
 .rw[mB c] at e;cases e;obtain⟨_,e1,o,e2⟩:=l a c;exact⟨e1,⟨o,e1.trans e2⟩,fun h1 h2 z k=>(k o (z.trans e2)).trans e2.symm⟩
 .rw[bZ c] at e;exact(x a o e).l6 (fun _ _ _ q=>q) (fun d q=>by rw[bZ fun z=>by rw[(l d z).1] at q;cases q];exact q) fun d xs q=>by rw[bZ fun z=>by rw[(l d z).1] at q;cases q];exact q
theorem Oq(u:Un fs [] (h_ S h0 H) H' h h')(l:∀a,S a->H a=none/\h.get? a=h0.get? a/\a∉fs)(l':∀a,S a->h'.get? a=h0.get? a):Un fs [] H (pO S H') h h' where
 keep:=fun b o e n hb hx=>by
  by_cases c:S b
  .rw[l' b c,<-(l b c).2.1];exact e
  .exact u.keep b o e (by rw[bZ c];exact n) hb hx
 slot:=fun b o e n hb hx=>u.slot b o e (by rw[bZ fun z=>(l b z).2.2 hb];exact n) hb hx
 free:=fun b o e n hx=>by
  by_cases c:S b
  .exact iL c
  .exact g_ (u.free b o e (by rw[bZ c];exact n) hx)
 there:=u.there
 lD:=fun b xs e=>by
  have c:¬ S b:=fun z=>by rw[(l b z).1] at e;cases e
  rw[cD c];exact u.lD b xs (by rw[bZ c];exact e)
 nQ:=fun b o v e=>by
  have c:¬ S b:=fun z=>by rw[(l b z).1] at e;cases e
  rw[cD c];exact u.nQ b o v (by rw[bZ c];exact e)
 nR:=fun b ps e=>by
  have c:¬ S b:=fun z=>by rw[(l b z).1] at e;cases e
  rw[cD c];exact u.nR b ps (by rw[bZ c];exact e)
theorem Kb(u:Un fs [] (pO S H) H' h h')(l:∀a,S a->H a=some (ka h0 a)):Un fs [] H (h_ S h0 H') h h' where
 keep:=fun b o e n hb hx=>u.keep b o e (g_ n) hb hx
 slot:=fun b o e n hb hx=>u.slot b o e (g_ n) hb hx
 free:=fun b o e n hx=>by
  have c:¬ S b:=fun z=>by rw[l b z] at n;cases n
  rw[bZ c];exact u.free b o e (g_ n) hx
 there:=u.there
 lD:=fun b xs e=>by
  have c:¬ S b:=fun z=>by rw[l b z] at e;cases e
  rw[bZ c];exact u.lD b xs (by rw[cD c];exact e)
 nQ:=fun b o v e=>by
  have c:¬ S b:=fun z=>by rw[l b z] at e;cases e
  rw[bZ c];exact u.nQ b o v (by rw[cD c];exact e)
 nR:=fun b ps e=>by
  have c:¬ S b:=fun z=>by rw[l b z] at e;cases e
  rw[bZ c];exact u.nR b ps (by rw[cD c];exact e)
end
structure yv(cells:List (Str×Addr))(h0:Heap)(H:Hp):Prop where
 inj:∀x y c,cells.lookup x=some c->cells.lookup y=some c->x=y
 at_:∀a,br cells a->H a=some (ka h0 a)
 cell:∀x c,cells.lookup x=some c->∃v,h0.IsCell c v
theorem yv.mono{cells:List (Str×Addr)}{h0:Heap}{H H':Hp}(l:yv cells h0 H)(s:∀a,br cells a->H a=some (ka h0 a)->H' a=some (ka h0 a)):yv cells h0 H':=⟨l.inj,fun a c=>s a c (l.at_ a c),l.cell⟩
def ut(cells:List (Str×Addr))(h0:Heap)(x:Str)(v:V):Prop:=∃u c,bw v u/\cells.lookup x=some c/\h0.IsCell c (some u)
def Os(X:Cx)(sp:Sp)(t:TA):TE:=fun σ H Q=>t σ H fun vs H1=>(∀a,br X.env.cells a->H1 a=none)->∀h0:Heap,yv X.env.cells h0 (h_ (br X.env.cells) h0 H1)->(∀ (i:Nat) (x:Str) (v:V),X.N[i]?=some x->σ[i]?=some (some v)->X.env.scope.names.lookup x=some .cell->ut X.env.cells h0 x v)->
 sp vs (h_ (br X.env.cells) h0 H1) (fun v H'=>(∀a,br X.env.cells a->H' a=some (ka h0 a))/\Q v (pO (br X.env.cells) H')) E0
section
variable {X:Cx} {k:Nat} {x:Str} {ps:List Str} {sp:Sp} {e:Expr} {es:List Expr} {t:TA} {p pos:Pos}
theorem Kc(C:cs X.prog X.w X.K X.mg X.base a7 k x ps sp)(hr:bQ k X.A)(Rk:X.fn=fun _=>true)(hex:X.ex=[])(ha:PA X (e::es) t)(hg:Gl X x:=by rfl)(Au:(x==("__debug__":Str))=false:=by decide)(he:starEach (e::es) X.env=(false,eval e X.env)::starEach es X.env:=by rfl)(yV:(backTo pos (starEach es X.env)).any (·.1)=false:=by rfl):
  PE X (.Call (.Name x p) (e::es) [] pos) (Os X sp t):=by
 obtain⟨f,fd,hm,hk,hb,F⟩:=C.ex;intro ae s σ H Q I h;refine jN (l9 I hg hm ?_ Au);refine u9 (h₀:=X.base) I.ok.mod.Qp hk (cz (ha pos ae s σ H _ I h) fun us s1 ⟨vs,H1,I1,r,q⟩=>⟨I1.lE,?_⟩) he yV;have cF:∀a,br X.env.cells a->H1 a=none/\(∃o,s1.heap.get? a=some o)/\a∉Dp X.stack/\X.base.get? a=none:=fun a ⟨y,ey⟩=>by
  obtain⟨v,o,ho,hd⟩:=I1.cell y a ey;have ab:=I1.ok.Qr y a (by rw[Rk]) ey;refine⟨I1.jy y a ey,⟨o,ho⟩,fun pI=>?_,qA (a9 I1.ok.Dq ab)⟩;rcases bi.mp (I1.qW a pI) with z|z
  .exact I1.Mv y a ey z
  .obtain⟨_,o',Ae,_⟩:=I1.ok.nU.mem z;exact absurd (b_ (a8 Ae) ab) (iB _)
 have L:yv X.env.cells s1.heap (h_ (br X.env.cells) s1.heap H1):=⟨I1.ok.inj,fun a c=>mB c,I1.cell⟩
 have q':=q (fun a c=>(cF a c).1) s1.heap L fun i y v h1 h2 h3=>by
  obtain⟨m,_,hl⟩:=I1.loc;obtain⟨u,ru,lk⟩:=hl i y v h1 h2 (.inr (.inl h3));rcases lk with ⟨z,_⟩|⟨_,c,e1,e2⟩
  .have z:X.env.scope.names.lookup y=some .local:=z;rw[h3] at z;cases z
  .exact⟨u,c,ru,e1,e2⟩
 have E0':xD X.prog X.w X.K X.mg X.base X.A X.stack s1 (h_ (br X.env.cells) s1.heap H1):=by
  obtain⟨e1,e2,e3,e4,e5,e6,e7,e8⟩:=I1.NJ;refine⟨e1,e2,fun b o eb=>⟨(e3 b o eb).1,?_⟩,e4,e5,fun b pI=>?_,yu e7 fun a c=>⟨(cF a c).1,rfl,(cF a c).2.1⟩,e8⟩
  .rw[bZ fun z=>by rw[(cF b z).2.2.2] at eb;cases eb];exact(e3 b o eb).2
  .rw[bZ fun z=>(cF b z).2.2.1 pI];exact e6 b pI
 have hl:us.length=ps.length:=by rw[<-r.length];exact F.len _ _ _ _ q'
 have pI:=hb s1 us I1.lE (by rw[jx];exact hl);rw[jx] at pI;refine jU (lx (F.run X.A X.stack s1 _ ⟨us,[]⟩ us vs _ E0 hr E0' pI r q') fun rr s' hq=>?_);cases rr with
 |error e=>exact hq.elim
 |ok fl=>
  cases fl with
  |ret u=>
   obtain⟨v,H',os,bare,un,bL,rv,k1,k2⟩:=hq;have l':∀a,br X.env.cells a->s'.heap.get? a=s1.heap.get? a:=fun a c=>(bL a _ (k1 a c)).1;exact I1.after ⟨v,pO _ H',os,bare,Oq un (fun a c=>⟨(cF a c).1,rfl,(cF a c).2.2.1⟩) l',CC bL k1,rv,k2⟩
  |next=>exact False.elim hq
  |brk=>exact False.elim hq
  |cont=>exact False.elim hq
end
def wn(scope:Scope)(bJ:List (Str×Addr))(qual:Str)(f c L:Addr):Env:=
 { scope:=scope,locals:=L,globals:=mainGlobals,cells:=bJ,qual:=qual++".<locals>.",func:=some f,code:=.ref c,frame:=some L,builtins:=builtinsNs }
def A_(X:Cx)(NB:List Str)(scope:Scope)(bJ:List (Str×Addr))(qual:Str)(f c:Addr)(s:Shared)(H:Hp):Cx:=
 { X with A:=X.A.deeper (wn scope bJ qual f c s.heap.objs.size),N:=NB,s₀:=s,H₀:=H,env:=wn scope bJ qual f c s.heap.objs.size,outer:=X.stack,stack:=wn scope bJ qual f c s.heap.objs.size::X.stack,ex:=[],fn:=fun _=>false,pn:=[],xe:=fun _ _=>False }
structure CD(NB:List Str)(nP:Nat)(scope:Scope)(qual:Str)(params:Arguments)(body:Expr):Prop where
 kind:scope.kind=.function
 nd:NB.Nodup
 bind:∀bJ pm c sG us,us.length=nP->bindArgs (PySem.W.kla_fn "<lambda>" qual params body scope bJ pm (.ref c) sG) ⟨us,[]⟩=pure ((NB.take nP).zip us)
 par:∀x∈NB.take nP,scope.names.lookup x=some .local
 fr:∀i x,nP<=i->NB[i]?=some x->scope.names.lookup x=some .free
 lM:∀z∈scope.names,z.2≠.cell
 co:scope.isCoroutine=false
 gen:scope.isGenerator=false
theorem yw{x:Str}{v:Value}:∀ {l:List (Str×Value)},(l.map (·.1)).Nodup->(x,v)∈l->l.lookup x=some v
 |(y,u)::l,nd,h=>by
  obtain⟨n1,n2⟩:=eG.mp nd;rcases bi.mp h with z|z
  .injection z with z1 z2;rw[z1,z2,fU,beq_self_eq_true]
  .have ne:x≠y:=fun e=>n1 (by rw[<-e];exact aX.mpr ⟨_,z,rfl⟩);rw[fU,show (x==y)=false by simpa using ne];exact yw n2 z
theorem Gs{x:Str}{v:Value}{l:List Str}{us:List Value}{i:Nat}(nd:l.Nodup)(hl:l.length<=us.length)(h1:l[i]?=some x)(h2:us[i]?=some v):(l.zip us).reverse.lookup x=some v:=by
 refine yw ?_ (List.mem_reverse.mpr (cI (i:=i) ?_))
 .rw[List.map_reverse,List.map_fst_zip hl];exact(vb l).nodup_iff.mpr nd
 .rw[ES];exact⟨h1,h2⟩
section
variable {X:Cx} {ae:List (Addr×Obj)} {σ:St} {H:Hp} {s:Shared} {NB:List Str} {nP:Nat} {scope:Scope} {qual:Str} {params:Arguments} {body:Expr} {bJ cells:List (Str×Addr)} {f c:Addr} {h₁ h0:Heap} {t₁:Nat} {vs ws:List V} {us:List Value}
theorem Gu(I:aM X ae σ H s)(S:CD NB nP scope qual params body)(hd:X.A.handled=none)(Wc:X.calm=true)(c1:∀x c,bJ.lookup x=some c->cells.lookup x=some c)(c2:∀x,(x,NameKind.free)∈scope.names->∃c,bJ.lookup x=some c)(L:yv cells h0 H)(hw:∀ (i:Nat) (x:Str) (v:V),NB[nP+i]?=some x->ws[i]?=some v->ut cells h0 x v)(hn:h₁.Ns s.heap.objs.size (fun x=>((NB.take nP).zip us).reverse.lookup x))(hk:∀b o,s.heap.get? b=some o->h₁.get? b=some o)(rv:aY vs us)(hv:vs.length=nP)(d9:nP+ws.length=NB.length):
  aM (A_ X NB scope bJ qual f c s (pO (br cells) H)) [] ((vs++ws).map some) (pO (br cells) H) { s with heap:=h₁,toks:=t₁ }:=by
 have inS:∀ {x c},bJ.lookup x=some c->br cells c:=fun {x c} e=>⟨x,c1 x c e⟩
 have Wd:∀a,br cells a->s.heap.get? a=h0.get? a:=fun a z=>(I.bL a _ (L.at_ a z)).1;have lL:∀x c v,cells.lookup x=some c->h0.IsCell c v->h₁.IsCell c v:=fun x c v e ⟨o,ho,EZ⟩=>⟨o,hk _ _ ((Wd c ⟨x,e⟩).trans ho),EZ⟩
 refine⟨⟨I.ok.mod,S.kind,rfl,rfl,aT _,fun x y c e1 e2=>L.inj x y c (c1 x c e1) (c1 y c e2),fun x hx=>?_,(fun x c z e=>by cases z),fun _=>hd,zS I.ok.frames,.inr ⟨rfl,rfl⟩,(fun b hb=>by cases hb),fun b o e=>⟨(I.bs b o e).1,g_ (I.bs b o e).2⟩,a9 I.ok.Dq I.sz,(fun b o e hb=>by cases hb),(fun b hb=>by cases hb),I.stack,fun b hb=>g_ (I.l7 b hb)⟩,
  rfl,I.bare,Un.kept hk,⟨_,hn,fun i x w e1 e2 e3=>?_⟩,fun x c e=>?_,g_ (I.bL.fresh (aT _)),fun x c e=>iL (inS e),fun p hp=>absurd (show p∈([]:List (Addr×Obj)) from hp) (by simp),(CC I.bL L.at_).kept hk,?_⟩
 .have hx:scope.names.lookup x=some .cell\/scope.names.lookup x=some .free:=hx;rcases hx with z|z
  .exact absurd rfl (S.lM _ (ik z))
  .exact c2 x (ik z)
 .have e1:NB[i]?=some x:=e1;have e2:(vs++ws)[i]?=some w:=by
   rw[bX] at e2;obtain⟨w',h1,h2⟩:=zj.mp e2;rw[h1];exact h2
  by_cases hi:i<nP
  .rw[k6 (by rw[hv];exact hi)] at e2;obtain⟨u,hu,ru⟩:=rv.get e2;have hp:(NB.take nP)[i]?=some x:=by rw[ET hi];exact e1
   have hx:x∈NB.take nP:=cI hp;refine⟨u,ru,.inl ⟨S.par x hx,?_⟩⟩;exact Gs (S.nd.sublist (va _ _)) (by rw[<-rv.length,hv];exact zA _ _) hp hu
  .rw[qo (by rw[hv];lia),hv] at e2;obtain⟨u,c',ru,ec,hc⟩:=hw (i-nP) x w (by rw[show nP+(i-nP)=i by lia];exact e1) e2;have hF:=S.fr i x (by lia) e1;obtain⟨SN,SY⟩:=c2 x (ik hF);have:SN=c':=by have:=c1 x SN SY;rw[ec] at this;exact(bh this).symm
   subst this;exact⟨u,ru,.inr ⟨.inr hF,SN,SY,lL x SN _ ec hc⟩⟩
 .obtain⟨v,Ao⟩:=L.cell x c (c1 x c e);exact⟨v,lL x c v (c1 x c e) Ao⟩
 .show ((vs++ws).map some).length=NB.length;rw[aI,ce,hv];exact d9
def M2(nP:Nat)(scope:Scope)(qual:Str)(params:Arguments)(body:Expr)(NB:List Str)(te:TE)(f:Addr)(vs:List V)(H:Hp)(Q:VK):Prop:=∃ (cells:List (Str×Addr)) (c:Addr) (h0:Heap) (ws:List V),H f=some (mn f qual params body scope cells c)/\H c=some (j6 c qual)/\vs.length=nP/\nP+ws.length=NB.length/\yv cells h0 H/\
 (∀ (i:Nat) (x:Str) (v:V),NB[nP+i]?=some x->ws[i]?=some v->ut cells h0 x v)/\te ((vs++ws).map some) (pO (br cells) H) fun v H'=>(∀a,br cells a->H' a=none)->Q v (h_ (br cells) h0 H')
theorem Kd{te:TE}{Q:VK}{k:Nat}(hr:bQ k X.A)(Wc:X.calm=true)(S:CD NB nP scope qual params body)(I:aM X ae σ H s)(rv:aY vs us)(hb:∀bJ c s H,PE (A_ X NB scope bJ qual f c s H) body te)(h:M2 nP scope qual params body NB te f vs H Q):
  wpAny (model X.prog X.w) X.A (call (.ref f) us) (EP X ae σ Q) X.xe s:=by
 obtain⟨cells,c,h0,ws,hf,hc,hv,d9,L,hw,h⟩:=h;obtain⟨bJ,pm,sG,c1,c2,Jw⟩:=(I.bL f _ hf).1;have Sg:s.heap.CodeRec (.ref c) qual:=(I.bL c _ hc).1;have xX:X.A.depth<recursionLimit:=by have:=hr.dp;lia
 have hul:us.length=nP:=by rw[<-rv.length];exact hv
 refine jU (zo xX Jw rfl S.co S.gen rfl Sg ?_);rw[S.bind _ _ _ _ _ hul];refine wpAny_pure (zJ S.lM (fun x hx=>?_) (fun h₁ ue MU=>⟨I.nolimit.fresh _ MU,?_⟩) S.kind)
 .exact S.par _ (nB hx).1
 have JF:∀b o,s.heap.get? b=some o->h₁.get? b=some o:=fun b o e=>MU.extBut b o (aW (a8 e)) (b9 _ e);refine zn ?_;have J:=Gu (f:=f) (c:=c) (t₁:=s.toks+((NB.take nP).zip us).length) I S hr.hd Wc c1 c2 L hw ue JF rv hv d9;refine f9 (hb bJ c s _ [] _ _ _ _ J h) (fun w s' ⟨v',H',J',r',q'⟩=>?_) fun _ _ z=>z.elim;have kp:∀a,br cells a->H' a=none/\s'.heap.get? a=h0.get? a/\∃o,h0.get? a=some o:=fun a z=>by
  obtain⟨y,ey⟩:=id z;have e0:s.heap.get? a=h0.get? a:=(I.bL a _ (L.at_ a z)).1;obtain⟨v,o,ho,_⟩:=L.cell y a ey;have es:s.heap.get? a=some o:=e0.trans ho;refine⟨J'.base.free a o es (iL z) (by intro z;cases z),?_,o,ho⟩;rw[ho];exact J'.base.keep a o es (iL z) (fun pI=>by have:=I.l7 a pI;rw[L.at_ a z] at this;cases this) (by intro z;cases z)
 exact⟨v',h_ (br cells) h0 H',I.E3 (ch:=[]) J'.os (Kb J'.base L.at_) (yu J'.bL kp) J'.bare (fun b hb=>by cases hb),r',q' fun a z=>(kp a z).1⟩
def SZ(i:Nat)(nP:Nat)(scope:Scope)(qual:Str)(params:Arguments)(body:Expr)(NB:List Str)(te:TE)(t:TA):TE:=fun σ H Q=>∃f,σ[i]?=some (some (.ref f))/\(∃cells c,H f=some (mn f qual params body scope cells c))/\t σ H fun vs H1=>M2 nP scope qual params body NB te f vs H1 Q
theorem Ke{te:TE}{k i:Nat}{x:Str}{e:Expr}{es:List Expr}{t:TA}{p pos:Pos}(hr:bQ k X.A)(Wc:X.calm=true)(S:CD NB nP scope qual params body)(hx:PE X (.Name x p) (aB i))(ha:PA X (e::es) t)(hb:∀f bJ c s H,PE (A_ X NB scope bJ qual f c s H) body te)(he:starEach (e::es) X.env=(false,eval e X.env)::starEach es X.env:=by rfl)(yV:(backTo pos (starEach es X.env)).any (·.1)=false:=by rfl):
  PE X (.Call (.Name x p) (e::es) [] pos) (SZ i nP scope qual params body NB te t):=by
 intro ae s σ H Q I h;obtain⟨f,hσ,⟨cells,c,hf⟩,h⟩:=h;have fn:∀ {s:Shared} {H:Hp} {cells:List (Str×Addr)} {c:Addr},jB X.prog X.w H s.heap->H f=some (mn f qual params body scope cells c)->PySem.W.FnAt f s.heap:=fun {s H cells c} bL hf=>by
  obtain⟨bJ,pm,sG,_,_,e⟩:=(bL f _ hf).1;exact⟨_,_,_,_,e⟩
 refine jN (cz (hx ae s σ H (fun v H1=>v=.ref f/\H1=H) I ⟨_,hσ,rfl,rfl⟩) fun u s1 ⟨v,H1,I1,r1,ev,eH⟩=>?_);subst ev;subst eH;cases r1;refine PySem.W.callWith_F (fn I1.bL hf) (cz (ha pos ae s1 σ H1 _ I1 h) fun us s2 ⟨vs,H2,I2,r,q⟩=>⟨?_,?_⟩) he yV
 .obtain⟨Ym,c',_,_,vR,_⟩:=id q;exact fn I2.bL vR
 .exact Kd hr Wc S I2 r (hb f) q
end
end L2
namespace Ba
open PySem L2
def top(i:Nat):Stmt:=PySem.Challenge.pw_neverwait_k55_whole_far_and_two.main.body.getD i (.Pass ⟨0,0,0,0⟩)
abbrev Bb:Stmt:=top 4
abbrev wo:Stmt:=top 5
abbrev Bc:Stmt:=top 6
abbrev Ot:Stmt:=top 8
structure Bl(mg:Str->Option Value):Prop where
 S0:mg "isinstance"=none
 int:mg "int"=none
 bool:mg "bool"=none
 tup:mg "tuple"=none
 lst:mg "list"=none
 str:mg "str"=none
 set:mg "set"=none
 len:mg "len"=none
 range:mg "range"=none
 sorted:mg "sorted"=none
 any:mg "any"=none
 max:mg "max"=none
 min:mg "min"=none
 ab4:mg "ValueError"=none
 all:mg "all"=none
def Gv(K:PySem.W.Frag)(H:Hp)(x:V):Prop:=∃t,ML K H x t/\(PySem.W.kitOne K t (.type "int")=some false\/(PySem.W.kitOne K t (.type "int")=some true/\PySem.W.kitOne K t (.type "bool")=some true))
theorem yx:PySem.W.kitOne K (.type "int") (.type "int")=some true:=by kernel_rfl
theorem wq:PySem.W.kitOne K (.type "int") (.type "bool")=some false:=by kernel_rfl
inductive Wh (K:PySem.W.Frag) (H:Hp):V->Option Int->Prop where
 |int (i:Int):Wh K H (.int i) (some i)
 |no {x:V} (h:Gv K H x):Wh K H x none
def wr(K:PySem.W.Frag):Sp:=fun vs H Q _=>∃x o,vs=[x]/\Wh K H x o/\Q (.bl o.isSome) H
section
variable {P:Program} {w:World} {K:PySem.W.Frag} {mg:Str->Option Value} {base:Heap}
theorem Kg:aG ["thing"] ["thing"] (ak Bb):=⟨rfl,rfl,rfl,by decide +kernel,rfl,by decide +kernel,by decide +kernel⟩
theorem Gw(F:fY K "is_whole" "is_whole" Bb f fd)(B:Bl mg):bo P w K mg base a7 1 f fd ["thing"] (wr K):=by
 refine F.ok Kg (fun vs H Q E h=>?_) (fun dN A outer s H vs Q E hr h=>?_)
 .obtain⟨x,o,rfl,_⟩:=h;rfl
 .obtain⟨x,o,rfl,W,k⟩:=h;refine⟨_,ap (aR (jX (aD mj (by rfl) B.S0 qr (aa (pv 0) (aa (pW (v:=.ty "int") rfl B.int uW rfl) ag)))
   (iG (E6 (aD mj (by rfl) B.S0 qr (aa (pv 0) (aa (pW (v:=.ty "bool") rfl B.bool PyProof.Rows.boot_bool rfl) ag))))))),?_⟩
  cases W with
  |int i=>
   refine⟨_,rfl,_,_,_,.type "int",true,rfl,⟨rfl,yx⟩,.of (.int _),true,rfl,?_⟩;exact⟨_,rfl,_,_,_,.type "int",false,rfl,⟨rfl,wq⟩,.of (.int _),false,rfl,k⟩
  |no h=>
   obtain⟨t,ty,h|⟨h1,h2⟩⟩:=h
   .exact⟨_,rfl,_,_,_,t,false,rfl,⟨rfl,h⟩,ty,false,rfl,k⟩
   .refine⟨_,rfl,_,_,_,t,true,rfl,⟨rfl,h1⟩,ty,true,rfl,?_⟩;exact⟨_,rfl,_,_,_,t,true,rfl,⟨rfl,h2⟩,ty,true,rfl,k⟩
def iM(o:Option Int)(lo hi:Int):Bool:=match o with
 |some i=>decide (lo<=i)&&decide (i<=hi)
 |none=>false
def kd(K:PySem.W.Frag):Sp:=fun vs H Q _=>∃x o lo hi,vs=[x,.int lo,.int hi]/\Wh K H x o/\Q (.bl (iM o lo hi)) H
theorem Gx:aG ["thing","least","most"] ["thing","least","most"] (ak wo):=⟨rfl,rfl,rfl,by decide +kernel,rfl,by decide +kernel,by decide +kernel⟩
theorem Ej(F:fY K "is_whole_within" "is_whole_within" wo f fd)(W:cs P w K mg base a7 1 "is_whole" ["thing"] (wr K)):bo P w K mg base a7 2 f fd ["thing","least","most"] (kd K):=by
 refine F.ok Gx (fun vs H Q E h=>?_) (fun dN A outer s H vs Q E hr h=>?_)
 .obtain⟨x,o,lo,hi,rfl,_⟩:=h;rfl
 .obtain⟨x,o,lo,hi,rfl,wh,k⟩:=h;refine⟨_,ap (aR (jX (aF W hr aK (aa (pv 0) ag)) (iG (Ff xB xB (pv 1) (pv 0) (pv 2))))),?_⟩;refine⟨_,rfl,x,o,rfl,wh,?_⟩;cases wh with
  |no h=>exact⟨false,rfl,k⟩
  |int i=>
   refine⟨true,rfl,_,rfl,_,rfl,_,_,rfl,rfl,_,rfl,?_⟩;show if decide (lo<=i)=true then _ else _
   have k':Q (.bl (decide (lo<=i)&&decide (i<=hi))) H:=k;by_cases h:lo<=i
   .rw[cZ h] at k' |-;exact⟨_,rfl,_,_,rfl,rfl,k'⟩
   .rw[d6 h] at k' |-;exact k'
def qe(K:PySem.W.Frag):Sp:=fun vs H Q _=>∃x o n,vs=[.int n,x]/\Wh K H x o/\Q (.bl (iM o 0 (n-1))) H
theorem Kh:aG ["many","thing"] ["many","thing"] (ak Bc):=⟨rfl,rfl,rfl,by decide +kernel,rfl,by decide +kernel,by decide +kernel⟩
theorem Gz(F:fY K "is_house" "is_house" Bc f fd)(W:cs P w K mg base a7 2 "is_whole_within" ["thing","least","most"] (kd K)):bo P w K mg base a7 3 f fd ["many","thing"] (qe K):=by
 refine F.ok Kh (fun vs H Q E h=>?_) (fun dN A outer s H vs Q E hr h=>?_)
 .obtain⟨x,o,n,rfl,_⟩:=h;rfl
 .obtain⟨x,o,n,rfl,wh,k⟩:=h;refine⟨_,ap (aR (aF W hr aK (aa (pv 1) (aa aq (aa (aP iH (pv 0) aq) ag))))),?_⟩;exact⟨_,rfl,_,rfl,_,_,rfl,rfl,x,o,0,n-1,rfl,wh,k⟩
inductive Rw (K:PySem.W.Frag) (H:Hp):V->Option (List V)->Prop where
 |tup {p:Addr} {xs:List V} (h:H p=some (.tup xs)):Rw K H (.ref p) (some xs)
 |no {x:V} {t:Value} (ty:ML K H x t) (h:PySem.W.kitOne K t (.type "tuple")=some false):Rw K H x none
def S4(o:Option (List V))(m:Int):Bool:=match o with
 |some xs=>decide ((xs.length:Int)=m)
 |none=>false
theorem Ki:PySem.W.kitOne K (.type "tuple") (.type "tuple")=some true:=by kernel_rfl
def GA(K:PySem.W.Frag):Sp:=fun vs H Q _=>∃x o m,vs=[x,.int m]/\Rw K H x o/\Q (.bl (S4 o m)) H
theorem S5:aG ["thing","length"] ["thing","length"] (ak Ot):=⟨rfl,rfl,rfl,by decide +kernel,rfl,by decide +kernel,by decide +kernel⟩
theorem Ou(F:fY K "is_row" "is_row" Ot f fd)(B:Bl mg):bo P w K mg base a7 1 f fd ["thing","length"] (GA K):=by
 refine F.ok S5 (fun vs H Q E h=>?_) (fun dN A outer s H vs Q E hr h=>?_)
 .obtain⟨x,o,m,rfl,_⟩:=h;rfl
 .obtain⟨x,o,m,rfl,W,k⟩:=h;refine⟨_,ap (aR (jX (aD mj (by rfl) B.S0 qr (aa (pv 0) (aa (pW (v:=.ty "tuple") rfl B.tup o9 rfl) ag)))
   (iG (dI gn (aD aO (by rfl) B.len dU (aa (pv 0) ag)) (pv 1) (aS _))))),?_⟩
  cases W with
  |@tup p xs h=>
   refine⟨_,rfl,_,_,_,.type "tuple",true,rfl,⟨rfl,Ki⟩,.of (.tup h),true,rfl,?_⟩;refine⟨_,rfl,_,_,rfl,.inr (bW.of h),_,rfl,rfl,?_⟩;have e:decide (V.int ((xs.length:Nat):Int)=V.int m)=decide (((xs.length:Nat):Int)=m):=by simp
   rw[e];exact k
  |no ty h=>exact⟨_,rfl,_,_,_,_,false,rfl,⟨rfl,h⟩,ty,false,rfl,k⟩
end
theorem bf(s:aA H H')(hD:H D=none):aA H (upd H' D o):=fun b u e=>by rw[ao (aj e hD)];exact s b u e
theorem eB{p D:Addr}{H H':Hp}{o:HO}(s:aH p H H')(hD:H D=none):aH p H (upd H' D o):=fun b u e n=>by rw[ao (aj e hD)];exact s b u e n
abbrev IV(ns:List Int):List V:=ns.map V.int
abbrev NV(ns:List Nat):List V:=ns.map fun (x:Nat)=>V.int (x:Int)
theorem Bd(Gy Gn:Hp->Prop)(hy:∀H,Gy H->t D σ H)(hn:∀H,Gn H->u D σ H)(ht:∀Y N:Hp->Prop,(∀H,Gy H->Y H)->(∀H,Gn H->N H)->c σ H fun b H1=>if b=true then Y H1 else N H1):Rp c t u D σ H:=ht _ _ hy hn
theorem rV(G:St->Hp->Prop)(hr:∀σ H,G σ H->u D σ H)(ht:∀N:St->Hp->Prop,(∀σ H,G σ H->N σ H)->t { D with nx:=N } σ H):I0 t u D σ H:=ht _ hr
theorem rW{A B:Prop}(h:A):if true=true then A else B:=by rw[am rfl];exact h
theorem uv{A B:Prop}(h:B):if false=true then A else B:=by rw[if_neg (by decide)];exact h
abbrev Zs:=List (Addr×(Int×Int))
abbrev tj(u:Int×Int):HO:=.tup [.int u.1,.int u.2]
def zr(zs:Zs):List V:=zs.map fun z=>V.ref z.1
def zp(zs:Zs):List (Int×Int):=zs.map (·.2)
def PO(H:Hp)(zs:Zs):Prop:=∀z∈zs,H z.1=some (tj z.2)
theorem dB:zr (a++b)=zr a++zr b:=bT
theorem cG:zp (a++b)=zp a++zp b:=bT
theorem cY:(zr a).length=a.length:=aI _
theorem bR:(zp a).length=a.length:=aI _
theorem kK:zr a=(a.map (·.1)).map V.ref:=by unfold zr;rw[dD];rfl
theorem lT{zs:Zs}{i:Nat}{x:V}(h:(zr zs)[i]?=some x):∃z,zs[i]?=some z/\x=.ref z.1:=by
 unfold zr at h;rw[bX] at h;cases e:zs[i]? with
 |none=>rw[e] at h;cases h
 |some z=>rw[e] at h;exact⟨z,rfl,(bh h).symm⟩
theorem PO.nil:PO H []:=fun z hz=>(nomatch hz)
theorem PO.same(h:PO H zs)(s:aA H H'):PO H' zs:=fun z hz=>s _ _ (h z hz)
theorem PO.putL(h:PO H zs)(e:H D=some (.lst xs)):PO (upd H D o) zs:=fun z hz=>by
 have:=h z hz;rw[ao (by rintro rfl;rw[e] at this;cases this)];exact this
theorem PO.putN(h:PO H zs)(e:H D=none):PO (upd H D o) zs:=h.same (ah e)
theorem PO.append(h:PO H a)(h':PO H b):PO H (a++b):=fun z hz=>(bY.mp hz).elim (h z) (h' z)
theorem PO.one(h:H p=some (tj u)):PO H [(p,u)]:=fun z hz=>by rw[cA.mp hz];exact h
theorem yz{zs:Zs}{i:Nat}(h:i<zs.length):(zs.map (·.1)).getD i 0=zs[i].1:=by
 rw[bv,bX,cH h];rfl
theorem CG(h:i<zs.length):(zp zs).getD i (0,0)=zs[i].2:=by
 unfold zp;rw[bv,bX,cH h];rfl
theorem GB{K:PySem.W.Frag}{MH:Bool}{H:Hp}{p l:Addr}{u:Int×Int}{zs:Zs}{Q:VK}(hp:H p=some (tj u))(hl:H l=some (.lst (zr zs)))(ho:PO H zs)(q:Q (.bl (if MH then !decide (u∈zp zs) else decide (u∈zp zs))) H):Of K MH (.ref p) (.ref l) H Q:=
 ⟨p,l,u,zs.map (·.1),zp zs,rfl,rfl,bW.of hp,aV.of (by rw[<-kK];exact hl),by rw[aI,bR],fun i hi=>by
  rw[bR] at hi;rw[yz hi,CG hi];exact bW.of (ho _ (fV hi)),q⟩
theorem uw{H:Hp}{zs:Zs}(ho:PO H zs){as:List Addr}(h:as.Perm (zs.map (·.1))):∃qc:Zs,qc.Perm zs/\as=qc.map (·.1):=by
 classical
 let f:Addr->Int×Int:=fun a=>match H a with
  |some (.tup [.int x,.int y])=>(x,y)
  |_=>(0,0)
 have e:(zs.map (·.1)).map (fun a=>(a,f a))=zs:=by
  rw[dD];conv=>rhs;rw[<-lA zs]
  refine il fun z hz=>?_;have:=ho z hz;show (z.1,f z.1)=z;have e2:f z.1=z.2:=by
   show (match H z.1 with|some (.tup [.int x,.int y])=>(x,y)|_=>(0,0))=z.2;rw[this]
  rw[e2]
 refine⟨as.map fun a=>(a,f a),?_,?_⟩
 .have:=h.map (fun a=>(a,f a));rw[e] at this;exact this
 .rw[dD];exact(lA as).symm
abbrev Ord(us:List (Int×Int)):Prop:=us=us
theorem Kj{K:PySem.W.Frag}{H:Hp}{l:Addr}{zs:Zs}{Q:VK}(hl:H l=some (.lst (zr zs)))(ho:PO H zs)(hz:zs.length<=4096)(hb:∀u∈zp zs,0<=u.2/\u.2<64)(q:∀ (D:Addr) (qc:Zs),H D=none->qc.Perm zs->Ord (zp qc)->Q (.ref D) (upd H D (.lst (zr qc)))):AW K [.ref l] H Q:=by
 refine⟨l,zs.map (·.1),rfl,aV.of (by rw[<-kK];exact hl),fun a ha=>?_,by rw[aI];exact hz,fun D v9 hD hp=>?_⟩
 .obtain⟨z,hz,rfl⟩:=aX.mp ha;exact⟨_,_,bW.of (ho z hz)⟩
 .obtain⟨qc,h1,rfl⟩:=uw ho hp;rw[<-kK];exact q D qc hD h1 rfl
theorem GC{K:PySem.W.Frag}{a D:Addr}{zs0:Zs}{g:TG}{tt:TT}{te:TE}{dE:Hp->Prop}{σB:St}{H0:Hp}(F:Int×Int->Int×Int)(bU:St->Prop)(ha:H0 a=some (.lst (zr zs0)))(Ov:PO H0 zs0)(hD:H0 D=none)(hn:zs0.length<=100000)(h0:bU σB)(hs:∀z σ H (R:V->St->Hp->Prop) (Kf:St->Hp->Prop),z∈zs0->bU σ->aA H0 H->H z.1=some (tj z.2)->(∀σ2 p,bU σ2->H p=none->R (.ref p) σ2 (upd H p (tj (F z.2))))->g (.ref z.1) σ H fun σ2 H2=>tt σ2 H2 fun b H3=>if b=true then te σ2 H3 fun v H4=>R v σ2 H4 else Kf σ2 H3)(hd:∀zs H,aA H0 H->H D=some (.lst (zr zs))->PO H zs->zp zs=(zp zs0).map F->(∀z∈zs,H0 z.1=none)->dE H):gu (Dr K a) g tt te D dE σB (upd H0 D (.lst [])):=by
 refine cP (xs:=zr zs0) (fun i ys σ H=>bU σ/\aA H0 H/\H D=some (.lst ys)/\∃zs:Zs,ys=zr zs/\PO H zs/\zp zs=((zp zs0).take i).map F/\∀z∈zs,H0 z.1=none) ⟨h0,ah hD,af,[],rfl,PO.nil,rfl,fun z hz=>nomatch hz⟩ (fun i ys σ H _ z=>aV.of (z.2.1 _ _ ha)) ?_ ?_
 .rintro i x ys σ H Kt Kf hx ⟨sh,sm,ir,zs,rfl,po,ep,fr⟩ kt kf;obtain⟨z,hz,rfl⟩:=lT hx;have hi:i<zs0.length:=(dO.mp hz).1;have ux:z∈zs0:=cI hz;have hl:zs.length=i:=by rw[<-bR,ep,aI,jG,bR];lia
  refine hs z σ H Kt Kf ux sh sm (sm _ _ (Ov z ux)) (fun σ2 p tm hp=>?_)
  .have nD:D≠p:=aj ir hp;refine kt _ _ _ (by rw[ao nD];exact ir) (by rw[cY,hl];exact b_ hi (a9 hn (by decide))) ⟨tm,bf (sm.trans (ah hp)) hD,af,zs++[(p,F z.2)],?_,?_,?_,?_⟩
   .rw[dB];rfl
   .refine PO.putL (xs:=zr zs) ?_ (by rw[ao nD];exact ir);exact(po.putN hp).append (PO.one af)
   .have e2:(zp zs0)[i]?=some z.2:=by unfold zp;rw[bX,hz];rfl
    rw[cG,ep,eZ,e2,jM,bT];rfl
   .intro z hz;rcases bY.mp hz with z'|z'
    .exact fr z z'
    .rw[cA.mp z'];exact sm.free hp
 .rintro ys σ H ⟨_,sm,ir,zs,rfl,po,ep,fr⟩;rw[cY,<-bR,gh] at ep;exact hd zs H sm ir po ep fr
open gw
abbrev CH:Stmt:=gf (top 27) 0
abbrev Ow:Stmt:=gf (top 27) 3
abbrev Ox:Stmt:=gf (top 27) 4
abbrev GD:Stmt:=gf (top 27) 6
abbrev Be:Stmt:=gf (top 27) 8
theorem n12:¬ (("house_count":Str)="tie_list"):=by decide +kernel
theorem n13:¬ (("house_count":Str)="out_lists"):=by decide +kernel
theorem n14:¬ (("house_count":Str)="distances"):=by decide +kernel
theorem n34:¬ (("out_lists":Str)="distances"):=by decide +kernel
def oI(n:Int)(tl ol ds:Addr):List (Str×V):=dJ "distances" (.ref ds) (dJ "out_lists" (.ref ol) (dJ "tie_list" (.ref tl) (dJ "house_count" (.int n) [])))
theorem Kk(n:Int)(tl ol ds:Addr):(oI n tl ol ds).lookup ("house_count":Str)=some (.int n):=by
 unfold oI;rw[bB,if_neg n14,bB,if_neg n13,bB,if_neg n12,bB,am rfl]
theorem qf(n:Int)(tl ol ds:Addr){m:Str}(h1:¬ m="house_count")(h2:¬ m="tie_list")(h3:¬ m="out_lists")(h4:¬ m="distances"):(oI n tl ol ds).lookup m=none:=by
 unfold oI;rw[bB,if_neg h4,bB,if_neg h3,bB,if_neg h2,bB,if_neg h1];all_goals rfl
theorem CJ(n:Int)(tl ol ds:Addr):(oI n tl ol ds).lookup ("out_lists":Str)=some (.ref ol):=by
 unfold oI;rw[bB,if_neg n34,bB,am rfl]
theorem CK(n:Int)(tl ol ds:Addr):(oI n tl ol ds).lookup ("distances":Str)=some (.ref ds):=by
 unfold oI;rw[bB,am rfl]
def hU(H:Hp)(L:Addr->Prop)(l:Addr)(n:Nat)(r:Nat->List Nat):Prop:=∃bs:List Addr,H l=some (.lst (bs.map V.ref))/\(∀b∈bs,L b)/\Holds H bs n (fun h=>.lst (NV (r h)))
theorem hU.keep(R:hU H L l n r)(hl:L l)(k:∀b o,L b->H b=some o->H' b=some o):hU H' L l n r:=
 let ⟨bs,a,b,c⟩:=R
 ⟨bs,k _ _ hl a,b,c.mono fun j hj e=>k _ _ (b _ (by rw[bv,cH (by rw[c.1];exact hj)];exact fV _)) e⟩
theorem hU.row(R:hU H L l n r)(hh:h<n):∃ (bs:List Addr) (b:Addr),H l=some (.lst (bs.map V.ref))/\(bs.map V.ref)[h]?=some (V.ref b)/\H b=some (.lst (NV (r h)))/\L b:=by
 obtain⟨bs,a,b,c⟩:=R;have hl:h<bs.length:=by rw[c.1];exact hh
 refine⟨bs,bs[h],a,by rw[bX,cH hl];rfl,?_,b _ (fV _)⟩;have:=c.2 h hh;rw[bv,cH hl] at this;exact this
def Kl(H:Hp)(L:Addr->Prop)(tl:Addr)(ts:Ts):Prop:=L tl/\∃zs:Zs,H tl=some (.lst (zr zs))/\PO H zs/\(∀z∈zs,L z.1)/\(zp zs).Perm ts/\Ord (zp zs)
theorem Kl.keep(h:Kl H L tl ts)(k:∀b o,L b->H b=some o->H' b=some o):Kl H' L tl ts:=
 let ⟨a,zs,b,c,d,e⟩:=h;⟨a,zs,k _ _ a b,fun z hz=>k _ _ (d z hz) (c z hz),d,e⟩
structure cy(C:Addr)(H:Hp)(L:Addr->Prop)(p:Addr)(n:Nat)(ts:Ts):Prop where
 iK:bD n ts
 ob:∃dx tl ol ds,H p=some (.ins C dx (oI n tl ol ds))/\L ol/\L ds/\hU H L ol n (cQ n ts)/\hU H L ds n (fun h=>(List.range n).map (far ts h))/\Kl H L tl ts
theorem cy.keep(N:cy C H L p n ts)(k:∀b o,L b->H b=some o->H' b=some o)(kp:∀o,H p=some o->H' p=some o):cy C H' L p n ts:=
 let ⟨dx,tl,ol,ds,a,l1,l2,b,c,d⟩:=N.ob
 ⟨N.iK,dx,tl,ol,ds,kp _ a,l1,l2,b.keep l1 k,c.keep l2 k,d.keep k⟩
theorem cy.same(N:cy C H L p n ts)(s:aA H H'):cy C H' L p n ts:=N.keep (fun b o _ e=>s b o e) (fun o e=>s _ o e)
structure NT(K:PySem.W.Frag)(mg:Str->Option Value)(C:Addr):Prop where
 cl:Fm K C
 nH:iI K C "house_count"
 nT:iI K C "tie_list"
 nO:iI K C "out_lists"
 nD:iI K C "distances"
 QJ:mg "Net"=some (.ref C)
structure ic(P:Program)(w:World)(K:PySem.W.Frag)(mg:Str->Option Value)(base:Heap)(CX:xi)(k:Nat)(C:Addr)(x:Str)(ps:List Str)(sp:Sp):Prop where
 ex:∃f fd,NH K C x f/\j3 K fd ps []/\bo P w K mg base CX k f fd ps sp
section
variable {P:Program} {w:World} {K:PySem.W.Frag} {mg:Str->Option Value} {base:Heap}
theorem Km:aG ["self","thing"] ["self","thing"] (ak Be):=⟨rfl,rfl,rfl,by decide +kernel,rfl,by decide +kernel,by decide +kernel⟩
theorem oJ{i n:Nat}(h:i<n):iM (some (i:Int)) 0 ((n:Int)-1)=true:=by unfold iM;simp;lia
def mC(C:Addr):Sp:=fun vs H Q _=>∃ (L:Addr->Prop) (p:Addr) (n:Nat) (ts:Ts) (i:Nat),vs=[.ref p,.int i]/\cy C H L p n ts/\i<n/\Q .bV H
theorem Ek{f C:Addr}{fd:FuncData}(F:fY K "check_house" "Net.check_house" Be f fd)(T:NT K mg C)(HH:cs P w K mg base a7 3 "is_house" ["many","thing"] (qe K)):
  bo P w K mg base a7 4 f fd ["self","thing"] (mC C):=by
 refine F.ok Km (fun vs H Q E h=>?_) (fun dN A outer s H vs Q E hr h=>?_)
 .obtain⟨L,p,n,ts,i,rfl,_⟩:=h;rfl
 .obtain⟨L,p,n,ts,i,rfl,N,hi,k⟩:=h;obtain⟨dx,tl,ol,ds,h1,_⟩:=N.ob;refine⟨_,ap (de (nW (gE (aF HH hr aK (aa (lF (pv 0) rfl) (aa (pv 1) ag))))) fc bE),?_⟩;refine⟨_,rfl,p,C,dx,_,_,rfl,h1,T.cl,T.nH,Kk _ _ _ _,_,rfl,_,some (i:Int),n,rfl,.int _,_,rfl,?_⟩;rw[oJ hi];exact lI k
theorem Oy(n:Int)(tl ol ds:Addr):(oI n tl ol ds).lookup ("check_house":Str)=none:=qf n tl ol ds (by decide +kernel) (by decide +kernel) (by decide +kernel) (by decide +kernel)
theorem GE(n:Int)(tl ol ds:Addr):(oI n tl ol ds).lookup ("far":Str)=none:=qf n tl ol ds (by decide +kernel) (by decide +kernel) (by decide +kernel) (by decide +kernel)
theorem bS:(NV xs).length=xs.length:=aI _
theorem S6:aG ["self","house"] ["self","house"] (ak Ow):=⟨rfl,rfl,rfl,by decide +kernel,rfl,by decide +kernel,by decide +kernel⟩
def Bg(C:Addr):Sp:=fun vs H Q _=>∃ (L:Addr->Prop) (p:Addr) (n:Nat) (ts:Ts) (i:Nat),vs=[.ref p,.int i]/\cy C H L p n ts/\i<n/\∀r H',aA H H'->H r=none->H' r=some (.lst (NV (cQ n ts i)))->Q (.ref r) H'
theorem Kn(F:fY K "out" "Net.out" Ow f fd)(T:NT K mg C)(B:Bl mg)(M:ic P w K mg base a7 4 C "check_house" ["self","thing"] (mC C)):
  bo P w K mg base a7 5 f fd ["self","house"] (Bg C):=by
 obtain⟨fM,fdM,mM,bM,GM⟩:=M.ex;refine F.ok S6 (fun vs H Q E h=>?_) (fun dN A outer s H vs Q E hr h=>?_)
 .obtain⟨L,p,n,ts,i,rfl,_⟩:=h;rfl
 .obtain⟨L,p,n,ts,i,rfl,N,hi,k2⟩:=h;obtain⟨dx,tl,ol,ds,h1,_,_,R,_⟩:=N.ob;refine⟨_,ai (cr (cR (pv 0) T.cl mM GM hr bM .nil aK (aa (pv 1) ag)))
   (ap (aR (cB jd (by rfl) B.lst uQ (aa (aL aJ (lF (pv 0) rfl) (pv 1) (fun _ _=>rfl)) ag)))),?_⟩
  refine⟨_,rfl,p,dx,_,rfl,h1,Oy _ _ _ _,_,rfl,L,p,n,ts,i,rfl,N,hi,?_⟩;obtain⟨bs,b,r1,r2,r3,_⟩:=R.row hi;exact⟨_,rfl,p,C,dx,_,_,rfl,h1,T.cl,T.nO,CJ _ _ _ _,_,rfl,ol,_,_,_,rfl,rfl,aV.of r1,az r2,b,_,rfl,.inl (aV.of r3),fun l hl=>k2 l _ (ah hl) hl af⟩
theorem S7:aG ["self","one","other"] ["self","one","other"] (ak Ox):=⟨rfl,rfl,rfl,by decide +kernel,rfl,by decide +kernel,by decide +kernel⟩
def kg(C:Addr):Sp:=fun vs H Q _=>∃ (L:Addr->Prop) (p:Addr) (n:Nat) (ts:Ts) (i j:Nat),vs=[.ref p,.int i,.int j]/\cy C H L p n ts/\i<n/\j<n/\Q (.int (far ts i j:Nat)) H
theorem Ko(F:fY K "far" "Net.far" Ox f fd)(T:NT K mg C)(M:ic P w K mg base a7 4 C "check_house" ["self","thing"] (mC C)):
  bo P w K mg base a7 5 f fd ["self","one","other"] (kg C):=by
 obtain⟨fM,fdM,mM,bM,GM⟩:=M.ex;refine F.ok S7 (fun vs H Q E h=>?_) (fun dN A outer s H vs Q E hr h=>?_)
 .obtain⟨L,p,n,ts,i,j,rfl,_⟩:=h;rfl
 .obtain⟨L,p,n,ts,i,j,rfl,N,hi,hj,k⟩:=h;obtain⟨dx,tl,ol,ds,h1,_,_,_,R,_⟩:=N.ob;refine⟨_,ai (cr (cR (pv 0) T.cl mM GM hr bM .nil aK (aa (pv 1) ag)))
   (ai (cr (cR (pv 0) T.cl mM GM hr bM .nil aK (aa (pv 2) ag)))
   (ap (aR (aL aJ (aL aJ (lF (pv 0) rfl) (pv 1) (fun _ _=>rfl)) (pv 2) (fun _ _=>rfl))))),?_⟩
  refine⟨_,rfl,p,dx,_,rfl,h1,Oy _ _ _ _,_,rfl,L,p,n,ts,i,rfl,N,hi,?_⟩;refine⟨_,rfl,p,dx,_,rfl,h1,Oy _ _ _ _,_,rfl,L,p,n,ts,j,rfl,N,hj,?_⟩;obtain⟨bs,b,r1,r2,r3,_⟩:=R.row hi;have hg:(NV ((List.range n).map (far ts i)))[j]?=some (.int (far ts i j:Nat)):=by
   rw[bX,bX,gX hj];rfl
  exact⟨_,rfl,p,C,dx,_,_,rfl,h1,T.cl,T.nD,CK _ _ _ _,_,rfl,ds,_,_,_,rfl,rfl,aV.of r1,az r2,_,rfl,b,_,_,_,rfl,rfl,aV.of r3,az hg,k⟩
end
open PySem L2 gw
abbrev Bh:Stmt:=top 28
abbrev Oz:Stmt:=top 29
abbrev OA:Stmt:=top 30
section
variable {P:Program} {w:World} {K:PySem.W.Frag} {mg:Str->Option Value} {base:Heap}
abbrev OB:Stmt:=top 7
theorem S8:aG ["many","one","other"] ["many","one","other"] (ak OB):=⟨rfl,rfl,rfl,by decide +kernel,rfl,by decide +kernel,by decide +kernel⟩
def GJ:Sp:=fun vs H Q _=>∃ (n a b:Int),vs=[.int n,.int a,.int b]/\0<=a/\a<n/\0<=b/\b<n/\a≠b/\Q (.bl true) H
theorem OC(F:fY K "are_unlike_houses" "are_unlike_houses" OB f fd)(HH:cs P w K mg base a7 3 "is_house" ["many","thing"] (qe K)):
  bo P w K mg base a7 4 f fd ["many","one","other"] GJ:=by
 refine F.ok S8 (fun vs H Q E h=>?_) (fun dN A outer s H vs Q E hr h=>?_)
 .obtain⟨n,a,b,rfl,_⟩:=h;rfl
 .obtain⟨n,a,b,rfl,a1,a2,b1,b2,og,k⟩:=h;refine⟨_,ap (aR (jX (aF HH hr aK (aa (pv 0) (aa (pv 1) ag))) (jX (aF HH hr aK (aa (pv 0) (aa (pv 2) ag))) (iG (dI BP (pv 1) (pv 2) (aS _)))))),?_⟩;refine⟨_,rfl,_,rfl,_,_,n,rfl,.int a,_,rfl,?_⟩;rw[am (show iM (some a) 0 (n-1)=true by unfold iM;simp;lia)];refine⟨_,rfl,_,rfl,_,_,n,rfl,.int b,_,rfl,?_⟩;rw[am (show iM (some b) 0 (n-1)=true by unfold iM;simp;lia)];refine⟨_,rfl,_,rfl,rfl,?_⟩;have e:(!decide (V.int a=V.int b))=true:=by simp[og]
  rw[e];exact k
theorem S9:aG ["many","thing"] ["many","thing"] (ak Oz):=⟨rfl,rfl,rfl,by decide +kernel,rfl,by decide +kernel,by decide +kernel⟩
def GK:Sp:=fun vs H Q _=>∃ (n:Int) (p:Addr) (a b:Int),vs=[.int n,.ref p]/\H p=some (.tup [.int a,.int b])/\0<=a/\a<n/\0<=b/\b<n/\a≠b/\Q (.bl true) H
theorem OD(F:fY K "is_tie" "is_tie" Oz f fd)(R:cs P w K mg base a7 1 "is_row" ["thing","length"] (GA K))(U:cs P w K mg base a7 4 "are_unlike_houses" ["many","one","other"] GJ):
  bo P w K mg base a7 5 f fd ["many","thing"] GK:=by
 refine F.ok S9 (fun vs H Q E h=>?_) (fun dN A outer s H vs Q E hr h=>?_)
 .obtain⟨n,p,a,b,rfl,_⟩:=h;rfl
 .obtain⟨n,p,a,b,rfl,hp,a1,a2,b1,b2,og,k⟩:=h;refine⟨_,ap (aR (jX (aF R (hr.mono (by decide)) aK (aa (pv 1) (aa aq ag)))
   (iG (aF U hr aK (aa (pv 0) (aa (aL bH (pv 1) aq (fun _ _=>rfl)) (aa (aL bH (pv 1) aq (fun _ _=>rfl)) ag))))))),?_⟩
  refine⟨_,rfl,_,_,_,rfl,.tup hp,true,rfl,?_⟩;exact⟨_,rfl,_,rfl,p,_,_,_,rfl,rfl,bW.of hp,az (j:=0) rfl,_,rfl,p,_,_,_,rfl,rfl,bW.of hp,az (j:=1) rfl,n,a,b,rfl,a1,a2,b1,b2,og,k⟩
theorem CL:aG ["many","ties","tie"] ["many","ties"] (ak Bh):=⟨rfl,rfl,rfl,by decide +kernel,rfl,by decide +kernel,by decide +kernel⟩
theorem GN:PySem.W.kitOne K (.type "list") (.type "list")=some true:=by kernel_rfl
structure gG(H:Hp)(l:Addr)(n:Nat)(zs:Zs):Prop where
 iK:bD n (zp zs)
 at_:H l=some (.lst (zr zs))
 po:PO H zs
theorem gG.same(h:gG H l n zs)(s:aA H H'):gG H' l n zs:=⟨h.iK,s _ _ h.at_,h.po.same s⟩
def kL:Sp:=fun vs H Q _=>∃ (n:Nat) (l:Addr) (zs:Zs),vs=[.int n,.ref l]/\gG H l n zs/\∀H',aA H H'->Q .bV H'
theorem GQ(F:fY K "check_ties" "check_ties" Bh f fd)(B:Bl mg)(gF:∃t,mg "FEWEST_HOUSES"=some (.int 2 t))(gM:∃t,mg "MOST_HOUSES"=some (.int 32 t))(W:cs P w K mg base a7 2 "is_whole_within" ["thing","least","most"] (kd K))(T:cs P w K mg base a7 5 "is_tie" ["many","thing"] GK):
  bo P w K mg base a7 6 f fd ["many","ties"] kL:=by
 obtain⟨tF,gF⟩:=gF;obtain⟨tM,gM⟩:=gM;refine F.ok CL (fun vs H Q E h=>?_) (fun dN A outer s H vs Q E hr h=>?_)
 .obtain⟨n,l,zs,rfl,_⟩:=h;rfl
 .refine⟨_,ai (de (nW (gE (aF W (hr.mono (by decide)) aK (aa (pv 0) (aa (pV (v:=.int 2) rfl gF ⟨_,rfl⟩) (aa (pV (v:=.int 32) rfl gM ⟨_,rfl⟩) ag)))))) fc bE)
   (ai (de (nW (gE (aD mj (by rfl) B.S0 qr (aa (pv 1) (aa (pW (v:=.ty "list") rfl B.lst uQ rfl) ag))))) fc bE)
   (ai (dH eI rfl (bA (pv 1)) (au (i:=2) CL.nd rfl (Or.inl rfl)) (ap (de (nW (gE (aF T hr aK (aa (pv 0) (aa (pv 2) ag))))) fc bE)))
   (ap (de (aQ BP (aD xU (by rfl) B.len dU (aa (cB (DQ rfl (by have:=hr.un;show (A.deeper _).units+8<_;lia)) (by rfl) B.set PyProof.Rows.boot_set (aa (pv 1) ag)) ag)) (aD aO (by rfl) B.len dU (aa (pv 1) ag)) (aS _)) fc bE)))),?_⟩
  obtain⟨n,l,zs,rfl,tt,k⟩:=h;obtain⟨fi,hl,po⟩:=id tt;have n1:=fi.n1;have n2:=fi.n2;refine⟨_,rfl,_,_,2,32,rfl,.int n,_,rfl,?_⟩;rw[show iM (some (n:Int)) 2 32=true by unfold iM;simp;lia];refine lI ?_;refine⟨_,rfl,_,_,_,.type "list",true,rfl,⟨rfl,GN⟩,.of (.lst hl),_,rfl,lI ?_⟩;refine⟨_,rfl,l,rfl,⟨_,aV.of hl⟩,g7 (K:=K) (a:=l) (xs:=zr zs) (fun i σ H2=>H2=H/\∃v,σ=[some (.int n),some (.ref l),v]) ⟨rfl,none,rfl⟩ (fun i σ H2 _ ⟨e,_⟩=>by rw[e];exact aV.of hl) ?_ ?_⟩
  .rintro i x σ H2 hx ⟨rfl,v,rfl⟩;obtain⟨z,hz,rfl⟩:=lT hx;have ux:z∈zs:=cI hz;have hzp:z.2∈zp zs:=aX.mpr ⟨z,ux,rfl⟩;have r:=fi.rg _ hzp;exact⟨_,rfl,_,rfl,n,_,_,_,rfl,po z ux,r.1.1,r.1.2,r.2.1,r.2.2,fi.ne _ hzp,_,rfl,lI ⟨rfl,_,rfl⟩⟩
  .rintro σ H2 ⟨rfl,v,rfl⟩;have d9:(zp zs).length<=256:=fi.len;refine⟨_,rfl,l,zs.map (·.1),zp zs,rfl,aV.of (by rw[<-kK];exact hl),by rw[aI,bR],fun i hi=>?_,fi.nd,fun y hy=>?_,by lia,fun D hD=>?_⟩
   .rw[bR] at hi;rw[yz hi,CG hi];exact bW.of (po _ (fV hi))
   .have r:=fi.rg _ hy;lia
   .have nl:l≠D:=aj hl hD;refine⟨D,_,rfl,af,by lia,_,rfl,l,zr zs,rfl,.inl (aV.of (by rw[ao nl];exact hl)),rfl,_,rfl,?_⟩;have ez:(!decide (V.int (((zp zs).length:Nat):Int)=V.int (((zr zs).length:Nat):Int)))=false:=by rw[bR,cY];simp
    rw[ez];exact lI (k _ (ah hD))
end
abbrev yA:Stmt:=top 31
section
variable {P:Program} {w:World} {K:PySem.W.Frag} {mg:Str->Option Value} {base:Heap}
theorem oM(S:St->Prop)(p q:Int×Int->Int)(h:Int)(hD:H D=none)(hl:H l=some (.lst (zr zs)))(po:PO H zs)(hn:zs.length<=1000)(s0:S σB)(hg:∀z σ H2 (Kt:V->St->Hp->Prop) (Kf:St->Hp->Prop),z∈zs->S σ->H2 z.1=some (tj z.2)->(∀σ2,S σ2->p z.2=h->Kt (.int (q z.2)) σ2 H2)->(∀σ2,S σ2->p z.2≠h->Kf σ2 H2)->
   g (.ref z.1) σ H2 fun σ2 H2=>tt σ2 H2 fun b H3=>if b=true then te σ2 H3 fun v H4=>Kt v σ2 H4 else Kf σ2 H3)(hd:dE (upd H D (.lst (IV (((zp zs).filter fun y=>decide (p y=h)).map q))))):gu (Dr K l) g tt te D dE σB (upd H D (.lst [])):=by
 have nl:l≠D:=aj hl hD;have tk:∀ {i:Nat} {z:Addr×(Int×Int)},zs[i]?=some z->(zp zs).take (i+1)=(zp zs).take i++[z.2]:=fun {i z} hz=>by
  rw[eZ,show (zp zs)[i]?=some z.2 by unfold zp;rw[bX,hz];rfl];rfl
 refine cP (xs:=zr zs) (fun i ys σ H2=>S σ/\ys=IV ((((zp zs).take i).filter fun y=>decide (p y=h)).map q)/\H2=upd H D (.lst ys)) ⟨s0,by simp,rfl⟩ (fun i ys σ H2 _ ⟨_,_,e⟩=>by rw[e];exact aV.of (by rw[ao nl];exact hl)) ?_ ?_
 .rintro i x ys σ H2 Kt Kf hx ⟨hS,ey,rfl⟩ kt kf;obtain⟨z,hz,rfl⟩:=lT hx;have ux:z∈zs:=cI hz;have hp:=po z ux;have na:z.1≠D:=aj hp hD;have hi:i<zs.length:=(dO.mp hz).1;refine hg z σ _ Kt Kf ux hS (by rw[ao na];exact hp) (fun σ2 s2 e=>?_) (fun σ2 s2 e=>?_)
  .refine kt _ _ _ af ?_ ⟨s2,?_,?_⟩
   .rw[ey,aI,aI];exact eY (fh _ _) (eY (zA _ _) (b_ (show i<1000 by lia) (by decide)))
   .rw[ey,tk hz,eN,bT];have:decide (p z.2=h)=true:=by simp[e]
    simp[dS,this]
   .rw[kB]
  .refine kf _ _ ⟨s2,?_,rfl⟩;have:decide (p z.2=h)=false:=by simp[e]
   rw[ey,tk hz,eN];simp[dS,this]
 .rintro ys σ H2 ⟨_,ey,rfl⟩;rw[cY,<-bR,gh] at ey;rw[ey];exact hd
theorem QK:(["one","other","house"]:List Str).Nodup:=by decide +kernel
theorem CM:aG ["many","ties","house","leading_out","leading_in"] ["many","ties"] (ak OA):=⟨rfl,rfl,rfl,by decide +kernel,rfl,by decide +kernel,by decide +kernel⟩
theorem OE(F:fY K "check_balance" "check_balance" OA f fd)(B:Bl mg)(gM:∃t,mg "MOST_TIES_OUT"=some (.int 8 t)):
  bo P w K mg base a7 1 f fd ["many","ties"] kL:=by
 obtain⟨tM,gM⟩:=gM;refine F.ok CM (fun vs H Q E h=>?_) (fun dN A outer s H vs Q E hr h=>?_)
 .obtain⟨n,l,zs,rfl,_⟩:=h;rfl
 .obtain⟨n,l,zs,rfl,T,k⟩:=h;have fi:=T.iK;have n1:=fi.n1;have n2:=fi.n2;have d9:zs.length<=256:=by have:=fi.len;rw[bR] at this;exact this
  refine'⟨_,ap (dH eI rfl (bq rfl B.range (aa (pv 0) ag)) (au (i:=2) CM.nd rfl (Or.inr rfl))
   (ai (aE (i:=3) CM.nd rfl (Or.inl rfl) (aD aO (by rfl) B.len dU (aa ?c1 ag)))
   (ai (aE (i:=4) CM.nd rfl (Or.inl rfl) (aD aO (by rfl) B.len dU (aa ?c2 ag)))
   (ai (de (aQ BP (pv 3) (pv 4) (aS _)) fc bE)
   (ap (de (aQ BQ (pv 3) (pV (v:=.int 8) rfl gM ⟨_,rfl⟩) (aS _)) fc bE)))))),?_⟩
  case c1=>
   refine' bz (g:=q9 K 2 (eO (be 0) (eO (be 1) q8))) (NB:=["one","other","house"]) (src:=[none,none,some 2]) (a_ (by kernel_rfl)) rfl (bA (pv 1)) ?g ?t ?e;case g=>exact fun cl C s₃ H₃ fp=>fv (n:=2) rfl (bb (au (i:=0) QK rfl (Or.inl rfl) (Or.inr rfl)) (bb (au (i:=1) QK rfl (Or.inl rfl) (Or.inr rfl)) dG))
   case t=>exact fun cl C s₃ H₃ fp=>d8 (aQ gn (pv 0) (pv 2) (aS _))
   case e=>exact fun cl C s₃ H₃ fp=>pv 0
  case c2=>
   refine' bz (g:=q9 K 2 (eO (be 0) (eO (be 1) q8))) (NB:=["one","other","house"]) (src:=[none,none,some 2]) (a_ (by kernel_rfl)) rfl (bA (pv 1)) ?g ?t ?e;case g=>exact fun cl C s₃ H₃ fp=>fv (n:=2) rfl (bb (au (i:=0) QK rfl (Or.inl rfl) (Or.inr rfl)) (bb (au (i:=1) QK rfl (Or.inl rfl) (Or.inr rfl)) dG))
   case t=>exact fun cl C s₃ H₃ fp=>d8 (aQ gn (pv 1) (pv 2) (aS _))
   case e=>exact fun cl C s₃ H₃ fp=>pv 1
  refine⟨_,rfl,n,rfl,by lia,by lia,dX (n:=n) (lo:=0) (fun i σ H2=>aA H H2/\∃a b c,σ=[some (.int n),some (.ref l),a,b,c]) ⟨aA.refl _,none,none,none,rfl⟩ ?_ ?_⟩
  .rintro i σ H2 hi ⟨sm,a,b,c,rfl⟩;have T2:=T.same sm;refine⟨_,rfl,l,rfl,⟨_,aV.of T2.at_⟩,fun D hD=>oM (fun σ=>∃a b,σ=[a,b,some (.int (0+(i:Int)))]) (·.1) (·.1) (0+(i:Int)) hD T2.at_ T2.po (by lia) ⟨_,_,rfl⟩ ?_ ?_⟩
   .rintro z σ H3 Kt Kf hj ⟨x,y,rfl⟩ ha kt kf;refine⟨z.1,_,rfl,bW.of ha,rfl,_,_,rfl,_,_,rfl,rfl,?_⟩;refine⟨_,rfl,_,rfl,rfl,_,rfl,?_⟩;refine eA (fun e=>?_) (fun e=>?_)
    .exact⟨_,rfl,kt _ ⟨_,_,rfl⟩ (by simpa using e)⟩
    .exact kf _ ⟨_,_,rfl⟩ (by simpa using e)
   .refine⟨D,_,rfl,.inl (aV.of af),?_⟩;have CA:=bf (o:=.lst (IV (((zp zs).filter fun y=>decide (y.1=0+(i:Int))).map (·.1)))) (sm.trans (aA.refl _)) (H:=H) (by cases z:H D with|none=>rfl|some o=>rw[sm _ _ z] at hD;cases hD);have T3:=T.same CA;refine⟨_,rfl,l,rfl,⟨_,aV.of T3.at_⟩,fun D' hD'=>oM (fun σ=>∃a b,σ=[a,b,some (.int (0+(i:Int)))]) (·.2) (·.2) (0+(i:Int)) hD' T3.at_ T3.po (by lia) ⟨_,_,rfl⟩ ?_ ?_⟩
    .rintro z σ H3 Kt Kf hj ⟨x,y,rfl⟩ ha kt kf;refine⟨z.1,_,rfl,bW.of ha,rfl,_,_,rfl,_,_,rfl,rfl,?_⟩;refine⟨_,rfl,_,rfl,rfl,_,rfl,?_⟩;refine eA (fun e=>?_) (fun e=>?_)
     .exact⟨_,rfl,kt _ ⟨_,_,rfl⟩ (by simpa using e)⟩
     .exact kf _ ⟨_,_,rfl⟩ (by simpa using e)
    .refine⟨D',_,rfl,.inl (aV.of af),?_⟩;rw[fm] at *;have q1:(IV (((zp zs).filter fun y=>decide (y.1=(i:Int))).map (·.1))).length=(IV (((zp zs).filter fun y=>decide (y.2=(i:Int))).map (·.2))).length:=by
      rw[aI,aI,aI,aI];exact fi.ym i
     have q2:(IV (((zp zs).filter fun y=>decide (y.1=(i:Int))).map (·.1))).length<=8:=by
      rw[aI,aI];exact fi.most i
     refine⟨_,rfl,_,rfl,rfl,_,rfl,?_⟩;rw[<-q1];rw[show (!decide (V.int (((IV (((zp zs).filter fun y=>decide (y.1=(i:Int))).map (·.1))).length:Nat):Int)=V.int (((IV (((zp zs).filter fun y=>decide (y.1=(i:Int))).map (·.1))).length:Nat):Int)))=false by simp];refine lI ?_;refine⟨_,rfl,_,_,rfl,rfl,_,rfl,?_⟩;rw[show decide ((((IV (((zp zs).filter fun y=>decide (y.1=(i:Int))).map (·.1))).length:Nat):Int) > 8)=false by rw[zg];lia];exact lI ⟨CA.trans (ah hD'),_,_,_,rfl⟩
  .rintro σ H2 ⟨sm,a,b,c,rfl⟩;exact k H2 sm
end
def Kp:Expr:=match (cn yA).getD 1 (.Pass ⟨0,0,0,0⟩) with
 |.Return (some (.Call _ _ (k::_) _)) _=>k.value
 |_=>.Name "x" ⟨0,0,0,0⟩
def Kq:Arguments:=match Kp with
 |.Lambda a _ _ _=>a
 |_=>{ posonlyargs:=[],args:=[],vararg:=none,kwonlyargs:=[],kw_defaults:=[],kwarg:=none,defaults:=[] }
def Kr:Expr:=match Kp with
 |.Lambda _ b _ _=>b
 |e=>e
def S_:Scope:=match Kp with
 |.Lambda _ _ s _=>s
 |_=>{ kind:=.function,names:=[],isGenerator:=false,isCoroutine:=false }
def OF:Pos:=match Kp with
 |.Lambda _ _ _ p=>p
 |_=>⟨0,0,0,0⟩
def M3:Str:=("houses_out":Str)++".<locals>."++"<lambda>"
abbrev mD(Pt:Addr)(H:Hp):Prop:=cC OF M3 Pt H
def mE(Pt:Addr)(H H':Hp):Prop:=∀b o,H b=some o->b≠Pt->H' b=some o
theorem mE.of(a:aA H H'):mE Pt H H':=fun c o h _=>a c o h
theorem mD.not(t:mD Pt H)(h:H b=some o)(n:∀ps,o≠.gQ ps):b≠Pt:=by
 rintro rfl;rcases t with z|⟨c,z,_⟩ <;> · rw[h] at z;exact n _ (bh z)
theorem mD.same(t:mD Pt H)(e:aA H H'):mD Pt H':=by
 rcases t with z|⟨c,z,y⟩
 .exact .inl (e _ _ z)
 .exact .inr ⟨c,e _ _ z,e _ _ y⟩
theorem Ks{n a b h:Int}(hn:0<n)(a0:0<=a)(a1:a<n)(b0:0<=b)(b1:b<n)(e:(a-h) % n=(b-h) % n):a=b:=by
 have h1:=Int.emod_emod_of_dvd (a-h) (Int.dvd_refl n);have q:(a-b) % n=0:=by
  have:a-b=(a-h)-(b-h):=by lia
  rw[this,Int.sub_emod,e,Int.sub_self,Int.zero_emod]
 obtain⟨c,hc⟩:=Int.dvd_of_emod_eq_zero q;have c0:c=0:=by
  rcases Int.lt_trichotomy c 0 with z|z|z
  .have:n*c<=n*(-1):=tJ (by lia) (by lia);lia
  .exact z
  .have:n*1<=n*c:=tJ (by lia) (by lia);lia
 rw[c0] at hc;lia
theorem tu{ts:Ts}{h:Int}(nd:ts.Nodup):((ts.filter fun y=>decide (y.1=h)).map (·.2)).Nodup:=by
 refine L2.om (nd.filter _) fun x hx y hy e=>?_;have a:=(cq.mp hx).2;have b:=(cq.mp hy).2;simp at a b;exact dY (a.trans b.symm) e
theorem El{n:Nat}{ts:Ts}{h:Nat}(F:bD n ts)(hh:h<n){out:List Int}(ko:N4 (h:Int) (n:Int) ((ts.filter fun y=>decide (y.1=(h:Int))).map (·.2)) out):out.map V.int=NV (cQ n ts h):=by
 obtain⟨ps,hp,rfl,hs⟩:=ko;have DS:(ps.map (·.2)).Perm ((ts.filter fun y=>decide (y.1=(h:Int))).map (·.2)):=by
  have:=hp.map (·.2);rw[dD] at this;refine this.trans (vh ?_);conv=>rhs;rw[<-lA ((ts.filter fun y=>decide (y.1=(h:Int))).map (·.2))]
  rfl
 have mem:∀z,z∈ps.map (·.2)↔((h:Int),z)∈ts:=fun z=>by
  rw[DS.mem_iff,aX];constructor
  .rintro⟨y,hy,rfl⟩;obtain⟨y1,y2⟩:=cq.mp hy;have:y.1=(h:Int):=by simpa using y2
   rw[<-this];exact y1
  .intro hz;exact⟨_,cq.mpr ⟨hz,by simp⟩,rfl⟩
 have nd:(ps.map (·.2)).Nodup:=DS.nodup_iff.mpr (tu F.nd);have key:∀q∈ps,q.1=(q.2-(h:Int)) % (n:Int):=fun q hq=>by
  obtain⟨z,_,e⟩:=aX.mp (hp.mem_iff.mp hq);rw[<-e]
 have hn:(0:Int)<n:=by have:=F.n1;lia
 have sorted:(ps.map (·.2)).Pairwise fun x y=>(x-(h:Int)) % (n:Int)<(y-(h:Int)) % (n:Int):=by
  refine im.mpr ?_;have Oj:=im.mp nd;refine(hs.and Oj).imp_of_mem fun {x y} hx hy Co=>?_;have l1:=Co.1;rw[key x hx,key y hy] at l1;have ax:=F.rg _ ((mem x.2).mp (aX.mpr ⟨x,hx,rfl⟩));have ay:=F.rg _ ((mem y.2).mp (aX.mpr ⟨y,hy,rfl⟩));have ne:(x.2-(h:Int)) % (n:Int)≠(y.2-(h:Int)) % (n:Int):=fun z=>Co.2 (Ks hn ax.2.1 ax.2.2 ay.2.1 ay.2.2 z);lia
 have e:ps.map (·.2)=(cQ n ts h).map fun (o:Nat)=>(o:Int):=by
  refine pi (k:=fun z=>(z-(h:Int)) % (n:Int)) sorted ?_ fun z=>?_
  .refine im.mpr ?_;exact ph hh
  .rw[mem,aX];constructor
   .intro hz;have r:=F.rg _ hz;refine⟨z.toNat,(dW F hh).mpr ?_,by lia⟩;show (((h:Nat):Int),((z.toNat:Nat):Int))∈ts;rw[show ((z.toNat:Nat):Int)=z by lia];exact hz
   .rintro⟨o,ho,rfl⟩;exact(dW F hh).mp ho
 rw[e,dD];rfl
section
variable {P:Program} {w:World} {K:PySem.W.Frag} {mg:Str->Option Value} {base:Heap}
theorem GR:aG ["many","ties","house","others"] ["many","ties","house"] (ak yA):=⟨rfl,rfl,rfl,by decide +kernel,rfl,by decide +kernel,by decide +kernel⟩
def wu(Pt:Addr):Sp:=fun vs H Q _=>∃ (n:Nat) (l:Addr) (h:Nat) (zs:Zs),vs=[.int n,.ref l,.int h]/\h<n/\gG H l n zs/\mD Pt H/\
 ∀ (r:Addr) (H':Hp),mD Pt H'->mE Pt H H'->H r=none->H' r=some (.lst (NV (cQ n (zp zs) h)))->Q (.ref r) H'
theorem Ku(F:pJ K "houses_out" "houses_out" yA f fd c)(B:Bl mg)(kb:K.In base)(hb:oq mg base)(hc:PySem.W.codeHdIn K c Pt=true):
  bo P w K mg base a7 1 f fd ["many","ties","house"] (wu Pt):=by
 refine F.ok GR (fun vs H Q E h=>?_) (fun A outer s H vs Q E hr h=>?_)
 .obtain⟨n,l,h,zs,rfl,_⟩:=h;rfl
 .obtain⟨n,l,h,zs,rfl,hh,T,tb,k⟩:=h;have fi:=T.iK;have n1:=fi.n1;have d9:zs.length<=256:=by have:=fi.len;rw[bR] at this;exact this
  have LS:Sf (lH a7 P w K mg base ["many","ties","house","others"] "houses_out" (ak yA) f (.ref c) A outer s H E).BJ M3 Kq Kr S_ "other" "house" "many" 2 0:=
   ⟨⟨_,_,_,_,_,rfl⟩,fun _ _ _ _ _=>rfl,rfl,rfl,rfl,rfl,rfl,rfl,rfl,by decide +kernel,by decide +kernel,by decide +kernel,rfl,rfl,rfl,by decide,⟨by decide,by decide⟩,⟨by decide,by decide⟩⟩
  refine'⟨_,ai (dL (i:=3) (g:=q9 K 2 (eO (be 0) (eO (be 1) q8))) (NB:=["one","other","house"]) (src:=[none,none,some 2]) (a_ (by kernel_rfl)) rfl (bA (pv 1)) ?g ?t ?e GR.nd rfl rfl rfl)
   (ap (aR (kJ (AN LS hr) rfl B.sorted o5 (aa (pv 3) ag) (pZ (rA (NB:=["other","house","many"]) (src:=[none,some 2,some 0]) (mq kb hb hc) (a_ (by kernel_rfl))) vF)))),?_⟩
  case g=>exact fun cl C s₃ H₃ fp=>fv (n:=2) rfl (bb (au (i:=0) QK rfl (Or.inl rfl) (Or.inr rfl)) (bb (au (i:=1) QK rfl (Or.inl rfl) (Or.inr rfl)) dG))
  case t=>exact fun cl C s₃ H₃ fp=>d8 (aQ gn (pv 0) (pv 2) (aS _))
  case e=>exact fun cl C s₃ H₃ fp=>pv 1
  refine⟨_,rfl,l,rfl,⟨_,aV.of T.at_⟩,fun D hD=>oM (fun σ=>∃a b,σ=[a,b,some (.int (h:Int))]) (·.1) (·.2) (h:Int) hD T.at_ T.po (by lia) ⟨_,_,rfl⟩ ?_ ?_⟩
  .rintro z σ H3 Kt Kf hj ⟨x,y,rfl⟩ ha kt kf;refine⟨z.1,_,rfl,bW.of ha,rfl,_,_,rfl,_,_,rfl,rfl,?_⟩;refine⟨_,rfl,_,rfl,rfl,_,rfl,?_⟩;refine eA (fun e=>?_) (fun e=>?_)
   .exact⟨_,rfl,kt _ ⟨_,_,rfl⟩ (by simpa using e)⟩
   .exact kf _ ⟨_,_,rfl⟩ (by simpa using e)
  .generalize hos:((zp zs).filter fun y=>decide (y.1=(h:Int))).map (·.2)=os;have MN:os.length<=8:=by rw[<-hos,aI];exact fi.most h
   have sm:aA H (upd H D (.lst (IV os))):=ah hD;refine⟨_,rfl,tb.same sm,fun f' c' H2 Yn hW Af vR=>?_⟩;have t2:mD Pt H2:=Yn;have hX:H2 D=some (.lst (IV os)):=hW _ _ af ((tb.same sm).not af (by intro ps z;cases z));refine⟨D,f',c',os,h,n,rfl,rfl,aV.of hX,(by lia),vR,Af,rfl,rfl,by lia,fun r out fQ ko=>?_⟩;rw[<-hos] at ko;rw[El fi hh ko];have CA:aA H2 (upd H2 r (.lst (NV (cQ n (zp zs) h)))):=ah fQ;refine k r _ (t2.same CA) (fun b o e hb=>CA _ _ (hW b o (sm _ _ e) hb)) ?_ af;cases z:H r with
   |none=>rfl
   |some o=>
    by_cases hP:r=Pt
    .rcases t2 with q|⟨_,q,_⟩ <;> · rw[<-hP,fQ] at q;cases q
    .rw[hW r o (sm _ _ z) hP] at fQ;cases fQ
end
abbrev GS:Stmt:=top 32
abbrev Bi:Stmt:=top 33
def kY(n:Nat)(R:List Nat)(f:Nat->Nat):List V:=(List.range n).map fun x=>if x∈R then V.int ((f x:Nat):Int) else .bV
theorem kh:(kY n R f).length=n:=by unfold kY;rw[aI,dq]
theorem kj(h:x<n):(kY n R f)[x]?=some (if x∈R then V.int ((f x:Nat):Int) else .bV):=by
 unfold kY;rw[bX,gX h];rfl
theorem Bj(hs:s<n):(List.replicate n V.bV).set s (V.int 0)=kY n [s] (fun _=>0):=by
 apply ni;intro x;by_cases hx:x<n
 .rw[kj hx];by_cases e:x=s
  .subst e;rw[mY (by rw[k7];exact hx),am (by simp)];rfl
  .rw[m6 (fun z=>e z.symm),uP,am hx,if_neg (by simp[e])]
 .rw[eM (by rw[jJ,k7];lia),eM (by rw[kh];lia)]
theorem GT(hv:v<n):(kY n R f).set v (V.int ((k:Nat):Int))=kY n (R++[v]) (put f v k):=by
 apply ni;intro x;by_cases hx:x<n
 .rw[kj hx];by_cases e:x=v
  .subst e;rw[mY (by rw[kh];exact hx),am (by simp),g9]
  .rw[m6 (fun z=>e z.symm),kj hx,eV e];by_cases h:x∈R
   .rw[am h,am (fj _ h)]
   .rw[if_neg h,if_neg (fun z=>(bY.mp z).elim h fun z=>e (by simpa using z))]
 .rw[eM (by rw[jJ,kh];lia),eM (by rw[kh];lia)]
def Ta(σ:St):Nat:=match σ[4]? with
 |some (some (V.int z))=>z.toNat
 |_=>0
theorem nbO:(["others"]:List Str).Nodup:=by decide +kernel
def rX(H:Hp)(ol:Addr)(n:Nat)(ts:Ts):Prop:=∃bs:List Addr,H ol=some (.lst (bs.map V.ref))/\Holds H bs n (fun h=>.lst (NV (cQ n ts h)))
theorem rX.same(x:rX H ol n ts)(e:aA H H'):rX H' ol n ts:=let ⟨bs,a,b⟩:=x;⟨bs,e _ _ a,b.mono fun _ _ z=>e _ _ z⟩
theorem M4{as:List Addr}{i:Nat}{x:V}(h:(as.map V.ref)[i]?=some x):i<as.length/\x=.ref (as.getD i 0):=by
 rw[bX] at h;cases e:as[i]? with
 |none=>rw[e] at h;cases h
 |some a=>
  rw[e] at h;refine⟨(dO.mp e).1,?_⟩;rw[bv,e];exact(bh h).symm
section
variable {P:Program} {w:World} {K:PySem.W.Frag} {mg:Str->Option Value} {base:Heap}
theorem lU:aG ["out_lists","start","distances","reached","at","house","other"] ["out_lists","start"] (ak GS):=⟨rfl,rfl,rfl,by decide +kernel,rfl,by decide +kernel,by decide +kernel⟩
def wv:Sp:=fun vs H Q _=>∃ (ol:Addr) (n s:Nat) (ts:Ts),vs=[.ref ol,.int s]/\bD n ts/\s<n/\rX H ol n ts/\
 ∀ (r:Addr) (H':Hp),aA H H'->H r=none->H' r=some (.lst (NV ((List.range n).map (far ts s))))->Q (.ref r) H'
theorem Kv{f:Addr}{fd:FuncData}(F:fY K "distances_from" "distances_from" GS f fd)(B:Bl mg):bo P w K mg base a7 1 f fd ["out_lists","start"] wv:=by
 refine F.ok lU (fun vs H Q E h=>?_) (fun dN A outer s H vs Q E hr h=>?_)
 .obtain⟨ol,n,s,ts,rfl,_⟩:=h;rfl
 .obtain⟨ol,n,st,ts,rfl,fi,hs,O,k⟩:=h;have n1:=fi.n1;have n2:=fi.n2;refine'⟨_,ai (dL (i:=2) (g:=be 0) (NB:=["others"]) (src:=[none]) (a_ (by kernel_rfl)) rfl (bA (pv 0)) ?g ?t ?e lU.nd rfl rfl rfl)
   (ai (gb aq (jb (pv 2) (pv 1) fz))
   (ai (aE (i:=3) lU.nd rfl (Or.inl rfl) (cf (aa (pv 1) ag)))
   (ai (aE (i:=4) lU.nd rfl (Or.inl rfl) aq)
   (ai (q_ eI (aQ jZ (pv 4) (aD aO (by rfl) B.len dU (aa (pv 3) ag)) (aS _))
    (ai (aE (i:=5) lU.nd rfl (Or.inl rfl) (aL aJ (pv 3) (pv 4) (fun _ _=>rfl)))
    (ai (dH eI rfl (bA (aL aJ (pv 0) (pv 5) (fun _ _=>rfl))) (au (i:=6) lU.nd rfl (Or.inl rfl))
     (ap (de (aQ nX (aL aJ (pv 2) (pv 6) (fun _ _=>rfl)) dF (aS _))
      (ai (gb (aP cx (aL aJ (pv 2) (pv 5) (fun _ _=>rfl)) aq) (jb (pv 2) (pv 6) fz))
      (ap (cr (gK gH jv ju cM (pv 3) (aa (pv 6) ag))))) bE)))
    (ap (NC (i:=4) lU.nd rfl (Or.inl rfl) aq ND)))))
   (ap (aR (pv 2))))))),?_⟩
  case g=>exact fun cl C s₃ H₃ fp=>au (i:=0) nbO rfl (Or.inl rfl) (Or.inr rfl)
  case t=>exact fun cl C s₃ H₃ fp=>b8
  case e=>exact fun cl C s₃ H₃ fp=>dF
  obtain⟨bs,MN,Yo,QC⟩:=id O;refine⟨_,rfl,ol,rfl,⟨_,aV.of MN⟩,fun D hD=>?_⟩;have nol:ol≠D:=aj MN hD;refine cP (xs:=bs.map V.ref) (fun i ys σ H2=>(∃a,σ=[a])/\ys=List.replicate i V.bV/\H2=upd H D (.lst ys)) ⟨⟨_,rfl⟩,rfl,rfl⟩ (fun i ys σ H2 _ ⟨_,_,e⟩=>by rw[e];exact aV.of (by rw[ao nol];exact MN)) ?_ ?_
  .rintro i x ys σ H2 Kt Kf hx ⟨⟨a,rfl⟩,rfl,rfl⟩ kt kf;have hi:=(M4 hx).1;refine kt _ _ _ af ?_ ⟨⟨_,rfl⟩,?_,by rw[kB]⟩
   .rw[k7];exact b_ hi (by rw[Yo];exact a9 n2 (by decide))
   .rw[u3]
  .rintro ys σ H2 ⟨_,rfl,rfl⟩;rw[aI,Yo];refine⟨_,rfl,_,rfl,D,_,st,st,rfl,rfl,af,by rw[k7];exact gT hs,?_⟩;rw[kB,Bj hs];refine⟨_,rfl,by show 1<=sizeLine;decide,fun R hR=>?_⟩;have Kw:D≠R:=aj (H:=upd H D (.lst (kY n [st] (fun _=>0)))) af hR;have QL:H R=none:=by rw[ao Kw.symm] at hR;exact hR
   refine Fa (fun σ H2=>∃ (i:Nat) (Rs:List Nat) (f:Nat->Nat),i<=Rs.length/\yY n ts st i Rs f/\(∃a b,σ=[some (.ref ol),some (.int st),some (.ref D),some (.ref R),some (.int (i:Int)),a,b])/\aA H H2/\H2 D=some (.lst (kY n Rs f))/\H2 R=some (.lst (NV Rs)))
    (fun σ _=>n-Ta σ) ⟨0,[st],fun _=>0,cu _,yY.start hs,⟨none,none,rfl⟩,bf (ah hD) QL,?_,af⟩ ?_ ?_
   .rw[ao Kw,af]
   .rintro σ H2 ⟨i,Rs,f,hi,Bf,⟨a,b,rfl⟩,sm,hX,M5⟩;have hRn:Rs.length<=n:=dM Bf.nd Bf.lt;refine⟨_,rfl,_,rfl,R,_,rfl,.inl (aV.of M5),_,_,rfl,rfl,_,rfl,?_⟩;rw[bS];by_cases vW:i<Rs.length
    .rw[show decide ((i:Int)<((Rs.length:Nat):Int))=true by simp;lia];refine vL ?_;have hu:Rs[i]?=some Rs[i]:=cH vW;generalize Rs[i]=u at hu;have Kx:u<n:=Bf.lt u (cI hu);have huR:(NV Rs)[i]?=some (.int (u:Int)):=by rw[bX,hu];rfl
     refine⟨_,rfl,_,rfl,R,_,_,_,rfl,rfl,aV.of M5,az huR,?_⟩;have hb1:(bs.map V.ref)[u]?=some (.ref (bs.getD u 0)):=by
      rw[bX,bv,cH (by rw[Yo];exact Kx)];rfl
     have hb2:=sm _ _ (QC _ Kx);refine⟨_,rfl,_,rfl,ol,_,_,_,rfl,rfl,aV.of (sm _ _ MN),az hb1,_,rfl,⟨_,aV.of hb2⟩,?_⟩;have nbD:bs.getD u 0≠D:=aj (QC _ Kx) hD;have nbR:bs.getD u 0≠R:=aj (QC _ Kx) QL;refine g7 (K:=K) (xs:=NV (cQ n ts u)) (fun j σ H3=>∃ (gN:List Nat) (f':Nat->Nat),yY n ts st i gN f'/\gN[i]?=some u/\(∀v∈(cQ n ts u).take j,v∈gN/\f' v<=f' u+1)/\
      (∃b,σ=[some (.ref ol),some (.int st),some (.ref D),some (.ref R),some (.int (i:Int)),some (.int (u:Int)),b])/\aA H H3/\H3 D=some (.lst (kY n gN f'))/\H3 R=some (.lst (NV gN)))
      ⟨Rs,f,Bf,hu,fun v hv=>by simp at hv,⟨_,rfl⟩,sm,hX,M5⟩ (fun j σ H3 _ ⟨_,_,_,_,_,_,mU,_⟩=>aV.of (mU _ _ (QC _ Kx))) ?_ ?_
     .rintro j x σ H3 hx ⟨gN,f',uy,sX,dn,⟨b',rfl⟩,mU,h9,IF⟩;rw[bX] at hx;cases hv:(cQ n ts u)[j]? with
      |none=>rw[hv] at hx;cases hx
      |some v=>
       rw[hv] at hx;obtain rfl:V.int ((v:Nat):Int)=x:=bh hx;have We:v∈cQ n ts u:=cI hv;have M6:v<n:=wa fi Kx We;have Yp:T ts u v:=(dW fi Kx).mp We;have tk:(cQ n ts u).take (j+1)=(cQ n ts u).take j++[v]:=by rw[eZ,hv];rfl
       have GU:u∈gN:=cI sX;refine⟨_,rfl,_,rfl,D,_,_,_,rfl,rfl,aV.of h9,az (kj M6),rfl,_,rfl,?_⟩;by_cases yZ:v∈gN
       .rw[am yZ];refine lI ⟨gN,f',uy,sX,fun x hx=>?_,⟨_,rfl⟩,mU,h9,IF⟩;rw[tk] at hx;rcases bY.mp hx with z|z
        .exact dn x z
        .simp at z;subst z;exact⟨yZ,uy.bd u sX _ yZ⟩
       .rw[if_neg yZ];refine vL ?_;have QM:(kY n gN f')[u]?=some (.int ((f' u:Nat):Int)):=by rw[kj Kx,am GU]
        refine⟨_,rfl,_,rfl,D,_,_,_,rfl,rfl,aV.of h9,az QM,_,_,rfl,rfl,_,rfl,_,rfl,D,_,_,_,rfl,rfl,h9,by rw[kh];exact gT M6,?_⟩;have e1:(kY n gN f').set v (.int (((f' u:Nat):Int)+1))=kY n (gN++[v]) (put f' v (f' u+1)):=by
         rw[show ((f' u:Nat):Int)+1=((f' u+1:Nat):Int) by lia,GT M6]
        rw[e1];have vY:(upd H3 D (.lst (kY n (gN++[v]) (put f' v (f' u+1))))) R=some (.lst (NV gN)):=by rw[ao Kw.symm];exact IF
        have GV:gN.length<=n:=dM uy.nd uy.lt;refine⟨_,rfl,.inl ⟨rfl,_,aV.of vY⟩,_,rfl,R,_,_,rfl,rfl,vY,by rw[bS];exact b_ (show gN.length<33 by lia) (by decide),?_⟩;have AT:i<gN.length:=(dO.mp sX).1;have Yq:u≠v:=fun z=>yZ (z ▸ GU);refine⟨gN++[v],put f' v (f' u+1),uy.add sX M6 Yp yZ,by rw[k6 AT];exact sX,fun x hx=>?_,⟨_,rfl⟩,bf (bf mU hD) QL,?_,?_⟩
        .rw[eV Yq];rw[tk] at hx;rcases bY.mp hx with z|z
         .obtain⟨q1,q2⟩:=dn x z;exact⟨fj _ q1,by rw[eV (fun (z:x=v)=>yZ (z ▸ q1))];exact q2⟩
         .simp at z;subst z;exact⟨by simp,by rw[g9];exact aT _⟩
        .rw[ao Kw,af]
        .rw[af];show _=some (HO.lst (NV (gN++[v])));rw[show NV (gN++[v])=NV gN++[.int (v:Int)] by unfold NV;rw[bT];rfl]
     .rintro σ H3 ⟨gN,f',uy,sX,dn,⟨b',rfl⟩,mU,h9,IF⟩;rw[bS,gh] at dn;have AT:i<gN.length:=(dO.mp sX).1;have GV:gN.length<=n:=dM uy.nd uy.lt;refine⟨_,rfl,_,_,rfl,rfl,⟨⟨i+1,gN,f',AT,uy.next sX (fun v t=>dn v ((dW fi Kx).mpr t)),⟨_,_,rfl⟩,mU,h9,IF⟩,?_⟩⟩;show n-((i:Int)+1).toNat<n-(i:Int).toNat;lia
    .rw[show decide ((i:Int)<((Rs.length:Nat):Int))=false by rw[zg];lia];have e:kY n Rs f=NV ((List.range n).map (far ts st)):=by
      unfold kY NV;rw[dD];refine il fun x hx=>?_;obtain⟨q1,q2⟩:=Bf.done fi (by lia) (bK.mp hx);rw[am q1,q2];rfl
     rw[e] at hX;refine lI ⟨_,rfl,k D H2 sm hD hX⟩
   .rintro σ H2 Q1 Q2 imp ⟨v,e1,v2,e2,p,ys,e3,e4,i1,i2,e5,e6,kk,e7,q⟩;exact⟨v,e1,v2,e2,p,ys,e3,e4,i1,i2,e5,e6,kk,e7,imp _ _ q⟩
end
theorem Tb:(["row"]:List Str).Nodup:=by decide +kernel
section
variable {P:Program} {w:World} {K:PySem.W.Frag} {mg:Str->Option Value} {base:Heap}
theorem Ky:aG ["distances"] ["distances"] (ak Bi):=⟨rfl,rfl,rfl,by decide +kernel,rfl,by decide +kernel,by decide +kernel⟩
def ww:Sp:=fun vs H Q _=>∃ (l:Addr) (ds:List Addr) (n:Nat) (o:Nat->List V),vs=[.ref l]/\H l=some (.lst (ds.map V.ref))/\n<=32/\Holds H ds n (fun j=>.lst (o j))/\(∀j,j<n->∀x∈o j,∃i,x=.int i)/\∀H',aA H H'->Q .bV H'
theorem GW(F:fY K "check_reached" "check_reached" Bi f fd)(B:Bl mg):bo P w K mg base a7 1 f fd ["distances"] ww:=by
 refine F.ok Ky (fun vs H Q E h=>?_) (fun dN A outer s H vs Q E hr h=>?_)
 .obtain⟨l,ds,n,o,rfl,_⟩:=h;rfl
 .obtain⟨l,ds,n,o,rfl,hl,n2,hh,hx,k⟩:=h;refine'⟨_,ap (de (gE (aD (uc rfl) (by rfl) B.any PyProof.Rows.boot_any (aa ?c ag))) fc bE),?_⟩;case c=>
   refine' bz (g:=be 0) (te:=eU (Xl K false) (tC .bV) (aB 0)) (NB:=["row"]) (src:=[none]) (a_ (by kernel_rfl)) rfl (bA (pv 0)) ?g ?t ?e;case g=>exact fun cl C s₃ H₃ fp=>au (i:=0) Tb rfl (Or.inl rfl) (Or.inr rfl)
   case t=>exact fun cl C s₃ H₃ fp=>b8
   case e=>exact fun cl C s₃ H₃ fp=>dI tX dF (pv 0) rfl
  refine⟨_,rfl,l,rfl,⟨_,aV.of hl⟩,fun D hD=>?_⟩;have nl:l≠D:=aj hl hD;refine cP (xs:=ds.map V.ref) (fun i ys σ H2=>(∃a,σ=[a])/\ys=(List.replicate i false).map V.bl/\H2=upd H D (.lst ys)) ⟨⟨_,rfl⟩,rfl,rfl⟩ (fun i ys σ H2 _ ⟨_,_,e⟩=>by rw[e];exact aV.of (by rw[ao nl];exact hl)) ?_ ?_
  .rintro i x ys σ H2 Kt Kf hxi ⟨⟨a,rfl⟩,rfl,rfl⟩ kt kf;obtain⟨hi,rfl⟩:=M4 hxi;rw[hh.1] at hi;have hd:=hh.2 i hi;have nd:ds.getD i 0≠D:=aj hd hD;have q1:(o i).all eQ=true:=i6.mpr fun x DN=>by obtain⟨z,rfl⟩:=hx i hi x DN;rfl
   have q2:ID .bV (o i)=false:=by
    unfold ID;rw[qC];intro x DN;obtain⟨z,rfl⟩:=hx i hi x DN;exact fun z=>by cases z
   refine⟨_,rfl,_,_,rfl,.inl (aV.of (by rw[ao nd];exact hd)),rfl,q1,?_⟩;refine kt _ _ _ af ?_ ⟨⟨_,rfl⟩,?_,by rw[kB]⟩
   .rw[aI,k7];exact b_ hi (a9 n2 (by decide))
   .rw[u3,bT,q2];rfl
  .rintro ys σ H2 ⟨_,rfl,rfl⟩;refine⟨D,_,rfl,aV.of af,_,rfl,?_⟩;have e:(List.replicate (ds.map V.ref).length false).any id=false:=by
    rw[qC];intro x DN;rw[(List.mem_replicate.mp DN).2];decide
   rw[e];exact lI (k _ (ah hD))
end
theorem nb2:(["one","other"]:List Str).Nodup:=by decide +kernel
theorem Tc:(["house","many","ties"]:List Str).Nodup:=by decide +kernel
theorem Yr:(["house","self"]:List Str).Nodup:=by decide +kernel
def mH(p Pt:Addr)(H H':Hp):Prop:=∀b o,H b=some o->b≠p->b≠Pt->H' b=some o
theorem gG.mono(h:gG H l n zs)(e:mH p Pt H H')(hp:H p=some (.ins C dx fs))(tb:mD Pt H):gG H' l n zs:=
 ⟨h.iK,e _ _ h.at_ (fu h.at_ hp (by intro z;cases z)) (tb.not h.at_ (by intro ps z;cases z)),fun z hz=>e _ _ (h.po z hz) (fu (h.po z hz) hp (by intro z;cases z)) (tb.not (h.po z hz) (by intro ps z;cases z))⟩
theorem mD.mono(t:mD Pt H)(e:∀b o,H b=some o->b≠p->H' b=some o)(hp:H p=some (.ins C dx fs)):mD Pt H':=by
 rcases t with z|⟨c,z,y⟩
 .exact .inl (e _ _ z (fu z hp (by intro q;cases q)))
 .exact .inr ⟨c,e _ _ z (fu z hp (by intro q;cases q)),e _ _ y (fu y hp (by intro q;cases q))⟩
theorem mD.full(t:mD Pt H):H Pt≠none:=by
 rcases t with z|⟨c,z,y⟩ <;> rw[z] <;> intro q <;> cases q
theorem mH.free(s:mH p Pt H H')(hp:H' p≠none)(tb:mD Pt H')(h:H' r=none):H r=none:=by
 cases z:H r with
 |none=>rfl
 |some o=>
  by_cases e1:r=p
  .subst e1;exact absurd h hp
  .by_cases e2:r=Pt
   .subst e2;exact absurd h tb.full
   .rw[s r o z e1 e2] at h;cases h
theorem Td(h:k [] H):fg σ H k:=h
theorem kM{H:Hp}{p:Addr}{o:HO}(h:H p=some o):H p≠none:=by rw[h];intro z;cases z
section
variable {P:Program} {w:World} {K:PySem.W.Frag} {mg:Str->Option Value} {base:Heap}
theorem OG:aG ["self","many","ties"] ["self","many","ties"] (ak CH):=⟨rfl,rfl,rfl,by decide +kernel,rfl,by decide +kernel,by decide +kernel⟩
def Bk(C Pt:Addr):Sp:=fun vs H Q E=>∃ (p dx:Addr) (n:Nat) (l:Addr) (zs:Zs),vs=[.ref p,.int n,.ref l]/\H p=some (.ins C dx [])/\gG H l n zs/\mD Pt H/\
  ∀H',cy C H' (fun a=>H a=none) p n (zp zs)->mD Pt H'->mH p Pt H H'->Q .bV H'
theorem Kz{f C Pt:Addr}{fd:FuncData}(F:fY K "__init__" "Net.__init__" CH f fd)(T:NT K mg C)(B:Bl mg)(CT:cs P w K mg base a7 6 "check_ties" ["many","ties"] kL)(CB:cs P w K mg base a7 1 "check_balance" ["many","ties"] kL)(HO':cs P w K mg base a7 1 "houses_out" ["many","ties","house"] (wu Pt))(DF:cs P w K mg base a7 1 "distances_from" ["out_lists","start"] wv)(CR:cs P w K mg base a7 1 "check_reached" ["distances"] ww):
  bo P w K mg base a7 7 f fd ["self","many","ties"] (Bk C Pt):=by
 refine F.ok OG (fun vs H Q E h=>?_) (fun dN A outer s H vs Q E hr h=>?_)
 .obtain⟨p,dx,n,l,zs,rfl,_⟩:=h;rfl
 .have rY:bQ 1 _:=hr.mono (by decide);refine'⟨_,ai (cr (aF CT hr aK (aa (pv 1) (aa (pv 2) ag))))
   (ai (cr (aF CB rY aK (aa (pv 1) (aa (pv 2) ag))))
   (ai (vD (pv 0) (pv 1) rfl)
   (ai (vD (pv 0) (aD rN (by rfl) B.sorted o5 (aa ?c1 ag)) rfl)
   (ai (vD (pv 0) ?c2 rfl)
   (ai (vD (pv 0) ?c3 rfl)
   (ap (cr (aF CR rY aK (aa (lF (pv 0) rfl) ag))))))))),?_⟩
  case c1=>
   refine' bz (g:=q9 K 2 (eO (be 0) (eO (be 1) q8))) (te:=xC (aZ (aB 0) (aZ (aB 1) fg))) (NB:=["one","other"]) (src:=[none,none]) (a_ (by kernel_rfl)) rfl (bA (pv 2)) ?g ?t ?e;case g=>exact fun cl C s₃ H₃ fp=>fv (n:=2) rfl (bb (au (i:=0) nb2 rfl (Or.inl rfl) (Or.inr rfl)) (bb (au (i:=1) nb2 rfl (Or.inl rfl) (Or.inr rfl)) dG))
   case t=>exact fun cl C s₃ H₃ fp=>b8
   case e=>exact fun cl C s₃ H₃ fp=>eK (aa (pv 0) (aa (pv 1) ag))
  case c2=>
   refine' bz (g:=be 0) (te:=iR (wu Pt) [] E0 (aZ (aB 1) (aZ (aB 2) (aZ (aB 0) fg)))) (NB:=["house","many","ties"]) (src:=[none,some 1,some 2]) (a_ (by kernel_rfl)) rfl (bq rfl B.range (aa (pv 1) ag)) ?g ?t ?e;case g=>exact fun cl C s₃ H₃ fp=>au (i:=0) Tc rfl (Or.inl rfl) (Or.inr rfl)
   case t=>exact fun cl C s₃ H₃ fp=>b8
   case e=>exact fun cl C s₃ H₃ fp=>aF HO' rY aK (aa (pv 1) (aa (pv 2) (aa (pv 0) ag)))
  case c3=>
   refine' bz (g:=be 0) (te:=iR wv [] E0 (aZ (NI K (aB 1) "out_lists") (aZ (aB 0) fg))) (NB:=["house","self"]) (src:=[none,some 0]) (a_ (by kernel_rfl)) rfl (bq rfl B.range (aa (pv 1) ag)) ?g ?t ?e;case g=>exact fun cl C s₃ H₃ fp=>au (i:=0) Yr rfl (Or.inl rfl) (Or.inr rfl)
   case t=>exact fun cl C s₃ H₃ fp=>b8
   case e=>exact fun cl C s₃ H₃ fp=>aF DF rY aK (aa (lF (pv 1) rfl) (aa (pv 0) ag))
  obtain⟨p,dx,n,l,zs,rfl,hp,TT,tb,k⟩:=h;have fi:=TT.iK;have n1:=fi.n1;have n2:=fi.n2;have d9:zs.length<=256:=by have:=fi.len;rw[bR] at this;exact this
  refine⟨_,rfl,_,rfl,n,l,zs,rfl,TT,fun H1 s1=>?_⟩;refine⟨_,rfl,_,rfl,n,l,zs,rfl,TT.same s1,fun H2 s2=>?_⟩;have QN:aA H H2:=s1.trans s2;refine⟨_,rfl,_,rfl,p,C,dx,[],rfl,QN _ _ hp,T.cl,T.nH,(by show 0<1000;decide),?_⟩
  let G1:Hp:=upd H2 p (.ins C dx (dJ "house_count" (.int n) []))
  have d1:mH p Pt H G1:=fun b o e h1 _=>by show upd _ _ _ _=_;rw[ao h1];exact QN _ _ e
  have Wf:G1 p=some (.ins C dx (dJ "house_count" (.int n) [])):=af;have Ys:gG G1 l n zs:=TT.mono d1 hp tb;have Yt:mD Pt G1:=tb.mono (fun b o e h1=>by show upd _ _ _ _=_;rw[ao h1];exact QN _ _ e) hp;refine⟨_,rfl,l,rfl,⟨_,aV.of Ys.at_⟩,fun D hD=>?_⟩;refine GC (fun y=>y) (fun σ=>∃a b,σ=[a,b]) Ys.at_ Ys.po hD (by lia) ⟨_,_,rfl⟩ ?_ ?_
  .rintro z σ H3 R Kf hz ⟨a,b,rfl⟩ _ ha kk;refine⟨_,_,rfl,bW.of ha,rfl,_,_,rfl,_,_,rfl,rfl,?_⟩;exact⟨_,rfl,_,rfl,by show 2<=sizeLine;decide,fun t ht=>kk _ _ ⟨_,_,rfl⟩ ht⟩
  .intro tw H3 sm h9 qg ez Yu;rw[List.map_id'] at ez;have xI:tw.length=zs.length:=by rw[<-bR,ez,bR]
   refine Td ?_;refine Kj h9 qg (by lia) (fun u hu=>by have:=(fi.rg u (ez ▸ hu)).2;lia) fun tl IJ Yv pm sI=>?_;have Yw:H tl=none:=d1.free (kM Wf) Yt (sm.free Yv);have Jb:∀z∈IJ,H z.1=none:=fun z hz=>d1.free (kM Wf) Yt (Yu z (pm.mem_iff.mp hz));have Yx:H3 p=some (.ins C dx (dJ "house_count" (.int n) [])):=sm _ _ Wf;have OH:p≠tl:=aj Yx Yv;refine⟨_,rfl,p,C,dx,_,rfl,by rw[ao OH];exact Yx,T.cl,T.nT,by show 1<1000;decide,?_⟩
   let G2:Hp:=upd (upd H3 tl (.lst (zr IJ))) p (.ins C dx (dJ "tie_list" (.ref tl) (dJ "house_count" (.int n) [])))
   have q2:∀b o,H3 b=some o->b≠p->G2 b=some o:=fun b o e h1=>by
    show upd _ _ _ _=_;rw[ao h1,ao (aj e Yv)];exact e
   have d2:mH p Pt H G2:=fun b o e h1 h2=>q2 _ _ (sm _ _ (d1 _ _ e h1 h2)) h1;have g2t:G2 tl=some (.lst (zr IJ)):=by show upd _ _ _ _=_;rw[ao OH.symm,af]
   have Yy:PO G2 IJ:=fun z hz=>q2 _ _ (qg z (pm.mem_iff.mp hz)) (fu (qg z (pm.mem_iff.mp hz)) Yx (by intro z;cases z));have OI:G2 p=some (.ins C dx (dJ "tie_list" (.ref tl) (dJ "house_count" (.int n) []))):=af;have TT2:gG G2 l n zs:=TT.mono d2 hp tb;have OJ:mD Pt G2:=Yt.mono (fun b o e h1=>q2 _ _ (sm _ _ e) h1) Wf;refine⟨_,rfl,n,rfl,by lia,by lia,fun D2 hX=>?_⟩;refine dh (n:=n) (lo:=0) (fun i ys σ H4=>(∃a,σ=[a,some (.int n),some (.ref l)])/\∃bs:List Addr,ys=bs.map V.ref/\(∀b∈bs,H b=none)/\Holds H4 bs i (fun h=>.lst (NV (cQ n (zp zs) h)))/\mE Pt G2 H4/\mD Pt H4/\H4 D2=some (.lst ys)/\∀b∈bs,b≠D2)
    ⟨⟨_,rfl⟩,[],rfl,(fun _ h=>nomatch h),Holds.nil,mE.of (ah hX),OJ.same (ah hX),af,(fun _ h=>nomatch h)⟩ ?_ ?_
   .rintro i ys σ H4 Kt Kf hi ⟨⟨a,rfl⟩,bs,rfl,Yz,hb,eS,QO,kO,YA⟩ kt kf;have TT4:gG H4 l n zs:=TT2.mono (p:=p) (fun b o e _ h2=>eS _ _ e h2) OI OJ;have QP:=eS _ _ OI (OJ.not OI (by intro ps z;cases z));refine⟨_,rfl,_,rfl,_,rfl,n,l,i,zs,by rw[fm];rfl,hi,TT4,QO,fun r H5 t5 xh Te YB=>?_⟩;have YC:H r=none:=mH.free (fun b o e h1 h2=>eS _ _ (d2 _ _ e h1 h2) h2) (kM QP) QO Te;have Wg:H5 D2=some (.lst (bs.map V.ref)):=xh _ _ kO (QO.not kO (by intro ps z;cases z));have Tf:r≠D2:=by rintro rfl;rw[kO] at Te;cases Te
    have lj:∀b o sY,H5 b=some o->b≠D2->(upd H5 D2 sY) b=some o:=fun b o sY e h=>by rw[ao h];exact e
    refine kt _ _ _ Wg (by rw[aI,hb.1];exact b_ hi (a9 n2 (by decide))) ⟨⟨_,rfl⟩,bs++[r],by rw[bT];rfl,?_,?_,?_,?_,af,?_⟩
    .intro b pI;rcases bY.mp pI with z|z
     .exact Yz b z
     .rw[cA.mp z];exact YC
    .refine Holds.snoc (hb.mono fun j hj e=>?_) (lj _ _ _ YB Tf);refine lj _ _ _ (xh _ _ e (QO.not e (by intro ps z;cases z))) (YA _ ?_);rw[bv,cH (by rw[hb.1];exact hj)];exact fV _
    .intro b o e h;exact lj _ _ _ (xh _ _ (eS _ _ e h) h) (aj e hX)
    .rcases t5 with z|⟨c,z,y⟩
     .exact .inl (lj _ _ _ z (fu z Wg (by intro q;cases q)))
     .exact .inr ⟨c,lj _ _ _ z (fu z Wg (by intro q;cases q)),lj _ _ _ y (fu y Wg (by intro q;cases q))⟩
    .intro b pI;rcases bY.mp pI with z|z
     .exact YA b z
     .rw[cA.mp z];exact Tf
   .rintro ys σ H4 ⟨_,bs,rfl,Yz,hb,eS,QO,kO,YA⟩;have QP:H4 p=some (.ins C dx (dJ "tie_list" (.ref tl) (dJ "house_count" (.int n) []))):=eS _ _ OI (OJ.not OI (by intro ps z;cases z));have YD:H D2=none:=d2.free (kM OI) OJ hX;refine⟨_,rfl,p,C,dx,_,rfl,QP,T.cl,T.nO,by have h1:=d_ "tie_list" (V.ref tl) (dJ "house_count" (V.int n) []);have h2:=d_ "house_count" (V.int n) [];simp at h2;lia,?_⟩
    let G3:Hp:=upd H4 p (.ins C dx (dJ "out_lists" (.ref D2) (dJ "tie_list" (.ref tl) (dJ "house_count" (.int n) []))))
    have q3:∀b o,H4 b=some o->b≠p->G3 b=some o:=fun b o e h1=>by show upd _ _ _ _=_;rw[ao h1];exact e
    have OK:G3 p=some (.ins C dx (dJ "out_lists" (.ref D2) (dJ "tie_list" (.ref tl) (dJ "house_count" (.int n) [])))):=af;have d3:mH p Pt H G3:=fun b o e h1 h2=>q3 _ _ (eS _ _ (d2 _ _ e h1 h2) h2) h1;have YE:mD Pt G3:=QO.mono q3 QP;have hb3:Holds G3 bs n (fun h=>.lst (NV (cQ n (zp zs) h))):=hb.mono fun j hj e=>q3 _ _ e (fu e QP (by intro z;cases z));have YF:G3 D2=some (.lst (bs.map V.ref)):=q3 _ _ kO (fu kO QP (by intro z;cases z));have O3:rX G3 D2 n (zp zs):=⟨bs,YF,hb3⟩
    refine⟨_,rfl,n,rfl,by lia,by lia,fun D3 Em=>?_⟩;refine dh (n:=n) (lo:=0) (fun i ys σ H6=>(∃a,σ=[a,some (.ref p)])/\∃ds:List Addr,ys=ds.map V.ref/\(∀b∈ds,H b=none)/\Holds H6 ds i (fun s=>.lst (NV ((List.range n).map (far (zp zs) s))))/\aA G3 H6/\H6 D3=some (.lst ys)/\∀b∈ds,b≠D3)
     ⟨⟨_,rfl⟩,[],rfl,(fun _ h=>nomatch h),Holds.nil,ah Em,af,(fun _ h=>nomatch h)⟩ ?_ ?_
    .rintro i ys σ H6 Kt Kf hi ⟨⟨a,rfl⟩,ds,rfl,YG,hd,uz,KA,RC⟩ kt kf;refine⟨_,rfl,p,C,dx,_,_,rfl,uz _ _ OK,T.cl,T.nO,by rw[bB,am rfl],_,rfl,D2,n,i,zp zs,by rw[fm];rfl,fi,hi,O3.same uz,fun r H7 YH YI hr7=>?_⟩;have e7D:H7 D3=some (.lst (ds.map V.ref)):=YH _ _ KA;have Tf:r≠D3:=by rintro rfl;rw[KA] at YI;cases YI
     have YC:H r=none:=mH.free (fun b o e h1 h2=>uz _ _ (d3 _ _ e h1 h2)) (kM (uz _ _ OK)) (YE.same uz) YI;have lj:∀b o sY,H7 b=some o->b≠D3->(upd H7 D3 sY) b=some o:=fun b o sY e h=>by rw[ao h];exact e
     refine kt _ _ _ e7D (by rw[aI,hd.1];exact b_ hi (a9 n2 (by decide))) ⟨⟨_,rfl⟩,ds++[r],by rw[bT];rfl,?_,?_,?_,af,?_⟩
     .intro b pI;rcases bY.mp pI with z|z
      .exact YG b z
      .rw[cA.mp z];exact YC
     .refine Holds.snoc (hd.mono fun j hj e=>?_) (lj _ _ _ hr7 Tf);refine lj _ _ _ (YH _ _ e) (RC _ ?_);rw[bv,cH (by rw[hd.1];exact hj)];exact fV _
     .intro b o e;exact lj _ _ _ (YH _ _ (uz _ _ e)) (aj e Em)
     .intro b pI;rcases bY.mp pI with z|z
      .exact RC b z
      .rw[cA.mp z];exact Tf
    .rintro ys σ H6 ⟨_,ds,rfl,YG,hd,uz,KA,RC⟩;have Tg:=uz _ _ OK;refine⟨_,rfl,p,C,dx,_,rfl,Tg,T.cl,T.nD,by have h1:=d_ "tie_list" (V.ref tl) (dJ "house_count" (V.int n) []);have h2:=d_ "house_count" (V.int n) [];have h3:=d_ "out_lists" (V.ref D2) (dJ "tie_list" (V.ref tl) (dJ "house_count" (V.int n) []));simp at h2;lia,?_⟩;have q4:∀b o u,H6 b=some o->b≠p->(upd H6 p u) b=some o:=fun b o u e h1=>by rw[ao h1];exact e
     refine⟨_,rfl,p,C,dx,_,_,rfl,af,T.cl,T.nD,by rw[bB,am rfl],D3,ds,n,fun s=>NV ((List.range n).map (far (zp zs) s)),rfl,q4 _ _ _ KA (fu KA Tg (by intro z;cases z)),n2,hd.mono fun j hj e=>q4 _ _ _ e (fu e Tg (by intro z;cases z)),fun j hj x hx=>?_,fun H8 s8=>?_⟩
     .obtain⟨y,hy,rfl⟩:=aX.mp hx;exact⟨_,rfl⟩
     .have up:∀b o,G3 b=some o->b≠p->H8 b=some o:=fun b o e h1=>s8 _ _ (q4 _ _ _ (uz _ _ e) h1);have YJ:H D3=none:=d3.free (kM OK) YE Em;have upT:∀b o,G2 b=some o->b≠p->b≠Pt->H8 b=some o:=fun b o e h1 h2=>up _ _ (q3 _ _ (eS _ _ e h2) h1) h1;refine k H8 ⟨fi,dx,tl,D2,D3,s8 _ _ af,YD,YJ,⟨bs,up _ _ YF (fu YF OK (by intro z;cases z)),Yz,hb3.mono fun j hj e=>up _ _ e (fu e OK (by intro z;cases z))⟩,
       ⟨ds,s8 _ _ (q4 _ _ _ KA (fu KA Tg (by intro z;cases z))),YG,hd.mono fun j hj e=>s8 _ _ (q4 _ _ _ e (fu e Tg (by intro z;cases z)))⟩,
       ⟨Yw,IJ,upT _ _ g2t OH.symm (OJ.not g2t (by intro ps z;cases z)),fun z hz=>upT _ _ (Yy z hz) (fu (Yy z hz) OI (by intro z;cases z)) (OJ.not (Yy z hz) (by intro ps z;cases z)),Jb,((show (zp IJ).Perm (zp tw) from pm.map _).trans (vh ez)),sI⟩⟩ ?_ fun b o e h1 h2=>up _ _ (d3 _ _ e h1 h2) h1
      exact YE.mono up OK
end
theorem qh:NV xs++[.int (x:Int)]=NV (xs++[x]):=by unfold NV;rw[bT];rfl
theorem yB{xs:List Nat}{i:Nat}{x:V}(h:(NV xs)[i]?=some x):∃y,xs[i]?=some y/\x=.int (y:Int):=by
 unfold NV at h;rw[bX] at h;cases e:xs[i]? with
 |none=>rw[e] at h;cases h
 |some z=>rw[e] at h;exact⟨z,rfl,(bh h).symm⟩
end Ba
namespace L2
open PySem PySem.Spec PyProof.Rows
section
variable {X:Cx}
end
end L2
namespace Ba
open PySem L2 gw
section
variable {P:Program} {w:World} {K:PySem.W.Frag} {mg:Str->Option Value} {base:Heap}
end
end Ba
namespace L2
open PySem PySem.Spec PyProof.Rows
section
variable {prog:Program} {w:World} {A:Around} {E:Value->Shared->Prop} {s:Shared} {R:Result->Shared->Prop} {l d Ia:Addr}
end
section
variable {prog:Program} {w:World} {A:Around} {E:Value->Shared->Prop} {s:Shared} {l:Addr}
end
section
variable {X:Cx}
end
structure KB(K:PySem.W.Frag)(C:Addr):Prop where
 makes:PySem.W.makesIn K C=true
 init:PySem.W.findIn K (.ref C) "__init__"=some (some (.builtin "object.__init__"))
 keep:PySem.W.keepIn K (.ref C)=true
section
variable {X:Cx} {C:Addr} {x:Str} {p pos:Pos}
def YK(C:Addr):TE:=fun _ H Q=>∀y dx,H y=none->H dx=none->dx≠y->Q (.ref y) (upd (upd H dx (.own y)) y (.ins C dx []))
theorem wx(M:KB X.K C)(hg:Gl X x)(hm:X.mg x=some (.ref C))(Au:(x==("__debug__":Str))=false:=by decide):PE X (.Call (.Name x p) [] [] pos) (YK C):=by
 intro ae s σ H Q I h;refine jN (l9 I hg hm ?_ Au);have I2:=aM.made (C:=C) I;have dE:wpAny (model X.prog X.w) X.A (call (.ref C) []) (EP X ae σ Q) X.xe s:=by
  refine jU ?_;refine Dw I.lE M.makes M.init (fun self=>PySem.W.Looks.of_pure (PySem.W.oi_bind self)) ?_;have Y:=zV (M:=model X.prog X.w) I.lE M.makes;have t1:PySem.W.Looks (model X.prog X.w) ((s.heap.push PySem.W.emptyDict).push (PySem.W.instObj C s.heap.objs.size)) (typeOf (.ref (s.heap.objs.size+1))) (.ref C):=(PySem.W.Looks.ld (by heap_get)).andThen .now;have t2:PySem.W.Looks (model X.prog X.w) ((s.heap.push PySem.W.emptyDict).push (PySem.W.instObj C s.heap.objs.size)) (isInstance (.ref (s.heap.objs.size+1)) (.type "object")) true:=t1.andThen (Y.top.keeps fun b o e=>b9 _ (b9 _ e));refine u8 PySem.W.oi_plain PySem.W.entry_oi (@PySem.W.check_slot (model X.prog X.w) _ _ _ "object.__init__" "object" "__init__" (.ref (s.heap.objs.size+1)) [] [] _ PySem.W.oi_kind PySem.W.oi_split t2 (PySem.W.oi_args (.ref (s.heap.objs.size+1))) ?_);rw[PySem.W.oi_run];refine wpAny_pure (And.intro rfl ?_);exact⟨.ref (s.heap.objs.size+1),_,I2,rfl,h _ _ (I.bL.fresh (qR _)) (I.bL.fresh (aT _)) (aW (k9 _))⟩
 exact PySem.W.callWith_K0 I.lE M.keep dE
end
section
variable {X:Cx}
end
end L2
namespace gw
abbrev iO(ts:Ts)(h:Int):Nat:=(ts.filter fun t=>decide (t.1=h)).length
theorem KC:iO (ts++us) h=iO ts h+iO us h:=by unfold iO;rw[eN,ce]
theorem wy:iO [(a,b),(b,a)] h=(if a=h then 1 else 0)+(if b=h then 1 else 0):=by
 unfold iO;by_cases c1:a=h <;> by_cases c2:b=h <;> simp[c1,c2]
theorem KD:iO (di (ps++[(a,b)])) h=iO (di ps) h+((if a=h then 1 else 0)+(if b=h then 1 else 0)):=by
 rw[ji,KC];exact congrArg _ wy
theorem KG:di [(a,b)]=[(a,b),(b,a)]:=rfl
theorem KH(ha:a<n)(hb:b<n)(pN:a≠b):Cq n [(ci a,ci b),(ci b,ci a)]:=by
 have ne:ci a≠ci b:=fun e=>pN (dt e);refine⟨?_,?_,?_,?_,?_⟩
 .rw[eG];refine⟨fun h=>?_,by simp⟩;have:=cA.mp h;exact ne (congrArg Prod.fst this)
 .intro t ht;rcases bi.mp ht with rfl|ht
  .exact⟨⟨by lia,by lia⟩,⟨by lia,by lia⟩⟩
  .rw[cA.mp ht];exact⟨⟨by lia,by lia⟩,⟨by lia,by lia⟩⟩
 .intro t ht;rcases bi.mp ht with rfl|ht
  .exact ne
  .rw[cA.mp ht];exact fun e=>ne e.symm
 .intro h;by_cases c1:ci a=h <;> by_cases c2:ci b=h <;> simp[c1,c2]
 .intro h;have:=wy (a:=ci a) (b:=ci b) (h:=h);show iO [(ci a,ci b),(ci b,ci a)] h<=8;rw[this];split <;> split <;> lia
theorem bD.pair(F:bD n (di ps))(ha:a<n)(hb:b<n)(pN:a≠b)(h1:(ci a,ci b)∉ps)(h2:(ci b,ci a)∉ps)(d1:iO (di ps) (ci a)<=7)(d2:iO (di ps) (ci b)<=7):bD n (di (ps++[(ci a,ci b)])):=by
 rw[ji,KG];have ne:ci a≠ci b:=fun e=>pN (dt e);refine F.app (wb F.pre (KH ha hb pN) (fun t ht=>?_) fun h=>?_)
 .rcases bi.mp ht with rfl|ht
  .exact fun z=>(mz.mp z).elim h1 h2
  .rw[cA.mp ht];exact fun z=>(mz.mp z).elim h2 h1
 .show iO (di ps) h+iO [(ci a,ci b),(ci b,ci a)] h<=8;rw[wy];have m:=F.most h;by_cases c1:ci a=h
  .subst c1;rw[am rfl,if_neg (fun e=>ne e.symm)];lia
  .by_cases c2:ci b=h
   .subst c2;rw[if_neg c1,am rfl];lia
   .rw[if_neg c1,if_neg c2];exact m
theorem KI(P:Cq n ts):Cq n (ts.map ur):=by
 have fl:∀h:Int,((ts.map ur).filter fun t=>decide (t.1=h)).length=(ts.filter fun t=>decide (t.2=h)).length:=fun h=>by
  rw[qx,aI];rfl
 have fl2:∀h:Int,((ts.map ur).filter fun t=>decide (t.2=h)).length=(ts.filter fun t=>decide (t.1=h)).length:=fun h=>by
  rw[qx,aI];rfl
 refine⟨?_,fun t ht=>?_,fun t ht=>?_,fun h=>?_,fun h=>?_⟩
 .refine im.mpr (P.nd.imp fun {x y} Co e=>Co ?_);have e1:=congrArg Prod.fst e;have e2:=congrArg Prod.snd e;exact dY e2 e1
 .obtain⟨u,hu,rfl⟩:=aX.mp ht;exact⟨(P.rg u hu).2,(P.rg u hu).1⟩
 .obtain⟨u,hu,rfl⟩:=aX.mp ht;exact fun e=>P.ne u hu e.symm
 .rw[fl,fl2,P.ym]
 .rw[fl,<-P.ym];exact P.most h
theorem OL(h:3<=m)(hk:k<m):pk m (pk m k)≠k:=by
 unfold pk;split <;> split <;> lia
theorem yC(n1:3<=n)(n2:n<=32)(pm:xs.Perm (List.range n)):bD n (di (xm xs)):=by
 have F:=Ee (by lia) n2 pm;have nd:xs.Nodup:=pm.nodup_iff.mpr iy;have hl:xs.length=n:=by rw[pm.length_eq,dq]
 have lt:∀x∈xs,x<n:=fun x hx=>bK.mp (pm.mem_iff.mp hx);obtain⟨P,one⟩:=Cu nd lt (by lia);have Q:=KI P;refine bD.perm ?_ fJ;refine F.app (wb P Q (fun t ht hm=>?_) fun h=>?_)
 .obtain⟨u,hu,rfl⟩:=aX.mp ht;obtain⟨k,hk,rfl⟩:=qd hu;obtain⟨j,hj,e⟩:=qd hm;have e1:xs.getD k 0=xs.getD (pk xs.length j) 0:=dt (congrArg Prod.fst e);have e2:xs.getD (pk xs.length k) 0=xs.getD j 0:=dt (congrArg Prod.snd e);have pj:=yp hj;have pk':=yp hk;rw[dz hk,dz pj] at e1;rw[dz pk',dz hj] at e2;have i1:=oG nd hk pj e1;have i2:=oG nd pk' hj e2;rw[<-i2] at i1;exact OL (by lia) hk i1.symm
 .have o1:=one h;have e:((xm xs).map ur).filter (fun t=>decide (t.1=h))=((xm xs).filter fun t=>decide (t.2=h)).map ur:=by rw[qx];rfl
  rw[e,aI,<-P.ym];lia
theorem yD{s a b:Nat}:∀ {ns:List Nat} {st:Nat},yq st (ns++[s]) a b↔yq st ns a b\/(a / (st*pr ns) % s+1<s/\b=a+st*pr ns)
 |[],st=>by
  show ((_/\_)\/False)↔(False\/_);rw[show st*pr []=st from qQ st];constructor
  .rintro(h|h)
   .exact .inr h
   .exact h.elim
  .rintro(h|h)
   .exact h.elim
   .exact .inl h
 |n::ns,st=>by
  show (_\/yq (st*n) (ns++[s]) a b)↔(_\/yq (st*n) ns a b)\/_;rw[yD,or_assoc,show st*n*pr ns=st*pr (n::ns) from qK _ _ _]
theorem uA{a b q:Nat}:∀ {ns:List Nat} {st:Nat},0<st->(yq st ns (a+st*pr ns*q) (b+st*pr ns*q)↔yq st ns a b)
 |[],st,_=>Iff.rfl
 |n::ns,st,h=>by
  show ((_/\_)\/yq (st*n) ns _ _)↔(_/\_)\/_;have e:st*pr (n::ns)*q=st*n*pr ns*q:=by rw[show st*pr (n::ns)=st*n*pr ns from (qK _ _ _).symm]
  have e2:(a+st*pr (n::ns)*q) / st % n=a / st % n:=by
   rw[show st*pr (n::ns)*q=st*(n*(pr ns*q)) by rw[show pr (n::ns)=n*pr ns from rfl,qK,qK],Nat.add_mul_div_left _ _ h,EQ]
  rw[e2];refine or_congr (and_congr_right fun _=>by lia) ?_;rw[e];by_cases c:n=0
  .subst c;rw[Nat.mul_zero,Nat.zero_mul,Nat.zero_mul];exact Iff.rfl
  .exact uA (lz h (Nat.pos_of_ne_zero c))
theorem GX{a b:Nat}:∀ {ns:List Nat} {st:Nat},0<st->(∀x∈ns,0<x)->yq st ns a b->a<b
 |n::ns,st,h,hn,.inl ⟨_,e⟩=>by lia
 |n::ns,st,h,hn,.inr u=>GX (lz h (hn n cg)) (fun x hx=>hn x (cp _ hx)) u
theorem GY{s:Nat}:∀ {ns:List Nat},pr (ns++[s])=pr ns*s
 |[]=>by show s*1=1*s;lia
 |n::ns=>by show n*pr (ns++[s])=n*pr ns*s;rw[GY,qK]
def QQ(ns:List Nat)(ps:Ts):Prop:=∀u,u∈ps↔∃a b:Nat,u=(ci a,ci b)/\a<pr ns/\U ns a b
def KJ(ns:List Nat)(k:Nat)(ps:Ts):Prop:=∀u,u∈ps↔∃a b:Nat,u=(ci a,ci b)/\a<pr ns*k/\U ns a b
theorem CO{ns:List Nat}(h:∀x∈ns,0<x):0<pr ns:=by
 induction ns with
 |nil=>exact Nat.one_pos
 |cons n ns ih=>exact lz (h n cg) (ih fun x hx=>h x (cp _ hx))
theorem KJ.zero{ns:List Nat}:KJ ns 0 []:=fun u=>⟨fun h=>(nomatch h),fun ⟨a,b,_,h,_⟩=>absurd h (by rw[Nat.mul_zero];exact jH _)⟩
theorem KJ.add{ns:List Nat}{k:Nat}{ps Th:Ts}(hn:∀x∈ns,0<x)(h:KJ ns k ps)(h0:QQ ns Th):KJ ns (k+1) (ps++Th.map fun p=>(p.1+ci (pr ns*k),p.2+ci (pr ns*k))):=fun u=>by
 have pp:=CO hn;rw[bY,h u,aX];have sh:∀a b,U ns (a+pr ns*k) (b+pr ns*k)↔U ns a b:=fun a b=>by
  have:=uA (a:=a) (b:=b) (q:=k) (ns:=ns) (st:=1) Nat.one_pos;rwa [qP] at this
 constructor
 .rintro(⟨a,b,e,l,t⟩|⟨v,hv,rfl⟩)
  .exact⟨a,b,e,by rw[nJ];lia,t⟩
  .obtain⟨a,b,rfl,l,t⟩:=(h0 v).mp hv;exact⟨a+pr ns*k,b+pr ns*k,rfl,by rw[nJ];lia,(sh a b).mpr t⟩
 .rintro⟨a,b,rfl,l,t⟩;by_cases c:a<pr ns*k
  .exact .inl ⟨a,b,rfl,c,t⟩
  .have lt:=GX Nat.one_pos hn t;rw[nJ,qQ] at l;refine .inr ⟨(ci (a-pr ns*k),ci (b-pr ns*k)),(h0 _).mpr ⟨a-pr ns*k,b-pr ns*k,rfl,by lia,?_⟩,?_⟩
   .rw[<-sh,show a-pr ns*k+pr ns*k=a by lia,show b-pr ns*k+pr ns*k=b by lia];exact t
   .exact dY (show ((a-pr ns*k:Nat):Int)+((pr ns*k:Nat):Int)=(a:Int) by lia) (show ((b-pr ns*k:Nat):Int)+((pr ns*k:Nat):Int)=(b:Int) by lia)
theorem KJ.box{ns:List Nat}{s n:Nat}{ps:Ts}(hn:∀x∈ns,0<x)(s0:0<s)(hm:n+pr ns=pr ns*s)(h:KJ ns s ps):QQ (ns++[s]) (ps++(List.range n).map fun (h:Nat)=>((h:Int),(h:Int)+ci (pr ns))):=fun u=>by
 have pp:=CO hn;have ep:pr (ns++[s])=pr ns*s:=GY;rw[bY,h u,aX,ep];have sn:∀a b,U (ns++[s]) a b↔U ns a b\/(a / pr ns % s+1<s/\b=a+pr ns):=fun a b=>by
  have:=yD (s:=s) (a:=a) (b:=b) (ns:=ns) (st:=1);rwa [qP] at this
 have key:∀a,a<pr ns*s->(a / pr ns % s+1<s↔a<n):=fun a l=>by
  have q:a / pr ns<s:=(Nat.div_lt_iff_lt_mul pp).mpr (by rw[vt];exact l);rw[lu q];have:a / pr ns+1<s↔a / pr ns<s-1:=by lia
  rw[this,Nat.div_lt_iff_lt_mul pp,Nat.sub_mul,qP,vt s];lia
 constructor
 .rintro(⟨a,b,e,l,t⟩|⟨h,hh,rfl⟩)
  .exact⟨a,b,e,l,(sn a b).mpr (.inl t)⟩
  .have hh:=bK.mp hh;have l:h<pr ns*s:=by lia
   exact⟨h,h+pr ns,rfl,l,(sn _ _).mpr (.inr ⟨(key h l).mpr hh,rfl⟩)⟩
 .rintro⟨a,b,rfl,l,t⟩;rcases(sn a b).mp t with t|⟨t,e⟩
  .exact .inl ⟨a,b,rfl,l,t⟩
  .exact .inr ⟨a,bK.mpr ((key a l).mp t),by rw[e];rfl⟩
theorem KL:QQ [] []:=fun u=>⟨fun h=>(nomatch h),fun ⟨a,b,_,_,h⟩=>h.elim⟩
theorem bD.OM{n:Nat}{ps qs:Ts}(F:bD n (di qs))(p:ps.Perm qs):bD n (di ps):=F.perm (p.flatMap_right _)
theorem QQ.iK{ns:List Nat}{ps:Ts}(h:QQ ns ps)(nd:ps.Nodup)(hn:∀x∈ns,2<=x)(h0:ns≠[])(hp:pr ns<=32):bD (pr ns) (di ps):=by
 have F:=Gp hn h0 hp;refine F.OM ?_;have Oj:((lR ns).map iW).Nodup:=by
  have:=(fJ.nodup_iff (l₁:=di ((lR ns).map iW))).mp F.nd;exact(jF.mp this).1
 rw[EK nd Oj];intro u;rw[h u,aX];constructor
 .rintro⟨a,b,rfl,l,t⟩;exact⟨(a,b),oH.mpr ⟨l,t⟩,rfl⟩
 .rintro⟨q,hq,rfl⟩;obtain⟨l,t⟩:=oH.mp hq;exact⟨q.1,q.2,rfl,l,t⟩
theorem Bm{n:Nat}(n1:3<=n)(n2:n<=32):bD n (di ((List.range (n-1)).map (fun (h:Nat)=>((h:Int),(h:Int)+1))++[(0,(n:Int)-1)])):=by
 have F:=yC (xs:=List.range n) n1 n2 (qJ _);refine F.perm ?_;have e:xm (List.range n)=((n:Int)-1,0)::(List.range (n-1)).map (fun (h:Nat)=>((h:Int),(h:Int)+1)):=by
  unfold xm;rw[dq];obtain⟨m,rfl⟩:∃m,n=m+1:=⟨n-1,by lia⟩
  have gd:∀k,k<m+1->(List.range (m+1)).getD k 0=k:=fun k hk=>by rw[bv,gX hk];rfl
  rw[qu (n:=m),d7,dD,Nat.add_sub_cancel,<-qu];congr 1
  .unfold pk;rw[am rfl,gd _ (by lia),gd _ (by lia)];exact dY (show ((m+1-1:Nat):Int)=((m+1:Nat):Int)-1 by lia) rfl
  .refine il fun k hk=>?_;have hk:=bK.mp hk;show (ci ((List.range (m+1)).getD (pk (m+1) (k+1)) 0),ci ((List.range (m+1)).getD (k+1) 0))=_;unfold pk;rw[if_neg (by lia),gd _ (by lia),gd _ (by lia)];exact dY (show ((k+1-1:Nat):Int)=(k:Int) by lia) (show ((k+1:Nat):Int)=(k:Int)+1 by lia)
 rw[e,ji];refine jw.trans ?_;show (di [(0,(n:Int)-1)]++_).Perm (di [((n:Int)-1,0)]++_);exact uS _ (List.Perm.swap _ _ _)
def kQ(n:Nat):List (Nat×Nat):=(List.range n).flatMap fun o=>(List.range o).map fun a=>(a,o)
theorem ON{n:Nat}(n1:2<=n)(n9:n<=9):bD n (di ((kQ n).map iW)):=by
 have h:∀m,m<8->Gi (m+2) (kQ (m+2))=true:=by decide +kernel
 have:=(Gj (h (n-2) (by lia))).1;rwa [show n-2+2=n by lia] at this
theorem pz:∀ (hs:List Nat) (ts:Ts),hs.Nodup->(∀h∈hs,7<=(ts.filter fun t=>decide (t.1=ci h)).length)->7*hs.length<=ts.length
 |[],_,_,_=>by simp
 |h::hs,ts,nd,hf=>by
  obtain⟨h1,h2⟩:=eG.mp nd;have e:ts.length=(ts.filter fun t=>decide (t.1=ci h)).length+(ts.filter fun t=>!decide (t.1=ci h)).length:=by
   clear hf;induction ts with
   |nil=>rfl
   |cons t ts ih=>
    rw[dS,dS,dR,ih];cases decide (t.1=ci h) <;> simp <;> lia
  have:=pz hs (ts.filter fun t=>!decide (t.1=ci h)) h2 fun x hx=>by
   have:=hf x (cp _ hx);rw[zG];refine a9 this (nG (congrArg List.length (List.filter_congr fun t _=>?_)));by_cases c:t.1=ci x
   .have:t.1≠ci h:=fun z=>h1 (by rw[c] at z;rw[<-dt z];exact hx);simp[c] at this |-;exact fun z=>this (by exact_mod_cast z)
   .simp[c]
  have:=hf h cg;rw[dR];lia
theorem rQ.Ti{n:Nat}{os:List Nat}{k:Nat}{ts:Ts}(T:rQ n os k ts)(nd:os.Nodup)(hk:k<=os.length)(k0:0<k):∃h∈os.take k,(ts.filter fun t=>decide (t.1=ci h)).length<7:=by
 apply qq;intro JA;have:=pz (os.take k) ts (nd.sublist (va _ _)) fun h hh=>qq fun z=>JA ⟨h,hh,by lia⟩;have hl:=T.len;rw[jG,Nat.min_eq_left hk] at this;lia
end gw
namespace Ba
open PySem L2
structure Bl2(mg:Str->Option Value):Prop where
 abs:mg "abs"=none
abbrev OO:Stmt:=top 50
abbrev GZ:Stmt:=top 51
theorem Tj{c:Prop}[Decidable c]{A:Prop}{C:St->Hp->Prop}{σ0:St}{H0:Hp}(G:St->Hp->Prop)(hC:∀σ H,G σ H->C σ H)(h1:c->(∀σ H,G σ H->C σ H)->A)(h2:¬ c->G σ0 H0):if c then A else C σ0 H0:=by
 split
 .exact h1 (by assumption) hC
 .exact hC _ _ (h2 (by assumption))
theorem G0{X:Cx}:k_ X (binaryOp .FloorDiv) (rI (fun _ j=>0<j/\j<2 ^ 64) fun i j=>.int (i / j)):=Rz fun i j _ _ _ _ _ hc q=>by
 have h1:(0:Int)<j:=hc.1;have h2:j<2 ^ 64:=hc.2;refine PyProof.Rows.floordiv_int (by lia) (by rw[EM i (by lia)];exact q) (.inl (PyProof.noPylong_of_log2 ?_));have h3:j.natAbs<2 ^ 64:=by lia
 have h4:j.natAbs≠0:=by lia
 exact vx ((Nat.log2_lt h4).mpr h3) (by decide)
def bn(H:Hp)(p:Addr):Prop:=∃a b c:Int,H p=some (.lst [.int a,.int b,.int c])/\0<=a/\(0<=b/\b<4294967296)/\(0<=c/\c<4294967296)
theorem bn.same{H H':Hp}{p:Addr}(h:bn H p)(s:aA H H'):bn H' p:=let ⟨a,b,c,e,r⟩:=h;⟨a,b,c,s _ _ e,r⟩
theorem bn.full{H:Hp}{p:Addr}(h:bn H p):H p≠none:=by obtain⟨a,b,c,e,_⟩:=h;rw[e];intro z;cases z
theorem bn.ne{H:Hp}{p q:Addr}(h:bn H p)(e:H q=none):q≠p:=by rintro rfl;exact h.full e
theorem bn.put{H:Hp}{p q:Addr}{o:HO}(h:bn H p)(n:p≠q):bn (upd H q o) p:=let ⟨a,b,c,e,r⟩:=h;⟨a,b,c,by rw[ao n];exact e,r⟩
theorem bn.neT{H:Hp}{p q:Addr}{xs:List V}(h:bn H p)(e:H q=some (.tup xs)):q≠p:=by rintro rfl;obtain⟨a,b,c,z,_⟩:=h;rw[e] at z;cases z
section
variable {P:Program} {w:World} {K:PySem.W.Frag} {mg:Str->Option Value} {base:Heap}
theorem CP:aG ["_law_script","_law_k","_law_cell","_law_first"] ["_law_script","_law_k"] (ak OO):=⟨rfl,rfl,rfl,by decide +kernel,rfl,by decide +kernel,by decide +kernel⟩
def CQ(K:PySem.W.Frag):Sp:=fun vs H Q _=>∃ (a:Addr) (ns:List Int) (k:Nat),vs=[.ref a,.int k]/\aV K H a (ns.map V.int)/\k<64/\∀ (r:Addr) (H':Hp),aA H H'->H r=none->bn H' r->Q (.ref r) H'
theorem OP{f:Addr}{fd:FuncData}(F:fY K "_law_pot" "_law_pot" OO f fd)(B:Bl mg)(B2:Bl2 mg):bo P w K mg base a7 1 f fd ["_law_script","_law_k"] (CQ K):=by
 refine F.ok CP (fun vs H Q E h=>?_) (fun dN A outer s H vs Q E hr h=>?_)
 .obtain⟨a,ns,k,rfl,_⟩:=h;rfl
 .obtain⟨a,ns,k,rfl,hS,hk,q⟩:=h;refine⟨_,ai (aE (i:=2) CP.nd rfl (Or.inl rfl) aq)
   (ai (de (aQ jZ (pv 1) (aD aO (by rfl) B.len dU (aa (pv 0) ag)) (aS _)) (ap (aE (i:=2) CP.nd rfl (Or.inl rfl) (aD Fj (by rfl) B2.abs PyProof.Rows.boot_abs (aa (aL aJ (pv 0) (pv 1) (fun _ _=>rfl)) ag)))) bE)
   (ai (aE (i:=3) CP.nd rfl (Or.inl rfl) (aP cx (aP cx (aP gc (pv 2) aq) (aP fw aq (pv 1))) aq))
   (ap (aR (cf (aa (aD (kC rfl) (by rfl) B.max uV (aa aq (aa (aP iH (pv 2) (aP NF aq aq)) ag))) (aa (pv 3) (aa (aP cx (aP cx (aP gc (aP G0 (pv 2) aq) aq) (aP fw aq (pv 1))) aq) ag)))))))),?_⟩
  refine⟨_,rfl,_,rfl,a,ns.map V.int,rfl,.inl hS,_,_,rfl,rfl,_,rfl,?_⟩;refine Tj (fun σ Hc=>Hc=H/\∃c:Int,0<=c/\σ=[some (.ref a),some (.int k),some (.int c),none]) ?_ (fun e hC=>?_) (fun e=>⟨rfl,0,by decide,rfl⟩)
  .rintro σ Hc ⟨rfl,c,c0,rfl⟩;have m0:0<=c % 2147483629:=i7 _ (by decide);have m1:c % 2147483629<2147483629:=l5 _ (by decide);have m2:0<=c / 2147483629 % 2147483587:=i7 _ (by decide);have m3:c / 2147483629 % 2147483587<2147483587:=l5 _ (by decide);refine⟨_,rfl,_,_,rfl,rfl,(by show (0:Int)<2147483629;decide),_,rfl,_,_,rfl,rfl,.inl ⟨by decide,by decide⟩,_,_,rfl,rfl,_,_,rfl,rfl,?_⟩;refine⟨_,rfl,_,_,rfl,rfl,⟨by decide,by decide,by decide⟩,_,_,rfl,rfl,_,_,rfl,_,rfl,_,rfl,_,_,rfl,rfl,⟨by decide,by decide⟩,_,_,rfl,rfl,(by show (0:Int)<2147483587;decide),_,rfl,_,_,rfl,rfl,.inl ⟨by decide,by decide⟩,_,_,rfl,rfl,_,_,rfl,rfl,by show 3<=sizeLine;decide,fun r fQ=>?_⟩;refine q r _ (ah fQ) fQ ⟨_,_,_,af,?_,⟨?_,?_⟩,⟨?_,?_⟩⟩
   .split <;> lia
   .lia
   .lia
   .lia
   .lia
  .have eL:k<ns.length:=by
    have:(k:Int)<((ns.map V.int).length:Int):=by simpa using e
    rw[aI] at this;lia
   refine⟨_,rfl,_,rfl,a,_,_,_,rfl,rfl,hS,az (v:=.int ns[k]) (by rw[bX,cH eL];rfl),_,rfl,hC _ _ ⟨rfl,_,?_,rfl⟩⟩;split <;> lia
theorem G5:aG ["_law_pot_here","_law_many","_law_digit"] ["_law_pot_here","_law_many"] (ak GZ):=⟨rfl,rfl,rfl,by decide +kernel,rfl,by decide +kernel,by decide +kernel⟩
def jj:Sp:=fun vs H Q _=>∃ (p:Addr) (m:Int),vs=[.ref p,.int m]/\0<m/\m<1000000/\bn H p/\∀ (d:Int) (H':Hp),0<=d->d<m->aH p H H'->bn H' p->Q (.int d) H'
theorem CS{f:Addr}{fd:FuncData}(F:fY K "_law_take" "_law_take" GZ f fd):bo P w K mg base a7 1 f fd ["_law_pot_here","_law_many"] jj:=by
 refine F.ok G5 (fun vs H Q E h=>?_) (fun dN A outer s H vs Q E hr h=>?_)
 .obtain⟨p,m,rfl,_⟩:=h;rfl
 .obtain⟨p,m,rfl,m0,m1,⟨a,b,c,hp,a0,⟨b0,b1⟩,⟨c0,c1⟩⟩,q⟩:=h;refine⟨_,ai (de (aQ BQ (aL aJ (pv 0) aq (fun _ _=>rfl)) aq (aS _))
    (ai (aE (i:=2) G5.nd rfl (Or.inl rfl) (aP gc (aL aJ (pv 0) aq (fun _ _=>rfl)) (pv 1)))
    (ai (gb (aP vB (aL aJ (pv 0) aq (fun _ _=>rfl)) (pv 1)) (jb (pv 0) aq fz))
    (ap (aR (pv 2))))) bE)
   (ai (gb (aP gc (aP cx (aP fw (aL aJ (pv 0) aq (fun _ _=>rfl)) aq) aq) aq) (jb (pv 0) aq fz))
   (ai (gb (aP gc (aP cx (aP fw (aL aJ (pv 0) aq (fun _ _=>rfl)) aq) aq) aq) (jb (pv 0) aq fz))
   (ap (aR (aP gc (aP vB (aP gc (aP cx (aP fw (aL aJ (pv 0) aq (fun _ _=>rfl)) (aL aJ (pv 0) aq (fun _ _=>rfl))) (aP fw (aL aJ (pv 0) aq (fun _ _=>rfl)) (aL aJ (pv 0) aq (fun _ _=>rfl)))) aq) aq) (pv 1)))))),?_⟩
  have g0:∀a b c:Int,sF [V.int a,V.int b,V.int c] 0=some (.int a):=fun a b c=>az (j:=0) rfl;have g1:∀a b c:Int,sF [V.int a,V.int b,V.int c] 1=some (.int b):=fun a b c=>az (j:=1) rfl;have g2:∀a b c:Int,sF [V.int a,V.int b,V.int c] 2=some (.int c):=fun a b c=>az (j:=2) rfl;refine⟨_,rfl,p,_,_,_,rfl,rfl,aV.of hp,g0 _ _ _,_,_,rfl,rfl,_,rfl,?_⟩;refine eA (fun e=>?_) (fun e=>?_)
  .refine⟨_,rfl,p,_,_,_,rfl,rfl,aV.of hp,g0 _ _ _,_,rfl,_,_,rfl,rfl,m0,?_⟩;refine⟨_,rfl,p,_,_,_,rfl,rfl,aV.of hp,g0 _ _ _,_,rfl,_,_,rfl,rfl,⟨m0,by lia⟩,?_⟩;refine⟨_,rfl,p,_,0,0,rfl,rfl,hp,gT (j:=0) (by show 0<3;decide),?_⟩;refine⟨_,rfl,?_⟩;exact q _ _ (i7 _ (by lia)) (l5 _ m0) aH.upd ⟨_,_,_,af,Int.ediv_nonneg a0 (by lia),⟨b0,b1⟩,⟨c0,c1⟩⟩
  .refine⟨_,rfl,p,_,_,_,rfl,rfl,aV.of hp,g1 _ _ _,_,_,rfl,rfl,.inl ⟨by lia,by lia⟩,_,_,rfl,rfl,_,_,rfl,rfl,(by show (0:Int)<2147483647;decide),?_⟩;refine⟨_,rfl,p,_,1,1,rfl,rfl,hp,gT (j:=1) (by show 1<3;decide),?_⟩;have u0:0<=(b*48271+11) % 2147483647:=i7 _ (by decide);have u1:(b*48271+11) % 2147483647<2147483647:=l5 _ (by decide);have QE:(upd H p (.lst [.int a,.int ((b*48271+11) % 2147483647),.int c])) p=some (.lst [.int a,.int ((b*48271+11) % 2147483647),.int c]):=af;refine⟨_,rfl,p,_,_,_,rfl,rfl,aV.of QE,g2 _ _ _,_,_,rfl,rfl,.inl ⟨by lia,by lia⟩,_,_,rfl,rfl,_,_,rfl,rfl,(by show (0:Int)<2147483579;decide),?_⟩;refine⟨_,rfl,p,_,2,2,rfl,rfl,QE,gT (j:=2) (by show 2<3;decide),?_⟩;have v0:0<=(c*39373+17) % 2147483579:=i7 _ (by decide);have v1:(c*39373+17) % 2147483579<2147483579:=l5 _ (by decide);have Tk:(upd (upd H p (.lst [.int a,.int ((b*48271+11) % 2147483647),.int c])) p (.lst [.int a,.int ((b*48271+11) % 2147483647),.int ((c*39373+17) % 2147483579)])) p=some (.lst [.int a,.int ((b*48271+11) % 2147483647),.int ((c*39373+17) % 2147483579)]):=af;refine⟨_,rfl,p,_,_,_,rfl,rfl,aV.of Tk,g1 _ _ _,_,rfl,p,_,_,_,rfl,rfl,aV.of Tk,g2 _ _ _,_,_,rfl,rfl,.inl ⟨by lia,by lia⟩,_,rfl,p,_,_,_,rfl,rfl,aV.of Tk,g1 _ _ _,_,rfl,p,_,_,_,rfl,rfl,aV.of Tk,g1 _ _ _,_,_,rfl,rfl,.inl ⟨by lia,by lia⟩,_,_,rfl,rfl,_,_,rfl,rfl,(by show (0:Int)<2147483563;decide),_,_,rfl,rfl,⟨by decide,by decide⟩,_,rfl,_,_,rfl,rfl,m0,?_⟩;exact q _ _ (i7 _ (by lia)) (l5 _ m0) (aH.trans aH.upd aH.upd) ⟨_,_,_,Tk,a0,⟨u0,by lia⟩,⟨v0,by lia⟩⟩
end
theorem PO.fK{H H':Hp}{p:Addr}{zs:Zs}(h:PO H zs)(s:aH p H H')(hp:bn H p):PO H' zs:=fun z hz=>s _ _ (h z hz) (hp.neT (h z hz))
theorem G6{K:PySem.W.Frag}{H:Hp}{l:Addr}{zs:Zs}{Q:VK}(hl:H l=some (.lst (zr zs)))(ho:PO H zs)(hz:zs.length<=4096)(q:∀ (D:Addr) (qc:Zs),H D=none->qc.Perm zs->Q (.ref D) (upd H D (.lst (zr qc)))):AW K [.ref l] H Q:=by
 refine⟨l,zs.map (·.1),rfl,aV.of (by rw[<-kK];exact hl),fun a ha=>?_,by rw[aI];exact hz,fun D v9 hD hp=>?_⟩
 .obtain⟨z,hz,rfl⟩:=aX.mp ha;exact⟨_,_,bW.of (ho z hz)⟩
 .obtain⟨qc,h1,rfl⟩:=uw ho hp;rw[<-kK];exact q D qc hD h1
theorem oO{lo:Int}{n:Nat}{D:Addr}{g:TG}{tt:TT}{te:TE}{dE:Hp->Prop}{σB:St}{H0:Hp}(F:Nat->Int×Int)(bU:St->Prop)(hD:H0 D=none)(hn:n<=100000)(h0:bU σB)(hs:∀i σ H (R:V->St->Hp->Prop) (Kf:St->Hp->Prop),i<n->bU σ->aA H0 H->(∀σ2 p,bU σ2->H p=none->R (.ref p) σ2 (upd H p (tj (F i))))->g (.int (lo+i)) σ H fun σ2 H2=>tt σ2 H2 fun b H3=>if b=true then te σ2 H3 fun v H4=>R v σ2 H4 else Kf σ2 H3)(hd:∀zs H,aA H0 H->H D=some (.lst (zr zs))->PO H zs->zp zs=(List.range n).map F->dE H):gu (Iz lo n) g tt te D dE σB (upd H0 D (.lst [])):=by
 refine dh (fun i ys σ H=>bU σ/\aA H0 H/\H D=some (.lst ys)/\∃zs:Zs,ys=zr zs/\PO H zs/\zp zs=(List.range i).map F) ⟨h0,ah hD,af,[],rfl,PO.nil,rfl⟩ ?_ ?_
 .rintro i ys σ H Kt Kf hi ⟨sh,sm,ir,zs,rfl,po,ep⟩ kt kf;have hl:zs.length=i:=by rw[<-bR,ep,aI,dq]
  refine hs i σ H Kt Kf hi sh sm (fun σ2 p tm hp=>?_)
  .have nD:D≠p:=aj ir hp;refine kt _ _ _ (by rw[ao nD];exact ir) (by rw[cY,hl];exact b_ hi (a9 hn (by decide))) ⟨tm,bf (sm.trans (ah hp)) hD,af,zs++[(p,F i)],?_,?_,?_⟩
   .rw[dB];rfl
   .refine PO.putL (xs:=zr zs) ?_ (by rw[ao nD];exact ir);exact(po.putN hp).append (PO.one af)
   .rw[cG,ep,jI,bT];rfl
 .rintro ys σ H ⟨_,sm,ir,zs,rfl,po,ep⟩;exact hd zs H sm ir po ep
theorem uB{K:PySem.W.Frag}{a D:Addr}{zs0:Zs}{g:TG}{tt:TT}{te:TE}{dE:Hp->Prop}{σB:St}{H0:Hp}(F:Int×Int->Int×Int)(bU:St->Prop)(ha:H0 a=some (.lst (zr zs0)))(Ov:PO H0 zs0)(hD:H0 D=none)(hn:zs0.length<=100000)(h0:bU σB)(hs:∀z σ H (R:V->St->Hp->Prop) (Kf:St->Hp->Prop),z∈zs0->bU σ->H z.1=some (tj z.2)->(∀σ2 p,bU σ2->H p=none->R (.ref p) σ2 (upd H p (tj (F z.2))))->g (.ref z.1) σ H fun σ2 H2=>tt σ2 H2 fun b H3=>if b=true then te σ2 H3 fun v H4=>R v σ2 H4 else Kf σ2 H3)(hd:∀zs H,aA H0 H->H D=some (.lst (zr zs))->PO H zs->zp zs=(zp zs0).map F->dE H):gu (Dr K a) g tt te D dE σB (upd H0 D (.lst [])):=by
 refine cP (xs:=zr zs0) (fun i ys σ H=>bU σ/\aA H0 H/\H D=some (.lst ys)/\∃zs:Zs,ys=zr zs/\PO H zs/\zp zs=((zp zs0).take i).map F) ⟨h0,ah hD,af,[],rfl,PO.nil,rfl⟩ (fun i ys σ H _ z=>aV.of (z.2.1 _ _ ha)) ?_ ?_
 .rintro i x ys σ H Kt Kf hx ⟨sh,sm,ir,zs,rfl,po,ep⟩ kt kf;obtain⟨z,hz,rfl⟩:=lT hx;have hi:i<zs0.length:=(dO.mp hz).1;have ux:z∈zs0:=cI hz;have hl:zs.length=i:=by rw[<-bR,ep,aI,jG,bR];lia
  refine hs z σ H Kt Kf ux sh (sm _ _ (Ov z ux)) (fun σ2 p tm hp=>?_)
  .have nD:D≠p:=aj ir hp;refine kt _ _ _ (by rw[ao nD];exact ir) (by rw[cY,hl];exact b_ hi (a9 hn (by decide))) ⟨tm,bf (sm.trans (ah hp)) hD,af,zs++[(p,F z.2)],?_,?_,?_⟩
   .rw[dB];rfl
   .refine PO.putL (xs:=zr zs) ?_ (by rw[ao nD];exact ir);exact(po.putN hp).append (PO.one af)
   .have e2:(zp zs0)[i]?=some z.2:=by unfold zp;rw[bX,hz];rfl
    rw[cG,ep,eZ,e2,jM,bT];rfl
 .rintro ys σ H ⟨_,sm,ir,zs,rfl,po,ep⟩;rw[cY,<-bR,gh] at ep;exact hd zs H sm ir po ep
structure yE(n:Int)(ps:List (Int×Int)):Prop where
 nd:ps.Nodup
 rg:∀p∈ps,(0<=p.1/\p.1<n)/\(0<=p.2/\p.2<n)
 ym:∀h,(ps.map (·.1)).count h=(ps.map (·.2)).count h
structure Wi(n:Int)(ps:List (Int×Int)):Prop where
 nd:ps.Nodup
 rg:∀p∈ps,0<=p.1/\p.1<p.2/\p.2<n
def sw(p:Int×Int):Int×Int:=(p.2,p.1)
theorem lm{α:Type}{a b:List α}(h1:a.Nodup)(h2:b.Nodup)(h3:∀x∈a,x∉b):(a++b).Nodup:=jF.mpr ⟨h1,h2,fun x hx y hy e=>h3 x hx (e ▸ hy)⟩
theorem lV{α β:Type}{f:α->β}{a:List α}(h:a.Nodup)(hf:∀x∈a,∀y∈a,f x=f y->x=y):(a.map f).Nodup:=by
 induction a with
 |nil=>exact i8
 |cons x xs ih=>
  obtain⟨h1,h2⟩:=eG.mp h;rw[d7];refine eG.mpr ⟨fun z=>?_,ih h2 fun y hy z hz=>hf y (cp _ hy) z (cp _ hz)⟩;obtain⟨y,hy,e⟩:=aX.mp z;have:=hf y (cp _ hy) x cg e;exact h1 (this ▸ hy)
theorem KM{a b:Zs}(h:a.Perm b):(zp a).Perm (zp b):=h.map _
theorem lW{α:Type}[DecidableEq α](p:α->Bool):∀ {a b:List α},a.Nodup->(∀x∈a,p x=true->x∈b)->a.countP p<=b.countP p
 |[],_,_,_=>cu _
 |x::xs,b,h,hs=>by
  obtain⟨h1,h2⟩:=eG.mp h;by_cases px:p x=true
  .have hx:x∈b:=hs x cg px;have ih:=lW p (a:=xs) (b:=b.erase x) h2 fun y hy py=>(u5 (fun (e:y=x)=>h1 (e ▸ hy))).mpr (hs y (cp _ hy) py);have e:=(List.perm_cons_erase hx).countP_eq p;rw[e,List.countP_cons_of_pos px,List.countP_cons_of_pos px];lia
  .rw[List.countP_cons_of_neg px];exact lW p h2 fun y hy=>hs y (cp _ hy)
abbrev wz:Stmt:=top 52
def eD(ss:List Int):Int:=ss.foldl (·*·) 1
theorem oP{ss:List Int}{s:Int}:eD (ss++[s])=eD ss*s:=by unfold eD;rw[zN];rfl
structure En(ss:List Int):Prop where
 OQ:ss.length<=5
 two:∀s∈ss,2<=s/\s<=32
 lim:∀i,1<=eD (ss.take i)/\eD (ss.take i)<=32
theorem jk{ns:List Int}{n:Int}:IV ns++[.int n]=IV (ns++[n]):=by unfold IV;rw[bT];rfl
theorem Eo{α:Type}{xs:List α}{x:α}{i:Nat}:(xs++[x]).take i=xs.take i\/(xs++[x]).take i=xs++[x]:=by
 by_cases h:i<=xs.length
 .exact .inl (List.take_append_of_le_length h)
 .exact .inr (mX (by rw[ce];simp;lia))
theorem En.snoc{ss:List Int}{s:Int}(h:En ss)(h5:ss.length<5)(h2:2<=s)(hl:s<=32 / eD ss):En (ss++[s]):=by
 have l0:=h.lim ss.length;rw[gh] at l0;have a1:eD ss*s<=32:=by
  have b1:eD ss*s<=eD ss*(32 / eD ss):=tJ hl (by lia);have b2:=Int.mul_ediv_self_le (x:=32) (k:=eD ss) (by lia);lia
 have a2:1<=eD ss*s:=by
  have:1*s<=eD ss*s:=EG l0.1 (by lia);lia
 have a3:s<=32:=by
  have:1*s<=eD ss*s:=EG l0.1 (by lia);lia
 refine⟨by rw[ce];simp;lia,fun x hx=>?_,fun i=>?_⟩
 .rcases bY.mp hx with z|z
  .exact h.two x z
  .rw[cA.mp z];exact⟨h2,a3⟩
 .rcases Eo (xs:=ss) (x:=s) (i:=i) with e|e
  .rw[e];exact h.lim i
  .rw[e,oP];exact⟨a2,a1⟩
section
variable {P:Program} {w:World} {K:PySem.W.Frag} {mg:Str->Option Value} {base:Heap}
theorem mI:aG ["_law_pot_here","_law_sides_here","_law_area","_law_k"] ["_law_pot_here"] (ak wz):=⟨rfl,rfl,rfl,by decide +kernel,rfl,by decide +kernel,by decide +kernel⟩
def wA:Sp:=fun vs H Q _=>∃ (p:Addr),vs=[.ref p]/\bn H p/\∀ (r:Addr) (ss:List Int) (H':Hp),aH p H H'->bn H' p->H r=none->H' r=some (.tup (IV ss))->En ss->ss≠[]->Q (.ref r) H'
theorem G7{f:Addr}{fd:FuncData}(F:fY K "_law_sides" "_law_sides" wz f fd)(B:Bl mg)(T:cs P w K mg base a7 1 "_law_take" ["_law_pot_here","_law_many"] jj):bo P w K mg base a7 2 f fd ["_law_pot_here"] wA:=by
 refine F.ok mI (fun vs H Q E h=>?_) (fun dN A outer s H vs Q E hr h=>?_)
 .obtain⟨p,rfl,_⟩:=h;rfl
 .obtain⟨p,rfl,hp,q⟩:=h;have hu:(A.deeper (PyProof.Rows.envOfC "_law_sides" (ak wz) s.heap.objs.size f dN)).units+2<cLine:=by have:=hr.un;lia
  refine⟨_,ai (aE (i:=1) mI.nd rfl (Or.inl rfl) (cf ag))
   (ai (aE (i:=2) mI.nd rfl (Or.inl rfl) aq)
   (ai (dH eI rfl (bq rfl B.range (aa aq ag)) (au (i:=3) mI.nd rfl (Or.inl rfl))
    (ap (de (PW.pt (nV (aQ xB (pv 2) aq (aS _)) (md (PW.pt (xw (aQ (AL (e:=mh) hu) (pv 1) (cf ag) (aS _)) (qZ (aQ BQ (aF T hr aK (aa (pv 0) (aa aq ag))) aq (aS _))))))))
     (ai (cr (gK gH jv ju cM (pv 1) (aa (aP cx aq (aF T hr aK (aa (pv 0) (aa (aD (kG rfl) (by rfl) B.min uU (aa aq (aa (aP iH (aP vB aq (pv 2)) aq) ag))) ag)))) ag)))
     (ap (aE (i:=2) mI.nd rfl (Or.inl rfl) (aP fw (pv 2) (aL aJ (pv 1) (BL vC aq) (fun _ _=>rfl))))))
     bE)))
   (ap (aR (cB dg (by rfl) B.tup o9 (aa (pv 1) ag)))))),?_⟩
  refine⟨by show 0<=sizeLine;decide,fun D hD=>?_⟩;have y6:D≠p:=hp.ne hD;refine⟨_,rfl,by decide,by decide,dX (lo:=0) (n:=5) (fun i σ H2=>(∃v ss,σ=[some (.ref p),some (.ref D),some (.int (eD ss)),v]/\H2 D=some (.lst (IV ss))/\En ss/\ss.length<=i/\(1<=i->ss≠[]))/\aH p H H2/\bn H2 p) ?_ ?_ ?_⟩
  .exact⟨⟨_,[],rfl,af,⟨by decide,fun s hs=>(nomatch hs),fun i=>by rw[List.take_nil];decide⟩,by decide,fun z=>absurd z (by decide)⟩,aH.of (ah hD),hp.same (ah hD)⟩
  .rintro i σ H2 hi ⟨⟨v,ss,rfl,hX,sd,sl,M7⟩,se,po⟩;have l0:=sd.lim ss.length;rw[gh] at l0;refine Bd (fun Hc=>aH p H Hc/\bn Hc p/\Hc D=some (.lst (IV ss))/\eD ss<=16) (fun Hc=>aH p H Hc/\bn Hc p/\Hc D=some (.lst (IV ss))/\ss≠[]) ?_ ?_ ?_
   .rintro H3 ⟨uC,qg,h9,YL⟩;have d1:2<=32 / eD ss:=by
     rw[Int.le_ediv_iff_mul_le (by lia)];lia
    refine⟨_,rfl,.inl ⟨rfl,_,aV.of h9⟩,_,rfl,_,rfl,_,_,rfl,rfl,⟨by lia,by lia⟩,_,_,rfl,rfl,_,_,rfl,p,_,rfl,?_,?_,qg,fun d H4 d0 d1' G8 sJ=>?_⟩
    .show 0<(if (32 / eD ss-1:Int)<7 then (32 / eD ss-1:Int) else 7);split <;> lia
    .show (if (32 / eD ss-1:Int)<7 then (32 / eD ss-1:Int) else 7)<1000000;split <;> lia
    have d2:d<32 / eD ss-1:=by
     have:d<(if (32 / eD ss-1:Int)<7 then (32 / eD ss-1:Int) else 7):=d1';split at this <;> lia
    have kO:=G8 _ _ h9 y6;refine⟨_,_,rfl,rfl,D,_,_,rfl,rfl,kO,by rw[aI];exact eY sd.OQ (by decide),?_⟩;refine⟨_,rfl,_,rfl,_,rfl,D,_,_,_,rfl,rfl,aV.of af,re _ _,_,_,rfl,rfl,.inl ⟨by lia,by lia⟩,?_⟩;refine⟨⟨_,ss++[2+d],by rw[oP];rfl,by rw[af,jk],sd.snoc (by lia) (by lia) (by lia),by rw[ce];simp;lia,fun _=>by simp⟩,eB (uC.trans G8) hD,sJ.put y6.symm⟩
   .rintro H3 ⟨uC,qg,h9,og⟩;exact⟨⟨_,ss,rfl,h9,sd,by lia,fun _=>og⟩,uC,qg⟩
   .intro Y N y n;refine⟨_,rfl,_,_,rfl,rfl,_,rfl,?_⟩;refine eA (fun e=>?_) (fun e=>uv (n _ ⟨se,po,hX,fun z=>e (by subst z;rfl)⟩));have YL:eD ss<=16:=dk e;refine⟨_,rfl,by show 0<=sizeLine;decide,fun L0 v_=>⟨D,L0,_,_,rfl,rfl,aV.of (ah v_ _ _ hX),aV.of af,fun i _ hi=>absurd hi (by simp),_,rfl,?_⟩⟩;have uC:aH p H (upd H2 L0 (.lst [])):=se.trans (aH.of (ah v_));have qg:bn (upd H2 L0 (.lst [])) p:=po.same (ah v_);have h9:(upd H2 L0 (.lst [])) D=some (.lst (IV ss)):=ah v_ _ _ hX;revert uC qg h9;generalize upd H2 L0 (.lst [])=H3;intro uC qg h9;refine eA (fun e=>rW (y _ ⟨uC,qg,h9,YL⟩)) (fun e=>?_);refine⟨_,rfl,p,_,rfl,by decide,by decide,qg,fun d H4 d0 d1' G8 sJ=>⟨_,_,rfl,rfl,_,rfl,?_⟩⟩;exact eA (fun _=>y _ ⟨uC.trans G8,sJ,G8 _ _ h9 y6,YL⟩) (fun _=>n _ ⟨uC.trans G8,sJ,G8 _ _ h9 y6,fun z=>e (by subst z;rfl)⟩)
  .rintro σ H2 ⟨⟨v,ss,rfl,hX,sd,sl,M7⟩,se,po⟩;refine⟨_,rfl,D,_,rfl,.inl ⟨aV.of hX,fun r fQ=>?_⟩⟩;exact q r ss _ (se.trans (aH.of (ah fQ))) (po.same (ah fQ)) (se.free po.full fQ) af sd (M7 (by decide))
end
open PySem L2 gw
abbrev OR:Stmt:=top 53
theorem G9:(["_law_one","_law_other","_law_many","_law_k"]:List Str).Nodup:=by decide +kernel
theorem YM:(["_law_house","_law_many"]:List Str).Nodup:=by decide +kernel
structure Ep(m q:Int)(ps:List (Int×Int)):Prop where
 nd:ps.Nodup
 rg:∀p∈ps,0<=p.1/\p.1<p.2/\p.2<q/\p.2-p.1<m
theorem Ep.add{m q:Int}{ps Th:List (Int×Int)}(h:Ep m q ps)(h0:Wi m Th)(q0:0<=q):Ep m (q+m) (ps++Th.map fun p=>(p.1+q,p.2+q)):=by
 refine⟨lm h.nd (lV h0.nd fun x _ y _ e=>?_) fun x hx hy=>?_,fun p hp=>?_⟩
 .have e1:x.1+q=y.1+q:=congrArg Prod.fst e;have e2:x.2+q=y.2+q:=congrArg Prod.snd e;exact dY (by lia) (by lia)
 .obtain⟨y,QR,rfl⟩:=aX.mp hy;have a1:=h.rg _ hx;have a2:=h0.rg y QR;dsimp only at a1;lia
 .rcases bY.mp hp with z|z
  .have:=h.rg p z;by_cases hm:0<=m
   .lia
   .lia
  .obtain⟨y,QR,rfl⟩:=aX.mp z;have a2:=h0.rg y QR;dsimp only;lia
theorem Ep.all{m q:Int}{n:Nat}{ps:List (Int×Int)}(h:Ep m q ps)(m0:0<m)(hn:(n:Int)+m=q):Wi q (ps++(List.range n).map fun (h:Nat)=>((h:Int),(h:Int)+m)):=by
 refine⟨lm h.nd (lV iy fun x _ y _ e=>?_) fun x hx hy=>?_,fun p hp=>?_⟩
 .have e1:(x:Int)=y:=congrArg Prod.fst e;lia
 .obtain⟨y,QR,rfl⟩:=aX.mp hy;have a1:=h.rg _ hx;dsimp only at a1;lia
 .rcases bY.mp hp with z|z
  .have:=h.rg p z;lia
  .obtain⟨y,QR,rfl⟩:=aX.mp z;have:=bK.mp QR;dsimp only;lia
section
variable {P:Program} {w:World} {K:PySem.W.Frag} {mg:Str->Option Value} {base:Heap}
def nN(ss:List Int):List Nat:=ss.map Int.toNat
theorem uD{s:Int}:∀ {ss:List Int} {a:Int},ss.foldl (·*·) (a*s)=s*ss.foldl (·*·) a
 |[],a=>Int.mul_comm _ _
 |t::ss,a=>by
  show ss.foldl (·*·) (a*s*t)=s*ss.foldl (·*·) (a*t);rw[show a*s*t=a*t*s by rw[Ac,Int.mul_comm s,<-Ac]];exact uD
theorem wB:∀ {ss:List Int},(∀s∈ss,0<=s)->eD ss=((pr (nN ss):Nat):Int)
 |[],_=>rfl
 |s::ss,h=>by
  have ih:=wB (ss:=ss) fun x hx=>h x (cp _ hx);have h0:=h s cg;show ss.foldl (·*·) (1*s)=((s.toNat*pr (nN ss):Nat):Int);rw[uD,vi,<-ih,lY h0];rfl
theorem KO{ss:List Int}{i:Nat}{s:Int}(h:ss[i]?=some s):nN (ss.take (i+1))=nN (ss.take i)++[s.toNat]:=by
 unfold nN;rw[eZ,h,jM,bT];rfl
theorem mJ:aG ["_law_sides_here","_law_many","_law_pairs","_law_side","_law_layers","_law_k"] ["_law_sides_here"] (ak OR):=⟨rfl,rfl,rfl,by decide +kernel,rfl,by decide +kernel,by decide +kernel⟩
def G_:Sp:=fun vs H Q _=>∃ (a:Addr) (ss:List Int),vs=[.ref a]/\H a=some (.tup (IV ss))/\En ss/\ss≠[]/\∀ (r L:Addr) (n:Int) (zs:Zs) (H':Hp),aA H H'->H' r=some (.tup [.int n,.ref L])->H' L=some (.lst (zr zs))->H L=none->PO H' zs->Wi n (zp zs)->zs.length<=160->1<=n->n<=32->bD n.toNat (di (zp zs))->Q (.ref r) H'
theorem OS{f:Addr}{fd:FuncData}(F:fY K "_law_box_pairs" "_law_box_pairs" OR f fd)(B:Bl mg):bo P w K mg base a7 1 f fd ["_law_sides_here"] G_:=by
 refine F.ok mJ (fun vs H Q E h=>?_) (fun dN A outer s H vs Q E hr h=>?_)
 .obtain⟨a,ss,rfl,_⟩:=h;rfl
 .obtain⟨a,ss,rfl,ha,sd,M7,q⟩:=h;have ge0:∀s∈ss,0<=s:=fun s hs=>by have:=sd.two s hs;lia
  refine'⟨_,ai (aE (i:=1) mJ.nd rfl (Or.inr rfl) aq)
   (ai (aE (i:=2) mJ.nd rfl (Or.inl rfl) (cf ag))
   (ai (dH eI rfl (vA (pv 0)) (au (i:=3) mJ.nd rfl (Or.inl rfl))
    (ai (aE (i:=4) mJ.nd rfl (Or.inl rfl) (cf ag))
    (ai (dH eI rfl (bq rfl B.range (aa (pv 3) ag)) (au (i:=5) mJ.nd rfl (Or.inr rfl))
     (ap (aE (i:=4) mJ.nd rfl (Or.inl rfl) (aP je (pv 4) ?c1))))
    (ai (aE (i:=2) mJ.nd rfl (Or.inl rfl) (aP je (pv 4) ?c2))
    (ap (aE (i:=1) mJ.nd rfl (Or.inr rfl) (aP fw (pv 1) (pv 3))))))))
   (ap (aR (eK (aa (pv 1) (aa (pv 2) ag))))))),?_⟩
  case c1=>
   refine' bz (g:=q9 K 2 (eO (be 0) (eO (be 1) q8))) (te:=xC (aZ (eU (rb fun i j=>.int (i+j)) (aB 0) (eU (rI Fb fun i j=>.int (i*j)) (aB 2) (aB 3))) (aZ (eU (rb fun i j=>.int (i+j)) (aB 1) (eU (rI Fb fun i j=>.int (i*j)) (aB 2) (aB 3))) fg))) (NB:=["_law_one","_law_other","_law_many","_law_k"]) (src:=[none,none,some 1,some 5]) (a_ (by kernel_rfl)) rfl
    (bA (pv 2)) ?g ?t ?e
   case g=>exact fun cl C s₃ H₃ fp=>fv (n:=2) rfl (bb (au (i:=0) G9 rfl (Or.inl rfl) (Or.inr rfl)) (bb (au (i:=1) G9 rfl (Or.inl rfl) (Or.inr rfl)) dG))
   case t=>exact fun cl C s₃ H₃ fp=>b8
   case e=>exact fun cl C s₃ H₃ fp=>eK (aa (aP cx (pv 0) (aP fw (pv 2) (pv 3))) (aa (aP cx (pv 1) (aP fw (pv 2) (pv 3))) ag))
  case c2=>
   refine' bz (g:=be 0) (te:=xC (aZ (aB 0) (aZ (eU (rb fun i j=>.int (i+j)) (aB 0) (aB 1)) fg))) (NB:=["_law_house","_law_many"]) (src:=[none,some 1]) (a_ (by kernel_rfl)) rfl
    (bq rfl B.range (aa (aP fw (pv 1) (aP iH (pv 3) aq)) ag)) ?g ?t ?e
   case g=>exact fun cl C s₃ H₃ fp=>au (i:=0) YM rfl (Or.inl rfl) (Or.inr rfl)
   case t=>exact fun cl C s₃ H₃ fp=>b8
   case e=>exact fun cl C s₃ H₃ fp=>eK (aa (pv 0) (aa (aP cx (pv 0) (pv 1)) ag))
  refine⟨by show 0<=sizeLine;decide,fun D hD=>?_⟩;refine⟨_,rfl,a,rfl,⟨_,bW.of (by rw[ao (aj ha hD)];exact ha)⟩,BK (K:=K) (a:=a) (xs:=IV ss) (fun i σ H2=>(∃L v3 v4 v5 zs,σ=[some (.ref a),some (.int (eD (ss.take i))),some (.ref L),v3,v4,v5]/\H2 L=some (.lst (zr zs))/\H L=none/\PO H2 zs/\Wi (eD (ss.take i)) (zp zs)/\(zs.length:Int)<=i*eD (ss.take i)/\QQ (nN (ss.take i)) (zp zs))/\aA H H2)
   ⟨⟨D,_,_,_,[],rfl,af,hD,PO.nil,⟨i8,fun p hp=>(nomatch hp)⟩,by simp,KL⟩,ah hD⟩ (fun i σ H2 _ z=>bW.of (z.2 _ _ ha)) ?_ ?_⟩
  .rintro i x σ H2 hx ⟨⟨L,v3,v4,v5,zs,rfl,hL,hLn,po,Wj,zl,bp⟩,sm⟩;obtain⟨pP,hs',rfl⟩:∃s,ss[i]?=some s/\x=.int s:=by
    rw[bX] at hx;cases e:ss[i]? with
    |none=>rw[e] at hx;cases hx
    |some s=>rw[e] at hx;exact⟨s,rfl,(bh hx).symm⟩
   have hi:i<ss.length:=(dO.mp hs').1;have pF:=sd.two pP (cI hs');have lim:=sd.lim i;have YN:=sd.lim (i+1);have ep:eD (ss.take (i+1))=eD (ss.take i)*pP:=by rw[eZ,hs',jM,oP]
   rw[ep] at YN;rw[ep];have h5:=sd.OQ;have pos:∀x∈nN (ss.take i),0<x:=fun x hx=>by
    obtain⟨y,hy,rfl⟩:=aX.mp hx;have:=sd.two y (jK hy);lia
   have mp:eD (ss.take i)=((pr (nN (ss.take i)):Nat):Int):=wB fun x hx=>ge0 x (jK hx);rw[KO hs'];generalize ue:nN (ss.take i)=ns at *;generalize hm:eD (ss.take i)=m at *;have Wk:zs.length<=160:=by
    have:(i:Int)*m<=5*32:=by
     have a1:(i:Int)*m<=i*32:=tJ lim.2 (by lia);lia
    lia
   refine⟨by show 0<=sizeLine;decide,fun D1 Er=>?_⟩;have hLD:L≠D1:=aj hL Er;refine⟨_,rfl,pP,rfl,by lia,by lia,dX (lo:=0) (n:=pP.toNat) (fun k σ H3=>(∃L1 v5 Hf,σ=[some (.ref a),some (.int m),some (.ref L),some (.int pP),some (.ref L1),v5]/\H3 L1=some (.lst (zr Hf))/\H2 L1=none/\PO H3 Hf/\Ep m (m*k) (zp Hf)/\Hf.length=k*zs.length/\KJ ns k (zp Hf))/\aA H2 H3)
    ⟨⟨D1,_,[],rfl,af,Er,PO.nil,⟨i8,fun p hp=>(nomatch hp)⟩,by simp,KJ.zero⟩,ah Er⟩ ?_ ?_⟩
   .rintro k σ H3 hk ⟨⟨L1,YO,Hf,rfl,A1,YQ,KP,ly,Tn,lp⟩,mU⟩;rw[fm];have k32:k<32:=by lia
    have YR:Hf.length<=32*160:=by rw[Tn];exact qI (by lia) Wk
    refine⟨_,rfl,_,rfl,L,rfl,⟨_,aV.of (mU _ _ hL)⟩,fun D2 hX=>?_⟩;refine uB (K:=K) (zs0:=zs) (fun p=>(p.1+m*k,p.2+m*k)) (fun σ=>∃u v,σ=[u,v,some (.int m),some (.int k)]) (mU _ _ hL) (po.same mU) hX (by lia) ⟨_,_,rfl⟩ ?_ ?_
    .rintro z σ H4 R Kf hz ⟨u,v,rfl⟩ OT kt;refine⟨_,_,rfl,bW.of OT,rfl,_,_,rfl,_,_,rfl,rfl,?_⟩;exact⟨_,rfl,_,rfl,_,rfl,_,_,rfl,rfl,.inl ⟨by lia,by lia⟩,_,_,rfl,rfl,_,rfl,_,rfl,_,rfl,_,_,rfl,rfl,.inl ⟨by lia,by lia⟩,_,_,rfl,rfl,by show 2<=sizeLine;decide,fun p hp=>kt _ p ⟨_,_,rfl⟩ hp⟩
    .rintro tw H4 eS kO sJ ez;have xI:tw.length=zs.length:=by rw[<-bR,ez,aI,bR]
     refine⟨L1,D2,_,_,rfl,rfl,eS _ _ A1,kO,by rw[cY,cY];exact a9 (show _<=32*160+160 by lia) (by decide),fun r fQ=>?_⟩;refine⟨⟨r,_,Hf++tw,rfl,by rw[af,dB],(mU.trans eS).free fQ,((KP.same eS).append sJ).putN fQ,?_,?_,?_⟩,(mU.trans eS).trans (ah fQ)⟩
     .rw[cG,ez];have e:m*((k+1:Nat):Int)=m*k+m:=by rw[z9,Int.mul_add];simp
      rw[e];exact ly.add Wj (Int.mul_nonneg (by lia) (by lia))
     .rw[ce,Tn,xI,Nat.succ_mul]
     .rw[cG,ez];have:=lp.add pos bp;rw[show m*(k:Int)=ci (pr ns*k) by rw[mp];exact(vi _ _).symm];exact this
   .rintro σ H3 ⟨⟨L1,YO,Hf,rfl,A1,YQ,KP,ly,Tn,lp⟩,mU⟩;have es:(pP.toNat:Int)=pP:=by lia
    have em:m*(pP-1)+m=m*pP:=by rw[Int.mul_sub];lia
    have e0:0<=m*(pP-1):=Int.mul_nonneg (by lia) (by lia);rw[es] at ly;refine⟨_,rfl,_,rfl,_,rfl,_,_,rfl,rfl,_,_,rfl,rfl,.inl ⟨by lia,by lia⟩,_,rfl,by lia,by lia,fun D2 hX=>?_⟩;refine oO (lo:=0) (fun h=>((h:Int),(h:Int)+m)) (fun σ=>∃u,σ=[u,some (.int m)]) hX (by lia) ⟨_,rfl⟩ ?_ ?_
    .rintro j σ H4 R Kf hj ⟨u,rfl⟩ eS kt;rw[fm];exact⟨_,rfl,_,rfl,_,rfl,_,_,rfl,rfl,by show 2<=sizeLine;decide,fun p hp=>kt _ p ⟨_,rfl⟩ hp⟩
    .rintro tw H4 eS kO sJ ez;have xI:tw.length=(m*(pP-1)).toNat:=by rw[<-bR,ez,aI,dq]
     have YR:Hf.length<=32*160:=by rw[Tn];exact qI (by lia) Wk
     refine⟨L1,D2,_,_,rfl,rfl,eS _ _ A1,kO,by rw[cY,cY];exact a9 (show _<=32*160+160 by lia) (by decide),fun r fQ=>?_⟩;refine⟨_,rfl,_,rfl,_,_,rfl,rfl,.inl ⟨by lia,by lia⟩,?_⟩;refine⟨⟨r,_,_,_,Hf++tw,rfl,by rw[af,dB],((sm.trans mU).trans eS).free fQ,((KP.same eS).append sJ).putN fQ,?_,?_,?_⟩,((sm.trans mU).trans eS).trans (ah fQ)⟩
     .rw[cG,ez];exact ly.all (by lia) (by lia)
     .rw[ce,Tn,xI];have b1:((pP.toNat*zs.length:Nat):Int)<=i*(m*pP):=by
       rw[vi,es];have b2:pP*(zs.length:Int)<=pP*(i*m):=tJ zl (by lia);have b3:pP*(i*m)=i*(m*pP):=by rw[Int.mul_comm pP,Ac]
       lia
      have b4:((i+1:Nat):Int)*(m*pP)=i*(m*pP)+m*pP:=by rw[z9,Int.add_mul];simp
      rw[b4];lia
     .rw[cG,ez];have e1:(m*(pP-1)).toNat+pr ns=pr ns*pP.toNat:=by
       have:(((m*(pP-1)).toNat+pr ns:Nat):Int)=((pr ns*pP.toNat:Nat):Int):=by
        rw[z9,vi,lY e0,es,<-mp];exact em
       exact dt this
      have:=lp.box pos (by lia) e1;rw[show ci (pr ns)=m from mp.symm] at this;exact this
  .rintro σ H2 ⟨⟨L,v3,v4,v5,zs,rfl,hL,hLn,po,Wj,zl,bp⟩,sm⟩;have lim:=sd.lim (IV ss).length;have h5:=sd.OQ;have Wk:zs.length<=160:=by
    have a0:(IV ss).length<=5:=by rw[aI];exact h5
    have a1:((IV ss).length:Int)*eD (ss.take (IV ss).length)<=(IV ss).length*32:=tJ lim.2 (by lia);lia
   refine⟨_,rfl,_,rfl,by show 2<=sizeLine;decide,fun r fQ=>?_⟩;refine q r L _ zs _ (sm.trans (ah fQ)) af (ah fQ _ _ hL) hLn (po.putN fQ) Wj Wk lim.1 lim.2 ?_;have e:ss.take (IV ss).length=ss:=by rw[aI,gh]
   rw[e] at bp lim |-;have mp:=wB ge0;rw[mp,fT];refine bp.iK Wj.nd (fun x hx=>?_) (fun z=>M7 (List.map_eq_nil_iff.mp z)) (by lia);obtain⟨y,hy,rfl⟩:=aX.mp hx;have:=sd.two y hy;lia
end
abbrev Hg:Stmt:=top 54
abbrev CU:Stmt:=top 55
theorem To:(["_law_pair"]:List Str).Nodup:=by decide +kernel
theorem Tp{ns:List Int}{k:Nat}(h:k<ns.length):sF (IV ns) (k:Int)=some (.int (ns.getD k 0)):=by
 refine az ?_;rw[bX,cH h,bv,cH h];rfl
theorem CV{ns:List Int}:(IV ns).all eQ=true:=by
 rw[i6];intro v hv;obtain⟨j,_,rfl⟩:=aX.mp hv;rfl
theorem Hh{α:Type}{xs:List α}{d:α}{k:Nat}(h:k<xs.length):xs.getD k d∈xs:=by
 rw[bv,cH h];exact fV h
theorem tD:(["_law_other","_law_tied"]:List Str).Nodup:=by decide +kernel
theorem yF{α:Type}{x:α}:∀ {k:Nat},(List.replicate k [x]).flatten=List.replicate k x
 |0=>rfl
 |k+1=>by rw[lr,qB,yF,lr];rfl
theorem uE{A B:Prop}{b:Bool}(hb:b=true)(h:A):if b=true then A else B:=by rw[am hb];exact h
theorem km{A B:Prop}{b:Bool}(hb:b=false)(h:B):if b=true then A else B:=by rw[if_neg (by rw[hb];decide)];exact h
theorem CW{lo:Int}{n:Nat}{D:Addr}{g:TG}{tt:TT}{te:TE}{dE:Hp->Prop}{σB:St}{H0:Hp}(c:Nat->Bool)(bU:St->Prop)(hD:H0 D=none)(hn:n<=1000)(h0:bU σB)(hs:∀x σ H (Kt:V->St->Hp->Prop) (Kf:St->Hp->Prop),x<n->bU σ->aA H0 H->(∀σ2 H2,bU σ2->aA H H2->c x=true->Kt (.int (lo+(x:Nat))) σ2 H2)->(∀σ2 H2,bU σ2->aA H H2->c x=false->Kf σ2 H2)->
   g (.int (lo+(x:Nat))) σ H fun σ2 H2=>tt σ2 H2 fun b H3=>if b=true then te σ2 H3 fun v H4=>Kt v σ2 H4 else Kf σ2 H3)(hd:∀H,aA H0 H->H D=some (.lst (((List.range n).filter c).map fun (x:Nat)=>V.int (lo+(x:Int))))->dE H):gu (Iz lo n) g tt te D dE σB (upd H0 D (.lst [])):=by
 refine dh (fun i ys σ H=>bU σ/\aA H0 H/\H D=some (.lst ys)/\ys=((List.range i).filter c).map fun (x:Nat)=>V.int (lo+(x:Int))) ⟨h0,ah hD,af,rfl⟩ ?_ ?_
 .rintro i ys σ H Kt Kf hi ⟨sh,sm,ir,rfl⟩ kt kf;refine hs i σ H Kt Kf hi sh sm (fun σ2 H2 tm s2 e=>?_) (fun σ2 H2 tm s2 e=>?_)
  .refine kt _ _ _ (s2 _ _ ir) ?_ ⟨tm,bf (sm.trans s2) hD,af,?_⟩
   .rw[aI];refine eY (fh _ _) ?_;rw[dq];exact b_ (show i<1000 by lia) (by decide)
   .rw[jI,eN,bT];simp[dS,e]
  .refine kf _ _ ⟨tm,sm.trans s2,s2 _ _ ir,?_⟩;rw[jI,eN];simp[dS,e]
 .rintro ys σ H ⟨_,sm,ir,rfl⟩;exact hd H sm ir
theorem Bn:∀ {xs:List Nat} {j x:Nat},(NV xs).set j (.int (x:Int))=NV (xs.set j x)
 |[],_,_=>rfl
 |y::ys,0,x=>rfl
 |y::ys,j+1,x=>congrArg (V.int (y:Int)::·) (Bn (xs:=ys) (j:=j) (x:=x))
theorem jz{xs:List Nat}{j:Nat}(h:j<xs.length):(NV xs)[j]?=some (.int ((xs.getD j 0:Nat):Int)):=by
 unfold NV;rw[bX,bv,cH h];rfl
def fR(n:Nat)(ps:Ts):List Nat:=(List.range n).map fun (h:Nat)=>iO (di ps) (ci h)
theorem iX{n:Nat}{ps:Ts}:(fR n ps).length=n:=by unfold fR;rw[aI,dq]
theorem rZ{n:Nat}{ps:Ts}{h:Nat}(hh:h<n):(fR n ps).getD h 0=iO (di ps) (ci h):=by
 unfold fR;rw[bv,bX,gX hh];rfl
theorem Hi{n:Nat}{ps:Ts}{a b:Nat}(ha:a<n)(hb:b<n)(pN:a≠b):((fR n ps).set a (iO (di ps) (ci a)+1)).set b (iO (di ps) (ci b)+1)=fR n (ps++[(ci a,ci b)]):=by
 have ne:∀x y:Nat,ci x=ci y->x=y:=fun x y e=>dt e;refine ni fun i=>?_;by_cases hi:i<n
 .have g:∀qs:Ts,(fR n qs)[i]?=some (iO (di qs) (ci i)):=fun qs=>by unfold fR;rw[bX,gX hi];rfl
  rw[g,KD,zM,zM,g,jJ,iX];by_cases c1:b=i
  .subst c1;rw[am rfl,am hb,if_neg (fun z=>pN (ne _ _ z)),am rfl,qL]
  .rw[if_neg c1,if_neg (fun z=>c1 (ne _ _ z))];by_cases c2:a=i
   .subst c2;rw[am rfl,am ha,am rfl]
   .rw[if_neg c2,if_neg (fun z=>c2 (ne _ _ z))];rfl
 .rw[eM (by rw[jJ,jJ,iX];lia),eM (by rw[iX];lia)]
theorem Hj{n:Nat}:List.replicate n (V.int 0)=NV (fR n []):=by
 refine ni fun i=>?_;unfold NV fR;rw[dD,uP,bX];by_cases hi:i<n
 .rw[am hi,gX hi];rfl
 .rw[if_neg hi,eM (by rw[dq];lia)];rfl
def mK:Sp:=fun vs H Q _=>∃ (p:Addr) (m:Nat),vs=[.ref p,.int m]/\0<m/\m<1000000/\bn H p/\∀ (d:Nat) (H':Hp),d<m->aH p H H'->bn H' p->Q (.int d) H'
theorem Tq{vs:List V}{H:Hp}{Q:VK}{E:XK}(h:mK vs H Q E):jj vs H Q E:=by
 obtain⟨p,m,rfl,m0,m1,hp,q⟩:=h;refine⟨p,m,rfl,by lia,by lia,hp,fun d H' d0 d1 se pt=>?_⟩;have:=q d.toNat H' (by lia) se pt;rwa [lY d0] at this
section
variable {P:Program} {w:World} {K:PySem.W.Frag} {mg:Str->Option Value} {base:Heap}
theorem oQ:aG ["_law_pot_here","_law_many","_law_pairs","_law_tied","_law_house","_law_some","_law_other"] ["_law_pot_here","_law_many"] (ak Hg):=⟨rfl,rfl,rfl,by decide +kernel,rfl,by decide +kernel,by decide +kernel⟩
def Bo:Sp:=fun vs H Q _=>∃ (p:Addr) (n:Nat),vs=[.ref p,.int n]/\2<=n/\n<=32/\bn H p/\∀ (r:Addr) (zs:Zs) (H':Hp),aH p H H'->bn H' p->H r=none->H' r=some (.lst (zr zs))->PO H' zs->bD n (di (zp zs))->(∀u∈zp zs,u.1<u.2)->zs.length<=32->Q (.ref r) H'
theorem KR{f:Addr}{fd:FuncData}(F:fY K "_law_tree_pairs" "_law_tree_pairs" Hg f fd)(B:Bl mg)(D:cs P w K mg base a7 1 "_law_take" ["_law_pot_here","_law_many"] mK):bo P w K mg base a7 2 f fd ["_law_pot_here","_law_many"] Bo:=by
 refine F.ok oQ (fun vs H Q E h=>?_) (fun dN A outer s H vs Q E hr h=>?_)
 .obtain⟨p,n,rfl,_⟩:=h;rfl
 .obtain⟨p,n,rfl,n1,n2,hp,q⟩:=h;refine'⟨_,(ai (aE (i:=2) oQ.nd rfl (Or.inl rfl) (cf ag))
   (ai (aE (i:=3) oQ.nd rfl (Or.inr rfl) (aP NP (cf (aa aq ag)) (pv 1)))
   (ai (dH eI rfl (Dt rfl B.range (aa aq (aa (pv 1) ag))) (au (i:=4) oQ.nd rfl (Or.inl rfl))
    (ai (dL (i:=5) (g:=(be 0)) (tt:=(iQ (eU (rb fun i j=>.bl (decide (i<j))) (eU (j4 K) (aB 1) (aB 0)) (tC (.int 7))))) (te:=(aB 0)) (NB:=["_law_other","_law_tied"]) (src:=[none,some 3]) (a_ (by kernel_rfl)) rfl (bq rfl B.range (aa (pv 4) ag)) ?g1 ?t1 ?e1 oQ.nd rfl rfl rfl)
    (ai (aE (i:=6) oQ.nd rfl (Or.inl rfl) (aL aJ (pv 5) (aF D hr aK (aa (pv 0) (aa (aD aO (by rfl) B.len dU (aa (pv 5) ag)) ag))) (fun _ _=>rfl)))
    (ai (cr (gK gH jv ju cM (pv 2) (aa (eK (aa (pv 6) (aa (pv 4) ag))) ag)))
    (ai (gb (aP cx (aL aJ (pv 3) (pv 6) (fun _ _=>rfl)) aq) (jb (pv 3) (pv 6) fz))
    (ap (gb (aP cx (aL aJ (pv 3) (pv 4) (fun _ _=>rfl)) aq) (jb (pv 3) (pv 4) fz))))))))
   (ap (aR (pv 2)))))),?_⟩
  case g1=>exact fun cl C s₃ H₃ fp=>(au (i:=0) tD rfl (Or.inl rfl) (Or.inr rfl))
  case t1=>exact fun cl C s₃ H₃ fp=>d8 (aQ jZ (aL aJ (pv 1) (pv 0) (fun _ _=>rfl)) aq (aS _))
  case e1=>exact fun cl C s₃ H₃ fp=>(pv 0)
  refine⟨by show 0<=sizeLine;decide,fun Pr Wl=>?_⟩;have sP:=ah (o:=.lst []) Wl;refine⟨by show 1<=sizeLine;decide,fun L1 A1=>⟨_,rfl,L1,_,_,rfl,rfl,af,by lia,by lia,by rw[fT,o_];exact a9 (show 1*n<=32 by lia) (by decide),fun M hM=>?_⟩⟩;rw[fT,yF,Hj];have s1:=sP.trans (ah (o:=.lst [.int 0]) A1);have s2:=s1.trans (ah (o:=.lst (NV (fR n []))) hM);have gP:(upd (upd (upd H Pr (.lst [])) L1 (.lst [.int 0])) M (.lst (NV (fR n [])))) Pr=some (.lst (zr [])):=ah hM _ _ (ah A1 _ _ af);have gM:(upd (upd (upd H Pr (.lst [])) L1 (.lst [.int 0])) M (.lst (NV (fR n [])))) M=some (.lst (NV (fR n []))):=af;have nPM:Pr≠M:=aj (ah A1 _ _ af) hM;have hMH:H M=none:=s1.free hM;generalize upd (upd (upd H Pr _) L1 _) M _=H0 at *;refine⟨_,rfl,1,(n:Int),rfl,⟨by decide,by decide,by lia,by lia⟩,?_⟩;rw[show ((n:Int)-1).toNat=n-1 by lia];refine dX (lo:=1) (n:=n-1) (fun i σ Hc=>∃zs:Zs,(∃a b c,σ=[some (.ref p),some (.int n),some (.ref Pr),some (.ref M),a,b,c])/\aH p H Hc/\bn Hc p/\Hc Pr=some (.lst (zr zs))/\PO Hc zs/\Hc M=some (.lst (NV (fR n (zp zs))))/\rQ n (List.range n) (i+1) (di (zp zs))/\∀u∈zp zs,u.1<u.2)
   ⟨[],⟨none,none,none,rfl⟩,aH.of s2,hp.same s2,gP,PO.nil,gM,rQ.start (by rw[dq];lia),fun u hu=>nomatch hu⟩ ?_ ?_
  .rintro i σ Hc hi ⟨zs,⟨a,b,c,rfl⟩,sc,Wm,YS,po,YT,Tr,M8⟩;have e1:(1:Int)+(i:Int)=((i+1:Nat):Int):=by lia
   rw[e1];have hzl:zs.length=i:=by have:=Tr.len;rw[wc,bR] at this;lia
   refine⟨_,rfl,((i+1:Nat):Int),rfl,by lia,by lia,fun D1 Er=>?_⟩;rw[show (((i+1:Nat):Int)).toNat=i+1 from rfl];refine CW (lo:=0) (n:=i+1) (fun x=>decide (iO (di (zp zs)) (ci x)<7)) (fun σ=>∃a,σ=[a,some (.ref M)]) Er (by lia) ⟨_,rfl⟩ ?_ ?_
   .rintro x σ H4 Kt Kf hx ⟨a',rfl⟩ eS kt kf;rw[fm] at kt |-;have DN:x<(fR n (zp zs)).length:=by rw[iX];lia
    refine⟨_,rfl,_,rfl,M,_,_,_,rfl,rfl,aV.of (eS _ _ YT),az (jz DN),_,_,rfl,rfl,_,rfl,?_⟩;have ed:=rZ (ps:=zp zs) (show x<n by lia);refine eA (fun e=>?_) (fun e=>?_)
    .exact⟨_,rfl,kt _ _ ⟨_,rfl⟩ (aA.refl _) (cZ (by have:=dk e;lia))⟩
    .exact kf _ _ ⟨_,rfl⟩ (aA.refl _) (d6 (fun z=>e (cZ (by lia))))
   .intro H4 eS kO;have e0:((((List.range (i+1)).filter fun x=>decide (iO (di (zp zs)) (ci x)<7)).map fun (x:Nat)=>V.int (0+(x:Int))))=NV ((List.range (i+1)).filter fun x=>decide (iO (di (zp zs)) (ci x)<7)):=il fun x _=>by rw[fm]
    rw[e0] at kO;obtain⟨h0,Wn,dd0⟩:=Tr.Ti iy (by rw[dq];lia) (by lia);have tk:(List.range n).take (i+1)=List.range (i+1):=by rw[List.take_range,Nat.min_eq_left (by lia)]
    rw[tk] at Wn;have ne:0<((List.range (i+1)).filter fun x=>decide (iO (di (zp zs)) (ci x)<7)).length:=uR (cq.mpr ⟨Wn,cZ dd0⟩);have le:((List.range (i+1)).filter fun x=>decide (iO (di (zp zs)) (ci x)<7)).length<=i+1:=a9 (fh _ _) (by rw[dq];exact aT _);generalize hfs:(List.range (i+1)).filter (fun x=>decide (iO (di (zp zs)) (ci x)<7))=fs at *;have hp4:=Wm.same eS;refine⟨_,rfl,_,rfl,_,rfl,D1,_,rfl,.inl (aV.of kO),p,_,rfl,by rw[bS];exact ne,by rw[bS];lia,hp4,fun d H5 hd s5 hp5=>?_⟩;rw[bS] at hd;have Wo:D1≠p:=Wm.ne Er;have hv:fs[d]?=some fs[d]:=cH hd;refine⟨D1,_,_,_,rfl,rfl,aV.of (s5 _ _ kO Wo),az (jz hd),?_⟩;have hsm:fs.getD d 0∈fs:=by rw[bv,hv];exact fV _
    generalize fs.getD d 0=sv at *;rw[<-hfs] at hsm;obtain⟨DI,pF⟩:=cq.mp hsm;have hsv:sv<i+1:=bK.mp DI;have hsd:iO (di (zp zs)) (ci sv)<7:=dk pF;have nPp:Pr≠p:=hp.ne Wl;have nMp:M≠p:=hp.ne hMH;have YU:=s5 _ _ (eS _ _ YS) nPp;have hM5:=s5 _ _ (eS _ _ YT) nMp;have KS:PO H5 zs:=(po.same eS).fK s5 hp4;refine⟨_,rfl,.inl ⟨rfl,_,aV.of YU⟩,_,rfl,_,rfl,by show 2<=sizeLine;decide,fun t ht=>?_⟩;have st:=ah (o:=tj (ci sv,ci (i+1))) ht;refine⟨Pr,_,_,rfl,rfl,st _ _ YU,by rw[cY,hzl];exact b_ (show i<33 by lia) (by decide),?_⟩;have Tt:(upd (upd H5 t (tj (ci sv,ci (i+1)))) Pr (.lst (zr zs++[.ref t]))) M=some (.lst (NV (fR n (zp zs)))):=by rw[ao nPM.symm];exact st _ _ hM5
    have Tu:sv<(fR n (zp zs)).length:=by rw[iX];lia
    refine⟨_,rfl,_,rfl,M,_,_,_,rfl,rfl,aV.of Tt,az (jz Tu),_,_,rfl,rfl,_,rfl,_,rfl,M,_,(sv:Int),sv,rfl,rfl,Tt,gT (by rw[bS];exact Tu),?_⟩;have e2:(NV (fR n (zp zs))).set sv (V.int ((((fR n (zp zs)).getD sv 0:Nat):Int)+1))=NV ((fR n (zp zs)).set sv (iO (di (zp zs)) (ci sv)+1)):=by
     rw[rZ (by lia)];exact Bn (x:=iO (di (zp zs)) (ci sv)+1)
    have hkn:i+1<((fR n (zp zs)).set sv (iO (di (zp zs)) (ci sv)+1)).length:=by rw[jJ,iX];lia
    have ek:((fR n (zp zs)).set sv (iO (di (zp zs)) (ci sv)+1)).getD (i+1) 0=iO (di (zp zs)) (ci (i+1)):=by
     rw[bv,m6 (by lia),<-bv,rZ (by lia)]
    have hP6:(upd (upd H5 t (tj (ci sv,ci (i+1)))) Pr (.lst (zr zs++[.ref t]))) Pr=some (.lst (zr zs++[.ref t])):=af;have o6:∀b,b≠Pr->(upd (upd H5 t (tj (ci sv,ci (i+1)))) Pr (.lst (zr zs++[.ref t]))) b=(upd H5 t (tj (ci sv,ci (i+1)))) b:=fun b n=>ao n;have po6:PO (upd (upd H5 t (tj (ci sv,ci (i+1)))) Pr (.lst (zr zs++[.ref t]))) (zs++[(t,(ci sv,ci (i+1)))]):=PO.putL (xs:=zr zs) ((KS.same st).append (PO.one af)) (st _ _ YU);generalize upd (upd H5 t (tj (ci sv,ci (i+1)))) Pr _=H6 at *;generalize hH7:upd H6 M _=H7;have gM7:H7 M=some (.lst (NV ((fR n (zp zs)).set sv (iO (di (zp zs)) (ci sv)+1)))):=by rw[<-hH7,af];exact congrArg (fun l=>some (HO.lst l)) e2
    have o7:∀b,b≠M->H7 b=H6 b:=fun b n=>by rw[<-hH7,ao n]
    refine⟨_,rfl,_,rfl,M,_,_,_,rfl,rfl,aV.of gM7,az (jz hkn),_,_,rfl,rfl,_,rfl,_,rfl,M,_,((i+1:Nat):Int),i+1,rfl,rfl,gM7,gT (by rw[bS];exact hkn),?_⟩;generalize hH8:upd H7 M _=H8;have e3:(NV ((fR n (zp zs)).set sv (iO (di (zp zs)) (ci sv)+1))).set (i+1) (V.int (((((fR n (zp zs)).set sv (iO (di (zp zs)) (ci sv)+1)).getD (i+1) 0:Nat):Int)+1))=NV (fR n (zp zs++[(ci sv,ci (i+1))])):=by
     rw[ek,<-Hi (by lia) (by lia) (by lia)];exact Bn (x:=iO (di (zp zs)) (ci (i+1))+1)
    have gM8:H8 M=some (.lst (NV (fR n (zp zs++[(ci sv,ci (i+1))])))):=by rw[<-hH8,af];exact congrArg (fun l=>some (HO.lst l)) e3
    have o8:∀b,b≠M->H8 b=H6 b:=fun b n=>by rw[<-hH8,ao n];exact o7 b n
    have ez:zp (zs++[(t,(ci sv,ci (i+1)))])=zp zs++[(ci sv,ci (i+1))]:=by rw[cG];rfl
    refine⟨zs++[(t,(ci sv,ci (i+1)))],⟨_,_,_,rfl⟩,fun b o e n=>?_,?_,?_,fun z hz=>?_,by rw[ez];exact gM8,?_,fun u hu=>?_⟩
    .rw[o8 _ (aj e hMH),o6 _ (aj e Wl)];exact st _ _ (s5 _ _ (eS _ _ (sc _ _ e n)) n)
    .obtain⟨x,y,z,e,r⟩:=hp5.same st;exact⟨x,y,z,by rw[o8 _ nMp.symm,o6 _ nPp.symm];exact e,r⟩
    .rw[o8 _ nPM,hP6,dB];rfl
    .have g:=po6 z hz;rw[o8 _ (by rintro e;rw[e,Tt] at g;cases g)];exact g
    .rw[ez,ji];exact Tr.add iy (fun x hx=>bK.mp hx) (gX (by lia)) (by rw[tk];exact DI) (vx hsd (by decide))
    .rw[ez] at hu;rcases bY.mp hu with z|z
     .exact M8 u z
     .rw[cA.mp z];show ((sv:Nat):Int)<((i+1:Nat):Int);lia
  .rintro σ Hc ⟨zs,⟨a,b,c,rfl⟩,sc,Wm,YS,po,YT,Tr,M8⟩;rw[show n-1+1=n by lia] at Tr;have zl:=Tr.len;rw[wc,bR] at zl;exact⟨_,rfl,q Pr zs Hc sc Wm Wl YS po (Tr.iK n1 n2 (qJ _)) M8 (by lia)⟩
end
theorem uF{K:PySem.W.Frag}{a D:Addr}{zs0:Zs}{g:TG}{tt:TT}{te:TE}{dE:Hp->Prop}{σB:St}{H0:Hp}(F:Int×Int->Int)(bU:St->Prop)(ha:H0 a=some (.lst (zr zs0)))(Ov:PO H0 zs0)(hD:H0 D=none)(hn:zs0.length<=100000)(h0:bU σB)(hs:∀z σ H (R:V->St->Hp->Prop) (Kf:St->Hp->Prop),z∈zs0->bU σ->H z.1=some (tj z.2)->(∀σ2,bU σ2->R (.int (F z.2)) σ2 H)->g (.ref z.1) σ H fun σ2 H2=>tt σ2 H2 fun b H3=>if b=true then te σ2 H3 fun v H4=>R v σ2 H4 else Kf σ2 H3)(hd:∀H,aA H0 H->H D=some (.lst (IV ((zp zs0).map F)))->dE H):gu (Dr K a) g tt te D dE σB (upd H0 D (.lst [])):=by
 refine cP (xs:=zr zs0) (fun i ys σ H=>bU σ/\aA H0 H/\H D=some (.lst ys)/\ys=IV (((zp zs0).take i).map F)) ⟨h0,ah hD,af,rfl⟩ (fun i ys σ H _ z=>aV.of (z.2.1 _ _ ha)) ?_ ?_
 .rintro i x ys σ H Kt Kf hx ⟨sh,sm,ir,rfl⟩ kt kf;obtain⟨z,hz,rfl⟩:=lT hx;have hi:i<zs0.length:=(dO.mp hz).1;have ux:z∈zs0:=cI hz;refine hs z σ H Kt Kf ux sh (sm _ _ (Ov z ux)) (fun σ2 tm=>?_);refine kt _ _ _ ir (by rw[aI,aI,jG,bR];exact b_ (show _<100001 by lia) (by decide)) ⟨tm,bf sm hD,af,?_⟩;have e2:(zp zs0)[i]?=some z.2:=by unfold zp;rw[bX,hz];rfl
  rw[jk,eZ,e2,jM,bT];rfl
 .rintro ys σ H ⟨_,sm,ir,rfl⟩;rw[cY,<-bR,gh] at ir;exact hd H sm ir
theorem CY{ps:Ts}{h:Int}:((IV (ps.map (·.1)++ps.map (·.2))).countP fun z=>mh z (.int h))=iO (di ps) h:=by
 have e:iO (di ps) h=(ps.map (·.1)).count h+(ps.map (·.2)).count h:=by
  unfold iO;rw[(fJ.filter _).length_eq,eN,ce,dA,dA,dD];rfl
 rw[e,<-List.count_append];unfold IV;rw[z8,List.count_eq_countP];refine zO fun x _=>?_;show (mh (.int x) (.int h)=true)↔((x==h)=true);simp[mh]
theorem Hl{a b:Int}{ns:List Int}(h:ns.Perm [a,b]):∃x y,ns=[x,y]/\(x=a\/x=b)/\(y=a\/y=b):=by
 have hl:=h.length_eq
 match ns,hl with
 |[x,y],_=>
  have h1:=h.mem_iff.mp (show x∈[x,y] by simp);have h2:=h.mem_iff.mp (show y∈[x,y] by simp);simp at h1 h2;exact⟨x,y,rfl,h1,h2⟩
section
variable {P:Program} {w:World} {K:PySem.W.Frag} {mg:Str->Option Value} {base:Heap}
theorem oR:aG ["_law_pot_here","_law_many","_law_pairs","_law_found","_law_k","_law_one","_law_other","_law_tied"] ["_law_pot_here","_law_many","_law_pairs"] (ak CU):=⟨rfl,rfl,rfl,by decide +kernel,rfl,by decide +kernel,by decide +kernel⟩
def Bp:Sp:=fun vs H Q _=>∃ (p l:Addr) (n:Nat) (zs0:Zs),vs=[.ref p,.int n,.ref l]/\bn H p/\H l=some (.lst (zr zs0))/\PO H zs0/\bD n (di (zp zs0))/\(∀u∈zp zs0,u.1<u.2)/\zs0.length<=32/\1<=n/\n<=32/\∀ (L:Addr) (zs:Zs) (H':Hp),aH p H H'->bn H' p->H L=none->H' L=some (.lst (zr zs))->PO H' zs->bD n (di (zp zs))->zs.length<=48->Q (.ref L) H'
theorem KU{f:Addr}{fd:FuncData}(F:fY K "_law_more_pairs" "_law_more_pairs" CU f fd)(B:Bl mg)(T:cs P w K mg base a7 1 "_law_take" ["_law_pot_here","_law_many"] jj):bo P w K mg base a7 2 f fd ["_law_pot_here","_law_many","_law_pairs"] Bp:=by
 refine F.ok oR (fun vs H Q E h=>?_) (fun dN A outer s H vs Q E hr h=>?_)
 .obtain⟨p,l,n,zs0,rfl,_⟩:=h;rfl
 .obtain⟨p,l,n,zs0,rfl,hp,hl,po0,pr0,YV,zl0,n1,QS,q⟩:=h;have hu:(A.deeper (PyProof.Rows.envOfC "_law_more_pairs" (ak CU) s.heap.objs.size f dN)).units+2<cLine:=by have:=hr.un;lia
  refine'⟨_,ai (aE (i:=3) oR.nd rfl (Or.inl rfl) (cB jd (by rfl) B.lst uQ (aa (pv 2) ag)))
   (ai (dH eI rfl (bq rfl B.range (aa (aF T hr aK (aa (pv 0) (aa aq ag))) ag)) (au (i:=4) oR.nd rfl (Or.inl rfl))
    (ai (gb (aD rP (by rfl) B.sorted o5 (aa (cf (aa (aF T hr aK (aa (pv 0) (aa (pv 1) ag))) (aa (aF T hr aK (aa (pv 0) (aa (pv 1) ag))) ag))) ag))
     (J8 rfl (bb (au (i:=5) oR.nd rfl (Or.inl rfl)) (bb (au (i:=6) oR.nd rfl (Or.inl rfl)) dG))))
    (ai (aE (i:=7) oR.nd rfl (Or.inl rfl) (aP je ?c1 ?c2))
    (ap (de (PW.pt (nV (aQ jZ (pv 5) (pv 6) (aS _)) (nV (aQ (um hu) (eK (aa (pv 5) (aa (pv 6) ag))) (pv 3) (by rfl)) (md (aQ jZ (aD (kC rfl) (by rfl) B.max uV (aa (gK gH zi zh rF (pv 7) (aa (pv 5) ag)) (aa (gK gH zi zh rF (pv 7) (aa (pv 6) ag)) ag))) aq (aS _))))))
     (ap (cr (gK gH jv ju cM (pv 3) (aa (eK (aa (pv 5) (aa (pv 6) ag))) ag))))
     bE)))))
   (ap (aR (pv 3)))),?_⟩
  case c1=>
   refine' bz (g:=be 0) (te:=eU (n6 K) (aB 0) (tC (.int 0))) (NB:=["_law_pair"]) (src:=[none]) (a_ (by kernel_rfl)) rfl (bA (pv 3)) ?g ?t ?e;case g=>exact fun cl C s₃ H₃ fp=>au (i:=0) To rfl (Or.inl rfl) (Or.inr rfl)
   case t=>exact fun cl C s₃ H₃ fp=>b8
   case e=>exact fun cl C s₃ H₃ fp=>aL bH (pv 0) aq (fun _ _=>rfl)
  case c2=>
   refine' bz (g:=be 0) (te:=eU (n6 K) (aB 0) (tC (.int 1))) (NB:=["_law_pair"]) (src:=[none]) (a_ (by kernel_rfl)) rfl (bA (pv 3)) ?g ?t ?e;case g=>exact fun cl C s₃ H₃ fp=>au (i:=0) To rfl (Or.inl rfl) (Or.inr rfl)
   case t=>exact fun cl C s₃ H₃ fp=>b8
   case e=>exact fun cl C s₃ H₃ fp=>aL bH (pv 0) aq (fun _ _=>rfl)
  refine⟨_,rfl,l,_,rfl,.inl (aV.of hl),fun D hD=>?_⟩;have y6:D≠p:=hp.ne hD;have KP:=po0.putN (o:=.lst (zr zs0)) hD;have Er:(upd H D (.lst (zr zs0))) D=some (.lst (zr zs0)):=af;have Tv:aH p H (upd H D (.lst (zr zs0))):=aH.of (ah hD);have QT:=hp.same (ah (o:=.lst (zr zs0)) hD);revert KP Er Tv QT;generalize upd H D (.lst (zr zs0))=H1;intro KP Er Tv QT;refine⟨_,rfl,p,_,rfl,by decide,by decide,QT,fun d H2 d0 d12 y7 Ea=>?_⟩;refine⟨d,rfl,by lia,by lia,dX (lo:=0) (n:=d.toNat) (fun i σ Hc=>(∃v4 v5 v6 v7,σ=[some (.ref p),some (.int n),some (.ref l),some (.ref D),v4,v5,v6,v7])/\(∃zs,Hc D=some (.lst (zr zs))/\PO Hc zs/\bD n (di (zp zs))/\(∀u∈zp zs,u.1<u.2)/\zs.length<=32+i)/\aH p H Hc/\bn Hc p) ?_ ?_ ?_⟩
  .exact⟨⟨_,_,_,_,rfl⟩,⟨zs0,y7 _ _ Er y6,KP.fK y7 QT,pr0,YV,by lia⟩,Tv.trans y7,Ea⟩
  .rintro i σ Hc hi ⟨⟨v4,v5,v6,v7,rfl⟩,⟨zs,hz,po,fi,M8,zl⟩,se,pt⟩;refine⟨_,rfl,_,rfl,p,_,rfl,by lia,by lia,pt,fun a Ha a0 a1 sea pta=>?_⟩;refine⟨_,rfl,_,rfl,p,_,rfl,by lia,by lia,pta,fun b Hb b0 b1 seb ptb=>?_⟩;refine⟨by show 2<=sizeLine;decide,fun Lq hLq=>⟨Lq,[a,b],rfl,aV.of af,by show 2<64;decide,fun Ls Eb hLs pm=>?_⟩⟩;obtain⟨x,y,rfl,hx,hy⟩:=Hl pm;have OV:aH p Hc Hb:=sea.trans seb;have mU:aA Hb (upd (upd Hb Lq (.lst (IV [a,b]))) Ls (.lst (IV [x,y]))):=(ah hLq).trans (ah hLs);have RX:(upd (upd Hb Lq (.lst (IV [a,b]))) Ls (.lst (IV [x,y]))) Ls=some (.lst [.int x,.int y]):=af;refine⟨Ls,.int x,.int y,rfl,aV.of RX,_,_,rfl,_,_,rfl,rfl,?_⟩;change I0 _ _ _ _ (upd (upd Hb Lq (.lst (IV [a,b]))) Ls (.lst (IV [x,y])));revert mU RX;generalize upd (upd Hb Lq (.lst (IV [a,b]))) Ls (.lst (IV [x,y]))=H3;intro mU RX;have OW:H3 D=some (.lst (zr zs)):=mU _ _ (OV _ _ hz y6);have qg:PO H3 zs:=(po.fK OV pt).same mU;have uC:aH p H H3:=(se.trans OV).trans (aH.of mU);have KW:bn H3 p:=ptb.same mU;have x0:0<=x/\x<n:=by rcases hx with rfl|rfl <;> lia
   have y0:0<=y/\y<n:=by rcases hy with rfl|rfl <;> lia
   refine⟨_,rfl,D,rfl,⟨_,aV.of OW⟩,fun C1 Wp=>?_⟩;refine uF (K:=K) (zs0:=zs) (·.1) (fun σ=>∃u,σ=[u]) OW qg Wp (by lia) ⟨_,rfl⟩ ?_ ?_
   .rintro z σ H4 R Kf ux ⟨u,rfl⟩ OT kt;exact⟨_,rfl,z.1,_,_,_,rfl,rfl,bW.of OT,az (j:=0) rfl,kt _ ⟨_,rfl⟩⟩
   intro H4 eS YW;refine⟨_,rfl,D,rfl,⟨_,aV.of (eS _ _ OW)⟩,fun C2 hC2=>?_⟩;refine uF (K:=K) (zs0:=zs) (·.2) (fun σ=>∃u,σ=[u]) (eS _ _ OW) (qg.same eS) hC2 (by lia) ⟨_,rfl⟩ ?_ ?_
   .rintro z σ H5 R Kf ux ⟨u,rfl⟩ OT kt;exact⟨_,rfl,z.1,_,_,_,rfl,rfl,bW.of OT,az (j:=1) rfl,kt _ ⟨_,rfl⟩⟩
   intro H5 kP YX;refine⟨C1,C2,_,_,rfl,rfl,kP _ _ YW,YX,by rw[aI,aI,aI,aI,bR];exact a9 (show _<=100 by lia) (by decide),fun Tl hTl=>?_⟩;have et:IV ((zp zs).map (·.1))++IV ((zp zs).map (·.2))=IV ((zp zs).map (·.1)++(zp zs).map (·.2)):=bT.symm;rw[et];have hT:(upd H5 Tl (.lst (IV ((zp zs).map (·.1)++(zp zs).map (·.2))))) Tl=some (.lst (IV ((zp zs).map (·.1)++(zp zs).map (·.2)))):=af;have uz:aA H3 (upd H5 Tl (.lst (IV ((zp zs).map (·.1)++(zp zs).map (·.2))))):=(eS.trans kP).trans (ah hTl);revert hT uz;generalize upd H5 Tl (.lst (IV ((zp zs).map (·.1)++(zp zs).map (·.2))))=H6;intro hT uz;dsimp only[be];refine Bd (fun Hk=>aA H6 Hk/\x<y/\(x,y)∉zp zs/\iO (di (zp zs)) x<=7/\iO (di (zp zs)) y<=7) (fun Hk=>aA H6 Hk) ?_ ?_ ?_
   .rintro H7 ⟨YY,Co,YZ,dx,dy⟩;have wC:=uz.trans YY;have Wq:=wC _ _ OW;refine⟨_,rfl,.inl ⟨rfl,_,aV.of Wq⟩,_,rfl,_,rfl,by show 2<=sizeLine;decide,fun t ht=>?_⟩;have nDt:D≠t:=aj Wq ht;refine⟨D,_,_,rfl,rfl,by rw[ao nDt];exact Wq,by rw[cY];exact b_ (show _<100 by lia) (by decide),?_⟩;refine⟨⟨_,_,_,_,rfl⟩,⟨zs++[(t,(x,y))],by rw[af,dB];rfl,PO.putL (xs:=zr zs) (((qg.same wC).putN ht).append (PO.one af)) (by rw[ao nDt];exact Wq),?_,fun u hu=>?_,by rw[ce];simp;lia⟩,eB ((uC.trans (aH.of wC)).trans (aH.of (ah ht))) hD,((KW.same wC).same (ah ht)).put y6.symm⟩
    .rw[cG];obtain⟨xa,rfl,xl⟩:∃xa:Nat,x=ci xa/\xa<n:=⟨x.toNat,by show x=((x.toNat:Nat):Int);lia,by lia⟩
     obtain⟨ya,rfl,yl⟩:∃ya:Nat,y=ci ya/\ya<n:=⟨y.toNat,by show y=((y.toNat:Nat):Int);lia,by lia⟩
     exact fi.pair xl yl (fun z=>by rw[z] at Co;exact absurd Co (Int.lt_irrefl _)) YZ (fun z=>by have:=M8 _ z;dsimp only at this;lia) dx dy
    .rw[cG] at hu;rcases bY.mp hu with z|z
     .exact M8 u z
     .have e:u=(x,y):=cA.mp z;subst e;exact Co
   .intro H7 YY;have wC:=uz.trans YY;exact⟨⟨_,_,_,_,rfl⟩,⟨zs,wC _ _ OW,qg.same wC,fi,M8,by lia⟩,uC.trans (aH.of wC),KW.same wC⟩
   .intro Y N yy nn;refine⟨_,rfl,_,rfl,_,_,rfl,rfl,_,rfl,?_⟩;refine eA (fun e=>?_) (fun e=>uv (nn _ (aA.refl _)));have Co:x<y:=dk e;refine⟨_,rfl,_,rfl,by show 2<=sizeLine;decide,fun t ht=>⟨_,rfl,GB (u:=(x,y)) (zs:=zs) af (ah ht _ _ (uz _ _ OW)) ((qg.same uz).putN ht) ⟨_,rfl,?_⟩⟩⟩;refine eA (fun e2=>?_) (fun e2=>uv (nn _ (ah ht)));have YZ:(x,y)∉zp zs:=by
     intro z;have:(!decide ((x,y)∈zp zs))=true:=e2;rw[cZ z] at this;exact absurd this (by decide)
    have Wr:=ah (o:=tj (x,y)) ht _ _ hT;refine⟨_,rfl,.inl ⟨rfl,_,aV.of Wr⟩,_,rfl,Tl,_,_,rfl,rfl,Wr,rfl,CV,_,rfl,.inl ⟨rfl,_,aV.of Wr⟩,_,rfl,Tl,_,_,rfl,rfl,Wr,rfl,CV,_,_,rfl,_,_,rfl,rfl,_,rfl,?_⟩;refine eA (fun e3=>?_) (fun e3=>nn _ (ah ht));have e3:=dk e3;have c1:=CY (ps:=zp zs) (h:=x);have c2:=CY (ps:=zp zs) (h:=y);unfold IV at c1 c2 e3;rw[c1,c2] at e3;exact yy _ ⟨ah ht,Co,YZ,by split at e3 <;> lia,by split at e3 <;> lia⟩
  .rintro σ Hc ⟨⟨v4,v5,v6,v7,rfl⟩,⟨zs,hz,po,fi,M8,zl⟩,se,pt⟩;exact⟨_,rfl,q D zs Hc se pt hD hz po fi (by lia)⟩
end
theorem yE.Bq{n:Nat}{ts:Ts}(F:bD n ts):yE n ts:=⟨F.nd,F.rg,fun h=>by rw[<-dA,<-iV];exact F.ym h⟩
theorem Tw{k n:Nat}(h:k<n):seqIndex? (k:Int) n=some k:=by
 have e:(if (k:Int)<0 then (k:Int)+n else (k:Int))=k:=if_neg (by lia);show (if (decide (0<=(if (k:Int)<0 then (k:Int)+n else (k:Int)))&&decide ((if (k:Int)<0 then (k:Int)+n else (k:Int))<(n:Int)))=true then some (if (k:Int)<0 then (k:Int)+n else (k:Int)).toNat else none)=some k;rw[e,am (by simp[h]),fT]
section
variable {P:Program} {w:World} {K:PySem.W.Frag} {mg:Str->Option Value} {base:Heap}
end
theorem Y0:(["_law_house"]:List Str).Nodup:=by decide +kernel
theorem OX:(["_law_one","_law_other"]:List Str).Nodup:=by decide +kernel
structure Br(p:Addr)(H:Hp)(L:Addr)(n:Nat)(zs:Zs)(Hc:Hp):Prop where
 se:aH p H Hc
 pt:bn Hc p
 fr:H L=none
 at_:Hc L=some (.lst (zr zs))
 po:PO Hc zs
 fi:bD n (di (zp zs))
 le:zs.length<=160
theorem Br.same{p:Addr}{H:Hp}{L:Addr}{n:Nat}{zs:Zs}{Hc Hd:Hp}(g:Br p H L n zs Hc)(s:aA Hc Hd):Br p H L n zs Hd:=⟨g.se.trans (aH.of s),g.pt.same s,g.fr,s _ _ g.at_,g.po.same s,g.fi,g.le⟩
section
variable {P:Program} {w:World} {K:PySem.W.Frag} {mg:Str->Option Value} {base:Heap}
theorem KY{i:Nat}:(kQ (i+1)).map iW=(kQ i).map iW++(List.range i).map fun (o:Nat)=>((o:Int),(i:Int)):=by
 unfold kQ;rw[jI,List.flatMap_append,bT];congr 1;rw[List.flatMap_cons,List.flatMap_nil,jx,dD];rfl
end
abbrev Bs:Stmt:=top 57
abbrev Bt:Stmt:=top 59
theorem Hm:(["_law_one","_law_other","_law_house","_law_many"]:List Str).Nodup:=by decide +kernel
theorem Tx:(["_law_step","_law_house","_law_many"]:List Str).Nodup:=by decide +kernel
theorem Tz:(["_law_k","_law_pot_here","_law_span"]:List Str).Nodup:=by decide +kernel
def eJ(T:List (Int×Int))(h:Int):List Int:=(T.filter fun p=>p.1==h).map (·.2)
theorem gW{T:List (Int×Int)}{h o:Int}:o∈eJ T h↔(h,o)∈T:=by
 unfold eJ;rw[aX];constructor
 .rintro⟨⟨a,b⟩,hp,rfl⟩;obtain⟨h1,h2⟩:=cq.mp hp;have:a=h:=by simpa using h2
  rw[<-this];exact h1
 .intro hp;exact⟨(h,o),cq.mpr ⟨hp,by simp⟩,rfl⟩
theorem kq{n:Int}{T:List (Int×Int)}{h:Int}(t:yE n T):(eJ T h).Nodup:=by
 unfold eJ;refine lV (qz _ t.nd) fun x hx y hy e=>?_;have h1:x.1=h:=by simpa using (cq.mp hx).2
 have h2:y.1=h:=by simpa using (cq.mp hy).2
 exact dY (h1.trans h2.symm) e
theorem wD{n:Nat}{xs:List Int}(nd:xs.Nodup)(h:∀x∈xs,0<=x/\x<n):xs.length<=n:=by
 have:=lW (fun _=>true) (a:=xs) (b:=(List.range n).map fun (i:Nat)=>(i:Int)) nd fun x hx _=>by
  have:=h x hx;exact aX.mpr ⟨x.toNat,bK.mpr (by lia),by lia⟩
 simp only[List.countP_true,aI,dq] at this;exact this
theorem Hn{n:Int}{T:List (Int×Int)}{h:Int}(t:yE n T)(QS:n<=32):(eJ T h).length<=32:=by
 refine wD (kq (h:=h) t) fun x hx=>?_;have:=(t.rg _ (gW.mp hx)).2;dsimp only at this;lia
structure eF(p:Addr)(H:Hp)(O:Addr)(as:List Addr)(n:Nat)(T:List (Int×Int)):Prop where
 at_:H O=some (.lst (as.map V.ref))
 len:as.length=n
 rows:∀h,h<n->∃js,H (as.getD h 0)=some (.lst (IV js))/\js.Perm (eJ T h)
 np:O≠p
 Ho:∀h,h<n->as.getD h 0≠p
theorem eF.fK{p:Addr}{H H':Hp}{O:Addr}{as:List Addr}{n:Nat}{T:List (Int×Int)}(g:eF p H O as n T)(s:aH p H H'):eF p H' O as n T:=
 ⟨s _ _ g.at_ g.np,g.len,fun h hh=>let ⟨js,e,r⟩:=g.rows h hh;⟨js,s _ _ e (g.Ho h hh),r⟩,g.np,g.Ho⟩
theorem eF.same{p:Addr}{H H':Hp}{O:Addr}{as:List Addr}{n:Nat}{T:List (Int×Int)}(g:eF p H O as n T)(s:aA H H'):eF p H' O as n T:=g.fK (aH.of s)
theorem Es{K:PySem.W.Frag}{a D:Addr}{ns:List Int}{g:TG}{tt:TT}{te:TE}{dE:Hp->Prop}{σB:St}{H0:Hp}(F:Int->Int)(bU:St->Prop)(ha:H0 a=some (.lst (IV ns)))(hD:H0 D=none)(hn:ns.length<=100000)(h0:bU σB)(hs:∀z σ H (R:V->St->Hp->Prop) (Kf:St->Hp->Prop),z∈ns->bU σ->(∀σ2,bU σ2->R (.int (F z)) σ2 H)->g (.int z) σ H fun σ2 H2=>tt σ2 H2 fun b H3=>if b=true then te σ2 H3 fun v H4=>R v σ2 H4 else Kf σ2 H3)(hd:∀H,aA H0 H->H D=some (.lst (IV (ns.map F)))->dE H):gu (Dr K a) g tt te D dE σB (upd H0 D (.lst [])):=by
 refine cP (xs:=IV ns) (fun i ys σ H=>bU σ/\aA H0 H/\H D=some (.lst ys)/\ys=IV ((ns.take i).map F)) ⟨h0,ah hD,af,rfl⟩ (fun i ys σ H _ z=>aV.of (z.2.1 _ _ ha)) ?_ ?_
 .rintro i x ys σ H Kt Kf hx ⟨sh,sm,ir,rfl⟩ kt kf;rw[bX] at hx;cases e:ns[i]? with
  |none=>rw[e] at hx;cases hx
  |some z=>
   rw[e] at hx;obtain rfl:V.int z=x:=bh hx;have hi:i<ns.length:=(dO.mp e).1;refine hs z σ H Kt Kf (cI e) sh (fun σ2 tm=>?_);refine kt _ _ _ ir (by rw[aI,aI,jG];exact b_ (show _<100001 by lia) (by decide)) ⟨tm,bf sm hD,af,?_⟩;rw[jk,eZ,e,jM,bT];rfl
 .rintro ys σ H ⟨_,sm,ir,rfl⟩;rw[aI,gh] at ir;exact hd H sm ir
theorem Hq{h o n:Int}(o0:0<=o)(on:o<n):(h+(o-h) % n) % n=o:=by
 rw[Int.add_emod,Int.emod_emod_of_dvd _ (Int.dvd_refl n),<-Int.add_emod];have:h+(o-h)=o:=by lia
 rw[this,zP o0 on]
section
variable {P:Program} {w:World} {K:PySem.W.Frag} {mg:Str->Option Value} {base:Heap}
theorem qi:aG ["_law_many","_law_ties","_law_found","_law_house","_law_some"] ["_law_many","_law_ties"] (ak Bs):=⟨rfl,rfl,rfl,by decide +kernel,rfl,by decide +kernel,by decide +kernel⟩
def wE:Sp:=fun vs H Q _=>∃ (l:Addr) (n:Nat) (zs:Zs),vs=[.int n,.ref l]/\H l=some (.lst (zr zs))/\PO H zs/\yE n (zp zs)/\zs.length<=400/\1<=n/\n<=32/\∀ (O:Addr) (as:List Addr) (H':Hp),aA H H'->H O=none->(∀h,h<n->H (as.getD h 0)=none)->H' O=some (.lst (as.map V.ref))->as.length=n->(∀h,h<n->∃js,H' (as.getD h 0)=some (.lst (IV js))/\js.Perm (eJ (zp zs) h))->Q (.ref O) H'
theorem Hr{f:Addr}{fd:FuncData}(F:fY K "_law_outs" "_law_outs" Bs f fd)(B:Bl mg):bo P w K mg base a7 1 f fd ["_law_many","_law_ties"] wE:=by
 refine F.ok qi (fun vs H Q E h=>?_) (fun dN A outer s H vs Q E hr h=>?_)
 .obtain⟨l,n,zs,rfl,_⟩:=h;rfl
 .obtain⟨l,n,zs,rfl,hl,po,ti,zl,n1,QS,q⟩:=h;refine'⟨_,ai (aE (i:=2) qi.nd rfl (Or.inl rfl) (cf ag))
   (ai (dH eI rfl (bq rfl B.range (aa (pv 0) ag)) (au (i:=3) qi.nd rfl (Or.inr rfl))
    (ai (aE (i:=4) qi.nd rfl (Or.inl rfl) (aD rP (by rfl) B.sorted o5 (aa ?c1 ag)))
    (ap (cr (gK gH jv ju cM (pv 2) (aa ?c2 ag))))))
   (ap (aR (pv 2)))),?_⟩
  case c1=>
   refine' bz (g:=q9 K 2 (eO (be 0) (eO (be 1) q8))) (tt:=iQ (eU Qv (aB 0) (aB 2))) (te:=eU (rI (fun _ j=>0<j) fun i j=>.int (i % j)) (eU (rb fun i j=>.int (i-j)) (aB 1) (aB 2)) (aB 3)) (NB:=["_law_one","_law_other","_law_house","_law_many"]) (src:=[none,none,some 3,some 0]) (a_ (by kernel_rfl)) rfl (bA (pv 1)) ?g ?t ?e;case g=>exact fun cl C s₃ H₃ fp=>fv (n:=2) rfl (bb (au (i:=0) Hm rfl (Or.inl rfl) (Or.inr rfl)) (bb (au (i:=1) Hm rfl (Or.inl rfl) (Or.inr rfl)) dG))
   case t=>exact fun cl C s₃ H₃ fp=>d8 (aQ gn (pv 0) (pv 2) (aS _))
   case e=>exact fun cl C s₃ H₃ fp=>aP gc (aP iH (pv 1) (pv 2)) (pv 3)
  case c2=>
   refine' bz (g:=be 0) (te:=eU (rI (fun _ j=>0<j) fun i j=>.int (i % j)) (eU (rb fun i j=>.int (i+j)) (aB 1) (aB 0)) (aB 2)) (NB:=["_law_step","_law_house","_law_many"]) (src:=[none,some 3,some 0]) (a_ (by kernel_rfl)) rfl (bA (pv 4)) ?g ?t ?e;case g=>exact fun cl C s₃ H₃ fp=>au (i:=0) Tx rfl (Or.inl rfl) (Or.inr rfl)
   case t=>exact fun cl C s₃ H₃ fp=>b8
   case e=>exact fun cl C s₃ H₃ fp=>aP gc (aP cx (pv 1) (pv 0)) (pv 2)
  refine⟨by show 0<=sizeLine;decide,fun O hO=>?_⟩;have nlO:l≠O:=aj hl hO;refine⟨_,rfl,_,rfl,by lia,by lia,dX (lo:=0) (n:=n) (fun i σ H2=>(∃v3 v4,σ=[some (.int n),some (.ref l),some (.ref O),v3,v4])/\aA H H2/\∃as:List Addr,H2 O=some (.lst (as.map V.ref))/\as.length=i/\∀h,h<i->H (as.getD h 0)=none/\as.getD h 0≠O/\∃js,H2 (as.getD h 0)=some (.lst (IV js))/\js.Perm (eJ (zp zs) h)) ?_ ?_ ?_⟩
  .exact⟨⟨_,_,rfl⟩,ah hO,[],af,rfl,fun h hh=>absurd hh (by lia)⟩
  .rintro i σ H2 hi ⟨⟨v3,v4,rfl⟩,CA,as,TB,al,rows⟩;rw[fm];have xI:=CA _ _ hl;refine⟨_,rfl,l,rfl,⟨_,aV.of xI⟩,fun D hD=>?_⟩;refine cP (K:=K) (a:=l) (xs:=zr zs) (fun c ys σ H3=>(∃u v,σ=[u,v,some (.int i),some (.int n)])/\aA H2 H3/\H3 D=some (.lst ys)/\ys=IV ((eJ ((zp zs).take c) i).map fun o=>(o-i) % n)) ⟨⟨_,_,rfl⟩,ah hD,af,rfl⟩ (fun c ys σ H3 _ z=>aV.of (z.2.1 _ _ xI)) ?_ ?_
   .rintro c x ys σ H3 Kt Kf hx ⟨⟨u,v,rfl⟩,mU,h9,rfl⟩ kt kf;obtain⟨z,hz,rfl⟩:=lT hx;have hc:c<zs.length:=(dO.mp hz).1;have ux:z∈zs:=cI hz;have e2:(zp zs)[c]?=some z.2:=by unfold zp;rw[bX,hz];rfl
    refine⟨_,_,rfl,bW.of (mU _ _ (CA _ _ (po z ux))),rfl,_,_,rfl,_,_,rfl,rfl,?_⟩;refine⟨_,rfl,_,rfl,rfl,_,rfl,?_⟩;have et:(zp zs).take (c+1)=(zp zs).take c++[z.2]:=by rw[eZ,e2,jM]
    refine eA (fun e=>?_) (fun e=>?_)
    .have e':z.2.1=(i:Int):=V.int.inj (dk e);refine⟨_,rfl,_,rfl,_,_,rfl,rfl,_,rfl,_,_,rfl,rfl,by show (0:Int)<(n:Int);lia,kt _ _ _ h9 ?_ ⟨⟨_,_,rfl⟩,bf mU hD,af,?_⟩⟩
     .have h1:(eJ ((zp zs).take c) i).length<=c:=by
       unfold eJ;rw[aI];exact a9 (fh _ _) (by rw[jG];lia)
      rw[aI,aI];exact b_ (show _<1000 by lia) (by decide)
     .rw[et,jk];unfold eJ;rw[eN,List.filter_cons_of_pos (p:=fun p:Int×Int=>p.1==(i:Int)) (by simpa using e'),bT,bT];rfl
    .have e':¬ z.2.1=(i:Int):=fun y=>e (cZ (by rw[y]));refine kf _ _ ⟨⟨_,_,rfl⟩,mU,h9,?_⟩;rw[et];unfold eJ;rw[eN,List.filter_cons_of_neg (p:=fun p:Int×Int=>p.1==(i:Int)) (by simpa using e'),z7,jx]
   .rintro ys σ H3 ⟨_,mU,h9,rfl⟩;rw[cY,<-bR,gh] at h9;have ol:=Hn (h:=(i:Int)) ti (by lia);refine⟨D,_,rfl,aV.of h9,by rw[aI];lia,fun S Eb hS pm=>?_⟩;have eS:aA H2 (upd H3 S (.lst (IV Eb))):=mU.trans (ah hS);have QU:(upd H3 S (.lst (IV Eb))) S=some (.lst (IV Eb)):=af;dsimp only[be];revert eS QU;generalize upd H3 S (.lst (IV Eb))=H4;intro eS QU;have nl:Eb.length<=32:=by rw[pm.length_eq,aI];exact ol
    refine⟨_,rfl,.inl ⟨rfl,_,aV.of (eS _ _ TB)⟩,_,rfl,S,rfl,⟨_,aV.of QU⟩,fun C hC=>?_⟩;refine Es (K:=K) (ns:=Eb) (fun st=>((i:Int)+st) % n) (fun σ=>∃u,σ=[u,some (.int i),some (.int n)]) QU hC (by lia) ⟨_,rfl⟩ ?_ ?_
    .rintro z σ H5 R Kf hz ⟨u,rfl⟩ kt;exact⟨_,rfl,_,rfl,_,_,rfl,rfl,_,rfl,_,_,rfl,rfl,by show (0:Int)<(n:Int);lia,kt _ ⟨_,rfl⟩⟩
    .intro H5 kP hC5;have Ws:=kP _ _ (eS _ _ TB);have nCO:C≠O:=(aj (eS _ _ TB) hC).symm;refine⟨O,_,_,rfl,rfl,Ws,by rw[aI,al];exact b_ (show i<33 by lia) (by decide),?_⟩;refine⟨⟨_,_,rfl⟩,bf ((CA.trans eS).trans kP) hO,as++[C],by rw[af,bT];rfl,by rw[ce,al];rfl,fun h hh=>?_⟩;rw[ug al];by_cases eh:h=i
     .subst eh;rw[am rfl];refine⟨(CA.trans eS).free hC,nCO,_,by rw[ao nCO];exact hC5,?_⟩;have p1:=pm.map (fun st=>((h:Int)+st) % n);rw[dD] at p1;refine p1.trans (.of_eq ?_);conv=>rhs;rw[<-lA (eJ (zp zs) h)]
      refine il fun o ho=>?_;have:=(ti.rg _ (gW.mp ho)).2;exact Hq this.1 this.2
     .rw[if_neg eh];obtain⟨a1,a2,js,a3,a4⟩:=rows h (by lia);exact⟨a1,a2,js,by rw[ao a2];exact kP _ _ (eS _ _ a3),a4⟩
  .rintro σ H2 ⟨⟨v3,v4,rfl⟩,CA,as,TB,al,rows⟩;exact⟨_,rfl,q O as H2 CA hO (fun h hh=>(rows h hh).1) TB al (fun h hh=>(rows h hh).2.2)⟩
theorem CZ:aG ["_law_pot_here","_law_many","_law_letters","_law_span"] ["_law_pot_here","_law_many","_law_letters"] (ak Bt):=⟨rfl,rfl,rfl,by decide +kernel,rfl,by decide +kernel,by decide +kernel⟩
def wF:Sp:=fun vs H Q _=>∃ (p:Addr) (n m:Int),vs=[.ref p,.int n,.int m]/\bn H p/\1<=n/\n<=32/\0<=m/\m<=16/\∀ (r:Addr) (hs:List Int) (H':Hp),aH p H H'->bn H' p->H r=none->H' r=some (.tup (IV hs))->hs.length<=16->(hs.length:Int)=m->(∀x∈hs,0<=x/\x<n)->Q (.ref r) H'
theorem Hs{f:Addr}{fd:FuncData}(F:fY K "_law_homes" "_law_homes" Bt f fd)(B:Bl mg)(T:cs P w K mg base a7 1 "_law_take" ["_law_pot_here","_law_many"] jj):bo P w K mg base a7 2 f fd ["_law_pot_here","_law_many","_law_letters"] wF:=by
 refine F.ok CZ (fun vs H Q E h=>?_) (fun dN A outer s H vs Q E hr h=>?_)
 .obtain⟨p,n,m,rfl,_⟩:=h;rfl
 .obtain⟨p,n,m,rfl,hp,n1,QS,m0,m16,q⟩:=h;refine'⟨_,ai (aE (i:=3) CZ.nd rfl (Or.inr rfl) (aD (kG rfl) (by rfl) B.min uU (aa (pv 1) (aa (aL aJ (cf (aa aq (aa aq ag))) (aF T hr aK (aa (pv 0) (aa aq ag))) (fun _ _=>rfl)) ag))))
   (ap (aR (cB dg (by rfl) B.tup o9 (aa ?c1 ag)))),?_⟩
  case c1=>
   refine' bz (g:=be 0) (te:=iR jj [] (fun _ _ _=>False) (aZ (aB 1) (aZ (aB 2) fg))) (NB:=["_law_k","_law_pot_here","_law_span"]) (src:=[none,some 0,some 3]) (a_ (by kernel_rfl)) rfl (bq rfl B.range (aa (pv 2) ag)) ?g ?t ?e;case g=>exact fun cl C s₃ H₃ fp=>au (i:=0) Tz rfl (Or.inl rfl) (Or.inr rfl)
   case t=>exact fun cl C s₃ H₃ fp=>b8
   case e=>exact fun cl C s₃ H₃ fp=>aF T hr aK (aa (pv 1) (aa (pv 2) ag))
  refine⟨_,rfl,by show 2<=sizeLine;decide,fun L0 v_=>⟨_,rfl,p,_,rfl,by decide,by decide,hp.same (ah v_),fun d H2 d0 d2 y7 Ea=>?_⟩⟩;have C0:L0≠p:=hp.ne v_;obtain⟨dv,hd1,hd2,Y1⟩:∃dv:Int,1<=dv/\dv<=32/\sF [V.int 32,V.int 3] d=some (.int dv):=by
   by_cases e:d=0
   .subst e;exact⟨32,by decide,by decide,az (j:=0) rfl⟩
   .have:d=1:=by lia
    subst this;exact⟨3,by decide,by decide,az (j:=1) rfl⟩
  refine⟨L0,_,_,_,rfl,rfl,aV.of (y7 _ _ af C0),Y1,_,_,rfl,?_⟩;have s1:1<=(if dv<n then dv else n):=by split <;> lia
  have s2:(if dv<n then dv else n)<=32:=by split <;> lia
  have s3:(if dv<n then dv else n)<=n:=by split <;> lia
  dsimp only[be];revert s1 s2 s3;generalize (if dv<n then dv else n)=sp;intro s1 s2 s3;have yG:aH p H H2:=(aH.of (ah v_)).trans y7;refine⟨_,rfl,m,rfl,by lia,by lia,fun D hD=>?_⟩;have IK:H D=none:=yG.free Ea.full hD;have y6:D≠p:=hp.ne IK;refine dh (lo:=0) (n:=m.toNat) (fun i ys σ Hc=>(∃u,σ=[u,some (.ref p),some (.int sp)])/\aH p H Hc/\bn Hc p/\Hc D=some (.lst ys)/\∃js,ys=IV js/\js.length=i/\∀x∈js,0<=x/\x<n)
   ⟨⟨_,rfl⟩,eB yG IK,Ea.put y6.symm,af,[],rfl,rfl,fun x hx=>(nomatch hx)⟩ ?_ ?_
  .rintro i ys σ Hc Kt Kf hi ⟨⟨u,rfl⟩,se,pt,y8,js,rfl,jl,jr⟩ kt kf;refine⟨_,rfl,_,rfl,p,_,rfl,by lia,by lia,pt,fun e He e0 e1 see pte=>?_⟩;exact kt _ _ _ (see _ _ y8 y6) (by rw[aI,jl];exact b_ (show i<33 by lia) (by decide)) ⟨⟨_,rfl⟩,eB (se.trans see) IK,pte.put y6.symm,af,js++[e],jk,by rw[ce,jl];rfl,fun x hx=>(bY.mp hx).elim (jr x) fun z=>by rw[cA.mp z];lia⟩
  .rintro ys σ Hc ⟨_,se,pt,y8,js,rfl,jl,jr⟩;refine⟨D,_,rfl,.inl ⟨aV.of y8,fun r fQ=>?_⟩⟩;exact q r js _ (se.trans (aH.of (ah fQ))) (pt.same (ah fQ)) (se.free pt.full fQ) af (by lia) (by lia) jr
end
abbrev Bu:Stmt:=top 60
theorem TC:(["_law_k","_law_house","_law_outs_here"]:List Str).Nodup:=by decide +kernel
theorem KZ:(["_law_other","_law_home","_law_waits","_law_stand","_law_outs_here"]:List Str).Nodup:=by decide +kernel
def y9:Option Int->V
 |none=>.bV
 |some h=>.int h
abbrev SV(s:List (Option Int)):List V:=s.map y9
theorem K0{s:List (Option Int)}:(SV s).all eQ=true:=by
 rw[i6];intro v hv;obtain⟨j,_,rfl⟩:=aX.mp hv;cases j <;> rfl
theorem K6{a b:Option Int}(h:y9 a=y9 b):a=b:=by
 cases a <;> cases b
 .rfl
 .cases h
 .cases h
 .exact congrArg some (V.int.inj h)
theorem yH{h:Int}:∀ {s:List (Option Int)},(SV s).countP (fun z=>mh z (.int h))=s.count (some h)
 |[]=>rfl
 |x::s=>by
  have ih:=yH (h:=h) (s:=s);unfold SV at ih |-;rw[d7,nu,ih,qH];have e:mh (y9 x) (.int h)=(x==some h):=by
   cases x with
   |none=>rfl
   |some y=>
    show (y==h)=(some y==some h);rw[iA];simp
  rw[e]
theorem Ht{s:List (Option Int)}{i:Nat}(h:i<s.length):sF (SV s) (i:Int)=some (y9 (s.getD i none)):=by
 refine az ?_;rw[bX,cH h,bv,cH h];rfl
theorem C3{s:List (Option Int)}{o:Option Int}:SV (s++[o])=SV s++[y9 o]:=by unfold SV;rw[bT];rfl
theorem K7{o:Option Int}{h:Int}:Fc (y9 o) (.int h)=true:=by cases o <;> rfl
theorem Hu{ns:List Int}{i:Nat}{x:V}(h:(IV ns)[i]?=some x):i<ns.length/\x=.int (ns.getD i 0):=by
 rw[bX] at h;cases e:ns[i]? with
 |none=>rw[e] at h;cases h
 |some a=>
  rw[e] at h;refine⟨(dO.mp e).1,?_⟩;rw[bv,e];exact(bh h).symm
theorem r6{as:List Addr}{i:Nat}(h:i<as.length):sF (as.map V.ref) (i:Int)=some (.ref (as.getD i 0)):=by
 refine az ?_;rw[bX,cH h,bv,cH h];rfl
structure wG(n:Nat)(T:List (Int×Int))(wt:Bool)(st:List (Option Int)):Prop where
 rg:∀h,some h∈st->0<=h/\h<n
 few:wt=false->∀h,st.count (some h)<=(eJ T h).length
theorem wG.nil{n:Nat}{T:List (Int×Int)}{wt:Bool}:wG n T wt []:=⟨fun h hh=>(nomatch hh),fun _ h=>cu _⟩
theorem wG.push{n:Nat}{T:List (Int×Int)}{wt:Bool}{st:List (Option Int)}{x:Option Int}(h:wG n T wt st)(hx:∀y,x=some y->(0<=y/\y<n)/\(wt=false->st.count (some y)<(eJ T y).length)):wG n T wt (st++[x]):=by
 refine⟨fun y hy=>?_,fun hw y=>?_⟩
 .rcases bY.mp hy with z|z
  .exact h.rg y z
  .exact(hx y (cA.mp z).symm).1
 .rw[List.count_append,List.count_singleton];by_cases e:x=some y
  .have:=(hx y e).2 hw;rw[am (by rw[e];simp)];lia
  .rw[if_neg (by simpa using e)];exact h.few hw y
abbrev TD(K:PySem.W.Frag):List V->Hp->VK->Prop:=fun xs H Q=>∃p ys,xs=[V.ref p]/\(aV K H p ys\/bW K H p ys)/\Q (.int ys.length) H
section
variable {P:Program} {w:World} {K:PySem.W.Frag} {mg:Str->Option Value} {base:Heap}
theorem jm:aG ["_law_pot_here","_law_outs_here","_law_homes_here","_law_waits","_law_span","_law_stand","_law_home","_law_house","_law_some"] ["_law_pot_here","_law_outs_here","_law_homes_here","_law_waits"] (ak Bu):=⟨rfl,rfl,rfl,by decide +kernel,rfl,by decide +kernel,by decide +kernel⟩
def wH:Sp:=fun vs H Q _=>∃ (p O a:Addr) (wt:Bool) (as:List Addr) (n:Nat) (T:List (Int×Int)) (hs:List Int),vs=[.ref p,.ref O,.ref a,.bl wt]/\bn H p/\eF p H O as n T/\1<=n/\n<=32/\H a=some (.tup (IV hs))/\hs.length<=16/\
 ∀ (r:Addr) (st:List (Option Int)) (H':Hp),aH p H H'->bn H' p->H r=none->H' r=some (.tup (SV st))->st.length=hs.length->wG n T wt st->(∀j,j<st.length->st.getD j none≠some (hs.getD j 0))->Q (.ref r) H'
theorem Hv{f:Addr}{fd:FuncData}(F:fY K "_law_begun" "_law_begun" Bu f fd)(B:Bl mg)(T0:cs P w K mg base a7 1 "_law_take" ["_law_pot_here","_law_many"] jj):bo P w K mg base a7 2 f fd ["_law_pot_here","_law_outs_here","_law_homes_here","_law_waits"] wH:=by
 refine F.ok jm (fun vs H Q E h=>?_) (fun dN A outer s H vs Q E hr h=>?_)
 .obtain⟨p,O,a,wt,as,n,T,hs,rfl,_⟩:=h;rfl
 .obtain⟨p,O,a,wt,as,n,T,hs,rfl,hp,ou,n1,QS,ha,hl,q⟩:=h;refine'⟨_,ai (aE (i:=4) jm.nd rfl (Or.inl rfl) (aD (kG rfl) (by rfl) B.min uU (aa (aD aO (by rfl) B.len dU (aa (pv 1) ag)) (aa (aL aJ (cf (aa aq (aa aq ag))) (aF T0 hr aK (aa (pv 0) (aa aq ag))) (fun _ _=>rfl)) ag))))
   (ai (aE (i:=5) jm.nd rfl (Or.inr rfl) (cf ag))
   (ai (dH eI rfl (vA (pv 2)) (au (i:=6) jm.nd rfl (Or.inr rfl))
    (ai (aE (i:=7) jm.nd rfl (Or.inr rfl) (aF T0 hr aK (aa (pv 0) (aa (aP cx (pv 4) aq) ag))))
    (ai (dL (i:=8) (g:=be 0) (te:=eU (rI (fun _ j=>0<j) fun i j=>.int (i % j)) (eU (rb fun i j=>.int (i+j)) (aB 1) (aB 0)) (RH (TD K) (aZ (aB 2) fg))) (NB:=["_law_k","_law_house","_law_outs_here"]) (src:=[none,some 7,some 1]) (a_ (by kernel_rfl)) rfl
     (bq rfl B.range (aa (aP fw (aD aO (by rfl) B.len dU (aa (pv 1) ag)) (cB nY (by rfl) B.int uW (aa (dI jZ (pv 7) (pv 4) (aS _)) ag))) ag)) ?g ?t ?e jm.nd rfl rfl rfl)
    (ai (dL (i:=8) (g:=be 0) (tt:=Rl (iQ (eU rNe (aB 0) (aB 1))) (tOr (tB (aB 2)) (iQ (eU (rb fun i j=>.bl (decide (i<j))) (tBM K "list" F5 (aB 3) (aZ (aB 0) fg)) (RH (TD K) (aZ (eU (j4 K) (aB 4) (aB 0)) fg)))))) (te:=aB 0) (NB:=["_law_other","_law_home","_law_waits","_law_stand","_law_outs_here"]) (src:=[none,some 6,some 3,some 5,some 1]) (a_ (by kernel_rfl)) rfl
     (bA (pv 8)) ?g2 ?t2 ?e2 jm.nd rfl rfl rfl)
    (ap (cr (gK gH jv ju cM (pv 5) (aa (aL aJ (aP je (pv 8) (cf (aa dF ag))) aq (fun _ _=>rfl)) ag))))))))
   (ap (aR (cB dg (by rfl) B.tup o9 (aa (pv 5) ag)))))),?_⟩
  case g=>exact fun cl C s₃ H₃ fp=>au (i:=0) TC rfl (Or.inl rfl) (Or.inr rfl)
  case t=>exact fun cl C s₃ H₃ fp=>b8
  case e=>exact fun cl C s₃ H₃ fp=>aP gc (aP cx (pv 1) (pv 0)) (aD aO (by rfl) B.len dU (aa (pv 2) ag))
  case g2=>exact fun cl C s₃ H₃ fp=>au (i:=0) KZ rfl (Or.inl rfl) (Or.inr rfl)
  case t2=>exact fun cl C s₃ H₃ fp=>d8 (PW.pt (nV (aQ BP (pv 0) (pv 1) (aS _)) (md (PW.pt (xw (gE (pv 2)) (qZ (aQ jZ (gK gH zi zh rF (pv 3) (aa (pv 0) ag)) (aD aO (by rfl) B.len dU (aa (aL aJ (pv 4) (pv 0) (fun _ _=>rfl)) ag)) (aS _))))))))
  case e2=>exact fun cl C s₃ H₃ fp=>pv 0
  refine⟨_,rfl,O,_,rfl,.inl (aV.of ou.at_),by show 2<=sizeLine;decide,fun L0 v_=>⟨_,rfl,p,_,rfl,by decide,by decide,hp.same (ah v_),fun d H2 d0 d2 y7 Ea=>?_⟩⟩;have C0:L0≠p:=hp.ne v_;obtain⟨dv,hd1,hd2,Y1⟩:∃dv:Int,1<=dv/\dv<=32/\sF [V.int 32,V.int 4] d=some (.int dv):=by
   by_cases e:d=0
   .subst e;exact⟨32,by decide,by decide,az (j:=0) rfl⟩
   .have:d=1:=by lia
    subst this;exact⟨4,by decide,by decide,az (j:=1) rfl⟩
  refine⟨L0,_,_,_,rfl,rfl,aV.of (y7 _ _ af C0),Y1,_,_,rfl,?_⟩;have OY:(((as.map V.ref).length:Nat):Int)=n:=by rw[aI,ou.len]
  have s1:1<=(if dv<(((as.map V.ref).length:Nat):Int) then dv else (((as.map V.ref).length:Nat):Int)):=by rw[OY];split <;> lia
  have s2:(if dv<(((as.map V.ref).length:Nat):Int) then dv else (((as.map V.ref).length:Nat):Int))<=32:=by rw[OY];split <;> lia
  dsimp only[be];revert s1 s2;generalize (if dv<(((as.map V.ref).length:Nat):Int) then dv else (((as.map V.ref).length:Nat):Int))=sp;intro s1 s2;have yG:aH p H H2:=(aH.of (ah v_)).trans y7;refine⟨by show 0<=sizeLine;decide,fun D hD=>?_⟩;have IK:H D=none:=yG.free Ea.full hD;have y6:D≠p:=hp.ne IK;have nap:a≠p:=hp.neT ha;refine⟨_,rfl,a,rfl,⟨_,bW.of (ah hD _ _ (yG _ _ ha nap))⟩,BK (K:=K) (a:=a) (xs:=IV hs) (fun i σ Hc=>(∃v6 v7 v8,σ=[some (.ref p),some (.ref O),some (.ref a),some (.bl wt),some (.int sp),some (.ref D),v6,v7,v8])/\aH p H Hc/\bn Hc p/\∃st,Hc D=some (.lst (SV st))/\st.length=i/\wG n T wt st/\∀j,j<st.length->st.getD j none≠some (hs.getD j 0))
   ⟨⟨_,_,_,rfl⟩,eB yG IK,Ea.put y6.symm,[],af,rfl,wG.nil,fun j hj=>absurd hj (jH _)⟩ (fun i σ Hc _ z=>bW.of (z.2.1 _ _ ha nap)) ?_ ?_⟩
  .rintro i x σ Hc hx ⟨⟨v6,v7,v8,rfl⟩,se,pt,st,kW,sl,so,nh⟩;obtain⟨hi,rfl⟩:=Hu hx;generalize K8:hs.getD i 0=home;refine⟨_,rfl,_,rfl,_,_,rfl,rfl,p,_,rfl,by lia,by lia,pt,fun house H3 h0 h1 uC KW=>?_⟩;have seo:=se.trans uC;have TF:=uC _ _ kW y6;have Y2:=ou.fK seo;refine⟨_,rfl,O,_,rfl,.inl (aV.of Y2.at_),_,rfl,_,rfl,_,_,rfl,rfl,.inr ⟨_,rfl,_,_,rfl,rfl,.inl ⟨by rw[OY];lia,by rw[OY];lia⟩,?_⟩⟩;rw[OY];have m0:0<=(n:Int)*(if decide (house<sp)=true then 1 else 0):=by split <;> lia
   have m1:(n:Int)*(if decide (house<sp)=true then 1 else 0)<=n:=by split <;> lia
   refine⟨(n:Int)*(if decide (house<sp)=true then 1 else 0),rfl,by lia,by lia,fun C hC=>?_⟩;revert m0 m1;generalize (n:Int)*(if decide (house<sp)=true then 1 else 0)=m;intro m0 m1;refine dh (lo:=0) (n:=m.toNat) (fun i ys σ H4=>(∃u,σ=[u,some (.int house),some (.ref O)])/\aA H3 H4/\H4 C=some (.lst ys)/\∃js,ys=IV js/\js.length=i/\∀x∈js,0<=x/\x<n) ⟨⟨_,rfl⟩,ah hC,af,[],rfl,rfl,fun x hx=>(nomatch hx)⟩ ?_ ?_
   .rintro j ys σ H4 Kt Kf hj ⟨⟨u,rfl⟩,eS,Wt,js,rfl,jl,jr⟩ kt kf;refine⟨_,rfl,_,rfl,_,_,rfl,rfl,_,rfl,O,_,rfl,.inl (aV.of (eS _ _ Y2.at_)),_,_,rfl,rfl,by rw[OY];lia,?_⟩;refine kt _ _ _ Wt (by rw[aI,jl];exact b_ (show j<33 by lia) (by decide)) ⟨⟨_,rfl⟩,bf eS hC,af,js++[_],jk,by rw[ce,jl];rfl,fun x hx=>?_⟩;rcases bY.mp hx with z|z
    .exact jr x z
    .rw[cA.mp z,OY];exact⟨i7 _ (by lia),l5 _ (by lia)⟩
   .rintro ys σ H4 ⟨_,eS,Wt,js,rfl,jl,jr⟩;have OZ:=eS _ _ TF;have ou4:=Y2.same eS;refine⟨_,rfl,C,rfl,⟨_,aV.of Wt⟩,fun G hG=>?_⟩;refine cP (K:=K) (a:=C) (xs:=IV js) (fun i ys σ H5=>(∃u,σ=[u,some (.int home),some (.bl wt),some (.ref D),some (.ref O)])/\aA H4 H5/\H5 G=some (.lst ys)/\∃ks,ys=IV ks/\ks.length<=i/\∀x∈ks,(0<=x/\x<n)/\(wt=false->st.count (some x)<(eJ T x).length)/\x≠home) ⟨⟨_,rfl⟩,ah hG,af,[],rfl,aT _,fun x hx=>(nomatch hx)⟩ (fun i ys σ H5 _ z=>aV.of (z.2.1 _ _ Wt)) ?_ ?_
    .rintro j x ys σ H5 Kt Kf hx ⟨⟨u,rfl⟩,kP,Wu,ks,rfl,kl,kr⟩ kt kf;obtain⟨hj,rfl⟩:=Hu hx;have hr:=jr _ (Hh (d:=0) hj);revert hr;generalize js.getD j 0=y;intro hr;have no:Kf [some (.int y),some (.int home),some (.bl wt),some (.ref D),some (.ref O)] H5:=kf _ _ ⟨⟨_,rfl⟩,kP,Wu,ks,rfl,by lia,kr⟩;have yes:y≠home->(wt=false->st.count (some y)<(eJ T y).length)->Kt (.int y) [some (.int y),some (.int home),some (.bl wt),some (.ref D),some (.ref O)] H5:=fun og hy=>kt _ _ _ Wu (by rw[aI];exact b_ (show _<100 by lia) (by decide)) ⟨⟨_,rfl⟩,bf kP hG,af,ks++[y],jk,by rw[ce];simp;lia,fun x hx=>by
      rcases bY.mp hx with z|z
      .exact kr x z
      .rw[cA.mp z];exact⟨hr,hy,og⟩⟩
     refine⟨_,rfl,_,rfl,rfl,_,rfl,?_⟩;refine eA (fun e=>?_) (fun e=>uv no);have og:y≠home:=fun z=>by subst z;simp at e
     refine⟨_,rfl,wt,rfl,?_⟩;refine eA (fun e2=>rW ⟨_,rfl,yes og fun z=>absurd (e2.symm.trans z) (by decide)⟩) (fun e2=>?_);obtain⟨yn,rfl⟩:∃yn:Nat,(yn:Int)=y:=⟨y.toNat,by lia⟩
     have TH:=ou4.same kP;obtain⟨row,Y3,Y4⟩:=TH.rows yn (by lia);refine⟨_,rfl,.inl ⟨rfl,_,aV.of (kP _ _ OZ)⟩,_,rfl,D,_,_,rfl,rfl,kP _ _ OZ,rfl,K0,?_⟩;refine⟨_,rfl,_,rfl,O,_,_,_,rfl,rfl,aV.of TH.at_,r6 (by rw[ou.len];lia),_,_,rfl,.inl (aV.of Y3),_,_,rfl,rfl,_,rfl,?_⟩;refine eA (fun e3=>⟨_,rfl,yes og fun _=>?_⟩) (fun e3=>no);have e4:=dk e3;rw[yH,aI,Y4.length_eq] at e4;lia
    .rintro ys σ H5 ⟨_,kP,Wu,ks,rfl,kl,kr⟩;have Y5:=kP _ _ OZ;rw[aI] at kl;refine⟨_,rfl,.inl ⟨rfl,_,aV.of Y5⟩,_,rfl,by show 1<=sizeLine;decide,fun N hN=>?_⟩;refine⟨G,N,_,_,rfl,rfl,ah hN _ _ Wu,af,by rw[aI];exact a9 (show _<=100 by simp;lia) (by decide),fun M hM=>?_⟩;have uz:aA H3 (upd (upd H5 N (.lst [.bV])) M (.lst (IV ks++[.bV]))):=((eS.trans kP).trans (ah hN)).trans (ah hM);have Tt:(upd (upd H5 N (.lst [.bV])) M (.lst (IV ks++[.bV]))) M=some (.lst (IV ks++[.bV])):=af;obtain⟨o,ho,bL⟩:∃o:Option Int,sF (IV ks++[.bV]) 0=some (y9 o)/\∀y,o=some y->(0<=y/\y<n)/\(wt=false->st.count (some y)<(eJ T y).length)/\y≠home:=by
      cases ks with
      |nil=>exact⟨none,az (j:=0) rfl,fun y z=>(nomatch z)⟩
      |cons k ks=>exact⟨some k,az (j:=0) rfl,fun y z=>by cases z;exact kr k cg⟩
     refine⟨M,_,_,_,rfl,rfl,aV.of Tt,ho,D,_,_,rfl,rfl,uz _ _ TF,by rw[aI,sl];exact b_ (show i<33 by lia) (by decide),?_⟩;exact⟨⟨_,_,_,rfl⟩,eB (seo.trans (aH.of uz)) IK,(KW.same uz).put y6.symm,st++[o],by rw[af,C3],by rw[ce,sl];rfl,so.push (fun y z=>⟨(bL y z).1,(bL y z).2.1⟩),fun j hj=>by
      rw[ce,o_] at hj;by_cases c:j<st.length
      .rw[bv,k6 c,<-bv];exact nh j c
      .have:j=st.length:=by lia
       subst this;rw[bv,qo (aT _),Nat.sub_self,sl,K8];intro z;exact(bL home z).2.2 rfl⟩
  .rintro σ Hc ⟨⟨v6,v7,v8,rfl⟩,se,pt,st,kW,sl,so,nh⟩;refine⟨_,rfl,D,_,rfl,.inl ⟨aV.of kW,fun r fQ=>?_⟩⟩;exact q r st _ (se.trans (aH.of (ah fQ))) (pt.same (ah fQ)) (se.free pt.full fQ) af (by rw[sl,aI]) so nh
end
abbrev O0:Stmt:=top 62
theorem TJ{v:V}{i:Nat}{u:TS}{D:xt}{σ:St}{H:Hp}(h:u D (σ.set i (some v)) H):I0 (Ja (tC v) (be i)) u D σ H:=h
section
variable {P:Program} {w:World} {K:PySem.W.Frag} {mg:Str->Option Value} {base:Heap}
end
def TL(hs:List Int)(i:Nat)(o:Option Int):Option Int:=if o=some (hs.getD i 0) then none else o
def Et(hs:List Int)(gs:List (Option Int))(k:Nat):List (Option Int):=(List.range k).map fun i=>TL hs i (gs.getD i none)
theorem Hw{hs:List Int}{gs:List (Option Int)}{k:Nat}:Et hs gs (k+1)=Et hs gs k++[TL hs k (gs.getD k none)]:=by unfold Et;rw[jI,bT];rfl
theorem K9{hs:List Int}{gs:List (Option Int)}{k:Nat}:(Et hs gs k).length=k:=by unfold Et;rw[aI,dq]
theorem Hy{hs:List Int}{i:Nat}{o:Option Int}:(if y9 o=.int (hs.getD i 0) then V.bV else y9 o)=y9 (TL hs i o):=by
 unfold TL;by_cases z:o=some (hs.getD i 0)
 .rw[am z,am (by rw[z];rfl)];rfl
 .rw[if_neg z,if_neg (fun (y:y9 o=V.int (hs.getD i 0))=>z (K6 (show y9 o=y9 (some (hs.getD i 0)) from y)))]
section
variable {P:Program} {w:World} {K:PySem.W.Frag} {mg:Str->Option Value} {base:Heap}
theorem C4:aG ["_law_homes_here","_law_stand","_law_handing_here","_law_found","_law_k","_law_gone"] ["_law_homes_here","_law_stand","_law_handing_here"] (ak O0):=⟨rfl,rfl,rfl,by decide +kernel,rfl,by decide +kernel,by decide +kernel⟩
def M9:Sp:=fun vs H Q _=>∃ (a b c:Addr) (hs:List Int) (st gs:List (Option Int)) (m:Nat),vs=[.ref a,.ref b,.ref c]/\H a=some (.tup (IV hs))/\H b=some (.tup (SV st))/\H c=some (.tup (SV gs))/\hs.length=m/\st.length=m/\gs.length=m/\m<=16/\(∀j,j<m->st.getD j none=none->gs.getD j none=none)/\∀ (r:Addr) (H':Hp),aA H H'->H r=none->H' r=some (.tup (SV (Et hs gs m)))->Q (.ref r) H'
theorem O1{f:Addr}{fd:FuncData}(F:fY K "_law_behind" "_law_behind" O0 f fd)(B:Bl mg):bo P w K mg base a7 1 f fd ["_law_homes_here","_law_stand","_law_handing_here"] M9:=by
 refine F.ok C4 (fun vs H Q E h=>?_) (fun dN A outer s H vs Q E hr h=>?_)
 .obtain⟨a,b,c,hs,st,gs,m,rfl,_⟩:=h;rfl
 .obtain⟨a,b,c,hs,st,gs,m,rfl,ha,hb,hc,hl,sl,gl,m16,hn,q⟩:=h;refine'⟨_,ai (aE (i:=3) C4.nd rfl (Or.inl rfl) (cf ag))
   (ai (dH eI rfl (bq rfl B.range (aa (aD aO (by rfl) B.len dU (aa (pv 0) ag)) ag)) (au (i:=4) C4.nd rfl (Or.inl rfl))
    (ai (aE (i:=5) C4.nd rfl (Or.inl rfl) (E5 (Nv (Nu (aL bH (pv 1) (pv 4) (fun _ _=>rfl)))) (iG (dI gn (aL bH (pv 2) (pv 4) (fun _ _=>rfl)) (aL bH (pv 0) (pv 4) (fun _ _=>rfl)) (aS _)))))
    (ap (cr (gK gH jv ju cM (pv 3) (aa (xx (gE (pv 5)) dF (aL bH (pv 2) (pv 4) (fun _ _=>rfl))) ag))))))
   (ap (aR (cB dg (by rfl) B.tup o9 (aa (pv 3) ag))))),?_⟩
  refine⟨by show 0<=sizeLine;decide,fun D hD=>?_⟩;refine⟨_,rfl,a,_,rfl,.inr (bW.of (ah hD _ _ ha)),m,by rw[aI,hl],by lia,by lia,dX (lo:=0) (n:=m) (fun i σ Hc=>(∃v4 v5,σ=[some (.ref a),some (.ref b),some (.ref c),some (.ref D),v4,v5])/\aA H Hc/\Hc D=some (.lst (SV (Et hs gs i)))) ⟨⟨_,_,rfl⟩,ah hD,af⟩ ?_ ?_⟩
  .rintro i σ Hc hi ⟨⟨v4,v5,rfl⟩,sm,y8⟩;rw[fm];have dE:∀ (vv:V) v5,vv=y9 (TL hs i (gs.getD i none))->(∃v4 YO,[some (.ref a),some (.ref b),some (.ref c),some (.ref D),some (.int (i:Int)),v5]=[some (V.ref a),some (.ref b),some (.ref c),some (.ref D),v4,YO])/\aA H (upd Hc D (.lst (SV (Et hs gs i)++[vv])))/\(upd Hc D (.lst (SV (Et hs gs i)++[vv]))) D=some (.lst (SV (Et hs gs (i+1)))):=fun vv v5 e=>⟨⟨_,_,rfl⟩,bf sm hD,by rw[af,e,Hw,C3]⟩
   have hz:(SV (Et hs gs i)).length<sizeLine:=by rw[aI,K9];exact b_ (show i<33 by lia) (by decide)
   refine⟨_,rfl,_,rfl,b,_,_,_,rfl,rfl,bW.of (sm _ _ hb),Ht (by lia),_,rfl,?_⟩;refine eA (fun e=>?_) (fun e=>?_)
   .have e0:st.getD i none=none:=by
     cases z:st.getD i none with
     |none=>rfl
     |some h=>rw[z] at e;exact absurd (dk e) (by intro y;cases y)
    refine⟨_,rfl,.inl ⟨rfl,_,aV.of y8⟩,_,rfl,_,rfl,rW ?_⟩;exact⟨D,_,_,rfl,rfl,y8,hz,dE _ _ (by rw[hn i hi e0];rfl)⟩
   .refine⟨_,rfl,_,rfl,c,_,_,_,rfl,rfl,bW.of (sm _ _ hc),Ht (by lia),_,rfl,_,rfl,a,_,_,_,rfl,rfl,bW.of (sm _ _ ha),Tp (by lia),K7,?_⟩;refine⟨_,rfl,.inl ⟨rfl,_,aV.of y8⟩,_,rfl,_,rfl,?_⟩;refine eA (fun e2=>?_) (fun e2=>?_)
    .exact⟨D,_,_,rfl,rfl,y8,hz,dE _ _ (by rw[<-Hy,am (dk e2)])⟩
    .exact⟨_,rfl,_,rfl,c,_,_,_,rfl,rfl,bW.of (sm _ _ hc),Ht (by lia),D,_,_,rfl,rfl,y8,hz,dE _ _ (by rw[<-Hy,if_neg (fun z=>e2 (cZ z))])⟩
  .rintro σ Hc ⟨⟨v4,v5,rfl⟩,sm,y8⟩;refine⟨_,rfl,D,_,rfl,.inl ⟨aV.of y8,fun r fQ=>?_⟩⟩;exact q r _ (sm.trans (ah fQ)) (sm.free fQ) af
end
end Ba
namespace gw
def oU(ts:Ts):Ts:=ts.map fun t=>(t.2,t.1)
theorem C5{ts:Ts}{a b:Nat}:T (oU ts) a b↔T ts b a:=by
 unfold T oU;rw[aX];constructor
 .rintro⟨⟨x,y⟩,h,e⟩;have e1:=congrArg Prod.fst e;have e2:=congrArg Prod.snd e;dsimp only at e1 e2;subst e1 e2;exact h
 .exact fun h=>⟨_,h,rfl⟩
theorem yI{ts:Ts}:∀ {k a b:Nat},cV (oU ts) k a b->cV ts k b a
 |0,_,_,e=>e.symm
 |k+1,a,b,⟨c,w,t⟩=>cV.cons (C5.mp t) (yI w)
theorem oW{ts:Ts}:∀ {k a b:Nat},cV ts k a b->cV (oU ts) k b a
 |0,_,_,e=>e.symm
 |k+1,a,b,⟨c,w,t⟩=>cV.cons (C5.mpr t) (oW w)
theorem C6{ts:Ts}{h:Int}:((oU ts).filter fun t=>decide (t.1=h)).length=(ts.filter fun t=>decide (t.2=h)).length:=by
 unfold oU;rw[List.filter_map,List.length_map];rfl
theorem K_{ts:Ts}{h:Int}:((oU ts).filter fun t=>decide (t.2=h)).length=(ts.filter fun t=>decide (t.1=h)).length:=by
 unfold oU;rw[List.filter_map,List.length_map];rfl
theorem Hz{n:Nat}{ts:Ts}(F:bD n ts):bD n (oU ts):=by
 refine⟨F.n1,F.n2,?_,fun t ht=>?_,fun t ht=>?_,fun h=>?_,fun h=>?_,fun a b ha hb=>?_⟩
 .exact List.Pairwise.map _ (fun a b pN e=>pN (dY (congrArg Prod.snd e) (congrArg Prod.fst e))) (o4.mp F.nd)
 .obtain⟨u,hu,rfl⟩:=aX.mp ht;exact⟨(F.rg u hu).2,(F.rg u hu).1⟩
 .obtain⟨u,hu,rfl⟩:=aX.mp ht;exact fun e=>F.ne u hu e.symm
 .rw[C6,K_];exact(F.ym h).symm
 .rw[C6,<-F.ym h];exact F.most h
 .obtain⟨k,w⟩:=F.con b a hb ha;exact⟨k,oW w⟩
theorem La{n:Nat}{ts:Ts}(F:bD n ts){a b:Nat}(ha:a<n)(hb:b<n):far (oU ts) a b=far ts b a:=by
 have h:=F.Ed hb ha;exact A3 ⟨oW h.1,fun k w=>h.2 k (yI w)⟩
end gw
namespace Ba
open PySem L2 gw
abbrev Y6:Stmt:=top 58
theorem wI:(["_law_house","_law_far"]:List Str).Nodup:=by decide +kernel
def y_(f:Nat->Nat)(xs:List Nat):List (gJ×V):=xs.map fun (x:Nat)=>(Sum.inl (x:Int),V.int ((f x:Nat):Int))
theorem Lb{f:Nat->Nat}{xs:List Nat}:(y_ f xs).length=xs.length:=aI _
theorem qj{f:Nat->Nat}{x:Nat}:∀ {xs:List Nat},ot (y_ f xs) (Sum.inl (x:Int))=if x∈xs then some (.int ((f x:Nat):Int)) else none
 |[]=>rfl
 |y::ys=>by
  unfold y_;rw[d7];by_cases e:y=x
  .subst e;rw[mr rfl,am cg]
  .have e2:¬ ((Sum.inl (y:Int):gJ)=Sum.inl (x:Int)):=fun z=>e (dt (Sum.inl.inj z));rw[mv e2];have ih:=qj (f:=f) (x:=x) (xs:=ys);unfold y_ at ih;rw[ih];by_cases h:x∈ys
   .rw[am h,am (cp _ h)]
   .rw[if_neg h,if_neg (fun z=>(bi.mp z).elim (fun q=>e q.symm) h)]
theorem Lc{f:Nat->Nat}{x k:Nat}{xs:List Nat}(h:x∉xs):jg (y_ f xs) (Sum.inl (x:Int)) (.int ((k:Nat):Int))=y_ (put f x k) (xs++[x]):=by
 rw[F0 _ (by rw[qj,if_neg h])];unfold y_;rw[bT,d7,qN,g9];congr 1;refine il fun y hy=>?_;rw[eV (show y≠x from fun z=>h (z ▸ hy))]
theorem uG{e:V->V->Bool}:∀ {xs:List V},io e xs []=decide (xs=[])
 |[]=>rfl
 |x::xs=>by simp[io]
section
variable {P:Program} {w:World} {K:PySem.W.Frag} {mg:Str->Option Value} {base:Heap}
theorem Eu:aG ["_law_many","_law_ties","_law_home","_law_far","_law_waiting","_law_house","_law_one","_law_other"] ["_law_many","_law_ties","_law_home"] (ak Y6):=⟨rfl,rfl,rfl,by decide +kernel,rfl,by decide +kernel,by decide +kernel⟩
def HB(K:PySem.W.Frag):Sp:=fun vs H Q _=>∃ (l:Addr) (n st:Nat) (zs:Zs),vs=[.int n,.ref l,.int st]/\H l=some (.lst (zr zs))/\PO H zs/\bD n (zp zs)/\st<n/\∀ (r:Addr) (H':Hp),aA H H'->H r=none->H' r=some (.lst (NV ((List.range n).map fun x=>far (zp zs) x st)))->Q (.ref r) H'
theorem TM{f:Addr}{fd:FuncData}(F:fY K "_law_homeward" "_law_homeward" Y6 f fd)(B:Bl mg):bo P w K mg base a7 1 f fd ["_law_many","_law_ties","_law_home"] (HB K):=by
 refine F.ok Eu (fun vs H Q E h=>?_) (fun dN A outer s H vs Q E hr h=>?_)
 .obtain⟨l,n,st,zs,rfl,_⟩:=h;rfl
 .obtain⟨l,n,st,zs,rfl,hl,po,Fi,hs,k⟩:=h;have fi:=Hz Fi;have n1:=fi.n1;have n2:=fi.n2;have MR:=hr.u (n:=1);refine'⟨_,(ai (aE (i:=3) Eu.nd rfl (Or.inr rfl) (JO (F4 (pv 2) aq JN) rfl rfl (by simp) (by decide)))
   (ai (aE (i:=4) Eu.nd rfl (Or.inl rfl) (cf (aa (pv 2) ag)))
   (ai (q_ eI (aQ (FT (e:=mh) hr.u) (pv 4) (cf ag) (aS _)) (ai (aE (i:=5) Eu.nd rfl (Or.inl rfl) (gK gH PySem.F.slot_list_pop PySem.F.type_list_pop Fw (pv 4) (aa aq ag)))
    (ap (dH eI rfl (bA (pv 1)) (fv (n:=2) rfl (bb (au (i:=6) Eu.nd rfl (Or.inl rfl)) (bb (au (i:=7) Eu.nd rfl (Or.inl rfl)) dG)))
     (ap (de (PW.pt (nV (aQ gn (pv 7) (pv 5) (aS _)) (md (Nw (DW MR (pv 6) (pv 3)))))) (ai (JK MR (pv 3) (pv 6) (aP cx (Ce MR (pv 3) (pv 5) (fun _ _=>rfl)) aq) rfl)
      (ap (cr (gK gH jv ju cM (pv 4) (aa (pv 6) ag))))) bE))))))
   (ap (aR ?c1))))),?_⟩
  case c1=>
   refine' bz (g:=(be 0)) (te:=(MX (aB 1) (aB 0))) (NB:=["_law_house","_law_far"]) (src:=[none,some 3]) (a_ (by kernel_rfl)) rfl (bq rfl B.range (aa (pv 0) ag)) ?g ?t ?e;case g=>exact fun cl C s₃ H₃ fp=>(au (i:=0) wI rfl (Or.inl rfl) (Or.inr rfl))
   case t=>exact fun cl C s₃ H₃ fp=>b8
   case e=>exact fun cl C s₃ H₃ fp=>(Ce MR (pv 1) (pv 0) (fun _ _=>rfl))
  refine fun D hD=>⟨_,rfl,af,[(Sum.inl (st:Int),.int 0)],rfl,by show 1<=15;decide,?_⟩
  rw[kB];have e0:oy [] [(Sum.inl (st:Int),V.int 0)]=y_ (fun _=>0) [st]:=rfl;rw[e0];have smD:aA H (upd H D (.dK (y_ (fun _=>0) [st]))):=ah hD;refine⟨_,rfl,by show 1<=sizeLine;decide,fun R hR=>?_⟩;have Kw:D≠R:=aj (H:=upd H D (.dK (y_ (fun _=>0) [st]))) af hR;have QL:H R=none:=smD.free hR;refine⟨fun m σ H2=>∃ (i:Nat) (Rs:List Nat) (f:Nat->Nat),m=n-i/\i<=Rs.length/\yY n (oU (zp zs)) st i Rs f/\(∃a b c,σ=[some (.int n),some (.ref l),some (.int st),some (.ref D),some (.ref R),a,b,c])/\aA H H2/\H2 D=some (.dK (y_ f Rs))/\H2 R=some (.lst (NV (Rs.drop i))),⟨_,0,[st],fun _=>0,rfl,cu _,yY.start hs,⟨none,none,none,rfl⟩,smD.trans (ah hR),by rw[ao Kw,af],af⟩,?_⟩;rintro m σ H2 ⟨i,Rs,f,rfl,hi,Bf,⟨a,b,c,rfl⟩,sm,hX,M5⟩;have hRn:Rs.length<=n:=dM Bf.nd Bf.lt;refine⟨_,rfl,by show 0<=sizeLine;decide,fun E1 TQ=>?_⟩;have sE:=ah (o:=.lst []) TQ;refine⟨R,E1,_,[],rfl,rfl,aV.of (sE _ _ M5),aV.of af,fun i h1 h2=>absurd h2 (by simp),_,rfl,?_⟩;rw[am rfl,uG];have Y7:=sm.trans sE;have hDE:=sE _ _ hX;have hRE:=sE _ _ M5;generalize upd H2 E1 (.lst [])=H3 at *;by_cases vW:i<Rs.length
  rotate_left
  .have e:NV (Rs.drop i)=[]:=by rw[List.drop_eq_nil_iff.mpr (by lia)];rfl
   rw[cZ e];refine uv ?_;refine⟨_,rfl,_,rfl,by lia,by lia,fun D3 h9=>?_⟩;rw[fT];refine dh (fun j ys σ H4=>(∃x,σ=[x,some (.ref D)])/\aA H3 H4/\H4 D3=some (.lst ys)/\ys=NV ((List.range j).map fun x=>far (zp zs) x st)) ⟨⟨_,rfl⟩,ah h9,af,rfl⟩ ?_ ?_
   .rintro j ys σ H4 Kt Kf hj ⟨⟨x,rfl⟩,s4,kO,rfl⟩ kt kf;rw[fm];have g1:=sZ.k (k:=Sum.inl (j:Int)) (s4 _ _ hDE);obtain⟨q1,q2⟩:=Bf.done fi (by lia) hj;rw[qj,am q1,q2,La Fi hs hj] at g1;refine⟨_,rfl,_,rfl,D,_,rfl,g1,kt _ _ _ kO (by rw[bS,aI,dq];exact b_ (show j<33 by lia) (by decide)) ⟨⟨_,rfl⟩,bf s4 h9,af,?_⟩⟩;rw[jI,bT];exact qh
   .rintro ys σ H4 ⟨_,s4,kO,rfl⟩;exact k D3 H4 (Y7.trans s4) (Y7.free h9) kO
  have sX:Rs[i]?=some Rs[i]:=cH vW;have QD:Rs.drop i=Rs[i]::Rs.drop (i+1):=qp vW;generalize Rs[i]=u at sX QD;have ne:¬ NV (Rs.drop i)=[]:=by rw[QD];exact fun z=>by cases z
  rw[d6 ne];refine rW ⟨_,fun σ' H' z=>z,?_⟩;refine⟨_,rfl,.inl ⟨rfl,_,aV.of hRE⟩,R,_,_,0,.int (u:Int),rfl,rfl,hRE,by decide,by decide,Tw (by rw[bS,zZ];lia),by rw[QD];rfl,?_⟩;have eE:(NV (Rs.drop i)).eraseIdx 0=NV (Rs.drop (i+1)):=by rw[QD];rfl
  rw[eE];have s4:aA H (upd H3 R (.lst (NV (Rs.drop (i+1))))):=bf Y7 QL;have kO:(upd H3 R (.lst (NV (Rs.drop (i+1))))) D=some (.dK (y_ f Rs)):=by rw[ao Kw];exact hDE
  have vY:(upd H3 R (.lst (NV (Rs.drop (i+1))))) R=some (.lst (NV (Rs.drop (i+1)))):=af;generalize upd H3 R _=H4 at *;refine⟨_,rfl,l,rfl,⟨_,aV.of (s4 _ _ hl)⟩,g7 (K:=K) (xs:=zr zs) (fun j σ H5=>∃ (gN:List Nat) (f':Nat->Nat),yY n (oU (zp zs)) st i gN f'/\gN[i]?=some u/\(∀v:Nat,(ci v,ci u)∈(zp zs).take j->v∈gN/\f' v<=f' u+1)/\(∃a b,σ=[some (.int n),some (.ref l),some (.int st),some (.ref D),some (.ref R),some (.int (u:Int)),a,b])/\aA H H5/\H5 D=some (.dK (y_ f' gN))/\H5 R=some (.lst (NV (gN.drop (i+1))))) ⟨Rs,f,Bf,sX,fun v hv=>by simp at hv,⟨_,_,rfl⟩,s4,kO,vY⟩ (fun j σ H5 _ ⟨_,_,_,_,_,_,s5,_⟩=>aV.of (s5 _ _ hl)) ?_ ?_⟩
  .rintro j x σ H5 hx ⟨gN,f',uy,IL,dn,⟨a',b',rfl⟩,s5,xn,F_⟩;obtain⟨z,hz,rfl⟩:=lT hx;have ux:z∈zs:=cI hz;have e2:(zp zs)[j]?=some z.2:=by unfold zp;rw[bX,hz];rfl
   have tk:(zp zs).take (j+1)=(zp zs).take j++[z.2]:=by rw[eZ,e2];rfl
   have Y8:z.2∈zp zs:=cI e2;obtain⟨⟨r1,r2⟩,r3,r4⟩:=Fi.rg _ Y8;obtain⟨v,v',ev,M6,ab5⟩:∃v v':Nat,z.2=(ci v,ci v')/\v<n/\v'<n:=⟨z.2.1.toNat,z.2.2.toNat,dY (by show _=((z.2.1.toNat:Nat):Int);lia) (by show _=((z.2.2.toNat:Nat):Int);lia),by lia,by lia⟩
   have hz5:=s5 _ _ (po z ux);rw[ev] at hz5 tk Y8;have GU:u∈gN:=cI IL;have AT:i<gN.length:=(dO.mp IL).1;have GV:gN.length<=n:=dM uy.nd uy.lt;refine⟨z.1,_,rfl,bW.of hz5,rfl,_,_,rfl,_,_,rfl,rfl,?_⟩;refine⟨_,rfl,_,rfl,rfl,_,rfl,?_⟩;have same:(∀x:Nat,(ci x,ci u)∈(zp zs).take (j+1)->(ci x,ci u)∈(zp zs).take j\/(x=v/\u=v')):=fun x hx=>by
    rw[tk] at hx;rcases bY.mp hx with z|z
    .exact .inl z
    .have:=cA.mp z;exact .inr ⟨dt (congrArg Prod.fst this),dt (congrArg Prod.snd this)⟩
   by_cases Y9:v'=u
   rotate_left
   .rw[d6 (show ¬ V.int (ci v')=V.int (u:Int) from fun z=>Y9 (by have:=V.int.inj z;exact dt this))];refine lI (lI ⟨gN,f',uy,IL,fun x hx=>?_,⟨_,_,rfl⟩,s5,xn,F_⟩);rcases same x hx with z|z
    .exact dn x z
    .exact absurd z.2.symm Y9
   subst Y9;rw[cZ rfl];have gD:∀x:Nat,sZ H5 D (.int (x:Int)) (if x∈gN then some (.int ((f' x:Nat):Int)) else none):=fun x=>by
    have:=sZ.k (k:=Sum.inl (x:Int)) xn;rw[qj] at this;exact this
   refine vL ⟨_,rfl,_,rfl,D,_,rfl,gD v,_,rfl,?_⟩;by_cases yZ:v∈gN
   .rw[am yZ];refine lI ⟨gN,f',uy,IL,fun x hx=>?_,⟨_,_,rfl⟩,s5,xn,F_⟩;rcases same x hx with z|z
    .exact dn x z
    .rw[z.1];exact⟨yZ,uy.bd _ IL _ yZ⟩
   .rw[if_neg yZ];refine vL ?_;have g2:=gD v';rw[am GU] at g2;refine⟨_,rfl,_,rfl,D,_,rfl,g2,_,_,rfl,rfl,_,rfl,_,rfl,D,_,rfl,F1.k (k:=Sum.inl (v:Int)) xn (by rw[Lb];exact b_ (show gN.length<33 by lia) (by decide)),?_⟩;have e1:jg (y_ f' gN) (Sum.inl (v:Int)) (V.int (((f' v':Nat):Int)+1))=y_ (put f' v (f' v'+1)) (gN++[v]):=by
     rw[show ((f' v':Nat):Int)+1=((f' v'+1:Nat):Int) by lia,Lc yZ]
    rw[e1];have hR6:(upd H5 D (.dK (y_ (put f' v (f' v'+1)) (gN++[v])))) R=some (.lst (NV (gN.drop (i+1)))):=by rw[ao Kw.symm];exact F_
    refine⟨_,rfl,.inl ⟨rfl,_,aV.of hR6⟩,_,rfl,R,_,_,rfl,rfl,hR6,by rw[bS,zZ];exact b_ (show gN.length-(i+1)<33 by lia) (by decide),?_⟩;have Yq:v'≠v:=fun z=>yZ (z ▸ GU);have Yp:T (oU (zp zs)) v' v:=C5.mpr Y8;refine⟨gN++[v],put f' v (f' v'+1),uy.add IL M6 Yp yZ,by rw[k6 AT];exact IL,fun x hx=>?_,⟨_,_,rfl⟩,bf (bf s5 hD) QL,?_,?_⟩
    .rw[eV Yq];rcases same x hx with z|z
     .obtain⟨q1,q2⟩:=dn x z;exact⟨fj _ q1,by rw[eV (fun (y:x=v)=>yZ (y ▸ q1))];exact q2⟩
     .rw[z.1];exact⟨by simp,by rw[g9];exact aT _⟩
    .rw[ao Kw,af]
    .rw[af,qh,List.drop_append_of_le_length (by lia)]
  .rintro σ H5 ⟨gN,f',uy,IL,dn,⟨a',b',rfl⟩,s5,xn,F_⟩;rw[cY,<-bR,gh] at dn;have AT:i<gN.length:=(dO.mp IL).1;have GV:gN.length<=n:=dM uy.nd uy.lt;exact⟨n-(i+1),by lia,i+1,gN,f',rfl,AT,uy.next IL (fun v t=>dn v (C5.mp t)),⟨_,_,_,rfl⟩,s5,xn,F_⟩
end
abbrev Y_:Stmt:=top 18
abbrev Za:Stmt:=top 19
abbrev Zb:Stmt:=top 22
abbrev Zc:Stmt:=top 20
abbrev Bv:Stmt:=top 2
abbrev Zd:Stmt:=top 21
theorem ie:(["beat","stands","log","letter"]:List Str).Nodup:=by decide +kernel
theorem ig:(["beat","log","letter","stands"]:List Str).Nodup:=by decide +kernel
theorem eR:(["beat","net","homes","stands","log","letter"]:List Str).Nodup:=by decide +kernel
def oV:Option Nat->V
 |none=>.bV
 |some x=>.int (x:Int)
def TU:R2:=fun x y H Q=>y=.bV/\Q (.bl (!decide (x=.bV))) H
theorem O2{st:List (Option Nat)}{i:Nat}{x:V}(h:(st.map oV)[i]?=some x):i<st.length/\x=oV (st.getD i none):=by
 have hi:=(dO.mp h).1;rw[aI] at hi;refine⟨hi,?_⟩;rw[bX,cH hi] at h;rw[bv,cH hi];exact(bh h).symm
theorem wJ{o:Option Nat}:(!decide (oV o=.bV))=o.isSome:=by cases o <;> simp[oV]
theorem jn{α:Type}{l:List α}{i:Nat}{d:α}(h:i<l.length):l[i]?=some (l.getD i d):=by rw[bv,cH h];rfl
theorem fZ{st:List (Option Nat)}{i:Nat}(h:i<st.length):(st.map oV)[i]?=some (oV (st.getD i none)):=by
 rw[bX,bv,cH h];rfl
theorem HC{a b:Option Nat}:decide (oV a=oV b)=decide (a=b):=by
 cases a <;> cases b <;> simp[oV];exact⟨fun h=>dt h,fun h=>by rw[h]⟩
theorem wK{a b:Option Nat}:Fc (oV a) (oV b)=true:=by cases a <;> cases b <;> rfl
theorem M_{o:Option Nat}{h:Nat}:decide (oV o=.int (h:Int))=decide (o=some h):=HC (b:=some h)
theorem HD{o:Option Nat}{h:Nat}:Fc (oV o) (.int (h:Int))=true:=wK (b:=some h)
theorem C7{β:Type}{K:PySem.W.Frag}{a D:Addr}{g:TG}{tt:TT}{te:TE}{dE:Hp->Prop}{σB:St}{H0:Hp}(ms:List β)(e:β->V)(c:β->Bool)(G:β->V)(bU:St->Prop)(ha:H0 a=some (.lst (ms.map e)))(hD:H0 D=none)(hn:ms.length<=1000)(h0:bU σB)(hs:∀m σ H (Kt:V->St->Hp->Prop) (Kf:St->Hp->Prop),m∈ms->bU σ->aA H0 H->(∀σ2 H2,bU σ2->aA H H2->c m=true->Kt (G m) σ2 H2)->(∀σ2 H2,bU σ2->aA H H2->c m=false->Kf σ2 H2)->
   g (e m) σ H fun σ2 H2=>tt σ2 H2 fun b H3=>if b=true then te σ2 H3 fun v H4=>Kt v σ2 H4 else Kf σ2 H3)(hd:∀H,aA H0 H->H D=some (.lst ((ms.filter c).map G))->dE H):gu (Dr K a) g tt te D dE σB (upd H0 D (.lst [])):=by
 refine cP (xs:=ms.map e) (fun i ys σ H=>bU σ/\aA H0 H/\H D=some (.lst ys)/\ys=((ms.take i).filter c).map G) ⟨h0,ah hD,af,rfl⟩ (fun i ys σ H _ z=>aV.of (z.2.1 _ _ ha)) ?_ ?_
 .rintro i x ys σ H Kt Kf hx ⟨sh,sm,ir,rfl⟩ kt kf;rw[bX] at hx;obtain⟨y,hy,rfl⟩:=zj.mp hx;have tk:ms.take (i+1)=ms.take i++[y]:=by rw[eZ,hy];rfl
  refine hs y σ H Kt Kf (cI hy) sh sm (fun σ2 H2 tm s2 e=>?_) (fun σ2 H2 tm s2 e=>?_)
  .refine kt _ _ _ (s2 _ _ ir) ?_ ⟨tm,bf (sm.trans s2) hD,af,?_⟩
   .rw[aI];exact eY (a9 (fh _ _) (zq _ _)) (eY hn (by decide))
   .rw[tk,eN,bT,dS,e];rfl
  .refine kf _ _ ⟨tm,sm.trans s2,s2 _ _ ir,?_⟩;rw[tk,eN,dS,e];simp
 .rintro ys σ H ⟨_,sm,ir,rfl⟩;rw[aI,gh] at ir;exact hd H sm ir
def gO(H:Hp)(a:Addr)(as:List Addr)(N:Nat)(o:Nat->List (Option Nat)):Prop:=H a=some (.lst (as.map V.ref))/\Holds H as N (fun k=>.tup ((o k).map oV))
theorem gO.same{H H':Hp}{a:Addr}{as:List Addr}{N:Nat}{o:Nat->List (Option Nat)}(h:gO H a as N o)(s:aA H H'):gO H' a as N o:=⟨s _ _ h.1,h.2.mono fun j _ e=>s _ _ e⟩
theorem gO.at{H:Hp}{a:Addr}{as:List Addr}{N:Nat}{o:Nat->List (Option Nat)}(h:gO H a as N o){k:Nat}(hk:k<N):sF (as.map V.ref) (k:Int)=some (.ref (as.getD k 0)):=r6 (by rw[h.2.1];exact hk)
def Wv(ss ls:Nat->List (Option Nat))(N l:Nat):List Nat:=(List.range N).filter fun k=>((ss k).getD l none).isSome&&decide ((ss k).getD l none=(ls k).getD l none)
structure IM(H:Hp)(SA LA:Addr)(iN fL:List Addr)(n N:Nat)(ss ls:Nat->List (Option Nat)):Prop where
 rs:gO H SA iN (N+1) ss
 rl:gO H LA fL N ls
 sl:∀k,(ss k).length=n
 ll:∀k,(ls k).length=n
 wL:N<=500
theorem IM.same{H H':Hp}{SA LA:Addr}{iN fL:List Addr}{n N:Nat}{ss ls:Nat->List (Option Nat)}(h:IM H SA LA iN fL n N ss ls)(s:aA H H'):IM H' SA LA iN fL n N ss ls:=⟨h.rs.same s,h.rl.same s,h.sl,h.ll,h.wL⟩
def IN(ss ls:Nat->List (Option Nat))(N l home:Nat):Option Nat:=((List.range N).find? fun k=>((ss k).getD l none).isSome&&decide ((ls k).getD l none=some home)).map (·+1)
noncomputable def IP(ts:Ts)(home:Nat)(a b:Option Nat):Bool:=a.isSome&&(!decide (a=b)&&decide (far ts (a.getD 0) home<=far ts (b.getD 0) home))
noncomputable def O4(ts:Ts)(ss ls:Nat->List (Option Nat))(N l home:Nat):List Nat:=(List.range N).filter fun k=>IP ts home ((ss k).getD l none) ((ls k).getD l none)
section
variable {P:Program} {w:World} {K:PySem.W.Frag} {mg:Str->Option Value} {base:Heap}
theorem Ze:aG ["stands","log","letter","beat"] ["stands","log","letter","beat"] (ak Y_):=⟨rfl,rfl,rfl,by decide +kernel,rfl,by decide +kernel,by decide +kernel⟩
def Ld(K:PySem.W.Frag):Sp:=fun vs H Q _=>∃ (SA LA:Addr) (iN fL:List Addr) (n N:Nat) (ss ls:Nat->List (Option Nat)) (l k:Nat),vs=[.ref SA,.ref LA,.int l,.int k]/\IM H SA LA iN fL n N ss ls/\l<n/\k<N/\Q (.bl ((ss k).getD l none).isSome) H
theorem TV{f:Addr}{fd:FuncData}(F:fY K "is_handed_on" "is_handed_on" Y_ f fd)(B:Bl mg)(W:cs P w K mg base a7 2 "is_whole_within" ["thing","least","most"] (kd K)):bo P w K mg base a7 3 f fd ["stands","log","letter","beat"] (Ld K):=by
 refine F.ok Ze (fun vs H Q E h=>?_) (fun dN A outer s H vs Q E hr h=>?_)
 .obtain⟨SA,LA,iN,fL,n,N,ss,ls,l,k,rfl,_⟩:=h;rfl
 .obtain⟨SA,LA,iN,fL,n,N,ss,ls,l,k,rfl,EC,hl,hk,q⟩:=h;have rs:=EC.rs;have rl:=EC.rl;have hSk:=rs.2.2 k (by lia);have a1:=rs.at (k:=k) (by lia);refine⟨_,(ai (de (nW (gE (aF W hr aK (aa (pv 3) (aa aq (aa (aP iH (aD aO (by rfl) B.len dU (aa (pv 1) ag)) aq) ag)))))) (ap (aR xu)) bE)
   (ap (aR (jX (aF W hr aK (aa (pv 2) (aa aq (aa (aP iH (aD aO (by rfl) B.len dU (aa (aL aJ (pv 0) (pv 3) (fun _ _=>rfl)) ag)) aq) ag)))) (iG (dI pX (aL bH (aL aJ (pv 0) (pv 3) (fun _ _=>rfl)) (pv 2) (fun _ _=>rfl)) dF (aS _))))))),?_⟩
  refine⟨_,rfl,_,rfl,LA,_,rfl,.inl (aV.of rl.1),_,_,rfl,rfl,_,some (k:Int),_,_,rfl,.int _,_,rfl,km (by rw[aI,rl.2.1,oJ hk];rfl) ?_⟩;refine⟨_,rfl,_,rfl,_,rfl,SA,_,_,_,rfl,rfl,aV.of rs.1,a1,_,_,rfl,.inr (bW.of hSk),_,_,rfl,rfl,_,some (l:Int),_,_,rfl,.int _,true,by rw[aI,EC.sl,oJ hl],?_⟩;refine rW ⟨_,rfl,_,rfl,SA,_,_,_,rfl,rfl,aV.of rs.1,a1,_,rfl,_,_,_,_,rfl,rfl,bW.of hSk,az (fZ (by rw[EC.sl];exact hl)),rfl,?_⟩;show Q (V.bl (!decide (oV ((ss k).getD l none)=V.bV))) H;rw[wJ];exact q
theorem Zf:aG ["stands","log","letter"] ["stands","log","letter"] (ak Za):=⟨rfl,rfl,rfl,by decide +kernel,rfl,by decide +kernel,by decide +kernel⟩
def HF:Sp:=fun vs H Q _=>∃ (SA LA:Addr) (iN fL:List Addr) (n N:Nat) (ss ls:Nat->List (Option Nat)) (l:Nat),vs=[.ref SA,.ref LA,.int l]/\IM H SA LA iN fL n N ss ls/\l<n/\∀r H',aA H H'->H' r=some (.lst (NV ((List.range N).filter fun k=>((ss k).getD l none).isSome)))->Q (.ref r) H'
theorem TX{f:Addr}{fd:FuncData}(F:fY K "beats_under_way" "beats_under_way" Za f fd)(B:Bl mg)(HO:cs P w K mg base a7 3 "is_handed_on" ["stands","log","letter","beat"] (Ld K)):bo P w K mg base a7 4 f fd ["stands","log","letter"] HF:=by
 refine F.ok Zf (fun vs H Q E h=>?_) (fun dN A outer s H vs Q E hr h=>?_)
 .obtain⟨SA,LA,iN,fL,n,N,ss,ls,l,rfl,_⟩:=h;rfl
 .obtain⟨SA,LA,iN,fL,n,N,ss,ls,l,rfl,EC,hl,q⟩:=h;have rl:=EC.rl;have wL:=EC.wL;refine'⟨_,(ap (aR ?c1)),?_⟩;case c1=>
   refine' bz (g:=(be 0)) (tt:=(tB (iR (Ld K) [] E0 (aZ (aB 1) (aZ (aB 2) (aZ (aB 3) (aZ (aB 0) fg))))))) (te:=(aB 0)) (NB:=["beat","stands","log","letter"]) (src:=[none,some 0,some 1,some 2]) (a_ (by kernel_rfl)) rfl (bq rfl B.range (aa (aD aO (by rfl) B.len dU (aa (pv 1) ag)) ag)) ?g ?t ?e;case g=>exact fun cl C s₃ H₃ fp=>(au (i:=0) ie rfl (Or.inl rfl) (Or.inr rfl))
   case t=>exact fun cl C s₃ H₃ fp=>d8 (gE (aF HO hr aK (aa (pv 1) (aa (pv 2) (aa (pv 3) (aa (pv 0) ag))))))
   case e=>exact fun cl C s₃ H₃ fp=>(pv 0)
  refine⟨_,rfl,LA,_,rfl,.inl (aV.of rl.1),_,rfl,by lia,by rw[aI,rl.2.1];lia,fun D hD=>?_⟩;rw[aI,rl.2.1,fT];refine CW (lo:=0) (n:=N) (fun k=>((ss k).getD l none).isSome) (fun σ=>∃b,σ=[b,some (.ref SA),some (.ref LA),some (.int (l:Int))]) hD (by lia) ⟨_,rfl⟩ ?_ ?_
  .rintro j σ H5 Kt Kf hj ⟨b',rfl⟩ s5 kt kf;rw[fm] at kt |-;refine⟨_,rfl,_,rfl,_,rfl,_,rfl,SA,LA,iN,fL,n,N,ss,ls,l,j,rfl,EC.same s5,hl,hj,_,rfl,?_⟩;refine eA (fun c=>⟨_,rfl,kt _ _ ⟨_,rfl⟩ (aA.refl _) c⟩) (fun c=>kf _ _ ⟨_,rfl⟩ (aA.refl _) (by simpa using c))
  .intro H5 s5 xn;rw[show (((List.range N).filter fun k=>((ss k).getD l none).isSome).map fun (x:Nat)=>V.int (0+(x:Int)))=NV ((List.range N).filter fun k=>((ss k).getD l none).isSome) from il fun x _=>by rw[fm]] at xn;exact q D H5 s5 xn
theorem TY:aG ["stands","log","letter","beats"] ["stands","log","letter"] (ak Zb):=⟨rfl,rfl,rfl,by decide +kernel,rfl,by decide +kernel,by decide +kernel⟩
def O5:Sp:=fun vs H Q _=>∃ (SA LA:Addr) (iN fL:List Addr) (n N:Nat) (ss ls:Nat->List (Option Nat)) (l:Nat),vs=[.ref SA,.ref LA,.int l]/\IM H SA LA iN fL n N ss ls/\l<n/\∀r H',aA H H'->H r=none->H' r=some (.lst (NV (Wv ss ls N l)))->Q (.ref r) H'
theorem TZ{f:Addr}{fd:FuncData}(F:fY K "waited_at" "waited_at" Zb f fd)(BU:cs P w K mg base a7 4 "beats_under_way" ["stands","log","letter"] HF):bo P w K mg base a7 5 f fd ["stands","log","letter"] O5:=by
 refine F.ok TY (fun vs H Q E h=>?_) (fun dN A outer s H vs Q E hr h=>?_)
 .obtain⟨SA,LA,iN,fL,n,N,ss,ls,l,rfl,_⟩:=h;rfl
 .obtain⟨SA,LA,iN,fL,n,N,ss,ls,l,rfl,EC,hl,q⟩:=h;have wL:=EC.wL;refine'⟨_,(ai (aE (i:=3) TY.nd rfl (Or.inl rfl) (aF BU hr aK (aa (pv 0) (aa (pv 1) (aa (pv 2) ag)))))
   (ap (aR ?c1))),?_⟩
  case c1=>
   refine' bz (g:=(be 0)) (tt:=(iQ (eU (Qv) (eU (n6 K) (eU (j4 K) (aB 1) (aB 0)) (aB 2)) (eU (n6 K) (eU (j4 K) (aB 3) (aB 0)) (aB 2))))) (te:=(aB 0)) (NB:=["beat","log","letter","stands"]) (src:=[none,some 1,some 2,some 0]) (a_ (by kernel_rfl)) rfl (bA (pv 3)) ?g ?t ?e;case g=>exact fun cl C s₃ H₃ fp=>(au (i:=0) ig rfl (Or.inl rfl) (Or.inr rfl))
   case t=>exact fun cl C s₃ H₃ fp=>d8 (aQ gn (aL bH (aL aJ (pv 1) (pv 0) (fun _ _=>rfl)) (pv 2) (fun _ _=>rfl)) (aL bH (aL aJ (pv 3) (pv 0) (fun _ _=>rfl)) (pv 2) (fun _ _=>rfl)) (aS _))
   case e=>exact fun cl C s₃ H₃ fp=>(pv 0)
  refine⟨_,rfl,_,rfl,_,rfl,SA,LA,iN,fL,n,N,ss,ls,l,rfl,EC,hl,fun r H1 s1 rY=>?_⟩;refine⟨_,rfl,r,rfl,⟨_,aV.of rY⟩,fun D hD=>?_⟩;refine C7 ((List.range N).filter fun k=>((ss k).getD l none).isSome) (fun (k:Nat)=>V.int (k:Int)) (fun k=>decide ((ss k).getD l none=(ls k).getD l none)) (fun (k:Nat)=>V.int (k:Int)) (fun σ=>∃b,σ=[b,some (.ref LA),some (.int (l:Int)),some (.ref SA)]) rY hD (a9 (fh _ _) (by rw[dq];lia)) ⟨_,rfl⟩ ?_ ?_
  .rintro k σ H5 Kt Kf hk ⟨b',rfl⟩ s5 kt kf;have QV:k<N:=bK.mp (cq.mp hk).1;have L5:=EC.same (s1.trans s5);refine⟨_,rfl,_,rfl,LA,_,_,_,rfl,rfl,aV.of L5.rl.1,L5.rl.at QV,_,rfl,_,_,_,_,rfl,rfl,bW.of (L5.rl.2.2 k QV),az (fZ (by rw[L5.ll];exact hl)),?_⟩;refine⟨_,rfl,_,rfl,SA,_,_,_,rfl,rfl,aV.of L5.rs.1,L5.rs.at (by lia),_,rfl,_,_,_,_,rfl,rfl,bW.of (L5.rs.2.2 k (by lia)),az (fZ (by rw[L5.sl];exact hl)),wK,_,rfl,?_⟩;rw[HC];refine eA (fun c=>⟨_,rfl,kt _ _ ⟨_,rfl⟩ (aA.refl _) (cZ (dk c).symm)⟩) (fun c=>kf _ _ ⟨_,rfl⟩ (aA.refl _) (d6 fun z=>c (cZ z.symm)))
  .intro H5 s5 xn;refine q D H5 (s1.trans s5) (s1.free hD) ?_;rw[xn,zG];unfold Wv;simp only[Bool.and_comm]
theorem T4:aG ["homes","stands","log","letter","beat"] ["homes","stands","log","letter"] (ak Zc):=⟨rfl,rfl,rfl,by decide +kernel,rfl,by decide +kernel,by decide +kernel⟩
def O6:Sp:=fun vs H Q _=>∃ (a SA LA:Addr) (iN fL:List Addr) (homes:List Nat) (n N:Nat) (ss ls:Nat->List (Option Nat)) (l:Nat),vs=[.ref a,.ref SA,.ref LA,.int l]/\H a=some (.tup (NV homes))/\homes.length=n/\IM H SA LA iN fL n N ss ls/\l<n/\∀H',aA H H'->Q (oV (IN ss ls N l (homes.getD l 0))) H'
theorem T5{f:Addr}{fd:FuncData}(F:fY K "home_at" "home_at" Zc f fd)(BU:cs P w K mg base a7 4 "beats_under_way" ["stands","log","letter"] HF):bo P w K mg base a7 5 f fd ["homes","stands","log","letter"] O6:=by
 refine F.ok T4 (fun vs H Q E h=>?_) (fun dN A outer s H vs Q E hr h=>?_)
 .obtain⟨a,SA,LA,iN,fL,homes,n,N,ss,ls,l,rfl,_⟩:=h;rfl
 .obtain⟨a,SA,LA,iN,fL,homes,n,N,ss,ls,l,rfl,ha,hn,LG,hl,q⟩:=h;refine⟨_,(ai (dH eI rfl (bA (aF BU hr aK (aa (pv 1) (aa (pv 2) (aa (pv 3) ag))))) (au (i:=4) T4.nd rfl (Or.inl rfl))
    (ap (de (aQ gn (aL bH (aL aJ (pv 2) (pv 4) (fun _ _=>rfl)) (pv 3) (fun _ _=>rfl)) (aL bH (pv 0) (pv 3) (fun _ _=>rfl)) (aS _)) (ap (aR (aP cx (pv 4) aq))) bE)))
   (ap (aR dF))),?_⟩
  refine⟨_,rfl,_,rfl,_,rfl,SA,LA,iN,fL,n,N,ss,ls,l,rfl,LG,hl,fun r H1 s1 rY=>⟨r,rfl,⟨_,aV.of rY⟩,?_⟩⟩;have q1:=q H1 s1;have L1:=LG.same s1;have eW:IN ss ls N l (homes.getD l 0)=((((List.range N).filter fun k=>((ss k).getD l none).isSome).find? fun k=>decide ((ls k).getD l none=some (homes.getD l 0))).map (·+1)):=by
   unfold IN;rw[List.find?_filter];refine congrArg _ (congrArg (fun p=>List.find? p (List.range N)) (funext fun k=>?_));rw[iA];simp
  rw[eW] at q1;have hm:∀k∈(List.range N).filter fun k=>((ss k).getD l none).isSome,k<N:=fun k hk=>bK.mp (cq.mp hk).1;generalize (List.range N).filter (fun k=>((ss k).getD l none).isSome)=us at *;refine g7 (K:=K) (xs:=NV us) (fun j σ H2=>(∃x,σ=[some (.ref a),some (.ref SA),some (.ref LA),some (.int (l:Int)),x])/\H1=H2/\us.find? (fun k=>decide ((ls k).getD l none=some (homes.getD l 0)))=(us.drop j).find? fun k=>decide ((ls k).getD l none=some (homes.getD l 0))) ⟨⟨_,rfl⟩,rfl,rfl⟩ (fun j σ H2 _ z=>by rw[<-z.2.1];exact aV.of rY) ?_ ?_
  .rintro j x σ _ hx ⟨⟨x4,rfl⟩,rfl,ef⟩;obtain⟨k,hv,rfl⟩:=yB hx;have hj:j<us.length:=(dO.mp hv).1;have hk:=hm k (cI hv);have ed:us.drop j=k::us.drop (j+1):=by
    rw[qp hj];congr 1;exact(dO.mp hv).2
   rw[ed,jP] at ef;refine⟨_,rfl,_,rfl,LA,_,_,_,rfl,rfl,aV.of L1.rl.1,L1.rl.at hk,_,rfl,_,_,_,_,rfl,rfl,bW.of (L1.rl.2.2 k hk),az (fZ (by rw[L1.ll];exact hl)),?_⟩;refine⟨_,rfl,_,rfl,a,_,_,_,rfl,rfl,bW.of (s1 _ _ ha),az (jz (by lia)),HD,_,rfl,?_⟩;rw[M_];refine eA (fun c=>?_) (fun c=>?_)
   .rw[c] at ef;have ef:us.find? (fun k=>decide ((ls k).getD l none=some (homes.getD l 0)))=some k:=ef;rw[ef] at q1;exact⟨_,rfl,_,_,rfl,rfl,q1⟩
   .rw[Bool.not_eq_true _ |>.mp c] at ef;exact⟨⟨_,rfl⟩,rfl,ef⟩
  .rintro σ _ ⟨⟨x4,rfl⟩,rfl,ef⟩;rw[bS,List.drop_length] at ef;have ef:us.find? (fun k=>decide ((ls k).getD l none=some (homes.getD l 0)))=none:=ef;rw[ef] at q1;exact q1
theorem wM:aG ["net","homes","stand","handing","letter","house","goes"] ["net","homes","stand","handing","letter"] (ak Bv):=⟨rfl,rfl,rfl,by decide +kernel,rfl,by decide +kernel,by decide +kernel⟩
def qk(C:Addr):Sp:=fun vs H Q _=>∃ (L:Addr->Prop) (p:Addr) (n:Nat) (ts:Ts) (ha:Addr) (homes:List Nat) (sa:Addr) (st:List (Option Nat)) (fa:Addr) (fs:List (Option Nat)) (j h y:Nat),vs=[.ref p,.ref ha,.ref sa,.ref fa,.int j]/\cy C H L p n ts/\H ha=some (.tup (NV homes))/\H sa=some (.tup (st.map oV))/\H fa=some (.tup (fs.map oV))/\j<st.length/\j<fs.length/\j<homes.length/\homes.getD j 0<n/\st.getD j none=some h/\fs.getD j none=some y/\h<n/\y<n/\Q (.bl (IP ts (homes.getD j 0) (some h) (some y))) H
theorem HG{f C:Addr}{fd:FuncData}(F:fY K "is_led" "is_led" Bv f fd)(T:NT K mg C)(MF:ic P w K mg base a7 5 C "far" ["self","one","other"] (kg C)):bo P w K mg base a7 6 f fd ["net","homes","stand","handing","letter"] (qk C):=by
 obtain⟨fF,fdF,mF,bF,GF⟩:=MF.ex;refine F.ok wM (fun vs H Q E h=>?_) (fun dN A outer s H vs Q E hr h=>?_)
 .obtain⟨L,p,n,ts,ha,homes,sa,st,fa,fs,j,h,y,rfl,_⟩:=h;rfl
 .obtain⟨L,p,n,ts,ha,homes,sa,st,fa,fs,j,h,y,rfl,N,T6,Ww,QW,l1,l2,l3,hm,eh,ey,hn,yn,q⟩:=h;refine⟨_,(ai (aE (i:=5) wM.nd rfl (Or.inl rfl) (aL bH (pv 2) (pv 4) (fun _ _=>rfl)))
   (ai (aE (i:=6) wM.nd rfl (Or.inl rfl) (aL bH (pv 3) (pv 4) (fun _ _=>rfl)))
   (ai (de (PW.pt (xw (aQ nX (pv 6) dF (aS _)) (qZ (aQ gn (pv 6) (pv 5) (aS _))))) (ap (aR xu)) bE)
   (ap (aR (dI MA (cR (pv 0) T.cl mF GF hr bF .nil aK (aa (pv 6) (aa (aL bH (pv 1) (pv 4) (fun _ _=>rfl)) ag))) (cR (pv 0) T.cl mF GF hr bF .nil aK (aa (pv 5) (aa (aL bH (pv 1) (pv 4) (fun _ _=>rfl)) ag))) (aS _))))))),?_⟩
  refine⟨_,rfl,_,rfl,sa,_,_,_,rfl,rfl,bW.of Ww,az (fZ l1),?_⟩;refine⟨_,rfl,_,rfl,fa,_,_,_,rfl,rfl,bW.of QW,az (fZ l2),?_⟩;obtain⟨dx,tl,ol,ds,hN,_⟩:=N.ob;have hh:=jz (xs:=homes) (j:=j) l3;rw[eh,ey];unfold IP at q;refine⟨_,rfl,rfl,_,rfl,km rfl ⟨_,rfl,_,rfl,rfl,_,rfl,?_⟩⟩;have q:Q (.bl (!decide (some h=some y)&&decide (far ts h (homes.getD j 0)<=far ts y (homes.getD j 0)))) H:=q;by_cases c:h=y
  .subst c;rw[cZ rfl];rw[cZ rfl] at q;exact rW q
  .rw[d6 (show ¬ some h=some y from fun z=>c (bh z))] at q;refine km (d6 fun z=>by injection z with z;exact c (dt z).symm) ?_;refine⟨_,rfl,p,dx,_,rfl,hN,GE _ _ _ _,_,rfl,_,rfl,_,rfl,ha,_,_,_,rfl,rfl,bW.of T6,az hh,L,p,n,ts,y,_,rfl,N,yn,hm,?_⟩;refine⟨_,rfl,p,dx,_,rfl,hN,GE _ _ _ _,_,rfl,_,rfl,_,rfl,ha,_,_,_,rfl,rfl,bW.of T6,az hh,L,p,n,ts,h,_,rfl,N,hn,hm,?_⟩;refine⟨_,_,rfl,rfl,?_⟩;show Q (.bl (decide (((far ts h (homes.getD j 0):Nat):Int)<=((far ts y (homes.getD j 0):Nat):Int)))) H;rw[show decide (((far ts h (homes.getD j 0):Nat):Int)<=((far ts y (homes.getD j 0):Nat):Int))=decide (far ts h (homes.getD j 0)<=far ts y (homes.getD j 0)) from decide_eq_decide.mpr (by lia)];exact q
theorem T7:aG ["net","homes","stands","log","letter","beats"] ["net","homes","stands","log","letter"] (ak Zd):=⟨rfl,rfl,rfl,by decide +kernel,rfl,by decide +kernel,by decide +kernel⟩
def JV(n:Nat)(ss ls:Nat->List (Option Nat))(N l:Nat):Prop:=∀k h,k<N->(ss k).getD l none=some h->h<n/\∃y,(ls k).getD l none=some y/\y<n
def O7(C:Addr):Sp:=fun vs H Q _=>∃ (L:Addr->Prop) (p:Addr) (nn:Nat) (ts:Ts) (a SA LA:Addr) (iN fL:List Addr) (homes:List Nat) (n N:Nat) (ss ls:Nat->List (Option Nat)) (l:Nat),vs=[.ref p,.ref a,.ref SA,.ref LA,.int l]/\cy C H L p nn ts/\H a=some (.tup (NV homes))/\homes.length=n/\IM H SA LA iN fL n N ss ls/\l<n/\homes.getD l 0<nn/\JV nn ss ls N l/\∀r H',aA H H'->H r=none->H' r=some (.lst (NV (O4 ts ss ls N l (homes.getD l 0))))->Q (.ref r) H'
theorem T8{f C:Addr}{fd:FuncData}(F:fY K "led_at" "led_at" Zd f fd)(BU:cs P w K mg base a7 4 "beats_under_way" ["stands","log","letter"] HF)(LD:cs P w K mg base a7 6 "is_led" ["net","homes","stand","handing","letter"] (qk C)):bo P w K mg base a7 7 f fd ["net","homes","stands","log","letter"] (O7 C):=by
 refine F.ok T7 (fun vs H Q E h=>?_) (fun dN A outer s H vs Q E hr h=>?_)
 .obtain⟨L,p,nn,ts,a,SA,LA,iN,fL,homes,n,N,ss,ls,l,rfl,_⟩:=h;rfl
 .obtain⟨L,p,nn,ts,a,SA,LA,iN,fL,homes,n,N,ss,ls,l,rfl,NA,ha,hn,LG,hl,hm,RU,q⟩:=h;have h4:bQ 4 _:=hr.mono (by decide);have wL:=LG.wL;refine'⟨_,(ai (aE (i:=5) T7.nd rfl (Or.inl rfl) (aF BU h4 aK (aa (pv 2) (aa (pv 3) (aa (pv 4) ag)))))
   (ap (aR ?c1))),?_⟩
  case c1=>
   refine' bz (g:=(be 0)) (tt:=(tB (iR (qk C) [] E0 (aZ (aB 1) (aZ (aB 2) (aZ (eU (j4 K) (aB 3) (aB 0)) (aZ (eU (j4 K) (aB 4) (aB 0)) (aZ (aB 5) fg)))))))) (te:=(aB 0)) (NB:=["beat","net","homes","stands","log","letter"]) (src:=[none,some 0,some 1,some 2,some 3,some 4]) (a_ (by kernel_rfl)) rfl (bA (pv 5)) ?g ?t ?e;case g=>exact fun cl C s₃ H₃ fp=>(au (i:=0) eR rfl (Or.inl rfl) (Or.inr rfl))
   case t=>exact fun cl C s₃ H₃ fp=>d8 (gE (aF LD hr aK (aa (pv 1) (aa (pv 2) (aa (aL aJ (pv 3) (pv 0) (fun _ _=>rfl)) (aa (aL aJ (pv 4) (pv 0) (fun _ _=>rfl)) (aa (pv 5) ag)))))))
   case e=>exact fun cl C s₃ H₃ fp=>(pv 0)
  refine⟨_,rfl,_,rfl,_,rfl,SA,LA,iN,fL,n,N,ss,ls,l,rfl,LG,hl,fun r H1 s1 rY=>?_⟩;refine⟨_,rfl,r,rfl,⟨_,aV.of rY⟩,fun D hD=>?_⟩;refine C7 ((List.range N).filter fun k=>((ss k).getD l none).isSome) (fun (k:Nat)=>V.int (k:Int)) (fun k=>IP ts (homes.getD l 0) ((ss k).getD l none) ((ls k).getD l none)) (fun (k:Nat)=>V.int (k:Int)) (fun σ=>∃b,σ=[b,some (.ref p),some (.ref a),some (.ref SA),some (.ref LA),some (.int (l:Int))]) rY hD (a9 (fh _ _) (by rw[dq];lia)) ⟨_,rfl⟩ ?_ ?_
  .rintro k σ H5 Kt Kf hk ⟨b',rfl⟩ s5 kt kf;obtain⟨V0,Su⟩:=cq.mp hk;have QV:k<N:=bK.mp V0;obtain⟨h,eh⟩:=mW.mp Su;obtain⟨hh,y,ey,hy⟩:=RU k h QV eh;have IQ:=s1.trans s5;have L5:=LG.same IQ;refine⟨_,rfl,_,rfl,_,rfl,_,rfl,SA,_,_,_,rfl,rfl,aV.of L5.rs.1,L5.rs.at (by lia),_,rfl,_,rfl,LA,_,_,_,rfl,rfl,aV.of L5.rl.1,L5.rl.at QV,_,rfl,?_⟩;refine⟨L,p,nn,ts,a,homes,_,ss k,_,ls k,l,h,y,rfl,NA.same IQ,IQ _ _ ha,L5.rs.2.2 k (by lia),L5.rl.2.2 k QV,by rw[LG.sl];exact hl,by rw[LG.ll];exact hl,by lia,hm,eh,ey,hh,hy,_,rfl,?_⟩;rw[eh,ey] at kt kf;exact eA (fun c=>⟨_,rfl,kt _ _ ⟨_,rfl⟩ (aA.refl _) c⟩) (fun c=>kf _ _ ⟨_,rfl⟩ (aA.refl _) (by simpa using c))
  .intro H5 s5 xn;refine q D H5 (s1.trans s5) (s1.free hD) ?_;rw[xn,zG];unfold O4 IP;refine congrArg (fun z=>some (HO.lst (NV z))) (List.filter_congr fun k _=>?_);cases ((ss k).getD l none).isSome <;> simp
end
end Ba
namespace gw
theorem Le{n:Nat}{ts:Ts}{a b:Nat}(F:bD n ts)(ha:a<n)(hb:b<n)(h:a≠b):1<=far ts a b:=by
 have w:=(F.Ed ha hb).1;cases e:far ts a b with
 |zero=>rw[e] at w;exact absurd w h
 |succ k=>lia
def mV(st:List (Option Nat))(i:Nat):List Nat:=(List.range i).filter fun j=>(st.getD j none).isSome
theorem yJ{st:List (Option Nat)}{i:Nat}:mV st (i+1)=mV st i++if (st.getD i none).isSome then [i] else []:=by
 unfold mV;rw[jI,eN,dS];rfl
theorem ql{st:List (Option Nat)}{i:Nat}:(mV st i).length<=i:=a9 (fh _ _) (by rw[dq];exact aT _)
end gw
namespace Ba
open PySem L2 gw
theorem yK(Pv:Nat->List V->St->Hp->Prop)(h0:Pv 0 [] σB H0)(hl:∀i ys σ H,i<=xs.length->Pv i ys σ H->bW K H a xs)(hs:∀i x ys σ H (Kt:V->St->Hp->Prop) (Kf:St->Hp->Prop),xs[i]?=some x->Pv i ys σ H->
   (∀v σ2 H4,H4 D=some (.lst ys)->ys.length<sizeLine->Pv (i+1) (ys++[v]) σ2 (upd H4 D (.lst (ys++[v])))->Kt v σ2 H4)->(∀σ2 H3,Pv (i+1) ys σ2 H3->Kf σ2 H3)->
   g x σ H fun σ2 H2=>tt σ2 H2 fun b H3=>if b=true then te σ2 H3 fun v H4=>Kt v σ2 H4 else Kf σ2 H3)(hd:∀ys σ H,Pv xs.length ys σ H->dE H):gu (Qu K a) g tt te D dE σB H0:=by
 refine⟨fun i m σ H=>m=xs.length-i/\i<=xs.length/\∃ys,Pv i ys σ H,⟨xs.length,by simp,cu _,[],h0⟩,?_⟩;rintro i m σ H ⟨rfl,hi,ys,p⟩;have q:=hl i ys σ H hi p;by_cases eL:i<xs.length
 .refine .inr ⟨⟨xs,xs[i],q,by simp[eL]⟩,?_⟩;rintro x H' ⟨rfl,y⟩;exact hs i x ys σ _ (fun v σ2 H4=>∃ys,H4 D=some (.lst ys)/\ys.length<sizeLine/\∃m',m'<xs.length-i/\m'=xs.length-(i+1)/\i+1<=xs.length/\∃sY,Pv (i+1) sY σ2 (upd H4 D (.lst (ys++[v]))))
   (fun σ2 H3=>∃m',m'<xs.length-i/\m'=xs.length-(i+1)/\i+1<=xs.length/\∃sY,Pv (i+1) sY σ2 H3) (y xs q) p
   (fun v σ2 H4 z1 z2 z3=>⟨ys,z1,z2,_,by lia,rfl,eL,_,z3⟩) (fun σ2 H3 z=>⟨_,by lia,rfl,eL,_,z⟩)
 .have e:i=xs.length:=by lia
  subst e;exact .inl ⟨⟨xs,q,aT _⟩,hd ys σ H p⟩
section
variable {K:PySem.W.Frag}
end
theorem O8{xs:List V}{k:Nat}:Aw xs none (some (k:Int))=xs.take k:=by
 have h1:HT.xj xs.length 0 none=0:=rfl;have h2:HT.xj xs.length xs.length (some (k:Int))=min k xs.length:=by
  unfold HT.xj;simp;try lia
 unfold Aw;rw[h1,h2,List.drop_zero,Nat.sub_zero,List.take_eq_take_iff];simp;try lia
theorem r_:∀ {st:List (Option Nat)},(st.map oV).all eQ=true
 |[]=>rfl
 |none::st=>r_ (st:=st)
 |some _::st=>r_ (st:=st)
structure ii(n:Nat)(ts:Ts)(homes:List Nat)(st:List (Option Nat)):Prop where
 len:homes.length=st.length
 hs:∀x∈homes,x<n
 ss:∀i y:Nat,st[i]?=some (some y)->y<n/\homes[i]?≠some y
 cap:∀y,y<n->st.count (some y)<=(cQ n ts y).length
abbrev Zg:Stmt:=top 14
abbrev HI:Stmt:=gf (top 35) 1
abbrev Zh:Stmt:=top 45
abbrev HJ:Stmt:=top 42
theorem jA:(["letter","house"]:List Str).Nodup:=by decide +kernel
theorem hV:(["ahead","goes","stand","letter"]:List Str).Nodup:=by decide +kernel
theorem Lf:(["home"]:List Str).Nodup:=by decide +kernel
noncomputable def ku(n:Nat)(ts:Ts)(i j:Nat):List Nat:=(cQ n ts i).filter fun o=>decide (far ts o j<far ts i j)
theorem nbG:(["other","self","home","own"]:List Str).Nodup:=by decide +kernel
theorem mL(h:j∈mV st i):j<i/\st.getD j none=some ((st.getD j none).getD 0):=by
 obtain⟨a,b⟩:=cq.mp h;refine⟨bK.mp a,?_⟩;cases e:st.getD j none with
 |none=>rw[e] at b;cases b
 |some y=>rfl
def pA(st gs:List (Option Nat))(l:Nat)(os:List Nat):Option Nat:=os.find? fun h=>!((List.range st.length).any fun a=>decide (st.getD a none=st.getD l none)&&decide (gs.getD a none=some h))
theorem Na{h:Nat}:∀ {xs:List (Option Nat)},ID (.int (h:Int)) (xs.map oV)=xs.any fun o=>decide (o=some h)
 |[]=>rfl
 |o::xs=>by
  have ih:=Na (h:=h) (xs:=xs);unfold ID at *;rw[d7,iC,iC,ih];cases o with
  |none=>rfl
  |some x=>
   congr 1;show decide ((x:Int)=(h:Int))=_;by_cases e:x=h
   .subst e;simp
   .rw[d6 (by lia),d6 (by simp[e])]
theorem cy.own(N:cy C H L p n ts):cy C H (fun b=>H b≠none) p n ts:=by
 obtain⟨dx,tl,ol,ds,a,l1,l2,b,c,d⟩:=N.ob;have ne:∀ {b o},H b=some o->H b≠none:=fun e z=>by rw[e] at z;cases z
 have rf:∀ {l r},hU H L l n r->hU H (fun b=>H b≠none) l n r/\H l≠none:=fun ⟨bs,a,b,c⟩=>⟨⟨bs,a,fun x hx=>by
  obtain⟨j,hj,e⟩:=u6 hx;have:=c.2 j (by rw[<-c.1];exact hj);rw[bv,cH hj,zW,e] at this;exact ne this,c⟩,ne a⟩
 obtain⟨t1,zs,t2,t3,t4,t5⟩:=d;exact⟨N.iK,dx,tl,ol,ds,a,(rf b).2,(rf c).2,(rf b).1,(rf c).1,ne t2,zs,t2,t3,fun z hz=>ne (t3 z hz),t5⟩
section
variable {P:Program} {w:World} {K:PySem.W.Frag} {mg:Str->Option Value} {base:Heap}
theorem HK:aG ["self","house","home","own"] ["self","house","home"] (ak GD):=⟨rfl,rfl,rfl,by decide +kernel,rfl,by decide +kernel,by decide +kernel⟩
def wN(C:Addr):Sp:=fun vs H Q _=>∃ (L:Addr->Prop) (p:Addr) (n:Nat) (ts:Ts) (i j:Nat),vs=[.ref p,.int i,.int j]/\cy C H L p n ts/\i<n/\j<n/\∀r H',aA H H'->H r=none->H' r=some (.lst (NV (ku n ts i j)))->Q (.ref r) H'
theorem HL(F:fY K "good" "Net.good" GD f fd)(T:NT K mg C)(M:ic P w K mg base a7 5 C "far" ["self","one","other"] (kg C)):
  bo P w K mg base a7 6 f fd ["self","house","home"] (wN C):=by
 obtain⟨fM,fdM,mM,bM,GM⟩:=M.ex;refine F.ok HK (fun vs H Q E h=>?_) (fun dN A outer s H vs Q E hr h=>?_)
 .obtain⟨L,p,n,ts,i,j,rfl,_⟩:=h;rfl
 .obtain⟨L,p,n,ts,i,j,rfl,N,hi,hj,k2⟩:=h;obtain⟨dx,tl,ol,ds,h1,_,_,RO,R,_⟩:=N.ob;have fi:=N.iK;have n2:=fi.n2;refine'⟨_,ai (aE (i:=3) HK.nd rfl (Or.inr rfl) (cR (pv 0) T.cl mM GM hr bM .nil aK (aa (pv 1) (aa (pv 2) ag))))
   (ap (aR ?c)),?_⟩
  case c=>
   refine' bz (g:=be 0) (tt:=iQ (eU (rb fun i j=>.bl (decide (i<j))) (eU (j4 K) (eU (j4 K) (NI K (aB 1) "distances") (aB 0)) (aB 2)) (aB 3))) (te:=aB 0) (NB:=["other","self","home","own"]) (src:=[none,some 0,some 2,some 3]) (a_ (by kernel_rfl)) rfl (bA (aL aJ (lF (pv 0) rfl) (pv 1) (fun _ _=>rfl))) ?g ?t ?e;case g=>exact fun cl C s₃ H₃ fp=>au (i:=0) nbG rfl (Or.inl rfl) (Or.inr rfl)
   case t=>exact fun cl C s₃ H₃ fp=>d8 (aQ jZ (aL aJ (aL aJ (lF (pv 1) rfl) (pv 0) (fun _ _=>rfl)) (pv 2) (fun _ _=>rfl)) (pv 3) (aS _))
   case e=>exact fun cl C s₃ H₃ fp=>pv 0
  refine⟨_,rfl,p,dx,_,rfl,h1,GE _ _ _ _,_,rfl,_,rfl,L,p,n,ts,i,j,rfl,N,hi,hj,?_⟩;obtain⟨bs,b,r1,r2,r3,_⟩:=RO.row hi;refine⟨_,rfl,p,C,dx,_,_,rfl,h1,T.cl,T.nO,CJ _ _ _ _,_,rfl,ol,_,_,_,rfl,rfl,aV.of r1,az r2,b,rfl,⟨_,aV.of r3⟩,fun D hD=>?_⟩;have nb:b≠D:=aj r3 hD;refine cP (xs:=NV (cQ n ts i)) (fun m ys σ H2=>(∃a,σ=[a,some (.ref p),some (.int (j:Int)),some (.int ((far ts i j:Nat):Int))])/\ys=NV (((cQ n ts i).take m).filter fun o=>decide (far ts o j<far ts i j))/\H2=upd H D (.lst ys)) ⟨⟨_,rfl⟩,by simp,rfl⟩ (fun m ys σ H2 _ ⟨_,_,e⟩=>by rw[e];exact aV.of (by rw[ao nb];exact r3)) ?_ ?_
  .rintro m x ys σ H2 Kt Kf hx ⟨⟨a,rfl⟩,ey,rfl⟩ kt kf;obtain⟨v,hv,rfl⟩:=yB hx;have We:v∈cQ n ts i:=cI hv;have M6:v<n:=wa fi hi We;have sm:aA H (upd H D (.lst ys)):=ah hD;obtain⟨bs2,b2,q1,q2,q3,_⟩:=R.row M6;have hg:(NV ((List.range n).map (far ts v)))[j]?=some (.int (far ts v j:Nat)):=by
    rw[bX,bX,gX hj];rfl
   have tk:(cQ n ts i).take (m+1)=(cQ n ts i).take m++[v]:=by rw[eZ,hv];rfl
   have hm:m<(cQ n ts i).length:=(dO.mp hv).1;refine⟨_,rfl,p,C,dx,_,_,rfl,sm _ _ h1,T.cl,T.nD,CK _ _ _ _,_,rfl,ds,_,_,_,rfl,rfl,aV.of (sm _ _ q1),az q2,_,rfl,b2,_,_,_,rfl,rfl,aV.of (sm _ _ q3),az hg,_,rfl,_,_,rfl,rfl,_,rfl,?_⟩;refine eA (fun e=>?_) (fun e=>?_)
   .refine⟨_,rfl,kt _ _ _ af ?_ ⟨⟨_,rfl⟩,?_,by rw[kB]⟩⟩
    .rw[ey,bS];refine eY (fh _ _) (eY (zA _ _) (b_ (show m<33 from ?_) (by decide)));have:(cQ n ts i).length<=n:=a9 (fh _ _) (by simp);lia
    .have:decide (far ts v j<far ts i j)=true:=by simp at e |-;lia
     rw[ey,tk,eN,qh];simp[dS,this]
   .refine kf _ _ ⟨⟨_,rfl⟩,?_,rfl⟩;have:decide (far ts v j<far ts i j)=false:=by simp at e |-;lia
    rw[ey,tk,eN];simp[dS,this]
  .rintro ys σ H2 ⟨_,ey,rfl⟩;rw[bS,gh] at ey;refine k2 D _ (ah hD) hD ?_;rw[af,ey];rfl
theorem Zi:aG ["stand"] ["stand"] (ak Zg):=⟨rfl,rfl,rfl,by decide +kernel,rfl,by decide +kernel,by decide +kernel⟩
def Bw:Sp:=fun vs H Q _=>∃ (sa:Addr) (st:List (Option Nat)),vs=[.ref sa]/\H sa=some (.tup (st.map oV))/\st.length<=16/\∀ (r:Addr) (H':Hp),aA H H'->H r=none->H' r=some (.lst (NV (mV st st.length)))->Q (.ref r) H'
theorem T9{f:Addr}{fd:FuncData}(F:fY K "under_way" "under_way" Zg f fd)(hE:mg "enumerate"=none):bo P w K mg base a7 1 f fd ["stand"] Bw:=by
 refine F.ok Zi (fun vs H Q E h=>?_) (fun dN A outer s H vs Q E hr h=>?_)
 .obtain⟨sa,st,rfl,_⟩:=h;rfl
 .obtain⟨sa,st,rfl,hS,hl,q⟩:=h;refine'⟨_,(ap (aR ?c1)),?_⟩;case c1=>
   refine' bz (g:=(q9 K 2 (eO (be 0) (eO (be 1) q8)))) (tt:=(iQ (eU TU (aB 1) (tC .bV)))) (te:=(aB 0)) (NB:=["letter","house"]) (src:=[none,none]) (a_ (by kernel_rfl)) rfl (F6 rfl hE (aa (pv 0) ag)) ?g ?t ?e;case g=>exact fun cl C s₃ H₃ fp=>(fv (n:=2) rfl (bb (au (i:=0) jA rfl (Or.inl rfl) (Or.inr rfl)) (bb (au (i:=1) jA rfl (Or.inl rfl) (Or.inr rfl)) dG)))
   case t=>exact fun cl C s₃ H₃ fp=>d8 (aQ pX (pv 1) dF (aS _))
   case e=>exact fun cl C s₃ H₃ fp=>(pv 0)
  refine⟨_,rfl,sa,_,rfl,bW.of hS,fun D hD=>?_⟩;refine AS (K:=K) (a:=sa) (xs:=st.map oV) (fun i ys σ H3=>(∃u v,σ=[u,v])/\ys=NV (mV st i)/\aA H H3/\H3 D=some (.lst ys)) ⟨⟨_,_,rfl⟩,rfl,ah hD,af⟩ (fun i ys σ H3 _ z=>bW.of (z.2.2.1 _ _ hS)) ?_ ?_
  .rintro i x t ys σ H3 Kt Kf hx ⟨⟨u,v,rfl⟩,rfl,sm,h9⟩ ht kt kf;obtain⟨hi,rfl⟩:=O2 hx;have bg:=ah (o:=.tup [.int (i:Int),oV (st.getD i none)]) ht;refine⟨_,_,rfl,bW.of af,rfl,_,_,rfl,_,_,rfl,rfl,?_⟩;refine⟨_,rfl,rfl,_,rfl,?_⟩;rw[wJ];refine eA (fun e=>?_) (fun e=>?_)
   .refine⟨_,rfl,kt _ _ _ (bg _ _ h9) (by rw[bS];exact eY ql (b_ (show i<17 by lia) (by decide))) ⟨⟨_,_,rfl⟩,?_,bf (sm.trans bg) hD,af⟩⟩;rw[yJ,am e,qh]
   .refine kf _ _ ⟨⟨_,_,rfl⟩,?_,sm.trans bg,bg _ _ h9⟩;rw[yJ,if_neg e,jx]
  .rintro ys σ H3 ⟨_,rfl,sm,h9⟩;rw[aI] at h9;exact q D H3 sm hD h9
theorem O9:aG ["self","net","homes","stand","beat"] ["self","net","homes","stand","beat"] (ak HI):=⟨rfl,rfl,rfl,by decide +kernel,rfl,by decide +kernel,by decide +kernel⟩
def HP:Sp:=fun vs H Q _=>∃ (x0 x1 x2 x4:V) (sa:Addr) (st:List (Option Nat)),vs=[x0,x1,x2,.ref sa,x4]/\H sa=some (.tup (st.map oV))/\st.length<=16/\∀ (r:Addr) (H':Hp),aA H H'->H r=none->H' r=some (.lst (NV (mV st st.length)))->Q (.ref r) H'
theorem Lg(F:fY K "order" "Rule.order" HI f fd)(UW:cs P w K mg base a7 1 "under_way" ["stand"] Bw):bo P w K mg base a7 2 f fd ["self","net","homes","stand","beat"] HP:=by
 refine F.ok O9 (fun vs H Q E h=>?_) (fun dN A outer s H vs Q E hr h=>?_)
 .obtain⟨x0,x1,x2,x4,sa,st,rfl,_⟩:=h;rfl
 .obtain⟨x0,x1,x2,x4,sa,st,rfl,hS,hl,q⟩:=h;refine⟨_,(ap (aR (aF UW hr aK (aa (pv 3) ag)))),?_⟩;exact⟨_,rfl,sa,st,rfl,hS,hl,q⟩
theorem O_:aG ["others","stand","goes","letter","taken","house"] ["others","stand","goes","letter"] (ak Zh):=⟨rfl,rfl,rfl,by decide +kernel,rfl,by decide +kernel,by decide +kernel⟩
def Pa:Sp:=fun vs H Q _=>∃ (oa sa ga:Addr) (os:List Nat) (st gs:List (Option Nat)) (l:Nat),vs=[.ref oa,.ref sa,.ref ga,.int l]/\H oa=some (.lst (NV os))/\H sa=some (.tup (st.map oV))/\H ga=some (.lst (gs.map oV))/\gs.length=st.length/\st.length<=16/\l<st.length/\∀H',aA H H'->Q (oV (pA st gs l os)) H'
theorem T_{f:Addr}{fd:FuncData}(F:fY K "first_free" "first_free" Zh f fd)(B:Bl mg):bo P w K mg base a7 1 f fd ["others","stand","goes","letter"] Pa:=by
 refine F.ok O_ (fun vs H Q E h=>?_) (fun dN A outer s H vs Q E hr h=>?_)
 .obtain⟨oa,sa,ga,os,st,gs,l,rfl,_⟩:=h;rfl
 .obtain⟨oa,sa,ga,os,st,gs,l,rfl,hO,hS,hG,gl,sl,hl,q⟩:=h;refine'⟨_,(ai (dL (i:=4) (g:=(be 0)) (tt:=(iQ (eU (Qv) (eU (n6 K) (aB 2) (aB 0)) (eU (n6 K) (aB 2) (aB 3))))) (te:=(eU (j4 K) (aB 1) (aB 0))) (NB:=["ahead","goes","stand","letter"]) (src:=[none,some 2,some 1,some 3]) (a_ (by kernel_rfl)) rfl (bq rfl B.range (aa (aD aO (by rfl) B.len dU (aa (pv 1) ag)) ag)) ?g1 ?t1 ?e1 O_.nd rfl rfl rfl)
   (ai (dH eI rfl (bA (pv 0)) (au (i:=5) O_.nd rfl (Or.inl rfl))
    (ap (de (aQ vI (pv 5) (pv 4) rfl) (ap (aR (pv 5))) bE)))
   (ap (aR dF)))),?_⟩
  case g1=>exact fun cl C s₃ H₃ fp=>(au (i:=0) hV rfl (Or.inl rfl) (Or.inr rfl))
  case t1=>exact fun cl C s₃ H₃ fp=>d8 (aQ gn (aL bH (pv 2) (pv 0) (fun _ _=>rfl)) (aL bH (pv 2) (pv 3) (fun _ _=>rfl)) (aS _))
  case e1=>exact fun cl C s₃ H₃ fp=>(aL aJ (pv 1) (pv 0) (fun _ _=>rfl))
  refine⟨_,rfl,sa,_,rfl,.inr (bW.of hS),(((st.map oV).length:Nat):Int),rfl,by lia,by rw[aI];lia,fun D hD=>?_⟩;rw[fT,aI];refine dh (fun i ys σ H2=>(∃x,σ=[x,some (.ref ga),some (.ref sa),some (.int (l:Int))])/\aA H H2/\H2 D=some (.lst ys)/\ys=(((List.range i).filter fun a=>decide (st.getD a none=st.getD l none)).map fun a=>gs.getD a none).map oV) ⟨⟨_,rfl⟩,ah hD,af,rfl⟩ ?_ ?_
  .rintro i ys σ H2 Kt Kf hi ⟨⟨x,rfl⟩,sm,hX,rfl⟩ kt kf;rw[fm];refine⟨_,rfl,_,rfl,sa,_,_,_,rfl,rfl,bW.of (sm _ _ hS),az (fZ hi),_,rfl,_,rfl,sa,_,_,_,rfl,rfl,bW.of (sm _ _ hS),az (fZ hl),wK,_,rfl,?_⟩;rw[HC];refine eA (fun c=>?_) (fun c=>?_)
   .refine⟨_,rfl,_,rfl,ga,_,_,_,rfl,rfl,aV.of (sm _ _ hG),az (fZ (by lia)),?_⟩;refine kt _ _ _ hX ?_ ⟨⟨_,rfl⟩,bf sm hD,af,?_⟩
    .rw[aI,aI];refine eY (fh _ _) ?_;rw[dq];exact b_ (show i<17 by lia) (by decide)
    .rw[jI,eN,bT,bT,dS,am c];rfl
   .refine kf _ _ ⟨⟨_,rfl⟩,sm,hX,?_⟩;rw[jI,eN,dS,if_neg c,z7,jx]
  rintro ys σ H2 ⟨_,sm,hX,rfl⟩;have ein:∀h:Nat,ID (.int (h:Int)) ((((List.range st.length).filter fun a=>decide (st.getD a none=st.getD l none)).map fun a=>gs.getD a none).map oV)=(List.range st.length).any fun a=>decide (st.getD a none=st.getD l none)&&decide (gs.getD a none=some h):=fun h=>by
   rw[Na,List.any_map,List.any_filter];rfl
  generalize hw:(((List.range st.length).filter fun a=>decide (st.getD a none=st.getD l none)).map fun a=>gs.getD a none)=ws at *;refine⟨_,rfl,oa,rfl,⟨_,aV.of (sm _ _ hO)⟩,g7 (K:=K) (xs:=NV os) (fun j σ H3=>(∃x,σ=[some (.ref oa),some (.ref sa),some (.ref ga),some (.int (l:Int)),some (.ref D),x])/\H3=H2/\pA st gs l os=pA st gs l (os.drop j)) ⟨⟨_,rfl⟩,rfl,rfl⟩ (fun j σ H3 _ z=>by rw[z.2.1];exact aV.of (sm _ _ hO)) ?_ ?_⟩
  .rintro j x σ H3 hx ⟨⟨x5,rfl⟩,rfl,ef⟩;obtain⟨h,hv,rfl⟩:=yB hx;have hj:j<os.length:=(dO.mp hv).1;have ed:os.drop j=h::os.drop (j+1):=by
    rw[qp hj];congr 1;exact(dO.mp hv).2
   refine⟨_,rfl,_,rfl,D,_,rfl,.inl (aV.of hX),rfl,r_,_,rfl,?_⟩;have ef2:pA st gs l (h::os.drop (j+1))=if (!ID (.int (h:Int)) (ws.map oV))=true then some h else pA st gs l (os.drop (j+1)):=by
    rw[ein];unfold pA;rw[jP];cases (!((List.range st.length).any fun a=>decide (st.getD a none=st.getD l none)&&decide (gs.getD a none=some h))) <;> rfl
   rw[ed,ef2] at ef;refine eA (fun c=>?_) (fun c=>?_)
   .have c:(!ID (.int (h:Int)) (ws.map oV))=true:=c;rw[am c] at ef;refine⟨_,rfl,?_⟩;have:=q H3 sm;rw[ef] at this;exact this
   .have c:¬ (!ID (.int (h:Int)) (ws.map oV))=true:=c;rw[if_neg c] at ef;exact⟨⟨_,rfl⟩,rfl,ef⟩
  .rintro σ H3 ⟨⟨x5,rfl⟩,rfl,ef⟩;have:=q H3 sm;rw[ef,bS,List.drop_length] at this;exact this
end
structure pB(n:Nat)(homes:List Nat)(st:List (Option Nat)):Prop where
 le:st.length<=16
 len:homes.length=st.length
 hs:∀x∈homes,x<n
 ss:∀y,some y∈st->y<n
theorem pB.at(S:pB n homes st)(h:l∈mV st st.length):l<st.length/\∃y,st.getD l none=some y/\y<n/\homes.getD l 0<n:=by
 obtain⟨a,b⟩:=mL h;refine⟨a,_,b,S.ss _ ?_,S.hs _ ?_⟩
 .rw[<-b,bv,cH a];exact fV _
 .rw[dz (by rw[S.len];exact a)];exact fV _
theorem Ua(n:Int)(tl ol ds:Addr):(oI n tl ol ds).lookup ("good":Str)=none:=qf n tl ol ds (by decide +kernel) (by decide +kernel) (by decide +kernel) (by decide +kernel)
theorem Zj(n:Int)(tl ol ds:Addr):(oI n tl ol ds).lookup ("out":Str)=none:=qf n tl ol ds (by decide +kernel) (by decide +kernel) (by decide +kernel) (by decide +kernel)
theorem C8:(cQ n ts h).length<=n:=a9 (fh _ _) (by simp)
theorem cy.Lh(N:cy C H L p n ts):∃dx fs,H p=some (.ins C dx fs)/\fs.lookup ("good":Str)=none/\fs.lookup ("out":Str)=none:=by
 obtain⟨dx,tl,ol,ds,a,_⟩:=N.ob;exact⟨dx,_,a,Ua _ _ _ _,Zj _ _ _ _⟩
theorem wO[DecidableEq α]:∀ {a b:List α},a.Nodup->(∀x∈a,x∈b)->a.length<=b.length
 |[],b,_,_=>cu _
 |x::xs,b,hn,hs=>by
  obtain⟨h1,h2⟩:=eG.mp hn;have hx:x∈b:=hs x cg;have:=wO (b:=b.erase x) h2 fun y hy=>(u5 (fun (e:y=x)=>h1 (e ▸ hy))).mpr (hs y (cp _ hy));rw[zf hx] at this;have:0<b.length:=uR hx;rw[dR];lia
theorem HQ{n:Nat}{ts:Ts}{h:Nat}(F:bD n ts)(hh:h<n):(cQ n ts h).length=iO ts (ci h):=by
 have p:((cQ n ts h).map fun (o:Nat)=>(ci h,ci o)).Perm (ts.filter fun t=>decide (t.1=ci h)):=by
  refine(EK (im.mpr ((rR hh).imp fun {x y} q e=>q (dt (congrArg Prod.snd e)))) (F.nd.filter _)).mpr fun u=>?_;rw[aX,cq];constructor
  .rintro⟨o,ho,rfl⟩;exact⟨(dW F hh).mp ho,cZ rfl⟩
  .rintro⟨a,b⟩;have r:=F.rg u a;refine⟨u.2.toNat,(dW F hh).mpr ?_,?_⟩
   .show (ci h,ci u.2.toNat)∈ts;rw[show (ci h,ci u.2.toNat)=u from dY (dk b).symm (show ((u.2.toNat:Nat):Int)=u.2 by lia)];exact a
   .exact dY (dk b).symm (show ((u.2.toNat:Nat):Int)=u.2 by lia)
 unfold iO;rw[<-p.length_eq,aI]
theorem C9(he:∀j,j≠i->P' j=P j)(hi:P i=false):∀ {m:Nat},i<m->(List.range m).countP P'=(List.range m).countP P+(if P' i=true then 1 else 0)
 |0,h=>absurd h (jH _)
 |m+1,h=>by
  rw[jI,List.countP_append,List.countP_append,List.countP_singleton,List.countP_singleton];by_cases c:i<m
  .rw[C9 he hi c,he m (by lia)];lia
  .obtain rfl:i=m:=by lia
   rw[show (List.range i).countP P'=(List.range i).countP P from zO fun j hj=>by rw[he j (by have:=bK.mp hj;lia)],hi];simp
theorem yL(h:∀j,P j=true->P' j=true):(List.range m).countP P<=(List.range m).countP P':=List.countP_mono_left fun j _=>h j
theorem Pb(h:∀j,P j=true->P' j=true)(hi:P i=false)(AT:P' i=true)(hm:i<m):(List.range m).countP P<(List.range m).countP P':=by
 have a:=C9 (P:=P) (P':=fun j=>if j=i then true else P j) (i:=i) (fun j hj=>if_neg hj) hi hm;have b:=yL (P:=fun j=>if j=i then true else P j) (P':=P') (m:=m) fun j hj=>by
  by_cases c:j=i
  .rw[c];exact AT
  .rw[if_neg c] at hj;exact h j hj
 rw[am rfl,am rfl] at a;lia
theorem Pc{st:List (Option Nat)}:st=(List.range st.length).map fun j=>st.getD j none:=by
 apply ni;intro i;by_cases h:i<st.length
 .rw[bX,gX h];simp[bv,h]
 .rw[eM (by lia),eM (by rw[aI,dq];lia)]
theorem C_{st:List (Option Nat)}{o:Option Nat}:st.count o=(List.range st.length).countP fun j=>decide (st.getD j none=o):=by
 have e:st.count o=((List.range st.length).map fun j=>st.getD j none).count o:=congrArg _ Pc;rw[e,List.count_eq_countP,z8];exact zO fun j _=>by simp
theorem HR:(List.replicate m (none:Option Nat)).getD j none=none:=by
 rw[bv,uP];split <;> rfl
theorem Bx{fs:List (Option Nat)}{i j:Nat}{o:Option Nat}(hi:i<fs.length):(fs.set i o).getD j none=if j=i then o else fs.getD j none:=by
 rw[bv,zM];by_cases c:i=j
 .subst c;rw[am rfl,am hi,am rfl];rfl
 .rw[if_neg c,if_neg (fun z=>c z.symm),bv]
structure Hd(n:Nat)(ts:Ts)(st fs:List (Option Nat)):Prop where
 len:fs.length=st.length
 bV:∀j,st.getD j none=none->fs.getD j none=none
 out:∀j h,st.getD j none=some h->∃y,fs.getD j none=some y/\y∈cQ n ts h
 inj:∀j k y,j≠k->fs.getD j none=some y->fs.getD k none=some y->st.getD j none≠st.getD k none
def pQ(homes:List Nat)(fs:List (Option Nat)):List (Option Nat):=(List.range fs.length).map fun j=>if fs.getD j none=some (homes.getD j 0) then none else fs.getD j none
theorem jo:(pQ homes fs).length=fs.length:=by unfold pQ;rw[aI,dq]
theorem wP(h:(pQ homes fs).getD j none=some y):fs.getD j none=some y:=by
 unfold pQ at h;by_cases hj:j<fs.length
 .rw[bv,bX,gX hj,z5,zW] at h;split at h
  .cases h
  .exact h
 .rw[bv,eM (by rw[aI,dq];lia)] at h;cases h
theorem Hd.next{n:Nat}{ts:Ts}{homes:List Nat}{st fs:List (Option Nat)}(F:bD n ts)(S:ii n ts homes st)(d:Hd n ts st fs):ii n ts homes (pQ homes fs):=by
 have sto:∀j y,fs.getD j none=some y->∃h,h<n/\st.getD j none=some h/\y∈cQ n ts h:=fun j y hy=>by
  match e:st.getD j none with
  |none=>rw[d.bV j e] at hy;cases hy
  |some h=>
   obtain⟨y',a,b⟩:=d.out j h e;rw[hy] at a;cases a;have hj:j<st.length:=by
    rcases qM j st.length with c|c
    .exact c
    .rw[bv,eM c] at e;cases e
   exact⟨h,(S.ss j h (by rw[jn (d:=none) hj,e])).1,rfl,b⟩
 refine⟨by rw[jo,d.len];exact S.len,S.hs,fun i y hy=>?_,fun y hy=>?_⟩
 .have hi:i<fs.length:=by have:=(dO.mp hy).1;rwa [jo] at this
  have e:(pQ homes fs).getD i none=some y:=by rw[bv,hy];rfl
  obtain⟨h,hh,_,b⟩:=sto i y (wP e);refine⟨wa F hh b,fun z=>?_⟩;have f:=wP e;unfold pQ at hy;rw[bX,gX hi,z5,f,am (by rw[bv,z];rfl)] at hy;cases hy
 .rw[C_,jo,HQ F hy];refine a9 (yL (P':=fun j=>decide (fs.getD j none=some y)) fun j hj=>cZ (wP (dk hj))) ?_;unfold iO;rw[F.ym,EH];have e:∀j∈(List.range fs.length).filter (fun j=>decide (fs.getD j none=some y)),∃h:Nat,st.getD j none=some h/\(ci h,ci y)∈ts:=fun j hj=>by
   obtain⟨h,hh,a,b⟩:=sto j y (dk (cq.mp hj).2);exact⟨h,a,(dW F hh).mp b⟩
  have nd:(((List.range fs.length).filter (fun j=>decide (fs.getD j none=some y))).map fun j=>(ci ((st.getD j none).getD 0),ci y)).Nodup:=by
   refine im.mpr ?_;refine EV ?_ (qz _ iy);intro a b ha hb pN ee;obtain⟨h1,g1,_⟩:=e a ha;obtain⟨h2,g2,_⟩:=e b hb;rw[g1,g2] at ee;have:h1=h2:=dt (congrArg Prod.fst ee);exact d.inj a b y pN (dk (cq.mp ha).2) (dk (cq.mp hb).2) (by rw[g1,g2,this])
  have:=wO (b:=ts.filter fun t=>decide (t.2=ci y)) nd fun u hu=>by
   obtain⟨j,hj,rfl⟩:=aX.mp hu;obtain⟨h,g,t⟩:=e j hj;rw[g];exact cq.mpr ⟨t,cZ rfl⟩
  rw[aI] at this;exact this
theorem pC{g:List (Option Nat)}{a x:Nat}(h:g.getD a none=some x):a<g.length:=by
 rcases qM a g.length with c|c
 .exact c
 .rw[bv,eM c] at h;cases h
section
variable {n:Nat} {ts:Ts} {homes:List Nat} {st g g1:List (Option Nat)} {gd ou:Nat->List Nat} {l x y:Nat} {os p:List Nat}
theorem mN(h:pA st g l os=some x):x∈os/\∀a,a<st.length->st.getD a none=st.getD l none->g.getD a none≠some x:=by
 unfold pA at h;refine⟨ER h,fun a ha e z=>?_⟩;have:=z6 h;rw[zQ,qC] at this;exact this a (bK.mpr ha) (by rw[cZ e,cZ z];rfl)
theorem Da(h:pA st g l os=none)(hx:x∈os):∃a,a<st.length/\st.getD a none=st.getD l none/\g.getD a none=some x:=by
 unfold pA at h;have:=List.find?_eq_none.mp h x hx;rw[zQ,Bool.not_eq_false,ve] at this;obtain⟨a,ha,b⟩:=this;rw[gj] at b;exact⟨a,bK.mp ha,dk b.1,dk b.2⟩
def Ub(st g:List (Option Nat)):Prop:=∀j k y,j≠k->g.getD j none=some y->g.getD k none=some y->st.getD j none≠st.getD k none
theorem Ub.put(I:Ub st g)(gl:g.length=st.length)(hl:l<st.length):Ub st (g.set l (pA st g l os)):=by
 intro j k y n hj hk e;rw[Bx (by rw[gl];exact hl)] at hj hk;by_cases cj:j=l
 .rw[am cj] at hj;rw[if_neg (fun z=>n (cj.trans z.symm))] at hk;exact(mN hj).2 k (by rw[<-gl];exact pC hk) (by rw[<-cj];exact e.symm) hk
 .rw[if_neg cj] at hj;by_cases ck:k=l
  .rw[am ck] at hk;exact(mN hk).2 j (by rw[<-gl];exact pC hj) (by rw[<-ck];exact e) hj
  .rw[if_neg ck] at hk;exact I j k y n hj hk e
structure E1(st g:List (Option Nat))(gd:Nat->List Nat)(p:List Nat):Prop where
 len:g.length=st.length
 inj:Ub st g
 bV:∀l,l∉p->g.getD l none=none
 ok:∀l,l∈p->(∃x,g.getD l none=some x/\x∈gd l)\/(g.getD l none=none/\∀o∈gd l,∃a,st.getD a none=st.getD l none/\g.getD a none=some o)
theorem E1.step(I:E1 st g gd p)(hl:l<st.length)(np:l∉p):E1 st (g.set l (pA st g l (gd l))) gd (p++[l]):=by
 have gs:∀ {j:Nat},(g.set l (pA st g l (gd l))).getD j none=if j=l then pA st g l (gd l) else g.getD j none:=Bx (by rw[I.len];exact hl)
 have nl:=I.bV l np;have kp:∀ {a o:Nat},g.getD a none=some o->(g.set l (pA st g l (gd l))).getD a none=some o:=fun {a o} e=>by rw[gs,if_neg (by rintro rfl;rw[nl] at e;cases e)];exact e
 refine⟨by rw[jJ,I.len],I.inj.put I.len hl,fun j hj=>?_,fun j hj=>?_⟩
 .rw[gs,if_neg (by rintro rfl;exact hj (dP _ cg))];exact I.bV j fun z=>hj (fj _ z)
 .by_cases c:j=l
  .subst c;rw[gs,am rfl];cases e:pA st g j (gd j) with
   |some x=>exact .inl ⟨x,rfl,(mN e).1⟩
   |none=>exact .inr ⟨rfl,fun o ho=>let ⟨a,_,e1,e2⟩:=Da e ho;⟨a,e1,by have:=kp e2;rwa [e] at this⟩⟩
  .rw[gs,if_neg c];have hj:j∈p:=by
    rcases bY.mp hj with z|z
    .exact z
    .exact absurd (cA.mp z) c
   rcases I.ok j hj with z|⟨z,f⟩
   .exact .inl z
   .exact .inr ⟨z,fun o ho=>let ⟨a,e1,e2⟩:=f o ho;⟨a,e1,kp e2⟩⟩
theorem E1.fold:∀ {ls p:List Nat} {g:List (Option Nat)},E1 st g gd p->(∀l∈ls,l<st.length)->(p++ls).Nodup->E1 st (ls.foldl (fun g l=>g.set l (pA st g l (gd l))) g) gd (p++ls)
 |[],p,g,I,_,_=>by rw[jx];exact I
 |l::ls,p,g,I,h,nd=>by
  rw[iz,show p++l::ls=(p++[l])++ls by simp];rw[show p++l::ls=(p++[l])++ls by simp] at nd;refine E1.fold (I.step (h l cg) fun z=>?_) (fun j hj=>h j (cp _ hj)) nd;exact(jF.mp (jF.mp nd).1).2.2 l z l cg rfl
noncomputable def HS(n:Nat)(ts:Ts)(st g:List (Option Nat))(l:Nat):List (Option Nat):=if g.getD l none=none then g.set l (pA st g l (cQ n ts ((st.getD l none).getD 0))) else g
noncomputable def Ev(n:Nat)(ts:Ts)(homes:List Nat)(st g:List (Option Nat))(l:Nat):List (Option Nat):=g.set l (pA st g l (ku n ts ((st.getD l none).getD 0) (homes.getD l 0)))
noncomputable def Uc(n:Nat)(ts:Ts)(homes:List Nat)(st:List (Option Nat))(sI:List Nat):List (Option Nat):=sI.foldl (HS n ts st) (sI.foldl (Ev n ts homes st) (List.replicate st.length none))
theorem Db(S:ii n ts homes st)(hl:l<st.length)(ey:st.getD l none=some y)(hy:y<n)(en:g.getD l none=none):∃x,pA st g l (cQ n ts y)=some x:=by
 cases e:pA st g l (cQ n ts y) with
 |some x=>exact⟨x,rfl⟩
 |none=>
  exfalso;have a:=wO (b:=((List.range st.length).filter fun j=>decide (st.getD j none=some y)&&(g.getD j none).isSome).map fun j=>(g.getD j none).getD 0) (rR hy) fun x hx=>by
   obtain⟨a,ha,e1,e2⟩:=Da e hx;exact aX.mpr ⟨a,cq.mpr ⟨bK.mpr ha,by rw[e1,ey,e2];simp⟩,by rw[e2];rfl⟩
  rw[aI,<-EH] at a;have b:=Pb (P:=fun j=>decide (st.getD j none=some y)&&(g.getD j none).isSome) (P':=fun j=>decide (st.getD j none=some y)) (i:=l) (fun j h=>(gj _ _ ▸ h:_/\_).1) (by rw[en];simp) (by rw[ey];simp) hl;have c:=S.cap y hy;rw[C_] at c;lia
structure E2(n:Nat)(ts:Ts)(st g1 g:List (Option Nat))(p:List Nat):Prop where
 len:g.length=st.length
 inj:Ub st g
 keep:∀l x,g1.getD l none=some x->g.getD l none=some x
 bV:∀l,l∉p->g.getD l none=g1.getD l none
 out:∀l,l∈p->∃x,g.getD l none=some x/\(g1.getD l none=some x\/x∈cQ n ts ((st.getD l none).getD 0))
theorem E2.step(S:ii n ts homes st)(I:E2 n ts st g1 g p)(hl:l<st.length)(ey:st.getD l none=some y)(hy:y<n)(np:l∉p):E2 n ts st g1 (HS n ts st g l) (p++[l]):=by
 have nl:=I.bV l np;unfold HS;by_cases c:g.getD l none=none
 .rw[am c,ey];obtain⟨x,ex⟩:=Db S hl ey hy c;have gs:∀ {j:Nat},(g.set l (pA st g l (cQ n ts y))).getD j none=if j=l then pA st g l (cQ n ts y) else g.getD j none:=Bx (by rw[I.len];exact hl)
  refine⟨by rw[jJ,I.len],I.inj.put I.len hl,fun j x e=>?_,fun j hj=>?_,fun j hj=>?_⟩
  .show (g.set l (pA st g l (cQ n ts y))).getD j none=_;rw[gs,if_neg (by rintro rfl;rw[<-nl,c] at e;cases e)];exact I.keep j x e
  .show (g.set l (pA st g l (cQ n ts y))).getD j none=_;rw[gs,if_neg (by rintro rfl;exact hj (dP _ cg))];exact I.bV j fun z=>hj (fj _ z)
  .show ∃x,(g.set l (pA st g l (cQ n ts y))).getD j none=some x/\_;rw[gs];by_cases d:j=l
   .subst d;rw[am rfl,ex,ey];exact⟨x,rfl,.inr (mN ex).1⟩
   .rw[if_neg d];rcases bY.mp hj with z|z
    .exact I.out j z
    .exact absurd (cA.mp z) d
 .rw[if_neg c];refine⟨I.len,I.inj,I.keep,fun j hj=>I.bV j fun z=>hj (fj _ z),fun j hj=>?_⟩;rcases bY.mp hj with z|z
  .exact I.out j z
  .rw[cA.mp z];cases e:g.getD l none with
   |none=>exact absurd e c
   |some x=>exact⟨x,rfl,.inl (by rw[<-nl,e])⟩
theorem E2.fold(S:ii n ts homes st):∀ {ls p:List Nat} {g:List (Option Nat)},E2 n ts st g1 g p->(∀l∈ls,∃y,l<st.length/\st.getD l none=some y/\y<n)->(p++ls).Nodup->E2 n ts st g1 (ls.foldl (HS n ts st) g) (p++ls)
 |[],p,g,I,_,_=>by rw[jx];exact I
 |l::ls,p,g,I,h,nd=>by
  rw[iz,show p++l::ls=(p++[l])++ls by simp];rw[show p++l::ls=(p++[l])++ls by simp] at nd;obtain⟨y,a,b,c⟩:=h l cg;refine E2.fold S (I.step S a b c fun z=>?_) (fun j hj=>h j (cp _ hj)) nd;exact(jF.mp (jF.mp nd).1).2.2 l z l cg rfl
structure Eag(n:Nat)(ts:Ts)(homes:List Nat)(st fs:List (Option Nat)):Prop where
 hd:Hd n ts st fs
 eag:∀l y,st.getD l none=some y->(∃x,fs.getD l none=some x/\x∈ku n ts y (homes.getD l 0))\/∀o∈ku n ts y (homes.getD l 0),∃a,st.getD a none=some y/\fs.getD a none=some o/\o∈ku n ts y (homes.getD a 0)
theorem Li{sI:List Nat}(S:ii n ts homes st)(pm:sI.Perm (mV st st.length)):∀l∈sI,∃y,l<st.length/\st.getD l none=some y/\y<n:=fun l hl=>by
 obtain⟨a,b⟩:=mL (pm.mem_iff.mp hl);exact⟨_,a,b,(S.ss l _ (by rw[jn (d:=none) a];exact congrArg some b)).1⟩
theorem Pd(h:st.getD l none=some y):l∈mV st st.length:=cq.mpr ⟨bK.mpr (pC h),by rw[h];rfl⟩
theorem Pe{sI:List Nat}(pm:sI.Perm (mV st st.length)):sI.Nodup:=pm.nodup_iff.mpr (qz _ iy)
theorem Pf{sI:List Nat}(S:ii n ts homes st)(pm:sI.Perm (mV st st.length)):Eag n ts homes st (Uc n ts homes st sI):=by
 have al:=Li S pm;have nd:=Pe pm;have i1:E1 st (sI.foldl (Ev n ts homes st) (List.replicate st.length none)) (fun l=>ku n ts ((st.getD l none).getD 0) (homes.getD l 0)) ([]++sI):=E1.fold (gd:=fun l=>ku n ts ((st.getD l none).getD 0) (homes.getD l 0)) ⟨k7,(fun j k y _ hy=>by rw[HR] at hy;cases hy),fun l _=>HR,fun l hl=>(nomatch hl)⟩ (fun l hl=>let ⟨_,a,_⟩:=al l hl;a) nd;have i2:=E2.fold S (g1:=sI.foldl (Ev n ts homes st) (List.replicate st.length none)) (p:=[]) ⟨i1.len,i1.inj,fun _ _ e=>e,fun _ _=>rfl,fun l hl=>(nomatch hl)⟩ al nd;rw[List.nil_append] at i1 i2;have Zk:∀ {i j o},o∈ku n ts i j->o∈cQ n ts i:=fun h=>(cq.mp h).1;have uo:∀ {l y},st.getD l none=some y->l∈sI:=fun h=>pm.mem_iff.mpr (Pd h);have g1k:∀ {l y x},st.getD l none=some y->(sI.foldl (Ev n ts homes st) (List.replicate st.length none)).getD l none=some x->x∈ku n ts y (homes.getD l 0):=fun {l y x} h e=>by
  rcases i1.ok l (uo h) with ⟨x',a,b⟩|⟨a,_⟩
  .rw[e] at a;cases a;rw[h] at b;exact b
  .rw[e] at a;cases a
 refine⟨⟨i2.len,fun j hj=>?_,fun j y hj=>?_,i2.inj⟩,fun l y hl=>?_⟩
 .have nj:j∉sI:=fun z=>by obtain⟨y,_,e,_⟩:=al j z;rw[hj] at e;cases e
  exact(i2.bV j nj).trans (i1.bV j nj)
 .obtain⟨x,a,b⟩:=i2.out j (uo hj);rcases b with b|b
  .exact⟨x,a,Zk (g1k hj b)⟩
  .rw[hj] at b;exact⟨x,a,b⟩
 .rcases i1.ok l (uo hl) with ⟨x,a,b⟩|⟨a,f⟩
  .rw[hl] at b;exact .inl ⟨x,i2.keep l x a,b⟩
  .refine .inr fun o ho=>?_;obtain⟨a',e1,e2⟩:=f o (by rw[hl];exact ho);rw[hl] at e1;exact⟨a',e1,i2.keep _ _ e2,g1k e1 e2⟩
end
theorem ii.let(S:ii n ts homes st)(le:st.length<=16):pB n homes st:=⟨le,S.len,S.hs,fun y hy=>by obtain⟨i,hi⟩:=List.mem_iff_getElem?.mp hy;exact(S.ss i y hi).1⟩
def Dc(o:HO):Prop:=∀ps,o≠.gQ ps
theorem cy.Ud(N:cy C H L p n ts):cy C H (fun b=>L b/\∃o,H b=some o/\Dc o) p n ts:=by
 obtain⟨dx,tl,ol,ds,a,l1,l2,b,c,d⟩:=N.ob;have ne:∀ {b xs},L b->H b=some (.lst xs)->L b/\∃o,H b=some o/\Dc o:=fun l e=>⟨l,_,e,fun ps z=>by cases z⟩
 have ne':∀ {b xs},L b->H b=some (.tup xs)->L b/\∃o,H b=some o/\Dc o:=fun l e=>⟨l,_,e,fun ps z=>by cases z⟩
 have rf:∀ {l r},L l->hU H L l n r->hU H (fun b=>L b/\∃o,H b=some o/\Dc o) l n r/\(L l/\∃o,H l=some o/\Dc o):=fun hl ⟨bs,a,b,c⟩=>⟨⟨bs,a,fun x hx=>by
  obtain⟨j,hj,e⟩:=u6 hx;have:=c.2 j (by rw[<-c.1];exact hj);rw[bv,cH hj,zW,e] at this;exact ne (b x hx) this,c⟩,ne hl a⟩
 obtain⟨t1,zs,t2,t3,t4,t5⟩:=d;exact⟨N.iK,dx,tl,ol,ds,a,(rf l1 b).2,(rf l2 c).2,(rf l1 b).1,(rf l2 c).1,ne t1 t2,zs,t2,t3,fun z hz=>ne' (t4 z hz) (t3 z hz),t5⟩
theorem _root_.L2.cC.not(t:cC lp q Pt H)(h:H b=some o)(n:∀ps,o≠.gQ ps):b≠Pt:=by
 rintro rfl;rcases t with z|⟨c,z,_⟩ <;> · rw[h] at z;exact n _ (bh z)
theorem _root_.L2.cC.same(t:cC lp q Pt H)(e:aA H H'):cC lp q Pt H':=by
 rcases t with z|⟨c,z,y⟩
 .exact .inl (e _ _ z)
 .exact .inr ⟨c,e _ _ z,e _ _ y⟩
def By(st:Stmt)(i:Nat):Expr:=match (cn st).getD i (.Pass ⟨0,0,0,0⟩) with
 |.Return (some (.Call _ _ (k::_) _)) _=>k.value
 |_=>.Name "x" ⟨0,0,0,0⟩
def Zl:Expr->Arguments
 |.Lambda a _ _ _=>a
 |_=>{ posonlyargs:=[],args:=[],vararg:=none,kwonlyargs:=[],kw_defaults:=[],kwarg:=none,defaults:=[] }
def QX:Expr->Expr
 |.Lambda _ b _ _=>b
 |e=>e
def QY:Expr->Scope
 |.Lambda _ _ s _=>s
 |_=>{ kind:=.function,names:=[],isGenerator:=false,isCoroutine:=false }
def Zm:Expr->Pos
 |.Lambda _ _ _ p=>p
 |_=>⟨0,0,0,0⟩
theorem bQ.lam(r:bQ (k+3) A)(env:Env):bQ k (A.in1.in1.deeper env):=r.in1.in1.deeper env
theorem wQ:(mV st i).Pairwise (·<·):=qz _ List.pairwise_lt_range
noncomputable def uH(ts:Ts)(homes:List Nat)(st:List (Option Nat))(l:Nat):Int:=((far ts ((st.getD l none).getD 0) (homes.getD l 0):Nat):Int)
theorem sf(s1:aA H H1)(t2:cC lp q PN H2)(hW:∀b o,H1 b=some o->b≠PN->H2 b=some o)(s3:aA H2 H3)(ED:H3 r=none):H r=none:=by
 have h2:H2 r=none:=s3.free ED;cases z:H r with
 |none=>rfl
 |some o=>
  by_cases e:r=PN
  .subst e;rcases t2 with q|⟨_,q,_⟩ <;> (rw[h2] at q;cases q)
  .rw[hW r o (s1 _ _ z) e] at h2;cases h2
abbrev uI:Stmt:=gf (top 38) 0
def QZ:Expr:=By uI 0
def Zn:Str:=("Nearest.order":Str)++".<locals>."++"<lambda>"
abbrev wR(PN:Addr)(H:Hp):Prop:=cC (Zm QZ) Zn PN H
abbrev uJ:Stmt:=gf (top 39) 0
def Q0:Expr:=By uJ 0
def Zo:Str:=("Farthest.order":Str)++".<locals>."++"<lambda>"
abbrev wS(PN:Addr)(H:Hp):Prop:=cC (Zm Q0) Zo PN H
abbrev uK:Stmt:=gf (top 40) 0
def Q3:Expr:=By uK 0
def Zp:Str:=("Turns.order":Str)++".<locals>."++"<lambda>"
abbrev wT(PN:Addr)(H:Hp):Prop:=cC (Zm Q3) Zp PN H
section
variable {P:Program} {w:World} {K:PySem.W.Frag} {mg:Str->Option Value} {base:Heap}
theorem Pg:aG ["self","net","homes","stand","beat"] ["self","net","homes","stand","beat"] (ak uI):=⟨rfl,rfl,rfl,by decide +kernel,rfl,by decide +kernel,by decide +kernel⟩
def HU(C PN:Addr):Sp:=fun vs H Q _=>∃ (L:Addr->Prop) (x0 x4:V) (px ha sa:Addr) (n:Nat) (ts:Ts) (homes:List Nat) (st:List (Option Nat)),vs=[x0,.ref px,.ref ha,.ref sa,x4]/\cy C H L px n ts/\H ha=some (.tup (NV homes))/\H sa=some (.tup (st.map oV))/\pB n homes st/\wR PN H/\
 ∀ (r:Addr) (H':Hp) (out:List Nat),wR PN H'->mE PN H H'->H r=none->out.Perm (mV st st.length)->out.Pairwise (On (uH ts homes st))->H' r=some (.lst (NV out))->Q (.ref r) H'
theorem Ue{f c C PN:Addr}{fd:FuncData}(F:pJ K "order" "Nearest.order" uI f fd c)(B:Bl mg)(kb:K.In base)(hb:oq mg base)(hc:PySem.W.codeHdIn K c PN=true)(T:NT K mg C)(MF:ic P w K mg base a7 5 C "far" ["self","one","other"] (kg C))(UW:cs P w K mg base a7 1 "under_way" ["stand"] Bw):
  bo P w K mg base a7 9 f fd ["self","net","homes","stand","beat"] (HU C PN):=by
 obtain⟨fF,fdF,mF,bF,GF⟩:=MF.ex;refine F.ok Pg (fun vs H Q E h=>?_) (fun A outer s H vs Q E hr h=>?_)
 .obtain⟨L,x0,x4,px,ha,sa,n,ts,homes,st,rfl,_⟩:=h;rfl
 .obtain⟨L,x0,x4,px,ha,sa,n,ts,homes,st,rfl,N,hH,hS,LO,tb,q⟩:=h;have h1:bQ 1 _:=hr.mono (by decide);have LF:A9 (lH a7 P w K mg base ["self","net","homes","stand","beat"] "Nearest.order" (ak uI) f (.ref c) A outer s H E).BJ ["letter","net","stand","homes"] [none,some 1,some 3,some 2] (QY QZ) Zn (Zl QZ) (QX QZ) "letter":=
   ⟨a_ (by kernel_rfl),fun _ _ _ _ _=>rfl,rfl,rfl,rfl,by decide +kernel,rfl,rfl⟩
  have PB:∀f' c' bJ s' H',PE (rT (lH a7 P w K mg base ["self","net","homes","stand","beat"] "Nearest.order" (ak uI) f (.ref c) A outer s H E).BJ ["letter","net","stand","homes"] (QY QZ) bJ Zn f' c' s' H') (QX QZ) (xE C "far" (kg C) [] E0 (aB 1) (aZ (eU (n6 K) (aB 2) (aB 0)) (aZ (eU (n6 K) (aB 3) (aB 0)) fg))):=fun f' c' bJ s' H'=>
   cR (pv 1) T.cl mF GF (bQ.lam hr _) bF .nil aK (aa (aL bH (pv 2) (pv 0) (fun _ _=>rfl)) (aa (aL bH (pv 3) (pv 0) (fun _ _=>rfl)) ag))
  refine⟨_,(ap (aR (kJ (lS hr LF PB) rfl B.sorted o5 (aa (aF UW h1 aK (aa (pv 3) ag)) ag) (pZ (rA (NB:=["letter","net","stand","homes"]) (src:=[none,some 1,some 3,some 2]) (mq kb hb hc) (a_ (by kernel_rfl))) vF)))),?_⟩;refine⟨_,rfl,sa,st,rfl,hS,LO.le,fun l H1 s1 Qz hl=>?_⟩;have t1:=tb.same s1;refine⟨t1,fun f' c' H2 t2 hW Af vR=>?_⟩;have tE:∀ {b o},H1 b=some o->(∀ps,o≠.gQ ps)->H2 b=some o:=fun e n=>hW _ _ e (t1.not e n);have xI:=tE hl (by intro ps z;cases z);have IR:=tE (s1 _ _ hH) (by intro ps z;cases z);have uL:=tE (s1 _ _ hS) (by intro ps z;cases z);obtain⟨dx0,fs0,i0⟩:∃dx fs,H1 px=some (.ins C dx fs):=by obtain⟨dx,tl,ol,ds,a,_⟩:=(N.same s1).ob;exact⟨dx,_,a⟩
  have N2:=(N.same s1).Ud.keep (H':=H2) (fun b o l e=>by obtain⟨_,o',e',n⟩:=l;rw[e] at e';cases e';exact tE e n) (fun o e=>tE e (by rw[i0] at e;cases e;intro ps z;cases z));refine⟨l,f',c',mV st st.length,(uH ts homes st),rfl,rfl,aV.of xI,eY ql (by have:=LO.le;lia),wQ,fun n hn=>by have:=(mL hn).1;have:=LO.le;lia,vR,Af,fun m hm H3 s3=>?_,fun r H3 out s3 ED op pw=>?_⟩
  .obtain⟨Q4,y,ey,hy,K8⟩:=LO.at hm;have N3:=N2.same s3;obtain⟨dx,tl,ol,ds,i1,_⟩:=N3.ob;refine⟨_,rfl,px,dx,_,rfl,i1,GE _ _ _ _,_,rfl,_,rfl,sa,_,_,_,rfl,rfl,bW.of (s3 _ _ uL),az (fZ Q4),_,rfl,_,rfl,ha,_,_,_,rfl,rfl,bW.of (s3 _ _ IR),az (jz (by rw[LO.len];exact Q4)),?_⟩;rw[ey];refine⟨_,px,n,ts,y,homes.getD m 0,rfl,N3,hy,K8,?_,aA.refl _⟩;unfold uH;rw[ey];rfl
  .have sm:=ah (o:=.lst (NV out)) ED;exact q r _ out ((cC.same t2 s3).same sm) (fun b o e n=>sm _ _ (s3 _ _ (hW _ _ (s1 _ _ e) n))) (sf s1 t2 hW s3 ED) op pw af
theorem Ph:aG ["self","net","homes","stand","beat"] ["self","net","homes","stand","beat"] (ak uJ):=⟨rfl,rfl,rfl,by decide +kernel,rfl,by decide +kernel,by decide +kernel⟩
def HV(C PN:Addr):Sp:=fun vs H Q _=>∃ (L:Addr->Prop) (x0 x4:V) (px ha sa:Addr) (n:Nat) (ts:Ts) (homes:List Nat) (st:List (Option Nat)),vs=[x0,.ref px,.ref ha,.ref sa,x4]/\cy C H L px n ts/\H ha=some (.tup (NV homes))/\H sa=some (.tup (st.map oV))/\pB n homes st/\wS PN H/\
 ∀ (r:Addr) (H':Hp) (out:List Nat),wS PN H'->mE PN H H'->H r=none->out.Perm (mV st st.length)->out.Pairwise (On (fun l=>-uH ts homes st l))->H' r=some (.lst (NV out))->Q (.ref r) H'
theorem Uf{f c C PN:Addr}{fd:FuncData}(F:pJ K "order" "Farthest.order" uJ f fd c)(B:Bl mg)(kb:K.In base)(hb:oq mg base)(hc:PySem.W.codeHdIn K c PN=true)(T:NT K mg C)(MF:ic P w K mg base a7 5 C "far" ["self","one","other"] (kg C))(UW:cs P w K mg base a7 1 "under_way" ["stand"] Bw):
  bo P w K mg base a7 9 f fd ["self","net","homes","stand","beat"] (HV C PN):=by
 obtain⟨fF,fdF,mF,bF,GF⟩:=MF.ex;refine F.ok Ph (fun vs H Q E h=>?_) (fun A outer s H vs Q E hr h=>?_)
 .obtain⟨L,x0,x4,px,ha,sa,n,ts,homes,st,rfl,_⟩:=h;rfl
 .obtain⟨L,x0,x4,px,ha,sa,n,ts,homes,st,rfl,N,hH,hS,LO,tb,q⟩:=h;have h1:bQ 1 _:=hr.mono (by decide);have LF:A9 (lH a7 P w K mg base ["self","net","homes","stand","beat"] "Farthest.order" (ak uJ) f (.ref c) A outer s H E).BJ ["letter","net","stand","homes"] [none,some 1,some 3,some 2] (QY Q0) Zo (Zl Q0) (QX Q0) "letter":=
   ⟨a_ (by kernel_rfl),fun _ _ _ _ _=>rfl,rfl,rfl,rfl,by decide +kernel,rfl,rfl⟩
  have PB:∀f' c' bJ s' H',PE (rT (lH a7 P w K mg base ["self","net","homes","stand","beat"] "Farthest.order" (ak uJ) f (.ref c) A outer s H E).BJ ["letter","net","stand","homes"] (QY Q0) bJ Zo f' c' s' H') (QX Q0) (tUn (rU fun i=>.int (-i)) (xE C "far" (kg C) [] E0 (aB 1) (aZ (eU (n6 K) (aB 2) (aB 0)) (aZ (eU (n6 K) (aB 3) (aB 0)) fg)))):=fun f' c' bJ s' H'=>
   BL vC (cR (pv 1) T.cl mF GF (bQ.lam hr _) bF .nil aK (aa (aL bH (pv 2) (pv 0) (fun _ _=>rfl)) (aa (aL bH (pv 3) (pv 0) (fun _ _=>rfl)) ag)))
  refine⟨_,(ap (aR (kJ (lS hr LF PB) rfl B.sorted o5 (aa (aF UW h1 aK (aa (pv 3) ag)) ag) (pZ (rA (NB:=["letter","net","stand","homes"]) (src:=[none,some 1,some 3,some 2]) (mq kb hb hc) (a_ (by kernel_rfl))) vF)))),?_⟩;refine⟨_,rfl,sa,st,rfl,hS,LO.le,fun l H1 s1 Qz hl=>?_⟩;have t1:=tb.same s1;refine⟨t1,fun f' c' H2 t2 hW Af vR=>?_⟩;have tE:∀ {b o},H1 b=some o->(∀ps,o≠.gQ ps)->H2 b=some o:=fun e n=>hW _ _ e (t1.not e n);have xI:=tE hl (by intro ps z;cases z);have IR:=tE (s1 _ _ hH) (by intro ps z;cases z);have uL:=tE (s1 _ _ hS) (by intro ps z;cases z);obtain⟨dx0,fs0,i0⟩:∃dx fs,H1 px=some (.ins C dx fs):=by obtain⟨dx,tl,ol,ds,a,_⟩:=(N.same s1).ob;exact⟨dx,_,a⟩
  have N2:=(N.same s1).Ud.keep (H':=H2) (fun b o l e=>by obtain⟨_,o',e',n⟩:=l;rw[e] at e';cases e';exact tE e n) (fun o e=>tE e (by rw[i0] at e;cases e;intro ps z;cases z));refine⟨l,f',c',mV st st.length,(fun l=>-uH ts homes st l),rfl,rfl,aV.of xI,eY ql (by have:=LO.le;lia),wQ,fun n hn=>by have:=(mL hn).1;have:=LO.le;lia,vR,Af,fun m hm H3 s3=>?_,fun r H3 out s3 ED op pw=>?_⟩
  .obtain⟨Q4,y,ey,hy,K8⟩:=LO.at hm;have N3:=N2.same s3;obtain⟨dx,tl,ol,ds,i1,_⟩:=N3.ob;refine⟨_,rfl,px,dx,_,rfl,i1,GE _ _ _ _,_,rfl,_,rfl,sa,_,_,_,rfl,rfl,bW.of (s3 _ _ uL),az (fZ Q4),_,rfl,_,rfl,ha,_,_,_,rfl,rfl,bW.of (s3 _ _ IR),az (jz (by rw[LO.len];exact Q4)),?_⟩;rw[ey];refine⟨_,px,n,ts,y,homes.getD m 0,rfl,N3,hy,K8,_,rfl,?_,aA.refl _⟩;unfold uH;dsimp only;rw[ey];rfl
  .have sm:=ah (o:=.lst (NV out)) ED;exact q r _ out ((cC.same t2 s3).same sm) (fun b o e n=>sm _ _ (s3 _ _ (hW _ _ (s1 _ _ e) n))) (sf s1 t2 hW s3 ED) op pw af
theorem Pi:aG ["self","net","homes","stand","beat"] ["self","net","homes","stand","beat"] (ak uK):=⟨rfl,rfl,rfl,by decide +kernel,rfl,by decide +kernel,by decide +kernel⟩
def HX(PN:Addr):Sp:=fun vs H Q _=>∃ (x0 x1:V) (bt:Int) (ha sa:Addr) (n:Nat) (homes:List Nat) (st:List (Option Nat)),vs=[x0,x1,.ref ha,.ref sa,.int bt]/\0<=bt/\H ha=some (.tup (NV homes))/\H sa=some (.tup (st.map oV))/\pB n homes st/\wT PN H/\
 ∀ (r:Addr) (H':Hp) (out:List Nat),wT PN H'->mE PN H H'->H r=none->out.Perm (mV st st.length)->out.Pairwise (On (fun l=>((l:Nat)+bt) % ((homes.length:Nat):Int)))->H' r=some (.lst (NV out))->Q (.ref r) H'
theorem Ug{f c PN:Addr}{fd:FuncData}(F:pJ K "order" "Turns.order" uK f fd c)(B:Bl mg)(kb:K.In base)(hb:oq mg base)(hc:PySem.W.codeHdIn K c PN=true)(UW:cs P w K mg base a7 1 "under_way" ["stand"] Bw):
  bo P w K mg base a7 9 f fd ["self","net","homes","stand","beat"] (HX PN):=by
 refine F.ok Pi (fun vs H Q E h=>?_) (fun A outer s H vs Q E hr h=>?_)
 .obtain⟨x0,x1,bt,ha,sa,n,homes,st,rfl,_⟩:=h;rfl
 .obtain⟨x0,x1,bt,ha,sa,n,homes,st,rfl,b0,hH,hS,LO,tb,q⟩:=h;have h1:bQ 1 _:=hr.mono (by decide);have LF:A9 (lH a7 P w K mg base ["self","net","homes","stand","beat"] "Turns.order" (ak uK) f (.ref c) A outer s H E).BJ ["letter","beat","homes"] [none,some 4,some 2] (QY Q3) Zp (Zl Q3) (QX Q3) "letter":=
   ⟨a_ (by kernel_rfl),fun _ _ _ _ _=>rfl,rfl,rfl,rfl,by decide +kernel,rfl,rfl⟩
  have PB:∀f' c' bJ s' H',PE (rT (lH a7 P w K mg base ["self","net","homes","stand","beat"] "Turns.order" (ak uK) f (.ref c) A outer s H E).BJ ["letter","beat","homes"] (QY Q3) bJ Zp f' c' s' H') (QX Q3) (eU (rI (fun _ j=>0<j) fun i j=>.int (i % j)) (eU (rb fun i j=>.int (i+j)) (aB 0) (aB 1)) (RH (fun xs H Q=>∃p ys,xs=[V.ref p]/\(aV K H p ys\/bW K H p ys)/\Q (.int ys.length) H) (aZ (aB 2) fg))):=fun f' c' bJ s' H'=>
   aP gc (aP cx (pv 0) (pv 1)) (aD aO (by rfl) B.len dU (aa (pv 2) ag))
  refine⟨_,(ap (aR (kJ (lS hr LF PB) rfl B.sorted o5 (aa (aF UW h1 aK (aa (pv 3) ag)) ag) (pZ (rA (NB:=["letter","beat","homes"]) (src:=[none,some 4,some 2]) (mq kb hb hc) (a_ (by kernel_rfl))) vF)))),?_⟩;refine⟨_,rfl,sa,st,rfl,hS,LO.le,fun l H1 s1 Qz hl=>?_⟩;have t1:=tb.same s1;refine⟨t1,fun f' c' H2 t2 hW Af vR=>?_⟩;have tE:∀ {b o},H1 b=some o->(∀ps,o≠.gQ ps)->H2 b=some o:=fun e n=>hW _ _ e (t1.not e n);have xI:=tE hl (by intro ps z;cases z);have IR:=tE (s1 _ _ hH) (by intro ps z;cases z);have uL:=tE (s1 _ _ hS) (by intro ps z;cases z);refine⟨l,f',c',mV st st.length,(fun l=>((l:Nat)+bt) % ((homes.length:Nat):Int)),rfl,rfl,aV.of xI,eY ql (by have:=LO.le;lia),wQ,fun n hn=>by have:=(mL hn).1;have:=LO.le;lia,vR,Af,fun m hm H3 s3=>?_,fun r H3 out s3 ED op pw=>?_⟩
  .obtain⟨Q4,y,ey,hy,K8⟩:=LO.at hm;refine⟨_,rfl,_,rfl,_,_,rfl,rfl,_,rfl,ha,_,rfl,.inr (bW.of (s3 _ _ IR)),_,_,rfl,rfl,?_,?_,aA.refl _⟩
   .rw[bS,LO.len];lia
   .rw[bS]
  .have sm:=ah (o:=.lst (NV out)) ED;exact q r _ out ((cC.same t2 s3).same sm) (fun b o e n=>sm _ _ (s3 _ _ (hW _ _ (s1 _ _ e) n))) (sf s1 t2 hW s3 ED) op pw af
end
abbrev Zq:Stmt:=top 43
section
variable {P:Program} {w:World} {K:PySem.W.Frag} {mg:Str->Option Value} {base:Heap}
theorem Pj:aG ["net","homes","stand","letters","goes","letter"] ["net","homes","stand","letters","goes"] (ak Zq):=⟨rfl,rfl,rfl,by decide +kernel,rfl,by decide +kernel,by decide +kernel⟩
def Pk(C:Addr):Sp:=fun vs H Q _=>∃ (L:Addr->Prop) (px ha sa la ga:Addr) (n:Nat) (ts:Ts) (homes os:List Nat) (st gs:List (Option Nat)),vs=[.ref px,.ref ha,.ref sa,.ref la,.ref ga]/\cy C H L px n ts/\¬ L ga/\H ha=some (.tup (NV homes))/\H sa=some (.tup (st.map oV))/\pB n homes st/\(∀l∈os,l∈mV st st.length)/\H la=some (.lst (NV os))/\la≠ga/\H ga=some (.lst (gs.map oV))/\gs.length=st.length/\
 ∀H',aH ga H H'->H' ga=some (.lst ((os.foldl (HS n ts st) (os.foldl (Ev n ts homes st) gs)).map oV))->Q .bV H'
theorem wU{n:Nat}{ts:Ts}{homes:List Nat}{st:List (Option Nat)}:∀ {ls:List Nat} {gs:List (Option Nat)},(ls.foldl (Ev n ts homes st) gs).length=gs.length
 |[],gs=>rfl
 |l::ls,gs=>by rw[iz,wU];unfold Ev;rw[jJ]
theorem Dd{n:Nat}{ts:Ts}{st:List (Option Nat)}:∀ {ls:List Nat} {gs:List (Option Nat)},(ls.foldl (HS n ts st) gs).length=gs.length
 |[],gs=>rfl
 |l::ls,gs=>by rw[iz,Dd];unfold HS;split <;> simp
theorem Uh{f C:Addr}{fd:FuncData}(F:fY K "hand_eagerly" "hand_eagerly" Zq f fd)(T:NT K mg C)(MG:ic P w K mg base a7 6 C "good" ["self","house","home"] (wN C))(MO:ic P w K mg base a7 5 C "out" ["self","house"] (Bg C))(FF:cs P w K mg base a7 1 "first_free" ["others","stand","goes","letter"] Pa):
  bo P w K mg base a7 7 f fd ["net","homes","stand","letters","goes"] (Pk C):=by
 obtain⟨fG,fdG,mG,bG,GG⟩:=MG.ex;obtain⟨fO,fdO,mO,bO,GO⟩:=MO.ex;refine F.ok Pj (fun vs H Q E h=>?_) (fun dN A outer s H vs Q E hr h=>?_)
 .obtain⟨L,px,ha,sa,la,ga,n,ts,homes,os,st,gs,rfl,_⟩:=h;rfl
 .obtain⟨L,px,ha,sa,la,ga,n,ts,homes,os,st,gs,rfl,N,nLg,hH,hS,LO,ho,hL,Zr,hG,gl,q⟩:=h;have h1:bQ 1 _:=hr.mono (by decide);have h5:bQ 5 _:=hr.mono (by decide);refine⟨_,(ai (dH eI rfl (bA (pv 3)) (au (i:=5) Pj.nd rfl (Or.inl rfl))
    (ap (gb (aF FF h1 aK (aa (cR (pv 0) T.cl mG GG hr bG .nil aK (aa (aL bH (pv 2) (pv 5) (fun _ _=>rfl)) (aa (aL bH (pv 1) (pv 5) (fun _ _=>rfl)) ag))) (aa (pv 2) (aa (pv 4) (aa (pv 5) ag))))) (jb (pv 4) (pv 5) fz))))
   (ap (dH eI rfl (bA (pv 3)) (au (i:=5) Pj.nd rfl (Or.inl rfl))
    (ap (de (aQ nX (aL aJ (pv 4) (pv 5) (fun _ _=>rfl)) dF (aS _)) (ap (gb (aF FF h1 aK (aa (cR (pv 0) T.cl mO GO h5 bO .nil aK (aa (aL bH (pv 2) (pv 5) (fun _ _=>rfl)) ag)) (aa (pv 2) (aa (pv 4) (aa (pv 5) ag))))) (jb (pv 4) (pv 5) fz))) bE))))),?_⟩
  have n2:=N.iK.n2;have npg:px≠ga:=by obtain⟨dx,fs,a,_⟩:=N.Lh;rintro rfl;rw[a] at hG;cases hG
  have nhg:ha≠ga:=by rintro rfl;rw[hH] at hG;cases hG
  have nsg:sa≠ga:=by rintro rfl;rw[hS] at hG;cases hG
  refine⟨_,rfl,la,rfl,⟨_,aV.of hL⟩,g7 (K:=K) (xs:=NV os) (fun j σ Hc=>(∃x,σ=[some (.ref px),some (.ref ha),some (.ref sa),some (.ref la),some (.ref ga),x])/\aH ga H Hc/\Hc ga=some (.lst (((os.take j).foldl (Ev n ts homes st) gs).map oV))) ⟨⟨_,rfl⟩,aH.refl,hG⟩ (fun j σ Hc _ z=>aV.of (z.2.1 _ _ hL Zr)) ?_ ?_⟩
  .rintro j x σ Hc hx ⟨⟨x5,rfl⟩,sc,De⟩;obtain⟨l,hv,rfl⟩:=yB hx;obtain⟨hl,y,ey,hy,K8⟩:=LO.at (ho l (cI hv));have tk:os.take (j+1)=os.take j++[l]:=by rw[eZ,hv];rfl
   rw[tk,zN,iz,List.foldl_nil];have Wx:((os.take j).foldl (Ev n ts homes st) gs).length=st.length:=by rw[wU,gl]
   generalize (os.take j).foldl (Ev n ts homes st) gs=g at *;have Nc:=N.keep (fun b o l e=>sc b o e (by rintro rfl;exact nLg l)) (fun o e=>sc _ _ e npg);have hHc:=sc _ _ hH nhg;have Ui:=sc _ _ hS nsg;obtain⟨dx,fs,i1,i2,i3⟩:=Nc.Lh;refine⟨_,rfl,px,dx,fs,rfl,i1,i2,_,rfl,_,rfl,sa,_,_,_,rfl,rfl,bW.of Ui,az (fZ hl),?_⟩;rw[ey];have lg:(ku n ts y (homes.getD l 0)).length<=n:=a9 (fh _ _) C8;refine⟨_,rfl,_,rfl,ha,_,_,_,rfl,rfl,bW.of hHc,az (jz (by rw[LO.len];exact hl)),L,px,n,ts,y,homes.getD l 0,rfl,Nc,hy,K8,fun r1 H1 s1 rY g1=>?_⟩;refine⟨_,rfl,_,rfl,_,rfl,r1,sa,ga,ku n ts y (homes.getD l 0),st,g,l,rfl,g1,s1 _ _ Ui,s1 _ _ De,Wx,LO.le,hl,fun H4 s4=>?_⟩;have IS:=s1.trans s4;refine⟨_,rfl,_,rfl,ga,_,(l:Int),l,rfl,rfl,IS _ _ De,gT (by rw[aI,Wx];exact hl),⟨_,rfl⟩,fun b o e m=>by rw[ao m];exact IS _ _ (sc _ _ e m),?_⟩;rw[af];unfold Ev;rw[ey,List.map_set];rfl
  .rintro σ Hc ⟨⟨x5,rfl⟩,sc,De⟩;rw[bS,gh] at De;have Wx:(os.foldl (Ev n ts homes st) gs).length=st.length:=by rw[wU,gl]
   generalize os.foldl (Ev n ts homes st) gs=g0 at *;refine⟨_,rfl,la,rfl,⟨_,aV.of (sc _ _ hL Zr)⟩,g7 (K:=K) (xs:=NV os) (fun j σ Hc=>(∃x,σ=[some (.ref px),some (.ref ha),some (.ref sa),some (.ref la),some (.ref ga),x])/\aH ga H Hc/\Hc ga=some (.lst (((os.take j).foldl (HS n ts st) g0).map oV))) ⟨⟨_,rfl⟩,sc,De⟩ (fun j σ Hc _ z=>aV.of (z.2.1 _ _ hL Zr)) ?_ ?_⟩
   .clear sc De;rintro j x σ Hc hx ⟨⟨x5,rfl⟩,sc,De⟩;obtain⟨l,hv,rfl⟩:=yB hx;obtain⟨hl,y,ey,hy,K8⟩:=LO.at (ho l (cI hv));have tk:os.take (j+1)=os.take j++[l]:=by rw[eZ,hv];rfl
    rw[tk,zN,iz,List.foldl_nil];have Zt:((os.take j).foldl (HS n ts st) g0).length=st.length:=by rw[Dd,Wx]
    generalize (os.take j).foldl (HS n ts st) g0=g at *;have Nc:=N.keep (fun b o l e=>sc b o e (by rintro rfl;exact nLg l)) (fun o e=>sc _ _ e npg);have Ui:=sc _ _ hS nsg;obtain⟨dx,fs,i1,i2,i3⟩:=Nc.Lh;refine⟨_,rfl,_,rfl,ga,_,_,_,rfl,rfl,aV.of De,az (fZ (by rw[Zt];exact hl)),rfl,_,rfl,?_⟩;unfold HS;cases eg:g.getD l none with
    |some z=>refine km rfl ⟨⟨_,rfl⟩,sc,?_⟩;rw[if_neg (fun z=>by cases z)];exact De
    |none=>
    rw[am rfl];refine uE rfl ⟨_,rfl,px,dx,fs,rfl,i1,i3,_,rfl,_,rfl,sa,_,_,_,rfl,rfl,bW.of Ui,az (fZ hl),?_⟩;rw[ey];refine⟨L,px,n,ts,y,rfl,Nc,hy,fun r1 H1 s1 rY g1=>?_⟩;have lo:=C8 (n:=n) (ts:=ts) (h:=y);refine⟨_,rfl,_,rfl,_,rfl,r1,sa,ga,cQ n ts y,st,g,l,rfl,g1,s1 _ _ Ui,s1 _ _ De,Zt,LO.le,hl,fun H4 s4=>?_⟩;have IS:=s1.trans s4;refine⟨_,rfl,_,rfl,ga,_,(l:Int),l,rfl,rfl,IS _ _ De,gT (by rw[aI,Zt];exact hl),⟨_,rfl⟩,fun b o e m=>by rw[ao m];exact IS _ _ (sc _ _ e m),?_⟩;rw[af,List.map_set];rfl
   .rintro σ Hc ⟨⟨x5,rfl⟩,sc,De⟩;rw[bS,gh] at De;exact q Hc sc De
end
abbrev Zu:Stmt:=top 15
abbrev sHT:Stmt:=top 44
theorem mP:(["home","goes"]:List Str).Nodup:=by decide +kernel
theorem Lj{homes:List Nat}{fs:List (Option Nat)}{i:Nat}(h:i<fs.length):((pQ homes fs).map oV)[i]?=some (if fs.getD i none=some (homes.getD i 0) then V.bV else oV (fs.getD i none)):=by
 unfold pQ;rw[bX,bX,gX h];show some (oV (if _ then none else _))=_;split <;> rfl
abbrev Wy:List Str:=["self","net","homes","stand","beat"]
theorem oX{X:Cx}{e:Expr}{t1 t2:TE}(a:PE X e t1)(b:PE X e t2):PE X e (fun σ H Q=>t1 σ H Q\/t2 σ H Q):=fun ae s σ H Q I h=>h.elim (a ae s σ H Q I) (b ae s σ H Q I)
structure Q5(K:PySem.W.Frag)(mg:Str->Option Value)(nm:Str)(CB Ci:Addr)(bt:Bool):Prop where
 cl:Fm K Ci
 QJ:mg nm=some (.ref Ci)
 ha:PySem.W.findIn K (.ref Ci) "__class__"=some (some (.builtin "object.__class__"))
 hn:PySem.W.specialIn K (.builtin "object.__class__") "__get__"=some (some (.builtin "getset_descriptor.__get__"))
 RE:PySem.W.takesIn K (.builtin "object.__class__")=some true
 hm:PySem.W.mroIn K Ci (.type "object")=some true
 kt:PySem.W.kitOne K (.ref Ci) (.ref CB)=some bt
theorem Q5.ty{K:PySem.W.Frag}{mg:Str->Option Value}{nm:Str}{CB Ci a d:Addr}{fs:List (Str×V)}{H:Hp}{bt:Bool}(T:Q5 K mg nm CB Ci bt)(e:H a=some (.ins Ci d fs)):ML K H (.ref a) (.ref Ci):=.of (.ins e T.cl T.ha T.hn T.RE T.hm)
theorem _root_.L2.cC.mQ{lp:Pos}{q:Str}{P P':Addr}{H H':Hp}(t:cC lp q P H)(s:mE P' H H')(hp:∃ps,H P'=some (.gQ ps))(n:P≠P'):cC lp q P H':=by
 obtain⟨ps,hp⟩:=hp;rcases t with z|⟨c,z,y⟩
 .exact .inl (s _ _ z n)
 .exact .inr ⟨c,s _ _ z n,s _ _ y (by rintro rfl;rw[hp] at y;cases y)⟩
theorem _root_.L2.cC.gQ{lp:Pos}{q:Str}{P:Addr}{H:Hp}(t:cC lp q P H):∃ps,H P=some (.gQ ps):=by
 rcases t with z|⟨c,z,y⟩
 .exact⟨_,z⟩
 .exact⟨_,z⟩
theorem _root_.L2.cC.putL{lp:Pos}{q:Str}{Pt A:Addr}{H:Hp}{xs:List V}{u:HO}(t:cC lp q Pt H)(h:H A=some (.lst xs)):cC lp q Pt (upd H A u):=by
 rcases t with z|⟨c,z,y⟩
 .exact .inl (by rw[ao (by rintro rfl;rw[h] at z;cases z)];exact z)
 .exact .inr ⟨c,by rw[ao (by rintro rfl;rw[h] at z;cases z)];exact z,by rw[ao (by rintro rfl;rw[h] at y;cases y)];exact y⟩
structure T3(PN PF PT:Addr)(H:Hp):Prop where
 n:wR PN H
 f:wS PF H
 t:wT PT H
theorem T3.same{PN PF PT:Addr}{H H':Hp}(t:T3 PN PF PT H)(s:aA H H'):T3 PN PF PT H':=⟨t.n.same s,t.f.same s,t.t.same s⟩
theorem T3.putL{PN PF PT A:Addr}{H:Hp}{xs:List V}{u:HO}(t:T3 PN PF PT H)(h:H A=some (.lst xs)):T3 PN PF PT (upd H A u):=⟨t.n.putL h,t.f.putL h,t.t.putL h⟩
def KQ(PN PF PT:Addr)(H H':Hp):Prop:=∀b o,H b=some o->b≠PN->b≠PF->b≠PT->H' b=some o
def KN(H H':Hp):Prop:=∀b o,H b=some o->Dc o->H' b=some o
section
variable {PN PF PT:Addr} {H H1 H2 H':Hp}
theorem KQ.kn(k:KQ PN PF PT H H')(t:T3 PN PF PT H):KN H H':=fun b o e n=>k b o e (t.n.not e n) (t.f.not e n) (t.t.not e n)
theorem KQ.of(s:aA H H'):KQ PN PF PT H H':=fun b o e _ _ _=>s b o e
theorem KQ.trans(a:KQ PN PF PT H H1)(b:KQ PN PF PT H1 H2):KQ PN PF PT H H2:=fun c o e n1 n2 n3=>b c o (a c o e n1 n2 n3) n1 n2 n3
theorem KQ.fresh{r:Addr}(k:KQ PN PF PT H H')(t:T3 PN PF PT H')(e:H' r=none):H r=none:=by
 obtain⟨x,hx⟩:=t.n.gQ;obtain⟨y,hy⟩:=t.f.gQ;obtain⟨z,hz⟩:=t.t.gQ;cases w:H r with
 |none=>rfl
 |some o=>rw[k r o w (aj hx e).symm (aj hy e).symm (aj hz e).symm] at e;cases e
end
def Pl(Cs:List Addr)(H:Hp)(a:Addr):Prop:=∃Ci d,Ci∈Cs/\H a=some (.ins Ci d [])
theorem Pl.kn{Cs:List Addr}{H H':Hp}{a:Addr}(h:Pl Cs H a)(k:KN H H'):Pl Cs H' a:=let ⟨Ci,d,m,e⟩:=h;⟨Ci,d,m,k _ _ e (fun ps z=>by cases z)⟩
theorem or4{A:Addr->Prop}{CE CN CF CT Ci:Addr}(h:Ci∈[CE,CN,CF,CT])(a:A Ci):A CE\/(A CN\/(A CF\/A CT)):=by
 simp only[bi,iw,iE] at h;rcases h with rfl|rfl|rfl|rfl
 .exact .inl a
 .exact .inr (.inl a)
 .exact .inr (.inr (.inl a))
 .exact .inr (.inr (.inr a))
abbrev tO(Ci:Addr)(sp:Sp):TE:=xE Ci "order" sp [] E0 (aB 0) (aZ (aB 1) (aZ (aB 2) (aZ (aB 3) (aZ (aB 4) fg))))
def mR(C PN PF PT:Addr):Sp:=fun vs H Q _=>∃ (L:Addr->Prop) (x0:V) (bt:Int) (px ha sa:Addr) (n:Nat) (ts:Ts) (homes:List Nat) (st:List (Option Nat)),vs=[x0,.ref px,.ref ha,.ref sa,.int bt]/\cy C H L px n ts/\H ha=some (.tup (NV homes))/\H sa=some (.tup (st.map oV))/\pB n homes st/\0<=bt/\T3 PN PF PT H/\
 ∀ (r:Addr) (H':Hp) (out:List Nat),T3 PN PF PT H'->KQ PN PF PT H H'->H r=none->out.Perm (mV st st.length)->H' r=some (.lst (NV out))->Q (.ref r) H'
section
variable {C PN PF PT:Addr} {vs:List V} {H:Hp} {Q:VK} {E:XK}
theorem Uj(h:mR C PN PF PT vs H Q E):HP vs H Q E:=by
 obtain⟨L,x0,bt,px,ha,sa,n,ts,homes,st,rfl,N,hH,hS,LO,b0,tb,q⟩:=h;exact⟨_,_,_,_,sa,st,rfl,hS,LO.le,fun r H' s Pm hr=>q r H' _ (tb.same s) (KQ.of s) Pm (qJ _) hr⟩
theorem Uk(n1:PN≠PF)(n2:PN≠PT)(h:mR C PN PF PT vs H Q E):HU C PN vs H Q E:=by
 obtain⟨L,x0,bt,px,ha,sa,n,ts,homes,st,rfl,N,hH,hS,LO,b0,tb,q⟩:=h;exact⟨L,_,_,px,ha,sa,n,ts,homes,st,rfl,N,hH,hS,LO,tb.n,fun r H' out t' s Pm op _ hr=>q r H' out ⟨t',tb.f.mQ s tb.n.gQ n1.symm,tb.t.mQ s tb.n.gQ n2.symm⟩ (fun b o e m1 _ _=>s b o e m1) Pm op hr⟩
theorem Ul(n1:PN≠PF)(n3:PF≠PT)(h:mR C PN PF PT vs H Q E):HV C PF vs H Q E:=by
 obtain⟨L,x0,bt,px,ha,sa,n,ts,homes,st,rfl,N,hH,hS,LO,b0,tb,q⟩:=h;exact⟨L,_,_,px,ha,sa,n,ts,homes,st,rfl,N,hH,hS,LO,tb.f,fun r H' out t' s Pm op _ hr=>q r H' out ⟨tb.n.mQ s tb.f.gQ n1,t',tb.t.mQ s tb.f.gQ n3.symm⟩ (fun b o e _ m2 _=>s b o e m2) Pm op hr⟩
theorem Um(n2:PN≠PT)(n3:PF≠PT)(h:mR C PN PF PT vs H Q E):HX PT vs H Q E:=by
 obtain⟨L,x0,bt,px,ha,sa,n,ts,homes,st,rfl,N,hH,hS,LO,b0,tb,q⟩:=h;exact⟨_,_,bt,ha,sa,n,homes,st,rfl,b0,hH,hS,LO,tb.t,fun r H' out t' s Pm op _ hr=>q r H' out ⟨tb.n.mQ s tb.t.gQ n2,tb.f.mQ s tb.t.gQ n3,t'⟩ (fun b o e _ _ m3=>s b o e m3) Pm op hr⟩
end
def uM:Sp:=fun vs H Q _=>∃x y:V,vs=[x,y]/\Q .bV H
section
variable {P:Program} {w:World} {K:PySem.W.Frag} {mg:Str->Option Value} {base:Heap}
structure Q6(P:Program)(w:World)(K:PySem.W.Frag)(mg:Str->Option Value)(base:Heap)(C CE CN CF CT CI PN PF PT:Addr):Prop where
 e:Q5 K mg "Elder" CI CE false
 n:Q5 K mg "Nearest" CI CN false
 f:Q5 K mg "Farthest" CI CF false
 t:Q5 K mg "Turns" CI CT false
 mgI:mg "InTurn"=some (.ref CI)
 oE:ic P w K mg base a7 9 CE "order" Wy (mR C PN PF PT)
 oN:ic P w K mg base a7 9 CN "order" Wy (mR C PN PF PT)
 oF:ic P w K mg base a7 9 CF "order" Wy (mR C PN PF PT)
 oT:ic P w K mg base a7 9 CT "order" Wy (mR C PN PF PT)
 cE:ic P w K mg base a7 1 CE "check_letters" ["self","homes"] uM
 cN:ic P w K mg base a7 1 CN "check_letters" ["self","homes"] uM
 cF:ic P w K mg base a7 1 CF "check_letters" ["self","homes"] uM
 cT:ic P w K mg base a7 1 CT "check_letters" ["self","homes"] uM
theorem Q6.ty{C CE CN CF CT CI PN PF PT:Addr}(R:Q6 P w K mg base C CE CN CF CT CI PN PF PT){H:Hp}{Ci d a:Addr}(h:Ci∈[CE,CN,CF,CT])(e:H a=some (.ins Ci d [])):PySem.W.kitOne K (.ref Ci) (.ref CI)=some false/\ML K H (.ref a) (.ref Ci):=by
 simp only[bi,iw,iE] at h;rcases h with rfl|rfl|rfl|rfl
 .exact⟨R.e.kt,R.e.ty e⟩
 .exact⟨R.n.kt,R.n.ty e⟩
 .exact⟨R.f.kt,R.f.ty e⟩
 .exact⟨R.t.kt,R.t.ty e⟩
theorem Zv:aG ["homes","handing"] ["homes","handing"] (ak Zu):=⟨rfl,rfl,rfl,by decide +kernel,rfl,by decide +kernel,by decide +kernel⟩
def HY:Sp:=fun vs H Q _=>∃ (ha fa:Addr) (homes:List Nat) (fs:List (Option Nat)),vs=[.ref ha,.ref fa]/\H ha=some (.tup (NV homes))/\H fa=some (.tup (fs.map oV))/\homes.length=fs.length/\fs.length<=16/\∀t H',aA H H'->H' t=some (.tup ((pQ homes fs).map oV))->Q (.ref t) H'
theorem Uo{f:Addr}{fd:FuncData}(F:fY K "stand_behind" "stand_behind" Zu f fd)(B:Bl mg)(hZ:mg "zip"=none):bo P w K mg base a7 1 f fd ["homes","handing"] HY:=by
 refine F.ok Zv (fun vs H Q E h=>?_) (fun dN A outer s H vs Q E hr h=>?_)
 .obtain⟨ha,fa,homes,fs,rfl,_⟩:=h;rfl
 .obtain⟨ha,fa,homes,fs,rfl,T6,QW,hl,uN,q⟩:=h;refine'⟨_,(ap (aR (cB dg (by rfl) B.tup o9 (aa ?c1 ag)))),?_⟩;case c1=>
   refine' bz (g:=(q9 K 2 (eO (be 0) (eO (be 1) q8)))) (te:=(tIf (iQ (eU (Qv) (aB 1) (aB 0))) (tC .bV) (aB 1))) (NB:=["home","goes"]) (src:=[none,none]) (a_ (by kernel_rfl)) rfl (J7 rfl hZ (aa (pv 0) (aa (pv 1) ag))) ?g ?t ?e;case g=>exact fun cl C s₃ H₃ fp=>(fv (n:=2) rfl (bb (au (i:=0) mP rfl (Or.inl rfl) (Or.inr rfl)) (bb (au (i:=1) mP rfl (Or.inl rfl) (Or.inr rfl)) dG)))
   case t=>exact fun cl C s₃ H₃ fp=>b8
   case e=>exact fun cl C s₃ H₃ fp=>(xx (aQ gn (pv 1) (pv 0) (aS _)) dF (pv 1))
  refine⟨_,rfl,_,rfl,ha,fa,_,_,rfl,bW.of T6,bW.of QW,by rw[bS,aI];lia,fun D4 kO=>?_⟩;refine Gd (K:=K) (xs:=NV homes) (ys:=fs.map oV) (by rw[bS,aI];lia) (fun i zz σ H3=>(∃u v,σ=[u,v])/\aA H H3/\H3 D4=some (.lst zz)/\zz=((pQ homes fs).map oV).take i) ⟨⟨_,_,rfl⟩,ah kO,af,rfl⟩ (fun i zz σ H _ z=>⟨bW.of (z.2.1 _ _ T6),bW.of (z.2.1 _ _ QW)⟩) ?_ ?_
  .rintro i x y pp zz σ H5 Kt Kf hx hy ⟨⟨u,v,rfl⟩,kP,xn,rfl⟩ hpp kt kf;have hil:i<fs.length:=by have:=(dO.mp hx).1;rw[bS] at this;lia
   rw[jz (by lia)] at hx;obtain rfl:=bh hx;rw[fZ hil] at hy;obtain rfl:=bh hy;have sp:=ah (o:=.tup [.int ((homes.getD i 0:Nat):Int),oV (fs.getD i none)]) hpp;have one:=Lj (homes:=homes) (fs:=fs) hil;have lt:(((pQ homes fs).map oV).take i).length<sizeLine:=eY (zq _ _) (by rw[aI,jo];exact eY uN (by decide));refine⟨pp,_,rfl,bW.of af,rfl,_,_,rfl,_,_,rfl,rfl,?_⟩;refine⟨_,rfl,_,rfl,HD,_,rfl,?_⟩;rw[M_];have go:∀v,((pQ homes fs).map oV)[i]?=some v->∀σ2,(∃u v,σ2=[u,v])->Kt v σ2 (upd H5 pp (.tup [.int ((homes.getD i 0:Nat):Int),oV (fs.getD i none)])):=fun v hv σ2 sh=>kt v σ2 _ (sp _ _ xn) lt ⟨sh,bf (kP.trans sp) kO,af,by rw[eZ,hv];rfl⟩;by_cases c:fs.getD i none=some (homes.getD i 0)
   .rw[am c] at one;rw[cZ c];exact vL (go _ one _ ⟨_,_,rfl⟩)
   .rw[if_neg c] at one;rw[d6 c];exact lI ⟨_,rfl,go _ one _ ⟨_,_,rfl⟩⟩
  .rintro zz σ H5 ⟨_,kP,xn,rfl⟩;rw[bS,show homes.length=((pQ homes fs).map oV).length by rw[aI,jo];exact hl,gh] at xn;refine⟨D4,_,rfl,.inl ⟨aV.of xn,fun t ht=>?_⟩⟩;exact q t _ (kP.trans (ah ht)) af
theorem Bz:aG ["rule","net","homes","stand","beat","letters","goes"] ["rule","net","homes","stand","beat"] (ak HJ):=⟨rfl,rfl,rfl,by decide +kernel,rfl,by decide +kernel,by decide +kernel⟩
def Pn:Sp:=fun vs _ _ _=>vs.length=5/\False
theorem Up{f:Addr}{fd:FuncData}{k:Nat}:bo P w K mg base a7 k f fd ["net","homes","stand","letters","goes"] Pn:=⟨fun _ _ _ _ h=>h.2.elim,fun _ _ _ _ _ _ _ _ _ _ _ _ _ h=>h.2.elim⟩
def wV(C:Addr)(Cs:List Addr)(PN PF PT:Addr):Sp:=fun vs H Q _=>∃ (L:Addr->Prop) (a px ha sa:Addr) (bt:Int) (n:Nat) (ts:Ts) (homes:List Nat) (st:List (Option Nat)),vs=[.ref a,.ref px,.ref ha,.ref sa,.int bt]/\Pl Cs H a/\cy C H L px n ts/\H ha=some (.tup (NV homes))/\H sa=some (.tup (st.map oV))/\ii n ts homes st/\st.length<=16/\0<=bt/\T3 PN PF PT H/\
 ∀ (t:Addr) (H':Hp) (fs:List (Option Nat)),T3 PN PF PT H'->KQ PN PF PT H H'->H t=none->Hd n ts st fs->H' t=some (.tup (fs.map oV))->Q (.ref t) H'
theorem Lk{f C CE CN CF CT CI PN PF PT:Addr}{fd:FuncData}(F:fY K "hand" "hand" HJ f fd)(B:Bl mg)(R:Q6 P w K mg base C CE CN CF CT CI PN PF PT)(HT:cs P w K mg base a7 1 "hand_in_turn" ["net","homes","stand","letters","goes"] Pn)(HE:cs P w K mg base a7 7 "hand_eagerly" ["net","homes","stand","letters","goes"] (Pk C)):
  bo P w K mg base a7 10 f fd ["rule","net","homes","stand","beat"] (wV C [CE,CN,CF,CT] PN PF PT):=by
 obtain⟨f1,d1,m1,b1,G1⟩:=R.oE.ex;obtain⟨f2,d2,m2,b2,G2⟩:=R.oN.ex;obtain⟨f3,d3,m3,b3,G3⟩:=R.oF.ex;obtain⟨f4,d4,m4,b4,G4⟩:=R.oT.ex;refine F.ok Bz (fun vs H Q E h=>?_) (fun dN A outer s H vs Q E hr h=>?_)
 .obtain⟨L,a,px,ha,sa,bt,n,ts,homes,st,rfl,_⟩:=h;rfl
 .obtain⟨L,a,px,ha,sa,bt,n,ts,homes,st,rfl,⟨Ci,da,Uq,hR⟩,N,hH,hS,SG,uN,b0,tb,q⟩:=h;have LO:=SG.let uN;have h1:bQ 1 _:=hr.mono (by decide);have h2:bQ 2 _:=hr.mono (by decide);have h7:bQ 7 _:=hr.mono (by decide);refine'⟨_,(ai (aE (i:=5) Bz.nd rfl (Or.inl rfl) (oX (cR (pv 0) R.e.cl m1 G1 hr b1 .nil aK (aa (pv 1) (aa (pv 2) (aa (pv 3) (aa (pv 4) ag))))) (oX (cR (pv 0) R.n.cl m2 G2 hr b2 .nil aK (aa (pv 1) (aa (pv 2) (aa (pv 3) (aa (pv 4) ag))))) (oX (cR (pv 0) R.f.cl m3 G3 hr b3 .nil aK (aa (pv 1) (aa (pv 2) (aa (pv 3) (aa (pv 4) ag))))) (cR (pv 0) R.t.cl m4 G4 hr b4 .nil aK (aa (pv 1) (aa (pv 2) (aa (pv 3) (aa (pv 4) ag)))))))))
   (ai (dL (i:=6) (g:=(be 0)) (te:=(tC .bV)) (NB:=["home"]) (src:=[none]) (a_ (by kernel_rfl)) rfl (vA (pv 2)) ?g1 ?t1 ?e1 Bz.nd rfl rfl rfl)
   (ai (de (gE (aD DH (by rfl) B.S0 qr (aa (pv 0) (aa (pV (v:=.ref CI) rfl R.mgI rfl) ag)))) (ap (cr (aF HT h1 aK (aa (pv 1) (aa (pv 2) (aa (pv 3) (aa (pv 5) (aa (pv 6) ag)))))))) (ap (cr (aF HE h7 aK (aa (pv 1) (aa (pv 2) (aa (pv 3) (aa (pv 5) (aa (pv 6) ag)))))))))
   (ap (aR (cB dg (by rfl) B.tup o9 (aa (pv 6) ag))))))),?_⟩
  case g1=>exact fun cl C s₃ H₃ fp=>(au (i:=0) Lf rfl (Or.inl rfl) (Or.inr rfl))
  case t1=>exact fun cl C s₃ H₃ fp=>b8
  case e1=>exact fun cl C s₃ H₃ fp=>dF
  refine or4 Uq (A:=fun Ci=>tO Ci (mR C PN PF PT) _ H _) ?_;refine⟨_,rfl,a,da,[],rfl,hR,rfl,_,rfl,_,rfl,_,rfl,_,rfl,L,.ref a,bt,px,ha,sa,n,ts,homes,st,rfl,N,hH,hS,LO,b0,tb,fun la H1 sI t1 k1 la0 op A1=>?_⟩;have kn:=k1.kn tb;have Zw:=kn _ _ hH (fun ps z=>by cases z);have ins:∃dx fs,H px=some (.ins C dx fs):=let ⟨dx,fs,a,_⟩:=N.Lh;⟨dx,fs,a⟩;have N1:cy C H1 (fun b=>H1 b≠none) px n ts:=by
   obtain⟨dx,fs,a⟩:=ins;exact(N.Ud.keep (fun b o l e=>by obtain⟨_,o',e',n⟩:=l;rw[e] at e';cases e';exact kn b o e n) fun o e=>kn _ _ e (by rw[a] at e;cases e;exact fun ps z=>by cases z)).own
  refine⟨_,rfl,ha,rfl,⟨_,bW.of Zw⟩,fun ga hg=>?_⟩;refine yK (K:=K) (a:=ha) (xs:=NV homes) (fun i ys σ H2=>(∃x,σ=[x])/\aA H1 H2/\H2 ga=some (.lst ys)/\ys=List.replicate i V.bV) ⟨⟨_,rfl⟩,ah hg,af,rfl⟩ (fun i ys σ H2 _ z=>bW.of (z.2.1 _ _ Zw)) ?_ ?_
  .rintro i x ys σ H2 Kt Kf hx ⟨⟨x',rfl⟩,sm,QM,rfl⟩ kt kf;have hi:i<homes.length:=by have:=(dO.mp hx).1;rwa [bS] at this
   have:=LO.len;have:=LO.le;exact kt _ _ _ QM (by rw[k7];exact b_ (show i<17 by lia) (by decide)) ⟨⟨_,rfl⟩,bf sm hg,af,by rw[u3]⟩
  rintro ys σ H2 ⟨_,sm,QM,rfl⟩;rw[bS,LO.len,show V.bV=oV none from rfl,<-List.map_replicate] at QM;have M5:=sm _ _ (kn _ _ hR (fun ps z=>by cases z));obtain⟨kt,ty⟩:=R.ty Uq M5;have uL:=sm _ _ (kn _ _ hS (fun ps z=>by cases z));refine⟨_,rfl,.ref a,CI,_,false,rfl,kt,ty,_,rfl,?_⟩;refine lI ⟨_,rfl,_,rfl,_,rfl,_,rfl,_,rfl,fun b=>H1 b≠none,px,ha,sa,la,ga,n,ts,homes,sI,st,_,rfl,N1.same sm,fun z=>z hg,sm _ _ Zw,uL,LO,fun l hl=>op.mem_iff.mp hl,sm _ _ A1,aj A1 hg,QM,by rw[k7],fun H3 s3 hg3=>?_⟩;refine⟨_,rfl,ga,_,rfl,.inl ⟨aV.of hg3,fun t ht=>?_⟩⟩;have k3:∀b o,H1 b=some o->(upd H3 t (.tup ((Uc n ts homes st sI).map oV))) b=some o:=fun b o e=>ah ht _ _ (s3 _ _ (sm _ _ e) (aj e hg));exact q t _ _ (t1.same k3) (fun b o e n1 n2 n3=>k3 _ _ (k1 b o e n1 n2 n3)) (k1.fresh t1 (by cases z:H1 t with|none=>rfl|some o=>(rw[s3 _ _ (sm _ _ z) (aj z hg)] at ht;cases ht))) (Pf SG op).hd af
end
abbrev Po:Stmt:=top 48
abbrev Ll:Stmt:=top 47
abbrev Ew:Stmt:=gf (top 35) 0
def Df:Expr:=match (cn Ll).getD 1 (.Pass ⟨0,0,0,0⟩) with
 |.Return (some (.Call _ (_::_::_::k::_) _ _)) _=>k
 |_=>.Name "x" ⟨0,0,0,0⟩
def yM:Arguments:=match Df with
 |.Lambda a _ _ _=>a
 |_=>{ posonlyargs:=[],args:=[],vararg:=none,kwonlyargs:=[],kw_defaults:=[],kwarg:=none,defaults:=[] }
def yN:Expr:=match Df with
 |.Lambda _ b _ _=>b
 |e=>e
def HZ:Scope:=match Df with
 |.Lambda _ _ s _=>s
 |_=>{ kind:=.function,names:=[],isGenerator:=false,isCoroutine:=false }
def Lm:Pos:=match Df with
 |.Lambda _ _ _ p=>p
 |_=>⟨0,0,0,0⟩
def Ln:Str:=("run":Str)++".<locals>."++"<lambda>"
abbrev tG(Pt:Addr)(H:Hp):Prop:=cC Lm Ln Pt H
abbrev NBW:List Str:=["here","beat","rule","net","homes"]
theorem Pp:CD NBW 2 HZ Ln yM yN:=by
 refine⟨rfl,by decide +kernel,fun bJ pm c sG us hl=>?_,by decide +kernel,fun i x hi hx=>?_,by decide +kernel,rfl,rfl⟩
 .match us,hl with
  |[_,_],_=>rfl
 .match i,hi,hx with
  |2,_,hx=>cases hx;rfl
  |3,_,hx=>cases hx;rfl
  |4,_,hx=>cases hx;rfl
theorem wW{S:Addr->Prop}{h0:Heap}{H:Hp}{b:Addr}{o:HO}(n:∀a,S a->H a=some (ka h0 a))(e:H b=some o)(x:∀p,o≠.ext p):pO S H b=some o:=by
 rw[cD fun z=>by rw[n b z] at e;exact x _ (bh e).symm];exact e
theorem mS{S:Addr->Prop}{H H':Hp}(s:aA H H'):aA (pO S H) (pO S H'):=fun b o e=>by
 by_cases c:S b
 .rw[iL c] at e;cases e
 .rw[cD c] at e |-;exact s b o e
theorem yO{S:Addr->Prop}{h0:Heap}{H:Hp}(n:∀a,S a->H a=none):pO S (h_ S h0 H)=H:=funext fun b=>by
 by_cases c:S b
 .rw[iL c,n b c]
 .rw[cD c,bZ c]
def Nb(st:List (Option Nat)):Bool:=st.any Option.isSome
theorem Lo{st:List (Option Nat)}:Nb st=true↔mV st st.length≠[]:=by
 unfold Nb;rw[ve];constructor
 .rintro⟨x,hx,e⟩ z;obtain⟨i,hi,ei⟩:=u6 hx;have:i∈mV st st.length:=cq.mpr ⟨bK.mpr hi,by rw[bv,cH hi,ei];exact e⟩;rw[z] at this;cases this
 .intro h;obtain⟨i,hi⟩:∃i,i∈mV st st.length:=by
   cases z:mV st st.length with
   |nil=>exact absurd z h
   |cons a l=>exact⟨a,cg⟩
  obtain⟨a,b⟩:=cq.mp hi;have hi:=bK.mp a;rw[bv,cH hi] at b;exact⟨st[i],fV hi,b⟩
theorem Pq{st:List (Option Nat)}:Nb st=!(NV (mV st st.length)).isEmpty:=by
 rw[iA,Lo];cases mV st st.length with
 |nil=>simp
 |cons a l=>simp
structure jp(n:Nat)(ts:Ts)(homes:List Nat)(st:List (Option Nat))(N:Nat)(ss ls:Nat->List (Option Nat)):Prop where
 z:ss 0=st
 hd:∀j,j<N->Hd n ts (ss j) (ls j)
 nx:∀j,j<N->ss (j+1)=pQ homes (ls j)
section
variable {n:Nat} {ts:Ts} {homes:List Nat} {st fs:List (Option Nat)} {N:Nat} {ss ls:Nat->List (Option Nat)}
theorem jp.yP(G:jp n ts homes st N ss ls)(F:bD n ts)(S:ii n ts homes st):∀k,k<=N->ii n ts homes (ss k)/\(ss k).length=st.length
 |0,_=>by rw[G.z];exact⟨S,rfl⟩
 |k+1,h=>by
  obtain⟨a,b⟩:=jp.yP G F S k (by lia);have d:=G.hd k (by lia);rw[G.nx k (by lia)];exact⟨d.next F a,by rw[jo,d.len,b]⟩
theorem jp.snoc(G:jp n ts homes st N ss ls)(d:Hd n ts (ss N) fs):jp n ts homes st (N+1) (fun j=>if j=N+1 then pQ homes fs else ss j) (fun j=>if j=N then fs else ls j):=by
 refine⟨?_,fun j hj=>?_,fun j hj=>?_⟩
 .show (if 0=N+1 then _ else _)=_;rw[if_neg (by lia)];exact G.z
 .show Hd n ts (if j=N+1 then _ else _) (if j=N then _ else _);rw[if_neg (by lia)];by_cases c:j=N
  .rw[am c,c];exact d
  .rw[if_neg c];exact G.hd j (by lia)
 .show (if j+1=N+1 then _ else _)=pQ homes (if j=N then _ else _);by_cases c:j=N
  .rw[am (by lia),am c]
  .rw[if_neg (by lia),if_neg c];exact G.nx j (by lia)
end
theorem cy.kn{C px:Addr}{H H':Hp}{L:Addr->Prop}{n:Nat}{ts:Ts}(N:cy C H L px n ts)(s:KN H H'):∃L',cy C H' L' px n ts:=by
 obtain⟨dx,tl,ol,ds,i0,_⟩:=N.ob;exact⟨_,N.Ud.keep (H':=H') (fun b o l e=>by obtain⟨_,o',e',n⟩:=l;rw[e] at e';cases e';exact s _ _ e n) (fun o e=>s _ _ e (by rw[i0] at e;cases e;intro ps z;cases z))⟩
section
variable {P:Program} {w:World} {K:PySem.W.Frag} {mg:Str->Option Value} {base:Heap}
theorem H_:aG ["homes","stand","most","handed","log"] ["homes","stand","most","handed"] (ak Po):=⟨rfl,rfl,rfl,by decide +kernel,rfl,by decide +kernel,by decide +kernel⟩
def Ib(C:Addr)(Cs:List Addr)(PN PF PT:Addr):Sp:=fun vs H Q _=>∃ (L:Addr->Prop) (a px ha sa f c:Addr) (n:Nat) (ts:Ts) (homes:List Nat) (st:List (Option Nat)) (most:Nat) (cells:List (Str×Addr)) (h0:Heap) (H1:Hp),vs=[.ref ha,.ref sa,.int most,.ref f]/\H=h_ (br cells) h0 H1/\(∀a,br cells a->H1 a=none)/\yv cells h0 H/\ut cells h0 "rule" (.ref a)/\ut cells h0 "net" (.ref px)/\ut cells h0 "homes" (.ref ha)/\Pl Cs H1 a/\cy C H1 L px n ts/\H1 ha=some (.tup (NV homes))/\H1 sa=some (.tup (st.map oV))/\ii n ts homes st/\st.length<=16/\most<=500/\T3 PN PF PT H1/\H1 f=some (mn f Ln yM yN HZ cells c)/\H1 c=some (j6 c Ln)/\
 ∀ (r:Addr) (N:Nat) (as:List Addr) (ss ls:Nat->List (Option Nat)) (H':Hp),jp n ts homes st N ss ls->N<=most->(N<most->Nb (ss N)=false)->T3 PN PF PT (pO (br cells) H')->KQ PN PF PT H H'->(∀a,br cells a->H' a=some (ka h0 a))->H r=none->H' r=some (.lst (as.map V.ref))->Holds H' as N (fun k=>.tup ((ls k).map oV))->Q (.ref r) H'
theorem Ps{f C PN PF PT:Addr}{Cs:List Addr}{fd:FuncData}(F:fY K "log_by" "log_by" Po f fd)(B:Bl mg)(UW:cs P w K mg base a7 1 "under_way" ["stand"] Bw)(SB:cs P w K mg base a7 1 "stand_behind" ["homes","handing"] HY)(WH:cs P w K mg base a7 10 "hand" ["rule","net","homes","stand","beat"] (wV C Cs PN PF PT)):bo P w K mg base a7 12 f fd ["homes","stand","most","handed"] (Ib C Cs PN PF PT):=by
 refine F.ok H_ (fun vs H Q E h=>?_) (fun dN A outer s H vs Q E hr h=>?_)
 .obtain⟨L,a,px,ha,sa,f',c,n,ts,homes,st,most,cells,h0,H1,rfl,_⟩:=h;rfl
 .obtain⟨L,a,px,ha,sa,f',c,n,ts,homes,st,most,cells,h0,H1,rfl,rfl,nS,LE,ca,cb,ch,hA,NA,hH,hS,SG,uN,Ur,tb,hf,hc,q⟩:=h;have FN:=NA.iK;have h1:bQ 1 _:=hr.mono (by decide);have nP:∀ {P},P=PN\/P=PF\/P=PT->¬ br cells P:=fun {P} h z=>by
   obtain⟨x,hx⟩:=tb.n.gQ;obtain⟨y,hy⟩:=tb.f.gQ;obtain⟨u,hu⟩:=tb.t.gQ;rcases h with rfl|rfl|rfl
   .rw[nS _ z] at hx;cases hx
   .rw[nS _ z] at hy;cases hy
   .rw[nS _ z] at hu;cases hu
  have inj:aA H1 (h_ (br cells) h0 H1):=fun b o e=>by rw[bZ fun z=>by rw[nS b z] at e;cases e];exact e
  refine⟨_,(ai (aE (i:=4) H_.nd rfl (Or.inl rfl) (cf ag))
   (ai (q_ eI (PW.pt (nV (aQ jZ (aD aO (by rfl) B.len dU (aa (pv 4) ag)) (pv 2) (aS _)) (md (Fh (aF UW h1 aK (aa (pv 1) ag)) (fun _=>rfl))))) (ai (cr (gK gH jv ju cM (pv 4) (aa (Ke (te:=iR (wV C Cs PN PF PT) [] E0 (aZ (aB 2) (aZ (aB 3) (aZ (aB 4) (aZ (aB 0) (aZ (aB 1) fg)))))) (i:=3) hr rfl Pp (pv 3) (aa (pv 1) (aa (aD aO (by rfl) B.len dU (aa (pv 4) ag)) ag)) (fun f bJ c s H=>aF WH (hr.deeper _) aK (aa (pv 2) (aa (pv 3) (aa (pv 4) (aa (pv 0) (aa (pv 1) ag))))))) ag)))
    (ap (aE (i:=1) H_.nd rfl (Or.inl rfl) (aF SB h1 aK (aa (pv 0) (aa (aL aJ (pv 4) (BL vC aq) (fun _ _=>rfl)) ag)))))))
   (ap (aR (pv 4))))),?_⟩
  refine⟨by show 0<=sizeLine;decide,fun LG Ic=>?_⟩;have s0:=ah (o:=.lst []) Ic;have ab6:H1 LG=none:=inj.free Ic;have nLS:¬ br cells LG:=fun z=>by rw[mB z] at Ic;cases Ic
  have kx:∀ {H2:Hp},KQ PN PF PT (h_ (br cells) h0 H1) H2->∀a,br cells a->H2 a=some (ka h0 a):=fun s2 a z=>s2 _ _ (mB z) (fun e=>nP (.inl e) z) (fun e=>nP (.inr (.inl e)) z) (fun e=>nP (.inr (.inr e)) z);have k1:∀ {H2:Hp} {b:Addr} {o:HO},KQ PN PF PT (h_ (br cells) h0 H1) H2->H1 b=some o->Dc o->H2 b=some o:=fun s2 e n=>s2 _ _ (inj _ _ e) (tb.n.not e n) (tb.f.not e n) (tb.t.not e n);refine⟨fun m σ H2=>∃ (k:Nat) (EE:Addr) (as:List Addr) (ss ls:Nat->List (Option Nat)),m=most-k/\σ=[some (.ref ha),some (.ref EE),some (.int most),some (.ref f'),some (.ref LG)]/\KQ PN PF PT (h_ (br cells) h0 H1) H2/\T3 PN PF PT (pO (br cells) H2)/\H2 LG=some (.lst (as.map V.ref))/\Holds H2 as k (fun k=>.tup ((ls k).map oV))/\H2 EE=some (.tup ((ss k).map oV))/\jp n ts homes st k ss ls/\k<=most,⟨_,0,sa,[],fun _=>st,fun _=>st,rfl,rfl,KQ.of s0,?_,af,Holds.nil,s0 _ _ (inj _ _ hS),⟨rfl,fun j hj=>absurd hj (jH _),fun j hj=>absurd hj (jH _)⟩,cu _⟩,?_⟩
  .have hz:=mS (S:=br cells) s0;rw[yO nS] at hz;exact tb.same hz
  rintro m σ H2 ⟨k,EE,as,ss,ls,rfl,rfl,s2,t2,SI,Zx,uL,G,Us⟩;obtain⟨SGk,lk⟩:=G.yP FN SG k (aT _);refine⟨_,rfl,LG,_,rfl,.inl (aV.of SI),_,rfl,_,_,rfl,rfl,_,rfl,?_⟩;rw[aI,Zx.1];have stop:(k<most->Nb (ss k)=false)->∀H3,aA H2 H3->Q (.ref LG) H3:=fun h H3 s3=>q LG k as ss ls H3 G Us h (t2.same (mS s3)) (s2.trans (KQ.of s3)) (kx (s2.trans (KQ.of s3))) Ic (s3 _ _ SI) (Zx.mono fun j _ e=>s3 _ _ e);refine eA (fun e=>?_) (fun e=>⟨_,rfl,stop (fun z=>absurd (cZ (show ((k:Nat):Int)<(most:Int) by lia)) e) H2 (aA.refl _)⟩);have hkm:k<most:=by have:=dk e;lia
  refine⟨_,rfl,EE,ss k,rfl,uL,by rw[lk];exact uN,fun r H3 s3 nr ED=>⟨Nb (ss k),.inl ⟨_,aV.of ED,Pq⟩,?_⟩⟩;by_cases lv:Nb (ss k)=true
  rotate_left
  .rw[Bool.not_eq_true] at lv;rw[lv];exact uv ⟨_,rfl,stop (fun _=>lv) H3 s3⟩
  rw[lv];refine rW ⟨_,fun σ' H' z=>z,?_⟩;have Q7:=s2.trans (KQ.of s3);have t3:=t2.same (mS (S:=br cells) s3);have IT:=s3 _ _ SI;have Zy:Holds H3 as k (fun k=>.tup ((ls k).map oV)):=Zx.mono fun j _ e=>s3 _ _ e;have nk:=kx Q7;have su:KN H1 (pO (br cells) H3):=fun b o e n=>by rw[cD fun z=>by rw[nS b z] at e;cases e];exact k1 Q7 e n
  refine⟨_,rfl,.inl ⟨rfl,_,aV.of IT⟩,f',rfl,⟨cells,c,k1 Q7 hf (by intro ps z;cases z)⟩,_,rfl,_,rfl,LG,_,rfl,.inl (aV.of IT),?_⟩;refine⟨cells,c,h0,[.ref a,.ref px,.ref ha],k1 Q7 hf (by intro ps z;cases z),k1 Q7 hc (by intro ps z;cases z),rfl,rfl,LE.mono (fun a z _=>nk a z),fun i x v h1 h2=>?_,?_⟩
  .match i,h1,h2 with
   |0,h1,h2=>cases h1;cases h2;exact ca
   |1,h1,h2=>cases h1;cases h2;exact cb
   |2,h1,h2=>cases h1;cases h2;exact ch
  obtain⟨L3,N3⟩:=NA.kn su;refine⟨_,rfl,_,rfl,_,rfl,_,rfl,_,rfl,L3,a,px,ha,EE,_,n,ts,homes,_,rfl,hA.kn su,N3,su _ _ hH (by intro ps z;cases z),wW nk (s3 _ _ uL) (by intro p z;cases z),SGk,by rw[lk];exact uN,?_,t3,fun t H4 fs t4 s4 nt hd ht n4=>?_⟩
  .lia
  have s5:KQ PN PF PT H3 (h_ (br cells) h0 H4):=fun b o e n1 n2 n3=>by
   by_cases c:br cells b
   .rw[mB c,<-e,nk b c]
   .rw[bZ c];exact s4 b o (by rw[cD c];exact e) n1 n2 n3
  have Wz:h_ (br cells) h0 H4 t=some (.tup (fs.map oV)):=by rw[bZ fun z=>by rw[n4 t z] at ht;cases ht];exact ht
  have t5:T3 PN PF PT (pO (br cells) (h_ (br cells) h0 H4)):=by rw[yO n4];exact t4
  generalize h_ (br cells) h0 H4=H5 at *;have k5:∀ {b:Addr} {o:HO},H3 b=some o->Dc o->H5 b=some o:=fun {b o} e n=>by
   by_cases c:br cells b
   .exact s5 _ _ e (fun z=>nP (.inl z) c) (fun z=>nP (.inr (.inl z)) c) (fun z=>nP (.inr (.inr z)) c)
   .have e':pO (br cells) H3 b=some o:=by rw[cD c];exact e
    exact s5 _ _ e (t3.n.not e' n) (t3.f.not e' n) (t3.t.not e' n)
  have Nd:=k5 IT (by intro ps z;cases z);have s25:=Q7.trans s5;refine⟨LG,_,_,rfl,rfl,Nd,by rw[aI,Zy.1];exact b_ (show k<501 by lia) (by decide),?_⟩;have VI:∀ {b xs},H5 b=some (.tup xs)->b≠LG:=fun {b xs} e=>by rintro rfl;rw[Nd] at e;cases e
  have kp:∀ {b xs o},H5 b=some (.tup xs)->(upd H5 LG o) b=some (.tup xs):=fun {b xs o} e=>by rw[ao (VI e)];exact e
  have IG:Holds (upd H5 LG (.lst (as.map V.ref++[.ref t]))) (as++[t]) (k+1) (fun j=>.tup (((fun j=>if j=k then fs else ls j) j).map oV)):=by
   refine Holds.snoc ⟨Zy.1,fun j hj=>?_⟩ ?_
   .show _=some (HO.tup ((if j=k then fs else ls j).map oV));rw[if_neg (by lia)];exact kp (k5 (Zy.2 j hj) (by intro ps z;cases z))
   .show _=some (HO.tup ((if k=k then fs else ls k).map oV));rw[am rfl];exact kp Wz
  have s26:KQ PN PF PT (h_ (br cells) h0 H1) (upd H5 LG (.lst (as.map V.ref++[.ref t]))):=fun b o e n1 n2 n3=>by rw[ao (aj e Ic)];exact s25 b o e n1 n2 n3
  have t6:T3 PN PF PT (pO (br cells) (upd H5 LG (.lst (as.map V.ref++[.ref t])))):=by
   have hu:pO (br cells) H5 LG=some (.lst (as.map V.ref)):=by rw[cD nLS];exact Nd
   have e:pO (br cells) (upd H5 LG (.lst (as.map V.ref++[.ref t])))=upd (pO (br cells) H5) LG (.lst (as.map V.ref++[.ref t])):=funext fun b=>by
    by_cases c:br cells b
    .rw[iL c,ao (by rintro rfl;exact nLS c),iL c]
    .rw[cD c];by_cases d:b=LG
     .subst d;rw[af,af]
     .rw[ao d,ao d,cD c]
   rw[e];exact t5.putL hu
  have ht6:=kp (o:=.lst (as.map V.ref++[.ref t])) Wz;have hL6:(upd H5 LG (.lst (as.map V.ref++[.ref t]))) LG=some (.lst ((as++[t]).map V.ref)):=by rw[af,bT];rfl
  generalize upd H5 LG _=H6 at *;have hl:fs.length=st.length:=by rw[hd.len,lk]
  refine⟨_,rfl,_,rfl,_,rfl,LG,_,_,_,rfl,rfl,aV.of hL6,by rw[bT];exact re _ _,ha,t,homes,_,rfl,k1 s26 hH (by intro ps z;cases z),ht6,by rw[hl];exact SG.len,by rw[hl];exact uN,fun t' H7 s7 Yl=>?_⟩;refine⟨most-(k+1),by lia,k+1,t',as++[t],_,_,rfl,rfl,s26.trans (KQ.of s7),t6.same (mS s7),s7 _ _ hL6,IG.mono fun j _ e=>s7 _ _ e,?_,G.snoc hd,by lia⟩;show _=some (HO.tup ((if k+1=k+1 then pQ homes fs else ss (k+1)).map oV));rw[am rfl];exact Yl
theorem Ut:aG ["self","homes"] ["self","homes"] (ak Ew):=⟨rfl,rfl,rfl,by decide +kernel,rfl,by decide +kernel,by decide +kernel⟩
theorem wX{f:Addr}{fd:FuncData}(F:fY K "check_letters" "Rule.check_letters" Ew f fd):bo P w K mg base a7 1 f fd ["self","homes"] uM:=by
 refine F.ok Ut (fun vs H Q E h=>?_) (fun dN A outer s H vs Q E hr h=>?_)
 .obtain⟨x,y,rfl,_⟩:=h;rfl
 .obtain⟨x,y,rfl,q⟩:=h;exact⟨_,ap I_,q⟩
theorem Uu:aG ["rule","net","homes","stand","most"] ["rule","net","homes","stand","most"] (ak Ll):=⟨rfl,rfl,rfl,by decide +kernel,rfl,by decide +kernel,by decide +kernel⟩
abbrev tCk(Ci:Addr):TE:=xE Ci "check_letters" uM [] E0 (aB 0) (aZ (aB 2) fg)
def Ie(C:Addr)(Cs:List Addr)(PN PF PT Pr:Addr):Sp:=fun vs H Q _=>∃ (L:Addr->Prop) (a px ha sa:Addr) (n:Nat) (ts:Ts) (homes:List Nat) (st:List (Option Nat)) (most:Nat),vs=[.ref a,.ref px,.ref ha,.ref sa,.int most]/\Pl Cs H a/\cy C H L px n ts/\H ha=some (.tup (NV homes))/\H sa=some (.tup (st.map oV))/\ii n ts homes st/\st.length<=16/\most<=500/\T3 PN PF PT H/\tG Pr H/\
 ∀ (r:Addr) (N:Nat) (as:List Addr) (ss ls:Nat->List (Option Nat)) (H':Hp),jp n ts homes st N ss ls->N<=most->(N<most->Nb (ss N)=false)->T3 PN PF PT H'->tG Pr H'->(∀b o,H b=some o->b≠PN->b≠PF->b≠PT->b≠Pr->H' b=some o)->H' r=some (.lst (as.map V.ref))->Holds H' as N (fun k=>.tup ((ls k).map oV))->Q (.ref r) H'
theorem Pu{f c C CE CN CF CT CI PN PF PT Pr:Addr}{fd:FuncData}(F:pJ K "run" "run" Ll f fd c)(kb:K.In base)(hb:oq mg base)(hc:PySem.W.codeHdIn K c Pr=true)(Lp:PN≠Pr/\PF≠Pr/\PT≠Pr)(R:Q6 P w K mg base C CE CN CF CT CI PN PF PT)(LB:cs P w K mg base a7 12 "log_by" ["homes","stand","most","handed"] (Ib C [CE,CN,CF,CT] PN PF PT)):bo P w K mg base a7 13 f fd ["rule","net","homes","stand","most"] (Ie C [CE,CN,CF,CT] PN PF PT Pr):=by
 obtain⟨f1,d1,m1,b1,G1⟩:=R.cE.ex;obtain⟨f2,d2,m2,b2,G2⟩:=R.cN.ex;obtain⟨f3,d3,m3,b3,G3⟩:=R.cF.ex;obtain⟨f4,d4,m4,b4,G4⟩:=R.cT.ex;refine F.ok Uu (fun vs H Q E h=>?_) (fun A outer s H vs Q E hr h=>?_)
 .obtain⟨L,a,px,ha,sa,n,ts,homes,st,most,rfl,_⟩:=h;rfl
 .obtain⟨L,a,px,ha,sa,n,ts,homes,st,most,rfl,⟨Ci,da,Uq,hA⟩,NA,hH,hS,SG,uN,Ur,tn,tb,q⟩:=h;have h1:bQ 1 _:=hr.mono (by decide);refine⟨_,ai (cr (oX (cR (pv 0) R.e.cl m1 G1 h1 b1 .nil aK (aa (pv 2) ag)) (oX (cR (pv 0) R.n.cl m2 G2 h1 b2 .nil aK (aa (pv 2) ag)) (oX (cR (pv 0) R.f.cl m3 G3 h1 b3 .nil aK (aa (pv 2) ag)) (cR (pv 0) R.t.cl m4 G4 h1 b4 .nil aK (aa (pv 2) ag)))))) (ap (aR (Kc LB hr rfl rfl (aa (pv 2) (aa (pv 3) (aa (pv 4) (aa (rA (NB:=["here","beat","rule","net","homes"]) (src:=[none,none,some 0,some 1,some 2]) (mq kb hb hc) (a_ (by kernel_rfl))) ag))))))),?_⟩;refine or4 Uq (A:=fun Ci=>tCk Ci _ H _) ?_;refine⟨_,rfl,a,da,[],rfl,hA,rfl,_,rfl,_,_,rfl,?_⟩;refine⟨_,rfl,_,rfl,_,rfl,tb,fun f' c' H2 Yn hW Af vR nS h0 LE cv=>?_⟩;have t2:tG Pr H2:=Yn;have kn:KN H H2:=fun b o e n=>hW _ _ e (tb.not e n);have WA:T3 PN PF PT H2:=⟨cC.mQ tn.n hW tb.gQ Lp.1,cC.mQ tn.f hW tb.gQ Lp.2.1,cC.mQ tn.t hW tb.gQ Lp.2.2⟩
  obtain⟨L2,N2⟩:=NA.kn kn;refine⟨L2,a,px,ha,sa,f',c',n,ts,homes,st,most,_,h0,H2,rfl,rfl,nS,LE,cv 0 "rule" _ rfl rfl rfl,cv 1 "net" _ rfl rfl rfl,cv 2 "homes" _ rfl rfl rfl,⟨Ci,da,Uq,kn _ _ hA (by intro ps z;cases z)⟩,N2,kn _ _ hH (by intro ps z;cases z),kn _ _ hS (by intro ps z;cases z),SG,uN,Ur,WA,vR,Af,fun r N as ss ls H' G nm nl tn' s' nk nr fQ Ae=>?_⟩;have su:KQ PN PF PT H2 (pO (br _) H'):=fun b o e n1 n2 n3=>by
   have c:¬ br _ b:=fun z=>by rw[nS b z] at e;cases e
   rw[cD c];exact s' b o (by rw[bZ c];exact e) n1 n2 n3
  refine⟨nk,q r N as ss ls _ G nm nl tn' ?_ (fun b o e n1 n2 n3 n4=>su _ _ (hW b o e n4) n1 n2 n3) (wW nk fQ (by intro p z;cases z)) (Ae.mono fun j _ e=>wW nk e (by intro p z;cases z))⟩;rcases t2 with z|⟨c2,z,y⟩
  .exact .inl (su _ _ z Lp.1.symm Lp.2.1.symm Lp.2.2.symm)
  .exact .inr ⟨c2,su _ _ z Lp.1.symm Lp.2.1.symm Lp.2.2.symm,su _ _ y (WA.n.not y (by intro ps w;cases w)) (WA.f.not y (by intro ps w;cases w)) (WA.t.not y (by intro ps w;cases w))⟩
end
abbrev Uv:Stmt:=top 56
abbrev Zz:Stmt:=top 63
theorem iY:(["_law_one","_law_other","_law_far"]:List Str).Nodup:=by decide +kernel
theorem qm{β:Type}{K:PySem.W.Frag}{a D:Addr}{g:TG}{tt:TT}{te:TE}{dE:Hp->Prop}{σB:St}{H0:Hp}(ms:List β)(e G:β->V)(c:β->Bool)(bU:St->Prop)(ha:H0 a=some (.lst (ms.map e)))(hD:H0 D=none)(hn:ms.length<=1000)(h0:bU σB)(hs:∀m σ H (Kt:V->St->Hp->Prop) (Kf:St->Hp->Prop),m∈ms->bU σ->aA H0 H->(∀σ2 H2,bU σ2->aA H H2->c m=true->Kt (G m) σ2 H2)->(∀σ2 H2,bU σ2->aA H H2->c m=false->Kf σ2 H2)->
   g (e m) σ H fun σ2 H2=>tt σ2 H2 fun b H3=>if b=true then te σ2 H3 fun v H4=>Kt v σ2 H4 else Kf σ2 H3)(hd:∀H,aA H0 H->H D=some (.lst ((ms.filter c).map G))->dE H):gu (Dr K a) g tt te D dE σB (upd H0 D (.lst [])):=by
 refine cP (xs:=ms.map e) (fun i ys σ H=>bU σ/\aA H0 H/\H D=some (.lst ys)/\ys=((ms.take i).filter c).map G) ⟨h0,ah hD,af,rfl⟩ (fun i ys σ H _ z=>aV.of (z.2.1 _ _ ha)) ?_ ?_
 .rintro i x ys σ H Kt Kf hx ⟨sh,sm,ir,rfl⟩ kt kf;rw[bX] at hx;cases hz:ms[i]? with
  |none=>rw[hz] at hx;cases hx
  |some m=>
   rw[hz] at hx;obtain rfl:e m=x:=bh hx;have tk:ms.take (i+1)=ms.take i++[m]:=by rw[eZ,hz];rfl
   refine hs m σ H Kt Kf (cI hz) sh sm (fun σ2 H2 tm s2 e=>?_) (fun σ2 H2 tm s2 e=>?_)
   .refine kt _ _ _ (s2 _ _ ir) ?_ ⟨tm,bf (sm.trans s2) hD,af,?_⟩
    .rw[aI];exact eY (fh _ _) (eY (zq _ _) (eY hn (by decide)))
    .rw[tk,eN,bT];simp[dS,e]
   .refine kf _ _ ⟨tm,sm.trans s2,s2 _ _ ir,?_⟩;rw[tk,eN];simp[dS,e]
 .rintro ys σ H ⟨_,sm,ir,rfl⟩;rw[aI,gh] at ir;exact hd H sm ir
section
variable {P:Program} {w:World} {K:PySem.W.Frag} {mg:Str->Option Value} {base:Heap}
theorem oY:aG ["_law_pot_here","_law_way","_law_many","_law_pairs","_law_other"] ["_law_pot_here"] (ak Uv):=⟨rfl,rfl,rfl,by decide +kernel,rfl,by decide +kernel,by decide +kernel⟩
def Pw:Sp:=fun vs H Q _=>∃ (p:Addr),vs=[.ref p]/\bn H p/\∀ (r L:Addr) (n:Nat) (zs:Zs) (H':Hp),aH p H H'->bn H' p->H' r=some (.tup [.int n,.ref L])->H L=none->H' L=some (.lst (zr zs))->PO H' zs->bD n (zp zs)->(∀ {a b},gw.T (zp zs) a b->gw.T (zp zs) b a)->zs.length<=400->Q (.ref r) H'
theorem Uw{f:Addr}{fd:FuncData}(F:fY K "_law_two_way" "_law_two_way" Uv f fd)(B:Bl mg)(T:cs P w K mg base a7 1 "_law_take" ["_law_pot_here","_law_many"] jj)(SD:cs P w K mg base a7 2 "_law_sides" ["_law_pot_here"] wA)(BX:cs P w K mg base a7 1 "_law_box_pairs" ["_law_sides_here"] G_)(TR:cs P w K mg base a7 2 "_law_tree_pairs" ["_law_pot_here","_law_many"] Bo)(MO:cs P w K mg base a7 2 "_law_more_pairs" ["_law_pot_here","_law_many","_law_pairs"] Bp):bo P w K mg base a7 4 f fd ["_law_pot_here"] Pw:=by
 refine F.ok oY (fun vs H Q E h=>?_) (fun dN A outer s H vs Q E hr h=>?_)
 .obtain⟨p,rfl,_⟩:=h;rfl
 .obtain⟨p,rfl,hp,q⟩:=h;have rY:bQ 1 (A.deeper (PyProof.Rows.envOfC "_law_two_way" (ak Uv) s.heap.objs.size f dN)):=hr.mono (by decide);have Lr:bQ 2 (A.deeper (PyProof.Rows.envOfC "_law_two_way" (ak Uv) s.heap.objs.size f dN)):=hr.mono (by decide);refine'⟨_,ai (aE (i:=1) oY.nd rfl (Or.inl rfl) (aF T rY aK (aa (pv 0) (aa aq ag))))
   (ai (aE (i:=2) oY.nd rfl (Or.inl rfl) (aP cx aq (aF T rY aK (aa (pv 0) (aa aq ag)))))
   (ai (aE (i:=3) oY.nd rfl (Or.inl rfl) (aF TR Lr aK (aa (pv 0) (aa (pv 2) ag))))
   (ai (de (aQ gn (pv 1) aq (aS _)) (ap (aE (i:=3) oY.nd rfl (Or.inl rfl) (aF MO Lr aK (aa (pv 0) (aa (pv 2) (aa (pv 3) ag)))))) bE)
   (ai (de (aQ gn (pv 1) aq (aS _)) (ai (aE (i:=2) oY.nd rfl (Or.inl rfl) (aD (kC rfl) (by rfl) B.max uV (aa aq (aa (pv 2) ag)))) (ap (aE (i:=3) oY.nd rfl (Or.inl rfl) (aP je ?c1 (cf (aa (eK (aa aq (aa (aP iH (pv 2) aq) ag))) ag)))))) bE)
   (ai (de (aQ gn (pv 1) aq (aS _)) (ai (aE (i:=2) oY.nd rfl (Or.inl rfl) (aP cx aq (aP gc (pv 2) aq))) (ai (aE (i:=3) oY.nd rfl (Or.inl rfl) (cf ag)) (ap (dH eI rfl (bq rfl B.range (aa (pv 2) ag)) (au (i:=4) oY.nd rfl (Or.inr rfl)) (ap (aE (i:=3) oY.nd rfl (Or.inl rfl) (aP je (pv 3) ?c2))))))) bE)
   (ai (de (aQ tX (pv 1) (eK (aa aq (aa aq ag))) (by rfl)) (ap (gb (aF BX rY aK (aa (aF SD Lr aK (aa (pv 0) ag)) ag)) (fv (n:=2) rfl (bb (au (i:=2) oY.nd rfl (Or.inl rfl)) (bb (au (i:=3) oY.nd rfl (Or.inl rfl)) dG))))) bE)
   (ap (aR (eK (aa (pv 2) (aa (aD rN (by rfl) B.sorted o5 (aa (aP je (pv 3) ?c3) ag)) ag))))))))))),?_⟩
  case c1=>
   refine' bz (g:=be 0) (te:=xC (aZ (aB 0) (aZ (eU (rb fun i j=>.int (i+j)) (aB 0) (tC (.int 1))) fg))) (NB:=["_law_house"]) (src:=[none]) (a_ (by kernel_rfl)) rfl (bq rfl B.range (aa (aP iH (pv 2) aq) ag)) ?g ?t ?e;case g=>exact fun cl C s₃ H₃ fp=>au (i:=0) Y0 rfl (Or.inl rfl) (Or.inr rfl)
   case t=>exact fun cl C s₃ H₃ fp=>b8
   case e=>exact fun cl C s₃ H₃ fp=>eK (aa (pv 0) (aa (aP cx (pv 0) aq) ag))
  case c2=>
   refine' bz (g:=be 0) (te:=xC (aZ (aB 0) (aZ (aB 1) fg))) (NB:=["_law_one","_law_other"]) (src:=[none,some 4]) (a_ (by kernel_rfl)) rfl (bq rfl B.range (aa (pv 4) ag)) ?g ?t ?e;case g=>exact fun cl C s₃ H₃ fp=>au (i:=0) OX rfl (Or.inl rfl) (Or.inr rfl)
   case t=>exact fun cl C s₃ H₃ fp=>b8
   case e=>exact fun cl C s₃ H₃ fp=>eK (aa (pv 0) (aa (pv 1) ag))
  case c3=>
   refine' bz (g:=q9 K 2 (eO (be 0) (eO (be 1) q8))) (te:=xC (aZ (aB 1) (aZ (aB 0) fg))) (NB:=["_law_one","_law_other"]) (src:=[none,none]) (a_ (by kernel_rfl)) rfl (bA (pv 3)) ?g ?t ?e;case g=>exact fun cl C s₃ H₃ fp=>fv (n:=2) rfl (bb (au (i:=0) OX rfl (Or.inl rfl) (Or.inr rfl)) (bb (au (i:=1) OX rfl (Or.inl rfl) (Or.inr rfl)) dG))
   case t=>exact fun cl C s₃ H₃ fp=>b8
   case e=>exact fun cl C s₃ H₃ fp=>eK (aa (pv 1) (aa (pv 0) ag))
  refine⟨_,rfl,p,_,rfl,by decide,by decide,hp,fun Ig H1 w0 w7 Tv QT=>?_⟩;refine⟨_,rfl,p,_,rfl,by decide,by decide,QT,fun d H2 d0 d31 yG Ea=>⟨_,_,rfl,rfl,?_⟩⟩;have y7:=Tv.trans yG;dsimp only[be];generalize hn:(2:Int)+d=n;have n2:2<=n:=by lia
  have QS:n<=32:=by lia
  clear hn d0 d31;obtain⟨n,rfl⟩:∃k:Nat,n=(k:Int):=⟨n.toNat,by lia⟩
  refine⟨_,rfl,_,rfl,p,n,rfl,by lia,by lia,Ea,fun L zs H3 uC KW hL IT qg ZA Ux WB=>?_⟩;have v_:H L=none:=y7.free Ea.full hL;have C0:L≠p:=hp.ne v_;dsimp only[be];refine rV (fun σ Hc=>∃ (L:Addr) (n:Nat) (zs:Zs) (v4:Option V),σ=[some (.ref p),some (.int Ig),some (.int n),some (.ref L),v4]/\Br p H L n zs Hc) ?_ ?_
  rotate_left
  .intro N nN;refine Bd (fun Hk=>H3=Hk) (fun Hk=>H3=Hk) ?_ ?_ ?_
   .rintro _ rfl;refine⟨_,rfl,_,rfl,_,rfl,p,L,n,zs,rfl,KW,IT,qg,ZA,Ux,WB,by lia,by lia,fun L4 zs4 H4 G8 WC Uy ZB sJ pr4 zl4=>?_⟩;exact nN _ _ ⟨L4,n,zs4,_,rfl,(y7.trans uC).trans G8,WC,(y7.trans uC).free KW.full Uy,ZB,sJ,pr4,by lia⟩
   .rintro _ rfl;exact nN _ _ ⟨L,n,zs,_,rfl,y7.trans uC,KW,v_,IT,qg,ZA,by lia⟩
   .intro Y N' yy nn;exact⟨_,rfl,rfl,_,rfl,eA (fun e=>yy _ rfl) (fun e=>nn _ rfl)⟩
  clear v_ C0 WB Ux ZA qg IT hL KW uC n2 QS;rintro σ Hc ⟨L,n,zs,v4,rfl,g⟩;refine rV (fun σ Hc=>∃ (L:Addr) (n:Nat) (zs:Zs) (v4:Option V),σ=[some (.ref p),some (.int Ig),some (.int n),some (.ref L),v4]/\Br p H L n zs Hc) ?_ ?_
  rotate_left
  .intro N nN;refine Bd (fun Hk=>Hc=Hk) (fun Hk=>Hc=Hk) ?_ ?_ ?_
   .rintro _ rfl;refine⟨_,rfl,_,_,rfl,?_⟩;have m3:3<=(if (n:Int) > 3 then (n:Int) else 3):=by split <;> lia
    have m32:(if (n:Int) > 3 then (n:Int) else 3)<=32:=by have:=g.fi.n2;split <;> lia
    revert m3 m32;generalize (if (n:Int) > 3 then (n:Int) else (3:Int))=m;intro m3 m32;obtain⟨m,rfl⟩:∃k:Nat,m=(k:Int):=⟨m.toNat,by lia⟩
    refine⟨_,rfl,_,_,rfl,rfl,_,rfl,by lia,by lia,fun D hD=>?_⟩;refine oO (lo:=0) (fun h=>((h:Int),(h:Int)+1)) (fun σ=>∃u,σ=[u]) hD (by lia) ⟨_,rfl⟩ ?_ ?_
    .rintro j σ H4 R Kf hj ⟨u,rfl⟩ eS kt;rw[fm];exact⟨_,rfl,_,rfl,_,_,rfl,rfl,by show 2<=sizeLine;decide,fun t ht=>kt _ t ⟨_,rfl⟩ ht⟩
    .rintro tw H4 eS kO sJ ez;have xI:tw.length=((m:Int)-1).toNat:=by rw[<-bR,ez,aI,dq]
     refine⟨_,rfl,_,_,rfl,rfl,by show 2<=sizeLine;decide,fun t ht=>⟨by show 1<=sizeLine;decide,fun D2 hX=>?_⟩⟩;refine⟨D,D2,_,_,rfl,rfl,ah hX _ _ (ah ht _ _ kO),af,by rw[cY];exact a9 (show _<=100 by simp;lia) (by decide),fun r fQ=>?_⟩;have kP:aA Hc (upd (upd (upd H4 t (.tup [.int 0,.int (m-1)])) D2 (.lst [.ref t])) r (.lst (zr tw++[.ref t]))):=((eS.trans (ah ht)).trans (ah hX)).trans (ah fQ);have KS:PO (upd (upd (upd H4 t (.tup [.int 0,.int (m-1)])) D2 (.lst [.ref t])) r (.lst (zr tw++[.ref t]))) (tw++[(t,(0,(m:Int)-1))]):=(((sJ.putN ht).append (PO.one af)).putN hX).putN fQ;refine nN _ _ ⟨r,m,tw++[(t,(0,(m:Int)-1))],_,rfl,g.se.trans (aH.of kP),g.pt.same kP,g.se.free g.pt.full (((eS.trans (ah ht)).trans (ah hX)).free fQ),by rw[dB];exact af,KS,by rw[cG,ez];rw[show ((m:Int)-1).toNat=m-1 by lia];exact Bm (by lia) (by lia),by rw[ce];simp;lia⟩
   .rintro _ rfl;exact nN _ _ ⟨L,n,zs,v4,rfl,g⟩
   .intro Y N' yy nn;exact⟨_,rfl,rfl,_,rfl,eA (fun e=>yy _ rfl) (fun e=>nn _ rfl)⟩
  clear g;rintro σ Hc ⟨L,n,zs,v4,rfl,g⟩;refine rV (fun σ Hc=>∃ (L:Addr) (n:Nat) (zs:Zs) (v4:Option V),σ=[some (.ref p),some (.int Ig),some (.int n),some (.ref L),v4]/\Br p H L n zs Hc) ?_ ?_
  rotate_left
  .intro N nN;refine Bd (fun Hk=>Hc=Hk) (fun Hk=>Hc=Hk) ?_ ?_ ?_
   .rintro _ rfl;refine⟨_,rfl,_,_,rfl,rfl,by show (0:Int)<8;decide,_,_,rfl,rfl,?_⟩;have m2:2<=(2:Int)+(n:Int) % 8:=by have:=i7 (n:Int) (show (8:Int)≠0 by decide);lia
    have m9:(2:Int)+(n:Int) % 8<=9:=by have:=l5 (n:Int) (show (0:Int)<8 by decide);lia
    dsimp only;revert m2 m9;generalize (2:Int)+(n:Int) % 8=m;intro m2 m9;obtain⟨m,rfl⟩:∃k:Nat,m=(k:Int):=⟨m.toNat,by lia⟩
    refine⟨by show 0<=sizeLine;decide,fun D0 IK=>?_⟩;refine⟨_,rfl,m,rfl,by lia,by lia,dX (lo:=0) (n:=m) (fun i σ Hd=>(∃L zs v4,σ=[some (.ref p),some (.int Ig),some (.int m),some (.ref L),v4]/\Hc L=none/\Hd L=some (.lst (zr zs))/\PO Hd zs/\zp zs=(kQ i).map iW/\zs.length<=9*i)/\aA Hc Hd) ?_ ?_ ?_⟩
    .exact⟨⟨D0,[],_,rfl,IK,af,PO.nil,rfl,by simp⟩,ah IK⟩
    .rintro i σ Hd hi ⟨⟨L5,Uz,v5,rfl,Nd,Px,KS,WD,ZC⟩,kP⟩;rw[fm];refine⟨_,rfl,_,rfl,i,rfl,by lia,by lia,fun D hD=>?_⟩;rw[fT];refine oO (lo:=0) (fun o=>((o:Int),(i:Int))) (fun σ=>∃u,σ=[u,some (.int i)]) hD (by lia) ⟨_,rfl⟩ ?_ ?_
     .rintro j σ H4 R Kf hj ⟨u,rfl⟩ eS kt;rw[fm];exact⟨_,rfl,_,rfl,by show 2<=sizeLine;decide,fun t ht=>kt _ t ⟨_,rfl⟩ ht⟩
     .rintro tw H4 eS kO sJ ez;have xI:tw.length=i:=by rw[<-bR,ez,aI,dq]
      refine⟨L5,D,_,_,rfl,rfl,eS _ _ Px,kO,by rw[cY,cY];exact a9 (show _<=200 by lia) (by decide),fun r fQ=>?_⟩;refine⟨⟨r,Uz++tw,_,rfl,(kP.trans eS).free fQ,by rw[af,dB],((KS.same eS).append sJ).putN fQ,by rw[cG,ez,WD,KY],by rw[ce];lia⟩,(kP.trans eS).trans (ah fQ)⟩
    .rintro σ Hd ⟨⟨L5,Uz,v5,rfl,Nd,Px,KS,WD,ZC⟩,kP⟩;exact nN _ _ ⟨L5,m,Uz,v5,rfl,g.se.trans (aH.of kP),g.pt.same kP,g.se.free g.pt.full Nd,Px,KS,by rw[WD];exact ON (by lia) (by lia),by lia⟩
   .rintro _ rfl;exact nN _ _ ⟨L,n,zs,v4,rfl,g⟩
   .intro Y N' yy nn;exact⟨_,rfl,rfl,_,rfl,eA (fun e=>yy _ rfl) (fun e=>nn _ rfl)⟩
  clear g;rintro σ Hc ⟨L,n,zs,v4,rfl,g⟩;refine rV (fun σ Hc=>∃ (L:Addr) (n:Nat) (zs:Zs) (v4:Option V),σ=[some (.ref p),some (.int Ig),some (.int n),some (.ref L),v4]/\Br p H L n zs Hc) ?_ ?_
  rotate_left
  .intro N nN;refine Bd (fun Hk=>aA Hc Hk) (fun Hk=>aA Hc Hk) ?_ ?_ ?_
   .intro Hk WE;refine⟨_,rfl,p,rfl,g.pt.same WE,fun rs ss H4 G8 WC hrs ZD sd M7=>?_⟩;refine⟨rs,ss,rfl,ZD,sd,M7,fun r L5 n5 Uz H5 kP YB Nd ZE KS WD ZC n15 ab7 fi5=>?_⟩;obtain⟨n5,rfl⟩:∃k:Nat,n5=(k:Int):=⟨n5.toNat,by lia⟩
    refine⟨_,_,rfl,bW.of YB,rfl,_,_,rfl,_,_,rfl,rfl,?_⟩;have sk:=(g.se.trans (aH.of WE)).trans G8;exact nN _ _ ⟨L5,n5,Uz,v4,rfl,sk.trans (aH.of kP),WC.same kP,sk.free WC.full ZE,Nd,KS,fi5,ZC⟩
   .intro Hk WE;exact nN _ _ ⟨L,n,zs,v4,rfl,g.same WE⟩
   .intro Y N' yy nn;refine⟨_,rfl,by show 2<=sizeLine;decide,fun t ht=>⟨t,_,rfl,.inr (bW.of af),rfl,rfl,_,rfl,?_⟩⟩;exact eA (fun e=>yy _ (ah ht)) (fun e=>nn _ (ah ht))
  clear g;rintro σ Hc ⟨L,n,zs,v4,rfl,g⟩;refine⟨_,rfl,_,rfl,_,rfl,L,rfl,⟨_,aV.of g.at_⟩,fun D hD=>?_⟩;have zl:=g.le;refine uB (K:=K) (zs0:=zs) sw (fun σ=>∃u v,σ=[u,v]) g.at_ g.po hD (by lia) ⟨_,_,rfl⟩ ?_ ?_
  .rintro z σ H4 R Kf hz ⟨u,v,rfl⟩ OT kt;refine⟨_,_,rfl,bW.of OT,rfl,_,_,rfl,_,_,rfl,rfl,?_⟩;exact⟨_,rfl,_,rfl,by show 2<=sizeLine;decide,fun t ht=>kt _ t ⟨_,_,rfl⟩ ht⟩
  .rintro tw H4 eS kO sJ ez;have xI:tw.length=zs.length:=by rw[<-bR,ez,aI,bR]
   refine⟨L,D,_,_,rfl,rfl,eS _ _ g.at_,kO,by rw[cY,cY];exact a9 (show _<=1000 by lia) (by decide),fun r fQ=>?_⟩;dsimp only[fg];refine G6 (zs:=zs++tw) (by rw[af,dB]) (((g.po.same eS).append sJ).putN fQ) (by rw[ce];lia) ?_;intro D3 IJ h9 pm;refine⟨by show 2<=sizeLine;decide,fun u sX=>?_⟩;have kP:aA Hc (upd (upd (upd H4 r (.lst (zr zs++zr tw))) D3 (.lst (zr IJ))) u (.tup [.int n,.ref D3])):=((eS.trans (ah fQ)).trans (ah h9)).trans (ah sX);have pd:(zp IJ).Perm (di (zp zs)):=(KM pm).trans (by rw[cG,ez];exact fJ.symm);refine q u D3 n IJ _ (g.se.trans (aH.of kP)) (g.pt.same kP) af (g.se.free g.pt.full ((eS.trans (ah fQ)).free h9)) (ah sX _ _ af) ?_ (g.fi.perm pd) (fun {a b} h=>pd.mem_iff.mpr (wd (pd.mem_iff.mp h))) (by rw[pm.length_eq,ce];lia);intro z hz;exact ah sX _ _ (ah h9 _ _ ((((g.po.same eS).append sJ).putN fQ) z (pm.mem_iff.mp hz)))
theorem UA:aG ["_law_many","_law_ties","_law_far"] ["_law_many","_law_ties"] (ak Zz):=⟨rfl,rfl,rfl,by decide +kernel,rfl,by decide +kernel,by decide +kernel⟩
def Py:Sp:=fun vs H Q _=>∃ (l:Addr) (n:Nat) (zs:Zs),vs=[.int n,.ref l]/\H l=some (.lst (zr zs))/\PO H zs/\bD n (zp zs)/\zs.length<=400/\∀ (e:Bool) H',aA H H'->(e=true->∀ {a b},gw.T (zp zs) a b->(far (zp zs) a 0+far (zp zs) b 0) % 2=1)->Q (.bl e) H'
theorem UB{f:Addr}{fd:FuncData}(F:fY K "_law_is_even" "_law_is_even" Zz f fd)(B:Bl mg)(HW:cs P w K mg base a7 1 "_law_homeward" ["_law_many","_law_ties","_law_home"] (HB K)):bo P w K mg base a7 2 f fd ["_law_many","_law_ties"] Py:=by
 refine F.ok UA (fun vs H Q E h=>?_) (fun dN A outer s H vs Q E hr h=>?_)
 .obtain⟨l,n,zs,rfl,_⟩:=h;rfl
 .obtain⟨l,n,zs,rfl,hl,po,FN,zl,q⟩:=h;have n2:=FN.n1;refine'⟨_,(ai (aE (i:=2) UA.nd rfl (Or.inr rfl) (aF HW hr aK (aa (pv 0) (aa (pv 1) (aa aq ag)))))
   (ap (aR (aD (oA rfl) (by rfl) B.all zm (aa ?c1 ag))))),?_⟩
  case c1=>
   refine' bz (g:=(q9 K 2 (eO (be 0) (eO (be 1) q8)))) (te:=(eU (Qv) (eU (rI (fun _ j=>0<j) fun i j=>.int (i % j)) (eU (rb fun i j=>.int (i+j)) (eU (j4 K) (aB 2) (aB 0)) (eU (j4 K) (aB 2) (aB 1))) (tC (.int 2))) (tC (.int 1)))) (NB:=["_law_one","_law_other","_law_far"]) (src:=[none,none,some 2]) (a_ (by kernel_rfl)) rfl (bA (pv 1)) ?g ?t ?e;case g=>exact fun cl C s₃ H₃ fp=>(fv (n:=2) rfl (bb (au (i:=0) iY rfl (Or.inl rfl) (Or.inr rfl)) (bb (au (i:=1) iY rfl (Or.inl rfl) (Or.inr rfl)) dG)))
   case t=>exact fun cl C s₃ H₃ fp=>b8
   case e=>exact fun cl C s₃ H₃ fp=>(dI gn (aP gc (aP cx (aL aJ (pv 2) (pv 0) (fun _ _=>rfl)) (aL aJ (pv 2) (pv 1) (fun _ _=>rfl))) aq) aq (aS _))
  refine⟨_,rfl,_,rfl,l,n,0,zs,rfl,hl,po,FN,by lia,fun r H1 s1 nr rY=>?_⟩;refine⟨_,rfl,l,rfl,⟨_,aV.of (s1 _ _ hl)⟩,fun D hD=>?_⟩;refine qm zs (fun z=>V.ref z.1) (fun z=>V.bl (decide (V.int ((((far (zp zs) z.2.1.toNat 0:Nat):Int)+((far (zp zs) z.2.2.toNat 0:Nat):Int)) % 2)=V.int 1))) (fun _=>true) (fun σ=>∃u v,σ=[u,v,some (.ref r)]) (s1 _ _ hl) hD (by lia) ⟨_,_,rfl⟩ ?_ ?_
  .rintro z σ H2 Kt Kf hz ⟨u,v,rfl⟩ s2 kt kf;have rg:=FN.rg z.2 (aX.mpr ⟨z,hz,rfl⟩);have ix:∀i:Int,0<=i->i<n->sF (NV ((List.range n).map fun x=>far (zp zs) x 0)) i=some (.int ((far (zp zs) i.toNat 0:Nat):Int)):=fun i i0 i1=>by
    obtain⟨k,rfl⟩:∃k:Nat,i=(k:Int):=⟨i.toNat,by lia⟩
    refine az ?_;unfold NV;rw[bX,bX,gX (by lia)];rfl
   have Lr:=s2 _ _ rY;refine⟨z.1,_,rfl,bW.of (s2 _ _ (s1 _ _ (po z hz))),rfl,_,_,rfl,_,_,rfl,rfl,?_⟩;exact⟨_,rfl,_,rfl,r,_,_,_,rfl,rfl,aV.of Lr,ix _ rg.1.1 rg.1.2,_,rfl,_,rfl,r,_,_,_,rfl,rfl,aV.of Lr,ix _ rg.2.1 rg.2.2,_,_,rfl,rfl,_,_,rfl,rfl,by show (0:Int)<2;decide,rfl,kt _ _ ⟨_,_,rfl⟩ (aA.refl _) rfl⟩
  .intro H2 s2 hX;rw[List.filter_eq_self.mpr fun _ _=>rfl] at hX;refine⟨D,zs.map fun z=>decide (V.int ((((far (zp zs) z.2.1.toNat 0:Nat):Int)+((far (zp zs) z.2.2.toNat 0:Nat):Int)) % 2)=V.int 1),rfl,aV.of (by rw[hX,dD];rfl),q _ H2 (s1.trans s2) fun e a b h=>?_⟩;obtain⟨z,hz,ez⟩:=aX.mp h;have:=i6.mp e _ (aX.mpr ⟨z,hz,rfl⟩);have:=dk this;injection this with this;rw[ez] at this;have e1:((a:Nat):Int).toNat=a:=fT _;have e2:((b:Nat):Int).toNat=b:=fT _;rw[show ((((a:Nat):Int),((b:Nat):Int)):Int×Int).1.toNat=a from e1,show ((((a:Nat):Int),((b:Nat):Int)):Int×Int).2.toNat=b from e2] at this;lia
end
abbrev ZF:Stmt:=top 61
abbrev ZG:Stmt:=top 64
theorem jq:(["_law_other","_law_stand","_law_i","_law_taken"]:List Str).Nodup:=by decide +kernel
theorem jD:(["_law_other","_law_fars","_law_i","_law_stand"]:List Str).Nodup:=by decide +kernel
def IU(o:Option Int):Option Nat:=o.map Int.toNat
theorem UC{row:List (Option Int)}(h:∀x,some x∈row->0<=x):SV row=(row.map IU).map oV:=by
 rw[dD];refine il fun o ho=>?_;cases o with
 |none=>rfl
 |some x=>
  show V.int x=V.int ((x.toNat:Nat):Int);rw[lY (h x ho)]
theorem Nf{hs:List Int}(h:∀x∈hs,0<=x):IV hs=NV (hs.map Int.toNat):=by
 unfold IV NV;rw[dD];refine il fun x hx=>?_;show V.int x=V.int ((x.toNat:Nat):Int);rw[lY (h x hx)]
theorem eF.nat{p:Addr}{H:Hp}{O:Addr}{as:List Addr}{n:Nat}{ts:Ts}(o:eF p H O as n ts)(F:bD n ts){h:Nat}(hh:h<n):∃ks:List Nat,H (as.getD h 0)=some (.lst (NV ks))/\ks.Nodup/\(∀x,x∈ks↔gw.T ts h x)/\ks.length<=32:=by
 obtain⟨js,e,pm⟩:=o.rows h hh;have nn:∀x∈js,0<=x/\x<n/\(((h:Nat):Int),x)∈ts:=fun x hx=>by
  have m:=gW.mp (pm.mem_iff.mp hx);exact⟨(F.rg _ m).2.1,(F.rg _ m).2.2,m⟩
 have nd:(js.map Int.toNat).Nodup:=im.mpr ((pm.nodup_iff.mpr (kq (yE.Bq F))).imp_of_mem fun {a b} ha hb ne z=>ne (by have:=(nn a ha).1;have:=(nn b hb).1;lia));refine⟨js.map Int.toNat,by rw[e,Nf fun x hx=>(nn x hx).1],nd,fun x=>⟨fun hx=>?_,fun t=>?_⟩,?_⟩
 .obtain⟨y,hy,rfl⟩:=aX.mp hx;obtain⟨a,b,c⟩:=nn y hy;show (((h:Nat):Int),((y.toNat:Nat):Int))∈ts;rw[lY a];exact c
 .exact aX.mpr ⟨(x:Int),pm.mem_iff.mpr (gW.mpr t),fT _⟩
 .have:=dM nd (n:=n) fun y hy=>by
   obtain⟨x,hx,rfl⟩:=aX.mp hy;have:=nn x hx;lia
  have:=F.n2;lia
structure pD(p:Addr)(H:Hp)(FA:Addr)(ij:List Addr)(n:Nat)(ts:Ts)(homes:List Nat):Prop where
 at_:H FA=some (.lst (ij.map V.ref))
 len:ij.length=homes.length
 rows:∀i,i<homes.length->H (ij.getD i 0)=some (.lst (NV ((List.range n).map fun x=>far ts x (homes.getD i 0))))
 np:FA≠p
 Ho:∀i,i<homes.length->ij.getD i 0≠p
theorem pD.fK{p:Addr}{H H':Hp}{FA:Addr}{ij:List Addr}{n:Nat}{ts:Ts}{homes:List Nat}(f:pD p H FA ij n ts homes)(s:aH p H H'):pD p H' FA ij n ts homes:=⟨s _ _ f.at_ f.np,f.len,fun i hi=>s _ _ (f.rows i hi) (f.Ho i hi),f.np,f.Ho⟩
theorem wY{n:Nat}{ts:Ts}{home x:Nat}(h:x<n):sF (NV ((List.range n).map fun x=>far ts x home)) (x:Int)=some (.int ((far ts x home:Nat):Int)):=by
 refine az ?_;unfold NV;rw[bX,bX,gX h];rfl
structure Q8(n:Nat)(ts:Ts)(st fs:List (Option Nat)):Prop where
 bV:∀j,j<fs.length->st.getD j none=none->fs.getD j none=none
 out:∀j h,j<fs.length->st.getD j none=some h->∃y,fs.getD j none=some y/\gw.T ts h y
 inj:∀j k y,j≠k->fs.getD j none=some y->fs.getD k none=some y->st.getD j none≠st.getD k none
theorem jt{fs:List (Option Nat)}{o:Option Nat}{j:Nat}:(fs++[o]).getD j none=if j=fs.length then o else fs.getD j none:=by
 by_cases c:j=fs.length
 .rw[am c,c,bv,qo (aT _),Nat.sub_self];rfl
 .rw[if_neg c];rcases qM j fs.length with d|d
  .rw[bv,k6 d,<-bv]
  .rw[bv,eM (by rw[ce,o_];lia),bv,eM d]
theorem Q8.snoc{n:Nat}{ts:Ts}{st fs:List (Option Nat)}{o:Option Nat}(I:Q8 n ts st fs)(h1:st.getD fs.length none=none->o=none)(h2:∀y,st.getD fs.length none=some y->∃x,o=some x/\gw.T ts y x/\∀j,j<fs.length->st.getD j none=some y->fs.getD j none≠some x):Q8 n ts st (fs++[o]):=by
 refine⟨fun j hj e=>?_,fun j h hj e=>?_,fun j k y ne ej ek=>?_⟩
 .rw[jt];rw[ce,o_] at hj;by_cases c:j=fs.length
  .rw[am c];exact h1 (c ▸ e)
  .rw[if_neg c];exact I.bV j (by lia) e
 .rw[jt];rw[ce,o_] at hj;by_cases c:j=fs.length
  .rw[am c];obtain⟨x,a,b,_⟩:=h2 h (c ▸ e);exact⟨x,a,b⟩
  .rw[if_neg c];exact I.out j h (by lia) e
 .rw[jt] at ej ek;by_cases cj:j=fs.length
  .rw[am cj] at ej;rw[if_neg (by lia)] at ek;intro z;cases e:st.getD fs.length none with
   |none=>rw[h1 e] at ej;cases ej
   |some h=>
    obtain⟨x,a,_,b⟩:=h2 h e;rw[ej] at a;cases a;exact b k (pC ek) (by rw[<-z,cj];exact e) ek
  .rw[if_neg cj] at ej;by_cases ck:k=fs.length
   .rw[am ck] at ek;intro z;cases e:st.getD fs.length none with
    |none=>rw[h1 e] at ek;cases ek
    |some h=>
     obtain⟨x,a,_,b⟩:=h2 h e;rw[ek] at a;cases a;exact b j (pC ej) (by rw[z,ck];exact e) ej
   .rw[if_neg ck] at ek;exact I.inj j k y ne ej ek
theorem Q8.hd{n:Nat}{ts:Ts}{homes:List Nat}{st fs:List (Option Nat)}(I:Q8 n ts st fs)(F:bD n ts)(S:ii n ts homes st)(l:fs.length=st.length):Hd n ts st fs:=by
 refine⟨l,fun j e=>?_,fun j h e=>?_,I.inj⟩
 .rcases qM j fs.length with c|c
  .exact I.bV j c e
  .rw[bv,eM c];rfl
 .have hj:=pC e;obtain⟨y,a,b⟩:=I.out j h (by rw[l];exact hj) e;exact⟨y,a,(dW F (S.ss j h (by rw[jn (d:=none) hj,e])).1).mpr b⟩
section
variable {P:Program} {w:World} {K:PySem.W.Frag} {mg:Str->Option Value} {base:Heap}
theorem wZ:aG ["_law_pot_here","_law_outs_here","_law_fars","_law_stand","_law_taken","_law_handing_here","_law_i","_law_goes","_law_free","_law_good","_law_some"] ["_law_pot_here","_law_outs_here","_law_fars","_law_stand"] (ak ZF):=⟨rfl,rfl,rfl,by decide +kernel,rfl,by decide +kernel,by decide +kernel⟩
def Pz:Sp:=fun vs H Q _=>∃ (p O FA sa:Addr) (as ij:List Addr) (n:Nat) (ts:Ts) (homes:List Nat) (st:List (Option Nat)),vs=[.ref p,.ref O,.ref FA,.ref sa]/\bn H p/\eF p H O as n ts/\bD n ts/\pD p H FA ij n ts homes/\H sa=some (.tup (st.map oV))/\ii n ts homes st/\st.length<=16/\∀ (r:Addr) (fs:List (Option Nat)) (H':Hp),aH p H H'->bn H' p->H r=none->H' r=some (.tup (fs.map oV))->Hd n ts st fs->Q (.ref r) H'
theorem UD{f:Addr}{fd:FuncData}(F:fY K "_law_handing" "_law_handing" ZF f fd)(B:Bl mg)(TK:cs P w K mg base a7 1 "_law_take" ["_law_pot_here","_law_many"] mK):bo P w K mg base a7 2 f fd ["_law_pot_here","_law_outs_here","_law_fars","_law_stand"] Pz:=by
 refine F.ok wZ (fun vs H Q E h=>?_) (fun dN A outer s H vs Q E hr h=>?_)
 .obtain⟨p,O,FA,sa,as,ij,n,ts,homes,st,rfl,_⟩:=h;rfl
 .obtain⟨p,O,FA,sa,as,ij,n,ts,homes,st,rfl,hp,ou,FN,fr,hS,SG,uN,q⟩:=h;refine'⟨_,(ai (aE (i:=4) wZ.nd rfl (Or.inr rfl) (cf ag))
   (ai (aE (i:=5) wZ.nd rfl (Or.inl rfl) (cf ag))
   (ai (dH eI rfl (bq rfl B.range (aa (aD aO (by rfl) B.len dU (aa (pv 3) ag)) ag)) (au (i:=6) wZ.nd rfl (Or.inr rfl))
    (ai (aE (i:=7) wZ.nd rfl (Or.inl rfl) dF)
    (ai (de (aQ pX (aL bH (pv 3) (pv 6) (fun _ _=>rfl)) dF (aS _)) (ai (dL (i:=8) (g:=(be 0)) (tt:=(iQ (eU (Of K true) (xC (aZ (eU (n6 K) (aB 1) (aB 2)) (aZ (aB 0) fg))) (aB 3)))) (te:=(aB 0)) (NB:=["_law_other","_law_stand","_law_i","_law_taken"]) (src:=[none,some 3,some 6,some 4]) (a_ (by kernel_rfl)) rfl (bA (aL aJ (pv 1) (aL bH (pv 3) (pv 6) (fun _ _=>rfl)) (fun _ _=>rfl))) ?g1 ?t1 ?e1 wZ.nd rfl rfl rfl)
     (ai (dL (i:=9) (g:=(be 0)) (tt:=(iQ (eU (rb fun i j=>.bl (decide (i<j))) (eU (j4 K) (eU (j4 K) (aB 1) (aB 2)) (aB 0)) (eU (j4 K) (eU (j4 K) (aB 1) (aB 2)) (eU (n6 K) (aB 3) (aB 2)))))) (te:=(aB 0)) (NB:=["_law_other","_law_fars","_law_i","_law_stand"]) (src:=[none,some 2,some 6,some 3]) (a_ (by kernel_rfl)) rfl (bA (pv 8)) ?g2 ?t2 ?e2 wZ.nd rfl rfl rfl)
     (ai (aE (i:=10) wZ.nd rfl (Or.inl rfl) (aL aJ (cf (aa (pv 8) (aa (aP je (pv 9) (Fq Jq (pv 8) Jn (Jo (cB nY (by rfl) B.int uW (aa (dI (AL (e:=mh) hr.u) (pv 9) (cf ag) (aS _)) ag))))) ag))) (cB nY (by rfl) B.int uW (aa (dI BQ (aF TK hr aK (aa (pv 0) (aa aq ag))) aq (aS _)) ag)) (fun _ _=>rfl)))
     (ai (aE (i:=7) wZ.nd rfl (Or.inl rfl) (aL aJ (pv 10) (aF TK hr aK (aa (pv 0) (aa (aD aO (by rfl) B.len dU (aa (pv 10) ag)) ag))) (fun _ _=>rfl)))
     (ap (cr (gK gH jv ju cM (pv 4) (aa (eK (aa (aL bH (pv 3) (pv 6) (fun _ _=>rfl)) (aa (pv 7) ag))) ag)))))))) bE)
    (ap (cr (gK gH jv ju cM (pv 5) (aa (pv 7) ag)))))))
   (ap (aR (cB dg (by rfl) B.tup o9 (aa (pv 5) ag))))))),?_⟩
  case g1=>exact fun cl C s₃ H₃ fp=>(au (i:=0) jq rfl (Or.inl rfl) (Or.inr rfl))
  case t1=>exact fun cl C s₃ H₃ fp=>d8 (aQ (um hr.u) (eK (aa (aL bH (pv 1) (pv 2) (fun _ _=>rfl)) (aa (pv 0) ag))) (pv 3) rfl)
  case e1=>exact fun cl C s₃ H₃ fp=>(pv 0)
  case g2=>exact fun cl C s₃ H₃ fp=>(au (i:=0) jD rfl (Or.inl rfl) (Or.inr rfl))
  case t2=>exact fun cl C s₃ H₃ fp=>d8 (aQ jZ (aL aJ (aL aJ (pv 1) (pv 2) (fun _ _=>rfl)) (pv 0) (fun _ _=>rfl)) (aL aJ (aL aJ (pv 1) (pv 2) (fun _ _=>rfl)) (aL bH (pv 3) (pv 2) (fun _ _=>rfl)) (fun _ _=>rfl)) (aS _))
  case e2=>exact fun cl C s₃ H₃ fp=>(pv 0)
  refine⟨by show 0<=sizeLine;decide,fun TA ZH=>⟨by show 0<=sizeLine;decide,fun HA ZI=>?_⟩⟩;have s0:=ah (o:=.lst []) ZH;have s1:=s0.trans (ah (o:=.lst []) ZI);have nHA:H HA=none:=s0.free ZI;have ne:TA≠HA:=aj af ZI;have nTp:TA≠p:=hp.ne ZH;have nHp:HA≠p:=hp.ne nHA;have nsp:sa≠p:=hp.neT hS;refine⟨_,rfl,sa,_,rfl,.inr (bW.of (s1 _ _ hS)),_,rfl,by rw[aI];lia,by rw[aI];lia,?_⟩;rw[aI,fT];refine dX (n:=st.length) (lo:=0) (fun i σ H2=>(∃x6 x7 x8 x9 Q9,σ=[some (.ref p),some (.ref O),some (.ref FA),some (.ref sa),some (.ref TA),some (.ref HA),x6,x7,x8,x9,Q9])/\aH p H H2/\bn H2 p/\∃ (fs:List (Option Nat)) (zs:Zs),fs.length=i/\H2 HA=some (.lst (fs.map oV))/\H2 TA=some (.lst (zr zs))/\PO H2 zs/\zs.length<=i/\Q8 n ts st fs/\∀y x:Nat,((y:Int),(x:Int))∈zp zs↔∃j,j<i/\st.getD j none=some y/\fs.getD j none=some x) ⟨⟨_,_,_,_,_,rfl⟩,aH.of s1,hp.same s1,[],[],rfl,af,by rw[ao ne];exact af,fun z hz=>(nomatch hz),aT _,⟨fun j hj=>absurd hj (jH _),fun j h hj=>absurd hj (jH _),fun j k y _ ej=>by rw[bv,List.getElem?_nil] at ej;cases ej⟩,fun y x=>⟨fun h=>(nomatch h),fun ⟨j,hj,_⟩=>absurd hj (jH _)⟩⟩ ?_ ?_
  .rintro i σ H2 hi ⟨⟨x6,x7,x8,x9,Q9,rfl⟩,s2,p2,fs,zs,fl,IR,WF,WG,zl,I,tk⟩;rw[fm];have uL:=s2 _ _ hS nsp;have ou2:=ou.fK s2;have Yu:=fr.fK s2;refine TJ ?_;refine rV (fun σ H3=>∃ (o:Option Nat) (qc:Zs),(∃x8 x9 Q9,σ=[some (.ref p),some (.ref O),some (.ref FA),some (.ref sa),some (.ref TA),some (.ref HA),some (.int (i:Int)),some (oV o),x8,x9,Q9])/\aH p H H3/\bn H3 p/\H3 HA=some (.lst (fs.map oV))/\H3 TA=some (.lst (zr qc))/\PO H3 qc/\qc.length<=i+1/\(st.getD fs.length none=none->o=none)/\(∀y,st.getD fs.length none=some y->∃x,o=some x/\gw.T ts y x/\∀j,j<fs.length->st.getD j none=some y->fs.getD j none≠some x)/\∀y x:Nat,((y:Int),(x:Int))∈zp qc↔∃j,j<i+1/\st.getD j none=some y/\(fs++[o]).getD j none=some x) ?_ ?_
   .rintro σ H3 ⟨o,qc,⟨x8,x9,Q9,rfl⟩,s3,p3,ZJ,hT3,qg,WB,h1,h2,XD⟩;refine⟨_,rfl,.inl ⟨rfl,_,aV.of ZJ⟩,_,rfl,HA,_,_,rfl,rfl,ZJ,by rw[aI,fl];exact b_ (show i<17 by lia) (by decide),?_⟩;exact⟨⟨_,_,_,_,_,rfl⟩,eB s3 nHA,p3.put nHp.symm,fs++[o],qc,by rw[ce,fl];rfl,by rw[af,bT];rfl,by rw[ao ne];exact hT3,qg.putL ZJ,WB,I.snoc h1 h2,XD⟩
   .intro N hN;have AT:fs.length=i:=fl;refine⟨_,rfl,_,rfl,sa,_,_,_,rfl,rfl,bW.of uL,az (fZ hi),rfl,_,rfl,?_⟩;rw[wJ];cases ey:st.getD i none with
    |none=>
     refine km rfl ?_;refine hN _ _ ⟨none,zs,⟨_,_,_,rfl⟩,s2,p2,IR,WF,WG,by lia,fun _=>rfl,(fun y e=>by rw[fl,ey] at e;cases e),fun y x=>?_⟩;rw[tk];constructor
     .rintro⟨j,hj,a,b⟩;exact⟨j,by lia,a,by rw[jt,if_neg (by lia)];exact b⟩
     .rintro⟨j,hj,a,b⟩;have c:j≠i:=by rintro rfl;rw[ey] at a;cases a
      rw[jt,if_neg (by lia)] at b;exact⟨j,by lia,a,b⟩
    |some y=>
     refine uE rfl ?_;have hy:=(SG.ss i y (by rw[jn (d:=none) hi,ey])).1;have gs:(st.map oV)[i]?=some (.int (y:Int)):=by rw[fZ hi,ey];rfl
     obtain⟨ks,hk,knd,kT,kl⟩:=ou2.nat FN hy;refine⟨_,rfl,_,rfl,_,rfl,sa,_,_,_,rfl,rfl,bW.of uL,az gs,O,_,_,_,rfl,rfl,aV.of ou2.at_,r6 (by rw[ou.len];exact hy),_,rfl,⟨_,aV.of hk⟩,fun D1 Er=>?_⟩;refine qm ks (fun (x:Nat)=>V.int (x:Int)) (fun (x:Nat)=>V.int (x:Int)) (fun (x:Nat)=>!decide (((y:Int),(x:Int))∈zp zs)) (fun σ=>∃u,σ=[u,some (.ref sa),some (.int (i:Int)),some (.ref TA)]) hk Er (by lia) ⟨_,rfl⟩ ?_ ?_
     .rintro x σ H3 Kt Kf hx ⟨u,rfl⟩ s3 kt kf;refine⟨_,rfl,_,rfl,sa,_,_,_,rfl,rfl,bW.of (s3 _ _ uL),az gs,_,rfl,by show 2<=sizeLine;decide,fun t ht=>⟨_,rfl,?_⟩⟩;have sT:=ah (o:=tj ((y:Int),(x:Int))) ht;refine GB (u:=((y:Int),(x:Int))) af (sT _ _ (s3 _ _ WF)) (WG.same (s3.trans sT)) ⟨_,rfl,?_⟩;refine eA (fun c=>⟨_,rfl,kt _ _ ⟨_,rfl⟩ sT c⟩) (fun c=>kf _ _ ⟨_,rfl⟩ sT (by simpa using c))
     intro H3 s3 h9;have ZK:∀x:Nat,x∈ks.filter (fun (x:Nat)=>!decide (((y:Int),(x:Int))∈zp zs))↔gw.T ts y x/\∀j,j<i->st.getD j none=some y->fs.getD j none≠some x:=fun x=>by
      rw[cq,kT,zQ,zg,tk];exact⟨fun ⟨a,b⟩=>⟨a,fun j hj e z=>b ⟨j,hj,e,z⟩⟩,fun ⟨a,b⟩=>⟨a,fun ⟨j,hj,e,z⟩=>b j hj e z⟩⟩
     have frl:(ks.filter (fun (x:Nat)=>!decide (((y:Int),(x:Int))∈zp zs))).length<=32:=a9 (fh _ _) kl;have fre:ks.filter (fun (x:Nat)=>!decide (((y:Int),(x:Int))∈zp zs))≠[]:=fun z=>by
      obtain⟨x,ex⟩:=Db (g:=fs) SG hi ey hy (by rw[bv,eM (by lia)];rfl);obtain⟨a,b⟩:=mN ex;have:=(ZK x).mpr ⟨(dW FN hy).mp a,fun j hj e=>b j (by lia) (e.trans ey.symm)⟩;rw[z] at this;cases this
     generalize ks.filter (fun (x:Nat)=>!decide (((y:Int),(x:Int))∈zp zs))=kZ at *;have hS3:=s3 _ _ uL;have Jb:pD p H3 FA ij n ts homes:=Yu.fK (aH.of s3);have IW:i<homes.length:=by rw[SG.len];exact hi
     refine⟨_,rfl,D1,rfl,⟨_,aV.of h9⟩,fun D2 hX=>?_⟩;refine qm kZ (fun (x:Nat)=>V.int (x:Int)) (fun (x:Nat)=>V.int (x:Int)) (fun x=>decide (((far ts x (homes.getD i 0):Nat):Int)<((far ts y (homes.getD i 0):Nat):Int))) (fun σ=>∃u,σ=[u,some (.ref FA),some (.int (i:Int)),some (.ref sa)]) h9 hX (by lia) ⟨_,rfl⟩ ?_ ?_
     .rintro x σ H4 Kt Kf hx ⟨u,rfl⟩ s4 kt kf;have WI:=Jb.fK (p:=p) (aH.of s4);have DN:=(FN.IH ((ZK x).mp hx).1).2.1;have gF:=r6 (as:=ij) (i:=i) (by rw[fr.len];exact IW);refine⟨_,rfl,_,rfl,FA,_,_,_,rfl,rfl,aV.of WI.at_,gF,_,rfl,_,_,_,_,rfl,rfl,aV.of (WI.rows i IW),wY DN,_,rfl,_,rfl,FA,_,_,_,rfl,rfl,aV.of WI.at_,gF,_,rfl,_,rfl,sa,_,_,_,rfl,rfl,bW.of (s4 _ _ hS3),az gs,_,_,_,_,rfl,rfl,aV.of (WI.rows i IW),wY hy,_,_,rfl,rfl,_,rfl,?_⟩;exact eA (fun c=>⟨_,rfl,kt _ _ ⟨_,rfl⟩ (aA.refl _) c⟩) (fun c=>kf _ _ ⟨_,rfl⟩ (aA.refl _) (by simpa using c))
     intro H4 s4 kO;generalize hgd:kZ.filter _=gd at *;have gdl:gd.length<=32:=by rw[<-hgd];exact a9 (fh _ _) frl
     have gds:∀x∈gd,x∈kZ:=fun x hx=>by rw[<-hgd] at hx;exact(cq.mp hx).1
     have Em:=s4 _ _ h9;have ZL:=s3.trans s4;refine⟨_,rfl,_,rfl,_,rfl,_,rfl,by show 0<=sizeLine;decide,fun E1 TQ=>?_⟩;have sE:=ah (o:=.lst []) TQ;refine⟨D2,E1,_,[],rfl,rfl,aV.of (sE _ _ kO),aV.of af,fun j h1 h2=>absurd h2 (by simp),.inr ⟨_,rfl,_,rfl,?_⟩⟩;rw[if_neg (show ¬ (false=true) by decide),uG];obtain⟨k,V0,Su,hk3⟩:∃k:Nat,(if decide ((gd.map fun (x:Nat)=>V.int (x:Int))=[])=true then (1:Int) else 0)=(k:Int)/\(gd=[]->k=1)/\k<=1:=by
      by_cases c:gd=[]
      .exact⟨1,by rw[c];rfl,fun _=>rfl,aT _⟩
      .exact⟨0,by rw[if_neg (by simpa using c)];rfl,fun z=>absurd z c,by decide⟩
     rw[V0];refine⟨D1,_,rfl,aV.of (sE _ _ Em),fun S1 VU=>?_⟩;have eC:Aw (kZ.map fun (x:Nat)=>V.int (x:Int)) none (some (k:Int))=NV (kZ.take k):=by rw[O8];exact List.map_take.symm
     rw[eC];have sS:=ah (o:=.lst (NV (kZ.take k))) VU;refine⟨D2,S1,_,_,rfl,rfl,sS _ _ (sE _ _ kO),af,?_,fun C1 Wp=>?_⟩
     .rw[aI,bS,jG];exact a9 (show gd.length+min k kZ.length<=64 by lia) (by decide)
     have sC:=ah (o:=.lst ((gd.map fun (x:Nat)=>V.int (x:Int))++NV (kZ.take k))) Wp;refine⟨by show 2<=sizeLine;decide,fun LL WJ=>?_⟩;have sL:=ah (o:=.lst [.ref D1,.ref C1]) WJ;have s28:=(((ZL.trans sE).trans sS).trans sC).trans sL;have PD:=af (H:=upd (upd (upd H4 E1 (.lst [])) S1 (.lst (NV (kZ.take k)))) C1 (.lst ((gd.map fun (x:Nat)=>V.int (x:Int))++NV (kZ.take k)))) (a:=LL) (o:=.lst [.ref D1,.ref C1]);have hC8:=sL _ _ (af (H:=upd (upd H4 E1 (.lst [])) S1 (.lst (NV (kZ.take k)))) (a:=C1) (o:=.lst ((gd.map fun (x:Nat)=>V.int (x:Int))++NV (kZ.take k))));have hD8:=sL _ _ (sC _ _ (sS _ _ (sE _ _ Em)));have p8:=p2.same s28;have Wo:D1≠p:=p2.ne Er;have nC1:C1≠p:=(p2.same ((ZL.trans sE).trans sS)).ne Wp;have nLL:LL≠p:=(p2.same (((ZL.trans sE).trans sS).trans sC)).ne WJ;generalize upd (upd (upd (upd H4 E1 _) S1 _) C1 _) LL _=H8 at *;refine⟨_,rfl,p,4,rfl,by decide,by decide,p8,fun d H9 hd s9 p9=>⟨_,_,rfl,rfl,.inr ⟨_,rfl,?_⟩⟩⟩;obtain⟨A2,sm,ix,hA9,M7,smf,sml,nA⟩:∃ (A2:Addr) (sm:List Nat),sF [V.ref D1,V.ref C1] (if decide ((0:Int)<((d:Nat):Int))=true then 1 else 0)=some (.ref A2)/\H9 A2=some (.lst (NV sm))/\sm≠[]/\(∀x∈sm,x∈kZ)/\sm.length<=64/\A2≠p:=by
      by_cases c:(0:Int)<((d:Nat):Int)
      .refine⟨C1,gd++kZ.take k,by rw[cZ c];rfl,?_,fun z=>?_,fun x hx=>?_,?_,nC1⟩
       .rw[s9 _ _ hC8 nC1];unfold NV;rw[bT]
       .obtain⟨z1,z2⟩:=List.append_eq_nil_iff.mp z;rw[Su z1] at z2;cases kZ with
        |nil=>exact fre rfl
        |cons x xs=>cases z2
       .rcases bY.mp hx with m|m
        .exact gds x m
        .exact jK m
       .rw[ce,jG];lia
      .refine⟨D1,kZ,by rw[d6 c];rfl,s9 _ _ hD8 Wo,fre,fun x hx=>hx,by lia,Wo⟩
     refine⟨LL,_,_,_,rfl,rfl,aV.of (s9 _ _ PD nLL),ix,?_⟩;refine⟨_,rfl,_,rfl,_,rfl,A2,_,rfl,.inl (aV.of hA9),p,sm.length,by rw[bS];rfl,List.length_pos_iff.mpr M7,by lia,p9,fun e PJ he s10 p10=>?_⟩;refine⟨A2,_,_,_,rfl,rfl,aV.of (s10 _ _ hA9 nA),az (jz he),?_⟩;have hm:=smf _ (show sm.getD e 0∈sm by rw[dz he];exact fV _);generalize sm.getD e 0=x at *;obtain⟨xT,xf⟩:=(ZK x).mp hm;have UE:aH p H2 PJ:=((aH.of s28).trans s9).trans s10;have PL:=UE _ _ WF nTp;have ZM:=UE _ _ uL nsp;have ZN:=UE _ _ IR nHp;refine⟨_,rfl,.inl ⟨rfl,_,aV.of PL⟩,_,rfl,_,rfl,sa,_,_,_,rfl,rfl,bW.of ZM,az gs,_,rfl,by show 2<=sizeLine;decide,fun t ht=>?_⟩;have sT:=ah (o:=tj ((y:Int),(x:Int))) ht;refine⟨TA,_,_,rfl,rfl,sT _ _ PL,by rw[cY];exact eY zl (b_ (show i<17 by lia) (by decide)),?_⟩;refine hN _ _ ⟨some x,zs++[(t,((y:Int),(x:Int)))],⟨_,_,_,rfl⟩,eB ((s2.trans UE).trans (aH.of sT)) ZH,(p10.same sT).put nTp.symm,by rw[ao ne.symm];exact sT _ _ ZN,by rw[af,dB];rfl,?_,by rw[ce];simp;lia,(fun z=>by rw[fl,ey] at z;cases z),fun y' e'=>?_,fun y' x'=>?_⟩
     .exact(((WG.fK UE p2).same sT).append (PO.one (H:=upd PJ t (tj ((y:Int),(x:Int)))) af)).putL (sT _ _ PL)
     .rw[fl,ey] at e';cases e';exact⟨x,rfl,xT,fun j hj ej=>xf j (by lia) ej⟩
     .rw[cG,bY,tk];constructor
      .rintro(⟨j,hj,a,b⟩|m)
       .exact⟨j,by lia,a,by rw[jt,if_neg (by lia)];exact b⟩
       .have m:=cA.mp m;have e1:=dt (congrArg Prod.fst m);have e2:=dt (congrArg Prod.snd m);subst e1;subst e2;exact⟨i,by lia,ey,by rw[jt,am fl.symm]⟩
      .rintro⟨j,hj,a,b⟩;by_cases c:j=i
       .subst c;rw[jt,am fl.symm] at b;rw[ey] at a;cases a;cases b;exact .inr (cA.mpr rfl)
       .rw[jt,if_neg (by lia)] at b;exact .inl ⟨j,by lia,a,b⟩
  .rintro σ H2 ⟨⟨x6,x7,x8,x9,Q9,rfl⟩,s2,p2,fs,zs,fl,IR,WF,WG,zl,I,tk⟩;refine⟨_,rfl,HA,_,rfl,.inl ⟨aV.of IR,fun r fQ=>?_⟩⟩;have sr:=ah (o:=.tup (fs.map oV)) fQ;exact q r fs _ (s2.trans (aH.of sr)) (p2.same sr) (s2.free p2.full fQ) af (I.hd FN SG fl)
end
abbrev ZO:Stmt:=top 17
theorem oZ:(["handing","homes"]:List Str).Nodup:=by decide +kernel
theorem PM{hs:List Nat}:NV hs=IV (hs.map fun (x:Nat)=>(x:Int)):=by
 unfold NV IV;rw[dD];rfl
def Lu(o:Option Nat):Option Int:=o.map fun (x:Nat)=>(x:Int)
theorem Ng{st:List (Option Nat)}:st.map oV=SV (st.map Lu):=by
 unfold SV;rw[dD];exact il fun o _=>by cases o <;> rfl
theorem Ih{st:List (Option Nat)}{j:Nat}:(st.map Lu).getD j none=Lu (st.getD j none):=by
 rw[bv,bX,bv];cases st[j]? <;> rfl
theorem gdZ{hs:List Nat}{j:Nat}:(hs.map fun (x:Nat)=>(x:Int)).getD j 0=((hs.getD j 0:Nat):Int):=by
 rw[bv,bX,bv];cases hs[j]? <;> rfl
theorem UF{homes:List Nat}{fs:List (Option Nat)}:SV (Et (homes.map fun (x:Nat)=>(x:Int)) (fs.map Lu) fs.length)=(pQ homes fs).map oV:=by
 unfold Et pQ SV;rw[dD,dD];refine il fun j _=>?_;show y9 (if (fs.map Lu).getD j none=some ((homes.map fun (x:Nat)=>(x:Int)).getD j 0) then none else (fs.map Lu).getD j none)=oV (if fs.getD j none=some (homes.getD j 0) then none else fs.getD j none);rw[Ih,gdZ];cases e:fs.getD j none with
 |none=>rw[if_neg (show ¬ (Lu none=some ((homes.getD j 0:Nat):Int)) from fun z=>by cases z),if_neg (show ¬ ((none:Option Nat)=some (homes.getD j 0)) from fun z=>by cases z)];rfl
 |some x=>
  by_cases c:x=homes.getD j 0
  .rw[am (show Lu (some x)=some ((homes.getD j 0:Nat):Int) by rw[c];rfl),am (show some x=some (homes.getD j 0) by rw[c])];rfl
  .rw[if_neg (show ¬ (Lu (some x)=some ((homes.getD j 0:Nat):Int)) from fun z=>c (dt (bh z))),if_neg (show ¬ (some x=some (homes.getD j 0)) from fun z=>c (bh z))];rfl
def BA:Sp:=fun vs H Q _=>∃ (a b c:Addr) (homes:List Nat) (st fs:List (Option Nat)),vs=[.ref a,.ref b,.ref c]/\H a=some (.tup (NV homes))/\H b=some (.tup (st.map oV))/\H c=some (.tup (fs.map oV))/\homes.length=st.length/\fs.length=st.length/\st.length<=16/\(∀j,st.getD j none=none->fs.getD j none=none)/\∀ (r:Addr) (H':Hp),aA H H'->H r=none->H' r=some (.tup ((pQ homes fs).map oV))->Q (.ref r) H'
theorem ZP{vs:List V}{H:Hp}{Q:VK}{E:XK}(h:BA vs H Q E):M9 vs H Q E:=by
 obtain⟨a,b,c,homes,st,fs,rfl,ha,hb,hc,l1,l2,uN,nn,q⟩:=h;refine⟨a,b,c,_,_,_,fs.length,rfl,by rw[ha,PM],by rw[hb,Ng],by rw[hc,Ng],by rw[aI,l1,l2],by rw[aI,l2],by rw[aI],by lia,fun j _ e=>?_,fun r H' s nr hr=>q r H' s nr (by rw[hr,UF])⟩;rw[Ih] at e |-;rw[nn j (by cases z:st.getD j none with|none=>rfl|some x=>(rw[z] at e;cases e))];rfl
section
variable {P:Program} {w:World} {K:PySem.W.Frag} {mg:Str->Option Value} {base:Heap}
theorem Lv:aG ["_law_pot_here","_law_outs_here","_law_fars","_law_homes_here","_law_stand","_law_size","_law_log_here","_law_k"] ["_law_pot_here","_law_outs_here","_law_fars","_law_homes_here","_law_stand","_law_size"] (ak ZG):=⟨rfl,rfl,rfl,by decide +kernel,rfl,by decide +kernel,by decide +kernel⟩
def PP:Sp:=fun vs H Q _=>∃ (p O FA ha sa:Addr) (as ij:List Addr) (n:Nat) (ts:Ts) (homes:List Nat) (st:List (Option Nat)) (sz:Nat),vs=[.ref p,.ref O,.ref FA,.ref ha,.ref sa,.int sz]/\bn H p/\eF p H O as n ts/\bD n ts/\pD p H FA ij n ts homes/\H ha=some (.tup (NV homes))/\H sa=some (.tup (st.map oV))/\ii n ts homes st/\st.length<=16/\sz<=500/\∀ (r:Addr) (fL:List Addr) (ss ls:Nat->List (Option Nat)) (H':Hp),jp n ts homes st sz ss ls->aH p H H'->bn H' p->H r=none->gO H' r fL sz ls->Q (.ref r) H'
theorem UG{f:Addr}{fd:FuncData}(F:fY K "_law_log" "_law_log" ZG f fd)(B:Bl mg)(HN:cs P w K mg base a7 2 "_law_handing" ["_law_pot_here","_law_outs_here","_law_fars","_law_stand"] Pz)(BH:cs P w K mg base a7 1 "_law_behind" ["_law_homes_here","_law_stand","_law_handing_here"] BA):bo P w K mg base a7 3 f fd ["_law_pot_here","_law_outs_here","_law_fars","_law_homes_here","_law_stand","_law_size"] PP:=by
 refine F.ok Lv (fun vs H Q E h=>?_) (fun dN A outer s H vs Q E hr h=>?_)
 .obtain⟨p,O,FA,ha,sa,as,ij,n,ts,homes,st,sz,rfl,_⟩:=h;rfl
 .obtain⟨p,O,FA,ha,sa,as,ij,n,ts,homes,st,sz,rfl,hp,ou,FN,fr,hH,hS,SG,uN,ab8,q⟩:=h;have h1:bQ 1 _:=hr.mono (by decide);have h2:bQ 2 _:=hr;refine⟨_,(ai (aE (i:=6) Lv.nd rfl (Or.inl rfl) (cf ag))
   (ai (dH eI rfl (bq rfl B.range (aa (pv 5) ag)) (au (i:=7) Lv.nd rfl (Or.inl rfl))
    (ai (cr (gK gH jv ju cM (pv 6) (aa (aF HN h2 aK (aa (pv 0) (aa (pv 1) (aa (pv 2) (aa (pv 4) ag))))) ag)))
    (ap (aE (i:=4) Lv.nd rfl (Or.inl rfl) (aF BH h1 aK (aa (pv 3) (aa (pv 4) (aa (aL aJ (pv 6) (BL vC aq) (fun _ _=>rfl)) ag))))))))
   (ap (aR (pv 6))))),?_⟩
  refine⟨by show 0<=sizeLine;decide,fun LG Ic=>?_⟩;have s0:=ah (o:=.lst []) Ic;have C0:LG≠p:=hp.ne Ic;have nhp:ha≠p:=hp.neT hH;refine⟨_,rfl,_,rfl,by lia,by lia,?_⟩;rw[fT];refine dX (n:=sz) (lo:=0) (fun k σ H2=>∃ (EE:Addr) (fL:List Addr) (ss ls:Nat->List (Option Nat)) (x7:Option V),σ=[some (.ref p),some (.ref O),some (.ref FA),some (.ref ha),some (.ref EE),some (.int (sz:Int)),some (.ref LG),x7]/\aH p H H2/\bn H2 p/\gO H2 LG fL k ls/\H2 EE=some (.tup ((ss k).map oV))/\jp n ts homes st k ss ls) ⟨sa,[],fun _=>st,fun _=>st,_,rfl,aH.of s0,hp.same s0,⟨af,Holds.nil⟩,s0 _ _ hS,⟨rfl,fun j hj=>absurd hj (jH _),fun j hj=>absurd hj (jH _)⟩⟩ ?_ ?_
  .rintro k σ H2 hk ⟨EE,fL,ss,ls,x7,rfl,s2,p2,rl,uL,G⟩;obtain⟨Sk,lk⟩:=G.yP FN SG k (aT _);refine⟨_,rfl,.inl ⟨rfl,_,aV.of rl.1⟩,_,rfl,_,rfl,_,rfl,_,rfl,p,O,FA,EE,as,ij,n,ts,homes,ss k,rfl,p2,ou.fK s2,FN,fr.fK s2,uL,Sk,by rw[lk];exact uN,fun t fs H3 s3 p3 nt ht hd=>?_⟩;have IT:=s3 _ _ rl.1 C0;have nt':∀j,j<k->fL.getD j 0≠p:=fun j hj=>p2.neT (rl.2.2 j hj);refine⟨LG,_,_,rfl,rfl,IT,by rw[aI,rl.2.1];exact b_ (show k<501 by lia) (by decide),?_⟩;have kp:∀ {b xs u},H3 b=some (.tup xs)->(upd H3 LG u) b=some (.tup xs):=fun {b xs u} e=>by rw[ao (by rintro rfl;rw[IT] at e;cases e)];exact e
   have rl4:gO (upd H3 LG (.lst (fL.map V.ref++[.ref t]))) LG (fL++[t]) (k+1) (fun j=>if j=k then fs else ls j):=by
    refine⟨by rw[af,bT];rfl,Holds.snoc ⟨rl.2.1,fun j hj=>?_⟩ ?_⟩
    .show _=some (HO.tup ((if j=k then fs else ls j).map oV));rw[if_neg (by lia)];exact kp (s3 _ _ (rl.2.2 j hj) (nt' j hj))
    .show _=some (HO.tup ((if k=k then fs else ls k).map oV));rw[am rfl];exact kp ht
   have s4:aH p H (upd H3 LG (.lst (fL.map V.ref++[.ref t]))):=eB (s2.trans s3) Ic;have p4:=p3.put (o:=.lst (fL.map V.ref++[.ref t])) C0.symm;have QU:=kp (u:=.lst (fL.map V.ref++[.ref t])) (s3 _ _ uL (p2.neT uL));have ht4:=kp (u:=.lst (fL.map V.ref++[.ref t])) ht;generalize upd H3 LG _=H4 at *;have e4:H4 LG=some (.lst ((fL++[t]).map V.ref)):=rl4.1;refine⟨_,rfl,_,rfl,_,rfl,_,rfl,LG,_,_,_,rfl,rfl,aV.of e4,by rw[bT];exact re _ _,ha,EE,t,homes,ss k,fs,rfl,s4 _ _ hH nhp,QU,ht4,by rw[lk];exact SG.len,by rw[hd.len],by rw[lk];exact uN,hd.bV,fun t' H5 s5 nt5 Wz=>?_⟩;refine⟨t',fL++[t],_,_,_,rfl,s4.trans (aH.of s5),p4.same s5,rl4.same s5,?_,G.snoc hd⟩;show _=some (HO.tup ((if k+1=k+1 then pQ homes fs else ss (k+1)).map oV));rw[am rfl];exact Wz
  .rintro σ H2 ⟨EE,fL,ss,ls,x7,rfl,s2,p2,rl,uL,G⟩;exact⟨_,rfl,q LG fL ss ls H2 G s2 p2 Ic rl⟩
theorem ZQ:aG ["homes","stand","log"] ["homes","stand","log"] (ak ZO):=⟨rfl,rfl,rfl,by decide +kernel,rfl,by decide +kernel,by decide +kernel⟩
def PQ:Sp:=fun vs H Q _=>∃ (ha sa LA:Addr) (n:Nat) (ts:Ts) (homes:List Nat) (st:List (Option Nat)) (N:Nat) (as:List Addr) (ss ls:Nat->List (Option Nat)),vs=[.ref ha,.ref sa,.ref LA]/\H ha=some (.tup (NV homes))/\H sa=some (.tup (st.map oV))/\bD n ts/\ii n ts homes st/\st.length<=16/\N<=500/\jp n ts homes st N ss ls/\gO H LA as N ls/\∀ (r:Addr) (bs:List Addr) (H':Hp),aA H H'->H r=none->gO H' r bs (N+1) ss->Q (.ref r) H'
theorem UH{f:Addr}{fd:FuncData}(F:fY K "stands_of" "stands_of" ZO f fd)(SB:cs P w K mg base a7 1 "stand_behind" ["homes","handing"] HY):bo P w K mg base a7 2 f fd ["homes","stand","log"] PQ:=by
 refine F.ok ZQ (fun vs H Q E h=>?_) (fun dN A outer s H vs Q E hr h=>?_)
 .obtain⟨ha,sa,LA,n,ts,homes,st,N,as,ss,ls,rfl,_⟩:=h;rfl
 .obtain⟨ha,sa,LA,n,ts,homes,st,N,as,ss,ls,rfl,hH,hS,FN,SG,uN,wL,G,rl,q⟩:=h;have hl:∀k,k<N->(ls k).length=st.length:=fun k hk=>by rw[(G.hd k hk).len,(G.yP FN SG k (by lia)).2]
  have h1:bQ 1 _:=hr;refine'⟨_,(ap (aR (aP je (cf (aa (pv 1) ag)) ?c1))),?_⟩;case c1=>
   refine' bz (g:=(be 0)) (te:=(iR HY [] E0 (aZ (aB 1) (aZ (aB 0) fg)))) (NB:=["handing","homes"]) (src:=[none,some 0]) (a_ (by kernel_rfl)) rfl (bA (pv 2)) ?g ?t ?e;case g=>exact fun cl C s₃ H₃ fp=>(au (i:=0) oZ rfl (Or.inl rfl) (Or.inr rfl))
   case t=>exact fun cl C s₃ H₃ fp=>b8
   case e=>exact fun cl C s₃ H₃ fp=>(aF SB h1 aK (aa (pv 1) (aa (pv 0) ag)))
  refine⟨_,rfl,by show 1<=sizeLine;decide,fun L1 A1=>?_⟩;have s1:=ah (o:=.lst [.ref sa]) A1;have ZR:=rl.same s1;refine⟨_,rfl,LA,rfl,⟨_,aV.of ZR.1⟩,fun D hD=>?_⟩;refine cP (xs:=as.map V.ref) (fun i ys σ H2=>(∃x,σ=[x,some (.ref ha)])/\aA (upd H L1 (.lst [.ref sa])) H2/\∃bs:List Addr,ys=bs.map V.ref/\H2 D=some (.lst ys)/\Holds H2 bs i (fun k=>.tup ((ss (k+1)).map oV))) ⟨⟨_,rfl⟩,ah hD,[],rfl,af,Holds.nil⟩ (fun i ys σ H2 _ z=>aV.of (ZR.same z.2.1).1) ?_ ?_
  .rintro i x ys σ H2 Kt Kf hx ⟨⟨x0,rfl⟩,s2,bs,rfl,hX,ho⟩ kt kf;have hi:i<as.length:=by have:=(dO.mp hx).1;rwa [aI] at this
   rw[bX,cH hi] at hx;obtain rfl:=bh hx;have rl2:=ZR.same s2;have hk:=rl2.2.2 i (by rw[<-rl2.2.1];exact hi);rw[bv,cH hi] at hk;refine⟨_,rfl,_,rfl,ha,as[i],homes,_,rfl,s2 _ _ (s1 _ _ hH),hk,by rw[hl i (by rw[<-rl.2.1];exact hi)];exact SG.len,by rw[hl i (by rw[<-rl.2.1];exact hi)];exact uN,fun t H3 s3 ht=>?_⟩;rw[<-G.nx i (by rw[<-rl.2.1];exact hi)] at ht;have h9:=s3 _ _ hX;have kp:∀ {b xs u},H3 b=some (.tup xs)->(upd H3 D u) b=some (.tup xs):=fun {b xs u} e=>by rw[ao (by rintro rfl;rw[h9] at e;cases e)];exact e
   refine kt _ _ _ h9 (by rw[aI,ho.1];exact b_ (show i<501 by have:=rl.2.1;lia) (by decide)) ⟨⟨_,rfl⟩,bf (s2.trans s3) hD,bs++[t],by rw[bT];rfl,af,(ho.mono fun j _ e=>kp (s3 _ _ e)).snoc (kp ht)⟩
  .rintro ys σ H2 ⟨_,s2,bs,rfl,hX,ho⟩;rw[aI,rl.2.1] at ho;refine⟨L1,D,_,_,rfl,rfl,s2 _ _ af,hX,?_,fun p hp=>?_⟩
   .rw[aI,ho.1];exact a9 (show 1+N<=501 by lia) (by decide)
   have s3:=s2.trans (ah (o:=.lst ([.ref sa]++bs.map V.ref)) hp);refine q p (sa::bs) _ (s1.trans s3) ((s1.trans s2).free hp) ⟨af,by rw[dR,ho.1],fun j hj=>?_⟩;cases j with
   |zero=>show _=some (HO.tup ((ss 0).map oV));rw[G.z];exact s3 _ _ (s1 _ _ hS)
   |succ j=>exact ah hp _ _ (ho.2 j (Nat.lt_of_succ_lt_succ hj))
end
structure IX(ts:Ts)(home N:Nat)(x y:Nat->Option Nat):Prop where
 bV:∀k,k<N->x k=none->y k=none/\x (k+1)=none
 go:∀k h,k<N->x k=some h->∃z,y k=some z/\T ts h z/\x (k+1)=if z=home then none else some z
section
variable {n:Nat} {ts:Ts} {homes:List Nat} {st:List (Option Nat)} {N l home:Nat} {ss ls:Nat->List (Option Nat)} {x y:Nat->Option Nat}
theorem Ii{fs:List (Option Nat)}{j:Nat}:(pQ homes fs).getD j none=if fs.getD j none=some (homes.getD j 0) then none else fs.getD j none:=by
 rcases qM j fs.length with c|c
 .unfold pQ;rw[bv,bX,gX c];rfl
 .rw[bv,eM (by rw[jo];exact c),bv,eM c];split <;> rfl
theorem jp.trk(G:jp n ts homes st N ss ls)(F:bD n ts)(S:ii n ts homes st):IX ts (homes.getD l 0) N (fun k=>(ss k).getD l none) (fun k=>(ls k).getD l none):=by
 refine⟨fun k hk e=>?_,fun k h hk e=>?_⟩
 .have a:=(G.hd k hk).bV l e;refine⟨a,?_⟩;show (ss (k+1)).getD l none=none;rw[G.nx k hk,Ii,a,if_neg (fun z=>by cases z)]
 .obtain⟨z,a,b⟩:=(G.hd k hk).out l h e;have Sk:=(G.yP F S k (by lia)).1;have hh:=(Sk.ss l h (by rw[jn (d:=none) (pC e),e])).1;refine⟨z,a,(dW F hh).mp b,?_⟩;show (ss (k+1)).getD l none=_;rw[G.nx k hk,Ii,a];by_cases c:z=homes.getD l 0
  .rw[am (by rw[c]),am c]
  .rw[if_neg (fun q=>c (bh q)),if_neg c]
noncomputable def aN(ts:Ts)(home:Nat)(x y:Nat->Option Nat)(k:Nat):List Nat:=(List.range k).filter fun j=>IP ts home (x j) (y j)
theorem w5{k:Nat}:aN ts home x y (k+1)=aN ts home x y k++if IP ts home (x k) (y k)=true then [k] else []:=by
 unfold aN;rw[jI,eN,dS,z7]
theorem IX.dead(t:IX ts home N x y){k:Nat}(e:x k=none):∀j,k<=j->j<=N->x j=none
 |0,h,_=>by rw[show k=0 by lia] at e;exact e
 |j+1,h,hn=>by
  by_cases c:k=j+1
  .rw[<-c];exact e
  .exact(t.bV j (by lia) (t.dead e j (by lia) (by lia))).2
def Lw(ts:Ts):Prop:=∀ {a b},T ts a b->(far ts a 0+far ts b 0) % 2=1
theorem sg(F:bD n ts)(o:Lw ts):∀ {k a b:Nat},cV ts k a b->(far ts a 0+far ts b 0+k) % 2=0
 |0,a,b,e=>by cases e;lia
 |k+1,a,b,⟨c,w,t⟩=>by
  have:=sg F o w;have:=o t;lia
theorem si(F:bD n ts)(hm:home<n){h z:Nat}(t:T ts h z):far ts h home<=far ts z home+1:=by
 obtain⟨a,b,_⟩:=F.IH t;exact F.Gg a hm (cV.cons t (F.Ed b hm).1)
theorem w6{h z:Nat}(ne:h≠z):IP ts home (some h) (some z)=decide (far ts h home<=far ts z home):=by
 unfold IP;rw[d6 (fun q=>ne (bh q))];rfl
theorem IX.claim(t:IX ts home N x y)(F:bD n ts)(sy:∀ {a b},T ts a b->T ts b a)(hm:home<n):∀k,k<=N->∀h,x k=some h->∃h0,x 0=some h0/\far ts h0 home<=far ts h home+k/\far ts h home+k<=far ts h0 home+2*(aN ts home x y k).length/\(Lw ts->far ts h home+k=far ts h0 home+2*(aN ts home x y k).length)
 |0,_,h,e=>⟨h,e,by lia,by lia,fun _=>rfl⟩
 |k+1,hk,h',e'=>by
  cases e:x k with
  |none=>rw[(t.bV k (by lia) e).2] at e';cases e'
  |some h=>
   obtain⟨z,ez,tz,nx⟩:=t.go k h (by lia) e;rw[nx] at e';by_cases c:z=home
   .rw[am c] at e';cases e'
   .rw[if_neg c] at e';have e':=bh e';subst e';obtain⟨h0,a1,a2,a3,a4⟩:=t.claim F sy hm k (by lia) h e;have f1:=si F hm tz;have f2:=si F hm (sy tz);have ne:=(F.IH tz).2.2;refine⟨h0,a1,by lia,?_,fun o=>?_⟩
    .rw[w5,e,ez,w6 ne];by_cases d:far ts h home<=far ts z home
     .rw[cZ d,am rfl,ce,o_];lia
     .rw[d6 d,if_neg (by decide),jx];lia
    .have:=a4 o;have w1:=sg F o (F.Ed (F.IH tz).1 hm).1;have w2:=sg F o (F.Ed (F.IH tz).2.1 hm).1;have w3:=o tz;rw[w5,e,ez,w6 ne];by_cases d:far ts h home<=far ts z home
     .rw[cZ d,am rfl,ce,o_];lia
     .rw[d6 d,if_neg (by decide),jx];lia
theorem Ij(F:bD n ts)(hm:home<n):far ts home home=0:=by
 have:=F.Gg hm hm (show cV ts 0 home home from rfl);lia
theorem IX.arr(t:IX ts home N x y)(F:bD n ts)(sy:∀ {a b},T ts a b->T ts b a)(hm:home<n)(nh:∀k h,k<=N->x k=some h->h≠home/\h<n){k:Nat}(hk:k<N){h:Nat}(e:x k=some h)(ey:y k=some home):
  aN ts home x y N=aN ts home x y k/\∃h0,x 0=some h0/\far ts h0 home<=k+1/\k+1<=far ts h0 home+2*(aN ts home x y N).length/\(Lw ts->k+1=far ts h0 home+2*(aN ts home x y N).length):=by
 obtain⟨z,ez,tz,nx⟩:=t.go k h hk e;rw[ey] at ez;cases ez;rw[am rfl] at nx;obtain⟨n1,n2⟩:=nh k h (by lia) e;have f0:=Ij F hm;have f1:=si F hm tz;have f2:=Le F n2 hm n1;have st:∀m,k<=m->m<=N->aN ts home x y m=aN ts home x y k:=by
  intro m;induction m with
  |zero=>intro a _;rw[show k=0 by lia]
  |succ m ih=>
   intro a b;by_cases c:k=m+1
   .rw[c]
   .rw[w5,ih (by lia) (by lia)];have:IP ts home (x m) (y m)=false:=by
     by_cases d:m=k
     .rw[d,e,ey,w6 n1];exact d6 (by lia)
     .rw[t.dead nx m (by lia) (by lia)];rfl
    rw[this,if_neg (by decide),jx]
 obtain⟨h0,a1,a2,a3,a4⟩:=t.claim F sy hm k (by lia) h e;rw[st N (by lia) (aT _)];exact⟨rfl,h0,a1,by lia,by lia,fun o=>by have:=a4 o;lia⟩
end
abbrev ZS:Stmt:=top 65
theorem w9:(["_law_beat","_law_when"]:List Str).Nodup:=by decide +kernel
theorem PR{ts:Ts}{home N l:Nat}{ss ls:Nat->List (Option Nat)}{n:Nat}(F:bD n ts)(t:IX ts home N (fun k=>(ss k).getD l none) (fun k=>(ls k).getD l none)):Wv ss ls N l=[]:=by
 unfold Wv;refine qv.mpr fun k hk z=>?_;rw[gj] at z;obtain⟨h,e⟩:=mW.mp z.1;obtain⟨y,ey,ty,_⟩:=t.go k h (bK.mp hk) e;have z2:=dk z.2;have e':(ss k).getD l none=some h:=e;have ey':(ls k).getD l none=some y:=ey;rw[e',ey'] at z2;exact(F.IH ty).2.2 (bh z2)
theorem Nh{ss ls:Nat->List (Option Nat)}{N l home w:Nat}(h:IN ss ls N l home=some w):∃k x,w=k+1/\k<N/\(ss k).getD l none=some x/\(ls k).getD l none=some home:=by
 unfold IN at h;cases e:(List.range N).find? (fun k=>((ss k).getD l none).isSome&&decide ((ls k).getD l none=some home)) with
 |none=>rw[e] at h;cases h
 |some k=>
  rw[e] at h;have a:=z6 e;rw[gj] at a;obtain⟨x,ex⟩:=mW.mp a.1;exact⟨k,x,(bh h).symm,bK.mp (ER e),ex,dk a.2⟩
theorem Ik{ts:Ts}{home N l:Nat}{ss ls:Nat->List (Option Nat)}(t:IX ts home N (fun k=>(ss k).getD l none) (fun k=>(ls k).getD l none))(e:(ss 0).getD l none=none):IN ss ls N l home=none/\O4 ts ss ls N l home=[]:=by
 have d:∀k,k<N->(ss k).getD l none=none:=fun k hk=>t.dead (k:=0) e k (cu _) (by lia);constructor
 .cases w:IN ss ls N l home with
  |none=>rfl
  |some v=>
   obtain⟨k,x,_,hk,ex,_⟩:=Nh w;rw[d k hk] at ex;cases ex
 .unfold O4;refine qv.mpr fun k hk z=>?_;rw[d k (bK.mp hk)] at z;cases z
theorem Il{o:Option Nat}:decide (oV o=.bV)=o.isNone:=by cases o <;> simp[oV]
section
variable {P:Program} {w:World} {K:PySem.W.Frag} {mg:Str->Option Value} {base:Heap}
theorem Lx:aG ["_law_net","_law_far","_law_even","_law_homes_here","_law_stands","_law_log_here","_law_i","_law_when","_law_about","_law_fewest"] ["_law_net","_law_far","_law_even","_law_homes_here","_law_stands","_law_log_here","_law_i"] (ak ZS):=⟨rfl,rfl,rfl,by decide +kernel,rfl,by decide +kernel,by decide +kernel⟩
def Ly(C:Addr):Sp:=fun vs H Q _=>∃ (L:Addr->Prop) (px FR ha SA LA:Addr) (iN fL:List Addr) (nn:Nat) (ts:Ts) (homes:List Nat) (st:List (Option Nat)) (N:Nat) (ss ls:Nat->List (Option Nat)) (l:Nat) (e:Bool),vs=[.ref px,.ref FR,.bl e,.ref ha,.ref SA,.ref LA,.int l]/\cy C H L px nn ts/\H FR=some (.lst (NV ((List.range nn).map fun x=>far ts x (homes.getD l 0))))/\H ha=some (.tup (NV homes))/\IM H SA LA iN fL st.length N ss ls/\jp nn ts homes st N ss ls/\ii nn ts homes st/\(∀a b,gw.T ts a b->gw.T ts b a)/\(e=true->Lw ts)/\l<st.length/\∀H',aA H H'->Q (.bl true) H'
theorem UI{f C:Addr}{fd:FuncData}(F:fY K "_law_letter_right" "_law_letter_right" ZS f fd)(B:Bl mg)(HA:cs P w K mg base a7 5 "home_at" ["homes","stands","log","letter"] O6)(LA:cs P w K mg base a7 7 "led_at" ["net","homes","stands","log","letter"] (O7 C))(WT:cs P w K mg base a7 5 "waited_at" ["stands","log","letter"] O5):bo P w K mg base a7 8 f fd ["_law_net","_law_far","_law_even","_law_homes_here","_law_stands","_law_log_here","_law_i"] (Ly C):=by
 refine F.ok Lx (fun vs H Q E h=>?_) (fun dN A outer s H vs Q E hr h=>?_)
 .obtain⟨L,px,FR,ha,SA,LA,iN,fL,nn,ts,homes,st,N,ss,ls,l,e,rfl,_⟩:=h;rfl
 .obtain⟨L,px,FR,ha,SA,LG,iN,fL,nn,ts,homes,st,N,ss,ls,l,e,rfl,NA,hFR,hH,lg,G,SG,sy,od,hl,q⟩:=h;have h5:bQ 5 _:=hr.mono (by decide);have FN:=NA.iK;have t:IX ts (homes.getD l 0) N (fun k=>(ss k).getD l none) (fun k=>(ls k).getD l none):=G.trk FN SG;have hlh:l<homes.length:=by rw[SG.len];exact hl
  have hm:homes.getD l 0<nn:=SG.hs _ (by rw[dz hlh];exact fV _);have nh:∀k h,k<=N->(ss k).getD l none=some h->h≠homes.getD l 0/\h<nn:=fun k h hk e=>by
   have Sk:=(G.yP FN SG k hk).1;have:=Sk.ss l h (by rw[jn (d:=none) (pC e),e]);exact⟨fun z=>this.2 (by rw[jn (d:=0) hlh,z]),this.1⟩
  have rn:JV nn ss ls N l:=fun k h hk e=>by
   obtain⟨z,ez,tz,_⟩:=t.go k h hk e;exact⟨(FN.IH tz).1,z,ez,(FN.IH tz).2.1⟩
  refine'⟨_,(ai (gb (eK (aa (aF HA h5 aK (aa (pv 3) (aa (pv 4) (aa (pv 5) (aa (pv 6) ag))))) (aa (aF LA hr aK (aa (pv 0) (aa (pv 3) (aa (pv 4) (aa (pv 5) (aa (pv 6) ag)))))) ag))) (fv (n:=2) rfl (bb (au (i:=7) Lx.nd rfl (Or.inr rfl)) (bb (au (i:=8) Lx.nd rfl (Or.inl rfl)) dG))))
   (ai (de (aQ (FT (e:=mh) hr.u) (aF WT h5 aK (aa (pv 4) (aa (pv 5) (aa (pv 6) ag)))) (cf ag) (aS _)) (ap (aR xu)) bE)
   (ai (de (PW.pt (xw (aQ nX (aL bH (aL aJ (pv 4) aq (fun _ _=>rfl)) (pv 6) (fun _ _=>rfl)) dF (aS _)) (qZ (aQ nX (pv 7) dF (aS _))))) (ap (aR (jX (dI nX (pv 7) dF (aS _)) (iG (L2.E5 (dI (AL (e:=mh) hr.u) (pv 8) (cf ag) (aS _)) (iG (dI pX (aL bH (aL aJ (pv 4) aq (fun _ _=>rfl)) (pv 6) (fun _ _=>rfl)) dF (aS _)))))))) bE)
   (ai (aE (i:=9) Lx.nd rfl (Or.inl rfl) (aL aJ (pv 1) (aL bH (aL aJ (pv 4) aq (fun _ _=>rfl)) (pv 6) (fun _ _=>rfl)) (fun _ _=>rfl)))
   (ai (de (PW.pt (xw (gE (aD (uc rfl) (by rfl) B.any PyProof.Rows.boot_any (aa ?c1 ag))) (qZ (nW (Fg xB xB (pv 9) (pv 7) (aP cx (pv 9) (aP fw aq (aD aO (by rfl) B.len dU (aa (pv 8) ag))))))))) (ap (aR xu)) bE)
   (ap (aR (L2.E5 (E6 (pv 2)) (iG (dI gn (pv 7) (aP cx (pv 9) (aP fw aq (aD aO (by rfl) B.len dU (aa (pv 8) ag)))) (aS _))))))))))),?_⟩
  case c1=>
   refine' bz (g:=(be 0)) (te:=(eU (rb fun i j=>.bl (decide (j<=i))) (aB 0) (eU (rb fun i j=>.int (i-j)) (aB 1) (tC (.int 1))))) (NB:=["_law_beat","_law_when"]) (src:=[none,some 7]) (a_ (by kernel_rfl)) rfl (bA (pv 8)) ?g ?t ?e;case g=>exact fun cl C s₃ H₃ fp=>(au (i:=0) w9 rfl (Or.inl rfl) (Or.inr rfl))
   case t=>exact fun cl C s₃ H₃ fp=>b8
   case e=>exact fun cl C s₃ H₃ fp=>(dI MA (pv 0) (aP iH (pv 1) aq) (aS _))
  refine⟨_,rfl,_,rfl,_,rfl,_,rfl,ha,SA,LG,iN,fL,homes,st.length,N,ss,ls,l,rfl,hH,SG.len,lg,hl,fun H1 s1=>?_⟩;refine⟨_,rfl,_,rfl,_,rfl,_,rfl,_,rfl,L,px,nn,ts,ha,SA,LG,iN,fL,homes,st.length,N,ss,ls,l,rfl,NA.same s1,s1 _ _ hH,SG.len,lg.same s1,hl,hm,rn,fun r1 H2 s2 nr1 rY=>⟨by show 2<=sizeLine;decide,fun tt htt=>⟨tt,_,rfl,bW.of af,rfl,_,_,rfl,_,_,rfl,rfl,?_⟩⟩⟩;have sT:=(s1.trans s2).trans (ah (o:=.tup [oV (IN ss ls N l (homes.getD l 0)),.ref r1]) htt);have hA3:=ah (o:=.tup [oV (IN ss ls N l (homes.getD l 0)),.ref r1]) htt _ _ rY;generalize upd H2 tt _=H3 at *;have eab:O4 ts ss ls N l (homes.getD l 0)=aN ts (homes.getD l 0) (fun k=>(ss k).getD l none) (fun k=>(ls k).getD l none) N:=rfl;have abl:(O4 ts ss ls N l (homes.getD l 0)).length<=500:=a9 (fh _ _) (by rw[dq];exact lg.wL);refine⟨_,rfl,_,rfl,_,rfl,SA,LG,iN,fL,st.length,N,ss,ls,l,rfl,lg.same sT,hl,fun r2 H4 s4 nr2 Lr=>⟨by show 0<=sizeLine;decide,fun E1 TQ=>?_⟩⟩;rw[PR FN t] at Lr;have sE:=ah (o:=.lst []) TQ;refine⟨r2,E1,[],[],rfl,rfl,aV.of (sE _ _ Lr),aV.of af,fun j h1 h2=>absurd h2 (by simp),_,rfl,?_⟩;refine km rfl ?_;have s5:=(sT.trans s4).trans sE;have UJ:=sE _ _ (s4 _ _ hA3);generalize upd H4 E1 _=H5 at *;have UK:=lg.same s5;have g0:sF (iN.map V.ref) 0=some (.ref (iN.getD 0 0)):=UK.rs.at (k:=0) (by lia);have r0:=UK.rs.2.2 0 (by lia);have Wd:((ss 0).map oV)[l]?=some (oV ((ss 0).getD l none)):=fZ (by rw[lg.sl];exact hl);generalize ZT:IN ss ls N l (homes.getD l 0)=wh at *;generalize pN:O4 ts ss ls N l (homes.getD l 0)=ab at *;refine⟨_,rfl,SA,_,_,_,rfl,rfl,aV.of UK.rs.1,g0,_,rfl,iN.getD 0 0,_,_,_,rfl,rfl,bW.of r0,az Wd,rfl,_,rfl,?_⟩;rw[Il];cases e0:(ss 0).getD l none with
  |none=>
   obtain⟨w1,w2⟩:=Ik t e0;rw[ZT] at w1;rw[pN] at w2;subst w1;subst w2;refine uE rfl ?_;refine uE rfl ?_;refine⟨_,rfl,rfl,true,rfl,vL ?_⟩;refine⟨_,rfl,by show 0<=sizeLine;decide,fun E2 ZU=>?_⟩;have s6:=ah (o:=.lst []) ZU;refine⟨r1,E2,[],[],rfl,rfl,aV.of (s6 _ _ UJ),aV.of af,fun j h1 h2=>absurd h2 (by simp),true,rfl,vL ?_⟩;exact q _ (s5.trans s6)
  |some h0=>
   refine km rfl ?_;refine⟨_,rfl,rfl,_,rfl,?_⟩;rw[Il];have UL:((ss 0).map oV)[l]?=some (.int (h0:Int)):=by rw[Wd,e0];rfl
   cases ew:wh with
   |none=>
    refine uE rfl ?_;refine⟨_,rfl,rfl,true,rfl,vL ?_⟩;refine⟨_,rfl,by show 0<=sizeLine;decide,fun E2 ZU=>?_⟩;have s6:=ah (o:=.lst []) ZU;refine⟨r1,E2,_,[],rfl,rfl,aV.of (s6 _ _ UJ),aV.of af,fun j h1 h2=>absurd h2 (by simp),_,rfl,?_⟩;have lg6:=UK.same s6;refine eA (fun _=>q _ (s5.trans s6)) (fun _=>?_);exact⟨_,rfl,SA,_,_,_,rfl,rfl,aV.of lg6.rs.1,g0,_,rfl,iN.getD 0 0,_,_,_,rfl,rfl,bW.of (lg6.rs.2.2 0 (by lia)),az UL,rfl,q _ (s5.trans s6)⟩
   |some v=>
    refine km rfl ?_;rw[ew] at ZT;obtain⟨k,x,rfl,hk,ex,ey⟩:=Nh ZT;obtain⟨a1,h0',b1,b2,b3,b4⟩:=t.arr FN (fun {a b} z=>sy a b z) hm nh hk ex ey;have b1:(ss 0).getD l none=some h0':=b1;rw[e0] at b1;cases b1;rw[<-eab] at a1 b3 b4;have Wn:=(nh 0 h0 (cu _) e0).2;have bk:∀j∈ab,j<k:=fun j hj=>by
     rw[a1] at hj;exact bK.mp (cq.mp hj).1
    refine⟨_,rfl,_,rfl,SA,_,_,_,rfl,rfl,aV.of UK.rs.1,g0,_,rfl,iN.getD 0 0,_,_,_,rfl,rfl,bW.of r0,az UL,FR,_,_,_,rfl,rfl,aV.of (s5 _ _ hFR),wY Wn,?_⟩;refine⟨_,rfl,r1,rfl,⟨_,aV.of UJ⟩,fun D hD=>?_⟩;refine qm ab (fun (x:Nat)=>V.int (x:Int)) (fun _=>V.bl false) (fun _=>true) (fun σ=>∃u,σ=[u,some (.int ((k+1:Nat):Int))]) UJ hD (by lia) ⟨_,rfl⟩ ?_ ?_
    .rintro j σ H6 Kt Kf hj ⟨u,rfl⟩ s6 kt kf;refine⟨_,rfl,_,rfl,_,_,rfl,rfl,_,_,rfl,rfl,?_⟩;have:=bk j hj;have z:=kt _ _ ⟨some (.int (j:Int)),rfl⟩ (aA.refl _) rfl;have e:decide ((((k+1:Nat):Int)-1)<=(j:Int))=false:=d6 (by lia);show Kt (V.bl (decide ((((k+1:Nat):Int)-1)<=(j:Int)))) _ _;rw[e];exact z
    intro H6 s6 KA;have hA6:=s6 _ _ UJ;refine⟨D,ab.map fun _=>false,rfl,aV.of (by rw[KA,dD,List.filter_eq_self.mpr fun _ _=>rfl];rfl),_,rfl,?_⟩;have an:(ab.map fun _=>false).any id=false:=by rw[qC];intro z hz;obtain⟨_,_,rfl⟩:=aX.mp hz;decide
    refine km an ?_;refine⟨_,rfl,_,rfl,_,_,rfl,rfl,true,congrArg V.bl (cZ (by lia)),vL ?_⟩;refine⟨_,rfl,_,rfl,r1,_,rfl,.inl (aV.of hA6),_,_,rfl,rfl,.inl ⟨by decide,by decide⟩,_,_,rfl,rfl,_,_,rfl,rfl,_,rfl,?_⟩;rw[bS];refine km (by rw[cZ (by lia)];rfl) ?_;refine⟨_,rfl,e,rfl,_,rfl,?_⟩;cases ee:e with
    |false=>exact uE rfl (q _ (s5.trans s6))
    |true=>
     refine km rfl ?_;refine⟨_,rfl,_,rfl,_,rfl,r1,_,rfl,.inl (aV.of hA6),_,_,rfl,rfl,.inl ⟨by decide,by decide⟩,_,_,rfl,rfl,rfl,?_⟩;rw[bS];have:=b4 (fun {a b}=>od ee);have ed:decide (V.int ((k+1:Nat):Int)=V.int (((far ts h0 (homes.getD l 0):Nat):Int)+2*((ab.length:Nat):Int)))=true:=cZ (by congr 1;lia);show Q (V.bl (decide (V.int ((k+1:Nat):Int)=V.int (((far ts h0 (homes.getD l 0):Nat):Int)+2*((ab.length:Nat):Int))))) H6;rw[ed];exact q _ (s5.trans s6)
end
abbrev ZV:Stmt:=top 66
theorem mT:(["_law_home","_law_many","_law_ties"]:List Str).Nodup:=by decide +kernel
theorem du:(["_law_i","_law_net","_law_fars","_law_even","_law_homes_here","_law_stands","_law_log_here"]:List Str).Nodup:=by decide +kernel
theorem Dg{n:Nat}{ts:Ts}(F:bD n ts){h:Nat}:((eJ ts (h:Int)).map Int.toNat).Nodup/\∀x:Nat,x∈(eJ ts (h:Int)).map Int.toNat↔gw.T ts h x:=by
 have nn:∀x∈eJ ts (h:Int),0<=x/\(((h:Nat):Int),x)∈ts:=fun x hx=>by
  have m:=gW.mp hx;exact⟨(F.rg _ m).2.1,m⟩
 refine⟨im.mpr ((kq (yE.Bq F)).imp_of_mem fun {a b} ha hb ne z=>ne (by have:=(nn a ha).1;have:=(nn b hb).1;lia)),fun x=>⟨fun hx=>?_,fun t=>aX.mpr ⟨(x:Int),gW.mpr t,fT _⟩⟩⟩;obtain⟨y,hy,rfl⟩:=aX.mp hx;obtain⟨a,c⟩:=nn y hy;show (((h:Nat):Int),((y.toNat:Nat):Int))∈ts;rw[lY a];exact c
theorem Dh{y:Nat}:∀ {st:List (Option Int)},(∀h,some h∈st->0<=h)->(st.map IU).count (some y)=st.count (some (y:Int))
 |[],_=>rfl
 |o::st,h=>by
  rw[d7,qH,qH,Dh fun x hx=>h x (cp _ hx)];congr 1;cases o with
  |none=>rfl
  |some x=>
   have:=h x cg;by_cases c:x=(y:Int)
   .subst c;rw[show IU (some (y:Int))=some y by show some ((y:Int).toNat)=_;rw[fT]];simp
   .have c':¬ (IU (some x)=some y):=fun z=>c (by have:x.toNat=y:=bh z;lia);rw[if_neg (by simpa using c'),if_neg (by simpa using c)]
theorem Lz{n:Nat}{ts:Ts}{hs:List Int}{st:List (Option Int)}(F:bD n ts)(l:st.length=hs.length)(hr:∀x∈hs,0<=x/\x<n)(so:wG n ts false st)(nh:∀j,j<st.length->st.getD j none≠some (hs.getD j 0)):ii n ts (hs.map Int.toNat) (st.map IU):=by
 refine⟨by rw[aI,aI,l],fun x hx=>?_,fun i y e=>?_,fun y hy=>?_⟩
 .obtain⟨z,hz,rfl⟩:=aX.mp hx;have:=hr z hz;lia
 .rw[bX] at e;cases ei:st[i]? with
  |none=>rw[ei] at e;cases e
  |some o=>
   rw[ei] at e;have e:IU o=some y:=bh e;cases o with
   |none=>cases e
   |some v=>
    have ev:v.toNat=y:=bh e;have hi:=(dO.mp ei).1;have rg:=so.rg v (cI ei);refine⟨by lia,fun z=>?_⟩;have IW:i<hs.length:=by rw[<-l];exact hi
    rw[bX,cH IW] at z;have z:hs[i].toNat=y:=bh z;have r2:=hr _ (fV IW);refine nh i hi ?_;rw[bv,ei,bv,cH IW];show some v=some hs[i];congr 1;lia
 .rw[Dh fun h hh=>(so.rg h hh).1];refine a9 (so.few rfl y) ?_;have:=wO (b:=cQ n ts y) (Dg F (h:=y)).1 fun x hx=>(dW F hy).mpr (((Dg F).2 x).mp hx);rwa [aI] at this
theorem jp.clamp{n:Nat}{ts:Ts}{homes:List Nat}{st:List (Option Nat)}{N:Nat}{ss ls:Nat->List (Option Nat)}(G:jp n ts homes st N ss ls)(F:bD n ts)(S:ii n ts homes st):∃Q_ Ra,jp n ts homes st N Q_ Ra/\(∀k,k<=N->Q_ k=ss k)/\(∀k,k<N->Ra k=ls k)/\(∀k,(Q_ k).length=st.length)/\∀k,(Ra k).length=st.length:=by
 have e1:∀k,k<=N->(if k<=N then ss k else st)=ss k:=fun k h=>am h;have e2:∀k,k<N->(if k<N then ls k else st)=ls k:=fun k h=>am h;refine⟨fun k=>if k<=N then ss k else st,fun k=>if k<N then ls k else st,⟨by show (if 0<=N then ss 0 else st)=_;rw[e1 0 (by lia)];exact G.z,fun j hj=>?_,fun j hj=>?_⟩,e1,e2,fun k=>?_,fun k=>?_⟩
 .show Hd n ts (if j<=N then ss j else st) (if j<N then ls j else st);rw[e1 j (by lia),e2 j hj];exact G.hd j hj
 .show (if j+1<=N then ss (j+1) else st)=pQ homes (if j<N then ls j else st);rw[e1 (j+1) (by lia),e2 j hj];exact G.nx j hj
 .show (if k<=N then ss k else st).length=_;split
  .exact(G.yP F S k (by assumption)).2
  .rfl
 .show (if k<N then ls k else st).length=_;split
  .rename_i h;rw[(G.hd k h).len];exact(G.yP F S k (by lia)).2
  .rfl
theorem gO.UM{H:Hp}{a:Addr}{as:List Addr}{N:Nat}{o o':Nat->List (Option Nat)}(h:gO H a as N o)(e:∀k,k<N->o' k=o k):gO H a as N o':=⟨h.1,h.2.1,fun k hk=>by show _=some (HO.tup ((o' k).map oV));rw[e k hk];exact h.2.2 k hk⟩
theorem _root_.L2.cC.kE{lp:Pos}{q:Str}{p Pt:Addr}{H H':Hp}(t:cC lp q Pt H)(s:aH p H H')(hp:bn H p):cC lp q Pt H':=by
 obtain⟨a,b,x3,e,_⟩:=hp;rcases t with z|⟨c,z,y⟩
 .exact .inl (s _ _ z (by rintro rfl;rw[z] at e;cases e))
 .exact .inr ⟨c,s _ _ z (by rintro rfl;rw[z] at e;cases e),s _ _ y (by rintro rfl;rw[y] at e;cases e)⟩
theorem T3.kE{PN PF PT p:Addr}{H H':Hp}(t:T3 PN PF PT H)(s:aH p H H')(hp:bn H p):T3 PN PF PT H':=⟨t.n.kE s hp,t.f.kE s hp,t.t.kE s hp⟩
def KE(p:Addr)(H H':Hp):Prop:=∀b o,H b=some o->Dc o->b≠p->H' b=some o
theorem KE.of{p:Addr}{H H':Hp}(s:aH p H H'):KE p H H':=fun b o e _ n=>s b o e n
theorem KE.kn{p:Addr}{H H':Hp}(s:KN H H'):KE p H H':=fun b o e n _=>s b o e n
theorem KE.trans{p:Addr}{H H1 H2:Hp}(a:KE p H H1)(b:KE p H1 H2):KE p H H2:=fun c o e n m=>b c o (a c o e n m) n m
structure Cs(C Pt PN PF PT Pr:Addr)(p O FA a sa LT bx:Addr)(as ij:List Addr)(n:Nat)(zs:Zs)(homes:List Nat)(st:List (Option Nat))(H:Hp):Prop where
 pt:bn H p
 ou:eF p H O as n (zp zs)
 fr:pD p H FA ij n (zp zs) homes
 hh:H a=some (.tup (NV homes))
 hs:H sa=some (.tup (st.map oV))
 hT:H LT=some (.lst (zr zs))
 po:PO H zs
 nL:LT≠p
 nb:bx≠p
 net:∃L,cy C H L bx n (zp zs)/\¬ L p
 tp:mD Pt H
 t3:T3 PN PF PT H
 tr:tG Pr H
section
variable {C Pt PN PF PT Pr p O FA a sa LT bx:Addr} {as ij:List Addr} {n:Nat} {zs:Zs} {homes:List Nat} {st:List (Option Nat)} {H H':Hp}
theorem Cs.ke(c:Cs C Pt PN PF PT Pr p O FA a sa LT bx as ij n zs homes st H)(k:KE p H H')(pt:bn H' p)(tp:mD Pt H')(t3:T3 PN PF PT H')(tr:tG Pr H'):Cs C Pt PN PF PT Pr p O FA a sa LT bx as ij n zs homes st H':=by
 have nl:∀ {xs},Dc (.lst xs):=fun {xs} ps z=>by cases z
 have nt:∀ {xs},Dc (.tup xs):=fun {xs} ps z=>by cases z
 obtain⟨L,N,C0⟩:=c.net;obtain⟨dx,tl,ol,ds,i0,_⟩:=N.ob;have N':cy C H' (fun b=>L b/\∃o,H b=some o/\Dc o) bx n (zp zs):=N.Ud.keep (H':=H') (fun b o l e=>by obtain⟨lb,o',e',n⟩:=l;rw[e] at e';cases e';exact k _ _ e n (fun z=>C0 (z ▸ lb))) (fun o e=>k _ _ e (by rw[i0] at e;cases e;intro ps z;cases z) c.nb);exact⟨pt,⟨k _ _ c.ou.at_ nl c.ou.np,c.ou.len,fun h hh=>let ⟨js,e,pm⟩:=c.ou.rows h hh;⟨js,k _ _ e nl (c.ou.Ho h hh),pm⟩,c.ou.np,c.ou.Ho⟩,⟨k _ _ c.fr.at_ nl c.fr.np,c.fr.len,fun i hi=>k _ _ (c.fr.rows i hi) nl (c.fr.Ho i hi),c.fr.np,c.fr.Ho⟩,k _ _ c.hh nt (c.pt.neT c.hh),k _ _ c.hs nt (c.pt.neT c.hs),k _ _ c.hT nl c.nL,fun z hz=>k _ _ (c.po z hz) nt (c.pt.neT (c.po z hz)),c.nL,c.nb,⟨_,N',fun z=>C0 z.1⟩,tp,t3,tr⟩
theorem Cs.same(c:Cs C Pt PN PF PT Pr p O FA a sa LT bx as ij n zs homes st H)(s:aA H H'):Cs C Pt PN PF PT Pr p O FA a sa LT bx as ij n zs homes st H':=c.ke (KE.kn fun b o e _=>s b o e) (c.pt.same s) (c.tp.same s) (c.t3.same s) (c.tr.same s)
theorem Cs.fK(c:Cs C Pt PN PF PT Pr p O FA a sa LT bx as ij n zs homes st H)(s:aH p H H')(pt:bn H' p):Cs C Pt PN PF PT Pr p O FA a sa LT bx as ij n zs homes st H':=c.ke (KE.of s) pt (c.tp.kE s c.pt) (c.t3.kE s c.pt) (c.tr.kE s c.pt)
end
theorem _root_.L2.cC.kD{lp:Pos}{q:Str}{P P' x c d:Addr}{fs:List (Str×V)}{H H':Hp}(t:cC lp q P H)(hx:H x=some (.ins c d fs))(hP:∃ps,H P'=some (.gQ ps))(n:P≠P')(s:∀b o,H b=some o->b≠x->b≠P'->H' b=some o):cC lp q P H':=by
 obtain⟨ps,hP⟩:=hP;rcases t with z|⟨k,z,y⟩
 .exact .inl (s _ _ z (by rintro rfl;rw[z] at hx;cases hx) n)
 .exact .inr ⟨k,s _ _ z (by rintro rfl;rw[z] at hx;cases hx) n,s _ _ y (by rintro rfl;rw[y] at hx;cases hx) (by rintro rfl;rw[y] at hP;cases hP)⟩
theorem kR{H:Hp}{y dx c:Addr}(ny:H y=none)(ZW:H dx=none)(ne:dx≠y):aA H (upd (upd H dx (.own y)) y (.ins c dx [])):=(ah (o:=.own y) ZW).trans (ah (D:=y) (o:=.ins c dx []) (by rw[ao ne.symm];exact ny))
section
variable {P:Program} {w:World} {K:PySem.W.Frag} {mg:Str->Option Value} {base:Heap}
theorem lX:aG ["_law_pot_here","_law_way","_law_size","_law_letters","_law_many","_law_ties","_law_outs_here","_law_homes_here","_law_stand","_law_fars","_law_net","_law_log_here","_law_stands","_law_even"] ["_law_pot_here"] (ak ZV):=⟨rfl,rfl,rfl,by decide +kernel,rfl,by decide +kernel,by decide +kernel⟩
def LC(Pt PN PF PT Pr:Addr):Sp:=fun vs H Q _=>∃ (p:Addr),vs=[.ref p]/\bn H p/\mD Pt H/\T3 PN PF PT H/\tG Pr H/\∀H',KE p H H'->mD Pt H'->T3 PN PF PT H'->tG Pr H'->Q (.bl true) H'
theorem UN{f C CE CN CF CT CI Pt PN PF PT Pr fI:Addr}{fd fdI:FuncData}(F:fY K "_law_right" "_law_right" ZV f fd)(B:Bl mg)(TN:NT K mg C)(M:Mk K C fI)(bI:j3 K fdI ["self","many","ties"] [])(GI:bo P w K mg base a7 7 fI fdI ["self","many","ties"] (Bk C Pt))(nP:(PN≠Pt/\PF≠Pt/\PT≠Pt)/\Pr≠Pt)(R:Q6 P w K mg base C CE CN CF CT CI PN PF PT)(kE:KB K CE)(kN:KB K CN)(kF:KB K CF)(kT:KB K CT)(T0:cs P w K mg base a7 1 "_law_take" ["_law_pot_here","_law_many"] mK)(TW:cs P w K mg base a7 4 "_law_two_way" ["_law_pot_here"] Pw)(OU:cs P w K mg base a7 1 "_law_outs" ["_law_many","_law_ties"] wE)(HM:cs P w K mg base a7 2 "_law_homes" ["_law_pot_here","_law_many","_law_letters"] wF)(BG:cs P w K mg base a7 2 "_law_begun" ["_law_pot_here","_law_outs_here","_law_homes_here","_law_waits"] wH)(HW:cs P w K mg base a7 1 "_law_homeward" ["_law_many","_law_ties","_law_home"] (HB K))(RU:cs P w K mg base a7 13 "run" ["rule","net","homes","stand","most"] (Ie C [CE,CN,CF,CT] PN PF PT Pr))(LG:cs P w K mg base a7 3 "_law_log" ["_law_pot_here","_law_outs_here","_law_fars","_law_homes_here","_law_stand","_law_size"] PP)(SO:cs P w K mg base a7 2 "stands_of" ["homes","stand","log"] PQ)(IE:cs P w K mg base a7 2 "_law_is_even" ["_law_many","_law_ties"] Py)(LR:cs P w K mg base a7 8 "_law_letter_right" ["_law_net","_law_far","_law_even","_law_homes_here","_law_stands","_law_log_here","_law_i"] (Ly C)):bo P w K mg base a7 14 f fd ["_law_pot_here"] (LC Pt PN PF PT Pr):=by
 refine F.ok lX (fun vs H Q E h=>?_) (fun dN A outer s H vs Q E hr h=>?_)
 .obtain⟨p,rfl,_⟩:=h;rfl
 .obtain⟨p,rfl,hp,tb,t3,tr,q⟩:=h;have h1:bQ 1 _:=hr.mono (by decide);have h2:bQ 2 _:=hr.mono (by decide);have h3:bQ 3 _:=hr.mono (by decide);have h4:bQ 4 _:=hr.mono (by decide);have h7:bQ 7 _:=hr.mono (by decide);have h8:bQ 8 _:=hr.mono (by decide);refine'⟨_,(ai (aE (i:=1) lX.nd rfl (Or.inl rfl) (aF T0 h1 aK (aa (pv 0) (aa aq ag))))
   (ai (aE (i:=2) lX.nd rfl (Or.inl rfl) (aF T0 h1 aK (aa (pv 0) (aa aq ag))))
   (ai (aE (i:=3) lX.nd rfl (Or.inl rfl) (aF T0 h1 aK (aa (pv 0) (aa aq ag))))
   (ai (gb (aF TW h4 aK (aa (pv 0) ag)) (fv (n:=2) rfl (bb (au (i:=4) lX.nd rfl (Or.inr rfl)) (bb (au (i:=5) lX.nd rfl (Or.inr rfl)) dG))))
   (ai (aE (i:=6) lX.nd rfl (Or.inl rfl) (aF OU h1 aK (aa (pv 4) (aa (pv 5) ag))))
   (ai (aE (i:=7) lX.nd rfl (Or.inr rfl) (aF HM h2 aK (aa (pv 0) (aa (pv 4) (aa (pv 3) ag)))))
   (ai (aE (i:=8) lX.nd rfl (Or.inl rfl) (aF BG h2 aK (aa (pv 0) (aa (pv 6) (aa (pv 7) (aa xu ag))))))
   (ai (aE (i:=9) lX.nd rfl (Or.inr rfl) ?c1)
   (ai (aE (i:=10) lX.nd rfl (Or.inr rfl) (Jl M GI h8 rfl TN.QJ bI .nil aK (aa (pv 4) (aa (cB jd (by rfl) B.lst uQ (aa (pv 5) ag)) ag))))
   (ai (de (aQ jZ (pv 1) aq (aS _)) (ap (aE (i:=11) lX.nd rfl (Or.inr rfl) (aF RU hr aK (aa (aL aJ (cf (aa (wx kE rfl R.e.QJ) (aa (wx kN rfl R.n.QJ) (aa (wx kF rfl R.f.QJ) (aa (wx kT rfl R.t.QJ) ag))))) (pv 1) (fun _ _=>rfl)) (aa (pv 10) (aa (pv 7) (aa (pv 8) (aa (pv 2) ag)))))))) (ap (aE (i:=11) lX.nd rfl (Or.inr rfl) (aF LG h3 aK (aa (pv 0) (aa (pv 6) (aa (pv 9) (aa (pv 7) (aa (pv 8) (aa (pv 2) ag))))))))))
   (ai (aE (i:=12) lX.nd rfl (Or.inr rfl) (aF SO h2 aK (aa (pv 7) (aa (pv 8) (aa (pv 11) ag)))))
   (ai (aE (i:=13) lX.nd rfl (Or.inr rfl) (aF IE h2 aK (aa (pv 4) (aa (pv 5) ag))))
   (ap (aR (aD (oA rfl) (by rfl) B.all zm (aa ?c2 ag)))))))))))))))),?_⟩
  case c1=>
   refine' bz (g:=(be 0)) (te:=(iR (HB K) [] E0 (aZ (aB 1) (aZ (aB 2) (aZ (aB 0) fg))))) (NB:=["_law_home","_law_many","_law_ties"]) (src:=[none,some 4,some 5]) (a_ (by kernel_rfl)) rfl (vA (pv 7)) ?g ?t ?e;case g=>exact fun cl C s₃ H₃ fp=>(au (i:=0) mT rfl (Or.inl rfl) (Or.inr rfl))
   case t=>exact fun cl C s₃ H₃ fp=>b8
   case e=>exact fun cl C s₃ H₃ fp=>(aF HW h1 aK (aa (pv 1) (aa (pv 2) (aa (pv 0) ag))))
  case c2=>
   refine' bz (g:=(be 0)) (te:=(iR (Ly C) [] E0 (aZ (aB 1) (aZ (eU (j4 K) (aB 2) (aB 0)) (aZ (aB 3) (aZ (aB 4) (aZ (aB 5) (aZ (aB 6) (aZ (aB 0) fg))))))))) (NB:=["_law_i","_law_net","_law_fars","_law_even","_law_homes_here","_law_stands","_law_log_here"]) (src:=[none,some 10,some 9,some 13,some 7,some 12,some 11]) (a_ (by kernel_rfl)) rfl (bq rfl B.range (aa (pv 3) ag)) ?g ?t ?e;case g=>exact fun cl C s₃ H₃ fp=>(au (i:=0) du rfl (Or.inl rfl) (Or.inr rfl))
   case t=>exact fun cl C s₃ H₃ fp=>b8
   case e=>exact fun cl C s₃ H₃ fp=>(aF LR h8 aK (aa (pv 1) (aa (aL aJ (pv 2) (pv 0) (fun _ _=>rfl)) (aa (pv 3) (aa (pv 4) (aa (pv 5) (aa (pv 6) (aa (pv 0) ag))))))))
  refine⟨_,rfl,p,8,rfl,by decide,by decide,hp,fun Ig H1 hw s1 p1=>?_⟩;refine⟨_,rfl,p,61,rfl,by decide,by decide,p1,fun sz H2 hsz s2 p2=>?_⟩;refine⟨_,rfl,p,17,rfl,by decide,by decide,p2,fun m H3 hm s3 p3=>?_⟩;refine⟨_,rfl,p,rfl,p3,fun r LT n zs H4 s4 p4 Te nL Uy sJ Fi sy zl=>⟨r,_,rfl,bW.of Te,rfl,_,_,rfl,_,_,rfl,rfl,?_⟩⟩;have n1:=Fi.n1;have n2:=Fi.n2;have e4:aH p H H4:=((s1.trans s2).trans s3).trans s4;refine⟨_,rfl,_,rfl,LT,n,zs,rfl,Uy,sJ,yE.Bq Fi,zl,by lia,by lia,fun O as H5 s5 nO nas Ws al Ni=>?_⟩;have p5:=p4.same s5;have TH:eF p H5 O as n (zp zs):=⟨Ws,al,Ni,p4.ne nO,fun h hh=>p4.ne (nas h hh)⟩
  refine⟨_,rfl,_,rfl,_,rfl,p,n,m,rfl,p5,by lia,by lia,by lia,by lia,fun a hs H6 s6 p6 na WK ab9 hlm ZX=>?_⟩;have hlm:hs.length=m:=by lia
  refine⟨_,rfl,_,rfl,_,rfl,p,O,a,false,as,n,zp zs,hs,rfl,p6,TH.fK s6,by lia,by lia,WK,by lia,fun sa WL H7 s7 p7 nsa Ww stl so nh=>?_⟩;have SG:=Lz Fi stl ZX so nh;have C0:LT≠p:=p3.ne nL;have e7:aH p H H7:=((e4.trans (aH.of s5)).trans s6).trans s7;have s47:aH p H4 H7:=((aH.of s5).trans s6).trans s7;have WM:=s47 _ _ Uy C0;have WN:PO H7 zs:=fun z hz=>s47 _ _ (sJ z hz) (p4.neT (sJ z hz));have WO:H7 a=some (.tup (NV (hs.map Int.toNat))):=by rw[<-Nf fun x hx=>(ZX x hx).1];exact s7 _ _ WK (p6.neT WK)
  have hs7:H7 sa=some (.tup ((WL.map IU).map oV)):=by rw[<-UC fun x hx=>(so.rg x hx).1];exact Ww
  have ou7:=(TH.fK s6).fK s7;have uN:(WL.map IU).length<=16:=by rw[aI];lia
  have hml:(WL.map IU).length=m:=by rw[aI];lia
  generalize hs.map Int.toNat=homes at *;generalize WL.map IU=st at *;clear ZX so nh stl WK Ww Ni;have d9:=SG.len;refine⟨_,rfl,a,rfl,⟨_,bW.of WO⟩,fun FA ZY=>?_⟩;refine yK (K:=K) (a:=a) (xs:=NV homes) (fun i ys σ H8=>(∃u,σ=[u,some (.int (n:Int)),some (.ref LT)])/\aA H7 H8/\∃ij:List Addr,ys=ij.map V.ref/\H8 FA=some (.lst ys)/\ij.length=i/\∀j,j<i->H8 (ij.getD j 0)=some (.lst (NV ((List.range n).map fun x=>far (zp zs) x (homes.getD j 0))))/\H7 (ij.getD j 0)=none/\ij.getD j 0≠FA) ⟨⟨_,rfl⟩,ah ZY,[],rfl,af,rfl,fun j hj=>absurd hj (jH _)⟩ (fun i ys σ H8 _ z=>bW.of (z.2.1 _ _ WO)) ?_ ?_
  .rintro i x ys σ H8 Kt Kf hx ⟨⟨u,rfl⟩,s8,ij,rfl,UO,fl,rows⟩ kt kf;have hi:i<homes.length:=by have:=(dO.mp hx).1;rwa [bS] at this
   obtain rfl:x=.int ((homes.getD i 0:Nat):Int):=by rw[jz hi] at hx;exact(bh hx).symm
   have hh:=SG.hs (homes.getD i 0) (by rw[dz hi];exact fV _);refine⟨_,rfl,_,rfl,_,rfl,LT,n,homes.getD i 0,zs,rfl,s8 _ _ WM,WN.same s8,Fi,hh,fun r9 H9 s9 ZZ hr9=>?_⟩;have hF9:=s9 _ _ UO;have nr:r9≠FA:=fun z=>by rw[z,UO] at ZZ;cases ZZ
   refine kt _ _ _ hF9 (by rw[aI,fl];exact b_ (show i<17 by lia) (by decide)) ⟨⟨_,rfl⟩,bf (s8.trans s9) ZY,ij++[r9],by rw[bT];rfl,af,by rw[ce,fl];rfl,fun j hj=>?_⟩;by_cases c:j=i
   .have eg:(ij++[r9]).getD j 0=r9:=by rw[bv,qo (by lia),show j-ij.length=0 by lia];rfl
    rw[eg,c];exact⟨by rw[ao nr];exact hr9,s8.free ZZ,nr⟩
   .have eg:(ij++[r9]).getD j 0=ij.getD j 0:=by rw[bv,k6 (by lia),<-bv]
    rw[eg];obtain⟨x1,x2,x3⟩:=rows j (by lia);exact⟨by rw[ao x3];exact s9 _ _ x1,x2,x3⟩
  rintro ys σ H8 ⟨_,s8,ij,rfl,UO,fl,rows⟩;rw[bS] at fl rows;have p8:=p7.same s8;have Rb:pD p H8 FA ij n (zp zs) homes:=⟨UO,fl,fun i hi=>(rows i hi).1,p7.ne ZY,fun i hi=>p7.ne (rows i hi).2.1⟩
  have e8:aH p H H8:=e7.trans (aH.of s8);have t8:mD Pt H8:=tb.kE e8 hp;have t38:=t3.kE e8 hp;have tr8:tG Pr H8:=tr.kE e8 hp;refine⟨_,rfl,_,rfl,LT,_,rfl,.inl (aV.of (s8 _ _ WM)),fun Z hZ bx dx nx ZW nex=>?_⟩;have sD:=ah (o:=.lst (zr zs)) hZ;have hZ1:upd H8 Z (.lst (zr zs)) Z=some (.lst (zr zs)):=af;generalize upd H8 Z (.lst (zr zs))=PJ at *;have sN:aA PJ (upd (upd PJ dx (.own bx)) bx (.ins C dx [])):=(ah (o:=.own bx) ZW).trans (ah (D:=bx) (o:=.ins C dx []) (by rw[ao nex.symm];exact nx));have Rc:(upd (upd PJ dx (.own bx)) bx (.ins C dx [])) bx=some (.ins C dx []):=af;generalize upd (upd PJ dx (.own bx)) bx (.ins C dx [])=HM at *;have Nj:aA H8 HM:=sD.trans sN;have tM:=t8.same Nj;refine⟨bx,dx,n,Z,zs,rfl,Rc,⟨Fi,sN _ _ hZ1,fun z hz=>Nj _ _ (s8 _ _ (WN z hz))⟩,tM,fun LH NA t11 Re=>⟨rfl,?_⟩⟩;have sj:KN H8 LH:=fun b o e nt=>Re _ _ (Nj _ _ e) (fun z=>by subst z;exact aj (sD _ _ e) nx rfl) (tM.not (Nj _ _ e) nt);have nl:∀ {xs},Dc (.lst xs):=fun {xs} ps z=>by cases z
  have nt:∀ {xs},Dc (.tup xs):=fun {xs} ps z=>by cases z
  have p11:bn LH p:=by obtain⟨x,y,z,e,r⟩:=p8;exact⟨x,y,z,sj _ _ e nl,r⟩
  have Rf:=ou7.same s8;have PU:Cs C Pt PN PF PT Pr p O FA a sa LT bx as ij n zs homes st LH:=by
   refine⟨p11,⟨sj _ _ Rf.at_ nl,Rf.len,fun h hh=>let ⟨js,e,pm⟩:=Rf.rows h hh;⟨js,sj _ _ e nl,pm⟩,Rf.np,Rf.Ho⟩,⟨sj _ _ Rb.at_ nl,Rb.len,fun i hi=>sj _ _ (Rb.rows i hi) nl,Rb.np,Rb.Ho⟩,sj _ _ (s8 _ _ WO) nt,sj _ _ (s8 _ _ hs7) nt,sj _ _ (s8 _ _ WM) nl,fun z hz=>sj _ _ (s8 _ _ (WN z hz)) nt,C0,(p8.same sD).ne nx,⟨_,NA,fun z=>(p8.same Nj).full z⟩,t11,?_,?_⟩
   .have t:=t38.same Nj;exact⟨t.n.kD Rc tM.gQ nP.1.1 Re,t.f.kD Rc tM.gQ nP.1.2.1 Re,t.t.kD Rc tM.gQ nP.1.2.2 Re⟩
   .exact cC.kD (tr8.same Nj) Rc tM.gQ nP.2 Re
  have k11:KE p H LH:=(KE.of e8).trans (KE.kn sj);clear sj Re tM Nj Rc sN sD hZ1 NA t11 Rb rows UO Rf p11 t38 tr8 t8 p8 hs7 WO WN WM ou7 sJ Uy Ws;refine rV (fun σ Hx=>LH=Hx/\σ=[some (.ref p),some (.int (Ig:Int)),some (.int (sz:Int)),some (.int (m:Int)),some (.int (n:Int)),some (.ref LT),some (.ref O),some (.ref a),some (.ref sa),some (.ref FA),some (.ref bx),none,none,none]) ?_ (fun N hN=>hN _ _ ⟨rfl,rfl⟩);rintro σ Hx ⟨rfl,rfl⟩;refine rV (fun σ Hx=>∃ (PV:Addr) (N:Nat) (fL:List Addr) (ss ls:Nat->List (Option Nat)),σ=[some (.ref p),some (.int (Ig:Int)),some (.int (sz:Int)),some (.int (m:Int)),some (.int (n:Int)),some (.ref LT),some (.ref O),some (.ref a),some (.ref sa),some (.ref FA),some (.ref bx),some (.ref PV),none,none]/\Cs C Pt PN PF PT Pr p O FA a sa LT bx as ij n zs homes st Hx/\KE p H Hx/\gO Hx PV fL N ls/\jp n (zp zs) homes st N ss ls/\N<=500) ?_ ?_
  rotate_left
  .intro N' hN;refine Bd (fun Hk=>LH=Hk/\Ig<4) (fun Hk=>LH=Hk) ?_ ?_ ?_
   .rintro _ ⟨rfl,w4⟩;intro y1 d1 ny1 Ye ne1;have m1:=kR (c:=CE) ny1 Ye ne1;have g1:(upd (upd LH d1 (.own y1)) y1 (.ins CE d1 [])) y1=some (.ins CE d1 []):=af;generalize upd (upd LH d1 (.own y1)) y1 (.ins CE d1 [])=K1 at *;intro y2 d2 ny2 Oj ne2;have m2:=kR (c:=CN) ny2 Oj ne2;have g2:(upd (upd K1 d2 (.own y2)) y2 (.ins CN d2 [])) y2=some (.ins CN d2 []):=af;generalize upd (upd K1 d2 (.own y2)) y2 (.ins CN d2 [])=K2 at *;intro y3 d3 ny3 nd3 ne3;have m3:=kR (c:=CF) ny3 nd3 ne3;have g3:(upd (upd K2 d3 (.own y3)) y3 (.ins CF d3 [])) y3=some (.ins CF d3 []):=af;generalize upd (upd K2 d3 (.own y3)) y3 (.ins CF d3 [])=K3 at *;intro y4 d4 ny4 nd4 ne4;have m4:=kR (c:=CT) ny4 nd4 ne4;have g4:(upd (upd K3 d4 (.own y4)) y4 (.ins CT d4 [])) y4=some (.ins CT d4 []):=af;generalize upd (upd K3 d4 (.own y4)) y4 (.ins CT d4 [])=K4 at *;refine⟨by show 4<=sizeLine;decide,fun LL WJ=>?_⟩;have m5:=ah (o:=.lst [.ref y1,.ref y2,.ref y3,.ref y4]) WJ;obtain⟨ya,hya,rl⟩:∃ya,([V.ref y1,V.ref y2,V.ref y3,V.ref y4])[Ig]?=some (.ref ya)/\Pl [CE,CN,CF,CT] (upd K4 LL (.lst [.ref y1,.ref y2,.ref y3,.ref y4])) ya:=by
     match Ig,w4 with
     |0,_=>exact⟨y1,rfl,CE,d1,by simp,m5 _ _ (m4 _ _ (m3 _ _ (m2 _ _ g1)))⟩
     |1,_=>exact⟨y2,rfl,CN,d2,by simp,m5 _ _ (m4 _ _ (m3 _ _ g2))⟩
     |2,_=>exact⟨y3,rfl,CF,d3,by simp,m5 _ _ (m4 _ _ g3)⟩
     |3,_=>exact⟨y4,rfl,CT,d4,by simp,m5 _ _ g4⟩
    have PD:(upd K4 LL (.lst [.ref y1,.ref y2,.ref y3,.ref y4])) LL=some (.lst [.ref y1,.ref y2,.ref y3,.ref y4]):=af;have sm:=(((m1.trans m2).trans m3).trans m4).trans m5;generalize upd K4 LL _=K5 at *;have c5:=PU.same sm;obtain⟨L5,N5,_⟩:=c5.net;refine⟨_,rfl,LL,_,_,_,rfl,rfl,aV.of PD,az hya,_,rfl,_,rfl,_,rfl,_,rfl,L5,ya,bx,a,sa,n,zp zs,homes,st,sz,rfl,rl,N5,c5.hh,c5.hs,SG,uN,by lia,c5.t3,c5.tr,fun rr N v9 ss ls UP G nm _ Z0 Z1 tE hrr ho=>?_⟩;have LI:KN K5 UP:=fun b o e nt=>tE _ _ e (c5.t3.n.not e nt) (c5.t3.f.not e nt) (c5.t3.t.not e nt) (c5.tr.not e nt);have Z2:mD Pt UP:=by
     rcases c5.tp with z|⟨k,z,y⟩
     .exact .inl (tE _ _ z nP.1.1.symm nP.1.2.1.symm nP.1.2.2.symm nP.2.symm)
     .exact .inr ⟨k,tE _ _ z nP.1.1.symm nP.1.2.1.symm nP.1.2.2.symm nP.2.symm,LI _ _ y (by intro ps w;cases w)⟩
    have Z3:bn UP p:=by obtain⟨x,y,z,e,r⟩:=c5.pt;exact⟨x,y,z,LI _ _ e nl,r⟩
    refine hN _ _ ⟨rr,N,v9,ss,ls,rfl,c5.ke (KE.kn LI) Z3 Z2 Z0 Z1,(k11.trans (KE.kn fun b o e _=>sm b o e)).trans (KE.kn LI),⟨hrr,ho⟩,G,by lia⟩
   .rintro _ rfl;refine⟨_,rfl,_,rfl,_,rfl,_,rfl,_,rfl,_,rfl,p,O,FA,a,sa,as,ij,n,zp zs,homes,st,sz,rfl,PU.pt,PU.ou,Fi,PU.fr,PU.hh,PU.hs,SG,uN,by lia,fun rr fL ss ls UP G QN p12 nrr rows=>?_⟩;exact hN _ _ ⟨rr,sz,fL,ss,ls,rfl,PU.fK QN p12,k11.trans (KE.of QN),rows,G,by lia⟩
   .intro Y N0 yy nn;exact⟨_,rfl,_,_,rfl,rfl,_,rfl,eA (fun e=>yy _ ⟨rfl,by have:=dk e;lia⟩) (fun e=>nn _ rfl)⟩
  rintro σ UP ⟨PV,N,fL,ss,ls,rfl,Z4,tE,rows,G,UQ⟩;refine⟨_,rfl,_,rfl,_,rfl,a,sa,PV,n,zp zs,homes,st,N,fL,ss,ls,rfl,Z4.hh,Z4.hs,Fi,SG,uN,UQ,G,rows,fun SA iN H13 Z5 nSA UR=>?_⟩;have Z6:=Z4.same Z5;refine⟨_,rfl,_,rfl,LT,n,zs,rfl,Z6.hT,Z6.po,Fi,zl,fun e H14 IS od=>?_⟩;have c14:=Z6.same IS;obtain⟨Q_,Ra,G',q1,q2,q3,q4⟩:=G.clamp Fi SG;have Z7:IM H14 SA PV iN fL st.length N Q_ Ra:=⟨(UR.same IS).UM fun k hk=>q1 k (by lia),((rows.same Z5).same IS).UM q2,q3,q4,UQ⟩
  refine⟨_,rfl,_,rfl,by lia,by lia,fun D hD=>?_⟩;rw[fT];refine dh (lo:=0) (n:=m) (fun i ys σ WP=>(∃u,σ=[u,some (.ref bx),some (.ref FA),some (.bl e),some (.ref a),some (.ref SA),some (.ref PV)])/\aA H14 WP/\WP D=some (.lst ys)/\ys=(List.replicate i true).map V.bl) ⟨⟨_,rfl⟩,ah hD,af,rfl⟩ ?_ ?_
  .rintro i ys σ WP Kt Kf hi ⟨⟨u,rfl⟩,IQ,PX,rfl⟩ kt kf;rw[fm];have LJ:=c14.same IQ;obtain⟨L15,N15,_⟩:=LJ.net;have IW:i<homes.length:=by rw[d9,hml];exact hi
   refine⟨_,rfl,_,rfl,_,rfl,FA,_,_,_,rfl,rfl,aV.of LJ.fr.at_,r6 (by rw[LJ.fr.len];exact IW),_,rfl,_,rfl,_,rfl,_,rfl,_,rfl,L15,bx,ij.getD i 0,a,SA,PV,iN,fL,n,zp zs,homes,st,N,Q_,Ra,i,e,rfl,N15,LJ.fr.rows i IW,LJ.hh,Z7.same IQ,G',SG,fun a b z=>sy z,fun ee=>fun {a b}=>od ee,by rw[hml];exact hi,fun H16 s16=>?_⟩;refine kt _ _ _ (s16 _ _ PX) (by rw[aI,k7];exact b_ (show i<18 by lia) (by decide)) ⟨⟨_,rfl⟩,bf (IQ.trans s16) hD,af,by rw[u3,bT];rfl⟩
  .rintro ys σ WP ⟨_,IQ,PX,rfl⟩;refine⟨D,List.replicate m true,rfl,aV.of PX,?_⟩;have LJ:=c14.same IQ;rw[show (List.replicate m true).all id=true by rw[i6];intro x hx;rw[List.eq_of_mem_replicate hx];rfl];exact q _ (tE.trans (KE.kn fun b o e _=>IQ _ _ (IS _ _ (Z5 _ _ e)))) LJ.tp LJ.t3 LJ.tr
end
abbrev BB:Stmt:=top 67
theorem yQ:(["_law_k","_law_script"]:List Str).Nodup:=by decide +kernel
section
variable {P:Program} {w:World} {K:PySem.W.Frag} {mg:Str->Option Value} {base:Heap}
def Nk(K:PySem.W.Frag)(H:Hp)(a:Addr)(xs:List V):Prop:=(∃o,H a=some (.xg o (.lst xs)))\/(∀H':Hp,aV K H' a xs)
theorem Nk.seq{H:Hp}{a:Addr}{xs:List V}(h:Nk K H a xs):aV K H a xs:=by
 rcases h with ⟨o,h⟩|h
 .exact .inl (.inr ⟨o,h⟩)
 .exact h H
theorem Nk.mono{H H':Hp}{a:Addr}{xs:List V}(h:Nk K H a xs)(e:∀o u,H a=some (.xg o u)->H' a=some (.xg o u)):Nk K H' a xs:=by
 rcases h with ⟨o,h⟩|h
 .exact .inl ⟨o,e _ _ h⟩
 .exact .inr h
theorem US:aG ["_law_script"] ["_law_script"] (ak BB):=⟨rfl,rfl,rfl,by decide +kernel,rfl,by decide +kernel,by decide +kernel⟩
def Di(K:PySem.W.Frag)(Pt PN PF PT Pr:Addr):Sp:=fun vs H Q _=>∃ (a:Addr) (ns:List Int),vs=[.ref a]/\Nk K H a (ns.map V.int)/\ns.length<=63/\mD Pt H/\T3 PN PF PT H/\tG Pr H/\∀H',Q (.bl true) H'
theorem PY{f Pt PN PF PT Pr:Addr}{fd:FuncData}(F:fY K "law" "law" BB f fd)(B:Bl mg)(PTC:cs P w K mg base a7 1 "_law_pot" ["_law_script","_law_k"] (CQ K))(RT:cs P w K mg base a7 14 "_law_right" ["_law_pot_here"] (LC Pt PN PF PT Pr)):bo P w K mg base a7 15 f fd ["_law_script"] (Di K Pt PN PF PT Pr):=by
 refine F.ok US (fun vs H Q E h=>?_) (fun dN A outer s H vs Q E hr h=>?_)
 .obtain⟨a,ns,rfl,_⟩:=h;rfl
 .obtain⟨a,ns,rfl,hS,ue,tb,t3,tr,q⟩:=h;have h1:bQ 1 _:=hr.mono (by decide);refine'⟨_,(ap (aR (aD (oA rfl) (by rfl) B.all zm (aa ?c1 ag)))),?_⟩;case c1=>
   refine' bz (g:=(be 0)) (te:=(iR (LC Pt PN PF PT Pr) [] E0 (aZ (iR (CQ K) [] E0 (aZ (aB 1) (aZ (aB 0) fg))) fg))) (NB:=["_law_k","_law_script"]) (src:=[none,some 0]) (a_ (by kernel_rfl)) rfl (bq rfl B.range (aa (aD (kC rfl) (by rfl) B.max uV (aa aq (aa (aD (kG rfl) (by rfl) B.min uU (aa aq (aa (aD aO (by rfl) B.len dU (aa (pv 0) ag)) ag))) ag))) ag)) ?g ?t ?e;case g=>exact fun cl C s₃ H₃ fp=>(au (i:=0) yQ rfl (Or.inl rfl) (Or.inr rfl))
   case t=>exact fun cl C s₃ H₃ fp=>b8
   case e=>exact fun cl C s₃ H₃ fp=>(aF RT hr aK (aa (aF PTC h1 aK (aa (pv 1) (aa (pv 0) ag))) ag))
  refine⟨_,rfl,a,_,rfl,.inl hS.seq,3,_,rfl,1,_,rfl,_,rfl,?_⟩;obtain⟨j,hj,j1⟩:∃j:Int,(if (if (((ns.map V.int).length:Nat):Int)<3 then (((ns.map V.int).length:Nat):Int) else 3) > 1 then (if (((ns.map V.int).length:Nat):Int)<3 then (((ns.map V.int).length:Nat):Int) else 3) else 1)=j/\1<=j/\j<=3:=⟨_,rfl,by split <;> split <;> lia⟩
  rw[hj];refine⟨by lia,by lia,fun D hD=>?_⟩;have sD:=ah (o:=.lst []) hD;refine dh (lo:=0) (fun k ys σ Hc=>(∃u,σ=[u,some (.ref a)])/\Nk K Hc a (ns.map V.int)/\(mD Pt Hc/\T3 PN PF PT Hc/\tG Pr Hc)/\Hc D=some (.lst ys)/\∃bs:List Bool,ys=bs.map V.bl/\bs.length=k/\bs.all id=true) ⟨⟨_,rfl⟩,hS.mono fun o u e=>ah hD _ _ e,⟨tb.same sD,t3.same sD,tr.same sD⟩,af,[],rfl,rfl,rfl⟩ ?_ ?_
  .rintro k ys σ Hc Kt Kf hk ⟨⟨u,rfl⟩,Sc,⟨tc,tc3,tcr⟩,y8,bs,rfl,bl,ba⟩ kt kf;rw[fm];refine⟨_,rfl,_,rfl,a,ns,k,rfl,Sc.seq,by lia,fun p H1 WQ Ov KP=>?_⟩;refine⟨p,rfl,KP,tc.same WQ,tc3.same WQ,tcr.same WQ,fun H2 y7 t2 t32 tr2=>?_⟩;have kp:∀ {b o},Hc b=some o->(∀ps,o≠.gQ ps)->H2 b=some o:=fun {b o} e nt=>y7 _ _ (WQ _ _ e) nt (aj e Ov);have hX:=kp y8 (by intro ps z;cases z);refine kt _ _ _ hX (by rw[aI,bl];exact b_ (show k<33 by lia) (by decide)) ⟨⟨_,rfl⟩,Sc.mono fun o u e=>?_,?_,af,bs++[true],by rw[bT];rfl,by rw[ce,bl];rfl,by rw[List.all_append,ba];rfl⟩
   .have e2:=kp e (by intro ps z;cases z);rw[ao (by rintro rfl;rw[y8] at e;cases e)];exact e2
   .exact⟨t2.putL hX,t32.putL hX,tr2.putL hX⟩
  .rintro ys σ Hc ⟨_,_,_,y8,bs,rfl,bl,ba⟩;refine⟨D,bs,rfl,aV.of y8,?_⟩;rw[ba];exact q _
end
def FD(K:PySem.W.Frag)(n:Str)(st:Stmt):Prop:=∃ (f:Addr) (oc:Value) (od an:Option Addr) (sl:Array (Option Value)) (kV dc pm cd ct:Value),PySem.W.nsIn K mainGlobals n=some (some (.ref f))/\K.lookup f=some ⟨oc,od,.func (PySem.W.fnOf n n (df st) (cn st) (ak st) .none kV dc pm an cd ct),sl⟩/\PySem.W.codeIn K cd n=true/\PySem.W.keepIn K (.ref f)=true
def FC(K:PySem.W.Frag)(n:Str)(st:Stmt)(c:Addr):Prop:=∃ (f:Addr) (oc:Value) (od an:Option Addr) (sl:Array (Option Value)) (kV dc pm ct:Value),PySem.W.nsIn K mainGlobals n=some (some (.ref f))/\K.lookup f=some ⟨oc,od,.func (PySem.W.fnOf n n (df st) (cn st) (ak st) .none kV dc pm an (.ref c) ct),sl⟩/\PySem.W.codeIn K (.ref c) n=true/\PySem.W.keepIn K (.ref f)=true
def MD(K:PySem.W.Frag)(C:Addr)(n q:Str)(st:Stmt):Prop:=∃ (f:Addr) (oc:Value) (od an:Option Addr) (sl:Array (Option Value)) (kV dc pm cd ct:Value),PySem.W.findIn K (.ref C) n=some (some (.ref f))/\PySem.W.isFn K (.ref f)=true/\K.lookup f=some ⟨oc,od,.func (PySem.W.fnOf n q (df st) (cn st) (ak st) .none kV dc pm an cd ct),sl⟩/\PySem.W.codeIn K cd q=true/\PySem.W.keepIn K (.ref f)=true
def MC(K:PySem.W.Frag)(C:Addr)(n q:Str)(st:Stmt)(c:Addr):Prop:=∃ (f:Addr) (oc:Value) (od an:Option Addr) (sl:Array (Option Value)) (kV dc pm ct:Value),PySem.W.findIn K (.ref C) n=some (some (.ref f))/\PySem.W.isFn K (.ref f)=true/\K.lookup f=some ⟨oc,od,.func (PySem.W.fnOf n q (df st) (cn st) (ak st) .none kV dc pm an (.ref c) ct),sl⟩/\PySem.W.codeIn K (.ref c) q=true/\PySem.W.keepIn K (.ref f)=true
section
variable {P:Program} {w:World} {K:PySem.W.Frag} {mg:Str->Option Value} {base h:Heap} {n q:Str} {st:Stmt} {f c C:Addr} {oc kV dc pm cd ct:Value} {od an:Option Addr} {sl:Array (Option Value)} {CX:xi} {k:Nat} {ps:List Str} {sp:Sp}
theorem FD.mk(a:PySem.W.nsIn K mainGlobals n=some (some (.ref f)))(l:K.lookup f=some ⟨oc,od,.func (PySem.W.fnOf n n (df st) (cn st) (ak st) .none kV dc pm an cd ct),sl⟩)(d:PySem.W.codeIn K cd n=true)(k:PySem.W.keepIn K (.ref f)=true):FD K n st:=⟨f,oc,od,an,sl,kV,dc,pm,cd,ct,a,l,d,k⟩
theorem FC.mk(a:PySem.W.nsIn K mainGlobals n=some (some (.ref f)))(l:K.lookup f=some ⟨oc,od,.func (PySem.W.fnOf n n (df st) (cn st) (ak st) .none kV dc pm an (.ref c) ct),sl⟩)(d:PySem.W.codeIn K (.ref c) n=true)(k:PySem.W.keepIn K (.ref f)=true):FC K n st c:=⟨f,oc,od,an,sl,kV,dc,pm,ct,a,l,d,k⟩
theorem MD.mk(a:PySem.W.findIn K (.ref C) n=some (some (.ref f)))(i:PySem.W.isFn K (.ref f)=true)(l:K.lookup f=some ⟨oc,od,.func (PySem.W.fnOf n q (df st) (cn st) (ak st) .none kV dc pm an cd ct),sl⟩)(d:PySem.W.codeIn K cd q=true)(k:PySem.W.keepIn K (.ref f)=true):MD K C n q st:=⟨f,oc,od,an,sl,kV,dc,pm,cd,ct,a,i,l,d,k⟩
theorem MC.mk(a:PySem.W.findIn K (.ref C) n=some (some (.ref f)))(i:PySem.W.isFn K (.ref f)=true)(l:K.lookup f=some ⟨oc,od,.func (PySem.W.fnOf n q (df st) (cn st) (ak st) .none kV dc pm an (.ref c) ct),sl⟩)(d:PySem.W.codeIn K (.ref c) q=true)(k:PySem.W.keepIn K (.ref f)=true):MC K C n q st c:=⟨f,oc,od,an,sl,kV,dc,pm,ct,a,i,l,d,k⟩
def BD(n q:Str)(st:Stmt)(ps:List Str):Prop:=∀ (kV mf pm:Value) (an:Option Addr) (dN ct:Value) (us:List Value),us.length=ps.length->bindArgs (PySem.W.fnOf n q (df st) (cn st) (ak st) .none kV mf pm an dN ct) ⟨us,[]⟩=pure (ps.zip us)
theorem FD.fN(X:K.In h)(G:h.Ns mainGlobals mg)(D:FD K n st)(b:BD n n st ps)(o:∀ {f fd},fY K n n st f fd->bo P w K mg base CX k f fd ps sp):cs P w K mg base CX k n ps sp:=by
 obtain⟨f,_,_,_,_,_,_,_,_,_,a,l,d,kp⟩:=D;have F:=vK (x:=n) (qual:=n) (st:=st) l d kp;exact⟨⟨f,_,gy X G a,kp,F.binds b,o F⟩⟩
theorem FC.fN(X:K.In h)(G:h.Ns mainGlobals mg)(D:FC K n st c)(b:BD n n st ps)(o:∀ {f fd},pJ K n n st f fd c->bo P w K mg base CX k f fd ps sp):cs P w K mg base CX k n ps sp:=by
 obtain⟨f,_,_,_,_,_,_,_,_,a,l,d,kp⟩:=D;have F:=Ca (x:=n) (qual:=n) (st:=st) l d kp;exact⟨⟨f,_,gy X G a,kp,F.fun.binds b,o F⟩⟩
theorem MD.fN(D:MD K C n q st)(b:BD n q st ps)(o:∀ {f fd},fY K n q st f fd->bo P w K mg base CX k f fd ps sp):ic P w K mg base CX k C n ps sp:=by
 obtain⟨f,_,_,_,_,_,_,_,_,_,a,i,l,d,kp⟩:=D;have F:=vK (x:=n) (qual:=q) (st:=st) l d kp;exact⟨⟨f,_,⟨a,i,kp⟩,F.binds b,o F⟩⟩
theorem MC.fN(D:MC K C n q st c)(b:BD n q st ps)(o:∀ {f fd},pJ K n q st f fd c->bo P w K mg base CX k f fd ps sp):ic P w K mg base CX k C n ps sp:=by
 obtain⟨f,_,_,_,_,_,_,_,_,a,i,l,d,kp⟩:=D;have F:=Ca (x:=n) (qual:=q) (st:=st) l d kp;exact⟨⟨f,_,⟨a,i,kp⟩,F.fun.binds b,o F⟩⟩
end
theorem pE{α:Type}{P:List α->Prop}(h:∀a0,P [a0])(l:List α)(e:l.length=1):P l:=by
 cases l with
 |nil=>cases e
 |cons a t=>cases t with
  |nil=>exact h a
  |cons b t=>cases e
theorem ff{α:Type}{P:List α->Prop}(h:∀a0 a1,P [a0,a1])(l:List α)(e:l.length=2):P l:=by
 cases l with
 |nil=>cases e
 |cons a t=>exact pE (P:=fun t=>P (a::t)) (h a) t (nF e)
theorem iu{α:Type}{P:List α->Prop}(h:∀a0 a1 a2,P [a0,a1,a2])(l:List α)(e:l.length=3):P l:=by
 cases l with
 |nil=>cases e
 |cons a t=>exact ff (P:=fun t=>P (a::t)) (h a) t (nF e)
theorem sq{α:Type}{P:List α->Prop}(h:∀a0 a1 a2 a3,P [a0,a1,a2,a3])(l:List α)(e:l.length=4):P l:=by
 cases l with
 |nil=>cases e
 |cons a t=>exact iu (P:=fun t=>P (a::t)) (h a) t (nF e)
theorem ky{α:Type}{P:List α->Prop}(h:∀a0 a1 a2 a3 a4,P [a0,a1,a2,a3,a4])(l:List α)(e:l.length=5):P l:=by
 cases l with
 |nil=>cases e
 |cons a t=>exact sq (P:=fun t=>P (a::t)) (h a) t (nF e)
theorem Nl{α:Type}{P:List α->Prop}(h:∀a0 a1 a2 a3 a4 a5,P [a0,a1,a2,a3,a4,a5])(l:List α)(e:l.length=6):P l:=by
 cases l with
 |nil=>cases e
 |cons a t=>exact ky (P:=fun t=>P (a::t)) (h a) t (nF e)
theorem UT{α:Type}{P:List α->Prop}(h:∀a0 a1 a2 a3 a4 a5 a6,P [a0,a1,a2,a3,a4,a5,a6])(l:List α)(e:l.length=7):P l:=by
 cases l with
 |nil=>cases e
 |cons a t=>exact Nl (P:=fun t=>P (a::t)) (h a) t (nF e)
theorem PZ{l:PySem.W.OpenLaw}{w:World}{K:PySem.W.Frag}{h:Heap}{mg:Str->Option Value}{fa:Addr}(X:K.In h)(G:h.Ns mainGlobals mg)(QW:mg "law"=some (.ref fa)){C cO Pt cW Pr cN PN cF PF cT PT cS bN bu cU iZ:Addr}{pR tH pS:Tok}(aC:PySem.W.nsIn K mainGlobals "Net"=some (some (.ref C)))(LK:PySem.W.nsIn K mainGlobals "Elder"=some (some (.ref cS)))(Ex:PySem.W.nsIn K mainGlobals "Nearest"=some (some (.ref bN)))(BC:PySem.W.nsIn K mainGlobals "Farthest"=some (some (.ref bu)))(LM:PySem.W.nsIn K mainGlobals "Turns"=some (some (.ref cU)))(Im:PySem.W.nsIn K mainGlobals "InTurn"=some (some (.ref iZ)))(LN:FD K "is_whole" Bb)(Io:FD K "is_whole_within" wo)(LP:FD K "is_house" Bc)(UU:FD K "is_row" Ot)(UV:FD K "are_unlike_houses" OB)(UX:FD K "is_tie" Oz)(LQ:FD K "check_ties" Bh)(UY:FD K "check_balance" OA)(P0:FC K "houses_out" yA cO)(P1:FD K "distances_from" GS)(LU:FD K "check_reached" Bi)(LV:FD K "is_led" Bv)(Z8:FD K "is_handed_on" Y_)(Z9:FD K "beats_under_way" Za)(Z_:FD K "waited_at" Zb)(aaa:FD K "home_at" Zc)(aab:FD K "led_at" Zd)(aac:FD K "under_way" Zg)(aad:FD K "stand_behind" Zu)(aae:FD K "first_free" Zh)(aaf:FD K "hand_in_turn" sHT)(aag:FD K "hand_eagerly" Zq)(P3:FD K "hand" HJ)(UZ:FD K "log_by" Po)(U0:FC K "run" Ll cW)(aah:FD K "stands_of" ZO)(U1:FD K "_law_pot" OO)(Ip:FD K "_law_take" GZ)(LW:FD K "_law_sides" wz)(U2:FD K "_law_box_pairs" OR)(P4:FD K "_law_tree_pairs" Hg)(P5:FD K "_law_more_pairs" CU)(aai:FD K "_law_two_way" Uv)(LX:FD K "_law_outs" Bs)(aaj:FD K "_law_homeward" Y6)(LY:FD K "_law_homes" Bt)(LZ:FD K "_law_begun" Bu)(U3:FD K "_law_behind" O0)(aak:FD K "_law_handing" ZF)(aal:FD K "_law_log" ZG)(aam:FD K "_law_is_even" Zz)(aan:FD K "_law_letter_right" ZS)(aao:FD K "_law_right" ZV)(U4:FD K "law" BB)(P6:MD K C "__init__" "Net.__init__" CH)(L6:MD K C "check_house" "Net.check_house" Be)(U5:MD K C "far" "Net.far" Ox)(U6:MD K C "out" "Net.out" Ow)(P7:MD K C "good" "Net.good" GD)(pg:PySem.W.plainGet K C Str.empty=true)(aap:PySem.W.hasDictIn K C=true)(po:PySem.W.plainOver K C=true)(sa:PySem.W.findIn K (.ref C) "__setattr__"=some (some (.builtin "object.__setattr__")))(mk:PySem.W.makesIn K C=true)(kc:PySem.W.keepIn K (.ref C)=true)(nH:PySem.W.findIn K (.ref C) "house_count"=some none)(nT:PySem.W.findIn K (.ref C) "tie_list"=some none)(nO:PySem.W.findIn K (.ref C) "out_lists"=some none)(nD:PySem.W.findIn K (.ref C) "distances"=some none)(w_:PySem.W.nsIn K mainGlobals "isinstance"=some none)(U7:PySem.W.nsIn K mainGlobals "int"=some none)(P8:PySem.W.nsIn K mainGlobals "bool"=some none)(L7:PySem.W.nsIn K mainGlobals "tuple"=some none)(P9:PySem.W.nsIn K mainGlobals "list"=some none)(U8:PySem.W.nsIn K mainGlobals "str"=some none)(U9:PySem.W.nsIn K mainGlobals "set"=some none)(U_:PySem.W.nsIn K mainGlobals "len"=some none)(L8:PySem.W.nsIn K mainGlobals "range"=some none)(Iq:PySem.W.nsIn K mainGlobals "sorted"=some none)(Va:PySem.W.nsIn K mainGlobals "any"=some none)(Vb:PySem.W.nsIn K mainGlobals "max"=some none)(Vc:PySem.W.nsIn K mainGlobals "min"=some none)(xb:PySem.W.nsIn K mainGlobals "ValueError"=some none)(Vd:PySem.W.nsIn K mainGlobals "all"=some none)(Ve:PySem.W.nsIn K mainGlobals "abs"=some none)(Vf:PySem.W.nsIn K mainGlobals "zip"=some none)(yR:PySem.W.nsIn K mainGlobals "enumerate"=some none)(pT:PySem.W.nsIn K mainGlobals "FEWEST_HOUSES"=some (some (.int 2 pR)))(tI:PySem.W.nsIn K mainGlobals "MOST_HOUSES"=some (some (.int 32 tH)))(pU:PySem.W.nsIn K mainGlobals "MOST_TIES_OUT"=some (some (.int 8 pS)))(L9:PySem.W.specialIn K (.builtin "object.__class__") "__get__"=some (some (.builtin "getset_descriptor.__get__")))(L_:PySem.W.takesIn K (.builtin "object.__class__")=some true)(aaq:PySem.W.plainGet K cS Str.empty=true)(aar:PySem.W.hasDictIn K cS=true)(aas:PySem.W.plainOver K cS=true)(aat:PySem.W.findIn K (.ref cS) "__setattr__"=some (some (.builtin "object.__setattr__")))(aau:PySem.W.findIn K (.ref cS) "__class__"=some (some (.builtin "object.__class__")))(aav:PySem.W.mroIn K cS (.type "object")=some true)(aaw:PySem.W.kitOne K (.ref cS) (.ref iZ)=some false)(aax:PySem.W.makesIn K cS=true)(aay:PySem.W.keepIn K (.ref cS)=true)(aaz:PySem.W.findIn K (.ref cS) "__init__"=some (some (.builtin "object.__init__")))(aaA:MD K cS "check_letters" "Rule.check_letters" Ew)(aaB:MD K cS "order" "Rule.order" HI)(aaC:PySem.W.plainGet K bN Str.empty=true)(aaD:PySem.W.hasDictIn K bN=true)(aaE:PySem.W.plainOver K bN=true)(aaF:PySem.W.findIn K (.ref bN) "__setattr__"=some (some (.builtin "object.__setattr__")))(aaG:PySem.W.findIn K (.ref bN) "__class__"=some (some (.builtin "object.__class__")))(aaH:PySem.W.mroIn K bN (.type "object")=some true)(aaI:PySem.W.kitOne K (.ref bN) (.ref iZ)=some false)(aaJ:PySem.W.makesIn K bN=true)(aaK:PySem.W.keepIn K (.ref bN)=true)(aaL:PySem.W.findIn K (.ref bN) "__init__"=some (some (.builtin "object.__init__")))(aaM:MD K bN "check_letters" "Rule.check_letters" Ew)(aaN:MC K bN "order" "Nearest.order" uI cN)(aaO:PySem.W.plainGet K bu Str.empty=true)(aaP:PySem.W.hasDictIn K bu=true)(aaQ:PySem.W.plainOver K bu=true)(aaR:PySem.W.findIn K (.ref bu) "__setattr__"=some (some (.builtin "object.__setattr__")))(aaS:PySem.W.findIn K (.ref bu) "__class__"=some (some (.builtin "object.__class__")))(aaT:PySem.W.mroIn K bu (.type "object")=some true)(aaU:PySem.W.kitOne K (.ref bu) (.ref iZ)=some false)(aaV:PySem.W.makesIn K bu=true)(aaW:PySem.W.keepIn K (.ref bu)=true)(aaX:PySem.W.findIn K (.ref bu) "__init__"=some (some (.builtin "object.__init__")))(aaY:MD K bu "check_letters" "Rule.check_letters" Ew)(aaZ:MC K bu "order" "Farthest.order" uJ cF)(aa0:PySem.W.plainGet K cU Str.empty=true)(aa1:PySem.W.hasDictIn K cU=true)(aa2:PySem.W.plainOver K cU=true)(aa3:PySem.W.findIn K (.ref cU) "__setattr__"=some (some (.builtin "object.__setattr__")))(aa4:PySem.W.findIn K (.ref cU) "__class__"=some (some (.builtin "object.__class__")))(aa5:PySem.W.mroIn K cU (.type "object")=some true)(aa6:PySem.W.kitOne K (.ref cU) (.ref iZ)=some false)(aa7:PySem.W.makesIn K cU=true)(aa8:PySem.W.keepIn K (.ref cU)=true)(aa9:PySem.W.findIn K (.ref cU) "__init__"=some (some (.builtin "object.__init__")))(aba:MD K cU "check_letters" "Rule.check_letters" Ew)(abb:MC K cU "order" "Turns.order" uK cT)(q_n:PySem.W.codeHdIn K cN PN=true)(q_f:PySem.W.codeHdIn K cF PF=true)(q_t:PySem.W.codeHdIn K cT PT=true)(nNF:PN≠PF)(nNT:PN≠PT)(nFT:PF≠PT)(nPr:PN≠Pr/\PF≠Pr/\PT≠Pr)(nPt:(PN≠Pt/\PF≠Pt/\PT≠Pt)/\Pr≠Pt)(P_:PySem.W.codeHdIn K cO Pt=true)(Vg:PySem.W.codeHdIn K cW Pr=true):
  ∃fd:FuncData,(∀ (s:Shared) (v:Value),BindsTo s fd ⟨[v],[]⟩ [("_law_script",v)])/\∀base:Heap,K.In base->base.Ns mainGlobals mg->oq mg base->bo l.prog w K mg base a7 15 fa fd ["_law_script"] (Di K Pt PN PF PT Pr):=by
 obtain⟨abY,oc,od,an,sl,kV,dc,pm,cd,ct,Vh,Vi,Vj,Vk⟩:=U4;have e:=QW.symm.trans (gy X G Vh);cases e;have Vl:=vK (x:="law") (qual:="law") (st:=BB) Vi Vj Vk;obtain⟨f_i,oci,odi,ani,sli,kVi,dci,pmi,cdi,cti,a_i,i_i,l_i,d_i,k_i⟩:=P6;have yS:=vK (x:="__init__") (qual:="Net.__init__") (st:=CH) l_i d_i k_i;have Ir:=yS.binds (ps:=["self","many","ties"]) fun _ _ _ _ _ _=>iu fun _ _ _=>rfl;have MK:Mk K C f_i:=⟨mk,a_i,i_i,kc⟩
 have B:Bl mg:=⟨fS X G w_,fS X G U7,fS X G P8,fS X G L7,fS X G P9,fS X G U8,fS X G U9,fS X G U_,fS X G L8,fS X G Iq,fS X G Va,fS X G Vb,fS X G Vc,fS X G xb,fS X G Vd⟩
 have T:NT K mg C:=⟨⟨pg,aap,po,sa⟩,nH,nT,nO,nD,gy X G aC⟩
 have B2:Bl2 mg:=⟨fS X G Ve⟩
 have mkE:KB K cS:=⟨aax,aaz,aay⟩
 have mkN:KB K bN:=⟨aaJ,aaL,aaK⟩
 have mkF:KB K bu:=⟨aaV,aaX,aaW⟩
 have mkT:KB K cU:=⟨aa7,aa9,aa8⟩
 refine⟨PySem.W.fnOf "law" "law" (df BB) (cn BB) (ak BB) .none kV dc pm an cd ct,fun s v=>.of_eq rfl,fun base kb nb hb=>?_⟩;have Ma:cs l.prog w K mg base a7 1 "is_whole" ["thing"] (wr K):=FD.fN X G LN (fun _ _ _ _ _ _=>pE fun _=>rfl) fun Mb=>Gw Mb B;have sA:cs l.prog w K mg base a7 2 "is_whole_within" ["thing","least","most"] (kd K):=FD.fN X G Io (fun _ _ _ _ _ _=>iu fun _ _ _=>rfl) fun Iu=>Ej Iu Ma;have Dj:cs l.prog w K mg base a7 3 "is_house" ["many","thing"] (qe K):=FD.fN X G LP (fun _ _ _ _ _ _=>ff fun _ _=>rfl) fun Mc=>Gz Mc sA;have Vm:cs l.prog w K mg base a7 1 "is_row" ["thing","length"] (GA K):=FD.fN X G UU (fun _ _ _ _ _ _=>ff fun _ _=>rfl) fun Vn=>Ou Vn B;have Vo:cs l.prog w K mg base a7 4 "are_unlike_houses" ["many","one","other"] GJ:=FD.fN X G UV (fun _ _ _ _ _ _=>iu fun _ _ _=>rfl) fun Vp=>OC Vp Dj;have Vq:cs l.prog w K mg base a7 5 "is_tie" ["many","thing"] GK:=FD.fN X G UX (fun _ _ _ _ _ _=>ff fun _ _=>rfl) fun Vr=>OD Vr Vm Vo;have Md:cs l.prog w K mg base a7 6 "check_ties" ["many","ties"] kL:=FD.fN X G LQ (fun _ _ _ _ _ _=>ff fun _ _=>rfl) fun Me=>GQ Me B ⟨_,gy X G pT⟩ ⟨_,gy X G tI⟩ sA Vq;have Vs:cs l.prog w K mg base a7 1 "check_balance" ["many","ties"] kL:=FD.fN X G UY (fun _ _ _ _ _ _=>ff fun _ _=>rfl) fun Vt=>OE Vt B ⟨_,gy X G pU⟩;have Qa:cs l.prog w K mg base a7 1 "houses_out" ["many","ties","house"] (wu Pt):=FC.fN X G P0 (fun _ _ _ _ _ _=>iu fun _ _ _=>rfl) fun Qb=>Ku Qb B kb hb P_;have Qc:cs l.prog w K mg base a7 1 "distances_from" ["out_lists","start"] wv:=FD.fN X G P1 (fun _ _ _ _ _ _=>ff fun _ _=>rfl) fun Qd=>Kv Qd B;have Mf:cs l.prog w K mg base a7 1 "check_reached" ["distances"] ww:=FD.fN X G LU (fun _ _ _ _ _ _=>pE fun _=>rfl) fun Mg=>GW Mg B;have Qe:bo l.prog w K mg base a7 7 f_i _ ["self","many","ties"] (Bk C Pt):=Kz yS T B Md Vs Qa Qc Mf;have Dk:ic l.prog w K mg base a7 4 C "check_house" ["self","thing"] (mC C):=MD.fN L6 (fun _ _ _ _ _ _=>ff fun _ _=>rfl) fun Ey=>Ek Ey T Dj;have Dl:ic l.prog w K mg base a7 5 C "far" ["self","one","other"] (kg C):=MD.fN U5 (fun _ _ _ _ _ _=>iu fun _ _ _=>rfl) fun Mh=>Ko Mh T Dk;have Vu:ic l.prog w K mg base a7 5 C "out" ["self","house"] (Bg C):=MD.fN U6 (fun _ _ _ _ _ _=>ff fun _ _=>rfl) fun Mi=>Kn Mi T B Dk;have Qf:ic l.prog w K mg base a7 6 C "good" ["self","house","home"] (wN C):=MD.fN P7 (fun _ _ _ _ _ _=>iu fun _ _ _=>rfl) fun Iv=>HL Iv T Dl;have Mj:cs l.prog w K mg base a7 6 "is_led" ["net","homes","stand","handing","letter"] (qk C):=FD.fN X G LV (fun _ _ _ _ _ _=>ky fun _ _ _ _ _=>rfl) fun Ml=>HG Ml T Dl;have abc:cs l.prog w K mg base a7 3 "is_handed_on" ["stands","log","letter","beat"] (Ld K):=FD.fN X G Z8 (fun _ _ _ _ _ _=>sq fun _ _ _ _=>rfl) fun abd=>TV abd B sA;have Qg:cs l.prog w K mg base a7 4 "beats_under_way" ["stands","log","letter"] HF:=FD.fN X G Z9 (fun _ _ _ _ _ _=>iu fun _ _ _=>rfl) fun abe=>TX abe B abc;have abf:cs l.prog w K mg base a7 5 "waited_at" ["stands","log","letter"] O5:=FD.fN X G Z_ (fun _ _ _ _ _ _=>iu fun _ _ _=>rfl) fun abg=>TZ abg Qg;have abh:cs l.prog w K mg base a7 5 "home_at" ["homes","stands","log","letter"] O6:=FD.fN X G aaa (fun _ _ _ _ _ _=>sq fun _ _ _ _=>rfl) fun abi=>T5 abi Qg;have abj:cs l.prog w K mg base a7 7 "led_at" ["net","homes","stands","log","letter"] (O7 C):=FD.fN X G aab (fun _ _ _ _ _ _=>ky fun _ _ _ _ _=>rfl) fun abk=>T8 abk Qg Mj;have Iw:cs l.prog w K mg base a7 1 "under_way" ["stand"] Bw:=FD.fN X G aac (fun _ _ _ _ _ _=>pE fun _=>rfl) fun abm=>T9 abm (fS X G yR);have Vv:cs l.prog w K mg base a7 1 "stand_behind" ["homes","handing"] HY:=FD.fN X G aad (fun _ _ _ _ _ _=>ff fun _ _=>rfl) fun abn=>Uo abn B (fS X G Vf);have R:Q6 l.prog w K mg base C cS bN bu cU iZ PN PF PT:=⟨⟨⟨aaq,aar,aas,aat⟩,gy X G LK,aau,L9,L_,aav,aaw⟩,⟨⟨aaC,aaD,aaE,aaF⟩,gy X G Ex,aaG,L9,L_,aaH,aaI⟩,⟨⟨aaO,aaP,aaQ,aaR⟩,gy X G BC,aaS,L9,L_,aaT,aaU⟩,⟨⟨aa0,aa1,aa2,aa3⟩,gy X G LM,aa4,L9,L_,aa5,aa6⟩,gy X G Im,(MD.fN aaB (fun _ _ _ _ _ _=>ky fun _ _ _ _ _=>rfl) fun F=>((Lg F Iw).mono (by decide)).imp fun _ _ _ _ h=>Uj h),(MC.fN aaN (fun _ _ _ _ _ _=>ky fun _ _ _ _ _=>rfl) fun F=>(Ue F B kb hb q_n T Dl Iw).imp fun _ _ _ _ h=>Uk nNF nNT h),(MC.fN aaZ (fun _ _ _ _ _ _=>ky fun _ _ _ _ _=>rfl) fun F=>(Uf F B kb hb q_f T Dl Iw).imp fun _ _ _ _ h=>Ul nNF nFT h),(MC.fN abb (fun _ _ _ _ _ _=>ky fun _ _ _ _ _=>rfl) fun F=>(Ug F B kb hb q_t Iw).imp fun _ _ _ _ h=>Um nNT nFT h),(MD.fN aaA (fun _ _ _ _ _ _=>ff fun _ _=>rfl) fun F=>wX F),(MD.fN aaM (fun _ _ _ _ _ _=>ff fun _ _=>rfl) fun F=>wX F),(MD.fN aaY (fun _ _ _ _ _ _=>ff fun _ _=>rfl) fun F=>wX F),(MD.fN aba (fun _ _ _ _ _ _=>ff fun _ _=>rfl) fun F=>wX F)⟩
 have abo:cs l.prog w K mg base a7 1 "first_free" ["others","stand","goes","letter"] Pa:=FD.fN X G aae (fun _ _ _ _ _ _=>sq fun _ _ _ _=>rfl) fun abp=>T_ abp B;have abq:cs l.prog w K mg base a7 1 "hand_in_turn" ["net","homes","stand","letters","goes"] Pn:=FD.fN X G aaf (fun _ _ _ _ _ _=>ky fun _ _ _ _ _=>rfl) fun aca=>Up;have abr:cs l.prog w K mg base a7 7 "hand_eagerly" ["net","homes","stand","letters","goes"] (Pk C):=FD.fN X G aag (fun _ _ _ _ _ _=>ky fun _ _ _ _ _=>rfl) fun abt=>Uh abt T Qf Vu abo;have Qh:cs l.prog w K mg base a7 10 "hand" ["rule","net","homes","stand","beat"] (wV C [cS,bN,bu,cU] PN PF PT):=FD.fN X G P3 (fun _ _ _ _ _ _=>ky fun _ _ _ _ _=>rfl) fun Qi=>Lk Qi B R abq abr;have Vw:cs l.prog w K mg base a7 12 "log_by" ["homes","stand","most","handed"] (Ib C [cS,bN,bu,cU] PN PF PT):=FD.fN X G UZ (fun _ _ _ _ _ _=>sq fun _ _ _ _=>rfl) fun Vx=>Ps Vx B Iw Vv Qh;have Vy:cs l.prog w K mg base a7 13 "run" ["rule","net","homes","stand","most"] (Ie C [cS,bN,bu,cU] PN PF PT Pr):=FC.fN X G U0 (fun _ _ _ _ _ _=>ky fun _ _ _ _ _=>rfl) fun Vz=>Pu Vz kb hb Vg nPr R Vw;have abu:cs l.prog w K mg base a7 2 "stands_of" ["homes","stand","log"] PQ:=FD.fN X G aah (fun _ _ _ _ _ _=>iu fun _ _ _=>rfl) fun abv=>UH abv Vv;have VA:cs l.prog w K mg base a7 1 "_law_pot" ["_law_script","_law_k"] (CQ K):=FD.fN X G U1 (fun _ _ _ _ _ _=>ff fun _ _=>rfl) fun VB=>OP VB B B2;have sB:cs l.prog w K mg base a7 1 "_law_take" ["_law_pot_here","_law_many"] jj:=FD.fN X G Ip (fun _ _ _ _ _ _=>ff fun _ _=>rfl) fun BE=>CS BE;have xc:cs l.prog w K mg base a7 1 "_law_take" ["_law_pot_here","_law_many"] mK:=FD.fN X G Ip (fun _ _ _ _ _ _=>ff fun _ _=>rfl) fun BE=>(CS BE).imp fun _ _ _ _ h=>Tq h;have Mm:cs l.prog w K mg base a7 2 "_law_sides" ["_law_pot_here"] wA:=FD.fN X G LW (fun _ _ _ _ _ _=>pE fun _=>rfl) fun Mn=>G7 Mn B sB;have VC:cs l.prog w K mg base a7 1 "_law_box_pairs" ["_law_sides_here"] G_:=FD.fN X G U2 (fun _ _ _ _ _ _=>pE fun _=>rfl) fun VD=>OS VD B;have Qj:cs l.prog w K mg base a7 2 "_law_tree_pairs" ["_law_pot_here","_law_many"] Bo:=FD.fN X G P4 (fun _ _ _ _ _ _=>ff fun _ _=>rfl) fun Qk=>KR Qk B xc;have Ql:cs l.prog w K mg base a7 2 "_law_more_pairs" ["_law_pot_here","_law_many","_law_pairs"] Bp:=FD.fN X G P5 (fun _ _ _ _ _ _=>iu fun _ _ _=>rfl) fun Qm=>KU Qm B sB;have abw:cs l.prog w K mg base a7 4 "_law_two_way" ["_law_pot_here"] Pw:=FD.fN X G aai (fun _ _ _ _ _ _=>pE fun _=>rfl) fun abx=>Uw abx B sB Mm VC Qj Ql;have Mo:cs l.prog w K mg base a7 1 "_law_outs" ["_law_many","_law_ties"] wE:=FD.fN X G LX (fun _ _ _ _ _ _=>ff fun _ _=>rfl) fun Mp=>Hr Mp B;have VE:cs l.prog w K mg base a7 1 "_law_homeward" ["_law_many","_law_ties","_law_home"] (HB K):=FD.fN X G aaj (fun _ _ _ _ _ _=>iu fun _ _ _=>rfl) fun aby=>TM aby B;have Mq:cs l.prog w K mg base a7 2 "_law_homes" ["_law_pot_here","_law_many","_law_letters"] wF:=FD.fN X G LY (fun _ _ _ _ _ _=>iu fun _ _ _=>rfl) fun Mr=>Hs Mr B sB;have Ms:cs l.prog w K mg base a7 2 "_law_begun" ["_law_pot_here","_law_outs_here","_law_homes_here","_law_waits"] wH:=FD.fN X G LZ (fun _ _ _ _ _ _=>sq fun _ _ _ _=>rfl) fun Mt=>Hv Mt B sB;have VF:cs l.prog w K mg base a7 1 "_law_behind" ["_law_homes_here","_law_stand","_law_handing_here"] BA:=FD.fN X G U3 (fun _ _ _ _ _ _=>iu fun _ _ _=>rfl) fun VG=>(O1 VG B).imp fun _ _ _ _ h=>ZP h;have abz:cs l.prog w K mg base a7 2 "_law_handing" ["_law_pot_here","_law_outs_here","_law_fars","_law_stand"] Pz:=FD.fN X G aak (fun _ _ _ _ _ _=>sq fun _ _ _ _=>rfl) fun abA=>UD abA B xc;have abC:cs l.prog w K mg base a7 3 "_law_log" ["_law_pot_here","_law_outs_here","_law_fars","_law_homes_here","_law_stand","_law_size"] PP:=FD.fN X G aal (fun _ _ _ _ _ _=>Nl fun _ _ _ _ _ _=>rfl) fun abD=>UG abD B abz VF;have abE:cs l.prog w K mg base a7 2 "_law_is_even" ["_law_many","_law_ties"] Py:=FD.fN X G aam (fun _ _ _ _ _ _=>ff fun _ _=>rfl) fun abF=>UB abF B VE;have abG:cs l.prog w K mg base a7 8 "_law_letter_right" ["_law_net","_law_far","_law_even","_law_homes_here","_law_stands","_law_log_here","_law_i"] (Ly C):=FD.fN X G aan (fun _ _ _ _ _ _=>UT fun _ _ _ _ _ _ _=>rfl) fun abH=>UI abH B abh abj abf;have abI:cs l.prog w K mg base a7 14 "_law_right" ["_law_pot_here"] (LC Pt PN PF PT Pr):=FD.fN X G aao (fun _ _ _ _ _ _=>pE fun _=>rfl) fun abJ=>UN abJ B T MK Ir Qe nPt R mkE mkN mkF mkT xc abw Mo Mq Ms VE Vy abC abu abE abG;exact PY Vl B VA abI
theorem yT(h:((List.range 2000).any fun c=>PySem.W.codeHdIn K c P)=true):∃c,PySem.W.codeHdIn K c P=true:=
 let ⟨c,_,e⟩:=ve.mp h;⟨c,e⟩
theorem Qn(hO:B_ ts H)(h:aV K H a xs):Nk K H a xs:=by
 rcases h with h|h
 .rcases h with h|⟨o,h⟩
  .rcases hO.2 a with z|⟨_,z⟩|⟨o,ys,z⟩ <;> · rw[h] at z;cases z
  .exact .inl ⟨o,h⟩
 .exact .inr fun H'=>.inr h
theorem walk{l:PySem.W.OpenLaw}{q:Program}{t7:List Str}{XP:(Str->Option Value)->Heap->Prop}{YP:World->Heap->Prop}{d:DefRec}{K:Params->PySem.W.Frag}{Pr PT PF PN Pt:Addr}(hn:l.most=some 63)(RP:d.params.defaults=[])(hY:∀ (w:World) (h:Heap),YP w h->(K w.params).In h)(hT:∀ (w:World) (h:Heap),YP w h->∀P∈[Pr,PT,PF,PN,Pt],h.get? P=some (PySem.W.tabObj #[]))(abK:∀ (w:World),((List.range 2000).any fun c=>PySem.W.codeHdIn (K w.params) c Pr)=true)(abM:∀ (w:World),(K w.params).lookup Pr=none)(abN:∀ (w:World),((List.range 2000).any fun c=>PySem.W.codeHdIn (K w.params) c PT)=true)(abO:∀ (w:World),(K w.params).lookup PT=none)(abP:∀ (w:World),((List.range 2000).any fun c=>PySem.W.codeHdIn (K w.params) c PF)=true)(abQ:∀ (w:World),(K w.params).lookup PF=none)(abR:∀ (w:World),((List.range 2000).any fun c=>PySem.W.codeHdIn (K w.params) c PN)=true)(abS:∀ (w:World),(K w.params).lookup PN=none)(abT:∀ (w:World),((List.range 2000).any fun c=>PySem.W.codeHdIn (K w.params) c Pt)=true)(abU:∀ (w:World),(K w.params).lookup Pt=none)(F:∀ (w:World) (mg:Str->Option Value) (fa:Addr) (h:Heap),(K w.params).In h->h.Ns mainGlobals mg->mg d.name=some (.ref fa)->
   ∃fd:FuncData,(∀ (s:Shared) (u:Value),BindsTo s fd ⟨[u],[]⟩ [("_law_script",u)])/\∀base:Heap,(K w.params).In base->base.Ns mainGlobals mg->oq mg base->bo l.prog w (K w.params) mg base a7 15 fa fd ["_law_script"] (Di (K w.params) Pt PN PF PT Pr)):
  PySem.W.WalkO q t7 XP YP l.row.toRowW d [] (fun f vs=>PySem.call f vs):=
 FX (n:=63) (k:=15) (x:="_law_script") (ts:=[Pr,PT,PF,PN,Pt]) (K:=K) (CX:=fun _=>a7) (sp:=fun w=>(Di (K w.params) Pt PN PF PT Pr)) hn (by decide) RP ⟨rfl,by decide,by decide,rfl⟩ hY hT
  (fun w P=>fun e=>(bi.mp e).elim (fun e=>by rw[e];exact yT (abK w)) (fun e=>(bi.mp e).elim (fun e=>by rw[e];exact yT (abN w)) (fun e=>(bi.mp e).elim (fun e=>by rw[e];exact yT (abP w)) (fun e=>(bi.mp e).elim (fun e=>by rw[e];exact yT (abR w)) (fun e=>by rw[cA.mp e];exact yT (abT w)))))) (fun w P=>fun e=>(bi.mp e).elim (fun e=>by rw[e];exact abM w) (fun e=>(bi.mp e).elim (fun e=>by rw[e];exact abO w) (fun e=>(bi.mp e).elim (fun e=>by rw[e];exact abQ w) (fun e=>(bi.mp e).elim (fun e=>by rw[e];exact abS w) (fun e=>by rw[cA.mp e];exact abU w))))) F
  (fun w H a ns hl hO hS=>⟨a,ns,rfl,Qn hO hS,hl,.inl (hO.1 _ (by simp)),⟨.inl (hO.1 _ (by simp)),.inl (hO.1 _ (by simp)),.inl (hO.1 _ (by simp))⟩,.inl (hO.1 _ (by simp)),fun _=>rfl⟩) fun _ _ _ _ _ z=>z
end Ba
open PySem PySem.W PyProof.Rows
namespace PySem.W.Fast
def tw7002879509562873016:=trivial
def tw9101414192140639171:=trivial
def tw1896204105191531446:=trivial
def tw4267707520768268231:=trivial
def tw15168475830596931970:=trivial
def tw1372844267728815133:=trivial
def tw1452297686945995333:=trivial
def tw3149000138309484364:=trivial
def tw15351778027206391972:=trivial
def tw9309640343729745913:=trivial
def tw3065992621993731838:=trivial
def tw263751798371621377:=trivial
def tw979561795933298932:=trivial
def tw2069032822049196562:=trivial
def tw13057647647919628964:=trivial
def tw15580329071750049977:=trivial
def tw3013924968977503403:=trivial
def tw14264402227086952282:=trivial
def tw13070937091189526086:=trivial
def tw8329609478328769907:=trivial
def tw11997547865197049568:=trivial
def tw9709336313605942542:=trivial
def tw17799712414800364024:=trivial
def tw12717482622396001251:=trivial
def tw10404221745261814032:=trivial
def tw5316381281878660112:=trivial
def tw8008801944634862117:=trivial
def tw9169300647095138847:=trivial
def tw1383914860118168674:=trivial
def tw12128767435631880193:=trivial
def tw17511406570230547216:=trivial
def tw3900144632201303113:=trivial
def tw13552669429070086269:=trivial
def tw10718243513665823821:=trivial
def tw13140847661382555445:=trivial
def tw16355212953699410421:=trivial
def tw2013168695227241305:=trivial
def tw3246796835515628123:=trivial
def tw7779019239413412935:=trivial
def tw3076306724025911188:=trivial
def tw10702612326858452212:=trivial
def tw2297137509554333186:=trivial
def tw727295151574832112:=trivial
def tw6230141967889049767:=trivial
def tw11959092412435565985:=trivial
def tw7929982661631528553:=trivial
def tw5191830984044888805:=trivial
def tw1184096070232177312:=trivial
def tw8522528868637828398:=trivial
def tw10521744668510391084:=trivial
def tw6710715897966408014:=trivial
def tw5220498000177244162:=trivial
def tw11885818237693167521:=trivial
def tw16888205072432356578:=trivial
def tw18091945969092298867:=trivial
def tw16090327573768643453:=trivial
def tw11791298449712856288:=trivial
def tw15425878340729191459:=trivial
def tw5121916129257500333:=trivial
def tw15129268063587496859:=trivial
def tw18066948740773848982:=trivial
def tw17994454266580403362:=trivial
def tw1550160836078120065:=trivial
def tw12201228490319032241:=trivial
def tw9003041442385289007:=trivial
def tw5546547694116216483:=trivial
def tw12424161290925378125:=trivial
def tw5977053994413825142:=trivial
def tw16580064518555209484:=trivial
def tw2011969117188877454:=trivial
def tw13530527316129376008:=trivial
def tw18208446142220076055:=trivial
def tw7491994907962898425:=trivial
def tw12157781990780110400:=trivial
def tw7712023928293051204:=trivial
def tw1754839198367337286:=trivial
def tw3891505248817853896:=trivial
def tw8831525260270148017:=trivial
def tw12871694672529898279:=trivial
def tw17586349822548058455:=trivial
def tw14722520058225832213:=trivial
def tw12025082469702522840:=trivial
def tw7797370070223667324:=trivial
def tw4225962455201239507:=trivial
def tw12105940350574549070:=trivial
def tw4667253824778028125:=trivial
def tw13306329920398334799:=trivial
def tw9591183861772089199:=trivial
def tw6433246772489535926:=trivial
def tw10655843392307069537:=trivial
def tw18302180166561342409:=trivial
def tw3092448875439998429:=trivial
def tw3080560367492132326:=trivial
def tw2939570981138558413:=trivial
def tw8086026309650995821:=trivial
def tw13094866803824754126:=trivial
def tw8898312626412073124:=trivial
def tw4763465920658083900:=trivial
def tw14279231818256980842:=trivial
def tw2693361889322251461:=trivial
def tw9801959062740328896:=trivial
def tw8594168083463338624:=trivial
def tw5328598518668160531:=trivial
def tw11406285634320819273:=trivial
def tw1173987744747092501:=trivial
def tw2600049335362978747:=trivial
def tw6780648507055897012:=trivial
def tw217548132431969223:=trivial
def tw9276350925691596763:=trivial
def tw7376444218001217995:=trivial
def tw10088011855440063922:=trivial
def tw9563394774679324355:=trivial
def tw5182160865661910013:=trivial
def tw17531092950972459057:=trivial
def tw10158480290940499832:=trivial
def tw13443152247978140001:=trivial
def tw11050750581050972620:=trivial
def tw14448663802389753647:=trivial
def tw8731580114107537730:=trivial
def tw7365577256368188911:=trivial
def tw8178056721856187335:=trivial
def tw12060420757294463077:=trivial
def tw10645086284675170069:=trivial
def tw10149044131404204199:=trivial
def tw4517354393328847383:=trivial
def tw14377107029597877270:=trivial
def tw14711912436533763970:=trivial
def tw13581418816251707598:=trivial
def tw14776252229860125652:=trivial
def tw3079513308153763159:=trivial
def tw11915013966189847568:=trivial
def tw109410225135397248:=trivial
def tw14041222026249953429:=trivial
def tw1608170632445818051:=trivial
def tw16637631138783884669:=trivial
def tw16698663596237954021:=trivial
def tw11991537056477734959:=trivial
def tw17648861651265847113:=trivial
def tw10058891136180260526:=trivial
def tw8175252035384700303:=trivial
def tw3411994591278473425:=trivial
def tw16101438977554046725:=trivial
def tw590044134732369097:=trivial
def tw2352182529230665105:=trivial
def tw6321972260573099942:=trivial
def tw13594795672673902094:=trivial
def tw1887834325579359239:=trivial
def tw8351127054752312715:=trivial
def tw7310739508805481944:=trivial
def tw11895739831219526098:=trivial
def tw14088968215255890965:=trivial
def tw7491097576636972041:=trivial
def tw14190128890485617106:=trivial
def tw14664024708113144496:=trivial
def tw6688018223365073524:=trivial
def tw1778531106472677897:=trivial
def tw384523800216570923:=trivial
def tw17658099945917910966:=trivial
def tw5552409148165564745:=trivial
def tw840299680680182318:=trivial
def tw15748196130544080834:=trivial
def tw10269315423725643795:=trivial
def tw1869926935471172460:=trivial
def tw3736407954938159402:=trivial
def tw16248226238918772286:=trivial
def tw10338784976661803254:=trivial
def tw3962972328692094748:=trivial
def tw15071497569248311121:=trivial
def tw11082062695846121695:=trivial
def tw2934983133167746238:=trivial
def tw14552482240546698752:=trivial
def tw1752535148615519801:=trivial
def tw15891767158590360048:=trivial
def tw14160143635111349061:=trivial
def tw258170185867353600:=trivial
def tw15001667477630962191:=trivial
def tw1499726896595909260:=trivial
def tw3773733864680152933:=trivial
def tw11568749708353377447:=trivial
def tw13959392208752307466:=trivial
def tw12344385865529318623:=trivial
def tw3788433943117014701:=trivial
def tw10425704888117909235:=trivial
def tw1343591176555511637:=trivial
def tw16519513320564250695:=trivial
def tw14362086400659565600:=trivial
def tw2786593213948305267:=trivial
def tw6308974274728455066:=trivial
def tw7024393819085005044:=trivial
def tw16349636127040291488:=trivial
def tw477222071078000335:=trivial
def tw14926761191286395644:=trivial
def tw2329631463037719859:=trivial
def tw9499750994447252935:=trivial
def tw9725012360355981368:=trivial
def tw11370085251002534478:=trivial
def tw9015113345153211835:=trivial
def tw4940981328419655765:=trivial
def tw1230024297516989681:=trivial
def tw8456990373626144204:=trivial
def tw3114921916946700904:=trivial
def tw1501913891197211722:=trivial
def tw1231531494370184398:=trivial
def tw12168172841421795850:=trivial
def tw7069594572842339794:=trivial
def tw10945427963482012965:=trivial
def tw14816575448210663076:=trivial
def tw10432952723129001555:=trivial
def tw5155603753733880312:=trivial
def tw15504238495354060180:=trivial
def tw12527789675413249688:=trivial
def tw223652978902678820:=trivial
def tw10593588719914153863:=trivial
def tw11888608252401580185:=trivial
def tw5377374659184051041:=trivial
def tw6411264142492288240:=trivial
def tw10188666811497825355:=trivial
def tw14521272614459958242:=trivial
def tw3155531330256979713:=trivial
def tw3756067435939954484:=trivial
def tw12997633223086287513:=trivial
def tw15172664269039836068:=trivial
def tw10936324156458760176:=trivial
def tw3758048065138973607:=trivial
def tw7207307424154036206:=trivial
def tw18292818074513150791:=trivial
def tw5374166748563524565:=trivial
def tw13539927648740727557:=trivial
def tw15894113958712826657:=trivial
def tw2069385039976395905:=trivial
def tw4259359838628329328:=trivial
def tw3803621591115478891:=trivial
def tw4961371583897209627:=trivial
def tw4359694111881848488:=trivial
def tw11746005655340709190:=trivial
def tw2408157345007059426:=trivial
def tw16899298122851829249:=trivial
def tw719171908303172969:=trivial
def tw265483417233823666:=trivial
def tw17684326050476992254:=trivial
def tw15890909245007990604:=trivial
def tw8818133462318868186:=trivial
def tw12121875318789834976:=trivial
def tw12796581630082296192:=trivial
def tw16753485731938768520:=trivial
def tw2352585241470073222:=trivial
def tw17841696987295251025:=trivial
def tw18025317914624842248:=trivial
def tw5927729965281416473:=trivial
def tw7868727824347412728:=trivial
def tw1762204183734548274:=trivial
def tw11373841758226336798:=trivial
def tw7065443866063028055:=trivial
def tw5984392427103122880:=trivial
def tw7195906513013155457:=trivial
def tw14961433169012417792:=trivial
def tw14756483545579267385:=trivial
def tw1214892304346578576:=trivial
def tw6766846254688739988:=trivial
def tw10074010680259089149:=trivial
def tw16240925253979507469:=trivial
def tw2585618397783758919:=trivial
def tw11863868053239655822:=trivial
def tw13524195653920641357:=trivial
def tw12795946150549290964:=trivial
def tw11470964334390640082:=trivial
def tw14907559515892830991:=trivial
def tw4382714391209086952:=trivial
def tw16140796642581710726:=trivial
def tw8042725765894088030:=trivial
def tw5140288757967016160:=trivial
def tw7833483522166185622:=trivial
def tw3113000729345645061:=trivial
def tw1803334311857160189:=trivial
def tw2107985899984274543:=trivial
def tw4168914101645327418:=trivial
def tw12062593594314684674:=trivial
def tw2472046947850002701:=trivial
def tw13021813050610705850:=trivial
def tw347108068222745302:=trivial
def tw4135770739462543721:=trivial
def tw14260298030552474809:=trivial
def tw13744876760231838900:=trivial
def tw5520089172586695707:=trivial
def tw8513963422486837624:=trivial
def tw7854969750802776512:=trivial
def tw3584221350566573054:=trivial
def tw18070751290400809913:=trivial
def tw4069168744873159052:=trivial
def tw7512889838742140792:=trivial
def tw14145405185396201780:=trivial
def tw11443860629471652087:=trivial
def tw3689147291604717460:=trivial
def tw3262991357048012704:=trivial
def tw10659526666960199060:=trivial
def tw5636069719762903910:=trivial
def tw4807564994762945086:=trivial
def tw1400148226336670338:=trivial
def tw10074677029582110281:=trivial
def tw14089007195101735935:=trivial
def tw13476206386974647635:=trivial
def tw13712542952847523715:=trivial
def tw9452393541961962081:=trivial
def tw8276297696770913425:=trivial
def tw17983700041996428640:=trivial
def tw6784532289396511084:=trivial
def tw3014151830658967774:=trivial
def tw12254681191340548962:=trivial
def tw10753088199884796802:=trivial
def tw13519940036127024605:=trivial
def tw11321471216949376780:=trivial
def tw13294546543740817585:=trivial
def tw14008486368622266264:=trivial
def tw12876540120529563263:=trivial
def tw12628637859676641712:=trivial
def tw3338811151243360521:=trivial
def tw694631058353815701:=trivial
def tw7403615430996618458:=trivial
def tw1054695149718378937:=trivial
def tw2775555659857332553:=trivial
def tw14174939586259026581:=trivial
def tw16171739147124590303:=trivial
def tw14740917301365375032:=trivial
def tw17914369623383610394:=trivial
def tw3617100450343717509:=trivial
def tw3736561173906485257:=trivial
def tw4720830556398090578:=trivial
def tw12878336904910632737:=trivial
def tw4409617587868428299:=trivial
def tw9827055479996364691:=trivial
def tw5970110032558965646:=trivial
def tw9994155040450743616:=trivial
def tw11780189874050186859:=trivial
def tw6788091242704745758:=trivial
def tw1494827903978346650:=trivial
def tw9935827632718252711:=trivial
def tw12170473205891989243:=trivial
def tw8238130504037667851:=trivial
def tw17228729027812356914:=trivial
def tw13205753796286096482:=trivial
def tw239400497539468109:=trivial
def tw9332185282434159176:=trivial
def tw8401678656133134868:=trivial
def tw11906728388097073461:=trivial
def tw3719417017310269555:=trivial
def tw2246769510126004495:=trivial
def tw17751752956535021472:=trivial
def tw6831016561956530605:=trivial
def tw4835559326920798762:=trivial
def tw7824005886285436491:=trivial
def tw17958821551988625525:=trivial
def tw8932338557934820046:=trivial
def tw4754650861073020917:=trivial
def tw11769590027145963642:=trivial
def tw269389369243888721:=trivial
def tw3247269074281591239:=trivial
def tw9004755308497280532:=trivial
def tw3651262659492908153:=trivial
def tw6594638788302208075:=trivial
def tw1546542940426786229:=trivial
def tw11258980232888537576:=trivial
def tw15728713193599799449:=trivial
def tw15158374798920994718:=trivial
def tw10869689830330925405:=trivial
def tw13172830873081940750:=trivial
def tw4896900011833632127:=trivial
def tw4204865062331436686:=trivial
def tw11563555227607792076:=trivial
def tw16647835236267227598:=trivial
def tw18217179593378373365:=trivial
def tw17221159822204486142:=trivial
def tw1119122384758908194:=trivial
def tw13684387947763957458:=trivial
def tw18191875588610470677:=trivial
def tw400650349078462757:=trivial
def tw3210223170248732221:=trivial
def tw15791750105591427697:=trivial
def tw4632428552486281822:=trivial
def tw15555002240786410245:=trivial
def tw12145508674101867151:=trivial
def tw6780159568752962882:=trivial
def tw17926275103304015305:=trivial
def tw4780437391114321013:=trivial
def tw6231775169652059694:=trivial
def tw4154549823883173134:=trivial
def tw10625827597758527016:=trivial
def tw9061442159651027678:=trivial
def tw15335929731493886017:=trivial
def tw187199475854192001:=trivial
def tw8192104080079240579:=trivial
def tw11098704084275344459:=trivial
def tw2005681825647655081:=trivial
def tw1294772268401137367:=trivial
def tw10097443920570703554:=trivial
def tw10900975830152123632:=trivial
def tw18214686349942434336:=trivial
def tw3932428605141177175:=trivial
def tw1445409805054321629:=trivial
def tw1789257074155570131:=trivial
def tw3013023270325281024:=trivial
def tw14179777637790581366:=trivial
def tw2710233377643102771:=trivial
def tw13120008329859469853:=trivial
def tw12584993661064113966:=trivial
def tw7971460460511801111:=trivial
def tw9278620420490777159:=trivial
def tw13863291501181254740:=trivial
def tw11171264139301577598:=trivial
def tw8205803704894957144:=trivial
def tw10090196918546431203:=trivial
def tw4792691942634241679:=trivial
def tw7377569459759226150:=trivial
def tw13463334233205256193:=trivial
def tw4348674426746839174:=trivial
def tw11283141930794093435:=trivial
def tw11293212518427860945:=trivial
def tw10750933522563427799:=trivial
def tw4722156069831906423:=trivial
def tw7788644198012527221:=trivial
def tw11186607913487296088:=trivial
def tw15165759623321064093:=trivial
def tw17843289207778629600:=trivial
def tw8192232805179236438:=trivial
def tw3822671214291320420:=trivial
def tw10744715202419743832:=trivial
def tw15064625618991382487:=trivial
def tw13615060558282226515:=trivial
def tw14468419306488143727:=trivial
def tw6840424061402213911:=trivial
def tw8687449943606266140:=trivial
def tw15048618160952221741:=trivial
def tw6243355426313313715:=trivial
def tw2509679200500192592:=trivial
def tw6265754337077130366:=trivial
def tw4697054822810512062:=trivial
def tw5595156880272932151:=trivial
def tw16852922146793174422:=trivial
def tw4213989848026399961:=trivial
def tw10385258018011404390:=trivial
def tw4715528671749214900:=trivial
def tw14471300405235748894:=trivial
def tw12823573511752373256:=trivial
def tw1854916413750473695:=trivial
def tw959464037394631401:=trivial
def tw5299633990714266852:=trivial
def tw17461507804742326842:=trivial
def tw4478556928151793398:=trivial
def tw10796083176656218682:=trivial
def tw2695768491554769129:=trivial
def tw15325050417288045057:=trivial
def tw13397105118912775951:=trivial
def tw8006907012167739336:=trivial
def tw6855265791342927108:=trivial
def tw15012540022178673748:=trivial
def tw10042856896303982194:=trivial
def tw16756559898220948216:=trivial
def tw16431099262631719249:=trivial
def tw15895196674179978224:=trivial
def tw5124031247735296107:=trivial
def tw1767355455254628523:=trivial
def tw2724133102777317354:=trivial
def tw9613974900811707627:=trivial
def tw12315752949894682880:=trivial
def tw6422878505647980098:=trivial
def tw12956358580750032124:=trivial
def tw2437043060891712467:=trivial
def tw15932096440510210073:=trivial
def tw1566652130583342182:=trivial
def tw3701785592146666982:=trivial
def tw3071093671739573921:=trivial
def tw1922937748545858890:=trivial
def tw1237338212851722648:=trivial
def tw7266492512481687864:=trivial
def tw621555694795974673:=trivial
def tw13598138285998958469:=trivial
def tw6082543752601452119:=trivial
def tw8184692658088848127:=trivial
def tw4527993097209957691:=trivial
def tw1493802214250684117:=trivial
def tw13345964768150341702:=trivial
def tw3149061767866199005:=trivial
def tw1238265162586135836:=trivial
def tw11741634947851566012:=trivial
def tw2834604545772084116:=trivial
def tw14732558138964790285:=trivial
def tw10371310432596627833:=trivial
end PySem.W.Fast
set_option maxRecDepth 100000 in
set_option maxHeartbeats 0 in
theorem PySem.Challenge.cw_neverwait_k55_whole_far_and_two_holds : PySem.Challenge.rw_neverwait_k55_whole_far_and_two.Holds := by
 w_on; o_law; k_head; (case hw=>w_witness2)
 k_fill
 refine Ba.walk (l:=PySem.Challenge.rw_neverwait_k55_whole_far_and_two) (Pr:=_) (PT:=_) (PF:=_) (PN:=_) (Pt:=_) rfl rfl (fun w h Y=>PySem.W.km_in_of Y) (fun w h Y=>PySem.W.km_tabs_of Y) ?cd0 ?kt0 ?cd1 ?kt1 ?cd2 ?kt2 ?cd3 ?kt3 ?cd4 ?kt4 ?F;case F =>
  intro w mg fa h KX G RQ;refine' Ba.PZ (Pr:=_) (PT:=_) (PF:=_) (PN:=_) (Pt:=_) KX G RQ ?_ ?_ ?_ ?_ ?_ ?_ ?_ ?_ ?_ ?_ ?_ ?_ ?_ ?_ ?_ ?_ ?_ ?_ ?_ ?_ ?_ ?_ ?_ ?_ ?_ ?_ ?_ ?_ ?_ ?_ ?_ ?_ ?_ ?_ ?_ ?_ ?_ ?_ ?_ ?_ ?_ ?_ ?_ ?_ ?_ ?_ ?_ ?_ ?_ ?_ ?_ ?_ ?_ ?_ ?_ ?_ ?_ ?_ ?_ ?_ ?_ ?_ ?_ ?_ ?_ ?_ ?_ ?_ ?_ ?_ ?_ ?_ ?_ ?_ ?_ ?_ ?_ ?_ ?_ ?_ ?_ ?_ ?_ ?_ ?_ ?_ ?_ ?_ ?_ ?_ ?_ ?_ ?_ ?_ ?_ ?_ ?_ ?_ ?_ ?_ ?_ ?_ ?_ ?_ ?_ ?_ ?_ ?_ ?_ ?_ ?_ ?_ ?_ ?_ ?_ ?_ ?_ ?_ ?_ ?_ ?_ ?_ ?_ ?_ ?_ ?_ ?_ ?_ ?_ ?_ ?_ ?_ ?_ ?_ ?_ ?_ ?_ ?_ ?_ ?_ ?_ ?_ ?_ ?_ ?_ ?_;all_goals first
   | (refine' Ba.FD.mk ?a ?l ?d ?k; (case a=>k_is); (case l=>k_is); (case d=>k_is); (case k=>k_is))
   | (refine' Ba.FC.mk ?a ?l ?d ?k; (case a=>k_is); (case l=>k_is); (case d=>k_is); (case k=>k_is))
   | (refine' Ba.MD.mk ?a ?i ?l ?d ?k; (case a=>k_is); (case i=>k_is); (case l=>k_is); (case d=>k_is); (case k=>k_is))
   | (refine' Ba.MC.mk ?a ?i ?l ?d ?k; (case a=>k_is); (case i=>k_is); (case l=>k_is); (case d=>k_is); (case k=>k_is))
   | k_is
   | kernel_rfl
   | decide
   | exact ⟨by kernel_rfl,by k_is,by k_is,by k_is,by k_is,by k_is,by k_is,by kernel_rfl⟩
   | skip
 case kt0=>intro w; kernel_rfl
 case cd0=>intro w; kernel_rfl
 case kt1=>intro w; kernel_rfl
 case cd1=>intro w; kernel_rfl
 case kt2=>intro w; kernel_rfl
 case cd2=>intro w; kernel_rfl
 case kt3=>intro w; kernel_rfl
 case cd3=>intro w; kernel_rfl
 case kt4=>intro w; kernel_rfl
 case cd4=>intro w; kernel_rfl
