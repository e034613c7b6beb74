import PyProof.Rows.All
import Wide.All
import OpenK.AllK
import Wide.FinOn
import Lean
import PyProof.EqAt
import PyProof.EqKinds
import PyProof.TupleCall
import PySem.Challenge.RW_neverwait_k73_elder_bound
set_option Elab.async false
set_option linter.all false
set_option maxRecDepth 100000
set_option maxHeartbeats 8000000
def aO:=@List.length_map
def bZ:=@List.getD_eq_getElem?_getD
def b8:=@List.getElem?_eq_getElem
def az:=@PySem.wpAny_bind
def bU:=@PySem.Heap.get?_push_of_some
def bL:=@List.mem_cons_self
def cm:=@List.mem_cons_of_mem
def aE:=@PyProof.Rows.wpS_bind
def aq:=@if_neg
def cz:=@Nat.lt_of_lt_of_le
def aI:=@Nat.le_refl
def cu:=@List.getElem?_eq_some_iff
def ak:=@if_pos
def bu:=@List.getElem?_map
def bh:=@Option.some.inj
def aX:=@Nat.le_trans
def a_:=@List.mem_cons
def a9:=@PySem.Heap.lt_size
def bv:=@List.mem_range
def bb:=@Nat.ne_of_lt
def cA:=@List.mem_singleton
def aJ:=@PyProof.Rows.wpS_pure
def cY:=@PySem.Heap.get?_push_size
def bj:=@List.mem_map
def dD:=@List.mem_append_right
def cP:=@Bool.false_ne_true
def cB:=@List.size_toArray
def dk:=@List.mem_of_getElem?
def cQ:=@of_decide_eq_true
def cC:=@List.mem_filter
def dE:=@List.length_append
def cK:=@List.mem_append
def dq:=@List.append_assoc
def cR:=@List.map_append
def dQ:=@List.length_range
def cZ:=@decide_eq_true
def bV:=@Nat.zero_le
def dt:=@PySem.PassesOwn.never
def fw:=@List.mem_append_left
def d9:=@List.length_cons
def fz:=@Array.toList_append
def eF:=@List.filter_cons
def eV:=@Nat.lt_succ_of_lt
def gJ:=@List.length_replicate
def d_:=@PySem.boot_len
def fK:=@Nat.lt_of_le_of_lt
def g8:=@List.length_filter_le
def fh:=@List.getElem_mem
def iD:=@PySem.F.plainAttrs_list
def eX:=@List.nodup_cons
def dG:=@getElem?_pos
def dH:=@List.map_map
def gK:=@PySem.W.mg_none_of
def gN:=@List.filter_append
def eG:=@List.map_cons
def jM:=@List.getElem?_append_left
def fL:=@Bool.and_eq_true
def fA:=@decide_eq_false
def gO:=@List.take_add_one
def gh:=@List.lookup_cons
def i6:=@List.getElem?_eq_none
def iE:=@PySem.mem_of_lookup
def eI:=@PyProof.Rows.wpS_forRange
def lD:=@Array.perm_iff_toList_perm
def jN:=@List.perm_append_comm
def lE:=@PySem.F.type_list_append
def lF:=@PySem.F.slot_list_append
def fN:=@Int.ofNat.inj
def g9:=@List.length_set
def g_:=@List.foldl_cons
def iF:=@PySem.Heap.get?_push_ne
def jO:=@List.map_congr_left
def ii:=@List.range_succ
def i7:=@List.pairwise_map
def fP:=@Int.zero_add
def lG:=@List.Perm.append_left
def jP:=@List.nodup_append
def lH:=@List.mem_iff_getElem
def i8:=@PySem.W.kia_one
def qN:=@PyProof.Rows.boot_isinstance
def i9:=@List.append_nil
def jQ:=@List.take_length
def jR:=@PySem.Heap.size_update
def gj:=@PySem.sizeLine_eq
def qO:=@List.nodup_iff_pairwise_ne
def qP:=@List.getElem?_append_right
def lI:=@Bool.false_eq_true
def jS:=@Bool.eq_iff_iff
def j6:=@Nat.lt_succ_self
def pP:=@List.getElem?_set_self
def i_:=@PySem.Heap.size_push
def qQ:=@Classical.byContradiction
def mR:=@Array.length_toList
def lJ:=@Int.toNat_natCast
def qR:=@PyProof.Rows.boot_tuple
def eJ:=@PyProof.Rows.wpS_mono
def tS:=@PyProof.Rows.callWith_type1
def jT:=@Nat.lt_irrefl
def hU:=@beq_iff_eq
def qS:=@PyProof.Rows.boot_list
def ij:=@List.Perm.refl
def ik:=@Array.size_map
def j7:=@List.getElem?_range
def iK:=@List.find?_cons
def oy:=@List.drop_eq_getElem_cons
def lU:=@List.take_append_drop
def lV:=@Array.getElem?_toList
def j8:=@PySem.F.called_set
def jn:=@Nat.mod_eq_of_lt
def jo:=@List.nodup_range
def jp:=@List.all_eq_true
def j9:=@Int.emod_lt_of_pos
def lW:=@List.mem_of_mem_take
def lX:=@List.getElem?_set_ne
def e_:=@PyProof.Rows.wpS_modify
def j_:=@PySem.wpAny_Call_Name_kw
def gk:=@PySem.wpAny_field
def lY:=@beq_eq_false_iff_ne
def lZ:=@List.replicate_succ
def iL:=@PySem.W.mg_of
def iM:=@List.any_cons
def ka:=@List.not_mem_nil
def iO:=@PySem.wpAny_holding
def kd:=@Nat.not_lt_zero
def kg:=@Nat.div_add_mod
def kh:=@Int.emod_nonneg
def gm:=@PySem.wpAny_rule
def gn:=@PySem.wpAny_mono
def iP:=@Nat.ne_of_gt
def jq:=@List.cons.inj
def oz:=@Nat.mul_le_mul_left
def l6:=@PySem.wpAny_truthy_bool
def l7:=@List.countP_cons
def oA:=@PySem.Heap.get?_none_of_le
def jr:=@Nat.zero_add
def qT:=@List.take_of_length_le
def oB:=@List.mem_filterMap
def oC:=@PySem.Heap.get?_update_ne
def oF:=@PySem.Heap.SameBut.update
def kj:=@PySem.wpAny_seqItems
def qU:=@PySem.wpAny_callSpecial?_slot
def fQ:=@if_false
def qV:=@PyProof.Rows.boot_max
def qW:=@Nat.le_of_ble_eq_true
def oG:=@List.take_sublist
def oH:=@Array.toList_push
def uP:=@Array.getD_eq_getD_getElem?
def l8:=@PySem.wpAny_passesOwn
def uQ:=@Option.ne_none_iff_exists'
def kl:=@Nat.le_of_lt
def km:=@Nat.le_of_eq
def oJ:=@List.length_take
def uR:=@List.pairwise_iff_getElem
def yZ:=@PyProof.Rows.F.plain_set_update_loop
def eL:=@PyProof.Rows.wpS_get
def uS:=@PyProof.Rows.boot_sorted
def uT:=@Option.isSome_iff_exists
def oM:=@ne_of_beq_false
def oO:=@List.of_mem_zip
def oP:=@Bool.or_eq_true
def oQ:=@PySem.wpAny_call_entry
def qX:=@of_decide_eq_false
def qY:=@List.pairwise_cons
def uU:=@List.getElem?_replicate
def uV:=@Option.map_eq_some_iff
def uW:=@List.range_succ_eq_map
def oR:=@List.nodup_nil
def uX:=@List.length_pos_of_mem
def qZ:=@List.flatten_cons
def uY:=@List.filter_eq_nil_iff
def q0:=@List.any_eq_false
def uZ:=@Array.toList_filterMap
def iQ:=@PyProof.Rows.size_push'
def q8:=@PySem.wpAny_setField_rec
def q9:=@PySem.wpAny_pyIter_tuple
def u3:=@Nat.eq_of_beq_eq_true
def u4:=@List.length_singleton
def q_:=@List.any_eq_true
def rc:=@Array.toList_map
def oT:=@List.all_cons
def l9:=@PySem.codeAny_mono
def iR:=@Prod.ext
def u5:=@List.mem_of_mem_drop
def u6:=@List.Pairwise.filter
def l_:=@PyProof.Rows.listUpdate_at
def oU:=@PyProof.Rows.get?_update_seq
def re:=@List.Perm.of_eq
def u7:=@List.getElem_of_mem
def kq:=@PySem.wpAny_call
def il:=@Ne.symm
def oW:=@PySem.wpAny_standAt
def oX:=@PySem.wpAny_attempt
def u8:=@decide_eq_true_iff
def u9:=@PySem.codeAny_call_builtin
def u_:=@PySem.W.callWith_K
def va:=@List.find?_eq_none
def y3:=@List.mem_take_iff_getElem
def y4:=@Array.getElem?_eq_getElem
def vb:=@decide_eq_true_eq
def vc:=@List.reverse_perm
def oY:=@List.map_id
def vd:=@List.ext_getElem?
def oZ:=@Int.le_refl
def y6:=@List.length_erase_of_mem
def y7:=@List.find?_range_eq_some
def rf:=@Bool.not_true
def kr:=@or_false
def md:=@PySem.call_meets
def y8:=@PySem.F.slot_list_index
def y9:=@PyProof.Rows.boot_range
def y_:=@Nat.le_mul_of_pos_right
def ve:=@Nat.le_add_right
def zc:=@List.length_eq_zero_iff
def vf:=@List.getElem_map
def iS:=@PyProof.Rows.wpS_lift
def js:=@if_true
def rh:=@Nat.sub_self
def o0:=@Nat.mod_lt
def rj:=@Nat.min_self
def zd:=@Nat.div_div_eq_div_mul
def ze:=@List.Perm.append_right
def vg:=@PySem.wpAny_setState_of
def vh:=@PySem.wpAny_pyIter_enum
def vi:=@PySem.wpAny_newObj_type
def vj:=@List.length_nil
def vk:=@List.forIn_cons
def vo:=@List.count_cons
def zf:=@PyProof.Rows.boot_min
def zg:=@PyProof.Rows.boot_int
def zh:=@PySem.W.kla_codeExpr
def zi:=@PySem.W.kla_callFunE
def rn:=@Nat.mul_pos
def vp:=@Nat.mul_le_mul
def rp:=@Nat.le_succ
def zj:=@List.replicate_succ'
def zk:=@List.mem_erase_of_ne
def zm:=@List.length_take_le'
def vq:=@List.forIn_nil
def zn:=@Array.toList_reverse
def zo:=@Array.toList_extract
def o4:=@PySem.wpAny_Name
def zq:=@PySem.W.plainGet_of
def E4:=@PyProof.Rows.F.entry_set_update_loop
def zu:=@List.map_eq_nil_iff
def zw:=@List.length_take_le
def zx:=@List.filter_sublist
def zy:=@List.filterMap_cons
def zA:=@Int.toNat_of_nonneg
def zB:=@PySem.Heap.get?_update_other
def zC:=@PySem.Calls.callWith_builtin
def vt:=@PySem.wpAny_execs_nil
def vv:=@PySem.codeAny_builtin
def zD:=@List.getElem_range
def zE:=@PySem.Heap.get?_update_self
def zF:=@Array.forIn_toList
def zG:=@PySem.wpAny_newFunctionEnv
def zH:=@PySem.wpAny_loadName_local
def zI:=@bne_self_eq_false
def vx:=@Nat.succ.inj
def vy:=@Nat.beq_refl
def vz:=@List.map_nil
def zJ:=@List.foldl_append
def zK:=@Bool.eq_false_iff
def zL:=@PySem.Around.frames_deeper
def zM:=@PySem.wpAny_loadName_free
def zN:=@PySem.W.makes_of
def zO:=@Option.getD_some
def zP:=@List.zipIdx_cons
def zQ:=@List.mem_flatMap
def zR:=@List.ext_getElem
def vA:=@PySem.wpAny_newList
def vB:=@Nat.mul_one
def E5:=@Int.mul_le_mul_of_nonneg_left
def zS:=@PySem.tupleKind_room_in1
def zU:=@Option.map_some
def zV:=@List.nil_append
def zW:=@List.filter_map
def E6:=@List.countP_eq_length_filter
def zX:=@Int.natCast_mul
def zY:=@Array.Perm.refl
def E7:=@PySem.F.typeOf_object_class
def zZ:=@PySem.wpAny_pyIter_list
def z0:=@PySem.wpAny_loadPart_at
def E8:=@Nat.mul_lt_mul_of_pos_left
def z6:=@List.foldl_nil
def E9:=@Int.fmod_eq_emod_of_nonneg
def E_:=@Array.toList_setIfInBounds
def Fa:=@Array.getElem?_eq_some_iff
def rq:=@PyProof.Rows.seqEpoch_at
def Fb:=@List.getElem?_zip_eq_some
def z7:=@PySem.wpAny_eqBool_int
def Fc:=@PySem.F.type_tuple_count
def Fe:=@PySem.F.slot_tuple_count
def Ff:=@PySem.F.slot_dict_values
def Fg:=@PySem.F.plainAttrs_tuple
def z8:=@Nat.mul_assoc
def Fh:=@List.getElem?_take_of_lt
def Fj:=@List.filterMap_cons_some
def Fk:=@List.Pairwise.imp_of_mem
namespace L2
open PySem PySem.Spec PyProof.Rows
abbrev gY:=Sum Int Str
def tT:gY->Value->Bool
 |.inl k,v=>Value.isInt k v
 |.inr x,v=>Value.isStrOf x v
def Xg(w:World):gY->Int
 |.inl k=>hashInt k
 |.inr x=>hashStr w x
theorem dv:∀ {k:gY} {v:Value},tT k v=true->(∃i t,k=Sum.inl i/\v=Value.int i t)\/(∃x t,k=Sum.inr x/\v=Value.str x t)
 |.inl i,v,h=>by
  obtain⟨t,e⟩:=Value.isInt_shape (k:=i) (v:=v) h;exact .inl ⟨i,t,rfl,e⟩
 |.inr x,v,h=>by
  obtain⟨t,e⟩:=Value.isStrOf_shape (x:=x) (v:=v) h;exact .inr ⟨x,t,rfl,e⟩
theorem Dp(i:Int)(t:Tok):tT (.inl i) (.int i t)=true:=by simp[tT,Value.isInt]
theorem Dq(x:Str)(t:Tok):tT (.inr x) (.str x t)=true:=by simp[tT,Value.isStrOf]
theorem Np(a b:Int):decide ((Sum.inl a:gY)=Sum.inl b)=(a==b):=by
 by_cases e:a=b
 .subst e;simp
 .have h:¬ (Sum.inl a:gY)=Sum.inl b:=fun q=>e (Sum.inl.inj q);rw[fA h];exact(lY.mpr e).symm
theorem Nq(a b:Str):decide ((Sum.inr a:gY)=Sum.inr b)=decide (a=b):=by
 by_cases e:a=b
 .subst e;simp
 .have h:¬ (Sum.inr a:gY)=Sum.inr b:=fun q=>e (Sum.inr.inj q);rw[fA h,fA e]
theorem Nt(a:Int)(b:Str):decide ((Sum.inl a:gY)=Sum.inr b)=false:=fA (fun q=>nomatch q)
theorem Nv(a:Str)(b:Int):decide ((Sum.inr a:gY)=Sum.inl b)=false:=fA (fun q=>nomatch q)
def dh(prog:Program)(w:World):PySem.KeyKind prog w gY where
 is:=tT
 hash:=Xg w
 inj:=fun v a b ha hb=>by
  rcases dv ha with ⟨i,t,rfl,rfl⟩|⟨x,t,rfl,rfl⟩
  .rcases dv hb with ⟨j,u,rfl,e⟩|⟨y,u,rfl,e⟩
   .injection e with e1 _;rw[e1]
   .exact nomatch e
  .rcases dv hb with ⟨j,u,rfl,e⟩|⟨y,u,rfl,e⟩
   .exact nomatch e
   .injection e with e1 _;rw[e1]
 byValue:=fun k v h=>by
  rcases dv h with ⟨i,t,rfl,rfl⟩|⟨x,t,rfl,rfl⟩ <;> rfl
 pyHash:=fun hv h=>by
  rcases dv hv with ⟨i,t,rfl,rfl⟩|⟨x,t,rfl,rfl⟩
  .exact wpAny_pyHash_int h
  .exact wpAny_pyHash_str h
 eqBool:=fun hu hv h=>by
  rcases dv hu with ⟨i,t,rfl,rfl⟩|⟨x,t,rfl,rfl⟩
  .rcases dv hv with ⟨j,u,rfl,rfl⟩|⟨y,u,rfl,rfl⟩
   .rw[Np] at h;exact z7 h
   .rw[Nt] at h;exact SeqAt.EqAt.int_str i t y u _ _ _ _ h
  .rcases dv hv with ⟨j,u,rfl,rfl⟩|⟨y,u,rfl,rfl⟩
   .rw[Nv] at h;exact SeqAt.EqAt.str_int x t j u _ _ _ _ h
   .rw[Nq] at h;exact wpAny_eqBool_str h
 «strs»:=fun k x t v h=>by
  rcases dv h with ⟨i,u,rfl,e⟩|⟨y,u,rfl,e⟩
  .exact nomatch e
  .injection e with e1 _
   subst e1
   cases v <;> rfl
theorem xa(prog:Program)(w:World)(i:Int)(t:Tok):(dh prog w).is (.inl i) (.int i t)=true:=Dp i t
theorem xb(prog:Program)(w:World)(x:Str)(t:Tok):(dh prog w).is (.inr x) (.str x t)=true:=Dq x t
inductive V where
 |cf|bl (b:Bool)|int (i:Int)|str (x:Str)|BJ (b:Array UInt8)|Nw (b:UInt64)|ref (a:Addr)|ty (n:String)
 deriving DecidableEq
def bA:V->Value->Prop
 |.cf,u=>u=Value.none
 |.bl b,u=>u=Value.bool b
 |.int i,u=>∃t,u=Value.int i t
 |.str x,u=>∃t,u=Value.str x t
 |.BJ b,u=>∃t,u=Value.bytes b t
 |.Nw b,u=>∃t,u=Value.float b t
 |.ref a,u=>u=Value.ref a
 |.ty n,u=>u=Value.type n
abbrev aZ:List V->List Value->Prop:=Paired bA
theorem aZ.length(r:aZ xs us):xs.length=us.length:=Paired.length r
theorem aZ.get:∀ {xs:List V} {us:List Value} {i:Nat} {x:V},aZ xs us->xs[i]?=some x->∃u,us[i]?=some u/\bA x u
 |_,_,_,_,.nil,e=>by simp at e
 |_,_,0,_,.cons r _,e=>by simp at e;subst e;exact⟨_,rfl,r⟩
 |_,_,i+1,x,.cons _ t,e=>by
  obtain⟨u,h1,h2⟩:=aZ.get (i:=i) (x:=x) t (by simpa using e);exact⟨u,by simpa using h1,h2⟩
theorem aZ.set(r:bA x u):∀ {xs:List V} {us:List Value} (i:Nat),aZ xs us->aZ (xs.set i x) (us.set i u)
 |_,_,_,.nil=>.nil
 |_,_,0,.cons _ t=>.cons r t
 |_,_,i+1,.cons q t=>.cons q (aZ.set r i t)
theorem aZ.append:∀ {xs ys:List V} {us ws:List Value},aZ xs us->aZ ys ws->aZ (xs++ys) (us++ws)
 |_,_,_,_,.nil,s=>s
 |_,_,_,_,.cons r t,s=>.cons r (aZ.append t s)
theorem aZ.take:∀ {xs:List V} {us:List Value} (n:Nat),aZ xs us->aZ (xs.take n) (us.take n)
 |_,_,0,_=>.nil
 |_,_,_+1,.nil=>.nil
 |_,_,n+1,.cons r t=>.cons r (aZ.take n t)
theorem aZ.drop:∀ {xs:List V} {us:List Value} (n:Nat),aZ xs us->aZ (xs.drop n) (us.drop n)
 |_,_,0,r=>r
 |_,_,_+1,.nil=>.nil
 |_,_,n+1,.cons _ t=>aZ.drop n t
def lA:Option V->Option Value->Prop
 |some v,some u=>bA v u
 |none,none=>True
 |_,_=>False
def KV{κ:Type}:List (κ×V)->List (κ×Value)->Prop:=Paired fun (p:κ×V) (q:κ×Value)=>p.1=q.1/\bA p.2 q.2
def kV:gY->V
 |.inl i=>.int i
 |.inr x=>.str x
inductive HO where
 |lst (xs:List V)
 |tup (xs:List V)
 |dK (ba:List (gY×V))|dT (ba:List (List gY×V))
 |set (S:Int->Bool) (n:Nat)
 |ins (C dx:Addr) (fs:List (Str×V))
 |own (x:Addr)
 |xd (fs:List (Str×V))
 |met (f x:Addr)
 |Fl (lo hi:Int)
 |vC (o:Obj) (u:HO)
 |j3 (ps:Array Value)
 |ext (φ:Heap->Prop)
abbrev Hp:=Addr->Option HO
def upd(H:Hp)(a:Addr)(o:HO):Hp:=fun b=>if b=a then some o else H b
theorem af:upd H a o a=some o:=by unfold upd;rw[ak rfl]
theorem ao(h:b≠a):upd H a o b=H b:=by unfold upd;rw[aq h]
theorem jt:upd (upd H a o) a u=upd H a u:=by
 funext b;unfold upd;split <;> rfl
theorem eY{H:Hp}{a b:Addr}{o u:HO}(h:H a=some o)(h':H b=some u)(d:o≠u):a≠b:=by
 intro e;subst e;rw[h] at h';exact d (bh h')
theorem am{H:Hp}{a b:Addr}{o:HO}(h:H a=some o)(h':H b=none):a≠b:=by
 intro e;subst e;rw[h] at h';cases h'
section
variable (P:Program) (w:World)
def o5(h:Heap)(a:Addr)(items:Array Value):Prop:=∃o,h.get? a=some o/\o.cls=.type "tuple"/\∃n,o.data=.seq items n/\o.dict=none
theorem o5.tup(p:o5 h a items):IsTup h a items:=let ⟨o,e,c,n,d,_⟩:=p;⟨o,e,c,n,d⟩
theorem o5.new(h:Heap)(items:Array Value):o5 (h.push { cls:=.type "tuple",data:=.seq items }) h.objs.size items:=⟨_,cY _ rfl,rfl,_,rfl,rfl⟩
def cg(H:Hp)(h:Heap)(a:Addr):HO->Prop
 |.lst xs=>xs.length<=sizeLine/\∃ (its:List Value) (n:Nat),aZ xs its/\h.get? a=some { cls:=.type "list",data:=.seq its.toArray n }
 |.tup xs=>xs.length<=sizeLine/\∃its:List Value,aZ xs its/\o5 h a its.toArray
 |.dK ba=>ba.length<=sizeLine/\(a==sysModules)=false/\∃vs,KV ba vs/\h.DictOf (dh P w) a vs
 |.dT ba=>ba.length<=sizeLine/\(a==sysModules)=false/\∃xs:List (List gY×Addr×Value),
   Paired (fun (p:List gY×V) (q:List gY×Addr×Value)=>p.1=q.1/\H q.2.1=some (.tup (p.1.map kV))/\bA p.2 q.2.2) ba xs/\
   ∃o es ep,h.get? a=some o/\o.ExactDict/\o.data=.dict es ep/\es.toList=xs.map (entryOfKey (tupleKind (dh P w)))/\(xs.map (·.1)).Nodup
 |.set S n=>h.SetOf (intKind P w) a S n
 |.ins C dx fs=>H dx=some (.own a)/\fs.length<=1000/\dx≠a/\h.get? a=some (PySem.W.instObj C dx)/\
   ∃mA,h.Ns1 dx mA/\(∀f,lA (fs.lookup f) (mA f))/\PySem.Within mA (fs.map (·.1))
 |.own _=>∃o,h.get? a=some o
 |.xd fs=>∃mA,h.Ns1 a mA/\∀f,lA (fs.lookup f) (mA f)
 |.Fl lo hi=>∃t u v,h.get? a=some { cls:=.type "range",data:=.fields #[.int lo t,.int hi u,.int 1 v] }
 |.vC o u=>h.get? a=some o/\cg H h a u
 |.j3 ps=>h.get? a=some { cls:=.none,data:=.fields ps }
 |.met f x=>h.get? a=some (PySem.W.methodObj (.ref f) (.ref x))
 |.ext φ=>φ h/\(∃o,h.get? a=some o)/\∀h1 h2:Heap,φ h1->(∀o,h1.get? a=some o->h2.get? a=some o)->φ h2
def j4(H:Hp)(h:Heap):Prop:=∀a o,H a=some o->cg P w H h a o
end
section
variable {P:Program} {w:World} {H H':Hp} {h h':Heap} {a:Addr} {o:HO}
theorem cg.lt(x:cg P w H h a o):a<h.objs.size:=by
 cases o with
 |lst xs=>obtain⟨_,_,_,_,e⟩:=x;exact a9 e
 |tup xs=>obtain⟨_,_,_,p⟩:=x;exact p.tup.lt
 |dK ba=>obtain⟨_,_,_,_,o,_,_,e,_⟩:=x;exact a9 e
 |dT ba=>obtain⟨_,_,_,_,o,_,_,e,_⟩:=x;exact a9 e
 |set S n=>obtain⟨o,_,_,_,e,_⟩:=x;exact a9 e
 |ins C dx fs=>obtain⟨_,_,_,e,_⟩:=x;exact a9 e
 |own y=>obtain⟨_,e⟩:=x;exact a9 e
 |xd fs=>obtain⟨_,⟨_,_,_,e,_⟩,_⟩:=x;exact a9 e
 |Fl lo hi=>obtain⟨_,_,_,e⟩:=x;exact a9 e
 |vC ob u=>obtain⟨e,_⟩:=x;exact a9 e
 |j3 ps=>exact a9 (show h.get? a=some _ from x)
 |met f y=>exact a9 (show h.get? a=some _ from x)
 |ext φ=>obtain⟨_,⟨_,e⟩,_⟩:=x;exact a9 e
theorem Paired.Nx:∀ {l₁:List α} {l₂:List β},Paired F l₁ l₂->(∀a b,F a b->G a b)->Paired G l₁ l₂
 |_,_,.nil,_=>.nil
 |_,_,.cons r t,f=>.cons (f _ _ r) (Paired.Nx t f)
theorem cg.mT(x:cg P w H h a o)(k:∀b u,(b=a\/H b=some (.own a))->h.get? b=some u->h'.get? b=some u)(ho:∀b,H b=some (.own a)->H' b=some (.own a))(ht:∀b xs,H b=some (.tup xs)->H' b=some (.tup xs)):cg P w H' h' a o:=by
 induction o with
 |lst xs=>obtain⟨z,its,n,r,e⟩:=x;exact⟨z,its,n,r,k _ _ (.inl rfl) e⟩
 |tup xs=>obtain⟨z,its,r,ob,e,c⟩:=x;exact⟨z,its,r,ob,k _ _ (.inl rfl) e,c⟩
 |dK ba=>obtain⟨z,y,vs,r,ob,es,ep,e,c⟩:=x;exact⟨z,y,vs,r,ob,es,ep,k _ _ (.inl rfl) e,c⟩
 |dT ba=>
  obtain⟨z,y,xs,r,ob,es,ep,e,c⟩:=x;exact⟨z,y,xs,Paired.Nx r fun p q z=>⟨z.1,ht _ _ z.2.1,z.2.2⟩,ob,es,ep,k _ _ (.inl rfl) e,c⟩
 |set S n=>obtain⟨ob,es,ep,t,e,c⟩:=x;exact⟨ob,es,ep,t,k _ _ (.inl rfl) e,c⟩
 |ins C dx fs=>
  obtain⟨d,z,ne,e,mA,⟨od,es,ep,e2,c⟩,r⟩:=x;exact⟨ho _ d,z,ne,k _ _ (.inl rfl) e,mA,⟨od,es,ep,k _ _ (.inr d) e2,c⟩,r⟩
 |own y=>obtain⟨ob,e⟩:=x;exact⟨ob,k _ _ (.inl rfl) e⟩
 |xd fs=>obtain⟨mA,⟨od,es,ep,e,c⟩,r⟩:=x;exact⟨mA,⟨od,es,ep,k _ _ (.inl rfl) e,c⟩,r⟩
 |Fl lo hi=>obtain⟨t,u,v,e⟩:=x;exact⟨t,u,v,k _ _ (.inl rfl) e⟩
 |vC ob u ih=>obtain⟨e,q⟩:=x;exact⟨k _ _ (.inl rfl) e,ih q⟩
 |j3 ps=>
  have e:h.get? a=some { cls:=.none,data:=.fields ps }:=x;show h'.get? a=some { cls:=.none,data:=.fields ps };exact k a _ (.inl rfl) e
 |met f y=>
  have e:h.get? a=some (PySem.W.methodObj (.ref f) (.ref y)):=x;show h'.get? a=some (PySem.W.methodObj (.ref f) (.ref y));exact k a _ (.inl rfl) e
 |ext φ=>obtain⟨p,⟨o,e⟩,st⟩:=x;exact⟨st _ _ p fun o q=>k _ _ (.inl rfl) q,⟨o,k _ _ (.inl rfl) e⟩,st⟩
theorem j4.lt(x:j4 P w H h)(e:H a=some o):a<h.objs.size:=(x a o e).lt
theorem j4.fresh(x:j4 P w H h)(e:h.objs.size<=a):H a=none:=by
 cases q:H a with
 |none=>rfl
 |some u=>exact absurd (cz (x.lt q) e) (jT _)
theorem j4.kept(x:j4 P w H h)(k:∀b u,h.get? b=some u->h'.get? b=some u):j4 P w H h':=fun a o e=>
 (x a o e).mT (fun b u _ q=>k b u q) (fun _ q=>q) fun _ _ q=>q
theorem j4.laid(x:j4 P w H h)(k:∀b u,h.get? b=some u->h'.get? b=some u)(hp:h.objs.size<=a)(new:cg P w (upd H a o) h' a o):j4 P w (upd H a o) h':=fun b u e=>by
 have hn:=x.fresh hp;by_cases hb:b=a
 .subst hb;rw[af] at e;cases e;exact new
 .rw[ao hb] at e;exact(x b u e).mT (fun c v _ q=>k c v q) (fun c q=>by rw[ao (am q hn)];exact q) fun c xs q=>by rw[ao (am q hn)];exact q
end
def Rd(H:Hp)(a:Addr)(u:HO):Prop:=H a=some u\/∃o,H a=some (.vC o u)
theorem Rd.ok(r:Rd H a u)(x:j4 P w H h):cg P w H h a u:=by
 rcases r with r|⟨o,r⟩
 .exact x a u r
 .obtain⟨_,q⟩:=x a _ r;exact q
def RW:Option HO->Prop
 |some (.lst _)=>True
 |some (.dK _)=>True
 |some (.dT _)=>True
 |some (.set _ _)=>True
 |some (.ins _ _ _)=>True
 |some (.ext _)=>True
 |_=>False
section
variable {P:Program} {w:World} {H:Hp} {h h':Heap} {x e:Addr} {o':HO}
theorem j4.write(ok:j4 P w H h)(mu:RW (H x))(he:e=x\/H e=some (.own x))(k:∀b u,b≠e->h.get? b=some u->h'.get? b=some u)(Q0:∃u,h'.get? e=some u)(new:cg P w (upd H x o') h' x o'):j4 P w (upd H x o') h':=fun b u q=>by
 have RX:∀c y,H c=some (.own y)->c≠x:=fun c y r z=>by subst z;rw[r] at mu;exact mu
 have o7:∀c xs,H c=some (.tup xs)->c≠x:=fun c xs r z=>by subst z;rw[r] at mu;exact mu
 by_cases hb:b=x
 .subst hb;rw[af] at q;cases q;exact new
 .rw[ao hb] at q;by_cases IU:b=e
  .have q':H b=some (.own x):=by
    rcases he with z|z
    .exact absurd (IU.trans z) hb
    .rw[IU];exact z
   rw[q] at q';cases q';obtain⟨v,hv⟩:=Q0;exact⟨v,by rw[IU];exact hv⟩
  .refine(ok b u q).mT (fun c v hc r=>k c v ?_ r) (fun c r=>by rw[ao (RX c b r)];exact r) fun c xs r=>by rw[ao (o7 c xs r)];exact r
   rcases hc with rfl|hc
   .exact IU
   .rintro rfl;rcases he with z|z
    .exact RX c b hc z
    .rw[hc] at z;cases z;exact hb rfl
end
structure Un(fs ex:List Addr)(H H':Hp)(h h':Heap):Prop where
 keep:∀b o,h.get? b=some o->H b=none->b∉fs->b∉ex->h'.get? b=some o
 slot:∀b o,h.get? b=some o->H b=none->b∈fs->b∉ex->∃sl,h'.get? b=some { o with slots:=sl }
 free:∀b o,h.get? b=some o->H b=none->b∉ex->H' b=none
 there:∀b o,h.get? b=some o->b∉ex->∃o',h'.get? b=some o'
 me:∀b xs,H b=some (.tup xs)->H' b=some (.tup xs)
 o8:∀b o u,H b=some (.vC o u)->H' b=some (.vC o u)
 o9:∀b ps,H b=some (.j3 ps)->∃more,H' b=some (.j3 (ps++more))
section
variable {fs fs' ex Xh:List Addr} {H H1 H2:Hp} {h h1 h2 h':Heap} {a x e:Addr} {o:HO}
theorem Un.any(u:Un fs ex H H1 h h1)(q:h.get? b=some ob)(n:H b=none)(hx:b∉ex):∃sl,h1.get? b=some { ob with slots:=sl }:=by
 by_cases hb:b∈fs
 .exact u.slot b ob q n hb hx
 .exact⟨ob.slots,u.keep b ob q n hb hx⟩
theorem Un.kept(k:∀b u,h.get? b=some u->h'.get? b=some u):Un fs ex H H h h':=
 ⟨fun b ob q _ _ _=>k b ob q,fun b ob q _ _ _=>⟨ob.slots,k b ob q⟩,fun _ _ _ n _=>n,fun b ob q _=>⟨ob,k b ob q⟩,fun _ _ q=>q,fun _ _ _ q=>q,fun _ ps q=>⟨#[],by rw[q];simp⟩⟩
theorem Un.refl:Un fs ex H H h h:=Un.kept fun _ _ q=>q
theorem Un.laid(k:∀b u,h.get? b=some u->h'.get? b=some u)(hp:h.objs.size<=a)(hn:H a=none):Un fs ex H (upd H a o) h h' where
 keep:=fun b u q _ _ _=>k b u q
 slot:=fun b u q _ _ _=>⟨u.slots,k b u q⟩
 free:=fun b u q n _=>by rw[ao (bb (cz (a9 q) hp))];exact n
 there:=fun b u q _=>⟨u,k b u q⟩
 me:=fun b xs q=>by rw[ao (am q hn)];exact q
 o8:=fun b u xs q=>by rw[ao (am q hn)];exact q
 o9:=fun b ps q=>⟨#[],by rw[ao (am q hn),q];simp⟩
theorem Un.write(mu:RW (H x))(he:e=x\/H e=some (.own x))(k:∀b u,b≠e->h.get? b=some u->h'.get? b=some u)(Q0:∃u,h'.get? e=some u):Un fs ex H (upd H x o) h h':=by
 have hx:∀b,H b=none->b≠x:=fun b n z=>by subst z;rw[n] at mu;exact mu
 have hb:∀b,H b=none->b≠e:=fun b n z=>by
  subst z;rcases he with r|r
  .exact hx b n r
  .rw[n] at r;cases r
 have hm:∀b u,H b=some u->¬ RW (some u)->b≠x:=fun b u q nm z=>by subst z;rw[q] at mu;exact nm mu
 refine⟨fun b u q n _ _=>k b u (hb b n) q,fun b u q n _ _=>⟨u.slots,k b u (hb b n) q⟩,fun b u q n _=>by rw[ao (hx b n)];exact n,fun b u q _=>?_,
  fun b xs q=>by rw[ao (hm b _ q fun z=>z)];exact q,fun b u xs q=>by rw[ao (hm b _ q fun z=>z)];exact q,fun b ps q=>⟨#[],by rw[ao (hm b _ q fun z=>z),q];simp⟩⟩
 by_cases IU:b=e
 .subst IU;exact Q0
 .exact⟨u,k b u IU q⟩
end
def Wi(h:Heap)(H:Hp):List Addr:=(List.range h.objs.size).filter fun a=>(H a).isSome
def tj(h:Heap)(H:Hp):Heap:=PySem.W.hideAll h (Wi h H)
theorem Dr(h:Heap)(H:Hp):(tj h H).objs.size=h.objs.size:=PySem.W.hideAll_size _ _
theorem Fm(e:h.get? b=some o)(n:H b=none):(tj h H).get? b=some o:=
 PySem.W.hideAll_get _ e fun hm=>by
  have q:(H b).isSome=true:=(cC.mp hm).2;rw[n] at q;simp at q
theorem Jj(e:(tj h H).get? b=some o):h.get? b=some o/\H b=none:=by
 have e':h.get? b=some o:=PySem.W.of_hideAll (Wi h H) e;refine⟨e',?_⟩;cases q:H b with
 |none=>rfl
 |some x=>
  have hm:b∈Wi h H:=cC.mpr ⟨bv.mpr (a9 e'),by simp[q]⟩;have z:(tj h H).get? b=none:=PySem.W.hideAll_none (Wi h H) hm;rw[z] at e;cases e
def ju(g h:Heap)(L:Addr):List (Addr×Obj):=(List.range h.objs.size).filterMap fun a=>if a=L\/(g.get? a).isSome=true then none else (h.get? a).map fun o=>(a,o)
theorem ku(h1:a≠L)(h2:g.get? a=none)(h3:h.get? a=some o):(a,o)∈ju g h L:=
 oB.mpr ⟨a,bv.mpr (a9 h3),by simp[h1,h2,h3]⟩
theorem rA(hp:p∈ju g h L):p.1≠L/\g.get? p.1=none/\h.get? p.1=some p.2:=by
 obtain⟨b,_,e⟩:=oB.mp hp;split at e
 .cases e
 .rename_i hn;cases q:h.get? b with
  |none=>rw[q] at e;simp at e
  |some u=>
   rw[q] at e;simp only[zU,Option.some.injEq] at e;subst e;refine⟨fun z=>hn (.inl z),?_,q⟩;show g.get? b=none;cases r:g.get? b with
   |none=>rfl
   |some v=>exact(hn (.inr (by simp[r]))).elim
theorem Fn:News g L h (ju g h L):=fun p hp=>let ⟨a,b,c⟩:=rA hp;⟨c,a,b⟩
structure Mod(K:PySem.W.Frag)(mg:Str->Option Value)(base:Heap):Prop where
 Q3:K.In base
 glob:base.Ns mainGlobals mg
 blt:∃mb,base.Ns builtinsNs mb/\∀x:Str,x≠"__name__"->mb x=bootBuiltins x
 nolimit:base.NoLimit
structure Cx where
 prog:Program
 w:World
 K:PySem.W.Frag
 mg:Str->Option Value
 base:Heap
 A:Around
 N:List Str
 s₀:Shared
 H₀:Hp
 env:Env
 outer:List Env
 stack:List Env
 ex:List Addr
 fn:Str->Bool
 calm:Bool
 pn:List (Addr×Obj)
 xe:Value->Shared->Prop
def Ds(l:List Env):List Addr:=l.filterMap (·.frame)
abbrev Cx.fs(X:Cx):List Addr:=Ds X.outer
def Q4(sc:Scope)(x:Str):Prop:=sc.names.lookup x=some .local\/sc.names.lookup x=some .cell\/sc.names.lookup x=some .free
def RY(sc:Scope)(x:Str):Prop:=sc.names.lookup x=some .local\/sc.names.lookup x=some .cell
def Xi(env:Env)(h:Heap)(m:Str->Option Value)(x:Str)(u:Value):Prop:=
 (env.kindOf x=some .local/\m x=some u)\/((env.kindOf x=some .cell\/env.kindOf x=some .free)/\∃c,env.cells.lookup x=some c/\h.IsCell c (some u))
structure Cx.Ok(X:Cx):Prop where
 mod:Mod X.K X.mg X.base
 kind:X.env.scope.kind=.function
 glob:X.env.globals=mainGlobals
 blt:X.env.builtins=builtinsNs
 above:X.s₀.heap.objs.size<=X.env.locals
 inj:∀x y c,X.env.cells.lookup x=some c->X.env.cells.lookup y=some c->x=y
 has:∀x,(X.env.kindOf x=some .cell\/X.env.kindOf x=some .free)->∃c,X.env.cells.lookup x=some c
 Q5:∀x c,X.fn x=true->X.env.cells.lookup x=some c->X.s₀.heap.objs.size<=c
 hd:X.calm=true->X.A.handled=none
 frames:X.A.frames=some X.stack
 Q6:X.stack=X.outer\/(X.stack=X.env::X.outer/\X.env.frame=some X.env.locals)
 Xj:∀b∈X.ex,b≠X.env.locals/\∀x c,X.env.cells.lookup x=some c->c≠b
 bs:∀b o,X.base.get? b=some o->X.s₀.heap.get? b=some o/\X.H₀ b=none
 Dt:X.base.objs.size<=X.s₀.heap.objs.size
 Fo:∀b o,X.base.get? b=some o->b∉X.ex
 Jk:∀b∈X.ex,b∉X.fs
 o_:X.s₀.heap.FunFrames X.base X.outer
 Ny:∀b∈X.fs,X.H₀ b=none
structure aM(X:Cx)(ae:List (Addr×Obj))(σ:List (Option V))(H:Hp)(s:Shared):Prop where
 ok:X.Ok
 os:s.os=X.s₀.os
 bare:AllBare s.gens
 base:Un X.fs X.ex X.H₀ H X.s₀.heap s.heap
 loc:∃m,s.heap.Ns X.env.locals m/\∀ (i:Nat) (x:Str) (v:V),X.N[i]?=some x->σ[i]?=some (some v)->Q4 X.env.scope x->∃u,bA v u/\Xi X.env s.heap m x u
 cell:∀x c,X.env.cells.lookup x=some c->∃v,s.heap.IsCell c v
 free:H X.env.locals=none
 jU:∀x c,X.env.cells.lookup x=some c->H c=none
 pin:∀p∈X.pn++ae,s.heap.get? p.1=some p.2/\H p.1=none/\p.1≠X.env.locals/\p.1∉X.fs/\∀v,p.2.data≠.cell v
 bE:j4 X.prog X.w H s.heap
 len:σ.length=X.N.length
section
variable {X:Cx} {ae:List (Addr×Obj)} {σ:List (Option V)} {H H':Hp} {s:Shared} {h':Heap}
theorem Cx.Ok.Xk(ok:X.Ok)(e:X.base.get? b=some o):b∉X.fs:=fun hb=>by
 have:=(ok.o_.mem hb).1;rw[e] at this;cases this
theorem aM.bs(I:aM X ae σ H s):∀b o,X.base.get? b=some o->s.heap.get? b=some o/\H b=none:=fun b o e=>
 ⟨I.base.keep b o (I.ok.bs b o e).1 (I.ok.bs b o e).2 (I.ok.Xk e) (I.ok.Fo b o e),I.base.free b o (I.ok.bs b o e).1 (I.ok.bs b o e).2 (I.ok.Fo b o e)⟩
theorem aM.bk(I:aM X ae σ H s):∀b o,X.base.get? b=some o->s.heap.get? b=some o:=fun b o e=>(I.bs b o e).1
theorem aM.mod(I:aM X ae σ H s):Mod X.K X.mg X.base:=I.ok.mod
theorem aM.lK(I:aM X ae σ H s):X.K.In s.heap:=I.ok.mod.Q3.keeps I.bk
theorem aM.nolimit(I:aM X ae σ H s):s.heap.NoLimit:=I.ok.mod.nolimit.keeps I.bk
theorem aM.fr(I:aM X ae σ H s):∃m,Fr X.base X.env.locals s.heap m:=
 let ⟨m,hn,_⟩:=I.loc
 ⟨m,hn,I.bk,aX I.ok.Dt I.ok.above⟩
theorem aM.lt(I:aM X ae σ H s):X.env.locals<s.heap.objs.size:=let ⟨_,hn,_⟩:=I.loc;hn.lt
theorem aM.sz(I:aM X ae σ H s):X.s₀.heap.objs.size<=s.heap.objs.size:=aX I.ok.above (kl I.lt)
theorem aM.Xl(I:aM X ae σ H s)(h:s.heap.objs.size<=a):a∉X.fs:=fun hb=>by
 obtain⟨_,o,ho,_⟩:=I.ok.o_.mem hb;exact absurd (cz (a9 ho) (aX I.sz h)) (jT _)
theorem aM.Mg(I:aM X ae σ H s):∀x c,X.env.cells.lookup x=some c->c≠X.env.locals:=fun x c e z=>by
 obtain⟨v,o,ho,hd⟩:=I.cell x c e;obtain⟨m,⟨o',es,ep,vD,Fp,_⟩,_⟩:=I.loc;rw[z,vD] at ho;cases ho;rw[Fp] at hd;cases hd
theorem aM.o_(I:aM X ae σ H s):s.heap.FunFrames X.base X.outer:=by
 have all:∀ (l:List Env),(∀b∈Ds l,b∈X.fs)->X.s₀.heap.FunFrames X.base l->s.heap.FunFrames X.base l:=by
  intro l;induction l with
  |nil=>intro _ _;trivial
  |cons env r ih=>
   intro hs hl;obtain⟨hk,⟨L,o,hf,hn,ho,hd⟩,hr⟩:=hl;have hL:L∈X.fs:=hs L (by unfold Ds;rw[zy,hf];exact bL);obtain⟨sl,e⟩:=I.base.slot L o ho (I.ok.Ny L hL) hL fun z=>I.ok.Jk L z hL;exact⟨hk,⟨L,_,hf,hn,e,hd⟩,ih (fun b hb=>hs b (by unfold Ds;rw[zy,hf];exact cm _ hb)) hr⟩
 exact all X.outer (fun _ hb=>hb) I.ok.o_
theorem aM.stack(I:aM X ae σ H s):s.heap.FunFrames X.base X.stack:=by
 rcases I.ok.Q6 with e|⟨e,hf⟩
 .rw[e];exact I.o_
 .rw[e];obtain⟨m,hn,_⟩:=I.loc;refine .cons (by rw[I.ok.kind];decide) hf hn ?_ I.o_;exact oA (aX I.ok.Dt I.ok.above)
theorem aM.rB(I:aM X ae σ H s):∀b∈Ds X.stack,b∈X.env.locals::X.fs:=fun b hb=>by
 rcases I.ok.Q6 with e|⟨e,hf⟩
 .rw[e] at hb;exact cm _ hb
 .rw[e] at hb;unfold Ds at hb;rw[zy,hf] at hb;exact hb
theorem aM.mU(I:aM X ae σ H s):∀b∈Ds X.stack,H b=none:=fun b hb=>by
 rcases a_.mp (I.rB b hb) with e|hb
 .rw[e];exact I.free
 .obtain⟨_,o,ho,_⟩:=I.ok.o_.mem hb;exact I.base.free b o ho (I.ok.Ny b hb) fun z=>I.ok.Jk b z hb
theorem aM.step{g':Array GenState}{t':Nat}{d':Drawn}{ch:List Addr}(I:aM X ae σ H s)(IW:∀b∈ch,(b∈X.ex\/X.s₀.heap.objs.size<=b)/\b≠X.env.locals/\(∀x c,X.env.cells.lookup x=some c->c≠b)/\∀p∈X.pn++ae,p.1≠b)(keep:∀b o,b≠X.env.locals->b∉X.fs->b∉ch->s.heap.get? b=some o->H b=none->h'.get? b=some o)(slot:∀b o,b≠X.env.locals->b∈X.fs->b∉ch->s.heap.get? b=some o->H b=none->∃sl,h'.get? b=some { o with slots:=sl })(free:∀b o,b∉ch->s.heap.get? b=some o->H b=none->H' b=none)(there:∀b o,b∉ch->s.heap.get? b=some o->∃o',h'.get? b=some o')(me:∀b xs,H b=some (.tup xs)->H' b=some (.tup xs))(o8:∀b o u,H b=some (.vC o u)->H' b=some (.vC o u))(o9:∀b ps,H b=some (.j3 ps)->∃more,H' b=some (.j3 (ps++more)))(ns:∀m,s.heap.Ns X.env.locals m->h'.Ns X.env.locals m)(bE:j4 X.prog X.w H' h')(hg:AllBare g'):
  aM X ae σ H' { s with heap:=h',gens:=g',drawn:=d',toks:=t' }:=by
 have Wj:∀b o,X.s₀.heap.get? b=some o->b≠X.env.locals:=fun b o e=>bb (cz (a9 e) I.ok.above);have Wk:∀b o,X.s₀.heap.get? b=some o->b∉X.ex->b∉ch:=fun b o e hx hb=>by
  rcases(IW b hb).1 with z|z
  .exact hx z
  .exact absurd (cz (a9 e) z) (jT _)
 have Mh:∀x c,X.env.cells.lookup x=some c->∀v,s.heap.IsCell c v->h'.IsCell c v:=fun x c e v ⟨o,ho,hd⟩=>by
  have RZ:c∉ch:=fun z=>(IW c z).2.2.1 x c e rfl;by_cases hc:c∈X.fs
  .obtain⟨sl,q⟩:=slot c o (I.Mg x c e) hc RZ ho (I.jU x c e);exact⟨_,q,hd⟩
  .exact⟨o,keep c o (I.Mg x c e) hc RZ ho (I.jU x c e),hd⟩
 refine⟨I.ok,I.os,hg,⟨fun b o e n hb hx=>?_,fun b o e n hb hx=>?_,fun b o e n hx=>?_,fun b o e hx=>?_,fun b xs e=>me b xs (I.base.me b xs e),fun b o xs e=>o8 b o xs (I.base.o8 b o xs e),fun b ps e=>?_⟩,?_,fun x c e=>?_,?_,fun x c e=>?_,fun p hp=>?_,bE,I.len⟩
 .exact keep b o (Wj b o e) hb (Wk b o e hx) (I.base.keep b o e n hb hx) (I.base.free b o e n hx)
 .obtain⟨sl,e1⟩:=I.base.slot b o e n hb hx;obtain⟨Xm,e2⟩:=slot b _ (Wj b o e) hb (Wk b o e hx) e1 (I.base.free b o e n hx);exact⟨Xm,e2⟩
 .obtain⟨o',e1⟩:=I.base.there b o e hx;exact free b o' (Wk b o e hx) e1 (I.base.free b o e n hx)
 .obtain⟨o',e1⟩:=I.base.there b o e hx;exact there b o' (Wk b o e hx) e1
 .obtain⟨m1,e1⟩:=I.base.o9 b ps e;obtain⟨m2,e2⟩:=o9 b _ e1;exact⟨m1++m2,by rw[e2,Array.append_assoc]⟩
 .obtain⟨m,hn,hl⟩:=I.loc;refine⟨m,ns m hn,fun i x v e1 e2 e3=>?_⟩;obtain⟨u,r,l⟩:=hl i x v e1 e2 e3;refine⟨u,r,?_⟩;rcases l with l|⟨k,c,e,z⟩
  .exact .inl l
  .exact .inr ⟨k,c,e,Mh x c e _ z⟩
 .obtain⟨v,z⟩:=I.cell x c e;exact⟨v,Mh x c e v z⟩
 .obtain⟨m,⟨o,_,_,ho,_⟩,_⟩:=I.loc;exact free _ o (fun z=>(IW _ z).2.1 rfl) ho I.free
 .obtain⟨v,o,ho,hd⟩:=I.cell x c e;exact free c o (fun z=>(IW c z).2.2.1 x c e rfl) ho (I.jU x c e)
 .obtain⟨e,n,ne,nf,d⟩:=I.pin p hp;have RZ:p.1∉ch:=fun z=>(IW p.1 z).2.2.2 p hp rfl;exact⟨keep p.1 p.2 ne nf RZ e n,free p.1 p.2 RZ e n,ne,nf,d⟩
theorem aM.un{t':Nat}(I:aM X ae σ H s)(u:Un X.fs [] H H' s.heap h')(bE:j4 X.prog X.w H' h'):aM X ae σ H' { s with heap:=h',toks:=t' }:=by
 obtain⟨m,⟨o,es,ep,ho,r⟩,_⟩:=id I.loc;obtain⟨sl,hL⟩:=u.any ho I.free (by simp);exact I.step (g':=s.gens) (d':=s.drawn) (ch:=[]) (fun _ z=>nomatch z) (fun b o _ hb _ e n=>u.keep b o e n hb (by simp)) (fun b o _ hb _ e n=>u.slot b o e n hb (by simp)) (fun b o _ e n=>u.free b o e n (by simp)) (fun b o _ e=>u.there b o e (by simp)) u.me u.o8 u.o9 (fun m' hm=>by
  obtain⟨o',yQ,Wl,vD,r'⟩:=hm;rw[ho] at vD;cases vD;exact⟨_,yQ,Wl,hL,r'⟩) bE I.bare
theorem aM.call{g':Array GenState}{t':Nat}{d':Drawn}{ch:List Addr}(I:aM X ae σ H s)(u:Un (Ds X.stack) ch H H' s.heap h')(bE:j4 X.prog X.w H' h')(hg:AllBare g')(IW:∀b∈ch,(b∈X.ex\/X.s₀.heap.objs.size<=b)/\b≠X.env.locals/\(∀x c,X.env.cells.lookup x=some c->c≠b)/\∀p∈X.pn++ae,p.1≠b):
  aM X ae σ H' { s with heap:=h',gens:=g',drawn:=d',toks:=t' }:=by
 obtain⟨m,⟨o,es,ep,ho,r⟩,_⟩:=id I.loc;obtain⟨sl,hL⟩:=u.any ho I.free fun z=>(IW _ z).2.1 rfl;exact I.step (ch:=ch) IW (fun b o hL hb hc e n=>u.keep b o e n (fun z=>(a_.mp (I.rB b z)).elim hL hb) hc) (fun b o _ _ hc e n=>u.any e n hc) (fun b o hc e n=>u.free b o e n hc) (fun b o hc e=>u.there b o e hc) u.me u.o8 u.o9 (fun m' hm=>by
  obtain⟨o',yQ,Wl,vD,r'⟩:=hm;rw[ho] at vD;cases vD;exact⟨_,yQ,Wl,hL,r'⟩) bE hg
theorem aM.turned{t':Nat}{it:Addr}(I:aM X ae σ H s)(k:∀b o,b≠it->s.heap.get? b=some o->h'.get? b=some o)(hn:H it=none)(hL:it≠X.env.locals)(h1:it∈X.ex\/X.s₀.heap.objs.size<=it)(h2:∀x c,X.env.cells.lookup x=some c->c≠it)(h3:∀p∈X.pn++ae,p.1≠it):aM X ae σ H { s with heap:=h',toks:=t' }:=by
 have Mi:∀b u,H b=some u->b≠it:=fun b u e z=>by rw[z,hn] at e;cases e
 refine I.step (g':=s.gens) (d':=s.drawn) (ch:=[it]) (fun b hb=>?_) (fun b o _ _ hc e _=>k b o (fun z=>hc (by simp[z])) e) (fun b o _ _ hc e _=>⟨o.slots,k b o (fun z=>hc (by simp[z])) e⟩) (fun _ _ _ _ n=>n)
  (fun b o hc e=>⟨o,k b o (fun z=>hc (by simp[z])) e⟩) (fun _ _ e=>e) (fun _ _ _ e=>e) (fun b ps e=>⟨#[],by rw[e];simp⟩) (fun m hm=>?_) (fun b u e=>?_) I.bare
 .have e:b=it:=by simpa using hb
  subst e;exact⟨h1,hL,h2,h3⟩
 .obtain⟨o,es,ep,ho,r⟩:=hm;exact⟨o,es,ep,k _ o (il hL) ho,r⟩
 .refine(I.bE b u e).mT (fun c v hc q=>k c v ?_ q) (fun _ q=>q) fun _ _ q=>q;rcases hc with z|z
  .rw[z];exact Mi b u e
  .exact Mi c _ z
theorem aM.tok(I:aM X ae σ H s)(t:Nat):aM X ae σ H { s with toks:=t }:=I.un (h':=s.heap) (t':=t) Un.refl I.bE
theorem aM.kept(I:aM X ae σ H s)(k:∀b u,s.heap.get? b=some u->h'.get? b=some u):aM X ae σ H { s with heap:=h',toks:=t' }:=I.un (Un.kept k) (I.bE.kept k)
theorem aM.laid(I:aM X ae σ H s)(k:∀b u,s.heap.get? b=some u->h'.get? b=some u)(hp:s.heap.objs.size<=a)(new:cg X.prog X.w (upd H a o) h' a o):
  aM X ae σ (upd H a o) { s with heap:=h',toks:=t' }:=I.un (Un.laid k hp (I.bE.fresh hp)) (I.bE.laid k hp new)
theorem aM.write(I:aM X ae σ H s)(mu:RW (H x))(he:e=x\/H e=some (.own x))(k:∀b u,b≠e->s.heap.get? b=some u->h'.get? b=some u)(Q0:∃u,h'.get? e=some u)(new:cg X.prog X.w (upd H x o) h' x o):aM X ae σ (upd H x o) { s with heap:=h',toks:=t' }:=I.un (Un.write mu he k Q0) (I.bE.write mu he k Q0 new)
theorem aM.mV(I:aM X ae σ H s)(h:∀p∈pins',s.heap.get? p.1=some p.2/\H p.1=none/\p.1≠X.env.locals/\p.1∉X.fs/\∀v,p.2.data≠.cell v):aM X pins' σ H s:=
 ⟨I.ok,I.os,I.bare,I.base,I.loc,I.cell,I.free,I.jU,fun p hp=>(cK.mp hp).elim (fun z=>I.pin p (fw _ z)) (h p),I.bE,I.len⟩
theorem xc{N:List Str}(hN:N.Nodup){i j:Nat}{x:Str}(a:N[i]?=some x)(b:N[j]?=some x):i=j:=by
 obtain⟨h1,e1⟩:=cu.mp a;obtain⟨h2,e2⟩:=cu.mp b;exact(List.getElem_inj hN).mp (e1.trans e2.symm)
theorem tU{M:Model}{A:Around}{E:Value->Shared->Prop}{i:Nat}{x:Str}{v:V}{u:Value}{Q:Unit->Shared->Prop}(I:aM X ae σ H s)(hN:X.N.Nodup)(hi:X.N[i]?=some x)(hx:RY X.env.scope x)(r:bA v u)(h:∀s',aM X ae (σ.set i (some v)) H s'->(∃a,Heap.SameBut a s.heap s'.heap/\(a=X.env.locals\/X.env.cells.lookup x=some a))->Q () s')(hf:X.fn x=true\/X.env.scope.names.lookup x=some .local:=by first|exact .inl rfl|exact .inr rfl|assumption):wpAny M A (storeName X.env x u) Q E s:=by
 obtain⟨m,hn,hl⟩:=id I.loc;have Xn:(X.env.scope.kind==.class||(X.env.scope.kind==.module&&X.env.locals != X.env.globals))=false:=by rw[I.ok.kind];rfl
 have hiσ:i<σ.length:=by rw[I.len];exact(cu.mp hi).1
 have Mg:=I.Mg;have BK:∀ {a:Addr} {h':Heap},(∃o,s.heap.get? a=some o/\H a=none)->Heap.SameBut a s.heap h'->j4 X.prog X.w H h':=fun {a h'} ha hs b ob e=>by
  obtain⟨_,_,Mj⟩:=ha;refine(I.bE b ob e).mT (fun c w' hc q=>(hs.2 c ?_).trans q) (fun _ q=>q) fun _ _ q=>q;rintro rfl;rcases hc with rfl|hc
  .rw[Mj] at e;cases e
  .rw[Mj] at hc;cases hc
 rcases hx with hk|hk
 .refine wpAny_storeName_local hk hn (fun h' hn' hs=>?_) Xn;obtain⟨oL,_,_,Du,_⟩:=id hn;refine h _ ⟨I.ok,I.os,I.bare,⟨fun b o e n hb hx=>?_,fun b o e n hb hx=>?_,I.base.free,fun b o e hx=>?_,I.base.me,I.base.o8,I.base.o9⟩,⟨_,hn',fun j y v' e1 e2 e3=>?_⟩,fun y c e=>?_,I.free,I.jU,fun p hp=>?_,BK ⟨oL,Du,I.free⟩ hs,by simpa using I.len⟩ ⟨_,hs,.inl rfl⟩
  .exact(hs.2 b (bb (cz (a9 e) I.ok.above))).trans (I.base.keep b o e n hb hx)
  .obtain⟨sl,e1⟩:=I.base.slot b o e n hb hx;exact⟨sl,(hs.2 b (bb (cz (a9 e) I.ok.above))).trans e1⟩
  .obtain⟨o',e1⟩:=I.base.there b o e hx;exact⟨o',(hs.2 b (bb (cz (a9 e) I.ok.above))).trans e1⟩
  .by_cases hj:j=i
   .subst hj;rw[hi] at e1;cases e1;rw[pP hiσ] at e2;cases e2;exact⟨u,r,.inl ⟨hk,by simp⟩⟩
   .rw[lX (il hj)] at e2;obtain⟨u',r',q⟩:=hl j y v' e1 e2 e3;refine⟨u',r',?_⟩;rcases q with ⟨k,e⟩|⟨k,c,e,z⟩
    .refine .inl ⟨k,?_⟩;have:y≠x:=fun e=>hj (xc hN e1 (e ▸ hi));simp[this,e]
    .exact .inr ⟨k,c,e,z.sameBut hs (Mg y c e)⟩
  .obtain⟨w',z⟩:=I.cell y c e;exact⟨w',z.sameBut hs (Mg y c e)⟩
  .obtain⟨e,n,ne,nf,d⟩:=I.pin p hp;exact⟨(hs.2 p.1 ne).trans e,n,ne,nf,d⟩
 .have R1:X.fn x=true:=by
   rcases hf with z|z
   .exact z
   .rw[z] at hk;cases hk
  obtain⟨c,hc⟩:=I.ok.has x (.inl hk);obtain⟨w',z⟩:=I.cell x c hc;refine wpAny_storeName_cell I.ok.kind hk hc z (fun h' z9 hs=>?_);obtain⟨oc,Wm,Xo⟩:=id z;refine h { s with heap:=h' } ⟨I.ok,I.os,I.bare,⟨fun b o e n hb hx=>?_,fun b o e n hb hx=>?_,I.base.free,fun b o e hx=>?_,I.base.me,I.base.o8,I.base.o9⟩,⟨m,hn.sameBut hs (il (Mg x c hc)),fun j y v' e1 e2 e3=>?_⟩,fun y c' e=>?_,I.free,I.jU,fun p hp=>?_,BK ⟨oc,Wm,I.jU x c hc⟩ hs,by simpa using I.len⟩ ⟨c,hs,.inr hc⟩
  .exact(hs.2 b (bb (cz (a9 e) (I.ok.Q5 x c R1 hc)))).trans (I.base.keep b o e n hb hx)
  .obtain⟨sl,e1⟩:=I.base.slot b o e n hb hx;exact⟨sl,(hs.2 b (bb (cz (a9 e) (I.ok.Q5 x c R1 hc)))).trans e1⟩
  .obtain⟨o',e1⟩:=I.base.there b o e hx;exact⟨o',(hs.2 b (bb (cz (a9 e) (I.ok.Q5 x c R1 hc)))).trans e1⟩
  .by_cases hj:j=i
   .subst hj;rw[hi] at e1;cases e1;rw[pP hiσ] at e2;cases e2;exact⟨u,r,.inr ⟨.inl hk,c,hc,z9⟩⟩
   .rw[lX (il hj)] at e2;obtain⟨u',r',q⟩:=hl j y v' e1 e2 e3;refine⟨u',r',?_⟩;rcases q with q|⟨k,c',e,z'⟩
    .exact .inl q
    .refine .inr ⟨k,c',e,z'.sameBut hs ?_⟩;rintro rfl;exact hj (xc hN e1 (I.ok.inj _ _ _ e hc ▸ hi))
  .by_cases hcc:c'=c
   .subst hcc;exact⟨_,z9⟩
   .obtain⟨w2,z2⟩:=I.cell y c' e;exact⟨w2,z2.sameBut hs hcc⟩
  .obtain⟨e,n,ne,nf,d⟩:=I.pin p hp;refine⟨(hs.2 p.1 ?_).trans e,n,ne,nf,d⟩;intro q;rw[q,Wm] at e;have q':oc=p.2:=bh e;exact d w' (by rw[<-q'];exact Xo)
theorem ky(I:aM X ae σ H s)(hN:X.N.Nodup)(hi:X.N[i]?=some x)(hx:RY X.env.scope x)(r:bA v u)(h:∀s',aM X ae (σ.set i (some v)) H s'->Q () s')(hf:X.fn x=true\/X.env.scope.names.lookup x=some .local:=by first|exact .inl rfl|exact .inr rfl|assumption):wpAny M A (storeName X.env x u) Q E s:=
 tU I hN hi hx r (fun s' I' _=>h s' I') hf
theorem aM.Fq(I:aM X ae σ H s)(ho:s'.os=s.os)(u:Un (Ds X.stack) ch H H' s.heap s'.heap)(bE:j4 X.prog X.w H' s'.heap)(hg:AllBare s'.gens)(IW:∀b∈ch,(b∈X.ex\/X.s₀.heap.objs.size<=b)/\b≠X.env.locals/\(∀x c,X.env.cells.lookup x=some c->c≠b)/\∀p∈X.pn++ae,p.1≠b):aM X ae σ H' s':=by
 obtain⟨h',g',d',t',o'⟩:=s';have e:o'=s.os:=ho;subst e;exact I.call (g':=g') (t':=t') (d':=d') u bE hg IW
end
abbrev XK:=Value->Option Addr->Hp->Prop
abbrev St:=List (Option V)
abbrev VK:=V->Hp->Prop
abbrev TE:=St->Hp->VK->Prop
abbrev TT:=St->Hp->(Bool->Hp->Prop)->Prop
abbrev TA:=St->Hp->(List V->Hp->Prop)->Prop
structure vE where
 nx:St->Hp->Prop
 rt:VK
 bk:St->Hp->Prop:=fun _ _=>False
 ct:St->Hp->Prop:=fun _ _=>False
abbrev TS:=vE->St->Hp->Prop
def EP(X:Cx)(ae:List (Addr×Obj))(σ:St)(Q:VK)(u:Value)(s':Shared):Prop:=∃v H',aM X ae σ H' s'/\bA v u/\Q v H'
def TP(X:Cx)(ae:List (Addr×Obj))(σ:St)(Q:Bool->Hp->Prop)(b:Bool)(s':Shared):Prop:=∃H',aM X ae σ H' s'/\Q b H'
def AP(X:Cx)(ae:List (Addr×Obj))(σ:St)(Q:List V->Hp->Prop)(us:List Value)(s':Shared):Prop:=∃vs H',aM X ae σ H' s'/\aZ vs us/\Q vs H'
def SP(X:Cx)(ae:List (Addr×Obj))(D:vE)(f:Flow)(s':Shared):Prop:=
 match f with
 |.next=>∃σ' H',aM X ae σ' H' s'/\D.nx σ' H'
 |.brk=>∃σ' H',aM X ae σ' H' s'/\D.bk σ' H'
 |.cont=>∃σ' H',aM X ae σ' H' s'/\D.ct σ' H'
 |.ret u=>∃v σ' H',aM X ae σ' H' s'/\bA v u/\D.rt v H'
def PE(X:Cx)(e:Expr)(t:TE):Prop:=
 ∀ (ae:List (Addr×Obj)) (s:Shared) (σ:St) (H:Hp) (Q:VK),aM X ae σ H s->t σ H Q->wpAny (model X.prog X.w) X.A (eval e X.env) (EP X ae σ Q) X.xe s
def PT(X:Cx)(e:Expr)(t:TT):Prop:=
 ∀ (ae:List (Addr×Obj)) (s:Shared) (σ:St) (H:Hp) (Q:Bool->Hp->Prop),aM X ae σ H s->t σ H Q->wpAny (model X.prog X.w) X.A (isTrue e X.env (eval e X.env)) (TP X ae σ Q) X.xe s
def PW(X:Cx)(e:Expr)(t:TT):Prop:=
 ∀ (rC:Sem Value) (ae:List (Addr×Obj)) (s:Shared) (σ:St) (H:Hp) (Q:Bool->Hp->Prop),aM X ae σ H s->t σ H Q->wpAny (model X.prog X.w) X.A (isTrue e X.env rC) (TP X ae σ Q) X.xe s
theorem PW.pt(h:PW X e t):PT X e t:=h _
def PA(X:Cx)(es:List Expr)(t:TA):Prop:=
 ∀ (pos:Pos) (ae:List (Addr×Obj)) (s:Shared) (σ:St) (H:Hp) (Q:List V->Hp->Prop),aM X ae σ H s->t σ H Q->wpAny (model X.prog X.w) X.A (spliced (backTo pos (starEach es X.env))) (AP X ae σ Q) X.xe s
def PS(X:Cx)(st:Stmt)(t:TS):Prop:=
 ∀ (ae:List (Addr×Obj)) (s:Shared) (σ:St) (H:Hp) (D:vE),aM X ae σ H s->t D σ H->wpAny (model X.prog X.w) X.A (exec st X.env) (SP X ae D) X.xe s
def z_(X:Cx)(st:List Stmt)(t:TS):Prop:=
 ∀ (ae:List (Addr×Obj)) (s:Shared) (σ:St) (H:Hp) (D:vE),aM X ae σ H s->t D σ H->wpAny (model X.prog X.w) X.A (execs st X.env) (SP X ae D) X.xe s
theorem cJ(h:wpAny M A t Q E s)(hQ:∀a s,Q a s->Q' a s):wpAny M A t Q' E s:=gn h hQ fun _ _ x=>x
section
variable {X:Cx}
def aT(i:Nat):TE:=fun σ H Q=>∃v,σ[i]?=some (some v)/\Q v H
def tC(v:V):TE:=fun _ H Q=>Q v H
theorem Nz(hN:X.N[i]?=some x)(hv:Q4 X.env.scope x)(hd:(x==("__debug__":Str))=false:=by decide)(tV:(x==("__classdict__":Str))=false:=by decide):PE X (.Name x pos) (aT i):=by
 intro ae s σ H Q I h;obtain⟨v,e,h⟩:=h;obtain⟨m,hn,hl⟩:=I.loc;obtain⟨u,r,l⟩:=hl i x v hN e hv;have dS:EP X ae σ Q u s:=⟨v,H,I,r,h⟩
 rcases l with ⟨hk,hm⟩|⟨hk,c,hc,BL⟩
 .exact o4 (zH I.ok.kind hk hn hm dS) hd
 .rcases hk with hk|hk
  .exact o4 (wpAny_loadName_cell I.ok.kind hk hc BL dS) hd
  .exact o4 (zM I.ok.kind hk hc BL dS tV) hd
theorem au{i j pos}:PE X (.Constant (.int i) j pos) (tC (.int i)):=fun _ _ _ H _ I h=>wpAny_Constant_int ⟨.int i,H,I.tok _,⟨_,rfl⟩,h⟩
theorem jV{b j pos}:PE X (.Constant (.bool b) j pos) (tC (.bl b)):=fun _ _ _ H _ I h=>Constant_bool ⟨.bl b,H,I,rfl,h⟩
theorem dU{j pos}:PE X (.Constant .none j pos) (tC .cf):=fun _ _ _ H _ I h=>Constant_none ⟨.cf,H,I,rfl,h⟩
def Gl(X:Cx)(x:Str):Prop:=X.env.kindOf x=some .globalImplicit
theorem mW(I:aM X ae σ H s)(hg:Gl X x)(hm:X.mg x=some u)(h:Q u s)(hd:(x==("__debug__":Str))=false:=by decide):wpAny (model X.prog X.w) X.A (eval (.Name x pos) X.env) Q E s:=
 Calls.Name_function_global I.ok.kind hg (Calls.loadGlobal_global (by rw[I.ok.glob];exact I.mod.glob.keeps I.bk) hm h) hd
theorem jv(I:aM X ae σ H s)(hg:Gl X x)(hm:X.mg x=none)(hv:bootBuiltins x=some u)(h:Q u s)(hn:x≠"__name__":=by decide)(hd:(x==("__debug__":Str))=false:=by decide):wpAny (model X.prog X.w) X.A (eval (.Name x pos) X.env) Q E s:=by
 obtain⟨mb,h1,h2⟩:=I.mod.blt;exact Calls.Name_function_global I.ok.kind hg (Calls.loadGlobal_builtin (by rw[I.ok.glob];exact I.mod.glob.keeps I.bk) hm (by rw[I.ok.blt];exact h1.keeps I.bk) ((h2 x hn).trans hv) h) hd
theorem qp(hg:Gl X x)(hm:X.mg x=some u)(r:bA v u)(hd:(x==("__debug__":Str))=false:=by decide):PE X (.Name x pos) (tC v):=
 fun _ _ _ H _ I h=>mW I hg hm ⟨v,H,I,r,h⟩ hd
theorem lf(hg:Gl X x)(hm:X.mg x=none)(hv:bootBuiltins x=some u)(r:bA v u)(hn:x≠"__name__":=by decide)(hd:(x==("__debug__":Str))=false:=by decide):PE X (.Name x pos) (tC v):=
 fun _ _ _ H _ I h=>jv I hg hm hv ⟨v,H,I,r,h⟩ hn hd
variable {a b:Expr} {ta tb:TE} {pos:Pos}
def PC(X:Cx)(op:CmpOp)(a b:Expr)(t:TE):Prop:=
 ∀ (ae:List (Addr×Obj)) (s:Shared) (σ:St) (H:Hp) (Q:VK),aM X ae σ H s->t σ H Q->
  wpAny (model X.prog X.w) X.A (eval a X.env) (fun v s₁=>wpAny (model X.prog X.w) X.A (eval b X.env) (fun u s₂=>wpAny (model X.prog X.w) X.A (compareOp op v u) (EP X ae σ Q) X.xe s₂) X.xe s₁) X.xe s
def tB(t:TE):TT:=fun σ H Q=>t σ H fun x H1=>∃c,x=.bl c/\Q c H1
theorem NC(h:PC X op a b t)(h1:behindInMarks op b=false:=by first|exact R3 _ (by decide) (by decide)|rfl):PT X (.Compare a [op] [b] pos) (tB t):=by
 intro ae s σ H Q I hw;refine wpAny_isTrue_Compare1 (cJ (h ae s σ H _ I hw) fun v s1 h1=>cJ h1 fun u s2 h2=>cJ h2 fun c s3 ⟨x,H1,I1,r1,q1⟩=>?_) h1;obtain⟨d,rfl,q⟩:=q1;cases r1;exact l6 ⟨H1,I1,q⟩
theorem fR(h:PE X e t)(he:∀rC,isTrue e X.env rC=(do let v <- rC;standAt e.pos;holding [v] (truthy v)):=by intro _;rfl):PT X e (tB t):=by
 intro ae s σ H Q I hw;refine isTrue_plain (cJ (h ae s σ H _ I hw) fun v s1 ⟨x,H1,I1,r1,q1⟩=>?_) (he _);obtain⟨d,rfl,q⟩:=q1;cases r1;exact l6 ⟨H1,I1,q⟩
variable {tA Wn:TT} {rest:List Expr}
def R6(t u:TT):TT:=fun σ H Q=>t σ H fun c H1=>if c=true then u σ H1 Q else Q false H1
def tOr(t u:TT):TT:=fun σ H Q=>t σ H fun c H1=>if c=true then Q true H1 else u σ H1 Q
def Xp(t:TT):TT:=fun σ H Q=>t σ H fun c H1=>Q (!c) H1
theorem qr(ha:PT X a tA):PW X (.BoolOp .And [a] pos) tA:=by
 intro wh ae s σ H Q I h;refine isTrue_and (cJ (ha ae s σ H Q I h) fun c s1 e=>?_);cases c with
 |true=>exact isTrue_and_nil e
 |false=>exact e
theorem Aa(ha:PT X a tA):PW X (.BoolOp .Or [a] pos) tA:=by
 intro wh ae s σ H Q I h;refine isTrue_or (cJ (ha ae s σ H Q I h) fun c s1 e=>?_);cases c with
 |false=>exact isTrue_or_nil e
 |true=>exact e
theorem rD(ha:PT X a tA)(hb:PW X (.BoolOp .And (b::rest) pos) Wn):PW X (.BoolOp .And (a::b::rest) pos) (R6 tA Wn):=by
 intro wh ae s σ H Q I h;refine isTrue_and (cJ (ha ae s σ H _ I h) fun c s1 ⟨H1,I1,q1⟩=>?_);cases c with
 |true=>exact hb wh ae s1 σ H1 Q I1 q1
 |false=>exact⟨H1,I1,q1⟩
theorem BM(ha:PT X a tA)(hb:PW X (.BoolOp .Or (b::rest) pos) Wn):PW X (.BoolOp .Or (a::b::rest) pos) (tOr tA Wn):=by
 intro wh ae s σ H Q I h;refine isTrue_or (cJ (ha ae s σ H _ I h) fun c s1 ⟨H1,I1,q1⟩=>?_);cases c with
 |true=>exact⟨H1,I1,q1⟩
 |false=>exact hb wh ae s1 σ H1 Q I1 q1
theorem jw(ha:PT X a tA):PT X (.UnaryOp .Not a pos) (Xp tA):=by
 intro ae s σ H Q I h;exact isTrue_not (ha ae s σ H (fun c H1=>Q (!c) H1) I h)
def R7(ta tb:TE):TE:=fun σ H Q=>ta σ H fun x H1=>∃c,x=.bl c/\if c=true then tb σ H1 Q else Q (.bl false) H1
def R8(ta:TE):TE:=fun σ H Q=>ta σ H fun x H1=>∃c,x=.bl c/\Q (.bl (!c)) H1
theorem mf{op}(h:PE X a t):PE X (.BoolOp op [a] pos) t:=fun ae s σ H Q I hw=>BoolOp_one (h ae s σ H Q I hw)
theorem jx(ha:PE X a ta)(hb:PE X (.BoolOp .And (b::rest) pos) tb):PE X (.BoolOp .And (a::b::rest) pos) (R7 ta tb):=by
 intro ae s σ H Q I h;refine BoolOp_and (cJ (ha ae s σ H _ I h) fun v s1 ⟨x,H1,I1,r1,q1⟩=>?_);obtain⟨c,rfl,q1⟩:=q1;cases r1;refine l6 ?_;cases c with
 |true=>exact hb ae s1 σ H1 Q I1 q1
 |false=>exact⟨.bl false,H1,I1,rfl,q1⟩
theorem ND(ha:PE X a ta):PE X (.UnaryOp .Not a pos) (R8 ta):=by
 intro ae s σ H Q I h;refine UnaryOp_ (cJ (ha ae s σ H _ I h) fun v s1 ⟨x,H1,I1,r1,q1⟩=>?_);obtain⟨c,rfl,q1⟩:=q1;cases r1;exact not_of (l6 ⟨.bl (!c),H1,I1,rfl,q1⟩)
def Xq(t:TT)(ta tb:TE):TE:=fun σ H Q=>t σ H fun c H1=>if c=true then ta σ H1 Q else tb σ H1 Q
theorem xf(hc:PT X c tA)(ha:PE X a ta)(hb:PE X b tb):PE X (.IfExp c a b pos) (Xq tA ta tb):=by
 intro ae s σ H Q I h;refine wpAny_IfExp (cJ (hc ae s σ H _ I h) fun d s1 ⟨H1,I1,q1⟩=>?_);cases d with
 |true=>exact ha ae s1 σ H1 Q I1 q1
 |false=>exact hb ae s1 σ H1 Q I1 q1
end
def a8(K:PySem.W.Frag)(H:Hp)(a:Addr)(xs:List V):Prop:=
 Rd H a (.lst xs)\/
  ∃ (o:Obj) (its:Array Value) (n:Nat),K.lookup a=some o/\o.cls=.type "list"/\o.dict=none/\o.data=.seq its n/\its.size<=sizeLine/\aZ xs its.toList
def bJ(K:PySem.W.Frag)(H:Hp)(a:Addr)(xs:List V):Prop:=
 Rd H a (.tup xs)\/
  ∃ (o:Obj) (its:Array Value) (n:Nat),K.lookup a=some o/\o.cls=.type "tuple"/\o.data=.seq its n/\its.size<=sizeLine/\aZ xs its.toList
def Xr:Value->Option V
 |.none=>some .cf
 |.bool b=>some (.bl b)
 |.int i _=>some (.int i)
 |.str x _=>some (.str x)
 |.bytes b _=>some (.BJ b)
 |.float b _=>some (.Nw b)
 |.ref a=>some (.ref a)
 |.type n=>some (.ty n)
 |_=>none
theorem bA.abs(r:bA x u):Xr u=some x:=by
 cases x with
 |cf=>cases r;rfl
 |bl _=>cases r;rfl
 |int _=>obtain⟨t,rfl⟩:=r;rfl
 |str _=>obtain⟨t,rfl⟩:=r;rfl
 |BJ _=>obtain⟨t,rfl⟩:=r;rfl
 |Nw _=>obtain⟨t,rfl⟩:=r;rfl
 |ref _=>cases r;rfl
 |ty _=>cases r;rfl
theorem bA.inj(r:bA x u)(q:bA y u):x=y:=bh (r.abs.symm.trans q.abs)
theorem aZ.inj:∀ {xs ys:List V} {us:List Value},aZ xs us->aZ ys us->xs=ys
 |_,_,_,.nil,.nil=>rfl
 |_,_,_,.cons r t,.cons r' t'=>by rw[r.inj r',aZ.inj t t']
section
variable {X:Cx} {ae:List (Addr×Obj)} {σ:St} {H:Hp} {s:Shared} {a:Addr} {xs ys:List V}
theorem a8.of{K:PySem.W.Frag}(h:H a=some (.lst xs)):a8 K H a xs:=.inl (.inl h)
theorem bJ.of{K:PySem.W.Frag}(h:H a=some (.tup xs)):bJ K H a xs:=.inl (.inl h)
theorem aM.list(I:aM X ae σ H s)(h:a8 X.K H a xs):∃its:List Value,aZ xs its/\PlainL s.heap a its.toArray/\xs.length<=sizeLine:=by
 rcases h with h|⟨o,its,n,hk,hc,hd,hs,hz,r⟩
 .obtain⟨z,its,n,r,e⟩:=h.ok I.bE;exact⟨its,r,⟨_,n,e,rfl,rfl,rfl⟩,z⟩
 .refine⟨its.toList,r,⟨o,n,I.lK a o hk,hc,hd,by simpa using hs⟩,?_⟩;have e:=r.length;simp only[mR] at e;lia
theorem aM.tuple(I:aM X ae σ H s)(h:bJ X.K H a xs):∃its:List Value,aZ xs its/\IsTup s.heap a its.toArray/\xs.length<=sizeLine:=by
 rcases h with h|⟨o,its,n,hk,hc,hs,hz,r⟩
 .obtain⟨z,its,r,p⟩:=h.ok I.bE;exact⟨its,r,p.tup,z⟩
 .refine⟨its.toList,r,⟨o,I.lK a o hk,hc,n,by simpa using hs⟩,?_⟩;have e:=r.length;simp only[mR] at e;lia
theorem aM.xg(I:aM X ae σ H s)(h:a8 X.K H a xs)(h':a8 X.K H a ys):xs=ys:=by
 obtain⟨its,r,⟨o,n,e,_,_,d⟩,_⟩:=I.list h;obtain⟨its',r',⟨o',n',e',_,_,d'⟩,_⟩:=I.list h';rw[e] at e';cases e';rw[d] at d';injection d' with d1 _;have:its=its':=by simpa using congrArg Array.toList d1
 subst this;exact r.inj r'
theorem aM.gp(I:aM X ae σ H s)(h:bJ X.K H a xs)(h':bJ X.K H a ys):xs=ys:=by
 obtain⟨its,r,⟨o,e,_,n,d⟩,_⟩:=I.tuple h;obtain⟨its',r',⟨o',e',_,n',d'⟩,_⟩:=I.tuple h';rw[e] at e';cases e';rw[d] at d';injection d' with d1 _;have:its=its':=by simpa using congrArg Array.toList d1
 subst this;exact r.inj r'
end
abbrev Cx.tm(X:Cx)(E:Value->Shared->Prop):Cx:={ X with xe:=E }
abbrev Cx.Fs(X:Cx):Cx:=X.tm fun _ _=>False
theorem Cx.Ok.tm{X:Cx}(ok:X.Ok)(E:Value->Shared->Prop):(X.tm E).Ok:=
 ⟨ok.mod,ok.kind,ok.glob,ok.blt,ok.above,ok.inj,ok.has,ok.Q5,ok.hd,ok.frames,ok.Q6,ok.Xj,ok.bs,ok.Dt,ok.Fo,ok.Jk,ok.o_,ok.Ny⟩
theorem Cx.Ok.kB{X:Cx}{E:Value->Shared->Prop}(ok:(X.tm E).Ok):X.Ok:=
 ⟨ok.mod,ok.kind,ok.glob,ok.blt,ok.above,ok.inj,ok.has,ok.Q5,ok.hd,ok.frames,ok.Q6,ok.Xj,ok.bs,ok.Dt,ok.Fo,ok.Jk,ok.o_,ok.Ny⟩
section
variable {X:Cx} {ae:List (Addr×Obj)} {σ:St} {H:Hp} {s:Shared} {E:Value->Shared->Prop}
theorem aM.tm(I:aM X ae σ H s)(E:Value->Shared->Prop):aM (X.tm E) ae σ H s:=⟨I.ok.tm E,I.os,I.bare,I.base,I.loc,I.cell,I.free,I.jU,I.pin,I.bE,I.len⟩
theorem aM.kB(I:aM (X.tm E) ae σ H s):aM X ae σ H s:=⟨I.ok.kB,I.os,I.bare,I.base,I.loc,I.cell,I.free,I.jU,I.pin,I.bE,I.len⟩
theorem SP.kB(h:SP (X.tm E) ae D f s'):SP X ae D f s':=by
 cases f with
 |next=>obtain⟨σ',H',I,q⟩:=h;exact⟨σ',H',I.kB,q⟩
 |brk=>obtain⟨σ',H',I,q⟩:=h;exact⟨σ',H',I.kB,q⟩
 |cont=>obtain⟨σ',H',I,q⟩:=h;exact⟨σ',H',I.kB,q⟩
 |ret u=>obtain⟨v,σ',H',I,r,q⟩:=h;exact⟨v,σ',H',I.kB,r,q⟩
theorem z_.Fs{st:List Stmt}{t:TS}(h:z_ X.Fs st t):z_ X st t:=fun ae s σ H D I hw=>
 gn (h ae s σ H D (I.tm _) hw) (fun _ _ q=>q.kB) fun _ _ z=>False.elim z
end
section
variable {X:Cx} {st:Stmt} {rest:List Stmt} {t u:TS} {e:Expr} {te:TE} {pos:Pos}
def Ml:TS:=fun D σ H=>D.nx σ H
def R9(t u:TS):TS:=fun D σ H=>t { D with nx:=u D } σ H
theorem be:z_ X [] Ml:=fun _ _ σ H _ I h=>vt ⟨σ,H,I,h⟩
theorem ah(h1:PS X st t)(h2:z_ X rest u):z_ X (st::rest) (R9 t u):=by
 intro ae s σ H D I h;refine wpAny_execs_cons (cJ (h1 ae s σ H { D with nx:=u D } I h) fun f s1 q=>?_);cases f with
 |next=>
  obtain⟨σ',H',I',q⟩:=q;exact h2 ae s1 σ' H' D I' q
 |ret v=>exact q
 |brk=>exact q
 |cont=>exact q
theorem aj(h1:PS X st t):z_ X [st] t:=by
 intro ae s σ H D I h;refine wpAny_execs_cons (cJ (h1 ae s σ H D I h) fun f s1 q=>?_);cases f with
 |next=>exact vt q
 |ret v=>exact q
 |brk=>exact q
 |cont=>exact q
theorem Jl:PS X (.Pass pos) Ml:=fun _ _ σ H _ I h=>wpAny_Pass ⟨σ,H,I,h⟩
theorem aM.quiet(I:aM X ae σ H s):interactive X.env=false:=by simp[interactive,I.ok.kind]
def R_(te:TE):TS:=fun D σ H=>te σ H fun _ H1=>D.nx σ H1
theorem cS(he:PE X e te)(hs:swapsWith e none pos.line X.env=pure false:=by rfl):PS X (.Expr e pos) (R_ te):=by
 intro ae s σ H D I h;exact wpAny_Expr_any (cJ (he ae s σ H _ I h) fun v s1 ⟨x,H1,I1,r1,q1⟩=>⟨σ,H1,I1,q1⟩) I.quiet hs
def Xs(te:TE):TS:=fun D σ H=>te σ H D.rt
theorem aL(he:PE X e te):PS X (.Return (some e) pos) (Xs te):=by
 intro ae s σ H D I h;exact wpAny_Return_some (cJ (he ae s σ H _ I h) fun v s1 ⟨x,H1,I1,r1,q1⟩=>⟨x,σ,H1,I1,r1,q1⟩)
def Xt(c:TT)(t u:TS):TS:=fun D σ H=>c σ H fun b H1=>if b=true then t D σ H1 else u D σ H1
theorem cw(hc:PT X c tc)(ha:z_ X a t)(hb:z_ X b u):PS X (.If c a b pos) (Xt tc t u):=by
 intro ae s σ H D I h;refine wpAny_If (cJ (hc ae s σ H _ I h) fun d s1 ⟨H1,I1,q1⟩=>?_);cases d with
 |true=>exact ha ae s1 σ H1 D I1 q1
 |false=>exact hb ae s1 σ H1 D I1 q1
def NF:TS:=fun _ _ _=>False
theorem fD:z_ X sts NF:=fun _ _ _ _ _ _ h=>h.elim
end
abbrev TG:=V->St->Hp->(St->Hp->Prop)->Prop
abbrev Sa:=List V->St->Hp->(St->Hp->Prop)->Prop
def PG(X:Cx)(NG:Expr)(t:TG):Prop:=
 ∀ (ae:List (Addr×Obj)) (s:Shared) (σ:St) (H:Hp) (v:V) (u:Value) (Q:St->Hp->Prop),aM X ae σ H s->bA v u->t v σ H Q->
  wpAny (model X.prog X.w) X.A (assign NG X.env u) (fun _ s'=>∃σ' H',aM X ae σ' H' s'/\Q σ' H') X.xe s
def Wo(X:Cx)(ts:List Expr)(t:Sa):Prop:=
 ∀ (ae:List (Addr×Obj)) (s:Shared) (σ:St) (H:Hp) (vs:List V) (us:List Value) (Q:St->Hp->Prop),aM X ae σ H s->aZ vs us->t vs σ H Q->
  wpAny (model X.prog X.w) X.A (assignInOrder ((assignEach ts X.env).map (·.2)) us) (fun _ s'=>∃σ' H',aM X ae σ' H' s'/\Q σ' H') X.xe s
abbrev Sb:=V->V->V->Hp->(Hp->Prop)->Prop
def Sc(X:Cx)(t:Sb):Prop:=
 ∀ (ae:List (Addr×Obj)) (s:Shared) (σ:St) (H:Hp) (o i v:V) (ov iv u:Value) (Q:Hp->Prop),aM X ae σ H s->bA o ov->bA i iv->bA v u->t o i v H Q->
  wpAny (model X.prog X.w) X.A (setItem ov iv u) (fun _ s'=>∃H',aM X ae σ H' s'/\Q H') X.xe s
abbrev Xu:=V->V->Hp->VK->Prop
def PIp(X:Cx)(op:Operator)(t:Xu):Prop:=
 ∀ (ae:List (Addr×Obj)) (s:Shared) (σ:St) (H:Hp) (x y:V) (v u:Value) (Q:VK),aM X ae σ H s->bA x v->bA y u->t x y H Q->
  wpAny (model X.prog X.w) X.A (inplaceOp op v u) (EP X ae σ Q) X.xe s
section
variable {X:Cx} {pos:Pos}
def bi(i:Nat):TG:=fun v σ H Q=>Q (σ.set i (some v)) H
theorem av(hN:X.N.Nodup)(hi:X.N[i]?=some x)(hx:RY X.env.scope x)(hf:X.fn x=true\/X.env.scope.names.lookup x=some .local:=by first|exact .inl rfl|exact .inr rfl|assumption):PG X (.Name x pos) (bi i):=by
 intro ae s σ H v u Q I r h;exact wpAny_assign_Name (ky I hN hi hx r (fun s' I'=>⟨_,H,I',h⟩) hf)
def mX:Sa:=fun vs σ H Q=>vs=[]/\Q σ H
def dI(t:TG)(u:Sa):Sa:=fun vs σ H Q=>∃v r,vs=v::r/\t v σ H fun σ' H'=>u r σ' H' Q
theorem cT:Wo X [] mX:=by
 intro ae s σ H vs us Q I r h;obtain⟨e,h⟩:=h;subst e;cases r;exact assignInOrder_nil ⟨σ,H,I,h⟩
theorem aR(h1:PG X e t)(h2:Wo X es u)(hs:(assignEach (e::es) X.env).map (·.2)=assign e X.env::(assignEach es X.env).map (·.2):=by rfl):Wo X (e::es) (dI t u):=by
 intro ae s σ H vs us Q I r h;obtain⟨v,vr,e1,h⟩:=h;subst e1;cases r with
 |cons r rr=>
  rw[hs];refine assignInOrder_cons (cJ (h1 ae s σ H _ _ _ I r h) fun _ s1 ⟨σ1,H1,I1,q1⟩=>?_);exact h2 ae s1 σ1 H1 _ _ Q I1 rr q1
def mY(K:PySem.W.Frag)(n:Nat)(t:Sa):TG:=fun v σ H Q=>∃a xs,v=.ref a/\bJ K H a xs/\xs.length=n/\t xs σ H Q
theorem dW(hc:X.calm=true)(h:Wo X es t)(hn:(assignEach es X.env).length=n:=by rfl)(mZ:(assignEach es X.env).findIdx? (·.1)=none:=by rfl):PG X (.Tuple es k pos) (mY X.K n t):=by
 intro ae s σ H v u Q I r hw;obtain⟨a,xs,e1,hq,hl,hw⟩:=hw;subst e1;cases r;obtain⟨its,rv,ht,hz⟩:=I.tuple hq;refine assign_Tuple_tuple (I.ok.hd hc) ht (by simp[hn,<-hl,rv.length]) mZ fun h' hx=>?_;have I1:aM X ae σ H { s with heap:=h' }:=I.kept (t':=s.toks) fun b o e=>hx b o (bb (a9 e)) e;exact h ae _ σ H xs _ Q I1 (by simpa using rv) hw
def Xv(to ti:TE)(t:Sb):TG:=fun v σ H Q=>to σ H fun o H1=>ti σ H1 fun i H2=>t o i v H2 fun H3=>Q σ H3
theorem jy(ho:PE X o to)(hi:PE X i ti)(hs:Sc X t)(ha:∀v,assign (.Subscript o i pos) X.env v=(do
   let ov <- holding [v] (eval o X.env)
   let iv <- holding [v,ov] (eval i X.env)
   standAt pos
   holding [v,ov,iv] (setItem ov iv v)
   release [v,ov,iv] []):=by intro _;rfl):PG X (.Subscript o i pos) (Xv to ti t):=by
 intro ae s σ H v u Q I r h;rw[ha];refine az (iO (cJ (ho ae s σ H _ I h) fun ov s1 ⟨x,H1,I1,r1,q1⟩=>?_));refine az (iO (cJ (hi ae s1 σ H1 _ I1 q1) fun iv s2 ⟨y,H2,I2,r2,q2⟩=>?_));refine az (oW (az (iO (cJ (hs ae s2 σ H2 x y v ov iv u _ I2 r1 r2 r q2) fun _ s3 ⟨H3,I3,q3⟩=>?_))));exact wpAny_release ⟨σ,H3,I3,q3⟩
def NH(te:TE)(g:TG):TS:=fun D σ H=>te σ H fun x H1=>g x σ H1 D.nx
theorem fT(he:PE X e te)(hg:PG X tg g)(hs:swapsWithSole [tg] e pos.line X.env=pure false:=by rfl)(hw:swappedStores [tg] e X.env=pure none:=by rfl)(h1:(assignEach [tg] X.env).map (·.2)=[assign tg X.env]:=by rfl):PS X (.Assign [tg] e pos) (NH te g):=by
 intro ae s σ H D I h;refine wpAny_Assign_stores (cJ (he ae s σ H _ I h) fun v s1 ⟨x,H1,I1,r1,q1⟩=>?_) hs hw;rw[h1];exact cJ (hg ae s1 σ H1 x v _ I1 r1 q1) fun _ s2 q=>q
theorem aF(hN:X.N.Nodup)(hi:X.N[i]?=some x)(hx:RY X.env.scope x)(he:PE X e te)(hs:swapsWith e (some (.Name x xh)) pos.line X.env=pure false:=by rfl)(hf:X.fn x=true\/X.env.scope.names.lookup x=some .local:=by first|exact .inl rfl|exact .inr rfl|assumption):
  PS X (.Assign [.Name x xh] e pos) (NH te (bi i)):=by
 intro ae s σ H D I h;refine wpAny_Assign_Name (cJ (he ae s σ H _ I h) fun v s1 ⟨y,H1,I1,r1,q1⟩=>?_) hs;exact ky I1 hN hi hx r1 (fun s2 I2=>⟨_,H1,I2,q1⟩) hf
def Xw(i j:Nat)(ta:TA):TS:=fun D σ H=>ta σ H fun vs H1=>∃v w,vs=[v,w]/\D.nx ((σ.set i (some v)).set j (some w)) H1
theorem NI{kt k2 Q7}(hc:X.calm=true)(hN:X.N.Nodup)(hi:X.N[i]?=some x)(hj:X.N[j]?=some y)(EM:i≠j)(hx:X.env.scope.names.lookup x=some .local)(hy:X.env.scope.names.lookup y=some .local)(ha:PA X [a,b] ta)(hw:swappedStores [.Tuple [.Name x px,.Name y py] kt pt] (.Tuple [a,b] k2 Q7) X.env=pure (some [x,y]))(hs:swapsWithSole [.Tuple [.Name x px,.Name y py] kt pt] (.Tuple [a,b] k2 Q7) pos.line X.env=pure false:=by rfl):
  PS X (.Assign [.Tuple [.Name x px,.Name y py] kt pt] (.Tuple [a,b] k2 Q7) pos) (Xw i j ta):=by
 intro ae s σ H D I h;rw[exec_Assign_arm];refine az (oW ?_);rw[hs];refine az (wpAny_pure ?_);rw[aq (by decide)];refine az (Tuple_ (cJ (ha _ ae s σ H _ I h) fun us s1 ⟨vs,H1,I1,r1,q1⟩=>?_));obtain⟨v,w,e1,q1⟩:=q1;subst e1;obtain⟨u1,u2,rfl,rv,qa⟩:∃u1 u2,us=[u1,u2]/\bA v u1/\bA w u2:=by
  cases r1 with
  |cons p q=>
   cases q with
   |cons p' q'=>
    cases q';exact⟨_,_,rfl,p,p'⟩
 refine vi ?_ (by show 2<=sizeLine;decide);have I2:aM X ae σ H1 { s1 with heap:=s1.heap.push { cls:=.type "tuple",data:=.seq [u1,u2].toArray } }:=I1.kept (t':=s1.toks) fun b o e=>bU _ e;rw[hw];refine az (wpAny_pure ?_);show wpAny (model X.prog X.w) X.A (do rule "assign.swapped-stores";let items <- unpackItems (.ref s1.heap.objs.size) 2 none;assignInOrder [fun v=>bindName X.env y v,fun v=>bindName X.env x v] items.reverse;pure Flow.next) _ _ _;refine az (gm (az (unpackItems_tuple (items:=#[u1,u2]) (I.ok.hd hc) (IsTup.new s1.heap _) fun h' Ab=>?_)));have I3:=I2.kept (h':=h') (t':=s1.toks) fun b o e=>Ab b o (bb (a9 e)) e;show wpAny _ _ (assignInOrder [fun v=>bindName X.env y v,fun v=>bindName X.env x v] [u2,u1] >>= fun _=>pure Flow.next) _ _ _;refine az (assignInOrder_cons (wpAny_bindName (ky I3 hN hj (.inl hy) qa (fun s2 I4=>?_) (.inr hy))));refine assignInOrder_cons (wpAny_bindName (ky I4 hN hi (.inl hx) rv (fun s3 I5=>assignInOrder_nil (wpAny_pure ?_)) (.inr hx)));rw[List.set_comm _ _ (il EM)] at I5;exact⟨_,H1,I5,q1⟩
def Xx(i:Nat)(te:TE)(ti:Xu):TS:=fun D σ H=>∃x,σ[i]?=some (some x)/\te σ H fun y H1=>ti x y H1 fun z H2=>D.nx (σ.set i (some z)) H2
theorem NJ(hN:X.N.Nodup)(hi:X.N[i]?=some x)(hx:RY X.env.scope x)(he:PE X e te)(ho:PIp X op ti)(hf:X.fn x=true\/X.env.scope.names.lookup x=some .local:=by first|exact .inl rfl|exact .inr rfl|assumption):
  PS X (.AugAssign (.Name x xh) op e pos) (Xx i te ti):=by
 intro ae s σ H D I h;obtain⟨v,e1,h⟩:=h;obtain⟨m,hn,hl⟩:=I.loc;have Sd:Q4 X.env.scope x:=by rcases hx with k|k;exact .inl k;exact .inr (.inl k)
 obtain⟨u,r,l⟩:=hl i x v hi e1 Sd;refine wpAny_AugAssign_Name ?_;have go:wpAny (model X.prog X.w) X.A (eval e X.env) (fun w s₂=>wpAny (model X.prog X.w) X.A (inplaceOp op u w) (fun r s₃=>wpAny (model X.prog X.w) X.A (storeName X.env x r) (fun _=>SP X ae D .next) X.xe s₃) X.xe s₂) X.xe s:=by
  refine cJ (he ae s σ H _ I h) fun w s1 ⟨y,H1,I1,r1,q1⟩=>?_;refine cJ (ho ae s1 σ H1 v y u w _ I1 r r1 q1) fun z s2 ⟨zv,H2,I2,r2,q2⟩=>?_;exact ky I2 hN hi hx r2 (fun s3 I3=>⟨_,H2,I3,q2⟩) hf
 rcases l with ⟨hk,hm⟩|⟨hk,c,hc,BL⟩
 .exact zH I.ok.kind hk hn hm go
 .rcases hk with hk|hk
  .exact wpAny_loadName_cell I.ok.kind hk hc BL go
  .rcases hx with k|k
   .have:X.env.scope.names.lookup x=some .free:=hk;rw[k] at this;cases this
   .have:X.env.scope.names.lookup x=some .free:=hk;rw[k] at this;cases this
def ipI(f:Int->Int->Int):Xu:=fun x y H Q=>∃i j,x=.int i/\y=.int j/\Q (.int (f i j)) H
theorem NK:PIp X .Add (ipI fun i j=>i+j):=by
 intro ae s σ H x y v u Q I r1 r2 h;obtain⟨i,j,e1,e2,q⟩:=h;subst e1;subst e2;obtain⟨t,rfl⟩:=r1;obtain⟨t',rfl⟩:=r2;exact iadd_int ⟨.int _,H,I.tok _,⟨_,rfl⟩,q⟩
def Ft(c:TT)(tb:TS):TS:=fun D σ H=>∃W:Nat->St->Hp->Prop,(∃m,W m σ H)/\∀m σ H,W m σ H->
 c σ H fun b H1=>if b=true then ∃N:St->Hp->Prop,(∀σ' H',N σ' H'->∃m',m'<m/\W m' σ' H')/\tb { D with nx:=N,ct:=N,bk:=D.nx } σ H1 else D.nx σ H1
theorem rE(hp:PassesOwn (model X.prog X.w) X.A X.env X.xe)(hc:PT X c tc)(hb:z_ X body tb):PS X (.While c body [] pos) (Ft tc tb):=by
 intro ae s σ H D I h;obtain⟨W,⟨m0,w0⟩,Fu⟩:=h;refine wpAny_While (codeAny_whileLoop (fun n s'=>∃σ' H',aM X ae σ' H' s'/\W n σ' H') ?_ m0 ⟨σ,H,I,w0⟩);rintro n s1 ⟨σ1,H1,I1,w1⟩;refine l8 hp (cJ (hc ae s1 σ1 H1 _ I1 (Fu n σ1 H1 w1)) fun b s2 ⟨H2,I2,q2⟩=>?_);cases b with
 |true=>
  obtain⟨N,hN,q2⟩:=q2;rw[ak rfl];refine l8 hp (cJ (hb ae s2 σ1 H2 _ I2 q2) fun f s3 q3=>?_);cases f with
  |next=>
   obtain⟨σ3,H3,I3,n3⟩:=q3;obtain⟨m',hm,w3⟩:=hN σ3 H3 n3;exact⟨m',hm,σ3,H3,I3,w3⟩
  |cont=>
   obtain⟨σ3,H3,I3,n3⟩:=q3;obtain⟨m',hm,w3⟩:=hN σ3 H3 n3;exact⟨m',hm,σ3,H3,I3,w3⟩
  |brk=>exact q3
  |ret v=>exact q3
 |false=>
  rw[aq cP];exact vt ⟨σ1,H2,I2,q2⟩
end
structure It where
 go:Nat->Hp->Prop
 Mm:Nat->Hp->V->Hp->Prop
 stop:Nat->Hp->Prop
def ge(X:Cx)(ae:List (Addr×Obj))(H:Hp)(b:Addr):Prop:=
 H b=none/\b≠X.env.locals/\b∉X.fs/\(b∈X.ex\/X.s₀.heap.objs.size<=b)/\(∀x c,X.env.cells.lookup x=some c->c≠b)/\∀p∈X.pn++ae,p.1≠b
theorem aM.vF(I:aM X ae σ H s)(hb:s.heap.objs.size<=b)(hn:H' b=none):ge X ae H' b:=by
 refine⟨hn,iP (cz I.lt hb),I.Xl hb,.inr (aX I.sz hb),fun x c e z=>?_,fun p hp z=>?_⟩
 .obtain⟨v,q⟩:=I.cell x c e;exact absurd (cz q.lt (by rw[z];exact hb)) (jT _)
 .exact absurd (cz (a9 (I.pin p hp).1) (by rw[z];exact hb)) (jT _)
structure vG(P:Program)(w:World)(K:PySem.W.Frag)(tg:Expr)(J:It)(fp:List Addr)(it:Addr)(tn:Nat->Heap->Prop):Prop where
 mem:it∈fp
 obj:∀i h,tn i h->∀b∈fp,∃o,h.get? b=some o/\∀v,o.data≠.cell v
 keep:∀i h h',tn i h->(∀b∈fp,∀o,h.get? b=some o->h'.get? b=some o)->tn i h'
 item:∀ (X:Cx),X.prog=P->X.w=w->X.K=K->X.calm=true->∀ (i:Nat) (ae:List (Addr×Obj)) (s:Shared) (σ:St) (H:Hp) (E:Value->Shared->Prop),aM X ae σ H s->(∀b∈fp,ge X ae H b)->tn i s.heap->J.go i H->
  wpAny (model P w) X.A (pyNext (.ref it)) (fun r s1=>∃u,r=some u/\
   wpAny (model P w) X.A (letOwnedTupleGo tg (.ref it) u) (fun _ s2=>∃x H',aM X ae σ H' s2/\bA x u/\J.Mm i H x H'/\tn (i+1) s2.heap/\∀b∈fp,H' b=none) E s1) E s
 done:∀ (X:Cx),X.prog=P->X.w=w->X.K=K->X.calm=true->∀ (i:Nat) (ae:List (Addr×Obj)) (s:Shared) (σ:St) (H:Hp) (E:Value->Shared->Prop),aM X ae σ H s->(∀b∈fp,ge X ae H b)->tn i s.heap->J.stop i H->
  wpAny (model P w) X.A (pyNext (.ref it)) (fun r s1=>r=none/\aM X ae σ H s1) E s
 self:∀ (A:Around) (i:Nat) (s:Shared) (Q:Value->Shared->Prop) (E:Value->Shared->Prop),tn i s.heap->Q (.ref it) s->wpAny (model P w) A (pyIter (.ref it)) Q E s
abbrev TI:=St->Hp->(It->Hp->Prop)->Prop
def PIE(X:Cx)(ae:List (Addr×Obj))(σ:St)(tg:Expr)(R:It->Hp->Prop)(Wp:Value)(s2:Shared):Prop:=
 ∃ (it:Addr) (fp:List Addr) (tn:Nat->Heap->Prop) (J:It) (H':Hp),Wp=.ref it/\aM X ae σ H' s2/\vG X.prog X.w X.K tg J fp it tn/\tn 0 s2.heap/\(∀b∈fp,ge X ae H' b)/\R J H'
def PI(X:Cx)(tg j5:Expr)(wi:TI):Prop:=
 ∀ (ae:List (Addr×Obj)) (s:Shared) (σ:St) (H:Hp) (R:It->Hp->Prop),aM X ae σ H s->wi σ H R->
  wpAny (model X.prog X.w) X.A (eval j5 X.env) (fun v s1=>wpAny (model X.prog X.w) X.A (pyIter v) (PIE X ae σ tg R) X.xe s1) X.xe s
theorem Fv(ho:s.heap.get? it=some o)(hc:o.cls=.type n)(hd:o.data=.fields vs)(hn:["enumerate","zip","dict_itemiterator","dict_reverseitemiterator","odict_iterator","itertools.zip_longest","itertools.pairwise"].contains n=false)(hQ:Q () s):wpAny M A (letOwnedTupleGo tg (.ref it) u) Q E s:=by
 unfold letOwnedTupleGo;cases tg <;> first
  |exact wpAny_pure hQ
  |(cases u <;> first
    |exact wpAny_pure hQ
    |(refine az (wpAny_load ho ?_);rw[hc,hd];show wpAny M A (if (["enumerate","zip","dict_itemiterator","dict_reverseitemiterator","odict_iterator","itertools.zip_longest","itertools.pairwise"].contains n&&vs[0]?==some (rawInt _))=true then _ else _) Q E s;rw[aq (by intro h;rw[hn,Bool.false_and] at h;cases h)];exact wpAny_pure hQ))
def Jm(K:PySem.W.Frag)(a:Addr):It:=
 ⟨fun i H=>∃xs x,a8 K H a xs/\xs[i]?=some x,fun i H x H'=>H'=H/\∀xs,a8 K H a xs->xs[i]?=some x,fun i H=>∃xs,a8 K H a xs/\xs.length<=i⟩
def Q8(K:PySem.W.Frag)(a:Addr):It:=
 ⟨fun i H=>∃xs x,bJ K H a xs/\xs[i]?=some x,fun i H x H'=>H'=H/\∀xs,bJ K H a xs->xs[i]?=some x,fun i H=>∃xs,bJ K H a xs/\xs.length<=i⟩
def Fw(lo:Int)(n:Nat):It:=⟨fun i _=>i<n,fun i H x H'=>H'=H/\x=.int (lo+i),fun i _=>n<=i⟩
theorem Dv{P:Program}{w:World}{K:PySem.W.Frag}{tg:Expr}(a it:Addr):vG P w K tg (Jm K a) [it] it (fun i h=>h.IsListIter it a i) where
 mem:=by simp
 obj:=fun i h st b hb=>by
  have e:b=it:=by simpa using hb
  subst e;obtain⟨o,e,c,d⟩:=st;exact⟨o,e,fun v z=>by rw[d] at z;cases z⟩
 keep:=fun i h h' st k=>st.at fun o e=>k it (by simp) o e
 item:=by
  intro X hP hw hK hc i ae s σ H E I hf st hg;subst hP hw hK;obtain⟨xs,x,hq,hx⟩:=hg;obtain⟨its,rv,p,hz⟩:=I.list hq;obtain⟨u,hu,ru⟩:=rv.get hx;obtain⟨f0,f1,f2,f3,f4,f5⟩:=hf it (by simp);refine wpAny_pyNext_list_item st p.isList (x:=u) (by simpa using hu) fun h' aD sb=>?_;have I1:aM X ae σ H { s with heap:=h' }:=I.turned (t':=s.toks) (fun b o hb e=>(sb.2 b hb).trans e) f0 f1 f3 f4 f5;obtain⟨o,e,c,d⟩:=id aD;exact⟨u,rfl,Fv (s:={ s with heap:=h' }) e c d (by decide) ⟨x,H,I1,ru,⟨rfl,fun ys hy=>by rw[I.xg hy hq];exact hx⟩,aD,fun b hb=>(hf b hb).1⟩⟩
 done:=by
  intro X hP hw hK hc i ae s σ H E I hf st hg;subst hP hw hK;obtain⟨xs,hq,hx⟩:=hg;obtain⟨its,rv,p,hz⟩:=I.list hq;obtain⟨f0,f1,f2,f3,f4,f5⟩:=hf it (by simp);have hl:=rv.length;exact wpAny_pyNext_list_end (I.ok.hd hc) st p.isList (by simp;lia) fun h' eb=>⟨rfl,I.turned (t':=s.toks) (fun b o hb e=>eb b o hb e) f0 f1 f3 f4 f5⟩
 self:=fun _ _ _ _ _ st h=>wpAny_pyIter_listiter st h
theorem Ac{P:Program}{w:World}{K:PySem.W.Frag}{tg:Expr}(a it:Addr):vG P w K tg (Q8 K a) [it] it (fun i h=>h.IsTupleIter it a i) where
 mem:=by simp
 obj:=fun i h st b hb=>by
  have e:b=it:=by simpa using hb
  subst e;obtain⟨o,e,c,d⟩:=st;exact⟨o,e,fun v z=>by rw[d] at z;cases z⟩
 keep:=fun i h h' st k=>st.at fun o e=>k it (by simp) o e
 item:=by
  intro X hP hw hK hc i ae s σ H E I hf st hg;subst hP hw hK;obtain⟨xs,x,hq,hx⟩:=hg;obtain⟨its,rv,p,hz⟩:=I.tuple hq;obtain⟨u,hu,ru⟩:=rv.get hx;obtain⟨f0,f1,f2,f3,f4,f5⟩:=hf it (by simp);refine wpAny_pyNext_tuple_item st (show s.heap.IsTuple a its.toArray from p) (x:=u) (by simpa using hu) fun h' aD sb=>?_;have I1:aM X ae σ H { s with heap:=h' }:=I.turned (t':=s.toks) (fun b o hb e=>(sb.2 b hb).trans e) f0 f1 f3 f4 f5;obtain⟨o,e,c,d⟩:=id aD;exact⟨u,rfl,Fv (s:={ s with heap:=h' }) e c d (by decide) ⟨x,H,I1,ru,⟨rfl,fun ys hy=>by rw[I.gp hy hq];exact hx⟩,aD,fun b hb=>(hf b hb).1⟩⟩
 done:=by
  intro X hP hw hK hc i ae s σ H E I hf st hg;subst hP hw hK;obtain⟨xs,hq,hx⟩:=hg;obtain⟨its,rv,p,hz⟩:=I.tuple hq;obtain⟨f0,f1,f2,f3,f4,f5⟩:=hf it (by simp);have hl:=rv.length;exact wpAny_pyNext_tuple_end (I.ok.hd hc) st (show s.heap.IsTuple a its.toArray from p) (by simp;lia) fun h' eb=>⟨rfl,I.turned (t':=s.toks) (fun b o hb e=>eb b o hb e) f0 f1 f3 f4 f5⟩
 self:=fun _ _ _ _ _ st h=>wpAny_pyIter_tupleiter st h
theorem Ad{P:Program}{w:World}{K:PySem.W.Frag}{tg:Expr}(it:Addr)(lo:Int)(n:Nat):vG P w K tg (Fw lo n) [it] it (fun i h=>IsRangeIter h it (lo+(i:Nat)*1) ((n:Int)-(i:Nat)) 1) where
 mem:=by simp
 obj:=fun i h st b hb=>by
  have e:b=it:=by simpa using hb
  subst e;exact⟨_,st,fun v z=>by
   have z':Data.fields _=Data.cell v:=z;cases z'⟩
 keep:=fun i h h' st k=>k it (by simp) _ st
 item:=by
  intro X hP hw hK hc i ae s σ H E I hf st hg;subst hP hw hK;obtain⟨f0,f1,f2,f3,f4,f5⟩:=hf it (by simp);have W:=Walks.range (prog:=X.prog) (w:=X.w) (I.ok.hd hc) it lo 1 n;refine W.item i s _ _ hg st fun v h' tk hv aD kk=>?_;obtain⟨t,rfl⟩:=hv;have I1:aM X ae σ H { s with heap:=h',toks:=tk }:=I.turned (fun b o hb e=>kk b o (by simpa using hb) e) f0 f1 f3 f4 f5;refine⟨_,rfl,Fv (s:={ s with heap:=h',toks:=tk }) (n:="range_iterator") aD rfl rfl (by decide) ⟨.int (lo+i),H,I1,⟨t,?_⟩,⟨rfl,rfl⟩,aD,fun b hb=>(hf b hb).1⟩⟩;rw[Int.mul_one]
 done:=by
  intro X hP hw hK hc i ae s σ H E I hf st hg;subst hP hw hK;obtain⟨f0,f1,f2,f3,f4,f5⟩:=hf it (by simp);exact wpAny_pyNext_range_end (I.ok.hd hc) st (by have:n<=i:=hg;lia) fun h' eb=>⟨rfl,I.turned (t':=s.toks) (fun b o hb e=>eb b o hb e) f0 f1 f3 f4 f5⟩
 self:=fun _ _ _ _ _ st h=>wpAny_pyIter_rangeiter st h
section
variable {X:Cx} {tg:Expr}
def Se(K:PySem.W.Frag)(tl:TE):TI:=fun σ H R=>tl σ H fun x H1=>∃a,x=.ref a/\(∃xs,a8 K H1 a xs)/\R (Jm K a) H1
def Xy(K:PySem.W.Frag)(tl:TE):TI:=fun σ H R=>tl σ H fun x H1=>∃a,x=.ref a/\(∃xs,bJ K H1 a xs)/\R (Q8 K a) H1
theorem b_{l:Expr}{tl:TE}(hl:PE X l tl):PI X tg l (Se X.K tl):=by
 intro ae s σ H R I h;refine cJ (hl ae s σ H _ I h) fun v s1 ⟨x,H1,I1,r1,q1⟩=>?_;obtain⟨a,e,⟨xs,hq⟩,q⟩:=q1;subst e;cases r1;obtain⟨its,rv,p,hz⟩:=I1.list hq;refine zZ p.isList ?_;refine⟨s1.heap.objs.size,[s1.heap.objs.size],_,_,H1,rfl,I1.kept (t':=s1.toks) fun b o e=>bU _ e,Dv a _,⟨_,cY _ rfl,rfl,rfl⟩,fun b hb=>?_,q⟩;have e:b=s1.heap.objs.size:=by simpa using hb
 subst e;exact I1.vF (aI _) (I1.bE.fresh (aI _))
theorem vH{l:Expr}{tl:TE}(hl:PE X l tl):PI X tg l (Xy X.K tl):=by
 intro ae s σ H R I h;refine cJ (hl ae s σ H _ I h) fun v s1 ⟨x,H1,I1,r1,q1⟩=>?_;obtain⟨a,e,⟨xs,hq⟩,q⟩:=q1;subst e;cases r1;obtain⟨its,rv,p,hz⟩:=I1.tuple hq;refine q9 (show s1.heap.IsTuple a its.toArray from p) ?_;refine⟨s1.heap.objs.size,[s1.heap.objs.size],_,_,H1,rfl,I1.kept (t':=s1.toks) fun b o e=>bU _ e,Ac a _,⟨_,cY _ rfl,rfl,rfl⟩,fun b hb=>?_,q⟩;have e:b=s1.heap.objs.size:=by simpa using hb
 subst e;exact I1.vF (aI _) (I1.bE.fresh (aI _))
theorem xi{ae:List (Addr×Obj)}{σ:St}{H:Hp}{s:Shared}{R:It->Hp->Prop}{E:Value->Shared->Prop}{lo hi:Int}{t u v:Tok}{tk:Nat}(I:aM X ae σ H s)(h1:-(2 ^ 62)<=lo)(h2:lo<2 ^ 62)(h3:-(2 ^ 62)<=hi)(h4:hi<2 ^ 62)(q:R (Fw lo (hi-lo).toNat) H):wpAny (model X.prog X.w) X.A (pyIter (.ref s.heap.objs.size)) (PIE X ae σ tg R) E { s with heap:=s.heap.push { cls:=.type "range",data:=.fields #[.int lo t,.int hi u,.int 1 v] },toks:=tk }:=by
 refine wpAny_pyIter_range (IsRange.new ..) (small_one h1 h2 h3 h4) ?_;have I1:aM X ae σ H { s with heap:=s.heap.push { cls:=.type "range",data:=.fields #[.int lo t,.int hi u,.int 1 v] },toks:=tk }:=I.kept fun b o e=>bU _ e;refine⟨(s.heap.push { cls:=.type "range",data:=.fields #[.int lo t,.int hi u,.int 1 v] }).objs.size,[(s.heap.push { cls:=.type "range",data:=.fields #[.int lo t,.int hi u,.int 1 v] }).objs.size],_,_,H,rfl,
  I1.kept (t':=tk) fun b o e=>bU _ e,Ad _ lo (hi-lo).toNat,?_,fun b hb=>?_,q⟩
 .have e1:lo+((0:Nat):Int)*1=lo:=by simp
  have e2:(((hi-lo).toNat:Nat):Int)-((0:Nat):Int)=Builtin.Range.rangeSize lo hi 1:=by rw[rangeSize_one];split <;> lia
  show IsRangeIter _ _ (lo+((0:Nat):Int)*1) ((((hi-lo).toNat:Nat):Int)-((0:Nat):Int)) 1;rw[e1,e2];exact cY _ rfl
 .have e:b=(s.heap.push { cls:=.type "range",data:=.fields #[.int lo t,.int hi u,.int 1 v] }).objs.size:=by simpa using hb
  subst e;exact I1.vF (aI _) (I1.bE.fresh (aI _))
def Sf(ta:TA):TI:=fun σ H R=>ta σ H fun vs H1=>∃j:Int,vs=[.int j]/\-(2 ^ 62)<=j/\j<2 ^ 62/\R (Fw 0 j.toNat) H1
def Sg(ta:TA):TI:=fun σ H R=>ta σ H fun vs H1=>∃i j:Int,vs=[.int i,.int j]/\(-(2 ^ 62)<=i/\i<2 ^ 62/\-(2 ^ 62)<=j/\j<2 ^ 62)/\R (Fw i (j-i).toNat) H1
theorem br{a:Expr}{ta:TA}{p pos:Pos}(hg:Gl X "range")(hm:X.mg "range"=none)(ha:PA X [a] ta)(hs:starEach [a] X.env=[(false,eval a X.env)]:=by rfl):PI X tg (.Call (.Name "range" p) [a] [] pos) (Sf ta):=by
 intro ae s σ H R I h;refine Call_ (jv I hg hm boot_range (tS (cJ (ha pos ae s σ H _ I h) fun us s1 ⟨vs,H1,I1,r1,q1⟩=>?_) hs rfl));obtain⟨j,e,q1,q2,q⟩:=q1;subst e;cases r1 with
 |cons r rr=>
  cases rr;obtain⟨t,rfl⟩:=r;exact call_range_1 (xi I1 (by lia) (by lia) q1 q2 (by simpa using q))
theorem tW(hg:Gl X "range")(hm:X.mg "range"=none)(ha:PA X [a,b] ta)(hs:starEach [a,b] X.env=[(false,eval a X.env),(false,eval b X.env)]:=by rfl)(mh:starEach [b] X.env=[(false,eval b X.env)]:=by rfl):
  PI X tg (.Call (.Name "range" p) [a,b] [] pos) (Sg ta):=by
 intro ae s σ H R I h;refine Call_ (jv I hg hm boot_range (tS (cJ (ha pos ae s σ H _ I h) fun us s1 ⟨vs,H1,I1,r1,q1⟩=>?_) (by rw[hs,mh]) (by rw[mh];rfl)));obtain⟨i,j,e,⟨q1,q2,q3,q4⟩,q⟩:=q1;subst e;cases r1 with
 |cons r rr=>
  cases rr with
  |cons r' rr=>
   cases rr;obtain⟨t,rfl⟩:=r;obtain⟨t',rfl⟩:=r';exact call_range_2 (xi I1 q1 q2 q3 q4 q)
def Xz(wi:TI)(g:TG)(tb:TS):TS:=fun D σ H=>wi σ H fun J H1=>∃W:Nat->Nat->St->Hp->Prop,(∃m,W 0 m σ H1)/\∀i m σ H,W i m σ H->
 (J.stop i H/\D.nx σ H)\/(J.go i H/\∃N:St->Hp->Prop,(∀σ' H',N σ' H'->∃m',m'<m/\W (i+1) m' σ' H')/\∀x H',J.Mm i H x H'->g x σ H' fun σ2 H2=>tb { D with nx:=N,ct:=N,bk:=D.nx } σ2 H2)
def rF(fp:List Addr)(h:Heap):List (Addr×Obj):=fp.filterMap fun b=>(h.get? b).map fun o=>(b,o)
theorem jz(hb:b∈fp)(e:h.get? b=some o):(b,o)∈rF fp h:=oB.mpr ⟨b,hb,by rw[e];rfl⟩
theorem Dw(hp:p∈rF fp h):p.1∈fp/\h.get? p.1=some p.2:=by
 obtain⟨b,hb,e⟩:=oB.mp hp;cases q:h.get? b with
 |none=>rw[q] at e;cases e
 |some o=>
  rw[q] at e;have e':(b,o)=p:=bh e;subst e';exact⟨hb,q⟩
theorem aM.pinned(I:aM X ae σ H s)(hf:∀b∈fp,ge X ae H b)(ho:∀b∈fp,∃o,s.heap.get? b=some o/\∀v,o.data≠.cell v):aM X (ae++rF fp s.heap) σ H s:=
 I.mV fun p hp=>(cK.mp hp).elim (fun z=>I.pin p (dD _ z)) fun z=>by
  obtain⟨hb,e⟩:=Dw z;obtain⟨f0,f1,f2,_⟩:=hf p.1 hb;obtain⟨o,e',d⟩:=ho p.1 hb;rw[e] at e';cases e';exact⟨e,f0,f1,f2,d⟩
theorem aM.m6(I:aM X (ae++pl) σ H s):aM X ae σ H s:=I.mV fun p hp=>I.pin p (dD _ (fw _ hp))
theorem cD(hp:PassesOwn (model X.prog X.w) X.A X.env X.xe)(hc:X.calm=true)(hi:PI X tg j5 wi)(hg:PG X tg g)(hb:z_ X body tb)(hs:∀x,foldedSetIterable j5 X.env x=pure x:=by intro _;rfl):PS X (.For tg j5 body [] pos) (Xz wi g tb):=by
 intro ae s σ H D I h;refine wpAny_For (cJ (hi ae s σ H _ I h) fun v s1 h1=>cJ h1 fun Wp s2 h2=>?_) hs;obtain⟨it,fp,tn,J,H2,e,I2,T,lL,f2,W,⟨m0,w0⟩,Fu⟩:=h2;subst e;have Ae:∀ {H':Hp},(∀b∈fp,H' b=none)->∀b∈fp,ge X ae H' b:=fun hn b hb=>⟨hn b hb,(f2 b hb).2⟩
 refine codeAny_forLoop_any (fun n s'=>∃i σ' H',aM X ae σ' H' s'/\tn i s'.heap/\(∀b∈fp,H' b=none)/\W i n σ' H') ?_ m0 ⟨0,σ,H2,I2,lL,fun b hb=>(f2 b hb).1,w0⟩;rintro n s3 ⟨i,σ3,H3,I3,jW,NL,w3⟩;rcases Fu i n σ3 H3 w3 with ⟨stop,qn⟩|⟨go,N,hN,step⟩
 .refine l8 hp (cJ (T.done X rfl rfl rfl hc i ae s3 σ3 H3 X.xe I3 (Ae NL) jW stop) fun r s4 ⟨hr,I4⟩=>?_);subst hr;exact vt ⟨σ3,H3,I4,qn⟩
 .refine l8 hp (cJ (T.item X rfl rfl rfl hc i ae s3 σ3 H3 X.xe I3 (Ae NL) jW go) fun r s4 ⟨u,hr,h4⟩=>?_);subst hr;refine l8 hp (cJ h4 fun _ s5 ⟨x,H5,I5,r5,y5,wW,XA⟩=>?_);have XB:=I5.pinned (Ae XA) (T.obj _ _ wW);refine l8 hp (cJ (hg _ s5 σ3 H5 x u _ XB r5 (step x H5 y5)) fun _ s6 ⟨σ6,H6,I6,q6⟩=>?_);refine l8 hp (cJ (hb _ s6 σ6 H6 _ I6 q6) fun f s7 q7=>?_);have again:∀ {σ7:St} {H7:Hp},aM X (ae++rF fp s5.heap) σ7 H7 s7->N σ7 H7->∃m,m<n/\∃i σ' H',aM X ae σ' H' s7/\tn i s7.heap/\(∀b∈fp,H' b=none)/\W i m σ' H':=fun {σ7 H7} I7 n7=>by
   obtain⟨m',hm,w7⟩:=hN σ7 H7 n7;refine⟨m',hm,i+1,σ7,H7,I7.m6,T.keep _ _ _ wW fun b hb o e=>(I7.pin (b,o) (dD _ (dD _ (jz hb e)))).1,fun b hb=>?_,w7⟩;obtain⟨o,e,d⟩:=T.obj _ _ wW b hb;exact(I7.pin (b,o) (dD _ (dD _ (jz hb e)))).2.1
  cases f with
  |next=>obtain⟨σ7,H7,I7,n7⟩:=q7;exact again I7 n7
  |cont=>obtain⟨σ7,H7,I7,n7⟩:=q7;exact again I7 n7
  |brk=>obtain⟨σ7,H7,I7,q7⟩:=q7;exact⟨σ7,H7,I7.m6,q7⟩
  |ret v=>obtain⟨x7,σ7,H7,I7,r7,q7⟩:=q7;exact⟨x7,σ7,H7,I7.m6,r7,q7⟩
end
theorem gQ{K:PySem.W.Frag}{a:Addr}{xs:List V}{g:TG}{tb:TS}{D:vE}{σ:St}{H:Hp}(Pv:Nat->St->Hp->Prop)(h0:Pv 0 σ H)(hl:∀i σ H,i<=xs.length->Pv i σ H->a8 K H a xs)(hs:∀i x σ H,xs[i]?=some x->Pv i σ H->g x σ H fun σ2 H2=>tb { D with nx:=Pv (i+1),ct:=Pv (i+1),bk:=D.nx } σ2 H2)(hd:∀σ H,Pv xs.length σ H->D.nx σ H):
  ∃W:Nat->Nat->St->Hp->Prop,(∃m,W 0 m σ H)/\∀i m σ H,W i m σ H->
   ((Jm K a).stop i H/\D.nx σ H)\/((Jm K a).go i H/\∃N:St->Hp->Prop,(∀σ' H',N σ' H'->∃m',m'<m/\W (i+1) m' σ' H')/\∀x H',(Jm K a).Mm i H x H'->g x σ H' fun σ2 H2=>tb { D with nx:=N,ct:=N,bk:=D.nx } σ2 H2):=by
 refine⟨fun i m σ H=>m=xs.length-i/\i<=xs.length/\Pv i σ H,⟨xs.length,by simp,bV _,h0⟩,?_⟩;rintro i m σ H ⟨rfl,hi,p⟩;have q:=hl i σ H hi p;by_cases dN:i<xs.length
 .refine .inr ⟨⟨xs,xs[i],q,by simp[dN]⟩,Pv (i+1),fun σ' H' p'=>⟨xs.length-(i+1),by lia,rfl,dN,p'⟩,fun x H' y=>?_⟩;obtain⟨e,y⟩:=y;subst e;exact hs i x σ _ (y xs q) p
 .have e:i=xs.length:=by lia
  subst e;exact .inl ⟨⟨xs,q,aI _⟩,hd σ H p⟩
theorem vI{K:PySem.W.Frag}{a:Addr}{xs:List V}{g:TG}{tb:TS}{D:vE}{σ:St}{H:Hp}(Pv:Nat->St->Hp->Prop)(h0:Pv 0 σ H)(hl:∀i σ H,i<=xs.length->Pv i σ H->bJ K H a xs)(hs:∀i x σ H,xs[i]?=some x->Pv i σ H->g x σ H fun σ2 H2=>tb { D with nx:=Pv (i+1),ct:=Pv (i+1),bk:=D.nx } σ2 H2)(hd:∀σ H,Pv xs.length σ H->D.nx σ H):
  ∃W:Nat->Nat->St->Hp->Prop,(∃m,W 0 m σ H)/\∀i m σ H,W i m σ H->
   ((Q8 K a).stop i H/\D.nx σ H)\/((Q8 K a).go i H/\∃N:St->Hp->Prop,(∀σ' H',N σ' H'->∃m',m'<m/\W (i+1) m' σ' H')/\∀x H',(Q8 K a).Mm i H x H'->g x σ H' fun σ2 H2=>tb { D with nx:=N,ct:=N,bk:=D.nx } σ2 H2):=by
 refine⟨fun i m σ H=>m=xs.length-i/\i<=xs.length/\Pv i σ H,⟨xs.length,by simp,bV _,h0⟩,?_⟩;rintro i m σ H ⟨rfl,hi,p⟩;have q:=hl i σ H hi p;by_cases dN:i<xs.length
 .refine .inr ⟨⟨xs,xs[i],q,by simp[dN]⟩,Pv (i+1),fun σ' H' p'=>⟨xs.length-(i+1),by lia,rfl,dN,p'⟩,fun x H' y=>?_⟩;obtain⟨e,y⟩:=y;subst e;exact hs i x σ _ (y xs q) p
 .have e:i=xs.length:=by lia
  subst e;exact .inl ⟨⟨xs,q,aI _⟩,hd σ H p⟩
theorem c_{lo:Int}{n:Nat}{g:TG}{tb:TS}{D:vE}{σ:St}{H:Hp}(Pv:Nat->St->Hp->Prop)(h0:Pv 0 σ H)(hs:∀i σ H,i<n->Pv i σ H->g (.int (lo+i)) σ H fun σ2 H2=>tb { D with nx:=Pv (i+1),ct:=Pv (i+1),bk:=D.nx } σ2 H2)(hd:∀σ H,Pv n σ H->D.nx σ H):
  ∃W:Nat->Nat->St->Hp->Prop,(∃m,W 0 m σ H)/\∀i m σ H,W i m σ H->
   ((Fw lo n).stop i H/\D.nx σ H)\/((Fw lo n).go i H/\∃N:St->Hp->Prop,(∀σ' H',N σ' H'->∃m',m'<m/\W (i+1) m' σ' H')/\∀x H',(Fw lo n).Mm i H x H'->g x σ H' fun σ2 H2=>tb { D with nx:=N,ct:=N,bk:=D.nx } σ2 H2):=by
 refine⟨fun i m σ H=>m=n-i/\i<=n/\Pv i σ H,⟨n,by simp,bV _,h0⟩,?_⟩;rintro i m σ H ⟨rfl,hi,p⟩;by_cases dN:i<n
 .refine .inr ⟨dN,Pv (i+1),fun σ' H' p'=>⟨n-(i+1),by lia,rfl,dN,p'⟩,fun x H' y=>?_⟩;obtain⟨e,y⟩:=y;subst e y;exact hs i σ _ dN p
 .have e:i=n:=by lia
  subst e;exact .inl ⟨aI _,hd σ H p⟩
theorem xj(Pv:St->Hp->Prop)(μ:St->Hp->Nat)(h0:Pv σ H)(hs:∀σ H,Pv σ H->c σ H fun b H1=>if b=true then tb { D with nx:=fun σ' H'=>Pv σ' H'/\μ σ' H'<μ σ H,ct:=fun σ' H'=>Pv σ' H'/\μ σ' H'<μ σ H,bk:=D.nx } σ H1 else D.nx σ H1)(mono:∀σ H Q Q',(∀b H1,Q b H1->Q' b H1)->c σ H Q->c σ H Q'):Ft c tb D σ H:=by
 refine⟨fun m σ H=>m=μ σ H/\Pv σ H,⟨_,rfl,h0⟩,?_⟩;rintro m σ H ⟨rfl,p⟩;refine mono σ H _ _ (fun b H1 q=>?_) (hs σ H p);cases b with
 |true=>exact⟨_,fun σ' H' ⟨p',l⟩=>⟨_,l,rfl,p'⟩,q⟩
 |false=>exact q
abbrev R2:=V->V->Hp->VK->Prop
def m9(X:Cx)(f:Value->Value->Sem Value)(r:R2):Prop:=
 ∀ (ae:List (Addr×Obj)) (s:Shared) (σ:St) (H:Hp) (x y:V) (v u:Value) (Q:VK),aM X ae σ H s->bA x v->bA y u->r x y H Q->
  wpAny (model X.prog X.w) X.A (f v u) (EP X ae σ Q) X.xe s
def XC(X:Cx)(f:Value->Sem Value)(r:V->Hp->VK->Prop):Prop:=
 ∀ (ae:List (Addr×Obj)) (s:Shared) (σ:St) (H:Hp) (x:V) (v:Value) (Q:VK),aM X ae σ H s->bA x v->r x H Q->
  wpAny (model X.prog X.w) X.A (f v) (EP X ae σ Q) X.xe s
def fU(X:Cx)(f:Value)(r:List V->Hp->VK->Prop):Prop:=
 ∀ (ae:List (Addr×Obj)) (s:Shared) (σ:St) (H:Hp) (xs:List V) (us:List Value) (Q:VK),aM X ae σ H s->aZ xs us->r xs H Q->
  wpAny (model X.prog X.w) X.A (call f us) (EP X ae σ Q) X.xe s
def XD(X:Cx)(r:V->Hp->(Bool->Hp->Prop)->Prop):Prop:=
 ∀ (ae:List (Addr×Obj)) (s:Shared) (σ:St) (H:Hp) (x:V) (v:Value) (Q:Bool->Hp->Prop),aM X ae σ H s->bA x v->r x H Q->
  wpAny (model X.prog X.w) X.A (truthy v) (TP X ae σ Q) X.xe s
def ja(r:R2)(ta tb:TE):TE:=fun σ H Q=>ta σ H fun x H1=>tb σ H1 fun y H2=>r x y H2 Q
def tUn(r:V->Hp->VK->Prop)(ta:TE):TE:=fun σ H Q=>ta σ H fun x H1=>r x H1 Q
def rI(C:Int->Int->Prop)(g:Int->Int->V):R2:=fun x y H Q=>∃i j,x=.int i/\y=.int j/\C i j/\Q (g i j) H
def wX(g:Int->Int->V):R2:=fun x y H Q=>∃i j,x=.int i/\y=.int j/\Q (g i j) H
def rU(g:Int->V):V->Hp->VK->Prop:=fun x H Q=>∃i,x=.int i/\Q (g i) H
section
variable {X:Cx} {a b c:Expr} {ta tb tc:TE} {pos:Pos}
theorem NM(ha:PE X a ta)(hb:PE X b tb){ae:List (Addr×Obj)}{s:Shared}{σ:St}{H:Hp}{R:V->V->Hp->Prop}(I:aM X ae σ H s)(h:ta σ H fun x H1=>tb σ H1 fun y H2=>R x y H2){Q:Value->Shared->Prop}{f:Value->Value->Sem Value}(hf:∀v u s2 x y H2,aM X ae σ H2 s2->bA x v->bA y u->R x y H2->wpAny (model X.prog X.w) X.A (f v u) Q X.xe s2):
  wpAny (model X.prog X.w) X.A (eval a X.env) (fun v s₁=>wpAny (model X.prog X.w) X.A (eval b X.env) (fun u s₂=>wpAny (model X.prog X.w) X.A (f v u) Q X.xe s₂) X.xe s₁) X.xe s:=by
 refine cJ (ha ae s σ H _ I h) fun v s1 ⟨x,H1,I1,r1,q1⟩=>?_;refine cJ (hb ae s1 σ H1 _ I1 q1) fun u s2 ⟨y,H2,I2,r2,q2⟩=>?_;exact hf v u s2 x y H2 I2 r1 r2 q2
theorem aU{op:Operator}{r:R2}(ho:m9 X (binaryOp op) r)(ha:PE X a ta)(hb:PE X b tb):PE X (.BinOp a op b pos) (ja r ta tb):=by
 intro ae s σ H Q I h;exact wpAny_BinOp (NM ha hb I h fun v u s2 x y H2 I2 rx ry q=>ho ae s2 σ H2 x y v u Q I2 rx ry q)
theorem Mn(ho:XC X (unaryOp op) r)(ha:PE X a ta):PE X (.UnaryOp op a pos) (tUn r ta):=by
 intro ae s σ H Q I h;exact UnaryOp_ (cJ (ha ae s σ H _ I h) fun v s1 ⟨x,H1,I1,r1,q1⟩=>ho ae s1 σ H1 x v Q I1 r1 q1)
theorem Wq{f:Value->Value->Sem Value}{C:Int->Int->Prop}{g:Int->Int->Int}(rule:∀ (i j:Int) (t u:Tok) (s:Shared) (Q:Value->Shared->Prop) (E:Value->Shared->Prop),C i j->Q (.int (g i j) s.toks) { s with toks:=s.toks+1 }->wpAny (model X.prog X.w) X.A (f (.int i t) (.int j u)) Q E s):
  m9 X f (rI C fun i j=>.int (g i j)):=by
 intro ae s σ H x y v u Q I rx ry h;obtain⟨i,j,rfl,rfl,hc,q⟩:=h;obtain⟨t,rfl⟩:=rx;obtain⟨t',rfl⟩:=ry;exact rule i j t t' s _ _ hc ⟨.int (g i j),H,I.tok _,⟨_,rfl⟩,q⟩
theorem Sh{f:Value->Value->Sem Value}{g:Int->Int->Int}(rule:∀ (i j:Int) (t u:Tok) (s:Shared) (Q:Value->Shared->Prop) (E:Value->Shared->Prop),Q (.int (g i j) s.toks) { s with toks:=s.toks+1 }->wpAny (model X.prog X.w) X.A (f (.int i t) (.int j u)) Q E s):
  m9 X f (wX fun i j=>.int (g i j)):=by
 intro ae s σ H x y v u Q I rx ry h;obtain⟨i,j,rfl,rfl,q⟩:=h;obtain⟨t,rfl⟩:=rx;obtain⟨t',rfl⟩:=ry;exact rule i j t t' s _ _ ⟨.int (g i j),H,I.tok _,⟨_,rfl⟩,q⟩
theorem Jn{f:Value->Value->Sem Value}{g:Int->Int->Bool}(rule:∀ (i j:Int) (t u:Tok) (s:Shared) (Q:Value->Shared->Prop) (E:Value->Shared->Prop),Q (.bool (g i j)) s->wpAny (model X.prog X.w) X.A (f (.int i t) (.int j u)) Q E s):
  m9 X f (wX fun i j=>.bl (g i j)):=by
 intro ae s σ H x y v u Q I rx ry h;obtain⟨i,j,rfl,rfl,q⟩:=h;obtain⟨t,rfl⟩:=rx;obtain⟨t',rfl⟩:=ry;exact rule i j t t' s _ _ ⟨.bl (g i j),H,I,rfl,q⟩
def Si(i j:Int):Prop:=0<j/\j<1073741824
def XE(i j:Int):Prop:=0<=j/\j<=1000000/\i.natAbs<2 ^ 64
def Jo(i j:Int):Prop:=(-(2 ^ 64)<i/\i<2 ^ 64)\/(-(2 ^ 64)<j/\j<2 ^ 64)
theorem Jo.ok(h:Jo i j):IntMulOk i j:=by
 rcases h with ⟨h1,h2⟩|⟨h1,h2⟩
 .exact .of_left (intBits_le_64 h1 h2)
 .exact .of_right (intBits_le_64 h1 h2)
theorem di:m9 X (binaryOp .Add) (wX fun i j=>.int (i+j)):=Sh fun _ _ _ _ _ _ _ q=>add_int q
theorem jA:m9 X (binaryOp .Sub) (wX fun i j=>.int (i-j)):=Sh fun _ _ _ _ _ _ _ q=>sub_int q
theorem fV:m9 X (binaryOp .Mult) (rI Jo fun i j=>.int (i*j)):=Wq fun _ _ _ _ _ _ _ hc q=>mul_int q hc.ok
theorem m_:m9 X (binaryOp .FloorDiv) (rI Si fun i j=>.int (i / j)):=Wq fun i j _ _ _ _ _ hc q=>by
 have h1:(0:Int)<j:=hc.1;have h2:j<1073741824:=hc.2;exact floordiv_int (by lia) (by rw[Int.fdiv_eq_ediv_of_nonneg i (by lia)];exact q) (.inl (PyProof.noPylong_small (by lia)))
theorem im:m9 X (binaryOp .Mod) (rI (fun _ j=>0<j) fun i j=>.int (i % j)):=Wq fun i j _ _ _ _ _ hc q=>by
 have h1:(0:Int)<j:=hc;exact mod_int' (by lia) (by rw[E9 i (by lia)];exact q)
theorem NN:m9 X (binaryOp .Pow) (rI XE fun i j=>.int (i ^ j.toNat)):=Wq fun _ _ _ _ _ _ _ hc q=>pow_int_small hc.1 hc.2.1 hc.2.2 q
theorem unI{f:Value->Sem Value}{g:Int->Int}(rule:∀ (i:Int) (t:Tok) (s:Shared) (Q:Value->Shared->Prop) (E:Value->Shared->Prop),Q (.int (g i) s.toks) { s with toks:=s.toks+1 }->wpAny (model X.prog X.w) X.A (f (.int i t)) Q E s):
  XC X f (rU fun i=>.int (g i)):=by
 intro ae s σ H x v Q I rx h;obtain⟨i,rfl,q⟩:=h;obtain⟨t,rfl⟩:=rx;exact rule i t s _ _ ⟨.int (g i),H,I.tok _,⟨_,rfl⟩,q⟩
theorem Fx:XC X (unaryOp .USub) (rU fun i=>.int (-i)):=unI fun _ _ _ _ _ q=>neg_int q
end
def Jp:V->V->Bool
 |.cf,.cf=>true|.cf,.int _=>true|.int _,.cf=>true|.cf,.bl _=>true|.bl _,.cf=>true|.cf,.str _=>true|.str _,.cf=>true
 |.int _,.int _=>true|.bl _,.bl _=>true|.str _,.str _=>true|.BJ _,.BJ _=>true
 |.int _,.str _=>true|.str _,.int _=>true|.bl _,.str _=>true|.str _,.bl _=>true
 |_,_=>false
def Sj:R2:=fun x y H Q=>Jp x y=true/\Q (.bl (decide (x=y))) H
def rNe:R2:=fun x y H Q=>Jp x y=true/\Q (.bl (!decide (x=y))) H
theorem BN:decide (V.int i=V.int j)=(i==j):=by
 rw[jS];simp
theorem Fy:decide (V.bl i=V.bl j)=(i==j):=by
 rw[jS];simp
theorem BP:decide (V.str i=V.str j)=(i==j):=by
 rw[jS];simp
theorem BQ:decide (V.BJ i=V.BJ j)=(i.toList==j.toList):=by
 rw[jS];cases i;cases j;simp
section
variable {X:Cx} {a b c:Expr} {ta tb tc:TE} {pos:Pos}
theorem bN(I:aM X ae σ H s)(q:Q (.bl k) H)(e:k=k'):EP X ae σ Q (.bool k') s:=by
 subst e;exact⟨.bl k,H,I,rfl,q⟩
theorem gR:m9 X (compareOp .Eq) Sj:=by
 intro ae s σ H x y v u Q I rx ry h;obtain⟨hs,q⟩:=h;cases x with
 |cf=>
  cases rx;cases y with
  |cf=>cases ry;exact PySem.EqNone.eq_none_none (bN I q (by simp))
  |bl j=>cases ry;exact PySem.EqNone.eq_none_bool (bN I q (by simp))
  |int j=>obtain⟨t',rfl⟩:=ry;exact PySem.EqNone.eq_none_int (bN I q (by simp))
  |str j=>obtain⟨t',rfl⟩:=ry;exact PySem.EqNone.eq_none_str (bN I q (by simp))
  |_=>exact absurd (show false=true from hs) cP
 |bl i=>
  cases rx;cases y with
  |cf=>cases ry;exact PySem.EqNone.eq_bool_none (bN I q (by simp))
  |bl j=>cases ry;exact eq_bool (bN I q Fy)
  |str j=>obtain⟨t',rfl⟩:=ry;exact PySem.EqMixed.eq_bool_str (bN I q (by simp))
  |_=>exact absurd (show false=true from hs) cP
 |int i=>
  obtain⟨t,rfl⟩:=rx;cases y with
  |cf=>cases ry;exact PySem.EqNone.eq_int_none (bN I q (by simp))
  |int j=>obtain⟨t',rfl⟩:=ry;exact eq_int (bN I q BN)
  |str j=>obtain⟨t',rfl⟩:=ry;exact PySem.EqMixed.eq_int_str (bN I q (by simp))
  |_=>exact absurd (show false=true from hs) cP
 |str i=>
  obtain⟨t,rfl⟩:=rx;cases y with
  |cf=>cases ry;exact PySem.EqNone.eq_str_none (bN I q (by simp))
  |bl j=>cases ry;exact PySem.EqMixed.eq_str_bool (bN I q (by simp))
  |int j=>obtain⟨t',rfl⟩:=ry;exact PySem.EqMixed.eq_str_int (bN I q (by simp))
  |str j=>obtain⟨t',rfl⟩:=ry;exact eq_str (bN I q BP)
  |_=>exact absurd (show false=true from hs) cP
 |BJ i=>
  obtain⟨t,rfl⟩:=rx;cases y with
  |BJ j=>obtain⟨t',rfl⟩:=ry;exact PySem.W.eq_bytes (bN I q BQ)
  |_=>exact absurd (show false=true from hs) cP
 |_=>cases y <;> exact absurd (show false=true from hs) cP
theorem rG:m9 X (compareOp .NotEq) rNe:=by
 intro ae s σ H x y v u Q I rx ry h;obtain⟨hs,q⟩:=h;cases x with
 |cf=>
  cases rx;cases y with
  |cf=>cases ry;exact PySem.EqNone.ne_none_none (bN I q (by simp))
  |bl j=>cases ry;exact PySem.EqNone.ne_none_bool (bN I q (by simp))
  |int j=>obtain⟨t',rfl⟩:=ry;exact PySem.EqNone.ne_none_int (bN I q (by simp))
  |str j=>obtain⟨t',rfl⟩:=ry;exact PySem.EqNone.ne_none_str (bN I q (by simp))
  |_=>exact absurd (show false=true from hs) cP
 |bl i=>
  cases rx;cases y with
  |cf=>cases ry;exact PySem.EqNone.ne_bool_none (bN I q (by simp))
  |bl j=>cases ry;exact ne_bool (bN I q (congrArg not Fy))
  |str j=>obtain⟨t',rfl⟩:=ry;exact PySem.EqMixed.ne_bool_str (bN I q (by simp))
  |_=>exact absurd (show false=true from hs) cP
 |int i=>
  obtain⟨t,rfl⟩:=rx;cases y with
  |cf=>cases ry;exact PySem.EqNone.ne_int_none (bN I q (by simp))
  |int j=>obtain⟨t',rfl⟩:=ry;exact ne_int (bN I q (congrArg not BN))
  |str j=>obtain⟨t',rfl⟩:=ry;exact PySem.EqMixed.ne_int_str (bN I q (by simp))
  |_=>exact absurd (show false=true from hs) cP
 |str i=>
  obtain⟨t,rfl⟩:=rx;cases y with
  |cf=>cases ry;exact PySem.EqNone.ne_str_none (bN I q (by simp))
  |bl j=>cases ry;exact PySem.EqMixed.ne_str_bool (bN I q (by simp))
  |int j=>obtain⟨t',rfl⟩:=ry;exact PySem.EqMixed.ne_str_int (bN I q (by simp))
  |str j=>obtain⟨t',rfl⟩:=ry;exact ne_str (bN I q (congrArg not BP))
  |_=>exact absurd (show false=true from hs) cP
 |BJ i=>
  obtain⟨t,rfl⟩:=rx;cases y with
  |BJ j=>obtain⟨t',rfl⟩:=ry;exact PySem.W.ne_bytes (bN I q (congrArg not BQ))
  |_=>exact absurd (show false=true from hs) cP
 |_=>cases y <;> exact absurd (show false=true from hs) cP
theorem lM:m9 X (compareOp .Lt) (wX fun i j=>.bl (decide (i<j))):=Jn fun _ _ _ _ _ _ _ q=>lt_int q
theorem Mo:m9 X (compareOp .LtE) (wX fun i j=>.bl (decide (i<=j))):=Jn fun _ _ _ _ _ _ _ q=>le_int q
theorem rH:m9 X (compareOp .Gt) (wX fun i j=>.bl (decide (j<i))):=Jn fun _ _ _ _ _ _ _ q=>gt_int q
theorem Sk:m9 X (compareOp .GtE) (wX fun i j=>.bl (decide (j<=i))):=Jn fun _ _ _ _ _ _ _ q=>ge_int q
theorem Af:m9 X (compareOp .Is) (fun x y H Q=>y=.cf/\Q (.bl (decide (x=.cf))) H):=by
 intro ae s σ H x y v u Q I rx ry h;obtain⟨rfl,q⟩:=h;cases ry;refine is_none_gen (bN I q ?_);cases x <;> first
  |(cases rx;rfl)
  |(obtain⟨t,rfl⟩:=rx;rfl)
theorem ng:m9 X (compareOp .IsNot) (fun x y H Q=>y=.cf/\Q (.bl (!decide (x=.cf))) H):=by
 intro ae s σ H x y v u Q I rx ry h;obtain⟨rfl,q⟩:=h;cases ry;refine isnot_none_gen (bN I q ?_);cases x <;> first
  |(cases rx;rfl)
  |(obtain⟨t,rfl⟩:=rx;rfl)
theorem aW(b:Expr)(h:op≠.In:=by decide)(h2:op≠.NotIn:=by decide):behindInMarks op b=false:=by
 have e1:(op==CmpOp.In)=false:=by cases op <;> first|rfl|exact absurd rfl h
 have e2:(op==CmpOp.NotIn)=false:=by cases op <;> first|rfl|exact absurd rfl h2
 cases b <;> simp[behindInMarks,e1,e2]
theorem hZ(ho:m9 X (compareOp op) r)(ha:PE X a ta)(hb:PE X b tb)(hm:behindInMarks op b=false):PE X (.Compare a [op] [b] pos) (ja r ta tb):=by
 intro ae s σ H Q I h;exact wpAny_Compare1 (NM ha hb I h fun v u s2 x y H2 I2 rx ry q=>ho ae s2 σ H2 x y v u Q I2 rx ry q) hm
def io(t:TE):TT:=fun σ H Q=>t σ H fun x H'=>∃k,x=.bl k/\Q k H'
theorem aP(ho:m9 X (compareOp op) r)(ha:PE X a ta)(hb:PE X b tb)(hm:behindInMarks op b=false):PT X (.Compare a [op] [b] pos) (io (ja r ta tb)):=by
 intro ae s σ H Q I h;refine wpAny_isTrue_Compare1 (cJ (ha ae s σ H _ I h) fun v s1 ⟨x,H1,I1,r1,q1⟩=>cJ (hb ae s1 σ H1 _ I1 q1) fun u s2 ⟨y,H2,I2,r2,q2⟩=>
  cJ (ho ae s2 σ H2 x y v u _ I2 r1 r2 q2) fun c s3 ⟨z,H3,I3,r3,k,e,q3⟩=>?_) hm
 subst e;cases r3;exact l6 ⟨H3,I3,q3⟩
def NO(r r':R2)(ta tb tc:TE):TE:=fun σ H Q=>ta σ H fun x H1=>tb σ H1 fun y H2=>r x y H2 fun z H3=>∃k,z=.bl k/\
 (if k=true then tc σ H3 fun w' H4=>r' y w' H4 Q else Q (.bl false) H3)
theorem Fz(ho:m9 X (compareOp op) r)(vD:m9 X (compareOp op') r')(ha:PE X a ta)(hb:PE X b tb)(hc:PE X c tc)(hm:lastMarks [op,op'] [b,c]=false:=by with_unfolding_all rfl):PE X (.Compare a [op,op'] [b,c] pos) (NO r r' ta tb tc):=by
 intro ae s σ H Q I h;refine Compare_chain (cJ (ha ae s σ H _ I h) fun v s1 ⟨x,H1,I1,r1,q1⟩=>chain_link (cJ (hb ae s1 σ H1 _ I1 q1) fun u s2 ⟨y,H2,I2,r2,q2⟩=>
  cJ (ho ae s2 σ H2 x y v u _ I2 r1 r2 q2) fun d s3 ⟨z,H3,I3,r3,k,e,q3⟩=>?_)) hm
 subst e;cases r3;refine l6 ?_;cases k with
 |false=>exact ite_ff ⟨.bl false,H3,I3,rfl,q3⟩
 |true=>exact ite_tt (chain_last (cJ (hc ae s3 σ H3 _ I3 q3) fun w' s4 ⟨z',H4,I4,r4,q4⟩=>vD ae s4 σ H4 y z' u w' Q I4 r2 r4 q4))
def Sl(K:PySem.W.Frag)(x:V)(H:Hp)(k:Bool):Prop:=
 match x with
 |.cf=>k=false
 |.bl b=>k=b
 |.int i=>k=(i != 0)
 |.str y=>y.length<=sizeLine/\k=((y.length:Int) != 0)
 |.BJ y=>y.size<=sizeLine/\k=((y.size:Int) != 0)
 |.ref p=>(∃xs,a8 K H p xs/\k=!xs.isEmpty)\/(∃xs,bJ K H p xs/\k=!xs.isEmpty)\/∃ba,H p=some (.dK ba)/\k=!ba.isEmpty
 |_=>False
theorem Ag{κ:Type}{ba:List (κ×V)}{vs:List (κ×Value)}(r:KV ba vs):(!vs.isEmpty)=!ba.isEmpty:=by
 cases r <;> rfl
theorem rJ{xs:List V}{its:List Value}(r:aZ xs its):(!its.toArray.isEmpty)=!xs.isEmpty:=by
 cases r <;> simp
theorem rK:(sizeLine:Nat)<2 ^ 63:=by rw[gj];decide
theorem NP:XD X (fun x H Q=>∃k,Sl X.K x H k/\Q k H):=by
 intro ae s σ H x v Q I rx h;obtain⟨k,e,q⟩:=h;have hl:=rK;have hs:sizeLine=16777216:=gj;cases x with
 |cf=>
  cases rx;have e':k=false:=e;subst e';exact truthy_none ⟨H,I,q⟩
 |bl b=>
  cases rx;have e':k=b:=e;subst e';exact l6 ⟨H,I,q⟩
 |int i=>
  obtain⟨t,rfl⟩:=rx;have e':k=(i != 0):=e;subst e';exact PySem.P.truthy_int ⟨H,I,q⟩
 |str y=>
  obtain⟨t,rfl⟩:=rx;obtain⟨hy,e'⟩:y.length<=sizeLine/\k=((y.length:Int) != 0):=e;subst e';exact PySem.P.truthy_str (by lia) ⟨H,I.tok _,q⟩
 |BJ y=>
  obtain⟨t,rfl⟩:=rx;obtain⟨hy,e'⟩:y.size<=sizeLine/\k=((y.size:Int) != 0):=e;subst e';exact PySem.W.truthy_bytes (by lia) ⟨H,I.tok _,q⟩
 |ref p=>
  cases rx;have e':(∃xs,a8 X.K H p xs/\k=!xs.isEmpty)\/(∃xs,bJ X.K H p xs/\k=!xs.isEmpty)\/∃ba,H p=some (.dK ba)/\k=!ba.isEmpty:=e;rcases e' with ⟨xs,hx,e'⟩|⟨xs,hx,e'⟩|⟨ba,hx,e'⟩
  .subst e';obtain⟨its,r,pl,hz⟩:=I.list hx;have dO:=r.length;exact wpAny_truthy_list pl.isList (by simp only[cB];lia) ⟨H,I.tok _,by rw[rJ r];exact q⟩
  .subst e';obtain⟨its,r,pl,hz⟩:=I.tuple hx;have dO:=r.length;exact truthy_tuple pl (by simp only[cB];lia) ⟨H,I.tok _,by rw[rJ r];exact q⟩
  .subst e';obtain⟨hz,hS,vs,r,m⟩:ba.length<=sizeLine/\(p==sysModules)=false/\∃vs,KV ba vs/\s.heap.DictOf (dh X.prog X.w) p vs:=I.bE p _ hx;have dO:ba.length=vs.length:=Paired.length r;exact wpAny_truthy_dict hS m (by lia) ⟨H,I.tok _,by rw[Ag r];exact q⟩
 |_=>exact(show False from e).elim
theorem FB(ha:PE X a ta)(he:∀rC,isTrue a X.env rC=(do let v <- rC;standAt a.pos;holding [v] (truthy v))):
  PT X a (fun σ H Q=>ta σ H fun x H'=>∃k,Sl X.K x H' k/\Q k H'):=by
 intro ae s σ H Q I h;exact isTrue_plain (cJ (ha ae s σ H _ I h) fun v s1 ⟨x,H1,I1,r1,q1⟩=>NP ae s1 σ H1 x v Q I1 r1 q1) (he _)
theorem FE(r:aZ [x] us):∃u,us=[u]/\bA x u:=by
 cases r with
 |cons r1 r2=>cases r2;exact⟨_,rfl,r1⟩
theorem Mp(r:aZ [x,y] us):∃u w',us=[u,w']/\bA x u/\bA y w':=by
 cases r with
 |cons r1 r2=>
  cases r2 with
  |cons r3 r4=>cases r4;exact⟨_,_,rfl,r1,r3⟩
theorem Dx(hc:X.calm=true):fU X (.builtin "max") (fun xs H Q=>∃i j,xs=[.int i,.int j]/\Q (.int (if j > i then j else i)) H):=by
 intro ae s σ H xs us Q I r h;obtain⟨i,j,rfl,q⟩:=h;obtain⟨u,w',rfl,⟨t,rfl⟩,⟨t',rfl⟩⟩:=Mp r;refine max_two_ints (I.ok.hd hc) fun h' tk k=>⟨_,H,I.kept k,?_,q⟩
 by_cases hj:j > i
 .rw[ak hj,ak hj];exact⟨_,rfl⟩
 .rw[aq hj,aq hj];exact⟨_,rfl⟩
theorem tX(hc:X.calm=true):fU X (.builtin "min") (fun xs H Q=>∃i j,xs=[.int i,.int j]/\Q (.int (if j<i then j else i)) H):=by
 intro ae s σ H xs us Q I r h;obtain⟨i,j,rfl,q⟩:=h;obtain⟨u,w',rfl,⟨t,rfl⟩,⟨t',rfl⟩⟩:=Mp r;refine min_two_ints (I.ok.hd hc) fun h' tk k=>⟨_,H,I.kept k,?_,q⟩
 by_cases hj:j<i
 .rw[ak hj,ak hj];exact⟨_,rfl⟩
 .rw[aq hj,aq hj];exact⟨_,rfl⟩
end
structure Ah(h:Heap)(x dx C:Addr)(mA:Str->Option Value):Prop where
 obj:h.get? x=some (PySem.W.instObj C dx)
 ns:h.Ns1 dx mA
 ne:dx≠x
theorem Dy{h:Heap}{dx:Addr}{mA:Str->Option Value}(n:h.Ns1 dx mA):∃od,h.get? dx=some od/\∀name,PySem.W.lookIn name od=some (mA name):=by
 obtain⟨o,es,ep,ho,hd,hk,_,hm⟩:=n;refine⟨o,ho,fun name=>?_⟩;have e:=hm name;unfold nsFind findBy at e;rw[<-Array.find?_toList] at e;unfold PySem.W.lookIn;rw[hd];dsimp only;split
 .rename_i y q;rw[q] at e;exact congrArg some e
 .rename_i q;rw[q] at e;have a:es.toList.any (·.refKey)=false:=by
   rw[q0];intro y hy;obtain⟨z,t,tu⟩:=hk y (Array.mem_toList_iff.mp hy);simp[DictEntry.refKey,tu]
  have a':¬ es.toList.any (·.refKey)=true:=by rw[a];exact cP
  rw[aq a'];exact congrArg some e
theorem Ah.look(I:Ah h x dx C mA):∃od,PySem.W.InstAt h x (PySem.W.instObj C dx) C (some od)/\∀name,PySem.W.lookIn name od=some (mA name):=
 let ⟨od,ho,hl⟩:=Dy I.ns
 ⟨od,⟨I.obj,rfl,rfl,ho⟩,hl⟩
section
variable {prog:Program} {w:World} {A:Around} {E:Value->Shared->Prop} {s:Shared} {K:PySem.W.Frag} {x dx C f:Addr} {mA:Str->Option Value} {name:Str} {v:Value}
theorem Jq(X:K.In s.heap)(I:Ah s.heap x dx C mA)(hg:PySem.W.plainGet K C name=true)(hh:PySem.W.hasDictIn K C=true)(ha:PySem.W.findIn K (.ref C) name=some none)(hv:mA name=some v)(Jr:PySem.W.handedIn v=true)(h:Q v { s with toks:=s.toks+1 }):
  wpAny (model prog w) A (getAttr (.ref x) name Js) Q E s:=by
 obtain⟨od,J,hl⟩:=I.look;exact PySem.W.get_value X J (zq hg).1 (PySem.W.findObj_own hh ha rfl (by rw[hl,hv])) Jr h
theorem FG(X:K.In s.heap)(I:Ah s.heap x dx C mA)(hg:PySem.W.plainGet K C name=true)(hf:PySem.W.findIn K (.ref C) name=some (some (.ref f)))(ht:PySem.W.isFn K (.ref f)=true)(hv:mA name=none)(h:Q (.ref f,[.ref x]) s):
  wpAny (model prog w) A (getMethod (.ref x) name pl) Q E s:=by
 obtain⟨od,J,hl⟩:=I.look;exact PySem.W.method_fn X J (zq hg).1 (zq hg).2 hf (hU.mp ht) (by show (PySem.W.lookIn name od).map (·.isSome)=some false;rw[hl,hv];rfl) h
theorem Jt(X:K.In s.heap)(I:Ah s.heap x dx C mA)(hs:PySem.W.findIn K (.ref C) "__setattr__"=some (some (.builtin "object.__setattr__")))(hp:PySem.W.plainOver K C=true)(ht:PySem.W.takerIn K C name=some none)(hh:PySem.W.hasDictIn K C=true)(hw:PySem.Within mA ns)(hsz:ns.length<=sizeLine)(h:∀h',Ah h' x dx C (fun y=>if y=name then some v else mA y)->Heap.SameBut dx s.heap h'->Q () { s with heap:=h',toks:=s.toks+2 }):
  wpAny (model prog w) A (setAttr (.ref x) name v) Q E s:=by
 obtain⟨od,J,hl⟩:=I.look;refine PySem.W.set_plain X J hs (PySem.W.osa_open (s:={ s with toks:=s.toks+1 }) (r:=none) X J hp ht fun b=>?_);obtain⟨cd,hc,Fp⟩:=PySem.W.any_some hh;have hx:s.heap.get? x=some ⟨.ref C,some dx,.plain,#[]⟩:=I.obj;refine az (wpAny_pure (az (az (wpAny_loadPart hx (az (PySem.W.Looks.here (s:={ s with toks:=s.toks+1 }) (PySem.W.looks_clsIn X hc) ?_))))));rw[Fp];refine wpAny_pure (a:=some dx) (az (wpAny_pure (az ?_)));refine wpAny_nsSet1 (s:={ s with toks:=s.toks+1 }) I.ns fun h' Q9 mh=>?_;obtain⟨oD,esD,epD,hoD,Sm,Ju⟩:=Q9.count (PySem.Within.cons name v hw);refine az (wpAny_lookBehind hoD (by rw[Sm];exact pastItsLine_dict (aX Ju (by rw[d9];lia))) ?_);exact wpAny_pure (h _ ⟨(mh.2 _ (il I.ne)).trans I.obj,Q9,I.ne⟩ mh)
theorem FH(X:K.In s.heap)(hm:PySem.W.makesIn K C=true)(hi:PySem.W.findIn K (.ref C) "__init__"=some (some (.ref f)))(hf:PySem.W.typeIn K (.ref f)=some (.type "function"))(h:codeAny (model prog w) (A.under (.builtin "type.__call__" ⟨.ref C::vs,kw⟩)) (.call (.ref f) ⟨.ref (s.heap.objs.size+1)::vs,kw⟩) (PySem.W.InitBack (s.heap.objs.size+1) R)
   { s with heap:=(s.heap.push PySem.W.emptyDict).push (PySem.W.instObj C s.heap.objs.size) }):
  codeAny (model prog w) A (.call (.ref C) ⟨vs,kw⟩) R s:=by
 obtain⟨hh,g,d,t,os⟩:=s;exact PySem.W.make_core (zN X hm) (PySem.W.looks_findIn X hi) (fun self=>PySem.W.bind_fn X self hf) (.inl rfl) h
theorem Dz(X:K.In s.heap)(hm:PySem.W.makesIn K C=true)(hi:PySem.W.findIn K (.ref C) "__init__"=some (some (.builtin "object.__init__")))(hb:∀self,PySem.W.Looks (model prog w) s.heap (bindSpecial (.builtin "object.__init__") self) (.builtin "object.__init__",[self]))(h:codeAny (model prog w) (A.under (.builtin "type.__call__" ⟨[.ref C],[]⟩)) (.call (.builtin "object.__init__") ⟨[.ref (s.heap.objs.size+1)],[]⟩) (PySem.W.InitBack (s.heap.objs.size+1) R)
   { s with heap:=(s.heap.push PySem.W.emptyDict).push (PySem.W.instObj C s.heap.objs.size) }):
  codeAny (model prog w) A (.call (.ref C) ⟨[],[]⟩) R s:=by
 obtain⟨hh,g,d,t,os⟩:=s;exact PySem.W.make_core (zN X hm) (PySem.W.looks_findIn X hi) hb (.inr ⟨rfl,rfl⟩) h
end
def dX(f:Str)(v:V):List (Str×V)->List (Str×V)
 |[]=>[(f,v)]
 |(g,x)::r=>if g=f then (g,v)::r else (g,x)::dX f v r
theorem bC(f g:Str)(v:V):∀fs:List (Str×V),(dX f v fs).lookup g=if g=f then some v else fs.lookup g
 |[]=>by
  show List.lookup g [(f,v)]=_;by_cases h:g=f
  .have hb:(g==f)=true:=hU.mpr h;simp only[List.lookup,hb,ak h]
  .have hb:(g==f)=false:=lY.mpr h;simp only[List.lookup,hb,aq h]
 |(k,x)::r=>by
  have ih:=bC f g v r;rw[show dX f v ((k,x)::r)=(if k=f then (k,v)::r else (k,x)::dX f v r) from rfl];by_cases hk:k=f
  .rw[ak hk];by_cases h:g=k
   .have hb:(g==k)=true:=hU.mpr h;simp only[List.lookup,hb,ak (h.trans hk)]
   .have hb:(g==k)=false:=lY.mpr h;simp only[List.lookup,hb,aq (fun e:g=f=>h (e.trans hk.symm))]
  .rw[aq hk];by_cases h:g=k
   .have hb:(g==k)=true:=hU.mpr h;simp only[List.lookup,hb,aq (fun e:g=f=>hk (h.symm.trans e))]
   .have hb:(g==k)=false:=lY.mpr h;simp only[List.lookup,hb];exact ih
theorem pb(f:Str)(v:V):∀fs:List (Str×V),f∈(dX f v fs).map (·.1)/\∀g,g∈fs.map (·.1)->g∈(dX f v fs).map (·.1)
 |[]=>⟨by simp[dX],fun g h=>by simp at h⟩
 |(k,x)::r=>by
  obtain⟨i1,i2⟩:=pb f v r;rw[show dX f v ((k,x)::r)=(if k=f then (k,v)::r else (k,x)::dX f v r) from rfl];by_cases hk:k=f
  .rw[ak hk];subst hk;exact⟨by simp,fun g h=>by simpa using h⟩
  .rw[aq hk];refine⟨?_,fun g h=>?_⟩
   .rw[eG];exact cm _ i1
   .rw[eG] at h |-;rcases a_.mp h with e|e
    .exact a_.mpr (.inl e)
    .exact cm _ (i2 g e)
theorem eM(f:Str)(v:V):∀fs:List (Str×V),(dX f v fs).length<=fs.length+1
 |[]=>by simp[dX]
 |(k,x)::r=>by
  have ih:=eM f v r;rw[show dX f v ((k,x)::r)=(if k=f then (k,v)::r else (k,x)::dX f v r) from rfl];by_cases hk:k=f
  .rw[ak hk,d9,d9];lia
  .rw[aq hk,d9,d9];lia
theorem lA.some_of(r:lA (some v) o):∃u,o=some u/\bA v u:=by
 cases o with
 |none=>exact(show False from r).elim
 |some u=>exact⟨u,rfl,r⟩
theorem lA.none_of(r:lA none o):o=none:=by
 cases o with
 |none=>rfl
 |some u=>exact(show False from r).elim
theorem DA(r:bA v u):PySem.W.handedIn u=true:=by
 cases v with
 |cf=>cases (show u=Value.none from r);rfl
 |bl b=>cases (show u=Value.bool b from r);rfl
 |int i=>obtain⟨t,e⟩:=(show ∃t,u=Value.int i t from r);cases e;rfl
 |str x=>obtain⟨t,e⟩:=(show ∃t,u=Value.str x t from r);cases e;rfl
 |BJ b=>obtain⟨t,e⟩:=(show ∃t,u=Value.bytes b t from r);cases e;rfl
 |Nw b=>obtain⟨t,e⟩:=(show ∃t,u=Value.float b t from r);cases e;rfl
 |ref a=>cases (show u=Value.ref a from r);rfl
 |ty n=>cases (show u=Value.type n from r);rfl
section
variable {P:Program} {w:World} {H H':Hp} {h h':Heap} {a C dx:Addr} {fs fs':List (Str×V)}
theorem qt(bE:j4 P w H h)(e:H a=some (.ins C dx fs)):∃mA,Ah h a dx C mA/\(∀f,lA (fs.lookup f) (mA f))/\PySem.Within mA (fs.map (·.1))/\fs.length<=1000/\H dx=some (.own a):=by
 obtain⟨d,z,ne,ob,mA,n,r,q⟩:=(show cg P w H h a (.ins C dx fs) from bE a _ e)
 exact⟨mA,⟨ob,n,ne⟩,r,q,z,d⟩
end
structure EO(K:PySem.W.Frag)(C:Addr):Prop where
 pg:PySem.W.plainGet K C Str.empty=true
 hd:PySem.W.hasDictIn K C=true
 po:PySem.W.plainOver K C=true
 sa:PySem.W.findIn K (.ref C) "__setattr__"=some (some (.builtin "object.__setattr__"))
theorem EO.get{K:PySem.W.Frag}{C:Addr}(c:EO K C)(f:Str):PySem.W.plainGet K C f=true:=c.pg
def iT(K:PySem.W.Frag)(C:Addr)(f:Str):Prop:=PySem.W.findIn K (.ref C) f=some none
theorem iT.Sn{K:PySem.W.Frag}{C:Addr}{f:Str}(n:iT K C f):PySem.W.takerIn K C f=some none:=by
 unfold PySem.W.takerIn;rw[show PySem.W.findIn K (.ref C) f=some none from n];rfl
structure Jv(K:PySem.W.Frag)(C:Addr)(m:Str)(f:Addr):Prop where
 at_:PySem.W.findIn K (.ref C) m=some (some (.ref f))
 fn:PySem.W.isFn K (.ref f)=true
 kp:PySem.W.keepIn K (.ref f)=true
section
variable {X:Cx} {ae:List (Addr×Obj)} {σ:St} {H:Hp} {s:Shared} {a C dx:Addr} {fs:List (Str×V)} {f:Str} {v:V} {A:Around} {E:Value->Shared->Prop}
theorem Ai(I:aM X ae σ H s)(e:H a=some (.ins C dx fs))(c:EO X.K C)(n:iT X.K C f)(l:fs.lookup f=some v)(h:∀u s',aM X ae σ H s'->bA v u->Q u s'):wpAny (model X.prog X.w) A (getAttr (.ref a) f b) Q E s:=by
 obtain⟨mA,O,r,_,_,_⟩:=qt I.bE e;obtain⟨u,hu,ru⟩:=lA.some_of (v:=v) (o:=mA f) (by rw[<-l];exact r f);exact Jq I.lK O (c.get f) c.hd n hu (DA ru) (h u _ (I.tok _) ru)
theorem rL(I:aM X ae σ H s)(e:H a=some (.ins C dx fs))(c:EO X.K C)(k:Jv X.K C m g)(l:fs.lookup m=none)(h:Q (.ref g,[.ref a]) s):wpAny (model X.prog X.w) A (getMethod (.ref a) m pl) Q E s:=by
 obtain⟨mA,O,r,_,_,_⟩:=qt I.bE e;have hn:mA m=none:=lA.none_of (by rw[<-l];exact r m);exact FG I.lK O (c.get m) k.at_ k.fn hn h
theorem Aj(I:aM X ae σ H s)(e:H a=some (.ins C dx fs))(c:EO X.K C)(n:iT X.K C f)(hl:fs.length<1000)(ry:bA y u)(h:∀s',aM X ae σ (upd H a (.ins C dx (dX f y fs))) s'->Q () s'):wpAny (model X.prog X.w) A (setAttr (.ref a) f u) Q E s:=by
 obtain⟨mA,O,r,wi,_,ho⟩:=qt I.bE e;have hz:(fs.map (·.1)).length<=sizeLine:=by rw[aO,gj];lia
 refine Jt I.lK O c.sa c.po n.Sn c.hd wi hz fun h' O' sb=>h _ ?_;have hd:∃o,h'.get? dx=some o:=let ⟨o,_,_,e',_⟩:=O'.ns;⟨o,e'⟩;refine I.write (x:=a) (e:=dx) (by rw[e];exact True.intro) (.inr ho) (fun b q hb z=>(sb.2 b hb).trans z) hd ?_;refine⟨by rw[ao O.ne];exact ho,?_,O.ne,O'.obj,_,O'.ns,fun g=>?_,fun g hg=>?_⟩
 .have:=eM f y fs;lia
 .show lA ((dX f y fs).lookup g) (if g=f then some u else mA g);rw[bC];by_cases q:g=f
  .rw[ak q,ak q];exact ry
  .rw[aq q,aq q];exact r g
 .by_cases q:g=f
  .rw[q];exact(pb f y fs).1
  .refine(pb f y fs).2 g (wi g fun z=>hg ?_);show (if g=f then some u else mA g)=none;rw[aq q];exact z
theorem aM.made(I:aM X ae σ H s):aM X ae σ (upd (upd H s.heap.objs.size (.own (s.heap.objs.size+1))) (s.heap.objs.size+1) (.ins C s.heap.objs.size []))
  { s with heap:=(s.heap.push PySem.W.emptyDict).push (PySem.W.instObj C s.heap.objs.size) }:=by
 have e1:(s.heap.push PySem.W.emptyDict).get? s.heap.objs.size=some PySem.W.emptyDict:=cY s.heap rfl;have e2:((s.heap.push PySem.W.emptyDict).push (PySem.W.instObj C s.heap.objs.size)).get? (s.heap.objs.size+1)=some (PySem.W.instObj C s.heap.objs.size):=by
  have:=cY (s.heap.push PySem.W.emptyDict) (o:=PySem.W.instObj C s.heap.objs.size) rfl;rwa [i_] at this
 have e3:(s.heap.push PySem.W.emptyDict).Ns s.heap.objs.size (fun _=>none):=⟨PySem.W.emptyDict,#[],_,e1,rfl,(fun e he=>absurd he (by simp)),fun _=>rfl⟩
 have I1:=I.laid (a:=s.heap.objs.size) (o:=.own (s.heap.objs.size+1)) (h':=s.heap.push PySem.W.emptyDict) (t':=s.toks) (fun b u q=>bU _ q) (aI _) ⟨_,e1⟩;refine I1.laid (a:=s.heap.objs.size+1) (o:=.ins C s.heap.objs.size []) (t':=s.toks) (fun b u q=>bU _ q) (km (i_ _ _)) ?_;have ne:s.heap.objs.size≠s.heap.objs.size+1:=bb (j6 _);refine⟨by rw[ao ne,af],bV _,ne,e2,fun _=>none,(Heap.Ns1.of_empty e3).at fun o q=>bU _ q,fun _=>True.intro,fun y hy=>absurd rfl hy⟩
theorem Jw(hb:attributeBase e f env (eval e env)=eval e env)(h:wpAny (model prog w) A (eval e env) (fun o s₁=>wpAny (model prog w) A (getAttr o f true) Q E s₁) E s):wpAny (model prog w) A (eval (.Attribute e f pos) env) Q E s:=
 Attribute_any_ h (by rw[arm_eval_Attribute,hb])
end
def NQ(K:PySem.W.Frag)(ta:TE)(f:Str):TE:=fun σ H Q=>ta σ H fun x H1=>∃a C dx fs v,x=.ref a/\H1 a=some (.ins C dx fs)/\EO K C/\iT K C f/\fs.lookup f=some v/\Q v H1
def XF(K:PySem.W.Frag)(ta tv:TE)(f:Str):TS:=fun D σ H=>tv σ H fun y H1=>ta σ H1 fun x H2=>∃a C dx fs,x=.ref a/\H2 a=some (.ins C dx fs)/\EO K C/\iT K C f/\fs.length<1000/\
 D.nx σ (upd H2 a (.ins C dx (dX f y fs)))
section
variable {X:Cx} {o e value:Expr} {f:Str} {pos xh FI:Pos} {ta tv:TE}
theorem kC(he:PE X e ta)(hb:attributeBase e f X.env (eval e X.env)=eval e X.env):PE X (.Attribute e f pos) (NQ X.K ta f):=by
 intro ae s σ H Q I h;refine Jw hb (cJ (he ae s σ H _ I h) fun u s1 ⟨x,H1,I1,rx,a,C,dx,fs,v,ex,ea,c,n,l,q⟩=>?_);subst ex;obtain rfl:u=Value.ref a:=rx;exact Ai I1 ea c n l fun u' s2 I2 ru=>⟨v,H1,I2,ru,q⟩
theorem vJ(ha:PE X o ta)(hv:PE X value tv)(hs:swapsWith value (some (.Attribute o f xh)) pos.line X.env=pure false):PS X (.Assign [.Attribute o f xh] value pos) (XF X.K ta tv f):=by
 intro ae s σ H D I h;refine plainObj_wpAny_Assign_Attribute (cJ (hv ae s σ H _ I h) fun u s1 ⟨y,H1,I1,ry,q⟩=>cJ (ha ae s1 σ H1 _ I1 q) fun ov s2 ⟨x,H2,I2,rx,a,C,dx,fs,ex,ea,c,n,l,q2⟩=>?_) hs;subst ex;obtain rfl:ov=Value.ref a:=rx;exact Aj I2 ea c n l ry fun s3 I3=>⟨σ,_,I3,q2⟩
end
section
variable {X:Cx} {ae:List (Addr×Obj)} {σ:St} {H:Hp} {s:Shared} {A:Around} {E:Value->Shared->Prop} {Q:Value->Shared->Prop} {c:Value} {b:Bool}
inductive pc (K:PySem.W.Frag) (H:Hp):V->Value->Prop where
 |cf:pc K H .cf (.type "NoneType")
 |bl (x:Bool):pc K H (.bl x) (.type "bool")
 |int (i:Int):pc K H (.int i) (.type "int")
 |str (x:Str):pc K H (.str x) (.type "str")
 |Nw (x:UInt64):pc K H (.Nw x) (.type "float")
 |lst {a:Addr} {xs:List V} (e:H a=some (.lst xs)):pc K H (.ref a) (.type "list")
 |vC {a:Addr} {o:Obj} {xs:List V} (e:H a=some (.vC o (.lst xs))):pc K H (.ref a) (.type "list")
 |tup {a:Addr} {xs:List V} (e:H a=some (.tup xs)):pc K H (.ref a) (.type "tuple")
 |dK {a:Addr} {ba:List (gY×V)} (e:H a=some (.dK ba)):pc K H (.ref a) (.type "dict")
 |dT {a:Addr} {ba:List (List gY×V)} (e:H a=some (.dT ba)):pc K H (.ref a) (.type "dict")
 |ins {a C dx:Addr} {fs:List (Str×V)} (e:H a=some (.ins C dx fs)) (cl:EO K C) (ha:PySem.W.findIn K (.ref C) "__class__"=some (some (.builtin "object.__class__")))
   (hn:PySem.W.specialIn K (.builtin "object.__class__") "__get__"=some (some (.builtin "getset_descriptor.__get__"))) (So:PySem.W.takesIn K (.builtin "object.__class__")=some true)
   (hm:PySem.W.mroIn K C (.type "object")=some true):pc K H (.ref a) (.ref C)
theorem tY(I:aM X ae σ H s)(rx:bA x u)(ty:pc X.K H x t)(e:PySem.W.kitOne X.K t c=some b)(h:∀tk,Q (.bool b) { s with toks:=tk }):
  wpAny (model X.prog X.w) A (call (.builtin "isinstance") [u,c]) Q E s:=by
 cases ty with
 |cf=>cases (show u=Value.none from rx);exact i8 PySem.W.kitx_none I.lK True.intro e (fun z=>nomatch z) h
 |bl y=>cases (show u=Value.bool y from rx);exact i8 PySem.W.kitx_bool I.lK True.intro e (fun z=>nomatch z) h
 |int i=>obtain⟨t,q⟩:=(show ∃t,u=Value.int i t from rx);cases q;exact i8 PySem.W.kitx_int I.lK True.intro e (fun z=>nomatch z) h
 |str y=>obtain⟨t,q⟩:=(show ∃t,u=Value.str y t from rx);cases q;exact i8 PySem.W.kitx_str I.lK True.intro e (fun z=>nomatch z) h
 |Nw y=>obtain⟨t,q⟩:=(show ∃t,u=Value.float y t from rx);cases q;exact i8 PySem.W.kitx_float I.lK True.intro e (fun z=>nomatch z) h
 |@lst a xs ea=>
  cases (show u=Value.ref a from rx);obtain⟨_,_,n,_,h1⟩:=(show cg X.prog X.w H s.heap a (.lst xs) from I.bE a _ ea)
  exact i8 PySem.W.kitx_list I.lK ⟨_,h1,rfl⟩ e (fun z=>nomatch z) h
 |@vC a ob xs ea=>
  cases (show u=Value.ref a from rx);obtain⟨_,_,_,n,_,h1⟩:=(show cg X.prog X.w H s.heap a (.vC ob (.lst xs)) from I.bE a _ ea)
  exact i8 PySem.W.kitx_list I.lK ⟨_,h1,rfl⟩ e (fun z=>nomatch z) h
 |@tup a xs ea=>
  cases (show u=Value.ref a from rx);obtain⟨_,_,_,p⟩:=(show cg X.prog X.w H s.heap a (.tup xs) from I.bE a _ ea)
  obtain⟨o,h1,h2,_⟩:=p;exact i8 PySem.W.kitx_tuple I.lK ⟨o,h1,h2⟩ e (fun z=>nomatch z) h
 |@dK a ba ea=>
  cases (show u=Value.ref a from rx);obtain⟨_,_,vs,_,p⟩:=(show cg X.prog X.w H s.heap a (.dK ba) from I.bE a _ ea)
  obtain⟨o,es,ep,h1,h2,_⟩:=p;exact i8 PySem.W.kitx_dict I.lK ⟨o,h1,h2.1⟩ e (fun z=>nomatch z) h
 |@dT a ba ea=>
  cases (show u=Value.ref a from rx);obtain⟨_,_,xs,_,o,es,ep,h1,h2,_⟩:=(show cg X.prog X.w H s.heap a (.dT ba) from I.bE a _ ea)
  exact i8 PySem.W.kitx_dict I.lK ⟨o,h1,h2.1⟩ e (fun z=>nomatch z) h
 |@ins a C dx fs ea cl ha hn So hm=>
  cases (show u=Value.ref a from rx);obtain⟨mA,O,_⟩:=qt I.bE ea;obtain⟨od,J,_⟩:=O.look;exact i8 (PySem.W.kitx_own (cl.get _) cl.hd ha hn So hm) I.lK J e (fun z=>nomatch z) h
end
structure bD(k:Nat)(A:Around):Prop where
 hd:A.handled=none
 dp:A.depth+3*k+5<recursionLimit
 un:A.units+16*k+200<cLine
 gd:A.guards=some []
theorem bD.mono(r:bD k A)(h:j<=k):bD j A:=⟨r.hd,by have:=r.dp;lia,by have:=r.un;lia,r.gd⟩
theorem bD.deeper(r:bD (k+1) A)(env:Env):bD k (A.deeper env):=
 ⟨r.hd,by have:=r.dp;show A.depth+1+3*k+5<_;lia,by have:=r.un;show A.units+3+16*k+200<_;lia,r.gd⟩
theorem bD.in1(r:bD (k+1) A):bD k A.in1:=
 ⟨r.hd,by have:=r.dp;show A.depth+3*k+5<_;lia,by have:=r.un;show A.units+1+16*k+200<_;lia,r.gd⟩
theorem Ak{A:Around}{C:Addr}{us:List Value}{kw:List (Str×Value)}:(A.under (.builtin "type.__call__" ⟨.ref C::us,kw⟩)).depth=A.depth+1:=by
 first|rfl|simp[Around.under,Code.weight,Code.isCreation,Code.isGuard,Code.isCaller,Code.frames,Code.isFrame,guardIds]
theorem Am{A:Around}{C:Addr}{us:List Value}{kw:List (Str×Value)}:(A.under (.builtin "type.__call__" ⟨.ref C::us,kw⟩)).units=A.units+1:=by
 first|rfl|simp[Around.under,Code.cUnits,Code.frames,Code.isFrame]
theorem bD.make(r:bD (k+1) A)(C:Addr)(us:List Value)(kw:List (Str×Value)):bD k (A.under (.builtin "type.__call__" ⟨.ref C::us,kw⟩)):=
 ⟨r.hd,by have:=r.dp;rw[Ak];lia,by have:=r.un;rw[Am];lia,r.gd⟩
theorem bD.depth(r:bD k A):A.depth<recursionLimit:=by have:=r.dp;lia
theorem bD.u(r:bD k A)(h:n<=200:=by decide):A.units+n<cLine:=by have:=r.un;lia
def gf:TA:=fun _ H Q=>Q [] H
def bB(ta:TE)(tr:TA):TA:=fun σ H Q=>ta σ H fun x H1=>tr σ H1 fun xs H2=>Q (x::xs) H2
section
variable {X:Cx} {e:Expr} {es:List Expr} {te:TE} {t:TA} {pos:Pos}
theorem ag:PA X [] gf:=fun _ _ _ _ H Q I h=>Calls.spliced_nil ⟨[],H,I,.nil,h⟩
theorem aa(ha:PE X e te)(hr:PA X es t)(hs:starEach (e::es) X.env=(false,eval e X.env)::starEach es X.env:=by rfl):PA X (e::es) (bB te t):=by
 intro pos ae s σ H Q I h;rw[hs];show wpAny _ _ (spliced ((false,eval e X.env)::backTo pos (starEach es X.env))) _ _ s;refine Calls.spliced_cons (cJ (ha ae s σ H _ I h) fun u s1 ⟨x,H1,I1,r1,q1⟩=>?_);exact cJ (hr pos ae s1 σ H1 _ I1 q1) fun us s2 ⟨xs,H2,I2,r2,q2⟩=>⟨x::xs,H2,I2,.cons r1 r2,q2⟩
def xk(t:TA):TE:=fun σ H Q=>t σ H fun xs H1=>xs.length<=sizeLine/\∀p,H1 p=none->Q (.ref p) (upd H1 p (.tup xs))
def XG(t:TA):TE:=fun σ H Q=>t σ H fun xs H1=>xs.length<=sizeLine/\∀p,H1 p=none->Q (.ref p) (upd H1 p (.lst xs))
theorem dB{x1}(h:PA X es t):PE X (.Tuple es x1 pos) (xk t):=by
 intro ae s σ H Q I hq;refine wpAny_Tuple_spliced (cJ (h pos ae s σ H _ I hq) fun us s1 ⟨xs,H1,I1,r,z,q⟩=>⟨by rw[<-r.length];exact z,?_⟩);have hf:H1 s1.heap.objs.size=none:=I1.bE.fresh (aI _);refine⟨.ref s1.heap.objs.size,upd H1 s1.heap.objs.size (.tup xs),I1.laid (t':=s1.toks) (fun b u e=>bU _ e) (aI _) ?_,rfl,q _ hf⟩;exact⟨z,us,r,⟨_,cY _ rfl,rfl,_,rfl,rfl⟩⟩
theorem eN(h:PA X es t):PE X (.List es pos) (XG t):=by
 intro ae s σ H Q I hq;refine wpAny_List_spliced (cJ (h pos ae s σ H _ I hq) fun us s1 ⟨xs,H1,I1,r,z,q⟩=>⟨by rw[<-r.length];exact z,?_⟩);have hf:H1 s1.heap.objs.size=none:=I1.bE.fresh (aI _);refine⟨.ref s1.heap.objs.size,upd H1 s1.heap.objs.size (.lst xs),I1.laid (t':=s1.toks) (fun b u e=>bU _ e) (aI _) ?_,rfl,q _ hf⟩;exact⟨z,us,0,r,cY _ rfl⟩
end
abbrev Sp:=List V->Hp->VK->XK->Prop
abbrev wY:=List Env->Hp->Shared->XK->Value->Shared->Prop
structure xm(P:Program)(w:World)(K:PySem.W.Frag)(mg:Str->Option Value)(base:Heap)(A:Around)(outer:List Env)(s:Shared)(H:Hp):Prop where
 frames:A.frames=some outer
 mod:Mod K mg base
 bs:∀b o,base.get? b=some o->s.heap.get? b=some o/\H b=none
 Dt:base.objs.size<=s.heap.objs.size
 o_:s.heap.FunFrames base outer
 Ny:∀b∈Ds outer,H b=none
 bE:j4 P w H s.heap
 bare:AllBare s.gens
def CE(outer:List Env)(P:Program)(w:World)(H:Hp)(s:Shared)(Q:VK)(u:Value)(s':Shared):Prop:=
 ∃v H',s'.os=s.os/\AllBare s'.gens/\Un (Ds outer) [] H H' s.heap s'.heap/\j4 P w H' s'.heap/\bA v u/\Q v H'
def CR(CX:wY)(outer:List Env)(P:Program)(w:World)(H:Hp)(s:Shared)(Q:VK)(E:XK)(r:Result)(s':Shared):Prop:=
 match r with
 |.ok (.ret u)=>CE outer P w H s Q u s'
 |.ok _=>False
 |.error e=>CX outer H s E e s'
structure bf(P:Program)(w:World)(K:PySem.W.Frag)(mg:Str->Option Value)(base:Heap)(CX:wY)(k:Nat)(f:Addr)(fd:FuncData)(ps:List Str)(sp:Sp):Prop where
 len:∀vs H Q E,sp vs H Q E->vs.length=ps.length
 run:∀ (A:Around) (outer:List Env) (s:Shared) (H:Hp) (args:Args) (us:List Value) (vs:List V) (Q:VK) (E:XK),bD k A->xm P w K mg base A outer s H->BindsTo s fd args (ps.zip us)->aZ vs us->sp vs H Q E->
  codeAny (model P w) A (.call (.ref f) args) (CR CX outer P w H s Q E) s
theorem bf.mono{P:Program}{w:World}{K:PySem.W.Frag}{mg:Str->Option Value}{base:Heap}{CX:wY}{j k:Nat}{f:Addr}{fd:FuncData}{ps:List Str}{sp:Sp}(F:bf P w K mg base CX j f fd ps sp)(h:j<=k):
  bf P w K mg base CX k f fd ps sp:=⟨F.len,fun A outer s H args us vs Q E hr=>F.run A outer s H args us vs Q E (hr.mono h)⟩
theorem bf.imp{P:Program}{w:World}{K:PySem.W.Frag}{mg:Str->Option Value}{base:Heap}{CX:wY}{k:Nat}{f:Addr}{fd:FuncData}{ps:List Str}{sp sp':Sp}(F:bf P w K mg base CX k f fd ps sp)(h:∀vs H Q E,sp' vs H Q E->sp vs H Q E):bf P w K mg base CX k f fd ps sp':=
 ⟨fun vs H Q E q=>F.len vs H Q E (h _ _ _ _ q),fun A outer s H args us vs Q E hr he hb hv hs=>F.run A outer s H args us vs Q E hr he hb hv (h _ _ _ _ hs)⟩
theorem xm.make{P:Program}{w:World}{K:PySem.W.Frag}{mg:Str->Option Value}{base:Heap}{A:Around}{outer:List Env}{s:Shared}{H:Hp}(e:xm P w K mg base A outer s H)(C:Addr)(us:List Value)(kw:List (Str×Value)):
  xm P w K mg base (A.under (.builtin "type.__call__" ⟨.ref C::us,kw⟩)) outer s H:=⟨by first|exact e.frames|(simpa [Around.under,Code.envs,Code.isFrame,pushEnvs] using e.frames),e.mod,e.bs,e.Dt,e.o_,e.Ny,e.bE,e.bare⟩
section
variable {X:Cx} {ae:List (Addr×Obj)} {σ:St} {H:Hp} {s s':Shared}
theorem aM.NR(I:aM X ae σ H s):xm X.prog X.w X.K X.mg X.base X.A X.stack s H:=
 ⟨I.ok.frames,I.ok.mod,I.bs,aX I.ok.Dt I.sz,I.stack,I.mU,I.bE,I.bare⟩
theorem aM.after(I:aM X ae σ H s)(h:CE X.stack X.prog X.w H s Q u s'):EP X ae σ Q u s':=by
 obtain⟨v,H',os,bare,un,bE,r,q⟩:=h;obtain⟨hh,g,d,t,os'⟩:=s';obtain rfl:os'=s.os:=os;exact⟨v,H',I.call (h':=hh) (g':=g) (d':=d) (t':=t) (ch:=[]) un bE bare (fun b z=>absurd z (by simp)),r,q⟩
end
def pQ(sp:Sp)(rM:List V)(E:XK)(t:TA):TE:=fun σ H Q=>t σ H fun vs H1=>sp (vs++rM) H1 Q E
def xn(C:Addr)(m:Str)(sp:Sp)(rM:List V)(E:XK)(ta:TE)(t:TA):TE:=fun σ H Q=>ta σ H fun x H1=>∃a dx fs,x=.ref a/\H1 a=some (.ins C dx fs)/\fs.lookup m=none/\
 t σ H1 fun vs H2=>sp (x::(vs++rM)) H2 Q E
def Sq(C:Addr)(sp:Sp)(rM:List V)(E:XK)(t:TA):TE:=fun σ H Q=>t σ H fun vs H1=>∀x dx,H1 x=none->H1 dx=none->dx≠x->
 sp (.ref x::(vs++rM)) (upd (upd H1 dx (.own x)) x (.ins C dx [])) (fun v H2=>v=.cf/\Q (.ref x) H2) E
def jX(K:PySem.W.Frag)(fd:FuncData)(ps:List Str)(ds:List Value):Prop:=
 ∀ (s:Shared) (us:List Value),K.In s.heap->(us++ds).length=ps.length->BindsTo s fd ⟨us,[]⟩ (ps.zip (us++ds))
theorem jX.all{K:PySem.W.Frag}{fd:FuncData}{ps:List Str}(h:∀us:List Value,us.length=ps.length->bindArgs fd ⟨us,[]⟩=pure (ps.zip us)):jX K fd ps []:=fun s us _ hl=>by
 rw[i9] at hl |-;exact .of_eq (h us hl)
def kD(CX:wY)(X:Cx)(E:XK):Prop:=∀ (ae:List (Addr×Obj)) (σ:St) (H:Hp) (s:Shared) (e:Value) (s':Shared),aM X ae σ H s->CX X.stack H s E e s'->X.xe e s'
section
variable {X:Cx} {CX:wY} {k:Nat} {f C:Addr} {fd:FuncData} {ps:List Str} {sp:Sp} {rM:List V} {ds:List Value} {E:XK} {x m:Str} {p pos kF:Pos} {e o:Expr} {es:List Expr} {ta:TE} {t:TA}
theorem An(F:bf X.prog X.w X.K X.mg X.base CX k f fd ps sp)(hr:bD k X.A)(hb:jX X.K fd ps ds)(hd:aZ rM ds)(hx:kD CX X E)(I:aM X ae σ H s)(r:aZ vs us)(h:sp (vs++rM) H Q E):wpAny (model X.prog X.w) X.A (call (.ref f) us) (EP X ae σ Q) X.xe s:=by
 have r2:aZ (vs++rM) (us++ds):=r.append hd;have hl:(us++ds).length=ps.length:=by rw[<-r2.length];exact F.len _ _ _ _ h
 refine kq (l9 (F.run X.A X.stack s H ⟨us,[]⟩ (us++ds) (vs++rM) Q E hr I.NR (hb s us I.lK hl) r2 h) fun r s' hq=>?_);cases r with
 |error e=>exact hx ae σ H s e s' I hq
 |ok fl=>
  cases fl with
  |ret u=>exact I.after hq
  |next=>exact False.elim hq
  |brk=>exact False.elim hq
  |cont=>exact False.elim hq
theorem Jx(F:bf X.prog X.w X.K X.mg X.base CX k f fd ps sp)(hr:bD k X.A)(hg:Gl X x)(hm:X.mg x=some (.ref f))(hk:PySem.W.keepIn X.K (.ref f)=true)(hb:jX X.K fd ps ds)(hd:aZ rM ds)(hx:kD CX X E)(ha:PA X (e::es) t)(Ao:(x==("__debug__":Str))=false:=by decide)(he:starEach (e::es) X.env=(false,eval e X.env)::starEach es X.env:=by rfl)(yR:(backTo pos (starEach es X.env)).any (·.1)=false:=by rfl):
  PE X (.Call (.Name x p) (e::es) [] pos) (pQ sp rM E t):=by
 intro ae s σ H Q I h;refine j_ (mW I hg hm ?_ Ao);refine u_ (h₀:=X.base) I.ok.mod.Q3 hk (cJ (ha pos ae s σ H _ I h) fun us s1 ⟨vs,H1,I1,r,q⟩=>⟨I1.lK,?_⟩) he yR;exact An F hr hb hd hx I1 r q
theorem dY(he:PE X o ta)(c:EO X.K C)(hm:Jv X.K C m f)(F:bf X.prog X.w X.K X.mg X.base CX k f fd ps sp)(hr:bD k X.A)(hb:jX X.K fd ps ds)(hd:aZ rM ds)(hx:kD CX X E)(ha:PA X (e::es) t)(mZ:starEach (e::es) X.env=(false,eval e X.env)::starEach es X.env:=by rfl)(yR:(backTo pos (starEach es X.env)).any (·.1)=false:=by rfl)(ht:eval (.Call (.Attribute o m kF) (e::es) [] pos) X.env=(do
   let ov <- eval o X.env
   standAt kF.atName
   let (f,first) <- holding [ov] (getMethod ov m pl)
   callWith pos f first (backTo pos (starEach (e::es) X.env)) (backToKw pos (keywordEach [] X.env))):=by rfl):
  PE X (.Call (.Attribute o m kF) (e::es) [] pos) (xn C m sp rM E ta t):=by
 intro ae s σ H Q I h;refine PySem.W.methodCall_KW (pl:=pl) (cJ (he ae s σ H _ I h) fun u s1 ⟨x,H1,I1,rx,a,dx,fs,ex,ea,l,q⟩=>?_) ht;subst ex;obtain rfl:u=Value.ref a:=rx;refine rL I1 ea c hm l ?_;refine u_ (first:=[.ref a]) (h₀:=X.base) I.ok.mod.Q3 hm.kp (cJ (ha pos ae s1 σ H1 _ I1 q) fun us s2 ⟨vs,H2,I2,r,q2⟩=>⟨I2.lK,?_⟩) mZ yR;exact An (us:=.ref a::us) (vs:=.ref a::vs) F hr hb hd hx I2 (.cons rfl r) q2
theorem FJ{pl:Sem Bool}(he:PE X o ta)(c:EO X.K C)(hm:Jv X.K C m f)(F:bf X.prog X.w X.K X.mg X.base CX k f fd ps sp)(hr:bD k X.A)(hb:jX X.K fd ps ds)(hd:aZ rM ds)(hx:kD CX X E)(ht:eval (.Call (.Attribute o m kF) [] [] pos) X.env=(do
   let ov <- eval o X.env
   standAt kF.atName
   let (f,first) <- holding [ov] (getMethod ov m pl)
   callWith pos f first (backTo pos (starEach [] X.env)) (backToKw pos (keywordEach [] X.env))):=by rfl):
  PE X (.Call (.Attribute o m kF) [] [] pos) (xn C m sp rM E ta gf):=by
 intro ae s σ H Q I h;refine PySem.W.methodCall_KW (pl:=pl) (cJ (he ae s σ H _ I h) fun u s1 ⟨x,H1,I1,rx,a,dx,fs,ex,ea,l,q⟩=>?_) ht;subst ex;obtain rfl:u=Value.ref a:=rx;refine rL I1 ea c hm l ?_;exact PySem.W.callWith_K0 (first:=[.ref a]) I1.lK hm.kp (An (us:=[.ref a]) (vs:=[.ref a]) F hr hb hd hx I1 (.cons rfl .nil) q)
structure Mk(K:PySem.W.Frag)(C f:Addr):Prop where
 makes:PySem.W.makesIn K C=true
 init:PySem.W.findIn K (.ref C) "__init__"=some (some (.ref f))
 fn:PySem.W.isFn K (.ref f)=true
 kp:PySem.W.keepIn K (.ref C)=true
theorem FK(M:Mk X.K C f)(F:bf X.prog X.w X.K X.mg X.base CX k f fd ps sp)(hr:bD (k+1) X.A)(hb:jX X.K fd ps ds)(hd:aZ rM ds)(hx:kD CX X E)(I:aM X ae σ H s)(r:aZ vs us)(h:∀x dx,H x=none->H dx=none->dx≠x->sp (.ref x::(vs++rM)) (upd (upd H dx (.own x)) x (.ins C dx [])) (fun v H2=>v=.cf/\Q (.ref x) H2) E):
  wpAny (model X.prog X.w) X.A (call (.ref C) us) (EP X ae σ Q) X.xe s:=by
 have hq:=h (s.heap.objs.size+1) s.heap.objs.size (I.bE.fresh (rp _)) (I.bE.fresh (aI _)) (bb (j6 _));have I2:=aM.made (C:=C) I;have r2:aZ (V.ref (s.heap.objs.size+1)::(vs++rM)) (Value.ref (s.heap.objs.size+1)::(us++ds)):=.cons rfl (r.append hd);have hl:(Value.ref (s.heap.objs.size+1)::us++ds).length=ps.length:=by
  have e:=r2.length;rw[F.len _ _ _ _ hq] at e;exact e.symm
 refine kq (FH (f:=f) I.lK M.makes M.init (hU.mp M.fn) (l9 (F.run _ X.stack _ _ ⟨Value.ref (s.heap.objs.size+1)::us,[]⟩ (Value.ref (s.heap.objs.size+1)::(us++ds)) _ _ E (hr.make C us [])
  (I2.NR.make C us []) (hb _ (Value.ref (s.heap.objs.size+1)::us) I2.lK hl) r2 hq) fun r s' NS=>?_))
 cases r with
 |error e=>exact hx ae σ _ _ e s' I2 NS
 |ok fl=>
  cases fl with
  |ret u=>
   obtain⟨v,H',I3,rv,ev,q3⟩:=I2.after NS;subst ev;exact⟨rv,⟨V.ref (s.heap.objs.size+1),H',I3,rfl,q3⟩⟩
  |next=>exact False.elim NS
  |brk=>exact False.elim NS
  |cont=>exact False.elim NS
theorem Jy(M:Mk X.K C f)(F:bf X.prog X.w X.K X.mg X.base CX k f fd ps sp)(hr:bD (k+1) X.A)(hg:Gl X x)(hm:X.mg x=some (.ref C))(hb:jX X.K fd ps ds)(hd:aZ rM ds)(hx:kD CX X E)(ha:PA X (e::es) t)(Ao:(x==("__debug__":Str))=false:=by decide)(he:starEach (e::es) X.env=(false,eval e X.env)::starEach es X.env:=by rfl)(yR:(backTo pos (starEach es X.env)).any (·.1)=false:=by rfl):
  PE X (.Call (.Name x p) (e::es) [] pos) (Sq C sp rM E t):=by
 intro ae s σ H Q I h;refine j_ (mW I hg hm ?_ Ao);refine u_ (h₀:=X.base) I.ok.mod.Q3 M.kp (cJ (ha pos ae s σ H _ I h) fun us s1 ⟨vs,H1,I1,r,q⟩=>⟨I1.lK,?_⟩) he yR;exact FK M F hr hb hd hx I1 r q
end
def PK(X:Cx)(FL:List Keyword)(t:TA):Prop:=
 ∀ (pos:Pos) (ae:List (Addr×Obj)) (s:Shared) (σ:St) (H:Hp) (Q:List V->Hp->Prop),aM X ae σ H s->t σ H Q->wpAny (model X.prog X.w) X.A (evalAll ((backToKw pos (keywordEach FL X.env)).map (·.2))) (AP X ae σ Q) X.xe s
section
variable {X:Cx} {CX:wY} {k:Nat} {f C:Addr} {fd:FuncData} {ps ks:List Str} {sp:Sp} {E:XK} {x m:Str} {p pos kF XH:Pos} {e o:Expr} {es:List Expr} {FL:List Keyword} {te ta:TE} {t tk:TA} {nm:Option Str}
theorem Ap:PK X [] gf:=fun _ _ _ _ H Q I h=>wpAny_evalAll_nil ⟨[],H,I,.nil,h⟩
theorem vK(ha:PE X e te)(hr:PK X FL t):PK X (⟨nm,e,XH⟩::FL) (bB te t):=by
 intro pos ae s σ H Q I h;show wpAny _ _ (evalAll ((do let v <- eval e X.env;standAt pos;pure v)::(backToKw pos (keywordEach FL X.env)).map (·.2))) _ _ s;refine wpAny_evalAll_cons (az (cJ (ha ae s σ H _ I h) fun u s1 ⟨x,H1,I1,r1,q1⟩=>az (oW (wpAny_pure ?_))));exact cJ (hr pos ae s1 σ H1 _ I1 q1) fun us s2 ⟨xs,H2,I2,r2,q2⟩=>⟨x::xs,H2,I2,.cons r1 r2,q2⟩
variable {g:List Value->List Value->List Value} {gV:List V->List V->List V}
end
structure aB(N P:List Str)(sc:Scope):Prop where
 kind:sc.kind=.function
 co:sc.isCoroutine=false
 gen:sc.isGenerator=false
 nd:N.Nodup
 pre:N.take P.length=P
 par:∀x∈P,sc.names.lookup x=some .local\/sc.names.lookup x=some .cell
 NU:∀y∈sc.names,y.2≠.free
theorem tZ{kindOf:Str->Option NameKind}{x:Str}:∀ {binds:List (Str×Value)} {m:Str->Option Value},(∀v,(x,v)∉binds)->bindL kindOf binds m x=m x
 |[],_,_=>rfl
 |(n,v)::r,m,h=>by
  unfold bindL;rw[tZ fun w hw=>h w (cm _ hw)];split
  .have:x≠n:=by rintro rfl;exact h v bL
   simp[this]
  .rfl
theorem t7{kindOf:Str->Option NameKind}{x:Str}:∀ {binds:List (Str×Value)} {m:Str->Option Value},(∀v,(x,v)∉binds)->bindC kindOf binds m x=m x
 |[],_,_=>rfl
 |(n,v)::r,m,h=>by
  unfold bindC;rw[t7 fun w hw=>h w (cm _ hw)];split
  .rfl
  .have:x≠n:=by rintro rfl;exact h v bL
   simp[this]
theorem t9{kindOf:Str->Option NameKind}{x:Str}{v:Value}:∀ {P:List Str} {vs:List Value} {i:Nat} {m:Str->Option Value},P.Nodup->P[i]?=some x->vs[i]?=some v->kindOf x=some .local->
  bindL kindOf (P.zip vs) m x=some v
 |[],_,_,_,_,h,_,_=>by simp at h
 |_::_,[],_,_,_,_,h,_=>by simp at h
 |p::P,w::vs,0,m,nd,h1,h2,hk=>by
  simp at h1 h2;subst h1;subst h2;show bindL kindOf ((p,w)::P.zip vs) m p=_;unfold bindL;rw[tZ fun v hv=>(eX.mp nd).1 (oO hv).1,ak hk];simp
 |p::P,w::vs,i+1,m,nd,h1,h2,hk=>by
  show bindL kindOf ((p,w)::P.zip vs) m x=_;unfold bindL;exact t9 (i:=i) (eX.mp nd).2 (by simpa using h1) (by simpa using h2) hk
theorem t_{kindOf:Str->Option NameKind}{x:Str}{v:Value}:∀ {P:List Str} {vs:List Value} {i:Nat} {m:Str->Option Value},P.Nodup->P[i]?=some x->vs[i]?=some v->kindOf x≠some .local->
  bindC kindOf (P.zip vs) m x=some v
 |[],_,_,_,_,h,_,_=>by simp at h
 |_::_,[],_,_,_,_,h,_=>by simp at h
 |p::P,w::vs,0,m,nd,h1,h2,hk=>by
  simp at h1 h2;subst h1;subst h2;show bindC kindOf ((p,w)::P.zip vs) m p=_;unfold bindC;rw[t7 fun v hv=>(eX.mp nd).1 (oO hv).1,aq hk];simp
 |p::P,w::vs,i+1,m,nd,h1,h2,hk=>by
  show bindC kindOf ((p,w)::P.zip vs) m x=_;unfold bindC;exact t_ (i:=i) (eX.mp nd).2 (by simpa using h1) (by simpa using h2) hk
def start(N:List Str)(vs:List V):St:=vs.map some++List.replicate (N.length-vs.length) none
def qb(CX:wY)(P:Program)(w:World)(K:PySem.W.Frag)(mg:Str->Option Value)(base:Heap)(N:List Str)(qual:Str)(scope:Scope)(f:Addr)(cd:Value)(A:Around)(outer:List Env)(s:Shared)(H:Hp)(E:XK):Cx where
 prog:=P
 w:=w
 K:=K
 mg:=mg
 base:=base
 A:=A.deeper (envOfC qual scope s.heap.objs.size f cd)
 N:=N
 s₀:=s
 H₀:=H
 env:=envOfC qual scope s.heap.objs.size f cd
 outer:=outer
 stack:=envOfC qual scope s.heap.objs.size f cd::outer
 ex:=[]
 calm:=true
 fn:=fun _=>true
 pn:=[]
 xe:=fun e s'=>wpAny (model P w) (A.deeper (envOfC qual scope s.heap.objs.size f cd)) (leaving (envOfC qual scope s.heap.objs.size f cd) e) (fun _ IX=>CX outer H s E e IX) (fun e' IX=>CX outer H s E e' IX) s'
theorem xo{sc:Scope}{n:Nat}{x:Str}(h:sc.names.lookup x=some .cell):∃c,(cellsFrom n sc.names []).lookup x=some c:=by
 have q:=PySem.W.cellsFrom_some sc.names n [] (.inl h);exact uT.mp q
theorem DB{CX:wY}{P:Program}{w:World}{K:PySem.W.Frag}{mg:Str->Option Value}{base:Heap}{N ps:List Str}{qual:Str}{scope:Scope}{f:Addr}{cd:Value}{A:Around}{outer:List Env}{s s1:Shared}{H:Hp}{E:XK}{us:List Value}{vs:List V}(S:aB N ps scope)(hd:A.handled=none)(e0:xm P w K mg base A outer s H)(hl:vs.length=ps.length)(r:aZ vs us)(x:InCallC s s.heap.objs.size (bindL (envOfC qual scope s.heap.objs.size f cd).kindOf (ps.zip us) fun _=>none) (cellsFrom (s.heap.objs.size+1) scope.names []) (bindC (envOfC qual scope s.heap.objs.size f cd).kindOf (ps.zip us) fun _=>none) s1):
  aM (qb CX P w K mg base N qual scope f cd A outer s H E) [] (start N vs) H s1:=by
 have yR:ps.length<=N.length:=by have:=congrArg List.length S.pre;rw[oJ] at this;lia
 obtain⟨h1,tk,rfl,hk⟩:=x.done;have Q_:∀b:Addr,b∉(qb CX P w K mg base N qual scope f cd A outer s H E).ex:=fun b z=>absurd (show b∈([]:List Addr) from z) (by simp);refine⟨⟨e0.mod,S.kind,rfl,rfl,aI _,fun y z c h1 h2=>?_,fun y hy=>?_,fun y c _ h=>?_,fun _=>hd,zL e0.frames,.inr ⟨rfl,rfl⟩,fun b z=>absurd z (Q_ b),e0.bs,e0.Dt,fun b _ _=>Q_ b,fun b z=>absurd z (Q_ b),e0.o_,e0.Ny⟩,
  rfl,e0.bare,Un.kept hk,⟨_,x.toInCall.ns,fun i y v h1 h2 h3=>?_⟩,fun y c h=>⟨_,x.cell y c h⟩,e0.bE.fresh (aI _),fun y c h=>?_,fun p hp=>absurd (show p∈([]:List (Addr×Obj)) from hp) (by simp),e0.bE.kept hk,?_⟩
 .exact name_of_addr x.apart (iE h1) (iE h2)
 .have hy:scope.names.lookup y=some .cell\/scope.names.lookup y=some .free:=hy;rcases hy with hy|hy
  .exact xo hy
  .exact absurd rfl (S.NU _ (iE hy))
 .exact kl (x.above y c (iE h))
 .have hi:i<vs.length:=by
   unfold start at h2;by_cases hi:i<vs.length
   .exact hi
   .rw[qP (by simpa using hi)] at h2;rw[uU] at h2;split at h2 <;> cases h2
  have ha:vs[i]?=some v:=by
   unfold start at h2;rw[jM (by simpa using hi),bu] at h2;cases e:vs[i]? with
   |none=>rw[e] at h2;cases h2
   |some a=>rw[e] at h2;cases h2;rfl
  obtain⟨u,hu,rv⟩:=r.get ha;have hp:ps[i]?=some y:=by
   rw[<-S.pre,Fh (by lia)];exact h1
  have ndP:ps.Nodup:=by rw[<-S.pre];exact S.nd.sublist (oG _ _)
  refine⟨u,rv,?_⟩;rcases S.par y (dk hp) with k|k
  .exact .inl ⟨k,t9 ndP hp hu k⟩
  .obtain⟨c,e⟩:=xo (n:=s.heap.objs.size+1) k;refine .inr ⟨.inl k,c,e,?_⟩;have q:=x.cell y c e;rw[t_ ndP hp hu (by show scope.names.lookup y≠_;rw[k];decide)] at q;exact q
 .exact e0.bE.fresh (kl (x.above y c (iE h)))
 .unfold start;show _=N.length;rw[dE,aO,gJ];lia
theorem Mq{CX:wY}{P:Program}{w:World}{K:PySem.W.Frag}{mg:Str->Option Value}{base:Heap}{k:Nat}{f:Addr}{name qual:Str}{params:Arguments}{body:List Stmt}{scope:Scope}{dV kV ni pm dR ct oc:Value}{an od:Option Addr}{wZ:Array (Option Value)}{N ps:List Str}{sp:Sp}(lk:K.lookup f=some ⟨oc,od,.func (PySem.W.fnOf name qual params body scope dV kV ni pm an dR ct),wZ⟩)(tV:PySem.W.codeIn K dR qual=true)(S:aB N ps scope)(len:∀vs H Q E,sp vs H Q E->vs.length=ps.length)(xp:∀ (A:Around) (outer:List Env) (s:Shared) (H:Hp) (vs:List V) (Q:VK) (E:XK),bD k (A.deeper (envOfC qual scope s.heap.objs.size f dR))->sp vs H Q E->
   ∃t,z_ (qb CX P w K mg base N qual scope f dR A outer s H E) body t/\t { nx:=fun _ H'=>Q .cf H',rt:=Q } (start N vs) H):
  bf P w K mg base CX (k+1) f (PySem.W.fnOf name qual params body scope dV kV ni pm an dR ct) ps sp:=by
 refine⟨len,fun A outer s H args us vs Q E hr e0 hb r Aq=>?_⟩;have hl:=len _ _ _ _ Aq;have KX:K.In s.heap:=e0.mod.Q3.keeps fun b o e=>(e0.bs b o e).1;have lim:s.heap.NoLimit:=e0.mod.nolimit.keeps fun b o e=>(e0.bs b o e).1;have Sr:∀y∈ps.zip us,scope.names.lookup y.1=some .local\/(scope.names.lookup y.1=some .cell/\((cellsFrom (s.heap.objs.size+1) scope.names []).lookup y.1).isSome=true):=fun ⟨n,v⟩ hy=>by
  rcases S.par n (oO hy).1 with q|q
  .exact .inl q
  .exact .inr ⟨q,PySem.W.cellsFrom_some _ _ _ (.inl q)⟩
 refine codeAny_call_function hr.depth (KX _ _ lk) rfl S.co S.gen rfl (PySem.W.codeRec_of KX tV) (hb _ _ _ _ ?_);refine wpAny_newFunctionEnv_cells S.kind Sr fun env he s1 x=>?_;subst he;refine⟨lim.keeps x.toInCall.keep,codeAny_func ?_⟩;obtain⟨t,ht,hq⟩:=xp A outer s H vs Q E (hr.deeper _) Aq;have I:aM (qb CX P w K mg base N qual scope f dR A outer s H E) [] (start N vs) H s1:=DB S hr.hd e0 hl r x;refine gn (ht [] s1 (start N vs) H _ I hq) (fun fl s' hs=>?_) fun e s' hs=>hs;have dS:∀ {σ':St} {H':Hp} {v:V} {u:Value},aM (qb CX P w K mg base N qual scope f dR A outer s H E) [] σ' H' s'->bA v u->Q v H'->CE outer P w H s Q u s':=
  fun {σ' H' v u} J rv q=>⟨v,H',J.os,J.bare,J.base,J.bE,rv,q⟩
 cases fl with
 |ret u=>
  obtain⟨v,σ',H',J,rv,q⟩:=hs;exact dS J rv q
 |next=>
  obtain⟨σ',H',J,q⟩:=hs;exact dS (v:=V.cf) (u:=Value.none) J rfl q
 |brk=>
  obtain⟨_,_,_,q⟩:=hs;exact False.elim q
 |cont=>
  obtain⟨_,_,_,q⟩:=hs;exact False.elim q
section
variable {X:Cx} {x:Str} {p pos:Pos} {e:Expr} {es:List Expr} {t:TA} {id T:String} {r:List V->Hp->VK->Prop}
def NW(r:List V->Hp->VK->Prop)(t:TA):TE:=fun σ H Q=>t σ H fun vs H1=>r vs H1 Q
theorem aN(hc:fU X (.builtin id) r)(hg:Gl X x)(hm:X.mg x=none)(hv:bootBuiltins x=some (.builtin id))(ha:PA X (e::es) t)(hn:x≠"__name__":=by decide)(Ao:(x==("__debug__":Str))=false:=by decide)(he:starEach (e::es) X.env=(false,eval e X.env)::starEach es X.env:=by rfl)(yR:(backTo pos (starEach es X.env)).any (·.1)=false:=by rfl):PE X (.Call (.Name x p) (e::es) [] pos) (NW r t):=by
 intro ae s σ H Q I h;refine j_ (jv I hg hm hv ?_ hn Ao);exact PyProof.Rows.callWith_builtin1 (cJ (ha pos ae s σ H _ I h) fun us s1 ⟨vs,H1,I1,r1,q1⟩=>hc ae s1 σ H1 vs us Q I1 r1 q1) he yR
theorem bW(hc:fU X (.type T) r)(hg:Gl X x)(hm:X.mg x=none)(hv:bootBuiltins x=some (.type T))(ha:PA X (e::es) t)(hn:x≠"__name__":=by decide)(Ao:(x==("__debug__":Str))=false:=by decide)(he:starEach (e::es) X.env=(false,eval e X.env)::starEach es X.env:=by rfl)(yR:(backTo pos (starEach es X.env)).any (·.1)=false:=by rfl):PE X (.Call (.Name x p) (e::es) [] pos) (NW r t):=by
 intro ae s σ H Q I h;refine j_ (jv I hg hm hv ?_ hn Ao);exact tS (cJ (ha pos ae s σ H _ I h) fun us s1 ⟨vs,H1,I1,r1,q1⟩=>hc ae s1 σ H1 vs us Q I1 r1 q1) he yR
end
end L2
namespace HT
open PySem PyProof.Rows
section
open PySem.SeqAt
open PySem.AutoSeq1 (wpAny_loadPart')
open PySem.MeetsSeq PySem.MeetsSeq2 PySem.MeetsSeq3
end
section
variable {prog:Program} {w:World} {A:Around} {E:Value->Shared->Prop} {s:Shared}
def w4(n d:Nat):Option Int->Nat
 |none=>d
 |some v=>if v<0 then (v+(n:Int)).toNat else min v.toNat n
end
end HT
namespace L2
open PySem PySem.Spec PyProof.Rows
abbrev TO:=St->Hp->(Option Int->Hp->Prop)->Prop
def PO(X:Cx)(e:Option Expr)(t:TO):Prop:=
 ∀ (ae:List (Addr×Obj)) (s:Shared) (σ:St) (H:Hp) (Q:Option Int->Hp->Prop),aM X ae σ H s->t σ H Q->
  wpAny (model X.prog X.w) X.A (evalPart e X.env) (fun u s'=>∃o H',aM X ae σ H' s'/\IsPart u o/\Q o H') X.xe s
def Jz:TO:=fun _ H Q=>Q none H
def Ss(t:TE):TO:=fun σ H Q=>t σ H fun x H1=>∃i,x=.int i/\Q (some i) H1
section
variable {X:Cx} {e:Expr} {te:TE} {lo hi:Option Expr} {tl th:TO} {pos p2:Pos}
theorem JA:PO X none Jz:=by
 intro ae s σ H Q I h;rw[evalPart_none];exact wpAny_pure ⟨none,H,I,.none,h⟩
theorem JB(h:PE X e te):PO X (some e) (Ss te):=by
 intro ae s σ H Q I hw;rw[evalPart_some];refine cJ (h ae s σ H _ I hw) fun u s1 ⟨x,H1,I1,r1,q1⟩=>?_;obtain⟨i,rfl,q⟩:=q1;obtain⟨t,rfl⟩:=r1;exact⟨some i,H1,I1,.int i t,q⟩
def SlR(X:Cx)(r:V->Option Int->Option Int->Hp->VK->Prop):Prop:=
 ∀ (ae:List (Addr×Obj)) (s:Shared) (σ:St) (H:Hp) (x:V) (v vl vu:Value) (lo hi:Option Int) (sl:Addr) (Q:VK),aM X ae σ H s->bA x v->s.heap.IsSliceOf sl vl vu .none->IsPart vl lo->IsPart vu hi->r x lo hi H Q->
  ∃T id,typeLookup (.type T) "__getitem__"=pure (some (.builtin id))/\s.TypeIs v T/\wpAny (model X.prog X.w) X.A (getItem v (.ref sl)) (EP X ae σ Q) X.xe s
def tSl(r:V->Option Int->Option Int->Hp->VK->Prop)(te:TE)(tl th:TO):TE:=fun σ H Q=>te σ H fun x H1=>tl σ H1 fun l H2=>th σ H2 fun u H3=>r x l u H3 Q
theorem FM(hr:SlR X r)(he:PE X e te)(hl:PO X lo tl)(hu:PO X hi th):PE X (.Subscript e (.Slice lo hi none p2) pos) (tSl r te tl th):=by
 intro ae s σ H Q I h;refine Subscript_ (cJ (he ae s σ H _ I h) fun v s1 ⟨x,H1,I1,r1,q1⟩=>?_);refine wpAny_Slice (cJ (hl ae s1 σ H1 _ I1 q1) fun vl s2 ⟨l,H2,I2,pl,q2⟩=>cJ (hu ae s2 σ H2 _ I2 q2) fun vu s3 ⟨u,H3,I3,pu,q3⟩=>?_);rw[evalPart_none];refine wpAny_pure ?_;have I4:aM X ae σ H3 { s3 with heap:=s3.heap.push { cls:=.type "slice",data:=.fields #[vl,vu,.none] } }:=I3.kept (t':=s3.toks) fun b ob q=>bU _ q;obtain⟨T,id,hT,ht,hg⟩:=hr ae { s3 with heap:=s3.heap.push { cls:=.type "slice",data:=.fields #[vl,vu,.none] } } σ H3 x v vl vu l u s3.heap.objs.size Q I4 r1 (Heap.IsSliceOf.new ..) pl pu q3;show wpAny (model X.prog X.w) X.A (subscriptTail e (.Slice lo hi none p2) v (.ref s3.heap.objs.size)) (EP X ae σ Q) X.xe { s3 with heap:=s3.heap.push { cls:=.type "slice",data:=.fields #[vl,vu,.none] } };exact tail_any (ops:=[.ref s3.heap.objs.size,v]) ht hT hg (by with_unfolding_all rfl)
def DC(xs:List V)(lo hi:Option Int):List V:=(xs.drop (HT.w4 xs.length 0 lo)).take (HT.w4 xs.length xs.length hi-HT.w4 xs.length 0 lo)
theorem xq(xs:List V)(lo hi:Option Int):(DC xs lo hi).length<=xs.length:=by
 unfold DC;rw[oJ,List.length_drop];lia
end
def EQ(n:Nat)(i:Int):Option Nat:=if 0<=i then (if i<n then some i.toNat else none) else if -(n:Int)<=i then some (i+n).toNat else none
def Ar{α:Type}(xs:List α)(i:Int):Option α:=(EQ xs.length i).bind fun j=>xs[j]?
theorem vL(h:EQ n i=some j):seqIndex? i n=some j/\j<n/\-(n:Int)<=i/\i<n:=by
 unfold EQ at h;by_cases h0:0<=i
 .rw[ak h0] at h;by_cases h1:i<n
  .rw[ak h1] at h;have e:i.toNat=j:=bh h;exact⟨by rw[seqIndex_of h0 h1,e],by lia,by lia,h1⟩
  .rw[aq h1] at h;cases h
 .rw[aq h0] at h;by_cases h1:-(n:Int)<=i
  .rw[ak h1] at h;have e:(i+n).toNat=j:=bh h;exact⟨by rw[seqIndex_neg (by lia) h1,e],by lia,h1,by lia⟩
  .rw[aq h1] at h;cases h
theorem BR(h:Ar xs i=some v):∃j,seqIndex? i xs.length=some j/\xs[j]?=some v/\j<xs.length/\-(xs.length:Int)<=i/\i<xs.length:=by
 unfold Ar at h;cases e:EQ xs.length i with
 |none=>rw[e] at h;cases h
 |some j=>
  rw[e] at h;obtain⟨h1,h2,h3,h4⟩:=vL e;exact⟨j,h1,h,h2,h3,h4⟩
theorem aH{α:Type}{xs:List α}{j:Nat}{v:α}(h:xs[j]?=some v):Ar xs (j:Int)=some v:=by
 have hj:j<xs.length:=(cu.mp h).1;have e:EQ xs.length (j:Int)=some j:=by
  unfold EQ;rw[ak (by lia),ak (by lia)];simp
 unfold Ar;rw[e];exact h
theorem xr(xs:List α)(v:α):Ar (xs++[v]) (-1)=some v:=by
 have hl:(xs++[v]).length=xs.length+1:=by simp
 have e:EQ (xs++[v]).length (-1)=some xs.length:=by
  unfold EQ;rw[hl,aq (by decide),ak (by lia)];congr 1;lia
 unfold Ar;rw[e];show (xs++[v])[xs.length]?=some v;simp
def JC(b:Expr):Prop:=∀o i,subscripted b false o i=operate [o,i] (getItem o i)
def XI(X:Cx)(r:R2):Prop:=
 ∀ (value slice:Expr) (ae:List (Addr×Obj)) (s:Shared) (σ:St) (H:Hp) (x y:V) (v u:Value) (Q:VK),aM X ae σ H s->bA x v->bA y u->r x y H Q->
  subscripted slice false v u=operate [v,u] (getItem v u)->wpAny (model X.prog X.w) X.A (subscriptTail value slice v u) (EP X ae σ Q) X.xe s
def Wr(X:Cx)(id:String)(r:V->List V->Hp->VK->Prop):Prop:=
 ∀ (ae:List (Addr×Obj)) (s:Shared) (σ:St) (H:Hp) (x:V) (xs:List V) (v:Value) (us:List Value) (Q:VK),aM X ae σ H s->bA x v->aZ xs us->r x xs H Q->
  wpAny (model X.prog X.w) X.A (call (.builtin id) (v::us)) (EP X ae σ Q) X.xe s
section
variable {X:Cx} {a b:Expr} {ta tb:TE} {pos:Pos}
theorem a7(hr:XI X r)(ha:PE X a ta)(hb:PE X b tb)(hs:JC b):PE X (.Subscript a b pos) (ja r ta tb):=by
 intro ae s σ H Q I h;exact Subscript_ (NM ha hb I h fun v u s2 x y H2 I2 rx ry q=>hr a b ae s2 σ H2 x y v u Q I2 rx ry q (hs _ _))
def xt(K:PySem.W.Frag):R2:=fun x y H Q=>∃p xs i v,x=.ref p/\y=.int i/\a8 K H p xs/\Ar xs i=some v/\Q v H
def FO(K:PySem.W.Frag):R2:=fun x y H Q=>∃p xs i v,x=.ref p/\y=.int i/\bJ K H p xs/\Ar xs i=some v/\Q v H
theorem aV:XI X (xt X.K):=by
 intro value slice ae s σ H x y v u Q I rx ry h hs;obtain⟨p,xs,i,z,rfl,rfl,hq,he,q⟩:=h;cases rx;obtain⟨t,rfl⟩:=ry;obtain⟨its,r,pl,hz⟩:=I.list hq;obtain⟨j,h1,h2,h3,h4,h5⟩:=BR he;obtain⟨w,ew,qa⟩:=r.get h2;have hl:=r.length;have hn:=rK;have dS:EP X ae σ Q w s:=⟨z,H,I,qa,q⟩
 by_cases h0:0<=i
 .have hj:i.toNat=j:=by
   rw[seqIndex_of h0 h5] at h1;exact bh h1
  exact item_listR pl.isList h0 (by lia) (by rw[hj];simpa using ew) dS hs
 .have hj:(i+(its.toArray.size:Int)).toNat=j:=by
   rw[seqIndex_neg (by lia) h4] at h1;rw[cB,<-hl];exact bh h1
  exact subscriptTail_builtinR (x:=w) pl.isList.typeIs slot_list_getitem.lookup
   (wpAny_getItem_list_neg (Q:=fun r s'=>r=w/\EP X ae σ Q r s') pl.isList (by lia) (by rw[cB] <;> lia) (by lia) (by rw[hj];simpa using ew) ⟨rfl,dS⟩) hs
theorem df:XI X (FO X.K):=by
 intro value slice ae s σ H x y v u Q I rx ry h hs;obtain⟨p,xs,i,z,rfl,rfl,hq,he,q⟩:=h;cases rx;obtain⟨t,rfl⟩:=ry;obtain⟨its,r,pl,hz⟩:=I.tuple hq;obtain⟨j,h1,h2,h3,h4,h5⟩:=BR he;obtain⟨w,ew,qa⟩:=r.get h2;have hl:=r.length;have hn:=rK;have dS:EP X ae σ Q w s:=⟨z,H,I,qa,q⟩
 exact subscriptTail_builtinR (x:=w) pl.typeIs slot_tuple_getitem.lookup
  (getItem_tuple (j:=j) (Q:=fun r s'=>r=w/\EP X ae σ Q r s') pl (by lia) (by lia) (by rw[cB,<-hl];exact h1) (by simpa using ew) ⟨rfl,dS⟩) hs
theorem As(its:List Value)(n j:Nat)(u:Value):Obj.mapSeq (·.setIfInBounds j u) { cls:=.type "list",data:=.seq its.toArray n }={ cls:=.type "list",data:=.seq (its.set j u).toArray n }:=by
 simp[Obj.mapSeq]
theorem aM.lst(I:aM X ae σ H s)(h:H p=some (.lst xs)):
  ∃ (its:List Value) (n:Nat),aZ xs its/\s.heap.get? p=some { cls:=.type "list",data:=.seq its.toArray n }/\xs.length<=sizeLine:=by
 obtain⟨z,its,n,r,e⟩:=I.bE p _ h;exact⟨its,n,r,e,z⟩
theorem aM.NX{ae:List (Addr×Obj)}{σ:St}{H:Hp}{s:Shared}{p:Addr}{xs ys:List V}{its its':List Value}{n n':Nat}{f:Obj->Obj}(I:aM X ae σ H s)(h:H p=some (.lst xs))(ho:s.heap.get? p=some { cls:=.type "list",data:=.seq its.toArray n })(hf:f { cls:=.type "list",data:=.seq its.toArray n }={ cls:=.type "list",data:=.seq its'.toArray n' })(r:aZ ys its')(hz:ys.length<=sizeLine)(t:Nat):
  aM X ae σ (upd H p (.lst ys)) { s with heap:=s.heap.update p f,toks:=t }:=by
 have e:(s.heap.update p f).get? p=some { cls:=.type "list",data:=.seq its'.toArray n' }:=by
  rw[zE f ho (by rw[hf] <;> rfl),hf]
 refine I.write (x:=p) (e:=p) (by rw[h];trivial) (.inl rfl) (fun b u hb q=>(zB _ _ (il hb)).trans q) ⟨_,e⟩ ?_;exact⟨hz,its',n',r,e⟩
def Su:V->V->V->Hp->(Hp->Prop)->Prop:=fun o i v H Q=>∃p xs k j,o=.ref p/\i=.int k/\H p=some (.lst xs)/\EQ xs.length k=some j/\Q (upd H p (.lst (xs.set j v)))
theorem fW:Sc X Su:=by
 intro ae s σ H o i v ov iv u Q I ro ri rv h;obtain⟨p,xs,k,j,rfl,rfl,hp,hj,q⟩:=h;cases ro;obtain⟨t,rfl⟩:=ri;obtain⟨its,n,r,ho,hz⟩:=I.lst hp;obtain⟨h1,h2,h3,h4⟩:=vL hj;have hl:=r.length;have hn:=rK;have I':aM X ae σ (upd H p (.lst (xs.set j v))) { s with heap:=s.heap.update p (Obj.mapSeq (·.setIfInBounds j u)) }:=
  I.NX hp ho (As its n j u) (r.set rv j) (by rw[g9];exact hz) s.toks
 by_cases h0:0<=k
 .have hk:k.toNat=j:=by
   rw[seqIndex_of h0 h4] at h1;exact bh h1
  exact PySem.W.ki_setAt ho h0 (by lia) (by rw[cB,<-hl];exact h4) (by rw[hk];exact⟨_,I',q⟩)
 .have hk:(k+(its.toArray.size:Int)).toNat=j:=by
   rw[seqIndex_neg (by lia) h3] at h1;rw[cB,<-hl];exact bh h1
  exact PySem.W.ki_setBack ho (by lia) (by rw[cB,<-hl];exact h3) (by lia) (by rw[hk];exact⟨_,I',q⟩)
theorem vM(lo hi:Option Int)(n:Nat):(sliceBounds lo hi none n).1=((HT.w4 n 0 lo:Nat):Int)/\(sliceBounds lo hi none n).2.1=((HT.w4 n n hi:Nat):Int)/\(sliceBounds lo hi none n).2.2=1:=by
 refine⟨?_,?_,rfl⟩
 .cases lo with
  |none=>simp[sliceBounds,HT.w4]
  |some i=>
   simp only[sliceBounds,HT.w4,Option.getD_none,show (1:Int) > 0 by decide,js];by_cases h:i<0
   .simp only[h,js] <;> lia
   .simp only[h,fQ] <;> lia
 .cases hi with
  |none=>simp[sliceBounds,HT.w4]
  |some i=>
   simp only[sliceBounds,HT.w4,Option.getD_none,show (1:Int) > 0 by decide,js];by_cases h:i<0
   .simp only[h,js] <;> lia
   .simp only[h,fQ] <;> lia
theorem tw (its : List Value) (lo hi : Option Int) : slicePick its.toArray lo hi none = ((its.drop (HT.w4 its.length 0 lo)).take (HT.w4 its.length its.length hi - HT.w4 its.length 0 lo)).toArray:=by
 obtain ⟨h1,h2,h3⟩:=vM lo hi its.toArray.size;unfold slicePick;rw [h1,h2,h3];simp only [sliceRange_one,pick_run,cB] <;> rfl
def XJ(K:PySem.W.Frag):V->Option Int->Option Int->Hp->VK->Prop:=fun x lo hi H Q=>∃a xs,x=.ref a/\a8 K H a xs/\∀p,H p=none->Q (.ref p) (upd H p (.lst (DC xs lo hi)))
theorem JD:SlR X (XJ X.K):=by
 intro ae s σ H x v vl vu lo hi sl Q I rx hs pl pu h;obtain⟨a,xs,rfl,hx,q⟩:=h;cases rx;obtain⟨its,r,ht,hz⟩:=I.list hx;have dO:=r.length;refine⟨"list",_,slot_list_getitem.lookup,ht.isList.typeIs,?_⟩;refine wpAny_getItem_list_slice ht.isList hs pl pu .none (by simp) ?_ (by rw[cB] <;> lia);rw[tw,<-dO];refine⟨.ref s.heap.objs.size,_,I.laid (t':=s.toks) (o:=.lst (DC xs lo hi)) (fun b ob q=>bU _ q) (aI _) ?_,rfl,q _ (I.bE.fresh (aI _))⟩;exact⟨aX (xq xs lo hi) hz,_,0,(r.drop (HT.w4 xs.length 0 lo)).take (HT.w4 xs.length xs.length hi-HT.w4 xs.length 0 lo),cY _ rfl⟩
def eZ:V->Bool
 |.cf=>true
 |.bl _=>true
 |.int _=>true
 |.str _=>true
 |_=>false
def nq:V->V->Bool
 |.cf,.cf=>true
 |.bl a,.bl b=>a==b
 |.bl a,.int b=>(if a then 1 else 0)==b
 |.int a,.bl b=>a==(if b then 1 else 0)
 |.int a,.int b=>a==b
 |.str a,.str b=>a==b
 |_,_=>false
theorem FP(ry:bA y u)(rx:bA x v)(fy:eZ y=true)(fx:eZ x=true):SeqAt.EqAt A s u v (nq y x):=by
 cases y with
 |cf=>
  cases ry;cases x with
  |cf=>cases rx;exact SeqAt.EqAt.same _
  |bl b=>cases rx;exact SeqAt.EqAt.none_bool b
  |int b=>obtain⟨t,rfl⟩:=rx;exact SeqAt.EqAt.none_int b t
  |str b=>obtain⟨t,rfl⟩:=rx;exact SeqAt.EqAt.none_str b t
  |_=>exact absurd (show false=true from fx) cP
 |bl a=>
  cases ry;cases x with
  |cf=>cases rx;exact SeqAt.EqAt.bool_none a
  |bl b=>cases rx;exact SeqAt.EqAt.bool_bool a b
  |int b=>obtain⟨t,rfl⟩:=rx;exact SeqAt.EqAt.bool_int a b t
  |str b=>obtain⟨t,rfl⟩:=rx;exact SeqAt.EqAt.bool_str a b t
  |_=>exact absurd (show false=true from fx) cP
 |int a=>
  obtain⟨t',rfl⟩:=ry;cases x with
  |cf=>cases rx;exact SeqAt.EqAt.int_none a t'
  |bl b=>cases rx;exact SeqAt.EqAt.int_bool a t' b
  |int b=>obtain⟨t,rfl⟩:=rx;exact SeqAt.EqAt.int_int a t' b t
  |str b=>obtain⟨t,rfl⟩:=rx;exact SeqAt.EqAt.int_str a t' b t
  |_=>exact absurd (show false=true from fx) cP
 |str a=>
  obtain⟨t',rfl⟩:=ry;cases x with
  |cf=>cases rx;exact SeqAt.EqAt.str_none a t'
  |bl b=>cases rx;exact SeqAt.EqAt.str_bool a t' b
  |int b=>obtain⟨t,rfl⟩:=rx;exact SeqAt.EqAt.str_int a t' b t
  |str b=>obtain⟨t,rfl⟩:=rx;exact SeqAt.EqAt.str_str a t' b t
  |_=>exact absurd (show false=true from fx) cP
 |_=>exact absurd (show false=true from fy) cP
def ua(x:V)(u:Value):Bool:=match u with
 |.none=>nq .cf x
 |.bool b=>nq (.bl b) x
 |.int i _=>nq (.int i) x
 |.str z _=>nq (.str z) x
 |_=>false
theorem FQ(r:bA y u)(f:eZ y=true):ua x u=nq y x:=by
 cases y with
 |cf=>cases r;rfl
 |bl b=>cases r;rfl
 |int i=>obtain⟨t,rfl⟩:=r;rfl
 |str z=>obtain⟨t,rfl⟩:=r;rfl
 |_=>exact absurd (show false=true from f) cP
theorem lh:∀ {xs:List V} {us:List Value},aZ xs us->xs.all eZ=true->us.any (ua x)=xs.any fun y=>nq y x
 |_,_,.nil,_=>rfl
 |y::xs,u::us,.cons r t,f=>by
  rw[oT,fL] at f;rw[iM,iM,FQ r f.1,lh t f.2]
theorem ip(rx:bA x v)(fx:eZ x=true):∀ {xs:List V} {us:List Value},aZ xs us->xs.all eZ=true->∀u∈us,SeqAt.EqAt A s u v (ua x u)
 |_,_,.nil,_=>fun u hu=>by cases hu
 |y::xs,u::us,.cons r t,f=>fun u' hu=>by
  rw[oT,fL] at f;rcases a_.mp hu with rfl|hu
  .rw[FQ r f.1];exact FP r rx f.1 fx
  .exact ip rx fx t f.2 u' hu
def BS(x:V)(xs:List V):Bool:=xs.any fun y=>nq y x
def Ws(K:PySem.W.Frag)(Mr:Bool):R2:=fun x y H Q=>∃p xs,y=.ref p/\(a8 K H p xs\/bJ K H p xs)/\eZ x=true/\xs.all eZ=true/\Q (.bl (if Mr then !BS x xs else BS x xs)) H
theorem ub:m9 X (compareOp .In) (Ws X.K false):=by
 intro ae s σ H x y v u Q I rx ry h;obtain⟨p,xs,rfl,hq,fx,fs,q⟩:=h;cases ry;rcases hq with hq|hq
 .obtain⟨its,r,pl,hz⟩:=I.list hq;refine SeqAt.in_listAt (ua x) pl.isList (fun w hw=>ip rx fx r fs w (by simpa using hw)) ⟨.bl _,H,I,rfl,?_⟩;rw[show its.toArray.any (ua x)=its.any (ua x) by simp,lh r fs];exact q
 .obtain⟨its,r,pl,hz⟩:=I.tuple hq;refine SeqAt.in_tupleAt (ua x) pl (fun w hw=>ip rx fx r fs w (by simpa using hw)) ⟨.bl _,H,I,rfl,?_⟩;rw[show its.toArray.any (ua x)=its.any (ua x) by simp,lh r fs];exact q
theorem ny:m9 X (compareOp .NotIn) (Ws X.K true):=by
 intro ae s σ H x y v u Q I rx ry h;obtain⟨p,xs,rfl,hq,fx,fs,q⟩:=h;cases ry;rcases hq with hq|hq
 .obtain⟨its,r,pl,hz⟩:=I.list hq;refine SeqAt.notIn_listAt (ua x) pl.isList (fun w hw=>ip rx fx r fs w (by simpa using hw)) ⟨.bl _,H,I,rfl,?_⟩;rw[show its.toArray.any (ua x)=its.any (ua x) by simp,lh r fs];exact q
 .obtain⟨its,r,pl,hz⟩:=I.tuple hq;refine SeqAt.notIn_tupleAt (ua x) pl (fun w hw=>ip rx fx r fs w (by simpa using hw)) ⟨.bl _,H,I,rfl,?_⟩;rw[show its.toArray.any (ua x)=its.any (ua x) by simp,lh r fs];exact q
theorem aQ:fU X (.builtin "len") (fun xs H Q=>∃p ys,xs=[.ref p]/\(a8 X.K H p ys\/bJ X.K H p ys)/\Q (.int ys.length) H):=by
 intro ae s σ H xs us Q I r h;obtain⟨p,ys,rfl,hq,q⟩:=h;obtain⟨u,rfl,rx⟩:=FE r;cases rx;have hn:=rK;rcases hq with hq|hq
 .obtain⟨its,r',pl,hz⟩:=I.list hq;have dO:=r'.length;exact Calls.call_len_list pl.isList (by simp only[cB] <;> lia) ⟨.int ys.length,H,I.tok _,⟨s.toks+1,by rw[cB,dO]⟩,q⟩
 .obtain⟨its,r',pl,hz⟩:=I.tuple hq;have dO:=r'.length;exact len_tuple pl (by simp only[cB] <;> lia) ⟨.int ys.length,H,I.tok _,⟨s.toks+1,by rw[cB,dO]⟩,q⟩
theorem jB:fU X (.type "list") (fun xs H Q=>∃p ys,xs=[.ref p]/\(a8 X.K H p ys\/bJ X.K H p ys)/\∀l,H l=none->Q (.ref l) (upd H l (.lst ys))):=by
 intro ae s σ H xs us Q I r h;obtain⟨p,ys,rfl,hq,q⟩:=h;obtain⟨u,rfl,rx⟩:=FE r;cases rx;have dS:∀ (its:List Value),aZ ys its->ys.length<=sizeLine->∀ (h':Heap) (c':Nat),(∀b o',s.heap.get? b=some o'->h'.get? b=some o')->
   h'.get? s.heap.objs.size=some { cls:=.type "list",dict:=none,data:=.seq its.toArray c',slots:=#[] }->EP X ae σ Q (.ref s.heap.objs.size) { s with heap:=h' }:=fun its r' hz h' c' kp e=>
  ⟨.ref s.heap.objs.size,_,I.laid (t':=s.toks) kp (aI _) (show cg X.prog X.w _ h' _ (.lst ys) from ⟨hz,its,c',r',e⟩),rfl,q _ (I.bE.fresh (aI _))⟩
 rcases hq with hq|hq
 .obtain⟨its,r',pl,hz⟩:=I.list hq;have dO:=r'.length;obtain⟨o,ho,hc,n,hd⟩:=pl.isList;exact call_list_seq p (.inl rfl) ho hc hd (fun h' c' kp e=>dS its r' hz h' c' kp e) (by simp only[cB] <;> lia)
 .obtain⟨its,r',pl,hz⟩:=I.tuple hq;have dO:=r'.length;obtain⟨o,ho,hc,n,hd⟩:=pl;exact call_list_seq p (.inr rfl) ho hc hd (fun h' c' kp e=>dS its r' hz h' c' kp e) (by simp only[cB] <;> lia)
theorem et:fU X (.type "tuple") (fun xs H Q=>∃p ys,xs=[.ref p]/\((a8 X.K H p ys/\∀l,H l=none->Q (.ref l) (upd H l (.tup ys)))\/(bJ X.K H p ys/\Q (.ref p) H))):=by
 intro ae s σ H xs us Q I r h;obtain⟨p,ys,rfl,h⟩:=h;obtain⟨u,rfl,rx⟩:=FE r;cases rx;rcases h with ⟨hq,q⟩|⟨hq,q⟩
 .obtain⟨its,r',pl,hz⟩:=I.list hq;have dO:=r'.length;refine call_tuple_list pl.isList (fun h' kp=>?_) (by simp only[cB] <;> lia);have I1:aM X ae σ H { s with heap:=h' }:=I.kept (t':=s.toks) kp;have I2:aM X ae σ (upd H h'.objs.size (.tup ys)) { s with heap:=h'.push { cls:=.type "tuple",data:=.seq its.toArray } }:=
   I1.laid (t':=s.toks) (fun b o e=>bU _ e) (aI _) (show cg X.prog X.w _ _ _ (.tup ys) from ⟨hz,its,r',o5.new _ _⟩)
  exact⟨.ref h'.objs.size,_,I2,rfl,q _ (I1.bE.fresh (aI _))⟩
 .obtain⟨its,r',pl,hz⟩:=I.tuple hq;exact call_tuple_same pl ⟨.ref p,H,I,rfl,q⟩
def XM(K:PySem.W.Frag)(T:String)(x:V)(H:Hp):Prop:=match x with
 |.str _=>T="str"
 |.int _=>T="int"
 |.ref p=>(T="list"/\∃xs,a8 K H p xs)\/(T="tuple"/\∃o,K.lookup p=some o/\o.cls=.type "tuple"/\o.dict=none)\/
   (T="dict"/\((∃ba,H p=some (.dK ba))\/∃ba,H p=some (.dT ba)))\/(T="set"/\∃S n,H p=some (.set S n))
 |_=>False
theorem FR(I:aM X ae σ H s)(r:bA x v)(ty:XM X.K T x H):
  s.TypeIs v T/\∀a,v=.ref a->∃ob,s.heap.get? a=some ob/\ob.dict=none:=by
 cases x with
 |str z=>
  obtain⟨t,rfl⟩:=r;cases (show T="str" from ty);exact⟨typeIs_str s z t,fun _ e=>nomatch e⟩
 |int i=>
  obtain⟨t,rfl⟩:=r;cases (show T="int" from ty);exact⟨typeIs_int s i t,fun _ e=>nomatch e⟩
 |ref p=>
  cases r;rcases ty with ⟨rfl,xs,hq⟩|⟨rfl,o,hk,hc,hd⟩|⟨rfl,hk⟩|⟨rfl,S,n,hk⟩
  .obtain⟨its,_,pl,_⟩:=I.list hq;refine⟨pl.isList.typeIs,fun a e=>?_⟩;cases e;obtain⟨o,n,e,c,hd,_⟩:=pl;exact⟨o,e,hd⟩
  .refine⟨⟨o,I.lK p o hk,hc⟩,fun a e=>?_⟩;cases e;exact⟨o,I.lK _ o hk,hd⟩
  .have z:∃o,s.heap.get? p=some o/\o.ExactDict:=by
    rcases hk with ⟨ba,hk⟩|⟨ba,hk⟩
    .obtain⟨_,_,_,_,o,_,_,e,ex,_⟩:=I.bE p _ hk;exact⟨o,e,ex⟩
    .obtain⟨_,_,_,_,o,_,_,e,ex,_⟩:=I.bE p _ hk;exact⟨o,e,ex⟩
   obtain⟨o,e,ex⟩:=z;refine⟨⟨o,e,ex.1⟩,fun a e2=>?_⟩;cases e2;exact⟨o,e,ex.2.1⟩
  .obtain⟨o,_,_,_,e,ex,_⟩:=I.bE p _ hk;refine⟨⟨o,e,ex.1⟩,fun a e2=>?_⟩;cases e2;exact⟨o,e,ex.2.1⟩
 |_=>exact False.elim ty
def Sv(K:PySem.W.Frag)(T:String)(r:V->List V->Hp->VK->Prop)(to:TE):TE:=fun σ H Q=>to σ H fun x H1=>XM K T x H1/\r x [] H1 Q
def XN(K:PySem.W.Frag)(T:String)(r:V->List V->Hp->VK->Prop)(to:TE)(t:TA):TE:=fun σ H Q=>to σ H fun x H1=>XM K T x H1/\t σ H1 fun xs H2=>r x xs H2 Q
variable {o e:Expr} {es:List Expr} {to:TE} {t:TA} {name:Str} {kF jC:Pos} {T id:String} {r:V->List V->Hp->VK->Prop}
theorem NY(pa:PlainAttrs T)(slot:Slot T name id)(Sw:typeOf (.builtin id)=pure (.type "method_descriptor"))(hm:Wr X id r)(ho:PE X o to)(xu:attributeBase o name X.env (eval o X.env)=eval o X.env:=by rfl)(xv:(kF.endLine==jC.line)=true:=by rfl):PE X (.Call (.Attribute o name kF) [] [] jC) (Sv X.K T r to):=by
 intro ae s σ H Q I h;refine wpAny_Call_method0_late xu xv (cJ (ho ae s σ H _ I h) fun v s1 ⟨x,H1,I1,r1,ty,q1⟩=>?_);obtain⟨h1,h2⟩:=FR I1 r1 ty;exact⟨T,id,pa,slot,Sw,h1,h2,zC rfl (PySem.evalArgs_none (hm ae s1 σ H1 x [] v [] Q I1 r1 .nil q1))⟩
theorem iG(pa:PlainAttrs T)(slot:Slot T name id)(Sw:typeOf (.builtin id)=pure (.type "method_descriptor"))(hm:Wr X id r)(ho:PE X o to)(ha:PA X (e::es) t)(xu:attributeBase o name X.env (eval o X.env)=eval o X.env:=by rfl)(NZ:((backTo jC (starEach (e::es) X.env)).all (fun x=>!x.1)&&(backToKw jC (keywordEach [] X.env)).all (fun x=>x.1.isSome)
   && decide ((e::es).length+([]:List Keyword).length+(if ([]:List Keyword).isEmpty then 0 else 1)<30))=true:=by rfl)(xv:(kF.endLine==jC.line)=true:=by rfl)(hs:starEach (e::es) X.env=(false,eval e X.env)::starEach es X.env:=by rfl)(rN:(backTo jC (starEach es X.env)).any (·.1)=false:=by rfl):
  PE X (.Call (.Attribute o name kF) (e::es) [] jC) (XN X.K T r to t):=by
 intro ae s σ H Q I h;refine wpAny_Call_method_late xu NZ xv rfl (cJ (ho ae s σ H _ I h) fun v s1 ⟨x,H1,I1,r1,ty,q1⟩=>?_);obtain⟨h1,h2⟩:=FR I1 r1 ty;refine⟨T,id,pa,slot,Sw,h1,h2,?_⟩;have hA:=ha jC ae s1 σ H1 _ I1 q1;rw[hs] at hA |-;refine zC (by show (false||(backTo jC (starEach es X.env)).any (·.1))=false;rw[rN] <;> rfl) (Calls.evalArgs_plain ?_);exact cJ hA fun us s2 ⟨vs,H2,I2,r2,q2⟩=>hm ae s2 σ H2 x vs v us Q I2 r1 r2 q2
end
def Sx(X:Cx)(id:String)(r:V->List V->Hp->VK->Prop):Prop:=
 ∀ (ae:List (Addr×Obj)) (s:Shared) (σ:St) (H:Hp) (x:V) (xs:List V) (v:Value) (us:List Value) (Q:VK),aM X ae σ H s->bA x v->aZ xs us->r x xs H Q->
  wpAny (model X.prog X.w) X.A (call (.builtin id) (v::us)) (EP X ae σ Q) X.xe s
theorem aZ.one{x:V}{us:List Value}(h:aZ [x] us):∃u,us=[u]/\bA x u:=by
 cases h with
 |cons r h=>cases h;exact⟨_,rfl,r⟩
theorem aZ.two{x y:V}{us:List Value}(h:aZ [x,y] us):∃u v,us=[u,v]/\bA x u/\bA y v:=by
 cases h with
 |cons r h=>
  cases h with
  |cons q h=>cases h;exact⟨_,_,rfl,r,q⟩
theorem aZ.eraseIdx:∀ {xs:List V} {us:List Value} (i:Nat),aZ xs us->aZ (xs.eraseIdx i) (us.eraseIdx i)
 |_,_,_,.nil=>.nil
 |_,_,0,.cons _ t=>t
 |_,_,i+1,.cons r t=>.cons r (aZ.eraseIdx i t)
theorem aZ.rep(h:aZ xs us):∀k:Nat,aZ (List.replicate k xs).flatten (List.replicate k us).flatten
 |0=>.nil
 |k+1=>by
  rw[lZ,lZ,qZ,qZ];exact aZ.append h (aZ.rep h k)
theorem uc:∀ (l:List α) (i:Nat),(l.eraseIdx i).length<=l.length
 |[],_=>aI _
 |_::_,0=>rp _
 |_::r,i+1=>Nat.succ_le_succ (uc r i)
theorem ud(its:List Value):∀ (k:Nat) (d8:List Value),
  List.foldl (fun x1 x2=>x1++x2) d8.toArray (List.replicate k its.toArray)=(d8++(List.replicate k its).flatten).toArray
 |0,d8=>by simp
 |k+1,d8=>by
  have e:d8.toArray++its.toArray=(d8++its).toArray:=by simp
  have e2:(d8++its)++(List.replicate k its).flatten=d8++(List.replicate (k+1) its).flatten:=by
   rw[lZ,qZ,dq]
  rw[<-e2,<-ud its k (d8++its),<-e,lZ,g_]
section
variable {X:Cx} {ae:List (Addr×Obj)} {σ:St} {H:Hp} {s:Shared} {l b:Addr} {xs ys zs:List V}
theorem aM.Sy{its its':List Value}{n:Nat}{f:Array Value->Array Value}{t':Nat}(I:aM X ae σ H s)(hH:H l=some (.lst xs))(e:s.heap.get? l=some { cls:=.type "list",data:=.seq its.toArray n })(hf:f its.toArray=its'.toArray)(hv:aZ ys its')(hz:ys.length<=sizeLine):
  aM X ae σ (upd H l (.lst ys)) { s with heap:=s.heap.update l (Obj.mapSeq f),toks:=t' }:=by
 have q:=PySem.IsL.update e f;rw[hf] at q;refine I.write (x:=l) (e:=l) (by rw[hH];exact trivial) (.inl rfl) (fun b' u hb hu=>(zB s.heap (Obj.mapSeq f) (il hb)).trans hu) ⟨_,q⟩ ?_;exact⟨hz,its',_,hv,q⟩
theorem aM.N0(I:aM X ae σ H s)(hv:aZ ys its)(hz:ys.length<=sizeLine):
  aM X ae σ (upd H s.heap.objs.size (.lst ys)) { s with heap:=s.heap.push { cls:=.type "list",data:=.seq its.toArray },toks:=t' }:=
 I.laid (fun _ _ q=>bU _ q) (aI _) ⟨hz,its,0,hv,cY _ rfl⟩
theorem aM.fresh(I:aM X ae σ H s):H s.heap.objs.size=none:=I.bE.fresh (aI _)
theorem aM.xw(I:aM X ae σ H s)(hH:H l=some (.lst xs)):xs.length<=sizeLine/\∃ (its:List Value) (n:Nat),aZ xs its/\xs.length=its.length/\s.heap.get? l=some { cls:=.type "list",data:=.seq its.toArray n }:=by
 obtain⟨z,its,n,r,e⟩:=I.bE l _ hH;exact⟨z,its,n,r,r.length,e⟩
theorem FS(h:n<=sizeLine):Builtin.List.listTooLong n=false:=by
 unfold Builtin.List.listTooLong;exact fA (by lia)
end
section
variable {X:Cx}
def JE:V->List V->Hp->VK->Prop:=fun x vs H Q=>∃l xs y,x=.ref l/\vs=[y]/\H l=some (.lst xs)/\xs.length<sizeLine/\Q .cf (upd H l (.lst (xs++[y])))
theorem dJ:Sx X "list.append" JE:=by
 intro ae s σ H x vs v us Q I rx rv h;obtain⟨l,xs,y,rfl,rfl,hH,hz,q⟩:=h;cases rx;obtain⟨u,rfl,ru⟩:=rv.one;obtain⟨z,its,n,r,hl,e⟩:=I.xw hH;refine md F.slot_list_append ⟨_,e,rfl⟩ F.entry_list_append (F.args_list_append_2 _ _) (PySem.list_append l its.toArray n u (by rw[cB];lia)) ⟨e,?_⟩;refine⟨.cf,_,I.Sy (its':=its++[u]) hH e (by simp) (r.append (.cons ru .nil)) ?_,rfl,q⟩;rw[dE,u4];lia
def FT:V->List V->Hp->VK->Prop:=fun x vs H Q=>∃l xs i k y,x=.ref l/\vs=[.int i]/\H l=some (.lst xs)/\-(2 ^ 63)<=i/\i<2 ^ 63/\seqIndex? i xs.length=some k/\xs[k]?=some y/\Q y (upd H l (.lst (xs.eraseIdx k)))
theorem FU:Sx X "list.pop" FT:=by
 intro ae s σ H x vs v us Q I rx rv h;obtain⟨l,xs,i,k,y,rfl,rfl,hH,h1,h2,hk,hy,q⟩:=h;cases rx;obtain⟨u,rfl,ru⟩:=rv.one;obtain⟨t,rfl⟩:=ru;obtain⟨z,its,n,r,hl,e⟩:=I.xw hH;obtain⟨w,hw,qa⟩:=r.get hy;refine md F.slot_list_pop ⟨_,e,rfl⟩ F.entry_list_pop (F.args_list_pop_2 _ _)
  (MeetsSeq.list_pop_at l its.toArray n i t k w (fitsIndex_both h1 h2) (by rw[cB,<-hl];exact hk) (by rw[<-lV];exact hw) (by rw[cB];lia)) ⟨e,?_⟩
 refine⟨y,_,I.Sy (its':=its.eraseIdx k) hH e ?_ (r.eraseIdx k) ?_,qa,q⟩
 .show its.toArray.eraseIdxIfInBounds k=(its.eraseIdx k).toArray;rw[List.eraseIdxIfInBounds_toArray]
 .have:=uc xs k;lia
def XO:R2:=fun x y H Q=>∃l b xs zs,x=.ref l/\y=.ref b/\H l=some (.lst xs)/\H b=some (.lst zs)/\xs.length+zs.length<=sizeLine/\∀p,H p=none->Q (.ref p) (upd H p (.lst (xs++zs)))
theorem kG:m9 X (binaryOp .Add) XO:=by
 intro ae s σ H x y v u Q I rx ry h;obtain⟨l,b,xs,zs,rfl,rfl,hH,hB,hz,q⟩:=h;cases rx;cases ry;obtain⟨z,its,n,r,hl,e⟩:=I.xw hH;obtain⟨z2,JF,n2,r2,Ra,e2⟩:=I.xw hB;refine PySem.P.add_list e e2 ?_ (by rw[cB,cB];lia);have ea:its.toArray++JF.toArray=(its++JF).toArray:=by simp
 rw[ea];exact⟨.ref _,_,I.N0 (t':=s.toks) (r.append r2) (by rw[dE];lia),rfl,q _ I.fresh⟩
def XQ:R2:=fun x y H Q=>∃l k xs,x=.ref l/\y=.int k/\H l=some (.lst xs)/\-(2 ^ 63)<=k/\k<2 ^ 63/\xs.length*k.toNat<=sizeLine/\
 ∀p,H p=none->Q (.ref p) (upd H p (.lst (List.replicate k.toNat xs).flatten))
theorem JG(xs:List α)(k:Nat):(List.replicate k xs).flatten.length=k*xs.length:=by
 induction k with
 |zero=>simp
 |succ k ih=>rw[lZ,qZ,dE,ih,Nat.succ_mul,Nat.add_comm]
theorem N4:m9 X (binaryOp .Mult) XQ:=by
 intro ae s σ H x y v u Q I rx ry h;obtain⟨l,k,xs,rfl,rfl,hH,h1,h2,hz,q⟩:=h;cases rx;obtain⟨t,rfl⟩:=ry;obtain⟨z,its,n,r,hl,e⟩:=I.xw hH;have dO:its.toArray.size*k.toNat<=sizeLine:=by rw[cB,<-hl];exact hz
 have XR:¬ its.toArray.size*k.toNat > (2 ^ 63-1) / 8:=by
  have:(sizeLine:Nat)<=(2 ^ 63-1) / 8:=by decide
  lia
 have XS:¬ (!Builtin.List.listFitsIndex k)=true:=by
  rw[fitsIndex_both h1 h2];exact cP
 have Sz:¬ Builtin.List.listTooLong (its.toArray.size*k.toNat)=true:=by
  rw[FS dO];exact cP
 have xx:List.foldl (fun x1 x2=>x1++x2) #[] (List.replicate (if its.toArray.isEmpty=true then 0 else k.toNat) its.toArray)=(List.replicate k.toNat its).flatten.toArray:=by
  have f0:∀m:Nat,List.foldl (fun x1 x2=>x1++x2) #[] (List.replicate m its.toArray)=(List.replicate m its).flatten.toArray:=fun m=>by
   have:=ud its m [];rw[zV] at this;exact this
  rw[f0];cases its with
  |nil=>simp
  |cons a r'=>rw[aq (by simp)]
 refine wpAny_binaryOp_repeat_ref (T:="list") (U:="int") (by decide) ⟨_,e,rfl⟩ (fun s'=>typeIs_int s' k t) noFill_list_mul F.fills_int_mul F.slot_int_rmul repeat_list F.slot_int_index.lookup
  (md F.slot_int_rmul (typeIs_int s k t) F.entry_int_rmul (F.args_int_rmul_2 _ _) (int___rmul___int_list k t l its.toArray n)
   ⟨e,rfl,⟨_,e,rfl⟩,md F.slot_list_mul ⟨_,e,rfl⟩ F.entry_list_mul (F.args_list_mul_2 _ _) (AutoListH.list___mul___list_int_3 l its.toArray n k t XS XR Sz) ⟨e,?_⟩⟩)
 rw[xx];exact⟨.ref _,_,I.N0 (t':=s.toks) (r.rep k.toNat) (by rw[JG,Nat.mul_comm];exact hz),rfl,q _ I.fresh⟩
end
section
variable {prog:Program} {w:World} {A:Around} {E:Value->Shared->Prop} {s:Shared}
end
section
variable {X:Cx}
end
end L2
namespace Att
open PySem PySem.W PySem.Calls PyProof.Rows
theorem qc:∀ (ns:List Int) (vs:List Value),WellAll P h vs (ns.map WData.int)->IntsAre vs ns:=by
 intro ns;induction ns with
 |nil=>
  intro vs w;rw[vz] at w;cases w;exact .nil
 |cons n ns ih=>
  intro vs w;rw[eG] at w;cases w with
  |cons a b=>
   cases a;exact .cons _ _ (ih _ b)
theorem DD{l:OpenLaw}{n:Nat}(hn:l.most=some n){P:Params}{h:Heap}{args:List WData}{FV:List Value}(JI:l.row.toRowW.claim.pre args=true)(XT:WellAll P h FV args):
  ∃a vs ns,FV=[Value.ref a]/\args=[WData.list (ns.map WData.int)]/\h.get? a=some { cls:=.type "list",data:=.seq vs.toArray }/\IntsAre vs ns/\ns.length<=n:=by
 have hsh:WShape.hasAll [] args [.list .int]=true:=(pre_splitW JI).1;have hc:l.pre.holds [] { args:=args }=true:=(pre_splitW JI).2;obtain⟨d,r,rfl,h1,h2⟩:=hasAllW_cons hsh;obtain rfl:=hasAllW_nil h2;obtain⟨xs,rfl,h3⟩:=hasW_list h1;obtain⟨ns,rfl⟩:=items_int h3;have dO:ns.length<=n:=by
  unfold OpenLaw.pre at hc;have h4:(WTm.not (.lt (.lit (.int (n:Int))) (.len (.arg 0)))).holds [] { args:=[.list (ns.map .int)] }=true:=by
   have h4:=(holds_andW hc).1;rw[hn] at h4;exact h4
  have h5:=condW_of h4 (w_not (w_lt w_lit (w_len_list (w_arg rfl))));rw[aO] at h5;refine Nat.le_of_not_lt fun q=>?_;have q':(n:Int)<((ns.length:Nat):Int):=by lia
  first
   |(rw[cZ q'] at h5;exact absurd h5 (by decide))
   |(simp at h5;lia)
 cases XT with
 |cons w1 w2=>
  cases w2;cases w1 with
  |list ho tD=>exact⟨_,_,ns,rfl,rfl,ho,qc ns _ tD,dO⟩
theorem DE(l:OpenLaw)(args:List WData):l.row.toRowW.claim.post args (.bool true) args=true:=
 postW_of (r:=l.row.toRowW) (X:=(true==true))
  (show WShape.has [] (.bool true) .bool=true by first|rfl|decide|simp[WShape.has,WShape.arms,WShape.armsAll])
  (show (WTm.eq .res (.lit (.bool true))).value [] { args:=args,res:=some (.bool true),after:=args }=some (.bool (true==true)) from w_eq_bool (w_res rfl) w_lit) rfl
theorem xy{l:OpenLaw}{n:Nat}{q:Program}{ue:List Str}{XP:(Str->Option Value)->Heap->Prop}{YP:World->Heap->Prop}{d:DefRec}(hn:l.most=some n)(SC:d.params.defaults=[])(call:∀ (w:World) (s₀ s₁:Shared) (mg mb:Str->Option Value) (fa:Addr) (o:Obj) (pm cd ni:Value) (a:Addr) (vs:List Value) (ns:List Int),
   Ground q ue [] XP w s₀ mg mb s₁.heap->YP w s₁.heap->
   s₁.heap.get? fa=some o->o.data=.func (docDef d.name d.params d.body d.scope pm cd ni)->s₁.heap.CodeRec cd d.name->mg d.name=some (.ref fa)->
   s₁.heap.get? a=some { cls:=.type "list",data:=.seq vs.toArray }->IntsAre vs ns->ns.length<=n->s₁.gens=#[]->
   codeAny (model l.prog w) callerA (.call (.ref fa) ⟨[.ref a],[]⟩) (fun r s'=>r=.ok (.ret (.bool true))/\OldK s₁.heap s'.heap/\s'.os=s₁.os/\AllBare s'.gens) s₁):
  WalkO q ue XP YP l.row.toRowW d [] (fun f vs=>PySem.call f vs):=by
 intro w s₀ s₁ mg mb G Y fa o pm cd ni dV kV ho hd tV hD SE hg args FV as JI abR hrd XT Wt;obtain rfl:dV=.none:=Dflts.none hD SC;obtain rfl:kV=.none:=Dflts.noKw hD;obtain⟨a,vs,ns,rfl,rfl,N5,FW,dO⟩:=DD hn JI XT;refine enter_call (l9 (call w s₀ s₁ mg mb fa o pm cd ni a vs ns G Y ho (fd_plain hd) tV SE N5 FW dO hg) fun r s' hq=>?_);obtain⟨rfl,h2,h3,h4⟩:=hq;exact⟨.inl ⟨.bool true,.bool true,[],rfl,fun _=>rfl,.bool true,DE l _,fun _=>⟨List.Pairwise.nil,fun _ hm=>(nomatch hm)⟩⟩,h2,h3,h4⟩
section
variable {prog:Program} {w:World} {A:Around} {E:Value->Shared->Prop} {s:Shared} {K:Frag}
end
end Att
namespace L2
open PySem PySem.Spec PyProof.Rows
theorem uf:∀ {vs:List Value} {ns:List Int},IntsAre vs ns->aZ (ns.map V.int) vs
 |_,_,.nil=>.nil
 |_,_,.cons n t h=>.cons ⟨t,rfl⟩ (uf h)
def h9(s:Stmt)(j:Nat):Stmt:=match s with
 |.ClassDef _ _ _ body _ _ _ _ _ _ _=>body.getD j (.Pass ⟨0,0,0,0⟩)
 |_=>.Pass ⟨0,0,0,0⟩
def dw(s:Stmt):Arguments:=match s with
 |.FunctionDef _ a _ _ _ _ _ _ _ _=>a
 |_=>{ posonlyargs:=[],args:=[],vararg:=none,kwonlyargs:=[],kw_defaults:=[],kwarg:=none,defaults:=[] }
def bQ(s:Stmt):List Stmt:=match s with
 |.FunctionDef _ _ b _ _ _ _ _ _ _=>b
 |_=>[]
def ap(s:Stmt):Scope:=match s with
 |.FunctionDef _ _ _ _ _ _ sc _ _ _=>sc
 |_=>{ kind:=.function,names:=[],isGenerator:=false,isCoroutine:=false }
abbrev aY:wY:=fun _ _ _ _ _ _=>False
abbrev E0:XK:=fun _ _ _=>False
theorem aA:kD aY X E0:=fun _ _ _ _ _ _ _ h=>h.elim
structure fH(K:PySem.W.Frag)(x qual:Str)(st:Stmt)(f:Addr)(fd:FuncData):Prop where
 ex:∃ (oc:Value) (od:Option Addr) (kV ni pm:Value) (an:Option Addr) (dR ct:Value) (wZ:Array (Option Value)),
  fd=PySem.W.fnOf x qual (dw st) (bQ st) (ap st) .none kV ni pm an dR ct/\K.lookup f=some ⟨oc,od,.func fd,wZ⟩/\PySem.W.codeIn K dR qual=true
 kp:PySem.W.keepIn K (.ref f)=true
section
variable {P:Program} {w:World} {K:PySem.W.Frag} {mg:Str->Option Value} {base:Heap}
theorem fH.ok{x qual:Str}{st:Stmt}{f:Addr}{fd:FuncData}{N ps:List Str}{k:Nat}{sp:Sp}(F:fH K x qual st f fd)(S:aB N ps (ap st))(len:∀vs H Q E,sp vs H Q E->vs.length=ps.length)(xp:∀ (dR:Value) (A:Around) (outer:List Env) (s:Shared) (H:Hp) (vs:List V) (Q:VK) (E:XK),bD k (A.deeper (envOfC qual (ap st) s.heap.objs.size f dR))->sp vs H Q E->
   ∃t,z_ (qb aY P w K mg base N qual (ap st) f dR A outer s H E).Fs (bQ st) t/\t { nx:=fun _ H'=>Q .cf H',rt:=Q } (start N vs) H):bf P w K mg base aY (k+1) f fd ps sp:=by
 obtain⟨oc,od,kV,ni,pm,an,dR,ct,wZ,rfl,lk,tV⟩:=F.ex;refine Mq lk tV S len fun A outer s H vs Q E hr Aq=>?_;obtain⟨t,h,q⟩:=xp dR A outer s H vs Q E hr Aq;exact⟨t,h.Fs,q⟩
theorem fH.binds{x qual:Str}{st:Stmt}{f:Addr}{fd:FuncData}{ps:List Str}(F:fH K x qual st f fd)(h:∀ (kV ni pm:Value) (an:Option Addr) (dR ct:Value) (us:List Value),us.length=ps.length->bindArgs (PySem.W.fnOf x qual (dw st) (bQ st) (ap st) .none kV ni pm an dR ct) ⟨us,[]⟩=pure (ps.zip us)):jX K fd ps []:=by
 obtain⟨oc,od,kV,ni,pm,an,dR,ct,wZ,rfl,lk,tV⟩:=F.ex;exact .all (h kV ni pm an dR ct)
theorem vN{x qual:Str}{st:Stmt}{f:Addr}{oc:Value}{od an:Option Addr}{wZ:Array (Option Value)}{kV ni pm dR ct:Value}(l:K.lookup f=some ⟨oc,od,.func (PySem.W.fnOf x qual (dw st) (bQ st) (ap st) .none kV ni pm an dR ct),wZ⟩)(c:PySem.W.codeIn K dR qual=true)(k:PySem.W.keepIn K (.ref f)=true):fH K x qual st f (PySem.W.fnOf x qual (dw st) (bQ st) (ap st) .none kV ni pm an dR ct):=⟨⟨oc,od,kV,ni,pm,an,dR,ct,wZ,rfl,l,c⟩,k⟩
end
section
variable {X:Cx}
theorem pv(i:Nat)(hN:X.N[i]?=some x:=by rfl)(hv:Q4 X.env.scope x:=by first|exact Or.inl rfl|exact Or.inr (Or.inl rfl)|exact Or.inr (Or.inr rfl))(hd:(x==("__debug__":Str))=false:=by decide)(tV:(x==("__classdict__":Str))=false:=by decide):PE X (.Name x pos) (aT i):=Nz hN hv hd tV
end
theorem iq{A B:Prop}(h:B):if false=true then A else B:=by
 rw[aq cP];exact h
theorem xz{A B:Prop}(h:A):if true=true then A else B:=by
 rw[ak rfl];exact h
theorem dZ{c A B:Prop}[Decidable c](h1:c->A)(h2:¬ c->B):if c then A else B:=by
 by_cases h:c
 .rw[ak h];exact h1 h
 .rw[aq h];exact h2 h
def aG(H H':Hp):Prop:=∀b o,H b=some o->H' b=some o
theorem aG.refl(H:Hp):aG H H:=fun _ _ h=>h
theorem aG.trans(a:aG H H1)(b:aG H1 H2):aG H H2:=fun c o h=>b c o (a c o h)
theorem aG.free(e:aG H H')(h:H' l=Option.none):H l=Option.none:=by
 cases q:H l with
 |none=>rfl
 |some o=>
  rw[e l o q] at h;cases h
def yS(src:List (Option Nat))(σ:St):St:=src.map fun o=>match o with|some j=>σ.getD j none|none=>none
theorem BV{src:List (Option Nat)}{σ:St}{i:Nat}{v:V}(h:(yS src σ)[i]?=some (some v)):∃j,src[i]?=some (some j)/\σ[j]?=some (some v):=by
 unfold yS at h;rw[bu] at h;cases e:src[i]? with
 |none=>rw[e] at h;cases h
 |some o=>
  rw[e] at h;cases o with
  |none=>cases h
  |some j=>
   refine⟨j,rfl,?_⟩;have h':σ.getD j none=some v:=bh h;rw[bZ] at h';cases e2:σ[j]? with
   |none=>rw[e2] at h';cases h'
   |some o=>rw[e2] at h';rw[show o=some v from h']
structure gU(NB:List Str)(src:List (Option Nat))(scope:Scope)(X:Cx):Prop where
 kind:scope.kind=.function
 nd:NB.Nodup
 len:src.length=NB.length
 cells:∀y∈scope.names,y.2=.cell->scope.names.lookup y.1=some .cell
 names:∀y∈scope.names,y.2=.local->scope.names.lookup y.1=some .local
 free:∀y∈scope.names,y.2=.free->X.env.scope.names.lookup y.1=some .cell\/X.env.scope.names.lookup y.1=some .free
 src:∀ (i:Nat) (x:Str) (j:Nat),NB[i]?=some x->src[i]?=some (some j)->X.N[j]?=some x/\scope.names.lookup x=some .free
def vO(scope:Scope)(x:Str):Bool:=match scope.names.lookup x with
 |some .cell=>true
 |_=>false
theorem xA:vO scope x=true↔scope.names.lookup x=some .cell:=by
 unfold vO;split
 .rename_i h;exact⟨fun _=>h,fun _=>rfl⟩
 .rename_i h;exact⟨fun z=>(by cases z),fun z=>absurd z h⟩
def BW(X:Cx)(NB:List Str)(scope:Scope)(cl:List (Str×Addr))(C:Addr)(s₃:Shared)(H₃:Hp)(fp:List Addr):Cx:=
 { X with N:=NB,s₀:=s₃,H₀:=H₃,env:=compEnvC scope cl C X.env,outer:=X.stack,stack:=X.stack,ex:=fp,fn:=vO scope,pn:=[],xe:=fun _ _=>False }
theorem mi:∀ (names:List (Str×NameKind)) (d8:List (Str×Addr)),(∀y∈names,y.2=NameKind.free->∃c,env.cells.lookup y.1=some c)->(∀x c,d8.lookup x=some c->env.cells.lookup x=some c)->
  ∃cl,(forIn names d8 fun x r=>(if (x.2==NameKind.free)=true then (do let a <- cellOf env x.1;pure (ForInStep.yield ((x.1,a)::r))) else pure (ForInStep.yield r):Sem (ForInStep (List (Str×Addr)))))=(pure cl:Sem (List (Str×Addr)))/\
   (∀x c,cl.lookup x=some c->env.cells.lookup x=some c)/\(∀x c,d8.lookup x=some c->∃c',cl.lookup x=some c')/\∀x,(x,NameKind.free)∈names->∃c,cl.lookup x=some c
 |[],d8,_,ha=>⟨d8,by rw[vq],ha,fun x c h=>⟨c,h⟩,fun x h=>nomatch h⟩
 |(n,k)::r,d8,hf,ha=>by
  by_cases hk:k=NameKind.free
  .subst hk;obtain⟨c,hc⟩:=hf (n,NameKind.free) bL rfl;have SF:∀x c',((n,c)::d8).lookup x=some c'->env.cells.lookup x=some c':=fun x c' h=>by
    rw[gh] at h;cases hx:x==n with
    |true=>
     rw[hx] at h;cases h;have:x=n:=by simpa using hx
     rw[this];exact hc
    |false=>rw[hx] at h;exact ha x c' h
   obtain⟨cl,e1,e2,e3,e4⟩:=mi r ((n,c)::d8) (fun y hy=>hf y (cm _ hy)) SF;refine⟨cl,?_,e2,fun x c' h=>?_,fun x h=>?_⟩
   .rw[vk];have ec:cellOf env n=pure c:=by unfold cellOf;rw[hc]
    have e0:(if ((n,NameKind.free).2==NameKind.free)=true then (do let a <- cellOf env (n,NameKind.free).1;pure (ForInStep.yield (((n,NameKind.free).1,a)::d8))) else pure (ForInStep.yield d8):Sem (ForInStep (List (Str×Addr))))=pure (ForInStep.yield ((n,c)::d8)):=by
     rw[ak (show (NameKind.free==NameKind.free)=true by decide)];show cellOf env n >>= _=_;rw[ec];rfl
    rw[e0];exact e1
   .cases hx:x==n with
    |true=>exact e3 x c (by rw[gh,hx])
    |false=>exact e3 x c' (by rw[gh,hx];exact h)
   .rcases a_.mp h with h|h
    .cases h;exact e3 n c (by rw[gh];simp)
    .exact e4 x h
  .obtain⟨cl,e1,e2,e3,e4⟩:=mi r d8 (fun y hy=>hf y (cm _ hy)) ha;refine⟨cl,?_,e2,e3,fun x h=>?_⟩
   .rw[vk];have hb:(k==NameKind.free)=false:=by simpa using hk
    have e0:(if ((n,k).2==NameKind.free)=true then (do let a <- cellOf env (n,k).1;pure (ForInStep.yield (((n,k).1,a)::d8))) else pure (ForInStep.yield d8):Sem (ForInStep (List (Str×Addr))))=pure (ForInStep.yield d8):=by
     rw[aq (by show ¬ (k==NameKind.free)=true;rw[hb];decide)]
    rw[e0];exact e1
   .rcases a_.mp h with h|h
    .cases h;exact absurd rfl hk
    .exact e4 x h
theorem mj(ok:X.Ok)(S:gU NB src scope X):
  ∃cl,closureFor scope X.env=pure cl/\(∀x c,cl.lookup x=some c->X.env.cells.lookup x=some c)/\∀x,(x,NameKind.free)∈scope.names->∃c,cl.lookup x=some c:=by
 obtain⟨cl,e1,e2,_,e4⟩:=mi (env:=X.env) scope.names [] (fun y hy hk=>ok.has y.1 (S.free y hy hk)) (fun x c h=>nomatch h);refine⟨cl,?_,e2,e4⟩;unfold closureFor;simp only[bind_pure];exact e1
theorem vP(h:scope.names.lookup x=some .free):(relabel scope env).names.lookup x=some .cell\/(relabel scope env).names.lookup x=some .free:=by
 have go:∀names:List (Str×NameKind),names.lookup x=some .free->
   (names.map fun (n,k)=>if (k==NameKind.free&&env.scope.kind==.function&&env.kindOf n==some .cell) then (n,NameKind.cell) else (n,k)).lookup x=some .cell\/
   (names.map fun (n,k)=>if (k==NameKind.free&&env.scope.kind==.function&&env.kindOf n==some .cell) then (n,NameKind.cell) else (n,k)).lookup x=some .free:=by
  intro names;induction names with
  |nil=>intro h;simp at h
  |cons y r ih=>
   intro h;obtain⟨n,k⟩:=y;rw[gh] at h;rw[eG];cases hx:x==n with
   |true=>
    rw[hx] at h;cases h;by_cases hc:(NameKind.free==NameKind.free&&env.scope.kind==.function&&env.kindOf n==some .cell)=true
    .left;show List.lookup x ((if _ then _ else _)::_)=_;rw[ak hc,gh,hx]
    .right;show List.lookup x ((if _ then _ else _)::_)=_;rw[aq hc,gh,hx]
   |false=>
    rw[hx] at h;by_cases hc:(k==NameKind.free&&env.scope.kind==.function&&env.kindOf n==some .cell)=true
    .show List.lookup x ((if _ then _ else _)::_)=_\/List.lookup x ((if _ then _ else _)::_)=_;rw[ak hc,gh,hx];exact ih h
    .show List.lookup x ((if _ then _ else _)::_)=_\/List.lookup x ((if _ then _ else _)::_)=_;rw[aq hc,gh,hx];exact ih h
 exact go scope.names h
theorem nA(h:(relabel scope env).names.lookup x=some k)(hk:k=.cell\/k=.free):(x,NameKind.free)∈scope.names\/(x,NameKind.cell)∈scope.names:=by
 have m:=iE h;obtain⟨⟨n,k'⟩,hm,e⟩:=bj.mp m;by_cases q:(k'==NameKind.free&&env.scope.kind==.function&&env.kindOf n==some .cell)=true
 .have e':(n,NameKind.cell)=(x,k):=by simpa [q] using e
  have k1:k'=NameKind.free:=by
   simp only[fL,hU] at q;exact q.1.1
  cases e';left;rw[<-k1];exact hm
 .have e':(n,k')=(x,k):=by simpa [q] using e
  cases e';rcases hk with z|z
  .subst z;exact .inr hm
  .subst z;exact .inl hm
theorem pe:∀ (names:List (Str×NameKind)) (h:Heap) (d8:List (Str×Addr)) (x:Str) (c:Addr),(cellsFrom h.objs.size names d8).lookup x=some c->d8.lookup x=some c\/(h.objs.size<=c/\(pushCells h names).IsCell c none)
 |[],_,_,_,_,e=>.inl e
 |(name,kind)::r,h,d8,x,c,e=>by
  unfold cellsFrom at e;unfold pushCells;split at e
  .rename_i hk;rw[ak hk];have hsz:(h.push { cls:=.type "cell",data:=.cell none }).objs.size=h.objs.size+1:=i_ ..;rw[<-hsz] at e;rcases pe r _ _ x c e with z|⟨z1,z2⟩
   .rw[gh] at z;cases hx:x==name with
    |true=>
     rw[hx] at z;cases z;exact .inr ⟨aI _,_,pushCells_keeps r _ _ _ (cY _ rfl),rfl⟩
    |false=>rw[hx] at z;exact .inl z
   .exact .inr ⟨by lia,z2⟩
  .rename_i hk;rw[aq hk];exact pe r h d8 x c e
theorem ug:∀ (names:List (Str×NameKind)) (n:Nat) (d8:List (Str×Addr)) (x:Str),(x,NameKind.cell)∈names->∃c,n<=c/\(cellsFrom n names d8).lookup x=some c:=by
 have up:∀ (names:List (Str×NameKind)) (n m:Nat) (d8:List (Str×Addr)) (x:Str) (c:Addr),d8.lookup x=some c->m<=c->m<=n->∃c',m<=c'/\(cellsFrom n names d8).lookup x=some c':=by
  intro names;induction names with
  |nil=>intro n m d8 x c e h _;exact⟨c,h,e⟩
  |cons y r ih=>
   intro n m d8 x c e h hm;obtain⟨name,kind⟩:=y;unfold cellsFrom;split
   .cases hx:x==name with
    |true=>exact ih (n+1) m _ x n (by rw[gh,hx]) hm (by lia)
    |false=>exact ih (n+1) m _ x c (by rw[gh,hx];exact e) h (by lia)
   .exact ih n m d8 x c e h hm
 intro names;induction names with
 |nil=>intro n d8 x h;cases h
 |cons y r ih=>
  intro n d8 x h;obtain⟨name,kind⟩:=y;unfold cellsFrom;rcases a_.mp h with z|z
  .cases z;rw[ak (by decide)];exact up r (n+1) n _ x n (by rw[gh];simp) (aI _) (by lia)
  .split
   .obtain⟨c,h1,h2⟩:=ih (n+1) ((name,n)::d8) x z;exact⟨c,by lia,h2⟩
   .exact ih n d8 x z
theorem lj:∀ (names:List (Str×NameKind)) (n:Nat) (d8:List (Str×Addr)) (x:Str) (c:Addr),d8.lookup x=some c->(x,NameKind.cell)∉names->(cellsFrom n names d8).lookup x=some c
 |[],_,_,_,_,e,_=>e
 |(name,kind)::r,n,d8,x,c,e,h=>by
  have hr:(x,NameKind.cell)∉r:=fun z=>h (cm _ z);unfold cellsFrom;split
  .rename_i hk;have jb:(x==name)=false:=by
    cases hx:x==name with
    |false=>rfl
    |true=>
     have e1:x=name:=by simpa using hx
     have e2:kind=.cell:=by simpa using hk
     exact absurd (by rw[e1,e2];exact bL) h
   exact lj r (n+1) _ x c (by rw[gh,jb];exact e) hr
  .exact lj r n d8 x c e hr
theorem pf:∀ (names:List (Str×NameKind)) (n:Nat) (d8:List (Str×Addr)),(∀x y c,d8.lookup x=some c->d8.lookup y=some c->x=y)->(∀x c,d8.lookup x=some c->c<n)->∀x y c,(cellsFrom n names d8).lookup x=some c->(cellsFrom n names d8).lookup y=some c->x=y
 |[],_,_,hi,_=>hi
 |(name,kind)::r,n,d8,hi,hl=>by
  unfold cellsFrom;split
  .refine pf r (n+1) _ (fun x y c h1 h2=>?_) (fun x c h=>?_)
   .rw[gh] at h1 h2;cases hx:x==name <;> cases hy:y==name <;> rw[hx] at h1 <;> rw[hy] at h2
    .exact hi x y c h1 h2
    .cases h2;exact absurd (hl x _ h1) (jT _)
    .cases h1;exact absurd (hl y _ h2) (jT _)
    .have e1:x=name:=by simpa using hx
     have e2:y=name:=by simpa using hy
     rw[e1,e2]
   .rw[gh] at h;cases hx:x==name <;> rw[hx] at h
    .exact eV (hl x c h)
    .cases h;exact j6 _
  .exact pf r n d8 hi hl
section
variable {X:Cx} {ae:List (Addr×Obj)} {σ:St} {H:Hp} {s:Shared} {NB:List Str} {src:List (Option Nat)} {scope:Scope} {cl:List (Str×Addr)} {fp:List Addr} {h₁:Heap} {t₁:Nat}
theorem JJ(I:aM X ae σ H s)(S:gU NB src scope X)(c1:∀x c,cl.lookup x=some c->X.env.cells.lookup x=some c)(c2:∀x,(x,NameKind.free)∈scope.names->∃c,cl.lookup x=some c)(hf:∀b∈fp,ge X ae H b)(JK:∀b∈fp,b<s.heap.objs.size){m:Str->Option Value}(hn:h₁.Ns s.heap.objs.size m)(hk:∀b o,s.heap.get? b=some o->h₁.get? b=some o)(xx:∀x c,(cellsFrom (s.heap.objs.size+1) scope.names cl).lookup x=some c->cl.lookup x=some c\/(s.heap.objs.size<c/\h₁.IsCell c none)):
  aM (BW X NB scope (cellsFrom (s.heap.objs.size+1) scope.names cl) s.heap.objs.size s H fp) [] (yS src σ) H { s with heap:=h₁,toks:=t₁ }:=by
 have Q6:∀b∈Ds X.stack,b∈X.env.locals::X.fs:=I.rB;have mm:∀x c,cl.lookup x=some c->∃v,s.heap.IsCell c v:=fun x c e=>I.cell x c (c1 x c e);have XU:∀x c,cl.lookup x=some c->c<s.heap.objs.size:=fun x c e=>by obtain⟨v,o,ho,_⟩:=mm x c e;exact a9 ho
 refine⟨⟨I.ok.mod,S.kind,I.ok.glob,I.ok.blt,aI _,pf _ _ _ (fun x y c e1 e2=>I.ok.inj x y c (c1 x c e1) (c1 y c e2)) (fun x c e=>eV (XU x c e)),fun x hx=>?_,fun x c z e=>?_,I.ok.hd,I.ok.frames,.inl rfl,fun b hb=>⟨?_,fun x c e=>?_⟩,I.bs,aX I.ok.Dt I.sz,fun b o e hb=>?_,fun b hb=>?_,I.stack,I.mU⟩,
  rfl,I.bare,Un.kept hk,⟨m,hn,fun i x v e1 e2 e3=>?_⟩,fun x c e=>?_,I.bE.fresh (aI _),fun x c e=>?_,fun p hp=>absurd (show p∈([]:List (Addr×Obj)) from hp) (by simp),I.bE.kept hk,?_⟩
 .have At:(x,NameKind.free)∈scope.names\/(x,NameKind.cell)∈scope.names:=by
   rcases hx with hx|hx
   .exact nA hx (.inl rfl)
   .exact nA hx (.inr rfl)
  by_cases hc:(x,NameKind.cell)∈scope.names
  .obtain⟨c,_,e⟩:=ug scope.names (s.heap.objs.size+1) cl x hc;exact⟨c,e⟩
  .rcases At with z|z
   .obtain⟨c,e⟩:=c2 x z;exact⟨c,lj _ _ _ _ _ e hc⟩
   .exact absurd z hc
 .have hm:=iE (xA.mp z);obtain⟨c',h1,h2⟩:=ug scope.names (s.heap.objs.size+1) cl x hm;have e':(cellsFrom (s.heap.objs.size+1) scope.names cl).lookup x=some c:=e;rw[h2] at e';cases e';exact Nat.le_of_succ_le h1
 .exact bb (JK b hb)
 .rcases xx x c e with z|⟨z,_⟩
  .exact(hf b hb).2.2.2.2.1 x c (c1 x c z)
  .exact iP (Nat.lt_trans (JK b hb) z)
 .rcases(hf b hb).2.2.2.1 with z|z
  .exact I.ok.Fo b o e z
  .exact absurd (cz (a9 e) (aX I.ok.Dt z)) (jT _)
 .intro z;rcases a_.mp (Q6 b z) with e|e
  .exact(hf b hb).2.1 e
  .exact(hf b hb).2.2.1 e
 .obtain⟨j,hj,hv⟩:=BV e2;obtain⟨hN,hF⟩:=S.src i x j e1 hj;obtain⟨m0,FX,N6⟩:=I.loc;have Au:=iE hF;have kx:=S.free _ Au rfl;have Sd:Q4 X.env.scope x:=by
   rcases kx with z|z
   .exact .inr (.inl z)
   .exact .inr (.inr z)
  obtain⟨u,r,l⟩:=N6 j x v hN hv Sd;refine⟨u,r,.inr ⟨vP hF,?_⟩⟩;obtain⟨c,hc⟩:=c2 x Au;have hnc:(x,NameKind.cell)∉scope.names:=fun z=>by
   have:=S.cells _ z rfl;rw[hF] at this;cases this
  refine⟨c,lj _ _ _ _ _ hc hnc,?_⟩;rcases l with ⟨DG,_⟩|⟨_,c',e,z⟩
  .have FY:X.env.scope.names.lookup x=some .local:=DG;rcases kx with z|z <;> (rw[z] at FY;cases FY)
  .rw[c1 x c hc] at e;cases e;obtain⟨o,ho,hd⟩:=z;exact⟨o,hk _ _ ho,hd⟩
 .rcases xx x c e with z|⟨_,z⟩
  .obtain⟨v,o,ho,hd⟩:=mm x c z;exact⟨v,o,hk _ _ ho,hd⟩
  .exact⟨none,z⟩
 .rcases xx x c e with z|⟨z,_⟩
  .exact I.jU x c (c1 x c z)
  .exact I.bE.fresh (kl z)
 .show (yS src σ).length=NB.length;unfold yS;rw[aO];exact S.len
theorem aM.SJ(I:aM X ae σ H s)(J:aM (BW X NB scope cl C s H fp) [] σB H' s')(hf:∀b∈fp,ge X ae H b):aM X ae σ H' s':=by
 refine I.Fq (ch:=fp) J.os J.base J.bE J.bare fun b hb=>?_;obtain⟨_,f1,_,f3,f4,f5⟩:=hf b hb;exact⟨f3,f1,f4,f5⟩
end
def Rb(X:Cx)(BY:List Expr)(t:TT):Prop:=
 ∀ (ae:List (Addr×Obj)) (s:Shared) (σ:St) (H:Hp) (Q:Bool->Hp->Prop),aM X ae σ H s->t σ H Q->
  wpAny (model X.prog X.w) X.A (forIn BY true fun c r=>if r=true then do let ok <- isTrue c X.env (eval c X.env);pure (ForInStep.yield ok) else pure (ForInStep.yield r)) (TP X ae σ Q) X.xe s
def XV:TT:=fun _ H Q=>Q true H
theorem dz:Rb X [] XV:=fun _ _ _ H _ I h=>wpAny_tests_nil ⟨H,I,h⟩
theorem d5(h:PT X c t):Rb X [c] t:=fun ae s σ H Q I q=>wpAny_tests_one (h ae s σ H Q I q)
def hV(J:It)(g:TG)(tt:TT)(te:TE)(D:Addr)(dS:Hp->Prop)(σB:St)(H1:Hp):Prop:=
 ∃W:Nat->Nat->St->Hp->Prop,(∃m,W 0 m σB H1)/\∀i m σ H,W i m σ H->(J.stop i H/\dS H)\/(J.go i H/\∀x H',J.Mm i H x H'->g x σ H' fun σ2 H2=>tt σ2 H2 fun b H3=>
  if b=true then te σ2 H3 fun v H4=>∃ys,H4 D=some (.lst ys)/\ys.length<sizeLine/\∃m',m'<m/\W (i+1) m' σ2 (upd H4 D (.lst (ys++[v]))) else ∃m',m'<m/\W (i+1) m' σ2 H3)
theorem DH(hx:B.xe=fun _ _=>False)(hc:B.calm=true)(T:vG B.prog B.w B.K tg J fp it tn)(hg:PG B tg g)(ht:Rb B BY tt)(he:PE B ER te)(I:aM B [] σB H1 s)(st:tn 0 s.heap)(hf:∀b∈fp,ge B [] H1 b)(hw:hV J g tt te D dS σB H1)(hR:∀σ' H' s',aM B [] σ' H' s'->dS H'->R (.ok .next) s'):
  codeAny (model B.prog B.w) B.A (.compLoop (.ListComp ER [⟨tg,j5,BY,0⟩] scope pos) 0 (.ref it) (.ref D) B.env) R s:=by
 obtain⟨W,⟨m0,w0⟩,Fu⟩:=hw;have Ae:∀ {H':Hp},(∀b∈fp,H' b=none)->∀b∈fp,ge B [] H' b:=fun hn b hb=>⟨hn b hb,(hf b hb).2⟩
 refine codeAny_loop rfl (fun n s'=>∃i σ' H',aM B [] σ' H' s'/\tn i s'.heap/\(∀b∈fp,H' b=none)/\W i n σ' H') ?_ m0 ⟨0,σB,H1,I,st,fun b hb=>(hf b hb).1,w0⟩;rintro n s3 ⟨i,σ3,H3,I3,jW,NL,w3⟩;show wpAny _ B.A ((compTurn (.ListComp ER [⟨tg,j5,BY,0⟩] scope pos) 0 (.ref it) (.ref D) B.env).onRaise (fun x=>do noteFrame x B.env;theTreesLotGoes x)) _ _ s3;refine wpAny_noted ?_;rw[compTurn_list];have nx:∀ {α:Type} {t:Sem α} {Q:α->Shared->Prop} {E':Value->Shared->Prop} {s:Shared},wpAny (model B.prog B.w) B.A t Q B.xe s->wpAny (model B.prog B.w) B.A t Q E' s:=fun h=>
  gn h (fun _ _ q=>q) fun _ _ z=>by rw[hx] at z;exact z.elim
 rcases Fu i n σ3 H3 w3 with ⟨stop,qn⟩|⟨go,step⟩
 .refine az (oW (az (cJ (T.done B rfl rfl rfl hc i [] s3 σ3 H3 _ I3 (Ae NL) jW stop) fun r s4 ⟨hr,I4⟩=>?_)));subst hr;exact wpAny_pure (hR σ3 H3 s4 I4 qn)
 .refine az (oW (az (cJ (T.item B rfl rfl rfl hc i [] s3 σ3 H3 _ I3 (Ae NL) jW go) fun r s4 ⟨u,hr,h4⟩=>?_)));subst hr;refine az (cJ h4 fun _ s5 ⟨x,H5,I5,r5,y5,wW,XA⟩=>?_);have XB:=I5.pinned (Ae XA) (T.obj _ _ wW);refine az (nx (cJ (hg _ s5 σ3 H5 x u _ XB r5 (step x H5 y5)) fun _ s6 ⟨σ6,H6,I6,q6⟩=>?_));have back:∀ {σ7:St} {H7:Hp} {s7:Shared} {m':Nat},aM B ([]++rF fp s5.heap) σ7 H7 s7->m'<n->W (i+1) m' σ7 H7->∃m,m<n/\∃i σ' H',aM B [] σ' H' s7/\tn i s7.heap/\(∀b∈fp,H' b=none)/\W i m σ' H':=fun {σ7 H7 s7 m'} I7 hm w7=>by
   refine⟨m',hm,i+1,σ7,H7,I7.m6,T.keep _ _ _ wW fun b hb o e=>(I7.pin (b,o) (dD _ (dD _ (jz hb e)))).1,fun b hb=>?_,w7⟩;obtain⟨o,e,d⟩:=T.obj _ _ wW b hb;exact(I7.pin (b,o) (dD _ (dD _ (jz hb e)))).2.1
  refine az (nx (cJ (ht _ s6 σ6 H6 _ I6 q6) fun ok s7 ⟨H7,I7,q7⟩=>?_));cases ok with
  |false=>
   rw[aq cP] at q7;obtain⟨m',hm,w7⟩:=q7;exact wpAny_pure ⟨rfl,back I7 hm w7⟩
  |true=>
   rw[ak rfl] at q7;refine az (az (nx (cJ (he _ s7 σ6 H7 _ I7 q7) fun v s8 ⟨y,H8,I8,r8,ys,hD,hl,m',hm,w8⟩=>?_)));refine az (nx (cJ (dJ _ s8 σ6 H8 (.ref D) [y] (.ref D) [v] (fun _ H9=>H9=upd H8 D (.lst (ys++[y]))) I8 rfl (.cons r8 .nil) ⟨D,ys,y,rfl,rfl,hD,hl,rfl⟩) fun _ s9 ⟨_,H9,I9,_,e9⟩=>?_));subst e9;exact wpAny_pure (wpAny_pure ⟨rfl,back I9 hm w8⟩)
theorem vQ(hQ:Q { scope:=scope,locals:=s.heap.objs.size,globals:=globals,cells:=cellsFrom (s.heap.objs.size+1) scope.names cl,qual:=qual,func:=none,code:=outer.code,frame:=outer.frame,builtins:=outer.builtins }
   { s with heap:=pushCells (s.heap.push { cls:=.type "dict",data:=.dict #[] }) scope.names }):
  wpAny M A (newFunctionEnv scope globals cl [] qual none .none (some outer)) Q E s:=by
 simp only[newFunctionEnv,Option.isSome_some,js];refine az (wpAny_alloc ?_);refine az (wpAny_layCells _ (fun name kind cells=>by cases hkc:kind==NameKind.cell <;> simp[hkc]) _ _ _ _ ?_);rw[show ({ s with heap:=s.heap.push { cls:=.type "dict",data:=.dict #[] } }:Shared).heap.objs.size=s.heap.objs.size+1 from i_ ..];refine az ?_;rw[vq];exact wpAny_pure (wpAny_pure hQ)
section
variable {X:Cx} {ER tg j5:Expr} {BY:List Expr} {scope:Scope} {pos:Pos} {wi:TI} {g:TG} {tt:TT} {te:TE} {NB:List Str} {src:List (Option Nat)}
def Ms(src:List (Option Nat))(wi:TI)(g:TG)(tt:TT)(te:TE):TE:=fun σ H Q=>wi σ H fun J H1=>∀D,H1 D=none->hV J g tt te D (fun H'=>Q (.ref D) H') (yS src σ) (upd H1 D (.lst []))
theorem rO{ae:List (Addr×Obj)}{σ:St}{H2:Hp}{s2:Shared}{J:It}{fp:List Addr}{it:Addr}{tn:Nat->Heap->Prop}{cl:List (Str×Addr)}{dS:Addr->Hp->Prop}{E':Value->Shared->Prop}{RR:Value->Addr->Result->Shared->Prop}(S:gU NB src scope X)(hc:X.calm=true)(c1:∀x c,cl.lookup x=some c->X.env.cells.lookup x=some c)(c2:∀x,(x,NameKind.free)∈scope.names->∃c,cl.lookup x=some c)(hg:∀cl C s₃ H₃ fp,PG (BW X NB scope cl C s₃ H₃ fp) tg g)(ht:∀cl C s₃ H₃ fp,Rb (BW X NB scope cl C s₃ H₃ fp) BY tt)(he:∀cl C s₃ H₃ fp,PE (BW X NB scope cl C s₃ H₃ fp) ER te)(I2:aM X ae σ H2 s2)(T:vG X.prog X.w X.K tg J fp it tn)(lL:tn 0 s2.heap)(f2:∀b∈fp,ge X ae H2 b)(hw:∀D,H2 D=none->hV J g tt te D (dS D) (yS src σ) (upd H2 D (.lst [])))(hR:∀D C H' s',ge X ae H' C->aM X ae σ H' s'->(∃m,s'.heap.Ns C m)->dS D H'->RR (.ref D) C (.ok .next) s'):
  wpAny (model X.prog X.w) X.A (newList []) (fun d8 s₃=>wpAny (model X.prog X.w) X.A (newFunctionEnv scope X.env.globals cl [] X.env.qual none .none (some X.env)) (fun SL s₄=>
   codeAny (model X.prog X.w) X.A (.compStart (.ListComp ER [⟨tg,j5,BY,0⟩] scope pos) 0 (.ref it) d8 { SL with scope:=relabel scope X.env }) (RR d8 SL.locals) s₄) E' s₃) E' s2:=by
 refine vi (vQ ?_);have I3:=I2.N0 (ys:=[]) (its:=[]) (t':=s2.toks) .nil (bV _);have hD:H2 s2.heap.objs.size=none:=I2.fresh;have fo:∀b∈fp,b<s2.heap.objs.size:=fun b hb=>by obtain⟨o,e,_⟩:=T.obj _ _ lL b hb;exact a9 e
 have up:∀ {b:Addr},b∈fp->upd H2 s2.heap.objs.size (.lst []) b=H2 b:=fun {b} hb=>ao (bb (fo b hb));have f3:∀b∈fp,ge X ae (upd H2 s2.heap.objs.size (.lst [])) b:=fun b hb=>⟨by rw[up hb];exact(f2 b hb).1,(f2 b hb).2⟩
 have hsz:(s2.heap.push { cls:=.type "list",data:=.seq ([]:List Value).toArray }).objs.size=s2.heap.objs.size+1:=by rw[i_]
 generalize XW:({ s2 with heap:=s2.heap.push { cls:=.type "list",data:=.seq ([]:List Value).toArray } }:Shared)=s3 at I3 |-;have hh3:s3.heap=s2.heap.push { cls:=.type "list",data:=.seq ([]:List Value).toArray }:=by rw[<-XW]
 have fo3:∀b∈fp,b<s3.heap.objs.size:=fun b hb=>by rw[hh3,hsz];exact eV (fo b hb)
 have SN:(s3.heap.push { cls:=.type "dict",data:=.dict #[] }).objs.size=s3.heap.objs.size+1:=i_ ..;have xx:∀x c,(cellsFrom (s3.heap.objs.size+1) scope.names cl).lookup x=some c->cl.lookup x=some c\/(s3.heap.objs.size<c/\(pushCells (s3.heap.push { cls:=.type "dict",data:=.dict #[] }) scope.names).IsCell c none):=fun x c e=>by
  rw[<-SN] at e;rcases pe _ _ _ _ _ e with z|⟨z1,z2⟩
  .exact .inl z
  .exact .inr ⟨by rw[SN] at z1;exact z1,z2⟩
 have SS:=(Heap.Ns.new s3.heap (.type "dict")).keeps (pushCells_keeps scope.names _);have keep:∀b o,s3.heap.get? b=some o->(pushCells (s3.heap.push { cls:=.type "dict",data:=.dict #[] }) scope.names).get? b=some o:=fun b o e=>pushCells_keeps _ _ b o (bU _ e);generalize hh1:pushCells (s3.heap.push { cls:=.type "dict",data:=.dict #[] }) scope.names=h₁ at xx SS keep |-;have IB:aM (BW X NB scope (cellsFrom (s3.heap.objs.size+1) scope.names cl) s3.heap.objs.size s3 (upd H2 s2.heap.objs.size (.lst [])) fp) [] (yS src σ) (upd H2 s2.heap.objs.size (.lst [])) { s3 with heap:=h₁,toks:=s3.toks }:=
  JJ I3 S c1 c2 f3 fo3 SS keep xx
 have stB:tn 0 h₁:=T.keep 0 s2.heap h₁ lL fun b hb o e=>keep b o (by rw[hh3];exact bU _ e);have fB:∀b∈fp,ge (BW X NB scope (cellsFrom (s3.heap.objs.size+1) scope.names cl) s3.heap.objs.size s3 (upd H2 s2.heap.objs.size (.lst [])) fp) [] (upd H2 s2.heap.objs.size (.lst [])) b:=fun b hb=>by
  refine⟨(f3 b hb).1,bb (fo3 b hb),fun z=>?_,.inl hb,fun x c e=>(IB.ok.Xj b hb).2 x c e,fun p hp=>absurd (show p∈([]:List (Addr×Obj)) from hp) (by simp)⟩;rcases a_.mp (I3.rB b z) with e|e
  .exact(f3 b hb).2.1 e
  .exact(f3 b hb).2.2.1 e
 have loop:codeAny (model X.prog X.w) X.A (.compLoop (.ListComp ER [⟨tg,j5,BY,0⟩] scope pos) 0 (.ref it) (.ref s2.heap.objs.size) (compEnvC scope (cellsFrom (s3.heap.objs.size+1) scope.names cl) s3.heap.objs.size X.env)) (RR (.ref s2.heap.objs.size) s3.heap.objs.size)
   { s3 with heap:=h₁,toks:=s3.toks }:=by
  refine DH (B:=BW X NB scope (cellsFrom (s3.heap.objs.size+1) scope.names cl) s3.heap.objs.size s3 (upd H2 s2.heap.objs.size (.lst [])) fp) rfl hc T (hg _ _ _ _ _) (ht _ _ _ _ _) (he _ _ _ _ _) IB stB fB (hw _ hD) fun σ' H' s' J' q=>?_;obtain⟨m,hm,_⟩:=J'.loc;exact hR _ _ H' s' (I3.vF (aI _) J'.free) (I3.SJ J' f3) ⟨m,hm⟩ q
 exact codeAny_compStart_list loop (T.self _ 0 _ _ _ stB loop)
theorem bY(S:gU NB src scope X)(hc:X.calm=true)(hi:PI X tg j5 wi)(hg:∀cl C s₃ H₃ fp,PG (BW X NB scope cl C s₃ H₃ fp) tg g)(ht:∀cl C s₃ H₃ fp,Rb (BW X NB scope cl C s₃ H₃ fp) BY tt)(he:∀cl C s₃ H₃ fp,PE (BW X NB scope cl C s₃ H₃ fp) ER te)(hs:∀x,foldedSetIterable j5 X.env x=pure x:=by intro _;rfl):PE X (.ListComp ER [⟨tg,j5,BY,0⟩] scope pos) (Ms src wi g tt te):=by
 intro ae s σ H Q I h;obtain⟨cl,Mt,c1,c2⟩:=mj I.ok S;rw[eval_ListComp];refine wpAny_comprehension_free (use:=none) (cl:=cl) rfl hs Mt S.kind S.names (cJ (hi ae s σ H _ I h) fun v s1 h1=>cJ h1 fun Wp s2 h2=>?_);obtain⟨it,fp,tn,J,H2,e,I2,T,lL,f2,hw⟩:=h2;subst e;refine rO (RR:=fun d8 C=>compPost (model X.prog X.w) X.A X.xe none (EP X ae σ Q) d8 C) S hc c1 c2 hg ht he I2 T lL f2 hw fun D C H' s' fC I' hm q=>?_;obtain⟨m,hm⟩:=hm;refine⟨m,hm,fun h' sb=>⟨.ref D,H',?_,rfl,q⟩⟩;obtain⟨g0,g1,_,g3,g4,g5⟩:=fC;exact I'.turned (t':=s'.toks) (fun b o hb e=>(sb.2 b hb).trans e) g0 g1 g3 g4 g5
theorem eO{i:Nat}{y:Str}{py SU:Pos}(S:gU NB src scope X)(hc:X.calm=true)(hi:PI X tg j5 wi)(hg:∀cl C s₃ H₃ fp,PG (BW X NB scope cl C s₃ H₃ fp) tg g)(ht:∀cl C s₃ H₃ fp,Rb (BW X NB scope cl C s₃ H₃ fp) BY tt)(he:∀cl C s₃ H₃ fp,PE (BW X NB scope cl C s₃ H₃ fp) ER te)(hN:X.N.Nodup)(hix:X.N[i]?=some y)(hy:X.env.scope.names.lookup y=some .local)(hsw:swapsWith (.ListComp ER [⟨tg,j5,BY,0⟩] scope pos) (some (.Name y py)) SU.line X.env=pure true)(hs:∀x,foldedSetIterable j5 X.env x=pure x:=by intro _;rfl):
  PS X (.Assign [.Name y py] (.ListComp ER [⟨tg,j5,BY,0⟩] scope pos) SU) (NH (Ms src wi g tt te) (bi i)):=by
 intro ae s σ H D0 I h;obtain⟨cl,Mt,c1,c2⟩:=mj I.ok S;rw[exec_Assign_Name_used _ _ _ _ hsw];refine az (oW (az ?_));show wpAny _ X.A (do let _ <- comprehension (.ListComp ER [⟨tg,j5,BY,0⟩] scope pos) scope X.env _ (newList []) false (eval j5 X.env) (some (assign (.Name y py) X.env))) _ _ s;refine az (gn (wpAny_comprehension_free (use:=some (assign (.Name y py) X.env)) (Q:=fun _ s'=>SP X ae D0 .next s') (cl:=cl) rfl hs Mt S.kind S.names
  (cJ (hi ae s σ H _ I h) fun v s1 h1=>cJ h1 fun Wp s2 h2=>?_)) (fun _ s' hq=>wpAny_pure (wpAny_pure hq)) fun _ _ e=>e)
 obtain⟨it,fp,tn,J,H2,e,I2,T,lL,f2,hw⟩:=h2;subst e;refine rO (RR:=fun d8 C=>compPost (model X.prog X.w) X.A X.xe (some (assign (.Name y py) X.env)) (fun _ s'=>SP X ae D0 .next s') d8 C) S hc c1 c2 hg ht he I2 T lL f2 hw fun D C H' s' fC I' hm q=>?_;obtain⟨m,hm⟩:=hm;obtain⟨g0,g1,_,g3,g4,g5⟩:=fC;show wpAny _ X.A (assign (.Name y py) X.env (.ref D)) _ _ _;refine wpAny_assign_Name (tU I' hN hix (.inl hy) (v:=.ref D) rfl (fun IX I'' sb=>?_) (.inr hy));obtain⟨a,sb,ha⟩:=sb;have jb:C≠a:=by
  rcases ha with z|z
  .rw[z];exact g1
  .exact fun z'=>g4 y a z z'.symm
 refine⟨m,hm.sameBut sb jb,fun h' sb'=>⟨_,H',I''.turned (t':=IX.toks) (fun b o hb e=>(sb'.2 b hb).trans e) g0 g1 g3 g4 g5,q⟩⟩
end
section
variable {P:Program} {w:World} {K:PySem.W.Frag} {mg:Str->Option Value} {base:Heap} {N:List Str} {qual:Str} {scope:Scope} {f:Addr} {cd:Value} {A:Around} {outer:List Env} {s:Shared} {H:Hp} {E:XK}
end
open PySem PySem.Spec PyProof.Rows PySem.W
abbrev bmV:List Value:=[.type "ValueError",.type "Exception",.type "BaseException",.type "object"]
structure DI(K:PySem.W.Frag)(C:Addr):Prop where
 ex:PySem.W.excIn K C bmV "ValueError.__new__"=true
 kp:PySem.W.keepIn K (.ref C)=true
 ga:PySem.W.findIn K (.ref C) "__getattribute__"=some (some (.builtin "BaseException.__getattribute__"))
 gt:PySem.W.findIn K (.ref C) "__getattr__"=some none
 cl:PySem.W.findIn K (.ref C) "__class__"=some (some (.builtin "object.__class__"))
 mo:PySem.W.mroIn K C (.type "object")=some true
 mb:PySem.W.mroIn K C (.type "BaseException")=some true
 ty:(PySem.W.clsIn K C).isSome=true
def Wu(p:Addr)(C:Value)(h:Heap):Prop:=∃o,h.get? p=some o/\o.cls=C
abbrev XX(p:Addr)(C:Value):HO:=.ext (Wu p C)
theorem cg.get(x:cg P w H h a o):∃u,h.get? a=some u:=by
 cases o with
 |lst xs=>obtain⟨_,_,_,_,e⟩:=x;exact⟨_,e⟩
 |tup xs=>obtain⟨_,_,_,ob,e,_⟩:=x;exact⟨_,e⟩
 |dK ba=>obtain⟨_,_,_,_,o,_,_,e,_⟩:=x;exact⟨_,e⟩
 |dT ba=>obtain⟨_,_,_,_,o,_,_,e,_⟩:=x;exact⟨_,e⟩
 |set S n=>obtain⟨o,_,_,_,e,_⟩:=x;exact⟨_,e⟩
 |ins C dx fs=>obtain⟨_,_,_,e,_⟩:=x;exact⟨_,e⟩
 |own y=>exact x
 |xd fs=>obtain⟨_,⟨_,_,_,e,_⟩,_⟩:=x;exact⟨_,e⟩
 |Fl lo hi=>obtain⟨_,_,_,e⟩:=x;exact⟨_,e⟩
 |vC ob u=>obtain⟨e,_⟩:=x;exact⟨_,e⟩
 |j3 ps=>exact⟨_,(show h.get? a=some _ from x)⟩
 |met f y=>exact⟨_,(show h.get? a=some _ from x)⟩
 |ext φ=>exact x.2.1
theorem j4.vR(x:j4 P w H h)(e:h.get? a=none):H a=none:=by
 cases q:H a with
 |none=>rfl
 |some u=>obtain⟨o,z⟩:=(x a u q).get;rw[e] at z;cases z
theorem aM.BZ(I:aM X ae σ H s)(k:∀b u,s.heap.get? b=some u->h'.get? b=some u)(hp:s.heap.get? a=none)(new:cg X.prog X.w (upd H a o) h' a o):
  aM X ae σ (upd H a o) { s with heap:=h',toks:=t' }:=by
 have hn:=I.bE.vR hp;have ne:∀b u,s.heap.get? b=some u->b≠a:=fun b u e z=>by rw[z,hp] at e;cases e
 refine I.un ⟨fun b u e _ _ _=>k b u e,fun b u e _ _ _=>⟨u.slots,k b u e⟩,fun b u e n _=>by rw[ao (ne b u e)];exact n,fun b u e _=>⟨u,k b u e⟩,fun b xs e=>by rw[ao (am e hn)];exact e,fun b u v e=>by rw[ao (am e hn)];exact e,fun b ps e=>⟨#[],by rw[ao (am e hn),e];simp⟩⟩ fun b u e=>?_;by_cases hb:b=a
 .subst hb;rw[af] at e;cases e;exact new
 .rw[ao hb] at e;exact(I.bE b u e).mT (fun c v _ q=>k c v q) (fun c q=>by rw[ao (am q hn)];exact q) fun c xs q=>by rw[ao (am q hn)];exact q
section
variable {prog:Program} {w:World} {A:Around} {E:Value->Shared->Prop} {s:Shared} {K:PySem.W.Frag} {x C:Addr} {ox:Obj}
theorem B0(hx:h.get? x=some ox)(hc:ox.cls=.ref C):PySem.W.Looks M h (typeOf (.ref x)) (.ref C):=hc ▸ (PySem.W.Looks.ld hx).andThen .now
open Builtin Builtin.ObjectAttr Builtin.Getset_descriptor in
theorem Av(X:K.In s.heap)(hx:s.heap.get? x=some ox)(hc:ox.cls=.ref C)(hm:PySem.W.mroIn K C (.type "object")=some true)(h:R (.ok (.ret (.ref C))) s):codeAny (model prog w) A (.call (.builtin "getset_descriptor.__get__") ⟨[.builtin "object.__class__",.ref x,tp],[]⟩) R s:=by
 obtain⟨hh,g,dr,t,os⟩:=s;have L0:=B0 (M:=model prog w) hx hc;have L1:=looks_mroIn (M:=model prog w) X hm;refine u9 KF.slot_gs.plain KF.entry_gs (KF.slot_gs.check _ _ _ _ _ _ _ _ KF.type_class (KF.args_gs _ _ _) ?_);unfold Builtin.«getset_descriptor.__get__» descrGet;rw[dga_obj];refine az (wpAny_pure ?_);unfold descrGetter descrCheckInstance descrNameAndClass isInstance;simp only[KF.owner_class];repeat lk
 refine⟨Code.quiet_builtin _ (by decide +kernel),vv KF.entry_class ?_⟩;unfold Builtin.«object.__class__» shownTypeOf;repeat lk
 exact h
theorem DJ{g d t os}(T:DI K C)(X:K.In h)(hx:h.get? x=some ox)(hc:ox.cls=.ref C)(hq:Q (.done (.ret (.ref C))) ⟨h,g,d,t,os⟩):
  wpAny (model prog w) A (Builtin.«object.__getattribute__» ⟨[.ref x,.str "__class__" tk],[]⟩) Q E ⟨h,g,d,t,os⟩:=by
 have f5:=F.typeOf_bexc_args;have hT5:(⟨h,g,d,t,os⟩:Shared).TypeIs (.builtin "object.__class__") "getset_descriptor":=E7;have f5':=E7;have f6:=F.slot_gs_get.lookup;have f7:=F.slot_gs_set.lookup;have L1:=looks_findIn (M:=model prog w) X T.cl;repeat (any_goals (first|assumption|(with_reducible refine z0 hx ?_;rw[hc])|with_reducible refine L1.at ?_|wp_step))
 refine Av (s:=⟨h,g,d,t,os⟩) X hx hc T.mo ?_;repeat (any_goals (first|assumption|wp_step))
theorem DK{g d t os}(T:DI K C)(X:K.In h)(hx:h.get? x=some ox)(hc:ox.cls=.ref C)(hq:Q () ⟨h,g,d,t,os⟩):
  wpAny M A (checkBuiltinCall "BaseException.__getattribute__" ⟨[.ref x,SV],[]⟩) Q E ⟨h,g,d,t,os⟩:=by
 have hk:builtinKind "BaseException.__getattribute__"=some .slot:=by decide +kernel
 have N7:splitId "BaseException.__getattribute__"=some ("BaseException","__getattribute__"):=by decide +kernel
 have ha:=F.args_bexc_ga (.ref x) SV;have L1:=looks_mroIn (M:=M) X T.mb;simp only[checkBuiltinCall,hk,N7];refine az ?_
 .unfold isInstance;repeat (first|(with_reducible refine z0 hx ?_;rw[hc])|with_reducible refine L1.at ?_|wp_step)
  exact hq
theorem N8{tk:Tok}{fill Js:Bool}{Q:Value->Shared->Prop}{h:Heap}{g d t os}(T:DI K C)(X:K.In h)(hx:h.get? x=some ox)(hc:ox.cls=.ref C)(hq:Q (.ref C) ⟨h,g,d,t,os⟩):
  wpAny (model prog w) A (getAttrBy (.ref x) (.str "__class__" tk) fill Js) Q E ⟨h,g,d,t,os⟩:=by
 have f3:=F.attr_ValueError.ga.bind (.ref x);have hx0:(Js&&onTheHeap (Value.builtin "BaseException.__getattribute__"))=false:=by cases Js <;> rfl
 have hx2:(Value.builtin "BaseException.__getattribute__"==Value.builtin "object.__getattribute__")=false:=by decide +kernel
 have hx1:(onTheHeap (Value.ref C)&&Value.builtin "BaseException.__getattribute__"==Value.builtin "object.__getattribute__")=false:=by rw[hx2];rfl
 have L1:=looks_findIn (M:=model prog w) X T.ga;have L2:=looks_findIn (M:=model prog w) X T.gt;repeat (any_goals (first|assumption|(with_reducible refine z0 hx ?_;rw[hc])|with_reducible refine L1.at ?_|with_reducible refine L2.at ?_|wp_step))
 refine u9 F.attr_ValueError.ga.plain F.entry_bexc_ga (DK T X hx hc (DJ T X hx hc ?_));repeat (any_goals (first|assumption|wp_step))
theorem FZ{Q:Option Value->Shared->Prop}{h:Heap}{g d t os}(T:DI K C)(X:K.In h)(hx:h.get? x=some ox)(hc:ox.cls=.ref C)(hq:Q (some (.ref C)) ⟨h,g,d,t+1,os⟩):
  wpAny (model prog w) A (getAttr? (.ref x) "__class__") Q E ⟨h,g,d,t,os⟩:=by
 unfold getAttr?;repeat (any_goals (first|assumption|with_reducible apply N8 T X hx hc|wp_step))
theorem xB(T:DI K C):PySem.W.KitX K (.ref x) (.ref C) (Wu x (.ref C)) where
 ty:=fun _ _ _ ⟨o,e,c⟩=>B0 e c
 it:=fun _ _ X _=>by
  obtain⟨cdD,Ju⟩:=uT.mp T.ty;unfold clsIn at Ju;split at Ju
  .rename_i c' d' cd' Xm ho;intro A' Q' E' s' k q;unfold isType loadHead;exact az (wpAny_loadPart (k _ _ (X _ _ ho)) (wpAny_pure q))
  .cases Ju
 ne:=fun h tp dd its n sl X htp=>by
  obtain⟨cdD,Ju⟩:=uT.mp T.ty;refine zK.mpr fun q=>?_;have e:C=tp:=Value.ref.inj (hU.mp q);subst e;unfold clsIn at Ju;split at Ju
  .rename_i c' d' cd' Xm ho;have z:=(X _ _ ho).symm.trans htp;cases z
  .cases Ju
 ca:=fun {_ _ _ _ _ s} X ⟨o,e,c⟩ k=>by
  obtain⟨h,g,d,t,os⟩:=s;exact FZ T X e c k
end
section
variable {X:Cx}
inductive Mu (K:PySem.W.Frag) (H:Hp):V->Value->Prop where
 |of {v:V} {t:Value} (h:pc K H v t):Mu K H v t
 |exc {p C:Addr} (T:DI K C) (e:H p=some (XX p (.ref C))):Mu K H (.ref p) (.ref C)
def XY(K:PySem.W.Frag):List V->Hp->VK->Prop:=fun xs H Q=>∃x c cv t b,xs=[x,c]/\(c=.ty cv/\PySem.W.kitOne K t (.type cv)=some b)/\Mu K H x t/\Q (.bl b) H
theorem jc:fU X (.builtin "isinstance") (XY X.K):=by
 intro ae s σ H xs us Q I r h;obtain⟨x,c,cv,t,b,rfl,⟨rfl,e⟩,ty,q⟩:=h;obtain⟨u1,u2,rfl,r1,r2⟩:=r.two;obtain rfl:u2=Value.type cv:=r2;cases ty with
 |of ty=>exact tY I r1 ty e fun tk=>⟨.bl b,H,I.tok tk,rfl,q⟩
 |@exc p C T ea=>
  obtain rfl:u1=Value.ref p:=r1;have p1:Wu p (.ref C) s.heap:=(I.bE p _ ea).1;exact i8 (xB T) I.lK p1 e (fun z=>nomatch z) fun tk=>⟨.bl b,H,I.tok tk,rfl,q⟩
def SW(K:PySem.W.Frag):List V->Hp->VK->Prop:=fun xs H Q=>∃x c t b,xs=[x,.ref c]/\PySem.W.kitOne K t (.ref c)=some b/\Mu K H x t/\Q (.bl b) H
theorem DL:fU X (.builtin "isinstance") (SW X.K):=by
 intro ae s σ H xs us Q I r h;obtain⟨x,c,t,b,rfl,e,ty,q⟩:=h;obtain⟨u1,u2,rfl,r1,r2⟩:=r.two;obtain rfl:u2=Value.ref c:=r2;cases ty with
 |of ty=>exact tY I r1 ty e fun tk=>⟨.bl b,H,I.tok tk,rfl,q⟩
 |@exc p C T ea=>
  obtain rfl:u1=Value.ref p:=r1;have p1:Wu p (.ref C) s.heap:=(I.bE p _ ea).1;exact i8 (xB T) I.lK p1 e (fun z=>nomatch z) fun tk=>⟨.bl b,H,I.tok tk,rfl,q⟩
end
section
variable {X:Cx} {x:Str} {C:Addr} {np jC pos:Pos} {e:Expr} {es:List Expr} {t:TA}
end
section
variable {X:Cx} {CX:wY} {k:Nat} {f C:Addr} {fd:FuncData} {ps:List Str} {sp:Sp} {rM:List V} {ds:List Value} {E:St->XK} {x m:Str} {p pos kF:Pos} {e o:Expr} {es:List Expr} {ta:TE} {t:TA}
end
section
variable {X:Cx} {CX:wY} {k:Nat} {f:Addr} {fd:FuncData} {ps:List Str} {sp:Sp} {rM:List V} {ds:List Value} {E:XK} {x:Str} {p pos:Pos} {e:Expr} {es:List Expr} {t:TA}
end
section
variable {P:Program} {w:World} {K:PySem.W.Frag} {mg:Str->Option Value} {base:Heap}
end
section
variable {X:Cx} {ae:List (Addr×Obj)} {σ:St} {H:Hp} {s:Shared}
end
theorem JM{h:Heap}{a:Addr}{m m':Str->Option Value}(x:h.Ns a m)(y:h.Ns a m'):m=m':=by
 obtain⟨o,es,ep,e,d,_,q⟩:=x;obtain⟨o',yQ,Wl,e',d',_,q'⟩:=y;rw[e] at e';cases e';rw[d] at d';cases d';funext z;rw[<-q z,q' z]
theorem aM.SX{X:Cx}{ae:List (Addr×Obj)}{σ:St}{H:Hp}{s:Shared}{h':Heap}{m:Str->Option Value}{D:Addr}{o:HO}{t':Nat}(I:aM X ae σ H s)(F:Fr X.base X.env.locals s.heap m)(F':Fr X.base X.env.locals h' m)(N':News X.base X.env.locals h' (ju X.base s.heap X.env.locals))(hD:s.heap.get? D=none)(new:cg X.prog X.w (upd H D o) h' D o):aM X ae σ (upd H D o) { s with heap:=h',toks:=t' }:=by
 have hn:=I.bE.vR hD;have ne:∀b u,s.heap.get? b=some u->b≠D:=fun b u e z=>by rw[z,hD] at e;cases e
 have keep:∀b u,b≠X.env.locals->s.heap.get? b=some u->h'.get? b=some u:=fun b u hb e=>by
  cases q:X.base.get? b with
  |some v=>
   have:=I.bk b v q;rw[e] at this;cases this;exact F'.keep b _ q
  |none=>exact(N' (b,u) (ku hb q e)).1
 refine I.step (g':=s.gens) (d':=s.drawn) (ch:=[]) (fun _ z=>absurd z (by simp)) (fun b u hb _ _ e _=>keep b u hb e) (fun b u hb _ _ e _=>⟨u.slots,keep b u hb e⟩) (fun b u _ e n=>by rw[ao (ne b u e)];exact n) (fun b u _ e=>?_)
  (fun b xs e=>by rw[ao (am e hn)];exact e) (fun b u v e=>by rw[ao (am e hn)];exact e) (fun b ps e=>⟨#[],by rw[ao (am e hn),e];simp⟩) (fun m1 hm=>by rw[JM hm F.ns];exact F'.ns) (fun b u e=>?_) I.bare
 .by_cases hb:b=X.env.locals
  .obtain⟨o',_,_,q,_⟩:=F'.ns;exact⟨o',by rw[hb];exact q⟩
  .exact⟨u,keep b u hb e⟩
 .by_cases hb:b=D
  .subst hb;rw[af] at e;cases e;exact new
  .rw[ao hb] at e;refine(I.bE b u e).mT (fun c v hc q=>keep c v ?_ q) (fun c q=>by rw[ao (am q hn)];exact q) fun c xs q=>by rw[ao (am q hn)];exact q
   rintro rfl;rcases hc with z|hc
   .have f:=I.free;rw[z,e] at f;cases f
   .rw[I.free] at hc;cases hc
theorem tE(I:aM X ae σ H s)(N:News X.base X.env.locals h' ((D,o)::ju X.base s.heap X.env.locals))(dN:∀q∈ju X.base s.heap X.env.locals,q.1<D):s.heap.get? D=none:=by
 cases e:s.heap.get? D with
 |none=>rfl
 |some u=>
  obtain⟨_,n1,n2⟩:=N (D,o) bL;exact absurd (dN (D,u) (ku n1 n2 e)) (jT _)
def F0(K:PySem.W.Frag)(H:Hp)(a:Addr)(y:Int×Int):Prop:=bJ K H a [.int y.1,.int y.2]
section
variable {X:Cx}
theorem Aw(I:aM X ae σ H s)(h:F0 X.K H a y):∃o n t u,s.heap.get? a=some o/\o.cls=.type "tuple"/\o.data=.seq #[.int y.1 t,.int y.2 u] n:=by
 obtain⟨its,r,p,_⟩:=I.tuple h;obtain⟨u1,u2,rfl,r1,r2⟩:=r.two;obtain⟨t,rfl⟩:=r1;obtain⟨t',rfl⟩:=r2;obtain⟨o,e,c,n,d⟩:=p;exact⟨o,n,t,t',e,c,d⟩
end
def N9(hs:Array Int)(i:Nat):Int:=(hs[i]?).getD 0
def gC(hs:Array Int)(t:SetTable)(h:Int):Option (Array Int×SetTable):=
 if t.gaveWay then none else
 match t.probe (N9 hs) h (t.probeStart h) with
 |some (.empty j none)=>
  let q:=t.put j
  let ES:=SetTable.insertAt hs q.2 h
  if q.1.fits ES.size&&decide (ES.size<=4096) then
   if q.1.tooFull then
    (match q.1.relaid ES (SetTable.grown (hs.size+1)) with
    |some (t2,order)=>
     let mh:=order.filterMap (ES[·]?)
     if mh.size==ES.size&&t2.fits mh.size&&decide (SetTable.sizeAbove (SetTable.grown (hs.size+1))<=4096) then some (mh,t2) else none
    |none=>none)
   else some (ES,q.1)
  else none
 |_=>none
def vS(led:Bool):List Int->Option (Array Int×SetTable):=fun l=>l.foldlM (fun q h=>gC q.1 q.2 h) (#[],SetTable.fresh 0 0 led)
def kH(h:Heap)(S:Addr)(hs:Array Int)(t:SetTable):Prop:=∃o es ep,h.get? S=some o/\o.cls=.type "set"/\(o.dict=none/\o.slots=#[])/\o.data=.set es ep t/\es.map (·.1)=hs/\t.fits es.size=true
section
variable {prog:Program} {w:World} {A:Around} {E:Value->Shared->Prop} {s:Shared} {S:Addr}
theorem N_(es:Array (Int×Value)):(fun i=>(es[i]?.map (·.1)).getD 0)=N9 (es.map (·.1)):=by
 funext i;unfold N9;rw[Array.getElem?_map]
theorem nB(es:Array (Int×Value))(p:Nat)(x:Int×Value):(SetTable.insertAt es p x).map (·.1)=SetTable.insertAt (es.map (·.1)) p x.1:=by
 unfold SetTable.insertAt;simp
theorem ph(es:Array (Int×Value))(order:Array Nat):(order.filterMap (es[·]?)).map (·.1)=order.filterMap ((es.map (·.1))[·]?):=by
 apply Array.ext';rw[rc,uZ,uZ,List.map_filterMap];congr 1;funext i;rw[Array.getElem?_map]
theorem Ax(hS:kH s.heap S hs t)(hg:t.gaveWay=false)(hp:t.probe (N9 hs) h (t.probeStart h)=some (.empty j none))(q:Q (.free j false) s):
  wpAny (model prog w) A (setSearch S x h true) Q E s:=by
 obtain⟨o,es,ep,ho,hc,hdi,hd,hm,hf⟩:=hS;unfold setSearch setSearchFrom;refine az (vg ho hd hf ?_);dsimp only;rw[hg,aq cP];have Re:t.probe (fun i=>(es[i]?.map (·.1)).getD 0) h (t.probeStart h)=some (.empty j none):=by rw[N_,hm];exact hp
 refine az (wpAny_pure ?_);erw[Re];exact wpAny_pure q
theorem DM(ho:s.heap.get? a=some o)(hc:o.cls=.type "tuple")(hd:o.data=.seq #[.int x t,.int y u] n)(q:Q true s):
  wpAny (model prog w) A (hashByValue 8 (.ref a)) Q E s:=by
 have hT:s.TypeIs (.ref a) "tuple":=⟨_,ho,hc⟩
 unfold hashByValue;refine az (wpAny_specialOf hT PySem.F.slot_tuple_hash.lookup ?_);refine az (kj ho hd ?_);refine az ?_;show wpAny _ _ (forIn #[Value.int x t,Value.int y u] _ _) _ _ s;rw[<-zF];refine wpAny_forIn_list _ (fun rest r s'=>r.1=none/\s'=s/\∀v∈rest,∃z k,v=Value.int z k) _ ?_ ?_ _ _ ⟨rfl,rfl,fun v hv=>?_⟩
 .rintro v rest r s' ⟨hr,rfl,tD⟩;obtain⟨z,k,rfl⟩:=tD v bL;refine az (wpAny_pure ?_);exact wpAny_pure ⟨rfl,rfl,fun u' uh=>tD u' (cm _ uh)⟩
 .rintro⟨r1,r2⟩ s' ⟨hr,rfl,_⟩;have pR:r1=none:=hr;subst pR;exact wpAny_pure q
 .rcases a_.mp hv with z|z
  .exact⟨_,_,z⟩
  .rcases a_.mp z with z|z
   .exact⟨_,_,z⟩
   .cases z
theorem B1(hS:kH s.heap S hs t)(hf:t'.fits yQ.size=true)(hz:yQ.size<=4096)(q:∀h',Heap.SameBut S s.heap h'->kH h' S (yQ.map (·.1)) t'->Q () { s with heap:=h' }):wpAny (model prog w) A (storeSet S yQ t') Q E s:=by
 obtain⟨o,es,ep,ho,hc,hdi,hd,hm,_⟩:=hS;refine wpAny_storeSet_of ho hd (q _ (oF s.heap S (Obj.putSet yQ t')) ?_) (aX hz (by decide));have g:=zE (Obj.putSet yQ t') ho (by rw[putSet_of yQ t' hd];rfl);rw[putSet_of yQ t' hd] at g;exact⟨_,yQ,ep+1,g,hc,hdi,rfl,rfl,hf⟩
theorem JN(hu:A.units<cLine)(hS:kH s.heap S hs t)(ho:s.heap.get? a=some o)(hc:o.cls=.type "tuple")(hd:o.data=.seq #[.int x tx,.int y ty] n)(jb:a≠S)(mZ:gC hs t (tupleKeyHash (intKind prog w) [x,y])=some (hs',t'))(q:∀h' tk,Heap.SameBut S s.heap h'->kH h' S hs' t'->Q true { s with heap:=h',toks:=tk }):wpAny (model prog w) A (setAdd S (.ref a)) Q E s:=by
 have hk:IsTupleKey (intKind prog w) s.heap [x,y] a:=⟨o,_,n,ho,hc,hd,.cons (intKind_is _ _ _ _) (.cons (intKind_is _ _ _ _) .nil)⟩
 unfold setAdd;refine iO (az (wpAny_pyHash_tuple hu hk ?_));generalize So:s.toks+([x,y].length+1)=tk;generalize hh:tupleKeyHash (intKind prog w) [x,y]=h at mZ |-;have hS0:=hS;obtain⟨ob,es,ep,hb,XZ,hbd,IU,hm,hf⟩:=hS;unfold setAddHashed setAddHashedIn;refine iO (az (vg (s:={ s with toks:=tk }) hb IU hf ?_));dsimp only;have Rf:byScan (.ref a) es=false:=by unfold byScan;rfl
 rw[Rf,aq cP];unfold gC at mZ;cases hg:t.gaveWay with
 |true=>rw[hg,ak rfl] at mZ;cases mZ
 |false=>
  rw[hg,aq cP] at mZ;split at mZ
  .rename_i j hp;dsimp only at mZ;split at mZ
   .rename_i Wv;rw[fL,vb] at Wv;refine az (Ax (s:={ s with toks:=tk }) hS0 hg hp ?_);dsimp only;refine az (vg (s:={ s with toks:=tk }) hb IU hf ?_);dsimp only;have byv:∀ {kk:Bool->Sem Bool},wpAny (model prog w) A (kk true) Q E { s with toks:=tk }->wpAny (model prog w) A (if (t.put j).1.plain=true then hashByValue 8 (.ref a) >>= kk else pure true >>= kk) Q E { s with toks:=tk }:=fun {kk} hP=>by
     split
     .exact az (DM (s:={ s with toks:=tk }) ho hc hd hP)
     .exact az (wpAny_pure hP)
    refine byv ?_;simp only[js];have hsz:(SetTable.insertAt es (t.put j).2 (h,Value.ref a)).size=(SetTable.insertAt hs (t.put j).2 h).size:=by
     rw[<-hm,<-nB es (t.put j).2 (h,Value.ref a),ik]
    refine az (B1 (s:={ s with toks:=tk }) hS0 (by rw[hsz];exact Wv.1) (by rw[hsz];exact Wv.2) fun h1 rP S1=>?_);rw[nB,hm] at S1;split at mZ
    .rename_i X0;rw[show (!false&&(t.put j).1.tooFull)=true by rw[X0];rfl,ak rfl];split at mZ
     .rename_i t2 order hr;split at mZ
      .rename_i hq;rw[fL,fL,vb,hU] at hq;obtain⟨⟨Mv,Mw⟩,hq3⟩:=hq;cases mZ;have X1:es.size=hs.size:=by rw[<-hm,ik]
       refine az ?_;unfold setRelay;obtain⟨o1,JO,ep1,g1,g2,g3,g4,g5,g6⟩:=id S1;refine az (vg (s:={ s with heap:=h1,toks:=tk }) g1 g4 g6 ?_);dsimp only;rw[X1];rw[aq (by (have h4:(4096:Nat)<=sizeLine:=by decide);lia)];refine az ?_;rw[g5,hr];have Ay:(order.filterMap (JO[·]?)).size=JO.size:=by
        have e1:=congrArg Array.size (ph JO order);rw[ik,g5] at e1;rw[e1,Mv,<-g5,ik]
       refine wpAny_of_eq (show _=(pure (order.filterMap (JO[·]?),t'):Sem (Array (Int×Value)×SetTable)) from ?_) ?_
       .show (do
         let yQ:=order.filterMap (JO[·]?)
         if yQ.size != JO.size then unsupported "internal:set-table-lost-an-element"
         pure (yQ,t'):Sem (Array (Int×Value)×SetTable))=_
        simp[Ay]
       dsimp only;have IY:JO.size<=4096:=by
        have e1:=congrArg Array.size g5;rw[ik] at e1;rw[e1];exact Wv.2
       have hfm:(order.filterMap (JO[·]?)).size=(order.filterMap ((SetTable.insertAt hs (t.put j).2 h)[·]?)).size:=by
        have e1:=congrArg Array.size (ph JO order);rw[ik,g5] at e1;exact e1
       refine B1 (s:={ s with heap:=h1,toks:=tk }) S1 (by rw[hfm];exact Mw) (by rw[Ay];exact IY) fun h2 sW S2=>?_;rw[ph,g5] at S2;exact wpAny_pure (q h2 tk (rP.trans sW) S2)
      .cases mZ
     .cases mZ
    .rename_i X0;cases mZ;have X2:(t.put j).1.tooFull=false:=by simpa using X0
     rw[show (!false&&(t.put j).1.tooFull)=false by rw[X2];rfl,aq cP];exact wpAny_pure (q h1 tk rP S1)
   .cases mZ
  .cases mZ
end
section
variable {prog:Program} {w:World} {A:Around} {E:Value->Shared->Prop} {s:Shared} {S Ia l:Addr} {R:Result->Shared->Prop}
def jD(h:Heap)(vs:List Value)(ys:List (Int×Int)):Prop:=vs.length=ys.length/\∀i v,vs[i]?=some v->∃a o n t u,v=.ref a/\h.get? a=some o/\o.cls=.type "tuple"/\o.data=.seq #[.int (ys.getD i (0,0)).1 t,.int (ys.getD i (0,0)).2 u] n
theorem jD.keeps(p:jD h vs ys)(k:∀b o,(∃xs n,o.data=.seq xs n)->h.get? b=some o->h'.get? b=some o):jD h' vs ys:=
 ⟨p.1,fun i v e=>let ⟨a,o,n,t,u,e1,e2,c,d⟩:=p.2 i v e;⟨a,o,n,t,u,e1,k a o ⟨_,_,d⟩ e2,c,d⟩⟩
def fX(prog:Program)(w:World)(y:Int×Int):Int:=tupleKeyHash (intKind prog w) [y.1,y.2]
theorem F4(hh:A.handled=none)(hu:A.units+1<cLine)(hlS:l≠S)(hlI:l≠Ia)(X3:S≠Ia):
  ∀ (k i:Nat) (s:Shared) (hs:Array Int) (t:SetTable),vs.length-i=k->i<=vs.length->s.heap.IsListIter Ia l i->s.heap.IsList l vs.toArray->jD s.heap vs ys->kH s.heap S hs t->
   ((ys.drop i).map (fX prog w)).foldlM (fun q h=>gC q.1 q.2 h) (hs,t)=some (hsN,tN)->
   (∀h' tk,(∀b o,b≠S->b≠Ia->s.heap.get? b=some o->h'.get? b=some o)->kH h' S hsN tN->R (.ok (.ret .none)) { s with heap:=h',toks:=tk })->
   codeAny (model prog w) A (.builtin "set.update.loop" ⟨[.ref S,.ref Ia],[]⟩) R s:=by
 intro k;induction k with
 |zero=>
  intro i s hs t hk hi ET hl hp hS hf hR;have e:i=vs.length:=by lia
  refine vv E4 ?_;rw[Around.under_plainId yZ _];show wpAny _ A.in1 (pyNext (.ref Ia) >>= _) _ _ s;refine az (wpAny_pyNext_list_end (show A.in1.handled=none from hh) ET hl (by simp;lia) fun h' eb=>?_);show wpAny _ A.in1 (ret Value.none) _ _ _;have hd:ys.drop i=[]:=by rw[List.drop_eq_nil_iff];have:=hp.1;lia
  rw[hd] at hf;cases hf;obtain⟨o,es,ep,q1,q2⟩:=hS;exact wpAny_pure (hR h' s.toks (fun b o hb Ww e=>eb b o Ww e) ⟨o,es,ep,eb S o X3 q1,q2⟩)
 |succ k ih=>
  intro i s hs t hk hi ET hl hp hS hf hR;have dN:i<vs.length:=by lia
  refine vv E4 ?_;rw[Around.under_plainId yZ _];show wpAny _ A.in1 (pyNext (.ref Ia) >>= _) _ _ s;have hv:vs[i]?=some vs[i]:=b8 dN;refine az (wpAny_pyNext_list_item ET hl (x:=vs[i]) (by simpa using hv) fun h1 X4 rP=>?_);obtain⟨a,o,n,tx,ty,ea,eo,ec,ed⟩:=hp.2 i _ hv;rw[ea];have neI:∀b ob,(∃xs n,ob.data=.seq xs n)->s.heap.get? b=some ob->b≠Ia:=fun b ob ⟨xs,m,z⟩ e z'=>by
   obtain⟨oi,e1,_,d1⟩:=ET;rw[z',e1] at e;cases e;rw[d1] at z;cases z
  have sX:jD h1 vs ys:=hp.keeps fun b ob hb e=>(rP.2 b (neI b ob hb e)).trans e;have JP:kH h1 S hs t:=by
   obtain⟨oS,es,ep,q1,q2⟩:=hS;exact⟨oS,es,ep,(rP.2 S X3).trans q1,q2⟩
  have Wx:h1.IsList l vs.toArray:=by
   obtain⟨ol,q1,q2⟩:=hl;exact⟨ol,(rP.2 l hlI).trans q1,q2⟩
  have eo1:h1.get? a=some o:=(rP.2 a (neI a o ⟨_,_,ed⟩ eo)).trans eo;have neS:∀b ob,(∃xs n,ob.data=.seq xs n)->h1.get? b=some ob->b≠S:=fun b ob ⟨xs,m,z⟩ e z'=>by
   obtain⟨oS,es,ep,q1,_,_,q4,_⟩:=JP;rw[z',q1] at e;cases e;rw[q4] at z;cases z
  have xC:i<ys.length:=by have:=hp.1;lia
  have hdr:ys.drop i=ys[i]::ys.drop (i+1):=oy xC;have hgy:ys.getD i (0,0)=ys[i]:=by rw[bZ,b8 xC];rfl
  rw[hdr,eG,List.foldlM_cons] at hf;cases mZ:gC hs t (fX prog w ys[i]) with
  |none=>rw[mZ] at hf;cases hf
  |some q=>
   obtain⟨mh,t2⟩:=q;rw[mZ] at hf;have hf2:((ys.drop (i+1)).map (fX prog w)).foldlM (fun q h=>gC q.1 q.2 h) (mh,t2)=some (hsN,tN):=hf;show wpAny _ A.in1 (holding [Value.ref a] (setAdd S (.ref a)) >>= _) _ _ _;refine az (iO (JN (s:={ s with heap:=h1 }) (by show A.units+1<cLine;exact hu) JP eo1 ec ed (neS a o ⟨_,_,ed⟩ eo1) (hs':=mh) (t':=t2) (by rw[hgy];exact mZ) fun h2 tk sW S2=>?_));refine wpAny_pure ⟨plainId_quiet yZ _,?_⟩;refine ih (i+1) { s with heap:=h2,toks:=tk } mh t2 (by lia) dN ?_ ?_ (sX.keeps fun b ob hb e=>(sW.2 b (neS b ob hb e)).trans e) S2 hf2 fun h3 tk3 k3 S3=>?_
   .obtain⟨oi,q1,q2⟩:=X4;exact⟨oi,(sW.2 Ia (il X3)).trans q1,q2⟩
   .obtain⟨ol,q1,q2⟩:=Wx;exact⟨ol,(sW.2 l hlS).trans q1,q2⟩
   .exact hR h3 tk3 (fun b ob hb Ww e=>k3 b ob hb Ww ((sW.2 b hb).trans ((rP.2 b Ww).trans e))) S3
theorem F5{vs:List Value}{ys:List (Int×Int)}{hsN:Bool->Array Int}{tN:Bool->SetTable}{Q:Value->Shared->Prop}(hh:A.handled=none)(hu:A.units+8<cLine)(hl:s.heap.IsList l vs.toArray)(hp:jD s.heap vs ys)(DN:∀led,vS led (ys.map (fX prog w))=some (hsN led,tN led))(h:∀ (led:Bool) (h':Heap) (tk:Nat),kH h' s.heap.objs.size (hsN led) (tN led)->(∀b o,b<s.heap.objs.size->s.heap.get? b=some o->h'.get? b=some o)->Q (.ref s.heap.objs.size) { s with heap:=h',toks:=tk }):
  wpAny (model prog w) A (call (.type "set") [.ref l]) Q E s:=by
 obtain⟨c,tl,abS⟩:=j8.mro;have c1:=j8.made;have c2:=j8.sub;refine kq (codeAny_of_tree ?_);show wpAny _ _ (callAny (.type "set") _) _ _ _;refine wpAny_pure ⟨Code.quiet_builtin _ (by decide +kernel),vv PySem.F.entry_type_call ?_⟩;rw[Around.under_plain (weight_type_call_type "set" [.ref l] []) rfl];have c3:=j8.notType;have c4:=j8.canCreate;have c5:=PySem.F.typeCall_set_1 (.ref l);repeat (any_goals (first|assumption|wp_step))
 refine l9 (code_set_new_1 (.ref l) (E:=E) (Q₁:=fun obj s₁=>∃led:Bool,obj=.ref s.heap.objs.size/\s₁={ s with heap:=s.heap.push { cls:=.type "set",dict:=none,data:=.set #[] 0 (.fresh 0 0 led) } }) fun led=>⟨led,rfl,rfl⟩) fun r s₁ hr=>?_;cases r with
 |error e=>exact hr
 |ok fl=>
  cases fl with
  |next=>exact hr.elim
  |brk=>exact hr.elim
  |cont=>exact hr.elim
  |ret obj=>
   obtain⟨led,rfl,rfl⟩:=hr;generalize X5:s.heap.push { cls:=.type "set",dict:=none,data:=.set #[] 0 (.fresh 0 0 led) }=hS;have hsz:hS.objs.size=s.heap.objs.size+1:=by rw[<-X5,i_]
   have gS:hS.get? s.heap.objs.size=some { cls:=.type "set",dict:=none,data:=.set #[] 0 (.fresh 0 0 led) }:=by rw[<-X5];exact cY _ rfl
   have up:∀b o,s.heap.get? b=some o->hS.get? b=some o:=fun b o e=>by rw[<-X5];exact bU _ e
   have hT:Shared.TypeIs { s with heap:=hS } (.ref s.heap.objs.size) "set":=⟨_,gS,rfl⟩
   have c6:=j8.init.lookup;have c7:=j8.init.bind (.ref s.heap.objs.size);repeat (any_goals (first|assumption|wp_step))
   refine l9 (u9 (R:=wants (fun r s₂=>r=.none/\∃h' tk,s₂={ s with heap:=h',toks:=tk }/\kH h' s.heap.objs.size (hsN led) (tN led)/\
     (∀b o,b<s.heap.objs.size->s.heap.get? b=some o->h'.get? b=some o)) E) j8.init.plain PySem.F.entry_set_init (check_set_init_1 hT ?_)) fun r₂ s₂ SY=>?_
   .obtain⟨ol,JQ,Mt,nl,Wy⟩:=hl;obtain⟨abT,abN,abO,X6⟩:=ol;simp only at Mt Wy;subst Mt;subst Wy;have X7:=up _ _ JQ;have c8:=PySem.F.sub_list_set;have c9:=PySem.F.sub_list_frozenset;have c10:(Value.type "list"==Value.type "dict")=false:=by decide
    have Wx:hS.IsList l vs.toArray:=⟨_,X7,rfl,nl,rfl⟩
    unfold Builtin.«set.__init__» noKeywords Builtin.Frozenset.updateFrom;generalize hPI:pyIter=PI
    wp_walk
    subst hPI;refine zZ Wx ?_;refine az (wpAny_runValue ?_);have dN:l<s.heap.objs.size:=a9 JQ;refine F4 (l:=l) (vs:=vs) (ys:=ys) (hsN:=hsN led) (tN:=tN led) (by simp[hh]) (by simp;lia) (bb dN) (by rw[hsz];exact bb (eV dN)) (by rw[hsz];exact bb (j6 _))
     (vs.length-0) 0 _ #[] (.fresh 0 0 led) rfl (bV _) ⟨_,cY _ rfl,rfl,rfl⟩ (Wx.push _) (hp.keeps fun b o _ e=>bU _ (up b o e)) ⟨_,#[],0,bU _ gS,rfl,⟨rfl,rfl⟩,rfl,by simp,rfl⟩ (DN led) fun h' tk k S'=>?_
    show wpAny _ _ _ _ _ _;refine wpAny_pure ?_;show wpAny _ _ (ret Value.none) _ _ _;refine wpAny_pure ⟨rfl,h',tk,rfl,S',fun b o hb e=>?_⟩;exact k b o (bb hb) (by rw[hsz];exact bb (eV hb)) (bU _ (up b o e))
   .cases r₂ with
    |error e=>exact SY
    |ok fl₂=>
     cases fl₂ with
     |next=>exact SY.elim
     |brk=>exact SY.elim
     |cont=>exact SY.elim
     |ret r=>
      obtain⟨rfl,h',tk,rfl,S',k⟩:=SY;repeat (any_goals (first|assumption|wp_step))
      exact h led h' tk S' k
end
open PySem
def F7(l:List Nat):Nat:=l.foldl (fun a x=>a ||| (1 <<< x)) 0
theorem DO(l:List Nat)(a j:Nat):(l.foldl (fun a x=>a ||| (1 <<< x)) a).testBit j=(a.testBit j||l.contains j):=by
 induction l generalizing a with
 |nil=>simp
 |cons x xs ih=>
  rw[g_,ih,Nat.testBit_or,List.contains_cons];have:(1 <<< x).testBit j=(j==x):=by
   rw[Nat.one_shiftLeft,Nat.testBit_two_pow];by_cases h:x=j
   .simp[h]
   .have h':¬ j=x:=fun e=>h e.symm;simp[h,h']
  rw[this,Bool.or_assoc]
theorem pS(h:F7 l=2 ^ n-1)(hj:j<n):j∈l:=by
 have e:=DO l 0 j;have h':l.foldl (fun a x=>a ||| (1 <<< x)) 0=2 ^ n-1:=h;rw[h',Nat.testBit_two_pow_sub_one] at e;simp[hj] at e;exact e
def F9(M:Nat):Nat->Nat->Nat
 |0,i=>i
 |n+1,i=>F9 M n ((i*5+1) % M)
theorem qu(M a:Nat):∀b i,F9 M (b+a) i=F9 M a (F9 M b i)
 |0,i=>by rw[jr];rfl
 |b+1,i=>by
  rw[show b+1+a=(b+a)+1 by lia];show F9 M (b+a) _=F9 M a (F9 M b _);exact qu M a b _
def Oa(M:Nat):Nat->Nat->List Nat
 |0,_=>[]
 |n+1,i=>i::Oa M n ((i*5+1) % M)
theorem rQ:∀ {n i},j∈Oa M n i->∃k,k<n/\F9 M k i=j
 |0,_,h=>by cases h
 |n+1,i,h=>by
  rcases a_.mp h with z|z
  .exact⟨0,by lia,z.symm⟩
  .obtain⟨k,a,b⟩:=rQ z;exact⟨k+1,by lia,b⟩
structure DP(M:Nat):Prop where
 all:F7 (Oa M M 0)=2 ^ M-1
 back:F9 M M 0=0
theorem X8:DP 8:=⟨by decide +kernel,by decide +kernel⟩
theorem Mx:DP 32:=⟨by decide +kernel,by decide +kernel⟩
theorem F_:DP 128:=⟨by decide +kernel,by decide +kernel⟩
theorem Ga:DP 512:=⟨by decide +kernel,by decide +kernel⟩
theorem DP.cover(R:DP M)(hi:i<M)(hj:j<M):∃n,n<M/\F9 M n i=j:=by
 obtain⟨a,ha,ea⟩:=rQ (pS R.all hi);obtain⟨b,hb,eb⟩:=rQ (pS R.all hj);by_cases h:a<=b
 .refine⟨b-a,by lia,?_⟩;rw[<-ea,<-qu,show a+(b-a)=b by lia,eb]
 .refine⟨M+b-a,by lia,?_⟩;rw[<-ea,<-qu,show a+(M+b-a)=M+b by lia,qu,R.back,eb]
def hW(mask:Nat):Nat->Nat×Nat->Nat×Nat
 |0,q=>q
 |n+1,q=>hW mask n (SetTable.leap mask q.1 q.2)
theorem ui(m a:Nat):∀b q,hW m (b+a) q=hW m a (hW m b q)
 |0,q=>by rw[jr];rfl
 |b+1,q=>by
  rw[show b+1+a=(b+a)+1 by lia];exact ui m a b _
theorem xD:∀ {n:Nat} {q:Nat×Nat},q.1<m+1->(hW m n q).1<m+1
 |0,_,h=>h
 |n+1,q,h=>xD (n:=n) (o0 _ (Nat.succ_pos _))
theorem B3:∀ {n:Nat} {q:Nat×Nat},(hW m n q).2=q.2 / 32 ^ n
 |0,_=>by simp[hW]
 |n+1,q=>by
  show (hW m n _).2=_;rw[B3];show q.2 / 32 / 32 ^ n=_;rw[zd,Nat.pow_succ,Nat.mul_comm]
theorem uj:∀ {n i:Nat},hW m n (i,0)=(F9 (m+1) n i,0)
 |0,_=>rfl
 |n+1,i=>by
  show hW m n (SetTable.leap m i 0)=_;unfold SetTable.leap;simp only[Nat.zero_div,Nat.add_zero];exact uj
theorem pT(R:DP (m+1))(hi:i<m+1)(hp:p<2 ^ 64)(hj:j<m+1):∃n,n<m+14/\(hW m n (i,p)).1=j:=by
 have h1:=xD (m:=m) (n:=13) (q:=(i,p)) hi;have h2:(hW m 13 (i,p)).2=0:=by
  rw[B3];exact Nat.div_eq_of_lt (cz hp (by decide))
 obtain⟨n,hn,e⟩:=R.cover h1 hj;refine⟨13+n,by lia,?_⟩;rw[ui];have:hW m 13 (i,p)=((hW m 13 (i,p)).1,0):=iR rfl h2;rw[this,uj];exact e
theorem B4(h:Int):SetTable.bits h<2 ^ 64:=by
 unfold SetTable.bits;have a:=kh h (show (2 ^ 64:Int)≠0 by decide);have b:=j9 h (show (0:Int)<2 ^ 64 by decide);lia
theorem SZ{M:Nat}{l:List Nat}(h:l.length<M):∃j,j<M/\j∉l:=by
 have key:∀ (a b:List Nat),a.Nodup->(∀x∈a,x∈b)->a.length<=b.length:=by
  intro a;induction a with
  |nil=>intro b _ _;exact bV _
  |cons x xs ih=>
   intro b hn hs;obtain⟨h1,h2⟩:=eX.mp hn;have hx:x∈b:=hs x bL;have:=ih (b.erase x) h2 fun y hy=>(zk (fun (e:y=x)=>h1 (e ▸ hy))).mpr (hs y (cm _ hy));rw[y6 hx] at this;have:0<b.length:=uX hx;rw[d9];lia
 apply qQ;intro JR;have:=key (List.range M) l jo fun x hx=>qQ fun Ab=>JR ⟨x,bv.mp hx,Ab⟩;rw[dQ] at this;lia
def Az(mask i p:Nat):SetTable.Probe:={ j:=i,more:=SetTable.runEnd mask i-i,i:=i,perturb:=p,dummy:=none }
theorem Ob(mask i:Nat):SetTable.runEnd mask i-i<=9:=by unfold SetTable.runEnd;split <;> lia
theorem vT{t:SetTable}(hd:t.dummies=#[])(j:Nat):t.slot j=.empty\/∃i,t.slot j=.live i/\t.place[i]?=some j:=by
 unfold SetTable.slot;dsimp only;split
 .rename_i h;exact .inr ⟨_,rfl,by simpa using h⟩
 .left;rw[hd];rfl
theorem AA{t:SetTable}(hd:t.dummies=#[]){j:Nat}(h:j∉t.place.toList):t.slot j=.empty:=by
 rcases vT hd j with e|⟨i,_,e2⟩
 .exact e
 .exact absurd (by rw[<-lV] at e2;exact dk e2) h
section
variable {t:SetTable} {hashAt:Nat->Int} {h:Int}
theorem Gb(hd:t.dummies=#[])(hh:∀i,i<t.place.size->hashAt i≠h)(i p:Nat):∀ (r:Nat) (j gW:Nat),
  (∃j',SetTable.probe.go t hashAt h (gW+r+1) { j:=j,more:=r,i:=i,perturb:=p,dummy:=none }=some (.empty j' none))\/
  SetTable.probe.go t hashAt h (gW+r+1) { j:=j,more:=r,i:=i,perturb:=p,dummy:=none }=SetTable.probe.go t hashAt h gW (Az t.mask (SetTable.leap t.mask i p).1 (SetTable.leap t.mask i p).2)
 |0,j,gW=>by
  rcases vT hd j with e|⟨k,e,e2⟩
  .exact .inl ⟨j,by unfold SetTable.probe.go;rw[e]⟩
  .right;have hk:k<t.place.size:=(Fa.mp e2).1;conv=>lhs;unfold SetTable.probe.go
   rw[e];simp only[hU,hh k hk,fQ];rfl
 |r+1,j,gW=>by
  rcases vT hd j with e|⟨k,e,e2⟩
  .exact .inl ⟨j,by rw[show gW+(r+1)+1=(gW+r+1)+1 by lia];unfold SetTable.probe.go;rw[e]⟩
  .have hk:k<t.place.size:=(Fa.mp e2).1;have st:SetTable.probe.go t hashAt h (gW+(r+1)+1) { j:=j,more:=r+1,i:=i,perturb:=p,dummy:=none }=SetTable.probe.go t hashAt h (gW+r+1) { j:=j+1,more:=r,i:=i,perturb:=p,dummy:=none }:=by
    rw[show gW+(r+1)+1=(gW+r+1)+1 by lia];conv=>lhs;unfold SetTable.probe.go
    rw[e];simp only[hU,hh k hk,fQ];rfl
   rw[st];exact Gb hd hh i p r (j+1) gW
theorem B5(hd:t.dummies=#[])(hh:∀i,i<t.place.size->hashAt i≠h):∀ (m:Nat) (i p gW:Nat),10*(m+1)<=gW->t.slot (hW t.mask m (i,p)).1=.empty->
  ∃j',SetTable.probe.go t hashAt h gW (Az t.mask i p)=some (.empty j' none)
 |0,i,p,gW,hf,e=>by
  obtain⟨f,rfl⟩:∃f,gW=f+1:=⟨gW-1,by lia⟩
  refine⟨i,?_⟩;have e':t.slot i=.empty:=e;unfold SetTable.probe.go Az;dsimp only;rw[e']
 |m+1,i,p,gW,hf,e=>by
  have hr:=Ob t.mask i;obtain⟨f,xE⟩:∃f,gW=f+(SetTable.runEnd t.mask i-i)+1:=⟨gW-(SetTable.runEnd t.mask i-i)-1,by lia⟩
  rcases Gb (hashAt:=hashAt) (h:=h) hd hh i p (SetTable.runEnd t.mask i-i) i f with z|z
  .rw[xE];exact z
  .rw[xE];show ∃j',SetTable.probe.go t hashAt h _ { j:=i,more:=_,i:=i,perturb:=p,dummy:=none }=_;rw[z];exact B5 hd hh m _ _ f (by lia) e
theorem AB(R:DP (t.mask+1))(hd:t.dummies=#[])(hs:t.place.size<=t.mask)(hh:∀i,i<t.place.size->hashAt i≠h):∃j,t.probe hashAt h (t.probeStart h)=some (.empty j none):=by
 obtain⟨j,hj,hn⟩:=SZ (M:=t.mask+1) (l:=t.place.toList) (by simpa using Nat.lt_succ_of_le hs);obtain⟨m,hm,e⟩:=pT R (o0 (SetTable.bits h) (Nat.succ_pos t.mask)) (B4 h) hj;refine B5 hd hh m _ _ _ ?_ (by rw[e];exact AA hd hn);unfold SetTable.turns;lia
end
theorem kJ{α β:Type}{f:α->Option β}:∀ {l:List α},(∀q∈l,(f q).isSome=true)->(l.filterMap f).length=l.length
 |[],_=>rfl
 |q::l,h=>by
  have hq:=h q bL;cases e:f q with
  |none=>rw[e] at hq;cases hq
  |some b=>rw[Fj e,d9,d9,kJ fun x hx=>h x (cm _ hx)]
theorem uk:∀ (m gW i p:Nat),m<gW->owner.getD (hW mask m (i,p)).1 (some 0)=none->∃j,SetTable.layClean.free mask owner gW i p=some j/\owner.getD j (some 0)=none
 |m,0,_,_,h,_=>by lia
 |m,gW+1,i,p,h,e=>by
  unfold SetTable.layClean.free;cases hf:(List.range (SetTable.runEnd mask i+1-i)).find? fun k=>(owner.getD (i+k) (some 0)).isNone with
  |some k=>
   refine⟨i+k,rfl,?_⟩;have:=List.find?_some hf;simpa using this
  |none=>
   cases m with
   |zero=>
    have h0:(0:Nat)∈List.range (SetTable.runEnd mask i+1-i):=bv.mpr (by unfold SetTable.runEnd;split <;> lia);have:=va.mp hf 0 h0;have e':owner.getD i (some 0)=none:=e;rw[Nat.add_zero,e'] at this;exact absurd rfl this
   |succ m=>
    exact uk m gW _ _ (by lia) e
structure xF(M:Nat)(owner:Array (Option Nat))(k:Nat):Prop where
 size:owner.size=M
 cnt:owner.toList.countP Option.isSome=k
 lt:∀x,some x∈owner.toList->x<k
theorem AC{l:List (Option Nat)}{j:Nat}{x:Nat}(hj:l[j]?=some none):(l.set j (some x)).countP Option.isSome=l.countP Option.isSome+1:=by
 induction l generalizing j with
 |nil=>cases hj
 |cons a l ih=>
  cases j with
  |zero=>
   obtain rfl:a=none:=by simpa using hj
   simp
  |succ j=>
   rw[List.set_cons_succ,l7,l7,ih (by simpa using hj)];lia
theorem xF.one{mask:Nat}{owner:Array (Option Nat)}{k:Nat}(L:xF (mask+1) owner k)(R:DP (mask+1))(hk:k<mask+1)(h:Int):
  ∃j,SetTable.layClean.free mask owner (SetTable.turns mask) (SetTable.bits h % (mask+1)) (SetTable.bits h)=some j/\xF (mask+1) (owner.setIfInBounds j (some k)) (k+1):=by
 have JR:∃j,j<mask+1/\owner.toList[j]?=some none:=by
  apply qQ;intro JR;have tD:∀x∈owner.toList,x.isSome=true:=by
   intro x hx;obtain⟨j,hj,e⟩:=lH.mp hx;cases x with
   |some _=>rfl
   |none=>
    refine absurd ⟨j,?_,?_⟩ JR
    .rw[<-L.size];simpa using hj
    .rw[b8 hj,e]
  have:=List.countP_eq_length.mpr tD;rw[L.cnt,mR,L.size] at this;lia
 obtain⟨j0,hj0,e0⟩:=JR;obtain⟨m,hm,em⟩:=pT R (o0 (SetTable.bits h) (Nat.succ_pos mask)) (B4 h) hj0;obtain⟨j,ej,en⟩:=uk (mask:=mask) (owner:=owner) m (SetTable.turns mask) (SetTable.bits h % (mask+1)) (SetTable.bits h) (by unfold SetTable.turns;lia)
  (by rw[em,uP,<-lV,e0];rfl)
 refine⟨j,ej,?_⟩;have hjn:owner.toList[j]?=some none:=by
  rw[uP,<-lV] at en;cases hq:owner.toList[j]? with
  |none=>rw[hq] at en;cases en
  |some v=>rw[hq] at en;rw[show v=none from en]
 have S0:(owner.setIfInBounds j (some k)).toList=owner.toList.set j (some k):=by simp
 refine⟨by simp[L.size],by rw[S0,AC hjn,L.cnt],fun x hx=>?_⟩;rw[S0] at hx;rcases List.mem_or_eq_of_mem_set hx with z|z
 .exact eV (L.lt x z)
 .cases z;exact j6 _
theorem B6(R:DP (mask+1)):∀ (l:List Int) (owner:Array (Option Nat)) (k:Nat),xF (mask+1) owner k->k+l.length<=mask->
  ∃Gc,l.foldl (fun d8 h=>do
   let (owner,k) <- d8
   let j <- SetTable.layClean.free mask owner (SetTable.turns mask) (SetTable.bits h % (mask+1)) (SetTable.bits h)
   pure (owner.setIfInBounds j (some k),k+1)) (some (owner,k))=some (Gc,k+l.length)/\xF (mask+1) Gc (k+l.length)
 |[],owner,k,L,_=>⟨owner,rfl,L⟩
 |h::l,owner,k,L,hl=>by
  rw[d9] at hl;obtain⟨j,ej,L'⟩:=L.one R (by lia) h;obtain⟨o',e,L2⟩:=B6 R l _ _ L' (by lia);refine⟨o',?_,by rw[d9,show k+(l.length+1)=k+1+l.length by lia];exact L2⟩;rw[g_];have:(do
   let (owner,k) <- some (owner,k)
   let j <- SetTable.layClean.free mask owner (SetTable.turns mask) (SetTable.bits h % (mask+1)) (SetTable.bits h)
   pure (owner.setIfInBounds j (some k),k+1):Option (Array (Option Nat)×Nat))=some (owner.setIfInBounds j (some k),k+1):=by
   show (SetTable.layClean.free mask owner (SetTable.turns mask) (SetTable.bits h % (mask+1)) (SetTable.bits h)).bind _=_;rw[ej];rfl
  rw[this,e,d9,show k+(l.length+1)=k+1+l.length by lia]
theorem xG(R:DP (mask+1))(hs:Array Int)(h:hs.size<=mask):∃owner,SetTable.layClean mask hs=some owner/\xF (mask+1) owner hs.size:=by
 have L0:xF (mask+1) (Array.replicate (mask+1) none) 0:=⟨by simp,by simp[List.countP_replicate],fun x hx=>by simp at hx⟩
 obtain⟨o,e,L⟩:=B6 R hs.toList _ 0 L0 (by simpa using h);refine⟨o,?_,by simpa using L⟩;unfold SetTable.layClean;rw[<-Array.foldl_toList];have e':=congrArg (Option.map (·.1)) e;exact e'
theorem AD(L:xF M owner n):
  ((List.range M).filterMap fun j=>(owner.getD j none).map (j,·)).length=n/\∀q∈(List.range M).filterMap (fun j=>(owner.getD j none).map (j,·)),q.2<n:=by
 constructor
 .rw[<-L.cnt];have e:owner.toList=(List.range M).map fun j=>owner.getD j none:=by
   apply zR
   .simp[L.size]
   .intro i h1 h2;simp only[vf,zD,Array.getElem_toList];rw[uP,y4 (by simpa using h1)];rfl
  conv=>rhs;rw[e]
  rw[List.countP_map];generalize List.range M=l;induction l with
  |nil=>rfl
  |cons a l ih=>
   rw[l7,<-ih];cases hq:owner.getD a none with
   |none=>rw[List.filterMap_cons_none (by rw[hq];rfl),show (Option.isSome ∘ fun j=>owner.getD j none) a=false by show (owner.getD a none).isSome=false;rw[hq];rfl];simp
   |some x=>rw[Fj (b:=(a,x)) (by rw[hq];rfl),show (Option.isSome ∘ fun j=>owner.getD j none) a=true by show (owner.getD a none).isSome=true;rw[hq];rfl];simp
 .intro q hq;obtain⟨j,_,e⟩:=oB.mp hq;cases hx:owner.getD j none with
  |none=>rw[hx] at e;cases e
  |some x=>
   rw[hx] at e;cases e;refine L.lt x ?_;rw[uP,<-lV] at hx;cases hy:owner.toList[j]? with
   |none=>rw[hy] at hx;cases hx
   |some v=>rw[hy] at hx;obtain rfl:v=some x:=hx;exact dk hy
structure xH(hs:Array Int)(t:SetTable):Prop where
 dm:t.dummies=#[]
 sz:t.place.size=hs.size
 ms:(t.mask=7/\hs.size<=4)\/(t.mask=31/\hs.size<=18)\/(t.mask=127/\hs.size<=76)\/(t.mask=511/\hs.size<=306)
theorem xH.rnd(T:xH hs t):DP (t.mask+1):=by
 rcases T.ms with ⟨e,_⟩|⟨e,_⟩|⟨e,_⟩|⟨e,_⟩ <;> rw[e]
 .exact X8
 .exact Mx
 .exact F_
 .exact Ga
theorem lN(xs:Array α)(p:Nat)(x:α):(SetTable.insertAt xs p x).size=xs.size+1:=by
 unfold SetTable.insertAt;simp;lia
theorem nC(h:y∈(SetTable.insertAt xs p x).toList):y=x\/y∈xs.toList:=by
 unfold SetTable.insertAt at h;rw[fz,oH,zo,zo] at h;rcases cK.mp h with z|z
 .rcases cK.mp z with z|z
  .right;rw[List.extract_eq_drop_take] at z;exact u5 (lW z)
  .left;simpa using z
 .right;rw[List.extract_eq_drop_take] at z;exact u5 (lW z)
theorem AE{hs:Array Int}{t:SetTable}{h:Int}(T:xH hs t)(hn:h∉hs.toList)(hl:hs.size<300):∃hs' t',gC hs t h=some (hs',t')/\xH hs' t'/\hs'.size=hs.size+1/\∀x∈hs'.toList,x=h\/x∈hs.toList:=by
 have IY:t.place.size<=t.mask:=by rw[T.sz];rcases T.ms with ⟨e,z⟩|⟨e,z⟩|⟨e,z⟩|⟨e,z⟩ <;> lia
 have hh:∀i,i<t.place.size->N9 hs i≠h:=by
  intro i hi e;rw[T.sz] at hi;unfold N9 at e;rw[y4 hi] at e;exact hn (by rw[<-e];simp)
 obtain⟨j,hp⟩:=AB (hashAt:=N9 hs) (h:=h) T.rnd T.dm IY hh;have hg:t.gaveWay=false:=by
  unfold SetTable.gaveWay;rcases T.ms with ⟨e,_⟩|⟨e,_⟩|⟨e,_⟩|⟨e,_⟩ <;> rw[e] <;> rfl
 have q1:(t.put j).1.place=SetTable.insertAt t.place (SetTable.below t.place j) j:=rfl;have q2:(t.put j).1.dummies=#[]:=by
  show (if SetTable.has t.dummies j=true then _ else t.dummies)=_;rw[T.dm];rfl
 have q3:(t.put j).1.mask=t.mask:=rfl;have s1:(SetTable.insertAt hs (t.put j).2 h).size=hs.size+1:=lN _ _ _;have s2:(t.put j).1.place.size=hs.size+1:=by rw[q1,lN,T.sz]
 have fl:(t.put j).1.fill=hs.size+1:=by unfold SetTable.fill;rw[s2,q2];rfl
 have fit:(t.put j).1.fits (SetTable.insertAt hs (t.put j).2 h).size=true:=by
  unfold SetTable.fits;rw[s1,s2,fl,q3];simp;rcases T.ms with ⟨e,z⟩|⟨e,z⟩|⟨e,z⟩|⟨e,z⟩ <;> lia
 unfold gC;rw[hg,aq cP,hp];dsimp only;rw[ak (by rw[fit,s1];simp;lia)];by_cases hf:(t.put j).1.tooFull=true
 .rw[ak hf];have xE:=hf;unfold SetTable.tooFull at xE;rw[fl,q3] at xE;have hf2:(hs.size+1)*5>=t.mask*3:=by simpa using xE
  have gr:SetTable.grown (hs.size+1)=(hs.size+1)*4:=by unfold SetTable.grown;rw[aq (by lia)]
  obtain⟨m2,em2,S4,R2⟩:∃m2,SetTable.sizeAbove (SetTable.grown (hs.size+1))=m2+1/\((m2=31/\hs.size+1<=18)\/(m2=127/\hs.size+1<=76)\/(m2=511/\hs.size+1<=306))/\DP (m2+1):=by
   rw[gr];rcases T.ms with ⟨e,z⟩|⟨e,z⟩|⟨e,z⟩|⟨e,z⟩
   .have:hs.size=4:=by lia
    exact⟨31,by rw[this];rfl,.inl ⟨rfl,by lia⟩,Mx⟩
   .have:hs.size=18:=by lia
    exact⟨127,by rw[this];rfl,.inr (.inl ⟨rfl,by lia⟩),F_⟩
   .have:hs.size=76:=by lia
    exact⟨511,by rw[this];rfl,.inr (.inr ⟨rfl,by lia⟩),Ga⟩
   .lia
  have hm3:(SetTable.insertAt hs (t.put j).2 h).size<=m2:=by rw[s1];rcases S4 with ⟨e,z⟩|⟨e,z⟩|⟨e,z⟩ <;> lia
  obtain⟨owner,eo,L⟩:=xG R2 (SetTable.insertAt hs (t.put j).2 h) hm3;obtain⟨S5,X9⟩:=AD L;rw[s1] at S5 X9;generalize S6:(List.range (m2+1)).filterMap (fun j=>(owner.getD j none).map (j,·))=live at S5 X9;have er:(t.put j).1.relaid (SetTable.insertAt hs (t.put j).2 h) (SetTable.grown (hs.size+1))=some ({ mask:=m2,place:=(live.map (·.1)).toArray,dummies:=#[],finger:=(t.put j).1.finger,led:=(t.put j).1.led,moves:=(t.put j).1.movedTo m2,plain:=(t.put j).1.plain },(live.map (·.2)).toArray):=by
   unfold SetTable.relaid SetTable.laid;rw[em2];simp only[Nat.add_sub_cancel];rw[eo];show some _=some _;rw[<-S6]
  rw[er];dsimp only;have Ay:((live.map (·.2)).toArray.filterMap ((SetTable.insertAt hs (t.put j).2 h)[·]?)).size=hs.size+1:=by
   rw[<-mR,uZ];show ((live.map (·.2)).filterMap _).length=_;rw[<-S5,List.filterMap_map];refine kJ fun q hq=>?_;show ((SetTable.insertAt hs (t.put j).2 h)[q.2]?).isSome=true;rw[y4 (by rw[s1];exact X9 q hq)];rfl
  have emf:∀x,({ mask:=m2,place:=(live.map (·.1)).toArray,dummies:=#[],finger:=(t.put j).1.finger,led:=(t.put j).1.led,moves:=(t.put j).1.movedTo m2,plain:=(t.put j).1.plain }:SetTable).fits x=(decide (hs.size+1=x)&&decide (hs.size+1<=m2)):=by
   intro x;unfold SetTable.fits SetTable.fill;simp[S5];rw[jS];simp
  rw[ak (by
   rw[Ay,s1,emf,em2];have:hs.size+1<=m2:=by rw[<-s1];exact hm3
   simp[this];rcases S4 with ⟨e,z⟩|⟨e,z⟩|⟨e,z⟩ <;> lia)]
  refine⟨_,_,rfl,⟨rfl,?_,?_⟩,Ay,fun x hx=>?_⟩
  .rw[Ay];simp[S5]
  .rw[Ay];exact .inr S4
  .rw[uZ] at hx;obtain⟨k,_,ek⟩:=oB.mp hx;refine nC (p:=(t.put j).2) ?_;rw[<-lV] at ek;exact dk ek
 .rw[aq hf];refine⟨_,_,rfl,⟨q2,by rw[s2,s1],?_⟩,s1,fun x hx=>nC hx⟩;have xE:¬ (hs.size+1)*5>=t.mask*3:=by
   intro z;refine hf ?_;unfold SetTable.tooFull;rw[fl,q3];simpa using z
  rw[s1,q3];rcases T.ms with ⟨e,z⟩|⟨e,z⟩|⟨e,z⟩|⟨e,z⟩ <;> lia
theorem pU:∀ (l:List Int) (hs:Array Int) (t:SetTable),xH hs t->(∀x∈l,x∉hs.toList)->l.Nodup->hs.size+l.length<=300->∃hs' t',l.foldlM (fun q h=>gC q.1 q.2 h) (hs,t)=some (hs',t')/\hs'.size=hs.size+l.length
 |[],hs,t,_,_,_,_=>⟨hs,t,rfl,rfl⟩
 |h::l,hs,t,T,hn,nd,hl=>by
  rw[d9] at hl;obtain⟨n1,n2⟩:=eX.mp nd;obtain⟨ES,t1,e1,T1,z1,m1⟩:=AE T (hn h bL) (by lia);obtain⟨mh,t2,e2,z2⟩:=pU l ES t1 T1 (fun x hx hy=>by
   rcases m1 x hy with e|e
   .exact n1 (e ▸ hx)
   .exact hn x (cm _ hx) e) n2 (by lia)
  refine⟨mh,t2,?_,by rw[z2,z1,d9];lia⟩;rw[List.foldlM_cons];show (gC hs t h).bind _=_;rw[e1];exact e2
theorem DQ(led:Bool)(nd:l.Nodup)(hl:l.length<=300):∃hs t,vS led l=some (hs,t)/\hs.size=l.length:=by
 obtain⟨hs,t,e,z⟩:=pU l #[] (SetTable.fresh 0 0 led) ⟨rfl,rfl,.inl ⟨rfl,by decide⟩⟩ (fun x _ h=>by simp at h) nd (by simpa using hl);exact⟨hs,t,e,by simpa using z⟩
def B7:List Nat->Nat->Bool
 |[],_=>true
 |x::xs,d8=>bif Nat.testBit d8 x then false else B7 xs (d8 ||| (1 <<< x))
theorem xI:∀ (l:List Nat) (d8:Nat),B7 l d8=true->l.Nodup/\∀x∈l,d8.testBit x=false
 |[],_,_=>⟨oR,fun x h=>(nomatch h)⟩
 |x::xs,d8,h=>by
  unfold B7 at h;cases hb:d8.testBit x with
  |true=>rw[hb] at h;cases h
  |false=>
   rw[hb] at h;obtain⟨nd,hx⟩:=xI xs _ h;have hor:∀y∈xs,d8.testBit y=false/\y≠x:=by
    intro y hy;have:=hx y hy;rw[Nat.testBit_or,Nat.one_shiftLeft,Nat.testBit_two_pow] at this;rw[Bool.or_eq_false_iff] at this;exact⟨this.1,fun e=>by have:=this.2;simp[e] at this⟩
   refine⟨eX.mpr ⟨fun hm=>(hor x hm).2 rfl,nd⟩,fun y hy=>?_⟩;rcases a_.mp hy with z|z
   .rw[z];exact hb
   .exact(hor y z).1
def rR:List (Int×Int):=(List.range 32).flatMap fun a=>(List.range 32).map fun b=>(Int.ofNat a,Int.ofNat b)
def My(h:Int):Nat:=(h % 6554).toNat
theorem DS(P:Program)(w:World):B7 (rR.map fun y=>My (fX P w y)) 0=true:=by kernel_rfl
theorem B8(h1:0<=y.1/\y.1<32)(h2:0<=y.2/\y.2<32):y∈rR:=by
 unfold rR;refine zQ.mpr ⟨y.1.toNat,bv.mpr (by lia),bj.mpr ⟨y.2.toNat,bv.mpr (by lia),iR ?_ ?_⟩⟩
 .show ((y.1.toNat:Nat):Int)=y.1;lia
 .show ((y.2.toNat:Nat):Int)=y.2;lia
theorem lO:∀ {l:List α},(l.map f).Nodup->∀x∈l,∀y∈l,f x=f y->x=y
 |[],_,_,h,_,_,_=>by cases h
 |a::l,h,x,hx,y,hy,e=>by
  rw[eG] at h;obtain⟨h1,h2⟩:=eX.mp h;rcases a_.mp hx with z|z <;> rcases a_.mp hy with z'|z'
  .rw[z,z']
  .exact absurd (bj.mpr ⟨y,z',by rw[<-e,z]⟩) h1
  .exact absurd (bj.mpr ⟨x,z,by rw[e,z']⟩) h1
  .exact lO h2 x z y z' e
theorem vU(hx:(0<=x.1/\x.1<32)/\(0<=x.2/\x.2<32))(hy:(0<=y.1/\y.1<32)/\(0<=y.2/\y.2<32))(e:fX P w x=fX P w y):x=y:=
 lO (xI _ _ (DS P w)).1 x (B8 hx.1 hx.2) y (B8 hy.1 hy.2) (congrArg My e)
theorem pi:∀ {l:List α},l.Nodup->(∀x∈l,∀y∈l,f x=f y->x=y)->(l.map f).Nodup
 |[],_,_=>oR
 |a::l,h,hf=>by
  obtain⟨h1,h2⟩:=eX.mp h;rw[eG];refine eX.mpr ⟨fun z=>?_,pi h2 fun x hx y hy=>hf x (cm _ hx) y (cm _ hy)⟩;obtain⟨y,hy,e⟩:=bj.mp z;have:=hf y (cm _ hy) a bL e;exact h1 (this ▸ hy)
theorem xJ{P:Program}{w:World}(led:Bool){ys:List (Int×Int)}(nd:ys.Nodup)(hr:∀y∈ys,(0<=y.1/\y.1<32)/\(0<=y.2/\y.2<32))(hl:ys.length<=300):
  ∃hs t,vS led (ys.map (fX P w))=some (hs,t)/\hs.size=ys.length:=by
 obtain⟨hs,t,e,z⟩:=DQ led (pi nd fun x hx y hy e=>vU (P:=P) (w:=w) (hr x hx) (hr y hy) e) (by rw[aO];exact hl);exact⟨hs,t,e,by rw[z,aO]⟩
theorem B9:∀ {as:List Addr} {its:List Value},aZ (as.map V.ref) its->its=as.map Value.ref
 |[],_,r=>by cases r;rfl
 |a::as,_,r=>by
  cases r with
  |cons r rr=>
   obtain rfl:=(show _=Value.ref a from r)
   rw[B9 rr];rfl
def JS(D:Addr)(n:Nat):HO:=.ext fun h=>∃hs t,kH h D hs t/\hs.size=n
section
variable {X:Cx}
def S7(K:PySem.W.Frag):List V->Hp->VK->Prop:=fun xs H Q=>∃ (l:Addr) (as:List Addr) (ys:List (Int×Int)),xs=[.ref l]/\a8 K H l (as.map V.ref)/\as.length=ys.length/\
 (∀i,i<ys.length->F0 K H (as.getD i 0) (ys.getD i (0,0)))/\ys.Nodup/\(∀y∈ys,(0<=y.1/\y.1<32)/\(0<=y.2/\y.2<32))/\ys.length<=300/\∀D,H D=none->Q (.ref D) (upd H D (JS D ys.length))
theorem DT(hc:X.calm=true)(hu:X.A.units+8<cLine):fU X (.type "set") (S7 X.K):=by
 intro ae s σ H xs us Q I r h;obtain⟨l,as,ys,rfl,hl,dO,hp,nd,rg,h3,q⟩:=h;obtain⟨u1,rfl,r1⟩:=r.one;obtain rfl:u1=Value.ref l:=r1;obtain⟨its,rv,pl,hz⟩:=I.list hl;have e:=B9 rv;subst e;have hpi:jD s.heap (as.map Value.ref) ys:=⟨by rw[aO,dO],fun i v hv=>by
  rw[bu] at hv;cases ea:as[i]? with
  |none=>rw[ea] at hv;cases hv
  |some a=>
   rw[ea] at hv;obtain rfl:Value.ref a=v:=bh hv;have hi:i<as.length:=(cu.mp ea).1;obtain⟨o,n,t,u,e1,c,d⟩:=Aw I (hp i (by lia));have eg:as.getD i 0=a:=by rw[bZ,ea];rfl
   rw[eg] at e1;exact⟨a,o,n,t,u,rfl,e1,c,d⟩⟩
 have DN:∀led,∃q:Array Int×SetTable,vS led (ys.map (fX X.prog X.w))=some q/\q.1.size=ys.length:=fun led=>
  let ⟨hs,t,e,z⟩:=xJ (P:=X.prog) (w:=X.w) led nd rg h3;⟨(hs,t),e,z⟩
 refine F5 (I.ok.hd hc) hu pl.isList hpi (hsN:=fun led=>(DN led).choose.1) (tN:=fun led=>(DN led).choose.2) (fun led=>(DN led).choose_spec.1) fun led h' tk S' k=>?_;refine⟨.ref s.heap.objs.size,_,I.BZ (t':=tk) (o:=JS s.heap.objs.size ys.length) (fun b u e=>k b u (a9 e) e) (oA (aI _)) ⟨⟨_,_,S',(DN led).choose_spec.2⟩,?_,fun h1 h2 ⟨hs,t,⟨o,es,ep,q1,q2⟩,z⟩ kk=>⟨hs,t,⟨o,es,ep,kk o q1,q2⟩,z⟩⟩,rfl,q _ I.fresh⟩;obtain⟨o,_,_,q1,_⟩:=S';exact⟨o,q1⟩
theorem xK:fU X (.builtin "len") (fun xs H Q=>∃D n,xs=[.ref D]/\H D=some (JS D n)/\n<=4096/\Q (.int n) H):=by
 intro ae s σ H xs us Q I r h;obtain⟨D,n,rfl,e,hn,q⟩:=h;obtain⟨u1,rfl,r1⟩:=r.one;obtain rfl:u1=Value.ref D:=r1;obtain⟨⟨hs,t,⟨o,es,ep,q1,q2,q3,q4,q5,q6⟩,z⟩,_⟩:=(show cg X.prog X.w H s.heap D (JS D n) from I.bE D _ e)
 have hsz:es.size=n:=by rw[<-z,<-q5,ik]
 exact call_len_set q1 ⟨q2,q3.1,q3.2⟩ q4 q6 (by rw[hsz];lia) ⟨.int n,H,I.tok _,⟨_,by rw[hsz]⟩,q⟩
theorem kK:fU X (.type "range") (fun xs H Q=>∃n,xs=[.int n]/\∀p,H p=none->Q (.ref p) (upd H p (.Fl 0 n))):=by
 intro ae s σ H xs us Q I r h;obtain⟨n,rfl,q⟩:=h;obtain⟨u1,rfl,t,rfl⟩:=r.one;refine call_range_1 ⟨.ref s.heap.objs.size,_,I.laid (o:=.Fl 0 n) (fun b u e=>bU _ e) (aI _) ⟨_,_,_,cY _ rfl⟩,rfl,q _ I.fresh⟩
theorem mn(hc:X.calm=true):fU X (.type "list") (fun xs H Q=>∃ (p:Addr) (n:Nat),xs=[.ref p]/\H p=some (.Fl 0 n)/\n<=1000/\∀l,H l=none->Q (.ref l) (upd H l (.lst ((List.range n).map fun (i:Nat)=>V.int i)))):=by
 intro ae s σ H xs us Q I r h;obtain⟨p,n,rfl,e,hn,q⟩:=h;obtain⟨u1,rfl,r1⟩:=r.one;obtain rfl:u1=Value.ref p:=r1;obtain⟨t,u,v,hp⟩:=(show cg X.prog X.w H s.heap p (.Fl 0 n) from I.bE p _ e)
 refine call_list_range (n:=n) (I.ok.hd hc) (show IsRange s.heap p 0 n 1 t u v from hp) (small_one (by lia) (by lia) (by lia) (by lia)) (by rw[rangeSize_one];split <;> lia) (by lia) fun h' tk d8 c k g it=>?_;obtain⟨i1,i2⟩:=it;refine⟨.ref s.heap.objs.size,_,I.BZ (t':=tk) (o:=.lst ((List.range n).map fun (i:Nat)=>V.int i)) (fun b u e=>k b u e) (oA (aI _)) ⟨?_,d8.toList,c,?_,by simpa using g⟩,rfl,q _ I.fresh⟩
 .rw[aO,dQ];exact aX hn (by decide)
 .have go:∀ (m:Nat) (l:List Value),l.length=m->(∀ (j:Nat) v,l[j]?=some v->∃t,v=Value.int (0+(j:Int)*1) t)->aZ ((List.range m).map fun (i:Nat)=>V.int i) l:=by
   intro m;induction m with
   |zero=>intro l hl _;cases l with
    |nil=>exact .nil
    |cons _ _=>cases hl
   |succ m ih=>
    intro l hl hv;have jb:l≠[]:=by intro z;rw[z] at hl;cases hl
    have el:l=l.dropLast++[l.getLast jb]:=(List.dropLast_concat_getLast jb).symm;rw[ii,cR,el];have Wy:l.dropLast.length=m:=by rw[List.length_dropLast,hl];rfl
    refine aZ.append (ih _ Wy fun j v hj=>hv j v ?_) (.cons ?_ .nil)
    .rw[el];have Gd:j<l.dropLast.length:=(cu.mp hj).1;rw[jM Gd];exact hj
    .obtain⟨t,ht⟩:=hv m (l.getLast jb) (by
      rw[List.getLast_eq_getElem,b8 (by lia:m<l.length)];simp[hl])
     exact⟨t,by rw[ht];simp⟩
  exact go n d8.toList (by simpa using i1) fun j v hj=>i2 j v (by simpa using hj)
end
def iH(e:V->V->Bool):List V->List V->Bool
 |[],[]=>true
 |x::xs,y::ys=>e x y&&iH e xs ys
 |_,_=>false
theorem kL:∀ {xs ys:List V},xs.length=ys.length->iH e xs ys=(List.range xs.length).all fun i=>e (xs.getD i .cf) (ys.getD i .cf)
 |[],[],_=>rfl
 |x::xs,y::ys,h=>by
  have h':xs.length=ys.length:=by simpa using h
  rw[iH,kL h',d9,uW,oT,List.all_map];rfl
 |[],_::_,h=>by simp at h
 |_::_,[],h=>by simp at h
theorem ul:∀ {xs ys:List V},xs.length≠ys.length->iH e xs ys=false
 |[],[],h=>absurd rfl h
 |x::xs,y::ys,h=>by
  have h':xs.length≠ys.length:=fun z=>h (by simp[z]);rw[iH,ul h',Bool.and_false]
 |[],_::_,_=>rfl
 |_::_,[],_=>rfl
section
variable {X:Cx}
def S8(X:Cx)(H:Hp)(e:V->V->Bool)(x y:V):Prop:=∀ (ae:List (Addr×Obj)) (s:Shared) (σ:St) (A:Around) (u v:Value),aM X ae σ H s->A.units+1<cLine->bA x u->bA y v->SeqAt.EqAt A s u v (e x y)
def X_(X:Cx)(Mr:Bool)(e:V->V->Bool):R2:=fun x y H Q=>∃p q xs ys,x=.ref p/\y=.ref q/\a8 X.K H p xs/\a8 X.K H q ys/\(∀i,i<xs.length->i<ys.length->S8 X H e (xs.getD i .cf) (ys.getD i .cf))/\Q (.bl (if Mr then !iH e xs ys else iH e xs ys)) H
theorem Ge(I:aM X ae σ H s)(hu:A.units+1<cLine)(rx:aZ xs us)(ry:aZ ys vs)(he:∀i,i<xs.length->i<ys.length->S8 X H e (xs.getD i .cf) (ys.getD i .cf)):∀j (h1:j<us.toArray.size) (h2:j<vs.toArray.size),SeqAt.EqAt A s us.toArray[j] vs.toArray[j] (e (xs.getD j .cf) (ys.getD j .cf)):=by
 intro j h1 h2;have j1:j<xs.length:=by rw[rx.length];simpa using h1
 have j2:j<ys.length:=by rw[ry.length];simpa using h2
 have e1:xs[j]?=some (xs.getD j .cf):=by rw[bZ,b8 j1];rfl
 have e2:ys[j]?=some (ys.getD j .cf):=by rw[bZ,b8 j2];rfl
 obtain⟨u,Ya,ru⟩:=rx.get e1;obtain⟨v,S9,rv⟩:=ry.get e2;have eu:us.toArray[j]=u:=by
  have:us[j]?=some us.toArray[j]:=by simp at h1 |-
  rw[Ya] at this;exact(bh this).symm
 have ev:vs.toArray[j]=v:=by
  have:vs[j]?=some vs.toArray[j]:=by simp at h2 |-
  rw[S9] at this;exact(bh this).symm
 rw[eu,ev];exact he j j1 j2 ae s σ A u v I hu ru rv
theorem Oc{e:V->V->Bool}(hu:X.A.units+2<cLine):m9 X (compareOp .NotEq) (X_ X true e):=by
 intro ae s σ H x y v u Q I rx ry h;obtain⟨p,q,xs,ys,rfl,rfl,hp,hq,he,k⟩:=h;obtain rfl:v=Value.ref p:=rx;obtain rfl:u=Value.ref q:=ry;obtain⟨us,r1,p1,_⟩:=I.list hp;obtain⟨vs,r2,p2,_⟩:=I.list hq;by_cases hl:xs.length=ys.length
 .refine SeqAt.RcNeAt.lists (e:=fun i=>e (xs.getD i .cf) (ys.getD i .cf)) p1.isList p2.isList (by simp only[cB];rw[<-r1.length,<-r2.length];exact hl) (by lia) (Ge I (by show X.A.units+1+1<cLine;lia) r1 r2 he) _ _ _ _ ⟨.bl _,H,I,rfl,?_⟩;rw[show us.toArray.size=xs.length by rw[cB,r1.length],<-kL hl];exact k
 .refine SeqAt.RcNeAt.lists_lengths p1.isList p2.isList (by simp only[cB];rw[<-r1.length,<-r2.length];simpa using hl) (by lia) _ _ _ _ ⟨.bl _,H,I,rfl,?_⟩;have k':=k;rw[ul hl] at k';exact k'
theorem um(hc:X.calm=true):fU X (.builtin "any") (fun xs H Q=>∃ (p:Addr) (bs:List Bool),xs=[.ref p]/\a8 X.K H p (bs.map V.bl)/\Q (.bl (bs.any id)) H):=by
 intro ae s σ H xs us Q I r h;obtain⟨p,bs,rfl,hp,q⟩:=h;obtain⟨u1,rfl,r1⟩:=r.one;obtain rfl:u1=Value.ref p:=r1;obtain⟨its,rv,pl,hz⟩:=I.list hp;have Od:its=bs.map Value.bool:=by
  have go:∀ (bs:List Bool) (its:List Value),aZ (bs.map V.bl) its->its=bs.map Value.bool:=by
   intro bs;induction bs with
   |nil=>intro its r;cases r;rfl
   |cons b bs ih=>
    intro its r;cases r with
    |cons r rr=>
     obtain rfl:=(show _=Value.bool b from r)
     rw[ih _ rr];rfl
  exact go bs its rv
 subst Od;obtain⟨ob,hob,_⟩:=id pl.isList;have dN:p<s.heap.objs.size:=a9 hob;refine call_any_walk (zZ pl.isList ⟨s.heap.objs.size,_,_,_,_,_,fun i=>bs.getD i false,rfl,Walks.list (show X.A.in1.handled=none from I.ok.hd hc) _ p (bb dN) _,⟨⟨_,cY _ rfl,rfl,rfl⟩,pl.isList.push _⟩,fun i v s1 Q' E' hv hq=>?_,fun h' tk k=>?_⟩)
 .have Jr:(bs.map Value.bool)[i]?=some v:=by simpa using hv
  rw[bu] at Jr;cases eb:bs[i]? with
  |none=>rw[eb] at Jr;cases Jr
  |some b=>
   rw[eb] at Jr;obtain rfl:Value.bool b=v:=bh Jr;have:bs.getD i false=b:=by rw[bZ,eb];rfl
   have NS:Q' b s1:=by rw[<-this];exact hq
   exact wpAny_pure NS
 .have keep:∀b o,s.heap.get? b=some o->h'.get? b=some o:=fun b o e=>k b o (by simpa using bb (a9 e)) (bU _ e);refine⟨.bl (bs.any id),H,I.kept (t':=tk) keep,?_,q⟩;show Value.bool _=Value.bool _;congr 1;have go:∀ (bs:List Bool),((List.range bs.length).any fun i=>bs.getD i false)=bs.any id:=by
   intro bs;induction bs with
   |nil=>rfl
   |cons b bs ih=>
    rw[d9,uW,iM,List.any_map,iM,<-ih];rfl
  rw[<-go bs];simp
end
def kM(c:Addr)(qual:Str):HO:=.ext fun h=>h.CodeRec (.ref c) qual
theorem Gf(x:h.CodeRec (.ref c) qual):cg P w H h c (kM c qual):=by
 refine⟨x,?_,?_⟩
 .obtain⟨c',o,vs,t,e,ho,_⟩:=x;cases e;exact⟨o,ho⟩
 .rintro h1 h2 ⟨c',o,vs,t,e,ho,r⟩ k;cases e;exact⟨c,o,vs,t,rfl,k o ho,r⟩
def Mz(f:Addr)(qual:Str)(params:Arguments)(body:Expr)(scope:Scope)(cells:List (Str×Addr))(c:Addr)(h:Heap):Prop:=
 ∃ (bT:List (Str×Addr)) (pm sY:Value),(∀x a,bT.lookup x=some a->cells.lookup x=some a)/\(∀x,(x,NameKind.free)∈scope.names->∃a,bT.lookup x=some a)/\
  h.get? f=some (PySem.W.kla_obj "<lambda>" qual params body scope bT pm c sY)
def nE(f:Addr)(qual:Str)(params:Arguments)(body:Expr)(scope:Scope)(cells:List (Str×Addr))(c:Addr):HO:=.ext (Mz f qual params body scope cells c)
theorem B_(x:Mz f qual params body scope cells c h):
  cg P w H h f (nE f qual params body scope cells c):=by
 refine⟨x,?_,?_⟩
 .obtain⟨_,_,_,_,_,e⟩:=x;exact⟨_,e⟩
 .rintro h1 h2 ⟨bT,pm,sY,a,b,e⟩ k;exact⟨bT,pm,sY,a,b,k _ e⟩
def cr(lp:Pos)(qual:Str)(P:Addr)(H:Hp):Prop:=H P=some (.j3 #[])\/∃c,H P=some (.j3 #[rawInt lp.line,rawInt lp.col,.ref c])/\H c=some (kM c qual)
structure JT(X:Cx)(c P:Addr):Prop where
 code:X.env.code=.ref c
 hd:PySem.W.CodeHd X.base c P
 bm:∃bm o,X.mg "__builtins__"=some (.ref bm)/\bm≠builtinsNs/\bm≠mainGlobals/\X.base.get? bm=some o/\o.cls=.type "module"/\o.dict=some builtinsNs/\o.data=.plain
def Yb(lp:Pos)(qual:Str)(P:Addr)(params:Arguments)(body:Expr)(scope:Scope)(cells:List (Str×Addr)):TE:=fun _ H Q=>cr lp qual P H/\
 ∀ (f c:Addr) (H2:Hp),cr lp qual P H2->(∀b o,H b=some o->b≠P->H2 b=some o)->H2 c=some (kM c qual)->H2 f=some (nE f qual params body scope cells c)->Q (.ref f) H2
theorem xL{lp:Pos}{c:Addr}:TriplesOk (#[rawInt lp.line,rawInt lp.col,.ref c]:Array Value).toList:=trivial
theorem DU:codeAmong lp (#[rawInt lp.line,rawInt lp.col,.ref c]:Array Value).toList=some (.ref c):=by
 show (if ((lp.line:Int)==(lp.line:Int)&&(lp.col:Int)==(lp.col:Int))=true then some (Value.ref c) else _)=_;simp
section
variable {X:Cx} {c P:Addr} {params:Arguments} {body:Expr} {scope:Scope} {lp:Pos} {NB:List Str} {src:List (Option Nat)}
theorem JT.at(C:JT X c P)(I:aM X ae σ H s)(hP:H P=some (.j3 ps)):s.heap.BuiltinsAt X.mg P:=by
 obtain⟨bm,o,b1,b2,b3,b4,b5,b6,b7⟩:=C.bm;refine⟨bm,o,b1,b2,b3,fun z=>?_,I.bk _ _ b4,b5,b6,b7⟩;have:=(I.bs _ _ b4).2;rw[z,hP] at this;cases this
theorem aM.MA(I:aM X ae σ H s):s.heap.Ns mainGlobals X.mg:=I.mod.glob.keeps I.bk
theorem vV(C:JT X c P)(S:gU NB src scope X)(Yc:defaultsOf params X.env=([],[]):=by rfl):PE X (.Lambda params body scope lp) (Yb lp (X.env.qual++"<lambda>") P params body scope X.env.cells):=by
 intro ae s σ H Q I h;obtain⟨tab,h⟩:=h;obtain⟨bT,ecl,c1,c2⟩:=mj I.ok S;refine PySem.W.kla_eval Yc ?_;have hsz:∀b o,s.heap.get? b=some o->b<s.heap.objs.size:=fun b o e=>a9 e;rcases tab with hP|⟨c',hP,z9⟩
 .-- the first time
  have S_:s.heap.get? P=some (PySem.W.tabObj #[]):=I.bE P _ hP;have hPL:X.env.locals≠P:=fun z=>by have f:=I.free;rw[z,hP] at f;cases f
  have hPg:mainGlobals≠P:=fun z=>by
   obtain⟨o,es,ep,e,d,_⟩:=I.mod.glob;have:=(I.bs _ _ e).2;rw[z,hP] at this;cases this
  refine PySem.W.kla_makeFunction (mg:=X.mg) ecl I.ok.glob I.MA C.code (C.hd.keeps I.bk) S_ (by trivial) rfl hPg (C.at I hP) fun c' sY h' tk hx JU dN Yd htb=>?_;have JV:∀b o,b≠P->s.heap.get? b=some o->(h'.push (PySem.W.kla_obj "<lambda>" (X.env.qual++"<lambda>") params body scope bT ((X.mg "__name__").getD .none) c' sY)).get? b=some o:=fun b o hb e=>bU _ (hx b o hb e);have hcP:c'≠P:=iP (cz (hsz _ _ S_) JU);have hfP:h'.objs.size≠P:=iP (cz (hsz _ _ S_) (aX JU (kl dN)));have hfc:h'.objs.size≠c':=iP dN;have nf:H h'.objs.size=none:=I.bE.fresh (by lia);have nc:H c'=none:=I.bE.fresh JU
  let H2:Hp:=upd (upd (upd H P (.j3 #[rawInt lp.line,rawInt lp.col,.ref c'])) c' (kM c' (X.env.qual++"<lambda>"))) h'.objs.size (nE h'.objs.size (X.env.qual++"<lambda>") params body scope X.env.cells c')
  have eP:H2 P=some (.j3 #[rawInt lp.line,rawInt lp.col,.ref c']):=by
   show upd _ _ _ _=_;rw[ao hfP.symm,ao hcP.symm,af]
  have ec:H2 c'=some (kM c' (X.env.qual++"<lambda>")):=by
   show upd _ _ _ _=_;rw[ao hfc.symm,af]
  have ef:H2 h'.objs.size=some (nE h'.objs.size (X.env.qual++"<lambda>") params body scope X.env.cells c'):=af;have eo:∀b,b≠P->b≠c'->b≠h'.objs.size->H2 b=H b:=fun b h1 h2 h3=>by
   show upd _ _ _ _=_;rw[ao h3,ao h2,ao h1]
  have h_:∀b o,H b=some o->b≠P->H2 b=some o:=fun b o e hb=>by
   rw[eo b hb (am e nc) (am e nf)];exact e
  have I2:aM X ae σ H2 { s with heap:=h'.push (PySem.W.kla_obj "<lambda>" (X.env.qual++"<lambda>") params body scope bT ((X.mg "__name__").getD .none) c' sY),toks:=tk }:=by
   refine I.step (g':=s.gens) (d':=s.drawn) (ch:=[]) (fun _ z=>absurd z (by simp)) (fun b o _ _ _ e n=>JV b o (fun z=>by rw[z,hP] at n;cases n) e) (fun b o _ _ _ e n=>⟨o.slots,JV b o (fun z=>by rw[z,hP] at n;cases n) e⟩)
    (fun b o _ e n=>?_) (fun b o _ e=>?_) (fun b xs e=>h_ b _ e fun z=>by rw[z,hP] at e;cases e) (fun b o u e=>h_ b _ e fun z=>by rw[z,hP] at e;cases e) (fun b ps e=>?_) (fun m hm=>?_) (fun b o e=>?_) I.bare
   .rw[eo b (fun z=>by rw[z,hP] at n;cases n) (bb (cz (hsz b o e) JU)) (bb (cz (hsz b o e) (aX JU (kl dN))))];exact n
   .by_cases hb:b=P
    .exact⟨_,by rw[hb];exact bU _ htb⟩
    .exact⟨o,JV b o hb e⟩
   .by_cases hb:b=P
    .rw[hb] at e |-;rw[hP] at e;cases e;exact⟨#[rawInt lp.line,rawInt lp.col,.ref c'],by rw[eP];simp⟩
    .exact⟨#[],by rw[h_ b _ e hb];simp⟩
   .exact(hm.extBut hx hPL).push _
   .by_cases hbf:b=h'.objs.size
    .subst hbf;rw[ef] at e;cases e;exact B_ ⟨bT,_,sY,c1,c2,cY _ rfl⟩
    .by_cases XZ:b=c'
     .subst XZ;rw[ec] at e;cases e;refine Gf ?_;obtain⟨c₂,oc,vs,t,e2,Wm,r⟩:=Yd;exact⟨c₂,oc,vs,t,e2,bU _ Wm,r⟩
     .by_cases Ye:b=P
      .subst Ye;rw[eP] at e;cases e;exact bU _ htb
      .rw[eo b Ye XZ hbf] at e;refine(I.bE b o e).mT (fun d u hd q=>JV d u ?_ q) (fun d q=>h_ d _ q fun z=>by rw[z,hP] at q;cases q) fun d xs q=>h_ d _ q fun z=>by rw[z,hP] at q;cases q
       rintro rfl;rcases hd with z|z
       .exact Ye z.symm
       .rw[hP] at z;cases z
  exact⟨.ref h'.objs.size,H2,I2,rfl,h _ c' H2 (.inr ⟨c',eP,ec⟩) h_ ec ef⟩
 .-- again
  have S_:s.heap.get? P=some (PySem.W.tabObj #[rawInt lp.line,rawInt lp.col,.ref c']):=I.bE P _ hP;refine PySem.W.kla_makeFunctionHit (mg:=X.mg) ecl I.ok.glob I.MA C.code (C.hd.keeps I.bk) S_ xL DU (C.at I hP) fun sY h' tk hk JU=>?_;have nf:H h'.objs.size=none:=I.bE.fresh JU
  let H2:Hp:=upd H h'.objs.size (nE h'.objs.size (X.env.qual++"<lambda>") params body scope X.env.cells c')
  have ef:H2 h'.objs.size=some (nE h'.objs.size (X.env.qual++"<lambda>") params body scope X.env.cells c'):=af;have h_:∀b o,H b=some o->H2 b=some o:=fun b o e=>by
   show upd _ _ _ _=_;rw[ao (am e nf)];exact e
  have JV:∀b o,s.heap.get? b=some o->(h'.push (PySem.W.kla_obj "<lambda>" (X.env.qual++"<lambda>") params body scope bT ((X.mg "__name__").getD .none) c' sY)).get? b=some o:=fun b o e=>bU _ (hk b o e);have I2:aM X ae σ H2 { s with heap:=h'.push (PySem.W.kla_obj "<lambda>" (X.env.qual++"<lambda>") params body scope bT ((X.mg "__name__").getD .none) c' sY),toks:=tk }:=by
   refine I.step (g':=s.gens) (d':=s.drawn) (ch:=[]) (fun _ z=>absurd z (by simp)) (fun b o _ _ _ e n=>JV b o e) (fun b o _ _ _ e n=>⟨o.slots,JV b o e⟩)
    (fun b o _ e n=>?_) (fun b o _ e=>⟨o,JV b o e⟩) (fun b xs e=>h_ b _ e) (fun b o u e=>h_ b _ e) (fun b ps e=>⟨#[],by rw[h_ b _ e];simp⟩) (fun m hm=>(hm.keeps hk).push _) (I.bE.laid JV JU (B_ ⟨bT,_,sY,c1,c2,cY _ rfl⟩)) I.bare
   .show upd _ _ _ _=_;rw[ao (bb (cz (hsz b o e) JU))];exact n
  exact⟨.ref h'.objs.size,H2,I2,rfl,h _ c' H2 (.inr ⟨c',h_ _ _ hP,h_ _ _ z9⟩) (fun b o e _=>h_ b o e) (h_ _ _ z9) ef⟩
end
def AF(X:Cx)(id:String)(ks:List Str)(r:St->List V->List V->Hp->VK->Prop):Prop:=
 ∀ (ae:List (Addr×Obj)) (s:Shared) (σ:St) (H:Hp) (vs zs:List V) (us ws:List Value) (Q:VK),aM X ae σ H s->aZ vs us->aZ zs ws->r σ vs zs H Q->
  wpAny (model X.prog X.w) X.A (call (.builtin id) us (ks.zip ws)) (EP X ae σ Q) X.xe s
def Yf(r:St->List V->List V->Hp->VK->Prop)(t tk:TA):TE:=fun σ H Q=>t σ H fun vs H1=>tk σ H1 fun zs H2=>r σ vs zs H2 Q
section
variable {X:Cx} {x:Str} {p pos:Pos} {e:Expr} {es:List Expr} {FL:List Keyword} {t tk:TA} {id:String} {ks:List Str} {r:St->List V->List V->Hp->VK->Prop}
theorem pj(hc:AF X id ks r)(hg:Gl X x)(hm:X.mg x=none)(hv:bootBuiltins x=some (.builtin id))(ha:PA X (e::es) t)(hkw:PK X FL tk)(hn:x≠"__name__":=by decide)(Ao:(x==("__debug__":Str))=false:=by decide)(hks:(backToKw pos (keywordEach FL X.env)).filterMap (·.1)=ks:=by rfl)(he:backTo pos (starEach (e::es) X.env)=(false,eval e X.env)::backTo pos (starEach es X.env):=by rfl)(rN:(backTo pos (starEach (e::es) X.env)).any (·.1)=false:=by rfl)(tD:(backToKw pos (keywordEach FL X.env)).all (·.1.isSome)=true:=by rfl)(JR:(backToKw pos (keywordEach FL X.env)).any (·.1.isNone)=false:=by rfl):PE X (.Call (.Name x p) (e::es) FL pos) (Yf r t tk):=by
 intro ae s σ H Q I h;refine j_ (jv I hg hm hv ?_ hn Ao);refine PyProof.Rows.callWith_kw (cJ (ha pos ae s σ H _ I h) fun us s1 ⟨vs,H1,I1,r1,q1⟩=>?_) he rN tD JR;refine cJ (hkw pos ae s1 σ H1 _ I1 q1) fun ws s2 ⟨zs,H2,I2,rz,q2⟩=>?_;rw[hks];exact hc ae s2 σ H2 vs zs us ws Q I2 r1 rz q2
end
def Oe(za zb:Int)(ns out:List Int):Prop:=∃ps:List (Int×Int),ps.Perm (ns.map fun z=>((z-za) % zb,z))/\out=ps.map (·.2)/\ps.Pairwise fun p q=>p.1<=q.1
def Of(X:Cx)(qual:Str)(params:Arguments)(body:Expr)(scope:Scope)(ia ib:Nat):St->List V->List V->Hp->VK->Prop:=fun σ vs zs H Q=>
 ∃ (l f c:Addr) (ns:List Int) (za zb:Int),vs=[.ref l]/\zs=[.ref f]/\a8 X.K H l (ns.map V.int)/\ns.length<64/\H f=some (nE f qual params body scope X.env.cells c)/\H c=some (kM c qual)/\
  σ[ia]?=some (some (.int za))/\σ[ib]?=some (some (.int zb))/\0<zb/\∀ (r:Addr) (out:List Int),H r=none->Oe za zb ns out->Q (.ref r) (upd H r (.lst (out.map V.int)))
theorem uq:∀ {ns:List Int} {vs:List Value},aZ (ns.map V.int) vs->IntsAre vs ns
 |[],_,.nil=>.nil
 |_::_,_,.cons ⟨t,e⟩ r=>by subst e;exact .cons _ t (uq r)
structure Og(X:Cx)(qual:Str)(params:Arguments)(body:Expr)(scope:Scope)(y a b:Str)(ia ib:Nat):Prop where
 bd:∃p1 p2 p3 p4 p5,body=.BinOp (.BinOp (.Name y p1) .Sub (.Name a p2) p3) .Mod (.Name b p4) p5
 bind:∀bT pm c sY v,bindArgs (PySem.W.kla_fn "<lambda>" qual params body scope bT pm (.ref c) sY) ⟨[v],[]⟩=pure [(y,v)]
 na:X.N[ia]?=some a
 nb:X.N[ib]?=some b
 ca:X.env.scope.names.lookup a=some .cell
 cb:X.env.scope.names.lookup b=some .cell
 ly:scope.names.lookup y=some .local
 fa:scope.names.lookup a=some .free
 fb:scope.names.lookup b=some .free
 ma:(a,NameKind.free)∈scope.names
 mb:(b,NameKind.free)∈scope.names
 mq:∀z∈scope.names,z.2≠.cell
 kind:scope.kind=.function
 co:scope.isCoroutine=false
 gen:scope.isGenerator=false
 dy:(y==("__debug__":Str))=false
 da:(a==("__debug__":Str))=false/\(a==("__classdict__":Str))=false
 db:(b==("__debug__":Str))=false/\(b==("__classdict__":Str))=false
theorem rS(S:Og X qual params body scope y a b ia ib)(hr:bD k X.A):
  AF X "sorted" ["key"] (Of X qual params body scope ia ib):=by
 intro ae s σ H vs zs us ws Q I r rz h;obtain⟨l,f,c,ns,za,zb,rfl,rfl,hl,IZ,hf,hc,sa,sb,hb0,q⟩:=h;obtain⟨u1,rfl,r1⟩:=r.one;obtain rfl:u1=Value.ref l:=r1;obtain⟨w1,rfl,Yg⟩:=rz.one;obtain rfl:w1=Value.ref f:=Yg;obtain⟨its,rv,pl,hz⟩:=I.list hl;have hI:=uq rv;obtain⟨m,F⟩:=I.fr;obtain⟨p1,p2,p3,p4,p5,rfl⟩:=S.bd;obtain⟨bT,pm,sY,c1,c2,JK⟩:=(I.bE f _ hf).1;have Ta:s.heap.CodeRec (.ref c) qual:=(I.bE c _ hc).1;obtain⟨m',hn',hlk⟩:=I.loc;have Tb:∃ca ta,bT.lookup a=some ca/\s.heap.IsCell ca (some (.int za ta)):=by
  obtain⟨u,⟨ta,rfl⟩,lk⟩:=hlk ia a (.int za) S.na sa (.inr (.inl S.ca));obtain⟨ca,e1⟩:=c2 a S.ma;rcases lk with ⟨z,_⟩|⟨_,ca',e2,e3⟩
  .have z':X.env.scope.names.lookup a=some .local:=z;rw[S.ca] at z';cases z'
  .have e4:=c1 a ca e1;rw[e2] at e4;cases e4;exact⟨ca,ta,e1,e3⟩
 have Tc:∃cb tb,bT.lookup b=some cb/\s.heap.IsCell cb (some (.int zb tb)):=by
  obtain⟨u,⟨tb,rfl⟩,lk⟩:=hlk ib b (.int zb) S.nb sb (.inr (.inl S.cb));obtain⟨cb,e1⟩:=c2 b S.mb;rcases lk with ⟨z,_⟩|⟨_,cb',e2,e3⟩
  .have z':X.env.scope.names.lookup b=some .local:=z;rw[S.cb] at z';cases z'
  .have e4:=c1 b cb e1;rw[e2] at e4;cases e4;exact⟨cb,tb,e1,e3⟩
 obtain⟨ca,ta,ea,ha⟩:=Tb;obtain⟨cb,tb,eb,hb⟩:=Tc;have Wz:∀b' (o:Obj),s.heap.get? b'=some o->(∀es ep,o.data≠.dict es ep)->b'≠X.env.locals:=fun b' o e d z=>by
  obtain⟨o',es,ep,e',d',_⟩:=F.ns;rw[z,e'] at e;cases e;exact d _ _ d'
 have len:(ns.map fun z=>(z-za) % zb).length=its.length:=by rw[aO,hI.length]
 refine ksk_sorted (b:=false) (f:=.ref f) (kz:=ns.map fun z=>(z-za) % zb) F Fn pl.isList len (by rw[hI.length];exact IZ) (ksk_s1 _ _) (fun x=>ksk_l1 _ _) (fun x=>ksk_t1 _ _) ?_ ?_
 .-- one key
  intro i v k hv hk h tk own F' N';have at_:∀b' u,b'≠X.env.locals->s.heap.get? b'=some u->h.get? b'=some u:=fun b' u jb e=>by
   cases z:X.base.get? b' with
   |some o=>
    have:=I.bk b' o z;rw[e] at this;cases this;exact F'.keep b' _ z
   |none=>exact(N' (b',u) (fw _ (ku jb z e))).1
  have Yh:=at_ f _ (Wz f _ JK (by intro es ep z;cases z)) JK;have Yi:h.CodeRec (.ref c) qual:=by
   obtain⟨c0,o,xM,t0,e0,ho,hd,hv0⟩:=Ta;refine⟨c0,o,xM,t0,e0,at_ _ _ (Wz _ _ ho (by rw[hd];intro es ep z;cases z)) ho,hd,hv0⟩
  have SF:h.IsCell ca (some (.int za ta)):=by
   obtain⟨o,ho,hd⟩:=ha;exact⟨o,at_ _ _ (Wz _ _ ho (by rw[hd];intro es ep z;cases z)) ho,hd⟩
  have mP:h.IsCell cb (some (.int zb tb)):=by
   obtain⟨o,ho,hd⟩:=hb;exact⟨o,at_ _ _ (Wz _ _ ho (by rw[hd];intro es ep z;cases z)) ho,hd⟩
  obtain⟨z,tz,rfl,rfl⟩:∃z tz,v=.int z tz/\k=(z-za) % zb:=by
   obtain⟨n,t,e⟩:=hI.all v (dk hv);refine⟨n,t,e,?_⟩;rw[bu] at hk;have hn:=hI.nums;have e1:(its.map numOf)[i]?=some n:=by rw[bu,hv,e];rfl
   rw[hn] at e1;rw[e1] at hk;exact(bh hk).symm
  have xN:X.A.in1.in1.depth<recursionLimit:=by
   have:=hr.dp;show X.A.depth<_;lia
  refine kq (zi xN Yh rfl S.co S.gen rfl Yi ?_);rw[S.bind];refine wpAny_pure (zG S.mq (fun x hx=>by rw[cA.mp hx];exact S.ly) (fun h₁ vW MB=>⟨((I.ok.mod.nolimit).keeps F'.keep).fresh _ MB,?_⟩) S.kind);have JW:∀b o,h.get? b=some o->h₁.get? b=some o:=fun b o e=>MB.extBut b o (bb (a9 e)) (bU _ e);have ha₁:=SF.keeps JW;have hb₁:=mP.keeps JW;refine zh ?_;refine wpAny_BinOp (wpAny_BinOp ?_);refine o4 (zH S.kind S.ly vW (v:=.int z tz) (by simp) ?_) S.dy;refine o4 (zM S.kind S.fa ea ha₁ ?_ S.da.2) S.da.1;refine sub_int ?_;refine o4 (zM S.kind S.fb eb hb₁ ?_ S.db.2) S.db.1;refine mod_int' (by lia) ?_;rw[E9 _ (by lia)];refine KskEnd.intro (news':=ju X.base s.heap X.env.locals++own) ⟨F'.ns.keeps JW,fun b o e=>JW b o (F'.keep b o e),F'.above⟩ (fun p hp=>⟨JW _ _ (N' p hp).1,(N' p hp).2⟩) fun p hp=>hp
 .-- the list
  intro D h' tk out cc F' N' dN Yj;have hD:=tE I N' dN;obtain⟨ps,hp,ho,hs⟩:=Yj;have Au:∀p∈ps,∃n t,p.2=.int n t:=fun p Re=>by
   have:=hp.mem_iff.mp Re;exact hI.all _ (oO this).2
  have hz':((ns.map fun z=>(z-za) % zb).zip its).map (fun p=>(p.1,numOf p.2))=ns.map fun z=>((z-za) % zb,z):=by
   have hn:=hI.nums;rw[<-hn];have go:∀ (l:List Value),((((l.map numOf).map fun z=>(z-za) % zb).zip l).map fun p=>(p.1,numOf p.2))=(l.map numOf).map fun z=>((z-za) % zb,z):=by
    intro l;induction l with
    |nil=>rfl
    |cons x l ih=>simp only[eG,List.zip_cons_cons,ih]
   exact go its
  have FV:aZ ((ps.map fun p=>(p.1,numOf p.2)).map (fun p=>V.int p.2)) (ps.map Prod.snd):=by
   have go:∀ (l:List (Int×Value)),(∀p∈l,∃n t,p.2=.int n t)->aZ ((l.map fun p=>(p.1,numOf p.2)).map (fun p=>V.int p.2)) (l.map Prod.snd):=by
    intro l;induction l with
    |nil=>intro _;exact .nil
    |cons x l ih=>
     intro hx;refine .cons ?_ (ih fun p hp=>hx p (cm _ hp));obtain⟨n,t,e⟩:=hx x bL;show ∃t,x.2=Value.int (numOf x.2) t;rw[e];exact⟨t,rfl⟩
   exact go ps Au
  have DV:Oe za zb ns ((ps.map fun p=>(p.1,numOf p.2)).map (·.2)):=by
   refine⟨ps.map fun p=>(p.1,numOf p.2),?_,rfl,?_⟩
   .rw[<-hz'];exact hp.map _
   .refine i7.mpr (hs.imp fun {p q} z=>?_);simpa using z
  have hDo:h'.get? D=some (seqObj "list" out cc):=(N' _ bL).1;have I2:aM X ae σ (upd H D (.lst (((ps.map fun p=>(p.1,numOf p.2)).map (·.2)).map V.int))) { s with heap:=h',toks:=tk }:=by
   refine I.SX F F' (fun p hp=>N' p (cm _ hp)) hD ⟨?_,ps.map Prod.snd,cc,?_,?_⟩
   .have h1:=hp.length_eq;rw[List.length_zip,len,rj] at h1;simp only[aO];rw[h1,hI.length];exact aX (kl IZ) (by decide)
   .have ev:=FV;simp only[dH] at ev |-;exact ev
   .rw[hDo,<-ho]
  exact⟨.ref D,_,I2,rfl,q D _ (I.bE.vR hD) DV⟩
def qd(mg:Str->Option Value)(base:Heap):Prop:=∃bm o,mg "__builtins__"=some (.ref bm)/\bm≠builtinsNs/\bm≠mainGlobals/\base.get? bm=some o/\o.cls=.type "module"/\o.dict=some builtinsNs/\o.data=.plain
def Ca(ts:List Addr)(H:Hp):Prop:=(∀P∈ts,H P=some (.j3 #[]))/\∀b,H b=none\/(b∈ts/\H b=some (.j3 #[]))\/∃o xs,H b=some (.vC o (.lst xs))
theorem DW{P:Program}{w:World}{K:PySem.W.Frag}{mg mb:Str->Option Value}{CX:wY}{k:Nat}{fa a:Addr}{fd:FuncData}{x:Str}{sp:Sp}{s₁:Shared}{vs:List Value}{ns:List Int}{ts:List Addr}(KX:K.In s₁.heap)(vW:s₁.heap.Ns mainGlobals mg)(hb:s₁.heap.Ns builtinsNs mb)(hbb:∀x:Str,x≠"__name__"->mb x=bootBuiltins x)(Yk:s₁.heap.NoLimit)(hg:s₁.gens=#[])(hbm:qd mg s₁.heap)(Td:∀P∈ts,s₁.heap.get? P=some (PySem.W.tabObj #[]))(tV:∀P∈ts,∃c,PySem.W.codeHdIn K c P=true)(Yl:∀P∈ts,K.lookup P=none)(ha:s₁.heap.get? a=some { cls:=.type "list",data:=.seq vs.toArray })(hi:IntsAre vs ns)(hl:ns.length<=sizeLine)(hr:bD k callerA)(F:∀base:Heap,K.In base->base.Ns mainGlobals mg->qd mg base->bf P w K mg base CX k fa fd [x] sp)(Te:∀ (s:Shared) (u:Value),BindsTo s fd ⟨[u],[]⟩ [(x,u)])(Aq:∀H:Hp,Ca ts H->a8 K H a (ns.map V.int)->sp [.ref a] H (fun v _=>v=.bl true) fun _ _ _=>False)(Ym:∀H e s',CX [] H s₁ (fun _ _ _=>False) e s'->False):
  codeAny (model P w) callerA (.call (.ref fa) ⟨[.ref a],[]⟩) (fun r s'=>r=.ok (.ret (.bool true))/\OldK s₁.heap s'.heap/\s'.os=s₁.os/\AllBare s'.gens) s₁:=by
 have rv:=uf hi;have Yn:=hi.length;have Tf:a∉ts:=fun z=>by
  have:=Td a z;rw[ha] at this;cases this
 have Tg:∀H:Hp,Ca ts H->a8 K H a (ns.map V.int)->j4 P w H s₁.heap->(∀b,H b≠none->b=a\/b∈ts)->(H a≠none->K.lookup a=none)->
   codeAny (model P w) callerA (.call (.ref fa) ⟨[.ref a],[]⟩) (fun r s'=>r=.ok (.ret (.bool true))/\OldK s₁.heap s'.heap/\s'.os=s₁.os/\AllBare s'.gens) s₁:=by
  intro H hO hS bE hA hK;have vX:∀ {b:Addr} {o:Obj},s₁.heap.get? b=some o->H b=none->(tj s₁.heap H).get? b=some o:=fun e n=>Fm e n;have Q_:∀ {b:Addr} {o:Obj},s₁.heap.get? b=some o->(∀v n,o.data≠.seq v n)->(∀v,o.data≠.fields v)->H b=none:=fun {b o} e d1 d2=>by
   cases q:H b with
   |none=>rfl
   |some u=>
    rcases hA b (by rw[q];simp) with e'|e'
    .subst e';rw[ha] at e;cases e;exact absurd rfl (d1 _ _)
    .rw[Td b e'] at e;cases e;exact absurd rfl (d2 _)
  have WA:∀ {b:Addr} {m:Str->Option Value},s₁.heap.Ns b m->(tj s₁.heap H).Ns b m:=fun {b m} ⟨o,es,ep,e,d,r⟩=>⟨o,es,ep,vX e (Q_ e (by rw[d];intro v n z;cases z) (by rw[d];intro v z;cases z)),d,r⟩
  have hKb:K.In (tj s₁.heap H):=fun b o e=>vX (KX b o e) (by
   cases q:H b with
   |none=>rfl
   |some u=>
    rcases hA b (by rw[q];simp) with e'|e'
    .subst e';rw[hK (by rw[q];simp)] at e;cases e
    .rw[Yl b e'] at e;cases e)
  have hB:qd mg (tj s₁.heap H):=by
   obtain⟨bm,o,b1,b2,b3,b4,b5,b6,b7⟩:=hbm;exact⟨bm,o,b1,b2,b3,vX b4 (Q_ b4 (by rw[b7];intro v n z;cases z) (by rw[b7];intro v z;cases z)),b5,b6,b7⟩
  have hM:Mod K mg (tj s₁.heap H):=⟨hKb,WA vW,⟨mb,WA hb,hbb⟩,let ⟨mc,h1,h2⟩:=Yk;⟨mc,WA h1,h2⟩⟩
  have e0:xm P w K mg (tj s₁.heap H) callerA [] s₁ H:=⟨rfl,hM,fun b o e=>Jj e,km (Dr _ _),trivial,fun b hb=>absurd (show b∈([]:List Addr) from hb) (by simp),bE,.of_eq hg⟩
  refine l9 ((F _ hKb (WA vW) hB).run callerA [] s₁ H ⟨[.ref a],[]⟩ [.ref a] [.ref a] _ _ hr e0 (Te s₁ (.ref a)) (.cons rfl .nil) (Aq H hO hS)) fun r s' h=>?_;cases r with
  |error e=>exact(Ym H e s' h).elim
  |ok fl=>
   cases fl with
   |next=>exact False.elim h
   |brk=>exact False.elim h
   |cont=>exact False.elim h
   |ret u=>
    obtain⟨v,H',os,bare,un,Th,r',q⟩:=h;have q':v=.bl true:=q;subst q';obtain rfl:u=Value.bool true:=r';refine⟨rfl,⟨fun b o e=>?_,fun b o e=>un.there b o e (by simp)⟩,os,bare⟩;cases q:H b with
    |none=>exact .inl (un.keep b o e q (by intro z;exact absurd (show b∈([]:List Addr) from z) (by simp)) (by simp))
    |some u=>
     rcases hO.2 b with z|⟨zt,z⟩|⟨ob,xs,z⟩
     .rw[q] at z;cases z
     .obtain⟨more,z2⟩:=un.o9 b _ z;have e1:=Td b zt;rw[e] at e1;cases e1;have e2:s'.heap.get? b=some { cls:=.none,data:=.fields (#[]++more) }:=Th b _ z2;obtain⟨c,hc⟩:=tV b zt;obtain⟨oc,vsc,_,_,_,_,_,_,_,g1,g2,g3,g4,_⟩:=PySem.W.codeHd_of_K KX hc;exact .inr (.inl ⟨⟨c,oc,vsc,g1,g2,g3,g4⟩,rfl,#[],more,rfl,e2⟩)
     .have z2:=un.o8 b ob _ z;obtain⟨e1,_⟩:=bE b _ z;obtain⟨e2,_⟩:=Th b _ z2;rw[e] at e1;cases e1;exact .inl e2
 have abP:∀ (H:Hp),(∀P∈ts,H P=some (.j3 #[]))->True:=fun _ _=>trivial
 classical
 cases hk:K.lookup a with
 |some o=>
  have e:=KX a o hk;rw[ha] at e;cases e;refine Tg (fun b=>if b∈ts then some (.j3 #[]) else none) ⟨fun P hP=>ak hP,fun b=>?_⟩ (.inr ⟨_,vs.toArray,_,hk,rfl,rfl,rfl,by rw[cB,Yn];exact hl,by simpa using rv⟩) (fun b u z=>?_) (fun b z=>?_) fun z=>absurd (aq Tf) z
  .by_cases hb:b∈ts
   .exact .inr (.inl ⟨hb,ak hb⟩)
   .exact .inl (aq hb)
  .by_cases hb:b∈ts
   .have z':=(ak hb).symm.trans z;cases z';exact Td b hb
   .have z':=(aq hb).symm.trans z;cases z'
  .by_cases hb:b∈ts
   .exact .inr hb
   .exact absurd (aq hb) z
 |none=>
  refine Tg (fun b=>if b=a then some (.vC { cls:=.type "list",data:=.seq vs.toArray } (.lst (ns.map V.int))) else if b∈ts then some (.j3 #[]) else none) ⟨fun P hP=>?_,fun b=>?_⟩ (.inl (.inr ⟨{ cls:=.type "list",data:=.seq vs.toArray },ak rfl⟩)) (fun b u z=>?_) (fun b z=>?_) fun _=>hk
  .have:P≠a:=fun z=>Tf (z ▸ hP);show (if P=a then _ else if P∈ts then _ else _)=_;rw[aq this,ak hP]
  .by_cases hb:b=a
   .exact .inr (.inr ⟨_,_,ak hb⟩)
   .by_cases ht:b∈ts
    .exact .inr (.inl ⟨ht,by show (if b=a then _ else if b∈ts then _ else _)=_;rw[aq hb,ak ht]⟩)
    .exact .inl (by show (if b=a then _ else if b∈ts then _ else _)=_;rw[aq hb,aq ht])
  .by_cases hb:b=a
   .have z':=(ak hb).symm.trans z;cases z';subst hb;exact⟨ha,by rw[aO];exact hl,vs,_,rv,ha⟩
   .have z1:(if b∈ts then some (HO.j3 #[]) else none)=some u:=(aq hb).symm.trans z;by_cases ht:b∈ts
    .rw[ak ht] at z1;cases z1;exact Td b ht
    .rw[aq ht] at z1;cases z1
  .by_cases hb:b=a
   .exact .inl hb
   .by_cases ht:b∈ts
    .exact .inr ht
    .exact absurd (by show (if b=a then _ else if b∈ts then _ else _)=_;rw[aq hb,aq ht]) z
theorem Gg{l:PySem.W.OpenLaw}{n k:Nat}{q:Program}{ue:List Str}{XP:(Str->Option Value)->Heap->Prop}{YP:World->Heap->Prop}{d:DefRec}{K:Params->PySem.W.Frag}{CX:World->wY}{sp:World->Sp}{x:Str}{ts:List Addr}(hn:l.most=some n)(Q9:n<=sizeLine)(SC:d.params.defaults=[])(hr:bD k callerA)(hY:∀ (w:World) (h:Heap),YP w h->(K w.params).In h)(hT:∀ (w:World) (h:Heap),YP w h->∀P∈ts,h.get? P=some (PySem.W.tabObj #[]))(tV:∀ (w:World),∀P∈ts,∃c,PySem.W.codeHdIn (K w.params) c P=true)(Yl:∀ (w:World),∀P∈ts,(K w.params).lookup P=none)(F:∀ (w:World) (mg:Str->Option Value) (fa:Addr) (h:Heap),(K w.params).In h->h.Ns mainGlobals mg->mg d.name=some (.ref fa)->
   ∃fd:FuncData,(∀ (s:Shared) (u:Value),BindsTo s fd ⟨[u],[]⟩ [(x,u)])/\
    ∀base:Heap,(K w.params).In base->base.Ns mainGlobals mg->qd mg base->bf l.prog w (K w.params) mg base (CX w) k fa fd [x] (sp w))(Aq:∀ (w:World) (H:Hp) (a:Addr) (ns:List Int),ns.length<=n->Ca ts H->a8 (K w.params) H a (ns.map V.int)->sp w [.ref a] H (fun v _=>v=.bl true) fun _ _ _=>False)(Ym:∀ (w:World) (H:Hp) (s:Shared) (e:Value) (s':Shared),CX w [] H s (fun _ _ _=>False) e s'->False):
  PySem.W.WalkO q ue XP YP l.row.toRowW d [] (fun f vs=>PySem.call f vs):=by
 refine Att.xy hn SC fun w s₀ s₁ mg mb fa o pm cd ni a vs ns G Y ho hd abU SE N5 FW dO hg=>?_;have KX:=hY w _ Y;obtain⟨fd,hb,hF⟩:=F w mg fa _ KX G.T.g SE;have hB:qd mg s₁.heap:=by
  obtain⟨bm,ob,b1,b2,b3,b4,b5,b6⟩:=G.T.bmain;refine⟨bm,ob,b1,b2,fun z=>?_,b3,b4,b5,b6⟩;obtain⟨o',es,ep,e,Fp,_⟩:=G.T.g;rw[z,e] at b3;cases b3;rw[Fp] at b6;cases b6
 exact DW KX G.T.g G.T.b G.T.builtins G.T.nolimit hg hB (hT w _ Y) (tV w) (Yl w) N5 FW (aX dO Q9) hr hF hb (fun H hO hS=>Aq w H a ns dO hO hS) fun H e s'=>Ym w H s₁ e s'
structure rT(K:PySem.W.Frag)(x qual:Str)(st:Stmt)(f:Addr)(fd:FuncData)(c:Addr):Prop where
 ex:∃ (oc:Value) (od:Option Addr) (kV ni pm:Value) (an:Option Addr) (ct:Value) (wZ:Array (Option Value)),
  fd=PySem.W.fnOf x qual (dw st) (bQ st) (ap st) .none kV ni pm an (.ref c) ct/\K.lookup f=some ⟨oc,od,.func fd,wZ⟩/\PySem.W.codeIn K (.ref c) qual=true
 kp:PySem.W.keepIn K (.ref f)=true
theorem rT.fun{K:PySem.W.Frag}{x qual:Str}{st:Stmt}{f:Addr}{fd:FuncData}{c:Addr}(F:rT K x qual st f fd c):fH K x qual st f fd:=by
 obtain⟨oc,od,kV,ni,pm,an,ct,wZ,e,lk,tV⟩:=F.ex;exact⟨⟨oc,od,kV,ni,pm,an,_,ct,wZ,e,lk,tV⟩,F.kp⟩
section
variable {P:Program} {w:World} {K:PySem.W.Frag} {mg:Str->Option Value} {base:Heap}
theorem rT.ok{x qual:Str}{st:Stmt}{f:Addr}{fd:FuncData}{c:Addr}{N ps:List Str}{k:Nat}{sp:Sp}(F:rT K x qual st f fd c)(S:aB N ps (ap st))(len:∀vs H Q E,sp vs H Q E->vs.length=ps.length)(xp:∀ (A:Around) (outer:List Env) (s:Shared) (H:Hp) (vs:List V) (Q:VK) (E:XK),bD k (A.deeper (envOfC qual (ap st) s.heap.objs.size f (.ref c)))->sp vs H Q E->
   ∃t,z_ (qb aY P w K mg base N qual (ap st) f (.ref c) A outer s H E).Fs (bQ st) t/\t { nx:=fun _ H'=>Q .cf H',rt:=Q } (start N vs) H):bf P w K mg base aY (k+1) f fd ps sp:=by
 obtain⟨oc,od,kV,ni,pm,an,ct,wZ,rfl,lk,tV⟩:=F.ex;refine Mq lk tV S len fun A outer s H vs Q E hr Aq=>?_;obtain⟨t,h,q⟩:=xp A outer s H vs Q E hr Aq;exact⟨t,h.Fs,q⟩
theorem Cb{x qual:Str}{st:Stmt}{f c:Addr}{oc:Value}{od an:Option Addr}{wZ:Array (Option Value)}{kV ni pm ct:Value}(l:K.lookup f=some ⟨oc,od,.func (PySem.W.fnOf x qual (dw st) (bQ st) (ap st) .none kV ni pm an (.ref c) ct),wZ⟩)(tV:PySem.W.codeIn K (.ref c) qual=true)(kp:PySem.W.keepIn K (.ref f)=true):rT K x qual st f (PySem.W.fnOf x qual (dw st) (bQ st) (ap st) .none kV ni pm an (.ref c) ct) c:=⟨⟨oc,od,kV,ni,pm,an,ct,wZ,rfl,l,tV⟩,kp⟩
theorem qv(kb:K.In base)(hb:qd mg base)(hc:PySem.W.codeHdIn K c P'=true):
  JT (qb CX P w K mg base N qual scope f (.ref c) A outer s H E).Fs c P':=⟨rfl,PySem.W.codeHd_of_K kb hc,hb⟩
end
def qw(sc Yo:Scope)(y:Str×NameKind):Bool:=match y.2 with
 |.cell=>(match sc.names.lookup y.1 with|some .cell=>true|_=>false)
 |.local=>(match sc.names.lookup y.1 with|some .local=>true|_=>false)
 |.free=>(match Yo.names.lookup y.1 with|some .cell=>true|some .free=>true|_=>false)
 |_=>true
def Gh(NB:List Str)(src:List (Option Nat))(sc:Scope)(N:List Str)(i:Nat):Bool:=match NB[i]?,src[i]? with
 |some x,some (some j)=>(N[j]?==some x)&&(match sc.names.lookup x with|some .free=>true|_=>false)
 |_,_=>true
def Cc(sc:Scope):Bool:=match sc.kind with|.function=>true|_=>false
def Gi(NB:List Str)(src:List (Option Nat))(sc Yo:Scope)(N:List Str):Bool:=
 Cc sc&&decide NB.Nodup&&(src.length==NB.length)&&(sc.names.all (qw sc Yo))&&(List.range NB.length).all (Gh NB src sc N)
theorem bz(h:Gi NB src sc X.env.scope X.N=true):gU NB src sc X:=by
 unfold Gi at h;simp only[fL,vb,hU,jp] at h;obtain⟨⟨⟨⟨h1,h2⟩,h3⟩,h4⟩,h5⟩:=h;refine⟨?_,h2,h3,fun y hy z=>?_,fun y hy z=>?_,fun y hy z=>?_,fun i x j e1 e2=>?_⟩
 .unfold Cc at h1;split at h1
  .assumption
  .cases h1
 .have:=h4 y hy;obtain⟨n,k⟩:=y;obtain rfl:k=.cell:=z;dsimp only[qw] at this |-;split at this
  .assumption
  .cases this
 .have:=h4 y hy;obtain⟨n,k⟩:=y;obtain rfl:k=.local:=z;dsimp only[qw] at this |-;split at this
  .assumption
  .cases this
 .have:=h4 y hy;obtain⟨n,k⟩:=y;obtain rfl:k=.free:=z;dsimp only[qw] at this |-;split at this
  .exact .inl (by assumption)
  .exact .inr (by assumption)
  .cases this
 .have hi:i<NB.length:=(cu.mp e1).1;have:=h5 i (bv.mpr hi);unfold Gh at this;rw[e1,e2] at this;simp only[fL,hU] at this;refine⟨this.1,?_⟩;have t2:=this.2;split at t2
  .assumption
  .cases t2
theorem eT{K:PySem.W.Frag}{a D:Addr}{xs:List V}{g:TG}{tt:TT}{te:TE}{dS:Hp->Prop}{σB:St}{H0:Hp}(Pv:Nat->List V->St->Hp->Prop)(h0:Pv 0 [] σB H0)(hl:∀i ys σ H,i<=xs.length->Pv i ys σ H->a8 K H a xs)(hs:∀i x ys σ H (Kt:V->St->Hp->Prop) (Kf:St->Hp->Prop),xs[i]?=some x->Pv i ys σ H->
   (∀v σ2 H4,H4 D=some (.lst ys)->ys.length<sizeLine->Pv (i+1) (ys++[v]) σ2 (upd H4 D (.lst (ys++[v])))->Kt v σ2 H4)->(∀σ2 H3,Pv (i+1) ys σ2 H3->Kf σ2 H3)->
   g x σ H fun σ2 H2=>tt σ2 H2 fun b H3=>if b=true then te σ2 H3 fun v H4=>Kt v σ2 H4 else Kf σ2 H3)(hd:∀ys σ H,Pv xs.length ys σ H->dS H):hV (Jm K a) g tt te D dS σB H0:=by
 refine⟨fun i m σ H=>m=xs.length-i/\i<=xs.length/\∃ys,Pv i ys σ H,⟨xs.length,by simp,bV _,[],h0⟩,?_⟩;rintro i m σ H ⟨rfl,hi,ys,p⟩;have q:=hl i ys σ H hi p;by_cases dN:i<xs.length
 .refine .inr ⟨⟨xs,xs[i],q,by simp[dN]⟩,?_⟩;rintro x H' ⟨rfl,y⟩;exact hs i x ys σ _ (fun v σ2 H4=>∃ys,H4 D=some (.lst ys)/\ys.length<sizeLine/\∃m',m'<xs.length-i/\m'=xs.length-(i+1)/\i+1<=xs.length/\∃pV,Pv (i+1) pV σ2 (upd H4 D (.lst (ys++[v]))))
   (fun σ2 H3=>∃m',m'<xs.length-i/\m'=xs.length-(i+1)/\i+1<=xs.length/\∃pV,Pv (i+1) pV σ2 H3) (y xs q) p
   (fun v σ2 H4 z1 z2 z3=>⟨ys,z1,z2,_,by lia,rfl,dN,_,z3⟩) (fun σ2 H3 z=>⟨_,by lia,rfl,dN,_,z⟩)
 .have e:i=xs.length:=by lia
  subst e;exact .inl ⟨⟨xs,q,aI _⟩,hd ys σ H p⟩
theorem fq{lo:Int}{n:Nat}{D:Addr}{g:TG}{tt:TT}{te:TE}{dS:Hp->Prop}{σB:St}{H0:Hp}(Pv:Nat->List V->St->Hp->Prop)(h0:Pv 0 [] σB H0)(hs:∀i ys σ H (Kt:V->St->Hp->Prop) (Kf:St->Hp->Prop),i<n->Pv i ys σ H->
   (∀v σ2 H4,H4 D=some (.lst ys)->ys.length<sizeLine->Pv (i+1) (ys++[v]) σ2 (upd H4 D (.lst (ys++[v])))->Kt v σ2 H4)->(∀σ2 H3,Pv (i+1) ys σ2 H3->Kf σ2 H3)->
   g (.int (lo+i)) σ H fun σ2 H2=>tt σ2 H2 fun b H3=>if b=true then te σ2 H3 fun v H4=>Kt v σ2 H4 else Kf σ2 H3)(hd:∀ys σ H,Pv n ys σ H->dS H):hV (Fw lo n) g tt te D dS σB H0:=by
 refine⟨fun i m σ H=>m=n-i/\i<=n/\∃ys,Pv i ys σ H,⟨n,by simp,bV _,[],h0⟩,?_⟩;rintro i m σ H ⟨rfl,hi,ys,p⟩;by_cases dN:i<n
 .refine .inr ⟨dN,?_⟩;rintro x H' ⟨rfl,rfl⟩;exact hs i ys σ _ (fun v σ2 H4=>∃ys,H4 D=some (.lst ys)/\ys.length<sizeLine/\∃m',m'<n-i/\m'=n-(i+1)/\i+1<=n/\∃pV,Pv (i+1) pV σ2 (upd H4 D (.lst (ys++[v]))))
   (fun σ2 H3=>∃m',m'<n-i/\m'=n-(i+1)/\i+1<=n/\∃pV,Pv (i+1) pV σ2 H3) dN p
   (fun v σ2 H4 z1 z2 z3=>⟨ys,z1,z2,_,by lia,rfl,dN,_,z3⟩) (fun σ2 H3 z=>⟨_,by lia,rfl,dN,_,z⟩)
 .have e:i=n:=by lia
  subst e;exact .inl ⟨aI _,hd ys σ H p⟩
section
variable {κ:Type} [DecidableEq κ]
def pq(ba:List (κ×V))(k:κ):Option V:=(ba.find? fun kv=>decide (kv.1=k)).map (·.2)
def jE(ba:List (κ×V))(k:κ)(v:V):List (κ×V):=
 if (ba.any fun kv=>decide (kv.1=k))=true then ba.map (fun kv=>if kv.1=k then (kv.1,v) else kv) else ba++[(k,v)]
theorem nG{p:κ×V}{r:List (κ×V)}{k:κ}(e:p.1=k):pq (p::r) k=some p.2:=by simp[pq,iK,e]
theorem nI{p:κ×V}{r:List (κ×V)}{k:κ}(e:¬ p.1=k):pq (p::r) k=pq r k:=by simp[pq,iK,e]
theorem rV(k:κ):∀ba:List (κ×V),(ba.any fun kv=>decide (kv.1=k))=(pq ba k).isSome
 |[]=>rfl
 |p::r=>by
  rw[iM];by_cases e:p.1=k
  .simp only[nG e,cZ e,Bool.true_or,Option.isSome_some]
  .rw[nI e,fA e,Bool.false_or];exact rV k r
theorem kO(ba:List (κ×V))(k:κ)(v:V):(jE ba k v).length<=ba.length+1:=by
 unfold jE;split
 .rw[aO];lia
 .rw[dE,d9,vj];lia
theorem Gj{ba:List (κ×V)}{k:κ}(v:V)(h:pq ba k=none):jE ba k v=ba++[(k,v)]:=by
 unfold jE;rw[rV,h];exact aq (by decide)
theorem lA.pz(r:lA o u):o.isSome=u.isSome:=by
 cases o with
 |none=>cases u with
  |none=>rfl
  |some _=>exact(show False from r).elim
 |some _=>cases u with
  |none=>exact(show False from r).elim
  |some _=>rfl
theorem KV.val{ba:List (κ×V)}{vs:List (κ×Value)}(r:KV ba vs)(k:κ):lA (pq ba k) (valueAt vs k):=by
 unfold KV at r;induction r with
 |nil=>exact True.intro
 |@cons p q ps qs h t ih=>
  obtain⟨h1,h2⟩:=h;by_cases e:p.1=k
  .have e':q.1=k:=h1.symm.trans e;have b:valueAt (q::qs) k=some q.2:=by simp[valueAt,iK,e']
   rw[nG e,b];exact h2
  .have e':¬ q.1=k:=fun z=>e (h1.trans z);have b:valueAt (q::qs) k=valueAt qs k:=by simp[valueAt,iK,e']
   rw[nI e,b];exact ih
theorem KV.any{ba:List (κ×V)}{vs:List (κ×Value)}(r:KV ba vs)(k:κ):(ba.any fun kv=>decide (kv.1=k))=vs.any fun kv=>decide (kv.1=k):=by
 unfold KV at r;induction r with
 |nil=>rfl
 |cons h t ih=>rw[iM,iM,ih,h.1]
theorem KV.Oh{ba:List (κ×V)}{vs:List (κ×Value)}(r:KV ba vs)(k:κ){y:V}{u:Value}(ry:bA y u):
  KV (ba.map fun kv=>if kv.1=k then (kv.1,y) else kv) (vs.map fun kv=>if kv.1=k then (kv.1,u) else kv):=by
 unfold KV at r |-;induction r with
 |nil=>exact .nil
 |@cons p q ps qs h t ih=>
  rw[eG,eG];refine .cons ?_ ih;obtain⟨h1,h2⟩:=h;by_cases e:p.1=k
  .rw[ak e,ak (h1.symm.trans e)];exact⟨h1,ry⟩
  .rw[aq e,aq (fun z=>e (h1.trans z))];exact⟨h1,h2⟩
theorem KV.put{ba:List (κ×V)}{vs:List (κ×Value)}(r:KV ba vs)(k:κ){y:V}{u:Value}(ry:bA y u):KV (jE ba k y) (stored vs k u):=by
 unfold jE stored;rw[r.any k];by_cases e:(vs.any fun kv=>decide (kv.1=k))=true
 .rw[ak e,ak e];exact r.Oh k ry
 .rw[aq e,aq e];exact Paired.snoc r ⟨rfl,ry⟩
theorem KV.length{ba:List (κ×V)}{vs:List (κ×Value)}(r:KV ba vs):ba.length=vs.length:=Paired.length r
end
theorem xO(r:bA (kV k) u):(dh P w).is k u=true:=by
 cases k with
 |inl i=>obtain⟨t,e⟩:=(show ∃t,u=Value.int i t from r);subst e;exact xa P w i t
 |inr x=>obtain⟨t,e⟩:=(show ∃t,u=Value.str x t from r);subst e;exact xb P w x t
theorem ur:∀ {ks:List gY} {us:List Value},aZ (ks.map kV) us->ItemsAre (dh P w) ks us
 |[],_,r=>by rw[vz] at r;cases r;exact .nil
 |k::ks,_,r=>by
  rw[eG] at r;cases r with
  |cons h t=>exact .cons (xO h) (ur t)
abbrev KT(H:Hp):List (List gY×V)->List (List gY×Addr×Value)->Prop:=Paired fun p q=>p.1=q.1/\H q.2.1=some (.tup (p.1.map kV))/\bA p.2 q.2.2
theorem KT.val{H:Hp}{ba:List (List gY×V)}{xs:List (List gY×Addr×Value)}(r:KT H ba xs)(k:List gY):lA (pq ba k) ((atKey xs k).map (·.2)):=by
 induction r with
 |nil=>exact True.intro
 |@cons p q ps qs h t ih=>
  obtain⟨h1,_,h2⟩:=h;by_cases e:p.1=k
  .have e':q.1=k:=h1.symm.trans e;have b:atKey (q::qs) k=some q.2:=by simp[atKey,iK,e']
   rw[nG e,b];exact h2
  .have e':¬ q.1=k:=fun z=>e (h1.trans z);have b:atKey (q::qs) k=atKey qs k:=by simp[atKey,iK,e']
   rw[nI e,b];exact ih
theorem KT.Oh(r:KT H ba xs)(k:List gY)(ry:bA y u):
  KT H (ba.map fun kv=>if kv.1=k then (kv.1,y) else kv) (xs.map (putAt k u)):=by
 induction r with
 |nil=>exact .nil
 |@cons p q ps qs h t ih=>
  rw[eG,eG];refine .cons ?_ ih;obtain⟨h1,h2,h3⟩:=h;unfold putAt;by_cases e:p.1=k
  .rw[ak e,ak (h1.symm.trans e)];exact⟨h1,h2,ry⟩
  .rw[aq e,aq (fun z=>e (h1.trans z))];exact⟨h1,h2,h3⟩
theorem KT.put(r:KT H ba xs)(k:List gY)(hb:H b=some (.tup (k.map kV)))(ry:bA y u):
  KT H (jE ba k y) (storedH xs k b u):=by
 have e:(ba.any fun kv=>decide (kv.1=k))=(atKey xs k).isSome:=by
  rw[rV,(r.val k).pz,Option.isSome_map]
 unfold jE storedH;rw[e];by_cases q:(atKey xs k).isSome=true
 .rw[ak q,ak q];exact r.Oh k ry
 .rw[aq q,aq q];exact Paired.snoc r ⟨rfl,hb,ry⟩
theorem KT.keeps(r:KT H ba xs)(ht:∀b ys,H b=some (.tup ys)->H' b=some (.tup ys)):KT H' ba xs:=
 Paired.Nx r fun _ _ z=>⟨z.1,ht _ _ z.2.1,z.2.2⟩
section
variable {P:Program} {w:World} {H:Hp} {h:Heap} {a:Addr}
theorem ME(ok:j4 P w H h)(e:Rd H a u):cg P w H h a u:=e.ok ok
theorem Cd(ok:j4 P w H h)(e:Rd H a (.dK ba)):ba.length<=sizeLine/\(a==sysModules)=false/\∃vs,KV ba vs/\h.DictOf (dh P w) a vs:=
 show cg P w H h a (.dK ba) from ME ok e
theorem Ce{ba:List (gY×V)}(ok:j4 P w H h)(e:H a=some (.dK ba)):ba.length<=sizeLine/\(a==sysModules)=false/\∃vs,KV ba vs/\h.DictOf (dh P w) a vs:=Cd ok (.inl e)
theorem mr(ok:j4 P w H h)(e:H a=some (.tup (ks.map kV))):(tupleKind (dh P w)).is h ks a:=by
 obtain⟨_,its,r,o,h1,h2,n,h3,_⟩:=(show cg P w H h a (.tup (ks.map kV)) from ok a _ e)
 exact⟨o,its.toArray,n,h1,h2,h3,by simpa using ur r⟩
theorem Cf(ok:j4 P w H h)(e:Rd H a (.dT ba)):ba.length<=sizeLine/\(a==sysModules)=false/\
  ∃xs,KT H ba xs/\h.DictOfH (tupleKind (dh P w)) a xs:=by
 obtain⟨z,y,xs,r,o,es,ep,h1,h2,h3,h4,h5⟩:=(show cg P w H h a (.dT ba) from ME ok e)
 refine⟨z,y,xs,r,o,es,ep,h1,h2,h3,h4,fun x hx=>?_,h5⟩;have all:∀ {l:List (List gY×V)} {m:List (List gY×Addr×Value)},KT H l m->∀x∈m,(tupleKind (dh P w)).is h x.1 x.2.1:=by
  intro l m q;induction q with
  |nil=>intro x hx;exact nomatch hx
  |@cons p q ps qs hq t ih=>
   intro x hx;rcases a_.mp hx with e|hx
   .subst e;exact mr ok (by rw[<-hq.1];exact hq.2.1)
   .exact ih x hx
 exact all r x hx
theorem Ti{ba:List (List gY×V)}(ok:j4 P w H h)(e:H a=some (.dT ba)):ba.length<=sizeLine/\(a==sysModules)=false/\
  ∃xs,KT H ba xs/\h.DictOfH (tupleKind (dh P w)) a xs:=Cf ok (.inl e)
end
def qe(H:Hp)(a:Addr)(y:V)(r:Option V):Prop:=
 (∃ba k,Rd H a (.dK ba)/\y=kV k/\r=pq ba k)\/∃ba k b,Rd H a (.dT ba)/\y=.ref b/\H b=some (.tup (k.map kV))/\r=pq ba k
def Gk(H:Hp)(a:Addr)(y v:V)(H':Hp):Prop:=
 (∃ba k,H a=some (.dK ba)/\y=kV k/\ba.length<sizeLine/\H'=upd H a (.dK (jE ba k v)))\/
 ∃ba k b,H a=some (.dT ba)/\y=.ref b/\H b=some (.tup (k.map kV))/\ba.length<sizeLine/\H'=upd H a (.dT (jE ba k v))
theorem qe.k{H:Hp}{a:Addr}{ba:List (gY×V)}{k:gY}(e:H a=some (.dK ba)):qe H a (kV k) (pq ba k):=.inl ⟨ba,k,.inl e,rfl,rfl⟩
theorem Gk.k{H:Hp}{a:Addr}{ba:List (gY×V)}{k:gY}{v:V}(e:H a=some (.dK ba))(hl:ba.length<sizeLine):Gk H a (kV k) v (upd H a (.dK (jE ba k v))):=.inl ⟨ba,k,e,rfl,hl,rfl⟩
section
variable {X:Cx} {ae:List (Addr×Obj)} {σ:St} {H:Hp} {s:Shared} {a:Addr} {y v:V} {u r:Value} {o:Option V} {A:Around} {E:Value->Shared->Prop}
theorem aM.big(I:aM X ae σ H s):sysModules<s.heap.objs.size:=by
 have h:mainGlobals<s.heap.objs.size:=(I.mod.glob.keeps I.bk).lt;exact Nat.lt_trans (by decide) h
theorem DX{Q:Value->Shared->Prop}(hu:A.units+1<cLine)(I:aM X ae σ H s)(g:qe H a y (some v))(ry:bA y u)(h:∀w' s',aM X ae σ H s'->bA v w'->Q w' s'):
  wpAny (model X.prog X.w) A (getItem (.ref a) u) Q E s:=by
 rcases g with ⟨ba,k,e,ey,l⟩|⟨ba,k,b,e,ey,eb,l⟩
 .subst ey;obtain⟨z,hd,vs,tG,dd⟩:=Cd I.bE e;obtain⟨w',hw,qa⟩:=lA.some_of (v:=v) (o:=valueAt vs k) (by rw[l];exact tG.val k);exact wpAny_getItem_of (xO ry) dd.mapOf hw (h w' _ (I.tok _) qa)
 .subst ey;cases (show u=Value.ref b from ry);obtain⟨z,hd,xs,tG,dd⟩:=Cf I.bE e;obtain⟨w',hw,qa⟩:=lA.some_of (v:=v) (o:=(atKey xs k).map (·.2)) (by rw[l];exact tG.val k);obtain⟨p,hp,qx⟩:=uV.mp hw;refine wpAny_getItem_heap (zS hu) (mr I.bE eb) dd hp ?_;rw[qx];exact h w' _ (I.tok _) qa
theorem JX{Q:Value->Shared->Prop}(hu:A.units+1<cLine)(I:aM X ae σ H s)(g:qe H a y o)(ry:bA y u)(h:∀s',aM X ae σ H s'->Q (.bool (!o.isSome)) s'):
  wpAny (model X.prog X.w) A (compareOp .NotIn u (.ref a)) Q E s:=by
 rcases g with ⟨ba,k,e,ey,l⟩|⟨ba,k,b,e,ey,eb,l⟩
 .subst ey;obtain⟨z,hd,vs,tG,dd⟩:=Cd I.bE e;refine wpAny_notIn_of (xO ry) hd dd.mapOf ?_;rw[<-(tG.val k).pz,<-l];exact h _ (I.tok _)
 .subst ey;cases (show u=Value.ref b from ry);obtain⟨z,hd,xs,tG,dd⟩:=Cf I.bE e;refine wpAny_notIn_heap (zS hu) (mr I.bE eb) hd dd ?_;have q:=(tG.val k).pz;rw[Option.isSome_map] at q;rw[<-q,<-l];exact h _ (I.tok _)
theorem vY{h':Heap}{t':Nat}{ob:HO}(I:aM X ae σ H s)(mu:RW (H a))(hs:Heap.SameBut a s.heap h')(he:∃q,h'.get? a=some q)(new:cg X.prog X.w (upd H a ob) h' a ob):
  aM X ae σ (upd H a ob) { s with heap:=h',toks:=t' }:=
 I.write (x:=a) (e:=a) mu (.inl rfl) (fun b q hb z=>(hs.2 b hb).trans z) he new
theorem Gm{P:Program}{w:World}{H':Hp}{h':Heap}{ba:List (gY×V)}{vs:List (gY×Value)}(z:ba.length<=sizeLine)(hd:(a==sysModules)=false)(tG:KV ba vs)(dd:h'.DictOf (dh P w) a vs):
  cg P w H' h' a (.dK ba):=⟨z,hd,vs,tG,dd⟩
theorem DY{H':Hp}{Q:Unit->Shared->Prop}(hu:A.units+1<cLine)(I:aM X ae σ H s)(g:Gk H a y v H')(ry:bA y u)(rv:bA v r)(h:∀s',aM X ae σ H' s'->Q () s'):
  wpAny (model X.prog X.w) A (setItem (.ref a) u r) Q E s:=by
 rcases g with ⟨ba,k,e,ey,l,eH⟩|⟨ba,k,b,e,ey,eb,l,eH⟩
 .subst ey eH;obtain⟨z,hd,vs,tG,dd⟩:=Ce I.bE e;have hz:vs.length<=sizeLine:=by rw[<-tG.length];exact z
  have hl:(jE ba k v).length<=sizeLine:=by have:=kO ba k v;lia
  refine wpAny_setItem_pairs (hsz:=hz) (xO ry) dd fun h' Oi hs=>h _ ?_;have he:∃q,h'.get? a=some q:=let ⟨q,_,_,hq,_⟩:=Oi;⟨q,hq⟩;exact vY I (by rw[e];exact True.intro) hs he (Gm hl hd (tG.put k rv) Oi)
 .subst ey eH;cases (show u=Value.ref b from ry);obtain⟨z,hd,xs,tG,dd⟩:=Ti I.bE e;have hz:xs.length<=sizeLine:=by rw[<-Paired.length tG];exact z
  have hl:(jE ba k v).length<=sizeLine:=by have:=kO ba k v;lia
  refine wpAny_setItem_heap (hsz:=hz) (zS hu) (mr I.bE eb) dd fun h' Oi hs=>h _ ?_;obtain⟨q,es,ep,hq,h2,h3,h4,_,h5⟩:=Oi;refine vY I (by rw[e];exact True.intro) hs ⟨q,hq⟩ ⟨hl,hd,_,(tG.put k eb rv).keeps fun c ys ec=>?_,q,es,ep,hq,h2,h3,h4,h5⟩;rw[ao (eY ec e (fun z=>nomatch z))];exact ec
end
section
variable {X:Cx} {ae:List (Addr×Obj)} {σ:St} {H:Hp} {s:Shared} {a:Addr} {ba:List (gY×V)} {k:gY} {u:Value} {A:Around} {E:Value->Shared->Prop}
end
def Tj(i:Expr):Prop:=∀ov iv,subscripted i false ov iv=operate [ov,iv] (getItem ov iv)
theorem JY{prog:Program}{w:World}{A:Around}{E:Value->Shared->Prop}{s:Shared}{env:Env}{value slice:Expr}{pos:Pos}{T id:String}{Q:Value->Shared->Prop}(hl:typeLookup (.type T) "__getitem__"=pure (some (.builtin id)))(hs:Tj slice)(h:wpAny (model prog w) A (eval value env) (fun o s₁=>wpAny (model prog w) A (eval slice env) (fun i s₂=>s₂.TypeIs o T/\wpAny (model prog w) A (getItem o i) Q E s₂) E s₁) E s):
  wpAny (model prog w) A (eval (.Subscript value slice pos) env) Q E s:=by
 refine Subscript_ (gn h (fun o s₁ h₁=>gn h₁ (fun i s₂ h₂=>?_) fun _ _ x=>x) fun _ _ x=>x);obtain⟨hT,h₂⟩:=h₂;unfold subscriptTail;refine az ?_;rw[getitemInPython_of_ne hT.not_modules];refine az (wpAny_specialOf hT hl ?_);have dS:wpAny (model prog w) A (subscripted slice false o i) (fun r s₃=>wpAny (model prog w) A (letTemporaryGo value o r >>= fun _=>pure r) Q E s₃) E s₂:=by
  rw[hs o i];exact wpAny_operating (gn h₂ (fun r s₃ h₃=>az (wpAny_letTemporaryGo (wpAny_pure h₃))) fun _ _ x=>x)
 first
  |exact wpAny_pure (az dS)
  |exact az (wpAny_pure (az dS))
  |exact az dS
theorem xP{X:Cx}{ae:List (Addr×Obj)}{σ:St}{H:Hp}{s:Shared}{a:Addr}{y:V}{o:Option V}(I:aM X ae σ H s)(g:qe H a y o):s.TypeIs (.ref a) "dict":=by
 rcases g with ⟨ba,k,e,_,_⟩|⟨ba,k,b,e,_,_,_⟩
 .obtain⟨_,_,vs,_,dd⟩:=Cd I.bE e;exact dd.typeIs
 .obtain⟨_,_,xs,_,dd⟩:=Cf I.bE e;exact dd.typeIs
def MH(td ty:TE):TE:=fun σ H Q=>td σ H fun x H1=>ty σ H1 fun y H2=>∃a v,x=.ref a/\qe H2 a y (some v)/\Q v H2
def Cg(ty td:TE):TE:=fun σ H Q=>ty σ H fun y H1=>td σ H1 fun x H2=>∃a o,x=.ref a/\qe H2 a y o/\Q (.bl (!o.isSome)) H2
def Tk(td ty tv:TE):TS:=fun D σ H=>tv σ H fun v H1=>td σ H1 fun x H2=>ty σ H2 fun y H3=>∃a H4,x=.ref a/\Gk H3 a y v H4/\D.nx σ H4
section
variable {X:Cx} {o i e value:Expr} {pos xh FI:Pos} {td ty tv:TE}
theorem vZ(hu:X.A.units+1<cLine)(ho:PE X o td)(hi:PE X i ty)(hs:Tj i):PE X (.Subscript o i pos) (MH td ty):=by
 intro ae s σ H Q I h;refine JY PySem.F.slot_dict_getitem.lookup hs (cJ (ho ae s σ H _ I h) fun u s1 ⟨x,H1,I1,rx,q1⟩=>cJ (hi ae s1 σ H1 _ I1 q1) fun iv s2 ⟨y,H2,I2,ry,a,v,ex,g,q2⟩=>?_);subst ex;obtain rfl:u=Value.ref a:=rx;exact⟨xP I2 g,DX hu I2 g ry fun w' s3 I3 qa=>⟨v,H2,I3,qa,q2⟩⟩
theorem DZ(hu:X.A.units+1<cLine)(hi:PE X i ty)(ho:PE X o td):PC X .NotIn i o (Cg ty td):=by
 intro ae s σ H Q I h;refine cJ (hi ae s σ H _ I h) fun iv s1 ⟨y,H1,I1,ry,q1⟩=>cJ (ho ae s1 σ H1 _ I1 q1) fun u s2 ⟨x,H2,I2,rx,a,ov,ex,g,q2⟩=>?_;subst ex;obtain rfl:u=Value.ref a:=rx;exact JX hu I2 g ry fun s3 I3=>⟨.bl (!ov.isSome),H2,I3,rfl,q2⟩
theorem JZ(hu:X.A.units+1<cLine)(ho:PE X o td)(hi:PE X i ty)(hv:PE X value tv)(hs:swapsWith value (some (.Subscript o i xh)) pos.line X.env=pure false):
  PS X (.Assign [.Subscript o i xh] value pos) (Tk td ty tv):=by
 intro ae s σ H D I h;refine wpAny_Assign_Subscript (cJ (hv ae s σ H _ I h) fun r s1 ⟨v,H1,I1,rv,q1⟩=>cJ (ho ae s1 σ H1 _ I1 q1) fun u s2 ⟨x,H2,I2,rx,q2⟩=>cJ (hi ae s2 σ H2 _ I2 q2) fun iv s3 ⟨y,H3,I3,ry,a,H4,ex,g,q3⟩=>?_) hs;subst ex;obtain rfl:u=Value.ref a:=rx;exact DY hu I3 g ry rv fun s4 I4=>⟨σ,H4,I4,q3⟩
end
theorem Gn{P:Program}{w:World}{H:Hp}(h:Heap)(hb:sysModules<h.objs.size):cg P w H (h.push { cls:=.type "dict",data:=.dict #[] }) h.objs.size (.dK []):=
 ⟨bV _,lY.mpr (il (bb hb)),[],.nil,Heap.DictOf.new h⟩
section
variable {X:Cx} {pos:Pos}
end
def AG:List (TE×TE)->St->Hp->(List (V×V)->Hp->Prop)->Prop
 |[],_,H,Q=>Q [] H
 |(tk,tv)::r,σ,H,Q=>tk σ H fun x H1=>tv σ H1 fun y H2=>AG r σ H2 fun ps H3=>Q ((x,y)::ps) H3
abbrev VV:List (V×V)->List (Value×Value)->Prop:=Paired fun p q=>bA p.1 q.1/\bA p.2 q.2
def WB(X:Cx)(pos:Pos)(gZ:List (Option Expr))(values:List Expr)(J0:List (TE×TE)):Prop:=
 ∀ (ae:List (Addr×Obj)) (s:Shared) (σ:St) (H:Hp) (Q:List (V×V)->Hp->Prop),aM X ae σ H s->AG J0 σ H Q->
  wpAny (model X.prog X.w) X.A (evalPairs (pairTrees gZ values X.env pos)) (fun vs s'=>∃ps H',aM X ae σ H' s'/\VV ps vs/\Q ps H') X.xe s
theorem J4{X:Cx}{pos:Pos}:WB X pos [] [] []:=fun ae s σ H Q I h=>pairTrees_nil_walk ⟨[],H,I,.nil,h⟩
theorem Go{X:Cx}{pos:Pos}{k v:Expr}{ks:List (Option Expr)}{vs:List Expr}{tk tv:TE}{J0:List (TE×TE)}(hk:PE X k tk)(hv:PE X v tv)(hr:WB X pos ks vs J0):
  WB X pos (some k::ks) (v::vs) ((tk,tv)::J0):=fun ae s σ H Q I h=>
 pairTrees_cons_walk (cJ (hk ae s σ H _ I h) fun u s1 ⟨x,H1,I1,rx,q1⟩=>cJ (hv ae s1 σ H1 _ I1 q1) fun w2 s2 ⟨y,H2,I2,ry,q2⟩=>
  cJ (hr ae s2 σ H2 _ I2 q2) fun ws s3 ⟨ps,H3,I3,tG,q3⟩=>⟨(x,y)::ps,H3,I3,.cons ⟨rx,ry⟩ tG,q3⟩)
def pA(ba more:List (gY×V)):List (gY×V):=more.foldl (fun d8 kv=>jE d8 kv.1 kv.2) ba
theorem KV.merge:∀ {more:List (gY×V)} {rs:List (gY×Value)} {ba:List (gY×V)} {vs:List (gY×Value)},KV more rs->KV ba vs->KV (pA ba more) (merged vs rs):=by
 intro more rs ba vs r;unfold KV at r;induction r generalizing ba vs with
 |nil=>intro q;exact q
 |@cons p q ps qs h t ih=>
  intro r0;have e:KV (jE ba p.1 p.2) (stored vs q.1 q.2):=by
   have:=r0.put p.1 h.2;rw[<-h.1];exact this
  exact ih e
theorem lP:∀ (more ba:List (gY×V)),(pA ba more).length<=ba.length+more.length
 |[],ba=>by show ba.length<=ba.length+0;lia
 |p::r,ba=>by
  have h1:=lP r (jE ba p.1 p.2);have h2:=kO ba p.1 p.2;show (pA (jE ba p.1 p.2) r).length<=_;rw[d9];lia
theorem rW{P:Program}{w:World}:∀ {ba:List (gY×V)} {ws:List (Value×Value)},VV (ba.map fun kv=>(kV kv.1,kv.2)) ws->∃rs,Carries (dh P w) ws rs/\KV ba rs
 |[],_,r=>by rw[vz] at r;cases r;exact⟨[],True.intro,.nil⟩
 |p::ba,_,r=>by
  rw[eG] at r;cases r with
  |@cons a b as bs h t=>
   obtain⟨rs,c,q⟩:=rW (P:=P) (w:=w) t;obtain⟨b1,b2⟩:=b;exact⟨(p.1,b2)::rs,⟨xO h.1,rfl,c⟩,.cons ⟨rfl,h.2⟩ q⟩
def Tl(J0:List (TE×TE)):TE:=fun σ H Q=>∀p,H p=none->AG J0 σ (upd H p (.dK [])) fun ps H2=>H2 p=some (.dK [])/\∃ba:List (gY×V),ps=ba.map (fun kv=>(kV kv.1,kv.2))/\ba.length<=15/\Q (.ref p) (upd H2 p (.dK (pA [] ba)))
theorem J5{X:Cx}{pos:Pos}{gZ:List (Option Expr)}{values:List Expr}{J0:List (TE×TE)}(h:WB X pos gZ values J0)(tD:gZ.all (·.isSome)=true)(hl:gZ.length=values.length)(h0:gZ≠[])(h15:gZ.length<=15):PE X (.Dict gZ values pos) (Tl J0):=by
 intro ae s σ H Q I q;have hn:=I.bE.fresh (aI s.heap.objs.size);have I1:=I.laid (a:=s.heap.objs.size) (o:=.dK []) (h':=s.heap.push { cls:=.type "dict",data:=.dict #[] }) (t':=s.toks) (fun _ _ q=>bU _ q) (aI _) (Gn s.heap I.big);refine wpAny_Dict_walk (knd:=dh X.prog X.w) tD hl h0 h15 (cJ (h ae _ σ _ _ I1 (q _ hn)) fun ws s2 ⟨ps,H2,I2,tG,e,ba,ep,lk,q2⟩=>?_);subst ep;obtain⟨rs,c,rk⟩:=rW (P:=X.prog) (w:=X.w) tG;obtain⟨z,hd,xM,r0,dd⟩:=Ce I2.bE e;cases r0;refine⟨rs,c,dd,fun h' Oi hs=>⟨.ref s.heap.objs.size,_,?_,rfl,q2⟩⟩;have hz:(pA [] ba).length<=sizeLine:=by
  have h1:=lP ba [];rw[vj] at h1;rw[gj];lia
 have he:∃q,h'.get? s.heap.objs.size=some q:=let ⟨q,_,_,hq,_⟩:=Oi;⟨q,hq⟩;exact vY I2 (by rw[e];exact True.intro) hs he (Gm hz hd (rk.merge .nil) Oi)
section
variable {X:Cx} {ae:List (Addr×Obj)} {σ:St} {H:Hp} {s:Shared} {a:Addr} {y d:V} {u r:Value} {o:Option V} {A:Around} {E:Value->Shared->Prop}
end
section
variable {X:Cx} {o e f:Expr} {kF jC:Pos} {td ty tx:TE}
end
section
variable {X:Cx} {ae:List (Addr×Obj)} {σ:St} {H:Hp} {s:Shared} {a:Addr} {ba:List (gY×V)} {A:Around} {E:Value->Shared->Prop}
end
section
variable {X:Cx} {ae:List (Addr×Obj)} {σ:St} {H:Hp} {s:Shared} {a:Addr} {y:V} {u:Value} {A:Around} {E:Value->Shared->Prop}
end
section
variable {X:Cx}
end
section
variable {κ:Type} [DecidableEq κ]
end
section
variable {X:Cx}
theorem mv:∀ {xs:List V} {its:List Value},aZ xs its->xs.all eZ=true->its.countP (ua x)=xs.countP (fun z=>nq z x)
 |[],_,.nil,_=>rfl
 |y::xs,_,.cons (b:=u) r rr,f=>by
  have fy:eZ y=true:=by rw[oT,fL] at f;exact f.1
  have fx:xs.all eZ=true:=by rw[oT,fL] at f;exact f.2
  have h1:[u].any (ua x)=[y].any (fun z=>nq z x):=lh (.cons r .nil) (by simp[fy]);have h2:ua x u=nq y x:=by simpa using h1
  rw[l7,l7,mv rr fx,h2]
def Gp:V->List V->Hp->VK->Prop:=fun x vs H Q=>∃ (l:Addr) (xs:List V) (y:V),x=.ref l/\vs=[y]/\H l=some (.lst xs)/\eZ y=true/\xs.all eZ=true/\Q (.int (xs.countP fun z=>nq z y)) H
theorem Gq:Sx X "list.count" Gp:=by
 intro ae s σ H x vs v us Q I rx rv h;obtain⟨l,xs,y,rfl,rfl,hH,fy,fs,q⟩:=h;cases rx;obtain⟨u,rfl,ru⟩:=rv.one;obtain⟨z,its,n,r,hl,e⟩:=I.xw hH;refine md F.slot_list_count ⟨_,e,rfl⟩ F.entry_list_count (F.args_list_count_2 _ _) (SeqAt.list_countAt l its.toArray n none #[] u (ua y)) ⟨e,fun w hw=>ip ru fy r fs w (by simpa using hw),?_⟩;refine⟨.int _,H,I.tok _,⟨s.toks,?_⟩,q⟩;rw[show its.toArray.toList=its by simp,mv r fs]
end
def Rg(K:PySem.W.Frag)(a:Addr):It:=
 ⟨fun i H=>∃xs x,a8 K H a xs/\xs[i]?=some x,fun i H x H'=>∃p v,x=.ref p/\H p=none/\H'=upd H p (.tup [.int i,v])/\∀xs,a8 K H a xs->xs[i]?=some v,fun i H=>∃xs,a8 K H a xs/\xs.length<=i⟩
theorem aM.Ch(I:aM X ae σ H s)(fe:ge X ae H e)(fi:ge X ae H it)(k:∀b o,b≠e->b≠it->s.heap.get? b=some o->h'.get? b=some o)(ke:∃o,h'.get? e=some o)(ki:∃o,h'.get? it=some o)(hp:s.heap.objs.size<=p)(hl:xs.length<=sizeLine)(r:aZ xs its)(ht:h'.get? p=some { cls:=.type "tuple",data:=.seq its.toArray }):aM X ae σ (upd H p (.tup xs)) { s with heap:=h',toks:=t' }:=by
 have hn:=I.bE.fresh hp;obtain⟨e0,e1,e2,e3,e4,e5⟩:=fe;obtain⟨i0,i1,i2,i3,i4,i5⟩:=fi;have ne:∀b o,s.heap.get? b=some o->b≠p:=fun b o q=>bb (cz (a9 q) hp);have Cj:∀b o,H b=some o->b≠e/\b≠it:=fun b o q=>⟨(fun z=>by rw[z,e0] at q;cases q),(fun z=>by rw[z,i0] at q;cases q)⟩
 refine I.step (g':=s.gens) (d':=s.drawn) (ch:=[e,it]) (fun b hb=>?_) (fun b o _ _ hb q _=>?_) (fun b o _ _ hb q _=>⟨o.slots,?_⟩) (fun b o hb q n=>by rw[ao (ne b o q)];exact n) (fun b o hb q=>⟨o,?_⟩)
  (fun b ys q=>by rw[ao (am q hn)];exact q) (fun b o u q=>by rw[ao (am q hn)];exact q) (fun b ps q=>⟨#[],by rw[ao (am q hn),q];simp⟩) (fun m hm=>?_) (fun b o q=>?_) I.bare
 .rcases a_.mp hb with rfl|hb
  .exact⟨e3,e1,e4,e5⟩
  .rw[cA.mp hb];exact⟨i3,i1,i4,i5⟩
 .exact k b o (fun z=>hb (z ▸ bL)) (fun z=>hb (z ▸ cm _ bL)) q
 .exact k b o (fun z=>hb (z ▸ bL)) (fun z=>hb (z ▸ cm _ bL)) q
 .exact k b o (fun z=>hb (z ▸ bL)) (fun z=>hb (z ▸ cm _ bL)) q
 .obtain⟨o,es,ep,q,d,r'⟩:=hm;exact⟨o,es,ep,k _ _ e1.symm i1.symm q,d,r'⟩
 .by_cases hb:b=p
  .subst hb;rw[af] at q;cases q;exact⟨hl,its,r,_,ht,rfl,_,rfl,rfl⟩
  .rw[ao hb] at q;refine(I.bE b o q).mT (fun c u hc z=>k c u ?_ ?_ z) (fun c z=>by rw[ao (am z hn)];exact z) fun c ys z=>by rw[ao (am z hn)];exact z
   .rcases hc with rfl|hc
    .exact(Cj _ _ q).1
    .exact(Cj _ _ hc).1
   .rcases hc with rfl|hc
    .exact(Cj _ _ q).2
    .exact(Cj _ _ hc).2
theorem D5{P:Program}{w:World}{K:PySem.W.Frag}{es:List Expr}{x1:Nat}{pos:Pos}(a e it:Addr)(jb:e≠it):
  vG P w K (.Tuple es x1 pos) (Rg K a) [e,it] e (fun i h=>(∃h_,IsEnum h e it (i:Int) h_)/\h.IsListIter it a i) where
 mem:=by simp
 obj:=fun i h st b hb=>by
  obtain⟨⟨h_,he⟩,⟨o,q,c,d⟩⟩:=st;rcases a_.mp hb with rfl|hb
  .exact⟨_,he,fun v z=>by
    have z':Data.fields _=Data.cell v:=z;cases z'⟩
  .rw[cA.mp hb];exact⟨o,q,fun v z=>by rw[d] at z;cases z⟩
 keep:=fun i h h' st k=>by
  obtain⟨⟨h_,he⟩,hi⟩:=st;exact⟨⟨h_,k e (by simp) _ he⟩,hi.at fun o q=>k it (by simp) o q⟩
 item:=by
  intro X hP hw hK hc i ae s σ H E I hf st hg;subst hP hw hK;obtain⟨xs,x,hq,hx⟩:=hg;obtain⟨its,rv,p,hz⟩:=I.list hq;obtain⟨u,hu,ru⟩:=rv.get hx;obtain⟨⟨h_,he⟩,hi⟩:=st;refine wpAny_pyNext_enum_item he hi p.isList (x:=u) (by simpa using hu) jb fun h' ho sZ ht hsz k=>?_;refine⟨_,rfl,wpAny_letOwnedTupleGo_enum ho fun h2 Tn mh=>?_⟩;have To:s.heap.objs.size≠e:=iP (a9 he);have xC:h2.IsListIter it a (i+1):=sZ.extBut mh.extBut jb.symm;have fe:=hf e (by simp);have fi:=hf it (by simp);have I2:aM X ae σ (upd H s.heap.objs.size (.tup [.int i,x])) { s with heap:=h2,toks:=s.toks+1 }:=by
   refine I.Ch (its:=[.int i s.toks,u]) fe fi (fun b o h1 h3 q=>(mh.2 b h1).trans (k b o h1 h3 q)) ⟨_,Tn⟩ ?_ (aI _) (by show 2<=sizeLine;decide) (.cons ⟨_,rfl⟩ (.cons ru .nil)) ((mh.2 _ To).trans ht);obtain⟨o,q,_⟩:=xC;exact⟨o,q⟩
  refine⟨.ref s.heap.objs.size,_,I2,rfl,⟨_,x,rfl,I.bE.fresh (aI _),rfl,fun ys hy=>by rw[I.xg hy hq];exact hx⟩,⟨⟨u,Tn⟩,xC⟩,fun b hb=>?_⟩;have f0:=(hf b hb).1;rw[ao]
  .exact f0
  .rcases a_.mp hb with rfl|hb
   .exact To.symm
   .rw[cA.mp hb];obtain⟨o,q,_⟩:=hi;exact bb (a9 q)
 done:=by
  intro X hP hw hK hc i ae s σ H E I hf st hg;subst hP hw hK;obtain⟨xs,hq,hx⟩:=hg;obtain⟨its,rv,p,hz⟩:=I.list hq;obtain⟨f0,f1,f2,f3,f4,f5⟩:=hf it (by simp);obtain⟨⟨h_,he⟩,hi⟩:=st;have hl:=rv.length;exact wpAny_pyNext_enum_end (I.ok.hd hc) he hi p.isList (by simp;lia) fun h' eb=>⟨rfl,I.turned (t':=s.toks) (fun b o hb e=>eb b o hb e) f0 f1 f3 f4 f5⟩
 self:=fun _ _ _ _ _ st h=>by
  obtain⟨⟨h_,he⟩,_⟩:=st;exact vh he h
section
variable {X:Cx}
def Tp(K:PySem.W.Frag)(ta:TA):TI:=fun σ H R=>ta σ H fun vs H1=>∃a xs,vs=[.ref a]/\H1 a=some (.lst xs)/\R (Rg K a) H1
theorem Ck(hg:Gl X "enumerate")(hm:X.mg "enumerate"=none)(ha:PA X [a] ta)(hs:starEach [a] X.env=[(false,eval a X.env)]:=by rfl):
  PI X (.Tuple es x1 FI) (.Call (.Name "enumerate" p) [a] [] pos) (Tp X.K ta):=by
 intro ae s σ H R I h;refine Call_ (jv I hg hm (by decide +kernel:bootBuiltins "enumerate"=some (.type "enumerate")) (tS (cJ (ha pos ae s σ H _ I h) fun us s1 ⟨vs,H1,I1,r1,q1⟩=>?_) hs rfl));obtain⟨l,xs,rfl,hl,q⟩:=q1;obtain⟨u1,rfl,Tq⟩:=r1.one;obtain rfl:u1=Value.ref l:=Tq;obtain⟨z,its,n,r,_,e⟩:=I1.xw hl;refine call_enumerate_1 e fun h' he hi hsz k=>?_;have jb:s1.heap.objs.size+1≠s1.heap.objs.size:=Nat.succ_ne_self _;refine vh he ?_;have I2:aM X ae σ H1 { s1 with heap:=h' }:=I1.kept (t':=s1.toks) k;refine⟨s1.heap.objs.size+1,[s1.heap.objs.size+1,s1.heap.objs.size],_,_,H1,rfl,I2,D5 l _ _ jb,⟨⟨_,he⟩,hi⟩,fun b hb=>?_,q⟩;have mP:s1.heap.objs.size<=b:=by
  rcases a_.mp hb with rfl|hb
  .exact rp _
  .rw[cA.mp hb];exact aI _
 exact I1.vF mP (I1.bE.fresh mP)
theorem Gr{K:PySem.W.Frag}{a:Addr}{xs:List V}{g:TG}{tb:TS}{D:vE}{σ:St}{H:Hp}(Pv:Nat->St->Hp->Prop)(h0:Pv 0 σ H)(hl:∀i σ H,i<=xs.length->Pv i σ H->a8 K H a xs)(hs:∀i x p σ H,xs[i]?=some x->Pv i σ H->H p=none->g (.ref p) σ (upd H p (.tup [.int i,x])) fun σ2 H2=>tb { D with nx:=Pv (i+1),ct:=Pv (i+1),bk:=D.nx } σ2 H2)(hd:∀σ H,Pv xs.length σ H->D.nx σ H):
  ∃W:Nat->Nat->St->Hp->Prop,(∃m,W 0 m σ H)/\∀i m σ H,W i m σ H->
   ((Rg K a).stop i H/\D.nx σ H)\/((Rg K a).go i H/\∃N:St->Hp->Prop,(∀σ' H',N σ' H'->∃m',m'<m/\W (i+1) m' σ' H')/\∀x H',(Rg K a).Mm i H x H'->g x σ H' fun σ2 H2=>tb { D with nx:=N,ct:=N,bk:=D.nx } σ2 H2):=by
 refine⟨fun i m σ H=>m=xs.length-i/\i<=xs.length/\Pv i σ H,⟨xs.length,by simp,bV _,h0⟩,?_⟩;rintro i m σ H ⟨rfl,hi,p⟩;have q:=hl i σ H hi p;by_cases dN:i<xs.length
 .refine .inr ⟨⟨xs,xs[i],q,by simp[dN]⟩,Pv (i+1),fun σ' H' p'=>⟨xs.length-(i+1),by lia,rfl,dN,p'⟩,fun x H' y=>?_⟩;obtain⟨pp,v,rfl,hn,rfl,hv⟩:=y;exact hs i v pp σ _ (hv xs q) p hn
 .have e:i=xs.length:=by lia
  subst e;exact .inl ⟨⟨xs,q,aI _⟩,hd σ H p⟩
theorem D6{K:PySem.W.Frag}{a D:Addr}{xs:List V}{g:TG}{tt:TT}{te:TE}{dS:Hp->Prop}{σB:St}{H0:Hp}(Pv:Nat->List V->St->Hp->Prop)(h0:Pv 0 [] σB H0)(hl:∀i ys σ H,i<=xs.length->Pv i ys σ H->a8 K H a xs)(hs:∀i x p ys σ H (Kt:V->St->Hp->Prop) (Kf:St->Hp->Prop),xs[i]?=some x->Pv i ys σ H->H p=none->
   (∀v σ2 H4,H4 D=some (.lst ys)->ys.length<sizeLine->Pv (i+1) (ys++[v]) σ2 (upd H4 D (.lst (ys++[v])))->Kt v σ2 H4)->(∀σ2 H3,Pv (i+1) ys σ2 H3->Kf σ2 H3)->
   g (.ref p) σ (upd H p (.tup [.int i,x])) fun σ2 H2=>tt σ2 H2 fun b H3=>if b=true then te σ2 H3 fun v H4=>Kt v σ2 H4 else Kf σ2 H3)(hd:∀ys σ H,Pv xs.length ys σ H->dS H):hV (Rg K a) g tt te D dS σB H0:=by
 refine⟨fun i m σ H=>m=xs.length-i/\i<=xs.length/\∃ys,Pv i ys σ H,⟨xs.length,by simp,bV _,[],h0⟩,?_⟩;rintro i m σ H ⟨rfl,hi,ys,p⟩;have q:=hl i ys σ H hi p;by_cases dN:i<xs.length
 .refine .inr ⟨⟨xs,xs[i],q,by simp[dN]⟩,?_⟩;rintro x H' ⟨pp,v,rfl,hn,rfl,hv⟩;exact hs i v pp ys σ _ (fun v σ2 H4=>∃ys,H4 D=some (.lst ys)/\ys.length<sizeLine/\∃m',m'<xs.length-i/\m'=xs.length-(i+1)/\i+1<=xs.length/\∃pV,Pv (i+1) pV σ2 (upd H4 D (.lst (ys++[v]))))
   (fun σ2 H3=>∃m',m'<xs.length-i/\m'=xs.length-(i+1)/\i+1<=xs.length/\∃pV,Pv (i+1) pV σ2 H3) (hv xs q) p hn
   (fun v σ2 H4 z1 z2 z3=>⟨ys,z1,z2,_,by lia,rfl,dN,_,z3⟩) (fun σ2 H3 z=>⟨_,by lia,rfl,dN,_,z⟩)
 .have e:i=xs.length:=by lia
  subst e;exact .inl ⟨⟨xs,q,aI _⟩,hd ys σ H p⟩
end
section
variable {prog:Program} {w:World} {A:Around} {E:Value->Shared->Prop} {s:Shared}
theorem mw(ET:s.heap.IsTupleIter it t i)(ht:s.heap.IsTuple t xs)(hx:xs[i]?=some x)(q:∀h',h'.IsTupleIter it t (i+1)->Heap.SameBut it s.heap h'->Q x { s with heap:=h' }):wpAny (model prog w) A (Builtin.SmallTypes.nextOf (.ref it)) Q E s:=by
 obtain⟨o,h1,h2,h3⟩:=id ET;obtain⟨p,k1,_,n,k3⟩:=ht;unfold Builtin.SmallTypes.nextOf;refine az (qU (name:=Str.ofString "__next__") ET.typeIs F.slot_tuple_iterator_next (oQ F.slot_tuple_iterator_next ET.typeIs F.entry_tuple_iterator_next ?_ (F.args_tuple_iterator_next_1 _)));change wpAny _ _ (field (.ref it) 0 >>= _) _ _ s;refine az (gk h1 h3 (x:=.ref t) rfl ?_);change wpAny _ _ (if (Value.ref t==Value.none)=true then _ else _) _ _ s;rw[aq (by exact cP)];change wpAny _ _ (field (.ref it) 1 >>= _) _ _ s;refine az (gk h1 h3 (x:=.int i 0) rfl ?_);change wpAny _ _ (seqItems? (.ref t) >>= _) _ _ s;refine az (kj k1 k3 ?_);simp only[lJ,hx];refine az (wpAny_setField h1 h3 (by simp) (wpAny_pure ⟨x,rfl,wpAny_pure (q _ ?_ (oF ..))⟩));refine⟨_,zE _ h1 (Obj.isFreed_of_fields (Obj.data_mapFields h3 _)),(Obj.cls_mapFields ..).trans h2,?_⟩;rw[Obj.data_mapFields h3];simp[rawInt]
theorem pB(hh:A.handled=none)(ET:s.heap.IsTupleIter it t i)(ht:s.heap.IsTuple t xs)(hx:xs[i]?=none)(q:∀h' e,Heap.ExtBut it s.heap h'->(∃o,h'.get? e=some o/\o.cls=.type "StopIteration")->E (.ref e) { s with heap:=h' }):wpAny (model prog w) A (Builtin.SmallTypes.nextOf (.ref it)) Q E s:=by
 obtain⟨o,h1,h2,h3⟩:=id ET;obtain⟨p,k1,_,n,k3⟩:=ht;unfold Builtin.SmallTypes.nextOf;refine az (qU (name:=Str.ofString "__next__") ET.typeIs F.slot_tuple_iterator_next (oQ F.slot_tuple_iterator_next ET.typeIs F.entry_tuple_iterator_next ?_ (F.args_tuple_iterator_next_1 _)));change wpAny _ _ (field (.ref it) 0 >>= _) _ _ s;refine az (gk h1 h3 (x:=.ref t) rfl ?_);change wpAny _ _ (if (Value.ref t==Value.none)=true then _ else _) _ _ s;rw[aq (by exact cP)];change wpAny _ _ (field (.ref it) 1 >>= _) _ _ s;refine az (gk h1 h3 (x:=.int i 0) rfl ?_);change wpAny _ _ (seqItems? (.ref t) >>= _) _ _ s;refine az (kj k1 k3 ?_);simp only[lJ,hx];refine az (gm (az (wpAny_setField h1 h3 (by simp) ?stop)));case stop=>
  change wpAny _ _ (newExc (.type "StopIteration") [] >>= _) _ _ _;refine az ?_;simp only[newExc,newTuple];refine az (vi (az (m:=firstArgMember _ _) (wpAny_of_eq (a:=Value.none) (by simp only[firstArgMember];rfl) (vi ?_ (by size_fits)))) (by size_fits));simp only[raiseNew];refine az (wpAny_handled ?_);rw[show A.in1.handled=none from hh];exact az (wpAny_pure (wpAny_throw (q _ _ (fun b u hb z=>bU _ (bU _ ((zB _ _ (il hb)).trans z))) ⟨_,cY _ rfl,rfl⟩)))
theorem xQ(hh:A.handled=none)(it t:Addr)(jb:t≠it)(xs:Array Value):Draws prog w A it [it,t] xs.size (fun i v=>xs[i]?=some v) (fun i h=>h.IsTupleIter it t i/\h.IsTuple t xs) where
 live:=fun _ _ st=>let ⟨o,ho,_⟩:=st.1;⟨o,ho⟩
 frame:=fun _ _ _ st hk=>⟨st.1.at fun o e=>hk it (by simp) o e,let ⟨o,e,r⟩:=st.2;⟨o,hk t (by simp) o e,r⟩⟩
 item:=fun i s Q E hi st q=>by
  refine mw st.1 st.2 (x:=xs[i]) (by simp[hi]) fun h' a b=>?_;obtain⟨o,e,r⟩:=st.2;exact q _ h' s.toks (by simp[hi]) ⟨a,o,(b.2 t jb).trans e,r⟩ b
 done:=fun s Q E st q=>pB hh st.1 st.2 (by simp) q
end
theorem D7(t:Addr)(xs:Array Value):
  Meets (Builtin.«enumerate.__new__» ⟨[.type "enumerate",.ref t],[]⟩) (fun _ R s=>s.heap.IsTuple t xs/\
   R (.ok (.ret (.ref (s.heap.push { cls:=.type "tuple_iterator",data:=.fields #[.ref t,.int 0 0] }).objs.size)))
    { s with heap:=(s.heap.push { cls:=.type "tuple_iterator",data:=.fields #[.ref t,.int 0 0] }).push { cls:=.type "enumerate",data:=.fields #[.none,.bool false,.ref s.heap.objs.size,rawInt 0,.none,.none] } }):=
 .of_wp fun prog w A R s h=>by
  obtain⟨hp,g,d,tk,os⟩:=s;obtain⟨hT,h⟩:=h;have hs:=sub_enumerate
  wp_walk
  refine wpAny_stack_any fun st=>wpAny_pure ?_;split
  .rename_i c _ _ _ _ _;cases (c==Value.type "enumerate") <;> (wp_walk using q9 hT;exact⟨_,rfl,h⟩)
  .wp_walk using q9 hT
   exact⟨_,rfl,h⟩
theorem AH(ht:s.heap.IsTuple t xs)(h:∀h',IsEnum h' (s.heap.objs.size+1) s.heap.objs.size 0 .none->h'.IsTupleIter s.heap.objs.size t 0->(∀b o,s.heap.get? b=some o->h'.get? b=some o)->Q (.ref (s.heap.objs.size+1)) { s with heap:=h' }):
  wpAny (model prog w) A (call (.type "enumerate") [.ref t]) Q E s:=by
 refine callType_new F.called_enumerate (by decide) (F.typeCall_enumerate_1 _) (F.newCall_enumerate_1 _) (fun obj=>F.args_object_init_2 obj _) F.entry_enumerate_new (D7 t xs) ⟨ht,?_⟩;have hz:(s.heap.push { cls:=.type "tuple_iterator",data:=.fields #[.ref t,.int 0 0] }).objs.size=s.heap.objs.size+1:=i_ ..;have he:IsEnum ((s.heap.push { cls:=.type "tuple_iterator",data:=.fields #[.ref t,.int 0 0] }).push
   { cls:=.type "enumerate",data:=.fields #[.none,.bool false,.ref s.heap.objs.size,rawInt 0,.none,.none] }) (s.heap.objs.size+1) s.heap.objs.size 0 .none:=by
  have q:=cY (s.heap.push { cls:=.type "tuple_iterator",data:=.fields #[.ref t,.int 0 0] }) (o:={ cls:=.type "enumerate",data:=.fields #[.none,.bool false,.ref s.heap.objs.size,rawInt 0,.none,.none] }) rfl;rw[hz] at q;exact q
 show _/\_;rw[hz];exact⟨⟨_,he,rfl⟩,h _ he ⟨_,bU _ (cY _ rfl),rfl,rfl⟩ fun b o x=>bU _ (bU _ x)⟩
def AI(K:PySem.W.Frag)(a:Addr):It:=
 ⟨fun i H=>∃xs x,bJ K H a xs/\xs[i]?=some x,fun i H x H'=>∃p v,x=.ref p/\H p=none/\H'=upd H p (.tup [.int i,v])/\∀xs,bJ K H a xs->xs[i]?=some v,fun i H=>∃xs,bJ K H a xs/\xs.length<=i⟩
theorem AJ{P:Program}{w:World}{K:PySem.W.Frag}{es:List Expr}{x1:Nat}{pos:Pos}(a e it:Addr)(jb:e≠it)(hae:a≠e)(hai:a≠it):
  vG P w K (.Tuple es x1 pos) (AI K a) [e,it] e (fun i h=>(∃h_,IsEnum h e it (i:Int) h_)/\h.IsTupleIter it a i) where
 mem:=by simp
 obj:=fun i h st b hb=>by
  obtain⟨⟨h_,he⟩,⟨o,q,c,d⟩⟩:=st;rcases a_.mp hb with rfl|hb
  .exact⟨_,he,fun v z=>by
    have z':Data.fields _=Data.cell v:=z;cases z'⟩
  .rw[cA.mp hb];exact⟨o,q,fun v z=>by rw[d] at z;cases z⟩
 keep:=fun i h h' st k=>by
  obtain⟨⟨h_,he⟩,hi⟩:=st;exact⟨⟨h_,k e (by simp) _ he⟩,hi.at fun o q=>k it (by simp) o q⟩
 item:=by
  intro X hP hw hK hc i ae s σ H E I hf st hg;subst hP hw hK;obtain⟨xs,x,hq,hx⟩:=hg;obtain⟨its,rv,p,hz⟩:=I.tuple hq;obtain⟨u,hu,ru⟩:=rv.get hx;obtain⟨⟨h_,he⟩,hi⟩:=st;have dN:i<its.toArray.size:=by
   have:=(cu.mp hu).1;simpa using this
  have D:=xQ (prog:=X.prog) (w:=X.w) (A:=X.A.in1) (I.ok.hd hc) it a hai its.toArray;refine wpAny_pyNext_enum_itemD D he ⟨hi,p⟩ dN jb (by simp[jb,hae.symm]) fun u' h' tk uh ho mZ ht hsz k=>?_;have eu:u'=u:=by
   have h1:its.toArray[i]?=some u:=by simpa using hu
   rw[h1] at uh;exact(bh uh).symm
  subst eu;refine⟨_,rfl,wpAny_letOwnedTupleGo_enum ho fun h2 Tn mh=>?_⟩;have To:s.heap.objs.size≠e:=iP (a9 he);have xC:h2.IsTupleIter it a (i+1):=mZ.1.at fun o q=>(mh.2 it jb.symm).trans q;have fe:=hf e (by simp);have fi:=hf it (by simp);have I2:aM X ae σ (upd H s.heap.objs.size (.tup [.int i,x])) { s with heap:=h2,toks:=tk+1 }:=by
   refine I.Ch (its:=[.int i tk,u']) fe fi (fun b o h1 h3 q=>(mh.2 b h1).trans (k b o h1 h3 q)) ⟨_,Tn⟩ ?_ (aI _) (by show 2<=sizeLine;decide) (.cons ⟨_,rfl⟩ (.cons ru .nil)) ((mh.2 _ To).trans ht);obtain⟨o,q,_⟩:=xC;exact⟨o,q⟩
  refine⟨.ref s.heap.objs.size,_,I2,rfl,⟨_,x,rfl,I.bE.fresh (aI _),rfl,fun ys hy=>by rw[I.gp hy hq];exact hx⟩,⟨⟨u',Tn⟩,xC⟩,fun b hb=>?_⟩;have f0:=(hf b hb).1;rw[ao]
  .exact f0
  .rcases a_.mp hb with rfl|hb
   .exact To.symm
   .rw[cA.mp hb];obtain⟨o,q,_⟩:=hi;exact bb (a9 q)
 done:=by
  intro X hP hw hK hc i ae s σ H E I hf st hg;subst hP hw hK;obtain⟨xs,hq,hx⟩:=hg;obtain⟨its,rv,p,hz⟩:=I.tuple hq;obtain⟨f0,f1,f2,f3,f4,f5⟩:=hf it (by simp);obtain⟨⟨h_,he⟩,hi⟩:=st;have hl:=rv.length;unfold pyNext;have hT:s.TypeIs (.ref e) "enumerate":=⟨_,he,rfl⟩
  refine az (oX (qU (name:=Str.ofString "__next__") hT F.slot_enumerate_next (oQ F.slot_enumerate_next hT F.entry_enumerate_next ?_ (F.args_enumerate_next_1 _))));change wpAny _ _ (field (.ref e) 2 >>= _) _ _ _;refine az (gk he rfl (x:=.ref it) rfl (az (pB (I.ok.hd hc) hi p (by simp;lia) fun h' x eb Ab=>?_)));obtain⟨o,ho,Mt⟩:=Ab;exact az (wpAny_isInstance (T:="StopIteration") (b:=true) ⟨o,ho,Mt⟩ isSubtype_stop (wpAny_pure ⟨rfl,I.turned (t':=s.toks) (fun b o hb e=>eb b o hb e) f0 f1 f3 f4 f5⟩))
 self:=fun _ _ _ _ _ st h=>by
  obtain⟨⟨h_,he⟩,_⟩:=st;exact vh he h
section
variable {X:Cx}
def Oj(K:PySem.W.Frag)(ta:TA):TI:=fun σ H R=>ta σ H fun vs H1=>∃a xs,vs=[.ref a]/\bJ K H1 a xs/\R (AI K a) H1
theorem rX(hg:Gl X "enumerate")(hm:X.mg "enumerate"=none)(ha:PA X [a] ta)(hs:starEach [a] X.env=[(false,eval a X.env)]:=by rfl):
  PI X (.Tuple es x1 FI) (.Call (.Name "enumerate" p) [a] [] pos) (Oj X.K ta):=by
 intro ae s σ H R I h;refine Call_ (jv I hg hm (by decide +kernel:bootBuiltins "enumerate"=some (.type "enumerate")) (tS (cJ (ha pos ae s σ H _ I h) fun us s1 ⟨vs,H1,I1,r1,q1⟩=>?_) hs rfl));obtain⟨l,xs,rfl,hl,q⟩:=q1;obtain⟨u1,rfl,Tq⟩:=r1.one;obtain rfl:u1=Value.ref l:=Tq;obtain⟨its,rv,pt,hz⟩:=I1.tuple hl;have dN:l<s1.heap.objs.size:=by obtain⟨o,e,_⟩:=pt;exact a9 e
 refine AH (show s1.heap.IsTuple l its.toArray from pt) fun h' he hi k=>?_;have jb:s1.heap.objs.size+1≠s1.heap.objs.size:=Nat.succ_ne_self _;refine vh he ?_;have I2:aM X ae σ H1 { s1 with heap:=h' }:=I1.kept (t':=s1.toks) k;refine⟨s1.heap.objs.size+1,[s1.heap.objs.size+1,s1.heap.objs.size],_,_,H1,rfl,I2,AJ l _ _ jb (bb (eV dN)) (bb dN),⟨⟨_,he⟩,hi⟩,fun b hb=>?_,q⟩;have mP:s1.heap.objs.size<=b:=by
  rcases a_.mp hb with rfl|hb
  .exact rp _
  .rw[cA.mp hb];exact aI _
 exact I1.vF mP (I1.bE.fresh mP)
theorem D8{K:PySem.W.Frag}{a:Addr}{xs:List V}{g:TG}{tb:TS}{D:vE}{σ:St}{H:Hp}(Pv:Nat->St->Hp->Prop)(h0:Pv 0 σ H)(hl:∀i σ H,i<=xs.length->Pv i σ H->bJ K H a xs)(hs:∀i x p σ H,xs[i]?=some x->Pv i σ H->H p=none->g (.ref p) σ (upd H p (.tup [.int i,x])) fun σ2 H2=>tb { D with nx:=Pv (i+1),ct:=Pv (i+1),bk:=D.nx } σ2 H2)(hd:∀σ H,Pv xs.length σ H->D.nx σ H):
  ∃W:Nat->Nat->St->Hp->Prop,(∃m,W 0 m σ H)/\∀i m σ H,W i m σ H->
   ((AI K a).stop i H/\D.nx σ H)\/((AI K a).go i H/\∃N:St->Hp->Prop,(∀σ' H',N σ' H'->∃m',m'<m/\W (i+1) m' σ' H')/\∀x H',(AI K a).Mm i H x H'->g x σ H' fun σ2 H2=>tb { D with nx:=N,ct:=N,bk:=D.nx } σ2 H2):=by
 refine⟨fun i m σ H=>m=xs.length-i/\i<=xs.length/\Pv i σ H,⟨xs.length,by simp,bV _,h0⟩,?_⟩;rintro i m σ H ⟨rfl,hi,p⟩;have q:=hl i σ H hi p;by_cases dN:i<xs.length
 .refine .inr ⟨⟨xs,xs[i],q,by simp[dN]⟩,Pv (i+1),fun σ' H' p'=>⟨xs.length-(i+1),by lia,rfl,dN,p'⟩,fun x H' y=>?_⟩;obtain⟨pp,v,rfl,hn,rfl,hv⟩:=y;exact hs i v pp σ _ (hv xs q) p hn
 .have e:i=xs.length:=by lia
  subst e;exact .inl ⟨⟨xs,q,aI _⟩,hd σ H p⟩
theorem rY{K:PySem.W.Frag}{a D:Addr}{xs:List V}{g:TG}{tt:TT}{te:TE}{dS:Hp->Prop}{σB:St}{H0:Hp}(Pv:Nat->List V->St->Hp->Prop)(h0:Pv 0 [] σB H0)(hl:∀i ys σ H,i<=xs.length->Pv i ys σ H->bJ K H a xs)(hs:∀i x p ys σ H (Kt:V->St->Hp->Prop) (Kf:St->Hp->Prop),xs[i]?=some x->Pv i ys σ H->H p=none->
   (∀v σ2 H4,H4 D=some (.lst ys)->ys.length<sizeLine->Pv (i+1) (ys++[v]) σ2 (upd H4 D (.lst (ys++[v])))->Kt v σ2 H4)->(∀σ2 H3,Pv (i+1) ys σ2 H3->Kf σ2 H3)->
   g (.ref p) σ (upd H p (.tup [.int i,x])) fun σ2 H2=>tt σ2 H2 fun b H3=>if b=true then te σ2 H3 fun v H4=>Kt v σ2 H4 else Kf σ2 H3)(hd:∀ys σ H,Pv xs.length ys σ H->dS H):hV (AI K a) g tt te D dS σB H0:=by
 refine⟨fun i m σ H=>m=xs.length-i/\i<=xs.length/\∃ys,Pv i ys σ H,⟨xs.length,by simp,bV _,[],h0⟩,?_⟩;rintro i m σ H ⟨rfl,hi,ys,p⟩;have q:=hl i ys σ H hi p;by_cases dN:i<xs.length
 .refine .inr ⟨⟨xs,xs[i],q,by simp[dN]⟩,?_⟩;rintro x H' ⟨pp,v,rfl,hn,rfl,hv⟩;exact hs i v pp ys σ _ (fun v σ2 H4=>∃ys,H4 D=some (.lst ys)/\ys.length<sizeLine/\∃m',m'<xs.length-i/\m'=xs.length-(i+1)/\i+1<=xs.length/\∃pV,Pv (i+1) pV σ2 (upd H4 D (.lst (ys++[v]))))
   (fun σ2 H3=>∃m',m'<xs.length-i/\m'=xs.length-(i+1)/\i+1<=xs.length/\∃pV,Pv (i+1) pV σ2 H3) (hv xs q) p hn
   (fun v σ2 H4 z1 z2 z3=>⟨ys,z1,z2,_,by lia,rfl,dN,_,z3⟩) (fun σ2 H3 z=>⟨_,by lia,rfl,dN,_,z⟩)
 .have e:i=xs.length:=by lia
  subst e;exact .inl ⟨⟨xs,q,aI _⟩,hd ys σ H p⟩
end
section
variable {X:Cx} {tg:Expr}
end
section
variable {prog:Program} {w:World} {A:Around} {E:Value->Shared->Prop} {s:Shared} {R:Result->Shared->Prop} {l d Ia:Addr}
end
section
variable {prog:Program} {w:World} {A:Around} {E:Value->Shared->Prop} {s:Shared} {l:Addr}
end
section
variable {X:Cx}
end
structure ce(P:Program)(w:World)(K:PySem.W.Frag)(mg:Str->Option Value)(base:Heap)(CX:wY)(k:Nat)(x:Str)(ps:List Str)(sp:Sp):Prop where
 ex:∃f fd,mg x=some (.ref f)/\PySem.W.keepIn K (.ref f)=true/\jX K fd ps []/\bf P w K mg base CX k f fd ps sp
theorem aw(C:ce X.prog X.w X.K X.mg X.base CX k x ps sp)(hr:bD k X.A)(hx:kD CX X E)(ha:PA X (e::es) t)(hg:Gl X x:=by rfl)(Ao:(x==("__debug__":Str))=false:=by decide)(he:starEach (e::es) X.env=(false,eval e X.env)::starEach es X.env:=by rfl)(yR:(backTo pos (starEach es X.env)).any (·.1)=false:=by rfl):
  PE X (.Call (.Name x p) (e::es) [] pos) (pQ sp [] E t):=by
 obtain⟨f,fd,a,b,c,d⟩:=C.ex;exact Jx d hr hg a b c .nil hx ha Ao he yR
theorem ai(h:H D=none):aG H (upd H D o):=fun b u e=>by rw[ao (am e h)];exact e
def aK(p:Addr)(H H':Hp):Prop:=∀b o,H b=some o->b≠p->H' b=some o
theorem aK.refl:aK p H H:=fun _ _ h _=>h
theorem aK.trans(a:aK p H H1)(b:aK p H1 H2):aK p H H2:=fun c o h n=>b c o (a c o h n) n
theorem aK.upd:aK p H (upd H p o):=fun b u h n=>by rw[ao n];exact h
theorem aK.of(s:aG H H'):aK p H H':=fun b o h _=>s b o h
theorem aK.free(s:aK p H H')(hp:H' p≠none)(h:H' q=none):H q=none:=by
 cases z:H q with
 |none=>rfl
 |some o=>
  by_cases e:q=p
  .subst e;exact absurd h hp
  .rw[s q o z e] at h;cases h
theorem gG(h:j<n):EQ n (j:Int)=some j:=by
 unfold EQ;rw[ak (by lia),ak (by lia)];simp
theorem ut(h:as.length=n):(as++[t]).getD j 0=if j=n then t else as.getD j 0:=by
 rw[bZ,bZ];by_cases hj:j=n
 .subst hj;subst h;rw[ak rfl,qP (aI _),rh];rfl
 .rw[aq hj];by_cases dN:j<as.length
  .rw[jM dN]
  .rw[qP (by lia),i6 (by simp;lia),i6 (by lia)]
def Holds(H:Hp)(as:List Addr)(n:Nat)(o:Nat->HO):Prop:=as.length=n/\∀j,j<n->H (as.getD j 0)=some (o j)
theorem Holds.nil:Holds H [] 0 o:=⟨rfl,fun j hj=>absurd hj (by lia)⟩
theorem Holds.snoc(h:Holds H as n o)(ht:H t=some (o n)):Holds H (as++[t]) (n+1) o:=by
 refine⟨by rw[dE,h.1];rfl,fun j hj=>?_⟩;rw[ut h.1];by_cases e:j=n
 .rw[ak e,e];exact ht
 .rw[aq e];exact h.2 j (by lia)
theorem Holds.mono(h:Holds H as n o)(e:∀j,j<n->H (as.getD j 0)=some (o j)->H' (as.getD j 0)=some (o j)):Holds H' as n o:=⟨h.1,fun j hj=>e j hj (h.2 j hj)⟩
end L2
namespace PyProof.Rows
open PySem
def iI:Bool->Keyed->Array Keyed->Nat->Nat->Nat->StateT SortSt Sem (Option Nat):=sortPriv% PySem.Builtin.gallop
def rZ:Array Keyed->Array Keyed->StateT SortSt Sem (Array Keyed):=sortPriv% PySem.Builtin.mergeLo
def r6:Array Keyed->Array Keyed->StateT SortSt Sem (Array Keyed):=sortPriv% PySem.Builtin.mergeHi
def iU:Nat->StateT SortSt Sem Unit:=sortPriv% PySem.Builtin.setMinGallop
def J6(prog:Program)(w:World)(A:Around)(s:Shared)(κ:SortKind)(a₀:Array Keyed)(key:Keyed->Int):Prop:=
 ∀x y,x∈a₀.toList->y∈a₀.toList->∀ (Q:Bool->Shared->Prop) (E:Value->Shared->Prop),Q (decide (key x<key y)) s->wpAny (model prog w) A (keyLt' κ x.1 y.1) Q E s
structure SQ(κ:SortKind)(a₀:Array Keyed)(pd:Array (Nat×Nat×Nat))(st:SortSt):Prop where
 perm:(arrOf st).Perm a₀
 kind:kindOf st=κ
 failed:failedOf st=none
 pend:pendingOf st=pd
def kk(key:Keyed->Int)(a:Array Keyed)(i:Nat):Int:=(a[i]?.map key).getD 0
theorem v3(h:i<a.size):kk key a i=key a[i]:=by unfold kk;rw[dG a i h];rfl
theorem xR(h:a[i]?=b[j]?):kk key a i=kk key b j:=by unfold kk;rw[h]
section
variable {prog:Program} {w:World} {A:Around} {E:Value->Shared->Prop} {s:Shared} {κ:SortKind} {a₀:Array Keyed} {pd:Array (Nat×Nat×Nat)} {key:Keyed->Int}
theorem SQ.size{st:SortSt}(h:SQ κ a₀ pd st):(arrOf st).size=a₀.size:=h.perm.size_eq
theorem SQ.setArr{st:SortSt}(h:SQ κ a₀ pd st){xs:Array Keyed}(hp:xs.Perm (arrOf st)):SQ κ a₀ pd (setArr st xs):=⟨hp.trans h.perm,h.kind,h.failed,h.pend⟩
theorem SQ.at{st:SortSt}(h:SQ κ a₀ pd st){i:Nat}(hi:i<a₀.size):∃p,(arrOf st)[i]?=some p/\p∈a₀.toList:=by
 have sZ:i<(arrOf st).size:=by rw[h.size];exact hi
 exact⟨(arrOf st)[i],dG _ i sZ,(lD.mp h.perm).mem_iff.mp (by simp)⟩
theorem Ol{st:SortSt}{x y:Keyed}{Q:Option Bool->SortSt->Prop}(hC:J6 prog w A s κ a₀ key)(hk:kindOf st=κ)(hx:x∈a₀.toList)(hy:y∈a₀.toList)(h:Q (some (decide (key x<key y))) st):wpS (model prog w) A E s (lt' x y) Q st:=by
 rw[lt'_eq];refine aE (eL ?_);rw[hk];refine aE (iS (oX (hC x y hx hy _ _ ⟨rfl,?_⟩)));exact aJ h
theorem bp{st:SortSt}{arr:Array Keyed}{i:Nat}{p:Keyed}{Q:Keyed->SortSt->Prop}(hi:arr[i]?=some p)(h:Q p st):wpS (model prog w) A E s (elem' arr i) Q st:=by
 rw[elem'_eq,hi];exact aJ h
theorem nJ{st:SortSt}{i j:Nat}{Q:Option Bool->SortSt->Prop}(hC:J6 prog w A s κ a₀ key)(hB:SQ κ a₀ pd st)(hi:i<a₀.size)(hj:j<a₀.size)(h:∀b,b=decide (kk key (arrOf st) i<kk key (arrOf st) j)->Q (some b) st):wpS (model prog w) A E s (ltAt' i j) Q st:=by
 obtain⟨p,e1,m1⟩:=hB.at hi;obtain⟨q,e2,m2⟩:=hB.at hj;rw[ltAt'_eq];refine aE (eL ?_);refine aE (bp e1 (aE (bp e2 (Ol hC hB.kind m1 m2 (h _ ?_)))));unfold kk;rw[e1,e2];rfl
theorem qy{st:SortSt}{i j:Nat}{Q:Unit->SortSt->Prop}(hB:SQ κ a₀ pd st)(hj:j<=a₀.size)(h:∀aD,SQ κ a₀ pd aD->(∀k,(arrOf aD)[k]?=if i<=k/\k<j then (arrOf st)[i+j-1-k]? else (arrOf st)[k]?)->Q () aD):wpS (model prog w) A E s (reverseSlice' i j) Q st:=by
 rw[reverseSlice'_eq];exact e_ (h _ (hB.setArr (mirror_perm _ _ _ _)) (getElem?_mirror_all (by rw[hB.size];exact hj)))
theorem Gs{st:SortSt}{i j:Nat}{Q:Unit->SortSt->Prop}(hB:SQ κ a₀ pd st)(hi:i<a₀.size)(hj:j<=i)(h:∀aD,SQ κ a₀ pd aD->(∀k,(arrOf aD)[k]?=if k=j then (arrOf st)[i]? else if j<k/\k<=i then (arrOf st)[k-1]? else (arrOf st)[k]?)->Q () aD):wpS (model prog w) A E s (moveDown' i j) Q st:=by
 rw[moveDown'_eq];refine e_ (h _ (hB.setArr (bubble_perm _ _ _)) fun k=>?_);have:=getElem?_bubble (xs:=arrOf st) (src:=i) (by rw[hB.size];exact hi) (i-j) (by lia) k;rw[show i-(i-j)=j by lia] at this;exact this
end
def Om(lo cG n:Nat):StateT SortSt Sem (Option Nat):=do
 reverseSlice' lo (lo+n)
 let mut n:=n
 for _ in [n:cG] do
  let some jF <- ltAt' (lo+n) (lo+n-1)|return none
  if jF then break
  n:=n+1
 return some n
def On(lo cG n:Nat):StateT SortSt Sem (Option Nat):=do
 rule "list.sort.descending-run"
 let mut n:=n+1
 let mut neq:=0
 for _ in [n:cG] do
  let some jF <- ltAt' (lo+n) (lo+n-1)|return none
  if jF then
   if neq > 0 then reverseSlice' (lo+n-(neq+1)) (lo+n)
   neq:=0
  else
   let some Oo <- ltAt' (lo+n-1) (lo+n)|return none
   if Oo then break
   neq:=neq+1
  n:=n+1
 if neq > 0 then reverseSlice' (lo+n-(neq+1)) (lo+n)
 Om lo cG n
theorem tH(lo cG:Nat):countRun' lo cG=(do
 let mut n:=1
 for _ in [1:cG] do
  let some jF <- ltAt' (lo+n) (lo+n-1)|return none
  if jF then break
  n:=n+1
 if n==cG then return some n
 if n > 1 then
  let some Yp <- ltAt' lo (lo+n-1)|return none
  if Yp then return some n
  reverseSlice' lo (lo+n)
 On lo cG n):=rfl
section
variable {prog:Program} {w:World} {A:Around} {E:Value->Shared->Prop} {s:Shared} {κ:SortKind} {a₀:Array Keyed} {pd:Array (Nat×Nat×Nat)} {key:Keyed->Int} {ar:Array Keyed}
theorem fc(h:∀k,b[k]?=if i<=k/\k<j then a[i+j-1-k]? else a[k]?)(k:Nat):kk key b k=if i<=k/\k<j then kk key a (i+j-1-k) else kk key a k:=by
 unfold kk;rw[h k];split <;> rfl
end
section
variable {prog:Program} {w:World} {A:Around} {E:Value->Shared->Prop} {s:Shared} {κ:SortKind} {a₀:Array Keyed} {pd:Array (Nat×Nat×Nat)} {ck nu:Keyed->Int}
structure Nu(nu:Keyed->Int)(a₀:Array Keyed):Prop where
 up:∀i j,i<j->j<a₀.size->kk nu a₀ i<kk nu a₀ j
 bd:∀x∈a₀.toList,0<=nu x/\nu x<64
structure SK(κ:SortKind)(a₀:Array Keyed)(pd:Array (Nat×Nat×Nat))(nu:Keyed->Int)(k:Nat)(st:SortSt):Prop where
 q:SQ κ a₀ pd st
 rest:∀j,k<=j->(arrOf st)[j]?=a₀[j]?
 nu:∀i j,i<k->k<=j->j<a₀.size->kk nu (arrOf st) i<kk nu (arrOf st) j
theorem SK.bd{k:Nat}{st:SortSt}(N:Nu nu a₀)(h:SK κ a₀ pd nu k st){i:Nat}(hi:i<a₀.size):0<=kk nu (arrOf st) i/\kk nu (arrOf st) i<64:=by
 obtain⟨p,e,m⟩:=h.q.at hi;unfold kk;rw[e];exact N.bd p m
theorem SK.later{k:Nat}{st:SortSt}(N:Nu nu a₀)(h:SK κ a₀ pd nu k st){i j:Nat}(hi:k<=i)(EM:i<j)(hj:j<a₀.size):kk nu (arrOf st) i<kk nu (arrOf st) j:=by
 rw[xR (h.rest i hi),xR (h.rest j (by lia))];exact N.up i j EM hj
theorem SK.up{k:Nat}{st:SortSt}(N:Nu nu a₀)(h:SK κ a₀ pd nu k st){m:Nat}(hm:k<=m):SK κ a₀ pd nu m st:=
 ⟨h.q,fun j hj=>h.rest j (by lia),fun i j hi hj hz=>by
  by_cases c:i<k
  .exact h.nu i j c (by lia) hz
  .exact h.later N (by lia) (by lia) hz⟩
theorem SK.lt{k:Nat}{st:SortSt}(N:Nu nu a₀)(h:SK κ a₀ pd nu k st){i j:Nat}(hi:i<j)(hk:k<=j)(hj:j<a₀.size):kk nu (arrOf st) i<kk nu (arrOf st) j:=by
 by_cases c:i<k
 .exact h.nu i j c hk hj
 .exact h.later N (by lia) hi hj
def w5(ck nu:Keyed->Int)(a:Array Keyed)(hi:Nat):Prop:=∀i j,i<=j->j<hi->64*kk ck a i+kk nu a i<=64*kk ck a j+kk nu a j
def EU(ck nu:Keyed->Int)(a:Array Keyed)(hi:Nat):Prop:=∀i j,i<=j->j<hi->64*kk ck a j+kk nu a j<=64*kk ck a i+kk nu a i
theorem Gu{st:SortSt}{n ok:Nat}{Q:Bool->SortSt->Prop}(hC:J6 prog w A s κ a₀ ck)(N:Nu nu a₀)(hn:n<=a₀.size)(h1:1<=ok)(bE:ok<=n)(hB:SK κ a₀ pd nu ok st)(hs:w5 ck nu (arrOf st) ok)(h:∀aD,SK κ a₀ pd nu n aD->w5 ck nu (arrOf aD) n->Q true aD):wpS (model prog w) A E s (binarySort' 0 n ok) Q st:=by
 rw[binarySort'_eq];simp only[jr];rw[show max ok 1=ok by lia];refine aE (eJ (eI (I:=fun k c aD=>c=(none,())/\SK κ a₀ pd nu k aD/\w5 ck nu (arrOf aD) k) (Q:=fun c aD=>c=(none,())/\SK κ a₀ pd nu n aD/\w5 ck nu (arrOf aD) n) ?_ (fun c aD hh=>?_) ⟨rfl,hB,hs⟩) ?_)
 .rintro k c aD hk1 Rh ⟨rfl,xS,so⟩;refine aE (eJ (eI (I:=fun x c pC=>(∃l r,c=(none,l,r)/\l<=r/\r<=k/\r<=l+(k-x)/\(∀i,i<l->64*kk ck (arrOf aD) i+kk nu (arrOf aD) i<=64*kk ck (arrOf aD) k+kk nu (arrOf aD) k)/\(∀i,r<=i->i<k->64*kk ck (arrOf aD) k+kk nu (arrOf aD) k<=64*kk ck (arrOf aD) i+kk nu (arrOf aD) i))/\pC=aD)
   (Q:=fun c pC=>(∃l r,c=(none,l,r)/\l<=k/\(∀i,i<l->64*kk ck (arrOf aD) i+kk nu (arrOf aD) i<=64*kk ck (arrOf aD) k+kk nu (arrOf aD) k)/\(∀i,l<=i->i<k->64*kk ck (arrOf aD) k+kk nu (arrOf aD) k<=64*kk ck (arrOf aD) i+kk nu (arrOf aD) i))/\pC=aD) ?_ ?_ ⟨⟨_,_,rfl,bV _,aI _,by lia,fun i h=>by lia,fun i h h'=>by lia⟩,rfl⟩) ?_)
  .rintro x c lL _ hx ⟨⟨l,r,rfl,Yq,hr,hrl,f1,f2⟩,rfl⟩;dsimp only;by_cases xT:l>=r
   .rw[ak xT];exact aJ ⟨⟨_,_,rfl,by lia,f1,fun i hi sZ=>f2 i (by lia) sZ⟩,rfl⟩
   .rw[aq xT];refine aE (nJ hC xS.q (by lia) (by lia) fun b eb=>?_);have nn:=xS.lt N (i:=(l+r) / 2) (j:=k) (by lia) (aI _) (by lia);have b1:=xS.bd N (i:=(l+r) / 2) (by lia);have b2:=xS.bd N (i:=k) (by lia);cases b
    .have e:=qX eb.symm;refine aJ ⟨⟨_,_,rfl,by lia,hr,by lia,fun i hi=>?_,f2⟩,rfl⟩;have:=so i ((l+r) / 2) (by lia) (by lia);lia
    .have e:=cQ eb.symm;refine aJ ⟨⟨_,_,rfl,by lia,by lia,by lia,f1,fun i hi sZ=>?_⟩,rfl⟩;have:=so ((l+r) / 2) i (by lia) (by lia);lia
  .rintro c lL ⟨⟨l,r,rfl,Yq,hr,hrl,f1,f2⟩,rfl⟩;exact⟨⟨_,_,rfl,by lia,f1,fun i hi sZ=>f2 i (by lia) sZ⟩,rfl⟩
  .rintro c lL ⟨⟨l,r,rfl,hl,f1,f2⟩,rfl⟩;dsimp only;refine aE (Gs xS.q (by lia) (by lia) fun jW ig hg=>aJ ?_);have ee:∀ (key:Keyed->Int) i,kk key (arrOf jW) i=if i=l then kk key (arrOf lL) k else if l<i/\i<=k then kk key (arrOf lL) (i-1) else kk key (arrOf lL) i:=fun key i=>by
    unfold kk;rw[hg i];split
    .rfl
    .split <;> rfl
   refine⟨rfl,⟨ig,fun j hj=>?_,fun i j hi hj hz=>?_⟩,fun i j h2 h3=>?_⟩
   .rw[hg j,aq (by lia),aq (by lia)];exact xS.rest j (by lia)
   .rw[ee nu j,aq (by lia),aq (by lia),ee nu i];split
    .exact xS.lt N (by lia) (by lia) hz
    .split
     .exact xS.lt N (by lia) (by lia) hz
     .exact xS.lt N (by lia) (by lia) hz
   .rw[ee ck,ee ck,ee nu,ee nu];by_cases c1:i=l
    .rw[ak c1,ak c1];by_cases c2:j=l
     .rw[ak c2,ak c2];exact oZ _
     .have c4:l<j/\j<=k:=by lia
      rw[aq c2,aq c2,ak c4,ak c4];exact f2 (j-1) (by lia) (by lia)
    .rw[aq c1,aq c1];by_cases c3:l<i/\i<=k
     .have c2:¬ j=l:=by lia
      have c4:l<j/\j<=k:=by lia
      rw[ak c3,ak c3,aq c2,aq c2,ak c4,ak c4];exact so _ _ (by lia) (by lia)
     .rw[aq c3,aq c3];by_cases c2:j=l
      .rw[ak c2,ak c2];exact f1 i (by lia)
      .rw[aq c2,aq c2];by_cases c4:l<j/\j<=k
       .rw[ak c4,ak c4];exact so _ _ (by lia) (by lia)
       .rw[aq c4,aq c4];exact so _ _ (by lia) (by lia)
 .obtain⟨h2,h3,h4⟩:=hh;have e:max ok n=n:=by lia
  rw[e] at h3 h4;exact⟨h2,h3,h4⟩
 .rintro c aD ⟨rfl,xS,so⟩;exact aJ (h aD xS so)
theorem xU{st:SortSt}{cG n:Nat}{Q:Option (Option Nat)×Nat->SortSt->Prop}(hC:J6 prog w A s κ a₀ ck)(N:Nu nu a₀)(hn:cG<=a₀.size)(h1:1<=n)(h2:n<=cG)(hB:SK κ a₀ pd nu n st)(so:w5 ck nu (arrOf st) n)(h:∀m,n<=m->m<=cG->w5 ck nu (arrOf st) m->(m=cG\/kk ck (arrOf st) m<kk ck (arrOf st) (m-1))->Q (none,m) st):
  wpS (model prog w) A E s (forIn [n:cG] ((none:Option (Option Nat)),n) fun _ r=>do
   let some jF <- ltAt' r.2 (r.2-1)|pure (ForInStep.done (some none,r.2))
   if jF then pure (ForInStep.done (none,r.2)) else pure (ForInStep.yield (none,r.2+1))) Q st:=by
 refine eJ (eI (I:=fun i c aD=>aD=st/\c=(none,i)/\w5 ck nu (arrOf st) i) (Q:=fun c aD=>aD=st/\∃m,c=(none,m)/\n<=m/\m<=cG/\w5 ck nu (arrOf st) m/\(m=cG\/kk ck (arrOf st) m<kk ck (arrOf st) (m-1))) ?_ ?_ ⟨rfl,rfl,so⟩) ?_
 .rintro i c J7 MI xC ⟨rfl,rfl,MJ⟩;dsimp only;have nn:=hB.lt N (i:=i-1) (j:=i) (by lia) (by lia) (by lia);refine aE (nJ hC hB.q (by lia) (by lia) fun b eb=>?_);cases b
  .have e:=qX eb.symm;refine aJ ⟨rfl,rfl,fun x y I0 hy=>?_⟩;by_cases c1:y<i
   .exact MJ x y I0 c1
   .have:y=i:=by lia
    subst this;by_cases c2:x=y
    .rw[c2];exact oZ _
    .have:=MJ x (y-1) (by lia) (by lia);lia
  .exact aJ ⟨rfl,_,rfl,by lia,by lia,MJ,.inr (cQ eb.symm)⟩
 .rintro c J7 ⟨rfl,rfl,MJ⟩;have:max n cG=cG:=by lia
  rw[this] at MJ |-;exact⟨rfl,_,rfl,by lia,by lia,MJ,.inl rfl⟩
 .rintro c J7 ⟨rfl,m,rfl,m1,m2,MJ,e⟩;exact h m m1 m2 MJ e
theorem SK.rev{st aD:SortSt}{b i:Nat}(N:Nu nu a₀)(hB:SK κ a₀ pd nu b st)(hb:b<=i)(hi:i<=a₀.size)(hq:SQ κ a₀ pd aD)(hg:∀k,(arrOf aD)[k]?=if b<=k/\k<i then (arrOf st)[b+i-1-k]? else (arrOf st)[k]?):SK κ a₀ pd nu i aD:=
 ⟨hq,fun j hj=>by rw[hg j,aq (by lia)];exact hB.rest j (by lia),fun x j hx hj hz=>by
  rw[fc hg,fc hg,aq (by lia:¬ (b<=j/\j<i))];split
  .exact hB.lt N (by lia) (by lia) hz
  .exact hB.lt N (by lia) (by lia) hz⟩
theorem EU.rev{st aD:SortSt}{b i:Nat}(N:Nu nu a₀)(hB:SK κ a₀ pd nu b st)(hb:b<=i)(hi:i<=a₀.size)(hg:∀k,(arrOf aD)[k]?=if b<=k/\k<i then (arrOf st)[b+i-1-k]? else (arrOf st)[k]?)(de:EU ck nu (arrOf st) b)(d1:∀x y,x<b->b<=y->y<i->kk ck (arrOf st) y<kk ck (arrOf st) x)(d2:∀x,b<=x->x<i->kk ck (arrOf st) x=kk ck (arrOf st) (i-1)):EU ck nu (arrOf aD) i:=fun x y I0 hy=>by
 rw[fc hg,fc hg,fc hg,fc hg];by_cases cy:b<=y
 .rw[ak (by lia:b<=y/\y<i),ak (by lia:b<=y/\y<i)];have by1:=hB.bd N (i:=b+i-1-y) (by lia);by_cases cx:b<=x
  .rw[ak (by lia:b<=x/\x<i),ak (by lia:b<=x/\x<i)];have e1:=d2 (b+i-1-x) (by lia) (by lia);have e2:=d2 (b+i-1-y) (by lia) (by lia);by_cases c:x=y
   .rw[c];exact oZ _
   .have:=hB.later N (i:=b+i-1-y) (j:=b+i-1-x) (by lia) (by lia) (by lia);lia
  .rw[aq (by lia:¬ (b<=x/\x<i)),aq (by lia:¬ (b<=x/\x<i))];have:=d1 x (b+i-1-y) (by lia) (by lia) (by lia);have bx:=hB.bd N (i:=x) (by lia);lia
 .rw[aq (by lia:¬ (b<=y/\y<i)),aq (by lia:¬ (b<=y/\y<i)),aq (by lia:¬ (b<=x/\x<i)),aq (by lia:¬ (b<=x/\x<i))];exact de x y I0 (by lia)
theorem v4{a:Array Keyed}{b:Nat}:∀k,a[k]?=if b<=k/\k<b+1 then a[b+(b+1)-1-k]? else a[k]?:=fun k=>by
 split
 .rename_i c;rw[show b+(b+1)-1-k=k by lia]
 .rfl
theorem xV{st:SortSt}{cG n:Nat}{Q:Option Nat->SortSt->Prop}(hC:J6 prog w A s κ a₀ ck)(N:Nu nu a₀)(hn:cG<=a₀.size)(h1:1<=n)(h2:n<=cG)(hB:SK κ a₀ pd nu n st)(de:EU ck nu (arrOf st) n)(h:∀n aD,SK κ a₀ pd nu n aD->1<=n->n<=cG->w5 ck nu (arrOf aD) n->Q (some n) aD):wpS (model prog w) A E s (Om 0 cG n) Q st:=by
 unfold Om;simp only[jr];refine aE (qy hB.q (by lia) fun lL Mw hg=>?_);have oq:SK κ a₀ pd nu n lL:=⟨Mw,fun j hj=>by rw[hg j,aq (by lia)];exact hB.rest j hj,fun i j hi hj hz=>by
  rw[fc hg,fc hg,aq (by lia:¬ (0<=j/\j<n))];split
  .exact hB.nu _ _ (by lia) hj hz
  .exact hB.nu _ _ hi hj hz⟩
 refine aE (xU hC N hn h1 h2 oq (fun i j EM hj=>?_) fun m m1 m2 so _=>?_)
 .rw[fc hg,fc hg,fc hg,fc hg,ak (by lia),ak (by lia),ak (by lia),ak (by lia)];exact de _ _ (by lia) (by lia)
 .exact aJ (h m lL (oq.up N m1) (by lia) m2 so)
theorem xW{st:SortSt}{cG n:Nat}{Q:Option Nat->SortSt->Prop}(hC:J6 prog w A s κ a₀ ck)(N:Nu nu a₀)(hn:cG<=a₀.size)(h1:1<=n)(h2:n<cG)(hB:SK κ a₀ pd nu n st)(de:EU ck nu (arrOf st) n)(d1:∀x,x<n->kk ck (arrOf st) n<kk ck (arrOf st) x)(h:∀n aD,SK κ a₀ pd nu n aD->1<=n->n<=cG->w5 ck nu (arrOf aD) n->Q (some n) aD):wpS (model prog w) A E s (On 0 cG n) Q st:=by
 unfold On;simp only[jr];refine aE (iS (gm ⟨rfl,?_⟩));refine aE (eJ (eI (I:=fun i c aD=>∃q b,c=(none,i,q)/\i=b+(q+1)/\SK κ a₀ pd nu b aD/\EU ck nu (arrOf aD) b/\(∀x y,x<b->b<=y->y<i->kk ck (arrOf aD) y<kk ck (arrOf aD) x)/\∀x,b<=x->x<i->kk ck (arrOf aD) x=kk ck (arrOf aD) (i-1))
  (Q:=fun c aD=>∃i q b,c=(none,i,q)/\i<=cG/\i=b+(q+1)/\SK κ a₀ pd nu b aD/\EU ck nu (arrOf aD) b/\(∀x y,x<b->b<=y->y<i->kk ck (arrOf aD) y<kk ck (arrOf aD) x)/\∀x,b<=x->x<i->kk ck (arrOf aD) x=kk ck (arrOf aD) (i-1)) ?_ ?_ ⟨0,n,rfl,rfl,hB,de,fun x y hx hy Tt=>by rw[show y=n by lia];exact d1 x hx,fun x hx Ab=>by rw[show x=n by lia];rfl⟩) ?_)
 .rintro i c jW MI xC ⟨q,b,rfl,rfl,ig,ML,d3,e3⟩;dsimp only;have step:∀aD,SQ κ a₀ pd aD->(∀k,(arrOf aD)[k]?=if b<=k/\k<b+(q+1) then (arrOf jW)[b+(b+(q+1))-1-k]? else (arrOf jW)[k]?)->kk ck (arrOf jW) (b+(q+1))<kk ck (arrOf jW) (b+(q+1)-1)->
    SK κ a₀ pd nu (b+(q+1)) aD/\EU ck nu (arrOf aD) (b+(q+1))/\(∀x y,x<b+(q+1)->b+(q+1)<=y->y<b+(q+1)+1->kk ck (arrOf aD) y<kk ck (arrOf aD) x):=fun aD hq hg lt=>by
   refine⟨ig.rev N (by lia) (by lia) hq hg,EU.rev N ig (by lia) (by lia) hg ML d3 e3,fun x y hx hy Tt=>?_⟩;rw[show y=b+(q+1) by lia,fc hg,fc hg,aq (by lia)];split
   .rw[e3 (b+(b+(q+1))-1-x) (by lia) (by lia)];exact lt
   .have:=d3 x (b+(q+1)-1) (by lia) (by lia) (by lia);lia
  refine aE (nJ hC ig.q (by lia) (by lia) fun b3 eb3=>?_);cases b3
  .have Yr:=qX eb3.symm;dsimp only;rw[aq (by decide)];refine aE (nJ hC ig.q (by lia) (by lia) fun b4 eb4=>?_);cases b4
   .have e4':=qX eb4.symm;have eq:kk ck (arrOf jW) (b+(q+1))=kk ck (arrOf jW) (b+(q+1)-1):=by lia
    refine aJ ⟨q+1,b,rfl,rfl,ig,ML,fun x y hx hy Tt=>?_,fun x hx Ab=>?_⟩
    .by_cases c:y<b+(q+1)
     .exact d3 x y hx hy c
     .rw[show y=b+(q+1) by lia,eq];exact d3 x _ hx (by lia) (by lia)
    .rw[show b+(q+1)+1-1=b+(q+1) by lia];by_cases c:x<b+(q+1)
     .rw[e3 x hx c,eq]
     .rw[show x=b+(q+1) by lia]
   .exact aJ ⟨_,_,_,rfl,by lia,rfl,ig,ML,d3,e3⟩
  .have Yr:=cQ eb3.symm;dsimp only;rw[ak rfl];split
   .rename_i cq;rw[show b+(q+1)-(q+1)=b by lia];refine aE (qy ig.q (by lia) fun qf Ys hg=>aJ ?_);obtain⟨s1,s2,s3⟩:=step qf Ys hg Yr;exact⟨0,b+(q+1),rfl,rfl,s1,s2,s3,fun x hx Ab=>by rw[show x=b+(q+1) by lia];rfl⟩
   .rename_i cq;have cq:q=0:=by lia
    subst cq;obtain⟨s1,s2,s3⟩:=step jW ig.q v4 Yr;exact aJ ⟨0,b+(0+1),rfl,rfl,s1,s2,s3,fun x hx Ab=>by rw[show x=b+(0+1) by lia];rfl⟩
 .rintro c jW ⟨q,b,rfl,e,ig,ML,d3,e3⟩;have:max (n+1) cG=cG:=by lia
  rw[this] at e d3 e3 |-;exact⟨_,_,_,rfl,by lia,e,ig,ML,d3,e3⟩
 .rintro c jW ⟨i,q,b,rfl,hi,rfl,ig,ML,d3,e3⟩;dsimp only;split
  .rename_i cq;rw[show b+(q+1)-(q+1)=b by lia];refine aE (qy ig.q (by lia) fun qf Ys hg=>?_);exact xV hC N hn (by lia) hi (ig.rev N (by lia) (by lia) Ys hg) (EU.rev N ig (by lia) (by lia) hg ML d3 e3) h
  .rename_i cq;have cq:q=0:=by lia
   subst cq;exact xV hC N hn (by lia) hi (ig.rev N (by lia) (by lia) ig.q v4) (EU.rev N ig (by lia) (by lia) v4 ML d3 e3) h
theorem AK{st:SortSt}{cG:Nat}{Q:Option Nat->SortSt->Prop}(hC:J6 prog w A s κ a₀ ck)(N:Nu nu a₀)(hn:cG<=a₀.size)(h1:1<=cG)(hB:SK κ a₀ pd nu 0 st)(h:∀n aD,SK κ a₀ pd nu n aD->1<=n->n<=cG->w5 ck nu (arrOf aD) n->Q (some n) aD):wpS (model prog w) A E s (countRun' 0 cG) Q st:=by
 rw[tH];simp only[jr];refine aE (xU hC N hn (aI 1) h1 (hB.up N (bV 1)) (fun i j EM hj=>by rw[show i=j by lia];exact oZ _) fun n n1 n2 so e=>?_);dsimp only;by_cases e1:(n==cG)=true
 .rw[ak e1];exact aJ (h n st (hB.up N (by lia)) n1 n2 so)
 rw[aq e1];have g1:¬ (n=cG):=by simpa using e1
 have dN:kk ck (arrOf st) n<kk ck (arrOf st) (n-1):=e.resolve_left g1;by_cases e2:n > 1
 .rw[ak e2];refine aE (nJ hC hB.q (by lia) (by lia) fun b2 eb=>?_);cases b2
  .have e3:=qX eb.symm;dsimp only;rw[aq (by decide)];have eq:∀k,0<=k->k<n->kk ck (arrOf st) k=kk ck (arrOf st) (n-1):=fun k _ Rh=>by
    have a1:=so 0 k (by lia) Rh;have a2:=so k (n-1) (by lia) (by lia);have c0:=hB.bd N (i:=0) (by lia);have c1:=hB.bd N (i:=k) (by lia);have c2:=hB.bd N (i:=n-1) (by lia);lia
   refine aE (qy hB.q (by lia) fun lL Mw hg=>?_);have WC:∀k,(arrOf lL)[k]?=if 0<=k/\k<n then (arrOf st)[0+n-1-k]? else (arrOf st)[k]?:=hg
   refine xW hC N hn n1 (by lia) (hB.rev N (by lia) (by lia) Mw WC) (EU.rev N hB (by lia) (by lia) WC (fun i j EM hj=>by lia) (fun x y hx _ _=>by lia) eq) (fun x hx=>?_) h;rw[fc WC,fc WC,aq (by lia:¬ (0<=n/\n<n)),ak (by lia:0<=x/\x<n),eq (0+n-1-x) (by lia) (by lia)];exact dN
  .exact aJ (h n st (hB.up N (by lia)) n1 n2 so)
 .rw[aq e2];have:n=1:=by lia
  subst this;refine xW hC N hn n1 (by lia) (hB.up N (by lia)) (fun i j EM hj=>by rw[show i=j by lia];exact oZ _) (fun x hx=>?_) h;rw[show x=1-1 by lia];exact dN
theorem AL{st:SortSt}{Q:Unit->SortSt->Prop}(hC:J6 prog w A s κ a₀ ck)(N:Nu nu a₀)(ha:arrOf st=a₀)(hk:kindOf st=κ)(hf:failedOf st=none)(Yt:pendingOf st=#[])(h2:2<=a₀.size)(IZ:a₀.size<64)(h:∀aD,(arrOf aD).Perm a₀->failedOf aD=none->w5 ck nu (arrOf aD) a₀.size->Q () aD):wpS (model prog w) A E s sortRuns' Q st:=by
 rw[sortRuns'_eq];refine aE (eL ?_);dsimp only;have hmr:minRun' a₀.size a₀.size 0=a₀.size:=by
  obtain⟨f,hf⟩:∃f,a₀.size=f+1:=⟨a₀.size-1,by lia⟩
  have:minRun' (f+1) a₀.size 0=a₀.size:=by rw[minRun'_succ,ak IZ];rfl
  rwa [<-hf] at this
 rw[ha];simp only[hmr];have hB:SK κ a₀ #[] nu 0 st:=⟨⟨by rw[ha],hk,hf,Yt⟩,fun j _=>by rw[ha],fun i j hi _ _=>absurd hi (kd _)⟩
 refine aE (eJ (eI
  (I:=fun x c aD=>(x=0/\c=(none,0)/\SK κ a₀ #[] nu 0 aD)\/(1<=x/\c=(none,a₀.size)/\SQ κ a₀ #[(0,a₀.size,0)] aD/\w5 ck nu (arrOf aD) a₀.size))
  (Q:=fun c aD=>c=(none,a₀.size)/\SQ κ a₀ #[(0,a₀.size,0)] aD/\w5 ck nu (arrOf aD) a₀.size) ?step ?dS (.inl ⟨rfl,rfl,hB⟩)) ?post)
 case dS=>
  rintro c aD (⟨hx,_,_⟩|⟨_,hc,hD⟩)
  .lia
  .exact⟨hc,hD⟩
 case step=>
  rintro x c aD _ hx (⟨rfl,rfl,xS⟩|⟨hx1,rfl,hD⟩)
  .dsimp only;rw[aq (by lia)];simp only[Nat.sub_zero,rj,jr];have dS:∀ {jW:SortSt},SK κ a₀ #[] nu a₀.size jW->w5 ck nu (arrOf jW) a₀.size->SQ κ a₀ #[(0,a₀.size,0)] (setPending jW ((pendingOf jW).push (0,a₀.size,0)))/\w5 ck nu (arrOf (setPending jW ((pendingOf jW).push (0,a₀.size,0)))) a₀.size:=fun {jW} k so=>⟨⟨k.q.perm,k.q.kind,k.q.failed,by show (pendingOf jW).push _=_;rw[k.q.pend];rfl⟩,so⟩
   refine aE (AK hC N (aI _) (by lia) xS fun m lL oq hm1 S4 mh=>?_);dsimp only;by_cases dN:m<a₀.size
   .rw[ak dN];refine aE (iS (gm ⟨rfl,?_⟩));refine aE (Gu hC N (aI _) hm1 S4 oq mh fun jW ig XW=>?_);simp only[rf,lI,fQ];refine aE (eL ?_);have hb:(pendingOf jW).back?=none:=by rw[ig.q.pend];rfl
    rw[hb];dsimp only;exact aE (e_ (aJ (.inr ⟨by lia,rfl,dS ig XW⟩)))
   .rw[aq dN];have hm:m=a₀.size:=by lia
    subst hm;refine aE (eL ?_);have hb:(pendingOf lL).back?=none:=by rw[oq.q.pend];rfl
    rw[hb];dsimp only;exact aE (e_ (aJ (.inr ⟨by lia,rfl,dS oq mh⟩)))
  .dsimp only;rw[ak (aI _)];exact aJ ⟨rfl,hD⟩
 case post=>
  rintro c aD ⟨rfl,hD⟩;dsimp only;refine aE (eJ (eI (I:=fun _ c pC=>pC=aD/\c=(none,())) (Q:=fun c pC=>pC=aD/\c=(none,())) ?_ (fun _ _ hh=>hh) ⟨rfl,rfl⟩) ?_)
  .rintro x c pC _ _ ⟨rfl,rfl⟩;refine aE (eL ?_);rw[ak (by rw[hD.1.pend];exact aI 1)];exact aJ ⟨rfl,rfl⟩
  .rintro c pC ⟨rfl,rfl⟩;exact aJ (h _ hD.1.perm hD.1.failed hD.2)
end
def kP(prog:Program)(w:World)(A:Around)(s:Shared)(κ:SortKind)(a₀:Array Keyed):Prop:=
 ∀x y,x∈a₀.toList->y∈a₀.toList->∀ (Q:Bool->Shared->Prop) (E:Value->Shared->Prop),(∀b,Q b s)->wpAny (model prog w) A (keyLt' κ x.1 y.1) Q E s
section
variable {prog:Program} {w:World} {A:Around} {E:Value->Shared->Prop} {s:Shared} {κ:SortKind} {a₀:Array Keyed} {pd:Array (Nat×Nat×Nat)}
theorem nK{st:SortSt}{x y:Keyed}{Q:Option Bool->SortSt->Prop}(hC:kP prog w A s κ a₀)(hk:kindOf st=κ)(hx:x∈a₀.toList)(hy:y∈a₀.toList)(h:∀b,Q (some b) st):wpS (model prog w) A E s (lt' x y) Q st:=by
 rw[lt'_eq];refine aE (eL ?_);rw[hk];refine aE (iS (oX (hC x y hx hy _ _ fun b=>⟨rfl,?_⟩)));exact aJ (h b)
theorem eQ{st:SortSt}{i j:Nat}{Q:Option Bool->SortSt->Prop}(hC:kP prog w A s κ a₀)(hB:SQ κ a₀ pd st)(hi:i<a₀.size)(hj:j<a₀.size)(h:∀b,Q (some b) st):wpS (model prog w) A E s (ltAt' i j) Q st:=by
 obtain⟨p,e1,m1⟩:=hB.at hi;obtain⟨q,e2,m2⟩:=hB.at hj;rw[ltAt'_eq];refine aE (eL ?_);exact aE (bp e1 (aE (bp e2 (nK hC hB.kind m1 m2 h))))
theorem fY{st:SortSt}{i j:Nat}{Q:Unit->SortSt->Prop}(hB:SQ κ a₀ pd st)(h:∀aD,SQ κ a₀ pd aD->Q () aD):wpS (model prog w) A E s (reverseSlice' i j) Q st:=by
 rw[reverseSlice'_eq];exact e_ (h _ (hB.setArr (mirror_perm _ _ _ _)))
theorem D9{st:SortSt}{i j:Nat}{Q:Unit->SortSt->Prop}(hB:SQ κ a₀ pd st)(h:∀aD,SQ κ a₀ pd aD->Q () aD):wpS (model prog w) A E s (moveDown' i j) Q st:=by
 rw[moveDown'_eq];exact e_ (h _ (hB.setArr (bubble_perm _ _ _)))
theorem Gv{st:SortSt}{lo n ok:Nat}{Q:Bool->SortSt->Prop}(hC:kP prog w A s κ a₀)(hn:lo+n<=a₀.size)(hB:SQ κ a₀ pd st)(h:∀aD,SQ κ a₀ pd aD->Q true aD):wpS (model prog w) A E s (binarySort' lo n ok) Q st:=by
 rw[binarySort'_eq];refine aE (eJ (eI (I:=fun _ c aD=>c=(none,())/\SQ κ a₀ pd aD) (Q:=fun c aD=>c=(none,())/\SQ κ a₀ pd aD) ?_ (fun c aD hh=>hh) ⟨rfl,hB⟩) ?_)
 .rintro k c aD hk1 Rh ⟨rfl,xS⟩;dsimp only;refine aE (eJ (eI (I:=fun _ c pC=>(∃l r,c=(none,l,r)/\r<=k)/\SQ κ a₀ pd pC) (Q:=fun c pC=>(∃l r,c=(none,l,r)/\r<=k)/\SQ κ a₀ pd pC) ?_ (fun c aD hh=>hh) ⟨⟨_,_,rfl,aI _⟩,xS⟩) ?_)
  .rintro x c lL _ _ ⟨⟨l,r,rfl,hr⟩,oq⟩;dsimp only;by_cases xT:l>=r
   .rw[ak xT];exact aJ ⟨⟨_,_,rfl,hr⟩,oq⟩
   .rw[aq xT];refine aE (eQ hC oq (by lia) (by lia) fun b=>?_);cases b
    .exact aJ ⟨⟨_,_,rfl,hr⟩,oq⟩
    .exact aJ ⟨⟨_,_,rfl,by lia⟩,oq⟩
  .rintro c lL ⟨⟨l,r,rfl,hr⟩,oq⟩;dsimp only;exact aE (D9 oq fun jW ig=>aJ ⟨rfl,ig⟩)
 .rintro c aD ⟨rfl,xS⟩;exact aJ (h aD xS)
end
theorem AM(left:Bool)(key:Keyed)(arr:Array Keyed)(base n my:Nat):iI left key arr base n my=(do
 let v5 (i:Nat):StateT SortSt Sem (Option Bool):=do
  let x <- elem' arr (base+i)
  if left then lt' x key else return (<-lt' key x).map (!·)
 let mut lastofs:=0
 let mut ofs:=1
 let mut lo:=0
 let mut hi:=0
 let some right <- v5 my|return none
 if right then
  let r9:=n-my
  for _ in [0:n] do
   if ofs>=r9 then break
   let some more <- v5 (my+ofs)|return none
   if !more then break
   lastofs:=ofs
   ofs:=2*ofs+1
  lo:=my+lastofs+1
  hi:=my+min ofs r9
 else
  let r9:=my+1
  for _ in [0:n] do
   if ofs>=r9 then break
   let some Gw <- v5 (my-ofs)|return none
   if Gw then break
   lastofs:=ofs
   ofs:=2*ofs+1
  lo:=my+1-min ofs r9
  hi:=my-lastofs
 for _ in [0:n] do
  if lo>=hi then break
  let m:=lo+(hi-lo) / 2
  let some more <- v5 m|return none
  if more then lo:=m+1 else hi:=m
 return some hi):=rfl
section
variable {prog:Program} {w:World} {A:Around} {E:Value->Shared->Prop} {s:Shared} {κ:SortKind} {a₀:Array Keyed} {pd:Array (Nat×Nat×Nat)}
theorem ir{st:SortSt}{left:Bool}{key:Keyed}{arr:Array Keyed}{j:Nat}{Q:Option Bool->SortSt->Prop}(hC:kP prog w A s κ a₀)(hk:kindOf st=κ)(tu:key∈a₀.toList)(uv:∀x∈arr.toList,x∈a₀.toList)(hj:j<arr.size)(h:∀b,Q (some b) st):
  wpS (model prog w) A E s (do
  let x <- elem' arr j
  if left then lt' x key else return (<-lt' key x).map (!·)) Q st:=by
 have hm:arr[j]∈a₀.toList:=uv _ (by simp);refine aE (bp (dG arr j hj) ?_);cases left
 .rw[aq (by decide)];exact aE (nK hC hk tu hm fun b=>aJ (h (!b)))
 .rw[ak rfl];exact nK hC hk hm tu h
theorem gu{st:SortSt}{left:Bool}{key:Keyed}{arr:Array Keyed}{base n my:Nat}{Q:Option Nat->SortSt->Prop}(hC:kP prog w A s κ a₀)(hk:kindOf st=κ)(tu:key∈a₀.toList)(uv:∀x∈arr.toList,x∈a₀.toList)(hn:base+n<=arr.size)(hh:my<n)(h:∀k,k<=n->Q (some k) st):wpS (model prog w) A E s (iI left key arr base n my) Q st:=by
 rw[AM];refine aE (ir hC hk tu uv (by lia) fun right=>?_);cases right
 .dsimp only;rw[aq (by decide)];refine aE (eJ (eI (I:=fun _ c aD=>(∃l o,c=(none,l,o))/\st=aD) (Q:=fun c aD=>(∃l o,c=(none,l,o))/\st=aD) ?_ (fun c aD hh=>hh) ⟨⟨_,_,rfl⟩,rfl⟩) ?_)
  .rintro x c aD _ _ ⟨⟨l,o,rfl⟩,rfl⟩;dsimp only;by_cases xT:o>=my+1
   .rw[ak xT];exact aJ ⟨⟨_,_,rfl⟩,rfl⟩
   .rw[aq xT];refine aE (ir hC hk tu uv (by lia) fun Gw=>?_);cases Gw
    .exact aJ ⟨⟨_,_,rfl⟩,rfl⟩
    .exact aJ ⟨⟨_,_,rfl⟩,rfl⟩
  .rintro c aD ⟨⟨l,o,rfl⟩,rfl⟩;dsimp only;refine aE (eJ (eI (I:=fun _ c aD=>(∃l u,c=(none,l,u)/\u<=n)/\st=aD) (Q:=fun c aD=>(∃l u,c=(none,l,u)/\u<=n)/\st=aD) ?_ (fun c aD hh=>hh) ⟨⟨_,_,rfl,by lia⟩,rfl⟩) ?_)
   .rintro x c aD _ _ ⟨⟨l,u,rfl,hu⟩,rfl⟩;dsimp only;by_cases xT:l>=u
    .rw[ak xT];exact aJ ⟨⟨_,_,rfl,hu⟩,rfl⟩
    .rw[aq xT];refine aE (ir hC hk tu uv (by lia) fun more=>?_);cases more
     .exact aJ ⟨⟨_,_,rfl,by lia⟩,rfl⟩
     .exact aJ ⟨⟨_,_,rfl,hu⟩,rfl⟩
   .rintro c aD ⟨⟨l,u,rfl,hu⟩,rfl⟩;exact aJ (h u hu)
 .dsimp only;rw[ak rfl];refine aE (eJ (eI (I:=fun _ c aD=>(∃l o,c=(none,l,o))/\st=aD) (Q:=fun c aD=>(∃l o,c=(none,l,o))/\st=aD) ?_ (fun c aD hh=>hh) ⟨⟨_,_,rfl⟩,rfl⟩) ?_)
  .rintro x c aD _ _ ⟨⟨l,o,rfl⟩,rfl⟩;dsimp only;by_cases xT:o>=n-my
   .rw[ak xT];exact aJ ⟨⟨_,_,rfl⟩,rfl⟩
   .rw[aq xT];refine aE (ir hC hk tu uv (by lia) fun more=>?_);cases more
    .exact aJ ⟨⟨_,_,rfl⟩,rfl⟩
    .exact aJ ⟨⟨_,_,rfl⟩,rfl⟩
  .rintro c aD ⟨⟨l,o,rfl⟩,rfl⟩;dsimp only;refine aE (eJ (eI (I:=fun _ c aD=>(∃l u,c=(none,l,u)/\u<=n)/\st=aD) (Q:=fun c aD=>(∃l u,c=(none,l,u)/\u<=n)/\st=aD) ?_ (fun c aD hh=>hh) ⟨⟨_,_,rfl,by lia⟩,rfl⟩) ?_)
   .rintro x c aD _ _ ⟨⟨l,u,rfl,hu⟩,rfl⟩;dsimp only;by_cases xT:l>=u
    .rw[ak xT];exact aJ ⟨⟨_,_,rfl,hu⟩,rfl⟩
    .rw[aq xT];refine aE (ir hC hk tu uv (by lia) fun more=>?_);cases more
     .exact aJ ⟨⟨_,_,rfl,by lia⟩,rfl⟩
     .exact aJ ⟨⟨_,_,rfl,hu⟩,rfl⟩
   .rintro c aD ⟨⟨l,u,rfl,hu⟩,rfl⟩;exact aJ (h u hu)
end
structure SM(κ:SortKind)(ar:Array Keyed)(pd:Array (Nat×Nat×Nat))(st:SortSt):Prop where
 arr:arrOf st=ar
 kind:kindOf st=κ
 failed:failedOf st=none
 pend:pendingOf st=pd
abbrev qg:=Option (Array Keyed)
abbrev uw:=StateT SortSt Sem
def xX{τ:Type}(c:Bool)(d:Prop)[Decidable d](r:Array Keyed)(t:τ):uw (ForInStep (qg×τ)):=if c then pure (.done (some r,t)) else if d then pure (.done (none,t)) else pure (.yield (none,t))
def mgO{α β γ:Type}(N:Nat)(f:Nat->qg×α×β×γ×Nat×Nat->uw (ForInStep (qg×α×β×γ×Nat×Nat)))(g:qg×α×β×γ×Nat×Nat×Nat->uw (ForInStep (qg×α×β×γ×Nat×Nat×Nat)))(s:qg×α×β×γ×Nat):uw (ForInStep (qg×α×β×γ×Nat)):=do
 let t <- forIn [0:N] ((none,s.2.1,s.2.2.1,s.2.2.2.1,0,0):qg×α×β×γ×Nat×Nat) fun _ t=>f s.2.2.2.2 t
 match t.1 with
 |some r=>pure (.done (some r,t.2.1,t.2.2.1,t.2.2.2.1,s.2.2.2.2))
 |none=>do
  liftM (rule "list.sort.gallop")
  let u <- forIn [0:N] ((none,t.2.1,t.2.2.1,t.2.2.2.1,s.2.2.2.2+1,t.2.2.2.2.1,t.2.2.2.2.2):qg×α×β×γ×Nat×Nat×Nat) fun _ u=>g u
  match u.1 with
  |some r=>pure (.done (some r,u.2.1,u.2.2.1,u.2.2.2.1,u.2.2.2.2.1))
  |none=>do
   iU (u.2.2.2.2.1+1)
   pure (.yield (none,u.2.1,u.2.2.1,u.2.2.2.1,u.2.2.2.2.1+1))
def WD{α β γ:Type}(N:Nat)(f:Nat->qg×α×β×γ×Nat×Nat->uw (ForInStep (qg×α×β×γ×Nat×Nat)))(g:qg×α×β×γ×Nat×Nat×Nat->uw (ForInStep (qg×α×β×γ×Nat×Nat×Nat)))(x:α)(y:β)(z:γ):uw (Array Keyed):=do
 let st <- get
 let s <- forIn [0:N] ((none,x,y,z,gallopOf st):qg×α×β×γ×Nat) fun _ s=>mgO N f g s
 match s.1 with
 |some r=>pure r
 |none=>liftM (unsupported "internal:list.sort.merge-bound")
section
variable {prog:Program} {w:World} {A:Around} {E:Value->Shared->Prop} {s:Shared} {κ:SortKind} {a₀:Array Keyed} {pd:Array (Nat×Nat×Nat)} {ar:Array Keyed} {F:Array Keyed->Prop}
def GP{τ:Type}(κ:SortKind)(ar:Array Keyed)(pd:Array (Nat×Nat×Nat))(F:Array Keyed->Prop)(D J:τ->Prop)(r:ForInStep (qg×τ))(st:SortSt):Prop:=SM κ ar pd st/\
 ((∃x t,r=.done (some x,t)/\F x)\/(∃t,r=.done (none,t)/\D t)\/∃t,r=.yield (none,t)/\J t)
theorem fZ{τ:Type}{D J:τ->Prop}{st:SortSt}{x:Array Keyed}{t:τ}(m:SM κ ar pd st)(h:F x):wpS (model prog w) A E s (pure (.done (some x,t))) (GP κ ar pd F D J) st:=aJ ⟨m,.inl ⟨_,_,rfl,h⟩⟩
theorem jd{τ:Type}{D J:τ->Prop}{c:Bool}{d:Prop}[Decidable d]{r:Array Keyed}{t:τ}{st:SortSt}(m:SM κ ar pd st)(h1:c=true->F r)(h2:c=false->D t/\J t):wpS (model prog w) A E s (xX c d r t) (GP κ ar pd F D J) st:=by
 unfold xX;cases c
 .rw[aq cP];split
  .exact aJ ⟨m,.inr (.inl ⟨_,rfl,(h2 rfl).1⟩)⟩
  .exact aJ ⟨m,.inr (.inr ⟨_,rfl,(h2 rfl).2⟩)⟩
 .rw[ak rfl];exact fZ m (h1 rfl)
theorem pD{τ:Type}{D:τ->Prop}{J:Nat->τ->Prop}{N:Nat}{f:qg×τ->uw (ForInStep (qg×τ))}{t:τ}{st:SortSt}{Q:qg×τ->SortSt->Prop}(m:SM κ ar pd st)(hJ:J 0 t)(up:∀t,J N t->D t)(b:∀t st,SM κ ar pd st->∀i,J i t->wpS (model prog w) A E s (f (none,t)) (GP κ ar pd F D (J (i+1))) st)(h1:∀x t aD,SM κ ar pd aD->F x->Q (some x,t) aD)(h2:∀t aD,SM κ ar pd aD->D t->Q (none,t) aD):wpS (model prog w) A E s (forIn [0:N] ((none,t):qg×τ) fun _ c=>f c) Q st:=by
 refine eI (I:=fun i c aD=>c.1=none/\SM κ ar pd aD/\J i c.2) ?_ ?_ ⟨rfl,m,hJ⟩
 .rintro i ⟨_,t⟩ aD _ _ ⟨rfl,m',j⟩;refine eJ (b t aD m' i j) ?_;rintro r lL ⟨m2,⟨x,t,rfl,h⟩|⟨t,rfl,h⟩|⟨t,rfl,h⟩⟩
  .exact h1 _ _ _ m2 h
  .exact h2 _ _ m2 h
  .exact⟨rfl,m2,h⟩
 .rintro⟨_,t⟩ aD ⟨rfl,m',j⟩;rw[Nat.max_eq_right (bV _)] at j;exact h2 _ _ m' (up _ j)
theorem Cm{α β γ:Type}{N:Nat}{f:Nat->qg×α×β×γ×Nat×Nat->uw (ForInStep (qg×α×β×γ×Nat×Nat))}{g:qg×α×β×γ×Nat×Nat×Nat->uw (ForInStep (qg×α×β×γ×Nat×Nat×Nat))}{x:α}{y:β}{z:γ}{J:Nat->α->β->γ->Prop}{st:SortSt}{Q:Array Keyed->SortSt->Prop}(m:SM κ ar pd st)(h0:J 0 x y z)(dn:∀i k x y z,J (i+k) x y z->J i x y z)(no:∀x y z,¬ J N x y z)(N1:1<=N)(hf:∀mg n k x y z p st,SM κ ar pd st->J (n+k) x y z->wpS (model prog w) A E s (f mg (none,x,y,z,p)) (GP κ ar pd F (fun t=>J (n+1) t.1 t.2.1 t.2.2.1) fun t=>J (n+(k+1)) t.1 t.2.1 t.2.2.1) st)(hg:∀n x y z p st,SM κ ar pd st->J n x y z->wpS (model prog w) A E s (g (none,x,y,z,p)) (GP κ ar pd F (fun t=>J n t.1 t.2.1 t.2.2.1) fun t=>J n t.1 t.2.1 t.2.2.1) st)(h:∀x aD,F x->SM κ ar pd aD->Q x aD):wpS (model prog w) A E s (WD N f g x y z) Q st:=by
 unfold WD;refine aE (eL ?_);refine aE (pD (F:=F) (D:=fun _=>False) (J:=fun n (t:α×β×γ×Nat)=>J n t.1 t.2.1 t.2.2.1) m h0 (fun t h=>no _ _ _ h) ?_ (fun x t st m hx=>aJ (h _ _ hx m)) fun t st m j=>j.elim);intro t st m i j;unfold mgO;refine aE (pD (F:=F) (D:=fun t=>J (i+1) t.1 t.2.1 t.2.2.1) (J:=fun n (t:α×β×γ×Nat×Nat)=>J (i+n) t.1 t.2.1 t.2.2.1) m j (fun t h=>dn _ (N-1) _ _ _ (by rw[show i+1+(N-1)=i+N by lia];exact h)) (fun t st m n j=>hf _ _ _ _ _ _ _ _ m j) (fun x t st m hx=>fZ m hx) ?_);intro t st m j;refine aE (iS (gm ⟨rfl,?_⟩));refine aE (pD (F:=F) (D:=fun t=>J (i+1) t.1 t.2.1 t.2.2.1) (J:=fun n (t:α×β×γ×Nat×Nat×Nat)=>J (i+1) t.1 t.2.1 t.2.2.1) m j (fun _ h=>h) (fun t st m n j=>hg _ _ _ _ _ _ m j) (fun x t st m hx=>fZ m hx) ?_);intro t st m j;refine aE (e_ ?_);exact aJ ⟨⟨m.arr,m.kind,m.failed,m.pend⟩,.inr (.inr ⟨_,rfl,j⟩)⟩
end
abbrev kQ(a b out:Array Keyed)(ia ib:Nat):=out++a.extract ia a.size++b.extract ib b.size
abbrev v6(a b out:Array Keyed)(ia ib:Nat):=out++b.extract ib b.size++a.extract ia a.size
abbrev MM ρ:=qg×Array Keyed×Nat×Nat×ρ
def loW(a b:Array Keyed)(mg:Nat)(t:MM (Nat×Nat)):uw (ForInStep (MM (Nat×Nat))):=do
 let x <- elem' b t.2.2.2.1
 let y <- elem' a t.2.2.1
 let some w <- lt' x y|pure (.done (some (kQ a b t.2.1 t.2.2.1 t.2.2.2.1),t.2.1,t.2.2.1,t.2.2.2.1,t.2.2.2.2.1,t.2.2.2.2.2))
 if w then do
  let x <- elem' b t.2.2.2.1
  xX (t.2.2.2.1+1==b.size) (t.2.2.2.2.2+1>=mg) (kQ a b (t.2.1.push x) t.2.2.1 (t.2.2.2.1+1)) (t.2.1.push x,t.2.2.1,t.2.2.2.1+1,0,t.2.2.2.2.2+1)
 else do
  let x <- elem' a t.2.2.1
  xX (t.2.2.1+1+1==a.size) (t.2.2.2.2.1+1>=mg) (v6 a b (t.2.1.push x) (t.2.2.1+1) t.2.2.2.1) (t.2.1.push x,t.2.2.1+1,t.2.2.2.1,t.2.2.2.2.1+1,0)
def Yu(a b out:Array Keyed)(ia ib mg ac bc:Nat):uw (ForInStep (MM (Nat×Nat×Nat))):=do
 let x <- elem' a ia
 xX (ia+1+1==a.size) ((ac<7&&bc<7)=true) (v6 a b (out.push x) (ia+1) ib) (out.push x,ia+1,ib,mg,ac,bc)
def Yv(a b out:Array Keyed)(ia ib mg ac bc:Nat):uw (ForInStep (MM (Nat×Nat×Nat))):=do
 let x <- elem' b ib
 if ib+1==b.size then pure (.done (some (kQ a b (out.push x) ia (ib+1)),out.push x,ia,ib+1,mg,ac,bc))
 else do
  let y <- elem' a ia
  let some k <- iI true y b (ib+1) (b.size-(ib+1)) 0|pure (.done (some (kQ a b (out.push x) ia (ib+1)),out.push x,ia,ib+1,mg,ac,bc))
  if k > 0 then
   if ib+1+k==b.size then pure (.done (some (kQ a b (out.push x++b.extract (ib+1) (ib+1+k)) ia (ib+1+k)),out.push x++b.extract (ib+1) (ib+1+k),ia,ib+1+k,mg,ac,k))
   else Yu a b (out.push x++b.extract (ib+1) (ib+1+k)) ia (ib+1+k) mg ac k
  else Yu a b (out.push x) ia (ib+1) mg ac k
def Yw(a b out:Array Keyed)(ia ib mg ac bc:Nat):uw (ForInStep (MM (Nat×Nat×Nat))):=do
 iU mg
 let y <- elem' b ib
 let some k <- iI false y a ia (a.size-ia) 0|pure (.done (some (kQ a b out ia ib),out,ia,ib,mg,ac,bc))
 if k > 0 then
  if ia+k+1==a.size then pure (.done (some (v6 a b (out++a.extract ia (ia+k)) (ia+k) ib),out++a.extract ia (ia+k),ia+k,ib,mg,k,bc))
  else if ia+k==a.size then pure (.done (some (kQ a b (out++a.extract ia (ia+k)) (ia+k) ib),out++a.extract ia (ia+k),ia+k,ib,mg,k,bc))
  else Yv a b (out++a.extract ia (ia+k)) (ia+k) ib mg k bc
 else Yv a b out ia ib mg k bc
def loG(a b:Array Keyed)(t:MM (Nat×Nat×Nat)):uw (ForInStep (MM (Nat×Nat×Nat))):=
 if t.2.2.2.2.1 > 1 then Yw a b t.2.1 t.2.2.1 t.2.2.2.1 (t.2.2.2.2.1-1) t.2.2.2.2.2.1 t.2.2.2.2.2.2 else Yw a b t.2.1 t.2.2.1 t.2.2.2.1 t.2.2.2.2.1 t.2.2.2.2.2.1 t.2.2.2.2.2.2
theorem xY(a b:Array Keyed):rZ a b=(do
 liftM (rule "list.sort.merge-lo")
 let x <- elem' b 0
 if 1==b.size then pure (kQ a b #[x] 0 1) else if 0+1==a.size then pure (v6 a b #[x] 0 1) else WD (a.size+b.size) (loW a b) (loG a b) #[x] 0 1):=by kernel_rfl
def PI(a b out:Array Keyed)(ia ib:Nat):Prop:=out.toList.Perm (a.toList.take ia++b.toList.take ib)
theorem xZ{l:List Keyed}{i:Nat}(h:i<l.length):l.take (i+1)=l.take i++[l[i]]:=by rw[gO,b8 h];rfl
theorem PI.ux{a b out:Array Keyed}{ia ib:Nat}(h:PI a b out ia ib)(hi:ia<a.size):PI a b (out.push a[ia]) (ia+1) ib:=by
 unfold PI at h |-;rw[oH,xZ (by simpa using hi),dq];refine(h.append_right _).trans ?_;rw[dq];refine lG _ ?_;have:a.toList[ia]'(by simpa using hi)=a[ia]:=by simp
 rw[this];exact jN
theorem PI.uy{a b out:Array Keyed}{ia ib:Nat}(h:PI a b out ia ib)(hi:ib<b.size):PI a b (out.push b[ib]) ia (ib+1):=by
 unfold PI at h |-;rw[oH,xZ (by simpa using hi),<-dq];have:b.toList[ib]'(by simpa using hi)=b[ib]:=by simp
 rw[this];exact h.append_right _
theorem eR{a:Array Keyed}{i j:Nat}:(a.extract i j).toList=(a.toList.drop i).take (j-i):=by
 rw[zo,List.extract_eq_take_drop]
theorem PI.D_{a b out:Array Keyed}{ia ib:Nat}(h:PI a b out ia ib)(k:Nat):PI a b (out++a.extract ia (ia+k)) (ia+k) ib:=by
 unfold PI at h |-;rw[fz,eR,Nat.add_sub_cancel_left,List.take_add,dq];refine(h.append_right _).trans ?_;rw[dq];exact lG _ jN
theorem PI.Ea{a b out:Array Keyed}{ia ib:Nat}(h:PI a b out ia ib)(k:Nat):PI a b (out++b.extract ib (ib+k)) ia (ib+k):=by
 unfold PI at h |-;rw[fz,eR,Nat.add_sub_cancel_left,List.take_add,<-dq];exact h.append_right _
theorem PI.done{a b out:Array Keyed}{ia ib:Nat}(h:PI a b out ia ib):(out++a.extract ia a.size++b.extract ib b.size).Perm (a++b):=by
 rw[lD];unfold PI at h;rw[fz,fz,fz,eR,eR];have e1:(a.toList.drop ia).take (a.size-ia)=a.toList.drop ia:=qT (by simp);have e2:(b.toList.drop ib).take (b.size-ib)=b.toList.drop ib:=qT (by simp);rw[e1,e2];refine((h.append_right _).append_right _).trans ?_;conv=>rhs;rw[<-lU ia a.toList,<-lU ib b.toList]
 rw[dq,dq,dq];refine lG _ ?_;rw[<-dq,<-dq];exact ze _ jN
theorem PI.last{a b out:Array Keyed}{ia ib:Nat}(h:PI a b out ia ib):(out++b.extract ib b.size++a.extract ia a.size).Perm (a++b):=by
 refine Array.Perm.trans ?_ h.done;rw[lD];rw[fz,fz,fz,fz,dq,dq];exact lG _ jN
section
variable {prog:Program} {w:World} {A:Around} {E:Value->Shared->Prop} {s:Shared} {κ:SortKind} {a₀:Array Keyed} {pd:Array (Nat×Nat×Nat)} {ar:Array Keyed} {a b out:Array Keyed} {ia ib mg ac bc n:Nat} {st:SortSt}
def JL(a b:Array Keyed)(n:Nat)(out:Array Keyed)(ia ib:Nat):Prop:=PI a b out ia ib/\ia+1<a.size/\ib<b.size/\n<=ia+ib
abbrev GL{ρ:Type}(κ:SortKind)(ar:Array Keyed)(pd:Array (Nat×Nat×Nat))(a b:Array Keyed)(n m:Nat):ForInStep (MM ρ)->SortSt->Prop:=GP κ ar pd (fun x=>x.Perm (a++b)) (fun t=>JL a b n t.1 t.2.1 t.2.2.1) fun t=>JL a b m t.1 t.2.1 t.2.2.1
theorem Cn(hB:SM κ ar pd st)(h:JL a b n out ia ib):wpS (model prog w) A E s (Yu a b out ia ib mg ac bc) (GL κ ar pd a b n n) st:=by
 obtain⟨p,la,lb,li⟩:=h;refine aE (bp (dG a ia (by lia)) ?_);have p:=p.ux (show ia<a.size by lia);refine jd hB (fun _=>p.last) fun f=>?_;have g:=oM f;have j:JL a b n (out.push a[ia]) (ia+1) ib:=⟨p,by lia,lb,by lia⟩
 exact⟨j,j⟩
theorem Co(hC:kP prog w A s κ a₀)(ha:∀x∈a.toList,x∈a₀.toList)(hb:∀x∈b.toList,x∈a₀.toList)(hB:SM κ ar pd st)(h:JL a b n out ia ib):wpS (model prog w) A E s (Yv a b out ia ib mg ac bc) (GL κ ar pd a b n n) st:=by
 obtain⟨p,la,lb,li⟩:=h;refine aE (bp (dG b ib lb) ?_);have p:=p.uy lb;split
 .exact fZ hB p.done
 next f=>
 have g:ib+1≠b.size:=by simpa using f
 refine aE (bp (dG a ia (by lia)) ?_);refine aE (gu hC hB.kind (ha _ (by simp)) hb (by lia) (by lia) fun k hk=>?_);dsimp only;split
 .split
  .exact fZ hB (p.Ea k).done
  next f=>
  have g:ib+1+k≠b.size:=by simpa using f
  exact Cn hB ⟨p.Ea k,la,by lia,by lia⟩
 .exact Cn hB ⟨p,la,by lia,by lia⟩
theorem J8(hC:kP prog w A s κ a₀)(ha:∀x∈a.toList,x∈a₀.toList)(hb:∀x∈b.toList,x∈a₀.toList)(hB:SM κ ar pd st)(h:JL a b n out ia ib):wpS (model prog w) A E s (Yw a b out ia ib mg ac bc) (GL κ ar pd a b n n) st:=by
 obtain⟨p,la,lb,li⟩:=h;refine aE (e_ ?_);refine aE (bp (dG b ib lb) ?_);have oq:SM κ ar pd (SortSt.mk' (kindOf st) (arrOf st) (pendingOf st) mg (failedOf st)):=⟨hB.arr,hB.kind,hB.failed,hB.pend⟩
 refine aE (gu hC oq.kind (hb _ (by simp)) ha (by lia) (by lia) fun k hk=>?_);dsimp only;split
 .split
  .exact fZ oq (p.D_ k).last
  next f=>
  split
  .exact fZ oq (p.D_ k).done
  next f'=>
  have g:ia+k+1≠a.size:=by simpa using f
  have g':ia+k≠a.size:=by simpa using f'
  exact Co hC ha hb oq ⟨p.D_ k,by lia,lb,by lia⟩
 .exact Co hC ha hb oq ⟨p,la,lb,li⟩
theorem J9{k:Nat}(hC:kP prog w A s κ a₀)(ha:∀x∈a.toList,x∈a₀.toList)(hb:∀x∈b.toList,x∈a₀.toList)(hB:SM κ ar pd st)(h:JL a b (n+k) out ia ib){q:Nat×Nat}:wpS (model prog w) A E s (loW a b mg (none,out,ia,ib,q)) (GL κ ar pd a b (n+1) (n+(k+1))) st:=by
 obtain⟨p,la,lb,li⟩:=h;refine aE (bp (dG b ib lb) (aE (bp (dG a ia (by lia)) (aE (nK hC hB.kind (hb _ (by simp)) (ha _ (by simp)) fun w=>?_)))));cases w
 .refine aE (bp (dG a ia (by lia)) ?_);have p:=p.ux (show ia<a.size by lia);refine jd hB (fun _=>p.last) fun f=>?_;have g:=oM f;exact⟨⟨p,by dsimp only;lia,lb,by dsimp only;lia⟩,p,by dsimp only;lia,lb,by dsimp only;lia⟩
 .refine aE (bp (dG b ib lb) ?_);have p:=p.uy lb;refine jd hB (fun _=>p.done) fun f=>?_;have g:=oM f;exact⟨⟨p,la,by dsimp only at g |-;lia,by dsimp only;lia⟩,p,la,by dsimp only at g |-;lia,by dsimp only;lia⟩
theorem x_{Q:Array Keyed->SortSt->Prop}(hC:kP prog w A s κ a₀)(hB:SM κ ar pd st)(ha:∀x∈a.toList,x∈a₀.toList)(hb:∀x∈b.toList,x∈a₀.toList)(a1:1<=a.size)(b1:1<=b.size)(h:∀out aD,out.Perm (a++b)->SM κ ar pd aD->Q out aD):wpS (model prog w) A E s (rZ a b) Q st:=by
 rw[xY];refine aE (iS (gm ⟨rfl,?_⟩));refine aE (bp (dG b 0 (by lia)) ?_);have p0:PI a b #[b[0]] 0 1:=by
  have:PI a b #[] 0 0:=by unfold PI;simp
  exact this.uy (by lia)
 split
 .exact aJ (h _ _ p0.done hB)
 next f=>
 split
 .exact aJ (h _ _ p0.last hB)
 next f'=>
 have g:1≠b.size:=by simpa using f
 have g':0+1≠a.size:=by simpa using f'
 refine Cm (J:=JL a b) hB ⟨p0,by lia,by lia,by lia⟩ (fun i k x y z h=>⟨h.1,h.2.1,h.2.2.1,by have:=h.2.2.2;lia⟩) (fun x y z h=>by have:=h.2;lia) (by lia) (fun mg n k x y z p st m j=>J9 hC ha hb m j) (fun n x y z p st m j=>?_) h;unfold loG;split <;> exact J8 hC ha hb m j
end
abbrev kR(a b out:Array Keyed)(na nb:Nat):=a.extract 0 na++b.extract 0 nb++out.reverse
abbrev qz(a b out:Array Keyed)(na nb:Nat):=b.extract 0 nb++a.extract 0 na++out.reverse
abbrev MN ρ:=qg×Nat×Nat×Array Keyed×ρ
def hiW(a b:Array Keyed)(mg:Nat)(t:MN (Nat×Nat)):uw (ForInStep (MN (Nat×Nat))):=do
 let x <- elem' b (t.2.2.1-1)
 let y <- elem' a (t.2.1-1)
 let some w <- lt' x y|pure (.done (some (kR a b t.2.2.2.1 t.2.1 t.2.2.1),t.2.1,t.2.2.1,t.2.2.2.1,t.2.2.2.2.1,t.2.2.2.2.2))
 if w then do
  let x <- elem' a (t.2.1-1)
  xX (t.2.1-1==0) (t.2.2.2.2.1+1>=mg) (kR a b (t.2.2.2.1.push x) (t.2.1-1) t.2.2.1) (t.2.1-1,t.2.2.1,t.2.2.2.1.push x,t.2.2.2.2.1+1,0)
 else do
  let x <- elem' b (t.2.2.1-1)
  xX (t.2.2.1-1==1) (t.2.2.2.2.2+1>=mg) (qz a b (t.2.2.2.1.push x) t.2.1 (t.2.2.1-1)) (t.2.1,t.2.2.1-1,t.2.2.2.1.push x,0,t.2.2.2.2.2+1)
def Yx(a b:Array Keyed)(na nb:Nat)(out:Array Keyed)(mg ac bc:Nat):uw (ForInStep (MN (Nat×Nat×Nat))):=do
 let x <- elem' a (na-1)
 xX (na-1==0) ((ac<7&&bc<7)=true) (kR a b (out.push x) (na-1) nb) (na-1,nb,out.push x,mg,ac,bc)
def Yy(a b:Array Keyed)(na nb:Nat)(out:Array Keyed)(mg ac bc:Nat):uw (ForInStep (MN (Nat×Nat×Nat))):=do
 let x <- elem' b (nb-1)
 if nb-1==1 then pure (.done (some (qz a b (out.push x) na (nb-1)),na,nb-1,out.push x,mg,ac,bc))
 else do
  let y <- elem' a (na-1)
  let some k <- iI true y b 0 (nb-1) (nb-1-1)|pure (.done (some (kR a b (out.push x) na (nb-1)),na,nb-1,out.push x,mg,ac,bc))
  if nb-1-k > 0 then
   if k==1 then pure (.done (some (qz a b (out.push x++(b.extract k (nb-1)).reverse) na k),na,k,out.push x++(b.extract k (nb-1)).reverse,mg,ac,nb-1-k))
   else if k==0 then pure (.done (some (kR a b (out.push x++(b.extract k (nb-1)).reverse) na k),na,k,out.push x++(b.extract k (nb-1)).reverse,mg,ac,nb-1-k))
   else Yx a b na k (out.push x++(b.extract k (nb-1)).reverse) mg ac (nb-1-k)
  else Yx a b na (nb-1) (out.push x) mg ac (nb-1-k)
def Yz(a b:Array Keyed)(na nb:Nat)(out:Array Keyed)(mg ac bc:Nat):uw (ForInStep (MN (Nat×Nat×Nat))):=do
 iU mg
 let y <- elem' b (nb-1)
 let some k <- iI false y a 0 na (na-1)|pure (.done (some (kR a b out na nb),na,nb,out,mg,ac,bc))
 if na-k > 0 then
  if k==0 then pure (.done (some (kR a b (out++(a.extract k na).reverse) k nb),k,nb,out++(a.extract k na).reverse,mg,na-k,bc))
  else Yy a b k nb (out++(a.extract k na).reverse) mg (na-k) bc
 else Yy a b na nb out mg (na-k) bc
def hiG(a b:Array Keyed)(t:MN (Nat×Nat×Nat)):uw (ForInStep (MN (Nat×Nat×Nat))):=
 if t.2.2.2.2.1 > 1 then Yz a b t.2.1 t.2.2.1 t.2.2.2.1 (t.2.2.2.2.1-1) t.2.2.2.2.2.1 t.2.2.2.2.2.2 else Yz a b t.2.1 t.2.2.1 t.2.2.2.1 t.2.2.2.2.1 t.2.2.2.2.2.1 t.2.2.2.2.2.2
theorem ya(a b:Array Keyed):r6 a b=(do
 liftM (rule "list.sort.merge-hi")
 let x <- elem' a (a.size-1)
 if a.size-1==0 then pure (kR a b #[x] (a.size-1) b.size) else if b.size==1 then pure (qz a b #[x] (a.size-1) b.size) else WD (a.size+b.size) (hiW a b) (hiG a b) (a.size-1) b.size #[x]):=by kernel_rfl
def PH(a b out:Array Keyed)(na nb:Nat):Prop:=out.toList.Perm (a.toList.drop na++b.toList.drop nb)
theorem PH.ux{a b out:Array Keyed}{na nb:Nat}(h:PH a b out na nb)(h1:1<=na)(hi:na-1<a.size):PH a b (out.push a[na-1]) (na-1) nb:=by
 unfold PH at h |-;have e:a.toList.drop (na-1)=a[na-1]::a.toList.drop na:=by
  have:=oy (l:=a.toList) (i:=na-1) (by simpa using hi);rw[this,Nat.sub_add_cancel h1];simp
 rw[oH,e];refine(h.append_right _).trans ?_;exact jN
theorem PH.uy{a b out:Array Keyed}{na nb:Nat}(h:PH a b out na nb)(h1:1<=nb)(hi:nb-1<b.size):PH a b (out.push b[nb-1]) na (nb-1):=by
 unfold PH at h |-;have e:b.toList.drop (nb-1)=b[nb-1]::b.toList.drop nb:=by
  have:=oy (l:=b.toList) (i:=nb-1) (by simpa using hi);rw[this,Nat.sub_add_cancel h1];simp
 rw[oH,e];refine(h.append_right _).trans ?_;rw[dq];exact lG _ jN
theorem nL{l:List Keyed}{i j:Nat}(h:i<=j):l.drop i=(l.drop i).take (j-i)++l.drop j:=by
 have:=(lU (j-i) (l.drop i)).symm;rw[List.drop_drop,show i+(j-i)=j by lia] at this;exact this
theorem PH.D_{a b out:Array Keyed}{na nb:Nat}(h:PH a b out na nb){k:Nat}(hk:k<=na):PH a b (out++(a.extract k na).reverse) k nb:=by
 unfold PH at h |-;rw[fz,zn,eR];conv=>rhs;rw[nL hk]
 refine((h.append_left _).trans ?_ |> fun z=>(List.Perm.trans jN ((vc _).append_right _)).trans z);rw[dq]
theorem PH.Ea{a b out:Array Keyed}{na nb:Nat}(h:PH a b out na nb){k:Nat}(hk:k<=nb):PH a b (out++(b.extract k nb).reverse) na k:=by
 unfold PH at h |-;rw[fz,zn,eR];conv=>rhs;rw[nL hk]
 refine(h.append_right _).trans ?_;rw[dq];refine lG _ ?_;exact jN.trans ((vc _).append_right _)
theorem Tu{a:Array Keyed}{j:Nat}:(a.extract 0 j).toList=a.toList.take j:=by rw[eR,List.drop_zero,Nat.sub_zero]
theorem PH.done{a b out:Array Keyed}{na nb:Nat}(h:PH a b out na nb):(a.extract 0 na++b.extract 0 nb++out.reverse).Perm (a++b):=by
 rw[lD];unfold PH at h;rw[fz,fz,fz,zn,Tu,Tu];conv=>rhs;rw[<-lU na a.toList,<-lU nb b.toList]
 refine(lG _ ((vc _).trans h)).trans ?_;rw[dq,dq];refine lG _ ?_;rw[<-dq,<-dq];exact ze _ jN
theorem PH.first{a b out:Array Keyed}{na nb:Nat}(h:PH a b out na nb):(b.extract 0 nb++a.extract 0 na++out.reverse).Perm (a++b):=by
 refine Array.Perm.trans ?_ h.done;rw[lD];rw[fz,fz,fz,fz];exact ze _ jN
section
variable {prog:Program} {w:World} {A:Around} {E:Value->Shared->Prop} {s:Shared} {κ:SortKind} {a₀:Array Keyed} {pd:Array (Nat×Nat×Nat)} {ar:Array Keyed} {a b out:Array Keyed} {na nb mg ac bc n:Nat} {st:SortSt}
def JH(a b:Array Keyed)(n na nb:Nat)(out:Array Keyed):Prop:=PH a b out na nb/\1<=na/\2<=nb/\na<=a.size/\nb<=b.size/\n+na+nb<=a.size+b.size
abbrev GH{ρ:Type}(κ:SortKind)(ar:Array Keyed)(pd:Array (Nat×Nat×Nat))(a b:Array Keyed)(n m:Nat):ForInStep (MN ρ)->SortSt->Prop:=GP κ ar pd (fun x=>x.Perm (a++b)) (fun t=>JH a b n t.1 t.2.1 t.2.2.1) fun t=>JH a b m t.1 t.2.1 t.2.2.1
theorem Cp(hB:SM κ ar pd st)(p:PH a b out na nb)(la:1<=na)(lb:2<=nb)(ma:na<=a.size)(mb:nb<=b.size)(li:n+na+nb<=a.size+b.size+1):wpS (model prog w) A E s (Yx a b na nb out mg ac bc) (GH κ ar pd a b n n) st:=by
 refine aE (bp (dG a (na-1) (by lia)) ?_);have p:=p.ux la (show na-1<a.size by lia);refine jd hB (fun _=>p.done) fun f=>?_;have g:=oM f;have j:JH a b n (na-1) nb (out.push a[na-1]):=⟨p,by lia,lb,by lia,mb,by lia⟩
 exact⟨j,j⟩
theorem Cq(hC:kP prog w A s κ a₀)(ha:∀x∈a.toList,x∈a₀.toList)(hb:∀x∈b.toList,x∈a₀.toList)(hB:SM κ ar pd st)(h:JH a b n na nb out):wpS (model prog w) A E s (Yy a b na nb out mg ac bc) (GH κ ar pd a b n n) st:=by
 obtain⟨p,la,lb,ma,mb,li⟩:=h;refine aE (bp (dG b (nb-1) (by lia)) ?_);have p:=p.uy (show 1<=nb by lia) (show nb-1<b.size by lia);split
 .exact fZ hB p.first
 next f=>
 have g:nb-1≠1:=by simpa using f
 refine aE (bp (dG a (na-1) (by lia)) ?_);refine aE (gu hC hB.kind (ha _ (by simp)) hb (by lia) (by lia) fun k hk=>?_);dsimp only;split
 .split
  .exact fZ hB (p.Ea hk).first
  next f=>
  split
  .exact fZ hB (p.Ea hk).done
  next f'=>
  have g:k≠1:=by simpa using f
  have g':k≠0:=by simpa using f'
  exact Cp hB (p.Ea hk) la (by lia) ma (by lia) (by lia)
 .exact Cp hB p la (by lia) ma (by lia) (by lia)
theorem J_(hC:kP prog w A s κ a₀)(ha:∀x∈a.toList,x∈a₀.toList)(hb:∀x∈b.toList,x∈a₀.toList)(hB:SM κ ar pd st)(h:JH a b n na nb out):wpS (model prog w) A E s (Yz a b na nb out mg ac bc) (GH κ ar pd a b n n) st:=by
 obtain⟨p,la,lb,ma,mb,li⟩:=h;refine aE (e_ ?_);refine aE (bp (dG b (nb-1) (by lia)) ?_);have oq:SM κ ar pd (SortSt.mk' (kindOf st) (arrOf st) (pendingOf st) mg (failedOf st)):=⟨hB.arr,hB.kind,hB.failed,hB.pend⟩
 refine aE (gu hC oq.kind (hb _ (by simp)) ha (by lia) (by lia) fun k hk=>?_);dsimp only;split
 .split
  .exact fZ oq (p.D_ hk).done
  next f=>
  have g:k≠0:=by simpa using f
  exact Cq hC ha hb oq ⟨p.D_ hk,by lia,lb,by lia,mb,by lia⟩
 .exact Cq hC ha hb oq ⟨p,la,lb,ma,mb,li⟩
theorem Ka{k:Nat}(hC:kP prog w A s κ a₀)(ha:∀x∈a.toList,x∈a₀.toList)(hb:∀x∈b.toList,x∈a₀.toList)(hB:SM κ ar pd st)(h:JH a b (n+k) na nb out){q:Nat×Nat}:wpS (model prog w) A E s (hiW a b mg (none,na,nb,out,q)) (GH κ ar pd a b (n+1) (n+(k+1))) st:=by
 obtain⟨p,la,lb,ma,mb,li⟩:=h;refine aE (bp (dG b (nb-1) (by lia)) (aE (bp (dG a (na-1) (by lia)) (aE (nK hC hB.kind (hb _ (by simp)) (ha _ (by simp)) fun w=>?_)))));cases w
 .refine aE (bp (dG b (nb-1) (by lia)) ?_);have p:=p.uy (show 1<=nb by lia) (show nb-1<b.size by lia);refine jd hB (fun _=>p.first) fun f=>?_;have g:nb-1≠1:=oM f;have j:JH a b (n+(k+1)) na (nb-1) (out.push b[nb-1]):=⟨p,la,by lia,ma,by lia,by lia⟩
  exact⟨⟨p,la,j.2.2.1,ma,j.2.2.2.2.1,by have:=j.2.2.2.2.2;dsimp only;lia⟩,j⟩
 .refine aE (bp (dG a (na-1) (by lia)) ?_);have p:=p.ux la (show na-1<a.size by lia);refine jd hB (fun _=>p.done) fun f=>?_;have g:na-1≠0:=oM f;have j:JH a b (n+(k+1)) (na-1) nb (out.push a[na-1]):=⟨p,by lia,lb,by lia,mb,by lia⟩
  exact⟨⟨p,j.2.1,lb,j.2.2.2.1,mb,by have:=j.2.2.2.2.2;dsimp only;lia⟩,j⟩
theorem yb{Q:Array Keyed->SortSt->Prop}(hC:kP prog w A s κ a₀)(hB:SM κ ar pd st)(ha:∀x∈a.toList,x∈a₀.toList)(hb:∀x∈b.toList,x∈a₀.toList)(a1:1<=a.size)(b1:1<=b.size)(h:∀out aD,out.Perm (a++b)->SM κ ar pd aD->Q out aD):wpS (model prog w) A E s (r6 a b) Q st:=by
 rw[ya];refine aE (iS (gm ⟨rfl,?_⟩));refine aE (bp (dG a (a.size-1) (by lia)) ?_);have p0:PH a b #[a[a.size-1]] (a.size-1) b.size:=by
  have:PH a b #[] a.size b.size:=by unfold PH;simp
  exact this.ux a1 (by lia)
 split
 .exact aJ (h _ _ p0.done hB)
 next f=>
 split
 .exact aJ (h _ _ p0.first hB)
 next f'=>
 have g:a.size-1≠0:=by simpa using f
 have g':b.size≠1:=by simpa using f'
 refine Cm (J:=JH a b) hB ⟨p0,by lia,by lia,by lia,by lia,by lia⟩ (fun i k x y z h=>⟨h.1,h.2.1,h.2.2.1,h.2.2.2.1,h.2.2.2.2.1,by have:=h.2.2.2.2.2;lia⟩) (fun x y z h=>by have:=h.2;lia) (by lia) (fun mg n k x y z p st m j=>Ka hC ha hb m j) (fun n x y z p st m j=>?_) h;unfold hiG;split <;> exact J_ hC ha hb m j
end
section
variable {prog:Program} {w:World} {A:Around} {E:Value->Shared->Prop} {s:Shared} {κ:SortKind} {a₀:Array Keyed} {pd:Array (Nat×Nat×Nat)}
theorem AN{st:SortSt}{lo cG:Nat}{Q:Option Nat->SortSt->Prop}(hC:kP prog w A s κ a₀)(hn:lo+cG<=a₀.size)(h1:1<=cG)(hB:SQ κ a₀ pd st)(h:∀n aD,SQ κ a₀ pd aD->1<=n->n<=cG->Q (some n) aD):wpS (model prog w) A E s (countRun' lo cG) Q st:=by
 rw[countRun'_eq];refine aE (eJ (eI (I:=fun i c aD=>SQ κ a₀ pd aD/\∃m,c=(none,m)/\m=i) (Q:=fun c aD=>SQ κ a₀ pd aD/\∃m,c=(none,m)/\1<=m/\m<=cG) ?_ ?_ ⟨hB,_,rfl,rfl⟩) ?_)
 .rintro i c J7 MI xC ⟨Gx,m,rfl,rfl⟩;dsimp only;refine aE (eQ hC Gx (by lia) (by lia) fun b1=>?_);cases b1
  .exact aJ ⟨Gx,_,rfl,rfl⟩
  .exact aJ ⟨Gx,_,rfl,by lia,by lia⟩
 .rintro c J7 ⟨Gx,m,rfl,rfl⟩;exact⟨Gx,_,rfl,by lia,by lia⟩
 .rintro c J7 ⟨Gx,n,rfl,n1,n2⟩;dsimp only;by_cases e1:(n==cG)=true
  .rw[ak e1];exact aJ (h n J7 Gx n1 n2)
  rw[aq e1];have g1:¬ (n=cG):=by simpa using e1
  by_cases e2:n > 1
  .rw[ak e2];refine aE (eQ hC Gx (by lia) (by lia) fun b2=>?_);cases b2
   .dsimp only;rw[aq (by decide)];refine aE (fY Gx fun lL oq=>?_);refine aE (iS (gm ⟨rfl,?_⟩));refine aE (eJ (eI (I:=fun i c aD=>SQ κ a₀ pd aD/\∃m q,c=(none,m,q)/\m=i) (Q:=fun c aD=>SQ κ a₀ pd aD/\∃m q,c=(none,m,q)/\1<=m/\m<=cG) ?_ ?_ ⟨oq,_,_,rfl,rfl⟩) ?_)
    .rintro i c jW MI xC ⟨ig,m,q,rfl,rfl⟩;dsimp only;refine aE (eQ hC ig (by lia) (by lia) fun b3=>?_);cases b3
     .dsimp only;rw[aq (by decide)];refine aE (eQ hC ig (by lia) (by lia) fun b4=>?_);cases b4
      .exact aJ ⟨ig,_,_,rfl,rfl⟩
      .exact aJ ⟨ig,_,_,rfl,by lia,by lia⟩
     .dsimp only;rw[ak rfl];split
      .exact aE (fY ig fun qf Op=>aJ ⟨Op,_,_,rfl,rfl⟩)
      .exact aJ ⟨ig,_,_,rfl,rfl⟩
    .rintro c jW ⟨ig,m,q,rfl,rfl⟩;exact⟨ig,_,_,rfl,by lia,by lia⟩
    .rintro c jW ⟨ig,m,q,rfl,m1,m2⟩;dsimp only;split
     .refine aE (fY ig fun qf Op=>?_);refine aE (fY Op fun wW Oq=>?_);refine aE (eJ (eI (I:=fun i c aD=>SQ κ a₀ pd aD/\∃m,c=(none,m)/\m=i) (Q:=fun c aD=>SQ κ a₀ pd aD/\∃m,c=(none,m)/\1<=m/\m<=cG) ?_ ?_ ⟨Oq,_,rfl,rfl⟩) ?_)
      .rintro i c AO MI xC ⟨mz,m,rfl,rfl⟩;dsimp only;refine aE (eQ hC mz (by lia) (by lia) fun b6=>?_);cases b6
       .exact aJ ⟨mz,_,rfl,rfl⟩
       .exact aJ ⟨mz,_,rfl,by lia,by lia⟩
      .rintro c AO ⟨mz,m,rfl,rfl⟩;exact⟨mz,_,rfl,by lia,by lia⟩
      .rintro c AO ⟨mz,m,rfl,h1,h2⟩;exact aJ (h m AO mz h1 h2)
     .refine aE (fY ig fun wW Oq=>?_);refine aE (eJ (eI (I:=fun i c aD=>SQ κ a₀ pd aD/\∃m,c=(none,m)/\m=i) (Q:=fun c aD=>SQ κ a₀ pd aD/\∃m,c=(none,m)/\1<=m/\m<=cG) ?_ ?_ ⟨Oq,_,rfl,rfl⟩) ?_)
      .rintro i c AO MI xC ⟨mz,m,rfl,rfl⟩;dsimp only;refine aE (eQ hC mz (by lia) (by lia) fun b6=>?_);cases b6
       .exact aJ ⟨mz,_,rfl,rfl⟩
       .exact aJ ⟨mz,_,rfl,by lia,by lia⟩
      .rintro c AO ⟨mz,m,rfl,rfl⟩;exact⟨mz,_,rfl,by lia,by lia⟩
      .rintro c AO ⟨mz,m,rfl,h1,h2⟩;exact aJ (h m AO mz h1 h2)
   .exact aJ (h n J7 Gx n1 n2)
  .rw[aq e2];have oq:=Gx;refine aE (iS (gm ⟨rfl,?_⟩));refine aE (eJ (eI (I:=fun i c aD=>SQ κ a₀ pd aD/\∃m q,c=(none,m,q)/\m=i) (Q:=fun c aD=>SQ κ a₀ pd aD/\∃m q,c=(none,m,q)/\1<=m/\m<=cG) ?_ ?_ ⟨oq,_,_,rfl,rfl⟩) ?_)
   .rintro i c jW MI xC ⟨ig,m,q,rfl,rfl⟩;dsimp only;refine aE (eQ hC ig (by lia) (by lia) fun b3=>?_);cases b3
    .dsimp only;rw[aq (by decide)];refine aE (eQ hC ig (by lia) (by lia) fun b4=>?_);cases b4
     .exact aJ ⟨ig,_,_,rfl,rfl⟩
     .exact aJ ⟨ig,_,_,rfl,by lia,by lia⟩
    .dsimp only;rw[ak rfl];split
     .exact aE (fY ig fun qf Op=>aJ ⟨Op,_,_,rfl,rfl⟩)
     .exact aJ ⟨ig,_,_,rfl,rfl⟩
   .rintro c jW ⟨ig,m,q,rfl,rfl⟩;exact⟨ig,_,_,rfl,by lia,by lia⟩
   .rintro c jW ⟨ig,m,q,rfl,m1,m2⟩;dsimp only;split
    .refine aE (fY ig fun qf Op=>?_);refine aE (fY Op fun wW Oq=>?_);refine aE (eJ (eI (I:=fun i c aD=>SQ κ a₀ pd aD/\∃m,c=(none,m)/\m=i) (Q:=fun c aD=>SQ κ a₀ pd aD/\∃m,c=(none,m)/\1<=m/\m<=cG) ?_ ?_ ⟨Oq,_,rfl,rfl⟩) ?_)
     .rintro i c AO MI xC ⟨mz,m,rfl,rfl⟩;dsimp only;refine aE (eQ hC mz (by lia) (by lia) fun b6=>?_);cases b6
      .exact aJ ⟨mz,_,rfl,rfl⟩
      .exact aJ ⟨mz,_,rfl,by lia,by lia⟩
     .rintro c AO ⟨mz,m,rfl,rfl⟩;exact⟨mz,_,rfl,by lia,by lia⟩
     .rintro c AO ⟨mz,m,rfl,h1,h2⟩;exact aJ (h m AO mz h1 h2)
    .refine aE (fY ig fun wW Oq=>?_);refine aE (eJ (eI (I:=fun i c aD=>SQ κ a₀ pd aD/\∃m,c=(none,m)/\m=i) (Q:=fun c aD=>SQ κ a₀ pd aD/\∃m,c=(none,m)/\1<=m/\m<=cG) ?_ ?_ ⟨Oq,_,rfl,rfl⟩) ?_)
     .rintro i c AO MI xC ⟨mz,m,rfl,rfl⟩;dsimp only;refine aE (eQ hC mz (by lia) (by lia) fun b6=>?_);cases b6
      .exact aJ ⟨mz,_,rfl,rfl⟩
      .exact aJ ⟨mz,_,rfl,by lia,by lia⟩
     .rintro c AO ⟨mz,m,rfl,rfl⟩;exact⟨mz,_,rfl,by lia,by lia⟩
     .rintro c AO ⟨mz,m,rfl,h1,h2⟩;exact aJ (h m AO mz h1 h2)
end
abbrev Ri:=Nat×Nat×Nat
def je:List Ri->Nat->Nat->Prop
 |[],s,e=>s=e
 |r::rs,s,e=>r.1=s/\1<=r.2.1/\je rs (s+r.2.1) e
theorem je.le:∀ {l:List Ri} {s e:Nat},je l s e->s<=e
 |[],_,_,h=>km h
 |r::rs,s,e,⟨_,h2,h3⟩=>by have:=h3.le;lia
theorem je.two:∀ {l:List Ri} {s e i:Nat} {x y:Ri},je l s e->l[i]?=some x->l[i+1]?=some y->
  x.1+x.2.1=y.1/\y.1+y.2.1<=e/\1<=x.2.1/\1<=y.2.1/\∀p,je ((l.set i (x.1,x.2.1+y.2.1,p)).eraseIdx (i+1)) s e
 |r::q::rs,s,e,0,x,y,⟨h1,h2,h3,h4,h5⟩,hx,hy=>by
  obtain rfl:=bh hx;obtain rfl:=bh hy;have:=h5.le;refine⟨by lia,by lia,h2,h4,fun p=>⟨h1,by show 1<=r.2.1+q.2.1;lia,?_⟩⟩;show je rs (s+(r.2.1+q.2.1)) e;rw[<-Nat.add_assoc];exact h5
 |r::rs,s,e,i+1,x,y,⟨h1,h2,h3⟩,hx,hy=>by
  obtain⟨a1,a2,a3,a4,a5⟩:=je.two (i:=i) h3 hx hy;exact⟨a1,a2,a3,a4,fun p=>⟨h1,h2,a5 p⟩⟩
theorem je.push:∀ {l:List Ri} {s e n p:Nat},je l s e->1<=n->je (l++[(e,n,p)]) s (e+n)
 |[],s,e,n,p,h,hn=>⟨h.symm,hn,by rw[h];rfl⟩
 |r::rs,s,e,n,p,⟨h1,h2,h3⟩,hn=>⟨h1,h2,je.push h3 hn⟩
theorem je.pw:∀ {l:List Ri} {s e:Nat} (i p:Nat),je l s e->je (l.modify i fun r=>(r.1,r.2.1,p)) s e
 |[],s,e,i,p,h=>by cases i <;> exact h
 |r::rs,s,e,0,p,⟨h1,h2,h3⟩=>⟨h1,h2,h3⟩
 |r::rs,s,e,i+1,p,⟨h1,h2,h3⟩=>⟨h1,h2,je.pw i p h3⟩
theorem Kb{M:Model}{A:Around}{E:Value->Shared->Prop}{s:Shared}{σ:Type}{x:σ}{Q:PUnit->σ->Prop}{st:σ}(h:Q ⟨⟩ x):wpS M A E s (set x:StateT σ Sem PUnit) Q st:=by
 unfold wpS;rw[StateT.run_set];exact wpAny_pure ⟨rfl,h⟩
theorem yc(i:Nat):mergeAt' i=(do
 let s <- get
 let (some (sa,na,Tv),some (sb,nb,_)):=((pendingOf s)[i]?,(pendingOf s)[i+1]?)|unsupported "internal:list.sort.pending"
 set (setPending s (((pendingOf s).setIfInBounds i (sa,na+nb,Tv)).eraseIdxIfInBounds (i+1)))
 let some k <- iI false (<-elem' (arrOf s) sb) (arrOf s) sa na 0|return false
 let (sa,na):=(sa+k,na-k)
 if na==0 then return true
 let some nb <- iI true (<-elem' (arrOf s) (sa+na-1)) (arrOf s) sb nb (nb-1)|return false
 if nb==0 then return true
 let x:=(arrOf s).extract sa sb
 let y:=(arrOf s).extract sb (sb+nb)
 let merged <- if na<=nb then rZ x y else r6 x y
 modify fun s=>setArr s (merged.toList.zipIdx.foldl (fun a (p,j)=>a.setIfInBounds (sa+j) p) (arrOf s))
 return (failedOf (<-get)).isNone):=rfl
theorem r_{sa:Nat}:∀ (l:List Keyed) (k:Nat) (arr:Array Keyed),sa+k+l.length<=arr.size->
  ((l.zipIdx k).foldl (fun (a:Array Keyed) (x:Keyed×Nat)=>a.setIfInBounds (sa+x.2) x.1) arr).toList=arr.toList.take (sa+k)++l++arr.toList.drop (sa+k+l.length)
 |[],k,arr,_=>by simp
 |x::l,k,arr,h=>by
  rw[d9] at h;have hs:sa+k<arr.toList.length:=by rw[mR];lia
  rw[zP,g_,r_ l (k+1) _ (by rw[Array.size_setIfInBounds];lia),E_];dsimp only;have e1:(arr.toList.set (sa+k) x).take (sa+(k+1))=arr.toList.take (sa+k)++[x]:=by
   rw[<-Nat.add_assoc,gO,pP hs,List.take_set_of_le (aI _)];rfl
  have e2:(arr.toList.set (sa+k) x).drop (sa+(k+1)+l.length)=arr.toList.drop (sa+k+(x::l).length):=by
   rw[List.drop_set_of_lt (by lia),d9];congr 1;lia
  rw[e1,e2,dq,dq,dq];rfl
section
variable {prog:Program} {w:World} {A:Around} {E:Value->Shared->Prop} {s:Shared} {κ:SortKind} {a₀:Array Keyed}
def SR(κ:SortKind)(a₀:Array Keyed)(lo:Nat)(st:SortSt):Prop:=∃pd,SQ κ a₀ pd st/\je pd.toList 0 lo/\lo<=a₀.size
theorem kT{st:SortSt}{i lo:Nat}{Q:Bool->SortSt->Prop}(hC:kP prog w A s κ a₀)(hB:SR κ a₀ lo st)(hi:i+1<(pendingOf st).size)(h:∀aD,SR κ a₀ lo aD->Q true aD):wpS (model prog w) A E s (mergeAt' i) Q st:=by
 obtain⟨pd,hq,hr,Wt⟩:=hB;rw[hq.pend] at hi;rw[yc];refine aE (eL ?_);have e1:pd[i]?=some pd[i]:=dG pd i (by lia);have e2:pd[i+1]?=some pd[i+1]:=dG pd (i+1) hi;obtain⟨a1,a2,a3,a4,a5⟩:=hr.two (i:=i) (x:=pd[i]) (y:=pd[i+1]) (by simpa using e1) (by simpa using e2);rw[hq.pend,e1,e2];revert a1 a2 a3 a4 a5;generalize pd[i]=x;generalize pd[i+1]=y;obtain⟨sa,na,pw⟩:=x;obtain⟨sb,nb,pw2⟩:=y;intro a1 a2 a3 a4 a5;dsimp only at a1 a2 a3 a4 a5 |-;obtain⟨Kc,Tw⟩:∃Kc,Kc=(pd.setIfInBounds i (sa,na+nb,pw)).eraseIdxIfInBounds (i+1):=⟨_,rfl⟩
 have pR:je Kc.toList 0 lo:=by
  rw[Tw,Array.toList_eraseIdxIfInBounds,E_];exact a5 pw
 refine aE (Kb ?_);rw[<-Tw];have Mv:SM κ (arrOf st) Kc (setPending st Kc):=⟨rfl,hq.kind,hq.failed,rfl⟩
 have hsz:=hq.size;have uv:∀x∈(arrOf st).toList,x∈a₀.toList:=fun x hx=>(lD.mp hq.perm).mem_iff.mp hx;have dS:∀aD,SM κ (arrOf st) Kc aD->SR κ a₀ lo aD:=fun aD m=>⟨Kc,⟨by rw[m.arr];exact hq.perm,m.kind,m.failed,m.pend⟩,pR,Wt⟩
 refine aE (bp (dG (arrOf st) sb (by lia)) ?_);refine aE (gu hC Mv.kind (uv _ (by simp)) uv (by lia) (by lia) fun k hk=>?_);dsimp only;by_cases f1:(na-k==0)=true
 .rw[ak f1];exact aJ (h _ (dS _ Mv))
 rw[aq f1];have g1:¬ (na-k=0):=by simpa using f1
 refine aE (bp (dG (arrOf st) (sa+k+(na-k)-1) (by lia)) ?_);refine aE (gu hC Mv.kind (uv _ (by simp)) uv (by lia) (by lia) fun k2 Rh=>?_);dsimp only;by_cases f2:(k2==0)=true
 .rw[ak f2];exact aJ (h _ (dS _ Mv))
 rw[aq f2];have g2:¬ (k2=0):=by simpa using f2
 have hx:∀x∈((arrOf st).extract (sa+k) sb).toList,x∈a₀.toList:=fun x hx=>uv x (by rw[eR] at hx;exact u5 (lW hx));have hy:∀x∈((arrOf st).extract sb (sb+k2)).toList,x∈a₀.toList:=fun x hx=>uv x (by rw[eR] at hx;exact u5 (lW hx));have sx:((arrOf st).extract (sa+k) sb).size=sb-(sa+k):=by rw[Array.size_extract];lia
 have sy:((arrOf st).extract sb (sb+k2)).size=k2:=by rw[Array.size_extract];lia
 have last:∀ (out:Array Keyed) (aD:SortSt),out.Perm ((arrOf st).extract (sa+k) sb++(arrOf st).extract sb (sb+k2))->SM κ (arrOf st) Kc aD->wpS (model prog w) A E s (do
   modify fun s=>setArr s (out.toList.zipIdx.foldl (fun a (p,j)=>a.setIfInBounds (sa+k+j) p) (arrOf s))
   return (failedOf (<-get)).isNone) Q aD:=by
  intro out aD hp m;refine aE (e_ ?_);refine aE (eL (aJ ?_));have osz:out.toList.length=sb-(sa+k)+k2:=by
   rw[mR,hp.size_eq,Array.size_append,sx,sy]
  have wl:=r_ (sa:=sa+k) out.toList 0 (arrOf aD) (by rw[m.arr,osz];lia);have pm:(out.toList.zipIdx.foldl (fun a (p,j)=>a.setIfInBounds (sa+k+j) p) (arrOf aD)).Perm (arrOf st):=by
   rw[lD];refine(re wl).trans ?_;rw[m.arr,osz,Nat.add_zero];have Re:=lD.mp hp;rw[fz,eR,eR] at Re;refine((Re.append_left _).append_right _).trans ?_;have e1:(arrOf st).toList.drop (sa+k)=((arrOf st).toList.drop (sa+k)).take (sb-(sa+k))++(arrOf st).toList.drop sb:=nL (by lia);have e2:(arrOf st).toList.drop sb=((arrOf st).toList.drop sb).take (sb+k2-sb)++(arrOf st).toList.drop (sb+k2):=nL (by lia);have e3:sa+k+(sb-(sa+k)+k2)=sb+k2:=by lia
   rw[e3];refine re ?_;conv=>rhs;rw[<-lU (sa+k) (arrOf st).toList,e1,e2]
   simp only[dq]
  have hf:(failedOf aD).isNone=true:=by rw[m.failed];rfl
  show Q (failedOf aD).isNone _;rw[hf];exact h _ ⟨Kc,⟨pm.trans hq.perm,m.kind,m.failed,m.pend⟩,pR,Wt⟩
 by_cases f3:na-k<=k2
 .rw[ak f3];exact aE (x_ hC Mv hx hy (by lia) (by lia) fun out aD hp m=>last out aD hp m)
 .rw[aq f3];exact aE (yb hC Mv hx hy (by lia) (by lia) fun out aD hp m=>last out aD hp m)
theorem yd{c:Prop}[Decidable c]{x:Nat}:(if c then x-1 else x)<=x:=by split <;> lia
theorem SR.pw{lo:Nat}{st:SortSt}(h:SR κ a₀ lo st)(i p:Nat):SR κ a₀ lo (setPending st ((pendingOf st).modify i fun r=>(r.1,r.2.1,p))):=by
 obtain⟨pd,hq,hr,hl⟩:=h;refine⟨_,⟨hq.perm,hq.kind,hq.failed,rfl⟩,?_,hl⟩;show je ((pendingOf st).modify i fun r=>(r.1,r.2.1,p)).toList 0 lo;rw[hq.pend,Array.toList_modify];exact hr.pw i p
theorem SR.push{lo n:Nat}{st:SortSt}(h:SR κ a₀ lo st)(h1:1<=n)(hn:lo+n<=a₀.size):SR κ a₀ (lo+n) (setPending st ((pendingOf st).push (lo,n,0))):=by
 obtain⟨pd,hq,hr,hl⟩:=h;refine⟨_,⟨hq.perm,hq.kind,hq.failed,rfl⟩,?_,hn⟩;show je ((pendingOf st).push (lo,n,0)).toList 0 (lo+n);rw[hq.pend,oH];exact hr.push h1
theorem Eb{st:SortSt}{Q:Unit->SortSt->Prop}(hC:kP prog w A s κ a₀)(hp:(arrOf st).Perm a₀)(hk:kindOf st=κ)(hf:failedOf st=none)(Yt:pendingOf st=#[])(h:∀aD,(arrOf aD).Perm a₀->failedOf aD=none->Q () aD):wpS (model prog w) A E s sortRuns' Q st:=by
 have h0:SR κ a₀ 0 st:=⟨#[],⟨hp,hk,hf,Yt⟩,rfl,bV _⟩
 have hsz:(arrOf st).size=a₀.size:=hp.size_eq;rw[sortRuns'_eq];refine aE (eL ?_);dsimp only;rw[hsz];refine aE (eJ (eI (I:=fun _ c aD=>∃lo,c=(none,lo)/\SR κ a₀ lo aD) (Q:=fun c aD=>∃lo,c=(none,lo)/\SR κ a₀ lo aD) ?_ (fun c aD hh=>hh) ⟨0,rfl,h0⟩) ?_)
 .rintro i c J7 _ _ ⟨lo,rfl,hR⟩;dsimp only;by_cases e1:lo>=a₀.size
  .rw[ak e1];exact aJ ⟨lo,rfl,hR⟩
  rw[aq e1];have Wt:lo<a₀.size:=by lia
  obtain⟨pd,hq,hr,hl⟩:=hR;refine aE (AN hC (by lia) (by lia) hq fun n lL Mw n1 n2=>?_);dsimp only;by_cases hm:n<minRun' a₀.size a₀.size 0
  .rw[ak hm];refine aE (iS (gm ⟨rfl,?_⟩));refine aE (Gv hC (by lia) Mw fun jW hq3=>?_);simp only[rf,lI,fQ];have I_:SR κ a₀ lo jW:=⟨pd,hq3,hr,hl⟩
   refine aE (eL ?_);cases hb:(pendingOf jW).back? with
   |none=>
    dsimp only;exact aE (e_ (aJ ⟨_,rfl,I_.push (by lia) (by lia)⟩))
   |some r=>
    obtain⟨s1,n1',pw1⟩:=r;dsimp only;refine aE (eJ (eI (I:=fun _ c aD=>c=(none,())/\SR κ a₀ lo aD) (Q:=fun c aD=>c=(none,())/\SR κ a₀ lo aD) ?_ (fun c aD hh=>hh) ⟨rfl,I_⟩) ?_)
    .rintro x c qf _ _ ⟨rfl,s_⟩;refine aE (eL ?_);by_cases hs:(pendingOf qf).size > 1
     .rw[ak hs,dG (pendingOf qf) ((pendingOf qf).size-2) (by lia)];generalize (pendingOf qf)[(pendingOf qf).size-2]=r4;obtain⟨_,_,Tx⟩:=r4;dsimp only;split
      .exact aJ ⟨rfl,s_⟩
      .refine aE (kT hC s_ (by lia) fun wW Tz=>?_);simp only[rf,lI,fQ];exact aJ ⟨rfl,Tz⟩
     .rw[aq hs];exact aJ ⟨rfl,s_⟩
    .rintro c qf ⟨rfl,s_⟩;dsimp only;exact aE (e_ (aE (e_ (aJ ⟨_,rfl,(s_.pw _ _).push (by lia) (by lia)⟩))))
  .rw[aq hm];have I_:SR κ a₀ lo lL:=⟨pd,Mw,hr,hl⟩
   refine aE (eL ?_);cases hb:(pendingOf lL).back? with
   |none=>
    dsimp only;exact aE (e_ (aJ ⟨_,rfl,I_.push (by lia) (by lia)⟩))
   |some r=>
    obtain⟨s1,n1',pw1⟩:=r;dsimp only;refine aE (eJ (eI (I:=fun _ c aD=>c=(none,())/\SR κ a₀ lo aD) (Q:=fun c aD=>c=(none,())/\SR κ a₀ lo aD) ?_ (fun c aD hh=>hh) ⟨rfl,I_⟩) ?_)
    .rintro x c qf _ _ ⟨rfl,s_⟩;refine aE (eL ?_);by_cases hs:(pendingOf qf).size > 1
     .rw[ak hs,dG (pendingOf qf) ((pendingOf qf).size-2) (by lia)];generalize (pendingOf qf)[(pendingOf qf).size-2]=r4;obtain⟨_,_,Tx⟩:=r4;dsimp only;split
      .exact aJ ⟨rfl,s_⟩
      .refine aE (kT hC s_ (by lia) fun wW Tz=>?_);simp only[rf,lI,fQ];exact aJ ⟨rfl,Tz⟩
     .rw[aq hs];exact aJ ⟨rfl,s_⟩
    .rintro c qf ⟨rfl,s_⟩;dsimp only;exact aE (e_ (aE (e_ (aJ ⟨_,rfl,(s_.pw _ _).push (by lia) (by lia)⟩))))
 .rintro c J7 ⟨lo,rfl,hR⟩;dsimp only;refine aE (eJ (eI (I:=fun _ c aD=>c=(none,())/\SR κ a₀ lo aD) (Q:=fun c aD=>c=(none,())/\SR κ a₀ lo aD) ?_ (fun c aD hh=>hh) ⟨rfl,hR⟩) ?_)
  .rintro x c qf _ _ ⟨rfl,s_⟩;refine aE (eL ?_);by_cases hs:(pendingOf qf).size<=1
   .rw[ak hs];exact aJ ⟨rfl,s_⟩
   rw[aq hs];refine aE (kT hC s_ ?_ fun wW Tz=>?_)
   .exact fK (Nat.succ_le_succ yd) (show (pendingOf qf).size-2+1<(pendingOf qf).size by lia)
   .simp only[rf,lI,fQ];exact aJ ⟨rfl,Tz⟩
  .rintro c qf ⟨rfl,pd,hq,_⟩;exact aJ (h _ hq.perm hq.failed)
end
end PyProof.Rows
namespace L2
open PySem PySem.Spec PyProof.Rows PySem.W
def jG(h:Heap)(vs:List Value):Prop:=∀v∈vs,∃a o n x t y u,v=Value.ref a/\h.get? a=some o/\o.cls=.type "tuple"/\o.data=.seq #[.int x t,.int y u] n
theorem jG.me{h:Heap}:∀ {vs:List Value},jG h vs->∃fs,KatTups h vs fs/\fs.length=vs.length/\∀v∈fs,∃n t,v=Value.int n t
 |[],_=>⟨[],trivial,rfl,fun v hv=>nomatch hv⟩
 |v::vs,hp=>by
  obtain⟨fs,k1,k2,k3⟩:=jG.me (vs:=vs) fun b hb=>hp b (cm _ hb);obtain⟨a,o,n,x,t,y,u,rfl,e,c,d⟩:=hp v bL;refine⟨.int x t::fs,KatTups.cons e c d rfl k1,by simp[k2],fun v hv=>?_⟩;rcases a_.mp hv with z|z
  .exact⟨x,t,z⟩
  .exact k3 v z
section
variable {prog:Program} {w:World} {A:Around} {E:Value->Shared->Prop} {s:Shared}
theorem Ec{vs:List Value}(hp:jG s.heap vs):kP prog w A s (tuples' true) (vs.toArray.zip vs.toArray):=by
 have mem:∀x∈(vs.toArray.zip vs.toArray).toList,x.1∈vs:=by
  intro x hx;rw[Array.toList_zip] at hx;exact(oO hx).1
 intro x y hx hy Q E' q;obtain⟨a,o,n,x1,t1,x2,t2,e1,eo,_,ed⟩:=hp x.1 (mem x hx);obtain⟨b,o',n',y1,u1,y2,u2,e2,eo',_,ed'⟩:=hp y.1 (mem y hy);rw[e1,e2];refine kat_lt eo ed eo' ed' (kat_cons (z7 ?_));by_cases h1:x1=y1
 .rw[hU.mpr h1];refine kat_yes (kat_cons (z7 ?_));by_cases h2:x2=y2
  .rw[hU.mpr h2];exact kat_yes (kat_nil (q _))
  .rw[lY.mpr h2];exact kat_no (kat_one _ _ (lt_int (q _)))
 .rw[lY.mpr h1];exact kat_no (oneLt_int (q _))
theorem Kd{vs:List Value}:((vs.toArray.zip vs.toArray).map (·.2)).toList=vs:=by
 rw[rc,Array.toList_zip];show (vs.zip vs).map (·.2)=vs;rw[<-List.unzip_snd,List.unzip_zip_right (aI _)]
theorem qh{a:Addr}{vs:List Value}{n:Nat}{P:PySem.Fin->Shared->Prop}(ho:s.heap.get? a=some (seqObj "list" vs.toArray n))(hp:jG s.heap vs)(hz:vs.length<=4096)(h:∀ (out:Array Value),out.toList.Perm vs->P (.done (.ret .none)) { s with heap:=sortedHeap s.heap a vs out }):
  wpAny (model prog w) A (Builtin.«list.sort» ⟨[.ref a],[]⟩) P E s:=by
 rw[list_sort_plain];have ha:a<s.heap.objs.size:=a9 ho;have WE:vs.toArray.size<=sizeLine:=by rw[cB,gj];lia
 refine az (listItems_at ho rfl ?_);refine az (l_ ho rfl ?_ WE (bV _));obtain⟨e1,Ja⟩:∃e1,(s.heap.update a (Obj.mapSeq fun _=>#[])).get? a=some (seqObj "list" #[] e1):=⟨_,oU ho (fun _=>#[])⟩
 refine az (rq Ja rfl ?_);refine az (wpAny_newTuple ?_ (by show vs.length<=_;rw[gj];lia));refine az (vA ?_ (bV _));refine iO ?_;have MP:(((s.heap.update a (Obj.mapSeq fun _=>#[])).push (seqObj "tuple" vs.toArray 0)).push (seqObj "list" #[] 0)).get? a=some (seqObj "list" #[] e1):=by
  rw[iF _ _ _ (by rw[iQ,jR];exact bb (eV ha)),iF _ _ _ (by rw[jR];exact bb ha)];exact Ja
 have Jb:jG (((s.heap.update a (Obj.mapSeq fun _=>#[])).push (seqObj "tuple" vs.toArray 0)).push (seqObj "list" #[] 0)) vs:=by
  intro v hv;obtain⟨b,o,n,x,t,y,u,ev,e,c,d⟩:=hp v hv;have hb:b<s.heap.objs.size:=a9 e;have jb:b≠a:=by
   rintro rfl;rw[ho] at e;cases e;exact absurd (Value.type.inj c) (by decide)
  refine⟨b,o,n,x,t,y,u,ev,?_,c,d⟩;rw[iF _ _ _ (by rw[iQ,jR];exact bb (eV hb)),iF _ _ _ (by rw[jR];exact bb hb),oC _ _ _ _ jb];exact e
 show wpAny (model prog w) A _ P E { s with heap:=((s.heap.update a (Obj.mapSeq fun _=>#[])).push (seqObj "tuple" vs.toArray 0)).push (seqObj "list" #[] 0) };dsimp only;have dS:∀aD:SortSt,(arrOf aD).Perm (vs.toArray.zip vs.toArray)->P (.done (.ret .none)) { s with heap:=sortedHeap s.heap a vs ((arrOf aD).map (·.2)) }:=by
  intro aD WF;refine h _ ?_;have:=(lD.mp WF).map (·.2);rw[<-rc,<-rc,Kd] at this;exact this
 have zsz:(vs.toArray.zip vs.toArray).size=vs.length:=by simp
 by_cases h2:vs.toArray.size<2
 .rw[ak h2,ak h2];refine az (wpAny_pure ?_);rw[StateT.run_pure];refine az (wpAny_pure ?_);dsimp only;refine az (rq MP rfl ?_);refine az (l_ MP rfl ?_ (bV _) (by show ((vs.toArray.zip vs.toArray).map (·.2)).size<=_;rw[ik,zsz,gj];lia));simp only[zI,lI,fQ];exact wpAny_pure (dS (SortSt.mk' general' (vs.toArray.zip vs.toArray) #[] 7 none) (zY _))
 .rw[aq h2,aq h2];have dO:2<=vs.length:=by rw[cB] at h2;lia
  obtain⟨fs,k1,k2,k3⟩:=Jb.me;refine az (kat_kind (T:=.type "int") k1 (by lia) (fun v hv=>?_) rfl ?_)
  .obtain⟨m,t,rfl⟩:=k3 v hv;exact .now
  refine az (gn (Eb (a₀:=vs.toArray.zip vs.toArray) (κ:=tuples' true) (st:=SortSt.mk' (tuples' true) (vs.toArray.zip vs.toArray) #[] 7 none)
   (Q:=fun _ aD=>(arrOf aD).Perm (vs.toArray.zip vs.toArray)/\failedOf aD=none) (Ec Jb) (zY _) rfl rfl rfl fun aD b1 b2=>⟨b1,b2⟩) ?_ fun _ _ e=>e)
  rintro⟨⟨⟩,aD⟩ s' ⟨rfl,WF,hf⟩;dsimp only;refine az (rq MP rfl ?_);refine az (l_ MP rfl ?_ (bV _) (by refine aX (km ((ik ..).trans (WF.size_eq.trans zsz))) ?_;rw[gj];lia));rw[hf];simp only[zI,lI,fQ];exact wpAny_pure (dS aD WF)
theorem v7{l:Addr}{vs:List Value}{Q:Value->Shared->Prop}(hl:s.heap.IsList l vs.toArray)(hp:jG s.heap vs)(hz:vs.length<=4096)(h:∀ (out:Array Value),out.toList.Perm vs->Q (.ref (s.heap.objs.size+1)) { s with heap:=sortedAll s.heap vs out }):
  wpAny (model prog w) A (call (.builtin "sorted") [.ref l]) Q E s:=by
 have WE:vs.length<=sizeLine:=by rw[gj];lia
 refine Calls.call_function_entry kind_sorted plain_sorted entry_sorted (args_sorted1 _) ?_;unfold Builtin.«sorted»;refine az (m:=checkCount "sorted" 1 1 _) (wpAny_pure ?_);refine az (collect_list hl ?_ WE);refine az (vA ?_ WE);have hsz:((s.heap.push (seqObj "list" #[] 0)).update s.heap.objs.size (Obj.mapSeq (·++vs.toArray))).objs.size=s.heap.objs.size+1:=by
  rw[jR,iQ]
 have Du:(((s.heap.push (seqObj "list" #[] 0)).update s.heap.objs.size (Obj.mapSeq (·++vs.toArray))).push (seqObj "list" vs.toArray 0)).get? (s.heap.objs.size+1)=some (seqObj "list" vs.toArray 0):=by
  rw[<-hsz];exact cY _ rfl
 have qx:jG (((s.heap.push (seqObj "list" #[] 0)).update s.heap.objs.size (Obj.mapSeq (·++vs.toArray))).push (seqObj "list" vs.toArray 0)) vs:=by
  intro v hv;obtain⟨b,o,n,x,t,y,u,ev,e,c,d⟩:=hp v hv;have hb:b<s.heap.objs.size:=a9 e;refine⟨b,o,n,x,t,y,u,ev,?_,c,d⟩;rw[iF _ _ _ (by rw[hsz];exact bb (eV hb)),oC _ _ _ _ (bb hb),iF _ _ _ (bb hb)];exact e
 show wpAny _ _ _ _ _ { s with heap:=((s.heap.push (seqObj "list" #[] 0)).update s.heap.objs.size (Obj.mapSeq (·++vs.toArray))).push (seqObj "list" vs.toArray 0) };rw[hsz];refine az (iO (oQ slot_list_sort ⟨_,Du,rfl⟩ entry_list_sort (qh Du qx hz fun out a1=>⟨_,rfl,?_⟩) (args_list_sort _)));exact wpAny_pure ⟨_,rfl,h out a1⟩
end
theorem nM:∀ {as:List Addr} {its:List Value},aZ (as.map V.ref) its->its=as.map Value.ref
 |[],_,r=>by cases r;rfl
 |a::as,_,r=>by
  cases r with
  |cons r rr=>
   obtain rfl:=(show _=Value.ref a from r)
   rw[nM rr];rfl
theorem uz:∀ {as:List Addr},aZ (as.map V.ref) (as.map Value.ref)
 |[]=>.nil
 |_::_=>.cons rfl uz
theorem Ee{as:List Addr}{vs:List Value}(h:vs.Perm (as.map Value.ref)):∃yT:List Addr,vs=yT.map Value.ref/\yT.Perm as:=by
 let un:Value->Addr:=fun v=>match v with|.ref a=>a|_=>0
 refine⟨vs.map un,?_,?_⟩
 .rw[dH];have:∀v∈vs,(Value.ref ∘ un) v=v:=by
   intro v hv;obtain⟨a,_,rfl⟩:=bj.mp (h.mem_iff.mp hv);rfl
  conv=>lhs;rw[<-oY vs]
  exact jO fun v hv=>(this v hv).symm
 .have:=h.map un;rw[dH] at this;have e:as.map (un ∘ Value.ref)=as:=by
   conv=>rhs;rw[<-oY as]
   exact jO fun a _=>rfl
  rw[e] at this;exact this
def Gy(K:PySem.W.Frag):List V->Hp->VK->Prop:=fun xs H Q=>∃ (l:Addr) (as:List Addr),xs=[.ref l]/\a8 K H l (as.map V.ref)/\(∀a∈as,∃x y:Int,bJ K H a [.int x,.int y])/\as.length<=4096/\
 ∀ (D:Addr) (yT:List Addr),H D=none->yT.Perm as->Q (.ref D) (upd H D (.lst (yT.map V.ref)))
theorem AQ{X:Cx}:fU X (.builtin "sorted") (Gy X.K):=by
 intro ae s σ H xs us Q I r h;obtain⟨l,as,rfl,hl,hp,hz,q⟩:=h;obtain⟨u1,rfl,r1⟩:=r.one;obtain rfl:u1=Value.ref l:=r1;obtain⟨its,rv,pl,_⟩:=I.list hl;have Od:=nM rv;subst Od;have hpv:jG s.heap (as.map Value.ref):=by
  intro v hv;obtain⟨a,ha,rfl⟩:=bj.mp hv;obtain⟨x,y,I0⟩:=hp a ha;obtain⟨its,r,⟨o,e,c,n,d⟩,_⟩:=I.tuple I0;obtain⟨u1,u2,rfl,r1,r2⟩:=r.two;obtain⟨t,rfl⟩:=r1;obtain⟨t',rfl⟩:=r2;exact⟨a,o,n,x,t,y,t',rfl,e,c,d⟩
 refine v7 pl.isList hpv (by rw[aO];exact hz) fun out TB=>?_;obtain⟨yT,eo,pa⟩:=Ee TB;have DV:out=(yT.map Value.ref).toArray:=by rw[<-eo]
 subst DV;have YA:((s.heap.push (seqObj "list" #[] 0)).update s.heap.objs.size (Obj.mapSeq (·++(as.map Value.ref).toArray))).objs.size=s.heap.objs.size+1:=by rw[jR,iQ]
 have k1:∀b u,s.heap.get? b=some u->(((s.heap.push (seqObj "list" #[] 0)).update s.heap.objs.size (Obj.mapSeq (·++(as.map Value.ref).toArray))).push (seqObj "list" (as.map Value.ref).toArray 0)).get? b=some u:=fun b u e=>by
  have hb:b<s.heap.objs.size:=a9 e;rw[iF _ _ _ (by rw[YA];exact bb (eV hb)),oC _ _ _ _ (bb hb),iF _ _ _ (bb hb)];exact e
 have Du:(((s.heap.push (seqObj "list" #[] 0)).update s.heap.objs.size (Obj.mapSeq (·++(as.map Value.ref).toArray))).push (seqObj "list" (as.map Value.ref).toArray 0)).get? (s.heap.objs.size+1)=some (seqObj "list" (as.map Value.ref).toArray 0):=by
  rw[<-YA];exact cY _ rfl
 have Rj:(((s.heap.push (seqObj "list" #[] 0)).update s.heap.objs.size (Obj.mapSeq (·++(as.map Value.ref).toArray))).push (seqObj "list" (as.map Value.ref).toArray 0)).objs.size=s.heap.objs.size+2:=by rw[iQ,YA]
 show EP X ae σ Q (.ref (s.heap.objs.size+1)) { s with heap:=sortedHeap (((s.heap.push (seqObj "list" #[] 0)).update s.heap.objs.size (Obj.mapSeq (·++(as.map Value.ref).toArray))).push (seqObj "list" (as.map Value.ref).toArray 0)) (s.heap.objs.size+1) (as.map Value.ref) (yT.map Value.ref).toArray };revert k1 Du Rj;generalize ((s.heap.push (seqObj "list" #[] 0)).update s.heap.objs.size (Obj.mapSeq (·++(as.map Value.ref).toArray))).push (seqObj "list" (as.map Value.ref).toArray 0)=h1;intro k1 Du Rj;obtain⟨e1,Ja⟩:∃e1,(h1.update (s.heap.objs.size+1) (Obj.mapSeq fun _=>(#[]:Array Value))).get? (s.heap.objs.size+1)=some (seqObj "list" #[] e1):=⟨_,oU Du (fun _=>#[])⟩
 have MP:(((h1.update (s.heap.objs.size+1) (Obj.mapSeq fun _=>(#[]:Array Value))).push (seqObj "tuple" (as.map Value.ref).toArray 0)).push (seqObj "list" #[] 0)).get? (s.heap.objs.size+1)=some (seqObj "list" #[] e1):=by
  rw[iF _ _ _ (by rw[iQ,jR,Rj];exact bb (eV (j6 _))),iF _ _ _ (by rw[jR,Rj];exact bb (j6 _))];exact Ja
 obtain⟨e2,ho7⟩:∃e2,(sortedHeap h1 (s.heap.objs.size+1) (as.map Value.ref) (yT.map Value.ref).toArray).get? (s.heap.objs.size+1)=some (seqObj "list" (yT.map Value.ref).toArray e2):=⟨_,oU MP (fun _=>(yT.map Value.ref).toArray)⟩
 have keep:∀b u,s.heap.get? b=some u->(sortedHeap h1 (s.heap.objs.size+1) (as.map Value.ref) (yT.map Value.ref).toArray).get? b=some u:=fun b u e=>by
  have hb:b<s.heap.objs.size:=a9 e;unfold sortedHeap;rw[oC _ _ _ _ (bb (eV hb)),iF _ _ _ (by rw[iQ,jR,Rj];exact bb (eV (eV (eV hb)))),iF _ _ _ (by rw[jR,Rj];exact bb (eV (eV hb))),oC _ _ _ _ (bb (eV hb))];exact k1 b u e
 have MQ:s.heap.get? (s.heap.objs.size+1)=none:=oA (by lia);refine⟨.ref (s.heap.objs.size+1),_,I.BZ (t':=s.toks) (o:=.lst (yT.map V.ref)) keep MQ ⟨?_,yT.map Value.ref,e2,uz,ho7⟩,rfl,q _ yT (I.bE.vR MQ) pa⟩;rw[aO,pa.length_eq];exact aX hz (by decide)
section
variable {prog:Program} {w:World} {A:Around} {E:Value->Shared->Prop} {s:Shared} {g:Addr->Int×Int}
end
open PySem PySem.Spec PyProof.Rows
theorem cU(sb:Heap.SameBut c h h')(n:b≠c)(e:h.get? b=some o):h'.get? b=some o:=(sb.2 b n).trans e
theorem f8(r:h.IsTupleIter it t k)(sb:Heap.SameBut c h h')(n:it≠c):h'.IsTupleIter it t k:=r.at fun o e=>cU sb n e
theorem se(r:h.IsTuple t xs)(sb:Heap.SameBut c h h')(n:t≠c):h'.IsTuple t xs:=let ⟨o,e,z⟩:=r;⟨o,cU sb n e,z⟩
section
variable {prog:Program} {w:World} {A:Around} {E:Value->Shared->Prop} {s:Shared}
theorem Ef{z ti tq i1 i2 t1 t2:Addr}{k:Nat}{xs ys:Array Value}{x y a b:Value}{Q:Value->Shared->Prop}(dj:ZipApart z ti tq i1 i2 t1 t2)(gz:IsZip s.heap z ti tq .none)(gi:IsPair s.heap ti (.ref i1) (.ref i2))(gq:IsPair s.heap tq a b)(r1:s.heap.IsTupleIter i1 t1 k)(r2:s.heap.IsTupleIter i2 t2 k)(g1:s.heap.IsTuple t1 xs)(g2:s.heap.IsTuple t2 ys)(ex:xs[k]?=some x)(ey:ys[k]?=some y)(q:∀h',IsZip h' z ti tq (rawInt s.heap.objs.size)->IsPair h' tq x y->h'.IsTupleIter i1 t1 (k+1)->h'.IsTupleIter i2 t2 (k+1)->IsPair h' s.heap.objs.size x y->(∀c o,c≠z->c≠tq->c≠i1->c≠i2->s.heap.get? c=some o->h'.get? c=some o)->Q (.ref s.heap.objs.size) { s with heap:=h' }):
  wpAny (model prog w) A (Builtin.«zip.__next__» ⟨[.ref z],[]⟩) (fun dS s'=>∃v,dS=.done (.ret v)/\Q v s') E s:=by
 change wpAny _ _ (field (.ref z) 2 >>= _) _ _ _;refine az (gk gz rfl (x:=.bool false) rfl ?_);change wpAny _ _ (field (.ref z) 3 >>= _) _ _ _;refine az (gk gz rfl (x:=.ref ti) rfl (az (kj gi rfl ?_)));change wpAny _ _ (Builtin.SmallTypes.ownedTupleIsFree (.ref z) >>= _) _ _ _;refine az ?_;unfold Builtin.SmallTypes.ownedTupleIsFree;refine az (gk gz rfl (x:=.none) rfl (wpAny_pure ?_));simp only[js];refine az (gm (az (gk gz rfl (x:=.ref tq) rfl ?_)));refine az (q8 gz (by simp) fun m1 Ke rP=>?_);replace Ke:IsZip m1 z ti tq .ellipsis:=Ke;refine az ?_;simp only[zP,List.zipIdx_nil,vk,vq];refine az (az (wpAny_onRaise ?_));change wpAny _ _ (Builtin.SmallTypes.nextOf (.ref i1) >>= _) _ _ _;refine az (mw (f8 r1 rP dj.i1z) (se g1 rP dj.l1z) ex fun m2 r12 sW=>wpAny_pure ?_);have gq2:IsPair m2 tq a b:=cU sW dj.TOi1 (cU rP dj.TOz gq);refine az (kj gq2 rfl (az (wpAny_updateSeq_pair gq2 fun m3 YB Kg=>?_)));replace YB:IsPair m3 tq x b:=YB;refine az (wpAny_letGo (wpAny_pure ?_));refine az (az (wpAny_onRaise ?_));change wpAny _ _ (Builtin.SmallTypes.nextOf (.ref i2) >>= _) _ _ _;refine az (mw (f8 (f8 (f8 r2 rP dj.i2z) sW dj.i12.symm) Kg dj.TOi2.symm) (se (se (se g2 rP dj.l2z) sW dj.l2i1) Kg dj.l2TO) ey fun m4 r24 TC=>wpAny_pure ?_);have gq4:IsPair m4 tq x b:=cU TC dj.TOi2 YB;refine az (kj gq4 rfl (az (wpAny_updateSeq_pair gq4 fun m5 WG TD=>?_)));replace WG:IsPair m5 tq x y:=WG;refine az (wpAny_letGo (wpAny_pure (wpAny_pure ?_)));refine az (kj WG rfl (az (wpAny_newTuple ?_)));have sz:m5.objs.size=s.heap.objs.size:=by rw[TD.1,TC.1,Kg.1,sW.1,rP.1]
 have gz5:IsZip m5 z ti tq .ellipsis:=cU TD dj.TOz.symm (cU TC dj.i2z.symm (cU Kg dj.TOz.symm (cU sW dj.i1z.symm Ke)));have kp5:∀c o,c≠z->c≠tq->c≠i1->c≠i2->s.heap.get? c=some o->m5.get? c=some o:=fun c o c1 c2 c3 c4 e=>
  cU TD c2 (cU TC c4 (cU Kg c2 (cU sW c3 (cU rP c1 e))))
 have r15:m5.IsTupleIter i1 t1 (k+1):=f8 (f8 (f8 r12 Kg dj.TOi1.symm) TC dj.i12) TD dj.TOi1.symm;have r25:m5.IsTupleIter i2 t2 (k+1):=f8 r24 TD dj.TOi2.symm;have zl:z<m5.objs.size:=a9 gz5;change wpAny _ _ (Builtin.SmallTypes.ownedTupleHandOut (.ref z) (.ref m5.objs.size) >>= _) _ _ _;refine az ?_;unfold Builtin.SmallTypes.ownedTupleHandOut;have gz6:IsZip (m5.push { cls:=.type "tuple",data:=.seq #[x,y] }) z ti tq .ellipsis:=bU _ gz5;refine az (q8 gz6 (by simp) fun m7 YC sb7=>?_);replace YC:IsZip m7 z ti tq (rawInt m5.objs.size):=YC;refine q8 YC (by simp) fun m8 WI sb8=>?_;replace WI:IsZip m8 z ti tq (rawInt m5.objs.size):=WI;have up:∀c o,c≠z->m5.get? c=some o->m8.get? c=some o:=fun c o c1 e=>cU sb8 c1 (cU sb7 c1 (bU _ e));have gp8:IsPair m8 m5.objs.size x y:=cU sb8 (iP zl) (cU sb7 (iP zl) (cY _ rfl));rw[sz] at WI gp8;refine wpAny_pure ⟨_,rfl,?_⟩;change Q (.ref m5.objs.size) _;rw[sz];exact q m8 WI (up _ _ dj.TOz WG) (r15.at fun o e=>up _ o dj.i1z e) (r25.at fun o e=>up _ o dj.i2z e) gp8 fun c o c1 c2 c3 c4 e=>up c o c1 (kp5 c o c1 c2 c3 c4 e)
theorem Gz(hh:A.handled=none)(dj:ZipApart z ti tq i1 i2 t1 t2)(gz:IsZip s.heap z ti tq .none)(gi:IsPair s.heap ti (.ref i1) (.ref i2))(r1:s.heap.IsTupleIter i1 t1 k)(g1:s.heap.IsTuple t1 xs)(ex:xs[k]?=none)(q:∀h' e,(∀c o,c≠z->c≠i1->s.heap.get? c=some o->h'.get? c=some o)->(∃o,h'.get? e=some o/\o.cls=.type "StopIteration")->E (.ref e) { s with heap:=h' }):
  wpAny (model prog w) A (Builtin.«zip.__next__» ⟨[.ref z],[]⟩) Q E s:=by
 change wpAny _ _ (field (.ref z) 2 >>= _) _ _ _;refine az (gk gz rfl (x:=.bool false) rfl ?_);change wpAny _ _ (field (.ref z) 3 >>= _) _ _ _;refine az (gk gz rfl (x:=.ref ti) rfl (az (kj gi rfl ?_)));change wpAny _ _ (Builtin.SmallTypes.ownedTupleIsFree (.ref z) >>= _) _ _ _;refine az ?_;unfold Builtin.SmallTypes.ownedTupleIsFree;refine az (gk gz rfl (x:=.none) rfl (wpAny_pure ?_));simp only[js];refine az (gm (az (gk gz rfl (x:=.ref tq) rfl ?_)));refine az (q8 gz (by simp) fun m1 Ke rP=>?_);replace Ke:IsZip m1 z ti tq .ellipsis:=Ke;refine az ?_;simp only[zP,List.zipIdx_nil,vk,vq];refine az (az (wpAny_onRaise ?_));change wpAny _ _ (Builtin.SmallTypes.nextOf (.ref i1) >>= _) _ _ _;refine az (pB hh (f8 r1 rP dj.i1z) (se g1 rP dj.l1z) ex fun m2 e sW he=>?_);obtain⟨oe,YD,hce⟩:=he;have WJ:IsZip m2 z ti tq .ellipsis:=sW _ _ dj.i1z.symm Ke;have nez:e≠z:=fun y=>by subst y;rw[WJ] at YD;cases YD;simp at hce
 exact q8 WJ (by simp) fun m3 _ Kg=>q m3 e (fun c o c1 c3 y=>cU Kg c1 (sW _ _ c3 (cU rP c1 y))) ⟨oe,cU Kg nez YD,hce⟩
theorem AR(dj:ZipApart z ti tq i1 i2 t1 t2)(gz:IsZip s.heap z ti tq .none)(gi:IsPair s.heap ti (.ref i1) (.ref i2))(gq:IsPair s.heap tq a b)(r1:s.heap.IsTupleIter i1 t1 k)(r2:s.heap.IsTupleIter i2 t2 k)(g1:s.heap.IsTuple t1 xs)(g2:s.heap.IsTuple t2 ys)(ex:xs[k]?=some x)(ey:ys[k]?=some y)(q:∀h',IsZip h' z ti tq (rawInt s.heap.objs.size)->IsPair h' tq x y->h'.IsTupleIter i1 t1 (k+1)->h'.IsTupleIter i2 t2 (k+1)->IsPair h' s.heap.objs.size x y->(∀c o,c≠z->c≠tq->c≠i1->c≠i2->s.heap.get? c=some o->h'.get? c=some o)->Q (some (.ref s.heap.objs.size)) { s with heap:=h' }):
  wpAny (model prog w) A (pyNext (.ref z)) Q E s:=by
 have ty:s.TypeIs (.ref z) "zip":=⟨_,gz,rfl⟩
 unfold pyNext;refine az (oX (qU (name:=Str.ofString "__next__") ty F.slot_zip_next (oQ F.slot_zip_next ty F.entry_zip_next ?_ (F.args_zip_next_1 _))));exact Ef dj gz gi gq r1 r2 g1 g2 ex ey fun h' a1 a2 a3 a4 a5 a6=>wpAny_pure (q h' a1 a2 a3 a4 a5 a6)
theorem AS(hh:A.handled=none)(dj:ZipApart z ti tq i1 i2 t1 t2)(gz:IsZip s.heap z ti tq .none)(gi:IsPair s.heap ti (.ref i1) (.ref i2))(r1:s.heap.IsTupleIter i1 t1 k)(g1:s.heap.IsTuple t1 xs)(ex:xs[k]?=none)(q:∀h',(∀c o,c≠z->c≠i1->s.heap.get? c=some o->h'.get? c=some o)->Q none { s with heap:=h' }):wpAny (model prog w) A (pyNext (.ref z)) Q E s:=by
 have ty:s.TypeIs (.ref z) "zip":=⟨_,gz,rfl⟩
 unfold pyNext;refine az (oX (qU (name:=Str.ofString "__next__") ty F.slot_zip_next (oQ F.slot_zip_next ty F.entry_zip_next (Gz hh dj gz gi r1 g1 ex fun h' e hk he=>?_) (F.args_zip_next_1 _))));obtain⟨o,ho,hc⟩:=he;exact az (wpAny_isInstance (T:="StopIteration") (b:=true) ⟨o,ho,hc⟩ isSubtype_stop (wpAny_pure (q _ hk)))
abbrev zT(t:Addr):Obj:={ cls:=.type "tuple_iterator",data:=.fields #[.ref t,.int 0 0] }
abbrev WK(h:Heap)(t1 t2:Addr):Heap:=((h.push (zT t1)).push (zT t2)).push { cls:=.type "tuple",data:=.seq #[.ref h.objs.size,.ref (h.push (zT t1)).objs.size] }
abbrev WL(h:Heap)(t1 t2:Addr):Heap:=(WK h t1 t2).push { cls:=.type "tuple",data:=.seq #[.none,.none] }
abbrev Rk(h:Heap)(t1 t2:Addr):Heap:=(WL h t1 t2).push { cls:=.type "zip",data:=.fields #[.none,.bool false,.bool false,.ref ((h.push (zT t1)).push (zT t2)).objs.size,.ref (WK h t1 t2).objs.size] }
theorem GA(t1 t2:Addr)(xs ys:Array Value):
  Meets (Builtin.«zip.__new__» ⟨[.type "zip",.ref t1,.ref t2],[]⟩) (fun _ R s=>s.heap.IsTuple t1 xs/\s.heap.IsTuple t2 ys/\R (.ok (.ret (.ref (WL s.heap t1 t2).objs.size))) { s with heap:=Rk s.heap t1 t2 }):=
 .of_wp fun prog w A R s h=>by
  obtain⟨hp,g,d,tk,os⟩:=s;obtain⟨g1,g2,h⟩:=h;have abV:=sub_zip;have gA:Heap.IsTuple (Shared.heap ⟨hp,g,d,tk,os⟩) t1 xs:=g1;have gB:Heap.IsTuple (Shared.heap ⟨hp.push (zT t1),g,d,tk,os⟩) t2 ys:=let ⟨o,e,z⟩:=g2;⟨o,bU _ e,z⟩
  wp_walk using q9 gA,q9 gB
  exact⟨_,rfl,h⟩
theorem Eg(g1:s.heap.IsTuple t1 xs)(g2:s.heap.IsTuple t2 ys)(q:∀h',IsZip h' (s.heap.objs.size+4) (s.heap.objs.size+2) (s.heap.objs.size+3) .none->IsPair h' (s.heap.objs.size+2) (.ref s.heap.objs.size) (.ref (s.heap.objs.size+1))->IsPair h' (s.heap.objs.size+3) .none .none->
   h'.IsTupleIter s.heap.objs.size t1 0->h'.IsTupleIter (s.heap.objs.size+1) t2 0->(∀c o,s.heap.get? c=some o->h'.get? c=some o)->Q (.ref (s.heap.objs.size+4)) { s with heap:=h' }):
  wpAny (model prog w) A (call (.type "zip") [.ref t1,.ref t2]) Q E s:=by
 refine callType_new F.called_zip (by decide) (F.typeCall_zip_2 _ _) (F.newCall_zip_2 _ _) (fun obj=>F.args_object_init_3 obj _ _) F.entry_zip_new (GA t1 t2 xs ys) ⟨g1,g2,?_⟩;have n1:(s.heap.push (zT t1)).objs.size=s.heap.objs.size+1:=i_ ..;have n2:((s.heap.push (zT t1)).push (zT t2)).objs.size=s.heap.objs.size+2:=by rw[i_,n1]
 have n3:(WK s.heap t1 t2).objs.size=s.heap.objs.size+3:=by rw[i_,n2]
 have n4:(WL s.heap t1 t2).objs.size=s.heap.objs.size+4:=by rw[i_,n3]
 have e5:(Rk s.heap t1 t2).get? (WL s.heap t1 t2).objs.size=some _:=cY _ rfl;have e4:(Rk s.heap t1 t2).get? (WK s.heap t1 t2).objs.size=some _:=bU _ (cY _ rfl);have e3:(Rk s.heap t1 t2).get? ((s.heap.push (zT t1)).push (zT t2)).objs.size=some _:=bU _ (bU _ (cY _ rfl));have e2:(Rk s.heap t1 t2).get? (s.heap.push (zT t1)).objs.size=some _:=bU _ (bU _ (bU _ (cY _ rfl)));have e1:(Rk s.heap t1 t2).get? s.heap.objs.size=some _:=bU _ (bU _ (bU _ (bU _ (cY _ rfl))));change _/\_;rw[n2,n3,n4] at e5;rw[n1,n2] at e3;rw[n3] at e4;rw[n1] at e2;rw[n4];exact⟨⟨_,e5,rfl⟩,q _ e5 e3 e4 ⟨_,e1,rfl,rfl⟩ ⟨_,e2,rfl,rfl⟩ fun c o y=>
  bU _ (bU _ (bU _ (bU _ (bU _ y))))⟩
end
theorem aM.Kh{X:Cx}{ae:List (Addr×Obj)}{σ:St}{H:Hp}{s:Shared}{h':Heap}{t':Nat}{ch:List Addr}(I:aM X ae σ H s)(fe:∀e∈ch,ge X ae H e)(k:∀b o,b∉ch->s.heap.get? b=some o->h'.get? b=some o):aM X ae σ H { s with heap:=h',toks:=t' }:=by
 have Mi:∀b u,H b=some u->b∉ch:=fun b u e z=>by rw[(fe b z).1] at e;cases e
 refine I.step (g':=s.gens) (d':=s.drawn) (ch:=ch) (fun b hb=>?_) (fun b o _ _ hc e _=>k b o hc e) (fun b o _ _ hc e _=>⟨o.slots,k b o hc e⟩) (fun _ _ _ _ n=>n) (fun b o hc e=>⟨o,k b o hc e⟩) (fun _ _ e=>e) (fun _ _ _ e=>e) (fun b ps e=>⟨#[],by rw[e];simp⟩) (fun m hm=>?_) (fun b u e=>?_) I.bare
 .obtain⟨_,f1,_,f3,f4,f5⟩:=fe b hb;exact⟨f3,f1,f4,f5⟩
 .obtain⟨o,es,ep,ho,r⟩:=hm;exact⟨o,es,ep,k _ o (fun z=>(fe _ z).2.1 rfl) ho,r⟩
 .refine(I.bE b u e).mT (fun c v hc q=>k c v ?_ q) (fun _ q=>q) fun _ _ q=>q;rcases hc with z|z
  .rw[z];exact Mi b u e
  .exact Mi c _ z
theorem aM.Ki{X:Cx}{ae:List (Addr×Obj)}{σ:St}{H:Hp}{s:Shared}{h':Heap}{p:Addr}{t':Nat}{ch:List Addr}{xs:List V}{its:List Value}(I:aM X ae σ H s)(fe:∀e∈ch,ge X ae H e)(k:∀b o,b∉ch->s.heap.get? b=some o->h'.get? b=some o)(hp:s.heap.objs.size<=p)(hl:xs.length<=sizeLine)(r:aZ xs its)(ht:h'.get? p=some { cls:=.type "tuple",data:=.seq its.toArray }):aM X ae σ (upd H p (.tup xs)) { s with heap:=h',toks:=t' }:=by
 have hn:=I.bE.fresh hp;have ne:∀b o,s.heap.get? b=some o->b≠p:=fun b o q=>bb (cz (a9 q) hp);have Mi:∀b u,H b=some u->b∉ch:=fun b u e z=>by rw[(fe b z).1] at e;cases e
 refine I.step (g':=s.gens) (d':=s.drawn) (ch:=ch) (fun b hb=>?_) (fun b o _ _ hb q _=>k b o hb q) (fun b o _ _ hb q _=>⟨o.slots,k b o hb q⟩) (fun b o hb q n=>by rw[ao (ne b o q)];exact n) (fun b o hb q=>⟨o,k b o hb q⟩)
  (fun b ys q=>by rw[ao (am q hn)];exact q) (fun b o u q=>by rw[ao (am q hn)];exact q) (fun b ps q=>⟨#[],by rw[ao (am q hn),q];simp⟩) (fun m hm=>?_) (fun b o q=>?_) I.bare
 .obtain⟨_,f1,_,f3,f4,f5⟩:=fe b hb;exact⟨f3,f1,f4,f5⟩
 .obtain⟨o,es,ep,q,d,r'⟩:=hm;exact⟨o,es,ep,k _ _ (fun z=>(fe _ z).2.1 rfl) q,d,r'⟩
 .by_cases hb:b=p
  .subst hb;rw[af] at q;cases q;exact⟨hl,its,r,_,ht,rfl,_,rfl,rfl⟩
  .rw[ao hb] at q;refine(I.bE b o q).mT (fun c u hc z=>k c u ?_ z) (fun c z=>by rw[ao (am z hn)];exact z) fun c ys z=>by rw[ao (am z hn)];exact z
   rcases hc with rfl|hc
   .exact Mi _ _ q
   .exact Mi _ _ hc
def YE(K:PySem.W.Frag)(a b:Addr):It:=
 ⟨fun i H=>∃xs ys x y,bJ K H a xs/\bJ K H b ys/\xs[i]?=some x/\ys[i]?=some y,fun i H v H'=>∃p x y,v=.ref p/\H p=none/\H'=upd H p (.tup [x,y])/\(∀xs,bJ K H a xs->xs[i]?=some x)/\∀ys,bJ K H b ys->ys[i]?=some y,fun i H=>∃xs,bJ K H a xs/\xs.length<=i⟩
theorem GB{P:Program}{w:World}{K:PySem.W.Frag}{es:List Expr}{x1:Nat}{pos:Pos}(a b z ti tq i1 i2:Addr)(dj:ZipApart z ti tq i1 i2 a b):
  vG P w K (.Tuple es x1 pos) (YE K a b) [z,ti,tq,i1,i2] z (fun i h=>IsZip h z ti tq .none/\IsPair h ti (.ref i1) (.ref i2)/\(∃u v,IsPair h tq u v)/\h.IsTupleIter i1 a i/\h.IsTupleIter i2 b i) where
 mem:=by simp
 obj:=fun i h st c hc=>by
  obtain⟨gz,gi,⟨u,v,gq⟩,⟨o1,q1,c1,d1⟩,⟨o2,q2,c2,d2⟩⟩:=st;simp only[a_,ka,kr] at hc;rcases hc with rfl|rfl|rfl|rfl|rfl
  .exact⟨_,gz,fun v z=>by have z':Data.fields _=Data.cell v:=z;cases z'⟩
  .exact⟨_,gi,fun v z=>by have z':Data.seq _ _=Data.cell v:=z;cases z'⟩
  .exact⟨_,gq,fun v z=>by have z':Data.seq _ _=Data.cell v:=z;cases z'⟩
  .exact⟨o1,q1,fun v z=>by rw[d1] at z;cases z⟩
  .exact⟨o2,q2,fun v z=>by rw[d2] at z;cases z⟩
 keep:=fun i h h' st k=>by
  obtain⟨gz,gi,⟨u,v,gq⟩,r1,r2⟩:=st;exact⟨k z (by simp) _ gz,k ti (by simp) _ gi,⟨u,v,k tq (by simp) _ gq⟩,r1.at fun o q=>k i1 (by simp) o q,r2.at fun o q=>k i2 (by simp) o q⟩
 item:=by
  intro X hP hw hK hc i ae s σ H E I hf st hg;subst hP hw hK;obtain⟨xs,ys,x,y,hx,hy,ex,ey⟩:=hg;obtain⟨us,rx,px,_⟩:=I.tuple hx;obtain⟨vs,ry,py,_⟩:=I.tuple hy;obtain⟨u,hu,ru⟩:=rx.get ex;obtain⟨v,hv,rv⟩:=ry.get ey;obtain⟨gz,gi,⟨u0,v0,gq⟩,r1,r2⟩:=st;refine AR dj gz gi gq r1 r2 (show s.heap.IsTuple a us.toArray from px) (show s.heap.IsTuple b vs.toArray from py) (x:=u) (y:=v) (by simpa using hu) (by simpa using hv) fun h1 Ke gq1 r11 r21 gp1 kp=>?_;refine⟨_,rfl,wpAny_letOwnedTupleGo_zip Ke fun h2 WJ sW=>?_⟩;have zl:z<s.heap.objs.size:=a9 gz;have nz:s.heap.objs.size≠z:=iP zl;have kp2:∀c o,c∉[z,tq,i1,i2]->s.heap.get? c=some o->h2.get? c=some o:=fun c o hc e=>by
   simp only[a_,ka,kr,not_or] at hc;exact cU sW hc.1 (kp c o hc.1 hc.2.1 hc.2.2.1 hc.2.2.2 e)
  have gi2:IsPair h2 ti (.ref i1) (.ref i2):=kp2 _ _ (by simp only[a_,ka,kr,not_or];exact⟨dj.TIz,dj.TITO,dj.TIi1,dj.TIi2⟩) gi;have fe:∀e∈[z,tq,i1,i2],ge X ae H e:=fun e he=>hf e (by simp only[a_,ka,kr] at he |-;rcases he with h|h|h|h <;> simp[h]);have I2:aM X ae σ (upd H s.heap.objs.size (.tup [x,y])) { s with heap:=h2,toks:=s.toks }:=
   I.Ki (its:=[u,v]) fe kp2 (aI _) (by show 2<=sizeLine;decide) (.cons ru (.cons rv .nil)) (cU sW nz gp1)
  refine⟨.ref s.heap.objs.size,_,I2,rfl,⟨_,x,y,rfl,I.bE.fresh (aI _),rfl,fun zs hz=>by rw[I.gp hz hx];exact ex,fun zs hz=>by rw[I.gp hz hy];exact ey⟩,⟨WJ,gi2,⟨u,v,cU sW dj.TOz gq1⟩,f8 r11 sW dj.i1z,f8 r21 sW dj.i2z⟩,fun c hc=>?_⟩;have f0:=(hf c hc).1;have cl:c<s.heap.objs.size:=by
   simp only[a_,ka,kr] at hc;rcases hc with rfl|rfl|rfl|rfl|rfl
   .exact zl
   .exact a9 gi
   .exact a9 gq
   .obtain⟨o,q,_⟩:=r1;exact a9 q
   .obtain⟨o,q,_⟩:=r2;exact a9 q
  rw[ao (bb cl)];exact f0
 done:=by
  intro X hP hw hK hc i ae s σ H E I hf st hg;subst hP hw hK;obtain⟨xs,hx,hi⟩:=hg;obtain⟨us,rx,px,_⟩:=I.tuple hx;obtain⟨gz,gi,⟨u0,v0,gq⟩,r1,r2⟩:=st;have hl:=rx.length;refine AS (I.ok.hd hc) dj gz gi r1 (show s.heap.IsTuple a us.toArray from px) (by simp;lia) fun h' kp=>⟨rfl,?_⟩
  have fe:∀e∈[z,i1],ge X ae H e:=fun e he=>hf e (by simp only[a_,ka,kr] at he |-;rcases he with h|h <;> simp[h]);refine I.Kh (t':=s.toks) fe fun c o hc e=>?_;simp only[a_,ka,kr,not_or] at hc;exact kp c o hc.1 hc.2 e
 self:=fun _ _ _ _ _ st h=>wpAny_pyIter_zip st.1 h
section
variable {X:Cx}
def TF(K:PySem.W.Frag)(ta:TA):TI:=fun σ H R=>ta σ H fun vs H1=>∃a b xs ys,vs=[.ref a,.ref b]/\bJ K H1 a xs/\bJ K H1 b ys/\xs.length=ys.length/\R (YE K a b) H1
theorem v8{es:List Expr}{x1:Nat}{FI:Pos}{a b:Expr}{ta:TA}{p pos:Pos}(hg:Gl X "zip")(hm:X.mg "zip"=none)(ha:PA X [a,b] ta)(hs:starEach [a,b] X.env=[(false,eval a X.env),(false,eval b X.env)]:=by rfl)(mh:starEach [b] X.env=[(false,eval b X.env)]:=by rfl):
  PI X (.Tuple es x1 FI) (.Call (.Name "zip" p) [a,b] [] pos) (TF X.K ta):=by
 intro ae s σ H R I h;refine Call_ (jv I hg hm PyProof.Rows.boot_zip (tS (cJ (ha pos ae s σ H _ I h) fun us s1 ⟨vs,H1,I1,r1,q1⟩=>?_) (by rw[hs,mh]) (by rw[mh];rfl)));obtain⟨l,m,xs,ys,rfl,hl,hm',I0,q⟩:=q1;obtain⟨u1,u2,rfl,Tq,ru2⟩:=r1.two;obtain rfl:u1=Value.ref l:=Tq;obtain rfl:u2=Value.ref m:=ru2;obtain⟨its,rv,pt,_⟩:=I1.tuple hl;obtain⟨JF,rv2,Q7,_⟩:=I1.tuple hm';have dN:l<s1.heap.objs.size:=by obtain⟨o,e,_⟩:=pt;exact a9 e
 have Os:m<s1.heap.objs.size:=by obtain⟨o,e,_⟩:=Q7;exact a9 e
 refine Eg (show s1.heap.IsTuple l its.toArray from pt) (show s1.heap.IsTuple m JF.toArray from Q7) fun h' gz gi gq r1 r2 k=>?_;refine wpAny_pyIter_zip gz ?_;have I2:aM X ae σ H1 { s1 with heap:=h' }:=I1.kept (t':=s1.toks) k;refine⟨s1.heap.objs.size+4,[s1.heap.objs.size+4,s1.heap.objs.size+2,s1.heap.objs.size+3,s1.heap.objs.size,s1.heap.objs.size+1],_,_,H1,rfl,I2,GB l m _ _ _ _ _ (zipApart_new dN Os),⟨gz,gi,⟨_,_,gq⟩,r1,r2⟩,fun b hb=>?_,q⟩;have mP:s1.heap.objs.size<=b:=by
  simp only[a_,ka,kr] at hb;rcases hb with rfl|rfl|rfl|rfl|rfl
  .exact ve _ _
  .exact ve _ _
  .exact ve _ _
  .exact aI _
  .exact ve _ _
 exact I1.vF mP (I1.bE.fresh mP)
theorem sf{K:PySem.W.Frag}{a b D:Addr}{xs ys:List V}{g:TG}{tt:TT}{te:TE}{dS:Hp->Prop}{σB:St}{H0:Hp}(I0:xs.length=ys.length)(Pv:Nat->List V->St->Hp->Prop)(h0:Pv 0 [] σB H0)(hl:∀i zs σ H,i<=xs.length->Pv i zs σ H->bJ K H a xs/\bJ K H b ys)(hs:∀i x y p zs σ H (Kt:V->St->Hp->Prop) (Kf:St->Hp->Prop),xs[i]?=some x->ys[i]?=some y->Pv i zs σ H->H p=none->
   (∀v σ2 H4,H4 D=some (.lst zs)->zs.length<sizeLine->Pv (i+1) (zs++[v]) σ2 (upd H4 D (.lst (zs++[v])))->Kt v σ2 H4)->(∀σ2 H3,Pv (i+1) zs σ2 H3->Kf σ2 H3)->
   g (.ref p) σ (upd H p (.tup [x,y])) fun σ2 H2=>tt σ2 H2 fun b H3=>if b=true then te σ2 H3 fun v H4=>Kt v σ2 H4 else Kf σ2 H3)(hd:∀zs σ H,Pv xs.length zs σ H->dS H):hV (YE K a b) g tt te D dS σB H0:=by
 refine⟨fun i m σ H=>m=xs.length-i/\i<=xs.length/\∃zs,Pv i zs σ H,⟨xs.length,by simp,bV _,[],h0⟩,?_⟩;rintro i m σ H ⟨rfl,hi,zs,p⟩;obtain⟨q1,q2⟩:=hl i zs σ H hi p;by_cases dN:i<xs.length
 .have Os:i<ys.length:=by lia
  refine .inr ⟨⟨xs,ys,xs[i],ys[i],q1,q2,by simp[dN],by simp[Os]⟩,?_⟩;rintro v H' ⟨pp,x,y,rfl,hn,rfl,S9,hv2⟩;exact hs i x y pp zs σ _ (fun v σ2 H4=>∃zs,H4 D=some (.lst zs)/\zs.length<sizeLine/\∃m',m'<xs.length-i/\m'=xs.length-(i+1)/\i+1<=xs.length/\∃ye,Pv (i+1) ye σ2 (upd H4 D (.lst (zs++[v]))))
   (fun σ2 H3=>∃m',m'<xs.length-i/\m'=xs.length-(i+1)/\i+1<=xs.length/\∃ye,Pv (i+1) ye σ2 H3) (S9 xs q1) (hv2 ys q2) p hn
   (fun v σ2 H4 z1 z2 z3=>⟨zs,z1,z2,_,by lia,rfl,dN,_,z3⟩) (fun σ2 H3 z=>⟨_,by lia,rfl,dN,_,z⟩)
 .have e:i=xs.length:=by lia
  subst e;exact .inl ⟨⟨xs,q1,aI _⟩,hd zs σ H p⟩
theorem AT(rx:aZ xs us)(ry:aZ ys vs)(fx:xs.all eZ=true)(fy:ys.all eZ=true):
  ∀j (h1:j<us.toArray.size) (h2:j<vs.toArray.size),SeqAt.EqAt A s us.toArray[j] vs.toArray[j] (nq (xs.getD j .cf) (ys.getD j .cf)):=by
 intro j h1 h2;have j1:j<xs.length:=by rw[rx.length];simpa using h1
 have j2:j<ys.length:=by rw[ry.length];simpa using h2
 have e1:xs[j]?=some (xs.getD j .cf):=by rw[bZ,b8 j1];rfl
 have e2:ys[j]?=some (ys.getD j .cf):=by rw[bZ,b8 j2];rfl
 obtain⟨u,Ya,ru⟩:=rx.get e1;obtain⟨v,S9,rv⟩:=ry.get e2;have eu:us.toArray[j]=u:=by
  have:us[j]?=some us.toArray[j]:=by simp at h1 |-
  rw[Ya] at this;exact(bh this).symm
 have ev:vs.toArray[j]=v:=by
  have:vs[j]?=some vs.toArray[j]:=by simp at h2 |-
  rw[S9] at this;exact(bh this).symm
 rw[eu,ev];exact FP ru rv (jp.mp fx _ (dk e1)) (jp.mp fy _ (dk e2))
theorem GC(I:aM X ae σ H s)(hu:A.units+1<cLine)(ha:bJ X.K H a xs)(hb:bJ X.K H b ys)(hl:xs.length=ys.length)(fx:xs.all eZ=true)(fy:ys.all eZ=true):
  SeqAt.EqAt A s (.ref a) (.ref b) (iH nq xs ys):=by
 by_cases tI:a=b
 .subst tI;have e1:=I.gp ha hb;subst e1;have e2:iH nq xs xs=true:=by
   clear ha hb hl fy;induction xs with
   |nil=>rfl
   |cons x xs ih=>
    rw[oT,fL] at fx;rw[iH,ih fx.2,Bool.and_true];cases x <;> first|rfl|(show (_==_)=true;simp)|exact absurd (show false=true from fx.1) cP
  rw[e2];exact SeqAt.EqAt.same _
 .obtain⟨us,r1,p1,_⟩:=I.tuple ha;obtain⟨vs,r2,p2,_⟩:=I.tuple hb;have h:=SeqAt.RcAt.tuples (A:=A) (s:=s) (l:=a) (b:=b) (e:=fun i=>nq (xs.getD i .cf) (ys.getD i .cf)) (show s.heap.IsTuple a us.toArray from p1) (show s.heap.IsTuple b vs.toArray from p2) (by lia)
   (AT r1 r2 fx fy)
  refine SeqAt.EqAt.of_refs tI ?_;have er:((List.range (min us.toArray.size vs.toArray.size)).all (fun i=>nq (xs.getD i .cf) (ys.getD i .cf))&&us.toArray.size==vs.toArray.size)=iH nq xs ys:=by
   rw[cB,cB,<-r1.length,<-r2.length,<-hl,rj,beq_self_eq_true,Bool.and_true,kL hl]
  rw[er] at h;exact h
theorem AU{p q:Int×Int}:iH nq [.int p.1,.int p.2] [.int q.1,.int q.2]=decide (p=q):=by
 obtain⟨a,b⟩:=p;obtain⟨c,d⟩:=q;show ((a==c)&&((b==d)&&true))=decide ((a,b)=(c,d));by_cases h1:a=c <;> by_cases h2:b=d <;> simp[h1,h2]
def Kj(K:PySem.W.Frag)(Mr:Bool):R2:=fun x y H Q=>∃ (p l:Addr) (u:Int×Int) (as:List Addr) (ps:List (Int×Int)),x=.ref p/\y=.ref l/\bJ K H p [.int u.1,.int u.2]/\a8 K H l (as.map V.ref)/\as.length=ps.length/\(∀i,i<ps.length->bJ K H (as.getD i 0) [.int (ps.getD i (0,0)).1,.int (ps.getD i (0,0)).2])/\
 Q (.bl (if Mr then !decide (u∈ps) else decide (u∈ps))) H
open Classical in
theorem v9(I:aM X ae σ H s):∀ {as:List Addr} {ps:List (Int×Int)},as.length=ps.length->(∀i,i<ps.length->bJ X.K H (as.getD i 0) [.int (ps.getD i (0,0)).1,.int (ps.getD i (0,0)).2])->
  ((as.map Value.ref).any fun v=>decide (∃a,v=Value.ref a/\bJ X.K H a [.int u.1,.int u.2]))=decide (u∈ps)
 |[],[],_,_=>by simp
 |a::as,p::ps,hl,h=>by
  have ih:=v9 I (u:=u) (as:=as) (ps:=ps) (by simpa using hl) (fun i hi=>h (i+1) (by simpa using hi));have h0:bJ X.K H a [.int p.1,.int p.2]:=h 0 (by simp);rw[eG,iM,ih];have e:decide (∃b,Value.ref a=Value.ref b/\bJ X.K H b [.int u.1,.int u.2])=decide (u=p):=by
   rw[jS,u8,u8];constructor
   .rintro⟨b,e,hb⟩;cases e;have:=I.gp h0 hb;have e1:p.1=u.1:=V.int.inj (jq this).1;have e2:p.2=u.2:=V.int.inj (jq (jq this).2).1;exact iR e1.symm e2.symm
   .rintro rfl;exact⟨a,rfl,h0⟩
  rw[e];by_cases z:u=p
  .simp[z]
  .simp[z]
open Classical in
theorem yf{ae:List (Addr×Obj)}{σ:St}{H:Hp}{s:Shared}{A:Around}(I:aM X ae σ H s)(hu:A.units+1<cLine){p:Addr}{u:Int×Int}(hp:bJ X.K H p [.int u.1,.int u.2]){as:List Addr}{ps:List (Int×Int)}(hl:as.length=ps.length)(h:∀i,i<ps.length->bJ X.K H (as.getD i 0) [.int (ps.getD i (0,0)).1,.int (ps.getD i (0,0)).2]):∀v∈as.map Value.ref,SeqAt.EqAt A s v (.ref p) (decide (∃a,v=Value.ref a/\bJ X.K H a [.int u.1,.int u.2])):=by
 intro v hv;obtain⟨a,ha,rfl⟩:=bj.mp hv;obtain⟨i,hi,e⟩:=lH.mp ha;have hq:=h i (by lia);have ea:as.getD i 0=a:=by rw[bZ,b8 hi];exact e
 rw[ea] at hq;have z:=GC (A:=A) I hu hq hp rfl rfl rfl;rw[AU] at z;have e:decide (∃b,Value.ref a=Value.ref b/\bJ X.K H b [.int u.1,.int u.2])=decide (ps.getD i (0,0)=u):=by
  rw[jS,u8,u8];constructor
  .rintro⟨b,e,hb⟩;cases e;have:=I.gp hq hb;exact iR (V.int.inj (jq this).1) (V.int.inj (jq (jq this).2).1)
  .intro e;rw[<-e];exact⟨a,rfl,hq⟩
 rw[e];exact z
open Classical in
theorem Ot(hu:X.A.units+2<cLine):m9 X (compareOp .In) (Kj X.K false):=by
 intro ae s σ H x y v u Q I rx ry h;obtain⟨p,l,w,as,ps,rfl,rfl,hp,hl,dO,TH,q⟩:=h;obtain rfl:v=Value.ref p:=rx;obtain rfl:u=Value.ref l:=ry;obtain⟨its,r,pl,_⟩:=I.list hl;have e:=nM r;subst e;refine SeqAt.in_listAt (fun v=>decide (∃a,v=Value.ref a/\bJ X.K H a [.int w.1,.int w.2])) pl.isList (fun y hy=>yf I (by show X.A.units+1+1<cLine;lia) hp dO TH y (by simpa using hy)) ⟨.bl _,H,I,rfl,?_⟩;rw[show (as.map Value.ref).toArray.any (fun v=>decide (∃a,v=Value.ref a/\bJ X.K H a [.int w.1,.int w.2]))=(as.map Value.ref).any (fun v=>decide (∃a,v=Value.ref a/\bJ X.K H a [.int w.1,.int w.2])) by simp,v9 I dO TH];exact q
open Classical in
theorem uA(hu:X.A.units+2<cLine):m9 X (compareOp .NotIn) (Kj X.K true):=by
 intro ae s σ H x y v u Q I rx ry h;obtain⟨p,l,w,as,ps,rfl,rfl,hp,hl,dO,TH,q⟩:=h;obtain rfl:v=Value.ref p:=rx;obtain rfl:u=Value.ref l:=ry;obtain⟨its,r,pl,_⟩:=I.list hl;have e:=nM r;subst e;refine SeqAt.notIn_listAt (fun v=>decide (∃a,v=Value.ref a/\bJ X.K H a [.int w.1,.int w.2])) pl.isList (fun y hy=>yf I (by show X.A.units+1+1<cLine;lia) hp dO TH y (by simpa using hy)) ⟨.bl _,H,I,rfl,?_⟩;rw[show (as.map Value.ref).toArray.any (fun v=>decide (∃a,v=Value.ref a/\bJ X.K H a [.int w.1,.int w.2]))=(as.map Value.ref).any (fun v=>decide (∃a,v=Value.ref a/\bJ X.K H a [.int w.1,.int w.2])) by simp,v9 I dO TH];exact q
end
end L2
namespace gg
abbrev Ts:=List (Int×Int)
def T(ts:Ts)(a b:Nat):Prop:=(((a:Nat):Int),((b:Nat):Int))∈ts
instance (ts:Ts) (a b:Nat):Decidable (T ts a b):=inferInstanceAs (Decidable (_∈_))
def dC(ts:Ts):Nat->Nat->Nat->Prop
 |0,a,b=>a=b
 |k+1,a,b=>∃c,dC ts k a c/\T ts c b
theorem dC.trans(h:dC ts k a b):∀ {l:Nat} {c:Nat},dC ts l b c->dC ts (k+l) a c
 |0,_,e=>by cases e;exact h
 |l+1,_,⟨d,w,t⟩=>⟨d,h.trans w,t⟩
theorem dC.one(h:T ts a b):dC ts 1 a b:=⟨a,rfl,h⟩
theorem dC.cons(h:T ts a b)(w:dC ts k b c):dC ts (k+1) a c:=by
 have:=(dC.one h).trans w;rwa [Nat.add_comm] at this
def jf(ts:Ts)(a b d:Nat):Prop:=dC ts d a b/\∀k,dC ts k a b->d<=k
theorem jf.uniq(h:jf ts a b d)(g:jf ts a b e):d=e:=Nat.le_antisymm (h.2 _ g.1) (g.2 _ h.1)
theorem Ou{ts:Ts}{a b:Nat}:∀k,dC ts k a b->∃d,jf ts a b d:=by
 intro k;induction k using Nat.strongRecOn with
 |ind k ih=>
  intro w;by_cases h:∃j,j<k/\dC ts j a b
  .obtain⟨j,hj,wj⟩:=h;exact ih j hj wj
  .exact⟨k,w,fun j wj=>qQ fun z=>h ⟨j,by lia,wj⟩⟩
open Classical in
noncomputable def far(ts:Ts)(a b:Nat):Nat:=if h:∃d,jf ts a b d then h.choose else 0
theorem GD(h:jf ts a b d):far ts a b=d:=by
 unfold far;have hx:∃d,jf ts a b d:=⟨d,h⟩
 rw[dif_pos hx];exact hx.choose_spec.uniq h
theorem Ov{ts:Ts}{a b k:Nat}(w:dC ts k a b):jf ts a b (far ts a b):=by
 obtain⟨d,h⟩:=Ou k w;rw[GD h];exact h
structure bR(n:Nat)(ts:Ts):Prop where
 n1:2<=n
 n2:n<=32
 nd:ts.Nodup
 rg:∀t∈ts,(0<=t.1/\t.1<n)/\(0<=t.2/\t.2<n)
 ne:∀t∈ts,t.1≠t.2
 Jc:∀h:Int,(ts.filter fun t=>decide (t.1=h)).length=(ts.filter fun t=>decide (t.2=h)).length
 most:∀h:Int,(ts.filter fun t=>decide (t.1=h)).length<=8
 con:∀a b,a<n->b<n->∃k,dC ts k a b
theorem Eh(f:α->Int):∀ (l:List α) (n:Nat),(∀x∈l,0<=f x/\f x<n)->(∀h:Int,(l.filter fun t=>decide (f t=h)).length<=8)->l.length<=8*n:=by
 intro l n;induction n generalizing l with
 |zero=>
  intro h _;cases l with
  |nil=>simp
  |cons x xs=>have:=h x bL;lia
 |succ n ih=>
  intro h h8;have e:l.length=(l.filter fun t=>decide (f t=(n:Int))).length+(l.filter fun t=>!decide (f t=(n:Int))).length:=by
   induction l with
   |nil=>rfl
   |cons x xs WM=>
    have:=WM (fun y hy=>h y (cm _ hy)) (fun hh=>aX (by rw[eF];split <;> simp) (h8 hh));by_cases q:f x=(n:Int) <;> simp[eF,q] <;> lia
  have i2:=ih (l.filter fun t=>!decide (f t=(n:Int))) (fun x hx=>by
   have a:=h x (cC.mp hx |>.1);have b:=(cC.mp hx).2;simp at b;lia) (fun hh=>by
   refine aX ?_ (h8 hh);exact(zx.filter _).length_le)
  have:=h8 (n:Int);lia
theorem bR.len(F:bR n ts):ts.length<=256:=by
 have:=Eh (·.1) ts n (fun t ht=>(F.rg t ht).1) F.most;have:=F.n2;lia
theorem bR.TJ(F:bR n ts)(h:T ts a b):a<n/\b<n/\a≠b:=by
 have q:=F.rg _ h;have q2:=F.ne _ h;refine⟨by have:=q.1;simp at this;lia,by have:=q.2;simp at this;lia,fun e=>q2 (by rw[e])⟩
theorem bR.AV{n:Nat}{ts:Ts}(F:bR n ts){a b:Nat}(ha:a<n)(hb:b<n):jf ts a b (far ts a b):=
 let ⟨_,w⟩:=F.con a b ha hb;Ov w
def bg(n:Nat)(ts:Ts)(h:Nat):List Nat:=((List.range n).map fun s=>(h+s) % n).filter fun o=>decide (T ts h o)
theorem fj(F:bR n ts)(hh:h<n):o∈bg n ts h↔T ts h o:=by
 unfold bg;rw[cC,vb];refine⟨fun z=>z.2,fun z=>⟨?_,z⟩⟩;obtain⟨_,h2,_⟩:=F.TJ z;refine bj.mpr ⟨if h<=o then o-h else o+n-h,bv.mpr (by split <;> lia),?_⟩;split
 .rw[show h+(o-h)=o by lia,jn h2]
 .rw[show h+(o+n-h)=o+n by lia,Nat.add_mod_right,jn h2]
theorem qA(F:bR n ts)(hh:h<n)(ho:o∈bg n ts h):o<n:=(F.TJ ((fj F hh).mp ho)).2.1
def key(n h o:Nat):Int:=((o:Int)-(h:Int)) % (n:Int)
theorem mr(hh:h<n)(hs:s<n):key n h ((h+s) % n)=(s:Int):=by
 unfold key;by_cases c:h+s<n
 .rw[jn c,show (((h+s:Nat):Int)-(h:Int))=(s:Int) by lia];exact Int.emod_eq_of_lt (by lia) (by lia)
 .have e:(h+s) % n=h+s-n:=by
   rw[Nat.mod_eq_sub_mod (by lia),jn (by lia)]
  rw[e,show ((((h+s-n:Nat)):Int)-(h:Int))=(s:Int)-(n:Int) by lia,Int.sub_emod_right];exact Int.emod_eq_of_lt (by lia) (by lia)
theorem pW(hh:h<n):(bg n ts h).Pairwise fun a b=>key n h a<key n h b:=by
 unfold bg;refine u6 _ ?_;refine i7.mpr ?_;refine Fk ?_ (List.pairwise_lt_range (n:=n));intro a b ha hb tI;rw[mr hh (bv.mp ha),mr hh (bv.mp hb)];lia
theorem pX{α:Type}{k:α->Int}:∀ {a b:List α},a.Pairwise (fun x y=>k x<k y)->b.Pairwise (fun x y=>k x<k y)->(∀x,x∈a↔x∈b)->a=b
 |[],[],_,_,_=>rfl
 |[],y::ys,_,_,h=>absurd ((h y).mpr bL) (by simp)
 |x::xs,[],_,_,h=>absurd ((h x).mp bL) (by simp)
 |x::xs,y::ys,ha,hb,h=>by
  obtain⟨a1,a2⟩:=qY.mp ha;obtain⟨b1,b2⟩:=qY.mp hb;have e:x=y:=by
   rcases a_.mp ((h x).mp bL) with z|z
   .exact z
   .rcases a_.mp ((h y).mpr bL) with z'|z'
    .exact z'.symm
    .have q1:=b1 x z;have q2:=a1 y z';lia
  subst e;refine congrArg (x::·) (pX a2 b2 fun z=>⟨fun hz=>?_,fun hz=>?_⟩)
  .rcases a_.mp ((h z).mp (cm _ hz)) with q|q
   .subst q;exact absurd (a1 _ hz) (by lia)
   .exact q
  .rcases a_.mp ((h z).mpr (cm _ hz)) with q|q
   .subst q;exact absurd (b1 _ hz) (by lia)
   .exact q
structure yU(n:Nat)(ts:Ts)(s i:Nat)(R:List Nat)(f:Nat->Nat):Prop where
 nd:R.Nodup
 lt:∀x∈R,x<n
 st:s∈R
 z:f s=0
 wk:∀x∈R,dC ts (f x) s x
 up:R.Pairwise fun a b=>f a<=f b
 bd:∀u,R[i]?=some u->∀x∈R,f x<=f u+1
 cl:∀j u,j<i->R[j]?=some u->∀v,T ts u v->v∈R/\f v<=f u+1
theorem yU.start(hs:s<n):yU n ts s 0 [s] (fun _=>0):=
 ⟨by simp,fun x hx=>by simp at hx;lia,by simp,rfl,fun x hx=>by simp at hx;subst hx;rfl,by simp,fun u _ x _=>by lia,fun j u h=>absurd h (by lia)⟩
def put(f:Nat->Nat)(v k:Nat):Nat->Nat:=fun y=>if y=v then k else f y
theorem jg:put f v k v=k:=by simp[put]
theorem gv(h:x≠v):put f v k x=f x:=by simp[put,h]
theorem yU.add(B:yU n ts s i R f)(hu:R[i]?=some u)(hv:v<n)(t:T ts u v)(hn:v∉R):yU n ts s i (R++[v]) (put f v (f u+1)):=by
 have hur:u∈R:=dk hu;have nv:∀x∈R,x≠v:=fun x hx e=>hn (e ▸ hx);have hi:i<R.length:=(cu.mp hu).1;refine⟨?_,fun x hx=>?_,fw _ B.st,by rw[gv (nv s B.st)];exact B.z,fun x hx=>?_,?_,fun w hw x hx=>?_,fun j w hj hw x hx=>?_⟩
 .rw[jP];exact⟨B.nd,by simp,fun a ha b hb e=>by simp at hb;subst hb;exact hn (e ▸ ha)⟩
 .rcases cK.mp hx with z|z
  .exact B.lt x z
  .simp at z;lia
 .rcases cK.mp hx with z|z
  .rw[gv (nv x z)];exact B.wk x z
  .simp at z;subst z;rw[jg];exact⟨u,B.wk u hur,t⟩
 .rw[List.pairwise_append];refine⟨B.up.imp_of_mem fun {a b} ha hb h=>by rw[gv (nv a ha),gv (nv b hb)];exact h,by simp,fun a ha b hb=>?_⟩;simp at hb;subst hb;rw[gv (nv a ha),jg];exact B.bd u hu a ha
 .have hw':w=u:=by
   rw[jM hi,hu] at hw;exact(bh hw).symm
  subst hw';rw[gv (nv w hur)];rcases cK.mp hx with z|z
  .rw[gv (nv x z)];exact B.bd w hu x z
  .simp at z;subst z;rw[jg];exact aI _
 .rw[jM (by lia)] at hw;obtain⟨a,b⟩:=B.cl j w hj hw x hx;refine⟨fw _ a,?_⟩;rw[gv (nv x a),gv (nv w (dk hw))];exact b
theorem yU.next(B:yU n ts s i R f)(hu:R[i]?=some u)(h:∀v,T ts u v->v∈R/\f v<=f u+1):yU n ts s (i+1) R f:=by
 refine⟨B.nd,B.lt,B.st,B.z,B.wk,B.up,fun w hw x hx=>?_,fun j w hj hw v hv=>?_⟩
 .have h1:=B.bd u hu x hx;have h2:f u<=f w:=by
   have hi:i<R.length:=(cu.mp hu).1;have sZ:i+1<R.length:=(cu.mp hw).1;have:=uR.mp B.up i (i+1) hi sZ (by lia);rw[b8 hi] at hu;rw[b8 sZ] at hw;rw[bh hu,bh hw] at this;exact this
  lia
 .by_cases e:j=i
  .subst e;rw[hu] at hw;cases hw;exact h v hv
  .exact B.cl j w (by lia) hw v hv
theorem dA:∀ {n:Nat} {R:List Nat},R.Nodup->(∀x∈R,x<n)->R.length<=n:=by
 intro n R hn hl;have key:∀ (a b:List Nat),a.Nodup->(∀x∈a,x∈b)->a.length<=b.length:=by
  intro a;induction a with
  |nil=>intro b _ _;exact bV _
  |cons x xs ih=>
   intro b hn hs;obtain⟨h1,h2⟩:=eX.mp hn;have hx:x∈b:=hs x bL;have:=ih (b.erase x) h2 fun y hy=>(zk (fun (e:y=x)=>h1 (e ▸ hy))).mpr (hs y (cm _ hy));rw[y6 hx] at this;have:0<b.length:=uX hx;rw[d9];lia
 have:=key R (List.range n) hn fun x hx=>bv.mpr (hl x hx);rwa [dQ] at this
theorem yU.done(B:yU n ts s i R f)(F:bR n ts)(hi:R.length<=i)(hx:x<n):x∈R/\f x=far ts s x:=by
 have cl:∀u∈R,∀v,T ts u v->v∈R/\f v<=f u+1:=fun u hu v hv=>by
  obtain⟨j,hj,e⟩:=lH.mp hu;exact B.cl j u (by lia) (by rw[b8 hj,e]) v hv
 have walk:∀k x,dC ts k s x->x∈R/\f x<=k:=by
  intro k;induction k with
  |zero=>intro x e;cases e;exact⟨B.st,by rw[B.z];exact aI _⟩
  |succ k ih=>
   rintro x ⟨c,w,t⟩;obtain⟨c1,c2⟩:=ih c w;obtain⟨d1,d2⟩:=cl c c1 x t;exact⟨d1,by lia⟩
 obtain⟨k,w⟩:=F.con s x (B.lt s B.st) hx;obtain⟨m,_⟩:=walk k x w;exact⟨m,(GD ⟨B.wk x m,fun k w=>(walk k x w).2⟩).symm⟩
theorem dC.mono(h:∀t∈ts,t∈YF):∀ {k a b:Nat},dC ts k a b->dC YF k a b
 |0,_,_,e=>e
 |_+1,_,_,⟨c,w,t⟩=>⟨c,w.mono h,h _ t⟩
structure Cr(n:Nat)(ts:Ts):Prop where
 nd:ts.Nodup
 rg:∀t∈ts,(0<=t.1/\t.1<n)/\(0<=t.2/\t.2<n)
 ne:∀t∈ts,t.1≠t.2
 Jc:∀h:Int,(ts.filter fun t=>decide (t.1=h)).length=(ts.filter fun t=>decide (t.2=h)).length
 most:∀h:Int,(ts.filter fun t=>decide (t.1=h)).length<=8
theorem bR.pre(F:bR n ts):Cr n ts:=⟨F.nd,F.rg,F.ne,F.Jc,F.most⟩
theorem Cr.gw(P:Cr n ts)(n1:2<=n)(n2:n<=32)(c:∀a b,a<n->b<n->∃k,dC ts k a b):bR n ts:=⟨n1,n2,P.nd,P.rg,P.ne,P.Jc,P.most,c⟩
theorem bR.perm(F:bR n ts)(p:YF.Perm ts):bR n YF:=
  ⟨F.n1,F.n2,p.nodup_iff.mpr F.nd,fun t ht=>F.rg t (p.mem_iff.mp ht),fun t ht=>F.ne t (p.mem_iff.mp ht),fun h=>by rw[(p.filter _).length_eq,(p.filter _).length_eq];exact F.Jc h,
   fun h=>by rw[(p.filter _).length_eq];exact F.most h,fun a b ha hb=>let ⟨k,w⟩:=F.con a b ha hb;⟨k,w.mono fun t ht=>p.mem_iff.mpr ht⟩⟩
theorem bR.app(F:bR n ts)(P:Cr n (ts++us)):bR n (ts++us):=
 P.gw F.n1 F.n2 fun a b ha hb=>let ⟨k,w⟩:=F.con a b ha hb;⟨k,w.mono fun t ht=>fw _ ht⟩
def pk(c k:Nat):Nat:=if k=0 then c-1 else k-1
abbrev ci(x:Nat):Int:=(x:Int)
def v_(xs:List Nat):Ts:=(List.range xs.length).map fun k=>(ci (xs.getD (pk xs.length k) 0),ci (xs.getD k 0))
theorem cV{xs:List Nat}{k:Nat}(h:k<xs.length):xs.getD k 0=xs[k]:=by rw[bZ,b8 h];rfl
theorem Cs(xs:List Nat):(v_ xs).map (·.2)=xs.map ci:=by
 unfold v_;rw[dH];apply zR
 .simp
 .intro i h1 h2;simp only[vf,zD,Function.comp];rw[cV (by simpa using h2)]
theorem Ct(xs:List Nat):((v_ xs).map (·.1)).Perm (xs.map ci):=by
 cases hx:xs with
 |nil=>exact ij _
 |cons y ys=>
  rw[<-hx];have hl:xs.length=ys.length+1:=by rw[hx];rfl
  have e:(v_ xs).map (·.1)=ci (xs.getD (xs.length-1) 0)::(xs.take (xs.length-1)).map ci:=by
   unfold v_;rw[dH];apply zR
   .simp;lia
   .intro i h1 h2;simp only[vf,zD,Function.comp];cases i with
    |zero=>rfl
    |succ i=>
     have hi:i+1<xs.length:=by simpa using h1
     simp only[List.getElem_cons_succ,vf,List.getElem_take];unfold pk;rw[aq (by lia),show i+1-1=i by lia,cV (by lia)]
  rw[e];have:xs.map ci=(xs.take (xs.length-1)).map ci++[ci (xs.getD (xs.length-1) 0)]:=by
   conv=>lhs;rw[<-lU (xs.length-1) xs]
   rw[cR];congr 1;rw[oy (by lia),List.drop_eq_nil_of_le (by lia),cV (by lia)];rfl
  rw[this];exact(List.perm_append_singleton _ _).symm
theorem jh(ts:Ts)(h:Int):(ts.filter fun t=>decide (t.1=h)).length=(ts.map (·.1)).count h:=by
 induction ts with
 |nil=>rfl
 |cons t ts ih=>by_cases e:t.1=h <;> simp[eF,vo,e,ih]
theorem pE(ts:Ts)(h:Int):(ts.filter fun t=>decide (t.2=h)).length=(ts.map (·.2)).count h:=by
 induction ts with
 |nil=>rfl
 |cons t ts ih=>by_cases e:t.2=h <;> simp[eF,vo,e,ih]
theorem yg{xs:List Nat}(h:xs.Nodup):(xs.map ci).Nodup:=by
 refine i7.mpr (h.imp fun {a b} tI e=>tI ?_);exact fN e
theorem nN:∀ {l:List α},(l.map f).Nodup->l.Nodup
 |[],_=>oR
 |a::l,h=>by
  rw[eG] at h;obtain⟨h1,h2⟩:=eX.mp h;exact eX.mpr ⟨fun z=>h1 (bj.mpr ⟨a,z,rfl⟩),nN h2⟩
theorem wa(h:t∈v_ xs):∃k,k<xs.length/\t=(ci (xs.getD (pk xs.length k) 0),ci (xs.getD k 0)):=by
 obtain⟨k,hk,rfl⟩:=bj.mp h;exact⟨k,bv.mp hk,rfl⟩
theorem Cu(h:k<c):pk c k<c:=by unfold pk;split <;> lia
theorem pF{xs:List Nat}{k:Nat}(h:k<xs.length):xs.getD k 0∈xs:=by rw[cV h];exact fh h
theorem uB{xs:List Nat}(nd:xs.Nodup){i j:Nat}(hi:i<xs.length)(hj:j<xs.length)(e:xs[i]=xs[j]):i=j:=by
 have pw:=uR.mp nd;rcases Nat.lt_trichotomy i j with z|z|z
 .exact absurd e (pw i j hi hj z)
 .exact z
 .exact absurd e.symm (pw j i hj hi z)
theorem wb{n:Nat}{xs:List Nat}(nd:xs.Nodup)(lt:∀x∈xs,x<n)(c2:2<=xs.length):Cr n (v_ xs)/\∀h:Int,((v_ xs).filter fun t=>decide (t.1=h)).length<=1:=by
 have YG:((v_ xs).map (·.2)).Nodup:=by rw[Cs];exact yg nd
 have one:∀h:Int,((v_ xs).filter fun t=>decide (t.1=h)).length<=1:=fun h=>by
  rw[jh,(Ct xs).count_eq];exact List.nodup_iff_count.mp (yg nd) h
 refine⟨⟨nN YG,fun t ht=>?_,fun t ht=>?_,fun h=>?_,fun h=>aX (one h) (by decide)⟩,one⟩
 .obtain⟨k,hk,rfl⟩:=wa ht;have h1:=lt _ (pF (Cu hk));have h2:=lt _ (pF hk);simp only[ci];lia
 .obtain⟨k,hk,rfl⟩:=wa ht;intro e;have e':xs.getD (pk xs.length k) 0=xs.getD k 0:=fN e;rw[cV (Cu hk),cV hk] at e';have:=uB nd (Cu hk) hk e';unfold pk at this;split at this <;> lia
 .rw[jh,pE,(Ct xs).count_eq,Cs]
theorem wd(P:Cr n ts)(Q:Cr n us)(hd:∀t∈us,t∉ts)(hm:∀h:Int,(ts.filter fun t=>decide (t.1=h)).length+(us.filter fun t=>decide (t.1=h)).length<=8):Cr n (ts++us):=by
 refine⟨jP.mpr ⟨P.nd,Q.nd,fun a ha b hb e=>hd b hb (e ▸ ha)⟩,fun t ht=>?_,fun t ht=>?_,fun h=>?_,fun h=>?_⟩
 .rcases cK.mp ht with z|z
  .exact P.rg t z
  .exact Q.rg t z
 .rcases cK.mp ht with z|z
  .exact P.ne t z
  .exact Q.ne t z
 .rw[gN,gN,dE,dE,P.Jc,Q.Jc]
 .rw[gN,dE];exact hm h
theorem Ei(P:Cr n ts)(nd:xs.Nodup)(lt:∀x∈xs,x<n)(c2:2<=xs.length)(hf:∀t∈v_ xs,(ts.filter fun u=>decide (u.1=t.1)).length<=7)(hn:∀t∈v_ xs,t∉ts):Cr n (ts++v_ xs):=by
 obtain⟨Q,one⟩:=wb nd lt c2;refine wd P Q hn fun h=>?_;by_cases z:(v_ xs).filter (fun t=>decide (t.1=h))=[]
 .rw[z];simpa using P.most h
 .obtain⟨t,ht⟩:=List.exists_mem_of_ne_nil _ z;obtain⟨h1,h2⟩:=cC.mp ht;have e:t.1=h:=by simpa using h2
  have a:=hf t h1;rw[e] at a;have:=one h;lia
theorem MR(hk:k<xs.length):T (v_ xs) (xs.getD (pk xs.length k) 0) (xs.getD k 0):=bj.mpr ⟨k,bv.mpr hk,rfl⟩
theorem AW(i:Nat):∀ (d:Nat),i+d<xs.length->dC (v_ xs) d (xs.getD i 0) (xs.getD (i+d) 0)
 |0,_=>rfl
 |d+1,h=>by
  refine⟨_,AW i d (by lia),?_⟩;have:=MR (xs:=xs) (k:=i+(d+1)) h;unfold pk at this;rw[aq (by lia)] at this;exact this
theorem Ej{n:Nat}{xs:List Nat}(n1:2<=n)(n2:n<=32)(pm:xs.Perm (List.range n)):bR n (v_ xs):=by
 have hl:xs.length=n:=by rw[pm.length_eq,dQ]
 have nd:xs.Nodup:=pm.nodup_iff.mpr jo;have lt:∀x∈xs,x<n:=fun x hx=>bv.mp (pm.mem_iff.mp hx);refine(wb nd lt (by lia)).1.gw n1 n2 fun a b ha hb=>?_;obtain⟨i,hi,ei⟩:=lH.mp (pm.mem_iff.mpr (bv.mpr ha));obtain⟨j,hj,ej⟩:=lH.mp (pm.mem_iff.mpr (bv.mpr hb));have w1:=AW (xs:=xs) i (xs.length-1-i) (by lia);have t0:=MR (xs:=xs) (k:=0) (by lia);have w3:=AW (xs:=xs) 0 j (by lia);rw[show i+(xs.length-1-i)=xs.length-1 by lia] at w1;rw[show pk xs.length 0=xs.length-1 from rfl] at t0;rw[jr] at w3;have w:=w1.trans (dC.cons t0 w3);rw[cV hi,cV hj,ei,ej] at w;exact⟨_,w⟩
theorem sg:∀ (hs:List Nat) (ts:Ts),hs.Nodup->(∀h∈hs,8<=(ts.filter fun t=>decide (t.1=ci h)).length)->8*hs.length<=ts.length
 |[],_,_,_=>by simp
 |h::hs,ts,nd,hf=>by
  obtain⟨h1,h2⟩:=eX.mp nd;have e:ts.length=(ts.filter fun t=>decide (t.1=ci h)).length+(ts.filter fun t=>!decide (t.1=ci h)).length:=by
   clear hf;induction ts with
   |nil=>rfl
   |cons x xs WM=>by_cases q:x.1=ci h <;> simp[eF,q] <;> lia
  have a:=hf h bL;have ih:=sg hs (ts.filter fun t=>!decide (t.1=ci h)) h2 fun x hx=>by
   refine aX (hf x (cm _ hx)) (km ?_);rw[List.filter_filter];congr 1;refine List.filter_congr fun t _=>?_;by_cases q:t.1=ci x
   .have:¬ t.1=ci h:=fun z=>h1 (by have:=fN (z.symm.trans q);exact this ▸ hx);simp[q];rw[q] at this;exact this
   .simp[q]
  rw[d9];lia
structure si(n:Nat)(os:List Nat)(k:Nat)(ts:Ts):Prop where
 pre:Cr n ts
 ends:∀t∈ts,∃a b,a∈os.take k/\b∈os.take k/\t=(ci a,ci b)
 con:∀a b,a∈os.take k->b∈os.take k->∃j,dC ts j a b
 len:ts.length+2=2*k
theorem si.start(h:0<os.length):si n os 1 []:=by
 refine⟨⟨oR,(fun t h=>nomatch h),(fun t h=>nomatch h),fun h=>rfl,fun h=>by simp⟩,(fun t h=>nomatch h),fun a b ha hb=>?_,rfl⟩;cases os with
 |nil=>simp at h
 |cons o os=>
  simp at ha hb;exact⟨0,by rw[ha,hb];rfl⟩
theorem si.free{n:Nat}{os:List Nat}{k:Nat}{ts:Ts}(T:si n os k ts)(nd:os.Nodup)(hk:k<=os.length):∃h∈os.take k,(ts.filter fun t=>decide (t.1=ci h)).length<8:=by
 apply qQ;intro JR;have:=sg (os.take k) ts (nd.sublist (oG _ _)) fun h hh=>qQ fun z=>JR ⟨h,hh,by lia⟩;have hl:=T.len;rw[oJ,Nat.min_eq_left hk] at this;lia
theorem si.add(Tr:si n os k ts)(nd:os.Nodup)(lt:∀x∈os,x<n)(hv:os[k]?=some v)(hs:s∈os.take k)(hd:(ts.filter fun t=>decide (t.1=ci s)).length<8):si n os (k+1) (ts++[(ci s,ci v),(ci v,ci s)]):=by
 have tk:os.take (k+1)=os.take k++[v]:=by rw[gO,hv];rfl
 have nd1:(os.take k++[v]).Nodup:=by rw[<-tk];exact nd.sublist (oG _ _)
 have vn:v∉os.take k:=fun z=>(jP.mp nd1).2.2 v z v (by simp) rfl;have sv:s≠v:=fun e=>vn (e ▸ hs);have vm:v∈os:=dk hv;have sl:=lt s (lW hs);have vl:=lt v vm;have YH:∀t∈ts,t.1≠ci v/\t.2≠ci v:=fun t ht=>by
  obtain⟨a,b,ha,hb,rfl⟩:=Tr.ends t ht;exact⟨fun e=>vn (fN e ▸ ha),fun e=>vn (fN e ▸ hb)⟩
 have Q:Cr n [(ci s,ci v),(ci v,ci s)]:=by
  have TK:ci s≠ci v:=fun e=>sv (fN e);refine⟨?_,fun t ht=>?_,fun t ht=>?_,fun h=>?_,fun h=>aX (g8 _ _) (by simp)⟩
  .simp[TK]
  .simp at ht;rcases ht with rfl|rfl <;> (simp only[ci];lia)
  .simp at ht;rcases ht with rfl|rfl
   .exact TK
   .exact TK.symm
  .by_cases a:ci s=h <;> by_cases b:ci v=h <;> simp[eF,a,b]
 have P2:Cr n (ts++[(ci s,ci v),(ci v,ci s)]):=by
  refine wd Tr.pre Q (fun t ht z=>?_) fun h=>?_
  .simp at ht;rcases ht with rfl|rfl
   .exact(YH _ z).2 rfl
   .exact(YH _ z).1 rfl
  .have TK:ci s≠ci v:=fun e=>sv (fN e);by_cases a:ci s=h
   .subst a;have b:¬ ci v=ci s:=TK.symm;simp only[eF,decide_true,js,fA b];simp;lia
   .by_cases b:ci v=h
    .subst b;have z:ts.filter (fun t=>decide (t.1=ci v))=[]:=uY.mpr fun t ht=>by simpa using (YH t ht).1
     rw[z];exact aX (Nat.add_le_add_left (g8 _ _) _) (by simp)
    .have:=Tr.pre.most h;simp[eF,a,b];exact this
 have up:∀t∈ts,t∈ts++[(ci s,ci v),(ci v,ci s)]:=fun t ht=>fw _ ht;have t1:T (ts++[(ci s,ci v),(ci v,ci s)]) s v:=dD _ (by simp);have t2:T (ts++[(ci s,ci v),(ci v,ci s)]) v s:=dD _ (by simp);have toS:∀a,a∈os.take k++[v]->∃j,dC (ts++[(ci s,ci v),(ci v,ci s)]) j a s:=fun a ha=>by
  rcases cK.mp ha with z|z
  .obtain⟨j,w⟩:=Tr.con a s z hs;exact⟨j,w.mono up⟩
  .simp at z;subst z;exact⟨1,dC.one t2⟩
 have ofS:∀b,b∈os.take k++[v]->∃j,dC (ts++[(ci s,ci v),(ci v,ci s)]) j s b:=fun b hb=>by
  rcases cK.mp hb with z|z
  .obtain⟨j,w⟩:=Tr.con s b hs z;exact⟨j,w.mono up⟩
  .simp at z;subst z;exact⟨1,dC.one t1⟩
 refine⟨P2,fun t ht=>?_,fun a b ha hb=>?_,?_⟩
 .rw[tk];rcases cK.mp ht with z|z
  .obtain⟨a,b,ha,hb,e⟩:=Tr.ends t z;exact⟨a,b,fw _ ha,fw _ hb,e⟩
  .simp at z;rcases z with rfl|rfl
   .exact⟨s,v,fw _ hs,by simp,rfl⟩
   .exact⟨v,s,by simp,fw _ hs,rfl⟩
 .rw[tk] at ha hb;obtain⟨i,w1⟩:=toS a ha;obtain⟨j,w2⟩:=ofS b hb;exact⟨i+j,w1.trans w2⟩
 .have:=Tr.len;rw[dE];simp;lia
theorem si.gw(Tr:si n os n ts)(n1:2<=n)(n2:n<=32)(pm:os.Perm (List.range n)):bR n ts:=by
 have hl:os.length=n:=by rw[pm.length_eq,dQ]
 refine Tr.pre.gw n1 n2 fun a b ha hb=>Tr.con a b ?_ ?_
 .rw[qT (by lia)];exact pm.mem_iff.mpr (bv.mpr ha)
 .rw[qT (by lia)];exact pm.mem_iff.mpr (bv.mpr hb)
theorem bR.Ow{n:Nat}{ts:Ts}(F:bR n ts){a b k:Nat}(ha:a<n)(hb:b<n)(w:dC ts k a b):far ts a b<=k:=(F.AV ha hb).2 k w
theorem jH(hh:h<n):(bg n ts h).Nodup:=(pW hh).imp fun {a b} tI e=>by subst e;lia
end gg
namespace L2
open PySem PySem.Spec PyProof.Rows
section
variable {X:Cx}
theorem sj:∀ {ns:List Int} {its:List Value},aZ (ns.map V.int) its->∃xs:List (Int×Tok),its=xs.map (fun p=>Value.int p.1 p.2)/\xs.map (·.1)=ns
 |[],_,r=>by cases r;exact⟨[],rfl,rfl⟩
 |n::ns,_,r=>by
  cases r with
  |cons r rr=>
   obtain⟨t,rfl⟩:=(show ∃t,_=Value.int n t from r)
   obtain⟨xs,rfl,e⟩:=sj rr;exact⟨(n,t)::xs,rfl,by rw[eG,e]⟩
def MT(K:PySem.W.Frag):List V->Hp->VK->Prop:=fun xs H Q=>∃ (l:Addr) (ns:List Int),xs=[.ref l]/\a8 K H l (ns.map V.int)/\ns≠[]/\∀M,M∈ns->(∀a∈ns,a<=M)->Q (.int M) H
theorem pG(hc:X.calm=true):fU X (.builtin "max") (MT X.K):=by
 intro ae s σ H xs us Q I r h;obtain⟨l,ns,rfl,hl,jb,q⟩:=h;obtain⟨u1,rfl,r1⟩:=r.one;obtain rfl:u1=Value.ref l:=r1;obtain⟨its,rv,pl,_⟩:=I.list hl;obtain⟨ps,rfl,rfl⟩:=sj rv;have hi:intItems ps.toArray=(ps.map (fun p=>Value.int p.1 p.2)).toArray:=by unfold intItems;simp
 have hsz:0<ps.toArray.size:=by
  cases ps with
  |nil=>exact absurd rfl jb
  |cons p ps=>simp
 refine max_intList (I.ok.hd hc) (xs:=ps.toArray) (by rw[hi];exact pl.isList) hsz fun v h' tk hv hk=>?_;obtain⟨t,rfl⟩:=intItems_at hv;obtain⟨h1,h2⟩:=argBest_gt (numAt ps.toArray) (ps.toArray.size-1);have num:∀j,j<ps.length->numAt ps.toArray j∈ps.map (·.1)/\numAt ps.toArray j=(ps.map (·.1)).getD j 0:=fun j hj=>by
  have e:numAt ps.toArray j=ps[j].1:=by unfold numAt;simp[b8 hj]
  refine⟨by rw[e];exact bj.mpr ⟨_,fh hj,rfl⟩,?_⟩;rw[e,bZ,bu,b8 hj];rfl
 have hb:argBest (fun i j=>decide (numAt ps.toArray i > numAt ps.toArray j)) (ps.toArray.size-1)<ps.length:=by
  have:ps.toArray.size=ps.length:=by simp
  lia
 refine⟨.int _,H,I.kept (t':=tk) hk,⟨t,rfl⟩,q _ (num _ hb).1 fun a ha=>?_⟩;obtain⟨j,hj,e⟩:=lH.mp ha;rw[aO] at hj;have:=h2 j (by (have:ps.toArray.size=ps.length:=by simp);lia);rw[(num j hj).2,bZ,b8 (by rw[aO];exact hj)] at this;rw[<-e];exact this
end
end L2
namespace gg
abbrev we(u:Int×Int):Int×Int:=(u.2,u.1)
def fu(ps:Ts):Ts:=ps.flatMap fun u=>[u,we u]
theorem mB:fu (ps++qs)=fu ps++fu qs:=List.flatMap_append
theorem ji:∀ {ps:Ts},(fu ps).Perm (ps++ps.map we)
 |[]=>ij _
 |u::ps=>by
  have ih:=ji (ps:=ps);show (u::we u::fu ps).Perm (u::(ps++we u::ps.map we));refine List.Perm.cons _ ?_;exact(ih.cons _).trans List.perm_middle.symm
theorem qB:∀ {ps:Ts},(fu ps).length=2*ps.length
 |[]=>rfl
 |u::ps=>by
  have ih:=qB (ps:=ps);show (fu ps).length+2=2*(ps.length+1);lia
theorem Cv(h:u∈fu ps):we u∈fu ps:=by
 obtain⟨v,hv,hu⟩:=zQ.mp h;refine zQ.mpr ⟨v,hv,?_⟩;rcases a_.mp hu with e|e
 .rw[e];exact cm _ (cA.mpr rfl)
 .rw[cA.mp e];exact bL
theorem lm:u∈fu ps↔u∈ps\/we u∈ps:=by
 rw[(ji (ps:=ps)).mem_iff,cK];refine or_congr Iff.rfl ⟨fun h=>?_,fun h=>bj.mpr ⟨_,h,rfl⟩⟩;obtain⟨v,hv,rfl⟩:=bj.mp h;exact hv
theorem Cw:((fu ps).map we).Perm (fu ps):=by
 refine((ji (ps:=ps)).map we).trans (List.Perm.trans ?_ (ji (ps:=ps)).symm);rw[cR,dH];have e:ps.map (we ∘ we)=ps:=(jO fun u _=>rfl).trans (oY ps);rw[e];exact jN
def Ek(x:Nat):List Nat->Bool
 |[]=>false
 |y::ys=>Nat.beq x y||Ek x ys
theorem sk:∀ {ys:List Nat},Ek x ys=true↔x∈ys
 |[]=>by simp[Ek]
 |y::ys=>by
  unfold Ek;rw[oP,sk (ys:=ys),a_];exact or_congr ⟨fun h=>u3 h,fun h=>by rw[h];exact vy y⟩ Iff.rfl
def WN:List Nat->Bool
 |[]=>true
 |x::xs=>!Ek x xs&&WN xs
theorem GE:∀ {xs:List Nat},WN xs=true->xs.Nodup
 |[],_=>oR
 |x::xs,h=>by
  unfold WN at h;rw[fL] at h;refine eX.mpr ⟨fun z=>?_,GE h.2⟩;rw[sk.mpr z] at h;exact absurd h.1 (by decide)
def Kk:List Nat->Bool
 |x::y::r=>Nat.ble x y&&Kk (y::r)
 |_=>true
theorem GJ:∀ {xs:List Nat},Kk xs=true->xs.Pairwise (·<=·)
 |[],_=>List.Pairwise.nil
 |[x],_=>List.pairwise_singleton _ _
 |x::y::r,h=>by
  unfold Kk at h;rw[fL] at h;have ih:=GJ h.2;refine qY.mpr ⟨fun z hz=>?_,ih⟩;have h1:=qW h.1;rcases a_.mp hz with e|e
  .rw[e];exact h1
  .exact aX h1 ((qY.mp ih).1 z e)
abbrev ic(q:Nat×Nat):Int×Int:=((q.1:Int),(q.2:Int))
def TL(qs:List (Nat×Nat)):List Nat:=qs.flatMap fun q=>[64*q.1+q.2,64*q.2+q.1]
def Kl(c:Nat):Int×Int:=(((c / 64:Nat):Int),((c % 64:Nat):Int))
theorem AX(h:b<64):Kl (64*a+b)=((a:Int),(b:Int)):=by
 unfold Kl;rw[show (64*a+b) / 64=a by lia,show (64*a+b) % 64=b by lia]
theorem qC:∀ {qs:List (Nat×Nat)},(∀q∈qs,q.1<64/\q.2<64)->(TL qs).map Kl=fu (qs.map ic)
 |[],_=>rfl
 |q::qs,h=>by
  have ih:=qC (qs:=qs) fun x hx=>h x (cm _ hx);obtain⟨h1,h2⟩:=h q bL;show Kl (64*q.1+q.2)::Kl (64*q.2+q.1)::(TL qs).map Kl=ic q::we (ic q)::fu (qs.map ic);rw[ih,AX h2,AX h1]
def b1(b:Bool):Nat:=cond b 1 0
def lB(h:Nat):List (Nat×Nat)->Nat
 |[]=>0
 |q::qs=>b1 (Nat.beq q.1 h)+(b1 (Nat.beq q.2 h)+lB h qs)
theorem wf{h:Nat}:∀ {qs:List (Nat×Nat)},((fu (qs.map ic)).filter fun t=>decide (t.1=(h:Int))).length=lB h qs
 |[]=>rfl
 |q::qs=>by
  have ih:=wf (h:=h) (qs:=qs);have e:∀a:Nat,(if decide ((a:Int)=(h:Int))=true then 1 else 0)=b1 (Nat.beq a h):=fun a=>by
   by_cases c:a=h
   .subst c;rw[ak (by simp),vy];rfl
   .rw[aq (by simp;lia),show Nat.beq a h=false from zK.mpr fun z=>c (u3 z)];rfl
  show ((ic q::we (ic q)::fu (qs.map ic)).filter _).length=b1 (Nat.beq q.1 h)+(b1 (Nat.beq q.2 h)+lB h qs);rw[<-ih,<-e q.1,<-e q.2,eF,eF];split <;> split <;> simp <;> lia
def Cy(n:Nat)(qs:List (Nat×Nat)):Bool:=Nat.ble 2 n&&(Nat.ble n 32&&(WN (TL qs)&&(qs.all (fun q=>Nat.blt q.1 n&&(Nat.blt q.2 n&&!Nat.beq q.1 q.2))&&((List.range n).all (fun h=>Nat.ble (lB h qs) 8) &&
 (List.range n).all (fun v=>Nat.beq v 0||(List.range v).reverse.any (fun u=>Ek (64*u+v) (TL qs)))))))
theorem kU(h:Nat.blt a b=true):a<b:=qW h
theorem yh(h:Cy n qs=true):bR n (fu (qs.map ic))/\∀q∈qs,q.1<64/\q.2<64:=by
 unfold Cy at h;simp only[fL,jp,bv,oP,q_,List.mem_reverse] at h;obtain⟨h1,h2,h3,h4,h5,h6⟩:=h;have h1:=qW h1;have h2:=qW h2;have TM:∀q∈qs,q.1<64/\q.2<64:=fun q hq=>⟨by have:=kU (h4 q hq).1;lia,by have:=kU (h4 q hq).2.1;lia⟩
 have mem:∀t∈fu (qs.map ic),∃q∈qs,t=ic q\/t=we (ic q):=fun t ht=>by
  rcases lm.mp ht with z|z
  .obtain⟨q,hq,e⟩:=bj.mp z;exact⟨q,hq,.inl e.symm⟩
  .obtain⟨q,hq,e⟩:=bj.mp z;exact⟨q,hq,.inr (by rw[e])⟩
 have rg:∀t∈fu (qs.map ic),((0<=t.1/\t.1<n)/\(0<=t.2/\t.2<n))/\t.1≠t.2:=fun t ht=>by
  obtain⟨q,hq,e⟩:=mem t ht;have a:=kU (h4 q hq).1;have b:=kU (h4 q hq).2.1;have c:q.1≠q.2:=fun z=>by have:=(h4 q hq).2.2;rw[z,vy] at this;exact absurd this (by decide)
  rcases e with rfl|rfl
  .exact⟨⟨⟨by show (0:Int)<=(q.1:Int);lia,by show (q.1:Int)<n;lia⟩,by show (0:Int)<=(q.2:Int);lia,by show (q.2:Int)<n;lia⟩,by show ((q.1:Nat):Int)≠(q.2:Nat);lia⟩
  .exact⟨⟨⟨by show (0:Int)<=(q.2:Int);lia,by show (q.2:Int)<n;lia⟩,by show (0:Int)<=(q.1:Int);lia,by show (q.1:Int)<n;lia⟩,by show ((q.2:Nat):Int)≠(q.1:Nat);lia⟩
 have Jc:∀h:Int,((fu (qs.map ic)).filter fun t=>decide (t.1=h)).length=((fu (qs.map ic)).filter fun t=>decide (t.2=h)).length:=fun h=>by
  rw[<-(Cw (ps:=qs.map ic)).filter (fun t=>decide (t.1=h)) |>.length_eq,zW,aO];rfl
 have nd:(fu (qs.map ic)).Nodup:=by
  rw[<-qC TM];refine List.Pairwise.map _ (fun a b tI e=>tI ?_) (qO.mp (GE h3));have e1:a / 64=b / 64:=fN (congrArg Prod.fst e);have e2:a % 64=b % 64:=fN (congrArg Prod.snd e);lia
 refine⟨⟨h1,h2,nd,fun t ht=>(rg t ht).1,fun t ht=>(rg t ht).2,Jc,fun h=>?_,fun a b ha hb=>?_⟩,TM⟩
 .by_cases c:0<=h/\h<n
  .have:=qW (h5 h.toNat (by lia));rw[<-wf,zA c.1] at this;exact this
  .have e:(fu (qs.map ic)).filter (fun t=>decide (t.1=h))=[]:=uY.mpr fun t ht e=>c ((show t.1=h from cQ e) ▸ (rg t ht).1.1);rw[e];exact bV _
 .have At:∀v,v<n->(∃k,dC (fu (qs.map ic)) k 0 v)/\∃k,dC (fu (qs.map ic)) k v 0:=by
   intro v;induction v using Nat.strongRecOn with
   |ind v ih=>
    intro hv;rcases h6 v hv with e|⟨u,hu,t1⟩
    .have e:=u3 e;subst e;exact⟨⟨0,rfl⟩,0,rfl⟩
    .obtain⟨⟨k,w⟩,l,w'⟩:=ih u hu (by lia);have t:T (fu (qs.map ic)) u v:=by
      have:=bj.mpr ⟨_,sk.mp t1,AX (a:=u) (b:=v) (by lia)⟩;rw[qC TM] at this;exact this
     have t':T (fu (qs.map ic)) v u:=Cv t;exact⟨⟨k+1,u,w,t⟩,l+1,dC.cons t' w'⟩
  obtain⟨_,k,w⟩:=At a ha;obtain⟨⟨l,w'⟩,_⟩:=At b hb;exact⟨_,w.trans w'⟩
def Cz(n:Nat):List (Nat×Nat):=(List.range n).map fun h=>(h,(h+1) % n)
def sn(f b:Nat):List (Nat×Nat):=(List.range f).flatMap fun at_=>(List.range (b ^ f)).flatMap fun h=>(List.range (b-h / b ^ at_ % b-1)).map fun k=>(h,h+(k+1)*b ^ at_)
def TN(f b h:Nat):List Nat:=(List.range f).map fun k=>h / b ^ k % b
def pH(f b o p:Nat):Nat:=((List.range f).filter fun k=>!Nat.beq ((TN f b o).getD k 0) ((TN f b p).getD k 0)).length
def AY(f b:Nat):List Nat:=(List.range (b ^ f)).flatMap fun o=>((List.range (b ^ f)).filter fun p=>Nat.beq (pH f b o p) 1).map fun p=>64*o+p
def AZ(f b:Nat):Ts:=(AY f b).map Kl
def CA(f b:Nat):Bool:=Cy (b ^ f) (sn f b)&&((TL (sn f b)).isPerm (AY f b)&&Kk (AY f b))
theorem El:(List.range 33).all (fun n=>Nat.blt n 3||Cy n (Cz n))=true:=by decide +kernel
theorem A0:(List.range 6).all (fun f=>(List.range 6).all fun b=>Nat.blt f 1||(Nat.blt b 2||(Nat.blt 32 (b ^ f)||CA f b)))=true:=by decide +kernel
theorem A1{n:Nat}(h1:3<=n)(h2:n<=32):bR n (fu ((Cz n).map ic)):=by
 have:=jp.mp El n (bv.mpr (by lia));rw[oP] at this;rcases this with z|z
 .have:=kU z;lia
 .exact(yh z).1
theorem A2(f1:1<=f)(f2:f<=5)(b1:2<=b)(b2:b<=5)(hm:b ^ f<=32):bR (b ^ f) (fu ((sn f b).map ic))/\(fu ((sn f b).map ic)).Perm (AZ f b)/\(AZ f b).Pairwise (fun u v=>64*u.1+u.2<=64*v.1+v.2):=by
 have:=jp.mp (jp.mp A0 f (bv.mpr (by lia))) b (bv.mpr (by lia));rw[oP,oP,oP] at this;rcases this with z|z|z|z
 .have:=kU z;lia
 .have:=kU z;lia
 .have:=kU z;lia
 .unfold CA at z;rw[fL,fL] at z;obtain⟨h1,h2,h3⟩:=z;obtain⟨F,TM⟩:=yh h1;refine⟨F,?_,?_⟩
  .rw[<-qC TM];exact(List.isPerm_iff.mp h2).map Kl
  .unfold AZ;rw[i7];refine(GJ h3).imp fun {a b} h=>?_;unfold Kl;show 64*((a / 64:Nat):Int)+((a % 64:Nat):Int)<=64*((b / 64:Nat):Int)+((b % 64:Nat):Int);lia
def pr:List Nat->Nat
 |[]=>1
 |n::ns=>n*pr ns
def w6(m st n:Nat):List (Nat×Nat):=((List.range m).filter fun h=>decide (h / st % n+1<n)).map fun h=>(h,h+st)
def bx(m:Nat):Nat->List Nat->List (Nat×Nat)
 |_,[]=>[]
 |st,n::ns=>w6 m st n++bx m (st*n) ns
def mC(ns:List Nat):List (Nat×Nat):=bx (pr ns) 1 ns
def Km:Nat->List Nat->Nat->Nat->Prop
 |_,[],_,_=>False
 |st,n::ns,a,b=>(a / st % n+1<n/\b=a+st)\/Km (st*n) ns a b
theorem CC:q∈w6 m st n↔q.1<m/\q.1 / st % n+1<n/\q.2=q.1+st:=by
 unfold w6;rw[bj];constructor
 .rintro⟨h,hh,rfl⟩;obtain⟨h1,h2⟩:=cC.mp hh;exact⟨bv.mp h1,cQ h2,rfl⟩
 .rintro⟨h1,h2,h3⟩;exact⟨q.1,cC.mpr ⟨bv.mpr h1,cZ h2⟩,iR rfl h3.symm⟩
theorem wg:∀ {ns:List Nat} {st:Nat},q∈bx m st ns↔q.1<m/\Km st ns q.1 q.2
 |[],st=>⟨fun h=>(nomatch h),fun h=>h.2.elim⟩
 |n::ns,st=>by
  unfold bx Km;rw[cK,CC,wg (ns:=ns)];constructor
  .rintro(⟨a,b,c⟩|⟨a,b⟩)
   .exact⟨a,.inl ⟨b,c⟩⟩
   .exact⟨a,.inr b⟩
  .rintro⟨a,⟨b,c⟩|b⟩
   .exact .inl ⟨a,b,c⟩
   .exact .inr ⟨a,b⟩
abbrev U(ns:List Nat):Nat->Nat->Prop:=Km 1 ns
theorem wm:∀ {ns:List Nat} {st a b:Nat},0<st->(∀n∈ns,0<n)->(Km st ns a b↔a % st=b % st/\U ns (a / st) (b / st))
 |[],st,a,b,h,_=>⟨fun z=>z.elim,fun z=>z.2.elim⟩
 |n::ns,st,a,b,h,hn=>by
  have FX:=hn n bL;have vW:∀n∈ns,0<n:=fun x hx=>hn x (cm _ hx);show (_\/Km (st*n) ns a b)↔a % st=b % st/\(_\/Km (1*n) ns (a / st) (b / st))
  rw[Nat.one_mul,wm (rn h FX) vW,wm FX vW,Nat.div_one,zd a st n,zd b st n,Nat.mod_mul,Nat.mod_mul];have e1:=kg a st;have e2:=kg b st;constructor
  .rintro(⟨c,rfl⟩|⟨c,d⟩)
   .refine⟨by rw[Nat.add_mod_right],.inl ⟨c,by rw[Nat.add_div_right _ h]⟩⟩
   .have m1:a % st=b % st:=by
     have:=congrArg (· % st) c;simp only[Nat.add_mul_mod_self_left,Nat.mod_mod] at this;exact this
    refine⟨m1,.inr ⟨?_,d⟩⟩;rw[m1] at c;exact Nat.eq_of_mul_eq_mul_left h (Nat.add_left_cancel c)
  .rintro⟨m1,⟨c,d⟩|⟨c,d⟩⟩
   .refine .inl ⟨c,?_⟩;rw[<-e2,d,<-m1,Nat.mul_add,vB,Nat.add_right_comm,e1]
   .exact .inr ⟨by rw[m1,c],d⟩
theorem A3(h:∀x∈n::ns,0<x):U (n::ns) a b↔(a % n+1<n/\b=a+1)\/(a % n=b % n/\U ns (a / n) (b / n)):=by
 show (_\/Km (1*n) ns a b)↔_;rw[Nat.one_mul,wm (h n bL) fun x hx=>h x (cm _ hx),Nat.div_one]
theorem A4(h:a % n+1<n):(a+1) / n=a / n/\(a+1) % n=a % n+1:=by
 have e:=kg a n;have e2:a+1=n*(a / n)+(a % n+1):=by lia
 have hn:0<n:=by lia
 rw[e2,Nat.mul_add_div hn,Nat.mul_add_mod,Nat.div_eq_of_lt h,jn h];exact⟨rfl,rfl⟩
theorem TQ:∀ {ns:List Nat} {a b:Nat},(∀x∈ns,0<x)->U ns a b->a<pr ns->a<b/\b<pr ns
 |[],a,b,_,h,_=>h.elim
 |n::ns,a,b,hn,h,ha=>by
  have FX:=hn n bL;have vW:∀n∈ns,0<n:=fun x hx=>hn x (cm _ hx);have SF:a<n*pr ns:=ha;have hq:a / n<pr ns:=Nat.div_lt_of_lt_mul SF;show a<b/\b<n*pr ns;rcases(A3 hn).mp h with ⟨c,rfl⟩|⟨c,d⟩
  .refine⟨by lia,?_⟩;have e:=kg a n;have:=oz n hq;rw[Nat.succ_eq_add_one,Nat.mul_add,vB] at this;lia
  .obtain⟨i1,i2⟩:=TQ vW d hq;refine⟨?_,?_⟩
   .have e1:=kg a n;have e2:=kg b n;have:=E8 i1 FX;lia
   .have e2:=kg b n;have hm:=o0 b FX;have:=oz n i2;rw[Nat.succ_eq_add_one,Nat.mul_add,vB] at this;lia
theorem GK:∀ {ns:List Nat} {v:Nat},(∀x∈ns,0<x)->0<v->v<pr ns->∃u,u<v/\U ns u v
 |[],v,_,h1,h2=>by have h2:v<1:=h2;lia
 |n::ns,v,hn,h1,h2=>by
  have FX:=hn n bL;have vW:∀n∈ns,0<n:=fun x hx=>hn x (cm _ hx);have lv:=o0 v FX;have ev:=kg v n;by_cases c:v % n=0
  .have hq:0<v / n:=by
    rcases Nat.eq_zero_or_pos (v / n) with z|z
    .rw[z,c] at ev;simp at ev;lia
    .exact z
   obtain⟨u,hu,uu⟩:=GK (v:=v / n) vW hq (Nat.div_lt_of_lt_mul h2);refine⟨n*u,?_,(A3 hn).mpr (.inr ⟨by rw[Nat.mul_mod_right,c],by rw[Nat.mul_div_cancel_left _ FX];exact uu⟩)⟩;have:=E8 hu FX;lia
  .have hv:v-1=n*(v / n)+(v % n-1):=by lia
   have hm:(v-1) % n=v % n-1:=by rw[hv,Nat.mul_add_mod,jn (by lia)]
   exact⟨v-1,by lia,(A3 hn).mpr (.inl ⟨by lia,by lia⟩)⟩
theorem CD:∀ {ns:List Nat} {st a b:Nat},(∀x∈ns,0<x)->Km st ns a b->a+st<=b
 |[],st,a,b,_,h=>h.elim
 |n::ns,st,a,b,hn,h=>by
  rcases h with ⟨_,rfl⟩|h
  .exact aI _
  .have:=CD (fun x hx=>hn x (cm _ hx)) h;have h1:=y_ st (hn n bL);lia
theorem Em:(w6 m st n).Nodup:=by
 unfold w6;refine qO.mpr (i7.mpr ?_);exact(qO.mp (jo.sublist zx)).imp fun {a b} h e=>h (congrArg Prod.fst e)
theorem yi:∀ {ns:List Nat} {st:Nat},0<st->(∀x∈ns,2<=x)->(bx m st ns).Nodup
 |[],_,_,_=>oR
 |n::ns,st,h,hn=>by
  have Q9:=hn n bL;have vW:∀x∈ns,2<=x:=fun x hx=>hn x (cm _ hx);refine jP.mpr ⟨Em,yi (rn h (by lia)) vW,fun x hx y hy e=>?_⟩;subst e;have h1:=(CC.mp hx).2.2;have h2:=CD (fun x hx=>by have:=vW x hx;lia) (wg.mp hy).2;have h3:=oz st Q9;lia
theorem En(nd:ps.Nodup)(h:∀u∈ps,u.1<u.2):(fu ps).Nodup:=by
 refine(ji (ps:=ps)).nodup_iff.mpr (jP.mpr ⟨nd,?_,fun x hx y hy e=>?_⟩)
 .refine qO.mpr (i7.mpr ((qO.mp nd).imp fun {a b} tI e=>tI ?_));exact iR (congrArg Prod.snd e) (congrArg Prod.fst e)
 .subst e;obtain⟨u,hu,rfl⟩:=bj.mp hy;have h1:=h _ hx;have h2:=h u hu;have h1:u.2<u.1:=h1;lia
theorem Eo{qs:List (Nat×Nat)}(h:qs.Nodup):(qs.map ic).Nodup:=by
 refine qO.mpr (i7.mpr ((qO.mp h).imp fun {a b} tI e=>tI ?_));exact iR (fN (congrArg Prod.fst e)) (fN (congrArg Prod.snd e))
theorem pY:∀ {a b:List (Nat×Nat)},lB h (a++b)=lB h a+lB h b
 |[],b=>by show lB h b=0+_;lia
 |q::a,b=>by
  have:=pY (h:=h) (a:=a) (b:=b);show b1 _+(b1 _+lB h (a++b))=b1 _+(b1 _+lB h a)+lB h b;lia
theorem MU:b1 (Nat.beq a b)=if a=b then 1 else 0:=by
 by_cases c:a=b
 .subst c;rw[ak rfl,vy];rfl
 .rw[aq c,show Nat.beq a b=false from zK.mpr fun z=>c (u3 z)];rfl
theorem CF:∀ {L:List Nat},L.Nodup->lB h (L.map fun x=>(x,x+st))<=(if h∈L then 1 else 0)+(if st<=h/\h-st∈L then 1 else 0)
 |[],_=>bV _
 |x::L,nd=>by
  obtain⟨n1,n2⟩:=eX.mp nd;have ih:=CF (h:=h) (st:=st) n2;show b1 (Nat.beq x h)+(b1 (Nat.beq (x+st) h)+lB h (L.map fun x=>(x,x+st)))<=_;rw[MU,MU];have e1:(if h∈x::L then 1 else 0)=(if x=h then 1 else 0)+(if h∈L then 1 else 0):=by
   by_cases c:x=h
   .subst c;rw[ak bL,ak rfl,aq n1]
   .rw[aq c];by_cases d:h∈L
    .rw[ak (cm _ d),ak d]
    .rw[aq d,aq (fun z=>(a_.mp z).elim (fun z=>c z.symm) d)]
  have e2:(if st<=h/\h-st∈x::L then 1 else 0)=(if x+st=h then 1 else 0)+(if st<=h/\h-st∈L then 1 else 0):=by
   by_cases c:x+st=h
   .have e:h-st=x:=by lia
    rw[ak c,e,ak ⟨by lia,bL⟩,aq (fun z=>n1 z.2)]
   .rw[aq c];by_cases d:st<=h/\h-st∈L
    .rw[ak d,ak ⟨d.1,cm _ d.2⟩]
    .rw[aq d,aq];rintro⟨z1,z2⟩;rcases a_.mp z2 with z|z
     .lia
     .exact d ⟨z1,z⟩
  rw[e1,e2];lia
def wt:List Nat->Nat
 |[]=>0
 |n::ns=>(if n=2 then 1 else 2)+wt ns
theorem Kn(hs:0<st):lB h (w6 m st n)<=if n=2 then 1 else 2:=by
 have c:=CF (h:=h) (st:=st) (L:=(List.range m).filter fun h=>decide (h / st % n+1<n)) (jo.sublist zx);refine aX c ?_;by_cases e:n=2
 .rw[ak e];by_cases c1:h∈(List.range m).filter fun h=>decide (h / st % n+1<n)
  .rw[ak c1,aq]
   .lia
   .rintro⟨z1,z2⟩;have d1:h / st % n+1<n:=cQ (cC.mp c1).2;have d2:(h-st) / st % n+1<n:=cQ (cC.mp z2).2;have d3:h / st=(h-st) / st+1:=by
     have:=Nat.add_div_right (h-st) hs;rw[show h-st+st=h by lia] at this;exact this
    obtain⟨_,d4⟩:=A4 d2;rw[<-d3] at d4;lia
  .rw[aq c1];split <;> lia
 .rw[aq e];split <;> split <;> lia
theorem GN:∀ {ns:List Nat} {st:Nat},0<st->(∀x∈ns,0<x)->lB h (bx m st ns)<=wt ns
 |[],_,_,_=>aI _
 |n::ns,st,hs,hn=>by
  show lB h (w6 m st n++bx m (st*n) ns)<=_+wt ns;rw[pY];have h1:=Kn (m:=m) (n:=n) (h:=h) hs;have h2:=GN (m:=m) (h:=h) (ns:=ns) (st:=st*n) (rn hs (hn n bL)) fun x hx=>hn x (cm _ hx);lia
theorem GQ:∀ {ns:List Nat},(∀x∈ns,2<=x)->3 ^ wt ns<=pr ns*pr ns
 |[],_=>aI _
 |n::ns,hn=>by
  have ih:=GQ (ns:=ns) fun x hx=>hn x (cm _ hx);have h2:=hn n bL;show 3 ^ ((if n=2 then 1 else 2)+wt ns)<=n*pr ns*(n*pr ns);rw[Nat.pow_add,Nat.mul_mul_mul_comm];refine vp ?_ ih;by_cases c:n=2
  .rw[ak c,c];decide
  .rw[aq c];have:3<=n:=by lia
   exact vp this this
theorem TU(hn:∀x∈ns,2<=x)(hp:pr ns<=32):wt ns<=8:=by
 refine qQ fun z=>?_;have h1:3 ^ 9<=3 ^ wt ns:=Nat.pow_le_pow_right (by decide) (by lia);have h2:=GQ hn;have h3:pr ns*pr ns<=32*32:=vp hp hp;have h4:(3:Nat) ^ 9=19683:=by decide
 lia
theorem GR{ns:List Nat}(hn:∀x∈ns,2<=x)(h0:ns≠[])(hp:pr ns<=32):bR (pr ns) (fu ((mC ns).map ic)):=by
 have Ox:∀x∈ns,0<x:=fun x hx=>by have:=hn x hx;lia
 have q:∀q∈mC ns,q.1<q.2/\q.2<pr ns:=fun q hq=>by
  obtain⟨a,b⟩:=wg.mp hq;exact TQ Ox b a
 have n1:2<=pr ns:=by
  cases ns with
  |nil=>exact absurd rfl h0
  |cons n ns=>
   have h2:=hn n bL;have:∀ {l:List Nat},(∀x∈l,2<=x)->1<=pr l:=fun {l}=>by
    induction l with
    |nil=>intro _;exact aI _
    |cons x l ih=>intro hl;exact rn (by have:=hl x bL;lia) (ih fun y hy=>hl y (cm _ hy))
   have h3:=this (l:=ns) fun x hx=>hn x (cm _ hx);show 2<=n*pr ns;exact aX h2 (y_ n h3)
 have mem:∀t∈fu ((mC ns).map ic),∃q∈mC ns,t=ic q\/t=we (ic q):=fun t ht=>by
  rcases lm.mp ht with z|z
  .obtain⟨q,hq,e⟩:=bj.mp z;exact⟨q,hq,.inl e.symm⟩
  .obtain⟨q,hq,e⟩:=bj.mp z;exact⟨q,hq,.inr (by rw[e])⟩
 have rg:∀t∈fu ((mC ns).map ic),((0<=t.1/\t.1<pr ns)/\(0<=t.2/\t.2<pr ns))/\t.1≠t.2:=fun t ht=>by
  obtain⟨p,hq,e⟩:=mem t ht;obtain⟨a,b⟩:=q p hq;rcases e with rfl|rfl
  .exact⟨⟨⟨by show (0:Int)<=(p.1:Int);lia,by show (p.1:Int)<(pr ns:Int);lia⟩,by show (0:Int)<=(p.2:Int);lia,by show (p.2:Int)<(pr ns:Int);lia⟩,by show ((p.1:Nat):Int)≠(p.2:Nat);lia⟩
  .exact⟨⟨⟨by show (0:Int)<=(p.2:Int);lia,by show (p.2:Int)<(pr ns:Int);lia⟩,by show (0:Int)<=(p.1:Int);lia,by show (p.1:Int)<(pr ns:Int);lia⟩,by show ((p.2:Nat):Int)≠(p.1:Nat);lia⟩
 have nd:(fu ((mC ns).map ic)).Nodup:=En (Eo (yi (by decide) hn)) fun u hu=>by
  obtain⟨p,hq,rfl⟩:=bj.mp hu;have:=(q p hq).1;show (p.1:Int)<(p.2:Int);lia
 refine⟨n1,hp,nd,fun t ht=>(rg t ht).1,fun t ht=>(rg t ht).2,fun h=>?_,fun h=>?_,fun a b ha hb=>?_⟩
 .rw[<-(Cw (ps:=(mC ns).map ic)).filter (fun t=>decide (t.1=h)) |>.length_eq,zW,aO];rfl
 .by_cases c:0<=h/\h<pr ns
  .have:=GN (m:=pr ns) (h:=h.toNat) (ns:=ns) (st:=1) (by decide) Ox;have e:=wf (h:=h.toNat) (qs:=mC ns);rw[zA c.1] at e;rw[e];exact aX this (TU hn hp)
  .have e:(fu ((mC ns).map ic)).filter (fun t=>decide (t.1=h))=[]:=uY.mpr fun t ht e=>c ((show t.1=h from cQ e) ▸ (rg t ht).1.1);rw[e];exact bV _
 .have At:∀v,v<pr ns->(∃k,dC (fu ((mC ns).map ic)) k 0 v)/\∃k,dC (fu ((mC ns).map ic)) k v 0:=by
   intro v;induction v using Nat.strongRecOn with
   |ind v ih=>
    intro hv;rcases Nat.eq_zero_or_pos v with e|e
    .subst e;exact⟨⟨0,rfl⟩,0,rfl⟩
    .obtain⟨u,hu,uu⟩:=GK Ox e hv;obtain⟨⟨k,w⟩,l,w'⟩:=ih u hu (by lia);have t:T (fu ((mC ns).map ic)) u v:=lm.mpr (.inl (bj.mpr ⟨(u,v),wg.mpr ⟨by show u<pr ns;lia,uu⟩,rfl⟩));have t':T (fu ((mC ns).map ic)) v u:=Cv t;exact⟨⟨k+1,u,w,t⟩,l+1,dC.cons t' w'⟩
  obtain⟨_,k,w⟩:=At a ha;obtain⟨⟨l,w'⟩,_⟩:=At b hb;exact⟨_,w.trans w'⟩
end gg
namespace L2
open PySem PySem.Spec PyProof.Rows
def A5(scope:Scope)(bT:List (Str×Addr))(qual:Str)(f c L:Addr):Env:=
 { scope:=scope,locals:=L,globals:=mainGlobals,cells:=bT,qual:=qual++".<locals>.",func:=some f,code:=.ref c,frame:=some L,builtins:=builtinsNs }
def yj(X:Cx)(NB:List Str)(scope:Scope)(bT:List (Str×Addr))(qual:Str)(f c:Addr)(s:Shared)(H:Hp):Cx:=
 { X with A:=X.A.in1.in1.deeper (A5 scope bT qual f c s.heap.objs.size),N:=NB,s₀:=s,H₀:=H,env:=A5 scope bT qual f c s.heap.objs.size,outer:=X.stack,stack:=A5 scope bT qual f c s.heap.objs.size::X.stack,ex:=[],fn:=fun _=>false,pn:=[],xe:=fun _ _=>False }
structure GT(X:Cx)(NB:List Str)(src:List (Option Nat))(scope:Scope)(qual:Str)(params:Arguments)(body:Expr)(y:Str):Prop where
 bs:gU NB src scope X
 bind:∀bT pm c sY v,bindArgs (PySem.W.kla_fn "<lambda>" qual params body scope bT pm (.ref c) sY) ⟨[v],[]⟩=pure [(y,v)]
 y0:NB[0]?=some y
 s0:src[0]?=some none
 ly:scope.names.lookup y=some .local
 mq:∀z∈scope.names,z.2≠.cell
 co:scope.isCoroutine=false
 gen:scope.isGenerator=false
section
variable {X:Cx} {ae:List (Addr×Obj)} {σ:St} {H:Hp} {s:Shared} {NB:List Str} {src:List (Option Nat)} {scope:Scope} {qual:Str} {params:Arguments} {body:Expr} {y:Str} {bT:List (Str×Addr)} {f c:Addr} {h₁:Heap} {t₁:Nat} {v:V} {u:Value}
theorem Ko(I:aM X ae σ H s)(S:GT X NB src scope qual params body y)(hd:X.A.handled=none)(c1:∀x c,bT.lookup x=some c->X.env.cells.lookup x=some c)(c2:∀x,(x,NameKind.free)∈scope.names->∃c,bT.lookup x=some c)(hn:h₁.Ns s.heap.objs.size (fun x=>[(y,u)].lookup x))(hk:∀b o,s.heap.get? b=some o->h₁.get? b=some o)(rv:bA v u):
  aM (yj X NB scope bT qual f c s H) [] ((yS src σ).set 0 (some v)) H { s with heap:=h₁,toks:=t₁ }:=by
 have mm:∀x c,bT.lookup x=some c->∃v,s.heap.IsCell c v:=fun x c e=>I.cell x c (c1 x c e);have B:=S.bs;refine⟨⟨I.ok.mod,B.kind,rfl,rfl,aI _,fun x y c e1 e2=>I.ok.inj x y c (c1 x c e1) (c1 y c e2),fun x hx=>?_,(fun x c z e=>by cases z),fun _=>hd,zL I.ok.frames,.inr ⟨rfl,rfl⟩,(fun b hb=>by cases hb),I.bs,aX I.ok.Dt I.sz,(fun b o e hb=>by cases hb),(fun b hb=>by cases hb),I.stack,I.mU⟩,
  rfl,I.bare,Un.kept hk,⟨_,hn,fun i x w e1 e2 e3=>?_⟩,fun x c e=>?_,I.bE.fresh (aI _),fun x c e=>I.jU x c (c1 x c e),fun p hp=>absurd (show p∈([]:List (Addr×Obj)) from hp) (by simp),I.bE.kept hk,?_⟩
 .have hx:scope.names.lookup x=some .cell\/scope.names.lookup x=some .free:=hx;rcases hx with z|z
  .exact absurd rfl (S.mq _ (iE z))
  .exact c2 x (iE z)
 .have e1:NB[i]?=some x:=e1;cases i with
  |zero=>
   rw[S.y0] at e1;cases e1;have hl:0<(yS src σ).length:=by
    unfold yS;rw[aO];exact(cu.mp S.s0).1
   rw[pP hl] at e2;cases e2;exact⟨u,rv,.inl ⟨S.ly,by simp⟩⟩
  |succ i=>
   rw[lX (by lia)] at e2;obtain⟨j,hj,hv⟩:=BV e2;obtain⟨hN,hF⟩:=B.src (i+1) x j e1 hj;obtain⟨m0,FX,N6⟩:=I.loc;have Au:=iE hF;have kx:=B.free _ Au rfl;have Sd:Q4 X.env.scope x:=by
    rcases kx with z|z
    .exact .inr (.inl z)
    .exact .inr (.inr z)
   obtain⟨u',r,l⟩:=N6 j x w hN hv Sd;obtain⟨c',hc⟩:=c2 x Au;refine⟨u',r,.inr ⟨.inr hF,c',hc,?_⟩⟩;rcases l with ⟨DG,_⟩|⟨_,TV,e,z⟩
   .have FY:X.env.scope.names.lookup x=some .local:=DG;rcases kx with z|z <;> (rw[z] at FY;cases FY)
   .rw[c1 x c' hc] at e;cases e;obtain⟨o,ho,Fp⟩:=z;exact⟨o,hk _ _ ho,Fp⟩
 .obtain⟨v,o,ho,Fp⟩:=mm x c e;exact⟨v,o,hk _ _ ho,Fp⟩
 .show ((yS src σ).set 0 (some v)).length=NB.length;unfold yS;rw[g9,aO];exact B.len
theorem GU(hr:bD k X.A)(S:GT X NB src scope qual params body y)(I:aM X ae σ H s)(hf:H f=some (nE f qual params body scope X.env.cells c))(hc:H c=some (kM c qual))(rv:bA v u)(hb:∀bT s H,PE (yj X NB scope bT qual f c s H) body te)(h:te ((yS src σ).set 0 (some v)) H Q):
  wpAny (model X.prog X.w) X.A.in1.in1 (call (.ref f) [u]) (EP X ae σ Q) (fun _ _=>False) s:=by
 obtain⟨bT,pm,sY,c1,c2,JK⟩:=(I.bE f _ hf).1;have Ta:s.heap.CodeRec (.ref c) qual:=(I.bE c _ hc).1;have xN:X.A.in1.in1.depth<recursionLimit:=by
  have:=hr.dp;show X.A.depth<_;lia
 refine kq (zi xN JK rfl S.co S.gen rfl Ta ?_);rw[S.bind];refine wpAny_pure (zG S.mq (fun x hx=>by rw[cA.mp hx];exact S.ly) (fun h₁ vW MB=>⟨I.nolimit.fresh _ MB,?_⟩) S.bs.kind);have JW:∀b o,s.heap.get? b=some o->h₁.get? b=some o:=fun b o e=>MB.extBut b o (bb (a9 e)) (bU _ e);refine zh ?_;have J:=Ko (f:=f) (c:=c) (t₁:=s.toks+1) I S hr.hd c1 c2 vW JW rv;refine gn (hb bT s H [] _ _ H Q J h) (fun w s' ⟨v',H',J',r',q'⟩=>?_) fun _ _ z=>z.elim;exact⟨v',H',I.Fq (ch:=[]) J'.os J'.base J'.bE J'.bare (fun b hb=>by cases hb),r',q'⟩
end
def MV(kz:Nat->Int)(a b:Nat):Prop:=64*kz a+a<=64*kz b+b
structure EV(ns:List Nat)(kz:Nat->Int)(ps:List Keyed):Prop where
 len:ps.length=ns.length
 at_:∀ (i n:Nat),ns[i]?=some n->∃t u,ps[i]?=some (Value.int (kz n) t,Value.int (n:Int) u)
theorem EV.mem(P:EV ns kz ps)(h:p∈ps):∃n∈ns,∃t u,p=(Value.int (kz n) t,Value.int (n:Int) u):=by
 obtain⟨i,hi,e⟩:=u7 h;have hn:i<ns.length:=by rw[<-P.len];exact hi
 obtain⟨t,u,e2⟩:=P.at_ i ns[i] (b8 hn);rw[b8 hi] at e2;exact⟨_,fh hn,t,u,by rw[<-e];exact bh e2⟩
theorem EV.map(P:EV ns kz ps):ps.map (fun p=>(numOf p.2).toNat)=ns:=by
 refine vd fun i=>?_;rw[bu];cases e:ns[i]? with
 |none=>
  have:ns.length<=i:=List.getElem?_eq_none_iff.mp e;rw[i6 (by rw[P.len];exact this)];rfl
 |some n=>
  obtain⟨t,u,e2⟩:=P.at_ i n e;rw[e2];rfl
def WP(p:Keyed):Int:=numOf p.1
def TW(p:Keyed):Int:=numOf p.2
theorem EV.nu(P:EV ns kz a.toList)(Oy:ns.Pairwise (·<·))(Oz:∀n∈ns,n<64):Nu TW a:=by
 have g:∀ (i n:Nat),ns[i]?=some n->kk TW a i=(n:Int):=fun i n e=>by
  obtain⟨t,u,e2⟩:=P.at_ i n e;unfold kk;rw[<-lV,e2];rfl
 refine⟨fun i j EM hj=>?_,fun x hx=>?_⟩
 .have hj:j<ns.length:=by rw[<-P.len];simpa using hj
  rw[g i _ (b8 (show i<ns.length by lia)),g j _ (b8 hj)];have:=uR.mp Oy i j (by lia) hj EM;lia
 .obtain⟨n,hn,t,u,rfl⟩:=P.mem hx;have:=Oz n hn;show 0<=(n:Int)/\(n:Int)<64;lia
theorem EV.cmp(P:EV ns kz a.toList):J6 prog w A s oneType' a WP:=fun x y hx hy Q E h=>by
 obtain⟨n,_,t,u,rfl⟩:=P.mem hx;obtain⟨m,_,t',u',rfl⟩:=P.mem hy;rw[keyLt'_oneType];exact oneLt_int h
theorem EV.out{ns:List Nat}{kz:Nat->Int}{a b:Array Keyed}(P:EV ns kz a.toList)(hp:b.Perm a)(so:w5 WP TW b a.size):
  ∃out:List Nat,out.Perm ns/\out.Pairwise (MV kz)/\aZ (out.map fun (x:Nat)=>V.int (x:Int)) (b.map (·.2)).toList:=by
 have hl:b.toList.Perm a.toList:=lD.mp hp;have mem:∀p∈b.toList,∃n∈ns,∃t u,p=(Value.int (kz n) t,Value.int (n:Int) u):=fun p h=>P.mem (hl.mem_iff.mp h);refine⟨b.toList.map fun p=>(numOf p.2).toNat,by rw[<-P.map];exact hl.map _,?_,?_⟩
 .refine i7.mpr ?_;rw[uR];intro i j hi hj EM;have sZ:i<b.size:=by simpa using hi
  have Gd:j<b.size:=by simpa using hj
  have q:=so i j (kl EM) (by rw[<-hp.size_eq];exact Gd);rw[v3 sZ,v3 sZ,v3 Gd,v3 Gd] at q;obtain⟨n,_,t,u,e⟩:=mem b[i] (by simp);obtain⟨m,_,t',u',e'⟩:=mem b[j] (by simp);have e1:b.toList[i]=b[i]:=by simp
  have e2:b.toList[j]=b[j]:=by simp
  rw[e1,e2];rw[e,e'] at q;rw[e,e'];exact q
 .rw[rc,dH];have go:∀l:List Keyed,(∀p∈l,∃n∈ns,∃t u,p=(Value.int (kz n) t,Value.int (n:Int) u))->aZ (l.map ((fun (x:Nat)=>V.int (x:Int)) ∘ fun p=>(numOf p.2).toNat)) (l.map (·.2)):=fun l=>by
   induction l with
   |nil=>intro _;exact .nil
   |cons x l ih=>
    intro h;obtain⟨n,_,t,u,rfl⟩:=h x bL;exact .cons ⟨u,rfl⟩ (ih fun p hp=>h p (cm _ hp))
  exact go _ mem
section
variable {X:Cx} {ae:List (Addr×Obj)} {σ:St} {H:Hp} {s:Shared}
theorem aM.TX(I:aM X ae σ H s)(f:ge X ae H a)(new:cg X.prog X.w (upd H a o) s.heap a o):aM X ae σ (upd H a o) s:=by
 have ne:∀ {b u},H b=some u->b≠a:=fun {b u} e z=>by rw[z,f.1] at e;cases e
 obtain⟨h,g,d,t,os⟩:=s;refine I.step (g':=g) (d':=d) (t':=t) (h':=h) (ch:=[a]) (fun b hb=>?_) (fun b o _ _ _ e _=>e) (fun b o _ _ _ e _=>⟨o.slots,e⟩) (fun b o hc _ n=>by rw[ao (fun z=>hc (by simp[z]))];exact n)
  (fun b o _ e=>⟨o,e⟩) (fun b xs e=>by rw[ao (ne e)];exact e) (fun b o u e=>by rw[ao (ne e)];exact e) (fun b ps e=>⟨#[],by rw[ao (ne e),e];simp⟩) (fun m hm=>hm) (fun b u e=>?_) I.bare
 .have e:b=a:=by simpa using hb
  subst e;exact⟨f.2.2.2.1,f.2.1,f.2.2.2.2.1,f.2.2.2.2.2⟩
 .by_cases hb:b=a
  .subst hb;rw[af] at e;cases e;exact new
  .rw[ao hb] at e;exact(I.bE b u e).mT (fun _ _ _ q=>q) (fun d q=>by rw[ao (ne q)];exact q) fun d xs q=>by rw[ao (ne q)];exact q
variable {NB:List Str} {src:List (Option Nat)} {scope:Scope} {qual:Str} {params:Arguments} {body:Expr} {y:Str} {f c:Addr} {te:TE} {k:Nat} {ns:List Nat} {kz:Nat->Int} {its:List Value} {a kS:Addr} {e1:Nat}
theorem yk{st:SortSt}{gZ:Array Value}{e:Nat}{E:Value->Shared->Prop}{A:Around}(I:aM X ae σ H s)(fa:ge X ae H a)(fk:ge X ae H kS)(OA:kS≠a)(oa:s.heap.get? a=some (seqObj "list" #[] e1))(ok:s.heap.get? kS=some (seqObj "list" gZ e))(hk:gZ.size<64)(IZ:(arrOf st).size<64)(hfl:failedOf st=none){out:List Nat}(hv:aZ (out.map fun (x:Nat)=>V.int (x:Int)) ((arrOf st).map (·.2)).toList){P:PySem.Fin->Shared->Prop}(h:∀s',aM X ae σ (upd H a (.lst (out.map fun (x:Nat)=>V.int (x:Int)))) s'->P (.done (.ret .none)) s'):
  wpAny (model X.prog X.w) A (ksk_tail a false e1 (.ref kS) st) P E s:=by
 have s1:=oF s.heap kS (Obj.mapSeq fun _=>(#[]:Array Value));have YI:(s.heap.update kS (Obj.mapSeq fun _=>(#[]:Array Value))).get? a=some (seqObj "list" #[] e1):=(s1.2 a OA.symm).trans oa;have s2:=oF (s.heap.update kS (Obj.mapSeq fun _=>(#[]:Array Value))) a (Obj.mapSeq fun _=>(arrOf st).map (·.2));obtain⟨c2,YJ⟩:∃c2,((s.heap.update kS (Obj.mapSeq fun _=>(#[]:Array Value))).update a (Obj.mapSeq fun _=>(arrOf st).map (·.2))).get? a=some (seqObj "list" ((arrOf st).map (·.2)) c2):=⟨_,oU YI fun _=>(arrOf st).map (·.2)⟩
 have J1:=I.turned (t':=s.toks) (h':=s.heap.update kS (Obj.mapSeq fun _=>(#[]:Array Value))) (it:=kS) (fun b o hb q=>(s1.2 b hb).trans q) fk.1 fk.2.1 fk.2.2.2.1 fk.2.2.2.2.1 fk.2.2.2.2.2;have J2:=J1.turned (t':=s.toks) (h':=(s.heap.update kS (Obj.mapSeq fun _=>(#[]:Array Value))).update a (Obj.mapSeq fun _=>(arrOf st).map (·.2))) (it:=a) (fun b o hb q=>(s2.2 b hb).trans q) fa.1 fa.2.1 fa.2.2.2.1 fa.2.2.2.2.1 fa.2.2.2.2.2;have J3:=J2.TX fa (o:=.lst (out.map fun (x:Nat)=>V.int (x:Int))) ⟨?_,((arrOf st).map (·.2)).toList,c2,hv,by rw[YJ]⟩
 .unfold ksk_tail;try dsimp only
  refine az (l_ ok rfl ?_ (by rw[gj];lia) (bV _));refine az (wpAny_letGo ?_);refine az (rq YI rfl ?_);simp only[lI,fQ];refine az (l_ YI rfl ?_ (bV _) (by rw[ik,gj];lia));rw[hfl];simp only[zI,lI,fQ];exact wpAny_pure (h _ J3)
 .have:=hv.length;rw[this,mR,ik,gj];lia
theorem Kp{gZ:Array Value}{e:Nat}{E:Value->Shared->Prop}{A:Around}(I:aM X ae σ H s)(fa:ge X ae H a)(fk:ge X ae H kS)(OA:kS≠a)(oa:s.heap.get? a=some (seqObj "list" #[] e1))(ok:s.heap.get? kS=some (seqObj "list" gZ e))(hk:IntsAre gZ.toList (ns.map kz))(hP:EV ns kz (gZ.zip its.toArray).toList)(hl:its.length=ns.length)(IZ:ns.length<64)(Oy:ns.Pairwise (·<·))(Oz:∀n∈ns,n<64){P:PySem.Fin->Shared->Prop}(h:∀s' (out:List Nat),out.Perm ns->out.Pairwise (MV kz)->aM X ae σ (upd H a (.lst (out.map fun (x:Nat)=>V.int (x:Int)))) s'->P (.done (.ret .none)) s'):
  wpAny (model X.prog X.w) A (ksk_end a false its.toArray e1 (.ref kS) gZ) P E s:=by
 have hsz:gZ.size=ns.length:=by
  have h1:=hk.length;rw[mR,aO] at h1;exact h1
 have hzs:(gZ.zip its.toArray).size=ns.length:=by rw[Array.size_zip,hsz,cB,hl,rj]
 unfold ksk_end;simp only[lI,fQ];by_cases h2:its.toArray.size<2
 .rw[ak h2,ak h2];refine az (wpAny_pure ?_);rw[StateT.run_pure];refine az (wpAny_pure ?_);try dsimp only
  rw[cB,hl] at h2;obtain⟨out,o1,o2,o3⟩:=hP.out (b:=gZ.zip its.toArray) (zY _) (fun i j EM hj=>by rw[hzs] at hj;rw[show i=j by lia];exact oZ _);exact yk (st:=SortSt.mk' general' (gZ.zip its.toArray) #[] 7 none) I fa fk OA oa ok (by lia) (by show (gZ.zip its.toArray).size<64;lia) rfl o3 fun s' J=>h s' out o1 o2 J
 .rw[aq h2,aq h2];rw[cB,hl] at h2;rw[ksk_kind hk (by lia)];refine az (wpAny_pure ?_);refine az (gn (AL (st:=SortSt.mk' oneType' (gZ.zip its.toArray) #[] 7 none) (a₀:=gZ.zip its.toArray) (ck:=WP) (nu:=TW)
   (Q:=fun _ aD=>(arrOf aD).Perm (gZ.zip its.toArray)/\failedOf aD=none/\w5 WP TW (arrOf aD) (gZ.zip its.toArray).size)
   hP.cmp (hP.nu Oy Oz) rfl rfl rfl rfl (by lia) (by lia) fun aD a1 a2 a3=>⟨a1,a2,a3⟩) ?_ fun _ _ e=>e)
  rintro⟨⟨⟩,aD⟩ s' ⟨rfl,hp,hf,hs⟩;try dsimp only
  obtain⟨out,o1,o2,o3⟩:=hP.out hp hs;exact yk I fa fk OA oa ok (by lia) (by rw[hp.size_eq];lia) hf o3 fun s' J=>h s' out o1 o2 J
theorem GV(hr:bD k X.A)(S:GT X NB src scope qual params body y)(hb:∀bT s H,PE (yj X NB scope bT qual f c s H) body te)(I:aM X ae σ H s)(hf:H f=some (nE f qual params body scope X.env.cells c))(hc:H c=some (kM c qual))(hv:aZ (ns.map fun (x:Nat)=>V.int (x:Int)) its)(IZ:ns.length<64)(Oy:ns.Pairwise (·<·))(Oz:∀n∈ns,n<64)(fa:ge X ae H a)(fk:ge X ae H kS)(OA:kS≠a)(oa:s.heap.get? a=some (seqObj "list" #[] e1))(ok:s.heap.get? kS=some (seqObj "list" #[] 0))(YK:∀n∈ns,∀H',aG H H'->te ((yS src σ).set 0 (some (.int (n:Nat)))) H' fun v TY=>v=.int (kz n)/\aG H' TY)(h:∀H' s' (out:List Nat),aG H H'->H' a=none->out.Perm ns->out.Pairwise (MV kz)->aM X ae σ (upd H' a (.lst (out.map fun (x:Nat)=>V.int (x:Int)))) s'->P (.done (.ret .none)) s'):
  wpAny (model X.prog X.w) X.A.in1.in1 (ksk_rest a (.ref f) false its.toArray e1 (.ref kS)) P E s:=by
 have hl:its.length=ns.length:=by have:=hv.length;rw[aO] at this;exact this.symm
 unfold ksk_rest;refine az (gm ?_);first
  |rw[List.forIn_toArray]
  |(rw[<-zF];simp only[List.toList_toArray])
  |rw[<-zF]
 have TZ:∀ {p:Addr×Obj} {b:Addr} {o:Obj} {H':Hp} {s':Shared},ge X ae H b->H' b=none->s'.heap.get? b=some o->(∀v,o.data≠.cell v)->p=(b,o)->s'.heap.get? p.1=some p.2/\H' p.1=none/\p.1≠X.env.locals/\p.1∉X.fs/\∀v,p.2.data≠.cell v:=fun {p b o H' s'} F n e d z=>by
  subst z;exact⟨e,n,F.2.1,F.2.2.1,d⟩
 have two:∀ {H':Hp} {s':Shared} {oK:Obj} {YL:List (Addr×Obj)},aM X YL σ H' s'->(∀p∈ae,p∈YL)->H' a=none->H' kS=none->s'.heap.get? a=some (seqObj "list" #[] e1)->s'.heap.get? kS=some oK->(∀v,oK.data≠.cell v)->aM X (ae++[(kS,oK),(a,seqObj "list" #[] e1)]) σ H' s':=fun {H' s' oK YL} J sub na nk ea ek d=>J.mV fun p hp=>by
  rcases cK.mp hp with z|z
  .exact J.pin p (dD _ (sub p z))
  .rcases a_.mp z with z|z
   .exact TZ fk nk ek d z
   .exact TZ fa na ea (fun v z=>by cases z) (cA.mp z)
 refine az (ksk_fold (fun i s'=>∃H' kA e,aG H H'/\aM X (ae++[(kS,seqObj "list" kA e),(a,seqObj "list" #[] e1)]) σ H' s'/\IntsAre kA.toList ((ns.take i).map kz)) its 0 s
  ⟨H,#[],0,aG.refl _,two I (fun p z=>z) fa.1 fk.1 oa ok (fun v z=>by cases z),by simpa using IntsAre.nil⟩ ?step ?done)
 case step=>
  rintro j x s' hx ⟨H',kA,e,sm,J,hk⟩;simp only[jr] at hk |-;have hj:j<ns.length:=by rw[<-hl];exact(cu.mp hx).1
  have hnj:ns[j]?=some ns[j]:=b8 hj;obtain⟨u,hu,ru⟩:=hv.get (i:=j) (x:=V.int ((ns[j]:Nat):Int)) (by rw[bu,hnj];rfl);rw[hx] at hu;cases hu;refine az (oX (gn (GU hr S J (sm _ _ hf) (sm _ _ hc) ru hb (YK ns[j] (fh hj) H' sm)) (fun w IX he=>?_) fun _ _ hF=>hF.elim));obtain⟨v,TY,J2,⟨qa,tG⟩⟩:=he;obtain⟨rfl,EW⟩:=tG;obtain⟨t2,rfl⟩:∃t,w=Value.int (kz ns[j]) t:=qa;try dsimp only
  have nk:=J2.pin (kS,seqObj "list" kA e) (dD _ (dD _ (.head _)));have na:=J2.pin (a,seqObj "list" #[] e1) (dD _ (dD _ (.tail _ (.head _))));have s1:=oF IX.heap kS (Obj.mapSeq (·.push (.int (kz ns[j]) t2)));obtain⟨c2,YJ⟩:∃c2,(IX.heap.update kS (Obj.mapSeq (·.push (.int (kz ns[j]) t2)))).get? kS=some (seqObj "list" (kA.push (.int (kz ns[j]) t2)) c2):=⟨_,oU nk.1 (·.push (.int (kz ns[j]) t2))⟩
  have hz:kA.size<=64:=by
   have h1:=hk.length;rw[mR,aO,oJ] at h1;lia
  have J3:=(J2.mV (pins':=ae) fun p hp=>J2.pin p (dD _ (fw _ hp))).turned (t':=IX.toks) (h':=IX.heap.update kS (Obj.mapSeq (·.push (.int (kz ns[j]) t2)))) (it:=kS) (fun b o hb q=>(s1.2 b hb).trans q) nk.2.1 fk.2.1 fk.2.2.2.1 fk.2.2.2.2.1 fk.2.2.2.2.2;refine az (l_ nk.1 rfl ?_ (by rw[gj];lia) (aX (km (Array.size_push ..)) (by rw[gj];lia)));refine wpAny_pure ⟨rfl,TY,_,c2,sm.trans EW,two J3 (fun p z=>z) na.2.1 nk.2.1 ((s1.2 a OA.symm).trans na.1) YJ (fun v z=>by cases z),?_⟩;have ek:(ns.take (j+1)).map kz=(ns.take j).map kz++[kz ns[j]]:=by rw[gO,hnj,Option.toList_some,cR];rfl
  have ea:(kA.push (Value.int (kz ns[j]) t2)).toList=kA.toList++[Value.int (kz ns[j]) t2]:=by simp
  rw[ea,ek];exact ksk_snoc hk
 case done=>
  rintro s' ⟨H',kA,e,sm,J,hk⟩;have DG:IntsAre kA.toList (ns.map kz):=by
   have e3:ns.take (0+its.length)=ns:=qT (by lia);rw[e3] at hk;exact hk
  have nk:=J.pin (kS,seqObj "list" kA e) (dD _ (dD _ (.head _)));have na:=J.pin (a,seqObj "list" #[] e1) (dD _ (dD _ (.tail _ (.head _))));try dsimp only
  refine az (listItems_at nk.1 rfl ?_);have hP:EV ns kz (kA.zip its.toArray).toList:=by
   rw[ksk_zip];have l1:=DG.length;rw[aO] at l1;refine⟨by rw[List.length_zip,l1,hl,rj],fun i n hn=>?_⟩;have hi:i<ns.length:=(cu.mp hn).1;obtain⟨u,hu,t',rfl⟩:=hv.get (i:=i) (x:=V.int ((n:Nat):Int)) (by rw[bu,hn];rfl);have hki:i<kA.toList.length:=by rw[l1];exact hi
   obtain⟨m,t,em,en⟩:=DG.at i kA.toList[i] (b8 hki);rw[bu,hn] at en;cases en;refine⟨t,t',?_⟩;rw[Fb];exact⟨by rw[b8 hki,em],hu⟩
  exact Kp (J.mV (pins':=ae) fun p hp=>J.pin p (dD _ (fw _ hp))) ⟨na.2.1,fa.2⟩ ⟨nk.2.1,fk.2⟩ OA na.1 nk.1 DG hP hl IZ Oy Oz fun s2 out o1 o2 J2=>h H' s2 out sm na.2.1 o1 o2 J2
end
def OB(X:Cx)(NB:List Str)(src:List (Option Nat))(qual:Str)(params:Arguments)(body:Expr)(scope:Scope)(te:TE):St->List V->List V->Hp->VK->Prop:=fun σ vs zs H Q=>
 ∃ (l f c:Addr) (ns:List Nat) (kz:Nat->Int),vs=[.ref l]/\zs=[.ref f]/\a8 X.K H l (ns.map fun (x:Nat)=>V.int (x:Int))/\ns.length<64/\ns.Pairwise (·<·)/\(∀n∈ns,n<64)/\H f=some (nE f qual params body scope X.env.cells c)/\H c=some (kM c qual)/\
  (∀n∈ns,∀H',aG H H'->te ((yS src σ).set 0 (some (.int (n:Nat)))) H' fun v TY=>v=.int (kz n)/\aG H' TY)/\
  ∀ (r:Addr) (H':Hp) (out:List Nat),aG H H'->H' r=none->out.Perm ns->out.Pairwise (MV kz)->Q (.ref r) (upd H' r (.lst (out.map fun (x:Nat)=>V.int (x:Int))))
theorem A6(hr:bD k X.A)(S:GT X NB src scope qual params body y)(hb:∀f c bT s H,PE (yj X NB scope bT qual f c s H) body te):
  AF X "sorted" ["key"] (OB X NB src qual params body scope te):=by
 intro ae s σ H vs zs us ws Q I r rz h;obtain⟨l,f,c,ns,kz,rfl,rfl,hl,IZ,Oy,Oz,hf,hc,YK,q⟩:=h;obtain⟨u1,rfl,r1⟩:=r.one;obtain rfl:u1=Value.ref l:=r1;obtain⟨w1,rfl,Yg⟩:=rz.one;obtain rfl:w1=Value.ref f:=Yg;obtain⟨its,rv,pl,hz⟩:=I.list hl;have hln:its.length=ns.length:=by have:=rv.length;rw[aO] at this;exact this.symm
 show wpAny (model X.prog X.w) X.A (call (.builtin "sorted") [.ref l] [(Str.ofString "key",.ref f)]) _ _ s;refine call_function_entry_kw kind_sorted plain_sorted entry_sorted (ksk_s1 _ _) ?_;unfold Builtin.«sorted»;refine az (m:=checkCount "sorted" 1 1 _) (wpAny_pure ?_);refine az (collect_list pl.isList ?_ (by rw[gj];lia));refine az (vA ?_ (by rw[gj];lia));have hsz:((s.heap.push (seqObj "list" #[] 0)).update s.heap.objs.size (Obj.mapSeq (·++its.toArray))).objs.size=s.heap.objs.size+1:=by
  rw[jR,iQ]
 have Du:(((s.heap.push (seqObj "list" #[] 0)).update s.heap.objs.size (Obj.mapSeq (·++its.toArray))).push (seqObj "list" its.toArray 0)).get? (s.heap.objs.size+1)=some (seqObj "list" its.toArray 0):=by
  rw[<-hsz];exact cY _ rfl
 have keep:∀b o,s.heap.get? b=some o->(((s.heap.push (seqObj "list" #[] 0)).update s.heap.objs.size (Obj.mapSeq (·++its.toArray))).push (seqObj "list" its.toArray 0)).get? b=some o:=fun b o q=>by
  have dN:b<s.heap.objs.size:=a9 q;rw[iF _ _ _ (by rw[hsz];exact bb (eV dN)),oC _ _ _ _ (bb dN),iF _ _ _ (bb dN)];exact q
 show wpAny _ _ _ _ _ { s with heap:=((s.heap.push (seqObj "list" #[] 0)).update s.heap.objs.size (Obj.mapSeq (·++its.toArray))).push (seqObj "list" its.toArray 0) };rw[hsz];have ES:(((s.heap.push (seqObj "list" #[] 0)).update s.heap.objs.size (Obj.mapSeq (·++its.toArray))).push (seqObj "list" its.toArray 0)).objs.size=s.heap.objs.size+2:=by rw[iQ,hsz]
 generalize (((s.heap.push (seqObj "list" #[] 0)).update s.heap.objs.size (Obj.mapSeq (·++its.toArray))).push (seqObj "list" its.toArray 0))=h1 at *;refine az (iO (wpAny_call_entry_kw slot_list_sort ⟨_,Du,rfl⟩ entry_list_sort ?body (ksk_l1 _ _)));case body=>
  have YM:=ksk_t1 f (s.heap.objs.size+1);show wpAny (model X.prog X.w) X.A.in1.in1 (Builtin.«list.sort» ⟨[.ref (s.heap.objs.size+1)],[(Str.ofString "key",.ref f)]⟩) _ _ _;rw[YM];have s1:=oF h1 (s.heap.objs.size+1) (Obj.mapSeq fun _=>(#[]:Array Value));obtain⟨e1,Ja⟩:∃e1,(h1.update (s.heap.objs.size+1) (Obj.mapSeq fun _=>(#[]:Array Value))).get? (s.heap.objs.size+1)=some (seqObj "list" #[] e1):=⟨_,oU Du fun _=>#[]⟩
  have hkS:((h1.update (s.heap.objs.size+1) (Obj.mapSeq fun _=>(#[]:Array Value))).push (seqObj "tuple" its.toArray 0)).objs.size=s.heap.objs.size+3:=by rw[iQ,jR,ES]
  unfold ksk_tree;refine az (listItems_at Du rfl ?_);refine az (l_ Du rfl ?_ (by rw[cB,gj];lia) (bV _));refine az (rq Ja rfl ?_);refine az (wpAny_newTuple ?_ (by show its.length<=_;rw[gj];lia));refine az (vA ?_ (bV _));refine iO ?_;have T5:∀b o,s.heap.get? b=some o->(((h1.update (s.heap.objs.size+1) (Obj.mapSeq fun _=>(#[]:Array Value))).push (seqObj "tuple" its.toArray 0)).push (seqObj "list" #[] 0)).get? b=some o:=fun b o e=>
   bU _ (bU _ ((s1.2 b (bb (eV (a9 e)))).trans (keep b o e)))
  have I2:aM X ae σ H { s with heap:=((h1.update (s.heap.objs.size+1) (Obj.mapSeq fun _=>(#[]:Array Value))).push (seqObj "tuple" its.toArray 0)).push (seqObj "list" #[] 0) }:=I.kept (t':=s.toks) T5;refine GV hr S (hb f c) I2 hf hc rv IZ Oy Oz (I.vF (by lia) (I.bE.fresh (by lia))) (I.vF (b:=((h1.update (s.heap.objs.size+1) (Obj.mapSeq fun _=>(#[]:Array Value))).push (seqObj "tuple" its.toArray 0)).objs.size) (by lia) (I.bE.fresh (by lia))) (by lia) (bU _ (bU _ Ja)) (cY _ rfl) YK fun H' s' out sm na o1 o2 J=>⟨_,rfl,?_⟩
  exact wpAny_pure ⟨_,rfl,.ref (s.heap.objs.size+1),_,J,rfl,q _ H' out sm na o1 o2⟩
def bq(cells:List (Str×Addr))(a:Addr):Prop:=∃x,cells.lookup x=some a
abbrev kW(h0:Heap)(b:Addr):HO:=.ext fun h=>h.get? b=h0.get? b
open Classical in
noncomputable def iA(S:Addr->Prop)(h0:Heap)(H:Hp):Hp:=fun b=>if S b then some (kW h0 b) else H b
open Classical in
noncomputable def pH(S:Addr->Prop)(H:Hp):Hp:=fun b=>if S b then none else H b
section
variable {S:Addr->Prop} {h0 h h':Heap} {H H':Hp} {b:Addr} {P:Program} {w:World} {fs:List Addr}
theorem nQ(e:S b):iA S h0 H b=some (kW h0 b):=ak e
theorem bX(e:¬ S b):iA S h0 H b=H b:=aq e
theorem iV(e:S b):pH S H b=none:=ak e
theorem cM(e:¬ S b):pH S H b=H b:=aq e
theorem iu(e:H b=none):pH S H b=none:=by
 by_cases c:S b
 .exact iV c
 .rw[cM c];exact e
theorem CG(x:j4 P w H h)(l:∀a,S a->H a=some (kW h0 a)):j4 P w (pH S H) h:=fun a o e=>by
 by_cases c:S a
 .rw[iV c] at e;cases e
 .rw[cM c] at e;exact(x a o e).mT (fun _ _ _ q=>q) (fun d q=>by rw[cM fun z=>by rw[l d z] at q;cases q];exact q) fun d xs q=>by rw[cM fun z=>by rw[l d z] at q;cases q];exact q
theorem ym(x:j4 P w H h)(l:∀a,S a->H a=none/\h.get? a=h0.get? a/\∃o,h0.get? a=some o):j4 P w (iA S h0 H) h:=fun a o e=>by
 by_cases c:S a
 .rw[nQ c] at e;cases e;obtain⟨_,e1,o,e2⟩:=l a c;exact⟨e1,⟨o,e1.trans e2⟩,fun h1 h2 z k=>(k o (z.trans e2)).trans e2.symm⟩
 .rw[bX c] at e;exact(x a o e).mT (fun _ _ _ q=>q) (fun d q=>by rw[bX fun z=>by rw[(l d z).1] at q;cases q];exact q) fun d xs q=>by rw[bX fun z=>by rw[(l d z).1] at q;cases q];exact q
theorem OC(u:Un fs [] (iA S h0 H) H' h h')(l:∀a,S a->H a=none/\h.get? a=h0.get? a/\a∉fs)(l':∀a,S a->h'.get? a=h0.get? a):Un fs [] H (pH S H') h h' where
 keep:=fun b o e n hb hx=>by
  by_cases c:S b
  .rw[l' b c,<-(l b c).2.1];exact e
  .exact u.keep b o e (by rw[bX c];exact n) hb hx
 slot:=fun b o e n hb hx=>u.slot b o e (by rw[bX fun z=>(l b z).2.2 hb];exact n) hb hx
 free:=fun b o e n hx=>by
  by_cases c:S b
  .exact iV c
  .exact iu (u.free b o e (by rw[bX c];exact n) hx)
 there:=u.there
 me:=fun b xs e=>by
  have c:¬ S b:=fun z=>by rw[(l b z).1] at e;cases e
  rw[cM c];exact u.me b xs (by rw[bX c];exact e)
 o8:=fun b o v e=>by
  have c:¬ S b:=fun z=>by rw[(l b z).1] at e;cases e
  rw[cM c];exact u.o8 b o v (by rw[bX c];exact e)
 o9:=fun b ps e=>by
  have c:¬ S b:=fun z=>by rw[(l b z).1] at e;cases e
  rw[cM c];exact u.o9 b ps (by rw[bX c];exact e)
theorem Kq(u:Un fs [] (pH S H) H' h h')(l:∀a,S a->H a=some (kW h0 a)):Un fs [] H (iA S h0 H') h h' where
 keep:=fun b o e n hb hx=>u.keep b o e (iu n) hb hx
 slot:=fun b o e n hb hx=>u.slot b o e (iu n) hb hx
 free:=fun b o e n hx=>by
  have c:¬ S b:=fun z=>by rw[l b z] at n;cases n
  rw[bX c];exact u.free b o e (iu n) hx
 there:=u.there
 me:=fun b xs e=>by
  have c:¬ S b:=fun z=>by rw[l b z] at e;cases e
  rw[bX c];exact u.me b xs (by rw[cM c];exact e)
 o8:=fun b o v e=>by
  have c:¬ S b:=fun z=>by rw[l b z] at e;cases e
  rw[bX c];exact u.o8 b o v (by rw[cM c];exact e)
 o9:=fun b ps e=>by
  have c:¬ S b:=fun z=>by rw[l b z] at e;cases e
  rw[bX c];exact u.o9 b ps (by rw[cM c];exact e)
end
structure yn(cells:List (Str×Addr))(h0:Heap)(H:Hp):Prop where
 inj:∀x y c,cells.lookup x=some c->cells.lookup y=some c->x=y
 at_:∀a,bq cells a->H a=some (kW h0 a)
 cell:∀x c,cells.lookup x=some c->∃v,h0.IsCell c v
theorem yn.mono{cells:List (Str×Addr)}{h0:Heap}{H H':Hp}(l:yn cells h0 H)(s:∀a,bq cells a->H a=some (kW h0 a)->H' a=some (kW h0 a)):yn cells h0 H':=⟨l.inj,fun a c=>s a c (l.at_ a c),l.cell⟩
def uC(cells:List (Str×Addr))(h0:Heap)(x:Str)(v:V):Prop:=∃u c,bA v u/\cells.lookup x=some c/\h0.IsCell c (some u)
def OD(X:Cx)(sp:Sp)(t:TA):TE:=fun σ H Q=>t σ H fun vs H1=>(∀a,bq X.env.cells a->H1 a=none)->∀h0:Heap,yn X.env.cells h0 (iA (bq X.env.cells) h0 H1)->(∀ (i:Nat) (x:Str) (v:V),X.N[i]?=some x->σ[i]?=some (some v)->X.env.scope.names.lookup x=some .cell->uC X.env.cells h0 x v)->
 sp vs (iA (bq X.env.cells) h0 H1) (fun v H'=>(∀a,bq X.env.cells a->H' a=some (kW h0 a))/\Q v (pH (bq X.env.cells) H')) E0
section
variable {X:Cx} {k:Nat} {x:Str} {ps:List Str} {sp:Sp} {e:Expr} {es:List Expr} {t:TA} {p pos:Pos}
theorem Kr(C:ce X.prog X.w X.K X.mg X.base aY k x ps sp)(hr:bD k X.A)(R1:X.fn=fun _=>true)(hex:X.ex=[])(ha:PA X (e::es) t)(hg:Gl X x:=by rfl)(Ao:(x==("__debug__":Str))=false:=by decide)(he:starEach (e::es) X.env=(false,eval e X.env)::starEach es X.env:=by rfl)(yR:(backTo pos (starEach es X.env)).any (·.1)=false:=by rfl):
  PE X (.Call (.Name x p) (e::es) [] pos) (OD X sp t):=by
 obtain⟨f,fd,hm,hk,hb,F⟩:=C.ex;intro ae s σ H Q I h;refine j_ (mW I hg hm ?_ Ao);refine u_ (h₀:=X.base) I.ok.mod.Q3 hk (cJ (ha pos ae s σ H _ I h) fun us s1 ⟨vs,H1,I1,r,q⟩=>⟨I1.lK,?_⟩) he yR;have cF:∀a,bq X.env.cells a->H1 a=none/\(∃o,s1.heap.get? a=some o)/\a∉Ds X.stack/\X.base.get? a=none:=fun a ⟨y,ey⟩=>by
  obtain⟨v,o,ho,hd⟩:=I1.cell y a ey;have ab:=I1.ok.Q5 y a (by rw[R1]) ey;refine⟨I1.jU y a ey,⟨o,ho⟩,fun mP=>?_,oA (aX I1.ok.Dt ab)⟩;rcases a_.mp (I1.rB a mP) with z|z
  .exact I1.Mg y a ey z
  .obtain⟨_,o',vD,_⟩:=I1.ok.o_.mem z;exact absurd (cz (a9 vD) ab) (jT _)
 have L:yn X.env.cells s1.heap (iA (bq X.env.cells) s1.heap H1):=⟨I1.ok.inj,fun a c=>nQ c,I1.cell⟩
 have q':=q (fun a c=>(cF a c).1) s1.heap L fun i y v h1 h2 h3=>by
  obtain⟨m,_,hl⟩:=I1.loc;obtain⟨u,ru,lk⟩:=hl i y v h1 h2 (.inr (.inl h3));rcases lk with ⟨z,_⟩|⟨_,c,e1,e2⟩
  .have z:X.env.scope.names.lookup y=some .local:=z;rw[h3] at z;cases z
  .exact⟨u,c,ru,e1,e2⟩
 have E0':xm X.prog X.w X.K X.mg X.base X.A X.stack s1 (iA (bq X.env.cells) s1.heap H1):=by
  obtain⟨e1,e2,e3,e4,e5,e6,e7,e8⟩:=I1.NR;refine⟨e1,e2,fun b o eb=>⟨(e3 b o eb).1,?_⟩,e4,e5,fun b mP=>?_,ym e7 fun a c=>⟨(cF a c).1,rfl,(cF a c).2.1⟩,e8⟩
  .rw[bX fun z=>by rw[(cF b z).2.2.2] at eb;cases eb];exact(e3 b o eb).2
  .rw[bX fun z=>(cF b z).2.2.1 mP];exact e6 b mP
 have hl:us.length=ps.length:=by rw[<-r.length];exact F.len _ _ _ _ q'
 have mP:=hb s1 us I1.lK (by rw[i9];exact hl);rw[i9] at mP;refine kq (l9 (F.run X.A X.stack s1 _ ⟨us,[]⟩ us vs _ E0 hr E0' mP r q') fun rr s' hq=>?_);cases rr with
 |error e=>exact hq.elim
 |ok fl=>
  cases fl with
  |ret u=>
   obtain⟨v,H',os,bare,un,bE,rv,k1,k2⟩:=hq;have l':∀a,bq X.env.cells a->s'.heap.get? a=s1.heap.get? a:=fun a c=>(bE a _ (k1 a c)).1;exact I1.after ⟨v,pH _ H',os,bare,OC un (fun a c=>⟨(cF a c).1,rfl,(cF a c).2.2.1⟩) l',CG bE k1,rv,k2⟩
  |next=>exact False.elim hq
  |brk=>exact False.elim hq
  |cont=>exact False.elim hq
end
def wn(scope:Scope)(bT:List (Str×Addr))(qual:Str)(f c L:Addr):Env:=
 { scope:=scope,locals:=L,globals:=mainGlobals,cells:=bT,qual:=qual++".<locals>.",func:=some f,code:=.ref c,frame:=some L,builtins:=builtinsNs }
def A7(X:Cx)(NB:List Str)(scope:Scope)(bT:List (Str×Addr))(qual:Str)(f c:Addr)(s:Shared)(H:Hp):Cx:=
 { X with A:=X.A.deeper (wn scope bT qual f c s.heap.objs.size),N:=NB,s₀:=s,H₀:=H,env:=wn scope bT qual f c s.heap.objs.size,outer:=X.stack,stack:=wn scope bT qual f c s.heap.objs.size::X.stack,ex:=[],fn:=fun _=>false,pn:=[],xe:=fun _ _=>False }
structure CH(NB:List Str)(nP:Nat)(scope:Scope)(qual:Str)(params:Arguments)(body:Expr):Prop where
 kind:scope.kind=.function
 nd:NB.Nodup
 bind:∀bT pm c sY us,us.length=nP->bindArgs (PySem.W.kla_fn "<lambda>" qual params body scope bT pm (.ref c) sY) ⟨us,[]⟩=pure ((NB.take nP).zip us)
 par:∀x∈NB.take nP,scope.names.lookup x=some .local
 fr:∀i x,nP<=i->NB[i]?=some x->scope.names.lookup x=some .free
 mq:∀z∈scope.names,z.2≠.cell
 co:scope.isCoroutine=false
 gen:scope.isGenerator=false
theorem yo{x:Str}{v:Value}:∀ {l:List (Str×Value)},(l.map (·.1)).Nodup->(x,v)∈l->l.lookup x=some v
 |(y,u)::l,nd,h=>by
  obtain⟨n1,n2⟩:=eX.mp nd;rcases a_.mp h with z|z
  .injection z with z1 z2;rw[z1,z2,gh,beq_self_eq_true]
  .have ne:x≠y:=fun e=>n1 (by rw[<-e];exact bj.mpr ⟨_,z,rfl⟩);rw[gh,show (x==y)=false by simpa using ne];exact yo n2 z
theorem GW{x:Str}{v:Value}{l:List Str}{us:List Value}{i:Nat}(nd:l.Nodup)(hl:l.length<=us.length)(h1:l[i]?=some x)(h2:us[i]?=some v):(l.zip us).reverse.lookup x=some v:=by
 refine yo ?_ (List.mem_reverse.mpr (dk (i:=i) ?_))
 .rw[List.map_reverse,List.map_fst_zip hl];exact(vc l).nodup_iff.mpr nd
 .rw[Fb];exact⟨h1,h2⟩
section
variable {X:Cx} {ae:List (Addr×Obj)} {σ:St} {H:Hp} {s:Shared} {NB:List Str} {nP:Nat} {scope:Scope} {qual:Str} {params:Arguments} {body:Expr} {bT cells:List (Str×Addr)} {f c:Addr} {h₁ h0:Heap} {t₁:Nat} {vs ws:List V} {us:List Value}
theorem GX(I:aM X ae σ H s)(S:CH NB nP scope qual params body)(hd:X.A.handled=none)(WQ:X.calm=true)(c1:∀x c,bT.lookup x=some c->cells.lookup x=some c)(c2:∀x,(x,NameKind.free)∈scope.names->∃c,bT.lookup x=some c)(L:yn cells h0 H)(hw:∀ (i:Nat) (x:Str) (v:V),NB[nP+i]?=some x->ws[i]?=some v->uC cells h0 x v)(hn:h₁.Ns s.heap.objs.size (fun x=>((NB.take nP).zip us).reverse.lookup x))(hk:∀b o,s.heap.get? b=some o->h₁.get? b=some o)(rv:aZ vs us)(hv:vs.length=nP)(dO:nP+ws.length=NB.length):
  aM (A7 X NB scope bT qual f c s (pH (bq cells) H)) [] ((vs++ws).map some) (pH (bq cells) H) { s with heap:=h₁,toks:=t₁ }:=by
 have inS:∀ {x c},bT.lookup x=some c->bq cells c:=fun {x c} e=>⟨x,c1 x c e⟩
 have Rl:∀a,bq cells a->s.heap.get? a=h0.get? a:=fun a z=>(I.bE a _ (L.at_ a z)).1;have mm:∀x c v,cells.lookup x=some c->h0.IsCell c v->h₁.IsCell c v:=fun x c v e ⟨o,ho,Fp⟩=>⟨o,hk _ _ ((Rl c ⟨x,e⟩).trans ho),Fp⟩
 refine⟨⟨I.ok.mod,S.kind,rfl,rfl,aI _,fun x y c e1 e2=>L.inj x y c (c1 x c e1) (c1 y c e2),fun x hx=>?_,(fun x c z e=>by cases z),fun _=>hd,zL I.ok.frames,.inr ⟨rfl,rfl⟩,(fun b hb=>by cases hb),fun b o e=>⟨(I.bs b o e).1,iu (I.bs b o e).2⟩,aX I.ok.Dt I.sz,(fun b o e hb=>by cases hb),(fun b hb=>by cases hb),I.stack,fun b hb=>iu (I.mU b hb)⟩,
  rfl,I.bare,Un.kept hk,⟨_,hn,fun i x w e1 e2 e3=>?_⟩,fun x c e=>?_,iu (I.bE.fresh (aI _)),fun x c e=>iV (inS e),fun p hp=>absurd (show p∈([]:List (Addr×Obj)) from hp) (by simp),(CG I.bE L.at_).kept hk,?_⟩
 .have hx:scope.names.lookup x=some .cell\/scope.names.lookup x=some .free:=hx;rcases hx with z|z
  .exact absurd rfl (S.mq _ (iE z))
  .exact c2 x (iE z)
 .have e1:NB[i]?=some x:=e1;have e2:(vs++ws)[i]?=some w:=by
   rw[bu] at e2;obtain⟨w',h1,h2⟩:=uV.mp e2;rw[h1];exact h2
  by_cases hi:i<nP
  .rw[jM (by rw[hv];exact hi)] at e2;obtain⟨u,hu,ru⟩:=rv.get e2;have hp:(NB.take nP)[i]?=some x:=by rw[Fh hi];exact e1
   have hx:x∈NB.take nP:=dk hp;refine⟨u,ru,.inl ⟨S.par x hx,?_⟩⟩;exact GW (S.nd.sublist (oG _ _)) (by rw[<-rv.length,hv];exact zw _ _) hp hu
  .rw[qP (by rw[hv];lia),hv] at e2;obtain⟨u,c',ru,ec,hc⟩:=hw (i-nP) x w (by rw[show nP+(i-nP)=i by lia];exact e1) e2;have hF:=S.fr i x (by lia) e1;obtain⟨TV,T6⟩:=c2 x (iE hF);have:TV=c':=by have:=c1 x TV T6;rw[ec] at this;exact(bh this).symm
   subst this;exact⟨u,ru,.inr ⟨.inr hF,TV,T6,mm x TV _ ec hc⟩⟩
 .obtain⟨v,Jr⟩:=L.cell x c (c1 x c e);exact⟨v,mm x c v (c1 x c e) Jr⟩
 .show ((vs++ws).map some).length=NB.length;rw[aO,dE,hv];exact dO
def MW(nP:Nat)(scope:Scope)(qual:Str)(params:Arguments)(body:Expr)(NB:List Str)(te:TE)(f:Addr)(vs:List V)(H:Hp)(Q:VK):Prop:=∃ (cells:List (Str×Addr)) (c:Addr) (h0:Heap) (ws:List V),H f=some (nE f qual params body scope cells c)/\H c=some (kM c qual)/\vs.length=nP/\nP+ws.length=NB.length/\yn cells h0 H/\
 (∀ (i:Nat) (x:Str) (v:V),NB[nP+i]?=some x->ws[i]?=some v->uC cells h0 x v)/\te ((vs++ws).map some) (pH (bq cells) H) fun v H'=>(∀a,bq cells a->H' a=none)->Q v (iA (bq cells) h0 H')
theorem Ks{te:TE}{Q:VK}{k:Nat}(hr:bD k X.A)(WQ:X.calm=true)(S:CH NB nP scope qual params body)(I:aM X ae σ H s)(rv:aZ vs us)(hb:∀bT c s H,PE (A7 X NB scope bT qual f c s H) body te)(h:MW nP scope qual params body NB te f vs H Q):
  wpAny (model X.prog X.w) X.A (call (.ref f) us) (EP X ae σ Q) X.xe s:=by
 obtain⟨cells,c,h0,ws,hf,hc,hv,dO,L,hw,h⟩:=h;obtain⟨bT,pm,sY,c1,c2,JK⟩:=(I.bE f _ hf).1;have Ta:s.heap.CodeRec (.ref c) qual:=(I.bE c _ hc).1;have xN:X.A.depth<recursionLimit:=by have:=hr.dp;lia
 have hul:us.length=nP:=by rw[<-rv.length];exact hv
 refine kq (zi xN JK rfl S.co S.gen rfl Ta ?_);rw[S.bind _ _ _ _ _ hul];refine wpAny_pure (zG S.mq (fun x hx=>?_) (fun h₁ vW MB=>⟨I.nolimit.fresh _ MB,?_⟩) S.kind)
 .exact S.par _ (oO hx).1
 have JW:∀b o,s.heap.get? b=some o->h₁.get? b=some o:=fun b o e=>MB.extBut b o (bb (a9 e)) (bU _ e);refine zh ?_;have J:=GX (f:=f) (c:=c) (t₁:=s.toks+((NB.take nP).zip us).length) I S hr.hd WQ c1 c2 L hw vW JW rv hv dO;refine gn (hb bT c s _ [] _ _ _ _ J h) (fun w s' ⟨v',H',J',r',q'⟩=>?_) fun _ _ z=>z.elim;have kp:∀a,bq cells a->H' a=none/\s'.heap.get? a=h0.get? a/\∃o,h0.get? a=some o:=fun a z=>by
  obtain⟨y,ey⟩:=id z;have e0:s.heap.get? a=h0.get? a:=(I.bE a _ (L.at_ a z)).1;obtain⟨v,o,ho,_⟩:=L.cell y a ey;have es:s.heap.get? a=some o:=e0.trans ho;refine⟨J'.base.free a o es (iV z) (by intro z;cases z),?_,o,ho⟩;rw[ho];exact J'.base.keep a o es (iV z) (fun mP=>by have:=I.mU a mP;rw[L.at_ a z] at this;cases this) (by intro z;cases z)
 exact⟨v',iA (bq cells) h0 H',I.Fq (ch:=[]) J'.os (Kq J'.base L.at_) (ym J'.bE kp) J'.bare (fun b hb=>by cases hb),r',q' fun a z=>(kp a z).1⟩
def T7(i:Nat)(nP:Nat)(scope:Scope)(qual:Str)(params:Arguments)(body:Expr)(NB:List Str)(te:TE)(t:TA):TE:=fun σ H Q=>∃f,σ[i]?=some (some (.ref f))/\(∃cells c,H f=some (nE f qual params body scope cells c))/\t σ H fun vs H1=>MW nP scope qual params body NB te f vs H1 Q
theorem Ku{te:TE}{k i:Nat}{x:Str}{e:Expr}{es:List Expr}{t:TA}{p pos:Pos}(hr:bD k X.A)(WQ:X.calm=true)(S:CH NB nP scope qual params body)(hx:PE X (.Name x p) (aT i))(ha:PA X (e::es) t)(hb:∀f bT c s H,PE (A7 X NB scope bT qual f c s H) body te)(he:starEach (e::es) X.env=(false,eval e X.env)::starEach es X.env:=by rfl)(yR:(backTo pos (starEach es X.env)).any (·.1)=false:=by rfl):
  PE X (.Call (.Name x p) (e::es) [] pos) (T7 i nP scope qual params body NB te t):=by
 intro ae s σ H Q I h;obtain⟨f,hσ,⟨cells,c,hf⟩,h⟩:=h;have fn:∀ {s:Shared} {H:Hp} {cells:List (Str×Addr)} {c:Addr},j4 X.prog X.w H s.heap->H f=some (nE f qual params body scope cells c)->PySem.W.FnAt f s.heap:=fun {s H cells c} bE hf=>by
  obtain⟨bT,pm,sY,_,_,e⟩:=(bE f _ hf).1;exact⟨_,_,_,_,e⟩
 refine j_ (cJ (hx ae s σ H (fun v H1=>v=.ref f/\H1=H) I ⟨_,hσ,rfl,rfl⟩) fun u s1 ⟨v,H1,I1,r1,ev,eH⟩=>?_);subst ev;subst eH;cases r1;refine PySem.W.callWith_F (fn I1.bE hf) (cJ (ha pos ae s1 σ H1 _ I1 h) fun us s2 ⟨vs,H2,I2,r,q⟩=>⟨?_,?_⟩) he yR
 .obtain⟨YN,c',_,_,xE,_⟩:=id q;exact fn I2.bE xE
 .exact Ks hr WQ S I2 r (hb f) q
end
end L2
namespace qi
open PySem L2
def top(i:Nat):Stmt:=PySem.Challenge.pw_neverwait_k73_elder_bound.main.body.getD i (.Pass ⟨0,0,0,0⟩)
abbrev A8:Stmt:=top 2
abbrev wo:Stmt:=top 3
abbrev A9:Stmt:=top 4
abbrev OE:Stmt:=top 6
structure Bl(mg:Str->Option Value):Prop where
 OF:mg "isinstance"=none
 int:mg "int"=none
 bool:mg "bool"=none
 tup:mg "tuple"=none
 lst:mg "list"=none
 str:mg "str"=none
 set:mg "set"=none
 len:mg "len"=none
 range:mg "range"=none
 sorted:mg "sorted"=none
 any:mg "any"=none
 max:mg "max"=none
 min:mg "min"=none
 abW:mg "ValueError"=none
 all:mg "all"=none
def GY(K:PySem.W.Frag)(H:Hp)(x:V):Prop:=∃t,Mu K H x t/\(PySem.W.kitOne K t (.type "int")=some false\/(PySem.W.kitOne K t (.type "int")=some true/\PySem.W.kitOne K t (.type "bool")=some true))
theorem pZ:PySem.W.kitOne K (.type "int") (.type "int")=some true:=by kernel_rfl
theorem nR:PySem.W.kitOne K (.type "int") (.type "bool")=some false:=by kernel_rfl
inductive Wh (K:PySem.W.Frag) (H:Hp):V->Option Int->Prop where
 |int (i:Int):Wh K H (.int i) (some i)
 |no {x:V} (h:GY K H x):Wh K H x none
def wq(K:PySem.W.Frag):Sp:=fun vs H Q _=>∃x o,vs=[x]/\Wh K H x o/\Q (.bl o.isSome) H
section
variable {P:Program} {w:World} {K:PySem.W.Frag} {mg:Str->Option Value} {base:Heap}
theorem Kv:aB ["thing"] ["thing"] (ap A8):=⟨rfl,rfl,rfl,by decide +kernel,rfl,by decide +kernel,by decide +kernel⟩
theorem GZ(F:fH K "is_whole" "is_whole" A8 f fd)(B:Bl mg):bf P w K mg base aY 1 f fd ["thing"] (wq K):=by
 refine F.ok Kv (fun vs H Q E h=>?_) (fun dR A outer s H vs Q E hr h=>?_)
 .obtain⟨x,o,rfl,_⟩:=h;rfl
 .obtain⟨x,o,rfl,W,k⟩:=h;refine⟨_,aj (aL (jx (aN jc (by rfl) B.OF qN (aa (pv 0) (aa (lf (v:=.ty "int") rfl B.int zg rfl) ag)))
   (mf (ND (aN jc (by rfl) B.OF qN (aa (pv 0) (aa (lf (v:=.ty "bool") rfl B.bool PyProof.Rows.boot_bool rfl) ag))))))),?_⟩
  cases W with
  |int i=>
   refine⟨_,rfl,_,_,_,.type "int",true,rfl,⟨rfl,pZ⟩,.of (.int _),true,rfl,?_⟩;exact⟨_,rfl,_,_,_,.type "int",false,rfl,⟨rfl,nR⟩,.of (.int _),false,rfl,k⟩
  |no h=>
   obtain⟨t,ty,h|⟨h1,h2⟩⟩:=h
   .exact⟨_,rfl,_,_,_,t,false,rfl,⟨rfl,h⟩,ty,false,rfl,k⟩
   .refine⟨_,rfl,_,_,_,t,true,rfl,⟨rfl,h1⟩,ty,true,rfl,?_⟩;exact⟨_,rfl,_,_,_,t,true,rfl,⟨rfl,h2⟩,ty,true,rfl,k⟩
def iW(o:Option Int)(lo hi:Int):Bool:=match o with
 |some i=>decide (lo<=i)&&decide (i<=hi)
 |none=>false
def kX(K:PySem.W.Frag):Sp:=fun vs H Q _=>∃x o lo hi,vs=[x,.int lo,.int hi]/\Wh K H x o/\Q (.bl (iW o lo hi)) H
theorem G0:aB ["thing","least","most"] ["thing","least","most"] (ap wo):=⟨rfl,rfl,rfl,by decide +kernel,rfl,by decide +kernel,by decide +kernel⟩
theorem Ep(F:fH K "is_whole_within" "is_whole_within" wo f fd)(W:ce P w K mg base aY 1 "is_whole" ["thing"] (wq K)):bf P w K mg base aY 2 f fd ["thing","least","most"] (kX K):=by
 refine F.ok G0 (fun vs H Q E h=>?_) (fun dR A outer s H vs Q E hr h=>?_)
 .obtain⟨x,o,lo,hi,rfl,_⟩:=h;rfl
 .obtain⟨x,o,lo,hi,rfl,wh,k⟩:=h;refine⟨_,aj (aL (jx (aw W hr aA (aa (pv 0) ag)) (mf (Fz Mo Mo (pv 1) (pv 0) (pv 2))))),?_⟩;refine⟨_,rfl,x,o,rfl,wh,?_⟩;cases wh with
  |no h=>exact⟨false,rfl,k⟩
  |int i=>
   refine⟨true,rfl,_,rfl,_,rfl,_,_,rfl,rfl,_,rfl,?_⟩;show if decide (lo<=i)=true then _ else _
   have k':Q (.bl (decide (lo<=i)&&decide (i<=hi))) H:=k;by_cases h:lo<=i
   .rw[cZ h] at k' |-;exact⟨_,rfl,_,_,rfl,rfl,k'⟩
   .rw[fA h] at k' |-;exact k'
def qD(K:PySem.W.Frag):Sp:=fun vs H Q _=>∃x o n,vs=[.int n,x]/\Wh K H x o/\Q (.bl (iW o 0 (n-1))) H
theorem Kw:aB ["many","thing"] ["many","thing"] (ap A9):=⟨rfl,rfl,rfl,by decide +kernel,rfl,by decide +kernel,by decide +kernel⟩
theorem G4(F:fH K "is_house" "is_house" A9 f fd)(W:ce P w K mg base aY 2 "is_whole_within" ["thing","least","most"] (kX K)):bf P w K mg base aY 3 f fd ["many","thing"] (qD K):=by
 refine F.ok Kw (fun vs H Q E h=>?_) (fun dR A outer s H vs Q E hr h=>?_)
 .obtain⟨x,o,n,rfl,_⟩:=h;rfl
 .obtain⟨x,o,n,rfl,wh,k⟩:=h;refine⟨_,aj (aL (aw W hr aA (aa (pv 1) (aa au (aa (aU jA (pv 0) au) ag))))),?_⟩;exact⟨_,rfl,_,rfl,_,_,rfl,rfl,x,o,0,n-1,rfl,wh,k⟩
inductive Rw (K:PySem.W.Frag) (H:Hp):V->Option (List V)->Prop where
 |tup {p:Addr} {xs:List V} (h:H p=some (.tup xs)):Rw K H (.ref p) (some xs)
 |no {x:V} {t:Value} (ty:Mu K H x t) (h:PySem.W.kitOne K t (.type "tuple")=some false):Rw K H x none
def T8(o:Option (List V))(m:Int):Bool:=match o with
 |some xs=>decide ((xs.length:Int)=m)
 |none=>false
theorem Kx:PySem.W.kitOne K (.type "tuple") (.type "tuple")=some true:=by kernel_rfl
def G5(K:PySem.W.Frag):Sp:=fun vs H Q _=>∃x o m,vs=[x,.int m]/\Rw K H x o/\Q (.bl (T8 o m)) H
theorem T9:aB ["thing","length"] ["thing","length"] (ap OE):=⟨rfl,rfl,rfl,by decide +kernel,rfl,by decide +kernel,by decide +kernel⟩
theorem OG(F:fH K "is_row" "is_row" OE f fd)(B:Bl mg):bf P w K mg base aY 1 f fd ["thing","length"] (G5 K):=by
 refine F.ok T9 (fun vs H Q E h=>?_) (fun dR A outer s H vs Q E hr h=>?_)
 .obtain⟨x,o,m,rfl,_⟩:=h;rfl
 .obtain⟨x,o,m,rfl,W,k⟩:=h;refine⟨_,aj (aL (jx (aN jc (by rfl) B.OF qN (aa (pv 0) (aa (lf (v:=.ty "tuple") rfl B.tup qR rfl) ag)))
   (mf (hZ gR (aN aQ (by rfl) B.len d_ (aa (pv 0) ag)) (pv 1) (aW _))))),?_⟩
  cases W with
  |@tup p xs h=>
   refine⟨_,rfl,_,_,_,.type "tuple",true,rfl,⟨rfl,Kx⟩,.of (.tup h),true,rfl,?_⟩;refine⟨_,rfl,_,_,rfl,.inr (bJ.of h),_,rfl,rfl,?_⟩;have e:decide (V.int ((xs.length:Nat):Int)=V.int m)=decide (((xs.length:Nat):Int)=m):=by simp
   rw[e];exact k
  |no ty h=>exact⟨_,rfl,_,_,_,_,false,rfl,⟨rfl,h⟩,ty,false,rfl,k⟩
end
theorem bP(s:aG H H')(hD:H D=none):aG H (upd H' D o):=fun b u e=>by rw[ao (am e hD)];exact s b u e
abbrev IV(ns:List Int):List V:=ns.map V.int
abbrev NV(ns:List Nat):List V:=ns.map fun (x:Nat)=>V.int (x:Int)
theorem yp(G:St->Hp->Prop)(hr:∀σ H,G σ H->u D σ H)(ht:∀N:St->Hp->Prop,(∀σ H,G σ H->N σ H)->t { D with nx:=N } σ H):R9 t u D σ H:=ht _ hr
theorem MY{A B:Prop}(h:A):if true=true then A else B:=by rw[ak rfl];exact h
theorem T_{A B:Prop}(h:B):if false=true then A else B:=by rw[aq (by decide)];exact h
abbrev Zs:=List (Addr×(Int×Int))
abbrev G6(u:Int×Int):HO:=.tup [.int u.1,.int u.2]
def zr(zs:Zs):List V:=zs.map fun z=>V.ref z.1
def zp(zs:Zs):List (Int×Int):=zs.map (·.2)
def PO(H:Hp)(zs:Zs):Prop:=∀z∈zs,H z.1=some (G6 z.2)
theorem eU:zr (a++b)=zr a++zr b:=cR
theorem eA:zp (a++b)=zp a++zp b:=cR
theorem eC:(zr a).length=a.length:=aO _
theorem b9:(zp a).length=a.length:=aO _
theorem qE:zr a=(a.map (·.1)).map V.ref:=by unfold zr;rw[dH];rfl
theorem A_{zs:Zs}{i:Nat}{x:V}(h:(zr zs)[i]?=some x):∃z,zs[i]?=some z/\x=.ref z.1:=by
 unfold zr at h;rw[bu] at h;cases e:zs[i]? with
 |none=>rw[e] at h;cases h
 |some z=>rw[e] at h;exact⟨z,rfl,(bh h).symm⟩
theorem PO.nil:PO H []:=fun z hz=>(nomatch hz)
theorem PO.same(h:PO H zs)(s:aG H H'):PO H' zs:=fun z hz=>s _ _ (h z hz)
theorem PO.putL(h:PO H zs)(e:H D=some (.lst xs)):PO (upd H D o) zs:=fun z hz=>by
 have:=h z hz;rw[ao (by rintro rfl;rw[e] at this;cases this)];exact this
theorem PO.putN(h:PO H zs)(e:H D=none):PO (upd H D o) zs:=h.same (ai e)
theorem PO.append(h:PO H a)(h':PO H b):PO H (a++b):=fun z hz=>(cK.mp hz).elim (h z) (h' z)
theorem PO.one(h:H p=some (G6 u)):PO H [(p,u)]:=fun z hz=>by rw[cA.mp hz];exact h
theorem yq{zs:Zs}{i:Nat}(h:i<zs.length):(zs.map (·.1)).getD i 0=zs[i].1:=by
 rw[bZ,bu,b8 h];rfl
theorem CJ(h:i<zs.length):(zp zs).getD i (0,0)=zs[i].2:=by
 unfold zp;rw[bZ,bu,b8 h];rfl
theorem Ba{K:PySem.W.Frag}{Mr:Bool}{H:Hp}{p l:Addr}{u:Int×Int}{zs:Zs}{Q:VK}(hp:H p=some (G6 u))(hl:H l=some (.lst (zr zs)))(ho:PO H zs)(q:Q (.bl (if Mr then !decide (u∈zp zs) else decide (u∈zp zs))) H):Kj K Mr (.ref p) (.ref l) H Q:=
 ⟨p,l,u,zs.map (·.1),zp zs,rfl,rfl,bJ.of hp,a8.of (by rw[<-qE];exact hl),by rw[aO,b9],fun i hi=>by
  rw[b9] at hi;rw[yq hi,CJ hi];exact bJ.of (ho _ (fh hi)),q⟩
theorem Er{H:Hp}{zs:Zs}(ho:PO H zs){as:List Addr}(h:as.Perm (zs.map (·.1))):∃ye:Zs,ye.Perm zs/\as=ye.map (·.1):=by
 classical
 let f:Addr->Int×Int:=fun a=>match H a with
  |some (.tup [.int x,.int y])=>(x,y)
  |_=>(0,0)
 have e:(zs.map (·.1)).map (fun a=>(a,f a))=zs:=by
  rw[dH];conv=>rhs;rw[<-oY zs]
  refine jO fun z hz=>?_;have:=ho z hz;show (z.1,f z.1)=z;have e2:f z.1=z.2:=by
   show (match H z.1 with|some (.tup [.int x,.int y])=>(x,y)|_=>(0,0))=z.2;rw[this]
  rw[e2]
 refine⟨as.map fun a=>(a,f a),?_,?_⟩
 .have:=h.map (fun a=>(a,f a));rw[e] at this;exact this
 .rw[dH];exact(oY as).symm
abbrev Ord(us:List (Int×Int)):Prop:=us=us
theorem Ky{K:PySem.W.Frag}{H:Hp}{l:Addr}{zs:Zs}{Q:VK}(hl:H l=some (.lst (zr zs)))(ho:PO H zs)(hz:zs.length<=4096)(hb:∀u∈zp zs,0<=u.2/\u.2<64)(q:∀ (D:Addr) (ye:Zs),H D=none->ye.Perm zs->Ord (zp ye)->Q (.ref D) (upd H D (.lst (zr ye)))):Gy K [.ref l] H Q:=by
 refine⟨l,zs.map (·.1),rfl,a8.of (by rw[<-qE];exact hl),fun a ha=>?_,by rw[aO];exact hz,fun D yT hD hp=>?_⟩
 .obtain⟨z,hz,rfl⟩:=bj.mp ha;exact⟨_,_,bJ.of (ho z hz)⟩
 .obtain⟨ye,h1,rfl⟩:=Er ho hp;rw[<-qE];exact q D ye hD h1 rfl
theorem yr(F:Nat->Int×Int)(dL:St->Prop)(hD:H0 D=none)(hn:n<=100000)(h0:dL σB)(hs:∀i σ H (R:V->St->Hp->Prop) (Kf:St->Hp->Prop),i<n->dL σ->aG H0 H->(∀σ2 p,dL σ2->H p=none->R (.ref p) σ2 (upd H p (G6 (F i))))->g (.int (lo+i)) σ H fun σ2 H2=>tt σ2 H2 fun b H3=>if b=true then te σ2 H3 fun v H4=>R v σ2 H4 else Kf σ2 H3)(hd:∀zs H,aG H0 H->H D=some (.lst (zr zs))->PO H zs->zp zs=(List.range n).map F->(∀z∈zs,H0 z.1=none)->dS H):hV (Fw lo n) g tt te D dS σB (upd H0 D (.lst [])):=by
 refine fq (fun i ys σ H=>dL σ/\aG H0 H/\H D=some (.lst ys)/\∃zs:Zs,ys=zr zs/\PO H zs/\zp zs=(List.range i).map F/\∀z∈zs,H0 z.1=none) ⟨h0,ai hD,af,[],rfl,PO.nil,rfl,fun z hz=>nomatch hz⟩ ?_ ?_
 .rintro i ys σ H Kt Kf hi ⟨sh,sm,nU,zs,rfl,po,ep,fr⟩ kt kf;have hl:zs.length=i:=by rw[<-b9,ep,aO,dQ]
  refine hs i σ H Kt Kf hi sh sm (fun σ2 p Bb hp=>?_)
  .have nD:D≠p:=am nU hp;refine kt _ _ _ (by rw[ao nD];exact nU) (by rw[eC,hl];exact cz hi (aX hn (by decide))) ⟨Bb,bP (sm.trans (ai hp)) hD,af,zs++[(p,F i)],?_,?_,?_,?_⟩
   .rw[eU];rfl
   .refine PO.putL (xs:=zr zs) ?_ (by rw[ao nD];exact nU);exact(po.putN hp).append (PO.one af)
   .rw[eA,ep,ii,cR];rfl
   .intro z hz;rcases cK.mp hz with z'|z'
    .exact fr z z'
    .rw[cA.mp z'];exact sm.free hp
 .rintro ys σ H ⟨_,sm,nU,zs,rfl,po,ep,fr⟩;exact hd zs H sm nU po ep fr
theorem yt{K:PySem.W.Frag}{a D:Addr}{yV:Zs}{g:TG}{tt:TT}{te:TE}{dS:Hp->Prop}{σB:St}{H0:Hp}(F:Int×Int->Int×Int)(dL:St->Prop)(ha:H0 a=some (.lst (zr yV)))(hp0:PO H0 yV)(hD:H0 D=none)(hn:yV.length<=100000)(h0:dL σB)(hs:∀z σ H (R:V->St->Hp->Prop) (Kf:St->Hp->Prop),z∈yV->dL σ->aG H0 H->H z.1=some (G6 z.2)->(∀σ2 p,dL σ2->H p=none->R (.ref p) σ2 (upd H p (G6 (F z.2))))->g (.ref z.1) σ H fun σ2 H2=>tt σ2 H2 fun b H3=>if b=true then te σ2 H3 fun v H4=>R v σ2 H4 else Kf σ2 H3)(hd:∀zs H,aG H0 H->H D=some (.lst (zr zs))->PO H zs->zp zs=(zp yV).map F->(∀z∈zs,H0 z.1=none)->dS H):hV (Jm K a) g tt te D dS σB (upd H0 D (.lst [])):=by
 refine eT (xs:=zr yV) (fun i ys σ H=>dL σ/\aG H0 H/\H D=some (.lst ys)/\∃zs:Zs,ys=zr zs/\PO H zs/\zp zs=((zp yV).take i).map F/\∀z∈zs,H0 z.1=none) ⟨h0,ai hD,af,[],rfl,PO.nil,rfl,fun z hz=>nomatch hz⟩ (fun i ys σ H _ z=>a8.of (z.2.1 _ _ ha)) ?_ ?_
 .rintro i x ys σ H Kt Kf hx ⟨sh,sm,nU,zs,rfl,po,ep,fr⟩ kt kf;obtain⟨z,hz,rfl⟩:=A_ hx;have hi:i<yV.length:=(cu.mp hz).1;have MZ:z∈yV:=dk hz;have hl:zs.length=i:=by rw[<-b9,ep,aO,oJ,b9];lia
  refine hs z σ H Kt Kf MZ sh sm (sm _ _ (hp0 z MZ)) (fun σ2 p Bb hp=>?_)
  .have nD:D≠p:=am nU hp;refine kt _ _ _ (by rw[ao nD];exact nU) (by rw[eC,hl];exact cz hi (aX hn (by decide))) ⟨Bb,bP (sm.trans (ai hp)) hD,af,zs++[(p,F z.2)],?_,?_,?_,?_⟩
   .rw[eU];rfl
   .refine PO.putL (xs:=zr zs) ?_ (by rw[ao nD];exact nU);exact(po.putN hp).append (PO.one af)
   .have e2:(zp yV)[i]?=some z.2:=by unfold zp;rw[bu,hz];rfl
    rw[eA,ep,gO,e2,Option.toList_some,cR];rfl
   .intro z hz;rcases cK.mp hz with z'|z'
    .exact fr z z'
    .rw[cA.mp z'];exact sm.free hp
 .rintro ys σ H ⟨_,sm,nU,zs,rfl,po,ep,fr⟩;rw[eC,<-b9,jQ] at ep;exact hd zs H sm nU po ep fr
open gg
abbrev CK:Stmt:=h9 (top 35) 0
abbrev OH:Stmt:=h9 (top 35) 3
abbrev OI:Stmt:=h9 (top 35) 4
abbrev G7:Stmt:=h9 (top 35) 5
abbrev G8:Stmt:=h9 (top 35) 6
abbrev Bc:Stmt:=h9 (top 35) 8
theorem n12:¬ (("house_count":Str)="tie_list"):=by decide +kernel
theorem n13:¬ (("house_count":Str)="out_lists"):=by decide +kernel
theorem n14:¬ (("house_count":Str)="distances"):=by decide +kernel
theorem n34:¬ (("out_lists":Str)="distances"):=by decide +kernel
def pI(n:Int)(tl ol ds:Addr):List (Str×V):=dX "distances" (.ref ds) (dX "out_lists" (.ref ol) (dX "tie_list" (.ref tl) (dX "house_count" (.int n) [])))
theorem Kz(n:Int)(tl ol ds:Addr):(pI n tl ol ds).lookup ("house_count":Str)=some (.int n):=by
 unfold pI;rw[bC,aq n14,bC,aq n13,bC,aq n12,bC,ak rfl]
theorem nV(n:Int)(tl ol ds:Addr){m:Str}(h1:¬ m="house_count")(h2:¬ m="tie_list")(h3:¬ m="out_lists")(h4:¬ m="distances"):(pI n tl ol ds).lookup m=none:=by
 unfold pI;rw[bC,aq h4,bC,aq h3,bC,aq h2,bC,aq h1];all_goals rfl
theorem CL(n:Int)(tl ol ds:Addr):(pI n tl ol ds).lookup ("out_lists":Str)=some (.ref ol):=by
 unfold pI;rw[bC,aq n34,bC,ak rfl]
theorem wr(n:Int)(tl ol ds:Addr):(pI n tl ol ds).lookup ("distances":Str)=some (.ref ds):=by
 unfold pI;rw[bC,ak rfl]
def ff(H:Hp)(L:Addr->Prop)(l:Addr)(n:Nat)(r:Nat->List Nat):Prop:=∃bs:List Addr,H l=some (.lst (bs.map V.ref))/\(∀b∈bs,L b)/\Holds H bs n (fun h=>.lst (NV (r h)))
theorem ff.keep(R:ff H L l n r)(hl:L l)(k:∀b o,L b->H b=some o->H' b=some o):ff H' L l n r:=
 let ⟨bs,a,b,c⟩:=R
 ⟨bs,k _ _ hl a,b,c.mono fun j hj e=>k _ _ (b _ (by rw[bZ,b8 (by rw[c.1];exact hj)];exact fh _)) e⟩
theorem ff.row(R:ff H L l n r)(hh:h<n):∃ (bs:List Addr) (b:Addr),H l=some (.lst (bs.map V.ref))/\(bs.map V.ref)[h]?=some (V.ref b)/\H b=some (.lst (NV (r h)))/\L b:=by
 obtain⟨bs,a,b,c⟩:=R;have hl:h<bs.length:=by rw[c.1];exact hh
 refine⟨bs,bs[h],a,by rw[bu,b8 hl];rfl,?_,b _ (fh _)⟩;have:=c.2 h hh;rw[bZ,b8 hl] at this;exact this
def KA(H:Hp)(L:Addr->Prop)(tl:Addr)(ts:Ts):Prop:=L tl/\∃zs:Zs,H tl=some (.lst (zr zs))/\PO H zs/\(∀z∈zs,L z.1)/\(zp zs).Perm ts/\Ord (zp zs)
theorem KA.keep(h:KA H L tl ts)(k:∀b o,L b->H b=some o->H' b=some o):KA H' L tl ts:=
 let ⟨a,zs,b,c,d,e⟩:=h;⟨a,zs,k _ _ a b,fun z hz=>k _ _ (d z hz) (c z hz),d,e⟩
structure cH(C:Addr)(H:Hp)(L:Addr->Prop)(p:Addr)(n:Nat)(ts:Ts):Prop where
 gw:bR n ts
 ob:∃dx tl ol ds,H p=some (.ins C dx (pI n tl ol ds))/\L ol/\L ds/\ff H L ol n (bg n ts)/\ff H L ds n (fun h=>(List.range n).map (far ts h))/\KA H L tl ts
theorem cH.keep(N:cH C H L p n ts)(k:∀b o,L b->H b=some o->H' b=some o)(kp:∀o,H p=some o->H' p=some o):cH C H' L p n ts:=
 let ⟨dx,tl,ol,ds,a,l1,l2,b,c,d⟩:=N.ob
 ⟨N.gw,dx,tl,ol,ds,kp _ a,l1,l2,b.keep l1 k,c.keep l2 k,d.keep k⟩
theorem cH.same(N:cH C H L p n ts)(s:aG H H'):cH C H' L p n ts:=N.keep (fun b o _ e=>s b o e) (fun o e=>s _ o e)
structure NT(K:PySem.W.Frag)(mg:Str->Option Value)(C:Addr):Prop where
 cl:EO K C
 nH:iT K C "house_count"
 nT:iT K C "tie_list"
 nO:iT K C "out_lists"
 nD:iT K C "distances"
 Rm:mg "Net"=some (.ref C)
structure iB(P:Program)(w:World)(K:PySem.W.Frag)(mg:Str->Option Value)(base:Heap)(CX:wY)(k:Nat)(C:Addr)(x:Str)(ps:List Str)(sp:Sp):Prop where
 ex:∃f fd,Jv K C x f/\jX K fd ps []/\bf P w K mg base CX k f fd ps sp
section
variable {P:Program} {w:World} {K:PySem.W.Frag} {mg:Str->Option Value} {base:Heap}
theorem KB:aB ["self","thing"] ["self","thing"] (ap Bc):=⟨rfl,rfl,rfl,by decide +kernel,rfl,by decide +kernel,by decide +kernel⟩
theorem pJ{i n:Nat}(h:i<n):iW (some (i:Int)) 0 ((n:Int)-1)=true:=by unfold iW;simp;lia
def nW(C:Addr):Sp:=fun vs H Q _=>∃ (L:Addr->Prop) (p:Addr) (n:Nat) (ts:Ts) (i:Nat),vs=[.ref p,.int i]/\cH C H L p n ts/\i<n/\Q .cf H
theorem Es{f C:Addr}{fd:FuncData}(F:fH K "check_house" "Net.check_house" Bc f fd)(T:NT K mg C)(HH:ce P w K mg base aY 3 "is_house" ["many","thing"] (qD K)):
  bf P w K mg base aY 4 f fd ["self","thing"] (nW C):=by
 refine F.ok KB (fun vs H Q E h=>?_) (fun dR A outer s H vs Q E hr h=>?_)
 .obtain⟨L,p,n,ts,i,rfl,_⟩:=h;rfl
 .obtain⟨L,p,n,ts,i,rfl,N,hi,k⟩:=h;obtain⟨dx,tl,ol,ds,h1,_⟩:=N.ob;refine⟨_,aj (cw (jw (fR (aw HH hr aA (aa (kC (pv 0) rfl) (aa (pv 1) ag))))) fD be),?_⟩;refine⟨_,rfl,p,C,dx,_,_,rfl,h1,T.cl,T.nH,Kz _ _ _ _,_,rfl,_,some (i:Int),n,rfl,.int _,_,rfl,?_⟩;rw[pJ hi];exact iq k
theorem OJ(n:Int)(tl ol ds:Addr):(pI n tl ol ds).lookup ("check_house":Str)=none:=nV n tl ol ds (by decide +kernel) (by decide +kernel) (by decide +kernel) (by decide +kernel)
theorem OK(n:Int)(tl ol ds:Addr):(pI n tl ol ds).lookup ("far":Str)=none:=nV n tl ol ds (by decide +kernel) (by decide +kernel) (by decide +kernel) (by decide +kernel)
theorem aS:(NV xs).length=xs.length:=aO _
theorem Ua:aB ["self","house"] ["self","house"] (ap OH):=⟨rfl,rfl,rfl,by decide +kernel,rfl,by decide +kernel,by decide +kernel⟩
def wu(C:Addr):Sp:=fun vs H Q _=>∃ (L:Addr->Prop) (p:Addr) (n:Nat) (ts:Ts) (i:Nat),vs=[.ref p,.int i]/\cH C H L p n ts/\i<n/\∀r H',aG H H'->H r=none->H' r=some (.lst (NV (bg n ts i)))->Q (.ref r) H'
theorem KC(F:fH K "out" "Net.out" OH f fd)(T:NT K mg C)(B:Bl mg)(M:iB P w K mg base aY 4 C "check_house" ["self","thing"] (nW C)):
  bf P w K mg base aY 5 f fd ["self","house"] (wu C):=by
 obtain⟨fM,fdM,mM,bM,GM⟩:=M.ex;refine F.ok Ua (fun vs H Q E h=>?_) (fun dR A outer s H vs Q E hr h=>?_)
 .obtain⟨L,p,n,ts,i,rfl,_⟩:=h;rfl
 .obtain⟨L,p,n,ts,i,rfl,N,hi,k2⟩:=h;obtain⟨dx,tl,ol,ds,h1,_,_,R,_⟩:=N.ob;refine⟨_,ah (cS (dY (pv 0) T.cl mM GM hr bM .nil aA (aa (pv 1) ag)))
   (aj (aL (bW jB (by rfl) B.lst qS (aa (a7 aV (kC (pv 0) rfl) (pv 1) (fun _ _=>rfl)) ag)))),?_⟩
  refine⟨_,rfl,p,dx,_,rfl,h1,OJ _ _ _ _,_,rfl,L,p,n,ts,i,rfl,N,hi,?_⟩;obtain⟨bs,b,r1,r2,r3,_⟩:=R.row hi;exact⟨_,rfl,p,C,dx,_,_,rfl,h1,T.cl,T.nO,CL _ _ _ _,_,rfl,ol,_,_,_,rfl,rfl,a8.of r1,aH r2,b,_,rfl,.inl (a8.of r3),fun l hl=>k2 l _ (ai hl) hl af⟩
theorem Ub:aB ["self","one","other"] ["self","one","other"] (ap OI):=⟨rfl,rfl,rfl,by decide +kernel,rfl,by decide +kernel,by decide +kernel⟩
def pK(C:Addr):Sp:=fun vs H Q _=>∃ (L:Addr->Prop) (p:Addr) (n:Nat) (ts:Ts) (i j:Nat),vs=[.ref p,.int i,.int j]/\cH C H L p n ts/\i<n/\j<n/\Q (.int (far ts i j:Nat)) H
theorem KD(F:fH K "far" "Net.far" OI f fd)(T:NT K mg C)(M:iB P w K mg base aY 4 C "check_house" ["self","thing"] (nW C)):
  bf P w K mg base aY 5 f fd ["self","one","other"] (pK C):=by
 obtain⟨fM,fdM,mM,bM,GM⟩:=M.ex;refine F.ok Ub (fun vs H Q E h=>?_) (fun dR A outer s H vs Q E hr h=>?_)
 .obtain⟨L,p,n,ts,i,j,rfl,_⟩:=h;rfl
 .obtain⟨L,p,n,ts,i,j,rfl,N,hi,hj,k⟩:=h;obtain⟨dx,tl,ol,ds,h1,_,_,_,R,_⟩:=N.ob;refine⟨_,ah (cS (dY (pv 0) T.cl mM GM hr bM .nil aA (aa (pv 1) ag)))
   (ah (cS (dY (pv 0) T.cl mM GM hr bM .nil aA (aa (pv 2) ag)))
   (aj (aL (a7 aV (a7 aV (kC (pv 0) rfl) (pv 1) (fun _ _=>rfl)) (pv 2) (fun _ _=>rfl))))),?_⟩
  refine⟨_,rfl,p,dx,_,rfl,h1,OJ _ _ _ _,_,rfl,L,p,n,ts,i,rfl,N,hi,?_⟩;refine⟨_,rfl,p,dx,_,rfl,h1,OJ _ _ _ _,_,rfl,L,p,n,ts,j,rfl,N,hj,?_⟩;obtain⟨bs,b,r1,r2,r3,_⟩:=R.row hi;have hg:(NV ((List.range n).map (far ts i)))[j]?=some (.int (far ts i j:Nat)):=by
   rw[bu,bu,j7 hj];rfl
  exact⟨_,rfl,p,C,dx,_,_,rfl,h1,T.cl,T.nD,wr _ _ _ _,_,rfl,ds,_,_,_,rfl,rfl,a8.of r1,aH r2,_,rfl,b,_,_,_,rfl,rfl,a8.of r3,aH hg,k⟩
end
open PySem L2 gg
abbrev Bd:Stmt:=top 36
abbrev OL:Stmt:=top 37
abbrev OM:Stmt:=top 38
section
variable {P:Program} {w:World} {K:PySem.W.Frag} {mg:Str->Option Value} {base:Heap}
abbrev ON:Stmt:=top 5
theorem Uc:aB ["many","one","other"] ["many","one","other"] (ap ON):=⟨rfl,rfl,rfl,by decide +kernel,rfl,by decide +kernel,by decide +kernel⟩
def G9:Sp:=fun vs H Q _=>∃ (n a b:Int),vs=[.int n,.int a,.int b]/\0<=a/\a<n/\0<=b/\b<n/\a≠b/\Q (.bl true) H
theorem OO(F:fH K "are_unlike_houses" "are_unlike_houses" ON f fd)(HH:ce P w K mg base aY 3 "is_house" ["many","thing"] (qD K)):
  bf P w K mg base aY 4 f fd ["many","one","other"] G9:=by
 refine F.ok Uc (fun vs H Q E h=>?_) (fun dR A outer s H vs Q E hr h=>?_)
 .obtain⟨n,a,b,rfl,_⟩:=h;rfl
 .obtain⟨n,a,b,rfl,a1,a2,b1,b2,jb,k⟩:=h;refine⟨_,aj (aL (jx (aw HH hr aA (aa (pv 0) (aa (pv 1) ag))) (jx (aw HH hr aA (aa (pv 0) (aa (pv 2) ag))) (mf (hZ rG (pv 1) (pv 2) (aW _)))))),?_⟩;refine⟨_,rfl,_,rfl,_,_,n,rfl,.int a,_,rfl,?_⟩;rw[ak (show iW (some a) 0 (n-1)=true by unfold iW;simp;lia)];refine⟨_,rfl,_,rfl,_,_,n,rfl,.int b,_,rfl,?_⟩;rw[ak (show iW (some b) 0 (n-1)=true by unfold iW;simp;lia)];refine⟨_,rfl,_,rfl,rfl,?_⟩;have e:(!decide (V.int a=V.int b))=true:=by simp[jb]
  rw[e];exact k
theorem Ud:aB ["many","thing"] ["many","thing"] (ap OL):=⟨rfl,rfl,rfl,by decide +kernel,rfl,by decide +kernel,by decide +kernel⟩
def G_:Sp:=fun vs H Q _=>∃ (n:Int) (p:Addr) (a b:Int),vs=[.int n,.ref p]/\H p=some (.tup [.int a,.int b])/\0<=a/\a<n/\0<=b/\b<n/\a≠b/\Q (.bl true) H
theorem OP(F:fH K "is_tie" "is_tie" OL f fd)(R:ce P w K mg base aY 1 "is_row" ["thing","length"] (G5 K))(U:ce P w K mg base aY 4 "are_unlike_houses" ["many","one","other"] G9):
  bf P w K mg base aY 5 f fd ["many","thing"] G_:=by
 refine F.ok Ud (fun vs H Q E h=>?_) (fun dR A outer s H vs Q E hr h=>?_)
 .obtain⟨n,p,a,b,rfl,_⟩:=h;rfl
 .obtain⟨n,p,a,b,rfl,hp,a1,a2,b1,b2,jb,k⟩:=h;refine⟨_,aj (aL (jx (aw R (hr.mono (by decide)) aA (aa (pv 1) (aa au ag)))
   (mf (aw U hr aA (aa (pv 0) (aa (a7 df (pv 1) au (fun _ _=>rfl)) (aa (a7 df (pv 1) au (fun _ _=>rfl)) ag))))))),?_⟩
  refine⟨_,rfl,_,_,_,rfl,.tup hp,true,rfl,?_⟩;exact⟨_,rfl,_,rfl,p,_,_,_,rfl,rfl,bJ.of hp,aH (j:=0) rfl,_,rfl,p,_,_,_,rfl,rfl,bJ.of hp,aH (j:=1) rfl,n,a,b,rfl,a1,a2,b1,b2,jb,k⟩
theorem CM:aB ["many","ties","tie"] ["many","ties"] (ap Bd):=⟨rfl,rfl,rfl,by decide +kernel,rfl,by decide +kernel,by decide +kernel⟩
theorem Ha:PySem.W.kitOne K (.type "list") (.type "list")=some true:=by kernel_rfl
structure gx(H:Hp)(l:Addr)(n:Nat)(zs:Zs):Prop where
 gw:bR n (zp zs)
 at_:H l=some (.lst (zr zs))
 po:PO H zs
theorem gx.same(h:gx H l n zs)(s:aG H H'):gx H' l n zs:=⟨h.gw,s _ _ h.at_,h.po.same s⟩
def ln:Sp:=fun vs H Q _=>∃ (n:Nat) (l:Addr) (zs:Zs),vs=[.int n,.ref l]/\gx H l n zs/\∀H',aG H H'->Q .cf H'
theorem Hb(F:fH K "check_ties" "check_ties" Bd f fd)(B:Bl mg)(gF:∃t,mg "FEWEST_HOUSES"=some (.int 2 t))(gM:∃t,mg "MOST_HOUSES"=some (.int 32 t))(W:ce P w K mg base aY 2 "is_whole_within" ["thing","least","most"] (kX K))(T:ce P w K mg base aY 5 "is_tie" ["many","thing"] G_):
  bf P w K mg base aY 6 f fd ["many","ties"] ln:=by
 obtain⟨tF,gF⟩:=gF;obtain⟨tM,gM⟩:=gM;refine F.ok CM (fun vs H Q E h=>?_) (fun dR A outer s H vs Q E hr h=>?_)
 .obtain⟨n,l,zs,rfl,_⟩:=h;rfl
 .refine⟨_,ah (cw (jw (fR (aw W (hr.mono (by decide)) aA (aa (pv 0) (aa (qp (v:=.int 2) rfl gF ⟨_,rfl⟩) (aa (qp (v:=.int 32) rfl gM ⟨_,rfl⟩) ag)))))) fD be)
   (ah (cw (jw (fR (aN jc (by rfl) B.OF qN (aa (pv 1) (aa (lf (v:=.ty "list") rfl B.lst qS rfl) ag))))) fD be)
   (ah (cD dt rfl (b_ (pv 1)) (av (i:=2) CM.nd rfl (Or.inl rfl)) (aj (cw (jw (fR (aw T hr aA (aa (pv 0) (aa (pv 2) ag))))) fD be)))
   (aj (cw (aP rG (aN xK (by rfl) B.len d_ (aa (bW (DT rfl (by have:=hr.un;show (A.deeper _).units+8<_;lia)) (by rfl) B.set PyProof.Rows.boot_set (aa (pv 1) ag)) ag)) (aN aQ (by rfl) B.len d_ (aa (pv 1) ag)) (aW _)) fD be)))),?_⟩
  obtain⟨n,l,zs,rfl,tt,k⟩:=h;obtain⟨fi,hl,po⟩:=id tt;have n1:=fi.n1;have n2:=fi.n2;refine⟨_,rfl,_,_,2,32,rfl,.int n,_,rfl,?_⟩;rw[show iW (some (n:Int)) 2 32=true by unfold iW;simp;lia];refine iq ?_;refine⟨_,rfl,_,_,_,.type "list",true,rfl,⟨rfl,Ha⟩,.of (.lst hl),_,rfl,iq ?_⟩;refine⟨_,rfl,l,rfl,⟨_,a8.of hl⟩,gQ (K:=K) (a:=l) (xs:=zr zs) (fun i σ H2=>H2=H/\∃v,σ=[some (.int n),some (.ref l),v]) ⟨rfl,none,rfl⟩ (fun i σ H2 _ ⟨e,_⟩=>by rw[e];exact a8.of hl) ?_ ?_⟩
  .rintro i x σ H2 hx ⟨rfl,v,rfl⟩;obtain⟨z,hz,rfl⟩:=A_ hx;have MZ:z∈zs:=dk hz;have hzp:z.2∈zp zs:=bj.mpr ⟨z,MZ,rfl⟩;have r:=fi.rg _ hzp;exact⟨_,rfl,_,rfl,n,_,_,_,rfl,po z MZ,r.1.1,r.1.2,r.2.1,r.2.2,fi.ne _ hzp,_,rfl,iq ⟨rfl,_,rfl⟩⟩
  .rintro σ H2 ⟨rfl,v,rfl⟩;have dO:(zp zs).length<=256:=fi.len;refine⟨_,rfl,l,zs.map (·.1),zp zs,rfl,a8.of (by rw[<-qE];exact hl),by rw[aO,b9],fun i hi=>?_,fi.nd,fun y hy=>?_,by lia,fun D hD=>?_⟩
   .rw[b9] at hi;rw[yq hi,CJ hi];exact bJ.of (po _ (fh hi))
   .have r:=fi.rg _ hy;lia
   .have nl:l≠D:=am hl hD;refine⟨D,_,rfl,af,by lia,_,rfl,l,zr zs,rfl,.inl (a8.of (by rw[ao nl];exact hl)),rfl,_,rfl,?_⟩;have ez:(!decide (V.int (((zp zs).length:Nat):Int)=V.int (((zr zs).length:Nat):Int)))=false:=by rw[b9,eC];simp
    rw[ez];exact iq (k _ (ai hD))
end
abbrev yu:Stmt:=top 39
section
variable {P:Program} {w:World} {K:PySem.W.Frag} {mg:Str->Option Value} {base:Heap}
theorem lq(S:St->Prop)(p q:Int×Int->Int)(h:Int)(hD:H D=none)(hl:H l=some (.lst (zr zs)))(po:PO H zs)(hn:zs.length<=1000)(s0:S σB)(hg:∀z σ H2 (Kt:V->St->Hp->Prop) (Kf:St->Hp->Prop),z∈zs->S σ->H2 z.1=some (G6 z.2)->(∀σ2,S σ2->p z.2=h->Kt (.int (q z.2)) σ2 H2)->(∀σ2,S σ2->p z.2≠h->Kf σ2 H2)->
   g (.ref z.1) σ H2 fun σ2 H2=>tt σ2 H2 fun b H3=>if b=true then te σ2 H3 fun v H4=>Kt v σ2 H4 else Kf σ2 H3)(hd:dS (upd H D (.lst (IV (((zp zs).filter fun y=>decide (p y=h)).map q))))):hV (Jm K l) g tt te D dS σB (upd H D (.lst [])):=by
 have nl:l≠D:=am hl hD;have tk:∀ {i:Nat} {z:Addr×(Int×Int)},zs[i]?=some z->(zp zs).take (i+1)=(zp zs).take i++[z.2]:=fun {i z} hz=>by
  rw[gO,show (zp zs)[i]?=some z.2 by unfold zp;rw[bu,hz];rfl];rfl
 refine eT (xs:=zr zs) (fun i ys σ H2=>S σ/\ys=IV ((((zp zs).take i).filter fun y=>decide (p y=h)).map q)/\H2=upd H D (.lst ys)) ⟨s0,by simp,rfl⟩ (fun i ys σ H2 _ ⟨_,_,e⟩=>by rw[e];exact a8.of (by rw[ao nl];exact hl)) ?_ ?_
 .rintro i x ys σ H2 Kt Kf hx ⟨hS,ey,rfl⟩ kt kf;obtain⟨z,hz,rfl⟩:=A_ hx;have MZ:z∈zs:=dk hz;have hp:=po z MZ;have na:z.1≠D:=am hp hD;have hi:i<zs.length:=(cu.mp hz).1;refine hg z σ _ Kt Kf MZ hS (by rw[ao na];exact hp) (fun σ2 s2 e=>?_) (fun σ2 s2 e=>?_)
  .refine kt _ _ _ af ?_ ⟨s2,?_,?_⟩
   .rw[ey,aO,aO];exact fK (g8 _ _) (fK (zw _ _) (cz (show i<1000 by lia) (by decide)))
   .rw[ey,tk hz,gN,cR];have:decide (p z.2=h)=true:=by simp[e]
    simp[eF,this]
   .rw[jt]
  .refine kf _ _ ⟨s2,?_,rfl⟩;have:decide (p z.2=h)=false:=by simp[e]
   rw[ey,tk hz,gN];simp[eF,this]
 .rintro ys σ H2 ⟨_,ey,rfl⟩;rw[eC,<-b9,jQ] at ey;rw[ey];exact hd
theorem Rn:(["one","other","house"]:List Str).Nodup:=by decide +kernel
theorem CO:aB ["many","ties","house","leading_out","leading_in"] ["many","ties"] (ap OM):=⟨rfl,rfl,rfl,by decide +kernel,rfl,by decide +kernel,by decide +kernel⟩
theorem OQ(F:fH K "check_balance" "check_balance" OM f fd)(B:Bl mg)(gM:∃t,mg "MOST_TIES_OUT"=some (.int 8 t)):
  bf P w K mg base aY 1 f fd ["many","ties"] ln:=by
 obtain⟨tM,gM⟩:=gM;refine F.ok CO (fun vs H Q E h=>?_) (fun dR A outer s H vs Q E hr h=>?_)
 .obtain⟨n,l,zs,rfl,_⟩:=h;rfl
 .obtain⟨n,l,zs,rfl,T,k⟩:=h;have fi:=T.gw;have n1:=fi.n1;have n2:=fi.n2;have dO:zs.length<=256:=by have:=fi.len;rw[b9] at this;exact this
  refine'⟨_,aj (cD dt rfl (br rfl B.range (aa (pv 0) ag)) (av (i:=2) CO.nd rfl (Or.inr rfl))
   (ah (aF (i:=3) CO.nd rfl (Or.inl rfl) (aN aQ (by rfl) B.len d_ (aa ?c1 ag)))
   (ah (aF (i:=4) CO.nd rfl (Or.inl rfl) (aN aQ (by rfl) B.len d_ (aa ?c2 ag)))
   (ah (cw (aP rG (pv 3) (pv 4) (aW _)) fD be)
   (aj (cw (aP rH (pv 3) (qp (v:=.int 8) rfl gM ⟨_,rfl⟩) (aW _)) fD be)))))),?_⟩
  case c1=>
   refine' bY (g:=mY K 2 (dI (bi 0) (dI (bi 1) mX))) (NB:=["one","other","house"]) (src:=[none,none,some 2]) (bz (by kernel_rfl)) rfl (b_ (pv 1)) ?g ?t ?e;case g=>exact fun cl C s₃ H₃ fp=>dW (n:=2) rfl (aR (av (i:=0) Rn rfl (Or.inl rfl) (Or.inr rfl)) (aR (av (i:=1) Rn rfl (Or.inl rfl) (Or.inr rfl)) cT))
   case t=>exact fun cl C s₃ H₃ fp=>d5 (aP gR (pv 0) (pv 2) (aW _))
   case e=>exact fun cl C s₃ H₃ fp=>pv 0
  case c2=>
   refine' bY (g:=mY K 2 (dI (bi 0) (dI (bi 1) mX))) (NB:=["one","other","house"]) (src:=[none,none,some 2]) (bz (by kernel_rfl)) rfl (b_ (pv 1)) ?g ?t ?e;case g=>exact fun cl C s₃ H₃ fp=>dW (n:=2) rfl (aR (av (i:=0) Rn rfl (Or.inl rfl) (Or.inr rfl)) (aR (av (i:=1) Rn rfl (Or.inl rfl) (Or.inr rfl)) cT))
   case t=>exact fun cl C s₃ H₃ fp=>d5 (aP gR (pv 1) (pv 2) (aW _))
   case e=>exact fun cl C s₃ H₃ fp=>pv 1
  refine⟨_,rfl,n,rfl,by lia,by lia,c_ (n:=n) (lo:=0) (fun i σ H2=>aG H H2/\∃a b c,σ=[some (.int n),some (.ref l),a,b,c]) ⟨aG.refl _,none,none,none,rfl⟩ ?_ ?_⟩
  .rintro i σ H2 hi ⟨sm,a,b,c,rfl⟩;have T2:=T.same sm;refine⟨_,rfl,l,rfl,⟨_,a8.of T2.at_⟩,fun D hD=>lq (fun σ=>∃a b,σ=[a,b,some (.int (0+(i:Int)))]) (·.1) (·.1) (0+(i:Int)) hD T2.at_ T2.po (by lia) ⟨_,_,rfl⟩ ?_ ?_⟩
   .rintro z σ H3 Kt Kf hj ⟨x,y,rfl⟩ ha kt kf;refine⟨z.1,_,rfl,bJ.of ha,rfl,_,_,rfl,_,_,rfl,rfl,?_⟩;refine⟨_,rfl,_,rfl,rfl,_,rfl,?_⟩;refine dZ (fun e=>?_) (fun e=>?_)
    .exact⟨_,rfl,kt _ ⟨_,_,rfl⟩ (by simpa using e)⟩
    .exact kf _ ⟨_,_,rfl⟩ (by simpa using e)
   .refine⟨D,_,rfl,.inl (a8.of af),?_⟩;have EW:=bP (o:=.lst (IV (((zp zs).filter fun y=>decide (y.1=0+(i:Int))).map (·.1)))) (sm.trans (aG.refl _)) (H:=H) (by cases z:H D with|none=>rfl|some o=>rw[sm _ _ z] at hD;cases hD);have T3:=T.same EW;refine⟨_,rfl,l,rfl,⟨_,a8.of T3.at_⟩,fun D' hD'=>lq (fun σ=>∃a b,σ=[a,b,some (.int (0+(i:Int)))]) (·.2) (·.2) (0+(i:Int)) hD' T3.at_ T3.po (by lia) ⟨_,_,rfl⟩ ?_ ?_⟩
    .rintro z σ H3 Kt Kf hj ⟨x,y,rfl⟩ ha kt kf;refine⟨z.1,_,rfl,bJ.of ha,rfl,_,_,rfl,_,_,rfl,rfl,?_⟩;refine⟨_,rfl,_,rfl,rfl,_,rfl,?_⟩;refine dZ (fun e=>?_) (fun e=>?_)
     .exact⟨_,rfl,kt _ ⟨_,_,rfl⟩ (by simpa using e)⟩
     .exact kf _ ⟨_,_,rfl⟩ (by simpa using e)
    .refine⟨D',_,rfl,.inl (a8.of af),?_⟩;rw[fP] at *;have q1:(IV (((zp zs).filter fun y=>decide (y.1=(i:Int))).map (·.1))).length=(IV (((zp zs).filter fun y=>decide (y.2=(i:Int))).map (·.2))).length:=by
      rw[aO,aO,aO,aO];exact fi.Jc i
     have q2:(IV (((zp zs).filter fun y=>decide (y.1=(i:Int))).map (·.1))).length<=8:=by
      rw[aO,aO];exact fi.most i
     refine⟨_,rfl,_,rfl,rfl,_,rfl,?_⟩;rw[<-q1];rw[show (!decide (V.int (((IV (((zp zs).filter fun y=>decide (y.1=(i:Int))).map (·.1))).length:Nat):Int)=V.int (((IV (((zp zs).filter fun y=>decide (y.1=(i:Int))).map (·.1))).length:Nat):Int)))=false by simp];refine iq ?_;refine⟨_,rfl,_,_,rfl,rfl,_,rfl,?_⟩;rw[show decide ((((IV (((zp zs).filter fun y=>decide (y.1=(i:Int))).map (·.1))).length:Nat):Int) > 8)=false by rw[decide_eq_false_iff_not];lia];exact iq ⟨EW.trans (ai hD'),_,_,_,rfl⟩
  .rintro σ H2 ⟨sm,a,b,c,rfl⟩;exact k H2 sm
end
def KE:Expr:=match (bQ yu).getD 1 (.Pass ⟨0,0,0,0⟩) with
 |.Return (some (.Call _ _ (k::_) _)) _=>k.value
 |_=>.Name "x" ⟨0,0,0,0⟩
def CP:Arguments:=match KE with
 |.Lambda a _ _ _=>a
 |_=>{ posonlyargs:=[],args:=[],vararg:=none,kwonlyargs:=[],kw_defaults:=[],kwarg:=none,defaults:=[] }
def KG:Expr:=match KE with
 |.Lambda _ b _ _=>b
 |e=>e
def M0:Scope:=match KE with
 |.Lambda _ _ s _=>s
 |_=>{ kind:=.function,names:=[],isGenerator:=false,isCoroutine:=false }
def OR:Pos:=match KE with
 |.Lambda _ _ _ p=>p
 |_=>⟨0,0,0,0⟩
def M1:Str:=("houses_out":Str)++".<locals>."++"<lambda>"
abbrev tf(Pt:Addr)(H:Hp):Prop:=cr OR M1 Pt H
def lQ(Pt:Addr)(H H':Hp):Prop:=∀b o,H b=some o->b≠Pt->H' b=some o
theorem lQ.of(a:aG H H'):lQ Pt H H':=fun c o h _=>a c o h
theorem tf.not(t:tf Pt H)(h:H b=some o)(n:∀ps,o≠.j3 ps):b≠Pt:=by
 rintro rfl;rcases t with z|⟨c,z,_⟩ <;> · rw[h] at z;exact n _ (bh z)
theorem tf.same(t:tf Pt H)(e:aG H H'):tf Pt H':=by
 rcases t with z|⟨c,z,y⟩
 .exact .inl (e _ _ z)
 .exact .inr ⟨c,e _ _ z,e _ _ y⟩
theorem KH{n a b h:Int}(hn:0<n)(a0:0<=a)(a1:a<n)(b0:0<=b)(b1:b<n)(e:(a-h) % n=(b-h) % n):a=b:=by
 have h1:=Int.emod_emod_of_dvd (a-h) (Int.dvd_refl n);have q:(a-b) % n=0:=by
  have:a-b=(a-h)-(b-h):=by lia
  rw[this,Int.sub_emod,e,Int.sub_self,Int.zero_emod]
 obtain⟨c,hc⟩:=Int.dvd_of_emod_eq_zero q;have c0:c=0:=by
  rcases Int.lt_trichotomy c 0 with z|z|z
  .have:n*c<=n*(-1):=E5 (by lia) (by lia);lia
  .exact z
  .have:n*1<=n*c:=E5 (by lia) (by lia);lia
 rw[c0] at hc;lia
theorem tJ{ts:Ts}{h:Int}(nd:ts.Nodup):((ts.filter fun y=>decide (y.1=h)).map (·.2)).Nodup:=by
 refine L2.pi (nd.filter _) fun x hx y hy e=>?_;have a:=(cC.mp hx).2;have b:=(cC.mp hy).2;simp at a b;exact iR (a.trans b.symm) e
theorem uD{n:Nat}{ts:Ts}{h:Nat}(F:bR n ts)(hh:h<n){out:List Int}(ko:Oe (h:Int) (n:Int) ((ts.filter fun y=>decide (y.1=(h:Int))).map (·.2)) out):out.map V.int=NV (bg n ts h):=by
 obtain⟨ps,hp,rfl,hs⟩:=ko;have DV:(ps.map (·.2)).Perm ((ts.filter fun y=>decide (y.1=(h:Int))).map (·.2)):=by
  have:=hp.map (·.2);rw[dH] at this;refine this.trans (re ?_);conv=>rhs;rw[<-oY ((ts.filter fun y=>decide (y.1=(h:Int))).map (·.2))]
  rfl
 have mem:∀z,z∈ps.map (·.2)↔((h:Int),z)∈ts:=fun z=>by
  rw[DV.mem_iff,bj];constructor
  .rintro⟨y,hy,rfl⟩;obtain⟨y1,y2⟩:=cC.mp hy;have:y.1=(h:Int):=by simpa using y2
   rw[<-this];exact y1
  .intro hz;exact⟨_,cC.mpr ⟨hz,by simp⟩,rfl⟩
 have nd:(ps.map (·.2)).Nodup:=DV.nodup_iff.mpr (tJ F.nd);have key:∀q∈ps,q.1=(q.2-(h:Int)) % (n:Int):=fun q hq=>by
  obtain⟨z,_,e⟩:=bj.mp (hp.mem_iff.mp hq);rw[<-e]
 have hn:(0:Int)<n:=by have:=F.n1;lia
 have sorted:(ps.map (·.2)).Pairwise fun x y=>(x-(h:Int)) % (n:Int)<(y-(h:Int)) % (n:Int):=by
  refine i7.mpr ?_;have YG:=i7.mp nd;refine(hs.and YG).imp_of_mem fun {x y} hx hy I0=>?_;have l1:=I0.1;rw[key x hx,key y hy] at l1;have ax:=F.rg _ ((mem x.2).mp (bj.mpr ⟨x,hx,rfl⟩));have ay:=F.rg _ ((mem y.2).mp (bj.mpr ⟨y,hy,rfl⟩));have ne:(x.2-(h:Int)) % (n:Int)≠(y.2-(h:Int)) % (n:Int):=fun z=>I0.2 (KH hn ax.2.1 ax.2.2 ay.2.1 ay.2.2 z);lia
 have e:ps.map (·.2)=(bg n ts h).map fun (o:Nat)=>(o:Int):=by
  refine pX (k:=fun z=>(z-(h:Int)) % (n:Int)) sorted ?_ fun z=>?_
  .refine i7.mpr ?_;exact pW hh
  .rw[mem,bj];constructor
   .intro hz;have r:=F.rg _ hz;refine⟨z.toNat,(fj F hh).mpr ?_,by lia⟩;show (((h:Nat):Int),((z.toNat:Nat):Int))∈ts;rw[show ((z.toNat:Nat):Int)=z by lia];exact hz
   .rintro⟨o,ho,rfl⟩;exact(fj F hh).mp ho
 rw[e,dH];rfl
section
variable {P:Program} {w:World} {K:PySem.W.Frag} {mg:Str->Option Value} {base:Heap}
theorem He:aB ["many","ties","house","others"] ["many","ties","house"] (ap yu):=⟨rfl,rfl,rfl,by decide +kernel,rfl,by decide +kernel,by decide +kernel⟩
def wv(Pt:Addr):Sp:=fun vs H Q _=>∃ (n:Nat) (l:Addr) (h:Nat) (zs:Zs),vs=[.int n,.ref l,.int h]/\h<n/\gx H l n zs/\tf Pt H/\
 ∀ (r:Addr) (H':Hp),tf Pt H'->lQ Pt H H'->H r=none->H' r=some (.lst (NV (bg n (zp zs) h)))->Q (.ref r) H'
theorem KI(F:rT K "houses_out" "houses_out" yu f fd c)(B:Bl mg)(kb:K.In base)(hb:qd mg base)(hc:PySem.W.codeHdIn K c Pt=true):
  bf P w K mg base aY 1 f fd ["many","ties","house"] (wv Pt):=by
 refine F.ok He (fun vs H Q E h=>?_) (fun A outer s H vs Q E hr h=>?_)
 .obtain⟨n,l,h,zs,rfl,_⟩:=h;rfl
 .obtain⟨n,l,h,zs,rfl,hh,T,tb,k⟩:=h;have fi:=T.gw;have n1:=fi.n1;have dO:zs.length<=256:=by have:=fi.len;rw[b9] at this;exact this
  have LS:Og (qb aY P w K mg base ["many","ties","house","others"] "houses_out" (ap yu) f (.ref c) A outer s H E).Fs M1 CP KG M0 "other" "house" "many" 2 0:=
   ⟨⟨_,_,_,_,_,rfl⟩,fun _ _ _ _ _=>rfl,rfl,rfl,rfl,rfl,rfl,rfl,rfl,by decide +kernel,by decide +kernel,by decide +kernel,rfl,rfl,rfl,by decide,⟨by decide,by decide⟩,⟨by decide,by decide⟩⟩
  refine'⟨_,ah (eO (i:=3) (g:=mY K 2 (dI (bi 0) (dI (bi 1) mX))) (NB:=["one","other","house"]) (src:=[none,none,some 2]) (bz (by kernel_rfl)) rfl (b_ (pv 1)) ?g ?t ?e He.nd rfl rfl rfl)
   (aj (aL (pj (rS LS hr) rfl B.sorted uS (aa (pv 3) ag) (vK (vV (NB:=["other","house","many"]) (src:=[none,some 2,some 0]) (qv kb hb hc) (bz (by kernel_rfl))) Ap)))),?_⟩
  case g=>exact fun cl C s₃ H₃ fp=>dW (n:=2) rfl (aR (av (i:=0) Rn rfl (Or.inl rfl) (Or.inr rfl)) (aR (av (i:=1) Rn rfl (Or.inl rfl) (Or.inr rfl)) cT))
  case t=>exact fun cl C s₃ H₃ fp=>d5 (aP gR (pv 0) (pv 2) (aW _))
  case e=>exact fun cl C s₃ H₃ fp=>pv 1
  refine⟨_,rfl,l,rfl,⟨_,a8.of T.at_⟩,fun D hD=>lq (fun σ=>∃a b,σ=[a,b,some (.int (h:Int))]) (·.1) (·.2) (h:Int) hD T.at_ T.po (by lia) ⟨_,_,rfl⟩ ?_ ?_⟩
  .rintro z σ H3 Kt Kf hj ⟨x,y,rfl⟩ ha kt kf;refine⟨z.1,_,rfl,bJ.of ha,rfl,_,_,rfl,_,_,rfl,rfl,?_⟩;refine⟨_,rfl,_,rfl,rfl,_,rfl,?_⟩;refine dZ (fun e=>?_) (fun e=>?_)
   .exact⟨_,rfl,kt _ ⟨_,_,rfl⟩ (by simpa using e)⟩
   .exact kf _ ⟨_,_,rfl⟩ (by simpa using e)
  .generalize Ue:((zp zs).filter fun y=>decide (y.1=(h:Int))).map (·.2)=os;have JQ:os.length<=8:=by rw[<-Ue,aO];exact fi.most h
   have sm:aG H (upd H D (.lst (IV os))):=ai hD;refine⟨_,rfl,tb.same sm,fun f' c' H2 Uf h_ z9 xE=>?_⟩;have t2:tf Pt H2:=Uf;have iZ:H2 D=some (.lst (IV os)):=h_ _ _ af ((tb.same sm).not af (by intro ps z;cases z));refine⟨D,f',c',os,h,n,rfl,rfl,a8.of iZ,(by lia),xE,z9,rfl,rfl,by lia,fun r out pR ko=>?_⟩;rw[<-Ue] at ko;rw[uD fi hh ko];have EW:aG H2 (upd H2 r (.lst (NV (bg n (zp zs) h)))):=ai pR;refine k r _ (t2.same EW) (fun b o e hb=>EW _ _ (h_ b o (sm _ _ e) hb)) ?_ af;cases z:H r with
   |none=>rfl
   |some o=>
    by_cases hP:r=Pt
    .rcases t2 with q|⟨_,q,_⟩ <;> · rw[<-hP,pR] at q;cases q
    .rw[h_ r o (sm _ _ z) hP] at pR;cases pR
end
abbrev Hf:Stmt:=top 40
abbrev Be:Stmt:=top 41
def lC(n:Nat)(R:List Nat)(f:Nat->Nat):List V:=(List.range n).map fun x=>if x∈R then V.int ((f x:Nat):Int) else .cf
theorem kY:(lC n R f).length=n:=by unfold lC;rw[aO,dQ]
theorem kZ(h:x<n):(lC n R f)[x]?=some (if x∈R then V.int ((f x:Nat):Int) else .cf):=by
 unfold lC;rw[bu,j7 h];rfl
theorem Bg(hs:s<n):(List.replicate n V.cf).set s (V.int 0)=lC n [s] (fun _=>0):=by
 apply vd;intro x;by_cases hx:x<n
 .rw[kZ hx];by_cases e:x=s
  .subst e;rw[pP (by rw[gJ];exact hx),ak (by simp)];rfl
  .rw[lX (fun z=>e z.symm),uU,ak hx,aq (by simp[e])]
 .rw[i6 (by rw[g9,gJ];lia),i6 (by rw[kY];lia)]
theorem Hg(hv:v<n):(lC n R f).set v (V.int ((k:Nat):Int))=lC n (R++[v]) (put f v k):=by
 apply vd;intro x;by_cases hx:x<n
 .rw[kZ hx];by_cases e:x=v
  .subst e;rw[pP (by rw[kY];exact hx),ak (by simp),jg]
  .rw[lX (fun z=>e z.symm),kZ hx,gv e];by_cases h:x∈R
   .rw[ak h,ak (fw _ h)]
   .rw[aq h,aq (fun z=>(cK.mp z).elim h fun z=>e (by simpa using z))]
 .rw[i6 (by rw[g9,kY];lia),i6 (by rw[kY];lia)]
def Ug(σ:St):Nat:=match σ[4]? with
 |some (some (V.int z))=>z.toNat
 |_=>0
theorem nbO:(["others"]:List Str).Nodup:=by decide +kernel
def sq(H:Hp)(ol:Addr)(n:Nat)(ts:Ts):Prop:=∃bs:List Addr,H ol=some (.lst (bs.map V.ref))/\Holds H bs n (fun h=>.lst (NV (bg n ts h)))
theorem sq.same(x:sq H ol n ts)(e:aG H H'):sq H' ol n ts:=let ⟨bs,a,b⟩:=x;⟨bs,e _ _ a,b.mono fun _ _ z=>e _ _ z⟩
theorem Hh{as:List Addr}{i:Nat}{x:V}(h:(as.map V.ref)[i]?=some x):i<as.length/\x=.ref (as.getD i 0):=by
 rw[bu] at h;cases e:as[i]? with
 |none=>rw[e] at h;cases h
 |some a=>
  rw[e] at h;refine⟨(cu.mp e).1,?_⟩;rw[bZ,e];exact(bh h).symm
section
variable {P:Program} {w:World} {K:PySem.W.Frag} {mg:Str->Option Value} {base:Heap}
theorem mD:aB ["out_lists","start","distances","reached","at","house","other"] ["out_lists","start"] (ap Hf):=⟨rfl,rfl,rfl,by decide +kernel,rfl,by decide +kernel,by decide +kernel⟩
def ww:Sp:=fun vs H Q _=>∃ (ol:Addr) (n s:Nat) (ts:Ts),vs=[.ref ol,.int s]/\bR n ts/\s<n/\sq H ol n ts/\
 ∀ (r:Addr) (H':Hp),aG H H'->H r=none->H' r=some (.lst (NV ((List.range n).map (far ts s))))->Q (.ref r) H'
theorem KJ{f:Addr}{fd:FuncData}(F:fH K "distances_from" "distances_from" Hf f fd)(B:Bl mg):bf P w K mg base aY 1 f fd ["out_lists","start"] ww:=by
 refine F.ok mD (fun vs H Q E h=>?_) (fun dR A outer s H vs Q E hr h=>?_)
 .obtain⟨ol,n,s,ts,rfl,_⟩:=h;rfl
 .obtain⟨ol,n,st,ts,rfl,fi,hs,O,k⟩:=h;have n1:=fi.n1;have n2:=fi.n2;refine'⟨_,ah (eO (i:=2) (g:=bi 0) (NB:=["others"]) (src:=[none]) (bz (by kernel_rfl)) rfl (b_ (pv 0)) ?g ?t ?e mD.nd rfl rfl rfl)
   (ah (fT au (jy (pv 2) (pv 1) fW))
   (ah (aF (i:=3) mD.nd rfl (Or.inl rfl) (eN (aa (pv 1) ag)))
   (ah (aF (i:=4) mD.nd rfl (Or.inl rfl) au)
   (ah (rE dt (aP lM (pv 4) (aN aQ (by rfl) B.len d_ (aa (pv 3) ag)) (aW _))
    (ah (aF (i:=5) mD.nd rfl (Or.inl rfl) (a7 aV (pv 3) (pv 4) (fun _ _=>rfl)))
    (ah (cD dt rfl (b_ (a7 aV (pv 0) (pv 5) (fun _ _=>rfl))) (av (i:=6) mD.nd rfl (Or.inl rfl))
     (aj (cw (aP Af (a7 aV (pv 2) (pv 6) (fun _ _=>rfl)) dU (aW _))
      (ah (fT (aU di (a7 aV (pv 2) (pv 5) (fun _ _=>rfl)) au) (jy (pv 2) (pv 6) fW))
      (aj (cS (iG iD lF lE dJ (pv 3) (aa (pv 6) ag))))) be)))
    (aj (NJ (i:=4) mD.nd rfl (Or.inl rfl) au NK)))))
   (aj (aL (pv 2))))))),?_⟩
  case g=>exact fun cl C s₃ H₃ fp=>av (i:=0) nbO rfl (Or.inl rfl) (Or.inr rfl)
  case t=>exact fun cl C s₃ H₃ fp=>dz
  case e=>exact fun cl C s₃ H₃ fp=>dU
  obtain⟨bs,JQ,YO,Rf⟩:=id O;refine⟨_,rfl,ol,rfl,⟨_,a8.of JQ⟩,fun D hD=>?_⟩;have nol:ol≠D:=am JQ hD;refine eT (xs:=bs.map V.ref) (fun i ys σ H2=>(∃a,σ=[a])/\ys=List.replicate i V.cf/\H2=upd H D (.lst ys)) ⟨⟨_,rfl⟩,rfl,rfl⟩ (fun i ys σ H2 _ ⟨_,_,e⟩=>by rw[e];exact a8.of (by rw[ao nol];exact JQ)) ?_ ?_
  .rintro i x ys σ H2 Kt Kf hx ⟨⟨a,rfl⟩,rfl,rfl⟩ kt kf;have hi:=(Hh hx).1;refine kt _ _ _ af ?_ ⟨⟨_,rfl⟩,?_,by rw[jt]⟩
   .rw[gJ];exact cz hi (by rw[YO];exact aX n2 (by decide))
   .rw[zj]
  .rintro ys σ H2 ⟨_,rfl,rfl⟩;rw[aO,YO];refine⟨_,rfl,_,rfl,D,_,st,st,rfl,rfl,af,by rw[gJ];exact gG hs,?_⟩;rw[jt,Bg hs];refine⟨_,rfl,by show 1<=sizeLine;decide,fun R hR=>?_⟩;have Ro:D≠R:=am (H:=upd H D (.lst (lC n [st] (fun _=>0)))) af hR;have YQ:H R=none:=by rw[ao Ro.symm] at hR;exact hR
   refine xj (fun σ H2=>∃ (i:Nat) (Rs:List Nat) (f:Nat->Nat),i<=Rs.length/\yU n ts st i Rs f/\(∃a b,σ=[some (.ref ol),some (.int st),some (.ref D),some (.ref R),some (.int (i:Int)),a,b])/\aG H H2/\H2 D=some (.lst (lC n Rs f))/\H2 R=some (.lst (NV Rs)))
    (fun σ _=>n-Ug σ) ⟨0,[st],fun _=>0,bV _,yU.start hs,⟨none,none,rfl⟩,bP (ai hD) YQ,?_,af⟩ ?_ ?_
   .rw[ao Ro,af]
   .rintro σ H2 ⟨i,Rs,f,hi,Bf,⟨a,b,rfl⟩,sm,iZ,Jd⟩;have hRn:Rs.length<=n:=dA Bf.nd Bf.lt;refine⟨_,rfl,_,rfl,R,_,rfl,.inl (a8.of Jd),_,_,rfl,rfl,_,rfl,?_⟩;rw[aS];by_cases uv:i<Rs.length
    .rw[show decide ((i:Int)<((Rs.length:Nat):Int))=true by simp;lia];refine xz ?_;have hu:Rs[i]?=some Rs[i]:=b8 uv;generalize Rs[i]=u at hu;have yv:u<n:=Bf.lt u (dk hu);have WR:(NV Rs)[i]?=some (.int (u:Int)):=by rw[bu,hu];rfl
     refine⟨_,rfl,_,rfl,R,_,_,_,rfl,rfl,a8.of Jd,aH WR,?_⟩;have hb1:(bs.map V.ref)[u]?=some (.ref (bs.getD u 0)):=by
      rw[bu,bZ,b8 (by rw[YO];exact yv)];rfl
     have hb2:=sm _ _ (Rf _ yv);refine⟨_,rfl,_,rfl,ol,_,_,_,rfl,rfl,a8.of (sm _ _ JQ),aH hb1,_,rfl,⟨_,a8.of hb2⟩,?_⟩;have nbD:bs.getD u 0≠D:=am (Rf _ yv) hD;have nbR:bs.getD u 0≠R:=am (Rf _ yv) YQ;refine gQ (K:=K) (xs:=NV (bg n ts u)) (fun j σ H3=>∃ (qj:List Nat) (f':Nat->Nat),yU n ts st i qj f'/\qj[i]?=some u/\(∀v∈(bg n ts u).take j,v∈qj/\f' v<=f' u+1)/\
      (∃b,σ=[some (.ref ol),some (.int st),some (.ref D),some (.ref R),some (.int (i:Int)),some (.int (u:Int)),b])/\aG H H3/\H3 D=some (.lst (lC n qj f'))/\H3 R=some (.lst (NV qj)))
      ⟨Rs,f,Bf,hu,fun v hv=>by simp at hv,⟨_,rfl⟩,sm,iZ,Jd⟩ (fun j σ H3 _ ⟨_,_,_,_,_,_,KL,_⟩=>a8.of (KL _ _ (Rf _ yv))) ?_ ?_
     .rintro j x σ H3 hx ⟨qj,f',wx,uh,dn,⟨b',rfl⟩,KL,iX,I_⟩;rw[bu] at hx;cases hv:(bg n ts u)[j]? with
      |none=>rw[hv] at hx;cases hx
      |some v=>
       rw[hv] at hx;obtain rfl:V.int ((v:Nat):Int)=x:=bh hx;have WS:v∈bg n ts u:=dk hv;have Je:v<n:=qA fi yv WS;have tuv:T ts u v:=(fj fi yv).mp WS;have tk:(bg n ts u).take (j+1)=(bg n ts u).take j++[v]:=by rw[gO,hv];rfl
       have Uh:u∈qj:=dk uh;refine⟨_,rfl,_,rfl,D,_,_,_,rfl,rfl,a8.of iX,aH (kZ Je),rfl,_,rfl,?_⟩;by_cases Bh:v∈qj
       .rw[ak Bh];refine iq ⟨qj,f',wx,uh,fun x hx=>?_,⟨_,rfl⟩,KL,iX,I_⟩;rw[tk] at hx;rcases cK.mp hx with z|z
        .exact dn x z
        .simp at z;subst z;exact⟨Bh,wx.bd u uh _ Bh⟩
       .rw[aq Bh];refine xz ?_;have OS:(lC n qj f')[u]?=some (.int ((f' u:Nat):Int)):=by rw[kZ yv,ak Uh]
        refine⟨_,rfl,_,rfl,D,_,_,_,rfl,rfl,a8.of iX,aH OS,_,_,rfl,rfl,_,rfl,_,rfl,D,_,_,_,rfl,rfl,iX,by rw[kY];exact gG Je,?_⟩;have e1:(lC n qj f').set v (.int (((f' u:Nat):Int)+1))=lC n (qj++[v]) (put f' v (f' u+1)):=by
         rw[show ((f' u:Nat):Int)+1=((f' u+1:Nat):Int) by lia,Hg Je]
        rw[e1];have s_:(upd H3 D (.lst (lC n (qj++[v]) (put f' v (f' u+1))))) R=some (.lst (NV qj)):=by rw[ao Ro.symm];exact I_
        have Hi:qj.length<=n:=dA wx.nd wx.lt;refine⟨_,rfl,.inl ⟨rfl,_,a8.of s_⟩,_,rfl,R,_,_,rfl,rfl,s_,by rw[aS];exact cz (show qj.length<33 by lia) (by decide),?_⟩;have sZ:i<qj.length:=(cu.mp uh).1;have nuv:u≠v:=fun z=>Bh (z ▸ Uh);refine⟨qj++[v],put f' v (f' u+1),wx.add uh Je tuv Bh,by rw[jM sZ];exact uh,fun x hx=>?_,⟨_,rfl⟩,bP (bP KL hD) YQ,?_,?_⟩
        .rw[gv nuv];rw[tk] at hx;rcases cK.mp hx with z|z
         .obtain⟨q1,q2⟩:=dn x z;exact⟨fw _ q1,by rw[gv (fun (z:x=v)=>Bh (z ▸ q1))];exact q2⟩
         .simp at z;subst z;exact⟨by simp,by rw[jg];exact aI _⟩
        .rw[ao Ro,af]
        .rw[af];show _=some (HO.lst (NV (qj++[v])));rw[show NV (qj++[v])=NV qj++[.int (v:Int)] by unfold NV;rw[cR];rfl]
     .rintro σ H3 ⟨qj,f',wx,uh,dn,⟨b',rfl⟩,KL,iX,I_⟩;rw[aS,jQ] at dn;have sZ:i<qj.length:=(cu.mp uh).1;have Hi:qj.length<=n:=dA wx.nd wx.lt;refine⟨_,rfl,_,_,rfl,rfl,⟨⟨i+1,qj,f',sZ,wx.next uh (fun v t=>dn v ((fj fi yv).mpr t)),⟨_,_,rfl⟩,KL,iX,I_⟩,?_⟩⟩;show n-((i:Int)+1).toNat<n-(i:Int).toNat;lia
    .rw[show decide ((i:Int)<((Rs.length:Nat):Int))=false by rw[decide_eq_false_iff_not];lia];have e:lC n Rs f=NV ((List.range n).map (far ts st)):=by
      unfold lC NV;rw[dH];refine jO fun x hx=>?_;obtain⟨q1,q2⟩:=Bf.done fi (by lia) (bv.mp hx);rw[ak q1,q2];rfl
     rw[e] at iZ;refine iq ⟨_,rfl,k D H2 sm hD iZ⟩
   .rintro σ H2 Q1 Q2 imp ⟨v,e1,v2,e2,p,ys,e3,e4,i1,i2,e5,e6,kk,e7,q⟩;exact⟨v,e1,v2,e2,p,ys,e3,e4,i1,i2,e5,e6,kk,e7,imp _ _ q⟩
end
theorem M3:(["row"]:List Str).Nodup:=by decide +kernel
section
variable {P:Program} {w:World} {K:PySem.W.Frag} {mg:Str->Option Value} {base:Heap}
theorem KM:aB ["distances"] ["distances"] (ap Be):=⟨rfl,rfl,rfl,by decide +kernel,rfl,by decide +kernel,by decide +kernel⟩
def wy:Sp:=fun vs H Q _=>∃ (l:Addr) (ds:List Addr) (n:Nat) (o:Nat->List V),vs=[.ref l]/\H l=some (.lst (ds.map V.ref))/\n<=32/\Holds H ds n (fun j=>.lst (o j))/\(∀j,j<n->∀x∈o j,∃i,x=.int i)/\∀H',aG H H'->Q .cf H'
theorem Hj(F:fH K "check_reached" "check_reached" Be f fd)(B:Bl mg):bf P w K mg base aY 1 f fd ["distances"] wy:=by
 refine F.ok KM (fun vs H Q E h=>?_) (fun dR A outer s H vs Q E hr h=>?_)
 .obtain⟨l,ds,n,o,rfl,_⟩:=h;rfl
 .obtain⟨l,ds,n,o,rfl,hl,n2,hh,hx,k⟩:=h;refine'⟨_,aj (cw (fR (aN (um rfl) (by rfl) B.any PyProof.Rows.boot_any (aa ?c ag))) fD be),?_⟩;case c=>
   refine' bY (g:=bi 0) (te:=ja (Ws K false) (tC .cf) (aT 0)) (NB:=["row"]) (src:=[none]) (bz (by kernel_rfl)) rfl (b_ (pv 0)) ?g ?t ?e;case g=>exact fun cl C s₃ H₃ fp=>av (i:=0) M3 rfl (Or.inl rfl) (Or.inr rfl)
   case t=>exact fun cl C s₃ H₃ fp=>dz
   case e=>exact fun cl C s₃ H₃ fp=>hZ ub dU (pv 0) rfl
  refine⟨_,rfl,l,rfl,⟨_,a8.of hl⟩,fun D hD=>?_⟩;have nl:l≠D:=am hl hD;refine eT (xs:=ds.map V.ref) (fun i ys σ H2=>(∃a,σ=[a])/\ys=(List.replicate i false).map V.bl/\H2=upd H D (.lst ys)) ⟨⟨_,rfl⟩,rfl,rfl⟩ (fun i ys σ H2 _ ⟨_,_,e⟩=>by rw[e];exact a8.of (by rw[ao nl];exact hl)) ?_ ?_
  .rintro i x ys σ H2 Kt Kf hxi ⟨⟨a,rfl⟩,rfl,rfl⟩ kt kf;obtain⟨hi,rfl⟩:=Hh hxi;rw[hh.1] at hi;have hd:=hh.2 i hi;have nd:ds.getD i 0≠D:=am hd hD;have q1:(o i).all eZ=true:=jp.mpr fun x Ab=>by obtain⟨z,rfl⟩:=hx i hi x Ab;rfl
   have q2:BS .cf (o i)=false:=by
    unfold BS;rw[q0];intro x Ab;obtain⟨z,rfl⟩:=hx i hi x Ab;exact fun z=>by cases z
   refine⟨_,rfl,_,_,rfl,.inl (a8.of (by rw[ao nd];exact hd)),rfl,q1,?_⟩;refine kt _ _ _ af ?_ ⟨⟨_,rfl⟩,?_,by rw[jt]⟩
   .rw[aO,gJ];exact cz hi (aX n2 (by decide))
   .rw[zj,cR,q2];rfl
  .rintro ys σ H2 ⟨_,rfl,rfl⟩;refine⟨D,_,rfl,a8.of af,_,rfl,?_⟩;have e:(List.replicate (ds.map V.ref).length false).any id=false:=by
    rw[q0];intro x Ab;rw[(List.mem_replicate.mp Ab).2];decide
   rw[e];exact iq (k _ (ai hD))
end
theorem nb2:(["one","other"]:List Str).Nodup:=by decide +kernel
theorem Ui:(["house","many","ties"]:List Str).Nodup:=by decide +kernel
theorem YR:(["house","self"]:List Str).Nodup:=by decide +kernel
def nX(p Pt:Addr)(H H':Hp):Prop:=∀b o,H b=some o->b≠p->b≠Pt->H' b=some o
theorem gx.mono(h:gx H l n zs)(e:nX p Pt H H')(hp:H p=some (.ins C dx fs))(tb:tf Pt H):gx H' l n zs:=
 ⟨h.gw,e _ _ h.at_ (eY h.at_ hp (by intro z;cases z)) (tb.not h.at_ (by intro ps z;cases z)),fun z hz=>e _ _ (h.po z hz) (eY (h.po z hz) hp (by intro z;cases z)) (tb.not (h.po z hz) (by intro ps z;cases z))⟩
theorem tf.mono(t:tf Pt H)(e:∀b o,H b=some o->b≠p->H' b=some o)(hp:H p=some (.ins C dx fs)):tf Pt H':=by
 rcases t with z|⟨c,z,y⟩
 .exact .inl (e _ _ z (eY z hp (by intro q;cases q)))
 .exact .inr ⟨c,e _ _ z (eY z hp (by intro q;cases q)),e _ _ y (eY y hp (by intro q;cases q))⟩
theorem tf.full(t:tf Pt H):H Pt≠none:=by
 rcases t with z|⟨c,z,y⟩ <;> rw[z] <;> intro q <;> cases q
theorem nX.free(s:nX p Pt H H')(hp:H' p≠none)(tb:tf Pt H')(h:H' r=none):H r=none:=by
 cases z:H r with
 |none=>rfl
 |some o=>
  by_cases e1:r=p
  .subst e1;exact absurd h hp
  .by_cases e2:r=Pt
   .subst e2;exact absurd h tb.full
   .rw[s r o z e1 e2] at h;cases h
theorem Uj(h:k [] H):gf σ H k:=h
theorem lr{H:Hp}{p:Addr}{o:HO}(h:H p=some o):H p≠none:=by rw[h];intro z;cases z
section
variable {P:Program} {w:World} {K:PySem.W.Frag} {mg:Str->Option Value} {base:Heap}
theorem OT:aB ["self","many","ties"] ["self","many","ties"] (ap CK):=⟨rfl,rfl,rfl,by decide +kernel,rfl,by decide +kernel,by decide +kernel⟩
def Bi(C Pt:Addr):Sp:=fun vs H Q E=>∃ (p dx:Addr) (n:Nat) (l:Addr) (zs:Zs),vs=[.ref p,.int n,.ref l]/\H p=some (.ins C dx [])/\gx H l n zs/\tf Pt H/\
  ∀H',cH C H' (fun a=>H a=none) p n (zp zs)->tf Pt H'->nX p Pt H H'->Q .cf H'
theorem KO{f C Pt:Addr}{fd:FuncData}(F:fH K "__init__" "Net.__init__" CK f fd)(T:NT K mg C)(B:Bl mg)(CT:ce P w K mg base aY 6 "check_ties" ["many","ties"] ln)(CB:ce P w K mg base aY 1 "check_balance" ["many","ties"] ln)(HO':ce P w K mg base aY 1 "houses_out" ["many","ties","house"] (wv Pt))(DF:ce P w K mg base aY 1 "distances_from" ["out_lists","start"] ww)(CR:ce P w K mg base aY 1 "check_reached" ["distances"] wy):
  bf P w K mg base aY 7 f fd ["self","many","ties"] (Bi C Pt):=by
 refine F.ok OT (fun vs H Q E h=>?_) (fun dR A outer s H vs Q E hr h=>?_)
 .obtain⟨p,dx,n,l,zs,rfl,_⟩:=h;rfl
 .have tK:bD 1 _:=hr.mono (by decide);refine'⟨_,ah (cS (aw CT hr aA (aa (pv 1) (aa (pv 2) ag))))
   (ah (cS (aw CB tK aA (aa (pv 1) (aa (pv 2) ag))))
   (ah (vJ (pv 0) (pv 1) rfl)
   (ah (vJ (pv 0) (aN AQ (by rfl) B.sorted uS (aa ?c1 ag)) rfl)
   (ah (vJ (pv 0) ?c2 rfl)
   (ah (vJ (pv 0) ?c3 rfl)
   (aj (cS (aw CR tK aA (aa (kC (pv 0) rfl) ag))))))))),?_⟩
  case c1=>
   refine' bY (g:=mY K 2 (dI (bi 0) (dI (bi 1) mX))) (te:=xk (bB (aT 0) (bB (aT 1) gf))) (NB:=["one","other"]) (src:=[none,none]) (bz (by kernel_rfl)) rfl (b_ (pv 2)) ?g ?t ?e;case g=>exact fun cl C s₃ H₃ fp=>dW (n:=2) rfl (aR (av (i:=0) nb2 rfl (Or.inl rfl) (Or.inr rfl)) (aR (av (i:=1) nb2 rfl (Or.inl rfl) (Or.inr rfl)) cT))
   case t=>exact fun cl C s₃ H₃ fp=>dz
   case e=>exact fun cl C s₃ H₃ fp=>dB (aa (pv 0) (aa (pv 1) ag))
  case c2=>
   refine' bY (g:=bi 0) (te:=pQ (wv Pt) [] E0 (bB (aT 1) (bB (aT 2) (bB (aT 0) gf)))) (NB:=["house","many","ties"]) (src:=[none,some 1,some 2]) (bz (by kernel_rfl)) rfl (br rfl B.range (aa (pv 1) ag)) ?g ?t ?e;case g=>exact fun cl C s₃ H₃ fp=>av (i:=0) Ui rfl (Or.inl rfl) (Or.inr rfl)
   case t=>exact fun cl C s₃ H₃ fp=>dz
   case e=>exact fun cl C s₃ H₃ fp=>aw HO' tK aA (aa (pv 1) (aa (pv 2) (aa (pv 0) ag)))
  case c3=>
   refine' bY (g:=bi 0) (te:=pQ ww [] E0 (bB (NQ K (aT 1) "out_lists") (bB (aT 0) gf))) (NB:=["house","self"]) (src:=[none,some 0]) (bz (by kernel_rfl)) rfl (br rfl B.range (aa (pv 1) ag)) ?g ?t ?e;case g=>exact fun cl C s₃ H₃ fp=>av (i:=0) YR rfl (Or.inl rfl) (Or.inr rfl)
   case t=>exact fun cl C s₃ H₃ fp=>dz
   case e=>exact fun cl C s₃ H₃ fp=>aw DF tK aA (aa (kC (pv 1) rfl) (aa (pv 0) ag))
  obtain⟨p,dx,n,l,zs,rfl,hp,TT,tb,k⟩:=h;have fi:=TT.gw;have n1:=fi.n1;have n2:=fi.n2;have dO:zs.length<=256:=by have:=fi.len;rw[b9] at this;exact this
  refine⟨_,rfl,_,rfl,n,l,zs,rfl,TT,fun H1 s1=>?_⟩;refine⟨_,rfl,_,rfl,n,l,zs,rfl,TT.same s1,fun H2 s2=>?_⟩;have Hk:aG H H2:=s1.trans s2;refine⟨_,rfl,_,rfl,p,C,dx,[],rfl,Hk _ _ hp,T.cl,T.nH,(by show 0<1000;decide),?_⟩
  let G1:Hp:=upd H2 p (.ins C dx (dX "house_count" (.int n) []))
  have d1:nX p Pt H G1:=fun b o e h1 _=>by show upd _ _ _ _=_;rw[ao h1];exact Hk _ _ e
  have WT:G1 p=some (.ins C dx (dX "house_count" (.int n) [])):=af;have YS:gx G1 l n zs:=TT.mono d1 hp tb;have Uk:tf Pt G1:=tb.mono (fun b o e h1=>by show upd _ _ _ _=_;rw[ao h1];exact Hk _ _ e) hp;refine⟨_,rfl,l,rfl,⟨_,a8.of YS.at_⟩,fun D hD=>?_⟩;refine yt (fun y=>y) (fun σ=>∃a b,σ=[a,b]) YS.at_ YS.po hD (by lia) ⟨_,_,rfl⟩ ?_ ?_
  .rintro z σ H3 R Kf hz ⟨a,b,rfl⟩ _ ha kk;refine⟨_,_,rfl,bJ.of ha,rfl,_,_,rfl,_,_,rfl,rfl,?_⟩;exact⟨_,rfl,_,rfl,by show 2<=sizeLine;decide,fun t ht=>kk _ _ ⟨_,_,rfl⟩ ht⟩
  .intro pL H3 sm iX Bj ez fr2;rw[List.map_id'] at ez;have Ra:pL.length=zs.length:=by rw[<-b9,ez,b9]
   refine Uj ?_;refine Ky iX Bj (by lia) (fun u hu=>by have:=(fi.rg u (ez ▸ hu)).2;lia) fun tl Rp YT pm jm=>?_;have YU:H tl=none:=d1.free (lr WT) Uk (sm.free YT);have NL:∀z∈Rp,H z.1=none:=fun z hz=>d1.free (lr WT) Uk (fr2 z (pm.mem_iff.mp hz));have YV:H3 p=some (.ins C dx (dX "house_count" (.int n) [])):=sm _ _ WT;have OV:p≠tl:=am YV YT;refine⟨_,rfl,p,C,dx,_,rfl,by rw[ao OV];exact YV,T.cl,T.nT,by show 1<1000;decide,?_⟩
   let G2:Hp:=upd (upd H3 tl (.lst (zr Rp))) p (.ins C dx (dX "tie_list" (.ref tl) (dX "house_count" (.int n) [])))
   have q2:∀b o,H3 b=some o->b≠p->G2 b=some o:=fun b o e h1=>by
    show upd _ _ _ _=_;rw[ao h1,ao (am e YT)];exact e
   have d2:nX p Pt H G2:=fun b o e h1 h2=>q2 _ _ (sm _ _ (d1 _ _ e h1 h2)) h1;have g2t:G2 tl=some (.lst (zr Rp)):=by show upd _ _ _ _=_;rw[ao OV.symm,af]
   have YW:PO G2 Rp:=fun z hz=>q2 _ _ (Bj z (pm.mem_iff.mp hz)) (eY (Bj z (pm.mem_iff.mp hz)) YV (by intro z;cases z));have OX:G2 p=some (.ins C dx (dX "tie_list" (.ref tl) (dX "house_count" (.int n) []))):=af;have TT2:gx G2 l n zs:=TT.mono d2 hp tb;have OY:tf Pt G2:=Uk.mono (fun b o e h1=>q2 _ _ (sm _ _ e) h1) WT;refine⟨_,rfl,n,rfl,by lia,by lia,fun D2 iZ=>?_⟩;refine fq (n:=n) (lo:=0) (fun i ys σ H4=>(∃a,σ=[a,some (.int n),some (.ref l)])/\∃bs:List Addr,ys=bs.map V.ref/\(∀b∈bs,H b=none)/\Holds H4 bs i (fun h=>.lst (NV (bg n (zp zs) h)))/\lQ Pt G2 H4/\tf Pt H4/\H4 D2=some (.lst ys)/\∀b∈bs,b≠D2)
    ⟨⟨_,rfl⟩,[],rfl,(fun _ h=>nomatch h),Holds.nil,lQ.of (ai iZ),OY.same (ai iZ),af,(fun _ h=>nomatch h)⟩ ?_ ?_
   .rintro i ys σ H4 Kt Kf hi ⟨⟨a,rfl⟩,bs,rfl,YX,hb,qF,Rq,ot,YY⟩ kt kf;have TT4:gx H4 l n zs:=TT2.mono (p:=p) (fun b o e _ h2=>qF _ _ e h2) OX OY;have Rr:=qF _ _ OX (OY.not OX (by intro ps z;cases z));refine⟨_,rfl,_,rfl,_,rfl,n,l,i,zs,by rw[fP];rfl,hi,TT4,Rq,fun r H5 t5 wW Rt hr5=>?_⟩;have YZ:H r=none:=nX.free (fun b o e h1 h2=>qF _ _ (d2 _ _ e h1 h2) h2) (lr Rr) Rq Rt;have WU:H5 D2=some (.lst (bs.map V.ref)):=wW _ _ ot (Rq.not ot (by intro ps z;cases z));have Ul:r≠D2:=by rintro rfl;rw[ot] at Rt;cases Rt
    have lR:∀b o pV,H5 b=some o->b≠D2->(upd H5 D2 pV) b=some o:=fun b o pV e h=>by rw[ao h];exact e
    refine kt _ _ _ WU (by rw[aO,hb.1];exact cz hi (aX n2 (by decide))) ⟨⟨_,rfl⟩,bs++[r],by rw[cR];rfl,?_,?_,?_,?_,af,?_⟩
    .intro b mP;rcases cK.mp mP with z|z
     .exact YX b z
     .rw[cA.mp z];exact YZ
    .refine Holds.snoc (hb.mono fun j hj e=>?_) (lR _ _ _ hr5 Ul);refine lR _ _ _ (wW _ _ e (Rq.not e (by intro ps z;cases z))) (YY _ ?_);rw[bZ,b8 (by rw[hb.1];exact hj)];exact fh _
    .intro b o e h;exact lR _ _ _ (wW _ _ (qF _ _ e h) h) (am e iZ)
    .rcases t5 with z|⟨c,z,y⟩
     .exact .inl (lR _ _ _ z (eY z WU (by intro q;cases q)))
     .exact .inr ⟨c,lR _ _ _ z (eY z WU (by intro q;cases q)),lR _ _ _ y (eY y WU (by intro q;cases q))⟩
    .intro b mP;rcases cK.mp mP with z|z
     .exact YY b z
     .rw[cA.mp z];exact Ul
   .rintro ys σ H4 ⟨_,bs,rfl,YX,hb,qF,Rq,ot,YY⟩;have Rr:H4 p=some (.ins C dx (dX "tie_list" (.ref tl) (dX "house_count" (.int n) []))):=qF _ _ OX (OY.not OX (by intro ps z;cases z));have Y0:H D2=none:=d2.free (lr OX) OY iZ;refine⟨_,rfl,p,C,dx,_,rfl,Rr,T.cl,T.nO,by have h1:=eM "tie_list" (V.ref tl) (dX "house_count" (V.int n) []);have h2:=eM "house_count" (V.int n) [];simp at h2;lia,?_⟩
    let G3:Hp:=upd H4 p (.ins C dx (dX "out_lists" (.ref D2) (dX "tie_list" (.ref tl) (dX "house_count" (.int n) []))))
    have q3:∀b o,H4 b=some o->b≠p->G3 b=some o:=fun b o e h1=>by show upd _ _ _ _=_;rw[ao h1];exact e
    have OZ:G3 p=some (.ins C dx (dX "out_lists" (.ref D2) (dX "tie_list" (.ref tl) (dX "house_count" (.int n) [])))):=af;have d3:nX p Pt H G3:=fun b o e h1 h2=>q3 _ _ (qF _ _ (d2 _ _ e h1 h2) h2) h1;have Y1:tf Pt G3:=Rq.mono q3 Rr;have hb3:Holds G3 bs n (fun h=>.lst (NV (bg n (zp zs) h))):=hb.mono fun j hj e=>q3 _ _ e (eY e Rr (by intro z;cases z));have Y2:G3 D2=some (.lst (bs.map V.ref)):=q3 _ _ ot (eY ot Rr (by intro z;cases z));have O3:sq G3 D2 n (zp zs):=⟨bs,Y2,hb3⟩
    refine⟨_,rfl,n,rfl,by lia,by lia,fun D3 O0=>?_⟩;refine fq (n:=n) (lo:=0) (fun i ys σ H6=>(∃a,σ=[a,some (.ref p)])/\∃ds:List Addr,ys=ds.map V.ref/\(∀b∈ds,H b=none)/\Holds H6 ds i (fun s=>.lst (NV ((List.range n).map (far (zp zs) s))))/\aG G3 H6/\H6 D3=some (.lst ys)/\∀b∈ds,b≠D3)
     ⟨⟨_,rfl⟩,[],rfl,(fun _ h=>nomatch h),Holds.nil,ai O0,af,(fun _ h=>nomatch h)⟩ ?_ ?_
    .rintro i ys σ H6 Kt Kf hi ⟨⟨a,rfl⟩,ds,rfl,Y3,hd,KP,O1,Sm⟩ kt kf;refine⟨_,rfl,p,C,dx,_,_,rfl,KP _ _ OZ,T.cl,T.nO,by rw[bC,ak rfl],_,rfl,D2,n,i,zp zs,by rw[fP];rfl,fi,hi,O3.same KP,fun r H7 Y4 Ru Y5=>?_⟩;have e7D:H7 D3=some (.lst (ds.map V.ref)):=Y4 _ _ O1;have Ul:r≠D3:=by rintro rfl;rw[O1] at Ru;cases Ru
     have YZ:H r=none:=nX.free (fun b o e h1 h2=>KP _ _ (d3 _ _ e h1 h2)) (lr (KP _ _ OZ)) (Y1.same KP) Ru;have lR:∀b o pV,H7 b=some o->b≠D3->(upd H7 D3 pV) b=some o:=fun b o pV e h=>by rw[ao h];exact e
     refine kt _ _ _ e7D (by rw[aO,hd.1];exact cz hi (aX n2 (by decide))) ⟨⟨_,rfl⟩,ds++[r],by rw[cR];rfl,?_,?_,?_,af,?_⟩
     .intro b mP;rcases cK.mp mP with z|z
      .exact Y3 b z
      .rw[cA.mp z];exact YZ
     .refine Holds.snoc (hd.mono fun j hj e=>?_) (lR _ _ _ Y5 Ul);refine lR _ _ _ (Y4 _ _ e) (Sm _ ?_);rw[bZ,b8 (by rw[hd.1];exact hj)];exact fh _
     .intro b o e;exact lR _ _ _ (Y4 _ _ (KP _ _ e)) (am e O0)
     .intro b mP;rcases cK.mp mP with z|z
      .exact Sm b z
      .rw[cA.mp z];exact Ul
    .rintro ys σ H6 ⟨_,ds,rfl,Y3,hd,KP,O1,Sm⟩;have Um:=KP _ _ OZ;refine⟨_,rfl,p,C,dx,_,rfl,Um,T.cl,T.nD,by have h1:=eM "tie_list" (V.ref tl) (dX "house_count" (V.int n) []);have h2:=eM "house_count" (V.int n) [];have h3:=eM "out_lists" (V.ref D2) (dX "tie_list" (V.ref tl) (dX "house_count" (V.int n) []));simp at h2;lia,?_⟩;have q4:∀b o u,H6 b=some o->b≠p->(upd H6 p u) b=some o:=fun b o u e h1=>by rw[ao h1];exact e
     refine⟨_,rfl,p,C,dx,_,_,rfl,af,T.cl,T.nD,by rw[bC,ak rfl],D3,ds,n,fun s=>NV ((List.range n).map (far (zp zs) s)),rfl,q4 _ _ _ O1 (eY O1 Um (by intro z;cases z)),n2,hd.mono fun j hj e=>q4 _ _ _ e (eY e Um (by intro z;cases z)),fun j hj x hx=>?_,fun H8 s8=>?_⟩
     .obtain⟨y,hy,rfl⟩:=bj.mp hx;exact⟨_,rfl⟩
     .have up:∀b o,G3 b=some o->b≠p->H8 b=some o:=fun b o e h1=>s8 _ _ (q4 _ _ _ (KP _ _ e) h1);have Y6:H D3=none:=d3.free (lr OZ) Y1 O0;have upT:∀b o,G2 b=some o->b≠p->b≠Pt->H8 b=some o:=fun b o e h1 h2=>up _ _ (q3 _ _ (qF _ _ e h2) h1) h1;refine k H8 ⟨fi,dx,tl,D2,D3,s8 _ _ af,Y0,Y6,⟨bs,up _ _ Y2 (eY Y2 OZ (by intro z;cases z)),YX,hb3.mono fun j hj e=>up _ _ e (eY e OZ (by intro z;cases z))⟩,
       ⟨ds,s8 _ _ (q4 _ _ _ O1 (eY O1 Um (by intro z;cases z))),Y3,hd.mono fun j hj e=>s8 _ _ (q4 _ _ _ e (eY e Um (by intro z;cases z)))⟩,
       ⟨YU,Rp,upT _ _ g2t OV.symm (OY.not g2t (by intro ps z;cases z)),fun z hz=>upT _ _ (YW z hz) (eY (YW z hz) OX (by intro z;cases z)) (OY.not (YW z hz) (by intro ps z;cases z)),NL,((show (zp Rp).Perm (zp pL) from pm.map _).trans (re ez)),jm⟩⟩ ?_ fun b o e h1 h2=>up _ _ (d3 _ _ e h1 h2) h1
      exact Y1.mono up OZ
end
theorem ie:NV xs++[.int (x:Int)]=NV (xs++[x]):=by unfold NV;rw[cR];rfl
theorem nY{xs:List Nat}{i:Nat}{x:V}(h:(NV xs)[i]?=some x):∃y,xs[i]?=some y/\x=.int (y:Int):=by
 unfold NV at h;rw[bu] at h;cases e:xs[i]? with
 |none=>rw[e] at h;cases h
 |some z=>rw[e] at h;exact⟨z,rfl,(bh h).symm⟩
theorem Uo{xs:List Nat}:NV xs=IV (xs.map fun (x:Nat)=>(x:Int)):=by unfold NV IV;rw[dH];rfl
section
variable {P:Program} {w:World} {K:PySem.W.Frag} {mg:Str->Option Value} {base:Heap}
theorem O2:aB ["self"] ["self"] (ap G7):=⟨rfl,rfl,rfl,by decide +kernel,rfl,by decide +kernel,by decide +kernel⟩
def pM(n:Nat)(ts:Ts)(M:Nat):Prop:=(∃i j,i<n/\j<n/\M=far ts i j)/\∀i j,i<n->j<n->far ts i j<=M
def Bk(C:Addr):Sp:=fun vs H Q _=>∃ (L:Addr->Prop) (p:Addr) (n:Nat) (ts:Ts),vs=[.ref p]/\cH C H L p n ts/\∀ (M:Nat) (H':Hp),aG H H'->pM n ts M->Q (.int M) H'
theorem KR{f C:Addr}{fd:FuncData}(F:fH K "span" "Net.span" G7 f fd)(T:NT K mg C)(B:Bl mg):bf P w K mg base aY 1 f fd ["self"] (Bk C):=by
 refine F.ok O2 (fun vs H Q E h=>?_) (fun dR A outer s H vs Q E hr h=>?_)
 .obtain⟨L,p,n,ts,rfl,_⟩:=h;rfl
 .obtain⟨L,p,n,ts,rfl,N,k⟩:=h;obtain⟨dx,tl,ol,ds,h1,_,_,_,R,_⟩:=N.ob;have n1:=N.gw.n1;have n2:=N.gw.n2;obtain⟨bs,r1,r2,r3⟩:=R;refine'⟨_,aj (aL (aN (pG rfl) (by rfl) B.max qV (aa ?c ag))),?_⟩;case c=>
   refine' bY (g:=bi 0) (te:=NW (MT K) (bB (aT 0) gf)) (NB:=["row"]) (src:=[none]) (bz (by kernel_rfl)) rfl (b_ (kC (pv 0) rfl)) ?g ?t ?e;case g=>exact fun cl C s₃ H₃ fp=>av (i:=0) M3 rfl (Or.inl rfl) (Or.inr rfl)
   case t=>exact fun cl C s₃ H₃ fp=>dz
   case e=>exact fun cl C s₃ H₃ fp=>aN (pG rfl) (by rfl) B.max qV (aa (pv 0) ag)
  refine⟨_,rfl,p,C,dx,_,_,rfl,h1,T.cl,T.nD,wr _ _ _ _,ds,rfl,⟨_,a8.of r1⟩,fun D hD=>?_⟩;have nl:ds≠D:=am r1 hD;refine eT (xs:=bs.map V.ref) (fun i ys σ H2=>(∃a,σ=[a])/\∃ms:List Nat,ys=NV ms/\ms.length=i/\(∀k (hk:k<ms.length),(∃j,j<n/\ms[k]=far ts k j)/\∀j,j<n->far ts k j<=ms[k])/\H2=upd H D (.lst ys)) ⟨⟨_,rfl⟩,[],rfl,rfl,fun k hk=>absurd hk (by simp),rfl⟩ (fun i ys σ H2 _ ⟨_,_,_,_,_,e⟩=>by rw[e];exact a8.of (by rw[ao nl];exact r1)) ?_ ?_
  .rintro i x ys σ H2 Kt Kf hx ⟨⟨a,rfl⟩,ms,rfl,Up,hm,rfl⟩ kt kf;obtain⟨hi,rfl⟩:=Hh hx;rw[r3.1] at hi;have Uq:=r3.2 i hi;have nb:bs.getD i 0≠D:=am Uq hD;have Y7:NV ((List.range n).map (far ts i))=IV ((List.range n).map (fun x=>((far ts i x:Nat):Int))):=by unfold NV IV;rw[dH,dH];rfl
   refine⟨_,rfl,_,(List.range n).map (fun x=>((far ts i x:Nat):Int)),rfl,a8.of (by rw[ao nb];exact Uq.trans (congrArg (fun l=>some (HO.lst l)) Y7)),?_,fun M Hl Rv=>?_⟩
   .intro z;have:=congrArg List.length z;rw[aO,dQ,vj] at this;lia
   .obtain⟨j,hj,rfl⟩:=bj.mp Hl;have Gd:=bv.mp hj;refine kt _ _ _ af (by rw[aS,Up];exact cz hi (aX n2 (by decide))) ⟨⟨_,rfl⟩,ms++[far ts i j],ie,by rw[dE,Up];rfl,fun k hk=>?_,by rw[jt]⟩;by_cases DG:k<ms.length
    .rw[List.getElem_append_left DG];exact hm k DG
    .have:k=ms.length:=by rw[dE] at hk;simp at hk;lia
     subst this;rw[List.getElem_append_right (aI _)];simp only[rh,List.getElem_cons_zero];rw[Up];refine⟨⟨j,Gd,rfl⟩,fun j2 hj2=>?_⟩;have:=Rv _ (bj.mpr ⟨j2,bv.mpr hj2,rfl⟩);lia
  .rintro ys σ H2 ⟨_,ms,rfl,Up,hm,rfl⟩;rw[aO,r3.1] at Up;refine⟨D,ms.map (fun (x:Nat)=>(x:Int)),rfl,a8.of (by rw[af,Uo]),?_,fun M Hl Rv=>?_⟩
   .intro z;have:=congrArg List.length z;rw[aO,vj] at this;lia
   .obtain⟨m,hmm,rfl⟩:=bj.mp Hl;obtain⟨k',DG,rfl⟩:=lH.mp hmm;refine k _ _ (ai hD) ⟨?_,fun i j hi hj=>?_⟩
    .obtain⟨⟨j,hj,e⟩,_⟩:=hm k' DG;exact⟨k',j,by lia,hj,e⟩
    .have h1:=(hm i (by lia)).2 j hj;have h2:=Rv _ (bj.mpr ⟨_,fh (show i<ms.length by lia),rfl⟩);lia
end
end qi
namespace L2
open PySem PySem.Spec PyProof.Rows
section
variable {X:Cx}
end
end L2
namespace qi
open PySem L2 gg
section
variable {P:Program} {w:World} {K:PySem.W.Frag} {mg:Str->Option Value} {base:Heap}
end
end qi
namespace L2
open PySem PySem.Spec PyProof.Rows
section
variable {prog:Program} {w:World} {A:Around} {E:Value->Shared->Prop} {s:Shared} {R:Result->Shared->Prop} {l d Ia:Addr}
end
section
variable {prog:Program} {w:World} {A:Around} {E:Value->Shared->Prop} {s:Shared} {l:Addr}
end
section
variable {X:Cx}
end
structure O4(K:PySem.W.Frag)(C:Addr):Prop where
 makes:PySem.W.makesIn K C=true
 init:PySem.W.findIn K (.ref C) "__init__"=some (some (.builtin "object.__init__"))
 keep:PySem.W.keepIn K (.ref C)=true
section
variable {X:Cx} {C:Addr} {x:Str} {p pos:Pos}
def Y8(C:Addr):TE:=fun _ H Q=>∀y dx,H y=none->H dx=none->dx≠y->Q (.ref y) (upd (upd H dx (.own y)) y (.ins C dx []))
theorem Bm(M:O4 X.K C)(hg:Gl X x)(hm:X.mg x=some (.ref C))(Ao:(x==("__debug__":Str))=false:=by decide):PE X (.Call (.Name x p) [] [] pos) (Y8 C):=by
 intro ae s σ H Q I h;refine j_ (mW I hg hm ?_ Ao);have I2:=aM.made (C:=C) I;have dS:wpAny (model X.prog X.w) X.A (call (.ref C) []) (EP X ae σ Q) X.xe s:=by
  refine kq ?_;refine Dz I.lK M.makes M.init (fun self=>PySem.W.Looks.of_pure (PySem.W.oi_bind self)) ?_;have Y:=zN (M:=model X.prog X.w) I.lK M.makes;have t1:PySem.W.Looks (model X.prog X.w) ((s.heap.push PySem.W.emptyDict).push (PySem.W.instObj C s.heap.objs.size)) (typeOf (.ref (s.heap.objs.size+1))) (.ref C):=(PySem.W.Looks.ld (by heap_get)).andThen .now;have t2:PySem.W.Looks (model X.prog X.w) ((s.heap.push PySem.W.emptyDict).push (PySem.W.instObj C s.heap.objs.size)) (isInstance (.ref (s.heap.objs.size+1)) (.type "object")) true:=t1.andThen (Y.top.keeps fun b o e=>bU _ (bU _ e));refine u9 PySem.W.oi_plain PySem.W.entry_oi (@PySem.W.check_slot (model X.prog X.w) _ _ _ "object.__init__" "object" "__init__" (.ref (s.heap.objs.size+1)) [] [] _ PySem.W.oi_kind PySem.W.oi_split t2 (PySem.W.oi_args (.ref (s.heap.objs.size+1))) ?_);rw[PySem.W.oi_run];refine wpAny_pure (And.intro rfl ?_);exact⟨.ref (s.heap.objs.size+1),_,I2,rfl,h _ _ (I.bE.fresh (rp _)) (I.bE.fresh (aI _)) (bb (j6 _))⟩
 exact PySem.W.callWith_K0 I.lK M.keep dS
end
section
variable {X:Cx}
end
end L2
namespace gg
abbrev mQ(ts:Ts)(h:Int):Nat:=(ts.filter fun t=>decide (t.1=h)).length
theorem wz:mQ (ts++us) h=mQ ts h+mQ us h:=by unfold mQ;rw[gN,dE]
theorem qG:mQ [(a,b),(b,a)] h=(if a=h then 1 else 0)+(if b=h then 1 else 0):=by
 unfold mQ;by_cases c1:a=h <;> by_cases c2:b=h <;> simp[c1,c2]
theorem KS:mQ (fu (ps++[(a,b)])) h=mQ (fu ps) h+((if a=h then 1 else 0)+(if b=h then 1 else 0)):=by
 rw[mB,wz];exact congrArg _ qG
theorem KU:fu [(a,b)]=[(a,b),(b,a)]:=rfl
theorem KW(ha:a<n)(hb:b<n)(tI:a≠b):Cr n [(ci a,ci b),(ci b,ci a)]:=by
 have ne:ci a≠ci b:=fun e=>tI (fN e);refine⟨?_,?_,?_,?_,?_⟩
 .rw[eX];refine⟨fun h=>?_,by simp⟩;have:=cA.mp h;exact ne (congrArg Prod.fst this)
 .intro t ht;rcases a_.mp ht with rfl|ht
  .exact⟨⟨by lia,by lia⟩,⟨by lia,by lia⟩⟩
  .rw[cA.mp ht];exact⟨⟨by lia,by lia⟩,⟨by lia,by lia⟩⟩
 .intro t ht;rcases a_.mp ht with rfl|ht
  .exact ne
  .rw[cA.mp ht];exact fun e=>ne e.symm
 .intro h;by_cases c1:ci a=h <;> by_cases c2:ci b=h <;> simp[c1,c2]
 .intro h;have:=qG (a:=ci a) (b:=ci b) (h:=h);show mQ [(ci a,ci b),(ci b,ci a)] h<=8;rw[this];split <;> split <;> lia
theorem bR.pair(F:bR n (fu ps))(ha:a<n)(hb:b<n)(tI:a≠b)(h1:(ci a,ci b)∉ps)(h2:(ci b,ci a)∉ps)(d1:mQ (fu ps) (ci a)<=7)(d2:mQ (fu ps) (ci b)<=7):bR n (fu (ps++[(ci a,ci b)])):=by
 rw[mB,KU];have ne:ci a≠ci b:=fun e=>tI (fN e);refine F.app (wd F.pre (KW ha hb tI) (fun t ht=>?_) fun h=>?_)
 .rcases a_.mp ht with rfl|ht
  .exact fun z=>(lm.mp z).elim h1 h2
  .rw[cA.mp ht];exact fun z=>(lm.mp z).elim h2 h1
 .show mQ (fu ps) h+mQ [(ci a,ci b),(ci b,ci a)] h<=8;rw[qG];have m:=F.most h;by_cases c1:ci a=h
  .subst c1;rw[ak rfl,aq (fun e=>ne e.symm)];lia
  .by_cases c2:ci b=h
   .subst c2;rw[aq c1,ak rfl];lia
   .rw[aq c1,aq c2];exact m
theorem uE:∀ {ps:Ts} {h:Int},(∀u∈ps,u.1≠u.2)->(ps.filter fun u=>decide (u.1=h)||decide (u.2=h)).length=mQ (fu ps) h
 |[],_,_=>rfl
 |u::ps,h,hn=>by
  have ih:=uE (ps:=ps) (h:=h) fun v hv=>hn v (cm _ hv);have hu:=hn u bL;have e:fu (u::ps)=[u,we u]++fu ps:=rfl;rw[e,wz,eF,<-ih];obtain⟨a,b⟩:=u;have d:mQ [(a,b),we (a,b)] h=(if a=h then 1 else 0)+(if b=h then 1 else 0):=qG;rw[d];have tI:a≠b:=hu;by_cases c1:a=h
  .have c2:¬ b=h:=fun z=>tI (c1.trans z.symm);simp[c1,c2];lia
  .by_cases c2:b=h
   .simp[c1,c2];lia
   .simp[c1,c2]
def yw(xs:List Nat):Ts:=(List.range xs.length).map fun k=>(ci (xs.getD k 0),ci (xs.getD ((k+1) % xs.length) 0))
theorem Hm:((List.range m).map fun k=>(k+1) % m).Perm (List.range m):=by
 cases m with
 |zero=>exact ij _
 |succ m=>
  rw[ii,cR,List.map_singleton,Nat.mod_self];have e:(List.range m).map (fun k=>(k+1) % (m+1))=(List.range m).map (·+1):=jO fun k hk=>jn (by have:=bv.mp hk;lia);rw[e];refine jN.trans ?_;rw[<-ii,uW];exact ij _
theorem lu:(yw xs).Perm (v_ xs):=by
 have h:=(Hm (m:=xs.length)).map fun k=>(ci (xs.getD (pk xs.length k) 0),ci (xs.getD k 0))
 rw[dH] at h;refine List.Perm.trans (re ?_) h;unfold yw;refine jO fun k hk=>?_;have DG:=bv.mp hk;have:pk xs.length ((k+1) % xs.length)=k:=by
  by_cases c:k+1=xs.length
  .rw[c,Nat.mod_self];unfold pk;rw[ak rfl];lia
  .rw[jn (by lia)];unfold pk;rw[aq (by lia)];lia
 show _=(ci (xs.getD (pk xs.length ((k+1) % xs.length)) 0),ci (xs.getD ((k+1) % xs.length) 0));rw[this]
theorem bR.round(F:bR n ts)(nd:xs.Nodup)(lt:∀x∈xs,x<n)(c2:2<=xs.length)(hf:∀x∈xs,mQ ts (ci x)<=7)(hn:∀t∈yw xs,t∉ts):bR n (ts++yw xs):=by
 have P:=Ei F.pre nd lt c2 (fun t ht=>?_) (fun t ht=>hn t (lu.mem_iff.mpr ht))
 .exact(F.app P).perm (lG _ lu)
 .obtain⟨k,hk,rfl⟩:=wa ht;exact hf _ (pF (Cu hk))
end gg
namespace L2
open PySem PySem.Spec PyProof.Rows
theorem Et{X:Cx}:fU X (.type "int") (fun xs H Q=>∃b,xs=[.bl b]/\Q (.int (if b then 1 else 0)) H):=by
 intro ae s σ H xs us Q I r h;obtain⟨b,rfl,q⟩:=h;obtain⟨u1,rfl,r1⟩:=r.one;obtain rfl:u1=Value.bool b:=r1;exact call_int_bool ⟨.int _,H,I.tok _,⟨_,rfl⟩,q⟩
end L2
namespace gg
theorem uF{n:Nat}{ts:Ts}{s:Nat}(F:bR n ts)(hs:s<n):∀ {k x:Nat},x<n->far ts s x=k->∃l:List Nat,l.length=k+1/\l.Nodup/\∀y∈l,y<n/\far ts s y<=k
 |0,x,hx,e=>⟨[x],rfl,by simp,fun y hy=>by rw[cA.mp hy];exact⟨hx,by lia⟩⟩
 |k+1,x,hx,e=>by
  have w:=(F.AV hs hx).1;rw[e] at w;obtain⟨c,wc,t⟩:=w;have hc:=(F.TJ t).1;have h1:=(F.AV hs hc).2 _ wc;have h2:=(F.AV hs hx).2 (far ts s c+1) ⟨c,(F.AV hs hc).1,t⟩;obtain⟨l,l1,l2,l3⟩:=uF F hs (k:=k) hc (by lia);refine⟨x::l,by rw[d9,l1],eX.mpr ⟨fun z=>?_,l2⟩,fun y hy=>?_⟩
  .have:=(l3 x z).2;lia
  .rcases a_.mp hy with rfl|z
   .exact⟨hx,by lia⟩
   .have:=l3 y z;exact⟨this.1,by lia⟩
theorem Bn{n:Nat}{ts:Ts}{a b:Nat}(F:bR n ts)(ha:a<n)(hb:b<n):far ts a b<n:=by
 obtain⟨l,l1,l2,l3⟩:=uF F ha hb rfl;have:=dA l2 fun y hy=>(l3 y hy).1;lia
theorem wA{n:Nat}{ts:Ts}{a b:Nat}(F:bR n ts)(ha:a<n)(hb:b<n)(h:a≠b):1<=far ts a b:=by
 have w:=(F.AV ha hb).1;cases e:far ts a b with
 |zero=>rw[e] at w;exact absurd w h
 |succ k=>lia
def dM(st:List (Option Nat))(i:Nat):List Nat:=(List.range i).filter fun j=>(st.getD j none).isSome
noncomputable def pN(ts:Ts)(homes:List Nat)(st:List (Option Nat))(i:Nat):List Nat:=(dM st i).map fun j=>far ts ((st.getD j none).getD 0) (homes.getD j 0)
theorem gX{st:List (Option Nat)}{i:Nat}:dM st (i+1)=dM st i++if (st.getD i none).isSome then [i] else []:=by
 unfold dM;rw[ii,gN,eF];rfl
theorem nZ{st:List (Option Nat)}{i:Nat}:(dM st i).length<=i:=aX (g8 _ _) (by rw[dQ];exact aI _)
theorem yx{ts:Ts}{homes:List Nat}{st:List (Option Nat)}{i:Nat}:(pN ts homes st i).length<=i:=by unfold pN;rw[aO];exact nZ
end gg
namespace L2
open PySem PySem.Spec PyProof.Rows
abbrev WV(v d:Addr):HO:=.ext fun h=>h.IsValuesView v d
theorem Ur{P:Program}{w:World}{H:Hp}{h:Heap}{v d:Addr}(x:h.IsValuesView v d):cg P w H h v (WV v d):=⟨x,(let ⟨o,e,_⟩:=x;⟨o,e⟩),fun h1 h2 ⟨o,e,r⟩ k=>⟨o,k o e,r⟩⟩
def CQ:V->List V->Hp->VK->Prop:=fun x vs H Q=>∃ (d:Addr) (ba:List (gY×V)),x=.ref d/\vs=[]/\H d=some (.dK ba)/\∀v,H v=none->Q (.ref v) (upd H v (WV v d))
theorem Eu{X:Cx}:Wr X "dict.values" CQ:=by
 intro ae s σ H x vs v us Q I rx rv h;obtain⟨d,ba,rfl,rfl,hd,q⟩:=h;cases rx;cases rv;obtain⟨z,hS,ws,kv,hdo⟩:=Ce I.bE hd;refine call_meetsIn Ff hdo.typeIs PySem.F.entry_dict_values (PySem.F.args_dict_values_1 _) (meets_dict_values _ d hS) ⟨⟨ws,hdo⟩,?_⟩;have vw:(s.heap.push { cls:=.type "dict_values",data:=.fields #[.ref d] }).IsValuesView s.heap.objs.size d:=⟨_,cY _ rfl,rfl,rfl⟩
 refine⟨.ref s.heap.objs.size,_,I.BZ (t':=s.toks) (fun b u e=>bU _ e) (oA (aI _)) (Ur vw),rfl,q _ (I.bE.fresh (aI _))⟩
theorem Bp{κ:Type}:∀ {ba:List (κ×V)} {ws:List (κ×Value)} {ns:List Int} {i:Nat} {k:κ} {v:Value},KV ba ws->ba.map (·.2)=ns.map V.int->ws[i]?=some (k,v)->∃t,v=.int (ns.getD i 0) t
 |[],_,ns,i,k,v,r,e,h=>by cases r;cases h
 |(k0,x)::ba,_,[],i,k,v,r,e,h=>by cases e
 |(k0,x)::ba,_,m::ns,i,k,v,r,e,h=>by
  cases r with
  |cons a r=>
   injection e with e1 e2;cases i with
   |zero=>
    cases h;have a2:=a.2;have e1:x=.int m:=e1;subst e1;exact a2
   |succ i=>exact Bp (ns:=ns) r e2 h
def M4:List V->Hp->VK->Prop:=fun xs H Q=>∃ (v d:Addr) (ba:List (gY×V)) (ns:List Int),xs=[.ref v]/\H v=some (WV v d)/\H d=some (.dK ba)/\ba.map (·.2)=ns.map V.int/\ns≠[]/\∀M,M∈ns->(∀a∈ns,a<=M)->Q (.int M) H
theorem Ev{X:Cx}(hc:X.calm=true):fU X (.builtin "max") M4:=by
 intro ae s σ H xs us Q I r h;obtain⟨v,d,ba,ns,rfl,hv,hd,en,jb,q⟩:=h;obtain⟨u1,rfl,r1⟩:=r.one;obtain rfl:u1=Value.ref v:=r1;have vw:s.heap.IsValuesView v d:=(I.bE v _ hv).1;obtain⟨z,hS,ws,kv,o,es,ep,g1,g2,g3,g4,g5,g6⟩:=Ce I.bE hd;have Tf:s.heap.DictAt (dh X.prog X.w) d ws ep:=⟨o,es,g1,g2,g3,g4,g5,g6⟩
 have len:ws.length=ns.length:=by rw[<-kv.length,<-aO (f:=(·.2)),en,aO]
 have n0:0<ns.length:=List.length_pos_iff.mpr jb;have dN:=a9 g1;refine call_max_walk (wpAny_pyIter_values vw Tf ⟨s.heap.objs.size,[s.heap.objs.size,d],[s.heap.objs.size],ws.length,_,_,fun i j=>decide (ns.getD i 0 > ns.getD j 0),rfl,
  Walks.dictValues (knd:=dh X.prog X.w) (A:=X.A.in1) (I.ok.hd hc) s.heap.objs.size d (bb dN) ws ep,⟨⟨_,cY _ rfl,rfl,rfl⟩,Tf.push _⟩,fun c hc=>?_,by lia,CmpOf.ints_gt (fun i=>ns.getD i 0) fun i v ⟨k,e⟩=>Bp kv en e,fun v' h' tk hP hk=>?_⟩)
 .show c<(s.heap.push _).objs.size;rw[i_];rcases a_.mp hc with rfl|hc
  .exact j6 _
  .rw[cA.mp hc];exact eV dN
 .obtain⟨k,e⟩:=hP;obtain⟨t,rfl⟩:=Bp kv en e;obtain⟨h1,h2⟩:=argBest_gt (fun i=>ns.getD i 0) (ws.length-1);refine⟨.int _,H,I.kept (t':=tk) fun b o e=>hk b o (fun z=>?_) (bU _ e),⟨t,rfl⟩,q _ ?_ fun a ha=>?_⟩
  .have:=a9 e;rw[cA.mp z] at this;exact jT _ this
  .generalize argBest _ _=b at *;rw[bZ,b8 (by lia)];exact fh _
  .obtain⟨j,hj,e'⟩:=lH.mp ha;have:=h2 j (by lia);rw[show ns.getD j 0=a by rw[bZ,b8 hj];exact e'] at this;exact this
theorem Hn{ns:List Int}:∀ {us:List Value},aZ (ns.map V.int) us->IntsAre us ns:=by
 induction ns with
 |nil=>intro us r;cases r;exact .nil
 |cons n ns ih=>
  intro us r;cases r with
  |cons a r=>
   obtain⟨t,rfl⟩:=(show ∃t,_=Value.int n t from a)
   exact .cons n t (ih r)
def O5:V->List V->Hp->VK->Prop:=fun x vs H Q=>∃ (l:Addr) (ns:List Int) (k:Int),x=.ref l/\vs=[.int k]/\H l=some (.lst (ns.map V.int))/\k∈ns/\Q (.int ((ns.idxOf k:Nat):Int)) H
theorem yy{X:Cx}:Sx X "list.index" O5:=by
 intro ae s σ H x vs v us Q I rx rv h;obtain⟨l,ns,k,rfl,rfl,hH,hk,q⟩:=h;cases rx;obtain⟨u,rfl,ru⟩:=rv.one;obtain⟨t,rfl⟩:=(show ∃t,u=Value.int k t from ru)
 obtain⟨z,its,n,r,hl,e⟩:=I.xw hH;have hi:=Hn r;have dO:=hi.length;have hj:ns.idxOf k<ns.length:=List.idxOf_lt_length_iff.mpr hk;refine md y8 ⟨_,e,rfl⟩ PySem.F.entry_list_index (PySem.F.args_list_index_2 _ _)
  (SeqAt.list_indexAt l its.toArray n none #[] (.int k t) (isInt k) (ns.idxOf k) (by simpa [dO] using hj) ?_ ?_ ?_) ⟨e,fun y hy=>(eq_isInt k t hi y (by simpa using hy)).at _ _,⟨.int _,H,I.tok _,⟨s.toks,rfl⟩,q⟩⟩
 .have:sizeLine<2 ^ 62:=by decide
  rw[aO] at z;lia
 .show isInt k its[ns.idxOf k]=true;rw[isInt_at k hi _ (by lia) hj];simpa using List.getElem_idxOf hj
 .intro j hjs dN;show isInt k its[j]=false;rw[isInt_at k hi j (by simpa using hjs) (by lia)];exact ne_of_lt_idxOf dN _
end L2
namespace qi
open PySem L2 gg
abbrev O6:Stmt:=top 46
abbrev Ho:Stmt:=top 47
abbrev Bq:Stmt:=top 48
structure M5(mg:Str->Option Value):Prop where
 zip:mg "zip"=none
 enum:mg "enumerate"=none
def bw(H:Hp)(p:Addr):Prop:=∃a b:Int,H p=some (.lst [.int a,.int b])/\0<=a/\0<=b/\b<4294967296
theorem bw.same{H H':Hp}{p:Addr}(h:bw H p)(s:aG H H'):bw H' p:=let ⟨a,b,e,r⟩:=h;⟨a,b,s _ _ e,r⟩
theorem bw.full{H:Hp}{p:Addr}(h:bw H p):H p≠none:=by obtain⟨a,b,e,_⟩:=h;rw[e];intro z;cases z
theorem bw.ne{H:Hp}{p q:Addr}(h:bw H p)(e:H q=none):q≠p:=by rintro rfl;exact h.full e
theorem bw.put{H:Hp}{p q:Addr}{o:HO}(h:bw H p)(n:p≠q):bw (upd H q o) p:=let ⟨a,b,e,r⟩:=h;⟨a,b,by rw[ao n];exact e,r⟩
theorem bw.neT{H:Hp}{p q:Addr}{xs:List V}(h:bw H p)(e:H q=some (.tup xs)):q≠p:=by rintro rfl;obtain⟨a,b,z,_⟩:=h;rw[e] at z;cases z
theorem PO.jj{H H':Hp}{p:Addr}{zs:Zs}(h:PO H zs)(s:aK p H H')(hp:bw H p):PO H' zs:=fun z hz=>s _ _ (h z hz) (hp.neT (h z hz))
theorem mE:(["_law_k","_law_left","_law_pot_here"]:List Str).Nodup:=by decide +kernel
section
variable {P:Program} {w:World} {K:PySem.W.Frag} {mg:Str->Option Value} {base:Heap}
theorem CS:aB ["_law_script","_law_place","_law_cell","_law_seed"] ["_law_script","_law_place"] (ap O6):=⟨rfl,rfl,rfl,by decide +kernel,rfl,by decide +kernel,by decide +kernel⟩
def Hq(K:PySem.W.Frag):Sp:=fun vs H Q _=>∃ (a:Addr) (ns:List Int) (k:Nat),vs=[.ref a,.int k]/\a8 K H a (ns.map V.int)/\k<64/\∀ (r:Addr) (H':Hp),aG H H'->H r=none->bw H' r->Q (.ref r) H'
theorem O7{f:Addr}{fd:FuncData}(F:fH K "_law_pot" "_law_pot" O6 f fd)(B:Bl mg):bf P w K mg base aY 1 f fd ["_law_script","_law_place"] (Hq K):=by
 refine F.ok CS (fun vs H Q E h=>?_) (fun dR A outer s H vs Q E hr h=>?_)
 .obtain⟨a,ns,k,rfl,_⟩:=h;rfl
 .obtain⟨a,ns,k,rfl,hS,hk,q⟩:=h;refine⟨_,(ah (aF (i:=2) CS.nd rfl (Or.inl rfl) au)
   (ah (cw (aP lM (pv 1) (aN aQ (by rfl) B.len d_ (aa (pv 0) ag)) (aW _)) (aj (aF (i:=2) CS.nd rfl (Or.inl rfl) (a7 aV (pv 0) (pv 1) (fun _ _=>rfl)))) be)
   (ah (aF (i:=3) CS.nd rfl (Or.inl rfl) (aU im (aU di (aU di (aU fV (aU im (pv 2) au) au) (aU fV au (pv 1))) au) au))
   (aj (aL (eN (aa (aU fV (pv 2) (bW Et (by rfl) B.int zg (aa (hZ Sk (pv 2) (aU NN au au) (aW _)) ag))) (aa (aU im (aU fV (aU im (aU fV (pv 3) (pv 3)) au) (pv 3)) au) ag)))))))),?_⟩
  dsimp only;refine yp (fun σ Hc=>Hc=H/\σ=[some (.ref a),some (.int k),some (.int 0),none]) ?_ (fun N hN=>hN _ _ ⟨rfl,rfl⟩);rintro σ Hc ⟨rfl,rfl⟩;refine yp (fun σ H1=>H1=Hc/\∃c:Int,σ=[some (.ref a),some (.int k),some (.int c),none]) ?_ ?_
  .rintro σ Hc ⟨rfl,c,rfl⟩;have m0:0<=c % 2147483629:=kh _ (by decide);have m1:c % 2147483629<2147483629:=j9 _ (by decide);refine⟨_,rfl,_,_,rfl,rfl,(by show (0:Int)<2147483629;decide),_,_,rfl,rfl,.inl ⟨by lia,by lia⟩,_,rfl,_,_,rfl,rfl,.inl ⟨by decide,by decide⟩,_,_,rfl,rfl,_,_,rfl,rfl,_,_,rfl,rfl,(by show (0:Int)<2147483629;decide),?_⟩;generalize c % 2147483629*48271+104729*(k:Int)+7=z;have s0:0<=z % 2147483629:=kh _ (by decide);have s1:z % 2147483629<2147483629:=j9 _ (by decide);obtain⟨sd,WW⟩:∃sd,sd=z % 2147483629:=⟨_,rfl⟩
   rw[<-WW] at s0 s1;show bi 3 (V.int (z % 2147483629)) _ _ _;rw[<-WW];have t0:0<=sd*sd % 2147483587:=kh _ (by decide);have t1:sd*sd % 2147483587<2147483587:=j9 _ (by decide);have v0:0<=sd*sd % 2147483587*sd % 2147483587:=kh _ (by decide);have v1:sd*sd % 2147483587*sd % 2147483587<2147483587:=j9 _ (by decide);refine⟨_,rfl,_,rfl,_,_,rfl,rfl,⟨by decide,by decide,by decide⟩,_,_,rfl,rfl,_,rfl,_,_,rfl,rfl,.inr ?_,_,rfl,_,rfl,_,_,rfl,rfl,.inl ⟨by lia,by lia⟩,_,_,rfl,rfl,(by show (0:Int)<2147483587;decide),_,rfl,_,_,rfl,rfl,.inl ⟨by lia,by lia⟩,_,_,rfl,rfl,(by show (0:Int)<2147483587;decide),by show 2<=sizeLine;decide,fun r pR=>?_⟩
   .split <;> exact⟨by decide,by decide⟩
   .refine q r _ (ai pR) pR ⟨_,_,af,?_,v0,by lia⟩;split
    .rename_i e;have:=cQ e;have e18:(0:Int)<=10 ^ (18:Int).toNat:=by decide
     lia
    .lia
  .intro N hN;refine⟨_,rfl,_,rfl,a,_,rfl,.inl hS,_,_,rfl,rfl,_,rfl,dZ (fun e=>?_) (fun e=>hN _ _ ⟨rfl,0,rfl⟩)⟩;have Rh:k<ns.length:=by have:=cQ e;rw[aO] at this;lia
   exact⟨_,rfl,_,rfl,a,_,_,.int ns[k],rfl,rfl,hS,aH (by rw[bu,b8 Rh];rfl),hN _ _ ⟨rfl,_,rfl⟩⟩
theorem Hr:aB ["_law_pot_here","_law_many","_law_found"] ["_law_pot_here","_law_many"] (ap Ho):=⟨rfl,rfl,rfl,by decide +kernel,rfl,by decide +kernel,by decide +kernel⟩
def g7:Sp:=fun vs H Q _=>∃ (p:Addr) (m:Nat),vs=[.ref p,.int m]/\0<m/\m<1000000/\bw H p/\∀ (d:Nat) (H':Hp),d<m->aK p H H'->bw H' p->Q (.int (d:Int)) H'
theorem KY{f:Addr}{fd:FuncData}(F:fH K "_law_draw" "_law_draw" Ho f fd):bf P w K mg base aY 1 f fd ["_law_pot_here","_law_many"] g7:=by
 refine F.ok Hr (fun vs H Q E h=>?_) (fun dR A outer s H vs Q E hr h=>?_)
 .obtain⟨p,m,rfl,_⟩:=h;rfl
 .obtain⟨p,m',rfl,m0',m1',⟨a,b,hp,a0,b0,b1⟩,q'⟩:=h;generalize hm:((m':Nat):Int)=m;have m0:0<m:=by lia
  have m1:m<1000000:=by lia
  have q:∀ (d a b:Int) (H':Hp),0<=d->d<m->0<=a->0<=b->b<4294967296->aK p H H'->H' p=some (.lst [.int a,.int b])->Q (.int d) H':=fun d a b H' h1 h2 h3 h4 h5 h6 h7=>by
   have:=q' d.toNat H' (by lia) h6 ⟨a,b,h7,h3,h4,h5⟩;rw[zA h1] at this;exact this
  refine⟨_,(ah (cw (aP rH (a7 aV (pv 0) au (fun _ _=>rfl)) au (aW _)) (ah (aF (i:=2) Hr.nd rfl (Or.inl rfl) (aU im (a7 aV (pv 0) au (fun _ _=>rfl)) (pv 1)))
    (ah (fT (aU m_ (a7 aV (pv 0) au (fun _ _=>rfl)) (pv 1)) (jy (pv 0) au fW))
    (aj (aL (pv 2))))) be)
   (ah (fT (aU im (aU di (aU fV (a7 aV (pv 0) au (fun _ _=>rfl)) au) au) au) (jy (pv 0) au fW))
   (aj (aL (aU im (aU m_ (aU im (aU fV (a7 aV (pv 0) au (fun _ _=>rfl)) (a7 aV (pv 0) au (fun _ _=>rfl))) au) au) (pv 1)))))),?_⟩
  have g0:Ar [V.int a,V.int b] 0=some (.int a):=aH (j:=0) rfl;have g1:Ar [V.int a,V.int b] 1=some (.int b):=aH (j:=1) rfl;refine⟨_,rfl,p,_,_,_,rfl,rfl,a8.of hp,g0,_,_,rfl,rfl,_,rfl,?_⟩;refine dZ (fun e=>?_) (fun e=>?_)
  .refine⟨_,rfl,p,_,_,_,rfl,rfl,a8.of hp,g0,_,rfl,_,_,rfl,rfl,m0,?_⟩;refine⟨_,rfl,p,_,_,_,rfl,rfl,a8.of hp,g0,_,rfl,_,_,rfl,rfl,⟨m0,by lia⟩,_,rfl,p,_,0,0,rfl,rfl,hp,gG (j:=0) (by show 0<2;decide),_,rfl,?_⟩;exact q _ _ _ _ (kh _ (by lia)) (j9 _ m0) (Int.ediv_nonneg a0 (by lia)) b0 b1 aK.upd af
  .refine⟨_,rfl,p,_,_,_,rfl,rfl,a8.of hp,g1,_,_,rfl,rfl,.inl ⟨by lia,by lia⟩,_,_,rfl,rfl,_,_,rfl,rfl,(by show (0:Int)<2147483629;decide),?_⟩;refine⟨_,rfl,p,_,1,1,rfl,rfl,hp,gG (j:=1) (by show 1<2;decide),?_⟩;have c0:0<=(b*39373+611953) % 2147483629:=kh _ (by decide);have c1:(b*39373+611953) % 2147483629<2147483629:=j9 _ (by decide);refine⟨_,rfl,p,_,_,_,rfl,rfl,a8.of af,aH (j:=1) rfl,_,rfl,p,_,_,_,rfl,rfl,a8.of af,aH (j:=1) rfl,_,_,rfl,rfl,.inl ⟨by lia,by lia⟩,_,_,rfl,rfl,(by show (0:Int)<2147483563;decide),_,_,rfl,rfl,⟨by decide,by decide⟩,_,rfl,_,_,rfl,rfl,m0,?_⟩;exact q _ _ _ _ (kh _ (by lia)) (j9 _ m0) a0 c0 (by lia) aK.upd af
theorem sr{α:Type}:∀ {ls:List α} {k:Nat} (hk:k<ls.length),(ls[k]::ls.eraseIdx k).Perm ls
 |x::xs,0,_=>ij _
 |x::xs,k+1,h=>(List.Perm.swap x _ _).trans ((sr (ls:=xs) (k:=k) (by simpa using h)).cons x)
theorem Ht{α:Type}{xs ls:List α}{k:Nat}{v:α}{r:List α}(p:(xs++ls).Perm r)(h:ls[k]?=some v):(xs++[v]++ls.eraseIdx k).Perm r:=by
 refine List.Perm.trans ?_ p;rw[dq];refine lG _ ?_;obtain⟨hk,e⟩:=cu.mp h;subst e;exact sr hk
theorem CU:aB ["_law_pot_here","_law_row","_law_left"] ["_law_pot_here","_law_row"] (ap Bq):=⟨rfl,rfl,rfl,by decide +kernel,rfl,by decide +kernel,by decide +kernel⟩
def n5:Sp:=fun vs H Q _=>∃ (p l:Addr) (xM:List V),vs=[.ref p,.ref l]/\H l=some (.lst xM)/\xM.length<=256/\bw H p/\∀ (r:Addr) (ys:List V) (H':Hp),aK p H H'->bw H' p->H r=none->H' r=some (.lst ys)->ys.Perm xM->Q (.ref r) H'
theorem Hu{f:Addr}{fd:FuncData}(F:fH K "_law_mixed" "_law_mixed" Bq f fd)(B:Bl mg)(D:ce P w K mg base aY 1 "_law_draw" ["_law_pot_here","_law_many"] g7):bf P w K mg base aY 2 f fd ["_law_pot_here","_law_row"] n5:=by
 refine F.ok CU (fun vs H Q E h=>?_) (fun dR A outer s H vs Q E hr h=>?_)
 .obtain⟨p,l,xM,rfl,_⟩:=h;rfl
 .obtain⟨p,l,xM,rfl,hl,hm,hp,q⟩:=h;refine'⟨_,(ah (aF (i:=2) CU.nd rfl (Or.inr rfl) (bW jB (by rfl) B.lst qS (aa (pv 1) ag)))
   (aj (aL ?c1))),?_⟩
  case c1=>
   refine' bY (g:=(bi 0)) (te:=(XN K "list" FT (aT 1) (bB (pQ g7 [] E0 (bB (aT 2) (bB (NW (fun xs H Q=>∃p ys,xs=[V.ref p]/\(a8 K H p ys\/bJ K H p ys)/\Q (.int ys.length) H) (bB (aT 1) gf)) gf))) gf))) (NB:=["_law_k","_law_left","_law_pot_here"]) (src:=[none,some 2,some 0]) (bz (by kernel_rfl)) rfl (br rfl B.range (aa (aN aQ (by rfl) B.len d_ (aa (pv 1) ag)) ag)) ?g ?t ?e;case g=>exact fun cl C s₃ H₃ fp=>(av (i:=0) mE rfl (Or.inl rfl) (Or.inr rfl))
   case t=>exact fun cl C s₃ H₃ fp=>dz
   case e=>exact fun cl C s₃ H₃ fp=>(iG iD PySem.F.slot_list_pop PySem.F.type_list_pop FU (pv 1) (aa (aw D hr aA (aa (pv 2) (aa (aN aQ (by rfl) B.len d_ (aa (pv 1) ag)) ag))) ag))
  refine⟨_,rfl,l,xM,rfl,.inl (a8.of hl),fun L hL=>?_⟩;have s0:=ai (o:=.lst xM) hL;have gL:(upd H L (.lst xM)) L=some (.lst xM):=af;have hpL:=hp.same s0;have N6:=s0 _ _ hl;have npL:L≠p:=hp.ne hL;generalize upd H L _=H1 at *;refine⟨_,rfl,l,_,rfl,.inl (a8.of N6),((xM.length:Nat):Int),rfl,by lia,by lia,fun D' hD=>?_⟩;have Y9:H D'=none:=s0.free hD;have npD:D'≠p:=hp.ne Y9;have Y_:L≠D':=am gL hD;rw[lJ];refine fq (n:=xM.length) (lo:=0) (fun i ys σ H2=>(∃k,σ=[k,some (.ref L),some (.ref p)])/\aK p H H2/\bw H2 p/\∃ls:List V,H2 L=some (.lst ls)/\H2 D'=some (.lst ys)/\(ys++ls).Perm xM/\ys.length=i)
   ⟨⟨_,rfl⟩,aK.of (s0.trans (ai hD)),hpL.same (ai hD),xM,by rw[ao Y_];exact gL,af,ij _,rfl⟩ ?_ ?_
  .rintro i ys σ H2 Kt Kf hi ⟨⟨k',rfl⟩,sm,qx,ls,M6,iZ,pm,xl⟩ kt kf;have ll:ls.length=xM.length-i:=by have:=pm.length_eq;rw[dE] at this;lia
   refine⟨_,rfl,.inl ⟨rfl,_,a8.of M6⟩,_,rfl,_,rfl,L,_,rfl,.inl (a8.of M6),p,_,rfl,by lia,by lia,qx,fun d H3 hd s3 CV=>?_⟩;have hv:ls[d]?=some ls[d]:=b8 hd;refine⟨L,_,(d:Int),d,ls[d],rfl,rfl,s3 _ _ M6 npL,by lia,by lia,(vL (gG hd)).1,hv,?_⟩;refine kt _ _ _ (by rw[ao Y_.symm];exact s3 _ _ iZ npD) (by rw[xl];exact cz (show i<257 by lia) (by decide)) ⟨⟨_,rfl⟩,fun b o e n=>?_,?_,ls.eraseIdx d,by rw[ao Y_,af],af,Ht pm hv,by rw[dE,xl];rfl⟩
   .rw[ao (am e Y9),ao (am e hL)];exact s3 _ _ (sm _ _ e n) n
   .exact(CV.put npL.symm).put npD.symm
  .rintro ys σ H2 ⟨_,sm,qx,ls,M6,iZ,pm,xl⟩;have ll:ls=[]:=by
    have:=pm.length_eq;rw[dE,xl] at this;exact zc.mp (by lia)
   subst ll;rw[i9] at pm;exact q D' ys H2 sm qx Y9 iZ pm
end
end qi
namespace gg
def Us(m:Nat)(ns:List Nat)(i:Nat):List (Nat×Nat):=(List.range i).flatMap fun j=>w6 m (pr (ns.take j)) (ns.getD j 0)
theorem gI{α:Type}{f:Nat->List α}{n:Nat}:(List.range (n+1)).flatMap f=(List.range n).flatMap f++f n:=by
 rw[ii,List.flatMap_append];simp
theorem qH:∀ {ns:List Nat} {x:Nat},pr (ns++[x])=pr ns*x
 |[],x=>by show x*1=1*x;lia
 |n::ns,x=>by show n*pr (ns++[x])=n*pr ns*x;rw[qH,z8]
theorem Hv{m:Nat}:∀ {ns:List Nat} {st:Nat},bx m st ns=(List.range ns.length).flatMap fun j=>w6 m (st*pr (ns.take j)) (ns.getD j 0)
 |[],st=>rfl
 |n::ns,st=>by
  show w6 m st n++bx m (st*n) ns=_;rw[d9,uW,List.flatMap_cons,Hv (ns:=ns)];congr 1
  .show w6 m st n=w6 m (st*1) n;rw[vB]
  .rw[List.flatMap_map];congr 1;funext j;show _=w6 m (st*(n*pr (ns.take j))) (ns.getD j 0);rw[z8]
theorem kJ{α:Type}{g:Nat->List α}{M:Nat}(hg:∀x,(g x).length<=M):∀ {m:Nat},((List.range m).flatMap g).length<=m*M
 |0=>bV _
 |m+1=>by rw[gI,dE,Nat.succ_mul];have:=hg m;have:=kJ hg (m:=m);lia
theorem CW{m st n:Nat}:(w6 m st n).length<=m:=by unfold w6;rw[aO];exact aX (g8 _ _) (by simp)
def yz(b at_ h:Nat):List (Nat×Nat):=(List.range (b-h / b ^ at_ % b-1)).map fun k=>(h,h+(k+1)*b ^ at_)
theorem sw{b at_ h:Nat}(hb:b<=5):(yz b at_ h).length<=5:=by unfold yz;rw[aO,dQ];lia
end gg
namespace qi
open PySem L2 gg
abbrev O8:Stmt:=top 50
abbrev Br:Stmt:=top 51
def M7(ns:List Nat):Prop:=1<=ns.length/\ns.length<=5/\(∀x∈ns,2<=x/\x<=8)/\pr ns<=32
theorem mH:(["_law_house","_law_step","_law_side"]:List Str).Nodup:=by decide +kernel
theorem mI:(["_law_more","_law_house","_law_step"]:List Str).Nodup:=by decide +kernel
theorem jI:∀ {ns:List Nat} {i:Nat},(∀x∈ns,1<=x)->pr (ns.take i)<=pr ns
 |[],i,_=>by rw[List.take_nil];exact aI _
 |n::ns,0,h=>by
  show 1<=n*pr ns;have:∀ {l:List Nat},(∀x∈l,1<=x)->1<=pr l:=fun {l}=>by
   induction l with
   |nil=>intro _;exact aI _
   |cons x l ih=>intro hl;exact rn (hl x bL) (ih fun y hy=>hl y (cm _ hy))
  exact this (l:=n::ns) h
 |n::ns,i+1,h=>by
  show n*pr (ns.take i)<=n*pr ns;exact oz n (jI fun x hx=>h x (cm _ hx))
theorem Ew{lo:Int}{n:Nat}{D:Addr}{g:TG}{tt:TT}{te:TE}{dS:Hp->Prop}{σB:St}{H0:Hp}(c:Nat->Bool)(F:Nat->Int×Int)(dL:St->Prop)(hD:H0 D=none)(hn:n<=1000)(h0:dL σB)(hs:∀i σ H (R:V->St->Hp->Prop) (Kf:St->Hp->Prop),i<n->dL σ->aG H0 H->(∀σ2 p,dL σ2->H p=none->c i=true->R (.ref p) σ2 (upd H p (G6 (F i))))->(∀σ2,dL σ2->c i=false->Kf σ2 H)->g (.int (lo+i)) σ H fun σ2 H2=>tt σ2 H2 fun b H3=>if b=true then te σ2 H3 fun v H4=>R v σ2 H4 else Kf σ2 H3)(hd:∀zs H,aG H0 H->H D=some (.lst (zr zs))->PO H zs->zp zs=((List.range n).filter c).map F->dS H):hV (Fw lo n) g tt te D dS σB (upd H0 D (.lst [])):=by
 refine fq (fun i ys σ H=>dL σ/\aG H0 H/\H D=some (.lst ys)/\∃zs:Zs,ys=zr zs/\PO H zs/\zp zs=((List.range i).filter c).map F) ⟨h0,ai hD,af,[],rfl,PO.nil,rfl⟩ ?_ ?_
 .rintro i ys σ H Kt Kf hi ⟨sh,sm,nU,zs,rfl,po,ep⟩ kt kf;have hl:zs.length<=i:=by
   rw[<-b9,ep,aO];exact aX (g8 _ _) (by rw[dQ];exact aI _)
  refine hs i σ H Kt Kf hi sh sm (fun σ2 p Bb hp e=>?_) (fun σ2 Bb e=>?_)
  .have nD:D≠p:=am nU hp;refine kt _ _ _ (by rw[ao nD];exact nU) (by rw[eC];exact fK (show zs.length<=1000 by lia) (by decide)) ⟨Bb,bP (sm.trans (ai hp)) hD,af,zs++[(p,F i)],?_,?_,?_⟩
   .rw[eU];rfl
   .refine PO.putL (xs:=zr zs) ?_ (by rw[ao nD];exact nU);exact(po.putN hp).append (PO.one af)
   .rw[eA,ep,ii,gN,cR];simp[eF,e,zp]
  .refine kf _ _ ⟨Bb,sm,nU,zs,rfl,po,?_⟩;rw[ep,ii,gN];simp[eF,e]
 .rintro ys σ H ⟨_,sm,nU,zs,rfl,po,ep⟩;exact hd zs H sm nU po ep
def yA(H:Hp)(D:Addr)(ts:Ts)(H2:Hp):Prop:=H D=none/\aG H H2/\∃zs,H2 D=some (.lst (zr zs))/\PO H2 zs/\zp zs=ts
theorem yA.ext{H H2 H3:Hp}{N:Addr}{ts us:Ts}{pL zs:Zs}(sm:aG H H2)(Hw:PO H2 pL)(ez:zp pL=ts)(s3:aG H2 H3)(hN:H3 N=none)(po:PO H3 zs)(e:zp zs=us):yA H N (ts++us) (upd H3 N (.lst (zr pL++zr zs))):=
 ⟨(sm.trans s3).free hN,(sm.trans s3).trans (ai hN),pL++zs,by rw[af,eU],((Hw.same s3).append po).same (ai hN),by rw[eA,ez,e]⟩
section
variable {P:Program} {w:World} {K:PySem.W.Frag} {mg:Str->Option Value} {base:Heap}
theorem n6:aB ["_law_sides_here","_law_many","_law_side","_law_pairs","_law_step"] ["_law_sides_here"] (ap O8):=⟨rfl,rfl,rfl,by decide +kernel,rfl,by decide +kernel,by decide +kernel⟩
def Hx(H:Hp)(m:Nat)(ts:Ts)(Q:V->Hp->Prop):Prop:=∀ (t r:Addr) (zs:Zs) (H':Hp),aG H H'->H t=none->H r=none->H' t=some (.tup [.int m,.ref r])->H' r=some (.lst (zr zs))->PO H' zs->zp zs=ts->Q (.ref t) H'
def Hy:Sp:=fun vs H Q _=>∃ (a:Addr) (ns:List Nat),vs=[.ref a]/\H a=some (.tup (NV ns))/\M7 ns/\Hx H (pr ns) ((mC ns).map ic) Q
theorem O9{f:Addr}{fd:FuncData}(F:fH K "_law_box" "_law_box" O8 f fd)(B:Bl mg):bf P w K mg base aY 1 f fd ["_law_sides_here"] Hy:=by
 refine F.ok n6 (fun vs H Q E h=>?_) (fun dR A outer s H vs Q E hr h=>?_)
 .obtain⟨a,ns,rfl,_⟩:=h;rfl
 .obtain⟨a,ns,rfl,ha,⟨N6,hl,hn,hm⟩,k⟩:=h;refine'⟨_,(ah (aF (i:=1) n6.nd rfl (Or.inl rfl) au)
   (ah (cD dt rfl (vH (pv 0)) (av (i:=2) n6.nd rfl (Or.inr rfl))
    (aj (aF (i:=1) n6.nd rfl (Or.inl rfl) (aU fV (pv 1) (pv 2)))))
   (ah (aF (i:=3) n6.nd rfl (Or.inl rfl) (eN ag))
   (ah (aF (i:=4) n6.nd rfl (Or.inr rfl) au)
   (ah (cD dt rfl (vH (pv 0)) (av (i:=2) n6.nd rfl (Or.inr rfl))
    (ah (aF (i:=3) n6.nd rfl (Or.inl rfl) (aU kG (pv 3) ?c1))
    (aj (aF (i:=4) n6.nd rfl (Or.inr rfl) (aU fV (pv 4) (pv 2))))))
   (aj (aL (dB (aa (pv 1) (aa (pv 3) ag)))))))))),?_⟩
  case c1=>
   refine' bY (g:=(bi 0)) (tt:=(io (ja (wX fun i j=>.bl (decide (i<j))) (ja (rI (fun _ j=>0<j) fun i j=>.int (i % j)) (ja (rI Si fun i j=>.int (i / j)) (aT 0) (aT 1)) (aT 2)) (ja (wX fun i j=>.int (i-j)) (aT 2) (tC (.int 1)))))) (te:=(xk (bB (aT 0) (bB (ja (wX fun i j=>.int (i+j)) (aT 0) (aT 1)) gf)))) (NB:=["_law_house","_law_step","_law_side"]) (src:=[none,some 4,some 2]) (bz (by kernel_rfl)) rfl (br rfl B.range (aa (pv 1) ag)) ?g ?t ?e;case g=>exact fun cl C s₃ H₃ fp=>(av (i:=0) mH rfl (Or.inl rfl) (Or.inr rfl))
   case t=>exact fun cl C s₃ H₃ fp=>d5 (aP lM (aU im (aU m_ (pv 0) (pv 1)) (pv 2)) (aU jA (pv 2) au) (aW _))
   case e=>exact fun cl C s₃ H₃ fp=>(dB (aa (pv 0) (aa (aU di (pv 0) (pv 1)) ag)))
  have Za:∀x∈ns,1<=x:=fun x hx=>by have:=hn x hx;lia
  refine⟨_,rfl,a,rfl,⟨_,bJ.of ha⟩,vI (K:=K) (xs:=NV ns) (fun i σ H2=>H2=H/\∃x2,σ=[some (.ref a),some (.int ((pr (ns.take i):Nat):Int)),x2,none,none]) ⟨rfl,_,rfl⟩ (fun i σ H2 _ z=>by rw[z.1];exact bJ.of ha) ?_ ?_⟩
  .rintro i x σ H2 hx ⟨rfl,x2,rfl⟩;obtain⟨n,hv,rfl⟩:=nY hx;have hnn:=hn n (dk hv);have mZ:=jI (ns:=ns) (i:=i) Za;have tk:ns.take (i+1)=ns.take i++[n]:=by rw[gO,hv];rfl
   rw[tk,qH];exact⟨_,rfl,_,rfl,_,_,rfl,rfl,.inr ⟨by lia,by lia⟩,rfl,_,rfl⟩
  rintro σ H2 ⟨rfl,x2,rfl⟩;rw[aS,jQ];refine⟨by show 0<=sizeLine;decide,fun D hD=>?_⟩;have s0:=ai (o:=.lst []) hD;refine⟨_,rfl,a,rfl,⟨_,bJ.of (s0 _ _ ha)⟩,vI (K:=K) (xs:=NV ns) (fun i σ Hc=>∃D,(∃x2,σ=[some (.ref a),some (.int ((pr ns:Nat):Int)),x2,some (.ref D),some (.int ((pr (ns.take i):Nat):Int))])/\yA H2 D ((Us (pr ns) ns i).map ic) Hc) ⟨D,⟨_,rfl⟩,hD,s0,[],af,PO.nil,rfl⟩ (fun i σ Hc _ ⟨_,z⟩=>bJ.of (z.2.2.1 _ _ ha)) ?_ ?_⟩
  .rintro i x σ Hc hx ⟨D,⟨x3,rfl⟩,hD,sm,pL,iZ,Hw,KZ⟩;obtain⟨n,hv,rfl⟩:=nY hx;have hi:i<ns.length:=(cu.mp hv).1;have hnn:=hn n (dk hv);have mZ:=jI (ns:=ns) (i:=i) Za;have abX:1<=pr (ns.take i):=jI (ns:=ns.take i) (i:=0) fun x hx=>Za x (lW hx);have gd:ns.getD i 0=n:=by rw[bZ,hv];rfl
   have tk:ns.take (i+1)=ns.take i++[n]:=by rw[gO,hv];rfl
   rw[tk,qH];have eB:Us (pr ns) ns (i+1)=Us (pr ns) ns i++w6 (pr ns) (pr (ns.take i)) n:=by unfold Us;rw[gI,gd]
   have zl:pL.length<=160:=by
    rw[<-b9,KZ,aO];exact aX (kJ (M:=32) fun j=>aX CW hm) (by lia)
   rw[eB,cR];generalize pr (ns.take i)=st at *;refine⟨_,rfl,_,rfl,((pr ns:Nat):Int),rfl,by lia,by lia,fun L hL=>?_⟩;refine Ew (lo:=0) (n:=pr ns) (fun h=>decide (h / st % n+1<n)) (fun h=>ic (h,h+st)) (fun σ=>∃x,σ=[x,some (.int (st:Int)),some (.int (n:Int))]) hL (by lia) ⟨_,rfl⟩ ?_ ?_
   .rintro j σ H4 R Kf hj ⟨x,rfl⟩ qF kt kf;have Zb:((0:Int)+(j:Int)) / (st:Int) % (n:Int)=(((j / st % n:Nat)):Int):=by rw[fP];rfl
    refine⟨_,rfl,_,rfl,_,_,rfl,rfl,⟨by lia,by lia⟩,_,rfl,_,_,rfl,rfl,(by show (0:Int)<(n:Int);lia),_,rfl,_,_,rfl,rfl,_,_,rfl,rfl,_,rfl,?_⟩;rw[Zb];refine dZ (fun c=>?_) (fun c=>?_)
    .have c:=cQ c;refine⟨_,rfl,_,rfl,_,rfl,_,_,rfl,rfl,by show 2<=sizeLine;decide,fun t ht=>?_⟩;rw[fP];exact kt _ _ ⟨_,rfl⟩ ht (cZ (by lia))
    .exact kf _ ⟨_,rfl⟩ (fA fun z=>c (cZ (by lia)))
   .intro zs H4 s4 hL4 Ex WX;have e4:zp zs=(w6 (pr ns) st n).map ic:=by rw[WX];unfold w6;rw[dH];rfl
    have l4:zs.length<=32:=by rw[<-b9,e4,aO];exact aX CW hm
    refine⟨D,L,_,_,rfl,rfl,s4 _ _ iZ,hL4,by rw[eC,eC];exact aX (show _<=192 by lia) (by decide),fun N hN=>?_⟩;exact⟨_,rfl,_,rfl,_,_,rfl,rfl,.inr ⟨by lia,by lia⟩,N,⟨_,rfl⟩,yA.ext sm Hw KZ s4 hN Ex e4⟩
  .rintro σ Hc ⟨D,⟨x3,rfl⟩,hD,sm,pL,iZ,Hw,KZ⟩;refine⟨_,rfl,_,rfl,by show 2<=sizeLine;decide,fun t ht=>?_⟩;have st:=ai (o:=.tup [.int ((pr ns:Nat):Int),.ref D]) ht;refine k t D pL _ (sm.trans st) (sm.free ht) hD af (st _ _ iZ) (Hw.same st) ?_;rw[KZ,aS];unfold mC Us;rw[Hv];simp only[Nat.one_mul]
theorem f9:aB ["_law_figures","_law_base","_law_many","_law_k","_law_pairs","_law_step","_law_house","_law_figure"] ["_law_figures","_law_base"] (ap Br):=⟨rfl,rfl,rfl,by decide +kernel,rfl,by decide +kernel,by decide +kernel⟩
def wB:Sp:=fun vs H Q _=>∃f b:Nat,vs=[.int f,.int b]/\1<=f/\f<=5/\2<=b/\b<=5/\b ^ f<=32/\Hx H (b ^ f) ((sn f b).map ic) Q
theorem Hz{f:Addr}{fd:FuncData}(F:fH K "_law_words" "_law_words" Br f fd)(B:Bl mg):bf P w K mg base aY 1 f fd ["_law_figures","_law_base"] wB:=by
 refine F.ok f9 (fun vs H Q E h=>?_) (fun dR A outer s H vs Q E hr h=>?_)
 .obtain⟨f,b,rfl,_⟩:=h;rfl
 .obtain⟨f,b,rfl,f1,f2,b1,b2,hm,k⟩:=h;refine'⟨_,(ah (aF (i:=2) f9.nd rfl (Or.inl rfl) au)
   (ah (cD dt rfl (br rfl B.range (aa (pv 0) ag)) (av (i:=3) f9.nd rfl (Or.inl rfl))
    (aj (aF (i:=2) f9.nd rfl (Or.inl rfl) (aU fV (pv 2) (pv 1)))))
   (ah (aF (i:=4) f9.nd rfl (Or.inl rfl) (eN ag))
   (ah (aF (i:=5) f9.nd rfl (Or.inr rfl) au)
   (ah (cD dt rfl (br rfl B.range (aa (pv 0) ag)) (av (i:=3) f9.nd rfl (Or.inl rfl))
    (ah (cD dt rfl (br rfl B.range (aa (pv 2) ag)) (av (i:=6) f9.nd rfl (Or.inr rfl))
     (ah (aF (i:=7) f9.nd rfl (Or.inl rfl) (aU im (aU m_ (pv 6) (pv 5)) (pv 1)))
     (aj (aF (i:=4) f9.nd rfl (Or.inl rfl) (aU kG (pv 4) ?c1)))))
    (aj (aF (i:=5) f9.nd rfl (Or.inr rfl) (aU fV (pv 5) (pv 1))))))
   (aj (aL (dB (aa (pv 2) (aa (pv 4) ag)))))))))),?_⟩
  case c1=>
   refine' bY (g:=(bi 0)) (te:=(xk (bB (aT 1) (bB (ja (wX fun i j=>.int (i+j)) (aT 1) (ja (rI Jo fun i j=>.int (i*j)) (aT 0) (aT 2))) gf)))) (NB:=["_law_more","_law_house","_law_step"]) (src:=[none,some 6,some 5]) (bz (by kernel_rfl)) rfl (tW rfl B.range (aa au (aa (aU jA (pv 1) (pv 7)) ag))) ?g ?t ?e;case g=>exact fun cl C s₃ H₃ fp=>(av (i:=0) mI rfl (Or.inl rfl) (Or.inr rfl))
   case t=>exact fun cl C s₃ H₃ fp=>dz
   case e=>exact fun cl C s₃ H₃ fp=>(dB (aa (pv 1) (aa (aU di (pv 1) (aU fV (pv 0) (pv 2))) ag)))
  have hpw:∀i,i<=f->b ^ i<=32:=fun i hi=>aX (Nat.pow_le_pow_right (by lia) hi) hm;refine⟨_,rfl,(f:Int),rfl,by lia,by lia,c_ (n:=f) (lo:=0) (fun i σ H2=>H2=H/\∃x3,σ=[some (.int f),some (.int b),some (.int ((b ^ i:Nat):Int)),x3,none,none,none,none]) ⟨rfl,_,rfl⟩ ?_ ?_⟩
  .rintro i σ H2 hi ⟨rfl,x3,rfl⟩;have hbi:=hpw i (by lia);refine⟨_,rfl,_,rfl,_,_,rfl,rfl,.inr ⟨by lia,by lia⟩,rfl,some (.int (0+(i:Int))),?_⟩;rw[Nat.pow_succ];rfl
  rintro σ H2 ⟨rfl,x3,rfl⟩;refine⟨by show 0<=sizeLine;decide,fun D hD=>?_⟩;refine⟨_,rfl,(f:Int),rfl,by lia,by lia,c_ (n:=f) (lo:=0) (fun i σ Hc=>∃D,(∃x3 x6 x7,σ=[some (.int f),some (.int b),some (.int ((b ^ f:Nat):Int)),x3,some (.ref D),some (.int ((b ^ i:Nat):Int)),x6,x7])/\yA H2 D (((List.range i).flatMap fun at_=>(List.range (b ^ f)).flatMap (yz b at_)).map ic) Hc) ⟨D,⟨_,_,_,rfl⟩,hD,ai hD,[],af,PO.nil,rfl⟩ ?_ ?_⟩
  .rintro i σ Hc hi ⟨D,⟨x3,x6,x7,rfl⟩,Pi⟩;have hbi:=hpw i (by lia);have hbp:0<b ^ i:=Nat.pow_pos (by lia);refine⟨_,rfl,((b ^ f:Nat):Int),rfl,by lia,by lia,c_ (n:=b ^ f) (lo:=0) (fun j σ H4=>∃D,(∃x3 x6 x7,σ=[some (.int f),some (.int b),some (.int ((b ^ f:Nat):Int)),x3,some (.ref D),some (.int ((b ^ i:Nat):Int)),x6,x7])/\yA H2 D ((((List.range i).flatMap fun at_=>(List.range (b ^ f)).flatMap (yz b at_))++(List.range j).flatMap (yz b i)).map ic) H4) ⟨D,⟨_,_,_,rfl⟩,by simpa using Pi⟩ ?_ ?_⟩
   .rintro j σ H4 hj ⟨D,⟨x3,x6,x7,rfl⟩,hD,qF,zs4,hz4,Ex,WX⟩;have Zb:((0:Int)+(j:Int)) / ((b ^ i:Nat):Int) % (b:Int)=((j / b ^ i % b:Nat):Int):=by rw[fP];rfl
    have dN:j / b ^ i % b<b:=o0 _ (by lia);refine⟨_,rfl,_,rfl,_,_,rfl,rfl,⟨by lia,by lia⟩,_,rfl,_,_,rfl,rfl,(by show (0:Int)<(b:Int);lia),?_⟩;change bi 7 (V.int (((0:Int)+(j:Int)) / ((b ^ i:Nat):Int) % (b:Int))) _ _ _;rw[Zb];refine⟨_,rfl,_,rfl,_,rfl,_,_,rfl,rfl,1,_,rfl,⟨by lia,by lia,by lia,by lia⟩,fun L hL=>?_⟩;have hn:((b:Int)-((j / b ^ i % b:Nat):Int)-1).toNat=b-j / b ^ i % b-1:=by lia
    rw[hn];have zl:zs4.length<=1000:=by
     have e:=congrArg List.length WX;rw[b9,aO,dE] at e;have z3:∀at_,((List.range (b ^ f)).flatMap (yz b at_)).length<=160:=fun at_=>aX (kJ fun x=>sw b2) (by lia);have z4:=kJ (m:=i) z3;have z5:=kJ (m:=j) fun x=>sw (at_:=i) (h:=x) b2;lia
    refine yr (lo:=1) (fun c=>ic (j,j+(c+1)*b ^ i)) (fun σ=>∃x,σ=[x,some (.int (j:Int)),some (.int ((b ^ i:Nat):Int))]) hL (by lia) ⟨_,by rw[fP];rfl⟩ ?_ ?_
    .rintro c σ H5 R Kf hc ⟨x,rfl⟩ EX kt;have hq:(1+(c:Int))*((b ^ i:Nat):Int)=(((c+1)*b ^ i:Nat):Int):=by rw[Int.add_comm];exact(zX _ _).symm
     refine⟨_,rfl,_,rfl,_,rfl,_,rfl,_,_,rfl,rfl,.inr ⟨by lia,by lia⟩,_,_,rfl,rfl,by show 2<=sizeLine;decide,fun t ht=>?_⟩;rw[hq];exact kt _ _ ⟨_,rfl⟩ ht
    .intro zs H5 s5 Ut Zc ez5 _;have e5:zp zs=(yz b i j).map ic:=by rw[ez5];unfold yz;rw[dH];rfl
     have l5:zs.length<=5:=by rw[<-b9,e5,aO];exact sw b2
     refine⟨D,L,_,_,rfl,rfl,s5 _ _ hz4,Ut,by rw[eC,eC];exact aX (show _<=1005 by lia) (by decide),fun N hN=>⟨N,⟨_,_,_,rfl⟩,?_⟩⟩;rw[gI,<-dq,cR];exact yA.ext qF Ex WX s5 hN Zc e5
   .rintro σ H4 ⟨D,⟨x3,x6,x7,rfl⟩,P4⟩;refine⟨_,rfl,_,rfl,_,_,rfl,rfl,.inr ⟨by lia,by lia⟩,D,⟨x3,x6,x7,?_⟩,?_⟩
    .rw[Nat.pow_succ];rfl
    .rw[gI];exact P4
  .rintro σ Hc ⟨D,⟨x3,x6,x7,rfl⟩,hD,sm,pL,iZ,Hw,KZ⟩;refine⟨_,rfl,_,rfl,by show 2<=sizeLine;decide,fun t ht=>?_⟩;have st:=ai (o:=.tup [.int ((b ^ f:Nat):Int),.ref D]) ht;exact k t D pL _ (sm.trans st) (sm.free ht) hD af (st _ _ iZ) (Hw.same st) KZ
end
end qi
namespace L2
open PySem PySem.Spec PyProof.Rows
def CY:List Nat->TA
 |[]=>gf
 |n::ns=>bB (tC (.int (n:Nat))) (CY ns)
def HB:List (List Nat)->TA
 |[]=>gf
 |c::cs=>bB (xk (CY c)) (HB cs)
def Zd:Expr->Option Nat
 |.Constant (.int (.ofNat n)) _ _=>some n
 |_=>none
def K0:List Expr->Option (List Nat)
 |[]=>some []
 |e::es=>(Zd e).bind fun n=>(K0 es).map (n::·)
def K1:List Expr->Option (List (List Nat))
 |[]=>some []
 |.Tuple es _ _::r=>(K0 es).bind fun c=>(K1 r).map (c::·)
 |_=>none
theorem O_{e:Expr}{n:Nat}(h:Zd e=some n):∃j pos,e=.Constant (.int (n:Nat)) j pos:=by
 unfold Zd at h;split at h
 .cases h;exact⟨_,_,rfl⟩
 .cases h
theorem CZ{X:Cx}:∀ {es:List Expr} {ns:List Nat},K0 es=some ns->PA X es (CY ns)
 |[],ns,h=>by cases h;exact ag
 |e::es,ns,h=>by
  unfold K0 at h;obtain⟨n,h1,h2⟩:=Option.bind_eq_some_iff.mp h;obtain⟨ms,h3,rfl⟩:=uV.mp h2;obtain⟨j,pos,rfl⟩:=O_ h1;exact aa au (CZ h3)
theorem C0{X:Cx}:∀ {es:List Expr} {cs:List (List Nat)},K1 es=some cs->PA X es (HB cs)
 |[],cs,h=>by cases h;exact ag
 |e::r,cs,h=>by
  unfold K1 at h;split at h
  .cases h;contradiction
  .rename_i es _ _ r' e';cases e';obtain⟨n,h1,h2⟩:=Option.bind_eq_some_iff.mp h;obtain⟨ms,h3,rfl⟩:=uV.mp h2;exact aa (dB (CZ h1)) (C0 h3)
  .cases h
end L2
namespace qi
open PySem L2 gg
abbrev Bs:Stmt:=top 49
abbrev sA:Stmt:=top 59
abbrev HC:Stmt:=top 57
abbrev HD:Stmt:=top 53
abbrev Bt:Stmt:=top 55
theorem n8:(["_law_one","_law_other"]:List Str).Nodup:=by decide +kernel
theorem tL:(["_law_pair","_law_house"]:List Str).Nodup:=by decide +kernel
theorem k7:(["_law_k","_law_house","_law_row"]:List Str).Nodup:=by decide +kernel
theorem HF:∀ {ns:List Nat} {σ:St} {H:Hp} {Q:List V->Hp->Prop},Q (NV ns) H->CY ns σ H Q
 |[],σ,H,Q,h=>h
 |n::ns,σ,H,Q,h=>HF (ns:=ns) (Q:=fun xs H2=>Q (.int (n:Nat)::xs) H2) h
theorem HG:∀ {cs:List (List Nat)} {σ:St} {H:Hp} {Q:List V->Hp->Prop},(∀c∈cs,c.length<=5)->(∀ (as:List Addr) (H':Hp),aG H H'->as.length=cs.length->(∀i,i<cs.length->H' (as.getD i 0)=some (.tup (NV (cs.getD i []))))->Q (as.map V.ref) H')->HB cs σ H Q
 |[],σ,H,Q,_,h=>h [] H (aG.refl _) rfl fun i hi=>nomatch hi
 |c::cs,σ,H,Q,hc,h=>by
  refine HF (ns:=c) ⟨?_,fun t ht=>?_⟩
  .rw[aS];exact aX (hc c bL) (by decide)
  refine HG (cs:=cs) (fun c z9=>hc c (cm _ z9)) fun as H' s l e=>?_;refine h (t::as) H' ((ai ht).trans s) (congrArg (·+1) l) fun i hi=>?_;cases i with
  |zero=>exact s _ _ af
  |succ i=>exact e i (Nat.lt_of_succ_lt_succ hi)
theorem yB{α:Type}{x:α}:∀ {k:Nat},(List.replicate k [x]).flatten=List.replicate k x
 |0=>rfl
 |k+1=>by rw[lZ,qZ,yB,lZ];rfl
theorem M8{A B:Prop}{b:Bool}(hb:b=true)(h:A):if b=true then A else B:=by rw[ak hb];exact h
theorem p9{A B:Prop}{b:Bool}(hb:b=false)(h:B):if b=true then A else B:=by rw[aq (by rw[hb];decide)];exact h
theorem wC{lo:Int}{n:Nat}{D:Addr}{g:TG}{tt:TT}{te:TE}{dS:Hp->Prop}{σB:St}{H0:Hp}(c:Nat->Bool)(dL:St->Prop)(hD:H0 D=none)(hn:n<=1000)(h0:dL σB)(hs:∀x σ H (Kt:V->St->Hp->Prop) (Kf:St->Hp->Prop),x<n->dL σ->aG H0 H->(∀σ2 H2,dL σ2->aG H H2->c x=true->Kt (.int (lo+(x:Nat))) σ2 H2)->(∀σ2 H2,dL σ2->aG H H2->c x=false->Kf σ2 H2)->
   g (.int (lo+(x:Nat))) σ H fun σ2 H2=>tt σ2 H2 fun b H3=>if b=true then te σ2 H3 fun v H4=>Kt v σ2 H4 else Kf σ2 H3)(hd:∀H,aG H0 H->H D=some (.lst (((List.range n).filter c).map fun (x:Nat)=>V.int (lo+(x:Int))))->dS H):hV (Fw lo n) g tt te D dS σB (upd H0 D (.lst [])):=by
 refine fq (fun i ys σ H=>dL σ/\aG H0 H/\H D=some (.lst ys)/\ys=((List.range i).filter c).map fun (x:Nat)=>V.int (lo+(x:Int))) ⟨h0,ai hD,af,rfl⟩ ?_ ?_
 .rintro i ys σ H Kt Kf hi ⟨sh,sm,nU,rfl⟩ kt kf;refine hs i σ H Kt Kf hi sh sm (fun σ2 H2 Bb s2 e=>?_) (fun σ2 H2 Bb s2 e=>?_)
  .refine kt _ _ _ (s2 _ _ nU) ?_ ⟨Bb,bP (sm.trans s2) hD,af,?_⟩
   .rw[aO];refine fK (g8 _ _) ?_;rw[dQ];exact cz (show i<1000 by lia) (by decide)
   .rw[ii,gN,cR];simp[eF,e]
  .refine kf _ _ ⟨Bb,sm.trans s2,s2 _ _ nU,?_⟩;rw[ii,gN];simp[eF,e]
 .rintro ys σ H ⟨_,sm,nU,rfl⟩;exact hd H sm nU
theorem Bu:∀ {xs:List Nat} {j x:Nat},(NV xs).set j (.int (x:Int))=NV (xs.set j x)
 |[],_,_=>rfl
 |y::ys,0,x=>rfl
 |y::ys,j+1,x=>congrArg (V.int (y:Int)::·) (Bu (xs:=ys) (j:=j) (x:=x))
theorem fE{xs:List Nat}{j:Nat}(h:j<xs.length):(NV xs)[j]?=some (.int ((xs.getD j 0:Nat):Int)):=by
 unfold NV;rw[bu,bZ,b8 h];rfl
theorem aK.put{p a:Addr}{H H':Hp}{o:HO}(s:aK p H H')(e:H a=none):aK p H (upd H' a o):=fun b o' h n=>by
 rw[ao (am h e)];exact s b o' h n
theorem wD{β:Type}{K:PySem.W.Frag}{a D:Addr}{g:TG}{tt:TT}{te:TE}{dS:Hp->Prop}{σB:St}{H0:Hp}(ms:List β)(e G:β->V)(c:β->Bool)(dL:St->Prop)(ha:H0 a=some (.lst (ms.map e)))(hD:H0 D=none)(hn:ms.length<=1000)(h0:dL σB)(hs:∀m σ H (Kt:V->St->Hp->Prop) (Kf:St->Hp->Prop),m∈ms->dL σ->aG H0 H->(∀σ2 H2,dL σ2->aG H H2->c m=true->Kt (G m) σ2 H2)->(∀σ2 H2,dL σ2->aG H H2->c m=false->Kf σ2 H2)->
   g (e m) σ H fun σ2 H2=>tt σ2 H2 fun b H3=>if b=true then te σ2 H3 fun v H4=>Kt v σ2 H4 else Kf σ2 H3)(hd:∀H,aG H0 H->H D=some (.lst ((ms.filter c).map G))->dS H):hV (Jm K a) g tt te D dS σB (upd H0 D (.lst [])):=by
 refine eT (xs:=ms.map e) (fun i ys σ H=>dL σ/\aG H0 H/\H D=some (.lst ys)/\ys=((ms.take i).filter c).map G) ⟨h0,ai hD,af,rfl⟩ (fun i ys σ H _ z=>a8.of (z.2.1 _ _ ha)) ?_ ?_
 .rintro i x ys σ H Kt Kf hx ⟨sh,sm,nU,rfl⟩ kt kf;rw[bu] at hx;cases hz:ms[i]? with
  |none=>rw[hz] at hx;cases hx
  |some m=>
   rw[hz] at hx;obtain rfl:e m=x:=bh hx;have tk:ms.take (i+1)=ms.take i++[m]:=by rw[gO,hz];rfl
   refine hs m σ H Kt Kf (dk hz) sh sm (fun σ2 H2 Bb s2 e=>?_) (fun σ2 H2 Bb s2 e=>?_)
   .refine kt _ _ _ (s2 _ _ nU) ?_ ⟨Bb,bP (sm.trans s2) hD,af,?_⟩
    .rw[aO];exact fK (g8 _ _) (fK (zm _ _) (fK hn (by decide)))
    .rw[tk,gN,cR];simp[eF,e]
   .refine kf _ _ ⟨Bb,sm.trans s2,s2 _ _ nU,?_⟩;rw[tk,gN];simp[eF,e]
 .rintro ys σ H ⟨_,sm,nU,rfl⟩;rw[aO,jQ] at nU;exact hd H sm nU
theorem K2{x:Int}{u:Int×Int}:BS (.int x) [.int u.1,.int u.2]=(decide (u.1=x)||decide (u.2=x)):=by
 unfold BS;rw[jS];simp[nq]
theorem K3{fs:List Nat}{x:Nat}:Ar (NV (fs++[x])) (-1)=some (.int (x:Int)):=by
 rw[<-ie];exact xr _ _
theorem K4{xs:List Nat}{k:Nat}(h:k<xs.length):Ar (NV xs) ((k:Int)+1-((NV xs).length:Int))=some (.int ((xs.getD ((k+1) % xs.length) 0:Nat):Int)):=by
 rw[aS];by_cases c:k+1=xs.length
 .rw[c,Nat.mod_self,show (k:Int)+1-(xs.length:Int)=((0:Nat):Int) by lia];exact aH (fE (by lia))
 .rw[jn (by lia)];unfold Ar EQ;rw[aS,aq (by lia),ak (by lia),Option.bind_some,show ((k:Int)+1-(xs.length:Int)+(xs.length:Int)).toNat=k+1 by lia];exact fE (by lia)
theorem bw.neZ{H:Hp}{p q:Addr}{zs:Zs}(h:bw H p)(e:H q=some (.lst (zr zs))):q≠p:=by
 rintro rfl;obtain⟨a,b,z,_⟩:=h;rw[e] at z;cases zs with
 |nil=>cases z
 |cons x xs=>cases z
section
variable {P:Program} {w:World} {K:PySem.W.Frag} {mg:Str->Option Value} {base:Heap}
theorem lw:aB ["_law_pot_here","_law_sides_here","_law_left","_law_k","_law_most"] ["_law_pot_here"] (ap Bs):=⟨rfl,rfl,rfl,by decide +kernel,rfl,by decide +kernel,by decide +kernel⟩
def wE:Sp:=fun vs H Q _=>∃p:Addr,vs=[.ref p]/\bw H p/\∀ (r:Addr) (ns:List Nat) (H':Hp),aK p H H'->bw H' p->H' r=some (.tup (NV ns))->M7 ns->Q (.ref r) H'
theorem HI{f:Addr}{fd:FuncData}(F:fH K "_law_sides" "_law_sides" Bs f fd)(B:Bl mg)(D:ce P w K mg base aY 1 "_law_draw" ["_law_pot_here","_law_many"] g7):bf P w K mg base aY 2 f fd ["_law_pot_here"] wE:=by
 refine F.ok lw (fun vs H Q E h=>?_) (fun dR A outer s H vs Q E hr h=>?_)
 .obtain⟨p,rfl,_⟩:=h;rfl
 .obtain⟨p,rfl,hp,q⟩:=h;refine⟨_,(ah (aF (i:=1) lw.nd rfl (Or.inl rfl) (eN ag))
   (ah (aF (i:=2) lw.nd rfl (Or.inl rfl) au)
   (ah (cD dt rfl (br rfl B.range (aa (aU di au (aw D hr aA (aa (pv 0) (aa au ag)))) ag)) (av (i:=3) lw.nd rfl (Or.inl rfl))
    (ah (aF (i:=4) lw.nd rfl (Or.inl rfl) (aN (tX rfl) (by rfl) B.min zf (aa au (aa (pv 2) ag))))
    (aj (cw (aP rH (pv 4) au (aW _)) (ah (cS (iG iD lF lE dJ (pv 1) (aa (aU di au (aw D hr aA (aa (pv 0) (aa (aU jA (pv 4) au) ag)))) ag)))
     (aj (aF (i:=2) lw.nd rfl (Or.inl rfl) (aU m_ (pv 2) (a7 aV (pv 1) (Mn Fx au) (fun _ _=>rfl)))))) be))))
   (aj (aL (bW et (by rfl) B.tup qR (aa (pv 1) ag))))))),?_⟩
  refine⟨by show 0<=sizeLine;decide,fun Fd hF=>?_⟩;have s0:=ai (o:=.lst []) hF;have Ze:Fd≠p:=hp.ne hF;refine⟨_,rfl,p,5,rfl,by decide,by decide,hp.same s0,fun d H1 hd s1 sX=>⟨_,_,rfl,rfl,1+(d:Int),rfl,by lia,by lia,?_⟩⟩;rw[show (1+(d:Int)).toNat=1+d by lia];refine c_ (n:=1+d) (lo:=0) (fun k σ H2=>∃ (rm:Nat) (fs:List Nat) (x4 x5:Option V),σ=[some (.ref p),some (.ref Fd),some (.int rm),x4,x5]/\aK p H H2/\bw H2 p/\H2 Fd=some (.lst (NV fs))/\fs.length<=k/\(∀x∈fs,2<=x/\x<=8)/\pr fs*rm<=32/\1<=rm/\(fs=[]->rm=32/\k=0))
   ⟨32,[],_,_,rfl,(aK.of s0).trans s1,sX,s1 _ _ af Ze,aI _,fun x hx=>(nomatch hx),by decide,by decide,fun _=>⟨rfl,rfl⟩⟩ ?_ ?_
  .rintro k σ H2 hk ⟨rm,fs,x4,x5,rfl,s2,p2,K5,fl,fb,fp,r1,fe⟩;have em:(if (rm:Int)<8 then (rm:Int) else 8)=((min 8 rm:Nat):Int):=by split <;> lia
   refine⟨_,rfl,8,_,rfl,?_⟩;show bi 4 (V.int (if (rm:Int)<8 then (rm:Int) else 8)) _ _ _;rw[em];refine⟨_,rfl,_,_,rfl,rfl,_,rfl,dZ (fun c=>?_) (fun c=>?_)⟩
   .have c:1<min 8 rm:=by have:=cQ c;lia
    refine⟨_,rfl,.inl ⟨rfl,_,a8.of K5⟩,_,rfl,_,rfl,_,_,rfl,rfl,p,min 8 rm-1,by show [V.ref p,V.int (((min 8 rm:Nat):Int)-1)]=_;rw[show (((min 8 rm:Nat):Int)-1)=((min 8 rm-1:Nat):Int) by lia],by lia,by lia,p2,fun e H4 he s4 yC=>?_⟩;have hF4:=s4 _ _ K5 Ze;refine⟨_,_,rfl,rfl,Fd,_,.int ((2+e:Nat):Int),rfl,by show [V.int (2+(e:Int))]=_;rw[show (2+(e:Int))=((2+e:Nat):Int) by lia],hF4,by rw[aS];exact cz (show fs.length<6 by lia) (by decide),?_⟩;have hF5:(upd H4 Fd (.lst (NV fs++[.int ((2+e:Nat):Int)]))) Fd=some (.lst (NV (fs++[2+e]))):=by rw[af,ie]
    refine⟨_,rfl,_,rfl,_,rfl,Fd,_,_,_,rfl,rfl,a8.of hF5,K3,_,_,rfl,rfl,⟨by lia,by lia⟩,rm / (2+e),fs++[2+e],_,_,rfl,aK.put (s2.trans s4) hF,yC.put Ze.symm,hF5,by rw[dE,u4];lia,fun x hx=>?_,?_,?_,fun z=>absurd z (by simp)⟩
    .rcases cK.mp hx with z|z
     .exact fb x z
     .rw[cA.mp z];lia
    .rw[qH,z8];exact aX (oz _ (by rw[Nat.mul_comm];exact Nat.div_mul_le_self _ _)) fp
    .exact(Nat.le_div_iff_mul_le (by lia)).mpr (by lia)
   .have c:¬ 1<min 8 rm:=fun z=>c (cZ (by lia));exact⟨rm,fs,_,_,rfl,s2,p2,K5,by lia,fb,fp,r1,fun z=>absurd (fe z).1 (by lia)⟩
  .rintro σ H2 ⟨rm,fs,x4,x5,rfl,s2,p2,K5,fl,fb,fp,r1,fe⟩;refine⟨_,rfl,Fd,_,rfl,.inl ⟨a8.of K5,fun t ht=>?_⟩⟩;have st:=ai (o:=.tup (NV fs)) ht;have ne:fs≠[]:=fun z=>absurd (fe z).2 (by lia);exact q t fs _ (s2.trans (aK.of st)) (p2.same st) af ⟨List.length_pos_iff.mpr ne,by lia,fb,aX (y_ _ r1) fp⟩
theorem C1:aB ["_law_pot_here","_law_some"] ["_law_pot_here"] (ap sA):=⟨rfl,rfl,rfl,by decide +kernel,rfl,by decide +kernel,by decide +kernel⟩
abbrev f_:List (List Nat):=[[1,2],[2,2],[3,2],[4,2],[5,2],[1,3],[2,3],[3,3],[1,4],[2,4],[1,5],[2,5]]
theorem Bv:∃es q1 q2 q3 cs,bQ sA=[.Assign [.Name "_law_some" q1] (.List es q2) q3,(bQ sA).getD 1 (.Pass ⟨0,0,0,0⟩)]/\K1 es=some cs/\cs=f_:=⟨_,_,_,_,f_,rfl,by decide +kernel,rfl⟩
def wF:Sp:=fun vs H Q _=>∃p:Addr,vs=[.ref p]/\bw H p/\∀ (r:Addr) (f b:Nat) (H':Hp),aK p H H'->bw H' p->H' r=some (.tup (NV [f,b]))->1<=f/\f<=5/\2<=b/\b<=5/\b ^ f<=32->Q (.ref r) H'
theorem HJ{f:Addr}{fd:FuncData}(F:fH K "_law_shape" "_law_shape" sA f fd)(D:ce P w K mg base aY 1 "_law_draw" ["_law_pot_here","_law_many"] g7):bf P w K mg base aY 2 f fd ["_law_pot_here"] wF:=by
 refine F.ok C1 (fun vs H Q E h=>?_) (fun dR A outer s H vs Q E hr h=>?_)
 .obtain⟨p,rfl,_⟩:=h;rfl
 .obtain⟨p,rfl,hp,q⟩:=h;obtain⟨es,q1,q2,q3,cs,eb,X1,ec⟩:=Bv;rw[eb];refine⟨_,(ah (aF (i:=1) C1.nd rfl (Or.inl rfl) (eN (C0 X1))) (aj (aL (a7 aV (pv 1) (aw D hr aA (aa (pv 0) (aa au ag))) (fun _ _=>rfl))))),?_⟩;refine HG (cs:=cs) (by rw[ec];decide) fun as H4 s4 la ea=>⟨?_,fun S hS=>?_⟩
  .rw[aO,la,ec];show 12<=sizeLine;decide
  have sS:=ai (o:=.lst (as.map V.ref)) hS;have yC:=hp.same s4;refine⟨_,rfl,_,rfl,p,12,rfl,by decide,by decide,yC.same sS,fun d H5 hd s5 K6=>?_⟩;have had:as[d]?=some (as.getD d 0):=by rw[bZ,b8 (by rw[la,ec];exact hd)];rfl
  have ga:=ea d (by rw[ec];exact hd);have ga5:=s5 _ _ (sS _ _ ga) (yC.neT ga);have sd:∀d,d<12->f_.getD d []=[(f_.getD d []).getD 0 0,(f_.getD d []).getD 1 0]/\1<=(f_.getD d []).getD 0 0/\(f_.getD d []).getD 0 0<=5/\2<=(f_.getD d []).getD 1 0/\(f_.getD d []).getD 1 0<=5/\(f_.getD d []).getD 1 0 ^ (f_.getD d []).getD 0 0<=32:=by decide
  obtain⟨e,r⟩:=sd d hd;rw[ec,e] at ga5;exact⟨S,_,_,_,rfl,rfl,a8.of (s5 _ _ af (yC.ne hS)),aH (by rw[bu,had];rfl),q _ _ _ H5 ((aK.of (s4.trans sS)).trans s5) K6 ga5 r⟩
theorem Bw:aB ["_law_net_here","_law_many","_law_pairs"] ["_law_net_here"] (ap HC):=⟨rfl,rfl,rfl,by decide +kernel,rfl,by decide +kernel,by decide +kernel⟩
def wG:Sp:=fun vs H Q _=>∃ (t r:Addr) (n:Nat) (zs:Zs),vs=[.ref t]/\H t=some (.tup [.int n,.ref r])/\H r=some (.lst (zr zs))/\PO H zs/\zs.length<=500/\Hx H n (zp zs++(zp zs).map we) Q
theorem K7{f:Addr}{fd:FuncData}(F:fH K "_law_both" "_law_both" HC f fd):bf P w K mg base aY 1 f fd ["_law_net_here"] wG:=by
 refine F.ok Bw (fun vs H Q E h=>?_) (fun dR A outer s H vs Q E hr h=>?_)
 .obtain⟨t,r,n,zs,rfl,_⟩:=h;rfl
 .obtain⟨t,r,n,zs,rfl,ht,pR,po,hl,k⟩:=h;refine'⟨_,(ah (fT (pv 0) (dW (n:=2) rfl (aR (av (i:=1) Bw.nd rfl (Or.inl rfl)) (aR (av (i:=2) Bw.nd rfl (Or.inl rfl)) cT))))
   (aj (aL (dB (aa (pv 1) (aa (aU kG (pv 2) ?c1) ag)))))),?_⟩
  case c1=>
   refine' bY (g:=(mY K 2 (dI (bi 0) (dI (bi 1) mX)))) (te:=(xk (bB (aT 1) (bB (aT 0) gf)))) (NB:=["_law_one","_law_other"]) (src:=[none,none]) (bz (by kernel_rfl)) rfl (b_ (pv 2)) ?g ?t ?e;case g=>exact fun cl C s₃ H₃ fp=>(dW (n:=2) rfl (aR (av (i:=0) n8 rfl (Or.inl rfl) (Or.inr rfl)) (aR (av (i:=1) n8 rfl (Or.inl rfl) (Or.inr rfl)) cT)))
   case t=>exact fun cl C s₃ H₃ fp=>dz
   case e=>exact fun cl C s₃ H₃ fp=>(dB (aa (pv 1) (aa (pv 0) ag)))
  refine⟨_,rfl,t,_,rfl,bJ.of ht,rfl,_,_,rfl,_,_,rfl,rfl,?_⟩;refine⟨_,rfl,_,rfl,_,rfl,r,rfl,⟨_,a8.of pR⟩,fun D1 yW=>?_⟩;refine yt we (fun σ=>∃a b,σ=[a,b]) pR po yW (by lia) ⟨_,_,rfl⟩ ?_ ?_
  .rintro z σ H1 R Kf hz ⟨a,b,rfl⟩ _ hz1 kt;exact⟨z.1,_,rfl,bJ.of hz1,rfl,_,_,rfl,_,_,rfl,rfl,_,rfl,_,rfl,by show 2<=sizeLine;decide,fun t ht=>kt _ _ ⟨_,_,rfl⟩ ht⟩
  .intro Zf H1 s1 iZ Zg e1 _;have l1:Zf.length=zs.length:=by rw[<-b9,e1,aO,b9]
   refine⟨r,D1,_,_,rfl,rfl,s1 _ _ pR,iZ,by rw[eC,eC];exact aX (show _<=1000 by lia) (by decide),fun N hN=>⟨by show 2<=sizeLine;decide,fun t2 C2=>?_⟩⟩;have sN:=ai (o:=.lst (zr zs++zr Zf)) hN;have st:=ai (o:=.tup [.int (n:Int),.ref N]) C2;refine k t2 N (zs++Zf) _ ((s1.trans sN).trans st) ((s1.trans sN).free C2) (s1.free hN) af (st _ _ (by rw[af,eU])) ((((po.same s1).append Zg).same sN).same st) (by rw[eA,e1])
theorem Pa:aB ["_law_pairs","_law_house"] ["_law_pairs","_law_house"] (ap HD):=⟨rfl,rfl,rfl,by decide +kernel,rfl,by decide +kernel,by decide +kernel⟩
def Bx:Sp:=fun vs H Q _=>∃ (l:Addr) (zs:Zs) (h:Int),vs=[.ref l,.int h]/\H l=some (.lst (zr zs))/\PO H zs/\zs.length<=1000/\∀H',aG H H'->Q (.int (((zp zs).filter fun u=>decide (u.1=h)||decide (u.2=h)).length:Nat)) H'
theorem K8{f:Addr}{fd:FuncData}(F:fH K "_law_ends" "_law_ends" HD f fd)(B:Bl mg):bf P w K mg base aY 1 f fd ["_law_pairs","_law_house"] Bx:=by
 refine F.ok Pa (fun vs H Q E h=>?_) (fun dR A outer s H vs Q E hr h=>?_)
 .obtain⟨l,zs,h,rfl,_⟩:=h;rfl
 .obtain⟨l,zs,h,rfl,hl,po,hn,q⟩:=h;refine'⟨_,(aj (aL (aN aQ (by rfl) B.len d_ (aa ?c1 ag)))),?_⟩;case c1=>
   refine' bY (g:=(bi 0)) (tt:=(io (ja (Ws K false) (aT 1) (aT 0)))) (te:=(tC (.int 1))) (NB:=["_law_pair","_law_house"]) (src:=[none,some 1]) (bz (by kernel_rfl)) rfl (b_ (pv 0)) ?g ?t ?e;case g=>exact fun cl C s₃ H₃ fp=>(av (i:=0) tL rfl (Or.inl rfl) (Or.inr rfl))
   case t=>exact fun cl C s₃ H₃ fp=>d5 (aP ub (pv 1) (pv 0) rfl)
   case e=>exact fun cl C s₃ H₃ fp=>au
  refine⟨_,rfl,l,rfl,⟨_,a8.of hl⟩,fun D1 yW=>?_⟩;refine wD zs (fun z=>.ref z.1) (fun _=>.int 1) (fun z=>decide (z.2.1=h)||decide (z.2.2=h)) (fun σ=>∃a,σ=[a,some (.int h)]) hl yW hn ⟨_,rfl⟩ ?_ ?_
  .rintro z σ H8 Kt' Kf' hz ⟨a',rfl⟩ Pb kt' kf';refine⟨_,rfl,_,rfl,z.1,_,rfl,.inr (bJ.of (Pb _ _ (po z hz))),rfl,rfl,_,rfl,?_⟩;have e:=K2 (x:=h) (u:=z.2);refine dZ (fun c=>?_) (fun c=>?_)
   .exact kt' _ _ ⟨_,rfl⟩ (aG.refl _) (e ▸ c)
   .exact kf' _ _ ⟨_,rfl⟩ (aG.refl _) (by rw[<-e];simpa using c)
  .intro H8 Pb hD8;refine⟨D1,_,rfl,.inl (a8.of hD8),?_⟩;have e:((zs.filter fun z=>decide (z.2.1=h)||decide (z.2.2=h)).map fun _=>V.int 1).length=((zp zs).filter fun u=>decide (u.1=h)||decide (u.2=h)).length:=by
    rw[aO];unfold zp;rw[zW,aO];rfl
   rw[e];exact q H8 Pb
theorem K9:aB ["_law_row"] ["_law_row"] (ap Bt):=⟨rfl,rfl,rfl,by decide +kernel,rfl,by decide +kernel,by decide +kernel⟩
def wH:Sp:=fun vs H Q _=>∃ (l:Addr) (xs:List Nat),vs=[.ref l]/\H l=some (.lst (NV xs))/\xs.length<=32/\∀ (r:Addr) (H':Hp),yA H r (yw xs) H'->Q (.ref r) H'
theorem HK{f:Addr}{fd:FuncData}(F:fH K "_law_ring_ties" "_law_ring_ties" Bt f fd)(B:Bl mg)(B2:M5 mg):bf P w K mg base aY 1 f fd ["_law_row"] wH:=by
 refine F.ok K9 (fun vs H Q E h=>?_) (fun dR A outer s H vs Q E hr h=>?_)
 .obtain⟨l,xs,rfl,_⟩:=h;rfl
 .obtain⟨l,xs,rfl,hl,hn,q⟩:=h;refine'⟨_,(aj (aL ?c1)),?_⟩;case c1=>
   refine' bY (g:=(mY K 2 (dI (bi 0) (dI (bi 1) mX)))) (te:=(xk (bB (aT 1) (bB (ja (xt K) (aT 2) (ja (wX fun i j=>.int (i-j)) (ja (wX fun i j=>.int (i+j)) (aT 0) (tC (.int 1))) (NW (fun xs H Q=>∃p ys,xs=[V.ref p]/\(a8 K H p ys\/bJ K H p ys)/\Q (.int ys.length) H) (bB (aT 2) gf)))) gf)))) (NB:=["_law_k","_law_house","_law_row"]) (src:=[none,none,some 0]) (bz (by kernel_rfl)) rfl (Ck rfl B2.enum (aa (pv 0) ag)) ?g ?t ?e;case g=>exact fun cl C s₃ H₃ fp=>(dW (n:=2) rfl (aR (av (i:=0) k7 rfl (Or.inl rfl) (Or.inr rfl)) (aR (av (i:=1) k7 rfl (Or.inl rfl) (Or.inr rfl)) cT)))
   case t=>exact fun cl C s₃ H₃ fp=>dz
   case e=>exact fun cl C s₃ H₃ fp=>(dB (aa (pv 1) (aa (a7 aV (pv 2) (aU jA (aU di (pv 0) au) (aN aQ (by rfl) B.len d_ (aa (pv 2) ag))) (fun _ _=>rfl)) ag)))
  refine⟨_,rfl,l,_,rfl,hl,fun D1 yW=>?_⟩;refine D6 (K:=K) (a:=l) (xs:=NV xs) (fun i ys σ H3=>(∃u v,σ=[u,v,some (.ref l)])/\aG H H3/\H3 D1=some (.lst ys)/\∃zs:Zs,ys=zr zs/\PO H3 zs/\zp zs=(List.range i).map fun k=>(ci (xs.getD k 0),ci (xs.getD ((k+1) % xs.length) 0))) ⟨⟨_,_,rfl⟩,ai yW,af,[],rfl,PO.nil,rfl⟩ (fun i ys σ H3 _ z=>a8.of (z.2.1 _ _ hl)) ?_ ?_
  .rintro i x t ys σ H3 Kt Kf hx ⟨⟨u,v,rfl⟩,sm,iX,zs,rfl,po,ez⟩ ht kt kf;have hi:i<xs.length:=by have:=(cu.mp hx).1;rwa [aS] at this
   obtain rfl:x=.int ((xs.getD i 0:Nat):Int):=by rw[fE hi] at hx;exact(bh hx).symm
   have st:=ai (o:=.tup [.int (i:Int),.int ((xs.getD i 0:Nat):Int)]) ht;have hl3:=st _ _ (sm _ _ hl);refine⟨_,_,rfl,bJ.of af,rfl,_,_,rfl,_,_,rfl,rfl,?_⟩;refine⟨_,rfl,_,rfl,_,rfl,_,_,rfl,rfl,_,rfl,l,_,rfl,.inl (a8.of hl3),_,_,rfl,rfl,l,_,_,_,rfl,rfl,a8.of hl3,K4 hi,by show 2<=sizeLine;decide,fun t2 C2=>?_⟩;have lL:=ai (o:=G6 (ci (xs.getD i 0),ci (xs.getD ((i+1) % xs.length) 0))) C2;have zl:zs.length=i:=by rw[<-b9,ez,aO,dQ]
   have ot:=lL _ _ (st _ _ iX);refine kt _ _ _ ot (by rw[eC,zl];exact cz (show i<33 by lia) (by decide)) ⟨⟨_,_,rfl⟩,bP ((sm.trans st).trans lL) yW,af,zs++[(t2,(ci (xs.getD i 0),ci (xs.getD ((i+1) % xs.length) 0)))],by rw[eU];rfl,?_,?_⟩
   .exact PO.putL (xs:=zr zs) (((po.same st).same lL).append (PO.one af)) ot
   .rw[eA,ez,ii,cR];rfl
  .rintro ys σ H3 ⟨_,sm,iX,zs,rfl,po,ez⟩;rw[aS] at ez;exact q D1 H3 ⟨yW,sm,zs,iX,po,ez⟩
end
end qi
namespace gg
theorem n9{α β:Type}{f:α->β}{l m:List β}(p:l.Perm m):∀ {zs:List α},m=zs.map f->∃ye:List α,l=ye.map f/\ye.Perm zs:=by
 induction p with
 |nil=>intro zs e;exact⟨[],rfl,by rw[zu.mp e.symm]⟩
 |cons x _ ih=>
  intro zs e;cases zs with
  |nil=>cases e
  |cons z zt=>
   obtain⟨rfl,e2⟩:=jq e;obtain⟨ye,rfl,p⟩:=ih e2;exact⟨z::ye,rfl,p.cons z⟩
 |swap x y l=>
  intro zs e
  match zs,e with
  |a::b::zt,e=>
   obtain⟨rfl,e2⟩:=jq e;obtain⟨rfl,e3⟩:=jq e2;exact⟨b::a::zt,by rw[e3];rfl,List.Perm.swap a b zt⟩
 |trans _ _ ih1 WM=>
  intro zs e;obtain⟨z1,e1,p1⟩:=WM e;obtain⟨z2,e2,p2⟩:=ih1 e1;exact⟨z2,e2,p2.trans p1⟩
theorem HL{xs es:List Nat}{k a:Nat}{ps:Ts}(nd:xs.Nodup)(hk:k<xs.length)(ha:a<k)(le:es.length=xs.length)(no:∀t∈fu ps,∃a b,a∈xs.take k/\b∈xs.take k/\t=(ci a,ci b))(h:∀j,j<k->es.getD j 0=mQ (fu ps) (ci (xs.getD j 0))):
  ∀j,j<k+1->((es.set a (es.getD a 0+1)).set k 1).getD j 0=mQ (fu (ps++[(ci (xs.getD a 0),ci (xs.getD k 0))])) (ci (xs.getD j 0)):=by
 intro j hj;have inj:∀i j,i<xs.length->j<xs.length->ci (xs.getD i 0)=ci (xs.getD j 0)->i=j:=fun i j hi hj e=>by
  have:=fN e;rw[cV hi,cV hj] at this;exact uB nd hi hj this
 rw[KS,bZ];by_cases c:j=k
 .subst c;rw[pP (by rw[g9];lia),aq (fun z=>by have:=inj _ _ (by lia) hk z;lia),ak rfl];have z:mQ (fu ps) (ci (xs.getD j 0))=0:=by
   unfold mQ;rw[zc,uY];intro t ht e;obtain⟨x,y,hx,_,rfl⟩:=no t ht;obtain⟨i,hi,rfl⟩:=y3.mp hx;have e2:ci xs[i]=ci (xs.getD j 0):=cQ e;rw[<-cV (by lia)] at e2;have:=inj _ _ (by lia) hk e2;lia
  rw[z];rfl
 .rw[lX (fun z=>c z.symm),aq (show ¬ ci (xs.getD k 0)=ci (xs.getD j 0) from fun z=>c (inj _ _ hk (by lia) z).symm),<-h j (by lia)];by_cases c2:a=j
  .subst c2;rw[pP (by lia),ak rfl];rfl
  .rw[lX c2,aq (fun z=>c2 (inj _ _ (by lia) (by lia) z)),bZ];rfl
end gg
namespace qi
open PySem L2 gg
abbrev HM:Stmt:=top 52
theorem sB:(["_law_j","_law_ends_here"]:List Str).Nodup:=by decide +kernel
section
variable {P:Program} {w:World} {K:PySem.W.Frag} {mg:Str->Option Value} {base:Heap}
def HN(p:Addr)(H:Hp)(n:Nat)(Q:V->Hp->Prop)(ok:Ts->Prop):Prop:=∀ (t r:Addr) (zs:Zs) (H':Hp),aK p H H'->bw H' p->H' t=some (.tup [.int n,.ref r])->H' r=some (.lst (zr zs))->PO H' zs->ok (zp zs)->Q (.ref t) H'
theorem mJ:aB ["_law_pot_here","_law_many","_law_names","_law_pairs","_law_ends_here","_law_k","_law_some","_law_j"] ["_law_pot_here","_law_many"] (ap HM):=⟨rfl,rfl,rfl,by decide +kernel,rfl,by decide +kernel,by decide +kernel⟩
def mK:Sp:=fun vs H Q _=>∃ (p:Addr) (n:Nat),vs=[.ref p,.int n]/\2<=n/\n<=32/\bw H p/\HN p H n Q fun ts=>bR n (fu ts)
theorem K_{f:Addr}{fd:FuncData}(F:fH K "_law_tree" "_law_tree" HM f fd)(B:Bl mg)(D:ce P w K mg base aY 1 "_law_draw" ["_law_pot_here","_law_many"] g7)(MX:ce P w K mg base aY 2 "_law_mixed" ["_law_pot_here","_law_row"] n5):bf P w K mg base aY 3 f fd ["_law_pot_here","_law_many"] mK:=by
 refine F.ok mJ (fun vs H Q E h=>?_) (fun dR A outer s H vs Q E hr h=>?_)
 .obtain⟨p,n,rfl,_⟩:=h;rfl
 .obtain⟨p,n,rfl,n1,n2,hp,q⟩:=h;have h1:bD 1 _:=hr.mono (by decide);have h2:bD 2 _:=hr;refine'⟨_,(ah (aF (i:=2) mJ.nd rfl (Or.inl rfl) (aw MX h2 aA (aa (pv 0) (aa (bW (mn rfl) (by rfl) B.lst qS (aa (bW kK (by rfl) B.range y9 (aa (pv 1) ag)) ag)) ag))))
   (ah (aF (i:=3) mJ.nd rfl (Or.inl rfl) (eN ag))
   (ah (aF (i:=4) mJ.nd rfl (Or.inr rfl) (aU N4 (eN (aa au ag)) (pv 1)))
   (ah (cD dt rfl (tW rfl B.range (aa au (aa (pv 1) ag))) (av (i:=5) mJ.nd rfl (Or.inl rfl))
    (ah (eO (i:=6) (g:=(bi 0)) (tt:=(io (ja (wX fun i j=>.bl (decide (i<j))) (ja (xt K) (aT 1) (aT 0)) (tC (.int 8))))) (te:=(aT 0)) (NB:=["_law_j","_law_ends_here"]) (src:=[none,some 4]) (bz (by kernel_rfl)) rfl (br rfl B.range (aa (pv 5) ag)) ?g1 ?t1 ?e1 mJ.nd rfl rfl rfl)
    (ah (aF (i:=7) mJ.nd rfl (Or.inl rfl) (a7 aV (pv 6) (aw D h1 aA (aa (pv 0) (aa (aN aQ (by rfl) B.len d_ (aa (pv 6) ag)) ag))) (fun _ _=>rfl)))
    (ah (fT (aU di (a7 aV (pv 4) (pv 7) (fun _ _=>rfl)) au) (jy (pv 4) (pv 7) fW))
    (ah (fT au (jy (pv 4) (pv 5) fW))
    (aj (cS (iG iD lF lE dJ (pv 3) (aa (dB (aa (a7 aV (pv 2) (pv 7) (fun _ _=>rfl)) (aa (a7 aV (pv 2) (pv 5) (fun _ _=>rfl)) ag))) ag)))))))))
   (aj (aL (dB (aa (pv 1) (aa (pv 3) ag))))))))),?_⟩
  case g1=>exact fun cl C s₃ H₃ fp=>(av (i:=0) sB rfl (Or.inl rfl) (Or.inr rfl))
  case t1=>exact fun cl C s₃ H₃ fp=>d5 (aP lM (a7 aV (pv 1) (pv 0) (fun _ _=>rfl)) au (aW _))
  case e1=>exact fun cl C s₃ H₃ fp=>(pv 0)
  refine⟨_,rfl,_,rfl,n,rfl,fun R hR=>⟨R,n,rfl,af,by lia,fun L hL=>?_⟩⟩;have sL:aG H (upd (upd H R (.Fl 0 n)) L (.lst (NV (List.range n)))):=(ai hR).trans (ai hL);refine⟨p,L,NV (List.range n),rfl,af,by rw[aS,dQ];lia,hp.same sL,fun M ys H1 s1 sX hM Hl Uu=>?_⟩;obtain⟨xs,rfl,pm⟩:=n9 Uu (f:=fun (x:Nat)=>V.int (x:Int)) rfl;have Hl:H1 M=some (.lst (NV xs)):=Hl;have xl:xs.length=n:=by rw[pm.length_eq,dQ]
  have nd:xs.Nodup:=pm.nodup_iff.mpr jo;have lt:∀x∈xs,x<n:=fun x hx=>bv.mp (pm.mem_iff.mp hx);have Rx:aK p H H1:=(aK.of sL).trans s1;have hMH:H M=none:=sL.free hM;refine⟨by show 0<=sizeLine;decide,fun Pr Ry=>?_⟩;refine⟨by show 1<=sizeLine;decide,fun L1 EY=>⟨_,rfl,L1,_,_,rfl,rfl,af,by lia,by lia,by rw[lJ,u4];exact aX (show 1*n<=32 by lia) (by decide),fun Ed Uv=>?_⟩⟩;have eE:(List.replicate ((n:Int)).toNat [V.int 0]).flatten=NV (List.replicate n 0):=by rw[lJ,yB];unfold NV;rw[List.map_replicate];rfl
  rw[eE];have a1:=ai (o:=.lst []) Ry;have a2:=a1.trans (ai (o:=.lst [.int 0]) EY);have a3:=a2.trans (ai (o:=.lst (NV (List.replicate n 0))) Uv);have Rv:=a3 _ _ Hl;have nMP:M≠Pr:=am Hl Ry;have nME:M≠Ed:=am (a2 _ _ Hl) Uv;have gP:(upd (upd (upd H1 Pr (.lst [])) L1 (.lst [.int 0])) Ed (.lst (NV (List.replicate n 0)))) Pr=some (.lst (zr [])):=ai Uv _ _ (ai EY _ _ af);have nPE:Pr≠Ed:=am (ai EY _ _ af) Uv;have gE:(upd (upd (upd H1 Pr (.lst [])) L1 (.lst [.int 0])) Ed (.lst (NV (List.replicate n 0)))) Ed=some (.lst (NV (List.replicate n 0))):=af;have Uw:H Pr=none:=Rx.free sX.full Ry;have hEH:H Ed=none:=Rx.free sX.full (a2.free Uv);have Zh:=hp.ne hMH;have Pc:=hp.ne Uw;have nEp:=hp.ne hEH;have sH2:aK p H _:=Rx.trans (aK.of a3);have qx:=sX.same a3;generalize upd (upd (upd H1 Pr _) L1 _) Ed _=H2 at *;refine⟨_,rfl,1,(n:Int),rfl,⟨by decide,by decide,by lia,by lia⟩,?_⟩;rw[show ((n:Int)-1).toNat=n-1 by lia];refine c_ (lo:=1) (n:=n-1) (fun i σ Hc=>∃ (zs:Zs) (es:List Nat),(∃a b c,σ=[some (.ref p),some (.int n),some (.ref M),some (.ref Pr),some (.ref Ed),a,b,c])/\aK p H Hc/\bw Hc p/\Hc M=some (.lst (NV xs))/\Hc Pr=some (.lst (zr zs))/\PO Hc zs/\Hc Ed=some (.lst (NV es))/\es.length=n/\si n xs (i+1) (fu (zp zs))/\∀j,j<i+1->es.getD j 0=mQ (fu (zp zs)) (ci (xs.getD j 0)))
   ⟨[],_,⟨none,none,none,rfl⟩,sH2,qx,Rv,gP,PO.nil,gE,gJ,si.start (by lia),fun j hj=>by rw[show j=0 by lia,bZ,uU];split <;> rfl⟩ ?_ ?_
  .rintro i σ Hc hi ⟨zs,es,⟨a,b,c,rfl⟩,sc,tP,hMc,Pd,po,Zi,el,Tr,Kk⟩;have e1:(1:Int)+(i:Int)=((i+1:Nat):Int):=by lia
   rw[e1];have Zj:zs.length=i:=by have:=Tr.len;rw[qB,b9] at this;lia
   refine⟨_,rfl,((i+1:Nat):Int),rfl,by lia,by lia,fun D1 yW=>?_⟩;rw[show (((i+1:Nat):Int)).toNat=i+1 from rfl];refine wC (lo:=0) (n:=i+1) (fun x=>decide (es.getD x 0<8)) (fun σ=>∃a,σ=[a,some (.ref Ed)]) yW (by lia) ⟨_,rfl⟩ ?_ ?_
   .rintro x σ H4 Kt Kf hx ⟨a',rfl⟩ qF kt kf;rw[fP] at kt |-;refine⟨_,rfl,_,rfl,Ed,_,_,_,rfl,rfl,a8.of (qF _ _ Zi),aH (fE (by lia)),_,_,rfl,rfl,_,rfl,?_⟩;refine dZ (fun e=>?_) (fun e=>?_)
    .exact⟨_,rfl,kt _ _ ⟨_,rfl⟩ (aG.refl _) (cZ (by have:=cQ e;lia))⟩
    .exact kf _ _ ⟨_,rfl⟩ (aG.refl _) (fA (fun z=>e (cZ (by lia))))
   .intro H4 qF ot;have e0:((((List.range (i+1)).filter fun x=>decide (es.getD x 0<8)).map fun (x:Nat)=>V.int (0+(x:Int))))=NV ((List.range (i+1)).filter fun x=>decide (es.getD x 0<8)):=jO fun x _=>by rw[fP]
    rw[e0] at ot;obtain⟨h0,hh0,dd0⟩:=Tr.free nd (by lia);obtain⟨j0,hj0,rfl⟩:=y3.mp hh0;have ne:0<((List.range (i+1)).filter fun x=>decide (es.getD x 0<8)).length:=uX (cC.mpr ⟨bv.mpr (show j0<i+1 by lia),cZ (by rw[Kk j0 (by lia),cV (by lia)];exact dd0)⟩);have le:((List.range (i+1)).filter fun x=>decide (es.getD x 0<8)).length<=i+1:=aX (g8 _ _) (by rw[dQ];exact aI _);generalize Zk:(List.range (i+1)).filter (fun x=>decide (es.getD x 0<8))=fs at *;have yC:=tP.same qF;refine⟨_,rfl,_,rfl,_,rfl,D1,_,rfl,.inl (a8.of ot),p,_,rfl,by rw[aS];exact ne,by rw[aS];lia,yC,fun d H5 hd s5 K6=>?_⟩;rw[aS] at hd;have Pe:D1≠p:=tP.ne yW;refine⟨D1,_,_,_,rfl,rfl,a8.of (s5 _ _ ot Pe),aH (fE hd),?_⟩;have hsm:fs.getD d 0∈fs:=by rw[bZ,b8 hd];exact fh _
    generalize fs.getD d 0=sv at *;rw[<-Zk] at hsm;obtain⟨ES,mh⟩:=cC.mp hsm;have hsv:sv<i+1:=bv.mp ES;have WW:mQ (fu (zp zs)) (ci (xs.getD sv 0))<8:=by rw[<-Kk sv hsv];exact cQ mh
    have hM5:=s5 _ _ (qF _ _ hMc) Zh;have hP5:=s5 _ _ (qF _ _ Pd) Pc;have Zl:=s5 _ _ (qF _ _ Zi) nEp;have Zc:PO H5 zs:=(po.same qF).jj s5 yC;have Ux:aK p H H5:=(sc.trans (aK.of qF)).trans s5;refine⟨_,rfl,_,rfl,Ed,_,_,_,rfl,rfl,a8.of Zl,aH (fE (by lia)),_,_,rfl,rfl,_,rfl,_,rfl,Ed,_,(sv:Int),sv,rfl,rfl,Zl,gG (by rw[aS];lia),?_⟩;have eS:(NV es).set sv (V.int (((es.getD sv 0:Nat):Int)+1))=NV (es.set sv (es.getD sv 0+1)):=Bu (x:=es.getD sv 0+1);rw[eS];refine⟨_,rfl,_,rfl,Ed,_,((i+1:Nat):Int),i+1,rfl,rfl,af,gG (by rw[aS,g9];lia),?_⟩;rw[show V.int 1=V.int ((1:Nat):Int) from rfl,Bu];generalize Pf:upd (upd H5 Ed (.lst (NV (es.set sv (es.getD sv 0+1))))) Ed (.lst (NV ((es.set sv (es.getD sv 0+1)).set (i+1) 1)))=H6;have o6:∀b,b≠Ed->H6 b=H5 b:=fun b n=>by rw[<-Pf,ao n,ao n]
    have hE6:H6 Ed=some (.lst (NV ((es.set sv (es.getD sv 0+1)).set (i+1) 1))):=by rw[<-Pf,af]
    have Zm:H6 Pr=some (.lst (zr zs)):=by rw[o6 _ nPE];exact hP5
    have Zn:H6 M=some (.lst (NV xs)):=by rw[o6 _ nME];exact hM5
    have Uy:PO H6 zs:=fun z hz=>by
     have g:=Zc z hz;rw[o6 _ (by rintro e;rw[e,Zl] at g;cases g)];exact g
    have Uz:aK p H H6:=fun b o e n=>by rw[o6 _ (am e hEH)];exact Ux b o e n
    have Jb:bw H6 p:=by
     obtain⟨x,y,e,r⟩:=K6;exact⟨x,y,by rw[o6 _ nEp.symm];exact e,r⟩
    refine⟨_,rfl,.inl ⟨rfl,_,a8.of Zm⟩,_,rfl,_,rfl,M,_,_,_,rfl,rfl,a8.of Zn,aH (fE (by lia)),_,rfl,_,rfl,M,_,_,_,rfl,rfl,a8.of Zn,aH (fE (show i+1<xs.length by lia)),by show 2<=sizeLine;decide,fun t ht=>?_⟩;have st:=ai (o:=G6 (ci (xs.getD sv 0),ci (xs.getD (i+1) 0))) ht;refine⟨Pr,_,_,rfl,rfl,st _ _ Zm,by rw[eC,Zj];exact cz (show i<33 by lia) (by decide),?_⟩;have hsx:xs.getD sv 0∈xs.take (i+1):=by rw[cV (by lia)];exact y3.mpr ⟨sv,by lia,rfl⟩
    have ez:zp (zs++[(t,(ci (xs.getD sv 0),ci (xs.getD (i+1) 0)))])=zp zs++[(ci (xs.getD sv 0),ci (xs.getD (i+1) 0))]:=by rw[eA];rfl
    refine⟨zs++[(t,(ci (xs.getD sv 0),ci (xs.getD (i+1) 0)))],(es.set sv (es.getD sv 0+1)).set (i+1) 1,⟨_,_,_,rfl⟩,aK.put (Uz.trans (aK.of st)) Uw,(Jb.same st).put Pc.symm,by rw[ao nMP];exact st _ _ Zn,by rw[af,eU];rfl,PO.putL (xs:=zr zs) ((Uy.same st).append (PO.one af)) (st _ _ Zm),by rw[ao nPE.symm];exact st _ _ hE6,by rw[g9,g9];exact el,?_,?_⟩
    .rw[ez,mB];exact Tr.add nd lt (by rw[cV (by lia)];exact b8 (by lia)) hsx WW
    .rw[ez];exact HL nd (by lia) hsv (by lia) Tr.ends Kk
  .rintro σ Hc ⟨zs,es,⟨a,b,c,rfl⟩,sc,tP,hMc,Pd,po,Zi,el,Tr,Kk⟩;rw[show n-1+1=n by lia] at Tr;refine⟨_,rfl,_,rfl,by show 2<=sizeLine;decide,fun t ht=>?_⟩;have st:=ai (o:=.tup [.int (n:Int),.ref Pr]) ht;exact q t Pr zs _ (sc.trans (aK.of st)) (tP.same st) af (st _ _ Pd) (po.same st) (Tr.gw n1 n2 pm)
end
end qi
namespace gg
theorem yD{n:Nat}{xs:List Nat}{h:Int}(nd:xs.Nodup)(lt:∀x∈xs,x<n)(c2:2<=xs.length):mQ (yw xs) h<=1:=by
 have e:mQ (yw xs) h=mQ (v_ xs) h:=((lu (xs:=xs)).filter _).length_eq;rw[e];exact(wb nd lt c2).2 h
end gg
namespace qi
open PySem L2 gg
abbrev HP:Stmt:=top 54
abbrev Pg:Stmt:=top 56
theorem yE:(["_law_tie","_law_ties"]:List Str).Nodup:=by decide +kernel
theorem Ph{xs:List V}{k:Nat}:DC xs none (some (k:Int))=xs.take k:=by
 have h1:HT.w4 xs.length 0 none=0:=rfl;have h2:HT.w4 xs.length xs.length (some (k:Int))=min k xs.length:=by
  unfold HT.w4;simp;try lia
 unfold DC;rw[h1,h2,List.drop_zero,Nat.sub_zero,List.take_eq_take_iff];simp;try lia
section
variable {P:Program} {w:World} {K:PySem.W.Frag} {mg:Str->Option Value} {base:Heap}
theorem sC:aB ["_law_pot_here","_law_many","_law_pairs","_law_k","_law_one","_law_other","_law_is_new"] ["_law_pot_here","_law_many"] (ap HP):=⟨rfl,rfl,rfl,by decide +kernel,rfl,by decide +kernel,by decide +kernel⟩
theorem La{f:Addr}{fd:FuncData}(F:fH K "_law_tied" "_law_tied" HP f fd)(B:Bl mg)(D:ce P w K mg base aY 1 "_law_draw" ["_law_pot_here","_law_many"] g7)(TR:ce P w K mg base aY 3 "_law_tree" ["_law_pot_here","_law_many"] mK)(EN:ce P w K mg base aY 1 "_law_ends" ["_law_pairs","_law_house"] Bx):bf P w K mg base aY 4 f fd ["_law_pot_here","_law_many"] mK:=by
 refine F.ok sC (fun vs H Q E h=>?_) (fun dR A outer s H vs Q E hr h=>?_)
 .obtain⟨p,n,rfl,_⟩:=h;rfl
 .obtain⟨p,n,rfl,n1,n2,hp,q⟩:=h;have h1:bD 1 _:=hr.mono (by decide);have h3:bD 3 _:=hr;refine⟨_,(ah (aF (i:=2) sC.nd rfl (Or.inl rfl) (bW jB (by rfl) B.lst qS (aa (a7 df (aw TR h3 aA (aa (pv 0) (aa (pv 1) ag))) au (fun _ _=>rfl)) ag)))
   (ah (cD dt rfl (br rfl B.range (aa (aw D h1 aA (aa (pv 0) (aa au ag))) ag)) (av (i:=3) sC.nd rfl (Or.inl rfl))
    (ah (NI (i:=4) (j:=5) rfl sC.nd rfl rfl (by decide) rfl rfl (aa (aw D h1 aA (aa (pv 0) (aa (pv 1) ag))) (aa (aw D h1 aA (aa (pv 0) (aa (pv 1) ag))) ag)) (by rfl))
    (ah (aF (i:=6) sC.nd rfl (Or.inl rfl) (jx (hZ rG (pv 4) (pv 5) (aW _)) (jx (hZ (uA hr.u) (dB (aa (pv 4) (aa (pv 5) ag))) (pv 2) rfl) (mf (hZ (uA hr.u) (dB (aa (pv 5) (aa (pv 4) ag))) (pv 2) rfl)))))
    (aj (cw (PW.pt (rD (fR (pv 6)) (rD (aP lM (aw EN h1 aA (aa (pv 2) (aa (pv 4) ag))) au (aW _)) (qr (aP lM (aw EN h1 aA (aa (pv 2) (aa (pv 5) ag))) au (aW _)))))) (aj (cS (iG iD lF lE dJ (pv 2) (aa (dB (aa (pv 4) (aa (pv 5) ag))) ag)))) be)))))
   (aj (aL (dB (aa (pv 1) (aa (pv 2) ag))))))),?_⟩
  refine⟨_,rfl,_,rfl,p,n,rfl,n1,n2,hp,fun t r yV H1 s1 sX ht tK Zg F1=>⟨t,_,1,_,rfl,rfl,bJ.of ht,rfl,r,_,rfl,.inl (a8.of tK),fun Pr Ry=>?_⟩⟩;have sP:=ai (o:=.lst (zr yV)) Ry;have Uw:H Pr=none:=s1.free sX.full Ry;have Pc:Pr≠p:=hp.ne Uw;have UA:=sX.same sP;refine⟨_,rfl,p,12,rfl,by decide,by decide,UA,fun d H2 hd s2 qx=>⟨(d:Int),rfl,by lia,by lia,c_ (n:=d) (lo:=0) (fun i σ Hc=>∃zs:Zs,(∃a b c e,σ=[some (.ref p),some (.int n),some (.ref Pr),a,b,c,e])/\aK p H Hc/\bw Hc p/\Hc Pr=some (.lst (zr zs))/\PO Hc zs/\bR n (fu (zp zs))) ⟨yV,⟨_,_,_,_,rfl⟩,(s1.trans (aK.of sP)).trans s2,qx,s2 _ _ af Pc,(Zg.same sP).jj s2 UA,F1⟩ ?_ ?_⟩⟩
  .rintro i σ Hc hi ⟨zs,⟨x3,x4,x5,x6,rfl⟩,sc,tP,Pd,po,Fi⟩;refine⟨_,rfl,_,rfl,p,n,rfl,by lia,by lia,tP,fun d1 H3 h3 s3 CV=>⟨_,rfl,_,rfl,p,n,rfl,by lia,by lia,CV,fun d2 H4 h4 s4 yC=>⟨_,_,rfl,?_⟩⟩⟩;have Rz:=s4 _ _ (s3 _ _ Pd Pc) Pc;have Ex:=(po.jj s3 tP).jj s4 CV;have UB:=(sc.trans s3).trans s4;have Zj:zs.length<=256:=by have:=Fi.len;rw[qB,b9] at this;lia
   have eD:∀h:Int,((zp zs).filter fun u=>decide (u.1=h)||decide (u.2=h)).length=mQ (fu (zp zs)) h:=fun h=>uE fun u hu=>Fi.pre.ne u (lm.mpr (.inl hu));dsimp only;refine yp (fun σ H5=>aG H4 H5/\∃b:Bool,σ=[some (.ref p),some (.int n),some (.ref Pr),some (.int (0+(i:Int))),some (.int (d1:Int)),some (.int (d2:Int)),some (.bl b)]/\(b=true->d1≠d2/\(ci d1,ci d2)∉zp zs/\(ci d2,ci d1)∉zp zs)) ?_ ?_
   .rintro σ H5 ⟨s5,bn,rfl,hb⟩;have K6:=yC.same s5;have Ux:=UB.trans (aK.of s5);have done:∀ {H6:Hp},aG H5 H6->∃zs:Zs,(∃a b c e,([some (.ref p),some (.int n),some (.ref Pr),some (.int (0+(i:Int))),some (.int (d1:Int)),some (.int (d2:Int)),some (.bl bn)]:St)=[some (.ref p),some (.int n),some (.ref Pr),a,b,c,e])/\aK p H H6/\bw H6 p/\H6 Pr=some (.lst (zr zs))/\PO H6 zs/\bR n (fu (zp zs)):=fun {H6} s6=>⟨zs,⟨_,_,_,_,rfl⟩,Ux.trans (aK.of s6),K6.same s6,s6 _ _ (s5 _ _ Rz),(Ex.same s5).same s6,Fi⟩
    refine⟨_,rfl,_,rfl,dZ (fun c=>?_) (fun c=>iq (done (aG.refl _)))⟩;obtain⟨ne,no1,no2⟩:=hb c;refine⟨_,rfl,_,rfl,Pr,zs,d1,rfl,s5 _ _ Rz,Ex.same s5,by lia,fun H6 s6=>⟨_,_,rfl,rfl,_,rfl,dZ (fun c1=>?_) (fun c1=>iq (done s6))⟩⟩;refine⟨_,rfl,_,rfl,Pr,zs,d2,rfl,s6 _ _ (s5 _ _ Rz),(Ex.same s5).same s6,by lia,fun H7 s7=>⟨_,_,rfl,rfl,_,rfl,dZ (fun c2=>?_) (fun c2=>done (s6.trans s7))⟩⟩;have c1:=cQ c1;have c2:=cQ c2;rw[eD] at c1 c2;have WY:=(s5.trans s6).trans s7;have Zo:=WY _ _ Rz;refine⟨_,rfl,.inl ⟨rfl,_,a8.of Zo⟩,_,rfl,_,rfl,by show 2<=sizeLine;decide,fun t ht=>?_⟩;have st:=ai (o:=G6 (ci d1,ci d2)) ht;refine⟨Pr,_,_,rfl,rfl,st _ _ Zo,by rw[eC];exact cz (show zs.length<300 by lia) (by decide),?_⟩;refine⟨zs++[(t,(ci d1,ci d2))],⟨_,_,_,_,rfl⟩,aK.put (UB.trans (aK.of (WY.trans st))) Uw,((yC.same WY).same st).put Pc.symm,by rw[af,eU];rfl,PO.putL (xs:=zr zs) (((Ex.same WY).same st).append (PO.one af)) (st _ _ Zo),?_⟩;rw[eA];exact Fi.pair h3 h4 ne no1 no2 (by lia) (by lia)
   .intro N hN;refine⟨_,rfl,_,rfl,rfl,_,rfl,dZ (fun c=>?_) (fun c=>hN _ _ ⟨aG.refl _,false,rfl,fun z=>(nomatch z)⟩)⟩;have c:d1≠d2:=by have:=c;simp at this;lia
    refine⟨_,rfl,_,rfl,by show 2<=sizeLine;decide,fun t1 RA=>⟨_,rfl,Ba (u:=(ci d1,ci d2)) af (ai RA _ _ Rz) (Ex.same (ai RA)) ⟨_,rfl,dZ (fun c1=>?_) (fun c1=>hN _ _ ⟨ai RA,false,rfl,fun z=>(nomatch z)⟩)⟩⟩⟩;refine⟨_,rfl,_,rfl,by show 2<=sizeLine;decide,fun t2 C2=>⟨_,rfl,Ba (u:=(ci d2,ci d1)) af (ai C2 _ _ (ai RA _ _ Rz)) ((Ex.same (ai RA)).same (ai C2)) (hN _ _ ⟨(ai RA).trans (ai C2),_,rfl,fun z=>⟨c,by simpa using c1,by simpa using z⟩⟩)⟩⟩
  .rintro σ Hc ⟨zs,⟨x3,x4,x5,x6,rfl⟩,sc,tP,Pd,po,Fi⟩;refine⟨_,rfl,_,rfl,by show 2<=sizeLine;decide,fun t ht=>?_⟩;have st:=ai (o:=.tup [.int (n:Int),.ref Pr]) ht;exact q t Pr zs _ (sc.trans (aK.of st)) (tP.same st) af (st _ _ Pd) (po.same st) Fi
theorem yF:aB ["_law_pot_here","_law_many","_law_ties","_law_k","_law_more"] ["_law_pot_here","_law_many"] (ap Pg):=⟨rfl,rfl,rfl,by decide +kernel,rfl,by decide +kernel,by decide +kernel⟩
def HQ:Sp:=fun vs H Q _=>∃ (p:Addr) (n:Nat),vs=[.ref p,.int n]/\2<=n/\n<=32/\bw H p/\HN p H n Q (bR n)
theorem Pj{f:Addr}{fd:FuncData}(F:fH K "_law_one_way" "_law_one_way" Pg f fd)(B:Bl mg)(D:ce P w K mg base aY 1 "_law_draw" ["_law_pot_here","_law_many"] g7)(MX:ce P w K mg base aY 2 "_law_mixed" ["_law_pot_here","_law_row"] n5)(RT:ce P w K mg base aY 1 "_law_ring_ties" ["_law_row"] wH):bf P w K mg base aY 3 f fd ["_law_pot_here","_law_many"] HQ:=by
 refine F.ok yF (fun vs H Q E h=>?_) (fun dR A outer s H vs Q E hr h=>?_)
 .obtain⟨p,n,rfl,_⟩:=h;rfl
 .obtain⟨p,n,rfl,n1,n2,hp,q⟩:=h;have h1:bD 1 _:=hr.mono (by decide);have h2:bD 2 _:=hr;refine'⟨_,(ah (aF (i:=2) yF.nd rfl (Or.inr rfl) (aw RT h1 aA (aa (aw MX h2 aA (aa (pv 0) (aa (bW (mn rfl) (by rfl) B.lst qS (aa (bW kK (by rfl) B.range y9 (aa (pv 1) ag)) ag)) ag))) ag)))
   (ah (cD dt rfl (br rfl B.range (aa (aw D h1 aA (aa (pv 0) (aa au ag))) ag)) (av (i:=3) yF.nd rfl (Or.inl rfl))
    (ah (aF (i:=4) yF.nd rfl (Or.inl rfl) (aw RT h1 aA (aa (FM JD (aw MX h2 aA (aa (pv 0) (aa (bW (mn rfl) (by rfl) B.lst qS (aa (bW kK (by rfl) B.range y9 (aa (pv 1) ag)) ag)) ag))) JA (JB (aU di au (aw D h1 aA (aa (pv 0) (aa (aU jA (pv 1) au) ag)))))) ag)))
    (aj (cw (jw (fR (aN (um rfl) (by rfl) B.any PyProof.Rows.boot_any (aa ?c1 ag)))) (aj (aF (i:=2) yF.nd rfl (Or.inr rfl) (aU kG (pv 2) (pv 4)))) be))))
   (aj (aL (dB (aa (pv 1) (aa (pv 2) ag))))))),?_⟩
  case c1=>
   refine' bY (g:=(bi 0)) (te:=(ja (Kj K false) (aT 0) (aT 1))) (NB:=["_law_tie","_law_ties"]) (src:=[none,some 2]) (bz (by kernel_rfl)) rfl (b_ (pv 4)) ?g ?t ?e;case g=>exact fun cl C s₃ H₃ fp=>(av (i:=0) yE rfl (Or.inl rfl) (Or.inr rfl))
   case t=>exact fun cl C s₃ H₃ fp=>dz
   case e=>exact fun cl C s₃ H₃ fp=>(hZ (Ot hr.u) (pv 0) (pv 1) rfl)
  refine⟨_,rfl,_,rfl,n,rfl,fun R hR=>⟨R,n,rfl,af,by lia,fun L hL=>?_⟩⟩;have sL:aG H (upd (upd H R (.Fl 0 n)) L (.lst (NV (List.range n)))):=(ai hR).trans (ai hL);refine⟨p,L,NV (List.range n),rfl,af,by rw[aS,dQ];lia,hp.same sL,fun M ys H1 s1 sX hM Hl Uu=>?_⟩;obtain⟨xs,rfl,pm⟩:=n9 Uu (f:=fun (x:Nat)=>V.int (x:Int)) rfl;have xl:xs.length=n:=by rw[pm.length_eq,dQ]
  refine⟨M,xs,rfl,Hl,by lia,fun T0 H2 ⟨UC,s2,yV,hT2,Hw,KZ⟩=>?_⟩;have nd:xs.Nodup:=pm.nodup_iff.mpr jo;have lt:∀x∈xs,x<n:=fun x hx=>bv.mp (pm.mem_iff.mp hx);have F2:bR n (zp yV):=by rw[KZ];exact(Ej n1 n2 pm).perm lu
  have Rx:aK p H H1:=(aK.of sL).trans s1;have Zp:H T0=none:=Rx.free sX.full UC;have qx:=sX.same s2;refine⟨_,rfl,p,5,rfl,by decide,by decide,qx,fun d H3 hd s3 CV=>⟨(d:Int),rfl,by lia,by lia,c_ (n:=d) (lo:=0) (fun i σ Hc=>∃ (T:Addr) (zs:Zs),(∃a b,σ=[some (.ref p),some (.int n),some (.ref T),a,b])/\aK p H Hc/\bw Hc p/\Hc T=some (.lst (zr zs))/\PO Hc zs/\bR n (zp zs)/\∀h,mQ (zp zs) h<=i+1) ⟨T0,yV,⟨_,_,rfl⟩,(Rx.trans (aK.of s2)).trans s3,CV,s3 _ _ hT2 (hp.ne Zp),Hw.jj s3 qx,F2,fun h=>by rw[KZ];exact yD nd lt (by lia)⟩ ?_ ?_⟩⟩
  .rintro i σ Hc hi ⟨T,zs,⟨x3,x4,rfl⟩,sc,tP,WZ,po,Fi,dg⟩;have nTp:T≠p:=tP.neZ WZ;have Zj:zs.length<=256:=by have:=Fi.len;rwa [b9] at this
   refine⟨_,rfl,_,rfl,n,rfl,fun R' hR'=>⟨R',n,rfl,af,by lia,fun L' hL'=>?_⟩⟩;have Zq:aG Hc (upd (upd Hc R' (.Fl 0 n)) L' (.lst (NV (List.range n)))):=(ai hR').trans (ai hL');refine⟨p,L',NV (List.range n),rfl,af,by rw[aS,dQ];lia,tP.same Zq,fun M' pV H4 s4 yC hM' Zr Zt=>?_⟩;obtain⟨ys,rfl,Zu⟩:=n9 Zt (f:=fun (x:Nat)=>V.int (x:Int)) rfl;have Zr:H4 M'=some (.lst (NV ys)):=Zr;have yl:ys.length=n:=by rw[Zu.length_eq,dQ]
   have Zv:aK p Hc H4:=(aK.of Zq).trans s4;have Zh:M'≠p:=tP.ne (Zq.free hM');refine⟨_,rfl,_,rfl,_,_,rfl,rfl,p,n-1,by show [V.ref p,V.int ((n:Int)-1)]=_;rw[show ((n:Int)-1)=((n-1:Nat):Int) by lia],by lia,by lia,yC,fun d2 H5 hd2 s5 K6=>?_⟩;have e3:(2:Int)+(d2:Int)=((2+d2:Nat):Int):=by lia
   refine⟨_,_,rfl,rfl,_,rfl,M',_,rfl,a8.of (s5 _ _ Zr Zh),fun S hS=>?_⟩;rw[e3,Ph,<-List.map_take];have sS:=ai (o:=.lst (NV (ys.take (2+d2)))) hS;have W0:(upd H5 S (.lst (NV (ys.take (2+d2))))) S=some (.lst (NV (ys.take (2+d2)))):=af;have Jb:=K6.same sS;have hT6:=sS _ _ (s5 _ _ (Zv _ _ WZ nTp) nTp);have Uy:=((po.jj Zv tP).jj s5 yC).same sS;have s6:aK p H _:=((sc.trans Zv).trans s5).trans (aK.of sS);have cnd:(ys.take (2+d2)).Nodup:=(Zu.nodup_iff.mpr jo).sublist (oG _ _);have clt:∀x∈ys.take (2+d2),x<n:=fun x hx=>bv.mp (Zu.mem_iff.mp (lW hx));have cl:(ys.take (2+d2)).length=2+d2:=by rw[oJ];lia
   generalize ys.take (2+d2)=cs at *;have eNV:(cs.map fun (x:Nat)=>V.int (x:Int))=NV cs:=rfl;rw[eNV];generalize upd H5 S _=H6 at *;refine⟨S,cs,rfl,W0,by lia,fun M2 H7 ⟨Rv,s7,ms,Zw,poM,W1⟩=>?_⟩;have hT7:=s7 _ _ hT6;have W2:=Uy.same s7;have ml:ms.length=cs.length:=by rw[<-b9,W1];unfold yw;rw[aO,dQ]
   refine⟨_,rfl,M2,rfl,⟨_,a8.of Zw⟩,fun Al hAl=>?_⟩;refine wD ms (fun z=>V.ref z.1) (fun z=>V.bl (decide (z.2∈zp zs))) (fun _=>true) (fun σ=>∃x,σ=[x,some (.ref T)]) Zw hAl (by lia) ⟨_,rfl⟩ ?_ ?_
   .rintro z σ H8 Kt Kf hz ⟨x,rfl⟩ Pb kt kf;exact⟨_,rfl,_,rfl,Ba (Pb _ _ (poM z hz)) (Pb _ _ hT7) (W2.same Pb) (kt _ _ ⟨_,rfl⟩ (aG.refl _) rfl)⟩
   intro H8 s8 hA8;rw[List.filter_eq_self.mpr fun _ _=>rfl] at hA8;have Zx:H8 Al=some (.lst ((ms.map fun z=>decide (z.2∈zp zs)).map V.bl)):=by rw[hA8,dH];rfl
   refine⟨Al,_,rfl,a8.of Zx,_,rfl,?_⟩;have W3:aK p H H8:=s6.trans (aK.of (s7.trans s8));have RB:=(Jb.same s7).same s8;have hT8:=s8 _ _ hT7;have W4:=W2.same s8;refine dZ (fun c=>?_) (fun c=>⟨T,zs,⟨_,_,rfl⟩,W3,RB,hT8,W4,Fi,fun h=>by have:=dg h;lia⟩);refine⟨_,rfl,_,rfl,T,M2,_,_,rfl,rfl,hT8,s8 _ _ Zw,by rw[eC,eC];exact aX (show _<=300 by lia) (by decide),fun N hN=>?_⟩;have sN:=ai (o:=.lst (zr zs++zr ms)) hN;refine⟨N,zs++ms,⟨_,_,rfl⟩,W3.trans (aK.of sN),RB.same sN,by rw[af,eU],(W4.append (poM.same s8)).same sN,?_,fun h=>?_⟩
   .rw[eA,W1];refine Fi.round cnd clt (by lia) (fun x hx=>?_) (fun t ht=>?_)
    .have:=dg (ci x);lia
    .rw[<-W1] at ht;obtain⟨z,hz,rfl⟩:=bj.mp ht;intro hm;have:(ms.map fun z=>decide (z.2∈zp zs)).any id=true:=q_.mpr ⟨true,bj.mpr ⟨z,hz,cZ hm⟩,rfl⟩;rw[this] at c;exact absurd c (by decide)
   .rw[eA,W1,wz];have:=dg h;have:=yD (h:=h) cnd clt (by lia);lia
  .rintro σ Hc ⟨T,zs,⟨x3,x4,rfl⟩,sc,tP,WZ,po,Fi,dg⟩;refine⟨_,rfl,_,rfl,by show 2<=sizeLine;decide,fun t ht=>?_⟩;have st:=ai (o:=.tup [.int (n:Int),.ref T]) ht;exact q t T zs _ (sc.trans (aK.of st)) (tP.same st) af (st _ _ WZ) (po.same st) Fi
end
abbrev Pk:Stmt:=top 58
theorem Ey:(["_law_k","_law_many"]:List Str).Nodup:=by decide +kernel
section
variable {P:Program} {w:World} {K:PySem.W.Frag} {mg:Str->Option Value} {base:Heap}
theorem uG:aB ["_law_pot_here","_law_way","_law_many","_law_figures","_law_base"] ["_law_pot_here"] (ap Pk):=⟨rfl,rfl,rfl,by decide +kernel,rfl,by decide +kernel,by decide +kernel⟩
def HR:Sp:=fun vs H Q _=>∃p:Addr,vs=[.ref p]/\bw H p/\∀n,HN p H n Q (bR n)
theorem Pl{f:Addr}{fd:FuncData}(F:fH K "_law_net" "_law_net" Pk f fd)(B:Bl mg)(D:ce P w K mg base aY 1 "_law_draw" ["_law_pot_here","_law_many"] g7)(SI:ce P w K mg base aY 2 "_law_sides" ["_law_pot_here"] wE)(SH:ce P w K mg base aY 2 "_law_shape" ["_law_pot_here"] wF)(TR:ce P w K mg base aY 3 "_law_tree" ["_law_pot_here","_law_many"] mK)(TI:ce P w K mg base aY 4 "_law_tied" ["_law_pot_here","_law_many"] mK)(OW:ce P w K mg base aY 3 "_law_one_way" ["_law_pot_here","_law_many"] HQ)(BO:ce P w K mg base aY 1 "_law_both" ["_law_net_here"] wG)(BX:ce P w K mg base aY 1 "_law_box" ["_law_sides_here"] Hy)(WO:ce P w K mg base aY 1 "_law_words" ["_law_figures","_law_base"] wB):bf P w K mg base aY 5 f fd ["_law_pot_here"] HR:=by
 refine F.ok uG (fun vs H Q E h=>?_) (fun dR A outer s H vs Q E hr h=>?_)
 .obtain⟨p,rfl,_⟩:=h;rfl
 .obtain⟨p,rfl,hp,q⟩:=h;have h1:bD 1 _:=hr.mono (by decide);have h2:bD 2 _:=hr.mono (by decide);have h3:bD 3 _:=hr.mono (by decide);refine'⟨_,(ah (aF (i:=1) uG.nd rfl (Or.inl rfl) (aw D h1 aA (aa (pv 0) (aa au ag))))
   (ah (cw (aP gR (pv 1) au (aW _)) (aj (aL (aw BO h1 aA (aa (aw BX h1 aA (aa (aw SI h2 aA (aa (pv 0) ag)) ag)) ag)))) be)
   (ah (cw (aP gR (pv 1) au (aW _)) (ah (aF (i:=2) uG.nd rfl (Or.inr rfl) (aU di au (aw D h1 aA (aa (pv 0) (aa au ag)))))
    (aj (aL (aw BO h1 aA (aa (dB (aa (pv 2) (aa ?c1 ag))) ag))))) be)
   (ah (cw (aP gR (pv 1) au (aW _)) (ah (fT (aw SH h2 aA (aa (pv 0) ag)) (dW (n:=2) rfl (aR (av (i:=3) uG.nd rfl (Or.inl rfl)) (aR (av (i:=4) uG.nd rfl (Or.inl rfl)) cT))))
    (aj (aL (aw BO h1 aA (aa (aw WO h1 aA (aa (pv 3) (aa (pv 4) ag))) ag))))) be)
   (ah (aF (i:=2) uG.nd rfl (Or.inr rfl) (aU di au (aw D h1 aA (aa (pv 0) (aa au ag)))))
   (ah (cw (aP gR (pv 1) au (aW _)) (aj (aL (aw BO h1 aA (aa (aw TR h3 aA (aa (pv 0) (aa (pv 2) ag))) ag)))) be)
   (ah (cw (aP gR (pv 1) au (aW _)) (aj (aL (aw BO h1 aA (aa (aw TI hr aA (aa (pv 0) (aa (pv 2) ag))) ag)))) be)
   (aj (aL (aw OW h3 aA (aa (pv 0) (aa (pv 2) ag)))))))))))),?_⟩
  case c1=>
   refine' bY (g:=(bi 0)) (te:=(xk (bB (aT 0) (bB (ja (rI (fun _ j=>0<j) fun i j=>.int (i % j)) (ja (wX fun i j=>.int (i+j)) (aT 0) (tC (.int 1))) (aT 1)) gf)))) (NB:=["_law_k","_law_many"]) (src:=[none,some 2]) (bz (by kernel_rfl)) rfl (br rfl B.range (aa (pv 2) ag)) ?g ?t ?e;case g=>exact fun cl C s₃ H₃ fp=>(av (i:=0) Ey rfl (Or.inl rfl) (Or.inr rfl))
   case t=>exact fun cl C s₃ H₃ fp=>dz
   case e=>exact fun cl C s₃ H₃ fp=>(dB (aa (pv 0) (aa (aU im (aU di (pv 0) au) (pv 1)) ag)))
  have bo:∀ {t r:Addr} {n:Nat} {zs:Zs} {H1:Hp},aK p H H1->bw H1 p->H1 t=some (.tup [.int n,.ref r])->H1 r=some (.lst (zr zs))->PO H1 zs->bR n (fu (zp zs))->wG [.ref t] H1 Q E:=fun {t r n zs H1} sH sX ht pR po F1=>
   ⟨t,r,n,zs,rfl,ht,pR,po,by have:=F1.len;rw[qB,b9] at this;lia,fun t2 r2 pL H2 s2 _ _ C2 HS Hw ez=>q n t2 r2 pL H2 (sH.trans (aK.of s2)) (sX.same s2) C2 HS Hw (by rw[ez];exact F1.perm ji.symm)⟩
  refine⟨_,rfl,p,6,rfl,by decide,by decide,hp,fun way H1 hw s1 sX=>?_⟩;refine⟨_,rfl,rfl,_,rfl,dZ (fun c=>?_) (fun c=>?_)⟩
  .refine⟨_,rfl,p,rfl,sX,fun r ns H2 s2 qx HS sd=>⟨r,ns,rfl,HS,sd,fun t r' zs H3 s3 _ _ Lb qI Bj ez=>?_⟩⟩;refine bo ((s1.trans s2).trans (aK.of s3)) (qx.same s3) Lb qI Bj ?_;rw[ez];exact GR (fun x hx=>(sd.2.2.1 x hx).1) (fun z=>by rw[z] at sd;exact absurd sd.1 (by decide)) sd.2.2.2
  refine⟨_,rfl,rfl,_,rfl,dZ (fun c=>?_) (fun c=>?_)⟩
  .refine⟨_,rfl,p,30,rfl,by decide,by decide,sX,fun d H2 hd s2 qx=>⟨_,_,rfl,rfl,?_⟩⟩;obtain⟨n,en,n1,n2⟩:∃n:Nat,(3:Int)+(d:Int)=(n:Int)/\3<=n/\n<=32:=⟨3+d,by lia,by lia,by lia⟩
   change bi 2 (V.int (3+(d:Int))) _ _ _;rw[en];refine⟨_,rfl,_,rfl,(n:Int),rfl,by lia,by lia,fun L hL=>?_⟩;refine yr (lo:=0) (n:=n) (fun k=>ic (k,(k+1) % n)) (fun σ=>∃x,σ=[x,some (.int n)]) hL (by lia) ⟨_,rfl⟩ ?_ ?_
   .rintro k σ H3 R Kf hk ⟨x,rfl⟩ KL kt;have e1:(0:Int)+(k:Int)=((k:Nat):Int):=fP _;have e2:(((k:Nat):Int)+1) % (n:Int)=(((k+1) % n:Nat):Int):=by lia
    rw[e1];refine⟨_,rfl,_,rfl,_,_,rfl,rfl,_,rfl,_,_,rfl,rfl,(by show (0:Int)<(n:Int);lia),by show 2<=sizeLine;decide,fun t ht=>?_⟩;dsimp only;rw[e2];exact kt _ _ ⟨_,rfl⟩ ht
   intro zs H3 s3 UD Bj ez _;refine⟨by show 2<=sizeLine;decide,fun t ht=>?_⟩;have st:=ai (o:=.tup [.int (n:Int),.ref L]) ht;refine bo ((s1.trans s2).trans (aK.of (s3.trans st))) ((qx.same s3).same st) af (st _ _ UD) (Bj.same st) ?_;have e:zp zs=(Cz n).map ic:=by rw[ez];unfold Cz;rw[dH];rfl
   rw[e];exact A1 n1 n2
  refine⟨_,rfl,rfl,_,rfl,dZ (fun c=>?_) (fun c=>?_)⟩
  .refine⟨_,rfl,p,rfl,sX,fun r fg b H2 s2 qx HS ⟨f1,f2,b1,b2,hm⟩=>⟨r,_,rfl,bJ.of HS,rfl,_,_,rfl,_,_,rfl,rfl,?_⟩⟩;refine⟨_,rfl,_,rfl,fg,b,rfl,f1,f2,b1,b2,hm,fun t r' zs H3 s3 _ _ Lb qI Bj ez=>?_⟩;refine bo ((s1.trans s2).trans (aK.of s3)) (qx.same s3) Lb qI Bj ?_;rw[ez];exact(A2 f1 f2 b1 b2 hm).1
  refine⟨_,rfl,p,31,rfl,by decide,by decide,sX,fun d H2 hd s2 qx=>⟨_,_,rfl,rfl,?_⟩⟩;obtain⟨n,en,n1,n2⟩:∃n:Nat,(2:Int)+(d:Int)=(n:Int)/\2<=n/\n<=32:=⟨2+d,by lia,by lia,by lia⟩
  change bi 2 (V.int (2+(d:Int))) _ _ _;rw[en];have Lc:=s1.trans s2;refine⟨_,rfl,rfl,_,rfl,dZ (fun c=>?_) (fun c=>?_)⟩
  .exact⟨_,rfl,_,rfl,p,n,rfl,n1,n2,qx,fun t r zs H3 s3 CV Lb qI Bj F3=>bo (Lc.trans s3) CV Lb qI Bj F3⟩
  refine⟨_,rfl,rfl,_,rfl,dZ (fun c=>?_) (fun c=>?_)⟩
  .exact⟨_,rfl,_,rfl,p,n,rfl,n1,n2,qx,fun t r zs H3 s3 CV Lb qI Bj F3=>bo (Lc.trans s3) CV Lb qI Bj F3⟩
  .exact⟨_,rfl,_,rfl,p,n,rfl,n1,n2,qx,fun t r zs H3 s3 CV Lb qI Bj F3=>q n t r zs H3 (Lc.trans s3) CV Lb qI Bj F3⟩
end
abbrev yG:Stmt:=top 60
theorem iw:(["_law_one","_law_other","_law_house"]:List Str).Nodup:=by decide +kernel
def C3:Expr:=match (bQ yG).getD 2 (.Pass ⟨0,0,0,0⟩) with
 |.For _ _ [.Expr (.Call _ [.Call _ _ (k::_) _] _ _) _] _ _=>k.value
 |_=>.Name "x" ⟨0,0,0,0⟩
def HU:Arguments:=match C3 with
 |.Lambda a _ _ _=>a
 |_=>CP
def HV:Expr:=match C3 with
 |.Lambda _ b _ _=>b
 |e=>e
def Pm:Scope:=match C3 with
 |.Lambda _ _ s _=>s
 |_=>M0
def Ld:Pos:=match C3 with
 |.Lambda _ _ _ p=>p
 |_=>⟨0,0,0,0⟩
def UE:Str:=("_law_out":Str)++".<locals>."++"<lambda>"
abbrev Ez(Pt:Addr)(H:Hp):Prop:=cr Ld UE Pt H
theorem _root_.L2.cr.not{lp:Pos}{q:Str}{Pt:Addr}{H:Hp}(t:cr lp q Pt H){b:Addr}{o:HO}(h:H b=some o)(n:∀ps,o≠.j3 ps):b≠Pt:=by
 rintro rfl;rcases t with z|⟨c,z,_⟩ <;> · rw[h] at z;exact n _ (bh z)
theorem _root_.L2.cr.same{lp:Pos}{q:Str}{Pt:Addr}{H H':Hp}(t:cr lp q Pt H)(e:aG H H'):cr lp q Pt H':=by
 rcases t with z|⟨c,z,y⟩
 .exact .inl (e _ _ z)
 .exact .inr ⟨c,e _ _ z,e _ _ y⟩
theorem _root_.L2.cr.n_{lp:Pos}{q:Str}{p Pt:Addr}{H H':Hp}(t:cr lp q Pt H)(s:aK p H H')(hp:bw H p):cr lp q Pt H':=by
 obtain⟨a,b,e,_⟩:=hp;rcases t with z|⟨c,z,y⟩
 .exact .inl (s _ _ z (by rintro rfl;rw[z] at e;cases e))
 .exact .inr ⟨c,s _ _ z (by rintro rfl;rw[z] at e;cases e),s _ _ y (by rintro rfl;rw[y] at e;cases e)⟩
theorem _root_.L2.cr.keep{lp:Pos}{q:Str}{Pt:Addr}{H H':Hp}(t:cr lp q Pt H)(k:∀b o,H b=some o->(b=Pt\/∀ps,o≠.j3 ps)->H' b=some o):cr lp q Pt H':=by
 rcases t with z|⟨c,z,y⟩
 .exact .inl (k _ _ z (.inl rfl))
 .exact .inr ⟨c,k _ _ z (.inl rfl),k _ _ y (.inr (by intro ps z;cases z))⟩
theorem _root_.L2.cr.putL{lp:Pos}{q:Str}{Pt A:Addr}{H:Hp}{xs:List V}{u:HO}(t:cr lp q Pt H)(h:H A=some (.lst xs)):cr lp q Pt (upd H A u):=by
 have k:∀b o,H b=some o->(∀ys,o≠.lst ys)->upd H A u b=some o:=fun b o e n=>by rw[ao (eY e h (n _))];exact e
 rcases t with z|⟨c,z,y⟩
 .exact .inl (k _ _ z (by intro ps z;cases z))
 .exact .inr ⟨c,k _ _ z (by intro ps z;cases z),k _ _ y (by intro ps z;cases z)⟩
section
variable {P:Program} {w:World} {K:PySem.W.Frag} {mg:Str->Option Value} {base:Heap}
theorem sD:aB ["_law_net_here","_law_many","_law_ties","_law_out_here","_law_house"] ["_law_net_here"] (ap yG):=⟨rfl,rfl,rfl,by decide +kernel,rfl,by decide +kernel,by decide +kernel⟩
def By(Pt:Addr):Sp:=fun vs H Q _=>∃ (t r:Addr) (n:Nat) (zs:Zs),vs=[.ref t]/\H t=some (.tup [.int n,.ref r])/\gx H r n zs/\Ez Pt H/\
 ∀ (o:Addr) (H':Hp),Ez Pt H'->lQ Pt H H'->H o=none->ff H' (fun b=>H b=none) o n (bg n (zp zs))->Q (.ref o) H'
theorem Le{f c Pt:Addr}{fd:FuncData}(F:rT K "_law_out" "_law_out" yG f fd c)(B:Bl mg)(kb:K.In base)(hb:qd mg base)(hc:PySem.W.codeHdIn K c Pt=true):
  bf P w K mg base aY 1 f fd ["_law_net_here"] (By Pt):=by
 refine F.ok sD (fun vs H Q E h=>?_) (fun A outer s H vs Q E hr h=>?_)
 .obtain⟨t,r,n,zs,rfl,_⟩:=h;rfl
 .obtain⟨t,r,n,zs,rfl,ht,T,tb,k⟩:=h;have fi:=T.gw;have n1:=fi.n1;have n2:=fi.n2;have dO:zs.length<=256:=by have:=fi.len;rw[b9] at this;exact this
  have LS:Og (qb aY P w K mg base ["_law_net_here","_law_many","_law_ties","_law_out_here","_law_house"] "_law_out" (ap yG) f (.ref c) A outer s H E).Fs UE HU HV Pm "_law_other" "_law_house" "_law_many" 4 1:=
   ⟨⟨_,_,_,_,_,rfl⟩,fun _ _ _ _ _=>rfl,rfl,rfl,rfl,rfl,rfl,rfl,rfl,by decide +kernel,by decide +kernel,by decide +kernel,rfl,rfl,rfl,by decide,⟨by decide,by decide⟩,⟨by decide,by decide⟩⟩
  refine'⟨_,(ah (fT (pv 0) (dW (n:=2) rfl (aR (av (i:=1) sD.nd rfl (Or.inr rfl)) (aR (av (i:=2) sD.nd rfl (Or.inl rfl)) cT))))
   (ah (aF (i:=3) sD.nd rfl (Or.inl rfl) (eN ag))
   (ah (cD dt rfl (br rfl B.range (aa (pv 1) ag)) (av (i:=4) sD.nd rfl (Or.inr rfl))
    (aj (cS (iG iD lF lE dJ (pv 3) (aa (pj (rS LS hr) rfl B.sorted uS (aa ?c1 ag) (vK (vV (NB:=["_law_other","_law_house","_law_many"]) (src:=[none,some 4,some 1]) (qv kb hb hc) (bz (by kernel_rfl))) Ap)) ag)))))
   (aj (aL (pv 3)))))),?_⟩
  case c1=>
   refine' bY (g:=(mY K 2 (dI (bi 0) (dI (bi 1) mX)))) (tt:=(io (ja (Sj) (aT 0) (aT 2)))) (te:=(aT 1)) (NB:=["_law_one","_law_other","_law_house"]) (src:=[none,none,some 4]) (bz (by kernel_rfl)) rfl (b_ (pv 2)) ?g ?t ?e;case g=>exact fun cl C s₃ H₃ fp=>(dW (n:=2) rfl (aR (av (i:=0) iw rfl (Or.inl rfl) (Or.inr rfl)) (aR (av (i:=1) iw rfl (Or.inl rfl) (Or.inr rfl)) cT)))
   case t=>exact fun cl C s₃ H₃ fp=>d5 (aP gR (pv 0) (pv 2) (aW _))
   case e=>exact fun cl C s₃ H₃ fp=>(pv 1)
  refine⟨_,rfl,t,_,rfl,bJ.of ht,rfl,_,_,rfl,_,_,rfl,rfl,?_⟩;refine⟨by show 0<=sizeLine;decide,fun O hO=>?_⟩;have sO:=ai (o:=.lst []) hO;refine⟨_,rfl,(n:Int),rfl,by lia,by lia,c_ (n:=n) (lo:=0) (fun i σ Hc=>∃bs:List Addr,(∃x,σ=[some (.ref t),some (.int n),some (.ref r),some (.ref O),x])/\Ez Pt Hc/\lQ Pt H Hc/\Hc O=some (.lst (bs.map V.ref))/\(∀b∈bs,H b=none)/\Holds Hc bs i (fun h=>.lst (NV (bg n (zp zs) h)))) ⟨[],⟨_,rfl⟩,tb.same sO,lQ.of sO,af,fun b hb=>(nomatch hb),Holds.nil⟩ ?_ ?_⟩
  .rintro i σ Hc hi ⟨bs,⟨x,rfl⟩,tc,sc,RC,nw,hs⟩;rw[fP];have hrc:Hc r=some (.lst (zr zs)):=sc _ _ T.at_ (tb.not T.at_ (by intro ps z;cases z));have poc:PO Hc zs:=fun z hz=>sc _ _ (T.po z hz) (tb.not (T.po z hz) (by intro ps z;cases z));refine⟨_,rfl,.inl ⟨rfl,_,a8.of RC⟩,_,rfl,r,rfl,⟨_,a8.of hrc⟩,fun D hD=>lq (fun σ=>∃a b,σ=[a,b,some (.int (i:Int))]) (·.1) (·.2) (i:Int) hD hrc poc (by lia) ⟨_,_,rfl⟩ ?_ ?_⟩
   .rintro z σ H3 Kt Kf hj ⟨x,y,rfl⟩ ha kt kf;refine⟨z.1,_,rfl,bJ.of ha,rfl,_,_,rfl,_,_,rfl,rfl,?_⟩;refine⟨_,rfl,_,rfl,rfl,_,rfl,?_⟩;refine dZ (fun e=>?_) (fun e=>?_)
    .exact⟨_,rfl,kt _ ⟨_,_,rfl⟩ (by simpa using e)⟩
    .exact kf _ ⟨_,_,rfl⟩ (by simpa using e)
   .generalize Ue:((zp zs).filter fun y=>decide (y.1=(i:Int))).map (·.2)=os;have JQ:os.length<=8:=by rw[<-Ue,aO];exact fi.most i
    have sm:aG Hc (upd Hc D (.lst (IV os))):=ai hD;have Zy:=tc.same sm;refine⟨Zy,fun f' c' H2 Uf h_ z9 xE=>?_⟩;have t2:Ez Pt H2:=Uf;have kp:∀b o,Hc b=some o->(∀ps,o≠.j3 ps)->H2 b=some o:=fun b o e nt=>h_ _ _ (sm _ _ e) (Zy.not (sm _ _ e) nt);have iZ:H2 D=some (.lst (IV os)):=h_ _ _ af (Zy.not af (by intro ps z;cases z));refine⟨D,f',c',os,i,n,rfl,rfl,a8.of iZ,(by lia),xE,z9,rfl,rfl,by lia,fun r' out pR ko=>?_⟩;rw[<-Ue] at ko;rw[uD fi hi ko];have EW:aG H2 (upd H2 r' (.lst (NV (bg n (zp zs) i)))):=ai pR;have hO2:=EW _ _ (kp _ _ RC (by intro ps z;cases z));refine⟨O,_,_,rfl,rfl,hO2,by rw[aO,hs.1];exact cz (show i<33 by lia) (by decide),?_⟩;have fr:H r'=none:=by
     cases z:H r' with
     |none=>rfl
     |some o=>
      by_cases hP:r'=Pt
      .rcases t2 with q|⟨_,q,_⟩ <;> · rw[<-hP,pR] at q;cases q
      .rw[h_ r' o (sm _ _ (sc _ _ z hP)) hP] at pR;cases pR
    have nrO:r'≠O:=am (kp _ _ RC (by intro ps z;cases z)) pR |>.symm
    have tO:∀o,Ez Pt (upd (upd H2 r' (.lst (NV (bg n (zp zs) i)))) O o):=fun o=>by
     have tt:=t2.same EW;have e:∀b u,(upd H2 r' (.lst (NV (bg n (zp zs) i)))) b=some u->(∀xs,u≠.lst xs)->(upd (upd H2 r' (.lst (NV (bg n (zp zs) i)))) O o) b=some u:=fun b u e n=>by
      rw[ao (by rintro rfl;rw[hO2] at e;exact n _ (bh e).symm)];exact e
     rcases tt with z|⟨c,z,y⟩
     .exact .inl (e _ _ z (by intro xs z;cases z))
     .exact .inr ⟨c,e _ _ z (by intro xs z;cases z),e _ _ y (by intro xs z;cases z)⟩
    refine⟨bs++[r'],⟨_,rfl⟩,tO _,fun b o e n=>?_,by rw[af,cR];rfl,fun b hb=>?_,Holds.snoc (hs.mono fun j hj e=>?_) (by rw[ao nrO,af])⟩
    .rw[ao (am e hO)];exact EW _ _ (h_ _ _ (sm _ _ (sc _ _ e n)) n)
    .rcases cK.mp hb with z|z
     .exact nw b z
     .rw[cA.mp z];exact fr
    .have jb:bs.getD j 0≠O:=by
      intro z;rw[z,RC] at e;have e1:=HO.lst.inj (bh e);rcases bs with _|⟨b0,bt⟩
      .exact absurd hs.1 (by simp;lia)
      .cases h0:bg n (zp zs) j with
       |nil=>rw[h0] at e1;cases e1
       |cons y ys=>rw[h0] at e1;cases e1
     rw[ao jb];exact EW _ _ (kp _ _ e (by intro ps z;cases z))
  .rintro σ Hc ⟨bs,⟨x,rfl⟩,tc,sc,RC,nw,hs⟩;exact⟨_,rfl,k O Hc tc sc hO ⟨bs,RC,nw,hs⟩⟩
end
abbrev C4:Stmt:=top 61
theorem wI:(["_law_other","_law_far"]:List Str).Nodup:=by decide +kernel
def uH(f:Nat->Nat)(xs:List Nat):List (gY×V):=xs.map fun (x:Nat)=>(Sum.inl (x:Int),V.int ((f x:Nat):Int))
theorem Lf{f:Nat->Nat}{xs:List Nat}:(uH f xs).length=xs.length:=aO _
theorem og{f:Nat->Nat}{x:Nat}:∀ {xs:List Nat},pq (uH f xs) (Sum.inl (x:Int))=if x∈xs then some (.int ((f x:Nat):Int)) else none
 |[]=>rfl
 |y::ys=>by
  unfold uH;rw[eG];by_cases e:y=x
  .subst e;rw[nG rfl,ak bL]
  .have e2:¬ ((Sum.inl (y:Int):gY)=Sum.inl (x:Int)):=fun z=>e (fN (Sum.inl.inj z));rw[nI e2];have ih:=og (f:=f) (x:=x) (xs:=ys);unfold uH at ih;rw[ih];by_cases h:x∈ys
   .rw[ak h,ak (cm _ h)]
   .rw[aq h,aq (fun z=>(a_.mp z).elim (fun q=>e q.symm) h)]
theorem Lg{f:Nat->Nat}{x k:Nat}{xs:List Nat}(h:x∉xs):jE (uH f xs) (Sum.inl (x:Int)) (.int ((k:Nat):Int))=uH (put f x k) (xs++[x]):=by
 rw[Gj _ (by rw[og,aq h])];unfold uH;rw[cR,eG,vz,jg];congr 1;refine jO fun y hy=>?_;rw[gv (show y≠x from fun z=>h (z ▸ hy))]
def sG(H:Hp)(D:Addr)(n:Nat)(f:Nat->Nat):Prop:=∃Rs:List Nat,H D=some (.dK (uH f Rs))/\∀x,x<n↔x∈Rs
theorem sG.get{H:Hp}{D:Addr}{n:Nat}{f:Nat->Nat}(h:sG H D n f){x:Nat}(hx:x<n):qe H D (.int (x:Int)) (some (.int ((f x:Nat):Int))):=by
 obtain⟨R,a,b⟩:=h;have:=qe.k (k:=Sum.inl (x:Int)) a;rw[og,ak ((b x).mp hx)] at this;exact this
def eh(H H':Hp):Prop:=∀b o,H b=some o->(∀ps,o≠.j3 ps)->H' b=some o
theorem eh.trans{H H1 H2:Hp}(a:eh H H1)(b:eh H1 H2):eh H H2:=fun c o e n=>b c o (a c o e n) n
theorem eh.of{H H1:Hp}(a:aG H H1):eh H H1:=fun c o e n=>a c o e
theorem sG.eK{H H':Hp}{D:Addr}{n:Nat}{f:Nat->Nat}(h:sG H D n f)(s:eh H H'):sG H' D n f:=let ⟨R,a,b⟩:=h;⟨R,s _ _ a (by intro ps z;cases z),b⟩
def gy(H:Hp)(r:Addr)(n:Nat)(ts:Ts):Prop:=∃ds:List Addr,H r=some (.lst (ds.map V.ref))/\ds.length=n/\∀j,j<n->sG H (ds.getD j 0) n (far ts j)
theorem gy.eK{H H':Hp}{r:Addr}{n:Nat}{ts:Ts}(h:gy H r n ts)(s:eh H H'):gy H' r n ts:=let ⟨ds,a,b,c⟩:=h;⟨ds,s _ _ a (by intro ps z;cases z),b,fun j hj=>(c j hj).eK s⟩
theorem gy.jj{H H':Hp}{p r:Addr}{n:Nat}{ts:Ts}(h:gy H r n ts)(s:aK p H H')(hp:bw H p)(hr:r≠p):gy H' r n ts:=by
 obtain⟨ds,a,b,c⟩:=h;refine⟨ds,s _ _ a hr,b,fun j hj=>?_⟩;obtain⟨R,x,y⟩:=c j hj;exact⟨R,s _ _ x (by rintro e;obtain⟨u,v,z,_⟩:=hp;rw[<-e,x] at z;cases z),y⟩
def UF(σ:St):Nat:=match σ[5]? with
 |some (some (V.int z))=>z.toNat
 |_=>0
section
variable {P:Program} {w:World} {K:PySem.W.Frag} {mg:Str->Option Value} {base:Heap}
theorem iY:aB ["_law_out_here","_law_found","_law_house","_law_far","_law_row","_law_at","_law_new","_law_other"] ["_law_out_here"] (ap C4):=⟨rfl,rfl,rfl,by decide +kernel,rfl,by decide +kernel,by decide +kernel⟩
def Bz:Sp:=fun vs H Q _=>∃ (L:Addr->Prop) (o:Addr) (n:Nat) (ts:Ts),vs=[.ref o]/\bR n ts/\ff H L o n (bg n ts)/\∀ (r:Addr) (H':Hp),aG H H'->H r=none->gy H' r n ts->Q (.ref r) H'
theorem Lh{f:Addr}{fd:FuncData}(F:fH K "_law_fars" "_law_fars" C4 f fd)(B:Bl mg):bf P w K mg base aY 1 f fd ["_law_out_here"] Bz:=by
 refine F.ok iY (fun vs H Q E h=>?_) (fun dR A outer s H vs Q E hr h=>?_)
 .obtain⟨L,o,n,ts,rfl,_⟩:=h;rfl
 .obtain⟨L,o,n,ts,rfl,fi,⟨bs,b1,b2,b3⟩,q⟩:=h;have n1:=fi.n1;have n2:=fi.n2;have bl:(bs.map V.ref).length=n:=by rw[aO,b3.1]
  have hu:(A.deeper (PyProof.Rows.envOfC "_law_fars" (ap C4) s.heap.objs.size f dR)).units+1<cLine:=by have:=hr.un;lia
  refine'⟨_,(ah (aF (i:=1) iY.nd rfl (Or.inl rfl) (eN ag))
   (ah (cD dt rfl (br rfl B.range (aa (aN aQ (by rfl) B.len d_ (aa (pv 0) ag)) ag)) (av (i:=2) iY.nd rfl (Or.inl rfl))
    (ah (aF (i:=3) iY.nd rfl (Or.inr rfl) (J5 (Go (pv 2) au J4) rfl rfl (by simp) (by decide)))
    (ah (aF (i:=4) iY.nd rfl (Or.inl rfl) (eN (aa (pv 2) ag)))
    (ah (aF (i:=5) iY.nd rfl (Or.inl rfl) au)
    (ah (rE dt (aP lM (pv 5) (aN aQ (by rfl) B.len d_ (aa (pv 4) ag)) (aW _)) (ah (eO (i:=6) (g:=(bi 0)) (tt:=(tB (Cg (aT 0) (aT 1)))) (te:=(aT 0)) (NB:=["_law_other","_law_far"]) (src:=[none,some 3]) (bz (by kernel_rfl)) rfl (b_ (a7 aV (pv 0) (a7 aV (pv 4) (pv 5) (fun _ _=>rfl)) (fun _ _=>rfl))) ?g1 ?t1 ?e1 iY.nd rfl rfl rfl)
     (ah (cD dt rfl (b_ (pv 6)) (av (i:=7) iY.nd rfl (Or.inl rfl))
      (aj (JZ hu (pv 3) (pv 7) (aU di (vZ hu (pv 3) (a7 aV (pv 4) (pv 5) (fun _ _=>rfl)) (fun _ _=>rfl)) au) rfl)))
     (ah (aF (i:=4) iY.nd rfl (Or.inl rfl) (aU kG (pv 4) (pv 6)))
     (aj (aF (i:=5) iY.nd rfl (Or.inl rfl) (aU di (pv 5) au)))))))
    (aj (cS (iG iD lF lE dJ (pv 1) (aa (pv 3) ag)))))))))
   (aj (aL (pv 1))))),?_⟩
  case g1=>exact fun cl C s₃ H₃ fp=>(av (i:=0) wI rfl (Or.inl rfl) (Or.inr rfl))
  case t1=>exact fun cl C s₃ H₃ fp=>d5 (NC (DZ hu (pv 0) (pv 1)))
  case e1=>exact fun cl C s₃ H₃ fp=>(pv 0)
  refine⟨by show 0<=sizeLine;decide,fun Fd hF=>?_⟩;have sF:=ai (o:=.lst []) hF;refine⟨_,rfl,o,_,rfl,.inl (a8.of (sF _ _ b1)),(((bs.map V.ref).length:Nat):Int),rfl,by lia,by lia,?_⟩;rw[lJ,bl];refine c_ (n:=n) (lo:=0) (fun i σ Hc=>∃ds:List Addr,(∃x2 x3 x4 x5 x6 x7,σ=[some (.ref o),some (.ref Fd),x2,x3,x4,x5,x6,x7])/\aG H Hc/\Hc Fd=some (.lst (ds.map V.ref))/\ds.length=i/\∀j,j<i->sG Hc (ds.getD j 0) n (far ts j)) ⟨[],⟨_,_,_,_,_,_,rfl⟩,sF,af,rfl,fun j hj=>absurd hj (by lia)⟩ ?_ ?_
  .rintro st σ Hc hs ⟨ds,⟨x2,x3,x4,x5,x6,x7,rfl⟩,sc,Zz,dl,ZA⟩;rw[fP];refine fun D hD=>⟨_,rfl,af,[(Sum.inl (st:Int),.int 0)],rfl,by show 1<=15;decide,?_⟩
   rw[jt];have e0:pA [] [(Sum.inl (st:Int),V.int 0)]=uH (fun _=>0) [st]:=rfl;rw[e0];have smD:aG Hc (upd Hc D (.dK (uH (fun _=>0) [st]))):=ai hD;refine⟨_,rfl,by show 1<=sizeLine;decide,fun R hR=>?_⟩;have Ro:D≠R:=am (H:=upd Hc D (.dK (uH (fun _=>0) [st]))) af hR;refine xj (fun σ H2=>∃ (R:Addr) (i:Nat) (Rs:List Nat) (f:Nat->Nat),i<=Rs.length/\yU n ts st i Rs f/\(∃a b,σ=[some (.ref o),some (.ref Fd),some (.int (st:Int)),some (.ref D),some (.ref R),some (.int (i:Int)),a,b])/\aG Hc H2/\H2 D=some (.dK (uH f Rs))/\H2 R=some (.lst (NV Rs)))
    (fun σ _=>n-UF σ) ⟨R,0,[st],fun _=>0,bV _,yU.start hs,⟨_,_,rfl⟩,smD.trans (ai hR),by rw[ao Ro,af],af⟩ ?_ ?_
   .rintro σ H2 ⟨R,i,Rs,f,hi,Bf,⟨a,b,rfl⟩,sm,iZ,Jd⟩;have hRn:Rs.length<=n:=dA Bf.nd Bf.lt;refine⟨_,rfl,_,rfl,R,_,rfl,.inl (a8.of Jd),_,_,rfl,rfl,_,rfl,?_⟩;rw[aS];by_cases uv:i<Rs.length
    .refine M8 (cZ (by lia)) ?_;have uh:Rs[i]?=some Rs[i]:=b8 uv;generalize Rs[i]=u at uh;have yv:u<n:=Bf.lt u (dk uh);have WR:(NV Rs)[i]?=some (.int (u:Int)):=by unfold NV;rw[bu,uh];rfl
     have gb:(bs.map V.ref)[u]?=some (.ref (bs.getD u 0)):=by
      rw[bu,bZ,b8 (by rw[b3.1];exact yv)];rfl
     have Lc:=sc.trans sm;have gD:∀x:Nat,∀H3,aG H2 H3->qe H3 D (.int (x:Int)) (if x∈Rs then some (.int ((f x:Nat):Int)) else none):=fun x H3 s3=>by
      have:=qe.k (k:=Sum.inl (x:Int)) (s3 _ _ iZ);rw[og] at this;exact this
     refine⟨_,rfl,_,rfl,_,rfl,R,_,_,_,rfl,rfl,a8.of Jd,aH WR,o,_,_,_,rfl,rfl,a8.of (Lc _ _ b1),aH gb,_,rfl,⟨_,a8.of (Lc _ _ (b3.2 u yv))⟩,fun D1 yW=>?_⟩;refine wD (bg n ts u) (fun (x:Nat)=>V.int (x:Int)) (fun (x:Nat)=>V.int (x:Int)) (fun x=>!decide (x∈Rs)) (fun σ=>∃a,σ=[a,some (.ref D)]) (Lc _ _ (b3.2 u yv)) yW (aX (dA (jH yv) fun x hx=>qA fi yv hx) (by lia)) ⟨_,rfl⟩ ?_ ?_
     .rintro v σ H3 Kt Kf hv ⟨a',rfl⟩ KL kt kf;refine⟨_,rfl,_,rfl,D,_,rfl,gD v H3 KL,_,rfl,?_⟩;by_cases Bh:v∈Rs
      .rw[ak Bh];exact iq (kf _ _ ⟨_,rfl⟩ (aG.refl _) (by simp[Bh]))
      .rw[aq Bh];exact xz ⟨_,rfl,kt _ _ ⟨_,rfl⟩ (aG.refl _) (by simp[Bh])⟩
     .intro H3 s3 iX;have nwm:∀v,v∈(bg n ts u).filter (fun x=>!decide (x∈Rs))↔T ts u v/\v∉Rs:=fun v=>by rw[cC,fj fi yv];simp
      have nwd:((bg n ts u).filter (fun x=>!decide (x∈Rs))).Nodup:=(jH yv).filter _;have iX:H3 D1=some (.lst (NV ((bg n ts u).filter fun x=>!decide (x∈Rs)))):=iX;generalize (bg n ts u).filter (fun x=>!decide (x∈Rs))=nw at *;have nDD:D1≠D:=(am iZ yW).symm;have nRD:R≠D:=eY Jd iZ (by intro z;cases z);refine⟨_,rfl,D1,rfl,⟨_,a8.of iX⟩,gQ (K:=K) (xs:=NV nw) (fun j σ H4=>∃f',yU n ts st i (Rs++nw.take j) f'/\(∃b,σ=[some (.ref o),some (.ref Fd),some (.int (st:Int)),some (.ref D),some (.ref R),some (.int (i:Int)),some (.ref D1),b])/\aG Hc H4/\H4 D=some (.dK (uH f' (Rs++nw.take j)))/\H4 R=some (.lst (NV Rs))/\H4 D1=some (.lst (NV nw))) ⟨f,by rw[List.take_zero,i9];exact Bf,⟨_,rfl⟩,sm.trans s3,by rw[List.take_zero,i9];exact s3 _ _ iZ,s3 _ _ Jd,iX⟩ (fun j σ H4 _ ⟨_,z⟩=>a8.of z.2.2.2.2.2) ?_ ?_⟩
      .rintro j x σ H4 hx ⟨f',wx,⟨b',rfl⟩,qF,ot,s_,ZB⟩;obtain⟨v,hv,rfl⟩:=nY hx;have tk:nw.take (j+1)=nw.take j++[v]:=by rw[gO,hv];rfl
       have Je:=(nwm v).mp (dk hv);have Bh:v∉Rs++nw.take j:=fun z=>(cK.mp z).elim Je.2 fun z=>by
        have:=tk ▸ nwd.sublist (oG (j+1) nw);exact(jP.mp this).2.2 v z v (by simp) rfl
       have UG:(Rs++nw.take j)[i]?=some u:=by rw[jM uv];exact uh
       have Hi:(Rs++nw.take j).length<=n:=dA wx.nd wx.lt;have g2:=qe.k (k:=Sum.inl (u:Int)) ot;rw[og,ak (dk UG)] at g2;refine⟨_,rfl,_,rfl,_,rfl,R,_,_,_,rfl,rfl,a8.of s_,aH WR,D,_,rfl,g2,_,_,rfl,rfl,_,rfl,_,rfl,D,_,rfl,Gk.k (k:=Sum.inl (v:Int)) ot (by rw[Lf];exact cz (show (Rs++nw.take j).length<33 by lia) (by decide)),?_⟩;have e1:jE (uH f' (Rs++nw.take j)) (Sum.inl (v:Int)) (V.int (((f' u:Nat):Int)+1))=uH (put f' v (f' u+1)) (Rs++nw.take (j+1)):=by
        rw[show ((f' u:Nat):Int)+1=((f' u+1:Nat):Int) by lia,Lg Bh,tk,dq]
       rw[e1];refine⟨put f' v (f' u+1),by rw[tk,<-dq];exact wx.add UG (fi.TJ Je.1).2.1 Je.1 Bh,⟨_,rfl⟩,bP qF hD,af,by rw[ao nRD];exact s_,by rw[ao nDD];exact ZB⟩
      .rintro σ H4 ⟨f',wx,⟨b',rfl⟩,qF,ot,s_,ZB⟩;rw[aS,jQ] at wx ot;have UG:(Rs++nw)[i]?=some u:=by rw[jM uv];exact uh
       have Hi:(Rs++nw).length<=n:=dA wx.nd wx.lt;refine⟨_,rfl,_,rfl,R,D1,_,_,rfl,rfl,s_,ZB,by rw[aS,aS,<-dE];exact aX (show _<=33 by lia) (by decide),fun N hN=>?_⟩;have sN:=ai (o:=.lst (NV Rs++NV nw)) hN;refine⟨_,rfl,_,_,rfl,rfl,⟨N,i+1,Rs++nw,f',by rw[dE];lia,wx.next UG (fun v t=>?_),⟨_,_,rfl⟩,qF.trans sN,sN _ _ ot,by rw[af];unfold NV;rw[cR]⟩,?_⟩
       .have hm:v∈Rs++nw:=by
         by_cases c:v∈Rs
         .exact fw _ c
         .exact dD _ ((nwm v).mpr ⟨t,c⟩)
        exact⟨hm,wx.bd u UG v hm⟩
       .show n-((i:Int)+1).toNat<n-((i:Int)).toNat;lia
    .refine p9 (fA (by lia)) ?_;have Lc:=sc.trans sm;have K5:=sm _ _ Zz;refine⟨_,rfl,.inl ⟨rfl,_,a8.of K5⟩,_,rfl,Fd,_,_,rfl,rfl,K5,by rw[aO,dl];exact cz (show st<33 by lia) (by decide),?_⟩;have kp:∀b u,H2 b=some u->(∀xs,u≠.lst xs)->(upd H2 Fd (.lst (ds.map V.ref++[.ref D]))) b=some u:=fun b u e z=>by rw[ao (eY e K5 (z _))];exact e
     refine⟨ds++[D],⟨_,_,_,_,_,_,rfl⟩,bP Lc hF,by rw[af,cR];rfl,by rw[dE,dl];rfl,fun j hj=>?_⟩;by_cases e:j=st
     .subst e;rw[bZ,qP (by lia),dl,rh];refine⟨Rs,kp _ _ ?_ (by intro xs z;cases z),fun x=>⟨fun hx=>(Bf.done fi (by lia) hx).1,fun hx=>Bf.lt x hx⟩⟩;have e:uH f Rs=uH (far ts j) Rs:=by
       unfold uH;exact jO fun x hx=>by rw[(Bf.done fi (by lia) (Bf.lt x hx)).2]
      rw[<-e];exact iZ
     .obtain⟨R',a',b'⟩:=ZA j (by lia);rw[bZ,jM (by lia),<-bZ];exact⟨R',kp _ _ (sm _ _ a') (by intro xs z;cases z),b'⟩
   .rintro σ H2 Q1 Q2 imp ⟨v,e1,v2,e2,p,ys,e3,e4,i1,i2,e5,e6,kk,e7,q⟩;exact⟨v,e1,v2,e2,p,ys,e3,e4,i1,i2,e5,e6,kk,e7,imp _ _ q⟩
  .rintro σ Hc ⟨ds,⟨x2,x3,x4,x5,x6,x7,rfl⟩,sc,Zz,dl,ZA⟩;exact⟨_,rfl,q Fd Hc sc hF ⟨ds,Zz,dl,ZA⟩⟩
end
end qi
namespace gg
end gg
namespace qi
open PySem L2 gg
theorem HW(Pv:Nat->List V->St->Hp->Prop)(h0:Pv 0 [] σB H0)(hl:∀i ys σ H,i<=xs.length->Pv i ys σ H->bJ K H a xs)(hs:∀i x ys σ H (Kt:V->St->Hp->Prop) (Kf:St->Hp->Prop),xs[i]?=some x->Pv i ys σ H->
   (∀v σ2 H4,H4 D=some (.lst ys)->ys.length<sizeLine->Pv (i+1) (ys++[v]) σ2 (upd H4 D (.lst (ys++[v])))->Kt v σ2 H4)->(∀σ2 H3,Pv (i+1) ys σ2 H3->Kf σ2 H3)->
   g x σ H fun σ2 H2=>tt σ2 H2 fun b H3=>if b=true then te σ2 H3 fun v H4=>Kt v σ2 H4 else Kf σ2 H3)(hd:∀ys σ H,Pv xs.length ys σ H->dS H):hV (Q8 K a) g tt te D dS σB H0:=by
 refine⟨fun i m σ H=>m=xs.length-i/\i<=xs.length/\∃ys,Pv i ys σ H,⟨xs.length,by simp,bV _,[],h0⟩,?_⟩;rintro i m σ H ⟨rfl,hi,ys,p⟩;have q:=hl i ys σ H hi p;by_cases dN:i<xs.length
 .refine .inr ⟨⟨xs,xs[i],q,by simp[dN]⟩,?_⟩;rintro x H' ⟨rfl,y⟩;exact hs i x ys σ _ (fun v σ2 H4=>∃ys,H4 D=some (.lst ys)/\ys.length<sizeLine/\∃m',m'<xs.length-i/\m'=xs.length-(i+1)/\i+1<=xs.length/\∃pV,Pv (i+1) pV σ2 (upd H4 D (.lst (ys++[v]))))
   (fun σ2 H3=>∃m',m'<xs.length-i/\m'=xs.length-(i+1)/\i+1<=xs.length/\∃pV,Pv (i+1) pV σ2 H3) (y xs q) p
   (fun v σ2 H4 z1 z2 z3=>⟨ys,z1,z2,_,by lia,rfl,dN,_,z3⟩) (fun σ2 H3 z=>⟨_,by lia,rfl,dN,_,z⟩)
 .have e:i=xs.length:=by lia
  subst e;exact .inl ⟨⟨xs,q,aI _⟩,hd ys σ H p⟩
section
variable {K:PySem.W.Frag}
end
def oV:Option Nat->V
 |none=>.cf
 |some y=>.int (y:Nat)
theorem HX{y:Nat}:∀ {st:List (Option Nat)},(st.map oV).countP (fun z=>nq z (.int (y:Int)))=st.count (some y)
 |[]=>rfl
 |o::st=>by
  rw[eG,l7,HX,vo];cases o with
  |none=>rfl
  |some x=>
   congr 1;show (if decide ((x:Int)=(y:Int))=true then 1 else 0)=_;by_cases h:x=y
   .subst h;simp
   .rw[aq (by simp;lia),aq (by simp[h])]
theorem jk:∀ {st:List (Option Nat)},(st.map oV).all eZ=true
 |[]=>rfl
 |none::st=>jk (st:=st)
 |some _::st=>jk (st:=st)
structure dP(n:Nat)(ts:Ts)(homes:List Nat)(st:List (Option Nat)):Prop where
 len:homes.length=st.length
 hs:∀x∈homes,x<n
 ss:∀i y:Nat,st[i]?=some (some y)->y<n/\homes[i]?≠some y
 ZC:∀y,y<n->st.count (some y)<=(bg n ts y).length
theorem dP.snoc{n:Nat}{ts:Ts}{homes:List Nat}{st:List (Option Nat)}{h:Nat}{o:Option Nat}(S:dP n ts homes st)(hh:h<n)(ho:∀y,o=some y->y<n/\y≠h/\st.count (some y)<(bg n ts y).length):dP n ts (homes++[h]) (st++[o]):=by
 refine⟨by rw[dE,dE,S.len];rfl,fun x hx=>?_,fun i y e=>?_,fun y hy=>?_⟩
 .rcases cK.mp hx with z|z
  .exact S.hs x z
  .rw[cA.mp z];exact hh
 .by_cases c:i<st.length
  .rw[jM c] at e;rw[jM (by rw[S.len];exact c)];exact S.ss i y e
  .rw[qP (by lia)] at e;have hi:i=st.length:=by
    have:=(cu.mp e).1;rw[u4] at this;lia
   subst hi;rw[rh] at e;have:=ho y (bh e);refine⟨this.1,?_⟩;rw[<-S.len,qP (aI _),rh];exact fun z=>this.2.1 (bh z).symm
 .rw[List.count_append,List.count_singleton];by_cases e:o=some y
  .rw[ak (by rw[e];simp)];exact(ho y e).2.2
  .rw[aq (by simpa using e)];exact S.ZC y hy
abbrev ZD:Stmt:=top 12
abbrev C5:Stmt:=h9 (top 22) 1
abbrev ZE:Stmt:=top 30
abbrev ZF:Stmt:=top 29
abbrev HY:Stmt:=top 27
theorem jY:(["letter","house"]:List Str).Nodup:=by decide +kernel
theorem ix:(["ahead","goes","stand","letter"]:List Str).Nodup:=by decide +kernel
noncomputable def dF(n:Nat)(ts:Ts)(i j:Nat):List Nat:=(bg n ts i).filter fun o=>decide (far ts o j<far ts i j)
theorem nbG:(["other","self","home","own"]:List Str).Nodup:=by decide +kernel
def C6:R2:=fun x y H Q=>y=.cf/\Q (.bl (!decide (x=.cf))) H
theorem wJ{st:List (Option Nat)}{i:Nat}{x:V}(h:(st.map oV)[i]?=some x):i<st.length/\x=oV (st.getD i none):=by
 have hi:=(cu.mp h).1;rw[aO] at hi;refine⟨hi,?_⟩;rw[bu,b8 hi] at h;rw[bZ,b8 hi];exact(bh h).symm
theorem oh:(!decide (oV o=.cf))=o.isSome:=by cases o <;> simp[oV]
theorem iJ{α:Type}{l:List α}{i:Nat}{d:α}(h:i<l.length):l[i]?=some (l.getD i d):=by rw[bZ,b8 h];rfl
theorem lx(h:j∈dM st i):j<i/\st.getD j none=some ((st.getD j none).getD 0):=by
 obtain⟨a,b⟩:=cC.mp h;refine⟨bv.mp a,?_⟩;cases e:st.getD j none with
 |none=>rw[e] at b;cases b
 |some y=>rfl
def lz(st gs:List (Option Nat))(l:Nat)(os:List Nat):Option Nat:=os.find? fun h=>!((List.range st.length).any fun a=>decide (st.getD a none=st.getD l none)&&decide (gs.getD a none=some h))
noncomputable def BA(n:Nat)(ts:Ts)(homes:List Nat)(st gs:List (Option Nat))(l:Nat):List (Option Nat):=gs.set l (lz st gs l (dF n ts ((st.getD l none).getD 0) (homes.getD l 0)++bg n ts ((st.getD l none).getD 0)))
noncomputable def C7(n:Nat)(ts:Ts)(homes:List Nat)(st:List (Option Nat)):List (Option Nat):=(dM st st.length).foldl (BA n ts homes st) (List.replicate st.length none)
theorem iy{st:List (Option Nat)}{i:Nat}(h:i<st.length):(st.map oV)[i]?=some (oV (st.getD i none)):=by
 rw[bu,bZ,b8 h];rfl
theorem M9:decide (oV a=oV b)=decide (a=b):=by
 cases a <;> cases b <;> simp[oV];exact⟨fun h=>fN h,fun h=>by rw[h]⟩
theorem C8:Jp (oV a) (oV b)=true:=by cases a <;> cases b <;> rfl
theorem M_{h:Nat}:∀ {xs:List (Option Nat)},BS (.int (h:Int)) (xs.map oV)=xs.any fun o=>decide (o=some h)
 |[]=>rfl
 |o::xs=>by
  have ih:=M_ (h:=h) (xs:=xs);unfold BS at *;rw[eG,iM,iM,ih];cases o with
  |none=>rfl
  |some x=>
   congr 1;show decide ((x:Int)=(h:Int))=_;by_cases e:x=h
   .subst e;simp
   .rw[fA (by lia),fA (by simp[e])]
theorem cH.own(N:cH C H L p n ts):cH C H (fun b=>H b≠none) p n ts:=by
 obtain⟨dx,tl,ol,ds,a,l1,l2,b,c,d⟩:=N.ob;have ne:∀ {b o},H b=some o->H b≠none:=fun e z=>by rw[e] at z;cases z
 have qa:∀ {l r},ff H L l n r->ff H (fun b=>H b≠none) l n r/\H l≠none:=fun ⟨bs,a,b,c⟩=>⟨⟨bs,a,fun x hx=>by
  obtain⟨j,hj,e⟩:=u7 hx;have:=c.2 j (by rw[<-c.1];exact hj);rw[bZ,b8 hj,zO,e] at this;exact ne this,c⟩,ne a⟩
 obtain⟨t1,zs,t2,t3,t4,t5⟩:=d;exact⟨N.gw,dx,tl,ol,ds,a,(qa b).2,(qa c).2,(qa b).1,(qa c).1,ne t2,zs,t2,t3,fun z hz=>ne (t3 z hz),t5⟩
section
variable {P:Program} {w:World} {K:PySem.W.Frag} {mg:Str->Option Value} {base:Heap}
theorem HZ:aB ["self","house","home","own"] ["self","house","home"] (ap G8):=⟨rfl,rfl,rfl,by decide +kernel,rfl,by decide +kernel,by decide +kernel⟩
def qJ(C:Addr):Sp:=fun vs H Q _=>∃ (L:Addr->Prop) (p:Addr) (n:Nat) (ts:Ts) (i j:Nat),vs=[.ref p,.int i,.int j]/\cH C H L p n ts/\i<n/\j<n/\∀r H',aG H H'->H r=none->H' r=some (.lst (NV (dF n ts i j)))->Q (.ref r) H'
theorem H_(F:fH K "good" "Net.good" G8 f fd)(T:NT K mg C)(M:iB P w K mg base aY 5 C "far" ["self","one","other"] (pK C)):
  bf P w K mg base aY 6 f fd ["self","house","home"] (qJ C):=by
 obtain⟨fM,fdM,mM,bM,GM⟩:=M.ex;refine F.ok HZ (fun vs H Q E h=>?_) (fun dR A outer s H vs Q E hr h=>?_)
 .obtain⟨L,p,n,ts,i,j,rfl,_⟩:=h;rfl
 .obtain⟨L,p,n,ts,i,j,rfl,N,hi,hj,k2⟩:=h;obtain⟨dx,tl,ol,ds,h1,_,_,RO,R,_⟩:=N.ob;have fi:=N.gw;have n2:=fi.n2;refine'⟨_,ah (aF (i:=3) HZ.nd rfl (Or.inr rfl) (dY (pv 0) T.cl mM GM hr bM .nil aA (aa (pv 1) (aa (pv 2) ag))))
   (aj (aL ?c)),?_⟩
  case c=>
   refine' bY (g:=bi 0) (tt:=io (ja (wX fun i j=>.bl (decide (i<j))) (ja (xt K) (ja (xt K) (NQ K (aT 1) "distances") (aT 0)) (aT 2)) (aT 3))) (te:=aT 0) (NB:=["other","self","home","own"]) (src:=[none,some 0,some 2,some 3]) (bz (by kernel_rfl)) rfl (b_ (a7 aV (kC (pv 0) rfl) (pv 1) (fun _ _=>rfl))) ?g ?t ?e;case g=>exact fun cl C s₃ H₃ fp=>av (i:=0) nbG rfl (Or.inl rfl) (Or.inr rfl)
   case t=>exact fun cl C s₃ H₃ fp=>d5 (aP lM (a7 aV (a7 aV (kC (pv 1) rfl) (pv 0) (fun _ _=>rfl)) (pv 2) (fun _ _=>rfl)) (pv 3) (aW _))
   case e=>exact fun cl C s₃ H₃ fp=>pv 0
  refine⟨_,rfl,p,dx,_,rfl,h1,OK _ _ _ _,_,rfl,_,rfl,L,p,n,ts,i,j,rfl,N,hi,hj,?_⟩;obtain⟨bs,b,r1,r2,r3,_⟩:=RO.row hi;refine⟨_,rfl,p,C,dx,_,_,rfl,h1,T.cl,T.nO,CL _ _ _ _,_,rfl,ol,_,_,_,rfl,rfl,a8.of r1,aH r2,b,rfl,⟨_,a8.of r3⟩,fun D hD=>?_⟩;have nb:b≠D:=am r3 hD;refine eT (xs:=NV (bg n ts i)) (fun m ys σ H2=>(∃a,σ=[a,some (.ref p),some (.int (j:Int)),some (.int ((far ts i j:Nat):Int))])/\ys=NV (((bg n ts i).take m).filter fun o=>decide (far ts o j<far ts i j))/\H2=upd H D (.lst ys)) ⟨⟨_,rfl⟩,by simp,rfl⟩ (fun m ys σ H2 _ ⟨_,_,e⟩=>by rw[e];exact a8.of (by rw[ao nb];exact r3)) ?_ ?_
  .rintro m x ys σ H2 Kt Kf hx ⟨⟨a,rfl⟩,ey,rfl⟩ kt kf;obtain⟨v,hv,rfl⟩:=nY hx;have WS:v∈bg n ts i:=dk hv;have Je:v<n:=qA fi hi WS;have sm:aG H (upd H D (.lst ys)):=ai hD;obtain⟨bs2,b2,q1,q2,q3,_⟩:=R.row Je;have hg:(NV ((List.range n).map (far ts v)))[j]?=some (.int (far ts v j:Nat)):=by
    rw[bu,bu,j7 hj];rfl
   have tk:(bg n ts i).take (m+1)=(bg n ts i).take m++[v]:=by rw[gO,hv];rfl
   have hm:m<(bg n ts i).length:=(cu.mp hv).1;refine⟨_,rfl,p,C,dx,_,_,rfl,sm _ _ h1,T.cl,T.nD,wr _ _ _ _,_,rfl,ds,_,_,_,rfl,rfl,a8.of (sm _ _ q1),aH q2,_,rfl,b2,_,_,_,rfl,rfl,a8.of (sm _ _ q3),aH hg,_,rfl,_,_,rfl,rfl,_,rfl,?_⟩;refine dZ (fun e=>?_) (fun e=>?_)
   .refine⟨_,rfl,kt _ _ _ af ?_ ⟨⟨_,rfl⟩,?_,by rw[jt]⟩⟩
    .rw[ey,aS];refine fK (g8 _ _) (fK (zw _ _) (cz (show m<33 from ?_) (by decide)));have:(bg n ts i).length<=n:=aX (g8 _ _) (by simp);lia
    .have:decide (far ts v j<far ts i j)=true:=by simp at e |-;lia
     rw[ey,tk,gN,ie];simp[eF,this]
   .refine kf _ _ ⟨⟨_,rfl⟩,?_,rfl⟩;have:decide (far ts v j<far ts i j)=false:=by simp at e |-;lia
    rw[ey,tk,gN];simp[eF,this]
  .rintro ys σ H2 ⟨_,ey,rfl⟩;rw[aS,jQ] at ey;refine k2 D _ (ai hD) hD ?_;rw[af,ey];rfl
theorem ZG:aB ["stand"] ["stand"] (ap ZD):=⟨rfl,rfl,rfl,by decide +kernel,rfl,by decide +kernel,by decide +kernel⟩
def EA:Sp:=fun vs H Q _=>∃ (sa:Addr) (st:List (Option Nat)),vs=[.ref sa]/\H sa=some (.tup (st.map oV))/\st.length<=16/\∀ (r:Addr) (H':Hp),aG H H'->H r=none->H' r=some (.lst (NV (dM st st.length)))->Q (.ref r) H'
theorem UH{f:Addr}{fd:FuncData}(F:fH K "under_way" "under_way" ZD f fd)(hE:mg "enumerate"=none):bf P w K mg base aY 1 f fd ["stand"] EA:=by
 refine F.ok ZG (fun vs H Q E h=>?_) (fun dR A outer s H vs Q E hr h=>?_)
 .obtain⟨sa,st,rfl,_⟩:=h;rfl
 .obtain⟨sa,st,rfl,hS,hl,q⟩:=h;refine'⟨_,(aj (aL ?c1)),?_⟩;case c1=>
   refine' bY (g:=(mY K 2 (dI (bi 0) (dI (bi 1) mX)))) (tt:=(io (ja C6 (aT 1) (tC .cf)))) (te:=(aT 0)) (NB:=["letter","house"]) (src:=[none,none]) (bz (by kernel_rfl)) rfl (rX rfl hE (aa (pv 0) ag)) ?g ?t ?e;case g=>exact fun cl C s₃ H₃ fp=>(dW (n:=2) rfl (aR (av (i:=0) jY rfl (Or.inl rfl) (Or.inr rfl)) (aR (av (i:=1) jY rfl (Or.inl rfl) (Or.inr rfl)) cT)))
   case t=>exact fun cl C s₃ H₃ fp=>d5 (aP ng (pv 1) dU (aW _))
   case e=>exact fun cl C s₃ H₃ fp=>(pv 0)
  refine⟨_,rfl,sa,_,rfl,bJ.of hS,fun D hD=>?_⟩;refine rY (K:=K) (a:=sa) (xs:=st.map oV) (fun i ys σ H3=>(∃u v,σ=[u,v])/\ys=NV (dM st i)/\aG H H3/\H3 D=some (.lst ys)) ⟨⟨_,_,rfl⟩,rfl,ai hD,af⟩ (fun i ys σ H3 _ z=>bJ.of (z.2.2.1 _ _ hS)) ?_ ?_
  .rintro i x t ys σ H3 Kt Kf hx ⟨⟨u,v,rfl⟩,rfl,sm,iX⟩ ht kt kf;obtain⟨hi,rfl⟩:=wJ hx;have aD:=ai (o:=.tup [.int (i:Int),oV (st.getD i none)]) ht;refine⟨_,_,rfl,bJ.of af,rfl,_,_,rfl,_,_,rfl,rfl,?_⟩;refine⟨_,rfl,rfl,_,rfl,?_⟩;rw[oh];refine dZ (fun e=>?_) (fun e=>?_)
   .refine⟨_,rfl,kt _ _ _ (aD _ _ iX) (by rw[aS];exact fK nZ (cz (show i<17 by lia) (by decide))) ⟨⟨_,_,rfl⟩,?_,bP (sm.trans aD) hD,af⟩⟩;rw[gX,ak e,ie]
   .refine kf _ _ ⟨⟨_,_,rfl⟩,?_,sm.trans aD,aD _ _ iX⟩;rw[gX,aq e,i9]
  .rintro ys σ H3 ⟨_,rfl,sm,iX⟩;rw[aO] at iX;exact q D H3 sm hD iX
theorem Pn:aB ["self","net","homes","stand","beat"] ["self","net","homes","stand","beat"] (ap C5):=⟨rfl,rfl,rfl,by decide +kernel,rfl,by decide +kernel,by decide +kernel⟩
def Ib:Sp:=fun vs H Q _=>∃ (x0 x1 x2 x4:V) (sa:Addr) (st:List (Option Nat)),vs=[x0,x1,x2,.ref sa,x4]/\H sa=some (.tup (st.map oV))/\st.length<=16/\∀ (r:Addr) (H':Hp),aG H H'->H r=none->H' r=some (.lst (NV (dM st st.length)))->Q (.ref r) H'
theorem C9(F:fH K "order" "Rule.order" C5 f fd)(UW:ce P w K mg base aY 1 "under_way" ["stand"] EA):bf P w K mg base aY 2 f fd ["self","net","homes","stand","beat"] Ib:=by
 refine F.ok Pn (fun vs H Q E h=>?_) (fun dR A outer s H vs Q E hr h=>?_)
 .obtain⟨x0,x1,x2,x4,sa,st,rfl,_⟩:=h;rfl
 .obtain⟨x0,x1,x2,x4,sa,st,rfl,hS,hl,q⟩:=h;refine⟨_,(aj (aL (aw UW hr aA (aa (pv 3) ag)))),?_⟩;exact⟨_,rfl,sa,st,rfl,hS,hl,q⟩
theorem Po:aB ["others","stand","goes","letter","taken","house"] ["others","stand","goes","letter"] (ap ZE):=⟨rfl,rfl,rfl,by decide +kernel,rfl,by decide +kernel,by decide +kernel⟩
def Li:Sp:=fun vs H Q _=>∃ (oa sa ga:Addr) (os:List Nat) (st gs:List (Option Nat)) (l:Nat),vs=[.ref oa,.ref sa,.ref ga,.int l]/\H oa=some (.lst (NV os))/\H sa=some (.tup (st.map oV))/\H ga=some (.lst (gs.map oV))/\gs.length=st.length/\st.length<=16/\l<st.length/\∀H',aG H H'->Q (oV (lz st gs l os)) H'
theorem UI{f:Addr}{fd:FuncData}(F:fH K "first_free" "first_free" ZE f fd)(B:Bl mg):bf P w K mg base aY 1 f fd ["others","stand","goes","letter"] Li:=by
 refine F.ok Po (fun vs H Q E h=>?_) (fun dR A outer s H vs Q E hr h=>?_)
 .obtain⟨oa,sa,ga,os,st,gs,l,rfl,_⟩:=h;rfl
 .obtain⟨oa,sa,ga,os,st,gs,l,rfl,hO,hS,hG,gl,sl,hl,q⟩:=h;refine'⟨_,(ah (eO (i:=4) (g:=(bi 0)) (tt:=(io (ja (Sj) (ja (FO K) (aT 2) (aT 0)) (ja (FO K) (aT 2) (aT 3))))) (te:=(ja (xt K) (aT 1) (aT 0))) (NB:=["ahead","goes","stand","letter"]) (src:=[none,some 2,some 1,some 3]) (bz (by kernel_rfl)) rfl (br rfl B.range (aa (aN aQ (by rfl) B.len d_ (aa (pv 1) ag)) ag)) ?g1 ?t1 ?e1 Po.nd rfl rfl rfl)
   (ah (cD dt rfl (b_ (pv 0)) (av (i:=5) Po.nd rfl (Or.inl rfl))
    (aj (cw (aP ny (pv 5) (pv 4) rfl) (aj (aL (pv 5))) be)))
   (aj (aL dU)))),?_⟩
  case g1=>exact fun cl C s₃ H₃ fp=>(av (i:=0) ix rfl (Or.inl rfl) (Or.inr rfl))
  case t1=>exact fun cl C s₃ H₃ fp=>d5 (aP gR (a7 df (pv 2) (pv 0) (fun _ _=>rfl)) (a7 df (pv 2) (pv 3) (fun _ _=>rfl)) (aW _))
  case e1=>exact fun cl C s₃ H₃ fp=>(a7 aV (pv 1) (pv 0) (fun _ _=>rfl))
  refine⟨_,rfl,sa,_,rfl,.inr (bJ.of hS),(((st.map oV).length:Nat):Int),rfl,by lia,by rw[aO];lia,fun D hD=>?_⟩;rw[lJ,aO];refine fq (fun i ys σ H2=>(∃x,σ=[x,some (.ref ga),some (.ref sa),some (.int (l:Int))])/\aG H H2/\H2 D=some (.lst ys)/\ys=(((List.range i).filter fun a=>decide (st.getD a none=st.getD l none)).map fun a=>gs.getD a none).map oV) ⟨⟨_,rfl⟩,ai hD,af,rfl⟩ ?_ ?_
  .rintro i ys σ H2 Kt Kf hi ⟨⟨x,rfl⟩,sm,iZ,rfl⟩ kt kf;rw[fP];refine⟨_,rfl,_,rfl,sa,_,_,_,rfl,rfl,bJ.of (sm _ _ hS),aH (iy hi),_,rfl,_,rfl,sa,_,_,_,rfl,rfl,bJ.of (sm _ _ hS),aH (iy hl),C8,_,rfl,?_⟩;rw[M9];refine dZ (fun c=>?_) (fun c=>?_)
   .refine⟨_,rfl,_,rfl,ga,_,_,_,rfl,rfl,a8.of (sm _ _ hG),aH (iy (by lia)),?_⟩;refine kt _ _ _ iZ ?_ ⟨⟨_,rfl⟩,bP sm hD,af,?_⟩
    .rw[aO,aO];refine fK (g8 _ _) ?_;rw[dQ];exact cz (show i<17 by lia) (by decide)
    .rw[ii,gN,cR,cR,eF,ak c];rfl
   .refine kf _ _ ⟨⟨_,rfl⟩,sm,iZ,?_⟩;rw[ii,gN,eF,aq c,List.filter_nil,i9]
  rintro ys σ H2 ⟨_,sm,iZ,rfl⟩;have ein:∀h:Nat,BS (.int (h:Int)) ((((List.range st.length).filter fun a=>decide (st.getD a none=st.getD l none)).map fun a=>gs.getD a none).map oV)=(List.range st.length).any fun a=>decide (st.getD a none=st.getD l none)&&decide (gs.getD a none=some h):=fun h=>by
   rw[M_,List.any_map,List.any_filter];rfl
  generalize hw:(((List.range st.length).filter fun a=>decide (st.getD a none=st.getD l none)).map fun a=>gs.getD a none)=ws at *;refine⟨_,rfl,oa,rfl,⟨_,a8.of (sm _ _ hO)⟩,gQ (K:=K) (xs:=NV os) (fun j σ H3=>(∃x,σ=[some (.ref oa),some (.ref sa),some (.ref ga),some (.int (l:Int)),some (.ref D),x])/\H3=H2/\lz st gs l os=lz st gs l (os.drop j)) ⟨⟨_,rfl⟩,rfl,rfl⟩ (fun j σ H3 _ z=>by rw[z.2.1];exact a8.of (sm _ _ hO)) ?_ ?_⟩
  .rintro j x σ H3 hx ⟨⟨x5,rfl⟩,rfl,ef⟩;obtain⟨h,hv,rfl⟩:=nY hx;have hj:j<os.length:=(cu.mp hv).1;have ed:os.drop j=h::os.drop (j+1):=by
    rw[oy hj];congr 1;exact(cu.mp hv).2
   refine⟨_,rfl,_,rfl,D,_,rfl,.inl (a8.of iZ),rfl,jk,_,rfl,?_⟩;have ef2:lz st gs l (h::os.drop (j+1))=if (!BS (.int (h:Int)) (ws.map oV))=true then some h else lz st gs l (os.drop (j+1)):=by
    rw[ein];unfold lz;rw[iK];cases (!((List.range st.length).any fun a=>decide (st.getD a none=st.getD l none)&&decide (gs.getD a none=some h))) <;> rfl
   rw[ed,ef2] at ef;refine dZ (fun c=>?_) (fun c=>?_)
   .have c:(!BS (.int (h:Int)) (ws.map oV))=true:=c;rw[ak c] at ef;refine⟨_,rfl,?_⟩;have:=q H3 sm;rw[ef] at this;exact this
   .have c:¬ (!BS (.int (h:Int)) (ws.map oV))=true:=c;rw[aq c] at ef;exact⟨⟨_,rfl⟩,rfl,ef⟩
  .rintro σ H3 ⟨⟨x5,rfl⟩,rfl,ef⟩;have:=q H3 sm;rw[ef,aS,List.drop_length] at this;exact this
end
structure sI(n:Nat)(homes:List Nat)(st:List (Option Nat)):Prop where
 le:st.length<=16
 len:homes.length=st.length
 hs:∀x∈homes,x<n
 ss:∀y,some y∈st->y<n
theorem sI.at(S:sI n homes st)(h:l∈dM st st.length):l<st.length/\∃y,st.getD l none=some y/\y<n/\homes.getD l 0<n:=by
 obtain⟨a,b⟩:=lx h;refine⟨a,_,b,S.ss _ ?_,S.hs _ ?_⟩
 .rw[<-b,bZ,b8 a];exact fh _
 .rw[cV (by rw[S.len];exact a)];exact fh _
theorem UJ(n:Int)(tl ol ds:Addr):(pI n tl ol ds).lookup ("good":Str)=none:=nV n tl ol ds (by decide +kernel) (by decide +kernel) (by decide +kernel) (by decide +kernel)
theorem ZH(n:Int)(tl ol ds:Addr):(pI n tl ol ds).lookup ("out":Str)=none:=nV n tl ol ds (by decide +kernel) (by decide +kernel) (by decide +kernel) (by decide +kernel)
theorem C_{n:Nat}{ts:Ts}{homes:List Nat}{st:List (Option Nat)}:∀ {ls:List Nat} {gs:List (Option Nat)},(ls.foldl (BA n ts homes st) gs).length=gs.length
 |[],gs=>rfl
 |l::ls,gs=>by rw[g_,C_];unfold BA;rw[g9]
theorem qK:(bg n ts h).length<=n:=aX (g8 _ _) (by simp)
theorem cH.EC(N:cH C H L p n ts):∃dx fs,H p=some (.ins C dx fs)/\fs.lookup ("good":Str)=none/\fs.lookup ("out":Str)=none:=by
 obtain⟨dx,tl,ol,ds,a,_⟩:=N.ob;exact⟨dx,_,a,UJ _ _ _ _,ZH _ _ _ _⟩
section
variable {P:Program} {w:World} {K:PySem.W.Frag} {mg:Str->Option Value} {base:Heap}
theorem Pp:aB ["net","homes","stand","letters","goes","letter","house"] ["net","homes","stand","letters","goes"] (ap ZF):=⟨rfl,rfl,rfl,by decide +kernel,rfl,by decide +kernel,by decide +kernel⟩
def Ps(C:Addr):Sp:=fun vs H Q _=>∃ (L:Addr->Prop) (px ha sa la ga:Addr) (n:Nat) (ts:Ts) (homes:List Nat) (st gs:List (Option Nat)),vs=[.ref px,.ref ha,.ref sa,.ref la,.ref ga]/\cH C H L px n ts/\¬ L ga/\H ha=some (.tup (NV homes))/\H sa=some (.tup (st.map oV))/\sI n homes st/\H la=some (.lst (NV (dM st st.length)))/\la≠ga/\H ga=some (.lst (gs.map oV))/\gs.length=st.length/\
 ∀H',aK ga H H'->H' ga=some (.lst (((dM st st.length).foldl (BA n ts homes st) gs).map oV))->Q .cf H'
theorem UK{f C:Addr}{fd:FuncData}(F:fH K "hand_in_turn" "hand_in_turn" ZF f fd)(T:NT K mg C)(MG:iB P w K mg base aY 6 C "good" ["self","house","home"] (qJ C))(MO:iB P w K mg base aY 5 C "out" ["self","house"] (wu C))(FF:ce P w K mg base aY 1 "first_free" ["others","stand","goes","letter"] Li):
  bf P w K mg base aY 7 f fd ["net","homes","stand","letters","goes"] (Ps C):=by
 obtain⟨fG,fdG,mG,bG,GG⟩:=MG.ex;obtain⟨fO,fdO,mO,bO,GO⟩:=MO.ex;refine F.ok Pp (fun vs H Q E h=>?_) (fun dR A outer s H vs Q E hr h=>?_)
 .obtain⟨L,px,ha,sa,la,ga,n,ts,homes,st,gs,rfl,_⟩:=h;rfl
 .obtain⟨L,px,ha,sa,la,ga,n,ts,homes,st,gs,rfl,N,W5,hH,hS,LO,hL,UL,hG,gl,q⟩:=h;have h1:bD 1 _:=hr.mono (by decide);have h5:bD 5 _:=hr.mono (by decide);refine⟨_,(aj (cD dt rfl (b_ (pv 3)) (av (i:=5) Pp.nd rfl (Or.inl rfl))
    (ah (aF (i:=6) Pp.nd rfl (Or.inl rfl) (a7 df (pv 2) (pv 5) (fun _ _=>rfl)))
    (aj (fT (aw FF h1 aA (aa (aU kG (dY (pv 0) T.cl mG GG hr bG .nil aA (aa (pv 6) (aa (a7 df (pv 1) (pv 5) (fun _ _=>rfl)) ag))) (dY (pv 0) T.cl mO GO h5 bO .nil aA (aa (pv 6) ag))) (aa (pv 2) (aa (pv 4) (aa (pv 5) ag))))) (jy (pv 4) (pv 5) fW)))))),?_⟩
  have n2:=N.gw.n2;have W6:px≠ga:=by obtain⟨dx,fs,a,_⟩:=N.EC;rintro rfl;rw[a] at hG;cases hG
  have ZI:ha≠ga:=by rintro rfl;rw[hH] at hG;cases hG
  have W7:sa≠ga:=by rintro rfl;rw[hS] at hG;cases hG
  refine⟨_,rfl,la,rfl,⟨_,a8.of hL⟩,gQ (K:=K) (xs:=NV (dM st st.length)) (fun j σ Hc=>(∃x y,σ=[some (.ref px),some (.ref ha),some (.ref sa),some (.ref la),some (.ref ga),x,y])/\aK ga H Hc/\Hc ga=some (.lst ((((dM st st.length).take j).foldl (BA n ts homes st) gs).map oV))) ⟨⟨_,_,rfl⟩,aK.refl,hG⟩ (fun j σ Hc _ z=>a8.of (z.2.1 _ _ hL UL)) ?_ ?_⟩
  .rintro j x σ Hc hx ⟨⟨x5,x6,rfl⟩,sc,uI⟩;obtain⟨l,hv,rfl⟩:=nY hx;obtain⟨hl,y,ey,hy,RD⟩:=LO.at (dk hv);have tk:(dM st st.length).take (j+1)=(dM st st.length).take j++[l]:=by rw[gO,hv];rfl
   rw[tk,zJ,g_,z6];have Pu:(((dM st st.length).take j).foldl (BA n ts homes st) gs).length=st.length:=by rw[C_,gl]
   generalize ((dM st st.length).take j).foldl (BA n ts homes st) gs=g at *;have Nc:=N.keep (fun b o l e=>sc b o e (by rintro rfl;exact W5 l)) (fun o e=>sc _ _ e W6);have Na:=sc _ _ hH ZI;have ED:=sc _ _ hS W7;obtain⟨dx,fs,i1,i2,i3⟩:=Nc.EC;refine⟨_,rfl,_,rfl,sa,_,_,_,rfl,rfl,bJ.of ED,aH (iy hl),?_⟩;rw[ey];refine⟨_,rfl,px,dx,fs,rfl,i1,i2,_,rfl,_,rfl,_,rfl,ha,_,_,_,rfl,rfl,bJ.of Na,aH (fE (by rw[LO.len];exact hl)),L,px,n,ts,y,homes.getD l 0,rfl,Nc,hy,RD,fun r1 H1 s1 tK g1=>?_⟩;refine⟨_,rfl,px,dx,fs,rfl,s1 _ _ i1,i3,_,rfl,L,px,n,ts,y,rfl,Nc.same s1,hy,fun r2 H2 s2 HS g2=>?_⟩;have lg:(dF n ts y (homes.getD l 0)).length<=n:=aX (g8 _ _) qK;have lo:=qK (n:=n) (ts:=ts) (h:=y);refine⟨r1,r2,_,_,rfl,rfl,s2 _ _ g1,g2,by rw[aS,aS];exact aX (show _<=64 by lia) (by decide),fun r3 qI=>?_⟩;have s3:=ai (o:=.lst (NV (dF n ts y (homes.getD l 0))++NV (bg n ts y))) qI;have ZJ:=(s1.trans s2).trans s3;refine⟨_,rfl,_,rfl,_,rfl,r3,sa,ga,dF n ts y (homes.getD l 0)++bg n ts y,st,g,l,rfl,by rw[af];unfold NV;rw[cR],ZJ _ _ ED,ZJ _ _ uI,Pu,LO.le,hl,fun H4 s4=>?_⟩;have Nb:=ZJ.trans s4;refine⟨_,rfl,_,rfl,ga,_,(l:Int),l,rfl,rfl,Nb _ _ uI,gG (by rw[aO,Pu];exact hl),⟨_,_,rfl⟩,fun b o e m=>by rw[ao m];exact Nb _ _ (sc _ _ e m),?_⟩;rw[af];unfold BA;rw[ey,List.map_set];rfl
  .rintro σ Hc ⟨⟨x5,x6,rfl⟩,sc,uI⟩;rw[aS,jQ] at uI;exact q Hc sc uI
end
theorem BB[DecidableEq α]:∀ {a b:List α},a.Nodup->(∀x∈a,x∈b)->a.length<=b.length
 |[],b,_,_=>bV _
 |x::xs,b,hn,hs=>by
  obtain⟨h1,h2⟩:=eX.mp hn;have hx:x∈b:=hs x bL;have:=BB (b:=b.erase x) h2 fun y hy=>(zk (fun (e:y=x)=>h1 (e ▸ hy))).mpr (hs y (cm _ hy));rw[y6 hx] at this;have:0<b.length:=uX hx;rw[d9];lia
theorem Ic{n:Nat}{ts:Ts}{h:Nat}(F:bR n ts)(hh:h<n):(bg n ts h).length=mQ ts (ci h):=by
 have p:((bg n ts h).map fun (o:Nat)=>(ci h,ci o)).Perm (ts.filter fun t=>decide (t.1=ci h)):=by
  refine(List.perm_ext_iff_of_nodup (i7.mpr ((jH hh).imp fun {x y} q e=>q (fN (congrArg Prod.snd e)))) (F.nd.filter _)).mpr fun u=>?_;rw[bj,cC];constructor
  .rintro⟨o,ho,rfl⟩;exact⟨(fj F hh).mp ho,cZ rfl⟩
  .rintro⟨a,b⟩;have r:=F.rg u a;refine⟨u.2.toNat,(fj F hh).mpr ?_,?_⟩
   .show (ci h,ci u.2.toNat)∈ts;rw[show (ci h,ci u.2.toNat)=u from iR (cQ b).symm (show ((u.2.toNat:Nat):Int)=u.2 by lia)];exact a
   .exact iR (cQ b).symm (show ((u.2.toNat:Nat):Int)=u.2 by lia)
 unfold mQ;rw[<-p.length_eq,aO]
theorem Da(he:∀j,j≠i->P' j=P j)(hi:P i=false):∀ {m:Nat},i<m->(List.range m).countP P'=(List.range m).countP P+(if P' i=true then 1 else 0)
 |0,h=>absurd h (kd _)
 |m+1,h=>by
  rw[ii,List.countP_append,List.countP_append,List.countP_singleton,List.countP_singleton];by_cases c:i<m
  .rw[Da he hi c,he m (by lia)];lia
  .obtain rfl:i=m:=by lia
   rw[show (List.range i).countP P'=(List.range i).countP P from List.countP_congr fun j hj=>by rw[he j (by have:=bv.mp hj;lia)],hi];simp
theorem sJ(h:∀j,P j=true->P' j=true):(List.range m).countP P<=(List.range m).countP P':=List.countP_mono_left fun j _=>h j
theorem Ie(h:∀j,P j=true->P' j=true)(hi:P i=false)(sZ:P' i=true)(hm:i<m):(List.range m).countP P<(List.range m).countP P':=by
 have a:=Da (P:=P) (P':=fun j=>if j=i then true else P j) (i:=i) (fun j hj=>aq hj) hi hm;have b:=sJ (P:=fun j=>if j=i then true else P j) (P':=P') (m:=m) fun j hj=>by
  by_cases c:j=i
  .rw[c];exact sZ
  .rw[aq c] at hj;exact h j hj
 rw[ak rfl,ak rfl] at a;lia
theorem Pw{st:List (Option Nat)}:st=(List.range st.length).map fun j=>st.getD j none:=by
 apply vd;intro i;by_cases h:i<st.length
 .rw[bu,j7 h];simp[bZ,h]
 .rw[i6 (by lia),i6 (by rw[aO,dQ];lia)]
theorem qL{st:List (Option Nat)}{o:Option Nat}:st.count o=(List.range st.length).countP fun j=>decide (st.getD j none=o):=by
 have e:st.count o=((List.range st.length).map fun j=>st.getD j none).count o:=congrArg _ Pw;rw[e,List.count_eq_countP,List.countP_map];exact List.countP_congr fun j _=>by simp
theorem mL:(List.replicate m (none:Option Nat)).getD j none=none:=by
 rw[bZ,uU];split <;> rfl
theorem mN{fs:List (Option Nat)}{i j:Nat}{o:Option Nat}(hi:i<fs.length):(fs.set i o).getD j none=if j=i then o else fs.getD j none:=by
 rw[bZ,List.getElem?_set];by_cases c:i=j
 .subst c;rw[ak rfl,ak hi,ak rfl];rfl
 .rw[aq c,aq (fun z=>c z.symm),bZ]
structure Hd(n:Nat)(ts:Ts)(st fs:List (Option Nat)):Prop where
 len:fs.length=st.length
 cf:∀j,st.getD j none=none->fs.getD j none=none
 out:∀j h,st.getD j none=some h->∃y,fs.getD j none=some y/\y∈bg n ts h
 inj:∀j k y,j≠k->fs.getD j none=some y->fs.getD k none=some y->st.getD j none≠st.getD k none
def lS(homes:List Nat)(fs:List (Option Nat)):List (Option Nat):=(List.range fs.length).map fun j=>if fs.getD j none=some (homes.getD j 0) then none else fs.getD j none
theorem gc:(lS homes fs).length=fs.length:=by unfold lS;rw[aO,dQ]
theorem wK(h:(lS homes fs).getD j none=some y):fs.getD j none=some y:=by
 unfold lS at h;by_cases hj:j<fs.length
 .rw[bZ,bu,j7 hj,zU,zO] at h;split at h
  .cases h
  .exact h
 .rw[bZ,i6 (by rw[aO,dQ];lia)] at h;cases h
theorem Hd.next{n:Nat}{ts:Ts}{homes:List Nat}{st fs:List (Option Nat)}(F:bR n ts)(S:dP n ts homes st)(d:Hd n ts st fs):dP n ts homes (lS homes fs):=by
 have sto:∀j y,fs.getD j none=some y->∃h,h<n/\st.getD j none=some h/\y∈bg n ts h:=fun j y hy=>by
  match e:st.getD j none with
  |none=>rw[d.cf j e] at hy;cases hy
  |some h=>
   obtain⟨y',a,b⟩:=d.out j h e;rw[hy] at a;cases a;have hj:j<st.length:=by
    rcases Nat.lt_or_ge j st.length with c|c
    .exact c
    .rw[bZ,i6 c] at e;cases e
   exact⟨h,(S.ss j h (by rw[iJ (d:=none) hj,e])).1,rfl,b⟩
 refine⟨by rw[gc,d.len];exact S.len,S.hs,fun i y hy=>?_,fun y hy=>?_⟩
 .have hi:i<fs.length:=by have:=(cu.mp hy).1;rwa [gc] at this
  have e:(lS homes fs).getD i none=some y:=by rw[bZ,hy];rfl
  obtain⟨h,hh,_,b⟩:=sto i y (wK e);refine⟨qA F hh b,fun z=>?_⟩;have f:=wK e;unfold lS at hy;rw[bu,j7 hi,zU,f,ak (by rw[bZ,z];rfl)] at hy;cases hy
 .rw[qL,gc,Ic F hy];refine aX (sJ (P':=fun j=>decide (fs.getD j none=some y)) fun j hj=>cZ (wK (cQ hj))) ?_;unfold mQ;rw[F.Jc,E6];have e:∀j∈(List.range fs.length).filter (fun j=>decide (fs.getD j none=some y)),∃h:Nat,st.getD j none=some h/\(ci h,ci y)∈ts:=fun j hj=>by
   obtain⟨h,hh,a,b⟩:=sto j y (cQ (cC.mp hj).2);exact⟨h,a,(fj F hh).mp b⟩
  have nd:(((List.range fs.length).filter (fun j=>decide (fs.getD j none=some y))).map fun j=>(ci ((st.getD j none).getD 0),ci y)).Nodup:=by
   refine i7.mpr ?_;refine Fk ?_ (u6 _ jo);intro a b ha hb tI ee;obtain⟨h1,g1,_⟩:=e a ha;obtain⟨h2,g2,_⟩:=e b hb;rw[g1,g2] at ee;have:h1=h2:=fN (congrArg Prod.fst ee);exact d.inj a b y tI (cQ (cC.mp ha).2) (cQ (cC.mp hb).2) (by rw[g1,g2,this])
  have:=BB (b:=ts.filter fun t=>decide (t.2=ci y)) nd fun u hu=>by
   obtain⟨j,hj,rfl⟩:=bj.mp hu;obtain⟨h,g,t⟩:=e j hj;rw[g];exact cC.mpr ⟨t,cZ rfl⟩
  rw[aO] at this;exact this
theorem k9{g:List (Option Nat)}{a x:Nat}(h:g.getD a none=some x):a<g.length:=by
 rcases Nat.lt_or_ge a g.length with c|c
 .exact c
 .rw[bZ,i6 c] at h;cases h
section
variable {n:Nat} {ts:Ts} {homes:List Nat} {st g g1:List (Option Nat)} {gd ou:Nat->List Nat} {l x y:Nat} {os p:List Nat}
theorem jJ(h:lz st g l os=some x):x∈os/\∀a,a<st.length->st.getD a none=st.getD l none->g.getD a none≠some x:=by
 unfold lz at h;refine⟨List.mem_of_find?_eq_some h,fun a ha e z=>?_⟩;have:=List.find?_some h;rw[Bool.not_eq_true',q0] at this;exact this a (bv.mpr ha) (by rw[cZ e,cZ z];rfl)
theorem wL(h:lz st g l os=none)(hx:x∈os):∃a,a<st.length/\st.getD a none=st.getD l none/\g.getD a none=some x:=by
 unfold lz at h;have:=va.mp h x hx;rw[Bool.not_eq_true',Bool.not_eq_false,q_] at this;obtain⟨a,ha,b⟩:=this;rw[fL] at b;exact⟨a,bv.mp ha,cQ b.1,cQ b.2⟩
def RE(st g:List (Option Nat)):Prop:=∀j k y,j≠k->g.getD j none=some y->g.getD k none=some y->st.getD j none≠st.getD k none
theorem RE.put(I:RE st g)(gl:g.length=st.length)(hl:l<st.length):RE st (g.set l (lz st g l os)):=by
 intro j k y n hj hk e;rw[mN (by rw[gl];exact hl)] at hj hk;by_cases cj:j=l
 .rw[ak cj] at hj;rw[aq (fun z=>n (cj.trans z.symm))] at hk;exact(jJ hj).2 k (by rw[<-gl];exact k9 hk) (by rw[<-cj];exact e.symm) hk
 .rw[aq cj] at hj;by_cases ck:k=l
  .rw[ak ck] at hk;exact(jJ hk).2 j (by rw[<-gl];exact k9 hj) (by rw[<-ck];exact e) hj
  .rw[aq ck] at hk;exact I j k y n hj hk e
structure E1(st g:List (Option Nat))(gd:Nat->List Nat)(p:List Nat):Prop where
 len:g.length=st.length
 inj:RE st g
 cf:∀l,l∉p->g.getD l none=none
 ok:∀l,l∈p->(∃x,g.getD l none=some x/\x∈gd l)\/(g.getD l none=none/\∀o∈gd l,∃a,st.getD a none=st.getD l none/\g.getD a none=some o)
theorem E1.step(I:E1 st g gd p)(hl:l<st.length)(np:l∉p):E1 st (g.set l (lz st g l (gd l))) gd (p++[l]):=by
 have gs:∀ {j:Nat},(g.set l (lz st g l (gd l))).getD j none=if j=l then lz st g l (gd l) else g.getD j none:=mN (by rw[I.len];exact hl)
 have nl:=I.cf l np;have kp:∀ {a o:Nat},g.getD a none=some o->(g.set l (lz st g l (gd l))).getD a none=some o:=fun {a o} e=>by rw[gs,aq (by rintro rfl;rw[nl] at e;cases e)];exact e
 refine⟨by rw[g9,I.len],I.inj.put I.len hl,fun j hj=>?_,fun j hj=>?_⟩
 .rw[gs,aq (by rintro rfl;exact hj (dD _ bL))];exact I.cf j fun z=>hj (fw _ z)
 .by_cases c:j=l
  .subst c;rw[gs,ak rfl];cases e:lz st g j (gd j) with
   |some x=>exact .inl ⟨x,rfl,(jJ e).1⟩
   |none=>exact .inr ⟨rfl,fun o ho=>let ⟨a,_,e1,e2⟩:=wL e ho;⟨a,e1,by have:=kp e2;rwa [e] at this⟩⟩
  .rw[gs,aq c];have hj:j∈p:=by
    rcases cK.mp hj with z|z
    .exact z
    .exact absurd (cA.mp z) c
   rcases I.ok j hj with z|⟨z,f⟩
   .exact .inl z
   .exact .inr ⟨z,fun o ho=>let ⟨a,e1,e2⟩:=f o ho;⟨a,e1,kp e2⟩⟩
theorem E1.fold:∀ {ls p:List Nat} {g:List (Option Nat)},E1 st g gd p->(∀l∈ls,l<st.length)->(p++ls).Nodup->E1 st (ls.foldl (fun g l=>g.set l (lz st g l (gd l))) g) gd (p++ls)
 |[],p,g,I,_,_=>by rw[i9];exact I
 |l::ls,p,g,I,h,nd=>by
  rw[g_,show p++l::ls=(p++[l])++ls by simp];rw[show p++l::ls=(p++[l])++ls by simp] at nd;refine E1.fold (I.step (h l bL) fun z=>?_) (fun j hj=>h j (cm _ hj)) nd;exact(jP.mp (jP.mp nd).1).2.2 l z l bL rfl
theorem fold_at{f:List (Option Nat)->Nat->Option Nat}{a:Nat}:∀ {ls:List Nat} {g:List (Option Nat)},(∀l∈ls,l<g.length)->a∉ls->(ls.foldl (fun g l=>g.set l (f g l)) g).getD a none=g.getD a none
 |[],g,_,_=>rfl
 |l::ls,g,h,n=>by
  rw[g_,fold_at (fun j hj=>by rw[g9];exact h j (cm _ hj)) fun z=>n (cm _ z),mN (h l bL),aq (by rintro rfl;exact n bL)]
noncomputable def Ig(n:Nat)(ts:Ts)(st g:List (Option Nat))(l:Nat):List (Option Nat):=if g.getD l none=none then g.set l (lz st g l (bg n ts ((st.getD l none).getD 0))) else g
noncomputable def yX(n:Nat)(ts:Ts)(homes:List Nat)(st g:List (Option Nat))(l:Nat):List (Option Nat):=g.set l (lz st g l (dF n ts ((st.getD l none).getD 0) (homes.getD l 0)))
noncomputable def Py(n:Nat)(ts:Ts)(homes:List Nat)(st:List (Option Nat))(jm:List Nat):List (Option Nat):=jm.foldl (Ig n ts st) (jm.foldl (yX n ts homes st) (List.replicate st.length none))
theorem Db(S:dP n ts homes st)(hl:l<st.length)(ey:st.getD l none=some y)(hy:y<n)(en:g.getD l none=none):∃x,lz st g l (bg n ts y)=some x:=by
 cases e:lz st g l (bg n ts y) with
 |some x=>exact⟨x,rfl⟩
 |none=>
  exfalso;have a:=BB (b:=((List.range st.length).filter fun j=>decide (st.getD j none=some y)&&(g.getD j none).isSome).map fun j=>(g.getD j none).getD 0) (jH hy) fun x hx=>by
   obtain⟨a,ha,e1,e2⟩:=wL e hx;exact bj.mpr ⟨a,cC.mpr ⟨bv.mpr ha,by rw[e1,ey,e2];simp⟩,by rw[e2];rfl⟩
  rw[aO,<-E6] at a;have b:=Ie (P:=fun j=>decide (st.getD j none=some y)&&(g.getD j none).isSome) (P':=fun j=>decide (st.getD j none=some y)) (i:=l) (fun j h=>(fL _ _ ▸ h:_/\_).1) (by rw[en];simp) (by rw[ey];simp) hl;have c:=S.ZC y hy;rw[qL] at c;lia
structure E2(n:Nat)(ts:Ts)(st g1 g:List (Option Nat))(p:List Nat):Prop where
 len:g.length=st.length
 inj:RE st g
 keep:∀l x,g1.getD l none=some x->g.getD l none=some x
 cf:∀l,l∉p->g.getD l none=g1.getD l none
 out:∀l,l∈p->∃x,g.getD l none=some x/\(g1.getD l none=some x\/x∈bg n ts ((st.getD l none).getD 0))
theorem E2.step(S:dP n ts homes st)(I:E2 n ts st g1 g p)(hl:l<st.length)(ey:st.getD l none=some y)(hy:y<n)(np:l∉p):E2 n ts st g1 (Ig n ts st g l) (p++[l]):=by
 have nl:=I.cf l np;unfold Ig;by_cases c:g.getD l none=none
 .rw[ak c,ey];obtain⟨x,ex⟩:=Db S hl ey hy c;have gs:∀ {j:Nat},(g.set l (lz st g l (bg n ts y))).getD j none=if j=l then lz st g l (bg n ts y) else g.getD j none:=mN (by rw[I.len];exact hl)
  refine⟨by rw[g9,I.len],I.inj.put I.len hl,fun j x e=>?_,fun j hj=>?_,fun j hj=>?_⟩
  .show (g.set l (lz st g l (bg n ts y))).getD j none=_;rw[gs,aq (by rintro rfl;rw[<-nl,c] at e;cases e)];exact I.keep j x e
  .show (g.set l (lz st g l (bg n ts y))).getD j none=_;rw[gs,aq (by rintro rfl;exact hj (dD _ bL))];exact I.cf j fun z=>hj (fw _ z)
  .show ∃x,(g.set l (lz st g l (bg n ts y))).getD j none=some x/\_;rw[gs];by_cases d:j=l
   .subst d;rw[ak rfl,ex,ey];exact⟨x,rfl,.inr (jJ ex).1⟩
   .rw[aq d];rcases cK.mp hj with z|z
    .exact I.out j z
    .exact absurd (cA.mp z) d
 .rw[aq c];refine⟨I.len,I.inj,I.keep,fun j hj=>I.cf j fun z=>hj (fw _ z),fun j hj=>?_⟩;rcases cK.mp hj with z|z
  .exact I.out j z
  .rw[cA.mp z];cases e:g.getD l none with
   |none=>exact absurd e c
   |some x=>exact⟨x,rfl,.inl (by rw[<-nl,e])⟩
theorem E2.fold(S:dP n ts homes st):∀ {ls p:List Nat} {g:List (Option Nat)},E2 n ts st g1 g p->(∀l∈ls,∃y,l<st.length/\st.getD l none=some y/\y<n)->(p++ls).Nodup->E2 n ts st g1 (ls.foldl (Ig n ts st) g) (p++ls)
 |[],p,g,I,_,_=>by rw[i9];exact I
 |l::ls,p,g,I,h,nd=>by
  rw[g_,show p++l::ls=(p++[l])++ls by simp];rw[show p++l::ls=(p++[l])++ls by simp] at nd;obtain⟨y,a,b,c⟩:=h l bL;refine E2.fold S (I.step S a b c fun z=>?_) (fun j hj=>h j (cm _ hj)) nd;exact(jP.mp (jP.mp nd).1).2.2 l z l bL rfl
structure Eag(n:Nat)(ts:Ts)(homes:List Nat)(st fs:List (Option Nat)):Prop where
 hd:Hd n ts st fs
 eag:∀l y,st.getD l none=some y->(∃x,fs.getD l none=some x/\x∈dF n ts y (homes.getD l 0))\/∀o∈dF n ts y (homes.getD l 0),∃a,st.getD a none=some y/\fs.getD a none=some o/\o∈dF n ts y (homes.getD a 0)
theorem qM{jm:List Nat}(S:dP n ts homes st)(pm:jm.Perm (dM st st.length)):∀l∈jm,∃y,l<st.length/\st.getD l none=some y/\y<n:=fun l hl=>by
 obtain⟨a,b⟩:=lx (pm.mem_iff.mp hl);exact⟨_,a,b,(S.ss l _ (by rw[iJ (d:=none) a];exact congrArg some b)).1⟩
theorem k_(h:st.getD l none=some y):l∈dM st st.length:=cC.mpr ⟨bv.mpr (k9 h),by rw[h];rfl⟩
theorem wM{jm:List Nat}(pm:jm.Perm (dM st st.length)):jm.Nodup:=pm.nodup_iff.mpr (u6 _ jo)
theorem Pz{jm:List Nat}(S:dP n ts homes st)(pm:jm.Perm (dM st st.length)):Eag n ts homes st (Py n ts homes st jm):=by
 have al:=qM S pm;have nd:=wM pm;have i1:E1 st (jm.foldl (yX n ts homes st) (List.replicate st.length none)) (fun l=>dF n ts ((st.getD l none).getD 0) (homes.getD l 0)) ([]++jm):=E1.fold (gd:=fun l=>dF n ts ((st.getD l none).getD 0) (homes.getD l 0)) ⟨gJ,(fun j k y _ hy=>by rw[mL] at hy;cases hy),fun l _=>mL,fun l hl=>(nomatch hl)⟩ (fun l hl=>let ⟨_,a,_⟩:=al l hl;a) nd;have i2:=E2.fold S (g1:=jm.foldl (yX n ts homes st) (List.replicate st.length none)) (p:=[]) ⟨i1.len,i1.inj,fun _ _ e=>e,fun _ _=>rfl,fun l hl=>(nomatch hl)⟩ al nd;rw[zV] at i1 i2;have ZK:∀ {i j o},o∈dF n ts i j->o∈bg n ts i:=fun h=>(cC.mp h).1;have uo:∀ {l y},st.getD l none=some y->l∈jm:=fun h=>pm.mem_iff.mpr (k_ h);have g1k:∀ {l y x},st.getD l none=some y->(jm.foldl (yX n ts homes st) (List.replicate st.length none)).getD l none=some x->x∈dF n ts y (homes.getD l 0):=fun {l y x} h e=>by
  rcases i1.ok l (uo h) with ⟨x',a,b⟩|⟨a,_⟩
  .rw[e] at a;cases a;rw[h] at b;exact b
  .rw[e] at a;cases a
 refine⟨⟨i2.len,fun j hj=>?_,fun j y hj=>?_,i2.inj⟩,fun l y hl=>?_⟩
 .have nj:j∉jm:=fun z=>by obtain⟨y,_,e,_⟩:=al j z;rw[hj] at e;cases e
  exact(i2.cf j nj).trans (i1.cf j nj)
 .obtain⟨x,a,b⟩:=i2.out j (uo hj);rcases b with b|b
  .exact⟨x,a,ZK (g1k hj b)⟩
  .rw[hj] at b;exact⟨x,a,b⟩
 .rcases i1.ok l (uo hl) with ⟨x,a,b⟩|⟨a,f⟩
  .rw[hl] at b;exact .inl ⟨x,i2.keep l x a,b⟩
  .refine .inr fun o ho=>?_;obtain⟨a',e1,e2⟩:=f o (by rw[hl];exact ho);rw[hl] at e1;exact⟨a',e1,i2.keep _ _ e2,g1k e1 e2⟩
end
theorem dP.let(S:dP n ts homes st)(le:st.length<=16):sI n homes st:=⟨le,S.len,S.hs,fun y hy=>by obtain⟨i,hi⟩:=List.mem_iff_getElem?.mp hy;exact(S.ss i y hi).1⟩
def Nd(o:HO):Prop:=∀ps,o≠.j3 ps
theorem cH.W8(N:cH C H L p n ts):cH C H (fun b=>L b/\∃o,H b=some o/\Nd o) p n ts:=by
 obtain⟨dx,tl,ol,ds,a,l1,l2,b,c,d⟩:=N.ob;have ne:∀ {b xs},L b->H b=some (.lst xs)->L b/\∃o,H b=some o/\Nd o:=fun l e=>⟨l,_,e,fun ps z=>by cases z⟩
 have ne':∀ {b xs},L b->H b=some (.tup xs)->L b/\∃o,H b=some o/\Nd o:=fun l e=>⟨l,_,e,fun ps z=>by cases z⟩
 have qa:∀ {l r},L l->ff H L l n r->ff H (fun b=>L b/\∃o,H b=some o/\Nd o) l n r/\(L l/\∃o,H l=some o/\Nd o):=fun hl ⟨bs,a,b,c⟩=>⟨⟨bs,a,fun x hx=>by
  obtain⟨j,hj,e⟩:=u7 hx;have:=c.2 j (by rw[<-c.1];exact hj);rw[bZ,b8 hj,zO,e] at this;exact ne (b x hx) this,c⟩,ne hl a⟩
 obtain⟨t1,zs,t2,t3,t4,t5⟩:=d;exact⟨N.gw,dx,tl,ol,ds,a,(qa l1 b).2,(qa l2 c).2,(qa l1 b).1,(qa l2 c).1,ne t1 t2,zs,t2,t3,fun z hz=>ne' (t4 z hz) (t3 z hz),t5⟩
def PD(st:Stmt)(i:Nat):Expr:=match (bQ st).getD i (.Pass ⟨0,0,0,0⟩) with
 |.Return (some (.Call _ _ (k::_) _)) _=>k.value
 |_=>.Name "x" ⟨0,0,0,0⟩
def laA:Expr->Arguments
 |.Lambda a _ _ _=>a
 |_=>{ posonlyargs:=[],args:=[],vararg:=none,kwonlyargs:=[],kw_defaults:=[],kwarg:=none,defaults:=[] }
def laB:Expr->Expr
 |.Lambda _ b _ _=>b
 |e=>e
def laS:Expr->Scope
 |.Lambda _ _ s _=>s
 |_=>{ kind:=.function,names:=[],isGenerator:=false,isCoroutine:=false }
def laP:Expr->Pos
 |.Lambda _ _ _ p=>p
 |_=>⟨0,0,0,0⟩
theorem bD.lam(r:bD (k+3) A)(env:Env):bD k (A.in1.in1.deeper env):=r.in1.in1.deeper env
theorem Lj:(dM st i).Pairwise (·<·):=u6 _ List.pairwise_lt_range
noncomputable def uJ(ts:Ts)(homes:List Nat)(st:List (Option Nat))(l:Nat):Int:=((far ts ((st.getD l none).getD 0) (homes.getD l 0):Nat):Int)
theorem Ih(s1:aG H H1)(t2:cr lp q PN H2)(h_:∀b o,H1 b=some o->b≠PN->H2 b=some o)(s3:aG H2 H3)(qI:H3 r=none):H r=none:=by
 have h2:H2 r=none:=s3.free qI;cases z:H r with
 |none=>rfl
 |some o=>
  by_cases e:r=PN
  .subst e;rcases t2 with q|⟨_,q,_⟩ <;> (rw[h2] at q;cases q)
  .rw[h_ r o (s1 _ _ z) e] at h2;cases h2
abbrev uK:Stmt:=h9 (top 25) 0
def RF:Expr:=PD uK 0
def ZL:Str:=("Nearest.order":Str)++".<locals>."++"<lambda>"
abbrev cp(PN:Addr)(H:Hp):Prop:=cr (laP RF) ZL PN H
section
variable {P:Program} {w:World} {K:PySem.W.Frag} {mg:Str->Option Value} {base:Heap}
theorem PF:aB ["self","net","homes","stand","beat"] ["self","net","homes","stand","beat"] (ap uK):=⟨rfl,rfl,rfl,by decide +kernel,rfl,by decide +kernel,by decide +kernel⟩
def Ii(C PN:Addr):Sp:=fun vs H Q _=>∃ (L:Addr->Prop) (x0 x4:V) (px ha sa:Addr) (n:Nat) (ts:Ts) (homes:List Nat) (st:List (Option Nat)),vs=[x0,.ref px,.ref ha,.ref sa,x4]/\cH C H L px n ts/\H ha=some (.tup (NV homes))/\H sa=some (.tup (st.map oV))/\sI n homes st/\cp PN H/\
 ∀ (r:Addr) (H':Hp) (out:List Nat),cp PN H'->lQ PN H H'->H r=none->out.Perm (dM st st.length)->out.Pairwise (MV (uJ ts homes st))->H' r=some (.lst (NV out))->Q (.ref r) H'
theorem UM{f c C PN:Addr}{fd:FuncData}(F:rT K "order" "Nearest.order" uK f fd c)(B:Bl mg)(kb:K.In base)(hb:qd mg base)(hc:PySem.W.codeHdIn K c PN=true)(T:NT K mg C)(MF:iB P w K mg base aY 5 C "far" ["self","one","other"] (pK C))(UW:ce P w K mg base aY 1 "under_way" ["stand"] EA):
  bf P w K mg base aY 9 f fd ["self","net","homes","stand","beat"] (Ii C PN):=by
 obtain⟨fF,fdF,mF,bF,GF⟩:=MF.ex;refine F.ok PF (fun vs H Q E h=>?_) (fun A outer s H vs Q E hr h=>?_)
 .obtain⟨L,x0,x4,px,ha,sa,n,ts,homes,st,rfl,_⟩:=h;rfl
 .obtain⟨L,x0,x4,px,ha,sa,n,ts,homes,st,rfl,N,hH,hS,LO,tb,q⟩:=h;have h1:bD 1 _:=hr.mono (by decide);have LF:GT (qb aY P w K mg base ["self","net","homes","stand","beat"] "Nearest.order" (ap uK) f (.ref c) A outer s H E).Fs ["letter","net","stand","homes"] [none,some 1,some 3,some 2] (laS RF) ZL (laA RF) (laB RF) "letter":=
   ⟨bz (by kernel_rfl),fun _ _ _ _ _=>rfl,rfl,rfl,rfl,by decide +kernel,rfl,rfl⟩
  have PB:∀f' c' bT s' H',PE (yj (qb aY P w K mg base ["self","net","homes","stand","beat"] "Nearest.order" (ap uK) f (.ref c) A outer s H E).Fs ["letter","net","stand","homes"] (laS RF) bT ZL f' c' s' H') (laB RF) (xn C "far" (pK C) [] E0 (aT 1) (bB (ja (FO K) (aT 2) (aT 0)) (bB (ja (FO K) (aT 3) (aT 0)) gf))):=fun f' c' bT s' H'=>
   dY (pv 1) T.cl mF GF (bD.lam hr _) bF .nil aA (aa (a7 df (pv 2) (pv 0) (fun _ _=>rfl)) (aa (a7 df (pv 3) (pv 0) (fun _ _=>rfl)) ag))
  refine⟨_,(aj (aL (pj (A6 hr LF PB) rfl B.sorted uS (aa (aw UW h1 aA (aa (pv 3) ag)) ag) (vK (vV (NB:=["letter","net","stand","homes"]) (src:=[none,some 1,some 3,some 2]) (qv kb hb hc) (bz (by kernel_rfl))) Ap)))),?_⟩;refine⟨_,rfl,sa,st,rfl,hS,LO.le,fun l H1 s1 N6 hl=>?_⟩;have t1:=tb.same s1;refine⟨t1,fun f' c' H2 t2 h_ z9 xE=>?_⟩;have UN:∀ {b o},H1 b=some o->(∀ps,o≠.j3 ps)->H2 b=some o:=fun e n=>h_ _ _ e (t1.not e n);have Ra:=UN hl (by intro ps z;cases z);have RG:=UN (s1 _ _ hH) (by intro ps z;cases z);have EZ:=UN (s1 _ _ hS) (by intro ps z;cases z);obtain⟨dx0,fs0,i0⟩:∃dx fs,H1 px=some (.ins C dx fs):=by obtain⟨dx,tl,ol,ds,a,_⟩:=(N.same s1).ob;exact⟨dx,_,a⟩
  have N2:=(N.same s1).W8.keep (H':=H2) (fun b o l e=>by obtain⟨_,o',e',n⟩:=l;rw[e] at e';cases e';exact UN e n) (fun o e=>UN e (by rw[i0] at e;cases e;intro ps z;cases z));refine⟨l,f',c',dM st st.length,(uJ ts homes st),rfl,rfl,a8.of Ra,fK nZ (by have:=LO.le;lia),Lj,fun n hn=>by have:=(lx hn).1;have:=LO.le;lia,xE,z9,fun m hm H3 s3=>?_,fun r H3 out s3 qI op pw=>?_⟩
  .obtain⟨hl',y,ey,hy,RD⟩:=LO.at hm;have N3:=N2.same s3;obtain⟨dx,tl,ol,ds,i1,_⟩:=N3.ob;refine⟨_,rfl,px,dx,_,rfl,i1,OK _ _ _ _,_,rfl,_,rfl,sa,_,_,_,rfl,rfl,bJ.of (s3 _ _ EZ),aH (iy hl'),_,rfl,_,rfl,ha,_,_,_,rfl,rfl,bJ.of (s3 _ _ RG),aH (fE (by rw[LO.len];exact hl')),?_⟩;rw[ey];refine⟨_,px,n,ts,y,homes.getD m 0,rfl,N3,hy,RD,?_,aG.refl _⟩;unfold uJ;rw[ey];rfl
  .have sm:=ai (o:=.lst (NV out)) qI;exact q r _ out ((cr.same t2 s3).same sm) (fun b o e n=>sm _ _ (s3 _ _ (h_ _ _ (s1 _ _ e) n))) (Ih s1 t2 h_ s3 qI) op pw af
end
abbrev ZM:Stmt:=top 28
section
variable {P:Program} {w:World} {K:PySem.W.Frag} {mg:Str->Option Value} {base:Heap}
theorem PJ:aB ["net","homes","stand","letters","goes","letter"] ["net","homes","stand","letters","goes"] (ap ZM):=⟨rfl,rfl,rfl,by decide +kernel,rfl,by decide +kernel,by decide +kernel⟩
def PL(C:Addr):Sp:=fun vs H Q _=>∃ (L:Addr->Prop) (px ha sa la ga:Addr) (n:Nat) (ts:Ts) (homes os:List Nat) (st gs:List (Option Nat)),vs=[.ref px,.ref ha,.ref sa,.ref la,.ref ga]/\cH C H L px n ts/\¬ L ga/\H ha=some (.tup (NV homes))/\H sa=some (.tup (st.map oV))/\sI n homes st/\(∀l∈os,l∈dM st st.length)/\H la=some (.lst (NV os))/\la≠ga/\H ga=some (.lst (gs.map oV))/\gs.length=st.length/\
 ∀H',aK ga H H'->H' ga=some (.lst ((os.foldl (Ig n ts st) (os.foldl (yX n ts homes st) gs)).map oV))->Q .cf H'
theorem wN{n:Nat}{ts:Ts}{homes:List Nat}{st:List (Option Nat)}:∀ {ls:List Nat} {gs:List (Option Nat)},(ls.foldl (yX n ts homes st) gs).length=gs.length
 |[],gs=>rfl
 |l::ls,gs=>by rw[g_,wN];unfold yX;rw[g9]
theorem Dc{n:Nat}{ts:Ts}{st:List (Option Nat)}:∀ {ls:List Nat} {gs:List (Option Nat)},(ls.foldl (Ig n ts st) gs).length=gs.length
 |[],gs=>rfl
 |l::ls,gs=>by rw[g_,Dc];unfold Ig;split <;> simp
theorem UO{f C:Addr}{fd:FuncData}(F:fH K "hand_eagerly" "hand_eagerly" ZM f fd)(T:NT K mg C)(MG:iB P w K mg base aY 6 C "good" ["self","house","home"] (qJ C))(MO:iB P w K mg base aY 5 C "out" ["self","house"] (wu C))(FF:ce P w K mg base aY 1 "first_free" ["others","stand","goes","letter"] Li):
  bf P w K mg base aY 7 f fd ["net","homes","stand","letters","goes"] (PL C):=by
 obtain⟨fG,fdG,mG,bG,GG⟩:=MG.ex;obtain⟨fO,fdO,mO,bO,GO⟩:=MO.ex;refine F.ok PJ (fun vs H Q E h=>?_) (fun dR A outer s H vs Q E hr h=>?_)
 .obtain⟨L,px,ha,sa,la,ga,n,ts,homes,os,st,gs,rfl,_⟩:=h;rfl
 .obtain⟨L,px,ha,sa,la,ga,n,ts,homes,os,st,gs,rfl,N,W5,hH,hS,LO,ho,hL,UL,hG,gl,q⟩:=h;have h1:bD 1 _:=hr.mono (by decide);have h5:bD 5 _:=hr.mono (by decide);refine⟨_,(ah (cD dt rfl (b_ (pv 3)) (av (i:=5) PJ.nd rfl (Or.inl rfl))
    (aj (fT (aw FF h1 aA (aa (dY (pv 0) T.cl mG GG hr bG .nil aA (aa (a7 df (pv 2) (pv 5) (fun _ _=>rfl)) (aa (a7 df (pv 1) (pv 5) (fun _ _=>rfl)) ag))) (aa (pv 2) (aa (pv 4) (aa (pv 5) ag))))) (jy (pv 4) (pv 5) fW))))
   (aj (cD dt rfl (b_ (pv 3)) (av (i:=5) PJ.nd rfl (Or.inl rfl))
    (aj (cw (aP Af (a7 aV (pv 4) (pv 5) (fun _ _=>rfl)) dU (aW _)) (aj (fT (aw FF h1 aA (aa (dY (pv 0) T.cl mO GO h5 bO .nil aA (aa (a7 df (pv 2) (pv 5) (fun _ _=>rfl)) ag)) (aa (pv 2) (aa (pv 4) (aa (pv 5) ag))))) (jy (pv 4) (pv 5) fW))) be))))),?_⟩
  have n2:=N.gw.n2;have W6:px≠ga:=by obtain⟨dx,fs,a,_⟩:=N.EC;rintro rfl;rw[a] at hG;cases hG
  have ZI:ha≠ga:=by rintro rfl;rw[hH] at hG;cases hG
  have W7:sa≠ga:=by rintro rfl;rw[hS] at hG;cases hG
  refine⟨_,rfl,la,rfl,⟨_,a8.of hL⟩,gQ (K:=K) (xs:=NV os) (fun j σ Hc=>(∃x,σ=[some (.ref px),some (.ref ha),some (.ref sa),some (.ref la),some (.ref ga),x])/\aK ga H Hc/\Hc ga=some (.lst (((os.take j).foldl (yX n ts homes st) gs).map oV))) ⟨⟨_,rfl⟩,aK.refl,hG⟩ (fun j σ Hc _ z=>a8.of (z.2.1 _ _ hL UL)) ?_ ?_⟩
  .rintro j x σ Hc hx ⟨⟨x5,rfl⟩,sc,uI⟩;obtain⟨l,hv,rfl⟩:=nY hx;obtain⟨hl,y,ey,hy,RD⟩:=LO.at (ho l (dk hv));have tk:os.take (j+1)=os.take j++[l]:=by rw[gO,hv];rfl
   rw[tk,zJ,g_,z6];have Pu:((os.take j).foldl (yX n ts homes st) gs).length=st.length:=by rw[wN,gl]
   generalize (os.take j).foldl (yX n ts homes st) gs=g at *;have Nc:=N.keep (fun b o l e=>sc b o e (by rintro rfl;exact W5 l)) (fun o e=>sc _ _ e W6);have Na:=sc _ _ hH ZI;have ED:=sc _ _ hS W7;obtain⟨dx,fs,i1,i2,i3⟩:=Nc.EC;refine⟨_,rfl,px,dx,fs,rfl,i1,i2,_,rfl,_,rfl,sa,_,_,_,rfl,rfl,bJ.of ED,aH (iy hl),?_⟩;rw[ey];have lg:(dF n ts y (homes.getD l 0)).length<=n:=aX (g8 _ _) qK;refine⟨_,rfl,_,rfl,ha,_,_,_,rfl,rfl,bJ.of Na,aH (fE (by rw[LO.len];exact hl)),L,px,n,ts,y,homes.getD l 0,rfl,Nc,hy,RD,fun r1 H1 s1 tK g1=>?_⟩;refine⟨_,rfl,_,rfl,_,rfl,r1,sa,ga,dF n ts y (homes.getD l 0),st,g,l,rfl,g1,s1 _ _ ED,s1 _ _ uI,Pu,LO.le,hl,fun H4 s4=>?_⟩;have Nb:=s1.trans s4;refine⟨_,rfl,_,rfl,ga,_,(l:Int),l,rfl,rfl,Nb _ _ uI,gG (by rw[aO,Pu];exact hl),⟨_,rfl⟩,fun b o e m=>by rw[ao m];exact Nb _ _ (sc _ _ e m),?_⟩;rw[af];unfold yX;rw[ey,List.map_set];rfl
  .rintro σ Hc ⟨⟨x5,rfl⟩,sc,uI⟩;rw[aS,jQ] at uI;have Pu:(os.foldl (yX n ts homes st) gs).length=st.length:=by rw[wN,gl]
   generalize os.foldl (yX n ts homes st) gs=g0 at *;refine⟨_,rfl,la,rfl,⟨_,a8.of (sc _ _ hL UL)⟩,gQ (K:=K) (xs:=NV os) (fun j σ Hc=>(∃x,σ=[some (.ref px),some (.ref ha),some (.ref sa),some (.ref la),some (.ref ga),x])/\aK ga H Hc/\Hc ga=some (.lst (((os.take j).foldl (Ig n ts st) g0).map oV))) ⟨⟨_,rfl⟩,sc,uI⟩ (fun j σ Hc _ z=>a8.of (z.2.1 _ _ hL UL)) ?_ ?_⟩
   .clear sc uI;rintro j x σ Hc hx ⟨⟨x5,rfl⟩,sc,uI⟩;obtain⟨l,hv,rfl⟩:=nY hx;obtain⟨hl,y,ey,hy,RD⟩:=LO.at (ho l (dk hv));have tk:os.take (j+1)=os.take j++[l]:=by rw[gO,hv];rfl
    rw[tk,zJ,g_,z6];have ZN:((os.take j).foldl (Ig n ts st) g0).length=st.length:=by rw[Dc,Pu]
    generalize (os.take j).foldl (Ig n ts st) g0=g at *;have Nc:=N.keep (fun b o l e=>sc b o e (by rintro rfl;exact W5 l)) (fun o e=>sc _ _ e W6);have ED:=sc _ _ hS W7;obtain⟨dx,fs,i1,i2,i3⟩:=Nc.EC;refine⟨_,rfl,_,rfl,ga,_,_,_,rfl,rfl,a8.of uI,aH (iy (by rw[ZN];exact hl)),rfl,_,rfl,?_⟩;unfold Ig;cases eg:g.getD l none with
    |some z=>refine p9 rfl ⟨⟨_,rfl⟩,sc,?_⟩;rw[aq (fun z=>by cases z)];exact uI
    |none=>
    rw[ak rfl];refine M8 rfl ⟨_,rfl,px,dx,fs,rfl,i1,i3,_,rfl,_,rfl,sa,_,_,_,rfl,rfl,bJ.of ED,aH (iy hl),?_⟩;rw[ey];refine⟨L,px,n,ts,y,rfl,Nc,hy,fun r1 H1 s1 tK g1=>?_⟩;have lo:=qK (n:=n) (ts:=ts) (h:=y);refine⟨_,rfl,_,rfl,_,rfl,r1,sa,ga,bg n ts y,st,g,l,rfl,g1,s1 _ _ ED,s1 _ _ uI,ZN,LO.le,hl,fun H4 s4=>?_⟩;have Nb:=s1.trans s4;refine⟨_,rfl,_,rfl,ga,_,(l:Int),l,rfl,rfl,Nb _ _ uI,gG (by rw[aO,ZN];exact hl),⟨_,rfl⟩,fun b o e m=>by rw[ao m];exact Nb _ _ (sc _ _ e m),?_⟩;rw[af,List.map_set];rfl
   .rintro σ Hc ⟨⟨x5,rfl⟩,sc,uI⟩;rw[aS,jQ] at uI;exact q Hc sc uI
end
abbrev ZO:Stmt:=top 16
abbrev ZP:Stmt:=top 17
abbrev ZQ:Stmt:=top 18
theorem iC:(["beat","stands","log","letter"]:List Str).Nodup:=by decide +kernel
theorem Dd{o:Option Nat}{h:Nat}:decide (oV o=.int (h:Int))=decide (o=some h):=M9 (b:=some h)
theorem wO{o:Option Nat}{h:Nat}:Jp (oV o) (.int (h:Int))=true:=C8 (b:=some h)
theorem PM{as:List Addr}{i:Nat}(h:i<as.length):Ar (as.map V.ref) (i:Int)=some (.ref (as.getD i 0)):=by
 refine aH ?_;rw[bu,b8 h,bZ,b8 h];rfl
def iz(H:Hp)(a:Addr)(as:List Addr)(N:Nat)(o:Nat->List (Option Nat)):Prop:=H a=some (.lst (as.map V.ref))/\Holds H as N (fun k=>.tup ((o k).map oV))
theorem iz.same{H H':Hp}{a:Addr}{as:List Addr}{N:Nat}{o:Nat->List (Option Nat)}(h:iz H a as N o)(s:aG H H'):iz H' a as N o:=⟨s _ _ h.1,h.2.mono fun j _ e=>s _ _ e⟩
theorem iz.at{H:Hp}{a:Addr}{as:List Addr}{N:Nat}{o:Nat->List (Option Nat)}(h:iz H a as N o){k:Nat}(hk:k<N):Ar (as.map V.ref) (k:Int)=some (.ref (as.getD k 0)):=PM (by rw[h.2.1];exact hk)
structure PP(H:Hp)(SA LA:Addr)(w9 w_:List Addr)(n N:Nat)(ss ls:Nat->List (Option Nat)):Prop where
 rs:iz H SA w9 (N+1) ss
 rl:iz H LA w_ N ls
 sl:∀k,(ss k).length=n
 ll:∀k,(ls k).length=n
 Lk:N<=500
theorem PP.same{H H':Hp}{SA LA:Addr}{w9 w_:List Addr}{n N:Nat}{ss ls:Nat->List (Option Nat)}(h:PP H SA LA w9 w_ n N ss ls)(s:aG H H'):PP H' SA LA w9 w_ n N ss ls:=⟨h.rs.same s,h.rl.same s,h.sl,h.ll,h.Lk⟩
def Nf(ss ls:Nat->List (Option Nat))(N l home:Nat):Option Nat:=((List.range N).find? fun k=>((ss k).getD l none).isSome&&decide ((ls k).getD l none=some home)).map (·+1)
section
variable {P:Program} {w:World} {K:PySem.W.Frag} {mg:Str->Option Value} {base:Heap}
theorem ZR:aB ["stands","log","letter","beat"] ["stands","log","letter","beat"] (ap ZO):=⟨rfl,rfl,rfl,by decide +kernel,rfl,by decide +kernel,by decide +kernel⟩
def Ll(K:PySem.W.Frag):Sp:=fun vs H Q _=>∃ (SA LA:Addr) (w9 w_:List Addr) (n N:Nat) (ss ls:Nat->List (Option Nat)) (l k:Nat),vs=[.ref SA,.ref LA,.int l,.int k]/\PP H SA LA w9 w_ n N ss ls/\l<n/\k<N/\Q (.bl ((ss k).getD l none).isSome) H
theorem UP{f:Addr}{fd:FuncData}(F:fH K "is_handed_on" "is_handed_on" ZO f fd)(B:Bl mg)(W:ce P w K mg base aY 2 "is_whole_within" ["thing","least","most"] (kX K)):bf P w K mg base aY 3 f fd ["stands","log","letter","beat"] (Ll K):=by
 refine F.ok ZR (fun vs H Q E h=>?_) (fun dR A outer s H vs Q E hr h=>?_)
 .obtain⟨SA,LA,w9,w_,n,N,ss,ls,l,k,rfl,_⟩:=h;rfl
 .obtain⟨SA,LA,w9,w_,n,N,ss,ls,l,k,rfl,Ng,hl,hk,q⟩:=h;have rs:=Ng.rs;have rl:=Ng.rl;have hSk:=rs.2.2 k (by lia);have a1:=rs.at (k:=k) (by lia);refine⟨_,(ah (cw (jw (fR (aw W hr aA (aa (pv 3) (aa au (aa (aU jA (aN aQ (by rfl) B.len d_ (aa (pv 1) ag)) au) ag)))))) (aj (aL jV)) be)
   (aj (aL (jx (aw W hr aA (aa (pv 2) (aa au (aa (aU jA (aN aQ (by rfl) B.len d_ (aa (a7 aV (pv 0) (pv 3) (fun _ _=>rfl)) ag)) au) ag)))) (mf (hZ ng (a7 df (a7 aV (pv 0) (pv 3) (fun _ _=>rfl)) (pv 2) (fun _ _=>rfl)) dU (aW _))))))),?_⟩
  refine⟨_,rfl,_,rfl,LA,_,rfl,.inl (a8.of rl.1),_,_,rfl,rfl,_,some (k:Int),_,_,rfl,.int _,_,rfl,p9 (by rw[aO,rl.2.1,pJ hk];rfl) ?_⟩;refine⟨_,rfl,_,rfl,_,rfl,SA,_,_,_,rfl,rfl,a8.of rs.1,a1,_,_,rfl,.inr (bJ.of hSk),_,_,rfl,rfl,_,some (l:Int),_,_,rfl,.int _,true,by rw[aO,Ng.sl,pJ hl],?_⟩;refine MY ⟨_,rfl,_,rfl,SA,_,_,_,rfl,rfl,a8.of rs.1,a1,_,rfl,_,_,_,_,rfl,rfl,bJ.of hSk,aH (iy (by rw[Ng.sl];exact hl)),rfl,?_⟩;show Q (V.bl (!decide (oV ((ss k).getD l none)=V.cf))) H;rw[oh];exact q
theorem ZS:aB ["stands","log","letter"] ["stands","log","letter"] (ap ZP):=⟨rfl,rfl,rfl,by decide +kernel,rfl,by decide +kernel,by decide +kernel⟩
def PQ:Sp:=fun vs H Q _=>∃ (SA LA:Addr) (w9 w_:List Addr) (n N:Nat) (ss ls:Nat->List (Option Nat)) (l:Nat),vs=[.ref SA,.ref LA,.int l]/\PP H SA LA w9 w_ n N ss ls/\l<n/\∀r H',aG H H'->H' r=some (.lst (NV ((List.range N).filter fun k=>((ss k).getD l none).isSome)))->Q (.ref r) H'
theorem UQ{f:Addr}{fd:FuncData}(F:fH K "beats_under_way" "beats_under_way" ZP f fd)(B:Bl mg)(HO:ce P w K mg base aY 3 "is_handed_on" ["stands","log","letter","beat"] (Ll K)):bf P w K mg base aY 4 f fd ["stands","log","letter"] PQ:=by
 refine F.ok ZS (fun vs H Q E h=>?_) (fun dR A outer s H vs Q E hr h=>?_)
 .obtain⟨SA,LA,w9,w_,n,N,ss,ls,l,rfl,_⟩:=h;rfl
 .obtain⟨SA,LA,w9,w_,n,N,ss,ls,l,rfl,Ng,hl,q⟩:=h;have rl:=Ng.rl;have Lk:=Ng.Lk;refine'⟨_,(aj (aL ?c1)),?_⟩;case c1=>
   refine' bY (g:=(bi 0)) (tt:=(tB (pQ (Ll K) [] E0 (bB (aT 1) (bB (aT 2) (bB (aT 3) (bB (aT 0) gf))))))) (te:=(aT 0)) (NB:=["beat","stands","log","letter"]) (src:=[none,some 0,some 1,some 2]) (bz (by kernel_rfl)) rfl (br rfl B.range (aa (aN aQ (by rfl) B.len d_ (aa (pv 1) ag)) ag)) ?g ?t ?e;case g=>exact fun cl C s₃ H₃ fp=>(av (i:=0) iC rfl (Or.inl rfl) (Or.inr rfl))
   case t=>exact fun cl C s₃ H₃ fp=>d5 (fR (aw HO hr aA (aa (pv 1) (aa (pv 2) (aa (pv 3) (aa (pv 0) ag))))))
   case e=>exact fun cl C s₃ H₃ fp=>(pv 0)
  refine⟨_,rfl,LA,_,rfl,.inl (a8.of rl.1),_,rfl,by lia,by rw[aO,rl.2.1];lia,fun D hD=>?_⟩;rw[aO,rl.2.1,lJ];refine wC (lo:=0) (n:=N) (fun k=>((ss k).getD l none).isSome) (fun σ=>∃b,σ=[b,some (.ref SA),some (.ref LA),some (.int (l:Int))]) hD (by lia) ⟨_,rfl⟩ ?_ ?_
  .rintro j σ H5 Kt Kf hj ⟨b',rfl⟩ s5 kt kf;rw[fP] at kt |-;refine⟨_,rfl,_,rfl,_,rfl,_,rfl,SA,LA,w9,w_,n,N,ss,ls,l,j,rfl,Ng.same s5,hl,hj,_,rfl,?_⟩;refine dZ (fun c=>⟨_,rfl,kt _ _ ⟨_,rfl⟩ (aG.refl _) c⟩) (fun c=>kf _ _ ⟨_,rfl⟩ (aG.refl _) (by simpa using c))
  .intro H5 s5 yY;rw[show (((List.range N).filter fun k=>((ss k).getD l none).isSome).map fun (x:Nat)=>V.int (0+(x:Int)))=NV ((List.range N).filter fun k=>((ss k).getD l none).isSome) from jO fun x _=>by rw[fP]] at yY;exact q D H5 s5 yY
theorem UR:aB ["homes","stands","log","letter","beat"] ["homes","stands","log","letter"] (ap ZQ):=⟨rfl,rfl,rfl,by decide +kernel,rfl,by decide +kernel,by decide +kernel⟩
def PR:Sp:=fun vs H Q _=>∃ (a SA LA:Addr) (w9 w_:List Addr) (homes:List Nat) (n N:Nat) (ss ls:Nat->List (Option Nat)) (l:Nat),vs=[.ref a,.ref SA,.ref LA,.int l]/\H a=some (.tup (NV homes))/\homes.length=n/\PP H SA LA w9 w_ n N ss ls/\l<n/\∀H',aG H H'->Q (oV (Nf ss ls N l (homes.getD l 0))) H'
theorem US{f:Addr}{fd:FuncData}(F:fH K "home_at" "home_at" ZQ f fd)(BU:ce P w K mg base aY 4 "beats_under_way" ["stands","log","letter"] PQ):bf P w K mg base aY 5 f fd ["homes","stands","log","letter"] PR:=by
 refine F.ok UR (fun vs H Q E h=>?_) (fun dR A outer s H vs Q E hr h=>?_)
 .obtain⟨a,SA,LA,w9,w_,homes,n,N,ss,ls,l,rfl,_⟩:=h;rfl
 .obtain⟨a,SA,LA,w9,w_,homes,n,N,ss,ls,l,rfl,ha,hn,LG,hl,q⟩:=h;refine⟨_,(ah (cD dt rfl (b_ (aw BU hr aA (aa (pv 1) (aa (pv 2) (aa (pv 3) ag))))) (av (i:=4) UR.nd rfl (Or.inl rfl))
    (aj (cw (aP gR (a7 df (a7 aV (pv 2) (pv 4) (fun _ _=>rfl)) (pv 3) (fun _ _=>rfl)) (a7 df (pv 0) (pv 3) (fun _ _=>rfl)) (aW _)) (aj (aL (aU di (pv 4) au))) be)))
   (aj (aL dU))),?_⟩
  refine⟨_,rfl,_,rfl,_,rfl,SA,LA,w9,w_,n,N,ss,ls,l,rfl,LG,hl,fun r H1 s1 tK=>⟨r,rfl,⟨_,a8.of tK⟩,?_⟩⟩;have q1:=q H1 s1;have L1:=LG.same s1;have eW:Nf ss ls N l (homes.getD l 0)=((((List.range N).filter fun k=>((ss k).getD l none).isSome).find? fun k=>decide ((ls k).getD l none=some (homes.getD l 0))).map (·+1)):=by
   unfold Nf;rw[List.find?_filter];refine congrArg _ (congrArg (fun p=>List.find? p (List.range N)) (funext fun k=>?_));rw[jS];simp
  rw[eW] at q1;have hm:∀k∈(List.range N).filter fun k=>((ss k).getD l none).isSome,k<N:=fun k hk=>bv.mp (cC.mp hk).1;generalize (List.range N).filter (fun k=>((ss k).getD l none).isSome)=us at *;refine gQ (K:=K) (xs:=NV us) (fun j σ H2=>(∃x,σ=[some (.ref a),some (.ref SA),some (.ref LA),some (.int (l:Int)),x])/\H1=H2/\us.find? (fun k=>decide ((ls k).getD l none=some (homes.getD l 0)))=(us.drop j).find? fun k=>decide ((ls k).getD l none=some (homes.getD l 0))) ⟨⟨_,rfl⟩,rfl,rfl⟩ (fun j σ H2 _ z=>by rw[<-z.2.1];exact a8.of tK) ?_ ?_
  .rintro j x σ _ hx ⟨⟨x4,rfl⟩,rfl,ef⟩;obtain⟨k,hv,rfl⟩:=nY hx;have hj:j<us.length:=(cu.mp hv).1;have hk:=hm k (dk hv);have ed:us.drop j=k::us.drop (j+1):=by
    rw[oy hj];congr 1;exact(cu.mp hv).2
   rw[ed,iK] at ef;refine⟨_,rfl,_,rfl,LA,_,_,_,rfl,rfl,a8.of L1.rl.1,L1.rl.at hk,_,rfl,_,_,_,_,rfl,rfl,bJ.of (L1.rl.2.2 k hk),aH (iy (by rw[L1.ll];exact hl)),?_⟩;refine⟨_,rfl,_,rfl,a,_,_,_,rfl,rfl,bJ.of (s1 _ _ ha),aH (fE (by lia)),wO,_,rfl,?_⟩;rw[Dd];refine dZ (fun c=>?_) (fun c=>?_)
   .rw[c] at ef;have ef:us.find? (fun k=>decide ((ls k).getD l none=some (homes.getD l 0)))=some k:=ef;rw[ef] at q1;exact⟨_,rfl,_,_,rfl,rfl,q1⟩
   .rw[Bool.not_eq_true _ |>.mp c] at ef;exact⟨⟨_,rfl⟩,rfl,ef⟩
  .rintro σ _ ⟨⟨x4,rfl⟩,rfl,ef⟩;rw[aS,List.drop_length] at ef;have ef:us.find? (fun k=>decide ((ls k).getD l none=some (homes.getD l 0)))=none:=ef;rw[ef] at q1;exact q1
end
theorem sK{ts:Ts}:∀ {k a b:Nat},dC ts (k+1) a b->∃c,T ts a c/\dC ts k c b
 |0,a,b,⟨c,w,t⟩=>by
  have w:a=c:=w;subst w;exact⟨b,t,rfl⟩
 |k+1,a,b,⟨c,w,t⟩=>by
  obtain⟨d,t1,w1⟩:=sK w;exact⟨d,t1,c,w1,t⟩
theorem Lm{n:Nat}{ts:Ts}{y h:Nat}(F:bR n ts)(hy:y<n)(hh:h<n)(ne:y≠h):dF n ts y h≠[]:=by
 have p:=wA F hy hh ne;have w:=(F.AV hy hh).1;rw[show far ts y h=(far ts y h-1)+1 by lia] at w;obtain⟨c,t,w1⟩:=sK w;obtain⟨_,hc,_⟩:=F.TJ t;have:=F.Ow hc hh w1;exact List.ne_nil_of_mem (cC.mpr ⟨(fj F hy).mpr t,cZ (show far ts c h<far ts y h by lia)⟩)
section
variable {n:Nat} {ts:Ts} {homes:List Nat} {st fs g:List (Option Nat)} {l m:Nat} {os jm ls:List Nat}
def Nr(n:Nat)(ts:Ts)(homes:List Nat)(st fs:List (Option Nat))(l:Nat):Prop:=∃y x,st.getD l none=some y/\fs.getD l none=some x/\x∈dF n ts y (homes.getD l 0)
def yH(n:Nat)(ts:Ts)(homes:List Nat)(st fs:List (Option Nat))(jm:List Nat):Prop:=∀l,jm.head?=some l->Nr n ts homes st fs l
theorem Ij:lz st (List.replicate m none) l os=os.head?:=by
 unfold lz;have:(fun h=>!((List.range st.length).any fun a=>decide (st.getD a none=st.getD l none)&&decide ((List.replicate m (none:Option Nat)).getD a none=some h)))=fun (_:Nat)=>true:=funext fun h=>by
  rw[show ((List.range st.length).any fun a=>decide (st.getD a none=st.getD l none)&&decide ((List.replicate m (none:Option Nat)).getD a none=some h))=false from q0.mpr fun a _ z=>by rw[mL] at z;simp at z];rfl
 rw[this];cases os <;> rfl
theorem dP.at(S:dP n ts homes st){y:Nat}(e:st.getD l none=some y):l<st.length/\y<n/\homes.getD l 0<n/\y≠homes.getD l 0:=by
 have hl:=k9 e;obtain⟨a,b⟩:=S.ss l y (by rw[iJ (d:=none) hl,e]);have hh:l<homes.length:=by rw[S.len];exact hl
 refine⟨hl,a,S.hs _ ?_,fun z=>b (by rw[iJ (d:=0) hh,z])⟩;rw[bZ,b8 hh];exact fh _
theorem uL(F:bR n ts)(S:dP n ts homes st){y:Nat}(e:st.getD l none=some y):∃x,(dF n ts y (homes.getD l 0)).head?=some x/\x∈dF n ts y (homes.getD l 0):=by
 obtain⟨_,hy,hh,ne⟩:=S.at e;have:=Lm F hy hh ne;cases h:dF n ts y (homes.getD l 0) with
 |nil=>exact absurd h this
 |cons x r=>exact⟨x,rfl,bL⟩
theorem EE(F:bR n ts)(S:dP n ts homes st)(pm:jm.Perm (dM st st.length)):yH n ts homes st (Py n ts homes st jm) jm:=by
 intro l hl;cases jm with
 |nil=>cases hl
 |cons l' ls=>
  obtain rfl:l'=l:=bh hl;have al:=qM S pm;have nd:=wM pm;obtain⟨y,ll,ey,hy⟩:=al l' bL;obtain⟨x,hx,mx⟩:=uL F S ey;have i1:=E1.fold (st:=st) (g:=List.replicate st.length none) (p:=[]) (ls:=l'::ls) (gd:=fun l=>dF n ts ((st.getD l none).getD 0) (homes.getD l 0)) ⟨gJ,(fun j k y _ hy=>by rw[mL] at hy;cases hy),fun l _=>mL,fun l hl=>(nomatch hl)⟩ (fun l hl=>let ⟨_,a,_⟩:=al l hl;a) nd;have i2:=E2.fold S (g1:=(l'::ls).foldl (yX n ts homes st) (List.replicate st.length none)) (p:=[]) ⟨i1.len,i1.inj,fun _ _ e=>e,fun _ _=>rfl,fun l hl=>(nomatch hl)⟩ al nd;refine⟨y,x,ey,i2.keep l' x ?_,mx⟩;rw[g_];have e0:yX n ts homes st (List.replicate st.length none) l'=(List.replicate st.length none).set l' (some x):=by
   unfold yX;rw[Ij,ey];exact congrArg _ hx
  rw[e0];refine(fold_at (f:=fun g l=>lz st g l (dF n ts ((st.getD l none).getD 0) (homes.getD l 0))) (fun l hl=>?_) (eX.mp nd).1).trans ?_
  .obtain⟨_,a,_⟩:=al l (cm _ hl);rw[g9,gJ];exact a
  .rw[mN (by rw[gJ];exact ll),ak rfl]
structure TI(n:Nat)(ts:Ts)(st g:List (Option Nat))(p:List Nat):Prop where
 len:g.length=st.length
 inj:RE st g
 cf:∀l,l∉p->g.getD l none=none
 out:∀l,l∈p->∃x,g.getD l none=some x/\x∈bg n ts ((st.getD l none).getD 0)
theorem TI.step{p:List Nat}{y:Nat}(S:dP n ts homes st)(I:TI n ts st g p)(ey:st.getD l none=some y)(np:l∉p):TI n ts st (BA n ts homes st g l) (p++[l]):=by
 obtain⟨hl,hy,_,_⟩:=S.at ey;have nl:=I.cf l np;obtain⟨x,ex,mx⟩:∃x,lz st g l (dF n ts y (homes.getD l 0)++bg n ts y)=some x/\x∈bg n ts y:=by
  obtain⟨x0,e0⟩:=Db S hl ey hy nl;cases e:lz st g l (dF n ts y (homes.getD l 0)++bg n ts y) with
  |none=>
   obtain⟨a,b,c,d⟩:=wL e (dD _ (jJ e0).1);exact absurd d ((jJ e0).2 a b c)
  |some x=>
   refine⟨x,rfl,?_⟩;rcases cK.mp (jJ e).1 with z|z
   .exact(cC.mp z).1
   .exact z
 have e1:BA n ts homes st g l=g.set l (lz st g l (dF n ts y (homes.getD l 0)++bg n ts y)):=by unfold BA;rw[ey];rfl
 have gs:∀ {j:Nat},(BA n ts homes st g l).getD j none=if j=l then some x else g.getD j none:=fun {j}=>by rw[e1,mN (by rw[I.len];exact hl),ex]
 refine⟨by rw[e1,g9,I.len],by rw[e1];exact I.inj.put I.len hl,fun j hj=>?_,fun j hj=>?_⟩
 .rw[gs,aq (by rintro rfl;exact hj (dD _ bL))];exact I.cf j fun z=>hj (fw _ z)
 .by_cases d:j=l
  .subst d;rw[gs,ak rfl,ey];exact⟨x,rfl,mx⟩
  .rw[gs,aq d];rcases cK.mp hj with z|z
   .exact I.out j z
   .exact absurd (cA.mp z) d
theorem TI.fold(S:dP n ts homes st):∀ {ls p:List Nat} {g:List (Option Nat)},TI n ts st g p->(∀l∈ls,∃y,l<st.length/\st.getD l none=some y/\y<n)->(p++ls).Nodup->TI n ts st (ls.foldl (BA n ts homes st) g) (p++ls)
 |[],p,g,I,_,_=>by rw[i9];exact I
 |l::ls,p,g,I,h,nd=>by
  rw[g_,show p++l::ls=(p++[l])++ls by simp];rw[show p++l::ls=(p++[l])++ls by simp] at nd;obtain⟨y,a,b,c⟩:=h l bL;refine TI.fold S (I.step S b fun z=>?_) (fun j hj=>h j (cm _ hj)) nd;exact(jP.mp (jP.mp nd).1).2.2 l z l bL rfl
theorem Ln(S:dP n ts homes st):Hd n ts st (C7 n ts homes st):=by
 have al:=qM S (ij _);have nd:=wM (st:=st) (ij _);have i:=TI.fold S (p:=[]) (g:=List.replicate st.length none) (ls:=dM st st.length) ⟨gJ,(fun j k y _ hy=>by rw[mL] at hy;cases hy),fun l _=>mL,fun l hl=>(nomatch hl)⟩ al nd;rw[zV] at i;refine⟨i.len,fun j hj=>i.cf j fun z=>?_,fun j h hj=>?_,i.inj⟩
 .obtain⟨y,_,e,_⟩:=al j z;rw[hj] at e;cases e
 .obtain⟨x,a,b⟩:=i.out j (k_ hj);rw[hj] at b;exact⟨x,a,b⟩
theorem BC(F:bR n ts)(S:dP n ts homes st):yH n ts homes st (C7 n ts homes st) (dM st st.length):=by
 intro l hl;have al:=qM S (ij _);have nd:=wM (st:=st) (ij _);unfold C7;cases e:dM st st.length with
 |nil=>rw[e] at hl;cases hl
 |cons l' ls=>
  rw[e] at hl al nd;obtain rfl:l'=l:=bh hl;obtain⟨y,ll,ey,hy⟩:=al l' bL;obtain⟨x,hx,mx⟩:=uL F S ey;refine⟨y,x,ey,?_,mx⟩;rw[g_];have e0:BA n ts homes st (List.replicate st.length none) l'=(List.replicate st.length none).set l' (some x):=by
   unfold BA;rw[Ij,ey];show _=(List.replicate st.length none).set l' (some x);rw[show (dF n ts ((some y:Option Nat).getD 0) (homes.getD l' 0)++bg n ts ((some y:Option Nat).getD 0)).head?=some x by show (dF n ts y (homes.getD l' 0)++bg n ts y).head?=some x;rw[List.head?_append,hx];rfl]
  rw[e0];refine(fold_at (f:=fun g l=>lz st g l (dF n ts ((st.getD l none).getD 0) (homes.getD l 0)++bg n ts ((st.getD l none).getD 0))) (fun l hl=>?_) (eX.mp nd).1).trans ?_
  .obtain⟨_,a,_⟩:=al l (cm _ hl);rw[g9,gJ];exact a
  .rw[mN (by rw[gJ];exact ll),ak rfl]
structure fv(n:Nat)(ts:Ts)(homes:List Nat)(st:List (Option Nat))(N:Nat)(ss ls:Nat->List (Option Nat)):Prop where
 z:ss 0=st
 hd:∀j,j<N->Hd n ts (ss j) (ls j)
 nx:∀j,j<N->ss (j+1)=lS homes (ls j)
 ft:∀j,j<N->yH n ts homes (ss j) (ls j) (dM (ss j) (ss j).length)
end
section
variable {n:Nat} {ts:Ts} {homes:List Nat} {st fs:List (Option Nat)} {N l:Nat} {ss ls:Nat->List (Option Nat)}
theorem fv.BE(G:fv n ts homes st N ss ls)(F:bR n ts)(S:dP n ts homes st):∀k,k<=N->dP n ts homes (ss k)/\(ss k).length=st.length
 |0,_=>by rw[G.z];exact⟨S,rfl⟩
 |k+1,h=>by
  obtain⟨a,b⟩:=fv.BE G F S k (by lia);have d:=G.hd k (by lia);rw[G.nx k (by lia)];exact⟨d.next F a,by rw[gc,d.len,b]⟩
theorem fv.snoc(G:fv n ts homes st N ss ls)(d:Hd n ts (ss N) fs)(f:yH n ts homes (ss N) fs (dM (ss N) (ss N).length)):fv n ts homes st (N+1) (fun j=>if j=N+1 then lS homes fs else ss j) (fun j=>if j=N then fs else ls j):=by
 refine⟨?_,fun j hj=>?_,fun j hj=>?_,fun j hj=>?_⟩
 .show (if 0=N+1 then _ else _)=_;rw[aq (by lia)];exact G.z
 .show Hd n ts (if j=N+1 then _ else _) (if j=N then _ else _);rw[aq (by lia)];by_cases c:j=N
  .rw[ak c,c];exact d
  .rw[aq c];exact G.hd j (by lia)
 .show (if j+1=N+1 then _ else _)=lS homes (if j=N then _ else _);by_cases c:j=N
  .rw[ak (by lia),ak c]
  .rw[aq (by lia),aq c];exact G.nx j (by lia)
 .show yH n ts homes (if j=N+1 then _ else _) (if j=N then _ else _) (dM (if j=N+1 then _ else _) (if j=N+1 then _ else _:List (Option Nat)).length);rw[aq (by lia)];by_cases c:j=N
  .rw[ak c,c];exact f
  .rw[aq c];exact G.ft j (by lia)
theorem jK(d:Hd n ts st fs):(st.getD l none=none->(lS homes fs).getD l none=none)/\∀y,st.getD l none=some y->∃x,fs.getD l none=some x/\(lS homes fs).getD l none=if x=homes.getD l 0 then none else some x:=by
 have e:l<fs.length->(lS homes fs).getD l none=if fs.getD l none=some (homes.getD l 0) then none else fs.getD l none:=fun h=>by
  unfold lS;rw[bZ,bu,j7 h];rfl
 refine⟨fun h=>?_,fun y h=>?_⟩
 .have:=d.cf l h;by_cases c:l<fs.length
  .rw[e c,this,aq (fun z=>by cases z)]
  .rw[bZ,i6 (by rw[gc];lia)];rfl
 .obtain⟨x,ex,_⟩:=d.out l y h;refine⟨x,ex,?_⟩;rw[e (k9 ex),ex];by_cases c:x=homes.getD l 0
  .rw[ak (congrArg some c),ak c]
  .rw[aq (fun z=>c (bh z)),aq c]
theorem fv.gone(G:fv n ts homes st N ss ls){k:Nat}(h:(ss k).getD l none=none):∀j,k+j<=N->(ss (k+j)).getD l none=none
 |0,_=>h
 |j+1,hj=>by
  have:=fv.gone G h j (by lia);rw[show k+(j+1)=(k+j)+1 by lia,G.nx _ (by lia)];exact(jK (G.hd _ (by lia))).1 this
theorem fv.De(G:fv n ts homes st N ss ls){k k':Nat}(h:(ss k).getD l none=none)(hk:k<=k')(hN:k'<=N):(ss k').getD l none=none:=by
 have:=G.gone h (k'-k) (by lia);rwa [show k+(k'-k)=k' by lia] at this
theorem fv.UT(G:fv n ts homes st N ss ls)(F:bR n ts)(S:dP n ts homes st){k0 d:Nat}(hd:∀y,(ss k0).getD l none=some y->far ts y (homes.getD l 0)<=d)(hf:∀k,k0<=k->k<N->(ss k).getD l none≠none->(dM (ss k) (ss k).length).head?=some l):∀j,k0+j<=N->∀y,(ss (k0+j)).getD l none=some y->far ts y (homes.getD l 0)+j<=d
 |0,_,y,e=>hd y e
 |j+1,hj,y,e=>by
  have h1:=fv.UT G F S hd hf j (by lia);rw[show k0+(j+1)=(k0+j)+1 by lia,G.nx _ (by lia)] at e;cases e0:(ss (k0+j)).getD l none with
  |none=>rw[(jK (G.hd _ (by lia))).1 e0] at e;cases e
  |some y0=>
   obtain⟨x,ex,en⟩:=(jK (homes:=homes) (G.hd (k0+j) (by lia))).2 y0 e0;obtain⟨y1,x1,a,b,c⟩:=G.ft (k0+j) (by lia) l (hf (k0+j) (by lia) (by lia) (by rw[e0];intro z;cases z));rw[e0] at a;cases a;rw[ex] at b;cases b;have c2:far ts x (homes.getD l 0)<far ts y0 (homes.getD l 0):=cQ (cC.mp c).2;have h1:=h1 y0 e0;rw[en] at e;by_cases q:x=homes.getD l 0
   .rw[ak q] at e;cases e
   .rw[aq q] at e;cases e;lia
theorem fv.out(G:fv n ts homes st N ss ls)(F:bR n ts)(S:dP n ts homes st){k0 d:Nat}(hd:∀y,(ss k0).getD l none=some y->far ts y (homes.getD l 0)<=d)(hf:∀k,k0<=k->k<N->(ss k).getD l none≠none->(dM (ss k) (ss k).length).head?=some l)(hN:k0+d<=N):(ss (k0+d)).getD l none=none:=by
 cases e:(ss (k0+d)).getD l none with
 |none=>rfl
 |some y=>
  have:=G.UT F S hd hf d hN y e;obtain⟨_,a,b,c⟩:=(G.BE F S _ hN).1.at e;have:=wA F a b c;lia
theorem sM{st:List (Option Nat)}(h:st.getD l none≠none)(ha:∀j,j<l->st.getD j none=none):(dM st st.length).head?=some l:=by
 have hl:l<st.length:=by
  cases e:st.getD l none with
  |none=>exact absurd e h
  |some y=>exact k9 e
 unfold dM;rw[List.head?_filter,y7];refine⟨?_,bv.mpr hl,fun j hj=>by rw[ha j hj];rfl⟩;cases e:st.getD l none with
 |none=>exact absurd e h
 |some y=>rfl
theorem wP{st:List (Option Nat)}{i j:Nat}(h:i<j)(e:st.getD i none≠none):(dM st i).length<(dM st j).length:=by
 induction j with
 |zero=>lia
 |succ j ih=>
  rw[gX,dE];by_cases c:i=j
  .subst c;cases q:st.getD i none with
   |none=>exact absurd q e
   |some y=>exact j6 _
  .have:=ih (by lia);lia
theorem fv.UU(G:fv n ts homes st N ss ls)(F:bR n ts)(S:dP n ts homes st){sp D0:Nat}(Aq:∀a b,a<n->b<n->far ts a b<=sp)(h0:∀l y,st.getD l none=some y->dM st l=[]->far ts y (homes.getD l 0)=D0):
  ∀r l,(dM st l).length=r->D0+sp*r<=N->(ss (D0+sp*r)).getD l none=none:=by
 intro r;induction r using Nat.strongRecOn with
 |ind r ih=>
  intro l hr hN;by_cases e0:st.getD l none=none
  .exact G.De (k:=0) (by rw[G.z];exact e0) (bV _) hN
  have dn:∀k,k<=N->∀y,(ss k).getD l none=some y->far ts y (homes.getD l 0)<=sp:=fun k hk y e=>by
   obtain⟨_,a,b,_⟩:=(G.BE F S k hk).1.at e;exact Aq _ _ a b
  cases r with
  |zero=>
   have el:dM st l=[]:=zc.mp hr;refine(show D0+sp*0=0+D0 by lia) ▸ G.out F S (k0:=0) (d:=D0) (fun y e=>?_) (fun k _ hk jb=>?_) (by lia)
   .rw[G.z] at e;exact km (h0 l y e el)
   .refine sM jb fun j hj=>?_;have:st.getD j none=none:=by
     cases q:st.getD j none with
     |none=>rfl
     |some y=>
      have:=wP hj (by rw[q];intro z;cases z);rw[el] at this;exact absurd this (kd _)
    exact G.De (k:=0) (by rw[G.z];exact this) (bV _) (by lia)
  |succ r=>
   have e1:D0+sp*(r+1)=(D0+sp*r)+sp:=by rw[Nat.mul_succ];lia
   rw[e1];refine G.out F S (fun y e=>dn _ (by lia) y e) (fun k hk0 hk jb=>?_) (by lia);refine sM jb fun j hj=>?_;cases q:st.getD j none with
   |none=>exact G.De (k:=0) (by rw[G.z];exact q) (bV _) (by lia)
   |some y=>
    have lt:=wP hj (by rw[q];intro z;cases z);have Gd:(dM st j).length<=r:=by lia
    have le:sp*(dM st j).length<=sp*r:=oz _ Gd;have:=ih (dM st j).length (by lia) j rfl (by lia);exact G.De this (by lia) (by lia)
theorem fv.home(G:fv n ts homes st N ss ls)(h:st.getD l none≠none):∀ {B:Nat},B<=N->(ss B).getD l none=none->∃k,k<B/\Nf ss ls N l (homes.getD l 0)=some (k+1):=by
 have P:∀ {B:Nat},B<=N->(ss B).getD l none=none->∃k,k<B/\((ss k).getD l none).isSome=true/\(ls k).getD l none=some (homes.getD l 0):=fun {B}=>by
  induction B with
  |zero=>intro _ z;rw[G.z] at z;exact absurd z h
  |succ B ih=>
   intro hB z;cases e:(ss B).getD l none with
   |none=>
    obtain⟨k,a,b⟩:=ih (by lia) e;exact⟨k,by lia,b⟩
   |some y=>
    obtain⟨x,ex,en⟩:=(jK (homes:=homes) (G.hd B (by lia))).2 y e;rw[G.nx B (by lia),en] at z;refine⟨B,j6 _,by rw[e];rfl,?_⟩;by_cases q:x=homes.getD l 0
    .rw[ex,q]
    .rw[aq q] at z;cases z
 intro B hB z;obtain⟨k,hk,a,b⟩:=P hB z;unfold Nf;cases f:(List.range N).find? fun k=>((ss k).getD l none).isSome&&decide ((ls k).getD l none=some (homes.getD l 0)) with
 |none=>
  have:=va.mp f k (bv.mpr (by lia));rw[a,cZ b] at this;exact absurd rfl this
 |some k'=>
  refine⟨k',?_,rfl⟩;rw[y7] at f;have:=f.2.2 k;by_cases c:k'<B
  .exact c
  .have:=this (by lia);rw[a,cZ b] at this;cases this
theorem Df{st:List (Option Nat)}{m:Nat}(h:l<m)(e:st.getD l none≠none):(dM st m).idxOf l=(dM st l).length:=by
 induction m with
 |zero=>lia
 |succ m ih=>
  rw[gX];by_cases c:l=m
  .subst c;rw[List.idxOf_append,aq (fun z=>jT _ (lx z).1)];cases q:st.getD l none with
   |none=>exact absurd q e
   |some y=>show ([l]:List Nat).idxOf l+_=_;simp
  .have hm:l∈dM st m:=cC.mpr ⟨bv.mpr (by lia),by cases q:st.getD l none with|none=>exact absurd q e|some y=>rfl⟩;rw[List.idxOf_append,ak hm];exact ih (by lia)
theorem wQ:∀ {xs:List Nat} {x:Nat},(xs.map fun (y:Nat)=>(y:Int)).idxOf (x:Int)=xs.idxOf x
 |[],_=>rfl
 |y::xs,x=>by
  rw[eG,List.idxOf_cons,List.idxOf_cons,wQ];rw[show ((y:Int)==(x:Int))=(y==x) by rw[jS,hU,hU];exact⟨fun h=>fN h,fun h=>by rw[h]⟩]
theorem fv.bound(G:fv n ts homes st N ss ls)(F:bR n ts)(S:dP n ts homes st)(oj:st.length<=16){sp f y0 y:Nat}(Aq:∀a b,a<n->b<n->far ts a b<=sp)(h31:sp<=31)(hf:(dM st st.length).head?=some f)(e0:st.getD f none=some y0)(hl:st.getD l none=some y)(hN:N<=500)(done:N<500->dM (ss N) (ss N).length=[]):∃k,Nf ss ls N l (homes.getD l 0)=some (k+1)/\k+1<=far ts y0 (homes.getD f 0)+sp*(dM st l).length:=by
 have hll:=k9 hl;have hr:=wP (st:=st) hll (by rw[hl];intro z;cases z);have HS:=nZ (st:=st) (i:=st.length);obtain⟨_,a1,a2,_⟩:=S.at e0;have D31:=Aq _ _ a1 a2;have m15:sp*(dM st l).length<=31*15:=vp h31 (by lia);have rk:=G.UU F S Aq (D0:=far ts y0 (homes.getD f 0)) (fun l' y' e' en=>by
  have:=sM (st:=st) (l:=l') (by rw[e'];intro z;cases z) fun j hj=>by
   cases q:st.getD j none with
   |none=>rfl
   |some y=>
    have:=wP hj (by rw[q];intro z;cases z);rw[en] at this;exact absurd this (kd _)
  rw[hf] at this;obtain rfl:=bh this;rw[e0] at e';cases e';rfl) _ l rfl
 by_cases c:far ts y0 (homes.getD f 0)+sp*(dM st l).length<=N
 .obtain⟨k,hk,e⟩:=G.home (l:=l) (by rw[hl];intro z;cases z) c (rk c);exact⟨k,e,hk⟩
 .have z:(ss N).getD l none=none:=by
   cases e:(ss N).getD l none with
   |none=>rfl
   |some y=>
    have:=k_ e;rw[done (by lia)] at this;cases this
  obtain⟨k,hk,e⟩:=G.home (l:=l) (by rw[hl];intro z;cases z) (aI N) z;exact⟨k,e,by lia⟩
theorem Ik(d:Hd n ts st fs):st.count none<=(lS homes fs).count none/\∀l y x,st.getD l none=some y->fs.getD l none=some x->x=homes.getD l 0->st.count none<(lS homes fs).count none:=by
 rw[qL,qL,gc,d.len];have h:∀j,decide (st.getD j none=none)=true->decide ((lS homes fs).getD j none=none)=true:=fun j e=>cZ ((jK d).1 (cQ e));refine⟨sJ h,fun l y x e1 e2 e3=>Ie (i:=l) h (by rw[e1];rfl) (cZ ?_) (k9 e1)⟩;obtain⟨x',a,b⟩:=(jK (homes:=homes) d).2 y e1;rw[e2] at a;cases a;rw[b,ak e3]
end
abbrev ZT:Stmt:=top 13
abbrev ZU:Stmt:=top 67
theorem om:(["home","goes"]:List Str).Nodup:=by decide +kernel
theorem lc:(["_law_house","_law_home_here"]:List Str).Nodup:=by decide +kernel
theorem Dg{homes:List Nat}{fs:List (Option Nat)}{i:Nat}(h:i<fs.length):((lS homes fs).map oV)[i]?=some (if fs.getD i none=some (homes.getD i 0) then V.cf else oV (fs.getD i none)):=by
 unfold lS;rw[bu,bu,j7 h];show some (oV (if _ then none else _))=_;split <;> rfl
theorem Il:(["home"]:List Str).Nodup:=by decide +kernel
abbrev ZV:List Str:=["self","net","homes","stand","beat"]
structure UV(K:PySem.W.Frag)(mg:Str->Option Value)(nm:Str)(CB Ci:Addr)(bt:Bool):Prop where
 cl:EO K Ci
 Rm:mg nm=some (.ref Ci)
 ha:PySem.W.findIn K (.ref Ci) "__class__"=some (some (.builtin "object.__class__"))
 hn:PySem.W.specialIn K (.builtin "object.__class__") "__get__"=some (some (.builtin "getset_descriptor.__get__"))
 So:PySem.W.takesIn K (.builtin "object.__class__")=some true
 hm:PySem.W.mroIn K Ci (.type "object")=some true
 kt:PySem.W.kitOne K (.ref Ci) (.ref CB)=some bt
theorem UV.ty{K:PySem.W.Frag}{mg:Str->Option Value}{nm:Str}{CB Ci a d:Addr}{fs:List (Str×V)}{H:Hp}{bt:Bool}(T:UV K mg nm CB Ci bt)(e:H a=some (.ins Ci d fs)):Mu K H (.ref a) (.ref Ci):=.of (.ins e T.cl T.ha T.hn T.So T.hm)
theorem BF{X:Cx}{e:Expr}{t1 t2:TE}(a:PE X e t1)(b:PE X e t2):PE X e (fun σ H Q=>t1 σ H Q\/t2 σ H Q):=fun ae s σ H Q I h=>h.elim (a ae s σ H Q I) (b ae s σ H Q I)
theorem _root_.L2.cr.eK{lp:Pos}{q:Str}{P P':Addr}{H H':Hp}(t:cr lp q P H)(s:lQ P' H H')(hp:∃ps,H P'=some (.j3 ps))(n:P≠P'):cr lp q P H':=by
 obtain⟨ps,hp⟩:=hp;rcases t with z|⟨c,z,y⟩
 .exact .inl (s _ _ z n)
 .exact .inr ⟨c,s _ _ z n,s _ _ y (by rintro rfl;rw[hp] at y;cases y)⟩
theorem _root_.L2.cr.j3{lp:Pos}{q:Str}{P:Addr}{H:Hp}(t:cr lp q P H):∃ps,H P=some (.j3 ps):=by
 rcases t with z|⟨c,z,y⟩
 .exact⟨_,z⟩
 .exact⟨_,z⟩
def KQ(PN:Addr)(H H':Hp):Prop:=∀b o,H b=some o->b≠PN->H' b=some o
def KN(H H':Hp):Prop:=∀b o,H b=some o->Nd o->H' b=some o
section
variable {PN:Addr} {H H1 H2 H':Hp}
theorem KQ.kn(k:KQ PN H H')(t:cp PN H):KN H H':=fun b o e n=>k b o e (t.not e n)
theorem KQ.of(s:aG H H'):KQ PN H H':=fun b o e _=>s b o e
theorem KQ.trans(a:KQ PN H H1)(b:KQ PN H1 H2):KQ PN H H2:=fun c o e n1=>b c o (a c o e n1) n1
theorem KQ.fresh{r:Addr}(k:KQ PN H H')(t:cp PN H')(e:H' r=none):H r=none:=by
 obtain⟨x,hx⟩:=t.j3;cases w:H r with
 |none=>rfl
 |some o=>rw[k r o w (am hx e).symm] at e;cases e
end
def PU(CE CI CN Ci:Addr)(b t:Bool):Prop:=(Ci=CE/\b=false/\t=false)\/((Ci=CI/\b=false/\t=true)\/(Ci=CN/\b=true/\t=false))
theorem or3{A:Addr->Bool->Prop}{CE CI CN Ci:Addr}{b t:Bool}(h:PU CE CI CN Ci b t)(a:A Ci b):A CE false\/(A CI false\/A CN true):=by
 rcases h with ⟨rfl,rfl,_⟩|⟨rfl,rfl,_⟩|⟨rfl,rfl,_⟩
 .exact .inl a
 .exact .inr (.inl a)
 .exact .inr (.inr a)
abbrev tO(Ci:Addr)(sp:Sp):TE:=xn Ci "order" sp [] E0 (aT 0) (bB (aT 1) (bB (aT 2) (bB (aT 3) (bB (aT 4) gf))))
def uM(C PN:Addr)(nb:Bool):Sp:=fun vs H Q _=>∃ (L:Addr->Prop) (x0:V) (bt:Int) (px ha sa:Addr) (n:Nat) (ts:Ts) (homes:List Nat) (st:List (Option Nat)),vs=[x0,.ref px,.ref ha,.ref sa,.int bt]/\cH C H L px n ts/\H ha=some (.tup (NV homes))/\H sa=some (.tup (st.map oV))/\sI n homes st/\cp PN H/\
 ∀ (r:Addr) (H':Hp) (out:List Nat),cp PN H'->KQ PN H H'->H r=none->out.Perm (dM st st.length)->(nb=false->out=dM st st.length)->(nb=true->out.Pairwise (MV (uJ ts homes st)))->H' r=some (.lst (NV out))->Q (.ref r) H'
section
variable {C PN:Addr} {vs:List V} {H:Hp} {Q:VK} {E:XK}
theorem Nh(h:uM C PN false vs H Q E):Ib vs H Q E:=by
 obtain⟨L,x0,bt,px,ha,sa,n,ts,homes,st,rfl,N,hH,hS,LO,tb,q⟩:=h;exact⟨_,_,_,_,sa,st,rfl,hS,LO.le,fun r H' s ZW hr=>q r H' _ (tb.same s) (KQ.of s) ZW (ij _) (fun _=>rfl) (fun z=>by cases z) hr⟩
theorem UX(h:uM C PN true vs H Q E):Ii C PN vs H Q E:=by
 obtain⟨L,x0,bt,px,ha,sa,n,ts,homes,st,rfl,N,hH,hS,LO,tb,q⟩:=h;exact⟨L,_,_,px,ha,sa,n,ts,homes,st,rfl,N,hH,hS,LO,tb,fun r H' out t' s ZW op pw hr=>q r H' out t' s ZW op (fun z=>by cases z) (fun _=>pw) hr⟩
end
def Dh:Sp:=fun vs H Q _=>∃x y:V,vs=[x,y]/\Q .cf H
section
variable {P:Program} {w:World} {K:PySem.W.Frag} {mg:Str->Option Value} {base:Heap}
structure PV(P:Program)(w:World)(K:PySem.W.Frag)(mg:Str->Option Value)(base:Heap)(C CE CI CN PN:Addr):Prop where
 e:UV K mg "Elder" CI CE false
 i:UV K mg "InTurn" CI CI true
 n:UV K mg "Nearest" CI CN false
 oE:iB P w K mg base aY 9 CE "order" ZV (uM C PN false)
 oI:iB P w K mg base aY 9 CI "order" ZV (uM C PN false)
 oN:iB P w K mg base aY 9 CN "order" ZV (uM C PN true)
 cE:iB P w K mg base aY 1 CE "check_letters" ["self","homes"] Dh
 cI:iB P w K mg base aY 1 CI "check_letters" ["self","homes"] Dh
theorem PV.ty{C CE CI CN PN:Addr}(R:PV P w K mg base C CE CI CN PN){H:Hp}{Ci d a:Addr}{b t:Bool}(h:PU CE CI CN Ci b t)(e:H a=some (.ins Ci d [])):PySem.W.kitOne K (.ref Ci) (.ref CI)=some t/\Mu K H (.ref a) (.ref Ci):=by
 rcases h with ⟨rfl,_,rfl⟩|⟨rfl,_,rfl⟩|⟨rfl,_,rfl⟩
 .exact⟨R.e.kt,R.e.ty e⟩
 .exact⟨R.i.kt,R.i.ty e⟩
 .exact⟨R.n.kt,R.n.ty e⟩
theorem ZX:aB ["homes","handing"] ["homes","handing"] (ap ZT):=⟨rfl,rfl,rfl,by decide +kernel,rfl,by decide +kernel,by decide +kernel⟩
def yI:Sp:=fun vs H Q _=>∃ (ha fa:Addr) (homes:List Nat) (fs:List (Option Nat)),vs=[.ref ha,.ref fa]/\H ha=some (.tup (NV homes))/\H fa=some (.tup (fs.map oV))/\homes.length=fs.length/\fs.length<=16/\∀t H',aG H H'->H' t=some (.tup ((lS homes fs).map oV))->Q (.ref t) H'
theorem UY{f:Addr}{fd:FuncData}(F:fH K "stand_behind" "stand_behind" ZT f fd)(B:Bl mg)(B2:M5 mg):bf P w K mg base aY 1 f fd ["homes","handing"] yI:=by
 refine F.ok ZX (fun vs H Q E h=>?_) (fun dR A outer s H vs Q E hr h=>?_)
 .obtain⟨ha,fa,homes,fs,rfl,_⟩:=h;rfl
 .obtain⟨ha,fa,homes,fs,rfl,Ni,PX,hl,oj,q⟩:=h;refine'⟨_,(aj (aL (bW et (by rfl) B.tup qR (aa ?c1 ag)))),?_⟩;case c1=>
   refine' bY (g:=(mY K 2 (dI (bi 0) (dI (bi 1) mX)))) (te:=(Xq (io (ja (Sj) (aT 1) (aT 0))) (tC .cf) (aT 1))) (NB:=["home","goes"]) (src:=[none,none]) (bz (by kernel_rfl)) rfl (v8 rfl B2.zip (aa (pv 0) (aa (pv 1) ag))) ?g ?t ?e;case g=>exact fun cl C s₃ H₃ fp=>(dW (n:=2) rfl (aR (av (i:=0) om rfl (Or.inl rfl) (Or.inr rfl)) (aR (av (i:=1) om rfl (Or.inl rfl) (Or.inr rfl)) cT)))
   case t=>exact fun cl C s₃ H₃ fp=>dz
   case e=>exact fun cl C s₃ H₃ fp=>(xf (aP gR (pv 1) (pv 0) (aW _)) dU (pv 1))
  refine⟨_,rfl,_,rfl,ha,fa,_,_,rfl,bJ.of Ni,bJ.of PX,by rw[aS,aO];lia,fun D4 ot=>?_⟩;refine sf (K:=K) (xs:=NV homes) (ys:=fs.map oV) (by rw[aS,aO];lia) (fun i zz σ H3=>(∃u v,σ=[u,v])/\aG H H3/\H3 D4=some (.lst zz)/\zz=((lS homes fs).map oV).take i) ⟨⟨_,_,rfl⟩,ai ot,af,rfl⟩ (fun i zz σ H _ z=>⟨bJ.of (z.2.1 _ _ Ni),bJ.of (z.2.1 _ _ PX)⟩) ?_ ?_
  .rintro i x y pp zz σ H5 Kt Kf hx hy ⟨⟨u,v,rfl⟩,EX,yY,rfl⟩ ZY kt kf;have UZ:i<fs.length:=by have:=(cu.mp hx).1;rw[aS] at this;lia
   rw[fE (by lia)] at hx;obtain rfl:=bh hx;rw[iy UZ] at hy;obtain rfl:=bh hy;have sp:=ai (o:=.tup [.int ((homes.getD i 0:Nat):Int),oV (fs.getD i none)]) ZY;have one:=Dg (homes:=homes) (fs:=fs) UZ;have lt:(((lS homes fs).map oV).take i).length<sizeLine:=fK (zm _ _) (by rw[aO,gc];exact fK oj (by decide));refine⟨pp,_,rfl,bJ.of af,rfl,_,_,rfl,_,_,rfl,rfl,?_⟩;refine⟨_,rfl,_,rfl,wO,_,rfl,?_⟩;rw[Dd];have go:∀v,((lS homes fs).map oV)[i]?=some v->∀σ2,(∃u v,σ2=[u,v])->Kt v σ2 (upd H5 pp (.tup [.int ((homes.getD i 0:Nat):Int),oV (fs.getD i none)])):=fun v hv σ2 sh=>kt v σ2 _ (sp _ _ yY) lt ⟨sh,bP (EX.trans sp) ot,af,by rw[gO,hv];rfl⟩;by_cases c:fs.getD i none=some (homes.getD i 0)
   .rw[ak c] at one;rw[cZ c];exact xz (go _ one _ ⟨_,_,rfl⟩)
   .rw[aq c] at one;rw[fA c];exact iq ⟨_,rfl,go _ one _ ⟨_,_,rfl⟩⟩
  .rintro zz σ H5 ⟨_,EX,yY,rfl⟩;rw[aS,show homes.length=((lS homes fs).map oV).length by rw[aO,gc];exact hl,jQ] at yY;refine⟨D4,_,rfl,.inl ⟨a8.of yY,fun t ht=>?_⟩⟩;exact q t _ (EX.trans (ai ht)) af
theorem ZZ:aB ["_law_homes","_law_handing"] ["_law_homes","_law_handing"] (ap ZU):=⟨rfl,rfl,rfl,by decide +kernel,rfl,by decide +kernel,by decide +kernel⟩
theorem U0{f:Addr}{fd:FuncData}(F:fH K "_law_behind" "_law_behind" ZU f fd)(B:Bl mg)(B2:M5 mg):bf P w K mg base aY 1 f fd ["_law_homes","_law_handing"] yI:=by
 refine F.ok ZZ (fun vs H Q E h=>?_) (fun dR A outer s H vs Q E hr h=>?_)
 .obtain⟨ha,fa,homes,fs,rfl,_⟩:=h;rfl
 .obtain⟨ha,fa,homes,fs,rfl,Ni,PX,hl,oj,q⟩:=h;refine'⟨_,(aj (aL (bW et (by rfl) B.tup qR (aa ?c1 ag)))),?_⟩;case c1=>
   refine' bY (g:=(mY K 2 (dI (bi 0) (dI (bi 1) mX)))) (te:=(Xq (io (ja (Sj) (aT 0) (aT 1))) (tC .cf) (aT 0))) (NB:=["_law_house","_law_home_here"]) (src:=[none,none]) (bz (by kernel_rfl)) rfl (v8 rfl B2.zip (aa (pv 1) (aa (pv 0) ag))) ?g ?t ?e;case g=>exact fun cl C s₃ H₃ fp=>(dW (n:=2) rfl (aR (av (i:=0) lc rfl (Or.inl rfl) (Or.inr rfl)) (aR (av (i:=1) lc rfl (Or.inl rfl) (Or.inr rfl)) cT)))
   case t=>exact fun cl C s₃ H₃ fp=>dz
   case e=>exact fun cl C s₃ H₃ fp=>(xf (aP gR (pv 0) (pv 1) (aW _)) dU (pv 0))
  refine⟨_,rfl,_,rfl,fa,ha,_,_,rfl,bJ.of PX,bJ.of Ni,by rw[aO,aS];lia,fun D4 ot=>?_⟩;refine sf (K:=K) (xs:=fs.map oV) (ys:=NV homes) (by rw[aO,aS];lia) (fun i zz σ H3=>(∃u v,σ=[u,v])/\aG H H3/\H3 D4=some (.lst zz)/\zz=((lS homes fs).map oV).take i) ⟨⟨_,_,rfl⟩,ai ot,af,rfl⟩ (fun i zz σ H _ z=>⟨bJ.of (z.2.1 _ _ PX),bJ.of (z.2.1 _ _ Ni)⟩) ?_ ?_
  .rintro i x y pp zz σ H5 Kt Kf hx hy ⟨⟨u,v,rfl⟩,EX,yY,rfl⟩ ZY kt kf;have UZ:i<fs.length:=by have:=(cu.mp hx).1;rwa [aO] at this
   rw[iy UZ] at hx;obtain rfl:=bh hx;rw[fE (by lia)] at hy;obtain rfl:=bh hy;have sp:=ai (o:=.tup [oV (fs.getD i none),.int ((homes.getD i 0:Nat):Int)]) ZY;have one:=Dg (homes:=homes) (fs:=fs) UZ;have lt:(((lS homes fs).map oV).take i).length<sizeLine:=fK (zm _ _) (by rw[aO,gc];exact fK oj (by decide));refine⟨pp,_,rfl,bJ.of af,rfl,_,_,rfl,_,_,rfl,rfl,?_⟩;refine⟨_,rfl,_,rfl,wO,_,rfl,?_⟩;rw[Dd];have go:∀v,((lS homes fs).map oV)[i]?=some v->∀σ2,(∃u v,σ2=[u,v])->Kt v σ2 (upd H5 pp (.tup [oV (fs.getD i none),.int ((homes.getD i 0:Nat):Int)])):=fun v hv σ2 sh=>kt v σ2 _ (sp _ _ yY) lt ⟨sh,bP (EX.trans sp) ot,af,by rw[gO,hv];rfl⟩;by_cases c:fs.getD i none=some (homes.getD i 0)
   .rw[ak c] at one;rw[cZ c];exact xz (go _ one _ ⟨_,_,rfl⟩)
   .rw[aq c] at one;rw[fA c];exact iq ⟨_,rfl,go _ one _ ⟨_,_,rfl⟩⟩
  .rintro zz σ H5 ⟨_,EX,yY,rfl⟩;rw[aO,show fs.length=((lS homes fs).map oV).length by rw[aO,gc],jQ] at yY;refine⟨D4,_,rfl,.inl ⟨a8.of yY,fun t ht=>?_⟩⟩;exact q t _ (EX.trans (ai ht)) af
theorem BG:aB ["rule","net","homes","stand","beat","letters","goes"] ["rule","net","homes","stand","beat"] (ap HY):=⟨rfl,rfl,rfl,by decide +kernel,rfl,by decide +kernel,by decide +kernel⟩
def sQ(C CE CI CN PN:Addr):Sp:=fun vs H Q _=>∃ (L:Addr->Prop) (a px ha sa Ci da:Addr) (nb tn:Bool) (bt:Int) (n:Nat) (ts:Ts) (homes:List Nat) (st:List (Option Nat)),vs=[.ref a,.ref px,.ref ha,.ref sa,.int bt]/\PU CE CI CN Ci nb tn/\H a=some (.ins Ci da [])/\cH C H L px n ts/\H ha=some (.tup (NV homes))/\H sa=some (.tup (st.map oV))/\dP n ts homes st/\st.length<=16/\cp PN H/\
 ∀ (t:Addr) (H':Hp) (fs:List (Option Nat)) (jm:List Nat),cp PN H'->KQ PN H H'->H t=none->Hd n ts st fs->jm.Perm (dM st st.length)->(nb=false->jm=dM st st.length)->(nb=true->jm.Pairwise (MV (uJ ts homes st)))->yH n ts homes st fs jm->H' t=some (.tup (fs.map oV))->Q (.ref t) H'
theorem Lo{f C CE CI CN PN:Addr}{fd:FuncData}(F:fH K "hand" "hand" HY f fd)(B:Bl mg)(R:PV P w K mg base C CE CI CN PN)(HT:ce P w K mg base aY 7 "hand_in_turn" ["net","homes","stand","letters","goes"] (Ps C))(HE:ce P w K mg base aY 7 "hand_eagerly" ["net","homes","stand","letters","goes"] (PL C)):
  bf P w K mg base aY 10 f fd ["rule","net","homes","stand","beat"] (sQ C CE CI CN PN):=by
 obtain⟨f1,d1,m1,b1,G1⟩:=R.oE.ex;obtain⟨f2,d2,m2,b2,G2⟩:=R.oI.ex;obtain⟨f3,d3,m3,b3,G3⟩:=R.oN.ex;refine F.ok BG (fun vs H Q E h=>?_) (fun dR A outer s H vs Q E hr h=>?_)
 .obtain⟨L,a,px,ha,sa,Ci,da,nb,tn,bt,n,ts,homes,st,rfl,_⟩:=h;rfl
 .obtain⟨L,a,px,ha,sa,Ci,da,nb,tn,bt,n,ts,homes,st,rfl,Jf,hR,N,hH,hS,SG,oj,tb,q⟩:=h;have LO:=SG.let oj;have FN:=N.gw;have h7:bD 7 _:=hr.mono (by decide);refine'⟨_,(ah (aF (i:=5) BG.nd rfl (Or.inl rfl) (BF (dY (pv 0) R.e.cl m1 G1 hr b1 .nil aA (aa (pv 1) (aa (pv 2) (aa (pv 3) (aa (pv 4) ag))))) (BF (dY (pv 0) R.i.cl m2 G2 hr b2 .nil aA (aa (pv 1) (aa (pv 2) (aa (pv 3) (aa (pv 4) ag))))) (dY (pv 0) R.n.cl m3 G3 hr b3 .nil aA (aa (pv 1) (aa (pv 2) (aa (pv 3) (aa (pv 4) ag))))))))
   (ah (eO (i:=6) (g:=(bi 0)) (te:=(tC .cf)) (NB:=["home"]) (src:=[none]) (bz (by kernel_rfl)) rfl (vH (pv 2)) ?g1 ?t1 ?e1 BG.nd rfl rfl rfl)
   (ah (cw (fR (aN DL (by rfl) B.OF qN (aa (pv 0) (aa (qp (v:=.ref CI) rfl R.i.Rm rfl) ag)))) (aj (cS (aw HT h7 aA (aa (pv 1) (aa (pv 2) (aa (pv 3) (aa (pv 5) (aa (pv 6) ag)))))))) (aj (cS (aw HE h7 aA (aa (pv 1) (aa (pv 2) (aa (pv 3) (aa (pv 5) (aa (pv 6) ag)))))))))
   (aj (aL (bW et (by rfl) B.tup qR (aa (pv 6) ag))))))),?_⟩
  case g1=>exact fun cl C s₃ H₃ fp=>(av (i:=0) Il rfl (Or.inl rfl) (Or.inr rfl))
  case t1=>exact fun cl C s₃ H₃ fp=>dz
  case e1=>exact fun cl C s₃ H₃ fp=>dU
  refine or3 Jf (A:=fun Ci nb=>tO Ci (uM C PN nb) _ H _) ?_;refine⟨_,rfl,a,da,[],rfl,hR,rfl,_,rfl,_,rfl,_,rfl,_,rfl,L,.ref a,bt,px,ha,sa,n,ts,homes,st,rfl,N,hH,hS,LO,tb,fun la H1 jm t1 k1 la0 op ow pw EY=>?_⟩;have kn:=k1.kn tb;have PY:=kn _ _ hH (fun ps z=>by cases z);have ins:∃dx fs,H px=some (.ins C dx fs):=let ⟨dx,fs,a,_⟩:=N.EC;⟨dx,fs,a⟩;have N1:cH C H1 (fun b=>H1 b≠none) px n ts:=by
   obtain⟨dx,fs,a⟩:=ins;exact(N.W8.keep (fun b o l e=>by obtain⟨_,o',e',n⟩:=l;rw[e] at e';cases e';exact kn b o e n) fun o e=>kn _ _ e (by rw[a] at e;cases e;exact fun ps z=>by cases z)).own
  refine⟨_,rfl,ha,rfl,⟨_,bJ.of PY⟩,fun ga hg=>?_⟩;refine HW (K:=K) (a:=ha) (xs:=NV homes) (fun i ys σ H2=>(∃x,σ=[x])/\aG H1 H2/\H2 ga=some (.lst ys)/\ys=List.replicate i V.cf) ⟨⟨_,rfl⟩,ai hg,af,rfl⟩ (fun i ys σ H2 _ z=>bJ.of (z.2.1 _ _ PY)) ?_ ?_
  .rintro i x ys σ H2 Kt Kf hx ⟨⟨x',rfl⟩,sm,OS,rfl⟩ kt kf;have hi:i<homes.length:=by have:=(cu.mp hx).1;rwa [aS] at this
   have:=LO.len;have:=LO.le;exact kt _ _ _ OS (by rw[gJ];exact cz (show i<17 by lia) (by decide)) ⟨⟨_,rfl⟩,bP sm hg,af,by rw[zj]⟩
  rintro ys σ H2 ⟨_,sm,OS,rfl⟩;rw[aS,LO.len,show V.cf=oV none from rfl,<-List.map_replicate] at OS;have Jd:=sm _ _ (kn _ _ hR (fun ps z=>by cases z));obtain⟨kt,ty⟩:=R.ty Jf Jd;have EZ:=sm _ _ (kn _ _ hS (fun ps z=>by cases z));refine⟨_,rfl,.ref a,CI,_,tn,rfl,kt,ty,_,rfl,?_⟩;have dS:∀ (fs:List (Option Nat)) (H3:Hp),Hd n ts st fs->yH n ts homes st fs jm->aK ga H2 H3->H3 ga=some (.lst (fs.map oV))->∀t,H3 t=none->Q (.ref t) (upd H3 t (.tup (fs.map oV))):=fun fs H3 hd ft s3 RH t ht=>by
   have k3:∀b o,H1 b=some o->(upd H3 t (.tup (fs.map oV))) b=some o:=fun b o e=>ai ht _ _ (s3 _ _ (sm _ _ e) (am e hg));exact q t _ fs jm (t1.same k3) (fun b o e n1=>k3 _ _ (k1 b o e n1)) (k1.fresh t1 (by cases z:H1 t with|none=>rfl|some o=>(rw[s3 _ _ (sm _ _ z) (am z hg)] at ht;cases ht))) hd op ow pw ft af
  cases tn with
  |true=>
   obtain rfl:=ow (by rcases Jf with ⟨_,_,z⟩|⟨_,z,_⟩|⟨_,_,z⟩ <;> first|exact z|cases z);refine xz ⟨_,rfl,_,rfl,_,rfl,_,rfl,_,rfl,fun b=>H1 b≠none,px,ha,sa,la,ga,n,ts,homes,st,_,rfl,N1.same sm,fun z=>z hg,sm _ _ PY,EZ,LO,sm _ _ EY,am EY hg,OS,by rw[gJ],fun H3 s3 RH=>?_⟩;exact⟨_,rfl,ga,_,rfl,.inl ⟨a8.of RH,fun t ht=>dS (C7 n ts homes st) H3 (Ln SG) (BC FN SG) s3 RH t ht⟩⟩
  |false=>
   refine iq ⟨_,rfl,_,rfl,_,rfl,_,rfl,_,rfl,fun b=>H1 b≠none,px,ha,sa,la,ga,n,ts,homes,jm,st,_,rfl,N1.same sm,fun z=>z hg,sm _ _ PY,EZ,LO,fun l hl=>op.mem_iff.mp hl,sm _ _ EY,am EY hg,OS,by rw[gJ],fun H3 s3 RH=>?_⟩;exact⟨_,rfl,ga,_,rfl,.inl ⟨a8.of RH,fun t ht=>dS (Py n ts homes st jm) H3 (Pz SG op).hd (EE FN SG op) s3 RH t ht⟩⟩
end
abbrev PZ:Stmt:=top 44
abbrev Lp:Stmt:=top 43
abbrev Lq:Stmt:=h9 (top 22) 0
def Di:Expr:=match (bQ Lp).getD 1 (.Pass ⟨0,0,0,0⟩) with
 |.Return (some (.Call _ (_::_::_::k::_) _ _)) _=>k
 |_=>.Name "x" ⟨0,0,0,0⟩
def yJ:Arguments:=match Di with
 |.Lambda a _ _ _=>a
 |_=>{ posonlyargs:=[],args:=[],vararg:=none,kwonlyargs:=[],kw_defaults:=[],kwarg:=none,defaults:=[] }
def yK:Expr:=match Di with
 |.Lambda _ b _ _=>b
 |e=>e
def Im:Scope:=match Di with
 |.Lambda _ _ s _=>s
 |_=>{ kind:=.function,names:=[],isGenerator:=false,isCoroutine:=false }
def Lr:Pos:=match Di with
 |.Lambda _ _ _ p=>p
 |_=>⟨0,0,0,0⟩
def Ls:Str:=("run":Str)++".<locals>."++"<lambda>"
abbrev EF(Pt:Addr)(H:Hp):Prop:=cr Lr Ls Pt H
abbrev NBW:List Str:=["here","beat","rule","net","homes"]
theorem P0:CH NBW 2 Im Ls yJ yK:=by
 refine⟨rfl,by decide +kernel,fun bT pm c sY us hl=>?_,by decide +kernel,fun i x hi hx=>?_,by decide +kernel,rfl,rfl⟩
 .match us,hl with
  |[_,_],_=>rfl
 .match i,hi,hx with
  |2,_,hx=>cases hx;rfl
  |3,_,hx=>cases hx;rfl
  |4,_,hx=>cases hx;rfl
theorem wR{S:Addr->Prop}{h0:Heap}{H:Hp}{b:Addr}{o:HO}(n:∀a,S a->H a=some (kW h0 a))(e:H b=some o)(x:∀p,o≠.ext p):pH S H b=some o:=by
 rw[cM fun z=>by rw[n b z] at e;exact x _ (bh e).symm];exact e
theorem on{S:Addr->Prop}{H H':Hp}(s:aG H H'):aG (pH S H) (pH S H'):=fun b o e=>by
 by_cases c:S b
 .rw[iV c] at e;cases e
 .rw[cM c] at e |-;exact s b o e
theorem yL{S:Addr->Prop}{h0:Heap}{H:Hp}(n:∀a,S a->H a=none):pH S (iA S h0 H)=H:=funext fun b=>by
 by_cases c:S b
 .rw[iV c,n b c]
 .rw[cM c,bX c]
def Nj(st:List (Option Nat)):Bool:=st.any Option.isSome
theorem Dj{st:List (Option Nat)}:Nj st=true↔dM st st.length≠[]:=by
 unfold Nj;rw[q_];constructor
 .rintro⟨x,hx,e⟩ z;obtain⟨i,hi,ei⟩:=u7 hx;have:i∈dM st st.length:=cC.mpr ⟨bv.mpr hi,by rw[bZ,b8 hi,ei];exact e⟩;rw[z] at this;cases this
 .intro h;obtain⟨i,hi⟩:∃i,i∈dM st st.length:=by
   cases z:dM st st.length with
   |nil=>exact absurd z h
   |cons a l=>exact⟨a,bL⟩
  obtain⟨a,b⟩:=cC.mp hi;have hi:=bv.mp a;rw[bZ,b8 hi] at b;exact⟨st[i],fh hi,b⟩
theorem P1{st:List (Option Nat)}:Nj st=!(NV (dM st st.length)).isEmpty:=by
 rw[jS,Dj];cases dM st st.length with
 |nil=>simp
 |cons a l=>simp
theorem cH.kn{C px:Addr}{H H':Hp}{L:Addr->Prop}{n:Nat}{ts:Ts}(N:cH C H L px n ts)(s:KN H H'):∃L',cH C H' L' px n ts:=by
 obtain⟨dx,tl,ol,ds,i0,_⟩:=N.ob;exact⟨_,N.W8.keep (H':=H') (fun b o l e=>by obtain⟨_,o',e',n⟩:=l;rw[e] at e';cases e';exact s _ _ e n) (fun o e=>s _ _ e (by rw[i0] at e;cases e;intro ps z;cases z))⟩
section
variable {P:Program} {w:World} {K:PySem.W.Frag} {mg:Str->Option Value} {base:Heap}
theorem Io:aB ["homes","stand","most","handed","log"] ["homes","stand","most","handed"] (ap PZ):=⟨rfl,rfl,rfl,by decide +kernel,rfl,by decide +kernel,by decide +kernel⟩
def Ip(C CE CI CN PN:Addr):Sp:=fun vs H Q _=>∃ (L:Addr->Prop) (a px ha sa f c Ci da:Addr) (tn:Bool) (n:Nat) (ts:Ts) (homes:List Nat) (st:List (Option Nat)) (most:Nat) (cells:List (Str×Addr)) (h0:Heap) (H1:Hp),vs=[.ref ha,.ref sa,.int most,.ref f]/\H=iA (bq cells) h0 H1/\(∀a,bq cells a->H1 a=none)/\yn cells h0 H/\uC cells h0 "rule" (.ref a)/\uC cells h0 "net" (.ref px)/\uC cells h0 "homes" (.ref ha)/\PU CE CI CN Ci false tn/\H1 a=some (.ins Ci da [])/\cH C H1 L px n ts/\H1 ha=some (.tup (NV homes))/\H1 sa=some (.tup (st.map oV))/\dP n ts homes st/\st.length<=16/\most<=500/\cp PN H1/\H1 f=some (nE f Ls yJ yK Im cells c)/\H1 c=some (kM c Ls)/\
 ∀ (r:Addr) (N:Nat) (as:List Addr) (ss ls:Nat->List (Option Nat)) (H':Hp),fv n ts homes st N ss ls->N<=most->(N<most->Nj (ss N)=false)->cp PN (pH (bq cells) H')->KQ PN H H'->(∀a,bq cells a->H' a=some (kW h0 a))->H r=none->H' r=some (.lst (as.map V.ref))->Holds H' as N (fun k=>.tup ((ls k).map oV))->Q (.ref r) H'
theorem P3{f C CE CI CN PN:Addr}{fd:FuncData}(F:fH K "log_by" "log_by" PZ f fd)(B:Bl mg)(UW:ce P w K mg base aY 1 "under_way" ["stand"] EA)(SB:ce P w K mg base aY 1 "stand_behind" ["homes","handing"] yI)(WH:ce P w K mg base aY 10 "hand" ["rule","net","homes","stand","beat"] (sQ C CE CI CN PN)):bf P w K mg base aY 12 f fd ["homes","stand","most","handed"] (Ip C CE CI CN PN):=by
 refine F.ok Io (fun vs H Q E h=>?_) (fun dR A outer s H vs Q E hr h=>?_)
 .obtain⟨L,a,px,ha,sa,f',c,Ci,da,tn,n,ts,homes,st,most,cells,h0,H1,rfl,_⟩:=h;rfl
 .obtain⟨L,a,px,ha,sa,f',c,Ci,da,tn,n,ts,homes,st,most,cells,h0,H1,rfl,rfl,nS,LE,ca,cb,ch,Jf,hA,NA,hH,hS,SG,oj,U1,tb,hf,hc,q⟩:=h;have FN:=NA.gw;have h1:bD 1 _:=hr.mono (by decide);have nP:¬ bq cells PN:=fun z=>by
   obtain⟨x,hx⟩:=tb.j3;rw[nS _ z] at hx;cases hx
  have inj:aG H1 (iA (bq cells) h0 H1):=fun b o e=>by rw[bX fun z=>by rw[nS b z] at e;cases e];exact e
  refine⟨_,(ah (aF (i:=4) Io.nd rfl (Or.inl rfl) (eN ag))
   (ah (rE dt (PW.pt (rD (aP lM (aN aQ (by rfl) B.len d_ (aa (pv 4) ag)) (pv 2) (aW _)) (qr (FB (aw UW h1 aA (aa (pv 1) ag)) (fun _=>rfl))))) (ah (cS (iG iD lF lE dJ (pv 4) (aa (Ku (te:=pQ (sQ C CE CI CN PN) [] E0 (bB (aT 2) (bB (aT 3) (bB (aT 4) (bB (aT 0) (bB (aT 1) gf)))))) (i:=3) hr rfl P0 (pv 3) (aa (pv 1) (aa (aN aQ (by rfl) B.len d_ (aa (pv 4) ag)) ag)) (fun f bT c s H=>aw WH (hr.deeper _) aA (aa (pv 2) (aa (pv 3) (aa (pv 4) (aa (pv 0) (aa (pv 1) ag))))))) ag)))
    (aj (aF (i:=1) Io.nd rfl (Or.inl rfl) (aw SB h1 aA (aa (pv 0) (aa (a7 aV (pv 4) (Mn Fx au) (fun _ _=>rfl)) ag)))))))
   (aj (aL (pv 4))))),?_⟩
  refine⟨by show 0<=sizeLine;decide,fun LG RI=>?_⟩;have s0:=ai (o:=.lst []) RI;have abY:H1 LG=none:=inj.free RI;have nLS:¬ bq cells LG:=fun z=>by rw[nQ z] at RI;cases RI
  have kx:∀ {H2:Hp},KQ PN (iA (bq cells) h0 H1) H2->∀a,bq cells a->H2 a=some (kW h0 a):=fun s2 a z=>s2 _ _ (nQ z) (fun e=>nP (e ▸ z));have k1:∀ {H2:Hp} {b:Addr} {o:HO},KQ PN (iA (bq cells) h0 H1) H2->H1 b=some o->Nd o->H2 b=some o:=fun s2 e n=>s2 _ _ (inj _ _ e) (tb.not e n);refine⟨fun m σ H2=>∃ (k:Nat) (E3:Addr) (as:List Addr) (ss ls:Nat->List (Option Nat)),m=most-k/\σ=[some (.ref ha),some (.ref E3),some (.int most),some (.ref f'),some (.ref LG)]/\KQ PN (iA (bq cells) h0 H1) H2/\cp PN (pH (bq cells) H2)/\H2 LG=some (.lst (as.map V.ref))/\Holds H2 as k (fun k=>.tup ((ls k).map oV))/\H2 E3=some (.tup ((ss k).map oV))/\fv n ts homes st k ss ls/\k<=most,⟨_,0,sa,[],fun _=>st,fun _=>st,rfl,rfl,KQ.of s0,?_,af,Holds.nil,s0 _ _ (inj _ _ hS),⟨rfl,fun j hj=>absurd hj (kd _),fun j hj=>absurd hj (kd _),fun j hj=>absurd hj (kd _)⟩,bV _⟩,?_⟩
  .have hz:=on (S:=bq cells) s0;rw[yL nS] at hz;exact tb.same hz
  rintro m σ H2 ⟨k,E3,as,ss,ls,rfl,rfl,s2,t2,M6,Z0,EZ,G,U2⟩;obtain⟨SGk,lk⟩:=G.BE FN SG k (aI _);refine⟨_,rfl,LG,_,rfl,.inl (a8.of M6),_,rfl,_,_,rfl,rfl,_,rfl,?_⟩;rw[aO,Z0.1];have stop:(k<most->Nj (ss k)=false)->∀H3,aG H2 H3->Q (.ref LG) H3:=fun h H3 s3=>q LG k as ss ls H3 G U2 h (t2.same (on s3)) (s2.trans (KQ.of s3)) (kx (s2.trans (KQ.of s3))) RI (s3 _ _ M6) (Z0.mono fun j _ e=>s3 _ _ e);refine dZ (fun e=>?_) (fun e=>⟨_,rfl,stop (fun z=>absurd (cZ (show ((k:Nat):Int)<(most:Int) by lia)) e) H2 (aG.refl _)⟩);have hkm:k<most:=by have:=cQ e;lia
  refine⟨_,rfl,E3,ss k,rfl,EZ,by rw[lk];exact oj,fun r H3 s3 nr qI=>⟨Nj (ss k),.inl ⟨_,a8.of qI,P1⟩,?_⟩⟩;by_cases lv:Nj (ss k)=true
  rotate_left
  .rw[Bool.not_eq_true] at lv;rw[lv];exact T_ ⟨_,rfl,stop (fun _=>lv) H3 s3⟩
  rw[lv];refine MY ⟨_,fun σ' H' z=>z,?_⟩;have RJ:=s2.trans (KQ.of s3);have t3:=t2.same (on (S:=bq cells) s3);have UD:=s3 _ _ M6;have Z1:Holds H3 as k (fun k=>.tup ((ls k).map oV)):=Z0.mono fun j _ e=>s3 _ _ e;have nk:=kx RJ;have su:KN H1 (pH (bq cells) H3):=fun b o e n=>by rw[cM fun z=>by rw[nS b z] at e;cases e];exact k1 RJ e n
  refine⟨_,rfl,.inl ⟨rfl,_,a8.of UD⟩,f',rfl,⟨cells,c,k1 RJ hf (by intro ps z;cases z)⟩,_,rfl,_,rfl,LG,_,rfl,.inl (a8.of UD),?_⟩;refine⟨cells,c,h0,[.ref a,.ref px,.ref ha],k1 RJ hf (by intro ps z;cases z),k1 RJ hc (by intro ps z;cases z),rfl,rfl,LE.mono (fun a z _=>nk a z),fun i x v h1 h2=>?_,?_⟩
  .match i,h1,h2 with
   |0,h1,h2=>cases h1;cases h2;exact ca
   |1,h1,h2=>cases h1;cases h2;exact cb
   |2,h1,h2=>cases h1;cases h2;exact ch
  obtain⟨L3,N3⟩:=NA.kn su;refine⟨_,rfl,_,rfl,_,rfl,_,rfl,_,rfl,L3,a,px,ha,E3,Ci,da,false,tn,_,n,ts,homes,_,rfl,Jf,su _ _ hA (by intro ps z;cases z),N3,su _ _ hH (by intro ps z;cases z),wR nk (s3 _ _ EZ) (by intro p z;cases z),SGk,by rw[lk];exact oj,t3,fun t H4 fs jm t4 s4 nt hd op ow pw ft ht n4=>?_⟩;obtain rfl:=ow rfl;have s5:KQ PN H3 (iA (bq cells) h0 H4):=fun b o e n1=>by
   by_cases c:bq cells b
   .rw[nQ c,<-e,nk b c]
   .rw[bX c];exact s4 b o (by rw[cM c];exact e) n1
  have ht5:iA (bq cells) h0 H4 t=some (.tup (fs.map oV)):=by rw[bX fun z=>by rw[n4 t z] at ht;cases ht];exact ht
  have t5:cp PN (pH (bq cells) (iA (bq cells) h0 H4)):=by rw[yL n4];exact t4
  generalize iA (bq cells) h0 H4=H5 at *;have k5:∀ {b:Addr} {o:HO},H3 b=some o->Nd o->H5 b=some o:=fun {b o} e n=>by
   by_cases c:bq cells b
   .exact s5 _ _ e (fun z=>nP (z ▸ c))
   .have e':pH (bq cells) H3 b=some o:=by rw[cM c];exact e
    exact s5 _ _ e (t3.not e' n)
  have Ut:=k5 UD (by intro ps z;cases z);have s25:=RJ.trans s5;refine⟨LG,_,_,rfl,rfl,Ut,by rw[aO,Z1.1];exact cz (show k<501 by lia) (by decide),?_⟩;have Wj:∀ {b xs},H5 b=some (.tup xs)->b≠LG:=fun {b xs} e=>by rintro rfl;rw[Ut] at e;cases e
  have kp:∀ {b xs o},H5 b=some (.tup xs)->(upd H5 LG o) b=some (.tup xs):=fun {b xs o} e=>by rw[ao (Wj e)];exact e
  have MP:Holds (upd H5 LG (.lst (as.map V.ref++[.ref t]))) (as++[t]) (k+1) (fun j=>.tup (((fun j=>if j=k then fs else ls j) j).map oV)):=by
   refine Holds.snoc ⟨Z1.1,fun j hj=>?_⟩ ?_
   .show _=some (HO.tup ((if j=k then fs else ls j).map oV));rw[aq (by lia)];exact kp (k5 (Z1.2 j hj) (by intro ps z;cases z))
   .show _=some (HO.tup ((if k=k then fs else ls k).map oV));rw[ak rfl];exact kp ht5
  have s26:KQ PN (iA (bq cells) h0 H1) (upd H5 LG (.lst (as.map V.ref++[.ref t]))):=fun b o e n1=>by rw[ao (am e RI)];exact s25 b o e n1
  have t6:cp PN (pH (bq cells) (upd H5 LG (.lst (as.map V.ref++[.ref t])))):=by
   have hu:pH (bq cells) H5 LG=some (.lst (as.map V.ref)):=by rw[cM nLS];exact Ut
   have e:pH (bq cells) (upd H5 LG (.lst (as.map V.ref++[.ref t])))=upd (pH (bq cells) H5) LG (.lst (as.map V.ref++[.ref t])):=funext fun b=>by
    by_cases c:bq cells b
    .rw[iV c,ao (by rintro rfl;exact nLS c),iV c]
    .rw[cM c];by_cases d:b=LG
     .subst d;rw[af,af]
     .rw[ao d,ao d,cM c]
   rw[e];exact t5.putL hu
  have W9:=kp (o:=.lst (as.map V.ref++[.ref t])) ht5;have hL6:(upd H5 LG (.lst (as.map V.ref++[.ref t]))) LG=some (.lst ((as++[t]).map V.ref)):=by rw[af,cR];rfl
  generalize upd H5 LG _=H6 at *;have hl:fs.length=st.length:=by rw[hd.len,lk]
  refine⟨_,rfl,_,rfl,_,rfl,LG,_,_,_,rfl,rfl,a8.of hL6,by rw[cR];exact xr _ _,ha,t,homes,_,rfl,k1 s26 hH (by intro ps z;cases z),W9,by rw[hl];exact SG.len,by rw[hl];exact oj,fun t' H7 s7 YM=>?_⟩;refine⟨most-(k+1),by lia,k+1,t',as++[t],_,_,rfl,rfl,s26.trans (KQ.of s7),t6.same (on s7),s7 _ _ hL6,MP.mono fun j _ e=>s7 _ _ e,?_,G.snoc hd ft,by lia⟩;show _=some (HO.tup ((if k+1=k+1 then lS homes fs else ss (k+1)).map oV));rw[ak rfl];exact YM
theorem U3:aB ["self","homes"] ["self","homes"] (ap Lq):=⟨rfl,rfl,rfl,by decide +kernel,rfl,by decide +kernel,by decide +kernel⟩
theorem Iq{f:Addr}{fd:FuncData}(F:fH K "check_letters" "Rule.check_letters" Lq f fd):bf P w K mg base aY 1 f fd ["self","homes"] Dh:=by
 refine F.ok U3 (fun vs H Q E h=>?_) (fun dR A outer s H vs Q E hr h=>?_)
 .obtain⟨x,y,rfl,_⟩:=h;rfl
 .obtain⟨x,y,rfl,q⟩:=h;exact⟨_,aj Jl,q⟩
theorem U4:aB ["rule","net","homes","stand","most"] ["rule","net","homes","stand","most"] (ap Lp):=⟨rfl,rfl,rfl,by decide +kernel,rfl,by decide +kernel,by decide +kernel⟩
abbrev tCk(Ci:Addr):TE:=xn Ci "check_letters" Dh [] E0 (aT 0) (bB (aT 2) gf)
def Ir(C CE CI CN PN Pr:Addr):Sp:=fun vs H Q _=>∃ (L:Addr->Prop) (a px ha sa Ci da:Addr) (tn:Bool) (n:Nat) (ts:Ts) (homes:List Nat) (st:List (Option Nat)) (most:Nat),vs=[.ref a,.ref px,.ref ha,.ref sa,.int most]/\PU CE CI CN Ci false tn/\H a=some (.ins Ci da [])/\cH C H L px n ts/\H ha=some (.tup (NV homes))/\H sa=some (.tup (st.map oV))/\dP n ts homes st/\st.length<=16/\most<=500/\cp PN H/\EF Pr H/\
 ∀ (r:Addr) (N:Nat) (as:List Addr) (ss ls:Nat->List (Option Nat)) (H':Hp),fv n ts homes st N ss ls->N<=most->(N<most->Nj (ss N)=false)->cp PN H'->EF Pr H'->(∀b o,H b=some o->b≠PN->b≠Pr->H' b=some o)->H' r=some (.lst (as.map V.ref))->Holds H' as N (fun k=>.tup ((ls k).map oV))->Q (.ref r) H'
theorem P5{f c C CE CI CN PN Pr:Addr}{fd:FuncData}(F:rT K "run" "run" Lp f fd c)(kb:K.In base)(hb:qd mg base)(hc:PySem.W.codeHdIn K c Pr=true)(Z2:PN≠Pr)(R:PV P w K mg base C CE CI CN PN)(LB:ce P w K mg base aY 12 "log_by" ["homes","stand","most","handed"] (Ip C CE CI CN PN)):bf P w K mg base aY 13 f fd ["rule","net","homes","stand","most"] (Ir C CE CI CN PN Pr):=by
 obtain⟨f1,d1,m1,b1,G1⟩:=R.cE.ex;obtain⟨f2,d2,m2,b2,G2⟩:=R.cI.ex;refine F.ok U4 (fun vs H Q E h=>?_) (fun A outer s H vs Q E hr h=>?_)
 .obtain⟨L,a,px,ha,sa,Ci,da,tn,n,ts,homes,st,most,rfl,_⟩:=h;rfl
 .obtain⟨L,a,px,ha,sa,Ci,da,tt,n,ts,homes,st,most,rfl,Jf,hA,NA,hH,hS,SG,oj,U1,tn,tb,q⟩:=h;have h1:bD 1 _:=hr.mono (by decide);refine⟨_,ah (cS (BF (dY (pv 0) R.e.cl m1 G1 h1 b1 .nil aA (aa (pv 2) ag)) (dY (pv 0) R.i.cl m2 G2 h1 b2 .nil aA (aa (pv 2) ag)))) (aj (aL (Kr LB hr rfl rfl (aa (pv 2) (aa (pv 3) (aa (pv 4) (aa (vV (NB:=["here","beat","rule","net","homes"]) (src:=[none,none,some 0,some 1,some 2]) (qv kb hb hc) (bz (by kernel_rfl))) ag))))))),?_⟩;have two:∀ (A:Addr->Prop),A Ci->A CE\/A CI:=fun A x=>by
   rcases Jf with ⟨rfl,_⟩|⟨rfl,_⟩|⟨_,z,_⟩
   .exact .inl x
   .exact .inr x
   .cases z
  refine two (fun Ci=>tCk Ci _ H _) ?_;refine⟨_,rfl,a,da,[],rfl,hA,rfl,_,rfl,_,_,rfl,?_⟩;refine⟨_,rfl,_,rfl,_,rfl,tb,fun f' c' H2 Uf h_ z9 xE nS h0 LE cv=>?_⟩;have t2:EF Pr H2:=Uf;have kn:KN H H2:=fun b o e n=>h_ _ _ e (tb.not e n);have tn2:cp PN H2:=cr.eK tn h_ tb.j3 Z2;obtain⟨L2,N2⟩:=NA.kn kn;refine⟨L2,a,px,ha,sa,f',c',Ci,da,tt,n,ts,homes,st,most,_,h0,H2,rfl,rfl,nS,LE,cv 0 "rule" _ rfl rfl rfl,cv 1 "net" _ rfl rfl rfl,cv 2 "homes" _ rfl rfl rfl,Jf,kn _ _ hA (by intro ps z;cases z),N2,kn _ _ hH (by intro ps z;cases z),kn _ _ hS (by intro ps z;cases z),SG,oj,U1,tn2,xE,z9,fun r N as ss ls H' G nm nl tn' s' nk nr pR vD=>?_⟩;have su:KQ PN H2 (pH (bq _) H'):=fun b o e n1=>by
   have c:¬ bq _ b:=fun z=>by rw[nS b z] at e;cases e
   rw[cM c];exact s' b o (by rw[bX c];exact e) n1
  refine⟨nk,q r N as ss ls _ G nm nl tn' ?_ (fun b o e n1 n4=>su _ _ (h_ b o e n4) n1) (wR nk pR (by intro p z;cases z)) (vD.mono fun j _ e=>wR nk e (by intro p z;cases z))⟩;rcases t2 with z|⟨c2,z,y⟩
  .exact .inl (su _ _ z Z2.symm)
  .exact .inr ⟨c2,su _ _ z Z2.symm,su _ _ y (tn2.not y (by intro ps w;cases w))⟩
end
abbrev Z3:Stmt:=top 15
theorem pO:(["handing","homes"]:List Str).Nodup:=by decide +kernel
abbrev P6:Stmt:=top 62
theorem U5:(["_law_other","_law_home_here","_law_stand","_law_out_here"]:List Str).Nodup:=by decide +kernel
theorem EG{e:V->V->Bool}:∀ {xs:List V},iH e xs []=decide (xs=[])
 |[]=>rfl
 |x::xs=>by simp[iH]
theorem Iu{xs:List Nat}:(NV xs).all eZ=true:=by
 unfold NV;rw[List.all_map];exact jp.mpr fun o _=>rfl
theorem Lu{x:Nat}{xs:List Nat}:BS (.int (x:Int)) (NV xs)=decide (x∈xs):=by
 unfold BS NV;rw[jS];simp[nq];exact⟨fun ⟨y,hy,e⟩=>by rwa [show x=y by lia],fun h=>⟨x,h,rfl⟩⟩
section
variable {P:Program} {w:World} {K:PySem.W.Frag} {mg:Str->Option Value} {base:Heap}
theorem Z4:aB ["homes","stand","log"] ["homes","stand","log"] (ap Z3):=⟨rfl,rfl,rfl,by decide +kernel,rfl,by decide +kernel,by decide +kernel⟩
def P7:Sp:=fun vs H Q _=>∃ (ha sa LA:Addr) (n:Nat) (ts:Ts) (homes:List Nat) (st:List (Option Nat)) (N:Nat) (as:List Addr) (ss ls:Nat->List (Option Nat)),vs=[.ref ha,.ref sa,.ref LA]/\H ha=some (.tup (NV homes))/\H sa=some (.tup (st.map oV))/\bR n ts/\dP n ts homes st/\st.length<=16/\N<=500/\fv n ts homes st N ss ls/\iz H LA as N ls/\∀ (r:Addr) (bs:List Addr) (H':Hp),aG H H'->H r=none->iz H' r bs (N+1) ss->Q (.ref r) H'
theorem U6{f:Addr}{fd:FuncData}(F:fH K "stands_of" "stands_of" Z3 f fd)(SB:ce P w K mg base aY 1 "stand_behind" ["homes","handing"] yI):bf P w K mg base aY 2 f fd ["homes","stand","log"] P7:=by
 refine F.ok Z4 (fun vs H Q E h=>?_) (fun dR A outer s H vs Q E hr h=>?_)
 .obtain⟨ha,sa,LA,n,ts,homes,st,N,as,ss,ls,rfl,_⟩:=h;rfl
 .obtain⟨ha,sa,LA,n,ts,homes,st,N,as,ss,ls,rfl,hH,hS,FN,SG,oj,Lk,G,rl,q⟩:=h;have hl:∀k,k<N->(ls k).length=st.length:=fun k hk=>by rw[(G.hd k hk).len,(G.BE FN SG k (by lia)).2]
  have h1:bD 1 _:=hr;refine'⟨_,(aj (aL (aU kG (eN (aa (pv 1) ag)) ?c1))),?_⟩;case c1=>
   refine' bY (g:=(bi 0)) (te:=(pQ yI [] E0 (bB (aT 1) (bB (aT 0) gf)))) (NB:=["handing","homes"]) (src:=[none,some 0]) (bz (by kernel_rfl)) rfl (b_ (pv 2)) ?g ?t ?e;case g=>exact fun cl C s₃ H₃ fp=>(av (i:=0) pO rfl (Or.inl rfl) (Or.inr rfl))
   case t=>exact fun cl C s₃ H₃ fp=>dz
   case e=>exact fun cl C s₃ H₃ fp=>(aw SB h1 aA (aa (pv 1) (aa (pv 0) ag)))
  refine⟨_,rfl,by show 1<=sizeLine;decide,fun L1 EY=>?_⟩;have s1:=ai (o:=.lst [.ref sa]) EY;have Z5:=rl.same s1;refine⟨_,rfl,LA,rfl,⟨_,a8.of Z5.1⟩,fun D hD=>?_⟩;refine eT (xs:=as.map V.ref) (fun i ys σ H2=>(∃x,σ=[x,some (.ref ha)])/\aG (upd H L1 (.lst [.ref sa])) H2/\∃bs:List Addr,ys=bs.map V.ref/\H2 D=some (.lst ys)/\Holds H2 bs i (fun k=>.tup ((ss (k+1)).map oV))) ⟨⟨_,rfl⟩,ai hD,[],rfl,af,Holds.nil⟩ (fun i ys σ H2 _ z=>a8.of (Z5.same z.2.1).1) ?_ ?_
  .rintro i x ys σ H2 Kt Kf hx ⟨⟨x0,rfl⟩,s2,bs,rfl,iZ,ho⟩ kt kf;have hi:i<as.length:=by have:=(cu.mp hx).1;rwa [aO] at this
   rw[bu,b8 hi] at hx;obtain rfl:=bh hx;have U7:=Z5.same s2;have hk:=U7.2.2 i (by rw[<-U7.2.1];exact hi);rw[bZ,b8 hi] at hk;refine⟨_,rfl,_,rfl,ha,as[i],homes,_,rfl,s2 _ _ (s1 _ _ hH),hk,by rw[hl i (by rw[<-rl.2.1];exact hi)];exact SG.len,by rw[hl i (by rw[<-rl.2.1];exact hi)];exact oj,fun t H3 s3 ht=>?_⟩;rw[<-G.nx i (by rw[<-rl.2.1];exact hi)] at ht;have iX:=s3 _ _ iZ;have kp:∀ {b xs u},H3 b=some (.tup xs)->(upd H3 D u) b=some (.tup xs):=fun {b xs u} e=>by rw[ao (by rintro rfl;rw[iX] at e;cases e)];exact e
   refine kt _ _ _ iX (by rw[aO,ho.1];exact cz (show i<501 by have:=rl.2.1;lia) (by decide)) ⟨⟨_,rfl⟩,bP (s2.trans s3) hD,bs++[t],by rw[cR];rfl,af,(ho.mono fun j _ e=>kp (s3 _ _ e)).snoc (kp ht)⟩
  .rintro ys σ H2 ⟨_,s2,bs,rfl,iZ,ho⟩;rw[aO,rl.2.1] at ho;refine⟨L1,D,_,_,rfl,rfl,s2 _ _ af,iZ,?_,fun p hp=>?_⟩
   .rw[aO,ho.1];exact aX (show 1+N<=501 by lia) (by decide)
   have s3:=s2.trans (ai (o:=.lst ([.ref sa]++bs.map V.ref)) hp);refine q p (sa::bs) _ (s1.trans s3) ((s1.trans s2).free hp) ⟨af,by rw[d9,ho.1],fun j hj=>?_⟩;cases j with
   |zero=>show _=some (HO.tup ((ss 0).map oV));rw[G.z];exact s3 _ _ (s1 _ _ hS)
   |succ j=>exact ai hp _ _ (ho.2 j (Nat.lt_of_succ_lt_succ hj))
theorem p_:aB ["_law_pot_here","_law_out_here","_law_most","_law_homes","_law_stand","_law_house","_law_k","_law_home_here","_law_some"] ["_law_pot_here","_law_out_here","_law_most"] (ap P6):=⟨rfl,rfl,rfl,by decide +kernel,rfl,by decide +kernel,by decide +kernel⟩
def Iv:Sp:=fun vs H Q _=>∃ (p:Addr) (n:Nat) (r:Addr) (ts:Ts) (L:Addr->Prop),vs=[.ref p,.ref r,.int 16]/\2<=n/\n<=32/\bw H p/\ff H L r n (bg n ts)/\L r/\¬ L p/\
 ∀ (t a b:Addr) (homes:List Nat) (st:List (Option Nat)) (H':Hp),aK p H H'->bw H' p->H' t=some (.tup [.ref a,.ref b])->H' a=some (.tup (NV homes))->H' b=some (.tup (st.map oV))->dP n ts homes st->st.length<=16->Q (.ref t) H'
theorem BH{f:Addr}{fd:FuncData}(F:fH K "_law_letters" "_law_letters" P6 f fd)(B:Bl mg)(D:ce P w K mg base aY 1 "_law_draw" ["_law_pot_here","_law_many"] g7):bf P w K mg base aY 2 f fd ["_law_pot_here","_law_out_here","_law_most"] Iv:=by
 refine F.ok p_ (fun vs H Q E h=>?_) (fun dR A outer s H vs Q E hr h=>?_)
 .obtain⟨p,n,r,ts,L,rfl,_⟩:=h;rfl
 .obtain⟨p,n,r,ts,L,rfl,n1,n2,hp,R0,Z6,Z7,q⟩:=h;refine'⟨_,(ah (fT (dB (aa (eN ag) (aa (eN ag) ag))) (dW (n:=2) rfl (aR (av (i:=3) p_.nd rfl (Or.inl rfl)) (aR (av (i:=4) p_.nd rfl (Or.inr rfl)) cT))))
   (ah (aF (i:=5) p_.nd rfl (Or.inl rfl) au)
   (ah (cD dt rfl (br rfl B.range (aa (aU di au (aw D hr aA (aa (pv 0) (aa (pv 2) ag)))) ag)) (av (i:=6) p_.nd rfl (Or.inl rfl))
    (ah (aF (i:=7) p_.nd rfl (Or.inr rfl) (aw D hr aA (aa (pv 0) (aa (aN aQ (by rfl) B.len d_ (aa (pv 1) ag)) ag))))
    (ah (eO (i:=8) (g:=(bi 0)) (tt:=(R6 (io (ja (rNe) (aT 0) (aT 1))) (io (ja (wX fun i j=>.bl (decide (i<j))) (XN K "list" Gp (aT 2) (bB (aT 0) gf)) (NW (fun xs H Q=>∃p ys,xs=[V.ref p]/\(a8 K H p ys\/bJ K H p ys)/\Q (.int ys.length) H) (bB (ja (xt K) (aT 3) (aT 0)) gf)))))) (te:=(aT 0)) (NB:=["_law_other","_law_home_here","_law_stand","_law_out_here"]) (src:=[none,some 7,some 4,some 1]) (bz (by kernel_rfl)) rfl (br rfl B.range (aa (aN aQ (by rfl) B.len d_ (aa (pv 1) ag)) ag)) ?g1 ?t1 ?e1 p_.nd rfl rfl rfl)
    (ah (cw (PW.pt (rD (aP (Oc (e:=nq) hr.u) (pv 8) (eN ag) (aW _)) (qr (aP rH (aw D hr aA (aa (pv 0) (aa au ag))) au (aW _))))) (ah (cw (PW.pt (BM (aP ny (pv 5) (pv 8) rfl) (Aa (aP gR (aw D hr aA (aa (pv 0) (aa au ag))) au (aW _))))) (aj (aF (i:=5) p_.nd rfl (Or.inl rfl) (a7 aV (pv 8) (aw D hr aA (aa (pv 0) (aa (aN aQ (by rfl) B.len d_ (aa (pv 8) ag)) ag))) (fun _ _=>rfl)))) be)
     (aj (cS (iG iD lF lE dJ (pv 4) (aa (pv 5) ag))))) (aj (cS (iG iD lF lE dJ (pv 4) (aa dU ag)))))
    (aj (cS (iG iD lF lE dJ (pv 3) (aa (pv 7) ag))))))))
   (aj (aL (dB (aa (bW et (by rfl) B.tup qR (aa (pv 3) ag)) (aa (bW et (by rfl) B.tup qR (aa (pv 4) ag)) ag)))))))),?_⟩
  case g1=>exact fun cl C s₃ H₃ fp=>(av (i:=0) U5 rfl (Or.inl rfl) (Or.inr rfl))
  case t1=>exact fun cl C s₃ H₃ fp=>d5 (PW.pt (rD (aP rG (pv 0) (pv 1) (aW _)) (qr (aP lM (iG iD PySem.F.slot_list_count PySem.F.type_list_count Gq (pv 2) (aa (pv 0) ag)) (aN aQ (by rfl) B.len d_ (aa (a7 aV (pv 3) (pv 0) (fun _ _=>rfl)) ag)) (aW _)))))
  case e1=>exact fun cl C s₃ H₃ fp=>(pv 0)
  refine⟨by show 0<=sizeLine;decide,fun Hs Z8=>⟨by show 0<=sizeLine;decide,fun St W_=>⟨by show 2<=sizeLine;decide,fun T0 UC=>⟨T0,_,rfl,bJ.of af,rfl,_,_,rfl,_,_,rfl,rfl,?_⟩⟩⟩⟩;have s1:=ai (o:=.lst []) Z8;have s2:=s1.trans (ai (o:=.lst []) W_);have s3:=s2.trans (ai (o:=.tup [.ref Hs,.ref St]) UC);have fS:=s1.free W_;have gH:=ai (o:=.tup [.ref Hs,.ref St]) UC _ _ (ai (o:=.lst []) W_ _ _ (af (H:=H) (a:=Hs) (o:=.lst [])));have gS:=ai (o:=.tup [.ref Hs,.ref St]) UC _ _ (af (H:=upd H Hs (.lst [])) (a:=St) (o:=.lst []));have nHS:Hs≠St:=am af W_;have RK:=hp.ne Z8;have Nk:=hp.ne fS;generalize upd (upd (upd H Hs _) St _) T0 _=H1 at *;have sX:=hp.same s3;refine⟨_,rfl,_,rfl,p,16,rfl,by decide,by decide,sX,fun d H3 hd s6 CV=>⟨_,_,rfl,rfl,1+(d:Int),rfl,by lia,by lia,?_⟩⟩;rw[show (1+(d:Int)).toNat=1+d by lia];refine c_ (n:=1+d) (lo:=0) (fun i σ Hc=>∃ (ho:Nat) (homes:List Nat) (st:List (Option Nat)),(∃b c e,σ=[some (.ref p),some (.ref r),some (.int 16),some (.ref Hs),some (.ref St),some (.int (ho:Int)),b,c,e])/\aK p H Hc/\bw Hc p/\Hc Hs=some (.lst (NV homes))/\Hc St=some (.lst (st.map oV))/\st.length=i/\dP n ts homes st)
   ⟨0,[],[],⟨_,_,_,rfl⟩,(aK.of s3).trans s6,CV,s6 _ _ gH RK,s6 _ _ gS Nk,rfl,rfl,fun x hx=>(nomatch hx),(fun i y e=>by rw[List.getElem?_nil] at e;cases e),fun y hy=>bV _⟩ ?_ ?_
  .rintro i σ Hc hi ⟨ho,homes,st,⟨x6,x7,x8,rfl⟩,sc,tP,Na,ED,Ra,SD⟩;have Rc:ff Hc L r n (bg n ts):=R0.keep Z6 fun b o l e=>sc b o e fun z=>Z7 (z ▸ l);obtain⟨bs,b1,b2,b3⟩:=Rc;have bl:(bs.map V.ref).length=n:=by rw[aO,b3.1]
   refine⟨_,rfl,_,rfl,r,_,rfl,.inl (a8.of b1),p,(bs.map V.ref).length,rfl,by lia,by lia,tP,fun home H4 Nl s7 yC=>?_⟩;rw[bl] at Nl;have UB:=sc.trans s7;have nrp:r≠p:=fun z=>Z7 (z ▸ Z6);have R4:ff H4 L r n (bg n ts):=R0.keep Z6 fun b o l e=>UB b o e fun z=>Z7 (z ▸ l);obtain⟨bs,b1,b2,b3⟩:=R4;have bl:(bs.map V.ref).length=n:=by rw[aO,b3.1]
   have Z9:=s7 _ _ ED Nk;refine⟨_,rfl,r,_,rfl,.inl (a8.of b1),(((bs.map V.ref).length:Nat):Int),rfl,by lia,by lia,fun D1 yW=>?_⟩;rw[lJ,bl];refine wC (lo:=0) (n:=n) (fun x=>decide (x≠home)&&decide ((st.map oV).countP (fun z=>nq z (.int (x:Int)))<(bg n ts x).length)) (fun σ=>∃a,σ=[a,some (.int (home:Int)),some (.ref St),some (.ref r)]) yW (by lia) ⟨_,rfl⟩ ?_ ?_
   .rintro x σ H5 Kt Kf hx ⟨a',rfl⟩ EX kt kf;rw[fP] at kt |-;refine⟨_,rfl,_,rfl,rfl,_,rfl,?_⟩;refine dZ (fun c=>?_) (fun c=>?_)
    .have c:x≠home:=by have:=c;simp at this;lia
     have gb:(bs.map V.ref)[x]?=some (.ref (bs.getD x 0)):=by
      rw[bu,bZ,b8 (by rw[b3.1];exact hx)];rfl
     have Xa:=EX _ _ Z9;refine⟨_,rfl,.inl ⟨rfl,_,a8.of Xa⟩,_,rfl,St,_,_,rfl,rfl,Xa,rfl,jk,_,rfl,_,rfl,r,_,_,_,rfl,rfl,a8.of (EX _ _ b1),aH gb,_,_,rfl,.inl (a8.of (EX _ _ (b3.2 x hx))),_,_,rfl,rfl,_,rfl,?_⟩;rw[aS];refine dZ (fun c2=>?_) (fun c2=>?_)
     .have c2:=cQ c2;exact⟨_,rfl,kt _ _ ⟨_,rfl⟩ (aG.refl _) (by rw[cZ c,cZ (by lia)];rfl)⟩
     .exact kf _ _ ⟨_,rfl⟩ (aG.refl _) (by rw[fA (show ¬ (st.map oV).countP (fun z=>nq z (.int (x:Int)))<(bg n ts x).length from fun z=>c2 (cZ (by lia))),Bool.and_false])
    .have c:x=home:=by have:=c;simp at this;lia
     refine iq (kf _ _ ⟨_,rfl⟩ (aG.refl _) (by simp[c]))
   intro H5 s8 yY;have e0:∀c:Nat->Bool,(((List.range n).filter c).map fun (x:Nat)=>V.int (0+(x:Int)))=NV ((List.range n).filter c):=fun c=>jO fun x _=>by rw[fP]
   rw[e0] at yY;have Zk:∀x∈(List.range n).filter (fun x=>decide (x≠home)&&decide ((st.map oV).countP (fun z=>nq z (.int (x:Int)))<(bg n ts x).length)),x<n/\x≠home/\st.count (some x)<(bg n ts x).length:=fun x hx=>by
    obtain⟨a,b⟩:=cC.mp hx;rw[fL] at b;exact⟨bv.mp a,cQ b.1,by rw[<-HX];exact cQ b.2⟩
   have hfl:((List.range n).filter (fun x=>decide (x≠home)&&decide ((st.map oV).countP (fun z=>nq z (.int (x:Int)))<(bg n ts x).length))).length<=32:=aX (g8 _ _) (by rw[dQ];exact n2);generalize (List.range n).filter _=fs at *;have Ux:=UB.trans (aK.of s8);have K6:=yC.same s8;have hH5:=s8 _ _ (s7 _ _ Na RK);have Xa:=s8 _ _ Z9;have Pe:D1≠p:=yC.ne yW;clear s7 s8 Na ED Z9 tP sc;dsimp only;refine yp (fun σ H6=>∃ (ho:Nat) (o:Option Nat),(∃a,σ=[some (.ref p),some (.ref r),some (.int 16),some (.ref Hs),some (.ref St),some (.int (ho:Int)),a,some (.int (home:Int)),some (.ref D1)])/\aK p H H6/\bw H6 p/\H6 Hs=some (.lst (NV homes))/\H6 St=some (.lst (st.map oV++[oV o]))/\∀y,o=some y->y<n/\y≠home/\st.count (some y)<(bg n ts y).length) ?_ ?_
   .rintro σ H6 ⟨vD,o,⟨x6,rfl⟩,Uz,Jb,Pf,W0,Z_⟩;refine⟨_,rfl,.inl ⟨rfl,_,a8.of Pf⟩,_,rfl,Hs,_,_,rfl,rfl,Pf,by rw[aS,SD.len];exact cz (show st.length<33 by lia) (by decide),?_⟩;exact⟨vD,homes++[home],st++[o],⟨_,_,_,rfl⟩,aK.put Uz Z8,Jb.put RK.symm,by rw[af,ie],by rw[ao nHS.symm,W0,cR];rfl,by rw[dE,Ra];rfl,SD.snoc Nl fun y e=>by obtain⟨a,b,c⟩:=Z_ y e;exact⟨a,b,c⟩⟩
   .intro N hN;have app:∀ {H6:Hp} {o:Option Nat} {vD:Nat} {x6:Option V},aK p H H6->bw H6 p->H6 Hs=some (.lst (NV homes))->H6 St=some (.lst (st.map oV))->(∀y,o=some y->y<n/\y≠home/\st.count (some y)<(bg n ts y).length)->N [some (.ref p),some (.ref r),some (.int 16),some (.ref Hs),some (.ref St),some (.int (vD:Int)),x6,some (.int (home:Int)),some (.ref D1)] (upd H6 St (.lst (st.map oV++[oV o]))):=fun {H6 o vD x6} Uz Jb Pf W0 Z_=>hN _ _ ⟨vD,o,⟨_,rfl⟩,aK.put Uz fS,Jb.put Nk.symm,by rw[ao nHS];exact Pf,af,Z_⟩;have bnd:∀ {xs:List V},xs=st.map oV->xs.length<sizeLine:=fun e=>by rw[e,aO];exact cz (show st.length<33 by lia) (by decide)
    refine⟨_,rfl,by show 0<=sizeLine;decide,fun E1 hE1=>?_⟩;have sE:=ai (o:=.lst []) hE1;refine⟨D1,E1,_,[],rfl,rfl,a8.of (sE _ _ yY),a8.of af,fun i h1 h2=>absurd h2 (by simp),_,rfl,?_⟩;rw[ak rfl,EG];have sH7:=Ux.trans (aK.of sE);have hp7:=K6.same sE;have hH7:=sE _ _ hH5;have P8:=sE _ _ Xa;have hL7:=sE _ _ yY;by_cases e:NV fs=[]
    .rw[cZ e];refine iq (iq ⟨_,rfl,.inl ⟨rfl,_,a8.of P8⟩,St,_,_,rfl,rfl,P8,bnd rfl,app (o:=none) sH7 hp7 hH7 P8 fun y hy=>(nomatch hy)⟩)
    .rw[fA e];have hl:0<fs.length:=by
      rcases fs with _|⟨x,xs⟩
      .exact absurd rfl e
      .simp
     refine xz ⟨_,rfl,p,8,rfl,by decide,by decide,hp7,fun d6 H8 P9 s8 RB=>⟨_,_,rfl,rfl,_,rfl,dZ (fun c=>?_) (fun c=>?_)⟩⟩
     .have U8:=s8 _ _ hL7 Pe;have W3:=sH7.trans s8;have hH8:=s8 _ _ hH7 RK;have hS8:=s8 _ _ P8 Nk;refine yp (fun σ H9=>∃y:Nat,(∃a,σ=[some (.ref p),some (.ref r),some (.int 16),some (.ref Hs),some (.ref St),some (.int (y:Int)),a,some (.int (home:Int)),some (.ref D1)])/\aK p H8 H9/\bw H9 p/\y∈fs) ?_ ?_
      .rintro σ H9 ⟨y,⟨x6,rfl⟩,s9,RM,hy⟩;have hS9:=s9 _ _ hS8 Nk;refine⟨_,rfl,.inl ⟨rfl,_,a8.of hS9⟩,_,rfl,St,_,_,rfl,rfl,hS9,bnd rfl,app (o:=some y) (W3.trans s9) RM (s9 _ _ hH8 RK) hS9 fun z hz=>?_⟩;cases hz;exact Zk y hy
      .intro N2 hN2;refine⟨_,rfl,_,rfl,D1,_,rfl,.inl (a8.of U8),rfl,Iu,_,rfl,?_⟩;have aaa:=Lu (x:=ho) (xs:=fs);refine dZ (fun c=>xz ?_) (fun c=>?_)
       .refine⟨_,rfl,_,rfl,_,rfl,D1,_,rfl,.inl (a8.of U8),p,_,rfl,by rw[aS];exact hl,by rw[aS];lia,RB,fun d7 H9 P_ s9 RM=>?_⟩;rw[aS] at P_;exact⟨D1,_,_,_,rfl,rfl,a8.of (s9 _ _ U8 Pe),aH (fE P_),hN2 _ _ ⟨_,⟨_,rfl⟩,s9,RM,by rw[cV P_];exact fh _⟩⟩
       .refine⟨_,rfl,p,2,rfl,by decide,by decide,RB,fun d2 H9 hd2 s9 RM=>⟨rfl,_,rfl,dZ (fun c2=>?_) (fun c2=>?_)⟩⟩
        .refine⟨_,rfl,_,rfl,_,rfl,D1,_,rfl,.inl (a8.of (s9 _ _ U8 Pe)),p,_,rfl,by rw[aS];exact hl,by rw[aS];lia,RM,fun d7 Jg P_ U9 aab=>?_⟩;rw[aS] at P_;exact⟨D1,_,_,_,rfl,rfl,a8.of (U9 _ _ (s9 _ _ U8 Pe) Pe),aH (fE P_),hN2 _ _ ⟨_,⟨_,rfl⟩,s9.trans U9,aab,by rw[cV P_];exact fh _⟩⟩
        .refine hN2 _ _ ⟨ho,⟨_,rfl⟩,s9,RM,?_⟩;have c:=c;simp[aaa] at c;exact c
     .exact⟨_,rfl,.inl ⟨rfl,_,a8.of (s8 _ _ P8 Nk)⟩,St,_,_,rfl,rfl,s8 _ _ P8 Nk,bnd rfl,app (o:=none) (sH7.trans s8) RB (s8 _ _ hH7 RK) (s8 _ _ P8 Nk) fun y hy=>(nomatch hy)⟩
  .rintro σ Hc ⟨ho,homes,st,⟨x6,x7,x8,rfl⟩,sc,tP,Na,ED,Ra,SD⟩;refine⟨_,rfl,Hs,_,rfl,.inl ⟨a8.of Na,fun a ha=>?_⟩⟩;have sa:=ai (o:=.tup (NV homes)) ha;refine⟨_,rfl,St,_,rfl,.inl ⟨a8.of (sa _ _ ED),fun b hb=>⟨by show 2<=sizeLine;decide,fun t ht=>?_⟩⟩⟩;have sb:=ai (o:=.tup (st.map oV)) hb;have aD:=ai (o:=.tup [.ref a,.ref b]) ht;exact q t a b homes st _ (((sc.trans (aK.of sa)).trans (aK.of sb)).trans (aK.of aD)) (((tP.same sa).same sb).same aD) af (aD _ _ (sb _ _ af)) (aD _ _ af) SD (by lia)
end
end qi
namespace L2
open PySem PySem.Spec PyProof.Rows
def Lv:V->List V->Hp->VK->Prop:=fun x vs H Q=>∃ (l:Addr) (xs:List V) (y:V),x=.ref l/\vs=[y]/\H l=some (.tup xs)/\eZ y=true/\xs.all eZ=true/\Q (.int (xs.countP fun z=>nq z y)) H
theorem uN{X:Cx}:Sx X "tuple.count" Lv:=by
 intro ae s σ H x vs v us Q I rx rv h;obtain⟨l,xs,y,rfl,rfl,hH,fy,fs,q⟩:=h;cases rx;obtain⟨u,rfl,ru⟩:=rv.one;obtain⟨its,r,⟨o,e,hc,n,d⟩,_⟩:=I.tuple (bJ.of hH);obtain⟨oc,od,odt,wZ⟩:=o;obtain rfl:oc=.type "tuple":=hc;obtain rfl:odt=.seq its.toArray n:=d;refine md F.slot_tuple_count ⟨_,e,rfl⟩ F.entry_tuple_count (F.args_tuple_count_2 _ _) (SeqAt.tuple_countAt l its.toArray n od wZ u (ua y)) ⟨e,fun w hw=>ip ru fy r fs w (by simpa using hw),?_⟩;refine⟨.int _,H,I.tok _,⟨s.toks,?_⟩,q⟩;rw[show its.toArray.toList=its by simp,mv r fs]
def aac(r:V->List V->Hp->VK->Prop)(to:TE)(t:TA):TE:=fun σ H Q=>to σ H fun x H1=>(∃p xs,x=.ref p/\H1 p=some (.tup xs))/\t σ H1 fun xs H2=>r x xs H2 Q
theorem Iw{X:Cx}{o e:Expr}{es:List Expr}{to:TE}{t:TA}{name:Str}{kF jC:Pos}{id:String}{r:V->List V->Hp->VK->Prop}(pa:PlainAttrs "tuple")(slot:Slot "tuple" name id)(Sw:typeOf (.builtin id)=pure (.type "method_descriptor"))(hm:Wr X id r)(ho:PE X o to)(ha:PA X (e::es) t)(xu:attributeBase o name X.env (eval o X.env)=eval o X.env:=by rfl)(NZ:((backTo jC (starEach (e::es) X.env)).all (fun x=>!x.1)&&(backToKw jC (keywordEach [] X.env)).all (fun x=>x.1.isSome)
   && decide ((e::es).length+([]:List Keyword).length+(if ([]:List Keyword).isEmpty then 0 else 1)<30))=true:=by rfl)(xv:(kF.endLine==jC.line)=true:=by rfl)(hs:starEach (e::es) X.env=(false,eval e X.env)::starEach es X.env:=by rfl)(rN:(backTo jC (starEach es X.env)).any (·.1)=false:=by rfl):
  PE X (.Call (.Attribute o name kF) (e::es) [] jC) (aac r to t):=by
 intro ae s σ H Q I h;refine wpAny_Call_method_late xu NZ xv rfl (cJ (ho ae s σ H _ I h) fun v s1 ⟨x,H1,I1,r1,ty,q1⟩=>?_);obtain⟨p,xs,rfl,hp⟩:=ty;cases r1;obtain⟨_,_,_,ob,e1,e2,_,_,e3⟩:=(show cg X.prog X.w H1 s1.heap p (.tup xs) from I1.bE p _ hp)
 refine⟨"tuple",id,pa,slot,Sw,⟨ob,e1,e2⟩,fun a z=>by cases z;exact⟨ob,e1,e3⟩,?_⟩;have hA:=ha jC ae s1 σ H1 _ I1 q1;rw[hs] at hA |-;refine zC (by show (false||(backTo jC (starEach es X.env)).any (·.1))=false;rw[rN] <;> rfl) (Calls.evalArgs_plain ?_);exact cJ hA fun us s2 ⟨vs,H2,I2,r2,q2⟩=>hm ae s2 σ H2 (.ref p) vs (.ref p) us Q I2 rfl r2 q2
def U_(K:PySem.W.Frag):List V->Hp->VK->Prop:=fun xs H Q=>∃ (l:Addr) (ns:List Int),xs=[.ref l]/\a8 K H l (ns.map V.int)/\ns≠[]/\∀M,M∈ns->(∀a∈ns,M<=a)->Q (.int M) H
theorem EH{X:Cx}(hc:X.calm=true):fU X (.builtin "min") (U_ X.K):=by
 intro ae s σ H xs us Q I r h;obtain⟨l,ns,rfl,hl,jb,q⟩:=h;obtain⟨u1,rfl,r1⟩:=r.one;obtain rfl:u1=Value.ref l:=r1;obtain⟨its,rv,pl,_⟩:=I.list hl;obtain⟨ps,rfl,rfl⟩:=sj rv;have hi:intItems ps.toArray=(ps.map (fun p=>Value.int p.1 p.2)).toArray:=by unfold intItems;simp
 have hsz:0<ps.toArray.size:=by
  cases ps with
  |nil=>exact absurd rfl jb
  |cons p ps=>simp
 refine min_intList (I.ok.hd hc) (xs:=ps.toArray) (by rw[hi];exact pl.isList) hsz fun v h' tk hv hk=>?_;obtain⟨t,rfl⟩:=intItems_at hv;obtain⟨h1,h2⟩:=argBest_lt (numAt ps.toArray) (ps.toArray.size-1);have num:∀j,j<ps.length->numAt ps.toArray j∈ps.map (·.1)/\numAt ps.toArray j=(ps.map (·.1)).getD j 0:=fun j hj=>by
  have e:numAt ps.toArray j=ps[j].1:=by unfold numAt;simp[b8 hj]
  refine⟨by rw[e];exact bj.mpr ⟨_,fh hj,rfl⟩,?_⟩;rw[e,bZ,bu,b8 hj];rfl
 have hb:argBest (fun i j=>decide (numAt ps.toArray i<numAt ps.toArray j)) (ps.toArray.size-1)<ps.length:=by
  have:ps.toArray.size=ps.length:=by simp
  lia
 refine⟨.int _,H,I.kept (t':=tk) hk,⟨t,rfl⟩,q _ (num _ hb).1 fun a ha=>?_⟩;obtain⟨j,hj,e⟩:=lH.mp ha;rw[aO] at hj;have:=h2 j (by (have:ps.toArray.size=ps.length:=by simp);lia);rw[(num j hj).2,bZ,b8 (by rw[aO];exact hj)] at this;rw[<-e];exact this
end L2
namespace qi
open PySem L2 gg
abbrev sEB:Stmt:=top 20
abbrev Qa:Stmt:=top 63
abbrev sLH:Stmt:=top 64
theorem sR:(["_law_k","_law_house"]:List Str).Nodup:=by decide +kernel
theorem Qb:(["_law_far"]:List Str).Nodup:=by decide +kernel
theorem pM.eq{n:Nat}{ts:Ts}{M M':Nat}(a:pM n ts M)(b:pM n ts M'):M=M':=by
 obtain⟨⟨i,j,hi,hj,e⟩,f⟩:=a;obtain⟨⟨i',j',sZ,Gd,e'⟩,f'⟩:=b;have:=f i' j' sZ Gd;have:=f' i j hi hj;lia
def yM(n:Nat)(ts:Ts)(homes:List Nat)(st:List (Option Nat))(l B:Nat):Prop:=∃f y0 M,pM n ts M/\(dM st st.length).head?=some f/\st.getD f none=some y0/\B=far ts y0 (homes.getD f 0)+M*(dM st l).length
theorem yM.eq{n:Nat}{ts:Ts}{homes:List Nat}{st:List (Option Nat)}{l B B':Nat}(a:yM n ts homes st l B)(b:yM n ts homes st l B'):B=B':=by
 obtain⟨f,y0,M,h1,h2,h3,rfl⟩:=a;obtain⟨f',y0',M',h1',h2',h3',rfl⟩:=b;rw[h2] at h2';cases h2';rw[h3] at h3';cases h3';rw[h1.eq h1']
theorem uO{st:List (Option Nat)}{l:Nat}(h:st.getD l none≠none):∃f y0,(dM st st.length).head?=some f/\st.getD f none=some y0/\(NV (dM st st.length))[0]?=some (.int (f:Int)):=by
 obtain⟨y,e⟩:=uQ.mp h;have:=k_ e;cases q:dM st st.length with
 |nil=>rw[q] at this;cases this
 |cons f r=>
  obtain⟨_,b⟩:=lx (st:=st) (i:=st.length) (j:=f) (by rw[q];exact bL);exact⟨f,_,rfl,b,rfl⟩
theorem Lw{f:Nat->Nat}{xs:List Nat}:(uH f xs).map (·.2)=(xs.map fun (x:Nat)=>((f x:Nat):Int)).map V.int:=by unfold uH;rw[dH,dH];rfl
theorem Lx{K:PySem.W.Frag}{sa D:Addr}{st:List (Option Nat)}{dS:Hp->Prop}{H:Hp}(hS:H sa=some (.tup (st.map oV)))(hl:st.length<=16)(hD:H D=none)(q:∀H',aG H H'->H' D=some (.lst (NV (dM st st.length)))->dS H'):
  hV (AI K sa) (mY K 2 (dI (bi 0) (dI (bi 1) mX))) (io (ja C6 (aT 1) (tC .cf))) (aT 0) D dS [none,none] (upd H D (.lst [])):=by
 refine rY (K:=K) (a:=sa) (xs:=st.map oV) (fun i ys σ H3=>(∃u v,σ=[u,v])/\ys=NV (dM st i)/\aG H H3/\H3 D=some (.lst ys)) ⟨⟨_,_,rfl⟩,rfl,ai hD,af⟩ (fun i ys σ H3 _ z=>bJ.of (z.2.2.1 _ _ hS)) ?_ ?_
 .rintro i x t ys σ H3 Kt Kf hx ⟨⟨u,v,rfl⟩,rfl,sm,iX⟩ ht kt kf;obtain⟨hi,rfl⟩:=wJ hx;have aD:=ai (o:=.tup [.int (i:Int),oV (st.getD i none)]) ht;refine⟨_,_,rfl,bJ.of af,rfl,_,_,rfl,_,_,rfl,rfl,?_⟩;refine⟨_,rfl,rfl,_,rfl,?_⟩;rw[oh];refine dZ (fun e=>?_) (fun e=>?_)
  .refine⟨_,rfl,kt _ _ _ (aD _ _ iX) (by rw[aS];exact fK nZ (cz (show i<17 by lia) (by decide))) ⟨⟨_,_,rfl⟩,?_,bP (sm.trans aD) hD,af⟩⟩;rw[gX,ak e,ie]
  .refine kf _ _ ⟨⟨_,_,rfl⟩,?_,sm.trans aD,aD _ _ iX⟩;rw[gX,aq e,i9]
 .rintro ys σ H3 ⟨_,rfl,sm,iX⟩;rw[aO] at iX;exact q H3 sm iX
section
variable {P:Program} {w:World} {K:PySem.W.Frag} {mg:Str->Option Value} {base:Heap}
theorem Qc:aB ["net","homes","stand","letter","letters","first"] ["net","homes","stand","letter"] (ap sEB):=⟨rfl,rfl,rfl,by decide +kernel,rfl,by decide +kernel,by decide +kernel⟩
def Qd(C:Addr):Sp:=fun vs H Q _=>∃ (L:Addr->Prop) (px ha sa:Addr) (n:Nat) (ts:Ts) (homes:List Nat) (st:List (Option Nat)) (l:Nat),vs=[.ref px,.ref ha,.ref sa,.int l]/\cH C H L px n ts/\H ha=some (.tup (NV homes))/\H sa=some (.tup (st.map oV))/\dP n ts homes st/\st.length<=16/\st.getD l none≠none/\∀ (B:Nat) H',aG H H'->yM n ts homes st l B->Q (.int (B:Int)) H'
theorem Va{f C:Addr}{fd:FuncData}(F:fH K "elder_bound" "elder_bound" sEB f fd)(T:NT K mg C)(UW:ce P w K mg base aY 1 "under_way" ["stand"] EA)(MF:iB P w K mg base aY 5 C "far" ["self","one","other"] (pK C))(MS:iB P w K mg base aY 1 C "span" ["self"] (Bk C)):bf P w K mg base aY 6 f fd ["net","homes","stand","letter"] (Qd C):=by
 obtain⟨fF,fdF,mF,bF,GF⟩:=MF.ex;obtain⟨fS,fdS,mS,bS,GS⟩:=MS.ex;refine F.ok Qc (fun vs H Q E h=>?_) (fun dR A outer s H vs Q E hr h=>?_)
 .obtain⟨L,px,ha,sa,n,ts,homes,st,l,rfl,_⟩:=h;rfl
 .obtain⟨L,px,ha,sa,n,ts,homes,st,l,rfl,N,hH,hS,SG,oj,hl,q⟩:=h;have h1:bD 1 _:=hr.mono (by decide);refine⟨_,(ah (aF (i:=4) Qc.nd rfl (Or.inl rfl) (aw UW h1 aA (aa (pv 2) ag)))
   (ah (aF (i:=5) Qc.nd rfl (Or.inl rfl) (a7 aV (pv 4) au (fun _ _=>rfl)))
   (aj (aL (aU di (dY (pv 0) T.cl mF GF hr bF .nil aA (aa (a7 df (pv 2) (pv 5) (fun _ _=>rfl)) (aa (a7 df (pv 1) (pv 5) (fun _ _=>rfl)) ag))) (aU fV (FJ (pv 0) T.cl mS GS h1 bS .nil aA) (iG iD y8 PySem.F.type_list_index yy (pv 4) (aa (pv 3) ag)))))))),?_⟩
  obtain⟨f0,y0,hd,ey,Rl⟩:=uO hl;obtain⟨a0,a1,a2,_⟩:=SG.at ey;obtain⟨y,el⟩:=uQ.mp hl;refine⟨_,rfl,sa,st,rfl,hS,oj,fun r H1 s1 _ tK=>?_⟩;have N1:=N.same s1;have hN1:∃dx fs,H1 px=some (.ins C dx fs)/\fs.lookup ("far":Str)=none/\fs.lookup ("span":Str)=none:=by
   obtain⟨dx,tl,ol,ds,a,_⟩:=N1.ob;exact⟨dx,_,a,OK _ _ _ _,nV _ _ _ _ (by decide +kernel) (by decide +kernel) (by decide +kernel) (by decide +kernel)⟩
  obtain⟨dx,fs,iN,nF,nS⟩:=hN1;have hh:(NV homes)[f0]?=some (.int ((homes.getD f0 0:Nat):Int)):=fE (by rw[SG.len];exact a0);refine⟨_,rfl,r,_,_,_,rfl,rfl,a8.of tK,aH (j:=0) Rl,?_⟩;refine⟨_,rfl,px,dx,fs,rfl,iN,nF,_,rfl,_,rfl,sa,_,_,_,rfl,rfl,bJ.of (s1 _ _ hS),aH (by rw[iy a0,ey];rfl),_,rfl,_,rfl,ha,_,_,_,rfl,rfl,bJ.of (s1 _ _ hH),aH hh,_,px,n,ts,y0,_,rfl,N1,a1,a2,?_⟩;refine⟨_,rfl,px,dx,fs,rfl,iN,nS,_,px,n,ts,rfl,N1,fun M H2 s2 Nm=>?_⟩;have e1:NV (dM st st.length)=((dM st st.length).map fun (x:Nat)=>(x:Int)).map V.int:=by unfold NV;rw[dH];rfl
  have HS:=s2 _ _ tK;rw[e1] at HS;refine⟨_,rfl,.inl ⟨rfl,_,a8.of HS⟩,_,rfl,r,_,(l:Int),rfl,rfl,HS,bj.mpr ⟨l,k_ el,rfl⟩,?_⟩;rw[wQ,Df (k9 el) hl];have m31:M<32:=by
   obtain⟨⟨i,j,hi,hj,e⟩,_⟩:=Nm;have:=Bn N.gw hi hj;have:=N.gw.n2;lia
  refine⟨_,_,rfl,rfl,.inl ⟨by lia,by lia⟩,_,_,rfl,rfl,?_⟩;have:=q (far ts y0 (homes.getD f0 0)+M*(dM st l).length) H2 (s1.trans s2) ⟨f0,y0,M,Nm,hd,ey,rfl⟩;rw[show (((far ts y0 (homes.getD f0 0)+M*(dM st l).length:Nat)):Int)=((far ts y0 (homes.getD f0 0):Nat):Int)+(M:Int)*(((dM st l).length:Nat):Int) by rw[Int.natCast_add,zX]] at this;exact this
theorem Ix:aB ["_law_fars_here","_law_homes","_law_stand","_law_letter","_law_some","_law_span"] ["_law_fars_here","_law_homes","_law_stand","_law_letter"] (ap Qa):=⟨rfl,rfl,rfl,by decide +kernel,rfl,by decide +kernel,by decide +kernel⟩
def Iy:Sp:=fun vs H Q _=>∃ (fr ha sa:Addr) (n:Nat) (ts:Ts) (homes:List Nat) (st:List (Option Nat)) (l:Nat),vs=[.ref fr,.ref ha,.ref sa,.int l]/\bR n ts/\gy H fr n ts/\H ha=some (.tup (NV homes))/\H sa=some (.tup (st.map oV))/\dP n ts homes st/\st.length<=16/\st.getD l none≠none/\∀ (B:Nat) H',aG H H'->yM n ts homes st l B->Q (.int (B:Int)) H'
theorem Qe{f:Addr}{fd:FuncData}(F:fH K "_law_bound" "_law_bound" Qa f fd)(B:Bl mg)(B2:M5 mg):bf P w K mg base aY 1 f fd ["_law_fars_here","_law_homes","_law_stand","_law_letter"] Iy:=by
 refine F.ok Ix (fun vs H Q E h=>?_) (fun dR A outer s H vs Q E hr h=>?_)
 .obtain⟨fr,ha,sa,n,ts,homes,st,l,rfl,_⟩:=h;rfl
 .obtain⟨fr,ha,sa,n,ts,homes,st,l,rfl,FN,FA,hH,hS,SG,oj,hl,q⟩:=h;have hu:=hr.u (n:=1);refine'⟨_,(ah (eO (i:=4) (g:=(mY K 2 (dI (bi 0) (dI (bi 1) mX)))) (tt:=(io (ja C6 (aT 1) (tC .cf)))) (te:=(aT 0)) (NB:=["_law_k","_law_house"]) (src:=[none,none]) (bz (by kernel_rfl)) rfl (rX rfl B2.enum (aa (pv 2) ag)) ?g1 ?t1 ?e1 Ix.nd rfl rfl rfl)
   (ah (aF (i:=5) Ix.nd rfl (Or.inl rfl) (aN (pG rfl) (by rfl) B.max qV (aa ?c2 ag)))
   (aj (aL (aU di (vZ hu (a7 aV (pv 0) (a7 df (pv 2) (a7 aV (pv 4) au (fun _ _=>rfl)) (fun _ _=>rfl)) (fun _ _=>rfl)) (a7 df (pv 1) (a7 aV (pv 4) au (fun _ _=>rfl)) (fun _ _=>rfl)) (fun _ _=>rfl)) (aU fV (pv 5) (iG iD y8 PySem.F.type_list_index yy (pv 4) (aa (pv 3) ag)))))))),?_⟩
  case g1=>exact fun cl C s₃ H₃ fp=>(dW (n:=2) rfl (aR (av (i:=0) sR rfl (Or.inl rfl) (Or.inr rfl)) (aR (av (i:=1) sR rfl (Or.inl rfl) (Or.inr rfl)) cT)))
  case t1=>exact fun cl C s₃ H₃ fp=>d5 (aP ng (pv 1) dU (aW _))
  case e1=>exact fun cl C s₃ H₃ fp=>(pv 0)
  case c2=>
   refine' bY (g:=(bi 0)) (te:=(NW M4 (bB (Sv K "dict" CQ (aT 0)) gf))) (NB:=["_law_far"]) (src:=[none]) (bz (by kernel_rfl)) rfl (b_ (pv 0)) ?g ?t ?e;case g=>exact fun cl C s₃ H₃ fp=>(av (i:=0) Qb rfl (Or.inl rfl) (Or.inr rfl))
   case t=>exact fun cl C s₃ H₃ fp=>dz
   case e=>exact fun cl C s₃ H₃ fp=>(aN (Ev rfl) (by rfl) B.max qV (aa (NY PySem.F.plainAttrs_dict Ff PySem.F.type_dict_values Eu (pv 0)) ag))
  obtain⟨f0,y0,hd,ey,Rl⟩:=uO hl;obtain⟨a0,a1,a2,_⟩:=SG.at ey;obtain⟨y,el⟩:=uQ.mp hl;have n1:=FN.n1;have n2:=FN.n2;refine⟨_,rfl,sa,_,rfl,bJ.of hS,fun D hD=>?_⟩;refine Lx hS oj hD fun H1 s1 tK=>?_;have Xb:=FA.eK (eh.of s1);obtain⟨ds,d1,d2,d3⟩:=id Xb;refine⟨_,rfl,fr,rfl,⟨_,a8.of d1⟩,fun D2 iZ=>?_⟩;refine eT (K:=K) (xs:=ds.map V.ref) (fun i ys σ H3=>(∃u,σ=[u])/\aG H1 H3/\H3 D2=some (.lst ys)/\∃ms:List Nat,ys=NV ms/\ms.length=i/\∀j,j<i->(∃b,b<n/\ms.getD j 0=far ts j b)/\∀b,b<n->far ts j b<=ms.getD j 0) ⟨⟨_,rfl⟩,ai iZ,af,[],rfl,rfl,fun j hj=>absurd hj (kd _)⟩ (fun i ys σ H3 _ z=>a8.of (z.2.1 _ _ d1)) ?_ ?_
  .rintro i x ys σ H3 Kt Kf hx ⟨⟨u,rfl⟩,s3,iX,ms,rfl,ml,mp⟩ kt kf;have hi:i<n:=by have:=(cu.mp hx).1;rw[aO] at this;lia
   obtain rfl:x=.ref (ds.getD i 0):=by
    rw[bu,iJ (d:=0) (by rw[d2];exact hi)] at hx;exact(bh hx).symm
   obtain⟨Rs,r1,r2⟩:=(d3 i hi).eK (eh.of s3);refine⟨_,rfl,.inr (.inr (.inl ⟨rfl,.inl ⟨_,r1⟩⟩)),ds.getD i 0,_,rfl,rfl,r1,fun v hv=>?_⟩;have s4:=ai (o:=WV v (ds.getD i 0)) hv;refine⟨v,ds.getD i 0,_,Rs.map fun (x:Nat)=>((far ts i x:Nat):Int),rfl,af,s4 _ _ r1,Lw,?_,fun M hM IY=>?_⟩
   .intro z;have:=(r2 0).mp (by lia);rw[zu] at z;rw[z] at this;cases this
   .obtain⟨b,hb,rfl⟩:=bj.mp hM;refine kt _ _ _ (s4 _ _ iX) (by rw[aS,ml];exact cz (show i<33 by lia) (by decide)) ⟨⟨_,rfl⟩,bP (s3.trans s4) iZ,af,ms++[far ts i b],by rw[ie],by rw[dE,ml];rfl,fun j hj=>?_⟩;rw[ut ml];by_cases c:j=i
    .subst c;rw[ak rfl];exact⟨⟨b,(r2 b).mpr hb,rfl⟩,fun b' mP=>by have:=IY _ (bj.mpr ⟨b',(r2 b').mp mP,rfl⟩);lia⟩
    .rw[aq c];exact mp j (by lia)
  rintro ys σ H3 ⟨_,s3,iX,ms,rfl,ml,mp⟩;rw[aO,d2] at ml mp;have e0:NV ms=(ms.map fun (x:Nat)=>(x:Int)).map V.int:=by unfold NV;rw[dH];rfl
  rw[e0] at iX;refine⟨D2,_,rfl,a8.of iX,fun z=>?_,fun M hM IY=>?_⟩
  .rw[zu] at z;rw[z] at ml;exact absurd ml (by show ¬ 0=n;lia)
  obtain⟨m,hm,rfl⟩:=bj.mp hM;have Nm:pM n ts m:=by
   obtain⟨j,hj,e⟩:=lH.mp hm;have ej:ms.getD j 0=m:=by rw[cV hj];exact e
   refine⟨?_,fun i b hi hb=>?_⟩
   .obtain⟨⟨b,hb,e2⟩,_⟩:=mp j (by lia);exact⟨j,b,by lia,hb,by rw[<-ej,e2]⟩
   .have h2:=(mp i hi).2 b hb;have h3:=IY _ (bj.mpr ⟨ms.getD i 0,by rw[cV (by lia)];exact fh _,rfl⟩);lia
  have m31:m<32:=by
   obtain⟨⟨i,j,hi,hj,e⟩,_⟩:=id Nm;have:=Bn FN hi hj;lia
  have qI:=s3 _ _ tK;have hh:(NV homes)[f0]?=some (.int ((homes.getD f0 0:Nat):Int)):=fE (by rw[SG.len];exact a0);obtain⟨ds',d1',d2',d3'⟩:=Xb.eK (eh.of s3);have gd:(ds'.map V.ref)[y0]?=some (.ref (ds'.getD y0 0)):=by rw[bu,iJ (d:=0) (by rw[d2'];exact a1)];rfl
  refine⟨_,rfl,_,rfl,_,rfl,D,_,_,_,rfl,rfl,a8.of qI,aH (j:=0) Rl,sa,_,_,_,rfl,rfl,bJ.of (s3 _ _ (s1 _ _ hS)),aH (by rw[iy a0,ey];rfl),fr,_,_,_,rfl,rfl,a8.of d1',aH gd,?_⟩;refine⟨_,rfl,_,rfl,D,_,_,_,rfl,rfl,a8.of qI,aH (j:=0) Rl,ha,_,_,_,rfl,rfl,bJ.of (s3 _ _ (s1 _ _ hH)),aH hh,ds'.getD y0 0,_,rfl,(d3' y0 a1).get a2,?_⟩;have e1:NV (dM st st.length)=((dM st st.length).map fun (x:Nat)=>(x:Int)).map V.int:=by unfold NV;rw[dH];rfl
  rw[e1] at qI;refine⟨_,rfl,_,rfl,.inl ⟨rfl,_,a8.of qI⟩,_,rfl,D,_,(l:Int),rfl,rfl,qI,bj.mpr ⟨l,k_ el,rfl⟩,?_⟩;rw[wQ,Df (k9 el) hl];refine⟨_,_,rfl,rfl,.inl ⟨by lia,by lia⟩,_,_,rfl,rfl,?_⟩;have:=q (far ts y0 (homes.getD f0 0)+m*(dM st l).length) H3 (s1.trans s3) ⟨f0,y0,m,Nm,hd,ey,rfl⟩;rw[show (((far ts y0 (homes.getD f0 0)+m*(dM st l).length:Nat)):Int)=((far ts y0 (homes.getD f0 0):Nat):Int)+(m:Int)*(((dM st l).length:Nat):Int) by rw[Int.natCast_add,zX]] at this;exact this
theorem Qf:aB ["_law_homes","_law_log","_law_letter","_law_beat","_law_handing"] ["_law_homes","_law_log","_law_letter"] (ap sLH):=⟨rfl,rfl,rfl,by decide +kernel,rfl,by decide +kernel,by decide +kernel⟩
def Qg:Sp:=fun vs H Q _=>∃ (ha LA:Addr) (homes:List Nat) (as:List Addr) (m N l:Nat) (ls:Nat->List (Option Nat)),vs=[.ref ha,.ref LA,.int l]/\H ha=some (.tup (NV homes))/\homes.length=m/\iz H LA as N ls/\(∀k,k<N->(ls k).length=m)/\l<m/\∀H',aG H H'->Q (oV (((List.range N).find? fun k=>decide ((ls k).getD l none=some (homes.getD l 0))).map (·+1))) H'
theorem Vb{f:Addr}{fd:FuncData}(F:fH K "_law_home" "_law_home" sLH f fd)(B2:M5 mg):bf P w K mg base aY 1 f fd ["_law_homes","_law_log","_law_letter"] Qg:=by
 refine F.ok Qf (fun vs H Q E h=>?_) (fun dR A outer s H vs Q E hr h=>?_)
 .obtain⟨ha,LA,homes,as,m,N,l,ls,rfl,_⟩:=h;rfl
 .obtain⟨ha,LA,homes,as,m,N,l,ls,rfl,hH,hm,RL,ll,hl,q⟩:=h;refine⟨_,(ah (cD dt rfl (Ck rfl B2.enum (aa (pv 1) ag)) (dW (n:=2) rfl (aR (av (i:=3) Qf.nd rfl (Or.inl rfl)) (aR (av (i:=4) Qf.nd rfl (Or.inl rfl)) cT)))
    (aj (cw (aP gR (a7 df (pv 4) (pv 2) (fun _ _=>rfl)) (a7 df (pv 0) (pv 2) (fun _ _=>rfl)) (aW _)) (aj (aL (aU di (pv 3) au))) be)))
   (aj (aL dU))),?_⟩
  have fnd:∀i,i<N->((List.range i).find? fun k=>decide ((ls k).getD l none=some (homes.getD l 0)))=none->(ls i).getD l none=some (homes.getD l 0)->((List.range N).find? fun k=>decide ((ls k).getD l none=some (homes.getD l 0)))=some i:=fun i hi h1 h2=>by
   rw[y7];refine⟨cZ h2,bv.mpr hi,fun j hj=>?_⟩;have:=va.mp h1 j (bv.mpr hj);simpa using this
  refine⟨_,rfl,LA,_,rfl,RL.1,?_⟩;refine Gr (K:=K) (a:=LA) (xs:=as.map V.ref) (fun i σ H2=>(∃x3 x4,σ=[some (.ref ha),some (.ref LA),some (.int (l:Int)),x3,x4])/\aG H H2/\((List.range i).find? fun k=>decide ((ls k).getD l none=some (homes.getD l 0)))=none) ⟨⟨_,_,rfl⟩,aG.refl _,rfl⟩ (fun i σ H2 _ z=>a8.of (z.2.1 _ _ RL.1)) ?_ ?_
  .rintro i x p σ H2 hx ⟨⟨x3,x4,rfl⟩,s2,nf⟩ hp;have hi:i<N:=by have:=(cu.mp hx).1;rw[aO,RL.2.1] at this;exact this
   obtain rfl:x=.ref (as.getD i 0):=by
    rw[bu,iJ (d:=0) (by rw[RL.2.1];exact hi)] at hx;exact(bh hx).symm
   have s3:=s2.trans (ai (o:=.tup [.int (i:Int),.ref (as.getD i 0)]) hp);have hk:=s3 _ _ (RL.2.2 i hi);refine⟨_,_,rfl,bJ.of af,rfl,_,_,rfl,_,_,rfl,rfl,?_⟩;refine⟨_,rfl,_,rfl,_,_,_,_,rfl,rfl,bJ.of hk,aH (iy (by rw[ll i hi];exact hl)),_,rfl,_,rfl,ha,_,_,_,rfl,rfl,bJ.of (s3 _ _ hH),aH (fE (by lia)),wO,_,rfl,?_⟩;rw[Dd];refine dZ (fun c=>?_) (fun c=>?_)
   .have c:=cQ c;have:=q _ s3;rw[fnd i hi nf c] at this;exact⟨_,rfl,_,_,rfl,rfl,this⟩
   .refine⟨⟨_,_,rfl⟩,s3,?_⟩;rw[ii,List.find?_append,nf];simpa using c
  .rintro σ H2 ⟨⟨x3,x4,rfl⟩,s2,nf⟩;rw[aO,RL.2.1] at nf;have:=q H2 s2;rw[nf] at this;exact this
end
abbrev sIB:Stmt:=top 65
theorem fv.clamp{n:Nat}{ts:Ts}{homes:List Nat}{st:List (Option Nat)}{N:Nat}{ss ls:Nat->List (Option Nat)}(G:fv n ts homes st N ss ls)(F:bR n ts)(S:dP n ts homes st):∃RN Nn,fv n ts homes st N RN Nn/\(∀k,k<=N->RN k=ss k)/\(∀k,k<N->Nn k=ls k)/\(∀k,(RN k).length=st.length)/\∀k,(Nn k).length=st.length:=by
 have e1:∀k,k<=N->(if k<=N then ss k else st)=ss k:=fun k h=>ak h;have e2:∀k,k<N->(if k<N then ls k else st)=ls k:=fun k h=>ak h;refine⟨fun k=>if k<=N then ss k else st,fun k=>if k<N then ls k else st,⟨by show (if 0<=N then ss 0 else st)=_;rw[e1 0 (by lia)];exact G.z,fun j hj=>?_,fun j hj=>?_,fun j hj=>?_⟩,e1,e2,fun k=>?_,fun k=>?_⟩
 .show Hd n ts (if j<=N then ss j else st) (if j<N then ls j else st);rw[e1 j (by lia),e2 j hj];exact G.hd j hj
 .show (if j+1<=N then ss (j+1) else st)=lS homes (if j<N then ls j else st);rw[e1 (j+1) (by lia),e2 j hj];exact G.nx j hj
 .show yH n ts homes (if j<=N then ss j else st) (if j<N then ls j else st) (dM (if j<=N then ss j else st) (if j<=N then ss j else st).length);rw[e1 j (by lia),e2 j hj];exact G.ft j hj
 .show (if k<=N then ss k else st).length=_;split
  .exact(G.BE F S k (by assumption)).2
  .rfl
 .show (if k<N then ls k else st).length=_;split
  .rename_i h;rw[(G.hd k h).len];exact(G.BE F S k (by lia)).2
  .rfl
theorem iz.Vc{H:Hp}{a:Addr}{as:List Addr}{N:Nat}{o o':Nat->List (Option Nat)}(h:iz H a as N o)(e:∀k,k<N->o' k=o k):iz H a as N o':=⟨h.1,h.2.1,fun k hk=>by show _=some (HO.tup ((o' k).map oV));rw[e k hk];exact h.2.2 k hk⟩
theorem sT{α:Type}{p q:α->Bool}:∀ {l:List α},(∀x∈l,p x=q x)->l.find? p=l.find? q
 |[],_=>rfl
 |x::l,h=>by
  rw[iK,iK,h x bL,sT fun y hy=>h y (cm _ hy)]
theorem fv.who{n:Nat}{ts:Ts}{homes:List Nat}{st:List (Option Nat)}{N l h:Nat}{ss ls:Nat->List (Option Nat)}(G:fv n ts homes st N ss ls):Nf ss ls N l h=((List.range N).find? fun k=>decide ((ls k).getD l none=some h)).map (·+1):=by
 unfold Nf;refine congrArg _ (sT fun k hk=>?_);cases e:(ss k).getD l none with
 |some y=>rfl
 |none=>
  rw[(G.hd k (bv.mp hk)).cf l e];rfl
section
variable {P:Program} {w:World} {K:PySem.W.Frag} {mg:Str->Option Value} {base:Heap}
theorem yN:aB ["_law_fars_here","_law_net_here","_law_homes","_law_stand","_law_rule","_law_log","_law_stands","_law_letter","_law_house","_law_due","_law_found","_law_bound_here"] ["_law_fars_here","_law_net_here","_law_homes","_law_stand","_law_rule"] (ap sIB):=⟨rfl,rfl,rfl,by decide +kernel,rfl,by decide +kernel,by decide +kernel⟩
def Qh(C CE CI CN PN Pr:Addr):Sp:=fun vs H Q _=>∃ (L:Addr->Prop) (fr px ha sa a Ci da:Addr) (tn:Bool) (n:Nat) (ts:Ts) (homes:List Nat) (st:List (Option Nat)),vs=[.ref fr,.ref px,.ref ha,.ref sa,.ref a]/\PU CE CI CN Ci false tn/\H a=some (.ins Ci da [])/\cH C H L px n ts/\gy H fr n ts/\H ha=some (.tup (NV homes))/\H sa=some (.tup (st.map oV))/\dP n ts homes st/\st.length<=16/\cp PN H/\EF Pr H/\
 ∀H',cp PN H'->EF Pr H'->(∀b o,H b=some o->b≠PN->b≠Pr->H' b=some o)->Q (.bl true) H'
theorem Vd{f C CE CI CN PN Pr:Addr}{fd:FuncData}(F:fH K "_law_is_bound" "_law_is_bound" sIB f fd)(B:Bl mg)(B2:M5 mg)(RU:ce P w K mg base aY 13 "run" ["rule","net","homes","stand","most"] (Ir C CE CI CN PN Pr))(SO:ce P w K mg base aY 2 "stands_of" ["homes","stand","log"] P7)(LBo:ce P w K mg base aY 1 "_law_bound" ["_law_fars_here","_law_homes","_law_stand","_law_letter"] Iy)(LH:ce P w K mg base aY 1 "_law_home" ["_law_homes","_law_log","_law_letter"] Qg)(EB:ce P w K mg base aY 6 "elder_bound" ["net","homes","stand","letter"] (Qd C))(HA:ce P w K mg base aY 5 "home_at" ["homes","stands","log","letter"] PR):bf P w K mg base aY 14 f fd ["_law_fars_here","_law_net_here","_law_homes","_law_stand","_law_rule"] (Qh C CE CI CN PN Pr):=by
 refine F.ok yN (fun vs H Q E h=>?_) (fun dR A outer s H vs Q E hr h=>?_)
 .obtain⟨L,fr,px,ha,sa,a,Ci,da,tn,n,ts,homes,st,rfl,_⟩:=h;rfl
 .obtain⟨L,fr,px,ha,sa,a,Ci,da,tn,n,ts,homes,st,rfl,Jf,hA,NA,FA,hH,hS,SG,oj,tb,tr,q⟩:=h;have h1:bD 1 _:=hr.mono (by decide);have h2:bD 2 _:=hr.mono (by decide);have h5:bD 5 _:=hr.mono (by decide);have h6:bD 6 _:=hr.mono (by decide);have FN:=NA.gw;refine⟨_,(ah (aF (i:=5) yN.nd rfl (Or.inl rfl) (aw RU hr aA (aa (pv 4) (aa (pv 1) (aa (pv 2) (aa (pv 3) (aa au ag)))))))
   (ah (aF (i:=6) yN.nd rfl (Or.inl rfl) (aw SO h2 aA (aa (pv 2) (aa (pv 3) (aa (pv 5) ag)))))
   (ah (cD dt rfl (rX rfl B2.enum (aa (pv 3) ag)) (dW (n:=2) rfl (aR (av (i:=7) yN.nd rfl (Or.inl rfl)) (aR (av (i:=8) yN.nd rfl (Or.inl rfl)) cT)))
    (aj (cw (aP ng (pv 8) dU (aW _)) (ah (aF (i:=9) yN.nd rfl (Or.inl rfl) (aw LBo h1 aA (aa (pv 0) (aa (pv 2) (aa (pv 3) (aa (pv 7) ag))))))
     (ah (aF (i:=10) yN.nd rfl (Or.inl rfl) (aw LH h1 aA (aa (pv 2) (aa (pv 5) (aa (pv 7) ag)))))
     (ah (aF (i:=11) yN.nd rfl (Or.inl rfl) (aw EB h6 aA (aa (pv 1) (aa (pv 2) (aa (pv 3) (aa (pv 7) ag))))))
     (ah (cw (PW.pt (BM (jw (fR (aN jc (by rfl) B.OF qN (aa (pv 11) (aa (lf (v:=.ty "int") rfl B.int zg rfl) ag))))) (BM (fR (aN jc (by rfl) B.OF qN (aa (pv 11) (aa (lf (v:=.ty "bool") rfl B.bool PyProof.Rows.boot_bool rfl) ag)))) (Aa (aP rG (pv 11) (pv 9) (aW _)))))) (aj (aL jV)) be)
     (ah (cw (PW.pt (BM (aP Af (pv 10) dU (aW _)) (Aa (aP rH (pv 10) (pv 9) (aW _))))) (aj (aL jV)) be)
     (aj (cw (aP rG (aw HA h5 aA (aa (pv 2) (aa (pv 6) (aa (pv 5) (aa (pv 7) ag))))) (pv 10) (aW _)) (aj (aL jV)) be))))))) be)))
   (aj (aL jV))))),?_⟩
  refine⟨_,rfl,_,rfl,_,rfl,_,rfl,L,a,px,ha,sa,Ci,da,tn,n,ts,homes,st,500,rfl,Jf,hA,NA,hH,hS,SG,oj,aI _,tb,tr,fun r N as ss ls H1 G nm nl Uk tr1 k1 tK Ja=>?_⟩;have kn:KN H H1:=fun b o e n=>k1 b o e (tb.not e n) (tr.not e n);obtain⟨L1,N1⟩:=NA.kn kn;have Xb:=FA.eK kn;have PY:=kn _ _ hH (by intro ps z;cases z);have JP:=kn _ _ hS (by intro ps z;cases z);refine⟨_,rfl,_,rfl,_,rfl,ha,sa,r,n,ts,homes,st,N,as,ss,ls,rfl,PY,JP,FN,SG,oj,nm,G,⟨tK,Ja⟩,fun SA bs H2 s2 hSA Ve=>?_⟩;obtain⟨RN,Nn,G',q1,q2,q3,q4⟩:=G.clamp FN SG;have U7:iz H2 r as N Nn:=(iz.same ⟨tK,Ja⟩ s2).Vc q2;have lg:PP H2 SA r bs as st.length N RN Nn:=⟨Ve.Vc fun k hk=>q1 k (by lia),U7,q3,q4,nm⟩
  have N2:=N1.same s2;have FA2:=Xb.eK (eh.of s2);have RG:=s2 _ _ PY;have EZ:=s2 _ _ JP;have q':∀H3,aG H2 H3->Q (.bl true) H3:=fun H3 s3=>q H3 ((Uk.same s2).same s3) ((tr1.same s2).same s3) fun b o e n1 n2=>s3 _ _ (s2 _ _ (k1 b o e n1 n2));refine⟨_,rfl,sa,_,rfl,bJ.of EZ,?_⟩;refine D8 (K:=K) (a:=sa) (xs:=st.map oV) (fun i σ H3=>(∃x7 x8 x9 x10 x11,σ=[some (.ref fr),some (.ref px),some (.ref ha),some (.ref sa),some (.ref a),some (.ref r),some (.ref SA),x7,x8,x9,x10,x11])/\aG H2 H3) ⟨⟨_,_,_,_,_,rfl⟩,aG.refl _⟩ (fun i σ H3 _ z=>bJ.of (z.2 _ _ EZ)) ?_ ?_
  .rintro i x p σ H3 hx ⟨⟨x7,x8,x9,x10,x11,rfl⟩,s3⟩ hp;obtain⟨hi,rfl⟩:=wJ hx;have s4:=s3.trans (ai (o:=.tup [.int (i:Int),oV (st.getD i none)]) hp);refine⟨_,_,rfl,bJ.of af,rfl,_,_,rfl,_,_,rfl,rfl,?_⟩;refine⟨_,rfl,rfl,_,rfl,?_⟩;rw[oh];refine dZ (fun e=>?_) (fun e=>⟨⟨_,_,_,_,_,rfl⟩,s4⟩);have ne:st.getD i none≠none:=fun z=>by rw[z] at e;cases e
   obtain⟨y,ey⟩:=uQ.mp ne;refine⟨_,rfl,_,rfl,_,rfl,_,rfl,fr,ha,sa,n,ts,homes,st,i,rfl,FN,FA2.eK (eh.of s4),s4 _ _ RG,s4 _ _ EZ,SG,oj,ne,fun Bo H5 s5 bo=>?_⟩;have s5':=s4.trans s5;refine⟨_,rfl,_,rfl,_,rfl,ha,r,homes,as,st.length,N,i,Nn,rfl,s5' _ _ RG,SG.len,U7.same s5',fun k _=>q4 k,hi,fun H6 s6=>?_⟩;have Xc:=s5'.trans s6;rw[<-G'.who (l:=i) (h:=homes.getD i 0)];obtain⟨f0,y0,M,Nm,hd,ey0,eB⟩:=id bo;have m31:M<=31:=by
    obtain⟨⟨i,j,hi,hj,e⟩,_⟩:=id Nm;have:=Bn FN hi hj;have:=FN.n2;lia
   obtain⟨k,ek,le⟩:=G'.bound FN SG oj Nm.2 m31 hd ey0 ey nm fun hN=>by
    rw[q1 N (aI _)];have:=nl hN;cases z:dM (ss N) (ss N).length with
    |nil=>rfl
    |cons c d=>rw[Dj.mpr (by rw[z];intro w;cases w)] at this;cases this
   rw[ek];refine⟨_,rfl,_,rfl,_,rfl,_,rfl,L1,px,ha,sa,n,ts,homes,st,i,rfl,N2.same Xc,Xc _ _ RG,Xc _ _ EZ,SG,oj,ne,fun B' H7 s7 bo'=>?_⟩;obtain rfl:=bo.eq bo';have s7':=Xc.trans s7;refine⟨_,rfl,_,_,_,.type "int",true,rfl,⟨rfl,pZ⟩,.of (.int _),_,rfl,iq ?_⟩;refine⟨_,rfl,_,_,_,.type "int",false,rfl,⟨rfl,nR⟩,.of (.int _),_,rfl,iq ?_⟩;refine⟨_,rfl,_,rfl,rfl,_,rfl,p9 (by simp) ?_⟩;refine⟨_,rfl,rfl,_,rfl,p9 (by simp[oV]) ?_⟩;refine⟨_,rfl,_,rfl,_,_,rfl,rfl,_,rfl,p9 (fA (by rw[<-eB] at le;lia)) ?_⟩;refine⟨_,rfl,_,rfl,_,rfl,_,rfl,ha,SA,r,bs,as,homes,st.length,N,RN,Nn,i,rfl,s7' _ _ RG,SG.len,lg.same s7',hi,fun H8 s8=>?_⟩;rw[ek];exact⟨_,rfl,rfl,_,rfl,p9 (by simp) ⟨⟨_,_,_,_,_,rfl⟩,s7'.trans s8⟩⟩
  .rintro σ H3 ⟨⟨x7,x8,x9,x10,x11,rfl⟩,s3⟩;exact q' H3 s3
end
abbrev sLE:Stmt:=top 66
abbrev sIN:Stmt:=top 68
theorem hX:(["_law_house","_law_home_here","_law_fars_here"]:List Str).Nodup:=by decide +kernel
theorem wS:∀ {st:List (Option Nat)},(st.map oV).countP (fun z=>nq z .cf)=st.count none
 |[]=>rfl
 |o::st=>by
  rw[eG,l7,wS,vo];cases o <;> rfl
def Dk(ts:Ts)(homes:List Nat)(st:List (Option Nat))(M:Nat):Prop:=(M=32\/M∈pN ts homes st st.length)/\M<=32/\∀d∈pN ts homes st st.length,M<=d
theorem Iz{ts:Ts}{homes:List Nat}{st:List (Option Nat)}{d:Nat}(h:d∈pN ts homes st st.length):∃l y,st.getD l none=some y/\d=far ts y (homes.getD l 0):=by
 obtain⟨l,hl,rfl⟩:=bj.mp h;obtain⟨a,b⟩:=lx hl;exact⟨l,_,b,rfl⟩
theorem Vf{ts:Ts}{homes:List Nat}{st:List (Option Nat)}{l y:Nat}(h:st.getD l none=some y):far ts y (homes.getD l 0)∈pN ts homes st st.length:=bj.mpr ⟨l,k_ h,by rw[h];rfl⟩
section
variable {P:Program} {w:World} {K:PySem.W.Frag} {mg:Str->Option Value} {base:Heap}
theorem aad:aB ["_law_fars_here","_law_homes","_law_stand"] ["_law_fars_here","_law_homes","_law_stand"] (ap sLE):=⟨rfl,rfl,rfl,by decide +kernel,rfl,by decide +kernel,by decide +kernel⟩
def Qi:Sp:=fun vs H Q _=>∃ (fr ha sa:Addr) (n:Nat) (ts:Ts) (homes:List Nat) (st:List (Option Nat)),vs=[.ref fr,.ref ha,.ref sa]/\bR n ts/\gy H fr n ts/\H ha=some (.tup (NV homes))/\H sa=some (.tup (st.map oV))/\dP n ts homes st/\st.length<=16/\∀ (M:Nat) H',aG H H'->Dk ts homes st M->Q (.int (M:Int)) H'
theorem Vg{f:Addr}{fd:FuncData}(F:fH K "_law_least" "_law_least" sLE f fd)(B:Bl mg)(B2:M5 mg):bf P w K mg base aY 1 f fd ["_law_fars_here","_law_homes","_law_stand"] Qi:=by
 refine F.ok aad (fun vs H Q E h=>?_) (fun dR A outer s H vs Q E hr h=>?_)
 .obtain⟨fr,ha,sa,n,ts,homes,st,rfl,_⟩:=h;rfl
 .obtain⟨fr,ha,sa,n,ts,homes,st,rfl,FN,FA,hH,hS,SG,oj,q⟩:=h;have hu:=hr.u (n:=1);refine'⟨_,(aj (aL (aN (EH rfl) (by rfl) B.min zf (aa (aU kG (eN (aa au ag)) ?c1) ag)))),?_⟩;case c1=>
   refine' bY (g:=(mY K 2 (dI (bi 0) (dI (bi 1) mX)))) (tt:=(io (ja C6 (aT 0) (tC .cf)))) (te:=(MH (ja (xt K) (aT 2) (aT 0)) (aT 1))) (NB:=["_law_house","_law_home_here","_law_fars_here"]) (src:=[none,none,some 0]) (bz (by kernel_rfl)) rfl (v8 rfl B2.zip (aa (pv 2) (aa (pv 1) ag))) ?g ?t ?e;case g=>exact fun cl C s₃ H₃ fp=>(dW (n:=2) rfl (aR (av (i:=0) hX rfl (Or.inl rfl) (Or.inr rfl)) (aR (av (i:=1) hX rfl (Or.inl rfl) (Or.inr rfl)) cT)))
   case t=>exact fun cl C s₃ H₃ fp=>d5 (aP ng (pv 0) dU (aW _))
   case e=>exact fun cl C s₃ H₃ fp=>(vZ hu (a7 aV (pv 2) (pv 0) (fun _ _=>rfl)) (pv 1) (fun _ _=>rfl))
  refine⟨by show 1<=sizeLine;decide,fun L1 EY=>?_⟩;have s1:=ai (o:=.lst [.int 32]) EY;refine⟨_,rfl,_,rfl,sa,ha,_,_,rfl,bJ.of (s1 _ _ hS),bJ.of (s1 _ _ hH),by rw[aO,aS,SG.len],fun D hD=>?_⟩;refine sf (K:=K) (a:=sa) (b:=ha) (xs:=st.map oV) (ys:=NV homes) (by rw[aO,aS,SG.len]) (fun i ys σ H3=>(∃u v,σ=[u,v,some (.ref fr)])/\ys=NV (pN ts homes st i)/\aG (upd H L1 (.lst [.int 32])) H3/\H3 D=some (.lst ys)) ⟨⟨_,_,rfl⟩,rfl,ai hD,af⟩ (fun i ys σ H3 _ z=>⟨bJ.of (z.2.2.1 _ _ (s1 _ _ hS)),bJ.of (z.2.2.1 _ _ (s1 _ _ hH))⟩) ?_ ?_
  .rintro i x y t ys σ H3 Kt Kf hx hy ⟨⟨u,v,rfl⟩,rfl,sm,iX⟩ ht kt kf;obtain⟨hi,rfl⟩:=wJ hx;have hih:i<homes.length:=by rw[SG.len];exact hi
   obtain rfl:y=.int ((homes.getD i 0:Nat):Int):=by rw[fE hih] at hy;exact(bh hy).symm
   have aD:=ai (o:=.tup [oV (st.getD i none),.int ((homes.getD i 0:Nat):Int)]) ht;refine⟨_,_,rfl,bJ.of af,rfl,_,_,rfl,_,_,rfl,rfl,?_⟩;refine⟨_,rfl,rfl,_,rfl,?_⟩;rw[oh];refine dZ (fun e=>?_) (fun e=>?_)
   .obtain⟨y,ey⟩:=uT.mp e;obtain⟨_,Tt,hh,_⟩:=SG.at ey;obtain⟨ds,f1,f2,f3⟩:=FA.eK (eh.of ((s1.trans sm).trans aD));have gd:(ds.map V.ref)[y]?=some (.ref (ds.getD y 0)):=by rw[bu,iJ (d:=0) (by rw[f2];exact Tt)];rfl
    have ot:=aD _ _ iX;rw[ey] at ot f1 f3 |-;refine⟨_,rfl,_,rfl,fr,_,_,_,rfl,rfl,a8.of f1,aH gd,_,rfl,ds.getD y 0,_,rfl,(f3 y Tt).get hh,kt _ _ _ ot (by rw[aS];exact fK yx (cz (show i<17 by lia) (by decide))) ⟨⟨_,_,rfl⟩,?_,?_,af⟩⟩
    .unfold pN;rw[gX,ak e,cR,List.map_singleton,ey,<-ie];rfl
    .rw[ey] at aD;exact bP (sm.trans aD) hD
   .refine kf _ _ ⟨⟨_,_,rfl⟩,?_,sm.trans aD,aD _ _ iX⟩;unfold pN;rw[gX,aq e,i9]
  .rintro ys σ H3 ⟨_,rfl,sm,iX⟩;rw[aO] at iX;have dl:(pN ts homes st st.length).length<=16:=aX yx oj;have q':=q;unfold Dk at q';generalize pN ts homes st st.length=ds at *;refine⟨L1,D,_,_,rfl,rfl,sm _ _ af,iX,by rw[aS];exact aX (show 1+ds.length<=17 by lia) (by decide),fun p hp=>?_⟩;have s3:=sm.trans (ai (o:=.lst ([.int 32]++NV ds)) hp);refine⟨p,(32:Int)::ds.map fun (x:Nat)=>(x:Int),rfl,a8.of (by rw[af];unfold NV;rw[eG,dH];rfl),(fun z=>by cases z),fun M hM IY=>?_⟩;have le:∀d∈ds,M<=(d:Int):=fun d hd=>IY _ (cm _ (bj.mpr ⟨d,hd,rfl⟩));have l32:=IY 32 bL;obtain⟨m,rfl,hm⟩:∃m:Nat,M=(m:Int)/\(m=32\/m∈ds):=by
    rcases a_.mp hM with rfl|z
    .exact⟨32,rfl,.inl rfl⟩
    .obtain⟨m,hm,rfl⟩:=bj.mp z;exact⟨m,rfl,.inr hm⟩
   exact q' m _ (s1.trans s3) ⟨hm,by lia,fun d hd=>by have:=le d hd;lia⟩
theorem IA:aB ["_law_fars_here","_law_net_here","_law_homes","_law_stand","_law_beat","_law_nearest","_law_many","_law_k"] ["_law_fars_here","_law_net_here","_law_homes","_law_stand","_law_beat"] (ap sIN):=⟨rfl,rfl,rfl,by decide +kernel,rfl,by decide +kernel,by decide +kernel⟩
def Qj(C PN:Addr):Sp:=fun vs H Q _=>∃ (L:Addr->Prop) (fr px ha sa:Addr) (bt:Int) (n:Nat) (ts:Ts) (homes:List Nat) (st:List (Option Nat)),vs=[.ref fr,.ref px,.ref ha,.ref sa,.int bt]/\cH C H L px n ts/\gy H fr n ts/\H ha=some (.tup (NV homes))/\H sa=some (.tup (st.map oV))/\dP n ts homes st/\st.length<=16/\cp PN H/\
 ∀H',cp PN H'->KQ PN H H'->Q (.bl true) H'
theorem Vh{f C CE CI CN PN:Addr}{fd:FuncData}(F:fH K "_law_is_nearest" "_law_is_nearest" sIN f fd)(B:Bl mg)(R:PV P w K mg base C CE CI CN PN)(kN:O4 K CN)(LE:ce P w K mg base aY 1 "_law_least" ["_law_fars_here","_law_homes","_law_stand"] Qi)(LB:ce P w K mg base aY 1 "_law_behind" ["_law_homes","_law_handing"] yI)(HA:ce P w K mg base aY 10 "hand" ["rule","net","homes","stand","beat"] (sQ C CE CI CN PN)):bf P w K mg base aY 11 f fd ["_law_fars_here","_law_net_here","_law_homes","_law_stand","_law_beat"] (Qj C PN):=by
 refine F.ok IA (fun vs H Q E h=>?_) (fun dR A outer s H vs Q E hr h=>?_)
 .obtain⟨L,fr,px,ha,sa,bt,n,ts,homes,st,rfl,_⟩:=h;rfl
 .obtain⟨L,fr,px,ha,sa,bt,n,ts,homes,st,rfl,NA,FA,hH,hS,SG,oj,tb,q⟩:=h;have h1:bD 1 _:=hr.mono (by decide);have FN:=NA.gw;refine⟨_,(ah (aF (i:=5) IA.nd rfl (Or.inl rfl) (aw LE h1 aA (aa (pv 0) (aa (pv 2) (aa (pv 3) ag)))))
   (ah (cw (aP gR (pv 5) au (aW _)) (aj (aL jV)) be)
   (ah (aF (i:=6) IA.nd rfl (Or.inl rfl) (Iw Fg Fe Fc uN (pv 3) (aa dU ag)))
   (ah (cD dt rfl (br rfl B.range (aa (pv 5) ag)) (av (i:=7) IA.nd rfl (Or.inl rfl))
    (ah (cw (aP rH (aw LE h1 aA (aa (pv 0) (aa (pv 2) (aa (pv 3) ag)))) (aU jA (pv 5) (pv 7)) (aW _)) (aj (aL jV)) be)
    (ah (aF (i:=3) IA.nd rfl (Or.inl rfl) (aw LB h1 aA (aa (pv 2) (aa (aw HA hr aA (aa (Bm kN rfl R.n.Rm) (aa (pv 1) (aa (pv 2) (aa (pv 3) (aa (aU di (pv 4) (pv 7)) ag)))))) ag))))
    (aj (cw (aP rH (Iw Fg Fe Fc uN (pv 3) (aa dU ag)) (pv 6) (aW _)) (aj (aL jV)) be)))))
   (aj (aL jV)))))),?_⟩
  refine⟨_,rfl,_,rfl,_,rfl,fr,ha,sa,n,ts,homes,st,rfl,FN,FA,hH,hS,SG,oj,fun M H1 s1 lo=>?_⟩;refine⟨_,rfl,rfl,_,rfl,?_⟩;refine dZ (fun e=>q H1 (tb.same s1) (KQ.of s1)) (fun e=>?_);have m32:M≠32:=fun z=>e (by subst z;exact cZ rfl);have JP:=s1 _ _ hS;refine⟨_,rfl,⟨sa,_,rfl,JP⟩,sa,_,_,rfl,rfl,JP,rfl,jk,?_⟩;rw[wS];obtain⟨d0,hd0,hm0⟩:∃d,d∈pN ts homes st st.length/\d<=M:=by
   rcases lo.1 with z|z
   .exact absurd z m32
   .exact⟨M,z,aI _⟩
  refine⟨_,rfl,_,rfl,by lia,by have:=lo.2.1;lia,?_⟩;rw[lJ];refine c_ (n:=M) (lo:=0) (fun i σ H3=>∃ (E3:Addr) (aD:List (Option Nat)),(∃x7,σ=[some (.ref fr),some (.ref px),some (.ref ha),some (.ref E3),some (.int bt),some (.int (M:Int)),some (.int ((st.count none:Nat):Int)),x7])/\KQ PN H H3/\cp PN H3/\H3 E3=some (.tup (aD.map oV))/\dP n ts homes aD/\aD.length<=16/\st.count none<=aD.count none/\∃d∈pN ts homes aD aD.length,d+i<=M) ⟨sa,st,⟨_,rfl⟩,KQ.of s1,tb.same s1,JP,SG,oj,aI _,d0,hd0,hm0⟩ ?_ ?_
  .rintro i σ H3 hi ⟨E3,aD,⟨x7,rfl⟩,k3,t3,hS3,RP,EI,cn,d,hd,hm⟩;have kn3:=k3.kn tb;obtain⟨L3,N3⟩:=NA.kn kn3;have FA3:=FA.eK kn3;have hH3:=kn3 _ _ hH (by intro ps z;cases z);rw[fP];refine⟨_,rfl,_,rfl,_,rfl,fr,ha,E3,n,ts,homes,aD,rfl,FN,FA3,hH3,hS3,RP,EI,fun M' H4 s4 lo'=>?_⟩;have le':=lo'.2.2 d hd;refine⟨_,rfl,_,rfl,_,_,rfl,rfl,_,_,rfl,rfl,_,rfl,p9 (fA (by lia)) ?_⟩;refine⟨_,rfl,fun rx rd nx nrd nex=>⟨_,rfl,_,rfl,_,rfl,_,rfl,_,rfl,_,_,rfl,rfl,?_⟩⟩;have sN:aG H4 (upd (upd H4 rd (.own rx)) rx (.ins CN rd [])):=(ai (o:=.own rx) nrd).trans (ai (D:=rx) (o:=.ins CN rd []) (by rw[ao nex.symm];exact nx));have s5:=s4.trans sN;refine⟨L3,rx,px,ha,E3,CN,rd,true,false,_,n,ts,homes,aD,rfl,.inr (.inr ⟨rfl,rfl,rfl⟩),af,N3.same s5,s5 _ _ hH3,s5 _ _ hS3,RP,EI,t3.same s5,fun t H6 fs jm t6 k6 nt P9 op ow pw ft ht=>?_⟩;have kn6:KN H3 H6:=fun b o e nn=>k6 _ _ (s5 _ _ e) (t3.not e nn);have k36:KQ PN H H6:=k3.trans ((KQ.of s5).trans k6);refine⟨ha,t,homes,fs,rfl,kn6 _ _ hH3 (by intro ps z;cases z),ht,by rw[RP.len,P9.len],by rw[P9.len];exact EI,fun t2 H7 s7 C2=>?_⟩;obtain⟨c1,c2⟩:=Ik (homes:=homes) P9;refine⟨_,rfl,⟨t2,_,rfl,C2⟩,t2,_,_,rfl,rfl,C2,rfl,jk,?_⟩;rw[wS];refine⟨_,rfl,_,_,rfl,rfl,_,rfl,?_⟩;refine dZ (fun e=>q H7 (t6.same s7) (k36.trans (KQ.of s7))) (fun e=>?_);have e:¬ st.count none<(lS homes fs).count none:=fun z=>e (cZ (by lia));obtain⟨l1,y1,e1,ed⟩:=Iz hd;have Xd:l1∈jm:=op.mem_iff.mpr (k_ e1);cases eo:jm with
   |nil=>rw[eo] at Xd;cases Xd
   |cons l ls=>
    obtain⟨y,x,ey,ex,mx⟩:=ft l (by rw[eo];rfl);have abZ:far ts y (homes.getD l 0)<=d:=by
     have pw:=pw rfl;rw[eo] at pw Xd;rcases a_.mp Xd with z|z
     .subst z;rw[ey] at e1;cases e1;exact km ed.symm
     .have:=(qY.mp pw).1 l1 z;unfold MV uJ at this;rw[ey,e1] at this;have:=this;have l2:l1<16:=cz (k9 e1) EI;rw[ed];have t1:((some y:Option Nat).getD 0)=y:=rfl;have t2:((some y1:Option Nat).getD 0)=y1:=rfl;rw[t1,t2] at this;lia
    have fx:far ts x (homes.getD l 0)<far ts y (homes.getD l 0):=cQ (cC.mp mx).2;have nh:x≠homes.getD l 0:=fun z=>by have:=c2 l y x ey ex z;lia
    obtain⟨x',Xh,en⟩:=(jK (homes:=homes) P9).2 y ey;rw[ex] at Xh;cases Xh;rw[aq nh] at en;exact⟨t2,lS homes fs,⟨_,rfl⟩,k36.trans (KQ.of s7),t6.same s7,C2,P9.next FN RP,by rw[gc,P9.len];exact EI,by lia,_,Vf en,by lia⟩
  .rintro σ H3 ⟨E3,aD,⟨x7,rfl⟩,k3,t3,hS3,RP,EI,cn,d,hd,hm⟩;obtain⟨l1,y1,e1,rfl⟩:=Iz hd;obtain⟨_,a,b,c⟩:=RP.at e1;have:=wA FN a b c;lia
end
end qi
namespace gg
theorem IC{ts us:Ts}(p:us.Perm ts):far us=far ts:=by
 have e:∀a b d,jf us a b d↔jf ts a b d:=fun a b d=>by
  have w1:∀ {k:Nat},dC us k a b->dC ts k a b:=fun w=>w.mono fun t ht=>p.mem_iff.mp ht;have w2:∀ {k:Nat},dC ts k a b->dC us k a b:=fun w=>w.mono fun t ht=>p.mem_iff.mpr ht;exact⟨fun h=>⟨w1 h.1,fun k w=>h.2 k (w2 w)⟩,fun h=>⟨w2 h.1,fun k w=>h.2 k (w1 w)⟩⟩
 funext a b;unfold far;have e2:jf us a b=jf ts a b:=funext fun d=>propext (e a b d);rw[e2]
theorem EJ{n y:Nat}{ts us:Ts}(p:us.Perm ts):bg n us y=bg n ts y:=List.filter_congr fun o _=>decide_eq_decide.mpr p.mem_iff
end gg
namespace qi
open PySem L2 gg
abbrev BI:Stmt:=top 69
section
variable {P:Program} {w:World} {K:PySem.W.Frag} {mg:Str->Option Value} {base:Heap}
def Jh(K:PySem.W.Frag)(H:Hp)(a:Addr)(xs:List V):Prop:=(∃o,H a=some (.vC o (.lst xs)))\/(∀H':Hp,a8 K H' a xs)
theorem Jh.seq{H:Hp}{a:Addr}{xs:List V}(h:Jh K H a xs):a8 K H a xs:=by
 rcases h with ⟨o,h⟩|h
 .exact .inl (.inr ⟨o,h⟩)
 .exact h H
theorem Jh.mono{H H':Hp}{a:Addr}{xs:List V}(h:Jh K H a xs)(e:∀o u,H a=some (.vC o u)->H' a=some (.vC o u)):Jh K H' a xs:=by
 rcases h with ⟨o,h⟩|h
 .exact .inl ⟨o,e _ _ h⟩
 .exact .inr h
theorem bw.eK{H H':Hp}{p:Addr}(h:bw H p)(s:eh H H'):bw H' p:=let ⟨a,b,e,r⟩:=h;⟨a,b,s _ _ e (by intro ps z;cases z),r⟩
theorem eh.e{H H1 H2:Hp}{p:Addr}(k:eh H H1)(s:aK p H1 H2)(n:H p=none):eh H H2:=fun b o e nt=>s _ _ (k _ _ e nt) (am e n)
structure T4(Pt Pq PN Pr:Addr)(H:Hp):Prop where
 a:tf Pt H
 q:Ez Pq H
 n:cp PN H
 r:EF Pr H
theorem T4.same{Pt Pq PN Pr:Addr}{H H':Hp}(t:T4 Pt Pq PN Pr H)(s:aG H H'):T4 Pt Pq PN Pr H':=⟨t.a.same s,t.q.same s,t.n.same s,t.r.same s⟩
theorem T4.n_{Pt Pq PN Pr p:Addr}{H H':Hp}(t:T4 Pt Pq PN Pr H)(s:aK p H H')(hp:bw H p):T4 Pt Pq PN Pr H':=⟨t.a.n_ s hp,t.q.n_ s hp,t.n.n_ s hp,t.r.n_ s hp⟩
theorem lT:aB ["_law_script","_law_place","_law_pot_here","_law_drawn","_law_out_here","_law_fars_here","_law_homes","_law_stand","_law_net_here","_law_rule"] ["_law_script"] (ap BI):=⟨rfl,rfl,rfl,by decide +kernel,rfl,by decide +kernel,by decide +kernel⟩
def Dl(K:PySem.W.Frag)(Pt Pq PN Pr:Addr):Sp:=fun vs H Q _=>∃ (a:Addr) (ns:List Int),vs=[.ref a]/\Jh K H a (ns.map V.int)/\ns.length<=63/\T4 Pt Pq PN Pr H/\∀H',Q (.bl true) H'
theorem Qk{f C CE CI CN Pt Pq PN Pr fI:Addr}{fd fdI:FuncData}(F:fH K "law" "law" BI f fd)(nd:(Pt≠Pq/\Pt≠PN)/\(Pt≠Pr/\Pq≠PN)/\Pq≠Pr/\PN≠Pr)(B:Bl mg)(T:NT K mg C)(M:Mk K C fI)(bI:jX K fdI ["self","many","ties"] [])(GI:bf P w K mg base aY 7 fI fdI ["self","many","ties"] (Bi C Pt))(R:PV P w K mg base C CE CI CN PN)(kE:O4 K CE)(kI:O4 K CI)(PT:ce P w K mg base aY 1 "_law_pot" ["_law_script","_law_place"] (Hq K))(DR:ce P w K mg base aY 1 "_law_draw" ["_law_pot_here","_law_many"] g7)(NE:ce P w K mg base aY 5 "_law_net" ["_law_pot_here"] HR)(OU:ce P w K mg base aY 1 "_law_out" ["_law_net_here"] (By Pq))(FA:ce P w K mg base aY 1 "_law_fars" ["_law_out_here"] Bz)(LT:ce P w K mg base aY 2 "_law_letters" ["_law_pot_here","_law_out_here","_law_most"] Iv)(MX:ce P w K mg base aY 2 "_law_mixed" ["_law_pot_here","_law_row"] n5)(IB:ce P w K mg base aY 14 "_law_is_bound" ["_law_fars_here","_law_net_here","_law_homes","_law_stand","_law_rule"] (Qh C CE CI CN PN Pr))(IN:ce P w K mg base aY 11 "_law_is_nearest" ["_law_fars_here","_law_net_here","_law_homes","_law_stand","_law_beat"] (Qj C PN)):
  bf P w K mg base aY 15 f fd ["_law_script"] (Dl K Pt Pq PN Pr):=by
 refine F.ok lT (fun vs H Q E h=>?_) (fun dR A outer s H vs Q E hr h=>?_)
 .obtain⟨a,ns,rfl,_⟩:=h;rfl
 .obtain⟨a,ns,rfl,hS,vW,tb,q⟩:=h;have h1:bD 1 _:=hr.mono (by decide);have h2:bD 2 _:=hr.mono (by decide);have h5:bD 5 _:=hr.mono (by decide);have h8:bD 8 _:=hr.mono (by decide);have h11:bD 11 _:=hr.mono (by decide);refine⟨_,(ah (cD dt rfl (br rfl B.range (aa (aN (Dx rfl) (by rfl) B.max qV (aa au (aa (aN (tX rfl) (by rfl) B.min zf (aa au (aa (aN aQ (by rfl) B.len d_ (aa (pv 0) ag)) ag))) ag))) ag)) (av (i:=1) lT.nd rfl (Or.inl rfl))
    (ah (aF (i:=2) lT.nd rfl (Or.inl rfl) (aw PT h1 aA (aa (pv 0) (aa (pv 1) ag))))
    (ah (aF (i:=3) lT.nd rfl (Or.inl rfl) (aw NE h5 aA (aa (pv 2) ag)))
    (ah (aF (i:=4) lT.nd rfl (Or.inl rfl) (aw OU h1 aA (aa (pv 3) ag)))
    (ah (aF (i:=5) lT.nd rfl (Or.inl rfl) (aw FA h1 aA (aa (pv 4) ag)))
    (ah (fT (aw LT h2 aA (aa (pv 2) (aa (pv 4) (aa au ag)))) (dW (n:=2) rfl (aR (av (i:=6) lT.nd rfl (Or.inl rfl)) (aR (av (i:=7) lT.nd rfl (Or.inl rfl)) cT))))
    (ah (aF (i:=8) lT.nd rfl (Or.inl rfl) (Jy M GI h8 rfl T.Rm bI .nil aA (aa (a7 df (pv 3) au (fun _ _=>rfl)) (aa (aw MX h2 aA (aa (pv 2) (aa (a7 df (pv 3) au (fun _ _=>rfl)) ag))) ag))))
    (ah (cD dt rfl (vH (dB (aa (Bm kE rfl R.e.Rm) (aa (Bm kI rfl R.i.Rm) ag)))) (av (i:=9) lT.nd rfl (Or.inl rfl))
     (aj (cw (jw (fR (aw IB hr aA (aa (pv 5) (aa (pv 8) (aa (pv 6) (aa (pv 7) (aa (pv 9) ag)))))))) (aj (aL jV)) be)))
    (aj (cw (jw (fR (aw IN h11 aA (aa (pv 5) (aa (pv 8) (aa (pv 6) (aa (pv 7) (aa (aw DR h1 aA (aa (pv 2) (aa au ag))) ag)))))))) (aj (aL jV)) be))))))))))
   (aj (aL jV))),?_⟩
  have aae:∀ {xs:List V} (ps),HO.lst xs≠.j3 ps:=fun ps z=>by cases z
  have o7:∀ {xs:List V} (ps),HO.tup xs≠.j3 ps:=fun ps z=>by cases z
  refine⟨_,rfl,a,_,rfl,.inl hS.seq,3,_,rfl,1,_,rfl,_,rfl,?_⟩;obtain⟨j,hj,j1⟩:∃j:Int,(if (if (((ns.map V.int).length:Nat):Int)<3 then (((ns.map V.int).length:Nat):Int) else 3) > 1 then (if (((ns.map V.int).length:Nat):Int)<3 then (((ns.map V.int).length:Nat):Int) else 3) else 1)=j/\1<=j/\j<=3:=⟨_,rfl,by split <;> split <;> lia⟩
  rw[hj];refine⟨by lia,by lia,c_ (n:=j.toNat) (lo:=0) (fun k σ H2=>(∃x1 x2 x3 x4 x5 x6 x7 x8 x9,σ=[some (.ref a),x1,x2,x3,x4,x5,x6,x7,x8,x9])/\Jh K H2 a (ns.map V.int)/\T4 Pt Pq PN Pr H2) ⟨⟨_,_,_,_,_,_,_,_,_,rfl⟩,hS,tb⟩ ?_ ?_⟩
  rotate_left
  .rintro σ H2 ⟨⟨x1,x2,x3,x4,x5,x6,x7,x8,x9,rfl⟩,_⟩;exact q H2
  .rintro k σ H2 hk ⟨⟨x1,x2,x3,x4,x5,x6,x7,x8,x9,rfl⟩,S2,t2⟩;refine⟨_,rfl,_,rfl,a,ns,k,by rw[fP];rfl,S2.seq,by lia,fun p H3 s3 np p3=>?_⟩;refine⟨_,rfl,p,rfl,p3,fun n t0 r0 zs H4 s4 p4 ht4 Rt Ex Fi=>?_⟩;have t4:=(t2.same s3).n_ s4 p3;have k4:eh H2 H4:=(eh.of s3).e s4 np;refine⟨_,rfl,t0,r0,n,zs,rfl,ht4,⟨Fi,Rt,Ex⟩,t4.q,fun o H5 q5 s5 ho R5=>?_⟩;have k45:eh H4 H5:=fun b o e nt=>s5 _ _ e (t4.q.not e nt);have t5:T4 Pt Pq PN Pr H5:=⟨cr.eK t4.a s5 t4.q.j3 nd.1.1,q5,cr.eK t4.n s5 t4.q.j3 nd.2.1.2.symm,cr.eK t4.r s5 t4.q.j3 nd.2.2.1.symm⟩
   refine⟨_,rfl,_,o,n,zp zs,rfl,Fi,R5,fun fr H6 s6 hf F6=>?_⟩;have Vi:=k45.trans (eh.of s6);have p6:=p4.eK Vi;have t6:=t5.same s6;refine⟨_,rfl,_,rfl,p,n,o,zp zs,fun b=>H4 b=none,rfl,Fi.n1,Fi.n2,p6,R5.keep ho fun b o _ e=>s6 _ _ e,ho,p4.full,fun tl ha sa homes st H7 s7 p7 ht7 Ni hsa SD le=>?_⟩;refine⟨tl,_,rfl,bJ.of ht7,rfl,_,_,rfl,_,_,rfl,rfl,?_⟩;have frp:fr≠p:=(p4.eK k45).ne hf;have W9:=Vi _ _ ht4 o7;have Ru:=Vi _ _ Rt aae;have Uy:PO H6 zs:=fun z hz=>Vi _ _ (Ex z hz) o7;have Vj:=s7 _ _ W9 (p6.neT W9);have Y5:=s7 _ _ Ru (p6.neZ Ru);have zl:zs.length<=256:=by have:=Fi.len;rwa [b9] at this
   refine⟨_,rfl,t0,_,0,_,rfl,rfl,bJ.of Vj,rfl,_,rfl,_,rfl,t0,_,1,_,rfl,rfl,bJ.of Vj,rfl,p,r0,zr zs,rfl,Y5,by rw[eC];exact zl,p7,fun r1 ys H8 s8 p8 tK hr8 Uu=>?_⟩;obtain⟨pL,rfl,pm⟩:=n9 Uu (f:=fun z:Addr×Int×Int=>V.ref z.1) rfl;have hr8:H8 r1=some (.lst (zr pL)):=hr8;have pmp:(zp pL).Perm (zp zs):=pm.map _;have W2:=Uy.jj s7 p6;have W4:PO H8 pL:=fun z hz=>(W2.jj s8 p7) z (pm.mem_iff.mp hz);have Fi2:bR n (zp pL):=Fi.perm pmp;have fe:far (zp pL)=far (zp zs):=IC pmp;have F8:gy H8 fr n (zp pL):=by
    have:=(F6.jj s7 p6 frp).jj s8 p7 frp;unfold gy at this |-;rw[fe];exact this
   have SD2:dP n (zp pL) homes st:=⟨SD.len,SD.hs,SD.ss,fun y hy=>by rw[EJ pmp];exact SD.ZC y hy⟩
   have t8:T4 Pt Pq PN Pr H8:=(t6.n_ s7 p6).n_ s8 p7;have k8:eh H2 H8:=((k4.trans Vi).e s7 np).e s8 np;have aaf:=s8 _ _ Ni (p7.neT Ni);have aag:=s8 _ _ hsa (p7.neT hsa);refine fun px dx nx ndx nex=>?_;have sN:aG H8 (upd (upd H8 dx (.own px)) px (.ins C dx [])):=(ai (o:=.own px) ndx).trans (ai (D:=px) (o:=.ins C dx []) (by rw[ao nex.symm];exact nx));have gpx:(upd (upd H8 dx (.own px)) px (.ins C dx [])) px=some (.ins C dx []):=af;refine⟨px,dx,n,r1,pL,rfl,gpx,⟨Fi2,sN _ _ hr8,W4.same sN⟩,(t8.same sN).a,fun Jg N10 aah U9=>⟨rfl,?_⟩⟩;have tN:=t8.same sN;have ID:eh H8 Jg:=fun b o e nt=>U9 b o (sN _ _ e) (am e nx) (tN.a.not (sN _ _ e) nt);have kk:∀ {lp:Pos} {qq:Str} {Px:Addr},cr lp qq Px H8->Px≠Pt->cr lp qq Px Jg:=fun t nn=>t.keep fun b o e z=>U9 b o (sN _ _ e) (am e nx) (z.elim (fun z=>z ▸ nn) fun nt=>tN.a.not (sN _ _ e) nt);have t10:T4 Pt Pq PN Pr Jg:=⟨aah,kk t8.q nd.1.1.symm,kk t8.n nd.1.2.symm,kk t8.r nd.2.1.1.symm⟩
   have k10:=k8.trans ID;have S10:Jh K Jg a (ns.map V.int):=S2.mono fun o u e=>k10 _ _ e (by intro ps z;cases z);have F10:=F8.eK ID;have Vk:=ID _ _ aaf o7;have Vl:=ID _ _ aag o7;have p10:bw Jg p:=p8.eK ID;have hxp:∀b,(upd (upd H8 dx (.own px)) px (.ins C dx [])) b=none->b≠p:=fun b e z=>by
    obtain⟨u,v,e2,_⟩:=p8;have e3:=sN _ _ e2;rw[<-z,e] at e3;cases e3
   refine fun ra da nra nda nea=>fun rb db nrb ndb neb=>⟨by show 2<=sizeLine;decide,fun TT hTT=>?_⟩
   have sa1:aG Jg (upd (upd Jg da (.own ra)) ra (.ins CE da [])):=(ai (o:=.own ra) nda).trans (ai (D:=ra) (o:=.ins CE da []) (by rw[ao nea.symm];exact nra));have hra:(upd (upd Jg da (.own ra)) ra (.ins CE da [])) ra=some (.ins CE da []):=af;generalize upd (upd Jg da (.own ra)) ra (.ins CE da [])=Xe at *;have rP:aG Xe (upd (upd Xe db (.own rb)) rb (.ins CI db [])):=(ai (o:=.own rb) ndb).trans (ai (D:=rb) (o:=.ins CI db []) (by rw[ao neb.symm];exact nrb));have hrb:(upd (upd Xe db (.own rb)) rb (.ins CI db [])) rb=some (.ins CI db []):=af;generalize upd (upd Xe db (.own rb)) rb (.ins CI db [])=H12 at *;have sc1:=ai (o:=.tup [.ref ra,.ref rb]) hTT;have Hk:=(sa1.trans rP).trans sc1;have gT:(upd H12 TT (.tup [.ref ra,.ref rb])) TT=some (.tup [.ref ra,.ref rb]):=af;have aai:=sc1 _ _ (rP _ _ hra);have aaj:=sc1 _ _ hrb;generalize upd H12 TT (.tup [.ref ra,.ref rb])=H13 at *;have S13:Jh K H13 a (ns.map V.int):=S10.mono fun o u e=>Hk _ _ e;have F13:=F10.eK (eh.of Hk);have Xf:=N10.same Hk;have p13:=p10.same Hk;have t13:=t10.same Hk;have IE:=Hk _ _ Vk;have IF:=Hk _ _ Vl;refine⟨TT,rfl,⟨_,bJ.of gT⟩,?_⟩;refine vI (K:=K) (xs:=[.ref ra,.ref rb]) (fun i σ Ly=>(∃x9,σ=[some (.ref a),some (.int (0+(k:Int))),some (.ref p),some (.ref t0),some (.ref o),some (.ref fr),some (.ref ha),some (.ref sa),some (.ref px),x9])/\KN H13 Ly/\T4 Pt Pq PN Pr Ly) ⟨⟨_,rfl⟩,fun b o e _=>e,t13⟩ (fun i σ Ly _ z=>bJ.of (z.2.1 _ _ gT o7)) ?_ ?_
   .rintro i x σ Ly hx ⟨⟨x9,rfl⟩,kn,Ji⟩;obtain⟨ru,Ci,du,tt,rfl,is3,hru⟩:∃ru Ci du tt,x=.ref ru/\PU CE CI CN Ci false tt/\H13 ru=some (.ins Ci du []):=by
     match i,hx with
     |0,hx=>exact⟨ra,CE,da,false,(bh hx).symm,.inl ⟨rfl,rfl,rfl⟩,aai⟩
     |1,hx=>exact⟨rb,CI,db,true,(bh hx).symm,.inr (.inl ⟨rfl,rfl,rfl⟩),aaj⟩
    obtain⟨L14,N14⟩:=Xf.kn kn;refine⟨_,rfl,_,rfl,_,rfl,_,rfl,_,rfl,L14,fr,px,ha,sa,ru,Ci,du,tt,n,zp pL,homes,st,rfl,is3,kn _ _ hru (by intro ps z;cases z),N14,F13.eK kn,kn _ _ IE o7,kn _ _ IF o7,SD2,le,Ji.n,Ji.r,fun RQ aak aal k15=>?_⟩;have aam:KN Ly RQ:=fun b o e nt=>k15 _ _ e (Ji.n.not e nt) (Ji.r.not e nt);have kk:∀ {lp:Pos} {qq:Str} {Px:Addr},cr lp qq Px Ly->Px≠PN->Px≠Pr->cr lp qq Px RQ:=fun t n1 n2=>t.keep fun b o e z=>k15 b o e (z.elim (fun z=>z ▸ n1) fun nt=>Ji.n.not e nt) (z.elim (fun z=>z ▸ n2) fun nt=>Ji.r.not e nt);refine⟨_,rfl,iq ⟨⟨_,rfl⟩,fun b o e nt=>aam _ _ (kn _ _ e nt) nt,kk Ji.a nd.1.2 nd.2.1.1,kk Ji.q nd.2.1.2 nd.2.2.1,aak,aal⟩⟩
   .rintro σ Ly ⟨⟨x9,rfl⟩,kn,Ji⟩;obtain⟨L14,N14⟩:=Xf.kn kn;have RS:bw Ly p:=p13.eK kn;have npx:px≠p:=by
     obtain⟨u,v,e,_⟩:=p8;rintro rfl;rw[nx] at e;cases e
    refine⟨_,rfl,_,rfl,_,rfl,_,rfl,_,rfl,p,9,rfl,by decide,by decide,RS,fun d RQ hd Ql p15=>?_⟩;have N15:∃L,cH C RQ L px n (zp pL):=by
     obtain⟨dx2,tl,ol,ds,i0,_⟩:=Xf.ob;exact⟨_,Xf.W8.keep (H':=RQ) (fun b o' l e=>by
      obtain⟨l0,o2,e2,nt⟩:=l;rw[e] at e2;cases e2;exact Ql _ _ (kn _ _ e nt) (hxp _ l0)) fun o' e=>Ql _ _ (kn _ _ e (by rw[i0] at e;cases e;intro ps z;cases z)) npx⟩
    obtain⟨L15,N15⟩:=N15;have RV:=Ji.n_ Ql RS;have F14:=F13.eK kn;refine⟨L15,fr,px,ha,sa,(d:Int),n,zp pL,homes,st,rfl,N15,F14.jj Ql RS frp,Ql _ _ (kn _ _ IE o7) (RS.neT (kn _ _ IE o7)),Ql _ _ (kn _ _ IF o7) (RS.neT (kn _ _ IF o7)),SD2,le,RV.n,fun H16 aan k16=>?_⟩;have kk:∀ {lp:Pos} {qq:Str} {Px:Addr},cr lp qq Px RQ->Px≠PN->cr lp qq Px H16:=fun t n1=>t.keep fun b o e z=>k16 b o e (z.elim (fun z=>z ▸ n1) fun nt=>RV.n.not e nt);refine⟨_,rfl,iq ⟨⟨_,_,_,_,_,_,_,_,_,rfl⟩,?_,kk RV.a nd.1.2,kk RV.q nd.2.1.2,aan,kk RV.r nd.2.2.2.symm⟩⟩;have nap:∀o u,Ly a=some (.vC o u)->a≠p:=fun o u e z=>by
     obtain⟨x,y,e2,_⟩:=RS;rw[<-z,e] at e2;cases e2
    exact S13.mono fun o u e=>by
     have e4:=kn _ _ e (by intro ps z;cases z);have e5:=Ql _ _ e4 (nap _ _ e4);exact k16 _ _ e5 (RV.n.not e5 (by intro ps z;cases z))
end
def FD(K:PySem.W.Frag)(n:Str)(st:Stmt):Prop:=∃ (f:Addr) (oc:Value) (od an:Option Addr) (sl:Array (Option Value)) (kV dc pm cd ct:Value),PySem.W.nsIn K mainGlobals n=some (some (.ref f))/\K.lookup f=some ⟨oc,od,.func (PySem.W.fnOf n n (dw st) (bQ st) (ap st) .none kV dc pm an cd ct),sl⟩/\PySem.W.codeIn K cd n=true/\PySem.W.keepIn K (.ref f)=true
def FC(K:PySem.W.Frag)(n:Str)(st:Stmt)(c:Addr):Prop:=∃ (f:Addr) (oc:Value) (od an:Option Addr) (sl:Array (Option Value)) (kV dc pm ct:Value),PySem.W.nsIn K mainGlobals n=some (some (.ref f))/\K.lookup f=some ⟨oc,od,.func (PySem.W.fnOf n n (dw st) (bQ st) (ap st) .none kV dc pm an (.ref c) ct),sl⟩/\PySem.W.codeIn K (.ref c) n=true/\PySem.W.keepIn K (.ref f)=true
def MD(K:PySem.W.Frag)(C:Addr)(n q:Str)(st:Stmt):Prop:=∃ (f:Addr) (oc:Value) (od an:Option Addr) (sl:Array (Option Value)) (kV dc pm cd ct:Value),PySem.W.findIn K (.ref C) n=some (some (.ref f))/\PySem.W.isFn K (.ref f)=true/\K.lookup f=some ⟨oc,od,.func (PySem.W.fnOf n q (dw st) (bQ st) (ap st) .none kV dc pm an cd ct),sl⟩/\PySem.W.codeIn K cd q=true/\PySem.W.keepIn K (.ref f)=true
def MC(K:PySem.W.Frag)(C:Addr)(n q:Str)(st:Stmt)(c:Addr):Prop:=∃ (f:Addr) (oc:Value) (od an:Option Addr) (sl:Array (Option Value)) (kV dc pm ct:Value),PySem.W.findIn K (.ref C) n=some (some (.ref f))/\PySem.W.isFn K (.ref f)=true/\K.lookup f=some ⟨oc,od,.func (PySem.W.fnOf n q (dw st) (bQ st) (ap st) .none kV dc pm an (.ref c) ct),sl⟩/\PySem.W.codeIn K (.ref c) q=true/\PySem.W.keepIn K (.ref f)=true
section
variable {P:Program} {w:World} {K:PySem.W.Frag} {mg:Str->Option Value} {base h:Heap} {n q:Str} {st:Stmt} {f c C:Addr} {oc kV dc pm cd ct:Value} {od an:Option Addr} {sl:Array (Option Value)} {CX:wY} {k:Nat} {ps:List Str} {sp:Sp}
theorem FD.mk(a:PySem.W.nsIn K mainGlobals n=some (some (.ref f)))(l:K.lookup f=some ⟨oc,od,.func (PySem.W.fnOf n n (dw st) (bQ st) (ap st) .none kV dc pm an cd ct),sl⟩)(d:PySem.W.codeIn K cd n=true)(k:PySem.W.keepIn K (.ref f)=true):FD K n st:=⟨f,oc,od,an,sl,kV,dc,pm,cd,ct,a,l,d,k⟩
theorem FC.mk(a:PySem.W.nsIn K mainGlobals n=some (some (.ref f)))(l:K.lookup f=some ⟨oc,od,.func (PySem.W.fnOf n n (dw st) (bQ st) (ap st) .none kV dc pm an (.ref c) ct),sl⟩)(d:PySem.W.codeIn K (.ref c) n=true)(k:PySem.W.keepIn K (.ref f)=true):FC K n st c:=⟨f,oc,od,an,sl,kV,dc,pm,ct,a,l,d,k⟩
theorem MD.mk(a:PySem.W.findIn K (.ref C) n=some (some (.ref f)))(i:PySem.W.isFn K (.ref f)=true)(l:K.lookup f=some ⟨oc,od,.func (PySem.W.fnOf n q (dw st) (bQ st) (ap st) .none kV dc pm an cd ct),sl⟩)(d:PySem.W.codeIn K cd q=true)(k:PySem.W.keepIn K (.ref f)=true):MD K C n q st:=⟨f,oc,od,an,sl,kV,dc,pm,cd,ct,a,i,l,d,k⟩
theorem MC.mk(a:PySem.W.findIn K (.ref C) n=some (some (.ref f)))(i:PySem.W.isFn K (.ref f)=true)(l:K.lookup f=some ⟨oc,od,.func (PySem.W.fnOf n q (dw st) (bQ st) (ap st) .none kV dc pm an (.ref c) ct),sl⟩)(d:PySem.W.codeIn K (.ref c) q=true)(k:PySem.W.keepIn K (.ref f)=true):MC K C n q st c:=⟨f,oc,od,an,sl,kV,dc,pm,ct,a,i,l,d,k⟩
def BD(n q:Str)(st:Stmt)(ps:List Str):Prop:=∀ (kV ni pm:Value) (an:Option Addr) (dR ct:Value) (us:List Value),us.length=ps.length->bindArgs (PySem.W.fnOf n q (dw st) (bQ st) (ap st) .none kV ni pm an dR ct) ⟨us,[]⟩=pure (ps.zip us)
theorem FD.fJ(X:K.In h)(G:h.Ns mainGlobals mg)(D:FD K n st)(b:BD n n st ps)(o:∀ {f fd},fH K n n st f fd->bf P w K mg base CX k f fd ps sp):ce P w K mg base CX k n ps sp:=by
 obtain⟨f,_,_,_,_,_,_,_,_,_,a,l,d,kp⟩:=D;have F:=vN (x:=n) (qual:=n) (st:=st) l d kp;exact⟨⟨f,_,iL X G a,kp,F.binds b,o F⟩⟩
theorem FC.fJ(X:K.In h)(G:h.Ns mainGlobals mg)(D:FC K n st c)(b:BD n n st ps)(o:∀ {f fd},rT K n n st f fd c->bf P w K mg base CX k f fd ps sp):ce P w K mg base CX k n ps sp:=by
 obtain⟨f,_,_,_,_,_,_,_,_,a,l,d,kp⟩:=D;have F:=Cb (x:=n) (qual:=n) (st:=st) l d kp;exact⟨⟨f,_,iL X G a,kp,F.fun.binds b,o F⟩⟩
theorem MD.fJ(D:MD K C n q st)(b:BD n q st ps)(o:∀ {f fd},fH K n q st f fd->bf P w K mg base CX k f fd ps sp):iB P w K mg base CX k C n ps sp:=by
 obtain⟨f,_,_,_,_,_,_,_,_,_,a,i,l,d,kp⟩:=D;have F:=vN (x:=n) (qual:=q) (st:=st) l d kp;exact⟨⟨f,_,⟨a,i,kp⟩,F.binds b,o F⟩⟩
theorem MC.fJ(D:MC K C n q st c)(b:BD n q st ps)(o:∀ {f fd},rT K n q st f fd c->bf P w K mg base CX k f fd ps sp):iB P w K mg base CX k C n ps sp:=by
 obtain⟨f,_,_,_,_,_,_,_,_,a,i,l,d,kp⟩:=D;have F:=Cb (x:=n) (qual:=q) (st:=st) l d kp;exact⟨⟨f,_,⟨a,i,kp⟩,F.fun.binds b,o F⟩⟩
end
theorem jl{α:Type}{P:List α->Prop}(h:∀a0,P [a0])(l:List α)(e:l.length=1):P l:=by
 cases l with
 |nil=>cases e
 |cons a t=>cases t with
  |nil=>exact h a
  |cons b t=>cases e
theorem fm{α:Type}{P:List α->Prop}(h:∀a0 a1,P [a0,a1])(l:List α)(e:l.length=2):P l:=by
 cases l with
 |nil=>cases e
 |cons a t=>exact jl (P:=fun t=>P (a::t)) (h a) t (vx e)
theorem jZ{α:Type}{P:List α->Prop}(h:∀a0 a1 a2,P [a0,a1,a2])(l:List α)(e:l.length=3):P l:=by
 cases l with
 |nil=>cases e
 |cons a t=>exact fm (P:=fun t=>P (a::t)) (h a) t (vx e)
theorem sU{α:Type}{P:List α->Prop}(h:∀a0 a1 a2 a3,P [a0,a1,a2,a3])(l:List α)(e:l.length=4):P l:=by
 cases l with
 |nil=>cases e
 |cons a t=>exact jZ (P:=fun t=>P (a::t)) (h a) t (vx e)
theorem oo{α:Type}{P:List α->Prop}(h:∀a0 a1 a2 a3 a4,P [a0,a1,a2,a3,a4])(l:List α)(e:l.length=5):P l:=by
 cases l with
 |nil=>cases e
 |cons a t=>exact sU (P:=fun t=>P (a::t)) (h a) t (vx e)
theorem Qm{l:PySem.W.OpenLaw}{w:World}{K:PySem.W.Frag}{h:Heap}{mg:Str->Option Value}{fa:Addr}(X:K.In h)(G:h.Ns mainGlobals mg)(PX:mg "law"=some (.ref fa)){C cO Pt cL Pq cW Pr cN PN cX bH bK:Addr}{qk tQ ql:Tok}(aC:PySem.W.nsIn K mainGlobals "Net"=some (some (.ref C)))(Lz:PySem.W.nsIn K mainGlobals "Elder"=some (some (.ref cX)))(IG:PySem.W.nsIn K mainGlobals "InTurn"=some (some (.ref bH)))(EK:PySem.W.nsIn K mainGlobals "Nearest"=some (some (.ref bK)))(LC:FD K "is_whole" A8)(IH:FD K "is_whole_within" wo)(LD:FD K "is_house" A9)(Vm:FD K "is_row" OE)(Vn:FD K "are_unlike_houses" ON)(Vo:FD K "is_tie" OL)(LI:FD K "check_ties" Bd)(Vp:FD K "check_balance" OM)(Qn:FC K "houses_out" yu cO)(Qo:FD K "distances_from" Hf)(LJ:FD K "check_reached" Be)(aao:FD K "is_handed_on" ZO)(aap:FD K "beats_under_way" ZP)(aaq:FD K "home_at" ZQ)(aar:FD K "under_way" ZD)(aas:FD K "elder_bound" sEB)(aat:FD K "stand_behind" ZT)(aau:FD K "first_free" ZE)(aav:FD K "hand_in_turn" ZF)(aaw:FD K "hand_eagerly" ZM)(Qp:FD K "hand" HY)(Vq:FD K "log_by" PZ)(Vr:FC K "run" Lp cW)(aax:FD K "stands_of" Z3)(Vs:FD K "_law_pot" O6)(Qq:FD K "_law_draw" Ho)(LK:FD K "_law_mixed" Bq)(LL:FD K "_law_sides" Bs)(Vt:FD K "_law_box" O8)(LM:FD K "_law_words" Br)(Qr:FD K "_law_tree" HM)(Qs:FD K "_law_ends" HD)(Qt:FD K "_law_tied" HP)(LN:FD K "_law_ring_ties" Bt)(Vu:FD K "_law_one_way" Pg)(Qu:FD K "_law_both" HC)(LP:FD K "_law_shape" sA)(Vv:FD K "_law_net" Pk)(Qv:FC K "_law_out" yG cL)(Qw:FD K "_law_fars" C4)(Vw:FD K "_law_letters" P6)(Vx:FD K "_law_bound" Qa)(aay:FD K "_law_home" sLH)(aaz:FD K "_law_is_bound" sIB)(aaA:FD K "_law_least" sLE)(aaB:FD K "_law_behind" ZU)(aaC:FD K "_law_is_nearest" sIN)(Vy:FD K "law" BI)(Qx:MD K C "__init__" "Net.__init__" CK)(LQ:MD K C "check_house" "Net.check_house" Bc)(Qy:MD K C "span" "Net.span" G7)(Vz:MD K C "far" "Net.far" OI)(VA:MD K C "out" "Net.out" OH)(Qz:MD K C "good" "Net.good" G8)(pg:PySem.W.plainGet K C Str.empty=true)(aaD:PySem.W.hasDictIn K C=true)(po:PySem.W.plainOver K C=true)(sa:PySem.W.findIn K (.ref C) "__setattr__"=some (some (.builtin "object.__setattr__")))(mk:PySem.W.makesIn K C=true)(kc:PySem.W.keepIn K (.ref C)=true)(nH:PySem.W.findIn K (.ref C) "house_count"=some none)(nT:PySem.W.findIn K (.ref C) "tie_list"=some none)(nO:PySem.W.findIn K (.ref C) "out_lists"=some none)(nD:PySem.W.findIn K (.ref C) "distances"=some none)(wT:PySem.W.nsIn K mainGlobals "isinstance"=some none)(VB:PySem.W.nsIn K mainGlobals "int"=some none)(QA:PySem.W.nsIn K mainGlobals "bool"=some none)(LR:PySem.W.nsIn K mainGlobals "tuple"=some none)(QB:PySem.W.nsIn K mainGlobals "list"=some none)(VC:PySem.W.nsIn K mainGlobals "str"=some none)(VD:PySem.W.nsIn K mainGlobals "set"=some none)(VE:PySem.W.nsIn K mainGlobals "len"=some none)(LU:PySem.W.nsIn K mainGlobals "range"=some none)(II:PySem.W.nsIn K mainGlobals "sorted"=some none)(VF:PySem.W.nsIn K mainGlobals "any"=some none)(VG:PySem.W.nsIn K mainGlobals "max"=some none)(VH:PySem.W.nsIn K mainGlobals "min"=some none)(wU:PySem.W.nsIn K mainGlobals "ValueError"=some none)(VI:PySem.W.nsIn K mainGlobals "all"=some none)(VJ:PySem.W.nsIn K mainGlobals "zip"=some none)(yO:PySem.W.nsIn K mainGlobals "enumerate"=some none)(qm:PySem.W.nsIn K mainGlobals "FEWEST_HOUSES"=some (some (.int 2 qk)))(tR:PySem.W.nsIn K mainGlobals "MOST_HOUSES"=some (some (.int 32 tQ)))(qo:PySem.W.nsIn K mainGlobals "MOST_TIES_OUT"=some (some (.int 8 ql)))(QC:PySem.W.specialIn K (.builtin "object.__class__") "__get__"=some (some (.builtin "getset_descriptor.__get__")))(QD:PySem.W.takesIn K (.builtin "object.__class__")=some true)(aaE:PySem.W.plainGet K cX Str.empty=true)(aaF:PySem.W.hasDictIn K cX=true)(aaG:PySem.W.plainOver K cX=true)(aaH:PySem.W.findIn K (.ref cX) "__setattr__"=some (some (.builtin "object.__setattr__")))(aaI:PySem.W.findIn K (.ref cX) "__class__"=some (some (.builtin "object.__class__")))(aaJ:PySem.W.mroIn K cX (.type "object")=some true)(aaK:PySem.W.kitOne K (.ref cX) (.ref bH)=some false)(aaL:PySem.W.makesIn K cX=true)(aaM:PySem.W.keepIn K (.ref cX)=true)(aaN:PySem.W.findIn K (.ref cX) "__init__"=some (some (.builtin "object.__init__")))(aaO:MD K cX "order" "Rule.order" C5)(aaP:MD K cX "check_letters" "Rule.check_letters" Lq)(aaQ:PySem.W.plainGet K bH Str.empty=true)(aaR:PySem.W.hasDictIn K bH=true)(aaS:PySem.W.plainOver K bH=true)(aaT:PySem.W.findIn K (.ref bH) "__setattr__"=some (some (.builtin "object.__setattr__")))(aaU:PySem.W.findIn K (.ref bH) "__class__"=some (some (.builtin "object.__class__")))(aaV:PySem.W.mroIn K bH (.type "object")=some true)(aaW:PySem.W.kitOne K (.ref bH) (.ref bH)=some true)(aaX:PySem.W.makesIn K bH=true)(aaY:PySem.W.keepIn K (.ref bH)=true)(aaZ:PySem.W.findIn K (.ref bH) "__init__"=some (some (.builtin "object.__init__")))(aa0:MD K bH "order" "Rule.order" C5)(aa1:MD K bH "check_letters" "Rule.check_letters" Lq)(aa2:PySem.W.plainGet K bK Str.empty=true)(aa3:PySem.W.hasDictIn K bK=true)(aa4:PySem.W.plainOver K bK=true)(aa5:PySem.W.findIn K (.ref bK) "__setattr__"=some (some (.builtin "object.__setattr__")))(aa6:PySem.W.findIn K (.ref bK) "__class__"=some (some (.builtin "object.__class__")))(aa7:PySem.W.mroIn K bK (.type "object")=some true)(aa8:PySem.W.kitOne K (.ref bK) (.ref bH)=some false)(aa9:PySem.W.makesIn K bK=true)(aba:PySem.W.keepIn K (.ref bK)=true)(abb:PySem.W.findIn K (.ref bK) "__init__"=some (some (.builtin "object.__init__")))(abc:MC K bK "order" "Nearest.order" uK cN)(q_n:PySem.W.codeHdIn K cN PN=true)(nNr:PN≠Pr)(nd:(Pt≠Pq/\Pt≠PN)/\(Pt≠Pr/\Pq≠PN)/\Pq≠Pr/\PN≠Pr)(QE:PySem.W.codeHdIn K cO Pt=true)(QF:PySem.W.codeHdIn K cL Pq=true)(VL:PySem.W.codeHdIn K cW Pr=true):
  ∃fd:FuncData,(∀ (s:Shared) (v:Value),BindsTo s fd ⟨[v],[]⟩ [("_law_script",v)])/\∀base:Heap,K.In base->base.Ns mainGlobals mg->qd mg base->bf l.prog w K mg base aY 15 fa fd ["_law_script"] (Dl K Pt Pq PN Pr):=by
 obtain⟨abQ,oc,od,an,sl,kV,dc,pm,cd,ct,VM,VN,VO,VP⟩:=Vy;have e:=PX.symm.trans (iL X G VM);cases e;have VQ:=vN (x:="law") (qual:="law") (st:=BI) VN VO VP;obtain⟨f_i,oci,odi,ani,sli,kVi,dci,pmi,cdi,cti,a_i,i_i,l_i,d_i,k_i⟩:=Qx;have yP:=vN (x:="__init__") (qual:="Net.__init__") (st:=CK) l_i d_i k_i;have IJ:=yP.binds (ps:=["self","many","ties"]) fun _ _ _ _ _ _=>jZ fun _ _ _=>rfl;have MK:Mk K C f_i:=⟨mk,a_i,i_i,kc⟩
 have B:Bl mg:=⟨gK X G wT,gK X G VB,gK X G QA,gK X G LR,gK X G QB,gK X G VC,gK X G VD,gK X G VE,gK X G LU,gK X G II,gK X G VF,gK X G VG,gK X G VH,gK X G wU,gK X G VI⟩
 have T:NT K mg C:=⟨⟨pg,aaD,po,sa⟩,nH,nT,nO,nD,iL X G aC⟩
 have B2:M5 mg:=⟨gK X G VJ,gK X G yO⟩
 have mkE:O4 K cX:=⟨aaL,aaN,aaM⟩
 have mkI:O4 K bH:=⟨aaX,aaZ,aaY⟩
 have mkN:O4 K bK:=⟨aa9,abb,aba⟩
 refine⟨PySem.W.fnOf "law" "law" (dw BI) (bQ BI) (ap BI) .none kV dc pm an cd ct,fun s v=>.of_eq rfl,fun base kb nb hb=>?_⟩;have LV:ce l.prog w K mg base aY 1 "is_whole" ["thing"] (wq K):=FD.fJ X G LC (fun _ _ _ _ _ _=>jl fun _=>rfl) fun LW=>GZ LW B;have sV:ce l.prog w K mg base aY 2 "is_whole_within" ["thing","least","most"] (kX K):=FD.fJ X G IH (fun _ _ _ _ _ _=>jZ fun _ _ _=>rfl) fun IK=>Ep IK LV;have Dm:ce l.prog w K mg base aY 3 "is_house" ["many","thing"] (qD K):=FD.fJ X G LD (fun _ _ _ _ _ _=>fm fun _ _=>rfl) fun LX=>G4 LX sV;have VR:ce l.prog w K mg base aY 1 "is_row" ["thing","length"] (G5 K):=FD.fJ X G Vm (fun _ _ _ _ _ _=>fm fun _ _=>rfl) fun VS=>OG VS B;have VT:ce l.prog w K mg base aY 4 "are_unlike_houses" ["many","one","other"] G9:=FD.fJ X G Vn (fun _ _ _ _ _ _=>jZ fun _ _ _=>rfl) fun VU=>OO VU Dm;have VW:ce l.prog w K mg base aY 5 "is_tie" ["many","thing"] G_:=FD.fJ X G Vo (fun _ _ _ _ _ _=>fm fun _ _=>rfl) fun VX=>OP VX VR VT;have LY:ce l.prog w K mg base aY 6 "check_ties" ["many","ties"] ln:=FD.fJ X G LI (fun _ _ _ _ _ _=>fm fun _ _=>rfl) fun LZ=>Hb LZ B ⟨_,iL X G qm⟩ ⟨_,iL X G tR⟩ sV VW;have VY:ce l.prog w K mg base aY 1 "check_balance" ["many","ties"] ln:=FD.fJ X G Vp (fun _ _ _ _ _ _=>fm fun _ _=>rfl) fun VZ=>OQ VZ B ⟨_,iL X G qo⟩;have QG:ce l.prog w K mg base aY 1 "houses_out" ["many","ties","house"] (wv Pt):=FC.fJ X G Qn (fun _ _ _ _ _ _=>jZ fun _ _ _=>rfl) fun QH=>KI QH B kb hb QE;have QI:ce l.prog w K mg base aY 1 "distances_from" ["out_lists","start"] ww:=FD.fJ X G Qo (fun _ _ _ _ _ _=>fm fun _ _=>rfl) fun QJ=>KJ QJ B;have L4:ce l.prog w K mg base aY 1 "check_reached" ["distances"] wy:=FD.fJ X G LJ (fun _ _ _ _ _ _=>jl fun _=>rfl) fun L5=>Hj L5 B;have QK:bf l.prog w K mg base aY 7 f_i _ ["self","many","ties"] (Bi C Pt):=KO yP T B LY VY QG QI L4;have Dn:iB l.prog w K mg base aY 4 C "check_house" ["self","thing"] (nW C):=MD.fJ LQ (fun _ _ _ _ _ _=>fm fun _ _=>rfl) fun EL=>Es EL T Dm;have QL:iB l.prog w K mg base aY 1 C "span" ["self"] (Bk C):=MD.fJ Qy (fun _ _ _ _ _ _=>jl fun _=>rfl) fun IL=>KR IL T B;have IM:iB l.prog w K mg base aY 5 C "far" ["self","one","other"] (pK C):=MD.fJ Vz (fun _ _ _ _ _ _=>jZ fun _ _ _=>rfl) fun L6=>KD L6 T Dn;have No:iB l.prog w K mg base aY 5 C "out" ["self","house"] (wu C):=MD.fJ VA (fun _ _ _ _ _ _=>fm fun _ _=>rfl) fun L7=>KC L7 T B Dn;have IP:iB l.prog w K mg base aY 6 C "good" ["self","house","home"] (qJ C):=MD.fJ Qz (fun _ _ _ _ _ _=>jZ fun _ _ _=>rfl) fun IQ=>H_ IQ T IM;have abd:ce l.prog w K mg base aY 3 "is_handed_on" ["stands","log","letter","beat"] (Ll K):=FD.fJ X G aao (fun _ _ _ _ _ _=>sU fun _ _ _ _=>rfl) fun abe=>UP abe B sV;have abf:ce l.prog w K mg base aY 4 "beats_under_way" ["stands","log","letter"] PQ:=FD.fJ X G aap (fun _ _ _ _ _ _=>jZ fun _ _ _=>rfl) fun abg=>UQ abg B abd;have abh:ce l.prog w K mg base aY 5 "home_at" ["homes","stands","log","letter"] PR:=FD.fJ X G aaq (fun _ _ _ _ _ _=>sU fun _ _ _ _=>rfl) fun abi=>US abi abf;have IR:ce l.prog w K mg base aY 1 "under_way" ["stand"] EA:=FD.fJ X G aar (fun _ _ _ _ _ _=>jl fun _=>rfl) fun abj=>UH abj B2.enum;have abk:ce l.prog w K mg base aY 6 "elder_bound" ["net","homes","stand","letter"] (Qd C):=FD.fJ X G aas (fun _ _ _ _ _ _=>sU fun _ _ _ _=>rfl) fun abl=>Va abl T IR IM QL;have V0:ce l.prog w K mg base aY 1 "stand_behind" ["homes","handing"] yI:=FD.fJ X G aat (fun _ _ _ _ _ _=>fm fun _ _=>rfl) fun abm=>UY abm B B2;have R:PV l.prog w K mg base C cX bH bK PN:=⟨⟨⟨aaE,aaF,aaG,aaH⟩,iL X G Lz,aaI,QC,QD,aaJ,aaK⟩,⟨⟨aaQ,aaR,aaS,aaT⟩,iL X G IG,aaU,QC,QD,aaV,aaW⟩,⟨⟨aa2,aa3,aa4,aa5⟩,iL X G EK,aa6,QC,QD,aa7,aa8⟩,(MD.fJ aaO (fun _ _ _ _ _ _=>oo fun _ _ _ _ _=>rfl) fun F=>((C9 F IR).mono (by decide)).imp fun _ _ _ _ h=>Nh h),(MD.fJ aa0 (fun _ _ _ _ _ _=>oo fun _ _ _ _ _=>rfl) fun F=>((C9 F IR).mono (by decide)).imp fun _ _ _ _ h=>Nh h),(MC.fJ abc (fun _ _ _ _ _ _=>oo fun _ _ _ _ _=>rfl) fun F=>(UM F B kb hb q_n T IM IR).imp fun _ _ _ _ h=>UX h),(MD.fJ aaP (fun _ _ _ _ _ _=>fm fun _ _=>rfl) fun F=>Iq F),(MD.fJ aa1 (fun _ _ _ _ _ _=>fm fun _ _=>rfl) fun F=>Iq F)⟩
 have V1:ce l.prog w K mg base aY 1 "first_free" ["others","stand","goes","letter"] Li:=FD.fJ X G aau (fun _ _ _ _ _ _=>sU fun _ _ _ _=>rfl) fun abn=>UI abn B;have abo:ce l.prog w K mg base aY 7 "hand_in_turn" ["net","homes","stand","letters","goes"] (Ps C):=FD.fJ X G aav (fun _ _ _ _ _ _=>oo fun _ _ _ _ _=>rfl) fun abp=>UK abp T IP No V1;have abq:ce l.prog w K mg base aY 7 "hand_eagerly" ["net","homes","stand","letters","goes"] (PL C):=FD.fJ X G aaw (fun _ _ _ _ _ _=>oo fun _ _ _ _ _=>rfl) fun abr=>UO abr T IP No V1;have IS:ce l.prog w K mg base aY 10 "hand" ["rule","net","homes","stand","beat"] (sQ C cX bH bK PN):=FD.fJ X G Qp (fun _ _ _ _ _ _=>oo fun _ _ _ _ _=>rfl) fun QM=>Lo QM B R abo abq;have V2:ce l.prog w K mg base aY 12 "log_by" ["homes","stand","most","handed"] (Ip C cX bH bK PN):=FD.fJ X G Vq (fun _ _ _ _ _ _=>sU fun _ _ _ _=>rfl) fun V3=>P3 V3 B IR V0 IS;have V4:ce l.prog w K mg base aY 13 "run" ["rule","net","homes","stand","most"] (Ir C cX bH bK PN Pr):=FC.fJ X G Vr (fun _ _ _ _ _ _=>oo fun _ _ _ _ _=>rfl) fun V5=>P5 V5 kb hb VL nNr R V2;have abt:ce l.prog w K mg base aY 2 "stands_of" ["homes","stand","log"] P7:=FD.fJ X G aax (fun _ _ _ _ _ _=>jZ fun _ _ _=>rfl) fun abu=>U6 abu V0;have V6:ce l.prog w K mg base aY 1 "_law_pot" ["_law_script","_law_place"] (Hq K):=FD.fJ X G Vs (fun _ _ _ _ _ _=>fm fun _ _=>rfl) fun V7=>O7 V7 B;have jL:ce l.prog w K mg base aY 1 "_law_draw" ["_law_pot_here","_law_many"] g7:=FD.fJ X G Qq (fun _ _ _ _ _ _=>fm fun _ _=>rfl) fun QN=>KY QN;have wV:ce l.prog w K mg base aY 2 "_law_mixed" ["_law_pot_here","_law_row"] n5:=FD.fJ X G LK (fun _ _ _ _ _ _=>fm fun _ _=>rfl) fun L8=>Hu L8 B jL;have L9:ce l.prog w K mg base aY 2 "_law_sides" ["_law_pot_here"] wE:=FD.fJ X G LL (fun _ _ _ _ _ _=>jl fun _=>rfl) fun L_=>HI L_ B jL;have V8:ce l.prog w K mg base aY 1 "_law_box" ["_law_sides_here"] Hy:=FD.fJ X G Vt (fun _ _ _ _ _ _=>jl fun _=>rfl) fun V9=>O9 V9 B;have Ma:ce l.prog w K mg base aY 1 "_law_words" ["_law_figures","_law_base"] wB:=FD.fJ X G LM (fun _ _ _ _ _ _=>fm fun _ _=>rfl) fun Mb=>Hz Mb B;have IT:ce l.prog w K mg base aY 3 "_law_tree" ["_law_pot_here","_law_many"] mK:=FD.fJ X G Qr (fun _ _ _ _ _ _=>fm fun _ _=>rfl) fun QO=>K_ QO B jL wV;have QP:ce l.prog w K mg base aY 1 "_law_ends" ["_law_pairs","_law_house"] Bx:=FD.fJ X G Qs (fun _ _ _ _ _ _=>fm fun _ _=>rfl) fun QQ=>K8 QQ B;have QR:ce l.prog w K mg base aY 4 "_law_tied" ["_law_pot_here","_law_many"] mK:=FD.fJ X G Qt (fun _ _ _ _ _ _=>fm fun _ _=>rfl) fun QS=>La QS B jL IT QP;have Mc:ce l.prog w K mg base aY 1 "_law_ring_ties" ["_law_row"] wH:=FD.fJ X G LN (fun _ _ _ _ _ _=>jl fun _=>rfl) fun Md=>HK Md B B2;have V_:ce l.prog w K mg base aY 3 "_law_one_way" ["_law_pot_here","_law_many"] HQ:=FD.fJ X G Vu (fun _ _ _ _ _ _=>fm fun _ _=>rfl) fun Wa=>Pj Wa B jL wV Mc;have QT:ce l.prog w K mg base aY 1 "_law_both" ["_law_net_here"] wG:=FD.fJ X G Qu (fun _ _ _ _ _ _=>jl fun _=>rfl) fun QU=>K7 QU;have Me:ce l.prog w K mg base aY 2 "_law_shape" ["_law_pot_here"] wF:=FD.fJ X G LP (fun _ _ _ _ _ _=>jl fun _=>rfl) fun Mf=>HJ Mf jL;have Wb:ce l.prog w K mg base aY 5 "_law_net" ["_law_pot_here"] HR:=FD.fJ X G Vv (fun _ _ _ _ _ _=>jl fun _=>rfl) fun Wc=>Pl Wc B jL L9 Me IT QR V_ QT V8 Ma;have QV:ce l.prog w K mg base aY 1 "_law_out" ["_law_net_here"] (By Pq):=FC.fJ X G Qv (fun _ _ _ _ _ _=>jl fun _=>rfl) fun QW=>Le QW B kb hb QF;have QX:ce l.prog w K mg base aY 1 "_law_fars" ["_law_out_here"] Bz:=FD.fJ X G Qw (fun _ _ _ _ _ _=>jl fun _=>rfl) fun QY=>Lh QY B;have Wd:ce l.prog w K mg base aY 2 "_law_letters" ["_law_pot_here","_law_out_here","_law_most"] Iv:=FD.fJ X G Vw (fun _ _ _ _ _ _=>jZ fun _ _ _=>rfl) fun We=>BH We B jL;have Wf:ce l.prog w K mg base aY 1 "_law_bound" ["_law_fars_here","_law_homes","_law_stand","_law_letter"] Iy:=FD.fJ X G Vx (fun _ _ _ _ _ _=>sU fun _ _ _ _=>rfl) fun Wg=>Qe Wg B B2;have abv:ce l.prog w K mg base aY 1 "_law_home" ["_law_homes","_law_log","_law_letter"] Qg:=FD.fJ X G aay (fun _ _ _ _ _ _=>jZ fun _ _ _=>rfl) fun abw=>Vb abw B2;have abx:ce l.prog w K mg base aY 14 "_law_is_bound" ["_law_fars_here","_law_net_here","_law_homes","_law_stand","_law_rule"] (Qh C cX bH bK PN Pr):=FD.fJ X G aaz (fun _ _ _ _ _ _=>oo fun _ _ _ _ _=>rfl) fun aby=>Vd aby B B2 V4 abt Wf abv abk abh;have abz:ce l.prog w K mg base aY 1 "_law_least" ["_law_fars_here","_law_homes","_law_stand"] Qi:=FD.fJ X G aaA (fun _ _ _ _ _ _=>jZ fun _ _ _=>rfl) fun abA=>Vg abA B B2;have abB:ce l.prog w K mg base aY 1 "_law_behind" ["_law_homes","_law_handing"] yI:=FD.fJ X G aaB (fun _ _ _ _ _ _=>fm fun _ _=>rfl) fun abC=>U0 abC B B2;have abD:ce l.prog w K mg base aY 11 "_law_is_nearest" ["_law_fars_here","_law_net_here","_law_homes","_law_stand","_law_beat"] (Qj C PN):=FD.fJ X G aaC (fun _ _ _ _ _ _=>oo fun _ _ _ _ _=>rfl) fun abE=>Vh abE B R mkN abz abB IS;exact Qk VQ nd B T MK IJ QK R mkE mkI V6 jL Wb QV QX Wd wV abx abD
theorem Do(h:((List.range 2000).any fun c=>PySem.W.codeHdIn K c P)=true):∃c,PySem.W.codeHdIn K c P=true:=
 let ⟨c,_,e⟩:=q_.mp h;⟨c,e⟩
theorem QZ(hO:Ca ts H)(h:a8 K H a xs):Jh K H a xs:=by
 rcases h with h|h
 .rcases h with h|⟨o,h⟩
  .rcases hO.2 a with z|⟨_,z⟩|⟨o,ys,z⟩ <;> · rw[h] at z;cases z
  .exact .inl ⟨o,h⟩
 .exact .inr fun H'=>.inr h
theorem walk{l:PySem.W.OpenLaw}{q:Program}{ue:List Str}{XP:(Str->Option Value)->Heap->Prop}{YP:World->Heap->Prop}{d:DefRec}{K:Params->PySem.W.Frag}{PN Pr Pq Pt:Addr}(hn:l.most=some 63)(SC:d.params.defaults=[])(hY:∀ (w:World) (h:Heap),YP w h->(K w.params).In h)(hT:∀ (w:World) (h:Heap),YP w h->∀P∈[PN,Pr,Pq,Pt],h.get? P=some (PySem.W.tabObj #[]))(abF:∀ (w:World),((List.range 2000).any fun c=>PySem.W.codeHdIn (K w.params) c PN)=true)(abG:∀ (w:World),(K w.params).lookup PN=none)(abH:∀ (w:World),((List.range 2000).any fun c=>PySem.W.codeHdIn (K w.params) c Pr)=true)(abI:∀ (w:World),(K w.params).lookup Pr=none)(abJ:∀ (w:World),((List.range 2000).any fun c=>PySem.W.codeHdIn (K w.params) c Pq)=true)(abK:∀ (w:World),(K w.params).lookup Pq=none)(abL:∀ (w:World),((List.range 2000).any fun c=>PySem.W.codeHdIn (K w.params) c Pt)=true)(abM:∀ (w:World),(K w.params).lookup Pt=none)(F:∀ (w:World) (mg:Str->Option Value) (fa:Addr) (h:Heap),(K w.params).In h->h.Ns mainGlobals mg->mg d.name=some (.ref fa)->
   ∃fd:FuncData,(∀ (s:Shared) (u:Value),BindsTo s fd ⟨[u],[]⟩ [("_law_script",u)])/\∀base:Heap,(K w.params).In base->base.Ns mainGlobals mg->qd mg base->bf l.prog w (K w.params) mg base aY 15 fa fd ["_law_script"] (Dl (K w.params) Pt Pq PN Pr)):
  PySem.W.WalkO q ue XP YP l.row.toRowW d [] (fun f vs=>PySem.call f vs):=
 Gg (n:=63) (k:=15) (x:="_law_script") (ts:=[PN,Pr,Pq,Pt]) (K:=K) (CX:=fun _=>aY) (sp:=fun w=>(Dl (K w.params) Pt Pq PN Pr)) hn (by decide) SC ⟨rfl,by decide,by decide,rfl⟩ hY hT
  (fun w P=>fun e=>(a_.mp e).elim (fun e=>by rw[e];exact Do (abF w)) (fun e=>(a_.mp e).elim (fun e=>by rw[e];exact Do (abH w)) (fun e=>(a_.mp e).elim (fun e=>by rw[e];exact Do (abJ w)) (fun e=>by rw[cA.mp e];exact Do (abL w))))) (fun w P=>fun e=>(a_.mp e).elim (fun e=>by rw[e];exact abG w) (fun e=>(a_.mp e).elim (fun e=>by rw[e];exact abI w) (fun e=>(a_.mp e).elim (fun e=>by rw[e];exact abK w) (fun e=>by rw[cA.mp e];exact abM w)))) F
  (fun w H a ns hl hO hS=>⟨a,ns,rfl,QZ hO hS,hl,⟨.inl (hO.1 _ (by simp)),.inl (hO.1 _ (by simp)),.inl (hO.1 _ (by simp)),.inl (hO.1 _ (by simp))⟩,fun _=>rfl⟩) fun _ _ _ _ _ z=>z
end qi
open PySem PySem.W PyProof.Rows
namespace PySem.W.Fast
def tw6633034930481348533:=trivial
def tw8138623391557819570:=trivial
def tw16276510611177785000:=trivial
def tw13841964731447396396:=trivial
def tw16097748554626753475:=trivial
def tw2454217100325772202:=trivial
def tw16592564187636508171:=trivial
def tw14710176013329177142:=trivial
def tw5240817348862825148:=trivial
def tw1045170142854807041:=trivial
def tw11694723548533893815:=trivial
def tw16352500203426797604:=trivial
def tw4212148778324962350:=trivial
def tw5659250407193367246:=trivial
def tw1975106007800376731:=trivial
def tw2456668916936737051:=trivial
def tw15840533235399012867:=trivial
def tw2003312873475667927:=trivial
def tw7197720692997950055:=trivial
def tw7928246238738279500:=trivial
def tw7050676723593801655:=trivial
def tw13230422667646342889:=trivial
def tw9582474603812601874:=trivial
def tw1995960338641607541:=trivial
def tw10071660669104185309:=trivial
def tw6683998442984544885:=trivial
def tw8914448688472511279:=trivial
def tw10578412800982205502:=trivial
def tw9277116122307176389:=trivial
def tw16839207708423399767:=trivial
def tw7181237168854681697:=trivial
def tw6536693133744873634:=trivial
def tw5902967538534623653:=trivial
def tw8310977072671672994:=trivial
def tw766986057736883730:=trivial
def tw3123767731041333564:=trivial
def tw13353795606056565277:=trivial
def tw2183348624348808035:=trivial
def tw5124756380470566716:=trivial
def tw1287203133064994027:=trivial
def tw15446780976869259859:=trivial
def tw9078428465343034577:=trivial
def tw16730601744551944101:=trivial
def tw7328780813101108598:=trivial
def tw11237446797954111740:=trivial
def tw17666119943907997049:=trivial
def tw7787637770381775291:=trivial
def tw3652543455512248939:=trivial
def tw7501685550203431685:=trivial
def tw16434243417133278962:=trivial
def tw5690790749536981664:=trivial
def tw10530722450755046693:=trivial
def tw17441916581656375974:=trivial
def tw16660873272994742074:=trivial
def tw7275116827535122218:=trivial
def tw1131320541865827133:=trivial
def tw6588244427123867708:=trivial
def tw1146956239630782188:=trivial
def tw6402555486867551753:=trivial
def tw7047020243575869366:=trivial
def tw4111627057135839829:=trivial
def tw16374979381105473672:=trivial
def tw17548808805719380982:=trivial
def tw6965168571042088912:=trivial
def tw15490422390442706381:=trivial
def tw925195340713380093:=trivial
def tw11958228111773791822:=trivial
def tw7254293605110651262:=trivial
def tw12100696048452451563:=trivial
def tw10140770825188814242:=trivial
def tw6934645037518458528:=trivial
def tw14187852882310972268:=trivial
def tw6330387806407345183:=trivial
def tw17300598883316173487:=trivial
def tw2909220494645387050:=trivial
def tw17230389710766360486:=trivial
def tw13173350242192545504:=trivial
def tw9706641577141653626:=trivial
def tw10256219986151901487:=trivial
def tw346471043698519060:=trivial
def tw4146058309847149658:=trivial
def tw12501331876842364334:=trivial
def tw4801364320549682592:=trivial
def tw5794937429790670709:=trivial
def tw13014283910377872855:=trivial
def tw13378553933724534975:=trivial
def tw3809534141190669310:=trivial
def tw1495448665414796467:=trivial
def tw12437838349478993654:=trivial
def tw3315997535444028752:=trivial
def tw7794342175048515909:=trivial
def tw15484975377086207526:=trivial
def tw799390063479305634:=trivial
def tw18252812389459636172:=trivial
def tw3929937264630499380:=trivial
def tw5591125885929141312:=trivial
def tw17969386664305683278:=trivial
def tw10673533217623742173:=trivial
def tw6356622516001095042:=trivial
def tw15790794805012762330:=trivial
def tw16674229462294359488:=trivial
def tw4331801820795950078:=trivial
def tw5096940302445300272:=trivial
def tw3419464286301330393:=trivial
def tw14632503142495071784:=trivial
def tw4743361743422967616:=trivial
def tw17685377787623400445:=trivial
def tw5741372493572844981:=trivial
def tw9201837490735256467:=trivial
def tw4764756183400747480:=trivial
def tw14195584363187201103:=trivial
def tw348184574486924576:=trivial
def tw1035916181452256263:=trivial
def tw3121141394405404385:=trivial
def tw7217728784695678308:=trivial
def tw1479330701568594906:=trivial
def tw13286471870414665911:=trivial
def tw14450955147031144883:=trivial
def tw7065479676001651501:=trivial
def tw9778018433107203271:=trivial
def tw4620422694609580256:=trivial
def tw7101924674976671286:=trivial
def tw6727485874221381048:=trivial
def tw18395894162021012337:=trivial
def tw14570913059819594063:=trivial
def tw13083150112168020387:=trivial
def tw12495809409696729713:=trivial
def tw17117309016766963164:=trivial
def tw16052206539200701223:=trivial
def tw3610311517570394274:=trivial
def tw16377639530739873789:=trivial
def tw7559409327531589820:=trivial
def tw4977128267474358097:=trivial
def tw9764249697690100727:=trivial
def tw12273198448438671249:=trivial
def tw792583561687078225:=trivial
def tw3465587205457176296:=trivial
def tw2913481821323348198:=trivial
def tw15566530802411614567:=trivial
def tw5287231010284702059:=trivial
def tw13723405499911889314:=trivial
def tw17504455182238265516:=trivial
def tw2259798326347845219:=trivial
def tw4853464271727461180:=trivial
def tw6993722408570095906:=trivial
def tw1480479324931021223:=trivial
def tw5402367950503491337:=trivial
def tw7044536106419226057:=trivial
def tw2831927217399267653:=trivial
def tw3562982273201793524:=trivial
def tw16811045188630476567:=trivial
def tw13658623386311280231:=trivial
def tw1690499381370882585:=trivial
def tw15630956923683530535:=trivial
def tw12869855402576256650:=trivial
def tw16013304013523783861:=trivial
def tw3940388632918518667:=trivial
def tw15694747886265366867:=trivial
def tw11339195932779975430:=trivial
def tw2192995046924131614:=trivial
def tw16095588185515946628:=trivial
def tw2732579565045629114:=trivial
def tw12043092142436405344:=trivial
def tw13263579278732098880:=trivial
def tw12287379314498332780:=trivial
def tw15745121842150972706:=trivial
def tw17361913704007433277:=trivial
def tw9863347805039453110:=trivial
def tw7619695845940051793:=trivial
def tw7188026537220639271:=trivial
def tw16645532080637043587:=trivial
def tw8199960266176808379:=trivial
def tw15700140136078186881:=trivial
def tw11957072166476887791:=trivial
def tw5004856948342250418:=trivial
def tw3494934934372619126:=trivial
def tw7979750651825524545:=trivial
def tw17790942285054966187:=trivial
def tw722384815583758647:=trivial
def tw2100500041071023471:=trivial
def tw15455733415227380162:=trivial
def tw2959210624638319782:=trivial
def tw7847207295048064642:=trivial
def tw14046047302305862626:=trivial
def tw10092617866398129840:=trivial
def tw3157339969172125775:=trivial
def tw2912480713379347730:=trivial
def tw17413604139518828889:=trivial
def tw2848320396637271431:=trivial
def tw7714056723461404276:=trivial
def tw8021529205732540683:=trivial
def tw11710601172312948036:=trivial
def tw16267214644061162530:=trivial
def tw11122397239939102622:=trivial
def tw14458298690606574440:=trivial
def tw17772753494133866403:=trivial
def tw6282613213340247072:=trivial
def tw9274778816349116938:=trivial
def tw14782322884569133425:=trivial
def tw15878648579325477644:=trivial
def tw15587710361402234088:=trivial
def tw11423254149960595071:=trivial
def tw17059721717234169079:=trivial
def tw6632657762828937211:=trivial
def tw8725265758709476251:=trivial
def tw2781616397908518898:=trivial
def tw12358051217677242435:=trivial
def tw4880165980594836694:=trivial
def tw14958422534772446378:=trivial
def tw17293834577491224455:=trivial
def tw11757623917859396428:=trivial
def tw12289753395265634178:=trivial
def tw6591273928314440873:=trivial
def tw10089718612359790670:=trivial
def tw8298542038924747632:=trivial
def tw7995449912157950768:=trivial
def tw10506612102461727277:=trivial
def tw17417596964740216483:=trivial
def tw5548720379134009121:=trivial
def tw6105766124406659237:=trivial
def tw18428216123844278480:=trivial
def tw5089581161035835170:=trivial
def tw17726073187199065486:=trivial
def tw12653266765730654800:=trivial
def tw6903384258702689655:=trivial
def tw14138360545270483129:=trivial
def tw10921196129013559961:=trivial
def tw9973718730512033686:=trivial
def tw14087060786137009501:=trivial
def tw7911821327601254399:=trivial
def tw15518071852556819643:=trivial
def tw202598392493379307:=trivial
def tw10574367461439762127:=trivial
def tw2915278333326724288:=trivial
def tw69509714148335573:=trivial
def tw12302892555949533163:=trivial
def tw4605977526401841403:=trivial
def tw10626320734037110559:=trivial
def tw17238084866486599322:=trivial
def tw11920804491308339272:=trivial
def tw3348416044127096867:=trivial
def tw23919160685039190:=trivial
def tw9562687982603401226:=trivial
def tw6429499845648604920:=trivial
def tw6701655879348177749:=trivial
def tw529192810971522795:=trivial
def tw3286679759461913461:=trivial
def tw302843690483515714:=trivial
def tw9725043847531288106:=trivial
def tw979784914597878685:=trivial
def tw11202979987216587825:=trivial
def tw10700333437028018999:=trivial
def tw18192950445205958345:=trivial
def tw11450138093394635684:=trivial
def tw12056678951091121077:=trivial
def tw9347640821589288243:=trivial
def tw7688628157213321879:=trivial
def tw3754727859040812848:=trivial
def tw15353817114164288007:=trivial
def tw4394591359659127827:=trivial
def tw12988062604504138235:=trivial
def tw15079550613817685473:=trivial
def tw10608737796924974899:=trivial
def tw9662465326688603410:=trivial
def tw16531411116898418485:=trivial
def tw7866179773153554500:=trivial
def tw7857590110210937669:=trivial
def tw3311871088544921059:=trivial
def tw5820959885206544310:=trivial
def tw15022875623356730262:=trivial
def tw9943119875728203455:=trivial
def tw5900022357390588183:=trivial
def tw13749578886822164097:=trivial
def tw11889039542965408002:=trivial
def tw9136082442248657682:=trivial
def tw12416124271826395016:=trivial
def tw8356753958694284891:=trivial
def tw15888341423696651387:=trivial
def tw5440888511876979991:=trivial
def tw15642655521139910775:=trivial
def tw7526126604387956001:=trivial
def tw17046633903626305229:=trivial
def tw930944761391112521:=trivial
def tw3119046525967276355:=trivial
def tw7774307440443677637:=trivial
def tw7755193688447171030:=trivial
def tw10355100914287870266:=trivial
def tw3270101933986684781:=trivial
def tw15314669950787731812:=trivial
def tw6259863602544045833:=trivial
def tw5498985548121115495:=trivial
def tw14498675167585753183:=trivial
def tw18103695263879147192:=trivial
def tw15975061037532661851:=trivial
def tw4047922562661521584:=trivial
def tw718999456039687388:=trivial
def tw14092063163586175481:=trivial
def tw2611293194825309631:=trivial
def tw2792163669939295986:=trivial
def tw15040248399719489530:=trivial
def tw10361692998642351210:=trivial
def tw10972740525002426075:=trivial
def tw8927175032253841814:=trivial
def tw17511700055755448828:=trivial
def tw11052682966106870075:=trivial
def tw6276151874789461931:=trivial
def tw11473985681379706229:=trivial
def tw11967312457443912191:=trivial
def tw4381926268941008325:=trivial
def tw255924998808700847:=trivial
def tw15194394966207389553:=trivial
def tw6504469436243185898:=trivial
def tw2467725270294324906:=trivial
def tw5335793599994943832:=trivial
def tw16284258147514387597:=trivial
def tw10800864716952900096:=trivial
def tw15225060721929728086:=trivial
def tw13197805136830181338:=trivial
def tw5491494439135513347:=trivial
def tw916531647113592425:=trivial
def tw13374877109173941383:=trivial
def tw7989300912188603949:=trivial
def tw17530792482667734402:=trivial
def tw3470168097287647312:=trivial
def tw9637027030411184950:=trivial
def tw5484332889635722515:=trivial
def tw5613801739936167656:=trivial
def tw11876451380211752435:=trivial
def tw10369962413277408092:=trivial
def tw4700967675998030561:=trivial
def tw17387268033670828364:=trivial
def tw6175080090209614057:=trivial
def tw7344916669193703102:=trivial
def tw3367274992177163267:=trivial
def tw10757320563860918326:=trivial
def tw18404304462158676180:=trivial
def tw4352496312030369242:=trivial
def tw852962069365885692:=trivial
def tw10231030495511634687:=trivial
def tw5243865371030588113:=trivial
def tw14790018808028735222:=trivial
def tw1150222325648693047:=trivial
def tw1542770861224051444:=trivial
def tw17636298781178880498:=trivial
def tw5042755729657979988:=trivial
def tw7120926443518043143:=trivial
def tw12541867901834586492:=trivial
def tw14946137160230136380:=trivial
def tw7113385341928614685:=trivial
def tw12819482680406066960:=trivial
def tw11068715553033701076:=trivial
def tw4985060939744611992:=trivial
def tw7759986085576419314:=trivial
def tw408590728418402171:=trivial
def tw8068090538156700153:=trivial
def tw5370014214881463466:=trivial
def tw2829140959667429171:=trivial
def tw6420627925923280570:=trivial
def tw182642716758880422:=trivial
def tw8316195114300245628:=trivial
def tw15905286121838483047:=trivial
def tw18442303555090594324:=trivial
def tw5076147788135461052:=trivial
def tw12066964365718625661:=trivial
def tw9347837973983286392:=trivial
def tw18333970042885100061:=trivial
def tw16351827997829130551:=trivial
def tw236744134101019439:=trivial
def tw13862839329581961525:=trivial
def tw6420134921673710497:=trivial
def tw18037434941422991742:=trivial
def tw18280016294116039970:=trivial
def tw2897389945538830604:=trivial
def tw14524741167270223692:=trivial
def tw16007675213290877294:=trivial
def tw5996051144863523433:=trivial
def tw17103352081363875915:=trivial
def tw12470046227144230725:=trivial
def tw13347424889158927322:=trivial
def tw16401907753432750393:=trivial
def tw6018714941964950956:=trivial
def tw12987433379708014799:=trivial
def tw1813485320542432464:=trivial
def tw8077876689406492610:=trivial
def tw7286025494400686392:=trivial
def tw8418990280883702227:=trivial
def tw16418807477965189504:=trivial
def tw4121198701495453253:=trivial
def tw3455611082736700977:=trivial
def tw2852402470668168968:=trivial
def tw1518042656932045492:=trivial
def tw5794817936419807929:=trivial
def tw17967580249669464660:=trivial
def tw162361719413911289:=trivial
def tw15609219348256875197:=trivial
def tw8463724283439896295:=trivial
def tw1959459417616528608:=trivial
def tw5713130242177231169:=trivial
def tw12477670860766885636:=trivial
def tw9758976801412473930:=trivial
def tw18047852644234366296:=trivial
def tw6537535275225547243:=trivial
def tw7933846228952659940:=trivial
def tw16332392645002975128:=trivial
def tw6548569361469877356:=trivial
def tw9568689721526290625:=trivial
def tw7385511445041371814:=trivial
def tw10756366328195123245:=trivial
def tw16336793347235431099:=trivial
def tw10205432759865971670:=trivial
def tw1326684326137826865:=trivial
def tw4351939598613222549:=trivial
def tw17131335428430314688:=trivial
def tw13112548346265456182:=trivial
def tw7650570485785527282:=trivial
def tw1144793115244185367:=trivial
def tw13169803312100436290:=trivial
def tw5078527099948800011:=trivial
def tw14369904423754620762:=trivial
def tw12310273386123027115:=trivial
def tw16369996464571569268:=trivial
def tw8147282952732489222:=trivial
def tw6789640918015411226:=trivial
def tw17809094275984200457:=trivial
def tw2149915788378275303:=trivial
def tw3034945319397689468:=trivial
def tw9433007454419105845:=trivial
def tw12250684633856245602:=trivial
def tw8918594640162066652:=trivial
def tw660874441301321115:=trivial
def tw11010719303751609001:=trivial
def tw12054235209595756788:=trivial
def tw10823061889207840122:=trivial
def tw9007054344573558879:=trivial
def tw8986348486568609218:=trivial
def tw11046031243828914479:=trivial
def tw9576411610547407521:=trivial
def tw3181525258054836826:=trivial
def tw7797826774124696043:=trivial
def tw5833489546018889267:=trivial
def tw2144273098988825013:=trivial
def tw16060850110678994825:=trivial
def tw16441055757124879728:=trivial
def tw3309038696022021465:=trivial
def tw17255481400498443589:=trivial
def tw1359353168787904854:=trivial
def tw7537489419064121021:=trivial
def tw1769931006993733576:=trivial
def tw14209983800312271688:=trivial
def tw15400852698120094153:=trivial
def tw10120653538434299049:=trivial
def tw10126367093012085826:=trivial
def tw7787344002900494948:=trivial
def tw18378513659092799779:=trivial
def tw8186791204684287932:=trivial
def tw4793815575556765551:=trivial
def tw986913981802221204:=trivial
def tw15903809653548694817:=trivial
def tw11335953366131286394:=trivial
def tw14214101889215219226:=trivial
def tw9247271069968016977:=trivial
end PySem.W.Fast
set_option maxRecDepth 100000 in
set_option maxHeartbeats 0 in
theorem PySem.Challenge.cw_neverwait_k73_elder_bound_holds : PySem.Challenge.rw_neverwait_k73_elder_bound.Holds := by
 w_on; o_law; k_head; (case hw=>w_witness2)
 k_fill
 refine qi.walk (l:=PySem.Challenge.rw_neverwait_k73_elder_bound) (PN:=_) (Pr:=_) (Pq:=_) (Pt:=_) rfl rfl (fun w h Y=>PySem.W.km_in_of Y) (fun w h Y=>PySem.W.km_tabs_of Y) ?cd0 ?kt0 ?cd1 ?kt1 ?cd2 ?kt2 ?cd3 ?kt3 ?F;case F =>
  intro w mg fa h KX G SE;refine' qi.Qm (PN:=_) (Pr:=_) (Pq:=_) (Pt:=_) KX G SE ?_ ?_ ?_ ?_ ?_ ?_ ?_ ?_ ?_ ?_ ?_ ?_ ?_ ?_ ?_ ?_ ?_ ?_ ?_ ?_ ?_ ?_ ?_ ?_ ?_ ?_ ?_ ?_ ?_ ?_ ?_ ?_ ?_ ?_ ?_ ?_ ?_ ?_ ?_ ?_ ?_ ?_ ?_ ?_ ?_ ?_ ?_ ?_ ?_ ?_ ?_ ?_ ?_ ?_ ?_ ?_ ?_ ?_ ?_ ?_ ?_ ?_ ?_ ?_ ?_ ?_ ?_ ?_ ?_ ?_ ?_ ?_ ?_ ?_ ?_ ?_ ?_ ?_ ?_ ?_ ?_ ?_ ?_ ?_ ?_ ?_ ?_ ?_ ?_ ?_ ?_ ?_ ?_ ?_ ?_ ?_ ?_ ?_ ?_ ?_ ?_ ?_ ?_ ?_ ?_ ?_ ?_ ?_ ?_ ?_ ?_ ?_ ?_ ?_ ?_ ?_ ?_ ?_ ?_ ?_ ?_ ?_ ?_ ?_ ?_ ?_ ?_ ?_ ?_ ?_ ?_;all_goals first
   | (refine' qi.FD.mk ?a ?l ?d ?k; (case a=>k_is); (case l=>k_is); (case d=>k_is); (case k=>k_is))
   | (refine' qi.FC.mk ?a ?l ?d ?k; (case a=>k_is); (case l=>k_is); (case d=>k_is); (case k=>k_is))
   | (refine' qi.MD.mk ?a ?i ?l ?d ?k; (case a=>k_is); (case i=>k_is); (case l=>k_is); (case d=>k_is); (case k=>k_is))
   | (refine' qi.MC.mk ?a ?i ?l ?d ?k; (case a=>k_is); (case i=>k_is); (case l=>k_is); (case d=>k_is); (case k=>k_is))
   | k_is
   | kernel_rfl
   | decide
   | exact ⟨by kernel_rfl,by k_is,by k_is,by k_is,by k_is,by k_is,by k_is,by kernel_rfl⟩
   | skip
 case kt0=>intro w; kernel_rfl
 case cd0=>intro w; kernel_rfl
 case kt1=>intro w; kernel_rfl
 case cd1=>intro w; kernel_rfl
 case kt2=>intro w; kernel_rfl
 case cd2=>intro w; kernel_rfl
 case kt3=>intro w; kernel_rfl
 case cd3=>intro w; kernel_rfl
