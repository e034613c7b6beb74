import PyProof.Rows.All
import Wide.All
import OpenK.AllK
import Wide.FinOn
import Lean
import PyProof.EqAt
import PyProof.EqKinds
import PyProof.TupleCall
import PySem.Challenge.RW_neverwait_k25_eager_handings
set_option Elab.async false
set_option linter.all false
set_option maxRecDepth 100000
set_option maxHeartbeats 8000000
def bb:=@List.getD_eq_getElem?_getD
def aO:=@List.length_map
def aw:=@PySem.wpAny_bind
def bO:=@List.getElem?_eq_getElem
def bV:=@PySem.Heap.get?_push_of_some
def bZ:=@List.getElem?_map
def cA:=@Nat.lt_of_lt_of_le
def cU:=@List.mem_cons_of_mem
def bw:=@Nat.le_trans
def aA:=@if_neg
def am:=@if_pos
def aB:=@PyProof.Rows.wpS_bind
def aU:=@Nat.le_refl
def cN:=@List.getElem?_eq_some_iff
def bU:=@List.mem_cons_self
def cm:=@List.mem_of_getElem?
def bA:=@List.mem_filter
def ba:=@Nat.ne_of_lt
def bQ:=@List.size_toArray
def bR:=@List.length_range
def be:=@PySem.Heap.lt_size
def bn:=@List.mem_map
def bH:=@List.mem_range
def cp:=@Bool.false_ne_true
def cD:=@PySem.Heap.get?_push_size
def bS:=@List.mem_append
def cE:=@List.mem_singleton
def cF:=@List.length_append
def bW:=@Option.some.inj
def dF:=@List.length_filter_le
def dG:=@List.getElem?_eq_none
def cM:=@of_decide_eq_true
def cq:=@List.map_append
def cP:=@List.append_assoc
def bX:=@List.mem_cons
def aV:=@PyProof.Rows.wpS_pure
def cu:=@PySem.boot_len
def cQ:=@List.filter_cons
def dg:=@Nat.lt_succ_of_lt
def fw:=@PySem.F.plainAttrs_list
def cY:=@decide_eq_false
def cZ:=@PySem.PassesOwn.never
def eA:=@Nat.lt_of_le_of_lt
def dH:=@List.length_cons
def eU:=@Array.toList_append
def dR:=@List.getElem_mem
def cy:=@List.map_map
def eH:=@List.filter_append
def eC:=@List.take_add_one
def eV:=@PySem.W.mg_none_of
def h9:=@List.getElem?_append_left
def gy:=@List.mem_append_left
def dI:=@Int.ofNat.inj
def dw:=@getElem?_pos
def dz:=@Int.zero_add
def fz:=@PySem.Heap.get?_push_ne
def jq:=@List.getElem?_append_right
def fA:=@List.take_length
def gN:=@List.getElem?_range
def fE:=@Bool.and_eq_true
def dh:=@Nat.zero_le
def eE:=@List.map_cons
def iB:=@List.perm_append_comm
def iC:=@List.mem_append_right
def fJ:=@List.nodup_cons
def h_:=@List.map_congr_left
def gC:=@List.lookup_cons
def gg:=@List.length_set
def lD:=@Array.perm_iff_toList_perm
def jt:=@List.length_replicate
def gO:=@PySem.Heap.size_update
def lE:=@Classical.byContradiction
def fK:=@PySem.wpAny_holding
def iD:=@List.pairwise_map
def iE:=@Int.toNat_natCast
def lF:=@PySem.F.type_list_append
def lG:=@PySem.F.slot_list_append
def kC:=@List.length_singleton
def kD:=@List.Perm.append_left
def ic:=@Bool.eq_iff_iff
def fL:=@PyProof.Rows.wpS_forRange
def jc:=@List.all_eq_true
def rR:=@PyProof.Rows.slot_tuple_getitem
def pQ:=@List.nodup_iff_pairwise_ne
def jd:=@PySem.W.kia_one
def je:=@List.range_succ
def lH:=@List.replicate_succ
def oq:=@List.take_append_drop
def lI:=@decide_eq_true_iff
def pR:=@PyProof.Rows.boot_tuple
def kE:=@List.nodup_range
def ot:=@List.mem_of_mem_take
def pS:=@List.getElem?_replicate
def jg:=@PySem.Heap.size_push
def gQ:=@PySem.wpAny_field
def ou:=@beq_eq_false_iff_ne
def ow:=@PySem.mem_of_lookup
def rS:=@List.drop_eq_getElem_cons
def oy:=@PySem.Heap.get?_update_ne
def oz:=@PySem.F.called_set
def iM:=@Nat.mod_eq_of_lt
def iN:=@Nat.lt_succ_self
def ju:=@Bool.false_eq_true
def kN:=@List.mem_iff_getElem
def kO:=@List.length_take_le'
def fc:=@beq_iff_eq
def pT:=@PyProof.Rows.boot_isinstance
def kP:=@Array.length_toList
def mI:=@List.range_succ_eq_map
def jv:=@PySem.wpAny_newObj_type
def mJ:=@PySem.wpAny_callSpecial?_slot
def ip:=@Nat.lt_irrefl
def iq:=@List.any_cons
def jw:=@List.not_mem_nil
def jx:=@List.length_take
def jy:=@List.any_eq_true
def iO:=@List.nodup_nil
def iP:=@Array.size_map
def mK:=@Array.getElem?_toList
def jz:=@Nat.div_add_mod
def iQ:=@PySem.wpAny_seqItems
def ir:=@Nat.sub_self
def kQ:=@List.nodup_append
def kR:=@List.ext_getElem?
def dP:=@PyProof.Rows.wpS_mono
def pU:=@Option.isSome_iff_exists
def iR:=@List.cons.inj
def mL:=@PySem.Heap.get?_none_of_le
def gm:=@PySem.wpAny_rule
def pV:=@PyProof.Rows.boot_list
def iS:=@Nat.ne_of_gt
def pW:=@List.take_of_length_le
def mN:=@List.mem_filterMap
def pX:=@List.getElem?_set_self
def mO:=@Int.emod_lt_of_pos
def kS:=@PySem.wpAny_call_entry
def ff:=@Prod.ext
def kT:=@Option.map_some
def jA:=@List.all_cons
def pY:=@PyProof.Rows.boot_max
def pZ:=@Nat.le_of_ble_eq_true
def gn:=@PyProof.Rows.wpS_modify
def sV:=@PyProof.Rows.callWith_type1
def mP:=@List.getElem?_set
def mQ:=@Bool.eq_false_iff
def mR:=@Array.toList_push
def sX:=@Array.getD_eq_getD_getElem?
def p9:=@PySem.wpAny_pyNext_list_item
def kU:=@PySem.wpAny_passesOwn
def fU:=@if_false
def iu:=@Nat.mod_lt
def p_:=@List.getElem?_set_ne
def kW:=@List.Perm.refl
def mS:=@decide_eq_decide
def mT:=@Option.getD_some
def jB:=@Nat.le_of_lt
def mU:=@List.countP_cons
def mV:=@PySem.wpAny_truthy_bool
def mW:=@PySem.wpAny_pyIter_list
def xj:=@PyProof.Rows.F.plain_set_update_loop
def gR:=@PyProof.Rows.size_push'
def kX:=@PySem.W.mg_of
def sY:=@PySem.F.type_list_extend
def s_:=@PySem.F.slot_list_extend
def mX:=@ne_of_beq_false
def mY:=@Nat.not_lt_zero
def mZ:=@List.find?_cons
def m6:=@List.filter_map
def m9:=@Int.emod_nonneg
def qa:=@List.pairwise_cons
def kY:=@PySem.wpAny_standAt
def qb:=@decide_eq_true_eq
def tf:=@List.length_pos_of_mem
def qc:=@List.flatten_cons
def qd:=@List.any_eq_false
def tj:=@Array.toList_filterMap
def m_:=@PySem.codeAny_builtin
def qe:=@PySem.wpAny_setField_rec
def qf:=@PySem.wpAny_Call_Name_kw
def iT:=@PySem.call_meets
def jC:=@PySem.sizeLine_eq
def tm:=@Nat.eq_of_beq_eq_true
def qg:=@List.getElem_map
def tu:=@List.mem_of_mem_drop
def kZ:=@List.map_id
def tw:=@Bool.and_eq_true_iff
def qh:=@List.of_mem_zip
def qi:=@List.Perm.of_eq
def qj:=@Bool.or_eq_true
def tD:=@PySem.wpAny_pyNext_list_end
def tE:=@Nat.mul_le_mul_left
def tG:=@List.length_take_le
def tH:=@List.getElem_of_mem
def tI:=@List.filter_sublist
def gU:=@Ne.symm
def ng:=@Nat.lt_or_ge
def xk:=@Option.ne_none_iff_exists'
def xm:=@Int.fmod_eq_emod_of_nonneg
def tJ:=@PySem.Around.under_plainId
def xp:=@Array.getElem?_eq_getElem
def iw:=@if_true
def tK:=@List.take_sublist
def tL:=@List.countP_congr
def nh:=@PySem.codeAny_mono
def xq:=@PySem.F.args_tuple_add_2
def xr:=@PyProof.Rows.boot_sorted
def xt:=@List.length_erase_of_mem
def jD:=@or_false
def xu:=@decide_eq_false_iff_not
def xv:=@PySem.F.entry_tuple_add
def tO:=@Nat.le_add_right
def tP:=@List.length_drop
def tQ:=@List.getElem_inj
def tR:=@Array.toList_map
def xw:=@PySem.F.slot_tuple_add
def xx:=@Option.map_eq_some_iff
def qk:=@Nat.le_of_eq
def xz:=@Nat.div_div_eq_div_mul
def xA:=@List.filter_eq_nil_iff
def xB:=@List.Perm.append_right
def tS:=@PySem.wpAny_setState_of
def ql:=@PyProof.Rows.get?_update_seq
def tT:=@List.forIn_cons
def tU:=@List.foldl_cons
def tV:=@List.append_nil
def xC:=@PySem.F.type_list_pop
def xD:=@PySem.F.slot_list_pop
def xE:=@PyProof.Rows.boot_any
def gW:=@PyProof.Rows.wpS_get
def qm:=@Nat.mul_pos
def xF:=@List.mem_erase_of_ne
def tW:=@List.forIn_nil
def tX:=@Bool.and_false
def xG:=@Array.toList_reverse
def xH:=@Array.toList_extract
def qo:=@PySem.wpAny_typeOf
def ni:=@PySem.wpAny_mono
def nj:=@PySem.wpAny_Name
def xI:=@PySem.W.plainGet_of
def CD:=@PyProof.Rows.F.entry_set_update_loop
def xJ:=@List.filterMap_cons
def xK:=@Int.toNat_of_nonneg
def xL:=@PySem.Heap.get?_update_other
def tY:=@PySem.wpAny_execs_nil
def tZ:=@Bool.not_true
def xM:=@PySem.W.callWith_K
def xN:=@Option.toList_some
def xO:=@Option.isSome_some
def xP:=@List.map_replicate
def xQ:=@List.getElem_range
def xR:=@PySem.Heap.get?_update_self
def xS:=@PySem.wpAny_loadName_local
def xT:=@PySem.codeAny_call_builtin
def t7:=@Nat.zero_add
def t9:=@Nat.lt_trans
def t_:=@Nat.beq_refl
def ua:=@Nat.add_zero
def xU:=@List.reverse_perm
def xV:=@Bool.not_eq_true'
def CF:=@List.eraseIdxIfInBounds_toArray
def xW:=@PySem.wpAny_loadName_free
def xX:=@List.zipIdx_cons
def xY:=@List.mem_flatMap
def xZ:=@List.ext_getElem
def ub:=@PySem.wpAny_attempt
def uc:=@Nat.mul_one
def CG:=@Int.mul_le_mul_of_nonneg_left
def x0:=@PySem.wpAny_pyIter_tuple
def x_:=@PySem.SeqAt.notIn_listAt
def ya:=@Nat.min_eq_left
def yb:=@List.countP_map
def CH:=@List.countP_eq_length_filter
def CI:=@PySem.F.typeOf_object_class
def yc:=@PySem.wpAny_loadPart_at
def CJ:=@Nat.mul_lt_mul_of_pos_left
def yd:=@Nat.mul_le_mul
def ye:=@List.drop_zero
def CK:=@Int.fdiv_eq_ediv_of_nonneg
def CL:=@Array.toList_setIfInBounds
def CM:=@Array.getElem?_eq_some_iff
def k4:=@PyProof.Rows.wpS_lift
def CN:=@List.pairwise_iff_getElem
def yf:=@PySem.wpAny_eqBool_int
def yg:=@PySem.noFill_tuple_add
def yh:=@List.map_take
def CO:=@List.idxOf_lt_length_iff
def CP:=@List.filterMap_cons_some
def CQ:=@List.Pairwise.imp_of_mem
def yi:=@Bool.and_true
namespace L2
open PySem PySem.Spec PyProof.Rows
abbrev gE:=Sum Int Str
def rT:gE->Value->Bool
 |.inl k,v=>Value.isInt k v
 |.inr x,v=>Value.isStrOf x v
def Sd(w:World):gE->Int
 |.inl k=>hashInt k
 |.inr x=>hashStr w x
theorem cR:∀ {k:gE} {v:Value},rT k v=true->(∃i t,k=Sum.inl i/\v=Value.int i t)\/(∃x t,k=Sum.inr x/\v=Value.str x t)
 |.inl i,v,h=>by
  obtain⟨t,e⟩:=Value.isInt_shape (k:=i) (v:=v) h;exact .inl ⟨i,t,rfl,e⟩
 |.inr x,v,h=>by
  obtain⟨t,e⟩:=Value.isStrOf_shape (x:=x) (v:=v) h;exact .inr ⟨x,t,rfl,e⟩
theorem A0(i:Int)(t:Tok):rT (.inl i) (.int i t)=true:=by simp[rT,Value.isInt]
theorem A1(x:Str)(t:Tok):rT (.inr x) (.str x t)=true:=by simp[rT,Value.isStrOf]
theorem JX(a b:Int):decide ((Sum.inl a:gE)=Sum.inl b)=(a==b):=by
 by_cases e:a=b
 .subst e;simp
 .have h:¬ (Sum.inl a:gE)=Sum.inl b:=fun q=>e (Sum.inl.inj q);rw[cY h];exact(ou.mpr e).symm
theorem JY(a b:Str):decide ((Sum.inr a:gE)=Sum.inr b)=decide (a=b):=by
 by_cases e:a=b
 .subst e;simp
 .have h:¬ (Sum.inr a:gE)=Sum.inr b:=fun q=>e (Sum.inr.inj q);rw[cY h,cY e]
theorem JZ(a:Int)(b:Str):decide ((Sum.inl a:gE)=Sum.inr b)=false:=cY (fun q=>nomatch q)
theorem J0(a:Str)(b:Int):decide ((Sum.inr a:gE)=Sum.inl b)=false:=cY (fun q=>nomatch q)
def b9(prog:Program)(w:World):PySem.KeyKind prog w gE where
 is:=rT
 hash:=Sd w
 inj:=fun v a b ha hb=>by
  rcases cR ha with ⟨i,t,rfl,rfl⟩|⟨x,t,rfl,rfl⟩
  .rcases cR hb with ⟨j,u,rfl,e⟩|⟨y,u,rfl,e⟩
   .injection e with e1 _;rw[e1]
   .exact nomatch e
  .rcases cR hb with ⟨j,u,rfl,e⟩|⟨y,u,rfl,e⟩
   .exact nomatch e
   .injection e with e1 _;rw[e1]
 byValue:=fun k v h=>by
  rcases cR h with ⟨i,t,rfl,rfl⟩|⟨x,t,rfl,rfl⟩ <;> rfl
 pyHash:=fun hv h=>by
  rcases cR hv with ⟨i,t,rfl,rfl⟩|⟨x,t,rfl,rfl⟩
  .exact wpAny_pyHash_int h
  .exact wpAny_pyHash_str h
 eqBool:=fun hu hv h=>by
  rcases cR hu with ⟨i,t,rfl,rfl⟩|⟨x,t,rfl,rfl⟩
  .rcases cR hv with ⟨j,u,rfl,rfl⟩|⟨y,u,rfl,rfl⟩
   .rw[JX] at h;exact yf h
   .rw[JZ] at h;exact SeqAt.EqAt.int_str i t y u _ _ _ _ h
  .rcases cR hv with ⟨j,u,rfl,rfl⟩|⟨y,u,rfl,rfl⟩
   .rw[J0] at h;exact SeqAt.EqAt.str_int x t j u _ _ _ _ h
   .rw[JY] at h;exact wpAny_eqBool_str h
 «strs»:=fun k x t v h=>by
  rcases cR h with ⟨i,u,rfl,e⟩|⟨y,u,rfl,e⟩
  .exact nomatch e
  .injection e with e1 _
   subst e1
   cases v <;> rfl
theorem vI(prog:Program)(w:World)(i:Int)(t:Tok):(b9 prog w).is (.inl i) (.int i t)=true:=A0 i t
theorem vJ(prog:Program)(w:World)(x:Str)(t:Tok):(b9 prog w).is (.inr x) (.str x t)=true:=A1 x t
inductive V where
 |b_|bl (b:Bool)|int (i:Int)|str (x:Str)|Cm (b:Array UInt8)|J1 (b:UInt64)|ref (a:Addr)|ty (n:String)
 deriving DecidableEq
def bT:V->Value->Prop
 |.b_,u=>u=Value.none
 |.bl b,u=>u=Value.bool b
 |.int i,u=>∃t,u=Value.int i t
 |.str x,u=>∃t,u=Value.str x t
 |.Cm b,u=>∃t,u=Value.bytes b t
 |.J1 b,u=>∃t,u=Value.float b t
 |.ref a,u=>u=Value.ref a
 |.ty n,u=>u=Value.type n
abbrev aZ:List V->List Value->Prop:=Paired bT
theorem aZ.length(r:aZ xs us):xs.length=us.length:=Paired.length r
theorem aZ.get:∀ {xs:List V} {us:List Value} {i:Nat} {x:V},aZ xs us->xs[i]?=some x->∃u,us[i]?=some u/\bT x u
 |_,_,_,_,.nil,e=>by simp at e
 |_,_,0,_,.cons r _,e=>by simp at e;subst e;exact⟨_,rfl,r⟩
 |_,_,i+1,x,.cons _ t,e=>by
  obtain⟨u,h1,h2⟩:=aZ.get (i:=i) (x:=x) t (by simpa using e);exact⟨u,by simpa using h1,h2⟩
theorem aZ.set(r:bT x u):∀ {xs:List V} {us:List Value} (i:Nat),aZ xs us->aZ (xs.set i x) (us.set i u)
 |_,_,_,.nil=>.nil
 |_,_,0,.cons _ t=>.cons r t
 |_,_,i+1,.cons q t=>.cons q (aZ.set r i t)
theorem aZ.append:∀ {xs ys:List V} {us ws:List Value},aZ xs us->aZ ys ws->aZ (xs++ys) (us++ws)
 |_,_,_,_,.nil,s=>s
 |_,_,_,_,.cons r t,s=>.cons r (aZ.append t s)
theorem aZ.take:∀ {xs:List V} {us:List Value} (n:Nat),aZ xs us->aZ (xs.take n) (us.take n)
 |_,_,0,_=>.nil
 |_,_,_+1,.nil=>.nil
 |_,_,n+1,.cons r t=>.cons r (aZ.take n t)
theorem aZ.drop:∀ {xs:List V} {us:List Value} (n:Nat),aZ xs us->aZ (xs.drop n) (us.drop n)
 |_,_,0,r=>r
 |_,_,_+1,.nil=>.nil
 |_,_,n+1,.cons _ t=>aZ.drop n t
def lJ:Option V->Option Value->Prop
 |some v,some u=>bT v u
 |none,none=>True
 |_,_=>False
def KV{κ:Type}:List (κ×V)->List (κ×Value)->Prop:=Paired fun (p:κ×V) (q:κ×Value)=>p.1=q.1/\bT p.2 q.2
def kV:gE->V
 |.inl i=>.int i
 |.inr x=>.str x
inductive HO where
 |lst (xs:List V)
 |tup (xs:List V)
 |dK (cG:List (gE×V))|dT (cG:List (List gE×V))
 |set (S:Int->Bool) (n:Nat)
 |ins (C dx:Addr) (fs:List (Str×V))
 |own (x:Addr)
 |xd (fs:List (Str×V))
 |met (f x:Addr)
 |FY (lo hi:Int)
 |ud (o:Obj) (u:HO)
 |rh (ps:Array Value)
 |ext (φ:Heap->Prop)
abbrev Hp:=Addr->Option HO
def upd(H:Hp)(a:Addr)(o:HO):Hp:=fun b=>if b=a then some o else H b
theorem ab:upd H a o a=some o:=by unfold upd;rw[am rfl]
theorem aj(h:b≠a):upd H a o b=H b:=by unfold upd;rw[aA h]
theorem j8:upd (upd H a o) a u=upd H a u:=by
 funext b;unfold upd;split <;> rfl
theorem fN{H:Hp}{a b:Addr}{o u:HO}(h:H a=some o)(h':H b=some u)(d:o≠u):a≠b:=by
 intro e;subst e;rw[h] at h';exact d (bW h')
theorem ak{H:Hp}{a b:Addr}{o:HO}(h:H a=some o)(h':H b=none):a≠b:=by
 intro e;subst e;rw[h] at h';cases h'
section
variable (P:Program) (w:World)
def jE(h:Heap)(a:Addr)(items:Array Value):Prop:=∃o,h.get? a=some o/\o.cls=.type "tuple"/\∃n,o.data=.seq items n/\o.dict=none
theorem jE.tup(p:jE h a items):IsTup h a items:=let ⟨o,e,c,n,d,_⟩:=p;⟨o,e,c,n,d⟩
theorem jE.new(h:Heap)(items:Array Value):jE (h.push { cls:=.type "tuple",data:=.seq items }) h.objs.size items:=⟨_,cD _ rfl,rfl,_,rfl,rfl⟩
def cz(H:Hp)(h:Heap)(a:Addr):HO->Prop
 |.lst xs=>xs.length<=sizeLine/\∃ (its:List Value) (n:Nat),aZ xs its/\h.get? a=some { cls:=.type "list",data:=.seq its.toArray n }
 |.tup xs=>xs.length<=sizeLine/\∃its:List Value,aZ xs its/\jE h a its.toArray
 |.dK cG=>cG.length<=sizeLine/\(a==sysModules)=false/\∃vs,KV cG vs/\h.DictOf (b9 P w) a vs
 |.dT cG=>cG.length<=sizeLine/\(a==sysModules)=false/\∃xs:List (List gE×Addr×Value),
   Paired (fun (p:List gE×V) (q:List gE×Addr×Value)=>p.1=q.1/\H q.2.1=some (.tup (p.1.map kV))/\bT p.2 q.2.2) cG xs/\
   ∃o es ep,h.get? a=some o/\o.ExactDict/\o.data=.dict es ep/\es.toList=xs.map (entryOfKey (tupleKind (b9 P w)))/\(xs.map (·.1)).Nodup
 |.set S n=>h.SetOf (intKind P w) a S n
 |.ins C dx fs=>H dx=some (.own a)/\fs.length<=1000/\dx≠a/\h.get? a=some (PySem.W.instObj C dx)/\
   ∃mA,h.Ns1 dx mA/\(∀f,lJ (fs.lookup f) (mA f))/\PySem.Within mA (fs.map (·.1))
 |.own _=>∃o,h.get? a=some o
 |.xd fs=>∃mA,h.Ns1 a mA/\∀f,lJ (fs.lookup f) (mA f)
 |.FY lo hi=>∃t u v,h.get? a=some { cls:=.type "range",data:=.fields #[.int lo t,.int hi u,.int 1 v] }
 |.ud o u=>h.get? a=some o/\cz H h a u
 |.rh ps=>h.get? a=some { cls:=.none,data:=.fields ps }
 |.met f x=>h.get? a=some (PySem.W.methodObj (.ref f) (.ref x))
 |.ext φ=>φ h/\(∃o,h.get? a=some o)/\∀h1 h2:Heap,φ h1->(∀o,h1.get? a=some o->h2.get? a=some o)->φ h2
def k5(H:Hp)(h:Heap):Prop:=∀a o,H a=some o->cz P w H h a o
end
section
variable {P:Program} {w:World} {H H':Hp} {h h':Heap} {a:Addr} {o:HO}
theorem cz.lt(x:cz P w H h a o):a<h.objs.size:=by
 cases o with
 |lst xs=>obtain⟨_,_,_,_,e⟩:=x;exact be e
 |tup xs=>obtain⟨_,_,_,p⟩:=x;exact p.tup.lt
 |dK cG=>obtain⟨_,_,_,_,o,_,_,e,_⟩:=x;exact be e
 |dT cG=>obtain⟨_,_,_,_,o,_,_,e,_⟩:=x;exact be e
 |set S n=>obtain⟨o,_,_,_,e,_⟩:=x;exact be e
 |ins C dx fs=>obtain⟨_,_,_,e,_⟩:=x;exact be e
 |own y=>obtain⟨_,e⟩:=x;exact be e
 |xd fs=>obtain⟨_,⟨_,_,_,e,_⟩,_⟩:=x;exact be e
 |FY lo hi=>obtain⟨_,_,_,e⟩:=x;exact be e
 |ud ob u=>obtain⟨e,_⟩:=x;exact be e
 |rh ps=>exact be (show h.get? a=some _ from x)
 |met f y=>exact be (show h.get? a=some _ from x)
 |ext φ=>obtain⟨_,⟨_,e⟩,_⟩:=x;exact be e
theorem Paired.J2:∀ {l₁:List α} {l₂:List β},Paired F l₁ l₂->(∀a b,F a b->G a b)->Paired G l₁ l₂
 |_,_,.nil,_=>.nil
 |_,_,.cons r t,f=>.cons (f _ _ r) (Paired.J2 t f)
theorem cz.rj(x:cz P w H h a o)(k:∀b u,(b=a\/H b=some (.own a))->h.get? b=some u->h'.get? b=some u)(ho:∀b,H b=some (.own a)->H' b=some (.own a))(ht:∀b xs,H b=some (.tup xs)->H' b=some (.tup xs)):cz P w H' h' a o:=by
 induction o with
 |lst xs=>obtain⟨z,its,n,r,e⟩:=x;exact⟨z,its,n,r,k _ _ (.inl rfl) e⟩
 |tup xs=>obtain⟨z,its,r,ob,e,c⟩:=x;exact⟨z,its,r,ob,k _ _ (.inl rfl) e,c⟩
 |dK cG=>obtain⟨z,y,vs,r,ob,es,ep,e,c⟩:=x;exact⟨z,y,vs,r,ob,es,ep,k _ _ (.inl rfl) e,c⟩
 |dT cG=>
  obtain⟨z,y,xs,r,ob,es,ep,e,c⟩:=x;exact⟨z,y,xs,Paired.J2 r fun p q z=>⟨z.1,ht _ _ z.2.1,z.2.2⟩,ob,es,ep,k _ _ (.inl rfl) e,c⟩
 |set S n=>obtain⟨ob,es,ep,t,e,c⟩:=x;exact⟨ob,es,ep,t,k _ _ (.inl rfl) e,c⟩
 |ins C dx fs=>
  obtain⟨d,z,ne,e,mA,⟨od,es,ep,e2,c⟩,r⟩:=x;exact⟨ho _ d,z,ne,k _ _ (.inl rfl) e,mA,⟨od,es,ep,k _ _ (.inr d) e2,c⟩,r⟩
 |own y=>obtain⟨ob,e⟩:=x;exact⟨ob,k _ _ (.inl rfl) e⟩
 |xd fs=>obtain⟨mA,⟨od,es,ep,e,c⟩,r⟩:=x;exact⟨mA,⟨od,es,ep,k _ _ (.inl rfl) e,c⟩,r⟩
 |FY lo hi=>obtain⟨t,u,v,e⟩:=x;exact⟨t,u,v,k _ _ (.inl rfl) e⟩
 |ud ob u ih=>obtain⟨e,q⟩:=x;exact⟨k _ _ (.inl rfl) e,ih q⟩
 |rh ps=>
  have e:h.get? a=some { cls:=.none,data:=.fields ps }:=x;show h'.get? a=some { cls:=.none,data:=.fields ps };exact k a _ (.inl rfl) e
 |met f y=>
  have e:h.get? a=some (PySem.W.methodObj (.ref f) (.ref y)):=x;show h'.get? a=some (PySem.W.methodObj (.ref f) (.ref y));exact k a _ (.inl rfl) e
 |ext φ=>obtain⟨p,⟨o,e⟩,st⟩:=x;exact⟨st _ _ p fun o q=>k _ _ (.inl rfl) q,⟨o,k _ _ (.inl rfl) e⟩,st⟩
theorem k5.lt(x:k5 P w H h)(e:H a=some o):a<h.objs.size:=(x a o e).lt
theorem k5.fresh(x:k5 P w H h)(e:h.objs.size<=a):H a=none:=by
 cases q:H a with
 |none=>rfl
 |some u=>exact absurd (cA (x.lt q) e) (ip _)
theorem k5.kept(x:k5 P w H h)(k:∀b u,h.get? b=some u->h'.get? b=some u):k5 P w H h':=fun a o e=>
 (x a o e).rj (fun b u _ q=>k b u q) (fun _ q=>q) fun _ _ q=>q
theorem k5.laid(x:k5 P w H h)(k:∀b u,h.get? b=some u->h'.get? b=some u)(hp:h.objs.size<=a)(new:cz P w (upd H a o) h' a o):k5 P w (upd H a o) h':=fun b u e=>by
 have hn:=x.fresh hp;by_cases hb:b=a
 .subst hb;rw[ab] at e;cases e;exact new
 .rw[aj hb] at e;exact(x b u e).rj (fun c v _ q=>k c v q) (fun c q=>by rw[aj (ak q hn)];exact q) fun c xs q=>by rw[aj (ak q hn)];exact q
end
def Rd(H:Hp)(a:Addr)(u:HO):Prop:=H a=some u\/∃o,H a=some (.ud o u)
theorem Rd.ok(r:Rd H a u)(x:k5 P w H h):cz P w H h a u:=by
 rcases r with r|⟨o,r⟩
 .exact x a u r
 .obtain⟨_,q⟩:=x a _ r;exact q
def Re:Option HO->Prop
 |some (.lst _)=>True
 |some (.dK _)=>True
 |some (.dT _)=>True
 |some (.set _ _)=>True
 |some (.ins _ _ _)=>True
 |some (.ext _)=>True
 |_=>False
section
variable {P:Program} {w:World} {H:Hp} {h h':Heap} {x e:Addr} {o':HO}
theorem k5.write(ok:k5 P w H h)(mu:Re (H x))(he:e=x\/H e=some (.own x))(k:∀b u,b≠e->h.get? b=some u->h'.get? b=some u)(MT:∃u,h'.get? e=some u)(new:cz P w (upd H x o') h' x o'):k5 P w (upd H x o') h':=fun b u q=>by
 have Nu:∀c y,H c=some (.own y)->c≠x:=fun c y r z=>by subst z;rw[r] at mu;exact mu
 have Se:∀c xs,H c=some (.tup xs)->c≠x:=fun c xs r z=>by subst z;rw[r] at mu;exact mu
 by_cases hb:b=x
 .subst hb;rw[ab] at q;cases q;exact new
 .rw[aj hb] at q;by_cases FN:b=e
  .have q':H b=some (.own x):=by
    rcases he with z|z
    .exact absurd (FN.trans z) hb
    .rw[FN];exact z
   rw[q] at q';cases q';obtain⟨v,hv⟩:=MT;exact⟨v,by rw[FN];exact hv⟩
  .refine(ok b u q).rj (fun c v hc r=>k c v ?_ r) (fun c r=>by rw[aj (Nu c b r)];exact r) fun c xs r=>by rw[aj (Se c xs r)];exact r
   rcases hc with rfl|hc
   .exact FN
   .rintro rfl;rcases he with z|z
    .exact Nu c b hc z
    .rw[hc] at z;cases z;exact hb rfl
end
structure Un(fs ex:List Addr)(H H':Hp)(h h':Heap):Prop where
 keep:∀b o,h.get? b=some o->H b=none->b∉fs->b∉ex->h'.get? b=some o
 slot:∀b o,h.get? b=some o->H b=none->b∈fs->b∉ex->∃sl,h'.get? b=some { o with slots:=sl }
 free:∀b o,h.get? b=some o->H b=none->b∉ex->H' b=none
 there:∀b o,h.get? b=some o->b∉ex->∃o',h'.get? b=some o'
 qp:∀b xs,H b=some (.tup xs)->H' b=some (.tup xs)
 ue:∀b o u,H b=some (.ud o u)->H' b=some (.ud o u)
 uf:∀b ps,H b=some (.rh ps)->∃more,H' b=some (.rh (ps++more))
section
variable {fs XZ ex ex':List Addr} {H H1 H2:Hp} {h h1 h2 h':Heap} {a x e:Addr} {o:HO}
theorem Un.any(u:Un fs ex H H1 h h1)(q:h.get? b=some ob)(n:H b=none)(hx:b∉ex):∃sl,h1.get? b=some { ob with slots:=sl }:=by
 by_cases hb:b∈fs
 .exact u.slot b ob q n hb hx
 .exact⟨ob.slots,u.keep b ob q n hb hx⟩
theorem Un.kept(k:∀b u,h.get? b=some u->h'.get? b=some u):Un fs ex H H h h':=
 ⟨fun b ob q _ _ _=>k b ob q,fun b ob q _ _ _=>⟨ob.slots,k b ob q⟩,fun _ _ _ n _=>n,fun b ob q _=>⟨ob,k b ob q⟩,fun _ _ q=>q,fun _ _ _ q=>q,fun _ ps q=>⟨#[],by rw[q];simp⟩⟩
theorem Un.refl:Un fs ex H H h h:=Un.kept fun _ _ q=>q
theorem Un.laid(k:∀b u,h.get? b=some u->h'.get? b=some u)(hp:h.objs.size<=a)(hn:H a=none):Un fs ex H (upd H a o) h h' where
 keep:=fun b u q _ _ _=>k b u q
 slot:=fun b u q _ _ _=>⟨u.slots,k b u q⟩
 free:=fun b u q n _=>by rw[aj (ba (cA (be q) hp))];exact n
 there:=fun b u q _=>⟨u,k b u q⟩
 qp:=fun b xs q=>by rw[aj (ak q hn)];exact q
 ue:=fun b u xs q=>by rw[aj (ak q hn)];exact q
 uf:=fun b ps q=>⟨#[],by rw[aj (ak q hn),q];simp⟩
theorem Un.write(mu:Re (H x))(he:e=x\/H e=some (.own x))(k:∀b u,b≠e->h.get? b=some u->h'.get? b=some u)(MT:∃u,h'.get? e=some u):Un fs ex H (upd H x o) h h':=by
 have hx:∀b,H b=none->b≠x:=fun b n z=>by subst z;rw[n] at mu;exact mu
 have hb:∀b,H b=none->b≠e:=fun b n z=>by
  subst z;rcases he with r|r
  .exact hx b n r
  .rw[n] at r;cases r
 have hm:∀b u,H b=some u->¬ Re (some u)->b≠x:=fun b u q nm z=>by subst z;rw[q] at mu;exact nm mu
 refine⟨fun b u q n _ _=>k b u (hb b n) q,fun b u q n _ _=>⟨u.slots,k b u (hb b n) q⟩,fun b u q n _=>by rw[aj (hx b n)];exact n,fun b u q _=>?_,
  fun b xs q=>by rw[aj (hm b _ q fun z=>z)];exact q,fun b u xs q=>by rw[aj (hm b _ q fun z=>z)];exact q,fun b ps q=>⟨#[],by rw[aj (hm b _ q fun z=>z),q];simp⟩⟩
 by_cases FN:b=e
 .subst FN;exact MT
 .exact⟨u,k b u FN q⟩
end
def Rf(h:Heap)(H:Hp):List Addr:=(List.range h.objs.size).filter fun a=>(H a).isSome
def rk(h:Heap)(H:Hp):Heap:=PySem.W.hideAll h (Rf h H)
theorem A2(h:Heap)(H:Hp):(rk h H).objs.size=h.objs.size:=PySem.W.hideAll_size _ _
theorem CS(e:h.get? b=some o)(n:H b=none):(rk h H).get? b=some o:=
 PySem.W.hideAll_get _ e fun hm=>by
  have q:(H b).isSome=true:=(bA.mp hm).2;rw[n] at q;simp at q
theorem FZ(e:(rk h H).get? b=some o):h.get? b=some o/\H b=none:=by
 have e':h.get? b=some o:=PySem.W.of_hideAll (Rf h H) e;refine⟨e',?_⟩;cases q:H b with
 |none=>rfl
 |some x=>
  have hm:b∈Rf h H:=bA.mpr ⟨bH.mpr (be e'),by simp[q]⟩;have z:(rk h H).get? b=none:=PySem.W.hideAll_none (Rf h H) hm;rw[z] at e;cases e
def iU(g h:Heap)(L:Addr):List (Addr×Obj):=(List.range h.objs.size).filterMap fun a=>if a=L\/(g.get? a).isSome=true then none else (h.get? a).map fun o=>(a,o)
theorem jF(h1:a≠L)(h2:g.get? a=none)(h3:h.get? a=some o):(a,o)∈iU g h L:=
 mN.mpr ⟨a,bH.mpr (be h3),by simp[h1,h2,h3]⟩
theorem qq(hp:p∈iU g h L):p.1≠L/\g.get? p.1=none/\h.get? p.1=some p.2:=by
 obtain⟨b,_,e⟩:=mN.mp hp;split at e
 .cases e
 .rename_i hn;cases q:h.get? b with
  |none=>rw[q] at e;simp at e
  |some u=>
   rw[q] at e;simp only[kT,Option.some.injEq] at e;subst e;refine⟨fun z=>hn (.inl z),?_,q⟩;show g.get? b=none;cases r:g.get? b with
   |none=>rfl
   |some v=>exact(hn (.inr (by simp[r]))).elim
theorem CU:News g L h (iU g h L):=fun p hp=>let ⟨a,b,c⟩:=qq hp;⟨c,a,b⟩
structure Mod(K:PySem.W.Frag)(mg:Str->Option Value)(base:Heap):Prop where
 Nv:K.In base
 glob:base.Ns mainGlobals mg
 blt:∃mb,base.Ns builtinsNs mb/\∀x:Str,x≠"__name__"->mb x=bootBuiltins x
 nolimit:base.NoLimit
structure Cx where
 prog:Program
 w:World
 K:PySem.W.Frag
 mg:Str->Option Value
 base:Heap
 A:Around
 N:List Str
 s₀:Shared
 H₀:Hp
 env:Env
 outer:List Env
 stack:List Env
 ex:List Addr
 fn:Str->Bool
 calm:Bool
 pn:List (Addr×Obj)
 xe:Value->Shared->Prop
def Cn(l:List Env):List Addr:=l.filterMap (·.frame)
abbrev Cx.fs(X:Cx):List Addr:=Cn X.outer
def Nw(sc:Scope)(x:Str):Prop:=sc.names.lookup x=some .local\/sc.names.lookup x=some .cell\/sc.names.lookup x=some .free
def Nx(sc:Scope)(x:Str):Prop:=sc.names.lookup x=some .local\/sc.names.lookup x=some .cell
def Sf(env:Env)(h:Heap)(m:Str->Option Value)(x:Str)(u:Value):Prop:=
 (env.kindOf x=some .local/\m x=some u)\/((env.kindOf x=some .cell\/env.kindOf x=some .free)/\∃c,env.cells.lookup x=some c/\h.IsCell c (some u))
structure Cx.Ok(X:Cx):Prop where
 mod:Mod X.K X.mg X.base
 kind:X.env.scope.kind=.function
 glob:X.env.globals=mainGlobals
 blt:X.env.builtins=builtinsNs
 above:X.s₀.heap.objs.size<=X.env.locals
 inj:∀x y c,X.env.cells.lookup x=some c->X.env.cells.lookup y=some c->x=y
 has:∀x,(X.env.kindOf x=some .cell\/X.env.kindOf x=some .free)->∃c,X.env.cells.lookup x=some c
 Ny:∀x c,X.fn x=true->X.env.cells.lookup x=some c->X.s₀.heap.objs.size<=c
 hd:X.calm=true->X.A.handled=none
 frames:X.A.frames=some X.stack
 MU:X.stack=X.outer\/(X.stack=X.env::X.outer/\X.env.frame=some X.env.locals)
 Sg:∀b∈X.ex,b≠X.env.locals/\∀x c,X.env.cells.lookup x=some c->c≠b
 bs:∀b o,X.base.get? b=some o->X.s₀.heap.get? b=some o/\X.H₀ b=none
 FO:X.base.objs.size<=X.s₀.heap.objs.size
 CV:∀b o,X.base.get? b=some o->b∉X.ex
 F0:∀b∈X.ex,b∉X.fs
 oR:X.s₀.heap.FunFrames X.base X.outer
 J3:∀b∈X.fs,X.H₀ b=none
structure aT(X:Cx)(af:List (Addr×Obj))(σ:List (Option V))(H:Hp)(s:Shared):Prop where
 ok:X.Ok
 os:s.os=X.s₀.os
 bare:AllBare s.gens
 base:Un X.fs X.ex X.H₀ H X.s₀.heap s.heap
 loc:∃m,s.heap.Ns X.env.locals m/\∀ (i:Nat) (x:Str) (v:V),X.N[i]?=some x->σ[i]?=some (some v)->Nw X.env.scope x->∃u,bT v u/\Sf X.env s.heap m x u
 cell:∀x c,X.env.cells.lookup x=some c->∃v,s.heap.IsCell c v
 free:H X.env.locals=none
 kF:∀x c,X.env.cells.lookup x=some c->H c=none
 pin:∀p∈X.pn++af,s.heap.get? p.1=some p.2/\H p.1=none/\p.1≠X.env.locals/\p.1∉X.fs/\∀v,p.2.data≠.cell v
 cL:k5 X.prog X.w H s.heap
 len:σ.length=X.N.length
section
variable {X:Cx} {af:List (Addr×Obj)} {σ:List (Option V)} {H H':Hp} {s:Shared} {h':Heap}
theorem Cx.Ok.Sh(ok:X.Ok)(e:X.base.get? b=some o):b∉X.fs:=fun hb=>by
 have:=(ok.oR.mem hb).1;rw[e] at this;cases this
theorem aT.bs(I:aT X af σ H s):∀b o,X.base.get? b=some o->s.heap.get? b=some o/\H b=none:=fun b o e=>
 ⟨I.base.keep b o (I.ok.bs b o e).1 (I.ok.bs b o e).2 (I.ok.Sh e) (I.ok.CV b o e),I.base.free b o (I.ok.bs b o e).1 (I.ok.bs b o e).2 (I.ok.CV b o e)⟩
theorem aT.bk(I:aT X af σ H s):∀b o,X.base.get? b=some o->s.heap.get? b=some o:=fun b o e=>(I.bs b o e).1
theorem aT.mod(I:aT X af σ H s):Mod X.K X.mg X.base:=I.ok.mod
theorem aT.oT(I:aT X af σ H s):X.K.In s.heap:=I.ok.mod.Nv.keeps I.bk
theorem aT.fr(I:aT X af σ H s):∃m,Fr X.base X.env.locals s.heap m:=
 let ⟨m,hn,_⟩:=I.loc
 ⟨m,hn,I.bk,bw I.ok.FO I.ok.above⟩
theorem aT.lt(I:aT X af σ H s):X.env.locals<s.heap.objs.size:=let ⟨_,hn,_⟩:=I.loc;hn.lt
theorem aT.sz(I:aT X af σ H s):X.s₀.heap.objs.size<=s.heap.objs.size:=bw I.ok.above (jB I.lt)
theorem aT.Si(I:aT X af σ H s)(h:s.heap.objs.size<=a):a∉X.fs:=fun hb=>by
 obtain⟨_,o,ho,_⟩:=I.ok.oR.mem hb;exact absurd (cA (be ho) (bw I.sz h)) (ip _)
theorem aT.J4(I:aT X af σ H s):∀x c,X.env.cells.lookup x=some c->c≠X.env.locals:=fun x c e z=>by
 obtain⟨v,o,ho,hd⟩:=I.cell x c e;obtain⟨m,⟨o',es,ep,CW,F3,_⟩,_⟩:=I.loc;rw[z,CW] at ho;cases ho;rw[F3] at hd;cases hd
theorem aT.oR(I:aT X af σ H s):s.heap.FunFrames X.base X.outer:=by
 have all:∀ (l:List Env),(∀b∈Cn l,b∈X.fs)->X.s₀.heap.FunFrames X.base l->s.heap.FunFrames X.base l:=by
  intro l;induction l with
  |nil=>intro _ _;trivial
  |cons env r ih=>
   intro hs hl;obtain⟨hk,⟨L,o,hf,hn,ho,hd⟩,hr⟩:=hl;have hL:L∈X.fs:=hs L (by unfold Cn;rw[xJ,hf];exact bU);obtain⟨sl,e⟩:=I.base.slot L o ho (I.ok.J3 L hL) hL fun z=>I.ok.F0 L z hL;exact⟨hk,⟨L,_,hf,hn,e,hd⟩,ih (fun b hb=>hs b (by unfold Cn;rw[xJ,hf];exact cU _ hb)) hr⟩
 exact all X.outer (fun _ hb=>hb) I.ok.oR
theorem aT.stack(I:aT X af σ H s):s.heap.FunFrames X.base X.stack:=by
 rcases I.ok.MU with e|⟨e,hf⟩
 .rw[e];exact I.oR
 .rw[e];obtain⟨m,hn,_⟩:=I.loc;refine .cons (by rw[I.ok.kind];decide) hf hn ?_ I.oR;exact mL (bw I.ok.FO I.ok.above)
theorem aT.ug(I:aT X af σ H s):∀b∈Cn X.stack,b∈X.env.locals::X.fs:=fun b hb=>by
 rcases I.ok.MU with e|⟨e,hf⟩
 .rw[e] at hb;exact cU _ hb
 .rw[e] at hb;unfold Cn at hb;rw[xJ,hf] at hb;exact hb
theorem aT.zP(I:aT X af σ H s):∀b∈Cn X.stack,H b=none:=fun b hb=>by
 rcases bX.mp (I.ug b hb) with e|hb
 .rw[e];exact I.free
 .obtain⟨_,o,ho,_⟩:=I.ok.oR.mem hb;exact I.base.free b o ho (I.ok.J3 b hb) fun z=>I.ok.F0 b z hb
theorem aT.step{g':Array GenState}{t':Nat}{d':Drawn}{ch:List Addr}(I:aT X af σ H s)(FP:∀b∈ch,(b∈X.ex\/X.s₀.heap.objs.size<=b)/\b≠X.env.locals/\(∀x c,X.env.cells.lookup x=some c->c≠b)/\∀p∈X.pn++af,p.1≠b)(keep:∀b o,b≠X.env.locals->b∉X.fs->b∉ch->s.heap.get? b=some o->H b=none->h'.get? b=some o)(slot:∀b o,b≠X.env.locals->b∈X.fs->b∉ch->s.heap.get? b=some o->H b=none->∃sl,h'.get? b=some { o with slots:=sl })(free:∀b o,b∉ch->s.heap.get? b=some o->H b=none->H' b=none)(there:∀b o,b∉ch->s.heap.get? b=some o->∃o',h'.get? b=some o')(qp:∀b xs,H b=some (.tup xs)->H' b=some (.tup xs))(ue:∀b o u,H b=some (.ud o u)->H' b=some (.ud o u))(uf:∀b ps,H b=some (.rh ps)->∃more,H' b=some (.rh (ps++more)))(ns:∀m,s.heap.Ns X.env.locals m->h'.Ns X.env.locals m)(cL:k5 X.prog X.w H' h')(hg:AllBare g'):
  aT X af σ H' { s with heap:=h',gens:=g',drawn:=d',toks:=t' }:=by
 have VN:∀b o,X.s₀.heap.get? b=some o->b≠X.env.locals:=fun b o e=>ba (cA (be e) I.ok.above);have Rg:∀b o,X.s₀.heap.get? b=some o->b∉X.ex->b∉ch:=fun b o e hx hb=>by
  rcases(FP b hb).1 with z|z
  .exact hx z
  .exact absurd (cA (be e) z) (ip _)
 have Ja:∀x c,X.env.cells.lookup x=some c->∀v,s.heap.IsCell c v->h'.IsCell c v:=fun x c e v ⟨o,ho,hd⟩=>by
  have Nz:c∉ch:=fun z=>(FP c z).2.2.1 x c e rfl;by_cases hc:c∈X.fs
  .obtain⟨sl,q⟩:=slot c o (I.J4 x c e) hc Nz ho (I.kF x c e);exact⟨_,q,hd⟩
  .exact⟨o,keep c o (I.J4 x c e) hc Nz ho (I.kF x c e),hd⟩
 refine⟨I.ok,I.os,hg,⟨fun b o e n hb hx=>?_,fun b o e n hb hx=>?_,fun b o e n hx=>?_,fun b o e hx=>?_,fun b xs e=>qp b xs (I.base.qp b xs e),fun b o xs e=>ue b o xs (I.base.ue b o xs e),fun b ps e=>?_⟩,?_,fun x c e=>?_,?_,fun x c e=>?_,fun p hp=>?_,cL,I.len⟩
 .exact keep b o (VN b o e) hb (Rg b o e hx) (I.base.keep b o e n hb hx) (I.base.free b o e n hx)
 .obtain⟨sl,e1⟩:=I.base.slot b o e n hb hx;obtain⟨Sj,e2⟩:=slot b _ (VN b o e) hb (Rg b o e hx) e1 (I.base.free b o e n hx);exact⟨Sj,e2⟩
 .obtain⟨o',e1⟩:=I.base.there b o e hx;exact free b o' (Rg b o e hx) e1 (I.base.free b o e n hx)
 .obtain⟨o',e1⟩:=I.base.there b o e hx;exact there b o' (Rg b o e hx) e1
 .obtain⟨m1,e1⟩:=I.base.uf b ps e;obtain⟨m2,e2⟩:=uf b _ e1;exact⟨m1++m2,by rw[e2,Array.append_assoc]⟩
 .obtain⟨m,hn,hl⟩:=I.loc;refine⟨m,ns m hn,fun i x v e1 e2 e3=>?_⟩;obtain⟨u,r,l⟩:=hl i x v e1 e2 e3;refine⟨u,r,?_⟩;rcases l with l|⟨k,c,e,z⟩
  .exact .inl l
  .exact .inr ⟨k,c,e,Ja x c e _ z⟩
 .obtain⟨v,z⟩:=I.cell x c e;exact⟨v,Ja x c e v z⟩
 .obtain⟨m,⟨o,_,_,ho,_⟩,_⟩:=I.loc;exact free _ o (fun z=>(FP _ z).2.1 rfl) ho I.free
 .obtain⟨v,o,ho,hd⟩:=I.cell x c e;exact free c o (fun z=>(FP c z).2.2.1 x c e rfl) ho (I.kF x c e)
 .obtain⟨e,n,ne,nf,d⟩:=I.pin p hp;have Nz:p.1∉ch:=fun z=>(FP p.1 z).2.2.2 p hp rfl;exact⟨keep p.1 p.2 ne nf Nz e n,free p.1 p.2 Nz e n,ne,nf,d⟩
theorem aT.un{t':Nat}(I:aT X af σ H s)(u:Un X.fs [] H H' s.heap h')(cL:k5 X.prog X.w H' h'):aT X af σ H' { s with heap:=h',toks:=t' }:=by
 obtain⟨m,⟨o,es,ep,ho,r⟩,_⟩:=id I.loc;obtain⟨sl,hL⟩:=u.any ho I.free (by simp);exact I.step (g':=s.gens) (d':=s.drawn) (ch:=[]) (fun _ z=>nomatch z) (fun b o _ hb _ e n=>u.keep b o e n hb (by simp)) (fun b o _ hb _ e n=>u.slot b o e n hb (by simp)) (fun b o _ e n=>u.free b o e n (by simp)) (fun b o _ e=>u.there b o e (by simp)) u.qp u.ue u.uf (fun m' hm=>by
  obtain⟨o',w9,NA,CW,r'⟩:=hm;rw[ho] at CW;cases CW;exact⟨_,w9,NA,hL,r'⟩) cL I.bare
theorem aT.call{g':Array GenState}{t':Nat}{d':Drawn}{ch:List Addr}(I:aT X af σ H s)(u:Un (Cn X.stack) ch H H' s.heap h')(cL:k5 X.prog X.w H' h')(hg:AllBare g')(FP:∀b∈ch,(b∈X.ex\/X.s₀.heap.objs.size<=b)/\b≠X.env.locals/\(∀x c,X.env.cells.lookup x=some c->c≠b)/\∀p∈X.pn++af,p.1≠b):
  aT X af σ H' { s with heap:=h',gens:=g',drawn:=d',toks:=t' }:=by
 obtain⟨m,⟨o,es,ep,ho,r⟩,_⟩:=id I.loc;obtain⟨sl,hL⟩:=u.any ho I.free fun z=>(FP _ z).2.1 rfl;exact I.step (ch:=ch) FP (fun b o hL hb hc e n=>u.keep b o e n (fun z=>(bX.mp (I.ug b z)).elim hL hb) hc) (fun b o _ _ hc e n=>u.any e n hc) (fun b o hc e n=>u.free b o e n hc) (fun b o hc e=>u.there b o e hc) u.qp u.ue u.uf (fun m' hm=>by
  obtain⟨o',w9,NA,CW,r'⟩:=hm;rw[ho] at CW;cases CW;exact⟨_,w9,NA,hL,r'⟩) cL hg
theorem aT.turned{t':Nat}{it:Addr}(I:aT X af σ H s)(k:∀b o,b≠it->s.heap.get? b=some o->h'.get? b=some o)(hn:H it=none)(hL:it≠X.env.locals)(h1:it∈X.ex\/X.s₀.heap.objs.size<=it)(h2:∀x c,X.env.cells.lookup x=some c->c≠it)(h3:∀p∈X.pn++af,p.1≠it):aT X af σ H { s with heap:=h',toks:=t' }:=by
 have Jb:∀b u,H b=some u->b≠it:=fun b u e z=>by rw[z,hn] at e;cases e
 refine I.step (g':=s.gens) (d':=s.drawn) (ch:=[it]) (fun b hb=>?_) (fun b o _ _ hc e _=>k b o (fun z=>hc (by simp[z])) e) (fun b o _ _ hc e _=>⟨o.slots,k b o (fun z=>hc (by simp[z])) e⟩) (fun _ _ _ _ n=>n)
  (fun b o hc e=>⟨o,k b o (fun z=>hc (by simp[z])) e⟩) (fun _ _ e=>e) (fun _ _ _ e=>e) (fun b ps e=>⟨#[],by rw[e];simp⟩) (fun m hm=>?_) (fun b u e=>?_) I.bare
 .have e:b=it:=by simpa using hb
  subst e;exact⟨h1,hL,h2,h3⟩
 .obtain⟨o,es,ep,ho,r⟩:=hm;exact⟨o,es,ep,k _ o (gU hL) ho,r⟩
 .refine(I.cL b u e).rj (fun c v hc q=>k c v ?_ q) (fun _ q=>q) fun _ _ q=>q;rcases hc with z|z
  .rw[z];exact Jb b u e
  .exact Jb c _ z
theorem aT.tok(I:aT X af σ H s)(t:Nat):aT X af σ H { s with toks:=t }:=I.un (h':=s.heap) (t':=t) Un.refl I.cL
theorem aT.kept(I:aT X af σ H s)(k:∀b u,s.heap.get? b=some u->h'.get? b=some u):aT X af σ H { s with heap:=h',toks:=t' }:=I.un (Un.kept k) (I.cL.kept k)
theorem aT.laid(I:aT X af σ H s)(k:∀b u,s.heap.get? b=some u->h'.get? b=some u)(hp:s.heap.objs.size<=a)(new:cz X.prog X.w (upd H a o) h' a o):
  aT X af σ (upd H a o) { s with heap:=h',toks:=t' }:=I.un (Un.laid k hp (I.cL.fresh hp)) (I.cL.laid k hp new)
theorem aT.write(I:aT X af σ H s)(mu:Re (H x))(he:e=x\/H e=some (.own x))(k:∀b u,b≠e->s.heap.get? b=some u->h'.get? b=some u)(MT:∃u,h'.get? e=some u)(new:cz X.prog X.w (upd H x o) h' x o):aT X af σ (upd H x o) { s with heap:=h',toks:=t' }:=I.un (Un.write mu he k MT) (I.cL.write mu he k MT new)
theorem aT.zQ(I:aT X af σ H s)(h:∀p∈NC,s.heap.get? p.1=some p.2/\H p.1=none/\p.1≠X.env.locals/\p.1∉X.fs/\∀v,p.2.data≠.cell v):aT X NC σ H s:=
 ⟨I.ok,I.os,I.bare,I.base,I.loc,I.cell,I.free,I.kF,fun p hp=>(bS.mp hp).elim (fun z=>I.pin p (gy _ z)) (h p),I.cL,I.len⟩
theorem vK{N:List Str}(hN:N.Nodup){i j:Nat}{x:Str}(a:N[i]?=some x)(b:N[j]?=some x):i=j:=by
 obtain⟨h1,e1⟩:=cN.mp a;obtain⟨h2,e2⟩:=cN.mp b;exact(tQ hN).mp (e1.trans e2.symm)
theorem rU{M:Model}{A:Around}{E:Value->Shared->Prop}{i:Nat}{x:Str}{v:V}{u:Value}{Q:Unit->Shared->Prop}(I:aT X af σ H s)(hN:X.N.Nodup)(hi:X.N[i]?=some x)(hx:Nx X.env.scope x)(r:bT v u)(h:∀s',aT X af (σ.set i (some v)) H s'->(∃a,Heap.SameBut a s.heap s'.heap/\(a=X.env.locals\/X.env.cells.lookup x=some a))->Q () s')(hf:X.fn x=true\/X.env.scope.names.lookup x=some .local:=by first|exact .inl rfl|exact .inr rfl|assumption):wpAny M A (storeName X.env x u) Q E s:=by
 obtain⟨m,hn,hl⟩:=id I.loc;have Sk:(X.env.scope.kind==.class||(X.env.scope.kind==.module&&X.env.locals != X.env.globals))=false:=by rw[I.ok.kind];rfl
 have hiσ:i<σ.length:=by rw[I.len];exact(cN.mp hi).1
 have J4:=I.J4;have zR:∀ {a:Addr} {h':Heap},(∃o,s.heap.get? a=some o/\H a=none)->Heap.SameBut a s.heap h'->k5 X.prog X.w H h':=fun {a h'} ha hs b ob e=>by
  obtain⟨_,_,Jc⟩:=ha;refine(I.cL b ob e).rj (fun c w' hc q=>(hs.2 c ?_).trans q) (fun _ q=>q) fun _ _ q=>q;rintro rfl;rcases hc with rfl|hc
  .rw[Jc] at e;cases e
  .rw[Jc] at hc;cases hc
 rcases hx with hk|hk
 .refine wpAny_storeName_local hk hn (fun h' VO hs=>?_) Sk;obtain⟨oL,_,_,Co,_⟩:=id hn;refine h _ ⟨I.ok,I.os,I.bare,⟨fun b o e n hb hx=>?_,fun b o e n hb hx=>?_,I.base.free,fun b o e hx=>?_,I.base.qp,I.base.ue,I.base.uf⟩,⟨_,VO,fun j y v' e1 e2 e3=>?_⟩,fun y c e=>?_,I.free,I.kF,fun p hp=>?_,zR ⟨oL,Co,I.free⟩ hs,by simpa using I.len⟩ ⟨_,hs,.inl rfl⟩
  .exact(hs.2 b (ba (cA (be e) I.ok.above))).trans (I.base.keep b o e n hb hx)
  .obtain⟨sl,e1⟩:=I.base.slot b o e n hb hx;exact⟨sl,(hs.2 b (ba (cA (be e) I.ok.above))).trans e1⟩
  .obtain⟨o',e1⟩:=I.base.there b o e hx;exact⟨o',(hs.2 b (ba (cA (be e) I.ok.above))).trans e1⟩
  .by_cases hj:j=i
   .subst hj;rw[hi] at e1;cases e1;rw[pX hiσ] at e2;cases e2;exact⟨u,r,.inl ⟨hk,by simp⟩⟩
   .rw[p_ (gU hj)] at e2;obtain⟨u',r',q⟩:=hl j y v' e1 e2 e3;refine⟨u',r',?_⟩;rcases q with ⟨k,e⟩|⟨k,c,e,z⟩
    .refine .inl ⟨k,?_⟩;have:y≠x:=fun e=>hj (vK hN e1 (e ▸ hi));simp[this,e]
    .exact .inr ⟨k,c,e,z.sameBut hs (J4 y c e)⟩
  .obtain⟨w',z⟩:=I.cell y c e;exact⟨w',z.sameBut hs (J4 y c e)⟩
  .obtain⟨e,n,ne,nf,d⟩:=I.pin p hp;exact⟨(hs.2 p.1 ne).trans e,n,ne,nf,d⟩
 .have Sl:X.fn x=true:=by
   rcases hf with z|z
   .exact z
   .rw[z] at hk;cases hk
  obtain⟨c,hc⟩:=I.ok.has x (.inl hk);obtain⟨w',z⟩:=I.cell x c hc;refine wpAny_storeName_cell I.ok.kind hk hc z (fun h' vL hs=>?_);obtain⟨oc,Rh,Sm⟩:=id z;refine h { s with heap:=h' } ⟨I.ok,I.os,I.bare,⟨fun b o e n hb hx=>?_,fun b o e n hb hx=>?_,I.base.free,fun b o e hx=>?_,I.base.qp,I.base.ue,I.base.uf⟩,⟨m,hn.sameBut hs (gU (J4 x c hc)),fun j y v' e1 e2 e3=>?_⟩,fun y c' e=>?_,I.free,I.kF,fun p hp=>?_,zR ⟨oc,Rh,I.kF x c hc⟩ hs,by simpa using I.len⟩ ⟨c,hs,.inr hc⟩
  .exact(hs.2 b (ba (cA (be e) (I.ok.Ny x c Sl hc)))).trans (I.base.keep b o e n hb hx)
  .obtain⟨sl,e1⟩:=I.base.slot b o e n hb hx;exact⟨sl,(hs.2 b (ba (cA (be e) (I.ok.Ny x c Sl hc)))).trans e1⟩
  .obtain⟨o',e1⟩:=I.base.there b o e hx;exact⟨o',(hs.2 b (ba (cA (be e) (I.ok.Ny x c Sl hc)))).trans e1⟩
  .by_cases hj:j=i
   .subst hj;rw[hi] at e1;cases e1;rw[pX hiσ] at e2;cases e2;exact⟨u,r,.inr ⟨.inl hk,c,hc,vL⟩⟩
   .rw[p_ (gU hj)] at e2;obtain⟨u',r',q⟩:=hl j y v' e1 e2 e3;refine⟨u',r',?_⟩;rcases q with q|⟨k,c',e,z'⟩
    .exact .inl q
    .refine .inr ⟨k,c',e,z'.sameBut hs ?_⟩;rintro rfl;exact hj (vK hN e1 (I.ok.inj _ _ _ e hc ▸ hi))
  .by_cases VP:c'=c
   .subst VP;exact⟨_,vL⟩
   .obtain⟨w2,z2⟩:=I.cell y c' e;exact⟨w2,z2.sameBut hs VP⟩
  .obtain⟨e,n,ne,nf,d⟩:=I.pin p hp;refine⟨(hs.2 p.1 ?_).trans e,n,ne,nf,d⟩;intro q;rw[q,Rh] at e;have q':oc=p.2:=bW e;exact d w' (by rw[<-q'];exact Sm)
theorem jG(I:aT X af σ H s)(hN:X.N.Nodup)(hi:X.N[i]?=some x)(hx:Nx X.env.scope x)(r:bT v u)(h:∀s',aT X af (σ.set i (some v)) H s'->Q () s')(hf:X.fn x=true\/X.env.scope.names.lookup x=some .local:=by first|exact .inl rfl|exact .inr rfl|assumption):wpAny M A (storeName X.env x u) Q E s:=
 rU I hN hi hx r (fun s' I' _=>h s' I') hf
theorem aT.ND(I:aT X af σ H s)(ho:s'.os=s.os)(u:Un (Cn X.stack) ch H H' s.heap s'.heap)(cL:k5 X.prog X.w H' s'.heap)(hg:AllBare s'.gens)(FP:∀b∈ch,(b∈X.ex\/X.s₀.heap.objs.size<=b)/\b≠X.env.locals/\(∀x c,X.env.cells.lookup x=some c->c≠b)/\∀p∈X.pn++af,p.1≠b):aT X af σ H' s':=by
 obtain⟨h',g',d',t',o'⟩:=s';have e:o'=s.os:=ho;subst e;exact I.call (g':=g') (t':=t') (d':=d') u cL hg FP
end
abbrev XK:=Value->Option Addr->Hp->Prop
abbrev St:=List (Option V)
abbrev VK:=V->Hp->Prop
abbrev TE:=St->Hp->VK->Prop
abbrev TT:=St->Hp->(Bool->Hp->Prop)->Prop
abbrev TA:=St->Hp->(List V->Hp->Prop)->Prop
structure yj where
 nx:St->Hp->Prop
 rt:VK
 bk:St->Hp->Prop:=fun _ _=>False
 ct:St->Hp->Prop:=fun _ _=>False
abbrev TS:=yj->St->Hp->Prop
def EP(X:Cx)(af:List (Addr×Obj))(σ:St)(Q:VK)(u:Value)(s':Shared):Prop:=∃v H',aT X af σ H' s'/\bT v u/\Q v H'
def TP(X:Cx)(af:List (Addr×Obj))(σ:St)(Q:Bool->Hp->Prop)(b:Bool)(s':Shared):Prop:=∃H',aT X af σ H' s'/\Q b H'
def AP(X:Cx)(af:List (Addr×Obj))(σ:St)(Q:List V->Hp->Prop)(us:List Value)(s':Shared):Prop:=∃vs H',aT X af σ H' s'/\aZ vs us/\Q vs H'
def SP(X:Cx)(af:List (Addr×Obj))(D:yj)(f:Flow)(s':Shared):Prop:=
 match f with
 |.next=>∃σ' H',aT X af σ' H' s'/\D.nx σ' H'
 |.brk=>∃σ' H',aT X af σ' H' s'/\D.bk σ' H'
 |.cont=>∃σ' H',aT X af σ' H' s'/\D.ct σ' H'
 |.ret u=>∃v σ' H',aT X af σ' H' s'/\bT v u/\D.rt v H'
def PE(X:Cx)(e:Expr)(t:TE):Prop:=
 ∀ (af:List (Addr×Obj)) (s:Shared) (σ:St) (H:Hp) (Q:VK),aT X af σ H s->t σ H Q->wpAny (model X.prog X.w) X.A (eval e X.env) (EP X af σ Q) X.xe s
def PT(X:Cx)(e:Expr)(t:TT):Prop:=
 ∀ (af:List (Addr×Obj)) (s:Shared) (σ:St) (H:Hp) (Q:Bool->Hp->Prop),aT X af σ H s->t σ H Q->wpAny (model X.prog X.w) X.A (isTrue e X.env (eval e X.env)) (TP X af σ Q) X.xe s
def PW(X:Cx)(e:Expr)(t:TT):Prop:=
 ∀ (zS:Sem Value) (af:List (Addr×Obj)) (s:Shared) (σ:St) (H:Hp) (Q:Bool->Hp->Prop),aT X af σ H s->t σ H Q->wpAny (model X.prog X.w) X.A (isTrue e X.env zS) (TP X af σ Q) X.xe s
theorem PW.pt(h:PW X e t):PT X e t:=h _
def PA(X:Cx)(es:List Expr)(t:TA):Prop:=
 ∀ (pos:Pos) (af:List (Addr×Obj)) (s:Shared) (σ:St) (H:Hp) (Q:List V->Hp->Prop),aT X af σ H s->t σ H Q->wpAny (model X.prog X.w) X.A (spliced (backTo pos (starEach es X.env))) (AP X af σ Q) X.xe s
def PS(X:Cx)(st:Stmt)(t:TS):Prop:=
 ∀ (af:List (Addr×Obj)) (s:Shared) (σ:St) (H:Hp) (D:yj),aT X af σ H s->t D σ H->wpAny (model X.prog X.w) X.A (exec st X.env) (SP X af D) X.xe s
def yk(X:Cx)(st:List Stmt)(t:TS):Prop:=
 ∀ (af:List (Addr×Obj)) (s:Shared) (σ:St) (H:Hp) (D:yj),aT X af σ H s->t D σ H->wpAny (model X.prog X.w) X.A (execs st X.env) (SP X af D) X.xe s
theorem cV(h:wpAny M A t Q E s)(hQ:∀a s,Q a s->Q' a s):wpAny M A t Q' E s:=ni h hQ fun _ _ x=>x
section
variable {X:Cx}
def aK(i:Nat):TE:=fun σ H Q=>∃v,σ[i]?=some (some v)/\Q v H
def tC(v:V):TE:=fun _ H Q=>Q v H
theorem J5(hN:X.N[i]?=some x)(hv:Nw X.env.scope x)(hd:(x==("__debug__":Str))=false:=by decide)(rd:(x==("__classdict__":Str))=false:=by decide):PE X (.Name x pos) (aK i):=by
 intro af s σ H Q I h;obtain⟨v,e,h⟩:=h;obtain⟨m,hn,hl⟩:=I.loc;obtain⟨u,r,l⟩:=hl i x v hN e hv;have dU:EP X af σ Q u s:=⟨v,H,I,r,h⟩
 rcases l with ⟨hk,hm⟩|⟨hk,c,hc,zU⟩
 .exact nj (xS I.ok.kind hk hn hm dU) hd
 .rcases hk with hk|hk
  .exact nj (wpAny_loadName_cell I.ok.kind hk hc zU dU) hd
  .exact nj (xW I.ok.kind hk hc zU dU rd) hd
theorem av{i j pos}:PE X (.Constant (.int i) j pos) (tC (.int i)):=fun _ _ _ H _ I h=>wpAny_Constant_int ⟨.int i,H,I.tok _,⟨_,rfl⟩,h⟩
theorem lK{b j pos}:PE X (.Constant (.bool b) j pos) (tC (.bl b)):=fun _ _ _ H _ I h=>Constant_bool ⟨.bl b,H,I,rfl,h⟩
theorem eR{j pos}:PE X (.Constant .none j pos) (tC .b_):=fun _ _ _ H _ I h=>Constant_none ⟨.b_,H,I,rfl,h⟩
def Gl(X:Cx)(x:Str):Prop:=X.env.kindOf x=some .globalImplicit
theorem uh(I:aT X af σ H s)(hg:Gl X x)(hm:X.mg x=some u)(h:Q u s)(hd:(x==("__debug__":Str))=false:=by decide):wpAny (model X.prog X.w) X.A (eval (.Name x pos) X.env) Q E s:=
 Calls.Name_function_global I.ok.kind hg (Calls.loadGlobal_global (by rw[I.ok.glob];exact I.mod.glob.keeps I.bk) hm h) hd
theorem k6(I:aT X af σ H s)(hg:Gl X x)(hm:X.mg x=none)(hv:bootBuiltins x=some u)(h:Q u s)(hn:x≠"__name__":=by decide)(hd:(x==("__debug__":Str))=false:=by decide):wpAny (model X.prog X.w) X.A (eval (.Name x pos) X.env) Q E s:=by
 obtain⟨mb,h1,h2⟩:=I.mod.blt;exact Calls.Name_function_global I.ok.kind hg (Calls.loadGlobal_builtin (by rw[I.ok.glob];exact I.mod.glob.keeps I.bk) hm (by rw[I.ok.blt];exact h1.keeps I.bk) ((h2 x hn).trans hv) h) hd
theorem ui(hg:Gl X x)(hm:X.mg x=some u)(r:bT v u)(hd:(x==("__debug__":Str))=false:=by decide):PE X (.Name x pos) (tC v):=
 fun _ _ _ H _ I h=>uh I hg hm ⟨v,H,I,r,h⟩ hd
theorem lL(hg:Gl X x)(hm:X.mg x=none)(hv:bootBuiltins x=some u)(r:bT v u)(hn:x≠"__name__":=by decide)(hd:(x==("__debug__":Str))=false:=by decide):PE X (.Name x pos) (tC v):=
 fun _ _ _ H _ I h=>k6 I hg hm hv ⟨v,H,I,r,h⟩ hn hd
variable {a b:Expr} {ta tb:TE} {pos:Pos}
def PC(X:Cx)(op:CmpOp)(a b:Expr)(t:TE):Prop:=
 ∀ (af:List (Addr×Obj)) (s:Shared) (σ:St) (H:Hp) (Q:VK),aT X af σ H s->t σ H Q->
  wpAny (model X.prog X.w) X.A (eval a X.env) (fun v s₁=>wpAny (model X.prog X.w) X.A (eval b X.env) (fun u s₂=>wpAny (model X.prog X.w) X.A (compareOp op v u) (EP X af σ Q) X.xe s₂) X.xe s₁) X.xe s
def tB(t:TE):TT:=fun σ H Q=>t σ H fun x H1=>∃c,x=.bl c/\Q c H1
theorem J6(h:PC X op a b t)(h1:behindInMarks op b=false:=by first|exact NF _ (by decide) (by decide)|rfl):PT X (.Compare a [op] [b] pos) (tB t):=by
 intro af s σ H Q I hw;refine wpAny_isTrue_Compare1 (cV (h af s σ H _ I hw) fun v s1 h1=>cV h1 fun u s2 h2=>cV h2 fun c s3 ⟨x,H1,I1,r1,q1⟩=>?_) h1;obtain⟨d,rfl,q⟩:=q1;cases r1;exact mV ⟨H1,I1,q⟩
theorem fV(h:PE X e t)(he:∀zS,isTrue e X.env zS=(do let v <- zS;standAt e.pos;holding [v] (truthy v)):=by intro _;rfl):PT X e (tB t):=by
 intro af s σ H Q I hw;refine isTrue_plain (cV (h af s σ H _ I hw) fun v s1 ⟨x,H1,I1,r1,q1⟩=>?_) (he _);obtain⟨d,rfl,q⟩:=q1;cases r1;exact mV ⟨H1,I1,q⟩
variable {tA Ri:TT} {oU:List Expr}
def J7(t u:TT):TT:=fun σ H Q=>t σ H fun c H1=>if c=true then u σ H1 Q else Q false H1
def X0(t u:TT):TT:=fun σ H Q=>t σ H fun c H1=>if c=true then Q true H1 else u σ H1 Q
def Sn(t:TT):TT:=fun σ H Q=>t σ H fun c H1=>Q (!c) H1
theorem j9(ha:PT X a tA):PW X (.BoolOp .And [a] pos) tA:=by
 intro wh af s σ H Q I h;refine isTrue_and (cV (ha af s σ H Q I h) fun c s1 e=>?_);cases c with
 |true=>exact isTrue_and_nil e
 |false=>exact e
theorem uj(ha:PT X a tA):PW X (.BoolOp .Or [a] pos) tA:=by
 intro wh af s σ H Q I h;refine isTrue_or (cV (ha af s σ H Q I h) fun c s1 e=>?_);cases c with
 |false=>exact isTrue_or_nil e
 |true=>exact e
theorem jH(ha:PT X a tA)(hb:PW X (.BoolOp .And (b::oU) pos) Ri):PW X (.BoolOp .And (a::b::oU) pos) (J7 tA Ri):=by
 intro wh af s σ H Q I h;refine isTrue_and (cV (ha af s σ H _ I h) fun c s1 ⟨H1,I1,q1⟩=>?_);cases c with
 |true=>exact hb wh af s1 σ H1 Q I1 q1
 |false=>exact⟨H1,I1,q1⟩
theorem zV(ha:PT X a tA)(hb:PW X (.BoolOp .Or (b::oU) pos) Ri):PW X (.BoolOp .Or (a::b::oU) pos) (X0 tA Ri):=by
 intro wh af s σ H Q I h;refine isTrue_or (cV (ha af s σ H _ I h) fun c s1 ⟨H1,I1,q1⟩=>?_);cases c with
 |true=>exact⟨H1,I1,q1⟩
 |false=>exact hb wh af s1 σ H1 Q I1 q1
theorem jI(ha:PT X a tA):PT X (.UnaryOp .Not a pos) (Sn tA):=by
 intro af s σ H Q I h;exact isTrue_not (ha af s σ H (fun c H1=>Q (!c) H1) I h)
def NG(ta tb:TE):TE:=fun σ H Q=>ta σ H fun x H1=>∃c,x=.bl c/\if c=true then tb σ H1 Q else Q (.bl false) H1
def NH(ta:TE):TE:=fun σ H Q=>ta σ H fun x H1=>∃c,x=.bl c/\Q (.bl (!c)) H1
theorem qr{op}(h:PE X a t):PE X (.BoolOp op [a] pos) t:=fun af s σ H Q I hw=>BoolOp_one (h af s σ H Q I hw)
theorem nn(ha:PE X a ta)(hb:PE X (.BoolOp .And (b::oU) pos) tb):PE X (.BoolOp .And (a::b::oU) pos) (NG ta tb):=by
 intro af s σ H Q I h;refine BoolOp_and (cV (ha af s σ H _ I h) fun v s1 ⟨x,H1,I1,r1,q1⟩=>?_);obtain⟨c,rfl,q1⟩:=q1;cases r1;refine mV ?_;cases c with
 |true=>exact hb af s1 σ H1 Q I1 q1
 |false=>exact⟨.bl false,H1,I1,rfl,q1⟩
theorem J8(ha:PE X a ta):PE X (.UnaryOp .Not a pos) (NH ta):=by
 intro af s σ H Q I h;refine UnaryOp_ (cV (ha af s σ H _ I h) fun v s1 ⟨x,H1,I1,r1,q1⟩=>?_);obtain⟨c,rfl,q1⟩:=q1;cases r1;exact not_of (mV ⟨.bl (!c),H1,I1,rfl,q1⟩)
def VQ(t:TT)(ta tb:TE):TE:=fun σ H Q=>t σ H fun c H1=>if c=true then ta σ H1 Q else tb σ H1 Q
theorem CY(hc:PT X c tA)(ha:PE X a ta)(hb:PE X b tb):PE X (.IfExp c a b pos) (VQ tA ta tb):=by
 intro af s σ H Q I h;refine wpAny_IfExp (cV (hc af s σ H _ I h) fun d s1 ⟨H1,I1,q1⟩=>?_);cases d with
 |true=>exact ha af s1 σ H1 Q I1 q1
 |false=>exact hb af s1 σ H1 Q I1 q1
end
def aQ(K:PySem.W.Frag)(H:Hp)(a:Addr)(xs:List V):Prop:=
 Rd H a (.lst xs)\/
  ∃ (o:Obj) (its:Array Value) (n:Nat),K.lookup a=some o/\o.cls=.type "list"/\o.dict=none/\o.data=.seq its n/\its.size<=sizeLine/\aZ xs its.toList
def bD(K:PySem.W.Frag)(H:Hp)(a:Addr)(xs:List V):Prop:=
 Rd H a (.tup xs)\/
  ∃ (o:Obj) (its:Array Value) (n:Nat),K.lookup a=some o/\o.cls=.type "tuple"/\o.data=.seq its n/\its.size<=sizeLine/\aZ xs its.toList
def So:Value->Option V
 |.none=>some .b_
 |.bool b=>some (.bl b)
 |.int i _=>some (.int i)
 |.str x _=>some (.str x)
 |.bytes b _=>some (.Cm b)
 |.float b _=>some (.J1 b)
 |.ref a=>some (.ref a)
 |.type n=>some (.ty n)
 |_=>none
theorem bT.abs(r:bT x u):So u=some x:=by
 cases x with
 |b_=>cases r;rfl
 |bl _=>cases r;rfl
 |int _=>obtain⟨t,rfl⟩:=r;rfl
 |str _=>obtain⟨t,rfl⟩:=r;rfl
 |Cm _=>obtain⟨t,rfl⟩:=r;rfl
 |J1 _=>obtain⟨t,rfl⟩:=r;rfl
 |ref _=>cases r;rfl
 |ty _=>cases r;rfl
theorem bT.inj(r:bT x u)(q:bT y u):x=y:=bW (r.abs.symm.trans q.abs)
theorem aZ.inj:∀ {xs ys:List V} {us:List Value},aZ xs us->aZ ys us->xs=ys
 |_,_,_,.nil,.nil=>rfl
 |_,_,_,.cons r t,.cons r' t'=>by rw[r.inj r',aZ.inj t t']
section
variable {X:Cx} {af:List (Addr×Obj)} {σ:St} {H:Hp} {s:Shared} {a:Addr} {xs ys:List V}
theorem aQ.of{K:PySem.W.Frag}(h:H a=some (.lst xs)):aQ K H a xs:=.inl (.inl h)
theorem bD.of{K:PySem.W.Frag}(h:H a=some (.tup xs)):bD K H a xs:=.inl (.inl h)
theorem aT.list(I:aT X af σ H s)(h:aQ X.K H a xs):∃its:List Value,aZ xs its/\PlainL s.heap a its.toArray/\xs.length<=sizeLine:=by
 rcases h with h|⟨o,its,n,hk,hc,hd,hs,hz,r⟩
 .obtain⟨z,its,n,r,e⟩:=h.ok I.cL;exact⟨its,r,⟨_,n,e,rfl,rfl,rfl⟩,z⟩
 .refine⟨its.toList,r,⟨o,n,I.oT a o hk,hc,hd,by simpa using hs⟩,?_⟩;have e:=r.length;simp only[kP] at e;lia
theorem aT.tuple(I:aT X af σ H s)(h:bD X.K H a xs):∃its:List Value,aZ xs its/\IsTup s.heap a its.toArray/\xs.length<=sizeLine:=by
 rcases h with h|⟨o,its,n,hk,hc,hs,hz,r⟩
 .obtain⟨z,its,r,p⟩:=h.ok I.cL;exact⟨its,r,p.tup,z⟩
 .refine⟨its.toList,r,⟨o,I.oT a o hk,hc,n,by simpa using hs⟩,?_⟩;have e:=r.length;simp only[kP] at e;lia
theorem aT.CZ(I:aT X af σ H s)(h:aQ X.K H a xs)(h':aQ X.K H a ys):xs=ys:=by
 obtain⟨its,r,⟨o,n,e,_,_,d⟩,_⟩:=I.list h;obtain⟨its',r',⟨o',n',e',_,_,d'⟩,_⟩:=I.list h';rw[e] at e';cases e';rw[d] at d';injection d' with d1 _;have:its=its':=by simpa using congrArg Array.toList d1
 subst this;exact r.inj r'
theorem aT.fW(I:aT X af σ H s)(h:bD X.K H a xs)(h':bD X.K H a ys):xs=ys:=by
 obtain⟨its,r,⟨o,e,_,n,d⟩,_⟩:=I.tuple h;obtain⟨its',r',⟨o',e',_,n',d'⟩,_⟩:=I.tuple h';rw[e] at e';cases e';rw[d] at d';injection d' with d1 _;have:its=its':=by simpa using congrArg Array.toList d1
 subst this;exact r.inj r'
end
abbrev Cx.rl(X:Cx)(E:Value->Shared->Prop):Cx:={ X with xe:=E }
abbrev Cx.Jd(X:Cx):Cx:=X.rl fun _ _=>False
theorem Cx.Ok.rl{X:Cx}(ok:X.Ok)(E:Value->Shared->Prop):(X.rl E).Ok:=
 ⟨ok.mod,ok.kind,ok.glob,ok.blt,ok.above,ok.inj,ok.has,ok.Ny,ok.hd,ok.frames,ok.MU,ok.Sg,ok.bs,ok.FO,ok.CV,ok.F0,ok.oR,ok.J3⟩
theorem Cx.Ok.jJ{X:Cx}{E:Value->Shared->Prop}(ok:(X.rl E).Ok):X.Ok:=
 ⟨ok.mod,ok.kind,ok.glob,ok.blt,ok.above,ok.inj,ok.has,ok.Ny,ok.hd,ok.frames,ok.MU,ok.Sg,ok.bs,ok.FO,ok.CV,ok.F0,ok.oR,ok.J3⟩
section
variable {X:Cx} {af:List (Addr×Obj)} {σ:St} {H:Hp} {s:Shared} {E:Value->Shared->Prop}
theorem aT.rl(I:aT X af σ H s)(E:Value->Shared->Prop):aT (X.rl E) af σ H s:=⟨I.ok.rl E,I.os,I.bare,I.base,I.loc,I.cell,I.free,I.kF,I.pin,I.cL,I.len⟩
theorem aT.jJ(I:aT (X.rl E) af σ H s):aT X af σ H s:=⟨I.ok.jJ,I.os,I.bare,I.base,I.loc,I.cell,I.free,I.kF,I.pin,I.cL,I.len⟩
theorem SP.jJ(h:SP (X.rl E) af D f s'):SP X af D f s':=by
 cases f with
 |next=>obtain⟨σ',H',I,q⟩:=h;exact⟨σ',H',I.jJ,q⟩
 |brk=>obtain⟨σ',H',I,q⟩:=h;exact⟨σ',H',I.jJ,q⟩
 |cont=>obtain⟨σ',H',I,q⟩:=h;exact⟨σ',H',I.jJ,q⟩
 |ret u=>obtain⟨v,σ',H',I,r,q⟩:=h;exact⟨v,σ',H',I.jJ,r,q⟩
theorem yk.Jd{st:List Stmt}{t:TS}(h:yk X.Jd st t):yk X st t:=fun af s σ H D I hw=>
 ni (h af s σ H D (I.rl _) hw) (fun _ _ q=>q.jJ) fun _ _ z=>False.elim z
end
section
variable {X:Cx} {st:Stmt} {oU:List Stmt} {t u:TS} {e:Expr} {te:TE} {pos:Pos}
def NI:TS:=fun D σ H=>D.nx σ H
def NJ(t u:TS):TS:=fun D σ H=>t { D with nx:=u D } σ H
theorem a_:yk X [] NI:=fun _ _ σ H _ I h=>tY ⟨σ,H,I,h⟩
theorem ag(h1:PS X st t)(h2:yk X oU u):yk X (st::oU) (NJ t u):=by
 intro af s σ H D I h;refine wpAny_execs_cons (cV (h1 af s σ H { D with nx:=u D } I h) fun f s1 q=>?_);cases f with
 |next=>
  obtain⟨σ',H',I',q⟩:=q;exact h2 af s1 σ' H' D I' q
 |ret v=>exact q
 |brk=>exact q
 |cont=>exact q
theorem ap(h1:PS X st t):yk X [st] t:=by
 intro af s σ H D I h;refine wpAny_execs_cons (cV (h1 af s σ H D I h) fun f s1 q=>?_);cases f with
 |next=>exact tY q
 |ret v=>exact q
 |brk=>exact q
 |cont=>exact q
theorem aT.quiet(I:aT X af σ H s):interactive X.env=false:=by simp[interactive,I.ok.kind]
def NK(te:TE):TS:=fun D σ H=>te σ H fun _ H1=>D.nx σ H1
theorem cB(he:PE X e te)(hs:swapsWith e none pos.line X.env=pure false:=by rfl):PS X (.Expr e pos) (NK te):=by
 intro af s σ H D I h;exact wpAny_Expr_any (cV (he af s σ H _ I h) fun v s1 ⟨x,H1,I1,r1,q1⟩=>⟨σ,H1,I1,q1⟩) I.quiet hs
def Sq(te:TE):TS:=fun D σ H=>te σ H D.rt
theorem aX(he:PE X e te):PS X (.Return (some e) pos) (Sq te):=by
 intro af s σ H D I h;exact wpAny_Return_some (cV (he af s σ H _ I h) fun v s1 ⟨x,H1,I1,r1,q1⟩=>⟨x,σ,H1,I1,r1,q1⟩)
def Sr(c:TT)(t u:TS):TS:=fun D σ H=>c σ H fun b H1=>if b=true then t D σ H1 else u D σ H1
theorem cf(hc:PT X c tc)(ha:yk X a t)(hb:yk X b u):PS X (.If c a b pos) (Sr tc t u):=by
 intro af s σ H D I h;refine wpAny_If (cV (hc af s σ H _ I h) fun d s1 ⟨H1,I1,q1⟩=>?_);cases d with
 |true=>exact ha af s1 σ H1 D I1 q1
 |false=>exact hb af s1 σ H1 D I1 q1
def J9:TS:=fun _ _ _=>False
theorem eW:yk X sts J9:=fun _ _ _ _ _ _ h=>h.elim
end
abbrev TG:=V->St->Hp->(St->Hp->Prop)->Prop
abbrev J_:=List V->St->Hp->(St->Hp->Prop)->Prop
def PG(X:Cx)(Ka:Expr)(t:TG):Prop:=
 ∀ (af:List (Addr×Obj)) (s:Shared) (σ:St) (H:Hp) (v:V) (u:Value) (Q:St->Hp->Prop),aT X af σ H s->bT v u->t v σ H Q->
  wpAny (model X.prog X.w) X.A (assign Ka X.env u) (fun _ s'=>∃σ' H',aT X af σ' H' s'/\Q σ' H') X.xe s
def NL(X:Cx)(ts:List Expr)(t:J_):Prop:=
 ∀ (af:List (Addr×Obj)) (s:Shared) (σ:St) (H:Hp) (vs:List V) (us:List Value) (Q:St->Hp->Prop),aT X af σ H s->aZ vs us->t vs σ H Q->
  wpAny (model X.prog X.w) X.A (assignInOrder ((assignEach ts X.env).map (·.2)) us) (fun _ s'=>∃σ' H',aT X af σ' H' s'/\Q σ' H') X.xe s
abbrev NM:=V->V->V->Hp->(Hp->Prop)->Prop
def NN(X:Cx)(t:NM):Prop:=
 ∀ (af:List (Addr×Obj)) (s:Shared) (σ:St) (H:Hp) (o i v:V) (ov iv u:Value) (Q:Hp->Prop),aT X af σ H s->bT o ov->bT i iv->bT v u->t o i v H Q->
  wpAny (model X.prog X.w) X.A (setItem ov iv u) (fun _ s'=>∃H',aT X af σ H' s'/\Q H') X.xe s
abbrev Ss:=V->V->Hp->VK->Prop
def VR(X:Cx)(op:Operator)(t:Ss):Prop:=
 ∀ (af:List (Addr×Obj)) (s:Shared) (σ:St) (H:Hp) (x y:V) (v u:Value) (Q:VK),aT X af σ H s->bT x v->bT y u->t x y H Q->
  wpAny (model X.prog X.w) X.A (inplaceOp op v u) (EP X af σ Q) X.xe s
section
variable {X:Cx} {pos:Pos}
def bp(i:Nat):TG:=fun v σ H Q=>Q (σ.set i (some v)) H
theorem aq(hN:X.N.Nodup)(hi:X.N[i]?=some x)(hx:Nx X.env.scope x)(hf:X.fn x=true\/X.env.scope.names.lookup x=some .local:=by first|exact .inl rfl|exact .inr rfl|assumption):PG X (.Name x pos) (bp i):=by
 intro af s σ H v u Q I r h;exact wpAny_assign_Name (jG I hN hi hx r (fun s' I'=>⟨_,H,I',h⟩) hf)
def A3:J_:=fun vs σ H Q=>vs=[]/\Q σ H
def jK(t:TG)(u:J_):J_:=fun vs σ H Q=>∃v r,vs=v::r/\t v σ H fun σ' H'=>u r σ' H' Q
theorem cS:NL X [] A3:=by
 intro af s σ H vs us Q I r h;obtain⟨e,h⟩:=h;subst e;cases r;exact assignInOrder_nil ⟨σ,H,I,h⟩
theorem aW(h1:PG X e t)(h2:NL X es u)(hs:(assignEach (e::es) X.env).map (·.2)=assign e X.env::(assignEach es X.env).map (·.2):=by rfl):NL X (e::es) (jK t u):=by
 intro af s σ H vs us Q I r h;obtain⟨v,vr,e1,h⟩:=h;subst e1;cases r with
 |cons r rr=>
  rw[hs];refine assignInOrder_cons (cV (h1 af s σ H _ _ _ I r h) fun _ s1 ⟨σ1,H1,I1,q1⟩=>?_);exact h2 af s1 σ1 H1 _ _ Q I1 rr q1
def A4(K:PySem.W.Frag)(n:Nat)(t:J_):TG:=fun v σ H Q=>∃a xs,v=.ref a/\bD K H a xs/\xs.length=n/\t xs σ H Q
theorem eG(hc:X.calm=true)(h:NL X es t)(hn:(assignEach es X.env).length=n:=by rfl)(lM:(assignEach es X.env).findIdx? (·.1)=none:=by rfl):PG X (.Tuple es k pos) (A4 X.K n t):=by
 intro af s σ H v u Q I r hw;obtain⟨a,xs,e1,hq,hl,hw⟩:=hw;subst e1;cases r;obtain⟨its,rv,ht,hz⟩:=I.tuple hq;refine assign_Tuple_tuple (I.ok.hd hc) ht (by simp[hn,<-hl,rv.length]) lM fun h' hx=>?_;have I1:aT X af σ H { s with heap:=h' }:=I.kept (t':=s.toks) fun b o e=>hx b o (ba (be e)) e;exact h af _ σ H xs _ Q I1 (by simpa using rv) hw
def Su(to ti:TE)(t:NM):TG:=fun v σ H Q=>to σ H fun o H1=>ti σ H1 fun i H2=>t o i v H2 fun H3=>Q σ H3
theorem fX(ho:PE X o to)(hi:PE X i ti)(hs:NN X t)(ha:∀v,assign (.Subscript o i pos) X.env v=(do
   let ov <- holding [v] (eval o X.env)
   let iv <- holding [v,ov] (eval i X.env)
   standAt pos
   holding [v,ov,iv] (setItem ov iv v)
   release [v,ov,iv] []):=by intro _;rfl):PG X (.Subscript o i pos) (Su to ti t):=by
 intro af s σ H v u Q I r h;rw[ha];refine aw (fK (cV (ho af s σ H _ I h) fun ov s1 ⟨x,H1,I1,r1,q1⟩=>?_));refine aw (fK (cV (hi af s1 σ H1 _ I1 q1) fun iv s2 ⟨y,H2,I2,r2,q2⟩=>?_));refine aw (kY (aw (fK (cV (hs af s2 σ H2 x y v ov iv u _ I2 r1 r2 r q2) fun _ s3 ⟨H3,I3,q3⟩=>?_))));exact wpAny_release ⟨σ,H3,I3,q3⟩
def Kb(te:TE)(g:TG):TS:=fun D σ H=>te σ H fun x H1=>g x σ H1 D.nx
theorem cW(he:PE X e te)(hg:PG X tg g)(hs:swapsWithSole [tg] e pos.line X.env=pure false:=by rfl)(hw:swappedStores [tg] e X.env=pure none:=by rfl)(h1:(assignEach [tg] X.env).map (·.2)=[assign tg X.env]:=by rfl):PS X (.Assign [tg] e pos) (Kb te g):=by
 intro af s σ H D I h;refine wpAny_Assign_stores (cV (he af s σ H _ I h) fun v s1 ⟨x,H1,I1,r1,q1⟩=>?_) hs hw;rw[h1];exact cV (hg af s1 σ H1 x v _ I1 r1 q1) fun _ s2 q=>q
theorem aH(hN:X.N.Nodup)(hi:X.N[i]?=some x)(hx:Nx X.env.scope x)(he:PE X e te)(hs:swapsWith e (some (.Name x A5)) pos.line X.env=pure false:=by rfl)(hf:X.fn x=true\/X.env.scope.names.lookup x=some .local:=by first|exact .inl rfl|exact .inr rfl|assumption):
  PS X (.Assign [.Name x A5] e pos) (Kb te (bp i)):=by
 intro af s σ H D I h;refine wpAny_Assign_Name (cV (he af s σ H _ I h) fun v s1 ⟨y,H1,I1,r1,q1⟩=>?_) hs;exact jG I1 hN hi hx r1 (fun s2 I2=>⟨_,H1,I2,q1⟩) hf
def Sv(i j:Nat)(ta:TA):TS:=fun D σ H=>ta σ H fun vs H1=>∃v w,vs=[v,w]/\D.nx ((σ.set i (some v)).set j (some w)) H1
theorem Kc{kt k2 MV}(hc:X.calm=true)(hN:X.N.Nodup)(hi:X.N[i]?=some x)(hj:X.N[j]?=some y)(X1:i≠j)(hx:X.env.scope.names.lookup x=some .local)(hy:X.env.scope.names.lookup y=some .local)(ha:PA X [a,b] ta)(hw:swappedStores [.Tuple [.Name x px,.Name y py] kt pt] (.Tuple [a,b] k2 MV) X.env=pure (some [x,y]))(hs:swapsWithSole [.Tuple [.Name x px,.Name y py] kt pt] (.Tuple [a,b] k2 MV) pos.line X.env=pure false:=by rfl):
  PS X (.Assign [.Tuple [.Name x px,.Name y py] kt pt] (.Tuple [a,b] k2 MV) pos) (Sv i j ta):=by
 intro af s σ H D I h;rw[exec_Assign_arm];refine aw (kY ?_);rw[hs];refine aw (wpAny_pure ?_);rw[aA (by decide)];refine aw (Tuple_ (cV (ha _ af s σ H _ I h) fun us s1 ⟨vs,H1,I1,r1,q1⟩=>?_));obtain⟨v,w,e1,q1⟩:=q1;subst e1;obtain⟨u1,u2,rfl,rv,Kd⟩:∃u1 u2,us=[u1,u2]/\bT v u1/\bT w u2:=by
  cases r1 with
  |cons p q=>
   cases q with
   |cons p' q'=>
    cases q';exact⟨_,_,rfl,p,p'⟩
 refine jv ?_ (by show 2<=sizeLine;decide);have I2:aT X af σ H1 { s1 with heap:=s1.heap.push { cls:=.type "tuple",data:=.seq [u1,u2].toArray } }:=I1.kept (t':=s1.toks) fun b o e=>bV _ e;rw[hw];refine aw (wpAny_pure ?_);show wpAny (model X.prog X.w) X.A (do rule "assign.swapped-stores";let items <- unpackItems (.ref s1.heap.objs.size) 2 none;assignInOrder [fun v=>bindName X.env y v,fun v=>bindName X.env x v] items.reverse;pure Flow.next) _ _ _;refine aw (gm (aw (unpackItems_tuple (items:=#[u1,u2]) (I.ok.hd hc) (IsTup.new s1.heap _) fun h' A6=>?_)));have I3:=I2.kept (h':=h') (t':=s1.toks) fun b o e=>A6 b o (ba (be e)) e;show wpAny _ _ (assignInOrder [fun v=>bindName X.env y v,fun v=>bindName X.env x v] [u2,u1] >>= fun _=>pure Flow.next) _ _ _;refine aw (assignInOrder_cons (wpAny_bindName (jG I3 hN hj (.inl hy) Kd (fun s2 I4=>?_) (.inr hy))));refine assignInOrder_cons (wpAny_bindName (jG I4 hN hi (.inl hx) rv (fun s3 I5=>assignInOrder_nil (wpAny_pure ?_)) (.inr hx)));rw[List.set_comm _ _ (gU X1)] at I5;exact⟨_,H1,I5,q1⟩
def Sw(i:Nat)(te:TE)(ti:Ss):TS:=fun D σ H=>∃x,σ[i]?=some (some x)/\te σ H fun y H1=>ti x y H1 fun z H2=>D.nx (σ.set i (some z)) H2
theorem Ke(hN:X.N.Nodup)(hi:X.N[i]?=some x)(hx:Nx X.env.scope x)(he:PE X e te)(ho:VR X op ti)(hf:X.fn x=true\/X.env.scope.names.lookup x=some .local:=by first|exact .inl rfl|exact .inr rfl|assumption):
  PS X (.AugAssign (.Name x A5) op e pos) (Sw i te ti):=by
 intro af s σ H D I h;obtain⟨v,e1,h⟩:=h;obtain⟨m,hn,hl⟩:=I.loc;have Sx:Nw X.env.scope x:=by rcases hx with k|k;exact .inl k;exact .inr (.inl k)
 obtain⟨u,r,l⟩:=hl i x v hi e1 Sx;refine wpAny_AugAssign_Name ?_;have go:wpAny (model X.prog X.w) X.A (eval e X.env) (fun w s₂=>wpAny (model X.prog X.w) X.A (inplaceOp op u w) (fun r s₃=>wpAny (model X.prog X.w) X.A (storeName X.env x r) (fun _=>SP X af D .next) X.xe s₃) X.xe s₂) X.xe s:=by
  refine cV (he af s σ H _ I h) fun w s1 ⟨y,H1,I1,r1,q1⟩=>?_;refine cV (ho af s1 σ H1 v y u w _ I1 r r1 q1) fun z s2 ⟨zv,H2,I2,r2,q2⟩=>?_;exact jG I2 hN hi hx r2 (fun s3 I3=>⟨_,H2,I3,q2⟩) hf
 rcases l with ⟨hk,hm⟩|⟨hk,c,hc,zU⟩
 .exact xS I.ok.kind hk hn hm go
 .rcases hk with hk|hk
  .exact wpAny_loadName_cell I.ok.kind hk hc zU go
  .rcases hx with k|k
   .have:X.env.scope.names.lookup x=some .free:=hk;rw[k] at this;cases this
   .have:X.env.scope.names.lookup x=some .free:=hk;rw[k] at this;cases this
def X2(f:Int->Int->Int):Ss:=fun x y H Q=>∃i j,x=.int i/\y=.int j/\Q (.int (f i j)) H
theorem Kg:VR X .Add (X2 fun i j=>i+j):=by
 intro af s σ H x y v u Q I r1 r2 h;obtain⟨i,j,e1,e2,q⟩:=h;subst e1;subst e2;obtain⟨t,rfl⟩:=r1;obtain⟨t',rfl⟩:=r2;exact iadd_int ⟨.int _,H,I.tok _,⟨_,rfl⟩,q⟩
def C0(c:TT)(tb:TS):TS:=fun D σ H=>∃W:Nat->St->Hp->Prop,(∃m,W m σ H)/\∀m σ H,W m σ H->
 c σ H fun b H1=>if b=true then ∃N:St->Hp->Prop,(∀σ' H',N σ' H'->∃m',m'<m/\W m' σ' H')/\tb { D with nx:=N,ct:=N,bk:=D.nx } σ H1 else D.nx σ H1
theorem vM(hp:PassesOwn (model X.prog X.w) X.A X.env X.xe)(hc:PT X c tc)(hb:yk X body tb):PS X (.While c body [] pos) (C0 tc tb):=by
 intro af s σ H D I h;obtain⟨W,⟨m0,w0⟩,C1⟩:=h;refine wpAny_While (codeAny_whileLoop (fun n s'=>∃σ' H',aT X af σ' H' s'/\W n σ' H') ?_ m0 ⟨σ,H,I,w0⟩);rintro n s1 ⟨σ1,H1,I1,w1⟩;refine kU hp (cV (hc af s1 σ1 H1 _ I1 (C1 n σ1 H1 w1)) fun b s2 ⟨H2,I2,q2⟩=>?_);cases b with
 |true=>
  obtain⟨N,hN,q2⟩:=q2;rw[am rfl];refine kU hp (cV (hb af s2 σ1 H2 _ I2 q2) fun f s3 q3=>?_);cases f with
  |next=>
   obtain⟨σ3,H3,I3,n3⟩:=q3;obtain⟨m',hm,w3⟩:=hN σ3 H3 n3;exact⟨m',hm,σ3,H3,I3,w3⟩
  |cont=>
   obtain⟨σ3,H3,I3,n3⟩:=q3;obtain⟨m',hm,w3⟩:=hN σ3 H3 n3;exact⟨m',hm,σ3,H3,I3,w3⟩
  |brk=>exact q3
  |ret v=>exact q3
 |false=>
  rw[aA cp];exact tY ⟨σ1,H2,I2,q2⟩
end
structure It where
 go:Nat->Hp->Prop
 MW:Nat->Hp->V->Hp->Prop
 stop:Nat->Hp->Prop
def jk(X:Cx)(af:List (Addr×Obj))(H:Hp)(b:Addr):Prop:=
 H b=none/\b≠X.env.locals/\b∉X.fs/\(b∈X.ex\/X.s₀.heap.objs.size<=b)/\(∀x c,X.env.cells.lookup x=some c->c≠b)/\∀p∈X.pn++af,p.1≠b
theorem aT.C2(I:aT X af σ H s)(hb:s.heap.objs.size<=b)(hn:H' b=none):jk X af H' b:=by
 refine⟨hn,iS (cA I.lt hb),I.Si hb,.inr (bw I.sz hb),fun x c e z=>?_,fun p hp z=>?_⟩
 .obtain⟨v,q⟩:=I.cell x c e;exact absurd (cA q.lt (by rw[z];exact hb)) (ip _)
 .exact absurd (cA (be (I.pin p hp).1) (by rw[z];exact hb)) (ip _)
structure ym(P:Program)(w:World)(K:PySem.W.Frag)(tg:Expr)(J:It)(fp:List Addr)(it:Addr)(tn:Nat->Heap->Prop):Prop where
 mem:it∈fp
 obj:∀i h,tn i h->∀b∈fp,∃o,h.get? b=some o/\∀v,o.data≠.cell v
 keep:∀i h h',tn i h->(∀b∈fp,∀o,h.get? b=some o->h'.get? b=some o)->tn i h'
 item:∀ (X:Cx),X.prog=P->X.w=w->X.K=K->X.calm=true->∀ (i:Nat) (af:List (Addr×Obj)) (s:Shared) (σ:St) (H:Hp) (E:Value->Shared->Prop),aT X af σ H s->(∀b∈fp,jk X af H b)->tn i s.heap->J.go i H->
  wpAny (model P w) X.A (pyNext (.ref it)) (fun r s1=>∃u,r=some u/\
   wpAny (model P w) X.A (letOwnedTupleGo tg (.ref it) u) (fun _ s2=>∃x H',aT X af σ H' s2/\bT x u/\J.MW i H x H'/\tn (i+1) s2.heap/\∀b∈fp,H' b=none) E s1) E s
 done:∀ (X:Cx),X.prog=P->X.w=w->X.K=K->X.calm=true->∀ (i:Nat) (af:List (Addr×Obj)) (s:Shared) (σ:St) (H:Hp) (E:Value->Shared->Prop),aT X af σ H s->(∀b∈fp,jk X af H b)->tn i s.heap->J.stop i H->
  wpAny (model P w) X.A (pyNext (.ref it)) (fun r s1=>r=none/\aT X af σ H s1) E s
 self:∀ (A:Around) (i:Nat) (s:Shared) (Q:Value->Shared->Prop) (E:Value->Shared->Prop),tn i s.heap->Q (.ref it) s->wpAny (model P w) A (pyIter (.ref it)) Q E s
abbrev TI:=St->Hp->(It->Hp->Prop)->Prop
def VS(X:Cx)(af:List (Addr×Obj))(σ:St)(tg:Expr)(R:It->Hp->Prop)(Rj:Value)(s2:Shared):Prop:=
 ∃ (it:Addr) (fp:List Addr) (tn:Nat->Heap->Prop) (J:It) (H':Hp),Rj=.ref it/\aT X af σ H' s2/\ym X.prog X.w X.K tg J fp it tn/\tn 0 s2.heap/\(∀b∈fp,jk X af H' b)/\R J H'
def PI(X:Cx)(tg jm:Expr)(wi:TI):Prop:=
 ∀ (af:List (Addr×Obj)) (s:Shared) (σ:St) (H:Hp) (R:It->Hp->Prop),aT X af σ H s->wi σ H R->
  wpAny (model X.prog X.w) X.A (eval jm X.env) (fun v s1=>wpAny (model X.prog X.w) X.A (pyIter v) (VS X af σ tg R) X.xe s1) X.xe s
theorem C3(ho:s.heap.get? it=some o)(hc:o.cls=.type n)(hd:o.data=.fields vs)(hn:["enumerate","zip","dict_itemiterator","dict_reverseitemiterator","odict_iterator","itertools.zip_longest","itertools.pairwise"].contains n=false)(hQ:Q () s):wpAny M A (letOwnedTupleGo tg (.ref it) u) Q E s:=by
 unfold letOwnedTupleGo;cases tg <;> first
  |exact wpAny_pure hQ
  |(cases u <;> first
    |exact wpAny_pure hQ
    |(refine aw (wpAny_load ho ?_);rw[hc,hd];show wpAny M A (if (["enumerate","zip","dict_itemiterator","dict_reverseitemiterator","odict_iterator","itertools.zip_longest","itertools.pairwise"].contains n&&vs[0]?==some (rawInt _))=true then _ else _) Q E s;rw[aA (by intro h;rw[hn,Bool.false_and] at h;cases h)];exact wpAny_pure hQ))
def A7(K:PySem.W.Frag)(a:Addr):It:=
 ⟨fun i H=>∃xs x,aQ K H a xs/\xs[i]?=some x,fun i H x H'=>H'=H/\∀xs,aQ K H a xs->xs[i]?=some x,fun i H=>∃xs,aQ K H a xs/\xs.length<=i⟩
def MX(K:PySem.W.Frag)(a:Addr):It:=
 ⟨fun i H=>∃xs x,bD K H a xs/\xs[i]?=some x,fun i H x H'=>H'=H/\∀xs,bD K H a xs->xs[i]?=some x,fun i H=>∃xs,bD K H a xs/\xs.length<=i⟩
def Cp(lo:Int)(n:Nat):It:=⟨fun i _=>i<n,fun i H x H'=>H'=H/\x=.int (lo+i),fun i _=>n<=i⟩
theorem A8{P:Program}{w:World}{K:PySem.W.Frag}{tg:Expr}(a it:Addr):ym P w K tg (A7 K a) [it] it (fun i h=>h.IsListIter it a i) where
 mem:=by simp
 obj:=fun i h st b hb=>by
  have e:b=it:=by simpa using hb
  subst e;obtain⟨o,e,c,d⟩:=st;exact⟨o,e,fun v z=>by rw[d] at z;cases z⟩
 keep:=fun i h h' st k=>st.at fun o e=>k it (by simp) o e
 item:=by
  intro X hP hw hK hc i af s σ H E I hf st hg;subst hP hw hK;obtain⟨xs,x,hq,hx⟩:=hg;obtain⟨its,rv,p,hz⟩:=I.list hq;obtain⟨u,hu,ru⟩:=rv.get hx;obtain⟨f0,f1,f2,f3,f4,f5⟩:=hf it (by simp);refine p9 st p.isList (x:=u) (by simpa using hu) fun h' bj sb=>?_;have I1:aT X af σ H { s with heap:=h' }:=I.turned (t':=s.toks) (fun b o hb e=>(sb.2 b hb).trans e) f0 f1 f3 f4 f5;obtain⟨o,e,c,d⟩:=id bj;exact⟨u,rfl,C3 (s:={ s with heap:=h' }) e c d (by decide) ⟨x,H,I1,ru,⟨rfl,fun ys hy=>by rw[I.CZ hy hq];exact hx⟩,bj,fun b hb=>(hf b hb).1⟩⟩
 done:=by
  intro X hP hw hK hc i af s σ H E I hf st hg;subst hP hw hK;obtain⟨xs,hq,hx⟩:=hg;obtain⟨its,rv,p,hz⟩:=I.list hq;obtain⟨f0,f1,f2,f3,f4,f5⟩:=hf it (by simp);have hl:=rv.length;exact tD (I.ok.hd hc) st p.isList (by simp;lia) fun h' eb=>⟨rfl,I.turned (t':=s.toks) (fun b o hb e=>eb b o hb e) f0 f1 f3 f4 f5⟩
 self:=fun _ _ _ _ _ st h=>wpAny_pyIter_listiter st h
theorem yn{P:Program}{w:World}{K:PySem.W.Frag}{tg:Expr}(a it:Addr):ym P w K tg (MX K a) [it] it (fun i h=>h.IsTupleIter it a i) where
 mem:=by simp
 obj:=fun i h st b hb=>by
  have e:b=it:=by simpa using hb
  subst e;obtain⟨o,e,c,d⟩:=st;exact⟨o,e,fun v z=>by rw[d] at z;cases z⟩
 keep:=fun i h h' st k=>st.at fun o e=>k it (by simp) o e
 item:=by
  intro X hP hw hK hc i af s σ H E I hf st hg;subst hP hw hK;obtain⟨xs,x,hq,hx⟩:=hg;obtain⟨its,rv,p,hz⟩:=I.tuple hq;obtain⟨u,hu,ru⟩:=rv.get hx;obtain⟨f0,f1,f2,f3,f4,f5⟩:=hf it (by simp);refine wpAny_pyNext_tuple_item st (show s.heap.IsTuple a its.toArray from p) (x:=u) (by simpa using hu) fun h' bj sb=>?_;have I1:aT X af σ H { s with heap:=h' }:=I.turned (t':=s.toks) (fun b o hb e=>(sb.2 b hb).trans e) f0 f1 f3 f4 f5;obtain⟨o,e,c,d⟩:=id bj;exact⟨u,rfl,C3 (s:={ s with heap:=h' }) e c d (by decide) ⟨x,H,I1,ru,⟨rfl,fun ys hy=>by rw[I.fW hy hq];exact hx⟩,bj,fun b hb=>(hf b hb).1⟩⟩
 done:=by
  intro X hP hw hK hc i af s σ H E I hf st hg;subst hP hw hK;obtain⟨xs,hq,hx⟩:=hg;obtain⟨its,rv,p,hz⟩:=I.tuple hq;obtain⟨f0,f1,f2,f3,f4,f5⟩:=hf it (by simp);have hl:=rv.length;exact wpAny_pyNext_tuple_end (I.ok.hd hc) st (show s.heap.IsTuple a its.toArray from p) (by simp;lia) fun h' eb=>⟨rfl,I.turned (t':=s.toks) (fun b o hb e=>eb b o hb e) f0 f1 f3 f4 f5⟩
 self:=fun _ _ _ _ _ st h=>wpAny_pyIter_tupleiter st h
theorem yo{P:Program}{w:World}{K:PySem.W.Frag}{tg:Expr}(it:Addr)(lo:Int)(n:Nat):ym P w K tg (Cp lo n) [it] it (fun i h=>IsRangeIter h it (lo+(i:Nat)*1) ((n:Int)-(i:Nat)) 1) where
 mem:=by simp
 obj:=fun i h st b hb=>by
  have e:b=it:=by simpa using hb
  subst e;exact⟨_,st,fun v z=>by
   have z':Data.fields _=Data.cell v:=z;cases z'⟩
 keep:=fun i h h' st k=>k it (by simp) _ st
 item:=by
  intro X hP hw hK hc i af s σ H E I hf st hg;subst hP hw hK;obtain⟨f0,f1,f2,f3,f4,f5⟩:=hf it (by simp);have W:=Walks.range (prog:=X.prog) (w:=X.w) (I.ok.hd hc) it lo 1 n;refine W.item i s _ _ hg st fun v h' tk hv bj kk=>?_;obtain⟨t,rfl⟩:=hv;have I1:aT X af σ H { s with heap:=h',toks:=tk }:=I.turned (fun b o hb e=>kk b o (by simpa using hb) e) f0 f1 f3 f4 f5;refine⟨_,rfl,C3 (s:={ s with heap:=h',toks:=tk }) (n:="range_iterator") bj rfl rfl (by decide) ⟨.int (lo+i),H,I1,⟨t,?_⟩,⟨rfl,rfl⟩,bj,fun b hb=>(hf b hb).1⟩⟩;rw[Int.mul_one]
 done:=by
  intro X hP hw hK hc i af s σ H E I hf st hg;subst hP hw hK;obtain⟨f0,f1,f2,f3,f4,f5⟩:=hf it (by simp);exact wpAny_pyNext_range_end (I.ok.hd hc) st (by have:n<=i:=hg;lia) fun h' eb=>⟨rfl,I.turned (t':=s.toks) (fun b o hb e=>eb b o hb e) f0 f1 f3 f4 f5⟩
 self:=fun _ _ _ _ _ st h=>wpAny_pyIter_rangeiter st h
section
variable {X:Cx} {tg:Expr}
def Je(K:PySem.W.Frag)(tl:TE):TI:=fun σ H R=>tl σ H fun x H1=>∃a,x=.ref a/\(∃xs,aQ K H1 a xs)/\R (A7 K a) H1
def Sy(K:PySem.W.Frag)(tl:TE):TI:=fun σ H R=>tl σ H fun x H1=>∃a,x=.ref a/\(∃xs,bD K H1 a xs)/\R (MX K a) H1
theorem bi{l:Expr}{tl:TE}(hl:PE X l tl):PI X tg l (Je X.K tl):=by
 intro af s σ H R I h;refine cV (hl af s σ H _ I h) fun v s1 ⟨x,H1,I1,r1,q1⟩=>?_;obtain⟨a,e,⟨xs,hq⟩,q⟩:=q1;subst e;cases r1;obtain⟨its,rv,p,hz⟩:=I1.list hq;refine mW p.isList ?_;refine⟨s1.heap.objs.size,[s1.heap.objs.size],_,_,H1,rfl,I1.kept (t':=s1.toks) fun b o e=>bV _ e,A8 a _,⟨_,cD _ rfl,rfl,rfl⟩,fun b hb=>?_,q⟩;have e:b=s1.heap.objs.size:=by simpa using hb
 subst e;exact I1.C2 (aU _) (I1.cL.fresh (aU _))
theorem uk{l:Expr}{tl:TE}(hl:PE X l tl):PI X tg l (Sy X.K tl):=by
 intro af s σ H R I h;refine cV (hl af s σ H _ I h) fun v s1 ⟨x,H1,I1,r1,q1⟩=>?_;obtain⟨a,e,⟨xs,hq⟩,q⟩:=q1;subst e;cases r1;obtain⟨its,rv,p,hz⟩:=I1.tuple hq;refine x0 (show s1.heap.IsTuple a its.toArray from p) ?_;refine⟨s1.heap.objs.size,[s1.heap.objs.size],_,_,H1,rfl,I1.kept (t':=s1.toks) fun b o e=>bV _ e,yn a _,⟨_,cD _ rfl,rfl,rfl⟩,fun b hb=>?_,q⟩;have e:b=s1.heap.objs.size:=by simpa using hb
 subst e;exact I1.C2 (aU _) (I1.cL.fresh (aU _))
theorem vN{af:List (Addr×Obj)}{σ:St}{H:Hp}{s:Shared}{R:It->Hp->Prop}{E:Value->Shared->Prop}{lo hi:Int}{t u v:Tok}{tk:Nat}(I:aT X af σ H s)(h1:-(2 ^ 62)<=lo)(h2:lo<2 ^ 62)(h3:-(2 ^ 62)<=hi)(h4:hi<2 ^ 62)(q:R (Cp lo (hi-lo).toNat) H):wpAny (model X.prog X.w) X.A (pyIter (.ref s.heap.objs.size)) (VS X af σ tg R) E { s with heap:=s.heap.push { cls:=.type "range",data:=.fields #[.int lo t,.int hi u,.int 1 v] },toks:=tk }:=by
 refine wpAny_pyIter_range (IsRange.new ..) (small_one h1 h2 h3 h4) ?_;have I1:aT X af σ H { s with heap:=s.heap.push { cls:=.type "range",data:=.fields #[.int lo t,.int hi u,.int 1 v] },toks:=tk }:=I.kept fun b o e=>bV _ e;refine⟨(s.heap.push { cls:=.type "range",data:=.fields #[.int lo t,.int hi u,.int 1 v] }).objs.size,[(s.heap.push { cls:=.type "range",data:=.fields #[.int lo t,.int hi u,.int 1 v] }).objs.size],_,_,H,rfl,
  I1.kept (t':=tk) fun b o e=>bV _ e,yo _ lo (hi-lo).toNat,?_,fun b hb=>?_,q⟩
 .have e1:lo+((0:Nat):Int)*1=lo:=by simp
  have e2:(((hi-lo).toNat:Nat):Int)-((0:Nat):Int)=Builtin.Range.rangeSize lo hi 1:=by rw[rangeSize_one];split <;> lia
  show IsRangeIter _ _ (lo+((0:Nat):Int)*1) ((((hi-lo).toNat:Nat):Int)-((0:Nat):Int)) 1;rw[e1,e2];exact cD _ rfl
 .have e:b=(s.heap.push { cls:=.type "range",data:=.fields #[.int lo t,.int hi u,.int 1 v] }).objs.size:=by simpa using hb
  subst e;exact I1.C2 (aU _) (I1.cL.fresh (aU _))
def NO(ta:TA):TI:=fun σ H R=>ta σ H fun vs H1=>∃j:Int,vs=[.int j]/\-(2 ^ 62)<=j/\j<2 ^ 62/\R (Cp 0 j.toNat) H1
def NP(ta:TA):TI:=fun σ H R=>ta σ H fun vs H1=>∃i j:Int,vs=[.int i,.int j]/\(-(2 ^ 62)<=i/\i<2 ^ 62/\-(2 ^ 62)<=j/\j<2 ^ 62)/\R (Cp i (j-i).toNat) H1
theorem aY{a:Expr}{ta:TA}{p pos:Pos}(hg:Gl X "range")(hm:X.mg "range"=none)(ha:PA X [a] ta)(hs:starEach [a] X.env=[(false,eval a X.env)]:=by rfl):PI X tg (.Call (.Name "range" p) [a] [] pos) (NO ta):=by
 intro af s σ H R I h;refine Call_ (k6 I hg hm boot_range (sV (cV (ha pos af s σ H _ I h) fun us s1 ⟨vs,H1,I1,r1,q1⟩=>?_) hs rfl));obtain⟨j,e,q1,q2,q⟩:=q1;subst e;cases r1 with
 |cons r rr=>
  cases rr;obtain⟨t,rfl⟩:=r;exact call_range_1 (vN I1 (by lia) (by lia) q1 q2 (by simpa using q))
theorem nq(hg:Gl X "range")(hm:X.mg "range"=none)(ha:PA X [a,b] ta)(hs:starEach [a,b] X.env=[(false,eval a X.env),(false,eval b X.env)]:=by rfl)(qt:starEach [b] X.env=[(false,eval b X.env)]:=by rfl):
  PI X tg (.Call (.Name "range" p) [a,b] [] pos) (NP ta):=by
 intro af s σ H R I h;refine Call_ (k6 I hg hm boot_range (sV (cV (ha pos af s σ H _ I h) fun us s1 ⟨vs,H1,I1,r1,q1⟩=>?_) (by rw[hs,qt]) (by rw[qt];rfl)));obtain⟨i,j,e,⟨q1,q2,q3,q4⟩,q⟩:=q1;subst e;cases r1 with
 |cons r rr=>
  cases rr with
  |cons r' rr=>
   cases rr;obtain⟨t,rfl⟩:=r;obtain⟨t',rfl⟩:=r';exact call_range_2 (vN I1 q1 q2 q3 q4 q)
def Sz(wi:TI)(g:TG)(tb:TS):TS:=fun D σ H=>wi σ H fun J H1=>∃W:Nat->Nat->St->Hp->Prop,(∃m,W 0 m σ H1)/\∀i m σ H,W i m σ H->
 (J.stop i H/\D.nx σ H)\/(J.go i H/\∃N:St->Hp->Prop,(∀σ' H',N σ' H'->∃m',m'<m/\W (i+1) m' σ' H')/\∀x H',J.MW i H x H'->g x σ H' fun σ2 H2=>tb { D with nx:=N,ct:=N,bk:=D.nx } σ2 H2)
def qu(fp:List Addr)(h:Heap):List (Addr×Obj):=fp.filterMap fun b=>(h.get? b).map fun o=>(b,o)
theorem iV(hb:b∈fp)(e:h.get? b=some o):(b,o)∈qu fp h:=mN.mpr ⟨b,hb,by rw[e];rfl⟩
theorem A9(hp:p∈qu fp h):p.1∈fp/\h.get? p.1=some p.2:=by
 obtain⟨b,hb,e⟩:=mN.mp hp;cases q:h.get? b with
 |none=>rw[q] at e;cases e
 |some o=>
  rw[q] at e;have e':(b,o)=p:=bW e;subst e';exact⟨hb,q⟩
theorem aT.pinned(I:aT X af σ H s)(hf:∀b∈fp,jk X af H b)(ho:∀b∈fp,∃o,s.heap.get? b=some o/\∀v,o.data≠.cell v):aT X (af++qu fp s.heap) σ H s:=
 I.zQ fun p hp=>(bS.mp hp).elim (fun z=>I.pin p (iC _ z)) fun z=>by
  obtain⟨hb,e⟩:=A9 z;obtain⟨f0,f1,f2,_⟩:=hf p.1 hb;obtain⟨o,e',d⟩:=ho p.1 hb;rw[e] at e';cases e';exact⟨e,f0,f1,f2,d⟩
theorem aT.lN(I:aT X (af++pl) σ H s):aT X af σ H s:=I.zQ fun p hp=>I.pin p (iC _ (gy _ hp))
theorem cn(hp:PassesOwn (model X.prog X.w) X.A X.env X.xe)(hc:X.calm=true)(hi:PI X tg jm wi)(hg:PG X tg g)(hb:yk X body tb)(hs:∀x,foldedSetIterable jm X.env x=pure x:=by intro _;rfl):PS X (.For tg jm body [] pos) (Sz wi g tb):=by
 intro af s σ H D I h;refine wpAny_For (cV (hi af s σ H _ I h) fun v s1 h1=>cV h1 fun Rj s2 h2=>?_) hs;obtain⟨it,fp,tn,J,H2,e,I2,T,rm,f2,W,⟨m0,w0⟩,C1⟩:=h2;subst e;have yp:∀ {H':Hp},(∀b∈fp,H' b=none)->∀b∈fp,jk X af H' b:=fun hn b hb=>⟨hn b hb,(f2 b hb).2⟩
 refine codeAny_forLoop_any (fun n s'=>∃i σ' H',aT X af σ' H' s'/\tn i s'.heap/\(∀b∈fp,H' b=none)/\W i n σ' H') ?_ m0 ⟨0,σ,H2,I2,rm,fun b hb=>(f2 b hb).1,w0⟩;rintro n s3 ⟨i,σ3,H3,I3,yq,Kh,w3⟩;rcases C1 i n σ3 H3 w3 with ⟨stop,qn⟩|⟨go,N,hN,step⟩
 .refine kU hp (cV (T.done X rfl rfl rfl hc i af s3 σ3 H3 X.xe I3 (yp Kh) yq stop) fun r s4 ⟨hr,I4⟩=>?_);subst hr;exact tY ⟨σ3,H3,I4,qn⟩
 .refine kU hp (cV (T.item X rfl rfl rfl hc i af s3 σ3 H3 X.xe I3 (yp Kh) yq go) fun r s4 ⟨u,hr,h4⟩=>?_);subst hr;refine kU hp (cV h4 fun _ s5 ⟨x,H5,I5,r5,y5,vz,SA⟩=>?_);have SB:=I5.pinned (yp SA) (T.obj _ _ vz);refine kU hp (cV (hg _ s5 σ3 H5 x u _ SB r5 (step x H5 y5)) fun _ s6 ⟨σ6,H6,I6,q6⟩=>?_);refine kU hp (cV (hb _ s6 σ6 H6 _ I6 q6) fun f s7 q7=>?_);have again:∀ {σ7:St} {H7:Hp},aT X (af++qu fp s5.heap) σ7 H7 s7->N σ7 H7->∃m,m<n/\∃i σ' H',aT X af σ' H' s7/\tn i s7.heap/\(∀b∈fp,H' b=none)/\W i m σ' H':=fun {σ7 H7} I7 n7=>by
   obtain⟨m',hm,w7⟩:=hN σ7 H7 n7;refine⟨m',hm,i+1,σ7,H7,I7.lN,T.keep _ _ _ vz fun b hb o e=>(I7.pin (b,o) (iC _ (iC _ (iV hb e)))).1,fun b hb=>?_,w7⟩;obtain⟨o,e,d⟩:=T.obj _ _ vz b hb;exact(I7.pin (b,o) (iC _ (iC _ (iV hb e)))).2.1
  cases f with
  |next=>obtain⟨σ7,H7,I7,n7⟩:=q7;exact again I7 n7
  |cont=>obtain⟨σ7,H7,I7,n7⟩:=q7;exact again I7 n7
  |brk=>obtain⟨σ7,H7,I7,q7⟩:=q7;exact⟨σ7,H7,I7.lN,q7⟩
  |ret v=>obtain⟨x7,σ7,H7,I7,r7,q7⟩:=q7;exact⟨x7,σ7,H7,I7.lN,r7,q7⟩
end
theorem eI{K:PySem.W.Frag}{a:Addr}{xs:List V}{g:TG}{tb:TS}{D:yj}{σ:St}{H:Hp}(Pv:Nat->St->Hp->Prop)(h0:Pv 0 σ H)(hl:∀i σ H,i<=xs.length->Pv i σ H->aQ K H a xs)(hs:∀i x σ H,xs[i]?=some x->Pv i σ H->g x σ H fun σ2 H2=>tb { D with nx:=Pv (i+1),ct:=Pv (i+1),bk:=D.nx } σ2 H2)(hd:∀σ H,Pv xs.length σ H->D.nx σ H):
  ∃W:Nat->Nat->St->Hp->Prop,(∃m,W 0 m σ H)/\∀i m σ H,W i m σ H->
   ((A7 K a).stop i H/\D.nx σ H)\/((A7 K a).go i H/\∃N:St->Hp->Prop,(∀σ' H',N σ' H'->∃m',m'<m/\W (i+1) m' σ' H')/\∀x H',(A7 K a).MW i H x H'->g x σ H' fun σ2 H2=>tb { D with nx:=N,ct:=N,bk:=D.nx } σ2 H2):=by
 refine⟨fun i m σ H=>m=xs.length-i/\i<=xs.length/\Pv i σ H,⟨xs.length,by simp,dh _,h0⟩,?_⟩;rintro i m σ H ⟨rfl,hi,p⟩;have q:=hl i σ H hi p;by_cases e_:i<xs.length
 .refine .inr ⟨⟨xs,xs[i],q,by simp[e_]⟩,Pv (i+1),fun σ' H' p'=>⟨xs.length-(i+1),by lia,rfl,e_,p'⟩,fun x H' y=>?_⟩;obtain⟨e,y⟩:=y;subst e;exact hs i x σ _ (y xs q) p
 .have e:i=xs.length:=by lia
  subst e;exact .inl ⟨⟨xs,q,aU _⟩,hd σ H p⟩
theorem ul{K:PySem.W.Frag}{a:Addr}{xs:List V}{g:TG}{tb:TS}{D:yj}{σ:St}{H:Hp}(Pv:Nat->St->Hp->Prop)(h0:Pv 0 σ H)(hl:∀i σ H,i<=xs.length->Pv i σ H->bD K H a xs)(hs:∀i x σ H,xs[i]?=some x->Pv i σ H->g x σ H fun σ2 H2=>tb { D with nx:=Pv (i+1),ct:=Pv (i+1),bk:=D.nx } σ2 H2)(hd:∀σ H,Pv xs.length σ H->D.nx σ H):
  ∃W:Nat->Nat->St->Hp->Prop,(∃m,W 0 m σ H)/\∀i m σ H,W i m σ H->
   ((MX K a).stop i H/\D.nx σ H)\/((MX K a).go i H/\∃N:St->Hp->Prop,(∀σ' H',N σ' H'->∃m',m'<m/\W (i+1) m' σ' H')/\∀x H',(MX K a).MW i H x H'->g x σ H' fun σ2 H2=>tb { D with nx:=N,ct:=N,bk:=D.nx } σ2 H2):=by
 refine⟨fun i m σ H=>m=xs.length-i/\i<=xs.length/\Pv i σ H,⟨xs.length,by simp,dh _,h0⟩,?_⟩;rintro i m σ H ⟨rfl,hi,p⟩;have q:=hl i σ H hi p;by_cases e_:i<xs.length
 .refine .inr ⟨⟨xs,xs[i],q,by simp[e_]⟩,Pv (i+1),fun σ' H' p'=>⟨xs.length-(i+1),by lia,rfl,e_,p'⟩,fun x H' y=>?_⟩;obtain⟨e,y⟩:=y;subst e;exact hs i x σ _ (y xs q) p
 .have e:i=xs.length:=by lia
  subst e;exact .inl ⟨⟨xs,q,aU _⟩,hd σ H p⟩
theorem cI{lo:Int}{n:Nat}{g:TG}{tb:TS}{D:yj}{σ:St}{H:Hp}(Pv:Nat->St->Hp->Prop)(h0:Pv 0 σ H)(hs:∀i σ H,i<n->Pv i σ H->g (.int (lo+i)) σ H fun σ2 H2=>tb { D with nx:=Pv (i+1),ct:=Pv (i+1),bk:=D.nx } σ2 H2)(hd:∀σ H,Pv n σ H->D.nx σ H):
  ∃W:Nat->Nat->St->Hp->Prop,(∃m,W 0 m σ H)/\∀i m σ H,W i m σ H->
   ((Cp lo n).stop i H/\D.nx σ H)\/((Cp lo n).go i H/\∃N:St->Hp->Prop,(∀σ' H',N σ' H'->∃m',m'<m/\W (i+1) m' σ' H')/\∀x H',(Cp lo n).MW i H x H'->g x σ H' fun σ2 H2=>tb { D with nx:=N,ct:=N,bk:=D.nx } σ2 H2):=by
 refine⟨fun i m σ H=>m=n-i/\i<=n/\Pv i σ H,⟨n,by simp,dh _,h0⟩,?_⟩;rintro i m σ H ⟨rfl,hi,p⟩;by_cases e_:i<n
 .refine .inr ⟨e_,Pv (i+1),fun σ' H' p'=>⟨n-(i+1),by lia,rfl,e_,p'⟩,fun x H' y=>?_⟩;obtain⟨e,y⟩:=y;subst e y;exact hs i σ _ e_ p
 .have e:i=n:=by lia
  subst e;exact .inl ⟨aU _,hd σ H p⟩
theorem vO(Pv:St->Hp->Prop)(μ:St->Hp->Nat)(h0:Pv σ H)(hs:∀σ H,Pv σ H->c σ H fun b H1=>if b=true then tb { D with nx:=fun σ' H'=>Pv σ' H'/\μ σ' H'<μ σ H,ct:=fun σ' H'=>Pv σ' H'/\μ σ' H'<μ σ H,bk:=D.nx } σ H1 else D.nx σ H1)(mono:∀σ H Q Q',(∀b H1,Q b H1->Q' b H1)->c σ H Q->c σ H Q'):C0 c tb D σ H:=by
 refine⟨fun m σ H=>m=μ σ H/\Pv σ H,⟨_,rfl,h0⟩,?_⟩;rintro m σ H ⟨rfl,p⟩;refine mono σ H _ _ (fun b H1 q=>?_) (hs σ H p);cases b with
 |true=>exact⟨_,fun σ' H' ⟨p',l⟩=>⟨_,l,rfl,p'⟩,q⟩
 |false=>exact q
abbrev R2:=V->V->Hp->VK->Prop
def k7(X:Cx)(f:Value->Value->Sem Value)(r:R2):Prop:=
 ∀ (af:List (Addr×Obj)) (s:Shared) (σ:St) (H:Hp) (x y:V) (v u:Value) (Q:VK),aT X af σ H s->bT x v->bT y u->r x y H Q->
  wpAny (model X.prog X.w) X.A (f v u) (EP X af σ Q) X.xe s
def eX(X:Cx)(f:Value)(r:List V->Hp->VK->Prop):Prop:=
 ∀ (af:List (Addr×Obj)) (s:Shared) (σ:St) (H:Hp) (xs:List V) (us:List Value) (Q:VK),aT X af σ H s->aZ xs us->r xs H Q->
  wpAny (model X.prog X.w) X.A (call f us) (EP X af σ Q) X.xe s
def dW(r:R2)(ta tb:TE):TE:=fun σ H Q=>ta σ H fun x H1=>tb σ H1 fun y H2=>r x y H2 Q
def rI(C:Int->Int->Prop)(g:Int->Int->V):R2:=fun x y H Q=>∃i j,x=.int i/\y=.int j/\C i j/\Q (g i j) H
def rn(g:Int->Int->V):R2:=fun x y H Q=>∃i j,x=.int i/\y=.int j/\Q (g i j) H
section
variable {X:Cx} {a b c:Expr} {ta tb tc:TE} {pos:Pos}
theorem Ki(ha:PE X a ta)(hb:PE X b tb){af:List (Addr×Obj)}{s:Shared}{σ:St}{H:Hp}{R:V->V->Hp->Prop}(I:aT X af σ H s)(h:ta σ H fun x H1=>tb σ H1 fun y H2=>R x y H2){Q:Value->Shared->Prop}{f:Value->Value->Sem Value}(hf:∀v u s2 x y H2,aT X af σ H2 s2->bT x v->bT y u->R x y H2->wpAny (model X.prog X.w) X.A (f v u) Q X.xe s2):
  wpAny (model X.prog X.w) X.A (eval a X.env) (fun v s₁=>wpAny (model X.prog X.w) X.A (eval b X.env) (fun u s₂=>wpAny (model X.prog X.w) X.A (f v u) Q X.xe s₂) X.xe s₁) X.xe s:=by
 refine cV (ha af s σ H _ I h) fun v s1 ⟨x,H1,I1,r1,q1⟩=>?_;refine cV (hb af s1 σ H1 _ I1 q1) fun u s2 ⟨y,H2,I2,r2,q2⟩=>?_;exact hf v u s2 x y H2 I2 r1 r2 q2
theorem bg{op:Operator}{r:R2}(ho:k7 X (binaryOp op) r)(ha:PE X a ta)(hb:PE X b tb):PE X (.BinOp a op b pos) (dW r ta tb):=by
 intro af s σ H Q I h;exact wpAny_BinOp (Ki ha hb I h fun v u s2 x y H2 I2 rx ry q=>ho af s2 σ H2 x y v u Q I2 rx ry q)
theorem Rk{f:Value->Value->Sem Value}{C:Int->Int->Prop}{g:Int->Int->Int}(rule:∀ (i j:Int) (t u:Tok) (s:Shared) (Q:Value->Shared->Prop) (E:Value->Shared->Prop),C i j->Q (.int (g i j) s.toks) { s with toks:=s.toks+1 }->wpAny (model X.prog X.w) X.A (f (.int i t) (.int j u)) Q E s):
  k7 X f (rI C fun i j=>.int (g i j)):=by
 intro af s σ H x y v u Q I rx ry h;obtain⟨i,j,rfl,rfl,hc,q⟩:=h;obtain⟨t,rfl⟩:=rx;obtain⟨t',rfl⟩:=ry;exact rule i j t t' s _ _ hc ⟨.int (g i j),H,I.tok _,⟨_,rfl⟩,q⟩
theorem NQ{f:Value->Value->Sem Value}{g:Int->Int->Int}(rule:∀ (i j:Int) (t u:Tok) (s:Shared) (Q:Value->Shared->Prop) (E:Value->Shared->Prop),Q (.int (g i j) s.toks) { s with toks:=s.toks+1 }->wpAny (model X.prog X.w) X.A (f (.int i t) (.int j u)) Q E s):
  k7 X f (rn fun i j=>.int (g i j)):=by
 intro af s σ H x y v u Q I rx ry h;obtain⟨i,j,rfl,rfl,q⟩:=h;obtain⟨t,rfl⟩:=rx;obtain⟨t',rfl⟩:=ry;exact rule i j t t' s _ _ ⟨.int (g i j),H,I.tok _,⟨_,rfl⟩,q⟩
theorem F5{f:Value->Value->Sem Value}{g:Int->Int->Bool}(rule:∀ (i j:Int) (t u:Tok) (s:Shared) (Q:Value->Shared->Prop) (E:Value->Shared->Prop),Q (.bool (g i j)) s->wpAny (model X.prog X.w) X.A (f (.int i t) (.int j u)) Q E s):
  k7 X f (rn fun i j=>.bl (g i j)):=by
 intro af s σ H x y v u Q I rx ry h;obtain⟨i,j,rfl,rfl,q⟩:=h;obtain⟨t,rfl⟩:=rx;obtain⟨t',rfl⟩:=ry;exact rule i j t t' s _ _ ⟨.bl (g i j),H,I,rfl,q⟩
def Kj(i j:Int):Prop:=0<j/\j<1073741824
def SC(i j:Int):Prop:=0<=j/\j<=1000000/\i.natAbs<2 ^ 64
def F6(i j:Int):Prop:=(-(2 ^ 64)<i/\i<2 ^ 64)\/(-(2 ^ 64)<j/\j<2 ^ 64)
theorem F6.ok(h:F6 i j):IntMulOk i j:=by
 rcases h with ⟨h1,h2⟩|⟨h1,h2⟩
 .exact .of_left (intBits_le_64 h1 h2)
 .exact .of_right (intBits_le_64 h1 h2)
theorem di:k7 X (binaryOp .Add) (rn fun i j=>.int (i+j)):=NQ fun _ _ _ _ _ _ _ q=>add_int q
theorem k8:k7 X (binaryOp .Sub) (rn fun i j=>.int (i-j)):=NQ fun _ _ _ _ _ _ _ q=>sub_int q
theorem iW:k7 X (binaryOp .Mult) (rI F6 fun i j=>.int (i*j)):=Rk fun _ _ _ _ _ _ _ hc q=>mul_int q hc.ok
theorem um:k7 X (binaryOp .FloorDiv) (rI Kj fun i j=>.int (i / j)):=Rk fun i j _ _ _ _ _ hc q=>by
 have h1:(0:Int)<j:=hc.1;have h2:j<1073741824:=hc.2;exact floordiv_int (by lia) (by rw[CK i (by lia)];exact q) (.inl (PyProof.noPylong_small (by lia)))
theorem gX:k7 X (binaryOp .Mod) (rI (fun _ j=>0<j) fun i j=>.int (i % j)):=Rk fun i j _ _ _ _ _ hc q=>by
 have h1:(0:Int)<j:=hc;exact mod_int' (by lia) (by rw[xm i (by lia)];exact q)
theorem Kk:k7 X (binaryOp .Pow) (rI SC fun i j=>.int (i ^ j.toNat)):=Rk fun _ _ _ _ _ _ _ hc q=>pow_int_small hc.1 hc.2.1 hc.2.2 q
end
def F7:V->V->Bool
 |.b_,.b_=>true|.b_,.int _=>true|.int _,.b_=>true|.b_,.bl _=>true|.bl _,.b_=>true|.b_,.str _=>true|.str _,.b_=>true
 |.int _,.int _=>true|.bl _,.bl _=>true|.str _,.str _=>true|.Cm _,.Cm _=>true
 |.int _,.str _=>true|.str _,.int _=>true|.bl _,.str _=>true|.str _,.bl _=>true
 |_,_=>false
def MY:R2:=fun x y H Q=>F7 x y=true/\Q (.bl (decide (x=y))) H
def VT:R2:=fun x y H Q=>F7 x y=true/\Q (.bl (!decide (x=y))) H
theorem zW:decide (V.int i=V.int j)=(i==j):=by
 rw[ic];simp
theorem C4:decide (V.bl i=V.bl j)=(i==j):=by
 rw[ic];simp
theorem zX:decide (V.str i=V.str j)=(i==j):=by
 rw[ic];simp
theorem zY:decide (V.Cm i=V.Cm j)=(i.toList==j.toList):=by
 rw[ic];cases i;cases j;simp
section
variable {X:Cx} {a b c:Expr} {ta tb tc:TE} {pos:Pos}
theorem bN(I:aT X af σ H s)(q:Q (.bl k) H)(e:k=k'):EP X af σ Q (.bool k') s:=by
 subst e;exact⟨.bl k,H,I,rfl,q⟩
theorem eJ:k7 X (compareOp .Eq) MY:=by
 intro af s σ H x y v u Q I rx ry h;obtain⟨hs,q⟩:=h;cases x with
 |b_=>
  cases rx;cases y with
  |b_=>cases ry;exact PySem.EqNone.eq_none_none (bN I q (by simp))
  |bl j=>cases ry;exact PySem.EqNone.eq_none_bool (bN I q (by simp))
  |int j=>obtain⟨t',rfl⟩:=ry;exact PySem.EqNone.eq_none_int (bN I q (by simp))
  |str j=>obtain⟨t',rfl⟩:=ry;exact PySem.EqNone.eq_none_str (bN I q (by simp))
  |_=>exact absurd (show false=true from hs) cp
 |bl i=>
  cases rx;cases y with
  |b_=>cases ry;exact PySem.EqNone.eq_bool_none (bN I q (by simp))
  |bl j=>cases ry;exact eq_bool (bN I q C4)
  |str j=>obtain⟨t',rfl⟩:=ry;exact PySem.EqMixed.eq_bool_str (bN I q (by simp))
  |_=>exact absurd (show false=true from hs) cp
 |int i=>
  obtain⟨t,rfl⟩:=rx;cases y with
  |b_=>cases ry;exact PySem.EqNone.eq_int_none (bN I q (by simp))
  |int j=>obtain⟨t',rfl⟩:=ry;exact eq_int (bN I q zW)
  |str j=>obtain⟨t',rfl⟩:=ry;exact PySem.EqMixed.eq_int_str (bN I q (by simp))
  |_=>exact absurd (show false=true from hs) cp
 |str i=>
  obtain⟨t,rfl⟩:=rx;cases y with
  |b_=>cases ry;exact PySem.EqNone.eq_str_none (bN I q (by simp))
  |bl j=>cases ry;exact PySem.EqMixed.eq_str_bool (bN I q (by simp))
  |int j=>obtain⟨t',rfl⟩:=ry;exact PySem.EqMixed.eq_str_int (bN I q (by simp))
  |str j=>obtain⟨t',rfl⟩:=ry;exact eq_str (bN I q zX)
  |_=>exact absurd (show false=true from hs) cp
 |Cm i=>
  obtain⟨t,rfl⟩:=rx;cases y with
  |Cm j=>obtain⟨t',rfl⟩:=ry;exact PySem.W.eq_bytes (bN I q zY)
  |_=>exact absurd (show false=true from hs) cp
 |_=>cases y <;> exact absurd (show false=true from hs) cp
theorem rV:k7 X (compareOp .NotEq) VT:=by
 intro af s σ H x y v u Q I rx ry h;obtain⟨hs,q⟩:=h;cases x with
 |b_=>
  cases rx;cases y with
  |b_=>cases ry;exact PySem.EqNone.ne_none_none (bN I q (by simp))
  |bl j=>cases ry;exact PySem.EqNone.ne_none_bool (bN I q (by simp))
  |int j=>obtain⟨t',rfl⟩:=ry;exact PySem.EqNone.ne_none_int (bN I q (by simp))
  |str j=>obtain⟨t',rfl⟩:=ry;exact PySem.EqNone.ne_none_str (bN I q (by simp))
  |_=>exact absurd (show false=true from hs) cp
 |bl i=>
  cases rx;cases y with
  |b_=>cases ry;exact PySem.EqNone.ne_bool_none (bN I q (by simp))
  |bl j=>cases ry;exact ne_bool (bN I q (congrArg not C4))
  |str j=>obtain⟨t',rfl⟩:=ry;exact PySem.EqMixed.ne_bool_str (bN I q (by simp))
  |_=>exact absurd (show false=true from hs) cp
 |int i=>
  obtain⟨t,rfl⟩:=rx;cases y with
  |b_=>cases ry;exact PySem.EqNone.ne_int_none (bN I q (by simp))
  |int j=>obtain⟨t',rfl⟩:=ry;exact ne_int (bN I q (congrArg not zW))
  |str j=>obtain⟨t',rfl⟩:=ry;exact PySem.EqMixed.ne_int_str (bN I q (by simp))
  |_=>exact absurd (show false=true from hs) cp
 |str i=>
  obtain⟨t,rfl⟩:=rx;cases y with
  |b_=>cases ry;exact PySem.EqNone.ne_str_none (bN I q (by simp))
  |bl j=>cases ry;exact PySem.EqMixed.ne_str_bool (bN I q (by simp))
  |int j=>obtain⟨t',rfl⟩:=ry;exact PySem.EqMixed.ne_str_int (bN I q (by simp))
  |str j=>obtain⟨t',rfl⟩:=ry;exact ne_str (bN I q (congrArg not zX))
  |_=>exact absurd (show false=true from hs) cp
 |Cm i=>
  obtain⟨t,rfl⟩:=rx;cases y with
  |Cm j=>obtain⟨t',rfl⟩:=ry;exact PySem.W.ne_bytes (bN I q (congrArg not zY))
  |_=>exact absurd (show false=true from hs) cp
 |_=>cases y <;> exact absurd (show false=true from hs) cp
theorem jh:k7 X (compareOp .Lt) (rn fun i j=>.bl (decide (i<j))):=F5 fun _ _ _ _ _ _ _ q=>lt_int q
theorem Jf:k7 X (compareOp .LtE) (rn fun i j=>.bl (decide (i<=j))):=F5 fun _ _ _ _ _ _ _ q=>le_int q
theorem vP:k7 X (compareOp .Gt) (rn fun i j=>.bl (decide (j<i))):=F5 fun _ _ _ _ _ _ _ q=>gt_int q
theorem Jg:k7 X (compareOp .GtE) (rn fun i j=>.bl (decide (j<=i))):=F5 fun _ _ _ _ _ _ _ q=>ge_int q
theorem yr:k7 X (compareOp .Is) (fun x y H Q=>y=.b_/\Q (.bl (decide (x=.b_))) H):=by
 intro af s σ H x y v u Q I rx ry h;obtain⟨rfl,q⟩:=h;cases ry;refine is_none_gen (bN I q ?_);cases x <;> first
  |(cases rx;rfl)
  |(obtain⟨t,rfl⟩:=rx;rfl)
theorem lO:k7 X (compareOp .IsNot) (fun x y H Q=>y=.b_/\Q (.bl (!decide (x=.b_))) H):=by
 intro af s σ H x y v u Q I rx ry h;obtain⟨rfl,q⟩:=h;cases ry;refine isnot_none_gen (bN I q ?_);cases x <;> first
  |(cases rx;rfl)
  |(obtain⟨t,rfl⟩:=rx;rfl)
theorem aP(b:Expr)(h:op≠.In:=by decide)(h2:op≠.NotIn:=by decide):behindInMarks op b=false:=by
 have e1:(op==CmpOp.In)=false:=by cases op <;> first|rfl|exact absurd rfl h
 have e2:(op==CmpOp.NotIn)=false:=by cases op <;> first|rfl|exact absurd rfl h2
 cases b <;> simp[behindInMarks,e1,e2]
theorem ie(ho:k7 X (compareOp op) r)(ha:PE X a ta)(hb:PE X b tb)(hm:behindInMarks op b=false):PE X (.Compare a [op] [b] pos) (dW r ta tb):=by
 intro af s σ H Q I h;exact wpAny_Compare1 (Ki ha hb I h fun v u s2 x y H2 I2 rx ry q=>ho af s2 σ H2 x y v u Q I2 rx ry q) hm
def eK(t:TE):TT:=fun σ H Q=>t σ H fun x H'=>∃k,x=.bl k/\Q k H'
theorem aI(ho:k7 X (compareOp op) r)(ha:PE X a ta)(hb:PE X b tb)(hm:behindInMarks op b=false):PT X (.Compare a [op] [b] pos) (eK (dW r ta tb)):=by
 intro af s σ H Q I h;refine wpAny_isTrue_Compare1 (cV (ha af s σ H _ I h) fun v s1 ⟨x,H1,I1,r1,q1⟩=>cV (hb af s1 σ H1 _ I1 q1) fun u s2 ⟨y,H2,I2,r2,q2⟩=>
  cV (ho af s2 σ H2 x y v u _ I2 r1 r2 q2) fun c s3 ⟨z,H3,I3,r3,k,e,q3⟩=>?_) hm
 subst e;cases r3;exact mV ⟨H3,I3,q3⟩
def Kl(r r':R2)(ta tb tc:TE):TE:=fun σ H Q=>ta σ H fun x H1=>tb σ H1 fun y H2=>r x y H2 fun z H3=>∃k,z=.bl k/\
 (if k=true then tc σ H3 fun w' H4=>r' y w' H4 Q else Q (.bl false) H3)
theorem C5(ho:k7 X (compareOp op) r)(CW:k7 X (compareOp VU) r')(ha:PE X a ta)(hb:PE X b tb)(hc:PE X c tc)(hm:lastMarks [op,VU] [b,c]=false:=by with_unfolding_all rfl):PE X (.Compare a [op,VU] [b,c] pos) (Kl r r' ta tb tc):=by
 intro af s σ H Q I h;refine Compare_chain (cV (ha af s σ H _ I h) fun v s1 ⟨x,H1,I1,r1,q1⟩=>chain_link (cV (hb af s1 σ H1 _ I1 q1) fun u s2 ⟨y,H2,I2,r2,q2⟩=>
  cV (ho af s2 σ H2 x y v u _ I2 r1 r2 q2) fun d s3 ⟨z,H3,I3,r3,k,e,q3⟩=>?_)) hm
 subst e;cases r3;refine mV ?_;cases k with
 |false=>exact ite_ff ⟨.bl false,H3,I3,rfl,q3⟩
 |true=>exact ite_tt (chain_last (cV (hc af s3 σ H3 _ I3 q3) fun w' s4 ⟨z',H4,I4,r4,q4⟩=>CW af s4 σ H4 y z' u w' Q I4 r2 r4 q4))
theorem uo:(sizeLine:Nat)<2 ^ 63:=by rw[jC];decide
theorem zZ(r:aZ [x] us):∃u,us=[u]/\bT x u:=by
 cases r with
 |cons r1 r2=>cases r2;exact⟨_,rfl,r1⟩
theorem C6(r:aZ [x,y] us):∃u w',us=[u,w']/\bT x u/\bT y w':=by
 cases r with
 |cons r1 r2=>
  cases r2 with
  |cons r3 r4=>cases r4;exact⟨_,_,rfl,r1,r3⟩
theorem C7:eX X (.builtin "abs") (fun xs H Q=>∃i,xs=[.int i]/\Q (.int (if i<0 then -i else i)) H):=by
 intro af s σ H xs us Q I r h;obtain⟨i,rfl,q⟩:=h;obtain⟨u,rfl,t,rfl⟩:=zZ r;exact call_abs_int fun u tk=>⟨.int (if i<0 then -i else i),H,I.tok _,⟨_,rfl⟩,q⟩
theorem nr(hc:X.calm=true):eX X (.builtin "max") (fun xs H Q=>∃i j,xs=[.int i,.int j]/\Q (.int (if j > i then j else i)) H):=by
 intro af s σ H xs us Q I r h;obtain⟨i,j,rfl,q⟩:=h;obtain⟨u,w',rfl,⟨t,rfl⟩,⟨t',rfl⟩⟩:=C6 r;refine max_two_ints (I.ok.hd hc) fun h' tk k=>⟨_,H,I.kept k,?_,q⟩
 by_cases hj:j > i
 .rw[am hj,am hj];exact⟨_,rfl⟩
 .rw[aA hj,aA hj];exact⟨_,rfl⟩
theorem rW(hc:X.calm=true):eX X (.builtin "min") (fun xs H Q=>∃i j,xs=[.int i,.int j]/\Q (.int (if j<i then j else i)) H):=by
 intro af s σ H xs us Q I r h;obtain⟨i,j,rfl,q⟩:=h;obtain⟨u,w',rfl,⟨t,rfl⟩,⟨t',rfl⟩⟩:=C6 r;refine min_two_ints (I.ok.hd hc) fun h' tk k=>⟨_,H,I.kept k,?_,q⟩
 by_cases hj:j<i
 .rw[am hj,am hj];exact⟨_,rfl⟩
 .rw[aA hj,aA hj];exact⟨_,rfl⟩
theorem vQ:eX X (.builtin "divmod") (fun xs H Q=>∃i j,xs=[.int i,.int j]/\Kj i j/\∀p,H p=none->Q (.ref p) (upd H p (.tup [.int (i / j),.int (i % j)]))):=by
 intro af s σ H xs us Q I r h;obtain⟨i,j,rfl,⟨h1,h2⟩,q⟩:=h;obtain⟨u,w',rfl,⟨t,rfl⟩,⟨t',rfl⟩⟩:=C6 r;refine divmod_int (by lia) ?_ (.inl (PyProof.noPylong_small (by lia)));rw[CK i (by lia),xm i (by lia)];have hn:H s.heap.objs.size=none:=I.cL.fresh (aU _);refine⟨.ref s.heap.objs.size,_,?_,rfl,q _ hn⟩;refine I.laid (fun b o e=>bV _ e) (aU _) ⟨by simp only[dH,List.length_nil];rw[jC];decide,[.int (i / j) s.toks,.int (i % j) (s.toks+1)],.cons ⟨_,rfl⟩ (.cons ⟨_,rfl⟩ .nil),?_⟩;exact⟨_,cD s.heap rfl,rfl,0,rfl,rfl⟩
end
structure yt(h:Heap)(x dx C:Addr)(mA:Str->Option Value):Prop where
 obj:h.get? x=some (PySem.W.instObj C dx)
 ns:h.Ns1 dx mA
 ne:dx≠x
theorem A_{h:Heap}{dx:Addr}{mA:Str->Option Value}(n:h.Ns1 dx mA):∃od,h.get? dx=some od/\∀name,PySem.W.lookIn name od=some (mA name):=by
 obtain⟨o,es,ep,ho,hd,hk,_,hm⟩:=n;refine⟨o,ho,fun name=>?_⟩;have e:=hm name;unfold nsFind findBy at e;rw[<-Array.find?_toList] at e;unfold PySem.W.lookIn;rw[hd];dsimp only;split
 .rename_i y q;rw[q] at e;exact congrArg some e
 .rename_i q;rw[q] at e;have a:es.toList.any (·.refKey)=false:=by
   rw[qd];intro y hy;obtain⟨z,t,rp⟩:=hk y (Array.mem_toList_iff.mp hy);simp[DictEntry.refKey,rp]
  have a':¬ es.toList.any (·.refKey)=true:=by rw[a];exact cp
  rw[aA a'];exact congrArg some e
theorem yt.look(I:yt h x dx C mA):∃od,PySem.W.InstAt h x (PySem.W.instObj C dx) C (some od)/\∀name,PySem.W.lookIn name od=some (mA name):=
 let ⟨od,ho,hl⟩:=A_ I.ns
 ⟨od,⟨I.obj,rfl,rfl,ho⟩,hl⟩
section
variable {prog:Program} {w:World} {A:Around} {E:Value->Shared->Prop} {s:Shared} {K:PySem.W.Frag} {x dx C f:Addr} {mA:Str->Option Value} {name:Str} {v:Value}
theorem F8(X:K.In s.heap)(I:yt s.heap x dx C mA)(hg:PySem.W.plainGet K C name=true)(hh:PySem.W.hasDictIn K C=true)(ha:PySem.W.findIn K (.ref C) name=some none)(hv:mA name=some v)(Ba:PySem.W.handedIn v=true)(h:Q v { s with toks:=s.toks+1 }):
  wpAny (model prog w) A (getAttr (.ref x) name F9) Q E s:=by
 obtain⟨od,J,hl⟩:=I.look;exact PySem.W.get_value X J (xI hg).1 (PySem.W.findObj_own hh ha rfl (by rw[hl,hv])) Ba h
theorem C8(X:K.In s.heap)(I:yt s.heap x dx C mA)(hg:PySem.W.plainGet K C name=true)(hf:PySem.W.findIn K (.ref C) name=some (some (.ref f)))(ht:PySem.W.isFn K (.ref f)=true)(hv:mA name=none)(h:Q (.ref f,[.ref x]) s):
  wpAny (model prog w) A (getMethod (.ref x) name pl) Q E s:=by
 obtain⟨od,J,hl⟩:=I.look;exact PySem.W.method_fn X J (xI hg).1 (xI hg).2 hf (fc.mp ht) (by show (PySem.W.lookIn name od).map (·.isSome)=some false;rw[hl,hv];rfl) h
theorem F_(X:K.In s.heap)(I:yt s.heap x dx C mA)(hs:PySem.W.findIn K (.ref C) "__setattr__"=some (some (.builtin "object.__setattr__")))(hp:PySem.W.plainOver K C=true)(ht:PySem.W.takerIn K C name=some none)(hh:PySem.W.hasDictIn K C=true)(hw:PySem.Within mA ns)(ku:ns.length<=sizeLine)(h:∀h',yt h' x dx C (fun y=>if y=name then some v else mA y)->Heap.SameBut dx s.heap h'->Q () { s with heap:=h',toks:=s.toks+2 }):
  wpAny (model prog w) A (setAttr (.ref x) name v) Q E s:=by
 obtain⟨od,J,hl⟩:=I.look;refine PySem.W.set_plain X J hs (PySem.W.osa_open (s:={ s with toks:=s.toks+1 }) (r:=none) X J hp ht fun b=>?_);obtain⟨cd,hc,F3⟩:=PySem.W.any_some hh;have hx:s.heap.get? x=some ⟨.ref C,some dx,.plain,#[]⟩:=I.obj;refine aw (wpAny_pure (aw (aw (wpAny_loadPart hx (aw (PySem.W.Looks.here (s:={ s with toks:=s.toks+1 }) (PySem.W.looks_clsIn X hc) ?_))))));rw[F3];refine wpAny_pure (a:=some dx) (aw (wpAny_pure (aw ?_)));refine wpAny_nsSet1 (s:={ s with toks:=s.toks+1 }) I.ns fun h' MZ qt=>?_;obtain⟨oD,esD,epD,X3,NS,Ga⟩:=MZ.count (PySem.Within.cons name v hw);refine aw (wpAny_lookBehind X3 (by rw[NS];exact pastItsLine_dict (bw Ga (by rw[dH];lia))) ?_);exact wpAny_pure (h _ ⟨(qt.2 _ (gU I.ne)).trans I.obj,MZ,I.ne⟩ qt)
theorem C9(X:K.In s.heap)(hm:PySem.W.makesIn K C=true)(hi:PySem.W.findIn K (.ref C) "__init__"=some (some (.ref f)))(hf:PySem.W.typeIn K (.ref f)=some (.type "function"))(h:codeAny (model prog w) (A.under (.builtin "type.__call__" ⟨.ref C::vs,kw⟩)) (.call (.ref f) ⟨.ref (s.heap.objs.size+1)::vs,kw⟩) (PySem.W.InitBack (s.heap.objs.size+1) R)
   { s with heap:=(s.heap.push PySem.W.emptyDict).push (PySem.W.instObj C s.heap.objs.size) }):
  codeAny (model prog w) A (.call (.ref C) ⟨vs,kw⟩) R s:=by
 obtain⟨hh,g,d,t,os⟩:=s;exact PySem.W.make_core (PySem.W.makes_of X hm) (PySem.W.looks_findIn X hi) (fun self=>PySem.W.bind_fn X self hf) (.inl rfl) h
end
def dA(f:Str)(v:V):List (Str×V)->List (Str×V)
 |[]=>[(f,v)]
 |(g,x)::r=>if g=f then (g,v)::r else (g,x)::dA f v r
theorem bB(f g:Str)(v:V):∀fs:List (Str×V),(dA f v fs).lookup g=if g=f then some v else fs.lookup g
 |[]=>by
  show List.lookup g [(f,v)]=_;by_cases h:g=f
  .have hb:(g==f)=true:=fc.mpr h;simp only[List.lookup,hb,am h]
  .have hb:(g==f)=false:=ou.mpr h;simp only[List.lookup,hb,aA h]
 |(k,x)::r=>by
  have ih:=bB f g v r;rw[show dA f v ((k,x)::r)=(if k=f then (k,v)::r else (k,x)::dA f v r) from rfl];by_cases hk:k=f
  .rw[am hk];by_cases h:g=k
   .have hb:(g==k)=true:=fc.mpr h;simp only[List.lookup,hb,am (h.trans hk)]
   .have hb:(g==k)=false:=ou.mpr h;simp only[List.lookup,hb,aA (fun e:g=f=>h (e.trans hk.symm))]
  .rw[aA hk];by_cases h:g=k
   .have hb:(g==k)=true:=fc.mpr h;simp only[List.lookup,hb,aA (fun e:g=f=>hk (h.symm.trans e))]
   .have hb:(g==k)=false:=ou.mpr h;simp only[List.lookup,hb];exact ih
theorem nu(f:Str)(v:V):∀fs:List (Str×V),f∈(dA f v fs).map (·.1)/\∀g,g∈fs.map (·.1)->g∈(dA f v fs).map (·.1)
 |[]=>⟨by simp[dA],fun g h=>by simp at h⟩
 |(k,x)::r=>by
  obtain⟨i1,i2⟩:=nu f v r;rw[show dA f v ((k,x)::r)=(if k=f then (k,v)::r else (k,x)::dA f v r) from rfl];by_cases hk:k=f
  .rw[am hk];subst hk;exact⟨by simp,fun g h=>by simpa using h⟩
  .rw[aA hk];refine⟨?_,fun g h=>?_⟩
   .rw[eE];exact cU _ i1
   .rw[eE] at h |-;rcases bX.mp h with e|e
    .exact bX.mpr (.inl e)
    .exact cU _ (i2 g e)
theorem dX(f:Str)(v:V):∀fs:List (Str×V),(dA f v fs).length<=fs.length+1
 |[]=>by simp[dA]
 |(k,x)::r=>by
  have ih:=dX f v r;rw[show dA f v ((k,x)::r)=(if k=f then (k,v)::r else (k,x)::dA f v r) from rfl];by_cases hk:k=f
  .rw[am hk,dH,dH];lia
  .rw[aA hk,dH,dH];lia
theorem lJ.some_of(r:lJ (some v) o):∃u,o=some u/\bT v u:=by
 cases o with
 |none=>exact(show False from r).elim
 |some u=>exact⟨u,rfl,r⟩
theorem lJ.none_of(r:lJ none o):o=none:=by
 cases o with
 |none=>rfl
 |some u=>exact(show False from r).elim
theorem Bb(r:bT v u):PySem.W.handedIn u=true:=by
 cases v with
 |b_=>cases (show u=Value.none from r);rfl
 |bl b=>cases (show u=Value.bool b from r);rfl
 |int i=>obtain⟨t,e⟩:=(show ∃t,u=Value.int i t from r);cases e;rfl
 |str x=>obtain⟨t,e⟩:=(show ∃t,u=Value.str x t from r);cases e;rfl
 |Cm b=>obtain⟨t,e⟩:=(show ∃t,u=Value.bytes b t from r);cases e;rfl
 |J1 b=>obtain⟨t,e⟩:=(show ∃t,u=Value.float b t from r);cases e;rfl
 |ref a=>cases (show u=Value.ref a from r);rfl
 |ty n=>cases (show u=Value.type n from r);rfl
section
variable {P:Program} {w:World} {H H':Hp} {h h':Heap} {a C dx:Addr} {fs XZ:List (Str×V)}
theorem pA(cL:k5 P w H h)(e:H a=some (.ins C dx fs)):∃mA,yt h a dx C mA/\(∀f,lJ (fs.lookup f) (mA f))/\PySem.Within mA (fs.map (·.1))/\fs.length<=1000/\H dx=some (.own a):=by
 obtain⟨d,z,ne,ob,mA,n,r,q⟩:=(show cz P w H h a (.ins C dx fs) from cL a _ e)
 exact⟨mA,⟨ob,n,ne⟩,r,q,z,d⟩
end
structure FQ(K:PySem.W.Frag)(C:Addr):Prop where
 pg:PySem.W.plainGet K C Str.empty=true
 hd:PySem.W.hasDictIn K C=true
 po:PySem.W.plainOver K C=true
 sa:PySem.W.findIn K (.ref C) "__setattr__"=some (some (.builtin "object.__setattr__"))
theorem FQ.get{K:PySem.W.Frag}{C:Addr}(c:FQ K C)(f:Str):PySem.W.plainGet K C f=true:=c.pg
def ix(K:PySem.W.Frag)(C:Addr)(f:Str):Prop:=PySem.W.findIn K (.ref C) f=some none
theorem ix.NU{K:PySem.W.Frag}{C:Addr}{f:Str}(n:ix K C f):PySem.W.takerIn K C f=some none:=by
 unfold PySem.W.takerIn;rw[show PySem.W.findIn K (.ref C) f=some none from n];rfl
structure Km(K:PySem.W.Frag)(C:Addr)(m:Str)(f:Addr):Prop where
 at_:PySem.W.findIn K (.ref C) m=some (some (.ref f))
 fn:PySem.W.isFn K (.ref f)=true
 kp:PySem.W.keepIn K (.ref f)=true
section
variable {X:Cx} {af:List (Addr×Obj)} {σ:St} {H:Hp} {s:Shared} {a C dx:Addr} {fs:List (Str×V)} {f:Str} {v:V} {A:Around} {E:Value->Shared->Prop}
theorem yu(I:aT X af σ H s)(e:H a=some (.ins C dx fs))(c:FQ X.K C)(n:ix X.K C f)(l:fs.lookup f=some v)(h:∀u s',aT X af σ H s'->bT v u->Q u s'):wpAny (model X.prog X.w) A (getAttr (.ref a) f b) Q E s:=by
 obtain⟨mA,O,r,_,_,_⟩:=pA I.cL e;obtain⟨u,hu,ru⟩:=lJ.some_of (v:=v) (o:=mA f) (by rw[<-l];exact r f);exact F8 I.oT O (c.get f) c.hd n hu (Bb ru) (h u _ (I.tok _) ru)
theorem yv(I:aT X af σ H s)(e:H a=some (.ins C dx fs))(c:FQ X.K C)(k:Km X.K C m g)(l:fs.lookup m=none)(h:Q (.ref g,[.ref a]) s):wpAny (model X.prog X.w) A (getMethod (.ref a) m pl) Q E s:=by
 obtain⟨mA,O,r,_,_,_⟩:=pA I.cL e;have hn:mA m=none:=lJ.none_of (by rw[<-l];exact r m);exact C8 I.oT O (c.get m) k.at_ k.fn hn h
theorem yw(I:aT X af σ H s)(e:H a=some (.ins C dx fs))(c:FQ X.K C)(n:ix X.K C f)(hl:fs.length<1000)(ry:bT y u)(h:∀s',aT X af σ (upd H a (.ins C dx (dA f y fs))) s'->Q () s'):wpAny (model X.prog X.w) A (setAttr (.ref a) f u) Q E s:=by
 obtain⟨mA,O,r,wi,_,ho⟩:=pA I.cL e;have hz:(fs.map (·.1)).length<=sizeLine:=by rw[aO,jC];lia
 refine F_ I.oT O c.sa c.po n.NU c.hd wi hz fun h' O' sb=>h _ ?_;have hd:∃o,h'.get? dx=some o:=let ⟨o,_,_,e',_⟩:=O'.ns;⟨o,e'⟩;refine I.write (x:=a) (e:=dx) (by rw[e];exact True.intro) (.inr ho) (fun b q hb z=>(sb.2 b hb).trans z) hd ?_;refine⟨by rw[aj O.ne];exact ho,?_,O.ne,O'.obj,_,O'.ns,fun g=>?_,fun g hg=>?_⟩
 .have:=dX f y fs;lia
 .show lJ ((dA f y fs).lookup g) (if g=f then some u else mA g);rw[bB];by_cases q:g=f
  .rw[am q,am q];exact ry
  .rw[aA q,aA q];exact r g
 .by_cases q:g=f
  .rw[q];exact(nu f y fs).1
  .refine(nu f y fs).2 g (wi g fun z=>hg ?_);show (if g=f then some u else mA g)=none;rw[aA q];exact z
theorem aT.made(I:aT X af σ H s):aT X af σ (upd (upd H s.heap.objs.size (.own (s.heap.objs.size+1))) (s.heap.objs.size+1) (.ins C s.heap.objs.size []))
  { s with heap:=(s.heap.push PySem.W.emptyDict).push (PySem.W.instObj C s.heap.objs.size) }:=by
 have e1:(s.heap.push PySem.W.emptyDict).get? s.heap.objs.size=some PySem.W.emptyDict:=cD s.heap rfl;have e2:((s.heap.push PySem.W.emptyDict).push (PySem.W.instObj C s.heap.objs.size)).get? (s.heap.objs.size+1)=some (PySem.W.instObj C s.heap.objs.size):=by
  have:=cD (s.heap.push PySem.W.emptyDict) (o:=PySem.W.instObj C s.heap.objs.size) rfl;rwa [jg] at this
 have e3:(s.heap.push PySem.W.emptyDict).Ns s.heap.objs.size (fun _=>none):=⟨PySem.W.emptyDict,#[],_,e1,rfl,(fun e he=>absurd he (by simp)),fun _=>rfl⟩
 have I1:=I.laid (a:=s.heap.objs.size) (o:=.own (s.heap.objs.size+1)) (h':=s.heap.push PySem.W.emptyDict) (t':=s.toks) (fun b u q=>bV _ q) (aU _) ⟨_,e1⟩;refine I1.laid (a:=s.heap.objs.size+1) (o:=.ins C s.heap.objs.size []) (t':=s.toks) (fun b u q=>bV _ q) (qk (jg _ _)) ?_;have ne:s.heap.objs.size≠s.heap.objs.size+1:=ba (iN _);refine⟨by rw[aj ne,ab],dh _,ne,e2,fun _=>none,(Heap.Ns1.of_empty e3).at fun o q=>bV _ q,fun _=>True.intro,fun y hy=>absurd rfl hy⟩
theorem Gb(hb:attributeBase e f env (eval e env)=eval e env)(h:wpAny (model prog w) A (eval e env) (fun o s₁=>wpAny (model prog w) A (getAttr o f true) Q E s₁) E s):wpAny (model prog w) A (eval (.Attribute e f pos) env) Q E s:=
 Attribute_any_ h (by rw[arm_eval_Attribute,hb])
end
def Ko(K:PySem.W.Frag)(ta:TE)(f:Str):TE:=fun σ H Q=>ta σ H fun x H1=>∃a C dx fs v,x=.ref a/\H1 a=some (.ins C dx fs)/\FQ K C/\ix K C f/\fs.lookup f=some v/\Q v H1
def SE(K:PySem.W.Frag)(ta tv:TE)(f:Str):TS:=fun D σ H=>tv σ H fun y H1=>ta σ H1 fun x H2=>∃a C dx fs,x=.ref a/\H2 a=some (.ins C dx fs)/\FQ K C/\ix K C f/\fs.length<1000/\
 D.nx σ (upd H2 a (.ins C dx (dA f y fs)))
section
variable {X:Cx} {o e value:Expr} {f:Str} {pos A5 Kp:Pos} {ta tv:TE}
theorem nw(he:PE X e ta)(hb:attributeBase e f X.env (eval e X.env)=eval e X.env):PE X (.Attribute e f pos) (Ko X.K ta f):=by
 intro af s σ H Q I h;refine Gb hb (cV (he af s σ H _ I h) fun u s1 ⟨x,H1,I1,rx,a,C,dx,fs,v,ex,ea,c,n,l,q⟩=>?_);subst ex;obtain rfl:u=Value.ref a:=rx;exact yu I1 ea c n l fun u' s2 I2 ru=>⟨v,H1,I2,ru,q⟩
theorem uq(ha:PE X o ta)(hv:PE X value tv)(hs:swapsWith value (some (.Attribute o f A5)) pos.line X.env=pure false):PS X (.Assign [.Attribute o f A5] value pos) (SE X.K ta tv f):=by
 intro af s σ H D I h;refine plainObj_wpAny_Assign_Attribute (cV (hv af s σ H _ I h) fun u s1 ⟨y,H1,I1,ry,q⟩=>cV (ha af s1 σ H1 _ I1 q) fun ov s2 ⟨x,H2,I2,rx,a,C,dx,fs,ex,ea,c,n,l,q2⟩=>?_) hs;subst ex;obtain rfl:ov=Value.ref a:=rx;exact yw I2 ea c n l ry fun s3 I3=>⟨σ,_,I3,q2⟩
end
section
variable {X:Cx} {af:List (Addr×Obj)} {σ:St} {H:Hp} {s:Shared} {A:Around} {E:Value->Shared->Prop} {Q:Value->Shared->Prop} {c:Value} {b:Bool}
inductive ny (K:PySem.W.Frag) (H:Hp):V->Value->Prop where
 |b_:ny K H .b_ (.type "NoneType")
 |bl (x:Bool):ny K H (.bl x) (.type "bool")
 |int (i:Int):ny K H (.int i) (.type "int")
 |str (x:Str):ny K H (.str x) (.type "str")
 |J1 (x:UInt64):ny K H (.J1 x) (.type "float")
 |lst {a:Addr} {xs:List V} (e:H a=some (.lst xs)):ny K H (.ref a) (.type "list")
 |ud {a:Addr} {o:Obj} {xs:List V} (e:H a=some (.ud o (.lst xs))):ny K H (.ref a) (.type "list")
 |tup {a:Addr} {xs:List V} (e:H a=some (.tup xs)):ny K H (.ref a) (.type "tuple")
 |dK {a:Addr} {cG:List (gE×V)} (e:H a=some (.dK cG)):ny K H (.ref a) (.type "dict")
 |dT {a:Addr} {cG:List (List gE×V)} (e:H a=some (.dT cG)):ny K H (.ref a) (.type "dict")
 |ins {a C dx:Addr} {fs:List (Str×V)} (e:H a=some (.ins C dx fs)) (cl:FQ K C) (ha:PySem.W.findIn K (.ref C) "__class__"=some (some (.builtin "object.__class__")))
   (hn:PySem.W.specialIn K (.builtin "object.__class__") "__get__"=some (some (.builtin "getset_descriptor.__get__"))) (SF:PySem.W.takesIn K (.builtin "object.__class__")=some true)
   (hm:PySem.W.mroIn K C (.type "object")=some true):ny K H (.ref a) (.ref C)
theorem Bc(I:aT X af σ H s)(rx:bT x u)(ty:ny X.K H x t)(e:PySem.W.kitOne X.K t c=some b)(h:∀tk,Q (.bool b) { s with toks:=tk }):
  wpAny (model X.prog X.w) A (call (.builtin "isinstance") [u,c]) Q E s:=by
 cases ty with
 |b_=>cases (show u=Value.none from rx);exact jd PySem.W.kitx_none I.oT True.intro e (fun z=>nomatch z) h
 |bl y=>cases (show u=Value.bool y from rx);exact jd PySem.W.kitx_bool I.oT True.intro e (fun z=>nomatch z) h
 |int i=>obtain⟨t,q⟩:=(show ∃t,u=Value.int i t from rx);cases q;exact jd PySem.W.kitx_int I.oT True.intro e (fun z=>nomatch z) h
 |str y=>obtain⟨t,q⟩:=(show ∃t,u=Value.str y t from rx);cases q;exact jd PySem.W.kitx_str I.oT True.intro e (fun z=>nomatch z) h
 |J1 y=>obtain⟨t,q⟩:=(show ∃t,u=Value.float y t from rx);cases q;exact jd PySem.W.kitx_float I.oT True.intro e (fun z=>nomatch z) h
 |@lst a xs ea=>
  cases (show u=Value.ref a from rx);obtain⟨_,_,n,_,h1⟩:=(show cz X.prog X.w H s.heap a (.lst xs) from I.cL a _ ea)
  exact jd PySem.W.kitx_list I.oT ⟨_,h1,rfl⟩ e (fun z=>nomatch z) h
 |@ud a ob xs ea=>
  cases (show u=Value.ref a from rx);obtain⟨_,_,_,n,_,h1⟩:=(show cz X.prog X.w H s.heap a (.ud ob (.lst xs)) from I.cL a _ ea)
  exact jd PySem.W.kitx_list I.oT ⟨_,h1,rfl⟩ e (fun z=>nomatch z) h
 |@tup a xs ea=>
  cases (show u=Value.ref a from rx);obtain⟨_,_,_,p⟩:=(show cz X.prog X.w H s.heap a (.tup xs) from I.cL a _ ea)
  obtain⟨o,h1,h2,_⟩:=p;exact jd PySem.W.kitx_tuple I.oT ⟨o,h1,h2⟩ e (fun z=>nomatch z) h
 |@dK a cG ea=>
  cases (show u=Value.ref a from rx);obtain⟨_,_,vs,_,p⟩:=(show cz X.prog X.w H s.heap a (.dK cG) from I.cL a _ ea)
  obtain⟨o,es,ep,h1,h2,_⟩:=p;exact jd PySem.W.kitx_dict I.oT ⟨o,h1,h2.1⟩ e (fun z=>nomatch z) h
 |@dT a cG ea=>
  cases (show u=Value.ref a from rx);obtain⟨_,_,xs,_,o,es,ep,h1,h2,_⟩:=(show cz X.prog X.w H s.heap a (.dT cG) from I.cL a _ ea)
  exact jd PySem.W.kitx_dict I.oT ⟨o,h1,h2.1⟩ e (fun z=>nomatch z) h
 |@ins a C dx fs ea cl ha hn SF hm=>
  cases (show u=Value.ref a from rx);obtain⟨mA,O,_⟩:=pA I.cL ea;obtain⟨od,J,_⟩:=O.look;exact jd (PySem.W.kitx_own (cl.get _) cl.hd ha hn SF hm) I.oT J e (fun z=>nomatch z) h
end
structure dk(k:Nat)(A:Around):Prop where
 hd:A.handled=none
 dp:A.depth+3*k+5<recursionLimit
 un:A.units+16*k+200<cLine
 gd:A.guards=some []
theorem dk.mono(r:dk k A)(h:j<=k):dk j A:=⟨r.hd,by have:=r.dp;lia,by have:=r.un;lia,r.gd⟩
theorem dk.deeper(r:dk (k+1) A)(env:Env):dk k (A.deeper env):=
 ⟨r.hd,by have:=r.dp;show A.depth+1+3*k+5<_;lia,by have:=r.un;show A.units+3+16*k+200<_;lia,r.gd⟩
theorem yx{A:Around}{C:Addr}{us:List Value}{kw:List (Str×Value)}:(A.under (.builtin "type.__call__" ⟨.ref C::us,kw⟩)).depth=A.depth+1:=by
 first|rfl|simp[Around.under,Code.weight,Code.isCreation,Code.isGuard,Code.isCaller,Code.frames,Code.isFrame,guardIds]
theorem yy{A:Around}{C:Addr}{us:List Value}{kw:List (Str×Value)}:(A.under (.builtin "type.__call__" ⟨.ref C::us,kw⟩)).units=A.units+1:=by
 first|rfl|simp[Around.under,Code.cUnits,Code.frames,Code.isFrame]
theorem dk.make(r:dk (k+1) A)(C:Addr)(us:List Value)(kw:List (Str×Value)):dk k (A.under (.builtin "type.__call__" ⟨.ref C::us,kw⟩)):=
 ⟨r.hd,by have:=r.dp;rw[yx];lia,by have:=r.un;rw[yy];lia,r.gd⟩
theorem dk.depth(r:dk k A):A.depth<recursionLimit:=by have:=r.dp;lia
theorem dk.u(r:dk k A)(h:n<=200:=by decide):A.units+n<cLine:=by have:=r.un;lia
def eY:TA:=fun _ H Q=>Q [] H
def br(ta:TE)(tr:TA):TA:=fun σ H Q=>ta σ H fun x H1=>tr σ H1 fun xs H2=>Q (x::xs) H2
section
variable {X:Cx} {e:Expr} {es:List Expr} {te:TE} {t:TA} {pos:Pos}
theorem ae:PA X [] eY:=fun _ _ _ _ H Q I h=>Calls.spliced_nil ⟨[],H,I,.nil,h⟩
theorem aa(ha:PE X e te)(hr:PA X es t)(hs:starEach (e::es) X.env=(false,eval e X.env)::starEach es X.env:=by rfl):PA X (e::es) (br te t):=by
 intro pos af s σ H Q I h;rw[hs];show wpAny _ _ (spliced ((false,eval e X.env)::backTo pos (starEach es X.env))) _ _ s;refine Calls.spliced_cons (cV (ha af s σ H _ I h) fun u s1 ⟨x,H1,I1,r1,q1⟩=>?_);exact cV (hr pos af s1 σ H1 _ I1 q1) fun us s2 ⟨xs,H2,I2,r2,q2⟩=>⟨x::xs,H2,I2,.cons r1 r2,q2⟩
def nA(t:TA):TE:=fun σ H Q=>t σ H fun xs H1=>xs.length<=sizeLine/\∀p,H1 p=none->Q (.ref p) (upd H1 p (.tup xs))
def SG(t:TA):TE:=fun σ H Q=>t σ H fun xs H1=>xs.length<=sizeLine/\∀p,H1 p=none->Q (.ref p) (upd H1 p (.lst xs))
theorem bP{x1}(h:PA X es t):PE X (.Tuple es x1 pos) (nA t):=by
 intro af s σ H Q I hq;refine wpAny_Tuple_spliced (cV (h pos af s σ H _ I hq) fun us s1 ⟨xs,H1,I1,r,z,q⟩=>⟨by rw[<-r.length];exact z,?_⟩);have hf:H1 s1.heap.objs.size=none:=I1.cL.fresh (aU _);refine⟨.ref s1.heap.objs.size,upd H1 s1.heap.objs.size (.tup xs),I1.laid (t':=s1.toks) (fun b u e=>bV _ e) (aU _) ?_,rfl,q _ hf⟩;exact⟨z,us,r,⟨_,cD _ rfl,rfl,_,rfl,rfl⟩⟩
theorem b8(h:PA X es t):PE X (.List es pos) (SG t):=by
 intro af s σ H Q I hq;refine wpAny_List_spliced (cV (h pos af s σ H _ I hq) fun us s1 ⟨xs,H1,I1,r,z,q⟩=>⟨by rw[<-r.length];exact z,?_⟩);have hf:H1 s1.heap.objs.size=none:=I1.cL.fresh (aU _);refine⟨.ref s1.heap.objs.size,upd H1 s1.heap.objs.size (.lst xs),I1.laid (t':=s1.toks) (fun b u e=>bV _ e) (aU _) ?_,rfl,q _ hf⟩;exact⟨z,us,0,r,cD _ rfl⟩
end
abbrev Sp:=List V->Hp->VK->XK->Prop
abbrev w_:=List Env->Hp->Shared->XK->Value->Shared->Prop
structure yz(P:Program)(w:World)(K:PySem.W.Frag)(mg:Str->Option Value)(base:Heap)(A:Around)(outer:List Env)(s:Shared)(H:Hp):Prop where
 frames:A.frames=some outer
 mod:Mod K mg base
 bs:∀b o,base.get? b=some o->s.heap.get? b=some o/\H b=none
 FO:base.objs.size<=s.heap.objs.size
 oR:s.heap.FunFrames base outer
 J3:∀b∈Cn outer,H b=none
 cL:k5 P w H s.heap
 bare:AllBare s.gens
def CE(outer:List Env)(P:Program)(w:World)(H:Hp)(s:Shared)(Q:VK)(u:Value)(s':Shared):Prop:=
 ∃v H',s'.os=s.os/\AllBare s'.gens/\Un (Cn outer) [] H H' s.heap s'.heap/\k5 P w H' s'.heap/\bT v u/\Q v H'
def CR(CX:w_)(outer:List Env)(P:Program)(w:World)(H:Hp)(s:Shared)(Q:VK)(E:XK)(r:Result)(s':Shared):Prop:=
 match r with
 |.ok (.ret u)=>CE outer P w H s Q u s'
 |.ok _=>False
 |.error e=>CX outer H s E e s'
structure bY(P:Program)(w:World)(K:PySem.W.Frag)(mg:Str->Option Value)(base:Heap)(CX:w_)(k:Nat)(f:Addr)(fd:FuncData)(ps:List Str)(sp:Sp):Prop where
 len:∀vs H Q E,sp vs H Q E->vs.length=ps.length
 run:∀ (A:Around) (outer:List Env) (s:Shared) (H:Hp) (args:Args) (us:List Value) (vs:List V) (Q:VK) (E:XK),dk k A->yz P w K mg base A outer s H->BindsTo s fd args (ps.zip us)->aZ vs us->sp vs H Q E->
  codeAny (model P w) A (.call (.ref f) args) (CR CX outer P w H s Q E) s
theorem yz.make{P:Program}{w:World}{K:PySem.W.Frag}{mg:Str->Option Value}{base:Heap}{A:Around}{outer:List Env}{s:Shared}{H:Hp}(e:yz P w K mg base A outer s H)(C:Addr)(us:List Value)(kw:List (Str×Value)):
  yz P w K mg base (A.under (.builtin "type.__call__" ⟨.ref C::us,kw⟩)) outer s H:=⟨by first|exact e.frames|(simpa [Around.under,Code.envs,Code.isFrame,pushEnvs] using e.frames),e.mod,e.bs,e.FO,e.oR,e.J3,e.cL,e.bare⟩
section
variable {X:Cx} {af:List (Addr×Obj)} {σ:St} {H:Hp} {s s':Shared}
theorem aT.NW(I:aT X af σ H s):yz X.prog X.w X.K X.mg X.base X.A X.stack s H:=
 ⟨I.ok.frames,I.ok.mod,I.bs,bw I.ok.FO I.sz,I.stack,I.zP,I.cL,I.bare⟩
theorem aT.after(I:aT X af σ H s)(h:CE X.stack X.prog X.w H s Q u s'):EP X af σ Q u s':=by
 obtain⟨v,H',os,bare,un,cL,r,q⟩:=h;obtain⟨hh,g,d,t,X4⟩:=s';obtain rfl:X4=s.os:=os;exact⟨v,H',I.call (h':=hh) (g':=g) (d':=d) (t':=t) (ch:=[]) un cL bare (fun b z=>absurd z (by simp)),r,q⟩
end
def oA(sp:Sp)(rq:List V)(E:XK)(t:TA):TE:=fun σ H Q=>t σ H fun vs H1=>sp (vs++rq) H1 Q E
def NX(C:Addr)(m:Str)(sp:Sp)(rq:List V)(E:XK)(ta:TE)(t:TA):TE:=fun σ H Q=>ta σ H fun x H1=>∃a dx fs,x=.ref a/\H1 a=some (.ins C dx fs)/\fs.lookup m=none/\
 t σ H1 fun vs H2=>sp (x::(vs++rq)) H2 Q E
def NY(C:Addr)(sp:Sp)(rq:List V)(E:XK)(t:TA):TE:=fun σ H Q=>t σ H fun vs H1=>∀x dx,H1 x=none->H1 dx=none->dx≠x->
 sp (.ref x::(vs++rq)) (upd (upd H1 dx (.own x)) x (.ins C dx [])) (fun v H2=>v=.b_/\Q (.ref x) H2) E
def jL(K:PySem.W.Frag)(fd:FuncData)(ps:List Str)(ds:List Value):Prop:=
 ∀ (s:Shared) (us:List Value),K.In s.heap->(us++ds).length=ps.length->BindsTo s fd ⟨us,[]⟩ (ps.zip (us++ds))
theorem jL.all{K:PySem.W.Frag}{fd:FuncData}{ps:List Str}(h:∀us:List Value,us.length=ps.length->bindArgs fd ⟨us,[]⟩=pure (ps.zip us)):jL K fd ps []:=fun s us _ hl=>by
 rw[tV] at hl |-;exact .of_eq (h us hl)
def k9(CX:w_)(X:Cx)(E:XK):Prop:=∀ (af:List (Addr×Obj)) (σ:St) (H:Hp) (s:Shared) (e:Value) (s':Shared),aT X af σ H s->CX X.stack H s E e s'->X.xe e s'
section
variable {X:Cx} {CX:w_} {k:Nat} {f C:Addr} {fd:FuncData} {ps:List Str} {sp:Sp} {rq:List V} {ds:List Value} {E:XK} {x m:Str} {p pos oW:Pos} {e o:Expr} {es:List Expr} {ta:TE} {t:TA}
theorem C_(F:bY X.prog X.w X.K X.mg X.base CX k f fd ps sp)(hr:dk k X.A)(hb:jL X.K fd ps ds)(hd:aZ rq ds)(hx:k9 CX X E)(I:aT X af σ H s)(r:aZ vs us)(h:sp (vs++rq) H Q E):wpAny (model X.prog X.w) X.A (call (.ref f) us) (EP X af σ Q) X.xe s:=by
 have r2:aZ (vs++rq) (us++ds):=r.append hd;have hl:(us++ds).length=ps.length:=by rw[<-r2.length];exact F.len _ _ _ _ h
 refine wpAny_call (nh (F.run X.A X.stack s H ⟨us,[]⟩ (us++ds) (vs++rq) Q E hr I.NW (hb s us I.oT hl) r2 h) fun r s' hq=>?_);cases r with
 |error e=>exact hx af σ H s e s' I hq
 |ok fl=>
  cases fl with
  |ret u=>exact I.after hq
  |next=>exact False.elim hq
  |brk=>exact False.elim hq
  |cont=>exact False.elim hq
theorem Gc(F:bY X.prog X.w X.K X.mg X.base CX k f fd ps sp)(hr:dk k X.A)(hg:Gl X x)(hm:X.mg x=some (.ref f))(hk:PySem.W.keepIn X.K (.ref f)=true)(hb:jL X.K fd ps ds)(hd:aZ rq ds)(hx:k9 CX X E)(ha:PA X (e::es) t)(Da:(x==("__debug__":Str))=false:=by decide)(he:starEach (e::es) X.env=(false,eval e X.env)::starEach es X.env:=by rfl)(Cq:(backTo pos (starEach es X.env)).any (·.1)=false:=by rfl):
  PE X (.Call (.Name x p) (e::es) [] pos) (oA sp rq E t):=by
 intro af s σ H Q I h;refine qf (uh I hg hm ?_ Da);refine xM (h₀:=X.base) I.ok.mod.Nv hk (cV (ha pos af s σ H _ I h) fun us s1 ⟨vs,H1,I1,r,q⟩=>⟨I1.oT,?_⟩) he Cq;exact C_ F hr hb hd hx I1 r q
theorem j_(he:PE X o ta)(c:FQ X.K C)(hm:Km X.K C m f)(F:bY X.prog X.w X.K X.mg X.base CX k f fd ps sp)(hr:dk k X.A)(hb:jL X.K fd ps ds)(hd:aZ rq ds)(hx:k9 CX X E)(ha:PA X (e::es) t)(lM:starEach (e::es) X.env=(false,eval e X.env)::starEach es X.env:=by rfl)(Cq:(backTo pos (starEach es X.env)).any (·.1)=false:=by rfl)(ht:eval (.Call (.Attribute o m oW) (e::es) [] pos) X.env=(do
   let ov <- eval o X.env
   standAt oW.atName
   let (f,first) <- holding [ov] (getMethod ov m pl)
   callWith pos f first (backTo pos (starEach (e::es) X.env)) (backToKw pos (keywordEach [] X.env))):=by rfl):
  PE X (.Call (.Attribute o m oW) (e::es) [] pos) (NX C m sp rq E ta t):=by
 intro af s σ H Q I h;refine PySem.W.methodCall_KW (pl:=pl) (cV (he af s σ H _ I h) fun u s1 ⟨x,H1,I1,rx,a,dx,fs,ex,ea,l,q⟩=>?_) ht;subst ex;obtain rfl:u=Value.ref a:=rx;refine yv I1 ea c hm l ?_;refine xM (first:=[.ref a]) (h₀:=X.base) I.ok.mod.Nv hm.kp (cV (ha pos af s1 σ H1 _ I1 q) fun us s2 ⟨vs,H2,I2,r,q2⟩=>⟨I2.oT,?_⟩) lM Cq;exact C_ (us:=.ref a::us) (vs:=.ref a::vs) F hr hb hd hx I2 (.cons rfl r) q2
structure Mk(K:PySem.W.Frag)(C f:Addr):Prop where
 makes:PySem.W.makesIn K C=true
 init:PySem.W.findIn K (.ref C) "__init__"=some (some (.ref f))
 fn:PySem.W.isFn K (.ref f)=true
 kp:PySem.W.keepIn K (.ref C)=true
theorem Db(M:Mk X.K C f)(F:bY X.prog X.w X.K X.mg X.base CX k f fd ps sp)(hr:dk (k+1) X.A)(hb:jL X.K fd ps ds)(hd:aZ rq ds)(hx:k9 CX X E)(I:aT X af σ H s)(r:aZ vs us)(h:∀x dx,H x=none->H dx=none->dx≠x->sp (.ref x::(vs++rq)) (upd (upd H dx (.own x)) x (.ins C dx [])) (fun v H2=>v=.b_/\Q (.ref x) H2) E):
  wpAny (model X.prog X.w) X.A (call (.ref C) us) (EP X af σ Q) X.xe s:=by
 have hq:=h (s.heap.objs.size+1) s.heap.objs.size (I.cL.fresh (Nat.le_succ _)) (I.cL.fresh (aU _)) (ba (iN _));have I2:=aT.made (C:=C) I;have r2:aZ (V.ref (s.heap.objs.size+1)::(vs++rq)) (Value.ref (s.heap.objs.size+1)::(us++ds)):=.cons rfl (r.append hd);have hl:(Value.ref (s.heap.objs.size+1)::us++ds).length=ps.length:=by
  have e:=r2.length;rw[F.len _ _ _ _ hq] at e;exact e.symm
 refine wpAny_call (C9 (f:=f) I.oT M.makes M.init (fc.mp M.fn) (nh (F.run _ X.stack _ _ ⟨Value.ref (s.heap.objs.size+1)::us,[]⟩ (Value.ref (s.heap.objs.size+1)::(us++ds)) _ _ E (hr.make C us [])
  (I2.NW.make C us []) (hb _ (Value.ref (s.heap.objs.size+1)::us) I2.oT hl) r2 hq) fun r s' Gd=>?_))
 cases r with
 |error e=>exact hx af σ _ _ e s' I2 Gd
 |ok fl=>
  cases fl with
  |ret u=>
   obtain⟨v,H',I3,rv,ev,q3⟩:=I2.after Gd;subst ev;exact⟨rv,⟨V.ref (s.heap.objs.size+1),H',I3,rfl,q3⟩⟩
  |next=>exact False.elim Gd
  |brk=>exact False.elim Gd
  |cont=>exact False.elim Gd
theorem Ge(M:Mk X.K C f)(F:bY X.prog X.w X.K X.mg X.base CX k f fd ps sp)(hr:dk (k+1) X.A)(hg:Gl X x)(hm:X.mg x=some (.ref C))(hb:jL X.K fd ps ds)(hd:aZ rq ds)(hx:k9 CX X E)(ha:PA X (e::es) t)(Da:(x==("__debug__":Str))=false:=by decide)(he:starEach (e::es) X.env=(false,eval e X.env)::starEach es X.env:=by rfl)(Cq:(backTo pos (starEach es X.env)).any (·.1)=false:=by rfl):
  PE X (.Call (.Name x p) (e::es) [] pos) (NY C sp rq E t):=by
 intro af s σ H Q I h;refine qf (uh I hg hm ?_ Da);refine xM (h₀:=X.base) I.ok.mod.Nv M.kp (cV (ha pos af s σ H _ I h) fun us s1 ⟨vs,H1,I1,r,q⟩=>⟨I1.oT,?_⟩) he Cq;exact Db M F hr hb hd hx I1 r q
end
def PK(X:Cx)(Dc:List Keyword)(t:TA):Prop:=
 ∀ (pos:Pos) (af:List (Addr×Obj)) (s:Shared) (σ:St) (H:Hp) (Q:List V->Hp->Prop),aT X af σ H s->t σ H Q->wpAny (model X.prog X.w) X.A (evalAll ((backToKw pos (keywordEach Dc X.env)).map (·.2))) (AP X af σ Q) X.xe s
section
variable {X:Cx} {CX:w_} {k:Nat} {f C:Addr} {fd:FuncData} {ps ks:List Str} {sp:Sp} {E:XK} {x m:Str} {p pos oW SH:Pos} {e o:Expr} {es:List Expr} {Dc:List Keyword} {te ta:TE} {t tk:TA} {nm:Option Str}
theorem Kq:PK X [] eY:=fun _ _ _ _ H Q I h=>wpAny_evalAll_nil ⟨[],H,I,.nil,h⟩
theorem Gf(ha:PE X e te)(hr:PK X Dc t):PK X (⟨nm,e,SH⟩::Dc) (br te t):=by
 intro pos af s σ H Q I h;show wpAny _ _ (evalAll ((do let v <- eval e X.env;standAt pos;pure v)::(backToKw pos (keywordEach Dc X.env)).map (·.2))) _ _ s;refine wpAny_evalAll_cons (aw (cV (ha af s σ H _ I h) fun u s1 ⟨x,H1,I1,r1,q1⟩=>aw (kY (wpAny_pure ?_))));exact cV (hr pos af s1 σ H1 _ I1 q1) fun us s2 ⟨xs,H2,I2,r2,q2⟩=>⟨x::xs,H2,I2,.cons r1 r2,q2⟩
variable {g:List Value->List Value->List Value} {gV:List V->List V->List V}
end
structure aS(N P:List Str)(sc:Scope):Prop where
 kind:sc.kind=.function
 co:sc.isCoroutine=false
 gen:sc.isGenerator=false
 nd:N.Nodup
 pre:N.take P.length=P
 par:∀x∈P,sc.names.lookup x=some .local\/sc.names.lookup x=some .cell
 Kr:∀y∈sc.names,y.2≠.free
theorem dB{N P:List Str}{sc:Scope}(h:(N.Nodup/\∀x∈P,sc.names.lookup x=some .local\/sc.names.lookup x=some .cell)/\∀y∈sc.names,y.2≠.free)(h1:sc.kind=.function:=by rfl)(h2:sc.isCoroutine=false:=by rfl)(h3:sc.isGenerator=false:=by rfl)(h5:N.take P.length=P:=by rfl):aS N P sc:=⟨h1,h2,h3,h.1.1,h5,h.1.2,h.2⟩
theorem aM{α:Sort u}{a:α}{b:Prop}:a=a\/b:=Or.inl rfl
theorem bo{α:Sort u}{a:α}{b:Prop}:b\/a=a:=Or.inr rfl
theorem rX{kindOf:Str->Option NameKind}{x:Str}:∀ {binds:List (Str×Value)} {m:Str->Option Value},(∀v,(x,v)∉binds)->bindL kindOf binds m x=m x
 |[],_,_=>rfl
 |(n,v)::r,m,h=>by
  unfold bindL;rw[rX fun w hw=>h w (cU _ hw)];split
  .have:x≠n:=by rintro rfl;exact h v bU
   simp[this]
  .rfl
theorem rY{kindOf:Str->Option NameKind}{x:Str}:∀ {binds:List (Str×Value)} {m:Str->Option Value},(∀v,(x,v)∉binds)->bindC kindOf binds m x=m x
 |[],_,_=>rfl
 |(n,v)::r,m,h=>by
  unfold bindC;rw[rY fun w hw=>h w (cU _ hw)];split
  .rfl
  .have:x≠n:=by rintro rfl;exact h v bU
   simp[this]
theorem rZ{kindOf:Str->Option NameKind}{x:Str}{v:Value}:∀ {P:List Str} {vs:List Value} {i:Nat} {m:Str->Option Value},P.Nodup->P[i]?=some x->vs[i]?=some v->kindOf x=some .local->
  bindL kindOf (P.zip vs) m x=some v
 |[],_,_,_,_,h,_,_=>by simp at h
 |_::_,[],_,_,_,_,h,_=>by simp at h
 |p::P,w::vs,0,m,nd,h1,h2,hk=>by
  simp at h1 h2;subst h1;subst h2;show bindL kindOf ((p,w)::P.zip vs) m p=_;unfold bindL;rw[rX fun v hv=>(fJ.mp nd).1 (qh hv).1,am hk];simp
 |p::P,w::vs,i+1,m,nd,h1,h2,hk=>by
  show bindL kindOf ((p,w)::P.zip vs) m x=_;unfold bindL;exact rZ (i:=i) (fJ.mp nd).2 (by simpa using h1) (by simpa using h2) hk
theorem r0{kindOf:Str->Option NameKind}{x:Str}{v:Value}:∀ {P:List Str} {vs:List Value} {i:Nat} {m:Str->Option Value},P.Nodup->P[i]?=some x->vs[i]?=some v->kindOf x≠some .local->
  bindC kindOf (P.zip vs) m x=some v
 |[],_,_,_,_,h,_,_=>by simp at h
 |_::_,[],_,_,_,_,h,_=>by simp at h
 |p::P,w::vs,0,m,nd,h1,h2,hk=>by
  simp at h1 h2;subst h1;subst h2;show bindC kindOf ((p,w)::P.zip vs) m p=_;unfold bindC;rw[rY fun v hv=>(fJ.mp nd).1 (qh hv).1,aA hk];simp
 |p::P,w::vs,i+1,m,nd,h1,h2,hk=>by
  show bindC kindOf ((p,w)::P.zip vs) m x=_;unfold bindC;exact r0 (i:=i) (fJ.mp nd).2 (by simpa using h1) (by simpa using h2) hk
def start(N:List Str)(vs:List V):St:=vs.map some++List.replicate (N.length-vs.length) none
def ur(CX:w_)(P:Program)(w:World)(K:PySem.W.Frag)(mg:Str->Option Value)(base:Heap)(N:List Str)(qual:Str)(scope:Scope)(f:Addr)(cd:Value)(A:Around)(outer:List Env)(s:Shared)(H:Hp)(E:XK):Cx where
 prog:=P
 w:=w
 K:=K
 mg:=mg
 base:=base
 A:=A.deeper (envOfC qual scope s.heap.objs.size f cd)
 N:=N
 s₀:=s
 H₀:=H
 env:=envOfC qual scope s.heap.objs.size f cd
 outer:=outer
 stack:=envOfC qual scope s.heap.objs.size f cd::outer
 ex:=[]
 calm:=true
 fn:=fun _=>true
 pn:=[]
 xe:=fun e s'=>wpAny (model P w) (A.deeper (envOfC qual scope s.heap.objs.size f cd)) (leaving (envOfC qual scope s.heap.objs.size f cd) e) (fun _ NZ=>CX outer H s E e NZ) (fun e' NZ=>CX outer H s E e' NZ) s'
theorem vR{sc:Scope}{n:Nat}{x:Str}(h:sc.names.lookup x=some .cell):∃c,(cellsFrom n sc.names []).lookup x=some c:=by
 have q:=PySem.W.cellsFrom_some sc.names n [] (.inl h);exact pU.mp q
theorem Bd{CX:w_}{P:Program}{w:World}{K:PySem.W.Frag}{mg:Str->Option Value}{base:Heap}{N ps:List Str}{qual:Str}{scope:Scope}{f:Addr}{cd:Value}{A:Around}{outer:List Env}{s s1:Shared}{H:Hp}{E:XK}{us:List Value}{vs:List V}(S:aS N ps scope)(hd:A.handled=none)(e0:yz P w K mg base A outer s H)(hl:vs.length=ps.length)(r:aZ vs us)(x:InCallC s s.heap.objs.size (bindL (envOfC qual scope s.heap.objs.size f cd).kindOf (ps.zip us) fun _=>none) (cellsFrom (s.heap.objs.size+1) scope.names []) (bindC (envOfC qual scope s.heap.objs.size f cd).kindOf (ps.zip us) fun _=>none) s1):
  aT (ur CX P w K mg base N qual scope f cd A outer s H E) [] (start N vs) H s1:=by
 have Cq:ps.length<=N.length:=by have:=congrArg List.length S.pre;rw[jx] at this;lia
 obtain⟨h1,tk,rfl,hk⟩:=x.done;have M0:∀b:Addr,b∉(ur CX P w K mg base N qual scope f cd A outer s H E).ex:=fun b z=>absurd (show b∈([]:List Addr) from z) (by simp);refine⟨⟨e0.mod,S.kind,rfl,rfl,aU _,fun y z c h1 h2=>?_,fun y hy=>?_,fun y c _ h=>?_,fun _=>hd,Around.frames_deeper e0.frames,.inr ⟨rfl,rfl⟩,fun b z=>absurd z (M0 b),e0.bs,e0.FO,fun b _ _=>M0 b,fun b z=>absurd z (M0 b),e0.oR,e0.J3⟩,
  rfl,e0.bare,Un.kept hk,⟨_,x.toInCall.ns,fun i y v h1 h2 h3=>?_⟩,fun y c h=>⟨_,x.cell y c h⟩,e0.cL.fresh (aU _),fun y c h=>?_,fun p hp=>absurd (show p∈([]:List (Addr×Obj)) from hp) (by simp),e0.cL.kept hk,?_⟩
 .exact name_of_addr x.apart (ow h1) (ow h2)
 .have hy:scope.names.lookup y=some .cell\/scope.names.lookup y=some .free:=hy;rcases hy with hy|hy
  .exact vR hy
  .exact absurd rfl (S.Kr _ (ow hy))
 .exact jB (x.above y c (ow h))
 .have hi:i<vs.length:=by
   unfold start at h2;by_cases hi:i<vs.length
   .exact hi
   .rw[jq (by simpa using hi)] at h2;rw[pS] at h2;split at h2 <;> cases h2
  have ha:vs[i]?=some v:=by
   unfold start at h2;rw[h9 (by simpa using hi),bZ] at h2;cases e:vs[i]? with
   |none=>rw[e] at h2;cases h2
   |some a=>rw[e] at h2;cases h2;rfl
  obtain⟨u,hu,rv⟩:=r.get ha;have hp:ps[i]?=some y:=by
   rw[<-S.pre,List.getElem?_take_of_lt (by lia)];exact h1
  have VV:ps.Nodup:=by rw[<-S.pre];exact S.nd.sublist (tK _ _)
  refine⟨u,rv,?_⟩;rcases S.par y (cm hp) with k|k
  .exact .inl ⟨k,rZ VV hp hu k⟩
  .obtain⟨c,e⟩:=vR (n:=s.heap.objs.size+1) k;refine .inr ⟨.inl k,c,e,?_⟩;have q:=x.cell y c e;rw[r0 VV hp hu (by show scope.names.lookup y≠_;rw[k];decide)] at q;exact q
 .exact e0.cL.fresh (jB (x.above y c (ow h)))
 .unfold start;show _=N.length;rw[cF,aO,jt];lia
theorem Jh{CX:w_}{P:Program}{w:World}{K:PySem.W.Frag}{mg:Str->Option Value}{base:Heap}{k:Nat}{f:Addr}{name qual:Str}{params:Arguments}{body:List Stmt}{scope:Scope}{dV kV lP pm eQ ct oc:Value}{an od:Option Addr}{ut:Array (Option Value)}{N ps:List Str}{sp:Sp}(lk:K.lookup f=some ⟨oc,od,.func (PySem.W.fnOf name qual params body scope dV kV lP pm an eQ ct),ut⟩)(rd:PySem.W.codeIn K eQ qual=true)(S:aS N ps scope)(len:∀vs H Q E,sp vs H Q E->vs.length=ps.length)(vS:∀ (A:Around) (outer:List Env) (s:Shared) (H:Hp) (vs:List V) (Q:VK) (E:XK),dk k (A.deeper (envOfC qual scope s.heap.objs.size f eQ))->sp vs H Q E->
   ∃t,yk (ur CX P w K mg base N qual scope f eQ A outer s H E) body t/\t { nx:=fun _ H'=>Q .b_ H',rt:=Q } (start N vs) H):
  bY P w K mg base CX (k+1) f (PySem.W.fnOf name qual params body scope dV kV lP pm an eQ ct) ps sp:=by
 refine⟨len,fun A outer s H args us vs Q E hr e0 hb r FR=>?_⟩;have hl:=len _ _ _ _ FR;have KX:K.In s.heap:=e0.mod.Nv.keeps fun b o e=>(e0.bs b o e).1;have X5:s.heap.NoLimit:=e0.mod.nolimit.keeps fun b o e=>(e0.bs b o e).1;have N0:∀y∈ps.zip us,scope.names.lookup y.1=some .local\/(scope.names.lookup y.1=some .cell/\((cellsFrom (s.heap.objs.size+1) scope.names []).lookup y.1).isSome=true):=fun ⟨n,v⟩ hy=>by
  rcases S.par n (qh hy).1 with q|q
  .exact .inl q
  .exact .inr ⟨q,PySem.W.cellsFrom_some _ _ _ (.inl q)⟩
 refine codeAny_call_function hr.depth (KX _ _ lk) rfl S.co S.gen rfl (PySem.W.codeRec_of KX rd) (hb _ _ _ _ ?_);refine wpAny_newFunctionEnv_cells S.kind N0 fun env he s1 x=>?_;subst he;refine⟨X5.keeps x.toInCall.keep,codeAny_func ?_⟩;obtain⟨t,ht,hq⟩:=vS A outer s H vs Q E (hr.deeper _) FR;have I:aT (ur CX P w K mg base N qual scope f eQ A outer s H E) [] (start N vs) H s1:=Bd S hr.hd e0 hl r x;refine ni (ht [] s1 (start N vs) H _ I hq) (fun fl s' hs=>?_) fun e s' hs=>hs;have dU:∀ {σ':St} {H':Hp} {v:V} {u:Value},aT (ur CX P w K mg base N qual scope f eQ A outer s H E) [] σ' H' s'->bT v u->Q v H'->CE outer P w H s Q u s':=
  fun {σ' H' v u} J rv q=>⟨v,H',J.os,J.bare,J.base,J.cL,rv,q⟩
 cases fl with
 |ret u=>
  obtain⟨v,σ',H',J,rv,q⟩:=hs;exact dU J rv q
 |next=>
  obtain⟨σ',H',J,q⟩:=hs;exact dU (v:=V.b_) (u:=Value.none) J rfl q
 |brk=>
  obtain⟨_,_,_,q⟩:=hs;exact False.elim q
 |cont=>
  obtain⟨_,_,_,q⟩:=hs;exact False.elim q
section
variable {X:Cx} {x:Str} {p pos:Pos} {e:Expr} {es:List Expr} {t:TA} {id T:String} {r:List V->Hp->VK->Prop}
def Ji(r:List V->Hp->VK->Prop)(t:TA):TE:=fun σ H Q=>t σ H fun vs H1=>r vs H1 Q
theorem aE(hc:eX X (.builtin id) r)(hg:Gl X x)(hm:X.mg x=none)(hv:bootBuiltins x=some (.builtin id))(ha:PA X (e::es) t)(hn:x≠"__name__":=by decide)(Da:(x==("__debug__":Str))=false:=by decide)(he:starEach (e::es) X.env=(false,eval e X.env)::starEach es X.env:=by rfl)(Cq:(backTo pos (starEach es X.env)).any (·.1)=false:=by rfl):PE X (.Call (.Name x p) (e::es) [] pos) (Ji r t):=by
 intro af s σ H Q I h;refine qf (k6 I hg hm hv ?_ hn Da);exact PyProof.Rows.callWith_builtin1 (cV (ha pos af s σ H _ I h) fun us s1 ⟨vs,H1,I1,r1,q1⟩=>hc af s1 σ H1 vs us Q I1 r1 q1) he Cq
theorem cJ(hc:eX X (.type T) r)(hg:Gl X x)(hm:X.mg x=none)(hv:bootBuiltins x=some (.type T))(ha:PA X (e::es) t)(hn:x≠"__name__":=by decide)(Da:(x==("__debug__":Str))=false:=by decide)(he:starEach (e::es) X.env=(false,eval e X.env)::starEach es X.env:=by rfl)(Cq:(backTo pos (starEach es X.env)).any (·.1)=false:=by rfl):PE X (.Call (.Name x p) (e::es) [] pos) (Ji r t):=by
 intro af s σ H Q I h;refine qf (k6 I hg hm hv ?_ hn Da);exact sV (cV (ha pos af s σ H _ I h) fun us s1 ⟨vs,H1,I1,r1,q1⟩=>hc af s1 σ H1 vs us Q I1 r1 q1) he Cq
end
end L2
namespace HT
open PySem PyProof.Rows
section
open PySem.SeqAt
open PySem.AutoSeq1 (wpAny_loadPart')
open PySem.MeetsSeq PySem.MeetsSeq2 PySem.MeetsSeq3
end
section
variable {prog:Program} {w:World} {A:Around} {E:Value->Shared->Prop} {s:Shared}
def d8(n d:Nat):Option Int->Nat
 |none=>d
 |some v=>if v<0 then (v+(n:Int)).toNat else min v.toNat n
theorem Ks(n d:Nat)(hd:d<=n)(o:Option Int):d8 n d o<=n:=by
 cases o with
 |none=>exact hd
 |some v=>
  show (if v<0 then (v+(n:Int)).toNat else min v.toNat n)<=n;by_cases hv:v<0
  .rw[am hv];lia
  .rw[aA hv];exact Nat.min_le_right _ _
theorem z0(v:Int)(n d:Nat):(if v<0 then max (v+(n:Int)) 0 else min v (n:Int))=((d8 n d (some v):Nat):Int):=by
 show (if v<0 then max (v+(n:Int)) 0 else min v (n:Int))=(((if v<0 then (v+(n:Int)).toNat else min v.toNat n):Nat):Int);by_cases hv:v<0
 .simp only[am hv];lia
 .simp only[aA hv];lia
theorem yA(lo hi:Option Int)(n:Nat):Builtin.Slice.sliceAdjust lo hi 1 (n:Int)=(((d8 n 0 lo:Nat):Int),((d8 n n hi:Nat):Int)):=by
 have h1:¬ ((1:Int)<0):=by lia
 unfold Builtin.Slice.sliceAdjust;simp only[h1,fU];refine ff ?_ ?_
 .cases lo with
  |none=>rfl
  |some v=>exact z0 v n 0
 .cases hi with
  |none=>rfl
  |some v=>exact z0 v n n
theorem yB(i j:Nat):Builtin.Slice.slicePlaces (i:Int) (j:Int) 1=j-i:=by
 unfold Builtin.Slice.slicePlaces;have h1:(1:Int) > 0:=by lia
 simp only[h1,iw,Int.ediv_one];split <;> lia
theorem qv(p:IsPart v o)(h:Q o s):wpAny (model prog w) A (Builtin.Slice.slicePartIndex v) Q E s:=by
 cases p with
 |none=>exact slicePart_none h
 |int i t=>exact slicePart_int h
theorem iF{sl:Addr}{vl vu:Value}{lo hi:Option Int}{n:Nat}{Q:Int×Int×Nat->Shared->Prop}(hs:s.heap.IsSliceOf sl vl vu .none)(pl:IsPart vl lo)(pu:IsPart vu hi)(h:Q (((d8 n 0 lo:Nat):Int),1,d8 n n hi-d8 n 0 lo) s):wpAny (model prog w) A (Builtin.Slice.sliceApplied (.ref sl) (pure (n:Int))) Q E s:=by
 obtain⟨os,Be,Rl,FS⟩:=id hs;unfold Builtin.Slice.sliceApplied Builtin.Slice.sliceFields;refine aw (aw (gQ Be FS (x:=vl) rfl (aw (gQ Be FS (x:=vu) rfl (aw (gQ Be FS (x:=.none) rfl (wpAny_pure ?_)))))));refine aw (slicePart_none ?_);show wpAny _ _ (if ((1:Int)==0)=true then _ else _) _ _ s;rw[aA (by decide)];refine aw (qv pl (aw (qv pu (aw (wpAny_pure ?_)))));show wpAny _ _ (match Builtin.Slice.sliceAdjust lo hi 1 (n:Int) with|(lo,hi)=>pure (lo,(1:Int),Builtin.Slice.slicePlaces lo hi 1)) _ _ s;rw[yA lo hi n];show wpAny _ _ (pure (((d8 n 0 lo:Nat):Int),(1:Int),Builtin.Slice.slicePlaces ((d8 n 0 lo:Nat):Int) ((d8 n n hi:Nat):Int) 1)) _ _ s;rw[yB];exact wpAny_pure h
theorem Dd(xs:Array Value)(i k:Nat):((List.range k).filterMap fun (m:Nat)=>xs[((i:Int)+(m:Int)*1).toNat]?).toArray=((xs.toList.drop i).take k).toArray:=by
 have e:(fun (m:Nat)=>xs[((i:Int)+(m:Int)*1).toNat]?)=fun m=>xs[i+m]?:=by
  funext m;have:((i:Int)+(m:Int)*1).toNat=i+m:=by lia
  rw[this]
 rw[e];have:=pick_run xs i k;rw[List.filterMap_map] at this;have e2:((fun x=>xs[x]?) ∘ fun x=>i+x)=fun m=>xs[i+m]?:=rfl;rw[e2] at this;rw[this]
theorem lQ{t sl:Addr}{items:Array Value}{vl vu:Value}{lo hi:Option Int}{Q:Value->Shared->Prop}(ht:IsTup s.heap t items)(hs:s.heap.IsSliceOf sl vl vu .none)(pl:IsPart vl lo)(pu:IsPart vu hi)(hw:¬ (d8 items.size 0 lo=0/\d8 items.size items.size hi=items.size))(h:Q (.ref s.heap.objs.size) { s with heap:=s.heap.push { cls:=.type "tuple",data:=.seq ((items.toList.drop (d8 items.size 0 lo)).take (d8 items.size items.size hi-d8 items.size 0 lo)).toArray } })(ku:items.size<=sizeLine):wpAny (model prog w) A (getItem (.ref t) (.ref sl)) Q E s:=by
 have z6:sizeOk (.seq ((items.toList.drop (d8 items.size 0 lo)).take (d8 items.size items.size hi-d8 items.size 0 lo)).toArray):=by
  show ((items.toList.drop (d8 items.size 0 lo)).take (d8 items.size items.size hi-d8 items.size 0 lo)).toArray.size<=sizeLine;rw[bQ,jx,tP,kP];lia
 have hj:d8 items.size items.size hi<=items.size:=Ks _ _ (aU _) hi;obtain⟨os,Be,Rl,FS⟩:=id hs;have SI:s.TypeIs (.ref sl) "slice":=⟨os,Be,Rl⟩
 unfold getItem;try with_reducible refine fK ?_
 first|refine aw (wpAny_pure ?_)|skip
 refine aw (wpAny_sequenceKey ht.typeIs (by decide) ?_);refine aw (mJ (name:=Str.ofString "__getitem__") ht.typeIs rR
  (kS rR ht.typeIs entry_tuple_getitem ?_ (args_tuple_getitem _ _)))
 show wpAny _ _ (Builtin.Tuple.tupleItemsOf (.ref t) >>= _) _ _ s;refine aw (tupleItemsOf_ ht ?_);refine aw (qo SI ?_);rw[am (by decide)];refine aw (iF hs pl pu ?_);have De:¬ ((((d8 items.size 0 lo:Nat):Int)==0&&(1:Int)==1&&(d8 items.size items.size hi-d8 items.size 0 lo)==items.size)=true):=by
  intro q;rw[fE,fE] at q;have q1:((d8 items.size 0 lo:Nat):Int)=0:=eq_of_beq q.1.1;have q2:d8 items.size items.size hi-d8 items.size 0 lo=items.size:=eq_of_beq q.2;exact hw ⟨by lia,by lia⟩
 show wpAny _ _ (if (((d8 items.size 0 lo:Nat):Int)==0&&(1:Int)==1&&(d8 items.size items.size hi-d8 items.size 0 lo)==items.size)=true then _ else _) _ _ s;rw[aA De,Dd];first
  |exact aw (m:=Builtin.Tuple.tupleExact _) (jv (wpAny_pure ⟨_,rfl,wpAny_pure h⟩) z6)
  |exact aw (m:=Builtin.Tuple.tupleExact _) (jv (aw (wpAny_pure (wpAny_pure ⟨_,rfl,wpAny_pure h⟩))) z6)
  |exact aw (aw (m:=Builtin.Tuple.tupleExact _) (jv (wpAny_pure (wpAny_pure ⟨_,rfl,wpAny_pure h⟩)) z6))
  |exact aw (aw (m:=Builtin.Tuple.tupleExact _) (jv (wpAny_pure ⟨_,rfl,wpAny_pure h⟩) z6))
end
end HT
namespace L2
open PySem PySem.Spec PyProof.Rows
abbrev TO:=St->Hp->(Option Int->Hp->Prop)->Prop
def PO(X:Cx)(e:Option Expr)(t:TO):Prop:=
 ∀ (af:List (Addr×Obj)) (s:Shared) (σ:St) (H:Hp) (Q:Option Int->Hp->Prop),aT X af σ H s->t σ H Q->
  wpAny (model X.prog X.w) X.A (evalPart e X.env) (fun u s'=>∃o H',aT X af σ H' s'/\IsPart u o/\Q o H') X.xe s
def Gg:TO:=fun _ H Q=>Q none H
def N2(t:TE):TO:=fun σ H Q=>t σ H fun x H1=>∃i,x=.int i/\Q (some i) H1
theorem yC{ns:List Int}:∀ {us:List Value},aZ (ns.map V.int) us->IntsAre us ns:=by
 induction ns with
 |nil=>intro us r;rw[List.map_nil] at r;cases r;exact .nil
 |cons n ns ih=>
  intro us r;rw[eE] at r;cases r with
  |cons r1 r2=>
   obtain⟨t,e⟩:=r1;subst e;exact .cons n t (ih r2)
section
variable {X:Cx} {e:Expr} {te:TE} {lo hi:Option Expr} {tl th:TO} {pos p2:Pos}
theorem pB:PO X none Gg:=by
 intro af s σ H Q I h;rw[evalPart_none];exact wpAny_pure ⟨none,H,I,.none,h⟩
theorem pC(h:PE X e te):PO X (some e) (N2 te):=by
 intro af s σ H Q I hw;rw[evalPart_some];refine cV (h af s σ H _ I hw) fun u s1 ⟨x,H1,I1,r1,q1⟩=>?_;obtain⟨i,rfl,q⟩:=q1;obtain⟨t,rfl⟩:=r1;exact⟨some i,H1,I1,.int i t,q⟩
def Rm(X:Cx)(r:V->Option Int->Option Int->Hp->VK->Prop):Prop:=
 ∀ (af:List (Addr×Obj)) (s:Shared) (σ:St) (H:Hp) (x:V) (v vl vu:Value) (lo hi:Option Int) (sl:Addr) (Q:VK),aT X af σ H s->bT x v->s.heap.IsSliceOf sl vl vu .none->IsPart vl lo->IsPart vu hi->r x lo hi H Q->
  ∃T id,typeLookup (.type T) "__getitem__"=pure (some (.builtin id))/\s.TypeIs v T/\wpAny (model X.prog X.w) X.A (getItem v (.ref sl)) (EP X af σ Q) X.xe s
def X6(r:V->Option Int->Option Int->Hp->VK->Prop)(te:TE)(tl th:TO):TE:=fun σ H Q=>te σ H fun x H1=>tl σ H1 fun l H2=>th σ H2 fun u H3=>r x l u H3 Q
theorem lR(hr:Rm X r)(he:PE X e te)(hl:PO X lo tl)(hu:PO X hi th):PE X (.Subscript e (.Slice lo hi none p2) pos) (X6 r te tl th):=by
 intro af s σ H Q I h;refine Subscript_ (cV (he af s σ H _ I h) fun v s1 ⟨x,H1,I1,r1,q1⟩=>?_);refine wpAny_Slice (cV (hl af s1 σ H1 _ I1 q1) fun vl s2 ⟨l,H2,I2,pl,q2⟩=>cV (hu af s2 σ H2 _ I2 q2) fun vu s3 ⟨u,H3,I3,pu,q3⟩=>?_);rw[evalPart_none];refine wpAny_pure ?_;have I4:aT X af σ H3 { s3 with heap:=s3.heap.push { cls:=.type "slice",data:=.fields #[vl,vu,.none] } }:=I3.kept (t':=s3.toks) fun b ob q=>bV _ q;obtain⟨T,id,hT,ht,hg⟩:=hr af { s3 with heap:=s3.heap.push { cls:=.type "slice",data:=.fields #[vl,vu,.none] } } σ H3 x v vl vu l u s3.heap.objs.size Q I4 r1 (Heap.IsSliceOf.new ..) pl pu q3;show wpAny (model X.prog X.w) X.A (subscriptTail e (.Slice lo hi none p2) v (.ref s3.heap.objs.size)) (EP X af σ Q) X.xe { s3 with heap:=s3.heap.push { cls:=.type "slice",data:=.fields #[vl,vu,.none] } };exact tail_any (ops:=[.ref s3.heap.objs.size,v]) ht hT hg (by with_unfolding_all rfl)
def lS(xs:List V)(lo hi:Option Int):List V:=(xs.drop (HT.d8 xs.length 0 lo)).take (HT.d8 xs.length xs.length hi-HT.d8 xs.length 0 lo)
theorem oB(xs:List V)(lo hi:Option Int):(lS xs lo hi).length<=xs.length:=by
 unfold lS;rw[jx,tP];lia
def SJ(K:PySem.W.Frag):V->Option Int->Option Int->Hp->VK->Prop:=fun x lo hi H Q=>∃a xs,x=.ref a/\bD K H a xs/\
 ¬ (HT.d8 xs.length 0 lo=0/\HT.d8 xs.length xs.length hi=xs.length)/\∀p,H p=none->Q (.ref p) (upd H p (.tup (lS xs lo hi)))
theorem Ku:Rm X (SJ X.K):=by
 intro af s σ H x v vl vu lo hi sl Q I rx hs pl pu h;obtain⟨a,xs,rfl,hx,hw,q⟩:=h;cases rx;obtain⟨its,r,ht,hz⟩:=I.tuple hx;have dq:its.toArray.size=xs.length:=by rw[bQ];exact r.length.symm
 refine⟨"tuple",_,rR.lookup,ht.typeIs,?_⟩;refine HT.lQ ht hs pl pu (by rw[dq];exact hw) ?_ (by rw[dq];exact hz);rw[dq];refine⟨.ref s.heap.objs.size,_,I.laid (t':=s.toks) (o:=.tup (lS xs lo hi)) (fun b ob q=>bV _ q) (aU _) ?_,rfl,q _ (I.cL.fresh (aU _))⟩;exact⟨bw (oB xs lo hi) hz,_,(r.drop (HT.d8 xs.length 0 lo)).take (HT.d8 xs.length xs.length hi-HT.d8 xs.length 0 lo),jE.new _ _⟩
theorem aZ.pD(r:aZ xs us):us=[]↔xs=[]:=by
 cases r with
 |nil=>simp
 |cons _ _=>simp
end
def Df(n:Nat)(i:Int):Option Nat:=if 0<=i then (if i<n then some i.toNat else none) else if -(n:Int)<=i then some (i+n).toNat else none
def Dg{α:Type}(xs:List α)(i:Int):Option α:=(Df xs.length i).bind fun j=>xs[j]?
theorem lT(h:Df n i=some j):seqIndex? i n=some j/\j<n/\-(n:Int)<=i/\i<n:=by
 unfold Df at h;by_cases h0:0<=i
 .rw[am h0] at h;by_cases h1:i<n
  .rw[am h1] at h;have e:i.toNat=j:=bW h;exact⟨by rw[seqIndex_of h0 h1,e],by lia,by lia,h1⟩
  .rw[aA h1] at h;cases h
 .rw[aA h0] at h;by_cases h1:-(n:Int)<=i
  .rw[am h1] at h;have e:(i+n).toNat=j:=bW h;exact⟨by rw[seqIndex_neg (by lia) h1,e],by lia,h1,by lia⟩
  .rw[aA h1] at h;cases h
theorem z7(h:Dg xs i=some v):∃j,seqIndex? i xs.length=some j/\xs[j]?=some v/\j<xs.length/\-(xs.length:Int)<=i/\i<xs.length:=by
 unfold Dg at h;cases e:Df xs.length i with
 |none=>rw[e] at h;cases h
 |some j=>
  rw[e] at h;obtain⟨h1,h2,h3,h4⟩:=lT e;exact⟨j,h1,h,h2,h3,h4⟩
theorem ao{α:Type}{xs:List α}{j:Nat}{v:α}(h:xs[j]?=some v):Dg xs (j:Int)=some v:=by
 have hj:j<xs.length:=(cN.mp h).1;have e:Df xs.length (j:Int)=some j:=by
  unfold Df;rw[am (by lia),am (by lia)];simp
 unfold Dg;rw[e];exact h
theorem Dh(xs:List α)(v:α):Dg (xs++[v]) (-1)=some v:=by
 have hl:(xs++[v]).length=xs.length+1:=by simp
 have e:Df (xs++[v]).length (-1)=some xs.length:=by
  unfold Df;rw[hl,aA (by decide),am (by lia)];congr 1;lia
 unfold Dg;rw[e];show (xs++[v])[xs.length]?=some v;simp
def Gh(b:Expr):Prop:=∀o i,subscripted b false o i=operate [o,i] (getItem o i)
def SK(X:Cx)(r:R2):Prop:=
 ∀ (value slice:Expr) (af:List (Addr×Obj)) (s:Shared) (σ:St) (H:Hp) (x y:V) (v u:Value) (Q:VK),aT X af σ H s->bT x v->bT y u->r x y H Q->
  subscripted slice false v u=operate [v,u] (getItem v u)->wpAny (model X.prog X.w) X.A (subscriptTail value slice v u) (EP X af σ Q) X.xe s
def VW(X:Cx)(id:String)(r:V->List V->Hp->VK->Prop):Prop:=
 ∀ (af:List (Addr×Obj)) (s:Shared) (σ:St) (H:Hp) (x:V) (xs:List V) (v:Value) (us:List Value) (Q:VK),aT X af σ H s->bT x v->aZ xs us->r x xs H Q->
  wpAny (model X.prog X.w) X.A (call (.builtin id) (v::us)) (EP X af σ Q) X.xe s
section
variable {X:Cx} {a b:Expr} {ta tb:TE} {pos:Pos}
theorem aJ(hr:SK X r)(ha:PE X a ta)(hb:PE X b tb)(hs:Gh b):PE X (.Subscript a b pos) (dW r ta tb):=by
 intro af s σ H Q I h;exact Subscript_ (Ki ha hb I h fun v u s2 x y H2 I2 rx ry q=>hr a b af s2 σ H2 x y v u Q I2 rx ry q (hs _ _))
def jo(K:PySem.W.Frag):R2:=fun x y H Q=>∃p xs i v,x=.ref p/\y=.int i/\aQ K H p xs/\Dg xs i=some v/\Q v H
def ky(K:PySem.W.Frag):R2:=fun x y H Q=>∃p xs i v,x=.ref p/\y=.int i/\bD K H p xs/\Dg xs i=some v/\Q v H
theorem aF:SK X (jo X.K):=by
 intro value slice af s σ H x y v u Q I rx ry h hs;obtain⟨p,xs,i,z,rfl,rfl,hq,he,q⟩:=h;cases rx;obtain⟨t,rfl⟩:=ry;obtain⟨its,r,pl,hz⟩:=I.list hq;obtain⟨j,h1,h2,h3,h4,h5⟩:=z7 he;obtain⟨w,ew,Kd⟩:=r.get h2;have hl:=r.length;have hn:=uo;have dU:EP X af σ Q w s:=⟨z,H,I,Kd,q⟩
 by_cases h0:0<=i
 .have hj:i.toNat=j:=by
   rw[seqIndex_of h0 h5] at h1;exact bW h1
  exact item_listR pl.isList h0 (by lia) (by rw[hj];simpa using ew) dU hs
 .have hj:(i+(its.toArray.size:Int)).toNat=j:=by
   rw[seqIndex_neg (by lia) h4] at h1;rw[bQ,<-hl];exact bW h1
  exact subscriptTail_builtinR (x:=w) pl.isList.typeIs slot_list_getitem.lookup
   (wpAny_getItem_list_neg (Q:=fun r s'=>r=w/\EP X af σ Q r s') pl.isList (by lia) (by rw[bQ] <;> lia) (by lia) (by rw[hj];simpa using ew) ⟨rfl,dU⟩) hs
theorem bz:SK X (ky X.K):=by
 intro value slice af s σ H x y v u Q I rx ry h hs;obtain⟨p,xs,i,z,rfl,rfl,hq,he,q⟩:=h;cases rx;obtain⟨t,rfl⟩:=ry;obtain⟨its,r,pl,hz⟩:=I.tuple hq;obtain⟨j,h1,h2,h3,h4,h5⟩:=z7 he;obtain⟨w,ew,Kd⟩:=r.get h2;have hl:=r.length;have hn:=uo;have dU:EP X af σ Q w s:=⟨z,H,I,Kd,q⟩
 exact subscriptTail_builtinR (x:=w) pl.typeIs slot_tuple_getitem.lookup
  (getItem_tuple (j:=j) (Q:=fun r s'=>r=w/\EP X af σ Q r s') pl (by lia) (by lia) (by rw[bQ,<-hl];exact h1) (by simpa using ew) ⟨rfl,dU⟩) hs
theorem yD(its:List Value)(n j:Nat)(u:Value):Obj.mapSeq (·.setIfInBounds j u) { cls:=.type "list",data:=.seq its.toArray n }={ cls:=.type "list",data:=.seq (its.set j u).toArray n }:=by
 simp[Obj.mapSeq]
theorem aT.lst(I:aT X af σ H s)(h:H p=some (.lst xs)):
  ∃ (its:List Value) (n:Nat),aZ xs its/\s.heap.get? p=some { cls:=.type "list",data:=.seq its.toArray n }/\xs.length<=sizeLine:=by
 obtain⟨z,its,n,r,e⟩:=I.cL p _ h;exact⟨its,n,r,e,z⟩
theorem aT.Kv{af:List (Addr×Obj)}{σ:St}{H:Hp}{s:Shared}{p:Addr}{xs ys:List V}{its its':List Value}{n n':Nat}{f:Obj->Obj}(I:aT X af σ H s)(h:H p=some (.lst xs))(ho:s.heap.get? p=some { cls:=.type "list",data:=.seq its.toArray n })(hf:f { cls:=.type "list",data:=.seq its.toArray n }={ cls:=.type "list",data:=.seq its'.toArray n' })(r:aZ ys its')(hz:ys.length<=sizeLine)(t:Nat):
  aT X af σ (upd H p (.lst ys)) { s with heap:=s.heap.update p f,toks:=t }:=by
 have e:(s.heap.update p f).get? p=some { cls:=.type "list",data:=.seq its'.toArray n' }:=by
  rw[xR f ho (by rw[hf] <;> rfl),hf]
 refine I.write (x:=p) (e:=p) (by rw[h];trivial) (.inl rfl) (fun b u hb q=>(xL _ _ (gU hb)).trans q) ⟨_,e⟩ ?_;exact⟨hz,its',n',r,e⟩
def N3:V->V->V->Hp->(Hp->Prop)->Prop:=fun o i v H Q=>∃p xs k j,o=.ref p/\i=.int k/\H p=some (.lst xs)/\Df xs.length k=some j/\Q (upd H p (.lst (xs.set j v)))
theorem dt:NN X N3:=by
 intro af s σ H o i v ov iv u Q I ro ri rv h;obtain⟨p,xs,k,j,rfl,rfl,hp,hj,q⟩:=h;cases ro;obtain⟨t,rfl⟩:=ri;obtain⟨its,n,r,ho,hz⟩:=I.lst hp;obtain⟨h1,h2,h3,h4⟩:=lT hj;have hl:=r.length;have hn:=uo;have I':aT X af σ (upd H p (.lst (xs.set j v))) { s with heap:=s.heap.update p (Obj.mapSeq (·.setIfInBounds j u)) }:=
  I.Kv hp ho (yD its n j u) (r.set rv j) (by rw[gg];exact hz) s.toks
 by_cases h0:0<=k
 .have hk:k.toNat=j:=by
   rw[seqIndex_of h0 h4] at h1;exact bW h1
  exact PySem.W.ki_setAt ho h0 (by lia) (by rw[bQ,<-hl];exact h4) (by rw[hk];exact⟨_,I',q⟩)
 .have hk:(k+(its.toArray.size:Int)).toNat=j:=by
   rw[seqIndex_neg (by lia) h3] at h1;rw[bQ,<-hl];exact bW h1
  exact PySem.W.ki_setBack ho (by lia) (by rw[bQ,<-hl];exact h3) (by lia) (by rw[hk];exact⟨_,I',q⟩)
theorem uv(lo hi:Option Int)(n:Nat):(sliceBounds lo hi none n).1=((HT.d8 n 0 lo:Nat):Int)/\(sliceBounds lo hi none n).2.1=((HT.d8 n n hi:Nat):Int)/\(sliceBounds lo hi none n).2.2=1:=by
 refine⟨?_,?_,rfl⟩
 .cases lo with
  |none=>simp[sliceBounds,HT.d8]
  |some i=>
   simp only[sliceBounds,HT.d8,Option.getD_none,show (1:Int) > 0 by decide,iw];by_cases h:i<0
   .simp only[h,iw] <;> lia
   .simp only[h,fU] <;> lia
 .cases hi with
  |none=>simp[sliceBounds,HT.d8]
  |some i=>
   simp only[sliceBounds,HT.d8,Option.getD_none,show (1:Int) > 0 by decide,iw];by_cases h:i<0
   .simp only[h,iw] <;> lia
   .simp only[h,fU] <;> lia
theorem rA(its:List Value)(lo hi:Option Int):slicePick its.toArray lo hi none=((its.drop (HT.d8 its.length 0 lo)).take (HT.d8 its.length its.length hi-HT.d8 its.length 0 lo)).toArray:=by
 obtain⟨h1,h2,h3⟩:=uv lo hi its.toArray.size;unfold slicePick;rw[h1,h2,h3];simp only[sliceRange_one,pick_run,bQ] <;> rfl
def SL(K:PySem.W.Frag):V->Option Int->Option Int->Hp->VK->Prop:=fun x lo hi H Q=>∃a xs,x=.ref a/\aQ K H a xs/\∀p,H p=none->Q (.ref p) (upd H p (.lst (lS xs lo hi)))
theorem z8:Rm X (SL X.K):=by
 intro af s σ H x v vl vu lo hi sl Q I rx hs pl pu h;obtain⟨a,xs,rfl,hx,q⟩:=h;cases rx;obtain⟨its,r,ht,hz⟩:=I.list hx;have dq:=r.length;refine⟨"list",_,slot_list_getitem.lookup,ht.isList.typeIs,?_⟩;refine wpAny_getItem_list_slice ht.isList hs pl pu .none (by simp) ?_ (by rw[bQ] <;> lia);rw[rA,<-dq];refine⟨.ref s.heap.objs.size,_,I.laid (t':=s.toks) (o:=.lst (lS xs lo hi)) (fun b ob q=>bV _ q) (aU _) ?_,rfl,q _ (I.cL.fresh (aU _))⟩;exact⟨bw (oB xs lo hi) hz,_,0,(r.drop (HT.d8 xs.length 0 lo)).take (HT.d8 xs.length xs.length hi-HT.d8 xs.length 0 lo),cD _ rfl⟩
def dJ:V->Bool
 |.b_=>true
 |.bl _=>true
 |.int _=>true
 |.str _=>true
 |_=>false
def iX:V->V->Bool
 |.b_,.b_=>true
 |.bl a,.bl b=>a==b
 |.bl a,.int b=>(if a then 1 else 0)==b
 |.int a,.bl b=>a==(if b then 1 else 0)
 |.int a,.int b=>a==b
 |.str a,.str b=>a==b
 |_,_=>false
theorem Di(ry:bT y u)(rx:bT x v)(fy:dJ y=true)(fx:dJ x=true):SeqAt.EqAt A s u v (iX y x):=by
 cases y with
 |b_=>
  cases ry;cases x with
  |b_=>cases rx;exact SeqAt.EqAt.same _
  |bl b=>cases rx;exact SeqAt.EqAt.none_bool b
  |int b=>obtain⟨t,rfl⟩:=rx;exact SeqAt.EqAt.none_int b t
  |str b=>obtain⟨t,rfl⟩:=rx;exact SeqAt.EqAt.none_str b t
  |_=>exact absurd (show false=true from fx) cp
 |bl a=>
  cases ry;cases x with
  |b_=>cases rx;exact SeqAt.EqAt.bool_none a
  |bl b=>cases rx;exact SeqAt.EqAt.bool_bool a b
  |int b=>obtain⟨t,rfl⟩:=rx;exact SeqAt.EqAt.bool_int a b t
  |str b=>obtain⟨t,rfl⟩:=rx;exact SeqAt.EqAt.bool_str a b t
  |_=>exact absurd (show false=true from fx) cp
 |int a=>
  obtain⟨t',rfl⟩:=ry;cases x with
  |b_=>cases rx;exact SeqAt.EqAt.int_none a t'
  |bl b=>cases rx;exact SeqAt.EqAt.int_bool a t' b
  |int b=>obtain⟨t,rfl⟩:=rx;exact SeqAt.EqAt.int_int a t' b t
  |str b=>obtain⟨t,rfl⟩:=rx;exact SeqAt.EqAt.int_str a t' b t
  |_=>exact absurd (show false=true from fx) cp
 |str a=>
  obtain⟨t',rfl⟩:=ry;cases x with
  |b_=>cases rx;exact SeqAt.EqAt.str_none a t'
  |bl b=>cases rx;exact SeqAt.EqAt.str_bool a t' b
  |int b=>obtain⟨t,rfl⟩:=rx;exact SeqAt.EqAt.str_int a t' b t
  |str b=>obtain⟨t,rfl⟩:=rx;exact SeqAt.EqAt.str_str a t' b t
  |_=>exact absurd (show false=true from fx) cp
 |_=>exact absurd (show false=true from fy) cp
def r6(x:V)(u:Value):Bool:=match u with
 |.none=>iX .b_ x
 |.bool b=>iX (.bl b) x
 |.int i _=>iX (.int i) x
 |.str z _=>iX (.str z) x
 |_=>false
theorem Dj(r:bT y u)(f:dJ y=true):r6 x u=iX y x:=by
 cases y with
 |b_=>cases r;rfl
 |bl b=>cases r;rfl
 |int i=>obtain⟨t,rfl⟩:=r;rfl
 |str z=>obtain⟨t,rfl⟩:=r;rfl
 |_=>exact absurd (show false=true from f) cp
theorem ke:∀ {xs:List V} {us:List Value},aZ xs us->xs.all dJ=true->us.any (r6 x)=xs.any fun y=>iX y x
 |_,_,.nil,_=>rfl
 |y::xs,u::us,.cons r t,f=>by
  rw[jA,fE] at f;rw[iq,iq,Dj r f.1,ke t f.2]
theorem gY(rx:bT x v)(fx:dJ x=true):∀ {xs:List V} {us:List Value},aZ xs us->xs.all dJ=true->∀u∈us,SeqAt.EqAt A s u v (r6 x u)
 |_,_,.nil,_=>fun u hu=>by cases hu
 |y::xs,u::us,.cons r t,f=>fun u' hu=>by
  rw[jA,fE] at f;rcases bX.mp hu with rfl|hu
  .rw[Dj r f.1];exact Di r rx f.1 fx
  .exact gY rx fx t f.2 u' hu
def Bh(x:V)(xs:List V):Bool:=xs.any fun y=>iX y x
def Kw(K:PySem.W.Frag)(N4:Bool):R2:=fun x y H Q=>∃p xs,y=.ref p/\(aQ K H p xs\/bD K H p xs)/\dJ x=true/\xs.all dJ=true/\Q (.bl (if N4 then !Bh x xs else Bh x xs)) H
theorem r9:k7 X (compareOp .In) (Kw X.K false):=by
 intro af s σ H x y v u Q I rx ry h;obtain⟨p,xs,rfl,hq,fx,fs,q⟩:=h;cases ry;rcases hq with hq|hq
 .obtain⟨its,r,pl,hz⟩:=I.list hq;refine SeqAt.in_listAt (r6 x) pl.isList (fun w hw=>gY rx fx r fs w (by simpa using hw)) ⟨.bl _,H,I,rfl,?_⟩;rw[show its.toArray.any (r6 x)=its.any (r6 x) by simp,ke r fs];exact q
 .obtain⟨its,r,pl,hz⟩:=I.tuple hq;refine SeqAt.in_tupleAt (r6 x) pl (fun w hw=>gY rx fx r fs w (by simpa using hw)) ⟨.bl _,H,I,rfl,?_⟩;rw[show its.toArray.any (r6 x)=its.any (r6 x) by simp,ke r fs];exact q
theorem lU:k7 X (compareOp .NotIn) (Kw X.K true):=by
 intro af s σ H x y v u Q I rx ry h;obtain⟨p,xs,rfl,hq,fx,fs,q⟩:=h;cases ry;rcases hq with hq|hq
 .obtain⟨its,r,pl,hz⟩:=I.list hq;refine x_ (r6 x) pl.isList (fun w hw=>gY rx fx r fs w (by simpa using hw)) ⟨.bl _,H,I,rfl,?_⟩;rw[show its.toArray.any (r6 x)=its.any (r6 x) by simp,ke r fs];exact q
 .obtain⟨its,r,pl,hz⟩:=I.tuple hq;refine SeqAt.notIn_tupleAt (r6 x) pl (fun w hw=>gY rx fx r fs w (by simpa using hw)) ⟨.bl _,H,I,rfl,?_⟩;rw[show its.toArray.any (r6 x)=its.any (r6 x) by simp,ke r fs];exact q
theorem aD:eX X (.builtin "len") (fun xs H Q=>∃p ys,xs=[.ref p]/\(aQ X.K H p ys\/bD X.K H p ys)/\Q (.int ys.length) H):=by
 intro af s σ H xs us Q I r h;obtain⟨p,ys,rfl,hq,q⟩:=h;obtain⟨u,rfl,rx⟩:=zZ r;cases rx;have hn:=uo;rcases hq with hq|hq
 .obtain⟨its,r',pl,hz⟩:=I.list hq;have dq:=r'.length;exact Calls.call_len_list pl.isList (by simp only[bQ] <;> lia) ⟨.int ys.length,H,I.tok _,⟨s.toks+1,by rw[bQ,dq]⟩,q⟩
 .obtain⟨its,r',pl,hz⟩:=I.tuple hq;have dq:=r'.length;exact len_tuple pl (by simp only[bQ] <;> lia) ⟨.int ys.length,H,I.tok _,⟨s.toks+1,by rw[bQ,dq]⟩,q⟩
theorem iY:eX X (.type "list") (fun xs H Q=>∃p ys,xs=[.ref p]/\(aQ X.K H p ys\/bD X.K H p ys)/\∀l,H l=none->Q (.ref l) (upd H l (.lst ys))):=by
 intro af s σ H xs us Q I r h;obtain⟨p,ys,rfl,hq,q⟩:=h;obtain⟨u,rfl,rx⟩:=zZ r;cases rx;have dU:∀ (its:List Value),aZ ys its->ys.length<=sizeLine->∀ (h':Heap) (c':Nat),(∀b o',s.heap.get? b=some o'->h'.get? b=some o')->
   h'.get? s.heap.objs.size=some { cls:=.type "list",dict:=none,data:=.seq its.toArray c',slots:=#[] }->EP X af σ Q (.ref s.heap.objs.size) { s with heap:=h' }:=fun its r' hz h' c' kp e=>
  ⟨.ref s.heap.objs.size,_,I.laid (t':=s.toks) kp (aU _) (show cz X.prog X.w _ h' _ (.lst ys) from ⟨hz,its,c',r',e⟩),rfl,q _ (I.cL.fresh (aU _))⟩
 rcases hq with hq|hq
 .obtain⟨its,r',pl,hz⟩:=I.list hq;have dq:=r'.length;obtain⟨o,ho,hc,n,hd⟩:=pl.isList;exact call_list_seq p (.inl rfl) ho hc hd (fun h' c' kp e=>dU its r' hz h' c' kp e) (by simp only[bQ] <;> lia)
 .obtain⟨its,r',pl,hz⟩:=I.tuple hq;have dq:=r'.length;obtain⟨o,ho,hc,n,hd⟩:=pl;exact call_list_seq p (.inr rfl) ho hc hd (fun h' c' kp e=>dU its r' hz h' c' kp e) (by simp only[bQ] <;> lia)
theorem dM:eX X (.type "tuple") (fun xs H Q=>∃p ys,xs=[.ref p]/\((aQ X.K H p ys/\∀l,H l=none->Q (.ref l) (upd H l (.tup ys)))\/(bD X.K H p ys/\Q (.ref p) H))):=by
 intro af s σ H xs us Q I r h;obtain⟨p,ys,rfl,h⟩:=h;obtain⟨u,rfl,rx⟩:=zZ r;cases rx;rcases h with ⟨hq,q⟩|⟨hq,q⟩
 .obtain⟨its,r',pl,hz⟩:=I.list hq;have dq:=r'.length;refine call_tuple_list pl.isList (fun h' kp=>?_) (by simp only[bQ] <;> lia);have I1:aT X af σ H { s with heap:=h' }:=I.kept (t':=s.toks) kp;have I2:aT X af σ (upd H h'.objs.size (.tup ys)) { s with heap:=h'.push { cls:=.type "tuple",data:=.seq its.toArray } }:=
   I1.laid (t':=s.toks) (fun b o e=>bV _ e) (aU _) (show cz X.prog X.w _ _ _ (.tup ys) from ⟨hz,its,r',jE.new _ _⟩)
  exact⟨.ref h'.objs.size,_,I2,rfl,q _ (I1.cL.fresh (aU _))⟩
 .obtain⟨its,r',pl,hz⟩:=I.tuple hq;exact call_tuple_same pl ⟨.ref p,H,I,rfl,q⟩
def VX(K:PySem.W.Frag)(T:String)(x:V)(H:Hp):Prop:=match x with
 |.str _=>T="str"
 |.int _=>T="int"
 |.ref p=>(T="list"/\∃xs,aQ K H p xs)\/(T="tuple"/\∃o,K.lookup p=some o/\o.cls=.type "tuple"/\o.dict=none)\/
   (T="dict"/\((∃cG,H p=some (.dK cG))\/∃cG,H p=some (.dT cG)))\/(T="set"/\∃S n,H p=some (.set S n))
 |_=>False
theorem Kx(I:aT X af σ H s)(r:bT x v)(ty:VX X.K T x H):
  s.TypeIs v T/\∀a,v=.ref a->∃ob,s.heap.get? a=some ob/\ob.dict=none:=by
 cases x with
 |str z=>
  obtain⟨t,rfl⟩:=r;cases (show T="str" from ty);exact⟨typeIs_str s z t,fun _ e=>nomatch e⟩
 |int i=>
  obtain⟨t,rfl⟩:=r;cases (show T="int" from ty);exact⟨typeIs_int s i t,fun _ e=>nomatch e⟩
 |ref p=>
  cases r;rcases ty with ⟨rfl,xs,hq⟩|⟨rfl,o,hk,hc,hd⟩|⟨rfl,hk⟩|⟨rfl,S,n,hk⟩
  .obtain⟨its,_,pl,_⟩:=I.list hq;refine⟨pl.isList.typeIs,fun a e=>?_⟩;cases e;obtain⟨o,n,e,c,hd,_⟩:=pl;exact⟨o,e,hd⟩
  .refine⟨⟨o,I.oT p o hk,hc⟩,fun a e=>?_⟩;cases e;exact⟨o,I.oT _ o hk,hd⟩
  .have z:∃o,s.heap.get? p=some o/\o.ExactDict:=by
    rcases hk with ⟨cG,hk⟩|⟨cG,hk⟩
    .obtain⟨_,_,_,_,o,_,_,e,ex,_⟩:=I.cL p _ hk;exact⟨o,e,ex⟩
    .obtain⟨_,_,_,_,o,_,_,e,ex,_⟩:=I.cL p _ hk;exact⟨o,e,ex⟩
   obtain⟨o,e,ex⟩:=z;refine⟨⟨o,e,ex.1⟩,fun a e2=>?_⟩;cases e2;exact⟨o,e,ex.2.1⟩
  .obtain⟨o,_,_,_,e,ex,_⟩:=I.cL p _ hk;refine⟨⟨o,e,ex.1⟩,fun a e2=>?_⟩;cases e2;exact⟨o,e,ex.2.1⟩
 |_=>exact False.elim ty
def SN(K:PySem.W.Frag)(T:String)(r:V->List V->Hp->VK->Prop)(to:TE)(t:TA):TE:=fun σ H Q=>to σ H fun x H1=>VX K T x H1/\t σ H1 fun xs H2=>r x xs H2 Q
variable {o e:Expr} {es:List Expr} {to:TE} {t:TA} {name:Str} {oW jM:Pos} {T id:String} {r:V->List V->Hp->VK->Prop}
theorem fO(pa:PlainAttrs T)(slot:Slot T name id)(SO:typeOf (.builtin id)=pure (.type "method_descriptor"))(hm:VW X id r)(ho:PE X o to)(ha:PA X (e::es) t)(Dk:attributeBase o name X.env (eval o X.env)=eval o X.env:=by rfl)(Ky:((backTo jM (starEach (e::es) X.env)).all (fun x=>!x.1)&&(backToKw jM (keywordEach [] X.env)).all (fun x=>x.1.isSome)
   && decide ((e::es).length+([]:List Keyword).length+(if ([]:List Keyword).isEmpty then 0 else 1)<30))=true:=by rfl)(Dl:(oW.endLine==jM.line)=true:=by rfl)(hs:starEach (e::es) X.env=(false,eval e X.env)::starEach es X.env:=by rfl)(qw:(backTo jM (starEach es X.env)).any (·.1)=false:=by rfl):
  PE X (.Call (.Attribute o name oW) (e::es) [] jM) (SN X.K T r to t):=by
 intro af s σ H Q I h;refine wpAny_Call_method_late Dk Ky Dl rfl (cV (ho af s σ H _ I h) fun v s1 ⟨x,H1,I1,r1,ty,q1⟩=>?_);obtain⟨h1,h2⟩:=Kx I1 r1 ty;refine⟨T,id,pa,slot,SO,h1,h2,?_⟩;have hA:=ha jM af s1 σ H1 _ I1 q1;rw[hs] at hA |-;refine Calls.callWith_builtin (by show (false||(backTo jM (starEach es X.env)).any (·.1))=false;rw[qw] <;> rfl) (Calls.evalArgs_plain ?_);exact cV hA fun us s2 ⟨vs,H2,I2,r2,q2⟩=>hm af s2 σ H2 x vs v us Q I2 r1 r2 q2
end
def M1(X:Cx)(id:String)(r:V->List V->Hp->VK->Prop):Prop:=
 ∀ (af:List (Addr×Obj)) (s:Shared) (σ:St) (H:Hp) (x:V) (xs:List V) (v:Value) (us:List Value) (Q:VK),aT X af σ H s->bT x v->aZ xs us->r x xs H Q->
  wpAny (model X.prog X.w) X.A (call (.builtin id) (v::us)) (EP X af σ Q) X.xe s
theorem aZ.one{x:V}{us:List Value}(h:aZ [x] us):∃u,us=[u]/\bT x u:=by
 cases h with
 |cons r h=>cases h;exact⟨_,rfl,r⟩
theorem aZ.two{x y:V}{us:List Value}(h:aZ [x,y] us):∃u v,us=[u,v]/\bT x u/\bT y v:=by
 cases h with
 |cons r h=>
  cases h with
  |cons q h=>cases h;exact⟨_,_,rfl,r,q⟩
theorem aZ.eraseIdx:∀ {xs:List V} {us:List Value} (i:Nat),aZ xs us->aZ (xs.eraseIdx i) (us.eraseIdx i)
 |_,_,_,.nil=>.nil
 |_,_,0,.cons _ t=>t
 |_,_,i+1,.cons r t=>.cons r (aZ.eraseIdx i t)
theorem aZ.rep(h:aZ xs us):∀k:Nat,aZ (List.replicate k xs).flatten (List.replicate k us).flatten
 |0=>.nil
 |k+1=>by
  rw[lH,lH,qc,qc];exact aZ.append h (aZ.rep h k)
theorem r_:∀ (l:List α) (i:Nat),(l.eraseIdx i).length<=l.length
 |[],_=>aU _
 |_::_,0=>Nat.le_succ _
 |_::r,i+1=>Nat.succ_le_succ (r_ r i)
theorem se(its:List Value):∀ (k:Nat) (dN:List Value),
  List.foldl (fun x1 x2=>x1++x2) dN.toArray (List.replicate k its.toArray)=(dN++(List.replicate k its).flatten).toArray
 |0,dN=>by simp
 |k+1,dN=>by
  have e:dN.toArray++its.toArray=(dN++its).toArray:=by simp
  have e2:(dN++its)++(List.replicate k its).flatten=dN++(List.replicate (k+1) its).flatten:=by
   rw[lH,qc,cP]
  rw[<-e2,<-se its k (dN++its),<-e,lH,tU]
section
variable {X:Cx} {af:List (Addr×Obj)} {σ:St} {H:Hp} {s:Shared} {l b:Addr} {xs ys zs:List V}
theorem aT.Gi{its its':List Value}{n:Nat}{f:Array Value->Array Value}{t':Nat}(I:aT X af σ H s)(hH:H l=some (.lst xs))(e:s.heap.get? l=some { cls:=.type "list",data:=.seq its.toArray n })(hf:f its.toArray=its'.toArray)(hv:aZ ys its')(hz:ys.length<=sizeLine):
  aT X af σ (upd H l (.lst ys)) { s with heap:=s.heap.update l (Obj.mapSeq f),toks:=t' }:=by
 have q:=PySem.IsL.update e f;rw[hf] at q;refine I.write (x:=l) (e:=l) (by rw[hH];exact trivial) (.inl rfl) (fun b' u hb hu=>(xL s.heap (Obj.mapSeq f) (gU hb)).trans hu) ⟨_,q⟩ ?_;exact⟨hz,its',_,hv,q⟩
theorem aT.Kz(I:aT X af σ H s)(hv:aZ ys its)(hz:ys.length<=sizeLine):
  aT X af σ (upd H s.heap.objs.size (.lst ys)) { s with heap:=s.heap.push { cls:=.type "list",data:=.seq its.toArray },toks:=t' }:=
 I.laid (fun _ _ q=>bV _ q) (aU _) ⟨hz,its,0,hv,cD _ rfl⟩
theorem aT.fresh(I:aT X af σ H s):H s.heap.objs.size=none:=I.cL.fresh (aU _)
theorem aT.rB(I:aT X af σ H s)(hH:H l=some (.lst xs)):xs.length<=sizeLine/\∃ (its:List Value) (n:Nat),aZ xs its/\xs.length=its.length/\s.heap.get? l=some { cls:=.type "list",data:=.seq its.toArray n }:=by
 obtain⟨z,its,n,r,e⟩:=I.cL l _ hH;exact⟨z,its,n,r,r.length,e⟩
theorem vT(h:n<=sizeLine):Builtin.List.listTooLong n=false:=by
 unfold Builtin.List.listTooLong;exact cY (by lia)
end
section
variable {X:Cx}
def Gj:V->List V->Hp->VK->Prop:=fun x vs H Q=>∃l xs y,x=.ref l/\vs=[y]/\H l=some (.lst xs)/\xs.length<sizeLine/\Q .b_ (upd H l (.lst (xs++[y])))
theorem dO:M1 X "list.append" Gj:=by
 intro af s σ H x vs v us Q I rx rv h;obtain⟨l,xs,y,rfl,rfl,hH,hz,q⟩:=h;cases rx;obtain⟨u,rfl,ru⟩:=rv.one;obtain⟨z,its,n,r,hl,e⟩:=I.rB hH;refine iT F.slot_list_append ⟨_,e,rfl⟩ F.entry_list_append (F.args_list_append_2 _ _) (PySem.list_append l its.toArray n u (by rw[bQ];lia)) ⟨e,?_⟩;refine⟨.b_,_,I.Gi (its':=its++[u]) hH e (by simp) (r.append (.cons ru .nil)) ?_,rfl,q⟩;rw[cF,kC];lia
def Gk:V->List V->Hp->VK->Prop:=fun x vs H Q=>∃l b xs zs,x=.ref l/\vs=[.ref b]/\H l=some (.lst xs)/\H b=some (.lst zs)/\xs.length+zs.length<=sizeLine/\Q .b_ (upd H l (.lst (xs++zs)))
theorem kg:M1 X "list.extend" Gk:=by
 intro af s σ H x vs v us Q I rx rv h;obtain⟨l,b,xs,zs,rfl,rfl,hH,hB,hz,q⟩:=h;cases rx;obtain⟨u,rfl,ru⟩:=rv.one;cases ru;obtain⟨z,its,n,r,hl,e⟩:=I.rB hH;obtain⟨z2,jN,n2,r2,KA,e2⟩:=I.rB hB;have ku:its.toArray.size+jN.toArray.size<=sizeLine:=by rw[bQ,bQ];lia
 have Dm:¬ (!its.toArray.isEmpty&&Builtin.List.listTooLong (its.toArray.size+jN.toArray.size))=true:=by
  rw[vT ku,tX];exact cp
 refine iT F.slot_list_extend ⟨_,e,rfl⟩ F.entry_list_extend (F.args_list_extend_2 _ _)
  (AutoSeq1.list_extend_list_list_0 l its.toArray n b jN.toArray n2 Dm (by rw[bQ];lia) (by lia)) ⟨e,e2,?_⟩
 refine⟨.b_,_,I.Gi (its':=its++jN) hH e (by simp) (r.append r2) ?_,rfl,q⟩;rw[cF];lia
def Dn:V->List V->Hp->VK->Prop:=fun x vs H Q=>∃l xs i k y,x=.ref l/\vs=[.int i]/\H l=some (.lst xs)/\-(2 ^ 63)<=i/\i<2 ^ 63/\seqIndex? i xs.length=some k/\xs[k]?=some y/\Q y (upd H l (.lst (xs.eraseIdx k)))
theorem qx:M1 X "list.pop" Dn:=by
 intro af s σ H x vs v us Q I rx rv h;obtain⟨l,xs,i,k,y,rfl,rfl,hH,h1,h2,hk,hy,q⟩:=h;cases rx;obtain⟨u,rfl,ru⟩:=rv.one;obtain⟨t,rfl⟩:=ru;obtain⟨z,its,n,r,hl,e⟩:=I.rB hH;obtain⟨w,hw,Kd⟩:=r.get hy;refine iT F.slot_list_pop ⟨_,e,rfl⟩ F.entry_list_pop (F.args_list_pop_2 _ _)
  (MeetsSeq.list_pop_at l its.toArray n i t k w (fitsIndex_both h1 h2) (by rw[bQ,<-hl];exact hk) (by rw[<-mK];exact hw) (by rw[bQ];lia)) ⟨e,?_⟩
 refine⟨y,_,I.Gi (its':=its.eraseIdx k) hH e ?_ (r.eraseIdx k) ?_,Kd,q⟩
 .show its.toArray.eraseIdxIfInBounds k=(its.eraseIdx k).toArray;rw[CF]
 .have:=r_ xs k;lia
def SS:R2:=fun x y H Q=>∃l b xs zs,x=.ref l/\y=.ref b/\H l=some (.lst xs)/\H b=some (.lst zs)/\xs.length+zs.length<=sizeLine/\∀p,H p=none->Q (.ref p) (upd H p (.lst (xs++zs)))
theorem KB:k7 X (binaryOp .Add) SS:=by
 intro af s σ H x y v u Q I rx ry h;obtain⟨l,b,xs,zs,rfl,rfl,hH,hB,hz,q⟩:=h;cases rx;cases ry;obtain⟨z,its,n,r,hl,e⟩:=I.rB hH;obtain⟨z2,jN,n2,r2,KA,e2⟩:=I.rB hB;refine PySem.P.add_list e e2 ?_ (by rw[bQ,bQ];lia);have ea:its.toArray++jN.toArray=(its++jN).toArray:=by simp
 rw[ea];exact⟨.ref _,_,I.Kz (t':=s.toks) (r.append r2) (by rw[cF];lia),rfl,q _ I.fresh⟩
def SU:R2:=fun x y H Q=>∃l k xs,x=.ref l/\y=.int k/\H l=some (.lst xs)/\-(2 ^ 63)<=k/\k<2 ^ 63/\xs.length*k.toNat<=sizeLine/\
 ∀p,H p=none->Q (.ref p) (upd H p (.lst (List.replicate k.toNat xs).flatten))
theorem Gm(xs:List α)(k:Nat):(List.replicate k xs).flatten.length=k*xs.length:=by
 induction k with
 |zero=>simp
 |succ k ih=>rw[lH,qc,cF,ih,Nat.succ_mul,Nat.add_comm]
theorem uw:k7 X (binaryOp .Mult) SU:=by
 intro af s σ H x y v u Q I rx ry h;obtain⟨l,k,xs,rfl,rfl,hH,h1,h2,hz,q⟩:=h;cases rx;obtain⟨t,rfl⟩:=ry;obtain⟨z,its,n,r,hl,e⟩:=I.rB hH;have dq:its.toArray.size*k.toNat<=sizeLine:=by rw[bQ,<-hl];exact hz
 have SV:¬ its.toArray.size*k.toNat > (2 ^ 63-1) / 8:=by
  have:(sizeLine:Nat)<=(2 ^ 63-1) / 8:=by decide
  lia
 have SW:¬ (!Builtin.List.listFitsIndex k)=true:=by
  rw[fitsIndex_both h1 h2];exact cp
 have Dm:¬ Builtin.List.listTooLong (its.toArray.size*k.toNat)=true:=by
  rw[vT dq];exact cp
 have qy:List.foldl (fun x1 x2=>x1++x2) #[] (List.replicate (if its.toArray.isEmpty=true then 0 else k.toNat) its.toArray)=(List.replicate k.toNat its).flatten.toArray:=by
  have f0:∀m:Nat,List.foldl (fun x1 x2=>x1++x2) #[] (List.replicate m its.toArray)=(List.replicate m its).flatten.toArray:=fun m=>by
   have:=se its m [];rw[List.nil_append] at this;exact this
  rw[f0];cases its with
  |nil=>simp
  |cons a r'=>rw[aA (by simp)]
 refine wpAny_binaryOp_repeat_ref (T:="list") (U:="int") (by decide) ⟨_,e,rfl⟩ (fun s'=>typeIs_int s' k t) noFill_list_mul F.fills_int_mul F.slot_int_rmul repeat_list F.slot_int_index.lookup
  (iT F.slot_int_rmul (typeIs_int s k t) F.entry_int_rmul (F.args_int_rmul_2 _ _) (int___rmul___int_list k t l its.toArray n)
   ⟨e,rfl,⟨_,e,rfl⟩,iT F.slot_list_mul ⟨_,e,rfl⟩ F.entry_list_mul (F.args_list_mul_2 _ _) (AutoListH.list___mul___list_int_3 l its.toArray n k t SW SV Dm) ⟨e,?_⟩⟩)
 rw[qy];exact⟨.ref _,_,I.Kz (t':=s.toks) (r.rep k.toNat) (by rw[Gm,Nat.mul_comm];exact hz),rfl,q _ I.fresh⟩
end
section
variable {prog:Program} {w:World} {A:Around} {E:Value->Shared->Prop} {s:Shared}
end
section
variable {X:Cx}
end
end L2
namespace VY
open PySem PySem.W PySem.Calls PyProof.Rows
theorem oX:∀ (ns:List Int) (vs:List Value),WellAll P h vs (ns.map WData.int)->IntsAre vs ns:=by
 intro ns;induction ns with
 |nil=>
  intro vs w;rw[List.map_nil] at w;cases w;exact .nil
 |cons n ns ih=>
  intro vs w;rw[eE] at w;cases w with
  |cons a b=>
   cases a;exact .cons _ _ (ih _ b)
theorem Bi{l:OpenLaw}{n:Nat}(hn:l.most=some n){P:Params}{h:Heap}{args:List WData}{Do:List Value}(Gn:l.row.toRowW.claim.pre args=true)(SX:WellAll P h Do args):
  ∃a vs ns,Do=[Value.ref a]/\args=[WData.list (ns.map WData.int)]/\h.get? a=some { cls:=.type "list",data:=.seq vs.toArray }/\IntsAre vs ns/\ns.length<=n:=by
 have X7:WShape.hasAll [] args [.list .int]=true:=(pre_splitW Gn).1;have hc:l.pre.holds [] { args:=args }=true:=(pre_splitW Gn).2;obtain⟨d,r,rfl,h1,h2⟩:=hasAllW_cons X7;obtain rfl:=hasAllW_nil h2;obtain⟨xs,rfl,h3⟩:=hasW_list h1;obtain⟨ns,rfl⟩:=items_int h3;have dq:ns.length<=n:=by
  unfold OpenLaw.pre at hc;have h4:(WTm.not (.lt (.lit (.int (n:Int))) (.len (.arg 0)))).holds [] { args:=[.list (ns.map .int)] }=true:=by
   have h4:=(holds_andW hc).1;rw[hn] at h4;exact h4
  have h5:=condW_of h4 (w_not (w_lt w_lit (w_len_list (w_arg rfl))));rw[aO] at h5;refine Nat.le_of_not_lt fun q=>?_;have q':(n:Int)<((ns.length:Nat):Int):=by lia
  first
   |(rw[decide_eq_true q'] at h5;exact absurd h5 (by decide))
   |(simp at h5;lia)
 cases SX with
 |cons w1 w2=>
  cases w2;cases w1 with
  |list ho iZ=>exact⟨_,_,ns,rfl,rfl,ho,oX ns _ iZ,dq⟩
theorem Bj(l:OpenLaw)(args:List WData):l.row.toRowW.claim.post args (.bool true) args=true:=
 postW_of (r:=l.row.toRowW) (X:=(true==true))
  (show WShape.has [] (.bool true) .bool=true by first|rfl|decide|simp[WShape.has,WShape.arms,WShape.armsAll])
  (show (WTm.eq .res (.lit (.bool true))).value [] { args:=args,res:=some (.bool true),after:=args }=some (.bool (true==true)) from w_eq_bool (w_res rfl) w_lit) rfl
theorem vU{l:OpenLaw}{n:Nat}{q:Program}{sf:List Str}{XP:(Str->Option Value)->Heap->Prop}{YP:World->Heap->Prop}{d:DefRec}(hn:l.most=some n)(N5:d.params.defaults=[])(call:∀ (w:World) (s₀ s₁:Shared) (mg mb:Str->Option Value) (fa:Addr) (o:Obj) (pm cd lP:Value) (a:Addr) (vs:List Value) (ns:List Int),
   Ground q sf [] XP w s₀ mg mb s₁.heap->YP w s₁.heap->
   s₁.heap.get? fa=some o->o.data=.func (docDef d.name d.params d.body d.scope pm cd lP)->s₁.heap.CodeRec cd d.name->mg d.name=some (.ref fa)->
   s₁.heap.get? a=some { cls:=.type "list",data:=.seq vs.toArray }->IntsAre vs ns->ns.length<=n->s₁.gens=#[]->
   codeAny (model l.prog w) callerA (.call (.ref fa) ⟨[.ref a],[]⟩) (fun r s'=>r=.ok (.ret (.bool true))/\OldK s₁.heap s'.heap/\s'.os=s₁.os/\AllBare s'.gens) s₁):
  WalkO q sf XP YP l.row.toRowW d [] (fun f vs=>PySem.call f vs):=by
 intro w s₀ s₁ mg mb G Y fa o pm cd lP dV kV ho hd rd hD N6 hg args Do as Gn X8 hrd SX Rn;obtain rfl:dV=.none:=Dflts.none hD N5;obtain rfl:kV=.none:=Dflts.noKw hD;obtain⟨a,vs,ns,rfl,rfl,KC,Dp,dq⟩:=Bi hn Gn SX;refine enter_call (nh (call w s₀ s₁ mg mb fa o pm cd lP a vs ns G Y ho (fd_plain hd) rd N6 KC Dp dq hg) fun r s' hq=>?_);obtain⟨rfl,h2,h3,h4⟩:=hq;exact⟨.inl ⟨.bool true,.bool true,[],rfl,fun _=>rfl,.bool true,Bj l _,fun _=>⟨List.Pairwise.nil,fun _ hm=>(nomatch hm)⟩⟩,h2,h3,h4⟩
section
variable {prog:Program} {w:World} {A:Around} {E:Value->Shared->Prop} {s:Shared} {K:Frag}
end
end VY
namespace L2
open PySem PySem.Spec PyProof.Rows
theorem nB:∀ {vs:List Value} {ns:List Int},IntsAre vs ns->aZ (ns.map V.int) vs
 |_,_,.nil=>.nil
 |_,_,.cons n t h=>.cons ⟨t,rfl⟩ (nB h)
def pE(s:Stmt)(j:Nat):Stmt:=match s with
 |.ClassDef _ _ _ body _ _ _ _ _ _ _=>body.getD j (.Pass ⟨0,0,0,0⟩)
 |_=>.Pass ⟨0,0,0,0⟩
def dC(s:Stmt):Arguments:=match s with
 |.FunctionDef _ a _ _ _ _ _ _ _ _=>a
 |_=>{ posonlyargs:=[],args:=[],vararg:=none,kwonlyargs:=[],kw_defaults:=[],kwarg:=none,defaults:=[] }
def cw(s:Stmt):List Stmt:=match s with
 |.FunctionDef _ _ b _ _ _ _ _ _ _=>b
 |_=>[]
def az(s:Stmt):Scope:=match s with
 |.FunctionDef _ _ _ _ _ _ sc _ _ _=>sc
 |_=>{ kind:=.function,names:=[],isGenerator:=false,isCoroutine:=false }
abbrev bE:w_:=fun _ _ _ _ _ _=>False
abbrev E0:XK:=fun _ _ _=>False
theorem aR:k9 bE X E0:=fun _ _ _ _ _ _ _ h=>h.elim
structure hW(K:PySem.W.Frag)(x qual:Str)(st:Stmt)(f:Addr)(fd:FuncData):Prop where
 ex:∃ (oc:Value) (od:Option Addr) (kV lP pm:Value) (an:Option Addr) (eQ ct:Value) (ut:Array (Option Value)),
  fd=PySem.W.fnOf x qual (dC st) (cw st) (az st) .none kV lP pm an eQ ct/\K.lookup f=some ⟨oc,od,.func fd,ut⟩/\PySem.W.codeIn K eQ qual=true
 kp:PySem.W.keepIn K (.ref f)=true
section
variable {P:Program} {w:World} {K:PySem.W.Frag} {mg:Str->Option Value} {base:Heap}
theorem hW.ok{x qual:Str}{st:Stmt}{f:Addr}{fd:FuncData}{N ps:List Str}{k:Nat}{sp:Sp}(F:hW K x qual st f fd)(S:aS N ps (az st))(len:∀vs H Q E,sp vs H Q E->vs.length=ps.length)(vS:∀ (eQ:Value) (A:Around) (outer:List Env) (s:Shared) (H:Hp) (vs:List V) (Q:VK) (E:XK),dk k (A.deeper (envOfC qual (az st) s.heap.objs.size f eQ))->sp vs H Q E->
   ∃t,yk (ur bE P w K mg base N qual (az st) f eQ A outer s H E).Jd (cw st) t/\t { nx:=fun _ H'=>Q .b_ H',rt:=Q } (start N vs) H):bY P w K mg base bE (k+1) f fd ps sp:=by
 obtain⟨oc,od,kV,lP,pm,an,eQ,ct,ut,rfl,lk,rd⟩:=F.ex;refine Jh lk rd S len fun A outer s H vs Q E hr FR=>?_;obtain⟨t,h,q⟩:=vS eQ A outer s H vs Q E hr FR;exact⟨t,h.Jd,q⟩
theorem hW.binds{x qual:Str}{st:Stmt}{f:Addr}{fd:FuncData}{ps:List Str}(F:hW K x qual st f fd)(h:∀ (kV lP pm:Value) (an:Option Addr) (eQ ct:Value) (us:List Value),us.length=ps.length->bindArgs (PySem.W.fnOf x qual (dC st) (cw st) (az st) .none kV lP pm an eQ ct) ⟨us,[]⟩=pure (ps.zip us)):jL K fd ps []:=by
 obtain⟨oc,od,kV,lP,pm,an,eQ,ct,ut,rfl,lk,rd⟩:=F.ex;exact .all (h kV lP pm an eQ ct)
theorem ux{x qual:Str}{st:Stmt}{f:Addr}{oc:Value}{od an:Option Addr}{ut:Array (Option Value)}{kV lP pm eQ ct:Value}(l:K.lookup f=some ⟨oc,od,.func (PySem.W.fnOf x qual (dC st) (cw st) (az st) .none kV lP pm an eQ ct),ut⟩)(c:PySem.W.codeIn K eQ qual=true)(k:PySem.W.keepIn K (.ref f)=true):hW K x qual st f (PySem.W.fnOf x qual (dC st) (cw st) (az st) .none kV lP pm an eQ ct):=⟨⟨oc,od,kV,lP,pm,an,eQ,ct,ut,rfl,l,c⟩,k⟩
end
section
variable {X:Cx}
theorem pv(i:Nat)(hN:X.N[i]?=some x:=by rfl)(hv:Nw X.env.scope x:=by first|exact Or.inl rfl|exact Or.inr aM|exact Or.inr bo)(hd:(x==("__debug__":Str))=false:=by decide)(rd:(x==("__classdict__":Str))=false:=by decide):PE X (.Name x pos) (aK i):=J5 hN hv hd rd
end
theorem dQ{A B:Prop}(h:B):if false=true then A else B:=by
 rw[aA cp];exact h
theorem iG{A B:Prop}(h:A):if true=true then A else B:=by
 rw[am rfl];exact h
theorem d9{c A B:Prop}[Decidable c](h1:c->A)(h2:¬ c->B):if c then A else B:=by
 by_cases h:c
 .rw[am h];exact h1 h
 .rw[aA h];exact h2 h
def aG(H H':Hp):Prop:=∀b o,H b=some o->H' b=some o
theorem aG.refl(H:Hp):aG H H:=fun _ _ h=>h
theorem aG.trans(a:aG H H1)(b:aG H1 H2):aG H H2:=fun c o h=>b c o (a c o h)
theorem aG.free(e:aG H H')(h:H' l=Option.none):H l=Option.none:=by
 cases q:H l with
 |none=>rfl
 |some o=>
  rw[e l o q] at h;cases h
def Jj(src:List (Option Nat))(σ:St):St:=src.map fun o=>match o with|some j=>σ.getD j none|none=>none
theorem Go{src:List (Option Nat)}{σ:St}{i:Nat}{v:V}(h:(Jj src σ)[i]?=some (some v)):∃j,src[i]?=some (some j)/\σ[j]?=some (some v):=by
 unfold Jj at h;rw[bZ] at h;cases e:src[i]? with
 |none=>rw[e] at h;cases h
 |some o=>
  rw[e] at h;cases o with
  |none=>cases h
  |some j=>
   refine⟨j,rfl,?_⟩;have h':σ.getD j none=some v:=bW h;rw[bb] at h';cases e2:σ[j]? with
   |none=>rw[e2] at h';cases h'
   |some o=>rw[e2] at h';rw[show o=some v from h']
structure gZ(NB:List Str)(src:List (Option Nat))(scope:Scope)(X:Cx):Prop where
 kind:scope.kind=.function
 nd:NB.Nodup
 len:src.length=NB.length
 cells:∀y∈scope.names,y.2=.cell->scope.names.lookup y.1=some .cell
 names:∀y∈scope.names,y.2=.local->scope.names.lookup y.1=some .local
 free:∀y∈scope.names,y.2=.free->X.env.scope.names.lookup y.1=some .cell\/X.env.scope.names.lookup y.1=some .free
 src:∀ (i:Nat) (x:Str) (j:Nat),NB[i]?=some x->src[i]?=some (some j)->X.N[j]?=some x/\scope.names.lookup x=some .free
def uy(scope:Scope)(x:Str):Bool:=match scope.names.lookup x with
 |some .cell=>true
 |_=>false
theorem vV:uy scope x=true↔scope.names.lookup x=some .cell:=by
 unfold uy;split
 .rename_i h;exact⟨fun _=>h,fun _=>rfl⟩
 .rename_i h;exact⟨fun z=>(by cases z),fun z=>absurd z h⟩
def z9(X:Cx)(NB:List Str)(scope:Scope)(cl:List (Str×Addr))(C:Addr)(s₃:Shared)(H₃:Hp)(fp:List Addr):Cx:=
 { X with N:=NB,s₀:=s₃,H₀:=H₃,env:=compEnvC scope cl C X.env,outer:=X.stack,stack:=X.stack,ex:=fp,fn:=uy scope,pn:=[],xe:=fun _ _=>False }
theorem k_:∀ (names:List (Str×NameKind)) (dN:List (Str×Addr)),(∀y∈names,y.2=NameKind.free->∃c,env.cells.lookup y.1=some c)->(∀x c,dN.lookup x=some c->env.cells.lookup x=some c)->
  ∃cl,(forIn names dN fun x r=>(if (x.2==NameKind.free)=true then (do let a <- cellOf env x.1;pure (ForInStep.yield ((x.1,a)::r))) else pure (ForInStep.yield r):Sem (ForInStep (List (Str×Addr)))))=(pure cl:Sem (List (Str×Addr)))/\
   (∀x c,cl.lookup x=some c->env.cells.lookup x=some c)/\(∀x c,dN.lookup x=some c->∃c',cl.lookup x=some c')/\∀x,(x,NameKind.free)∈names->∃c,cl.lookup x=some c
 |[],dN,_,ha=>⟨dN,by rw[tW],ha,fun x c h=>⟨c,h⟩,fun x h=>nomatch h⟩
 |(n,k)::r,dN,hf,ha=>by
  by_cases hk:k=NameKind.free
  .subst hk;obtain⟨c,hc⟩:=hf (n,NameKind.free) bU rfl;have N7:∀x c',((n,c)::dN).lookup x=some c'->env.cells.lookup x=some c':=fun x c' h=>by
    rw[gC] at h;cases hx:x==n with
    |true=>
     rw[hx] at h;cases h;have:x=n:=by simpa using hx
     rw[this];exact hc
    |false=>rw[hx] at h;exact ha x c' h
   obtain⟨cl,e1,e2,e3,e4⟩:=k_ r ((n,c)::dN) (fun y hy=>hf y (cU _ hy)) N7;refine⟨cl,?_,e2,fun x c' h=>?_,fun x h=>?_⟩
   .rw[tT];have ec:cellOf env n=pure c:=by unfold cellOf;rw[hc]
    have e0:(if ((n,NameKind.free).2==NameKind.free)=true then (do let a <- cellOf env (n,NameKind.free).1;pure (ForInStep.yield (((n,NameKind.free).1,a)::dN))) else pure (ForInStep.yield dN):Sem (ForInStep (List (Str×Addr))))=pure (ForInStep.yield ((n,c)::dN)):=by
     rw[am (show (NameKind.free==NameKind.free)=true by decide)];show cellOf env n >>= _=_;rw[ec];rfl
    rw[e0];exact e1
   .cases hx:x==n with
    |true=>exact e3 x c (by rw[gC,hx])
    |false=>exact e3 x c' (by rw[gC,hx];exact h)
   .rcases bX.mp h with h|h
    .cases h;exact e3 n c (by rw[gC];simp)
    .exact e4 x h
  .obtain⟨cl,e1,e2,e3,e4⟩:=k_ r dN (fun y hy=>hf y (cU _ hy)) ha;refine⟨cl,?_,e2,e3,fun x h=>?_⟩
   .rw[tT];have hb:(k==NameKind.free)=false:=by simpa using hk
    have e0:(if ((n,k).2==NameKind.free)=true then (do let a <- cellOf env (n,k).1;pure (ForInStep.yield (((n,k).1,a)::dN))) else pure (ForInStep.yield dN):Sem (ForInStep (List (Str×Addr))))=pure (ForInStep.yield dN):=by
     rw[aA (by show ¬ (k==NameKind.free)=true;rw[hb];decide)]
    rw[e0];exact e1
   .rcases bX.mp h with h|h
    .cases h;exact absurd rfl hk
    .exact e4 x h
theorem lc(ok:X.Ok)(S:gZ NB src scope X):
  ∃cl,closureFor scope X.env=pure cl/\(∀x c,cl.lookup x=some c->X.env.cells.lookup x=some c)/\∀x,(x,NameKind.free)∈scope.names->∃c,cl.lookup x=some c:=by
 obtain⟨cl,e1,e2,_,e4⟩:=k_ (env:=X.env) scope.names [] (fun y hy hk=>ok.has y.1 (S.free y hy hk)) (fun x c h=>nomatch h);refine⟨cl,?_,e2,e4⟩;unfold closureFor;simp only[bind_pure];exact e1
theorem uz(h:scope.names.lookup x=some .free):(relabel scope env).names.lookup x=some .cell\/(relabel scope env).names.lookup x=some .free:=by
 have go:∀names:List (Str×NameKind),names.lookup x=some .free->
   (names.map fun (n,k)=>if (k==NameKind.free&&env.scope.kind==.function&&env.kindOf n==some .cell) then (n,NameKind.cell) else (n,k)).lookup x=some .cell\/
   (names.map fun (n,k)=>if (k==NameKind.free&&env.scope.kind==.function&&env.kindOf n==some .cell) then (n,NameKind.cell) else (n,k)).lookup x=some .free:=by
  intro names;induction names with
  |nil=>intro h;simp at h
  |cons y r ih=>
   intro h;obtain⟨n,k⟩:=y;rw[gC] at h;rw[eE];cases hx:x==n with
   |true=>
    rw[hx] at h;cases h;by_cases hc:(NameKind.free==NameKind.free&&env.scope.kind==.function&&env.kindOf n==some .cell)=true
    .left;show List.lookup x ((if _ then _ else _)::_)=_;rw[am hc,gC,hx]
    .right;show List.lookup x ((if _ then _ else _)::_)=_;rw[aA hc,gC,hx]
   |false=>
    rw[hx] at h;by_cases hc:(k==NameKind.free&&env.scope.kind==.function&&env.kindOf n==some .cell)=true
    .show List.lookup x ((if _ then _ else _)::_)=_\/List.lookup x ((if _ then _ else _)::_)=_;rw[am hc,gC,hx];exact ih h
    .show List.lookup x ((if _ then _ else _)::_)=_\/List.lookup x ((if _ then _ else _)::_)=_;rw[aA hc,gC,hx];exact ih h
 exact go scope.names h
theorem lV(h:(relabel scope env).names.lookup x=some k)(hk:k=.cell\/k=.free):(x,NameKind.free)∈scope.names\/(x,NameKind.cell)∈scope.names:=by
 have m:=ow h;obtain⟨⟨n,k'⟩,hm,e⟩:=bn.mp m;by_cases q:(k'==NameKind.free&&env.scope.kind==.function&&env.kindOf n==some .cell)=true
 .have e':(n,NameKind.cell)=(x,k):=by simpa [q] using e
  have k1:k'=NameKind.free:=by
   simp only[fE,fc] at q;exact q.1.1
  cases e';left;rw[<-k1];exact hm
 .have e':(n,k')=(x,k):=by simpa [q] using e
  cases e';rcases hk with z|z
  .subst z;exact .inr hm
  .subst z;exact .inl hm
theorem nC:∀ (names:List (Str×NameKind)) (h:Heap) (dN:List (Str×Addr)) (x:Str) (c:Addr),(cellsFrom h.objs.size names dN).lookup x=some c->dN.lookup x=some c\/(h.objs.size<=c/\(pushCells h names).IsCell c none)
 |[],_,_,_,_,e=>.inl e
 |(name,kind)::r,h,dN,x,c,e=>by
  unfold cellsFrom at e;unfold pushCells;split at e
  .rename_i hk;rw[am hk];have ku:(h.push { cls:=.type "cell",data:=.cell none }).objs.size=h.objs.size+1:=jg ..;rw[<-ku] at e;rcases nC r _ _ x c e with z|⟨z1,z2⟩
   .rw[gC] at z;cases hx:x==name with
    |true=>
     rw[hx] at z;cases z;exact .inr ⟨aU _,_,pushCells_keeps r _ _ _ (cD _ rfl),rfl⟩
    |false=>rw[hx] at z;exact .inl z
   .exact .inr ⟨by lia,z2⟩
  .rename_i hk;rw[aA hk];exact nC r h dN x c e
theorem sg:∀ (names:List (Str×NameKind)) (n:Nat) (dN:List (Str×Addr)) (x:Str),(x,NameKind.cell)∈names->∃c,n<=c/\(cellsFrom n names dN).lookup x=some c:=by
 have up:∀ (names:List (Str×NameKind)) (n m:Nat) (dN:List (Str×Addr)) (x:Str) (c:Addr),dN.lookup x=some c->m<=c->m<=n->∃c',m<=c'/\(cellsFrom n names dN).lookup x=some c':=by
  intro names;induction names with
  |nil=>intro n m dN x c e h _;exact⟨c,h,e⟩
  |cons y r ih=>
   intro n m dN x c e h hm;obtain⟨name,kind⟩:=y;unfold cellsFrom;split
   .cases hx:x==name with
    |true=>exact ih (n+1) m _ x n (by rw[gC,hx]) hm (by lia)
    |false=>exact ih (n+1) m _ x c (by rw[gC,hx];exact e) h (by lia)
   .exact ih n m dN x c e h hm
 intro names;induction names with
 |nil=>intro n dN x h;cases h
 |cons y r ih=>
  intro n dN x h;obtain⟨name,kind⟩:=y;unfold cellsFrom;rcases bX.mp h with z|z
  .cases z;rw[am (by decide)];exact up r (n+1) n _ x n (by rw[gC];simp) (aU _) (by lia)
  .split
   .obtain⟨c,h1,h2⟩:=ih (n+1) ((name,n)::dN) x z;exact⟨c,by lia,h2⟩
   .exact ih n dN x z
theorem kh:∀ (names:List (Str×NameKind)) (n:Nat) (dN:List (Str×Addr)) (x:Str) (c:Addr),dN.lookup x=some c->(x,NameKind.cell)∉names->(cellsFrom n names dN).lookup x=some c
 |[],_,_,_,_,e,_=>e
 |(name,kind)::r,n,dN,x,c,e,h=>by
  have hr:(x,NameKind.cell)∉r:=fun z=>h (cU _ z);unfold cellsFrom;split
  .rename_i hk;have vA:(x==name)=false:=by
    cases hx:x==name with
    |false=>rfl
    |true=>
     have e1:x=name:=by simpa using hx
     have e2:kind=.cell:=by simpa using hk
     exact absurd (by rw[e1,e2];exact bU) h
   exact kh r (n+1) _ x c (by rw[gC,vA];exact e) hr
  .exact kh r n dN x c e hr
theorem nE:∀ (names:List (Str×NameKind)) (n:Nat) (dN:List (Str×Addr)),(∀x y c,dN.lookup x=some c->dN.lookup y=some c->x=y)->(∀x c,dN.lookup x=some c->c<n)->∀x y c,(cellsFrom n names dN).lookup x=some c->(cellsFrom n names dN).lookup y=some c->x=y
 |[],_,_,hi,_=>hi
 |(name,kind)::r,n,dN,hi,hl=>by
  unfold cellsFrom;split
  .refine nE r (n+1) _ (fun x y c h1 h2=>?_) (fun x c h=>?_)
   .rw[gC] at h1 h2;cases hx:x==name <;> cases hy:y==name <;> rw[hx] at h1 <;> rw[hy] at h2
    .exact hi x y c h1 h2
    .cases h2;exact absurd (hl x _ h1) (ip _)
    .cases h1;exact absurd (hl y _ h2) (ip _)
    .have e1:x=name:=by simpa using hx
     have e2:y=name:=by simpa using hy
     rw[e1,e2]
   .rw[gC] at h;cases hx:x==name <;> rw[hx] at h
    .exact dg (hl x c h)
    .cases h;exact iN _
  .exact nE r n dN hi hl
section
variable {X:Cx} {af:List (Addr×Obj)} {σ:St} {H:Hp} {s:Shared} {NB:List Str} {src:List (Option Nat)} {scope:Scope} {cl:List (Str×Addr)} {fp:List Addr} {h₁:Heap} {t₁:Nat}
theorem Gp(I:aT X af σ H s)(S:gZ NB src scope X)(c1:∀x c,cl.lookup x=some c->X.env.cells.lookup x=some c)(c2:∀x,(x,NameKind.free)∈scope.names->∃c,cl.lookup x=some c)(hf:∀b∈fp,jk X af H b)(N8:∀b∈fp,b<s.heap.objs.size){m:Str->Option Value}(hn:h₁.Ns s.heap.objs.size m)(hk:∀b o,s.heap.get? b=some o->h₁.get? b=some o)(qy:∀x c,(cellsFrom (s.heap.objs.size+1) scope.names cl).lookup x=some c->cl.lookup x=some c\/(s.heap.objs.size<c/\h₁.IsCell c none)):
  aT (z9 X NB scope (cellsFrom (s.heap.objs.size+1) scope.names cl) s.heap.objs.size s H fp) [] (Jj src σ) H { s with heap:=h₁,toks:=t₁ }:=by
 have MU:∀b∈Cn X.stack,b∈X.env.locals::X.fs:=I.ug;have Dq:∀x c,cl.lookup x=some c->∃v,s.heap.IsCell c v:=fun x c e=>I.cell x c (c1 x c e);have SY:∀x c,cl.lookup x=some c->c<s.heap.objs.size:=fun x c e=>by obtain⟨v,o,ho,_⟩:=Dq x c e;exact be ho
 refine⟨⟨I.ok.mod,S.kind,I.ok.glob,I.ok.blt,aU _,nE _ _ _ (fun x y c e1 e2=>I.ok.inj x y c (c1 x c e1) (c1 y c e2)) (fun x c e=>dg (SY x c e)),fun x hx=>?_,fun x c z e=>?_,I.ok.hd,I.ok.frames,.inl rfl,fun b hb=>⟨?_,fun x c e=>?_⟩,I.bs,bw I.ok.FO I.sz,fun b o e hb=>?_,fun b hb=>?_,I.stack,I.zP⟩,
  rfl,I.bare,Un.kept hk,⟨m,hn,fun i x v e1 e2 e3=>?_⟩,fun x c e=>?_,I.cL.fresh (aU _),fun x c e=>?_,fun p hp=>absurd (show p∈([]:List (Addr×Obj)) from hp) (by simp),I.cL.kept hk,?_⟩
 .have yE:(x,NameKind.free)∈scope.names\/(x,NameKind.cell)∈scope.names:=by
   rcases hx with hx|hx
   .exact lV hx (.inl rfl)
   .exact lV hx (.inr rfl)
  by_cases hc:(x,NameKind.cell)∈scope.names
  .obtain⟨c,_,e⟩:=sg scope.names (s.heap.objs.size+1) cl x hc;exact⟨c,e⟩
  .rcases yE with z|z
   .obtain⟨c,e⟩:=c2 x z;exact⟨c,kh _ _ _ _ _ e hc⟩
   .exact absurd z hc
 .have hm:=ow (vV.mp z);obtain⟨c',h1,h2⟩:=sg scope.names (s.heap.objs.size+1) cl x hm;have e':(cellsFrom (s.heap.objs.size+1) scope.names cl).lookup x=some c:=e;rw[h2] at e';cases e';exact Nat.le_of_succ_le h1
 .exact ba (N8 b hb)
 .rcases qy x c e with z|⟨z,_⟩
  .exact(hf b hb).2.2.2.2.1 x c (c1 x c z)
  .exact iS (t9 (N8 b hb) z)
 .rcases(hf b hb).2.2.2.1 with z|z
  .exact I.ok.CV b o e z
  .exact absurd (cA (be e) (bw I.ok.FO z)) (ip _)
 .intro z;rcases bX.mp (MU b z) with e|e
  .exact(hf b hb).2.1 e
  .exact(hf b hb).2.2.1 e
 .obtain⟨j,hj,hv⟩:=Go e2;obtain⟨hN,hF⟩:=S.src i x j e1 hj;obtain⟨m0,FT,VZ⟩:=I.loc;have Gq:=ow hF;have kx:=S.free _ Gq rfl;have Sx:Nw X.env.scope x:=by
   rcases kx with z|z
   .exact .inr (.inl z)
   .exact .inr (.inr z)
  obtain⟨u,r,l⟩:=VZ j x v hN hv Sx;refine⟨u,r,.inr ⟨uz hF,?_⟩⟩;obtain⟨c,hc⟩:=c2 x Gq;have X9:(x,NameKind.cell)∉scope.names:=fun z=>by
   have:=S.cells _ z rfl;rw[hF] at this;cases this
  refine⟨c,kh _ _ _ _ _ hc X9,?_⟩;rcases l with ⟨Jk,_⟩|⟨_,c',e,z⟩
  .have N9:X.env.scope.names.lookup x=some .local:=Jk;rcases kx with z|z <;> (rw[z] at N9;cases N9)
  .rw[c1 x c hc] at e;cases e;obtain⟨o,ho,hd⟩:=z;exact⟨o,hk _ _ ho,hd⟩
 .rcases qy x c e with z|⟨_,z⟩
  .obtain⟨v,o,ho,hd⟩:=Dq x c z;exact⟨v,o,hk _ _ ho,hd⟩
  .exact⟨none,z⟩
 .rcases qy x c e with z|⟨z,_⟩
  .exact I.kF x c (c1 x c z)
  .exact I.cL.fresh (jB z)
 .show (Jj src σ).length=NB.length;unfold Jj;rw[aO];exact S.len
theorem aT.N_(I:aT X af σ H s)(J:aT (z9 X NB scope cl C s H fp) [] σB H' s')(hf:∀b∈fp,jk X af H b):aT X af σ H' s':=by
 refine I.ND (ch:=fp) J.os J.base J.cL J.bare fun b hb=>?_;obtain⟨_,f1,_,f3,f4,f5⟩:=hf b hb;exact⟨f3,f1,f4,f5⟩
end
def M2(X:Cx)(z_:List Expr)(t:TT):Prop:=
 ∀ (af:List (Addr×Obj)) (s:Shared) (σ:St) (H:Hp) (Q:Bool->Hp->Prop),aT X af σ H s->t σ H Q->
  wpAny (model X.prog X.w) X.A (forIn z_ true fun c r=>if r=true then do let ok <- isTrue c X.env (eval c X.env);pure (ForInStep.yield ok) else pure (ForInStep.yield r)) (TP X af σ Q) X.xe s
def SZ:TT:=fun _ H Q=>Q true H
theorem ce:M2 X [] SZ:=fun _ _ _ H _ I h=>wpAny_tests_nil ⟨H,I,h⟩
theorem cj(h:PT X c t):M2 X [c] t:=fun af s σ H Q I q=>wpAny_tests_one (h af s σ H Q I q)
def fP(J:It)(g:TG)(tt:TT)(te:TE)(D:Addr)(dU:Hp->Prop)(σB:St)(H1:Hp):Prop:=
 ∃W:Nat->Nat->St->Hp->Prop,(∃m,W 0 m σB H1)/\∀i m σ H,W i m σ H->(J.stop i H/\dU H)\/(J.go i H/\∀x H',J.MW i H x H'->g x σ H' fun σ2 H2=>tt σ2 H2 fun b H3=>
  if b=true then te σ2 H3 fun v H4=>∃ys,H4 D=some (.lst ys)/\ys.length<sizeLine/\∃m',m'<m/\W (i+1) m' σ2 (upd H4 D (.lst (ys++[v]))) else ∃m',m'<m/\W (i+1) m' σ2 H3)
theorem Bk(hx:B.xe=fun _ _=>False)(hc:B.calm=true)(T:ym B.prog B.w B.K tg J fp it tn)(hg:PG B tg g)(ht:M2 B z_ tt)(he:PE B Cr te)(I:aT B [] σB H1 s)(st:tn 0 s.heap)(hf:∀b∈fp,jk B [] H1 b)(hw:fP J g tt te D dU σB H1)(hR:∀σ' H' s',aT B [] σ' H' s'->dU H'->R (.ok .next) s'):
  codeAny (model B.prog B.w) B.A (.compLoop (.ListComp Cr [⟨tg,jm,z_,0⟩] scope pos) 0 (.ref it) (.ref D) B.env) R s:=by
 obtain⟨W,⟨m0,w0⟩,C1⟩:=hw;have yp:∀ {H':Hp},(∀b∈fp,H' b=none)->∀b∈fp,jk B [] H' b:=fun hn b hb=>⟨hn b hb,(hf b hb).2⟩
 refine codeAny_loop rfl (fun n s'=>∃i σ' H',aT B [] σ' H' s'/\tn i s'.heap/\(∀b∈fp,H' b=none)/\W i n σ' H') ?_ m0 ⟨0,σB,H1,I,st,fun b hb=>(hf b hb).1,w0⟩;rintro n s3 ⟨i,σ3,H3,I3,yq,Kh,w3⟩;show wpAny _ B.A ((compTurn (.ListComp Cr [⟨tg,jm,z_,0⟩] scope pos) 0 (.ref it) (.ref D) B.env).onRaise (fun x=>do noteFrame x B.env;theTreesLotGoes x)) _ _ s3;refine wpAny_noted ?_;rw[compTurn_list];have nx:∀ {α:Type} {t:Sem α} {Q:α->Shared->Prop} {E':Value->Shared->Prop} {s:Shared},wpAny (model B.prog B.w) B.A t Q B.xe s->wpAny (model B.prog B.w) B.A t Q E' s:=fun h=>
  ni h (fun _ _ q=>q) fun _ _ z=>by rw[hx] at z;exact z.elim
 rcases C1 i n σ3 H3 w3 with ⟨stop,qn⟩|⟨go,step⟩
 .refine aw (kY (aw (cV (T.done B rfl rfl rfl hc i [] s3 σ3 H3 _ I3 (yp Kh) yq stop) fun r s4 ⟨hr,I4⟩=>?_)));subst hr;exact wpAny_pure (hR σ3 H3 s4 I4 qn)
 .refine aw (kY (aw (cV (T.item B rfl rfl rfl hc i [] s3 σ3 H3 _ I3 (yp Kh) yq go) fun r s4 ⟨u,hr,h4⟩=>?_)));subst hr;refine aw (cV h4 fun _ s5 ⟨x,H5,I5,r5,y5,vz,SA⟩=>?_);have SB:=I5.pinned (yp SA) (T.obj _ _ vz);refine aw (nx (cV (hg _ s5 σ3 H5 x u _ SB r5 (step x H5 y5)) fun _ s6 ⟨σ6,H6,I6,q6⟩=>?_));have back:∀ {σ7:St} {H7:Hp} {s7:Shared} {m':Nat},aT B ([]++qu fp s5.heap) σ7 H7 s7->m'<n->W (i+1) m' σ7 H7->∃m,m<n/\∃i σ' H',aT B [] σ' H' s7/\tn i s7.heap/\(∀b∈fp,H' b=none)/\W i m σ' H':=fun {σ7 H7 s7 m'} I7 hm w7=>by
   refine⟨m',hm,i+1,σ7,H7,I7.lN,T.keep _ _ _ vz fun b hb o e=>(I7.pin (b,o) (iC _ (iC _ (iV hb e)))).1,fun b hb=>?_,w7⟩;obtain⟨o,e,d⟩:=T.obj _ _ vz b hb;exact(I7.pin (b,o) (iC _ (iC _ (iV hb e)))).2.1
  refine aw (nx (cV (ht _ s6 σ6 H6 _ I6 q6) fun ok s7 ⟨H7,I7,q7⟩=>?_));cases ok with
  |false=>
   rw[aA cp] at q7;obtain⟨m',hm,w7⟩:=q7;exact wpAny_pure ⟨rfl,back I7 hm w7⟩
  |true=>
   rw[am rfl] at q7;refine aw (aw (nx (cV (he _ s7 σ6 H7 _ I7 q7) fun v s8 ⟨y,H8,I8,r8,ys,hD,hl,m',hm,w8⟩=>?_)));refine aw (nx (cV (dO _ s8 σ6 H8 (.ref D) [y] (.ref D) [v] (fun _ H9=>H9=upd H8 D (.lst (ys++[y]))) I8 rfl (.cons r8 .nil) ⟨D,ys,y,rfl,rfl,hD,hl,rfl⟩) fun _ s9 ⟨_,H9,I9,_,e9⟩=>?_));subst e9;exact wpAny_pure (wpAny_pure ⟨rfl,back I9 hm w8⟩)
theorem uA(hQ:Q { scope:=scope,locals:=s.heap.objs.size,globals:=globals,cells:=cellsFrom (s.heap.objs.size+1) scope.names cl,qual:=qual,func:=none,code:=outer.code,frame:=outer.frame,builtins:=outer.builtins }
   { s with heap:=pushCells (s.heap.push { cls:=.type "dict",data:=.dict #[] }) scope.names }):
  wpAny M A (newFunctionEnv scope globals cl [] qual none .none (some outer)) Q E s:=by
 simp only[newFunctionEnv,xO,iw];refine aw (wpAny_alloc ?_);refine aw (wpAny_layCells _ (fun name kind cells=>by cases X_:kind==NameKind.cell <;> simp[X_]) _ _ _ _ ?_);rw[show ({ s with heap:=s.heap.push { cls:=.type "dict",data:=.dict #[] } }:Shared).heap.objs.size=s.heap.objs.size+1 from jg ..];refine aw ?_;rw[tW];exact wpAny_pure (wpAny_pure hQ)
section
variable {X:Cx} {Cr tg jm:Expr} {z_:List Expr} {scope:Scope} {pos:Pos} {wi:TI} {g:TG} {tt:TT} {te:TE} {NB:List Str} {src:List (Option Nat)}
def Dr(src:List (Option Nat))(wi:TI)(g:TG)(tt:TT)(te:TE):TE:=fun σ H Q=>wi σ H fun J H1=>∀D,H1 D=none->fP J g tt te D (fun H'=>Q (.ref D) H') (Jj src σ) (upd H1 D (.lst []))
theorem qz{af:List (Addr×Obj)}{σ:St}{H2:Hp}{s2:Shared}{J:It}{fp:List Addr}{it:Addr}{tn:Nat->Heap->Prop}{cl:List (Str×Addr)}{dU:Addr->Hp->Prop}{E':Value->Shared->Prop}{RR:Value->Addr->Result->Shared->Prop}(S:gZ NB src scope X)(hc:X.calm=true)(c1:∀x c,cl.lookup x=some c->X.env.cells.lookup x=some c)(c2:∀x,(x,NameKind.free)∈scope.names->∃c,cl.lookup x=some c)(hg:∀cl C s₃ H₃ fp,PG (z9 X NB scope cl C s₃ H₃ fp) tg g)(ht:∀cl C s₃ H₃ fp,M2 (z9 X NB scope cl C s₃ H₃ fp) z_ tt)(he:∀cl C s₃ H₃ fp,PE (z9 X NB scope cl C s₃ H₃ fp) Cr te)(I2:aT X af σ H2 s2)(T:ym X.prog X.w X.K tg J fp it tn)(rm:tn 0 s2.heap)(f2:∀b∈fp,jk X af H2 b)(hw:∀D,H2 D=none->fP J g tt te D (dU D) (Jj src σ) (upd H2 D (.lst [])))(hR:∀D C H' s',jk X af H' C->aT X af σ H' s'->(∃m,s'.heap.Ns C m)->dU D H'->RR (.ref D) C (.ok .next) s'):
  wpAny (model X.prog X.w) X.A (newList []) (fun dN s₃=>wpAny (model X.prog X.w) X.A (newFunctionEnv scope X.env.globals cl [] X.env.qual none .none (some X.env)) (fun Oa s₄=>
   codeAny (model X.prog X.w) X.A (.compStart (.ListComp Cr [⟨tg,jm,z_,0⟩] scope pos) 0 (.ref it) dN { Oa with scope:=relabel scope X.env }) (RR dN Oa.locals) s₄) E' s₃) E' s2:=by
 refine jv (uA ?_);have I3:=I2.Kz (ys:=[]) (its:=[]) (t':=s2.toks) .nil (dh _);have hD:H2 s2.heap.objs.size=none:=I2.fresh;have fo:∀b∈fp,b<s2.heap.objs.size:=fun b hb=>by obtain⟨o,e,_⟩:=T.obj _ _ rm b hb;exact be e
 have up:∀ {b:Addr},b∈fp->upd H2 s2.heap.objs.size (.lst []) b=H2 b:=fun {b} hb=>aj (ba (fo b hb));have f3:∀b∈fp,jk X af (upd H2 s2.heap.objs.size (.lst [])) b:=fun b hb=>⟨by rw[up hb];exact(f2 b hb).1,(f2 b hb).2⟩
 have ku:(s2.heap.push { cls:=.type "list",data:=.seq ([]:List Value).toArray }).objs.size=s2.heap.objs.size+1:=by rw[jg]
 generalize Ya:({ s2 with heap:=s2.heap.push { cls:=.type "list",data:=.seq ([]:List Value).toArray } }:Shared)=s3 at I3 |-;have V0:s3.heap=s2.heap.push { cls:=.type "list",data:=.seq ([]:List Value).toArray }:=by rw[<-Ya]
 have V1:∀b∈fp,b<s3.heap.objs.size:=fun b hb=>by rw[V0,ku];exact dg (fo b hb)
 have Ob:(s3.heap.push { cls:=.type "dict",data:=.dict #[] }).objs.size=s3.heap.objs.size+1:=jg ..;have qy:∀x c,(cellsFrom (s3.heap.objs.size+1) scope.names cl).lookup x=some c->cl.lookup x=some c\/(s3.heap.objs.size<c/\(pushCells (s3.heap.push { cls:=.type "dict",data:=.dict #[] }) scope.names).IsCell c none):=fun x c e=>by
  rw[<-Ob] at e;rcases nC _ _ _ _ _ e with z|⟨z1,z2⟩
  .exact .inl z
  .exact .inr ⟨by rw[Ob] at z1;exact z1,z2⟩
 have Oc:=(Heap.Ns.new s3.heap (.type "dict")).keeps (pushCells_keeps scope.names _);have keep:∀b o,s3.heap.get? b=some o->(pushCells (s3.heap.push { cls:=.type "dict",data:=.dict #[] }) scope.names).get? b=some o:=fun b o e=>pushCells_keeps _ _ b o (bV _ e);generalize hh1:pushCells (s3.heap.push { cls:=.type "dict",data:=.dict #[] }) scope.names=h₁ at qy Oc keep |-;have IB:aT (z9 X NB scope (cellsFrom (s3.heap.objs.size+1) scope.names cl) s3.heap.objs.size s3 (upd H2 s2.heap.objs.size (.lst [])) fp) [] (Jj src σ) (upd H2 s2.heap.objs.size (.lst [])) { s3 with heap:=h₁,toks:=s3.toks }:=
  Gp I3 S c1 c2 f3 V1 Oc keep qy
 have V2:tn 0 h₁:=T.keep 0 s2.heap h₁ rm fun b hb o e=>keep b o (by rw[V0];exact bV _ e);have fB:∀b∈fp,jk (z9 X NB scope (cellsFrom (s3.heap.objs.size+1) scope.names cl) s3.heap.objs.size s3 (upd H2 s2.heap.objs.size (.lst [])) fp) [] (upd H2 s2.heap.objs.size (.lst [])) b:=fun b hb=>by
  refine⟨(f3 b hb).1,ba (V1 b hb),fun z=>?_,.inl hb,fun x c e=>(IB.ok.Sg b hb).2 x c e,fun p hp=>absurd (show p∈([]:List (Addr×Obj)) from hp) (by simp)⟩;rcases bX.mp (I3.ug b z) with e|e
  .exact(f3 b hb).2.1 e
  .exact(f3 b hb).2.2.1 e
 have loop:codeAny (model X.prog X.w) X.A (.compLoop (.ListComp Cr [⟨tg,jm,z_,0⟩] scope pos) 0 (.ref it) (.ref s2.heap.objs.size) (compEnvC scope (cellsFrom (s3.heap.objs.size+1) scope.names cl) s3.heap.objs.size X.env)) (RR (.ref s2.heap.objs.size) s3.heap.objs.size)
   { s3 with heap:=h₁,toks:=s3.toks }:=by
  refine Bk (B:=z9 X NB scope (cellsFrom (s3.heap.objs.size+1) scope.names cl) s3.heap.objs.size s3 (upd H2 s2.heap.objs.size (.lst [])) fp) rfl hc T (hg _ _ _ _ _) (ht _ _ _ _ _) (he _ _ _ _ _) IB V2 fB (hw _ hD) fun σ' H' s' J' q=>?_;obtain⟨m,hm,_⟩:=J'.loc;exact hR _ _ H' s' (I3.C2 (aU _) J'.free) (I3.N_ J' f3) ⟨m,hm⟩ q
 exact codeAny_compStart_list loop (T.self _ 0 _ _ _ V2 loop)
theorem bJ(S:gZ NB src scope X)(hc:X.calm=true)(hi:PI X tg jm wi)(hg:∀cl C s₃ H₃ fp,PG (z9 X NB scope cl C s₃ H₃ fp) tg g)(ht:∀cl C s₃ H₃ fp,M2 (z9 X NB scope cl C s₃ H₃ fp) z_ tt)(he:∀cl C s₃ H₃ fp,PE (z9 X NB scope cl C s₃ H₃ fp) Cr te)(hs:∀x,foldedSetIterable jm X.env x=pure x:=by intro _;rfl):PE X (.ListComp Cr [⟨tg,jm,z_,0⟩] scope pos) (Dr src wi g tt te):=by
 intro af s σ H Q I h;obtain⟨cl,M3,c1,c2⟩:=lc I.ok S;rw[eval_ListComp];refine wpAny_comprehension_free (use:=none) (cl:=cl) rfl hs M3 S.kind S.names (cV (hi af s σ H _ I h) fun v s1 h1=>cV h1 fun Rj s2 h2=>?_);obtain⟨it,fp,tn,J,H2,e,I2,T,rm,f2,hw⟩:=h2;subst e;refine qz (RR:=fun dN C=>compPost (model X.prog X.w) X.A X.xe none (EP X af σ Q) dN C) S hc c1 c2 hg ht he I2 T rm f2 hw fun D C H' s' fC I' hm q=>?_;obtain⟨m,hm⟩:=hm;refine⟨m,hm,fun h' sb=>⟨.ref D,H',?_,rfl,q⟩⟩;obtain⟨g0,g1,_,g3,g4,g5⟩:=fC;exact I'.turned (t':=s'.toks) (fun b o hb e=>(sb.2 b hb).trans e) g0 g1 g3 g4 g5
theorem bL{i:Nat}{y:Str}{py Od:Pos}(S:gZ NB src scope X)(hc:X.calm=true)(hi:PI X tg jm wi)(hg:∀cl C s₃ H₃ fp,PG (z9 X NB scope cl C s₃ H₃ fp) tg g)(ht:∀cl C s₃ H₃ fp,M2 (z9 X NB scope cl C s₃ H₃ fp) z_ tt)(he:∀cl C s₃ H₃ fp,PE (z9 X NB scope cl C s₃ H₃ fp) Cr te)(hN:X.N.Nodup)(Yb:X.N[i]?=some y)(hy:X.env.scope.names.lookup y=some .local)(Yc:swapsWith (.ListComp Cr [⟨tg,jm,z_,0⟩] scope pos) (some (.Name y py)) Od.line X.env=pure true)(hs:∀x,foldedSetIterable jm X.env x=pure x:=by intro _;rfl):
  PS X (.Assign [.Name y py] (.ListComp Cr [⟨tg,jm,z_,0⟩] scope pos) Od) (Kb (Dr src wi g tt te) (bp i)):=by
 intro af s σ H D0 I h;obtain⟨cl,M3,c1,c2⟩:=lc I.ok S;rw[exec_Assign_Name_used _ _ _ _ Yc];refine aw (kY (aw ?_));show wpAny _ X.A (do let _ <- comprehension (.ListComp Cr [⟨tg,jm,z_,0⟩] scope pos) scope X.env _ (newList []) false (eval jm X.env) (some (assign (.Name y py) X.env))) _ _ s;refine aw (ni (wpAny_comprehension_free (use:=some (assign (.Name y py) X.env)) (Q:=fun _ s'=>SP X af D0 .next s') (cl:=cl) rfl hs M3 S.kind S.names
  (cV (hi af s σ H _ I h) fun v s1 h1=>cV h1 fun Rj s2 h2=>?_)) (fun _ s' hq=>wpAny_pure (wpAny_pure hq)) fun _ _ e=>e)
 obtain⟨it,fp,tn,J,H2,e,I2,T,rm,f2,hw⟩:=h2;subst e;refine qz (RR:=fun dN C=>compPost (model X.prog X.w) X.A X.xe (some (assign (.Name y py) X.env)) (fun _ s'=>SP X af D0 .next s') dN C) S hc c1 c2 hg ht he I2 T rm f2 hw fun D C H' s' fC I' hm q=>?_;obtain⟨m,hm⟩:=hm;obtain⟨g0,g1,_,g3,g4,g5⟩:=fC;show wpAny _ X.A (assign (.Name y py) X.env (.ref D)) _ _ _;refine wpAny_assign_Name (rU I' hN Yb (.inl hy) (v:=.ref D) rfl (fun NZ Yd sb=>?_) (.inr hy));obtain⟨a,sb,ha⟩:=sb;have vA:C≠a:=by
  rcases ha with z|z
  .rw[z];exact g1
  .exact fun z'=>g4 y a z z'.symm
 refine⟨m,hm.sameBut sb vA,fun h' Ye=>⟨_,H',Yd.turned (t':=NZ.toks) (fun b o hb e=>(Ye.2 b hb).trans e) g0 g1 g3 g4 g5,q⟩⟩
end
section
variable {P:Program} {w:World} {K:PySem.W.Frag} {mg:Str->Option Value} {base:Heap} {N:List Str} {qual:Str} {scope:Scope} {f:Addr} {cd:Value} {A:Around} {outer:List Env} {s:Shared} {H:Hp} {E:XK}
end
open PySem PySem.Spec PyProof.Rows PySem.W
abbrev Yf:List Value:=[.type "ValueError",.type "Exception",.type "BaseException",.type "object"]
structure Bm(K:PySem.W.Frag)(C:Addr):Prop where
 ex:PySem.W.excIn K C Yf "ValueError.__new__"=true
 kp:PySem.W.keepIn K (.ref C)=true
 ga:PySem.W.findIn K (.ref C) "__getattribute__"=some (some (.builtin "BaseException.__getattribute__"))
 gt:PySem.W.findIn K (.ref C) "__getattr__"=some none
 cl:PySem.W.findIn K (.ref C) "__class__"=some (some (.builtin "object.__class__"))
 mo:PySem.W.mroIn K C (.type "object")=some true
 mb:PySem.W.mroIn K C (.type "BaseException")=some true
 ty:(PySem.W.clsIn K C).isSome=true
def S0(p:Addr)(C:Value)(h:Heap):Prop:=∃o,h.get? p=some o/\o.cls=C
abbrev S4(p:Addr)(C:Value):HO:=.ext (S0 p C)
theorem cz.get(x:cz P w H h a o):∃u,h.get? a=some u:=by
 cases o with
 |lst xs=>obtain⟨_,_,_,_,e⟩:=x;exact⟨_,e⟩
 |tup xs=>obtain⟨_,_,_,ob,e,_⟩:=x;exact⟨_,e⟩
 |dK cG=>obtain⟨_,_,_,_,o,_,_,e,_⟩:=x;exact⟨_,e⟩
 |dT cG=>obtain⟨_,_,_,_,o,_,_,e,_⟩:=x;exact⟨_,e⟩
 |set S n=>obtain⟨o,_,_,_,e,_⟩:=x;exact⟨_,e⟩
 |ins C dx fs=>obtain⟨_,_,_,e,_⟩:=x;exact⟨_,e⟩
 |own y=>exact x
 |xd fs=>obtain⟨_,⟨_,_,_,e,_⟩,_⟩:=x;exact⟨_,e⟩
 |FY lo hi=>obtain⟨_,_,_,e⟩:=x;exact⟨_,e⟩
 |ud ob u=>obtain⟨e,_⟩:=x;exact⟨_,e⟩
 |rh ps=>exact⟨_,(show h.get? a=some _ from x)⟩
 |met f y=>exact⟨_,(show h.get? a=some _ from x)⟩
 |ext φ=>exact x.2.1
theorem k5.qA(x:k5 P w H h)(e:h.get? a=none):H a=none:=by
 cases q:H a with
 |none=>rfl
 |some u=>obtain⟨o,z⟩:=(x a u q).get;rw[e] at z;cases z
theorem aT.vW(I:aT X af σ H s)(k:∀b u,s.heap.get? b=some u->h'.get? b=some u)(hp:s.heap.get? a=none)(new:cz X.prog X.w (upd H a o) h' a o):
  aT X af σ (upd H a o) { s with heap:=h',toks:=t' }:=by
 have hn:=I.cL.qA hp;have ne:∀b u,s.heap.get? b=some u->b≠a:=fun b u e z=>by rw[z,hp] at e;cases e
 refine I.un ⟨fun b u e _ _ _=>k b u e,fun b u e _ _ _=>⟨u.slots,k b u e⟩,fun b u e n _=>by rw[aj (ne b u e)];exact n,fun b u e _=>⟨u,k b u e⟩,fun b xs e=>by rw[aj (ak e hn)];exact e,fun b u v e=>by rw[aj (ak e hn)];exact e,fun b ps e=>⟨#[],by rw[aj (ak e hn),e];simp⟩⟩ fun b u e=>?_;by_cases hb:b=a
 .subst hb;rw[ab] at e;cases e;exact new
 .rw[aj hb] at e;exact(I.cL b u e).rj (fun c v _ q=>k c v q) (fun c q=>by rw[aj (ak q hn)];exact q) fun c xs q=>by rw[aj (ak q hn)];exact q
section
variable {prog:Program} {w:World} {A:Around} {E:Value->Shared->Prop} {s:Shared} {K:PySem.W.Frag} {x C:Addr} {ox:Obj}
theorem Aa(hx:h.get? x=some ox)(hc:ox.cls=.ref C):PySem.W.Looks M h (typeOf (.ref x)) (.ref C):=hc ▸ (PySem.W.Looks.ld hx).andThen .now
open Builtin Builtin.ObjectAttr Builtin.Getset_descriptor in
theorem yF(X:K.In s.heap)(hx:s.heap.get? x=some ox)(hc:ox.cls=.ref C)(hm:PySem.W.mroIn K C (.type "object")=some true)(h:R (.ok (.ret (.ref C))) s):codeAny (model prog w) A (.call (.builtin "getset_descriptor.__get__") ⟨[.builtin "object.__class__",.ref x,tp],[]⟩) R s:=by
 obtain⟨hh,g,dr,t,os⟩:=s;have L0:=Aa (M:=model prog w) hx hc;have L1:=looks_mroIn (M:=model prog w) X hm;refine xT KF.slot_gs.plain KF.entry_gs (KF.slot_gs.check _ _ _ _ _ _ _ _ KF.type_class (KF.args_gs _ _ _) ?_);unfold Builtin.«getset_descriptor.__get__» descrGet;rw[dga_obj];refine aw (wpAny_pure ?_);unfold descrGetter descrCheckInstance descrNameAndClass isInstance;simp only[KF.owner_class];repeat lk
 refine⟨Code.quiet_builtin _ (by decide +kernel),m_ KF.entry_class ?_⟩;unfold Builtin.«object.__class__» shownTypeOf;repeat lk
 exact h
theorem Bn{g d t os}(T:Bm K C)(X:K.In h)(hx:h.get? x=some ox)(hc:ox.cls=.ref C)(hq:Q (.done (.ret (.ref C))) ⟨h,g,d,t,os⟩):
  wpAny (model prog w) A (Builtin.«object.__getattribute__» ⟨[.ref x,.str "__class__" tk],[]⟩) Q E ⟨h,g,d,t,os⟩:=by
 have f5:=F.typeOf_bexc_args;have hT5:(⟨h,g,d,t,os⟩:Shared).TypeIs (.builtin "object.__class__") "getset_descriptor":=CI;have f5':=CI;have f6:=F.slot_gs_get.lookup;have f7:=F.slot_gs_set.lookup;have L1:=looks_findIn (M:=model prog w) X T.cl;repeat (any_goals (first|assumption|(with_reducible refine yc hx ?_;rw[hc])|with_reducible refine L1.at ?_|wp_step))
 refine yF (s:=⟨h,g,d,t,os⟩) X hx hc T.mo ?_;repeat (any_goals (first|assumption|wp_step))
theorem Bo{g d t os}(T:Bm K C)(X:K.In h)(hx:h.get? x=some ox)(hc:ox.cls=.ref C)(hq:Q () ⟨h,g,d,t,os⟩):
  wpAny M A (checkBuiltinCall "BaseException.__getattribute__" ⟨[.ref x,Oe],[]⟩) Q E ⟨h,g,d,t,os⟩:=by
 have hk:builtinKind "BaseException.__getattribute__"=some .slot:=by decide +kernel
 have KD:splitId "BaseException.__getattribute__"=some ("BaseException","__getattribute__"):=by decide +kernel
 have ha:=F.args_bexc_ga (.ref x) Oe;have L1:=looks_mroIn (M:=M) X T.mb;simp only[checkBuiltinCall,hk,KD];refine aw ?_
 .unfold isInstance;repeat (first|(with_reducible refine yc hx ?_;rw[hc])|with_reducible refine L1.at ?_|wp_step)
  exact hq
theorem KE{tk:Tok}{fill F9:Bool}{Q:Value->Shared->Prop}{h:Heap}{g d t os}(T:Bm K C)(X:K.In h)(hx:h.get? x=some ox)(hc:ox.cls=.ref C)(hq:Q (.ref C) ⟨h,g,d,t,os⟩):
  wpAny (model prog w) A (getAttrBy (.ref x) (.str "__class__" tk) fill F9) Q E ⟨h,g,d,t,os⟩:=by
 have f3:=F.attr_ValueError.ga.bind (.ref x);have hx0:(F9&&onTheHeap (Value.builtin "BaseException.__getattribute__"))=false:=by cases F9 <;> rfl
 have Yg:(Value.builtin "BaseException.__getattribute__"==Value.builtin "object.__getattribute__")=false:=by decide +kernel
 have hx1:(onTheHeap (Value.ref C)&&Value.builtin "BaseException.__getattribute__"==Value.builtin "object.__getattribute__")=false:=by rw[Yg];rfl
 have L1:=looks_findIn (M:=model prog w) X T.ga;have L2:=looks_findIn (M:=model prog w) X T.gt;repeat (any_goals (first|assumption|(with_reducible refine yc hx ?_;rw[hc])|with_reducible refine L1.at ?_|with_reducible refine L2.at ?_|wp_step))
 refine xT F.attr_ValueError.ga.plain F.entry_bexc_ga (Bo T X hx hc (Bn T X hx hc ?_));repeat (any_goals (first|assumption|wp_step))
theorem Ds{Q:Option Value->Shared->Prop}{h:Heap}{g d t os}(T:Bm K C)(X:K.In h)(hx:h.get? x=some ox)(hc:ox.cls=.ref C)(hq:Q (some (.ref C)) ⟨h,g,d,t+1,os⟩):
  wpAny (model prog w) A (getAttr? (.ref x) "__class__") Q E ⟨h,g,d,t,os⟩:=by
 unfold getAttr?;repeat (any_goals (first|assumption|with_reducible apply KE T X hx hc|wp_step))
theorem Dt(T:Bm K C):PySem.W.KitX K (.ref x) (.ref C) (S0 x (.ref C)) where
 ty:=fun _ _ _ ⟨o,e,c⟩=>Aa e c
 it:=fun _ _ X _=>by
  obtain⟨Yh,Ga⟩:=pU.mp T.ty;unfold clsIn at Ga;split at Ga
  .rename_i c' d' Yi Sj ho;intro A' Q' E' s' k q;unfold isType loadHead;exact aw (wpAny_loadPart (k _ _ (X _ _ ho)) (wpAny_pure q))
  .cases Ga
 ne:=fun h tp dd its n sl X Yj=>by
  obtain⟨Yh,Ga⟩:=pU.mp T.ty;refine mQ.mpr fun q=>?_;have e:C=tp:=Value.ref.inj (fc.mp q);subst e;unfold clsIn at Ga;split at Ga
  .rename_i c' d' Yi Sj ho;have z:=(X _ _ ho).symm.trans Yj;cases z
  .cases Ga
 ca:=fun {_ _ _ _ _ s} X ⟨o,e,c⟩ k=>by
  obtain⟨h,g,d,t,os⟩:=s;exact Ds T X e c k
end
section
variable {X:Cx}
inductive Of (K:PySem.W.Frag) (H:Hp):V->Value->Prop where
 |of {v:V} {t:Value} (h:ny K H v t):Of K H v t
 |exc {p C:Addr} (T:Bm K C) (e:H p=some (S4 p (.ref C))):Of K H (.ref p) (.ref C)
def S5(K:PySem.W.Frag):List V->Hp->VK->Prop:=fun xs H Q=>∃x c cv t b,xs=[x,c]/\(c=.ty cv/\PySem.W.kitOne K t (.type cv)=some b)/\Of K H x t/\Q (.bl b) H
theorem jO:eX X (.builtin "isinstance") (S5 X.K):=by
 intro af s σ H xs us Q I r h;obtain⟨x,c,cv,t,b,rfl,⟨rfl,e⟩,ty,q⟩:=h;obtain⟨u1,u2,rfl,r1,r2⟩:=r.two;obtain rfl:u2=Value.type cv:=r2;cases ty with
 |of ty=>exact Bc I r1 ty e fun tk=>⟨.bl b,H,I.tok tk,rfl,q⟩
 |@exc p C T ea=>
  obtain rfl:u1=Value.ref p:=r1;have p1:S0 p (.ref C) s.heap:=(I.cL p _ ea).1;exact jd (Dt T) I.oT p1 e (fun z=>nomatch z) fun tk=>⟨.bl b,H,I.tok tk,rfl,q⟩
end
section
variable {X:Cx} {x:Str} {C:Addr} {np jM pos:Pos} {e:Expr} {es:List Expr} {t:TA}
end
section
variable {X:Cx} {CX:w_} {k:Nat} {f C:Addr} {fd:FuncData} {ps:List Str} {sp:Sp} {rq:List V} {ds:List Value} {E:St->XK} {x m:Str} {p pos oW:Pos} {e o:Expr} {es:List Expr} {ta:TE} {t:TA}
end
section
variable {X:Cx} {CX:w_} {k:Nat} {f:Addr} {fd:FuncData} {ps:List Str} {sp:Sp} {rq:List V} {ds:List Value} {E:XK} {x:Str} {p pos:Pos} {e:Expr} {es:List Expr} {t:TA}
end
section
variable {P:Program} {w:World} {K:PySem.W.Frag} {mg:Str->Option Value} {base:Heap}
end
section
variable {X:Cx} {af:List (Addr×Obj)} {σ:St} {H:Hp} {s:Shared}
end
theorem Gr{h:Heap}{a:Addr}{m m':Str->Option Value}(x:h.Ns a m)(y:h.Ns a m'):m=m':=by
 obtain⟨o,es,ep,e,d,_,q⟩:=x;obtain⟨o',w9,NA,e',d',_,q'⟩:=y;rw[e] at e';cases e';rw[d] at d';cases d';funext z;rw[<-q z,q' z]
theorem aT.Og{X:Cx}{af:List (Addr×Obj)}{σ:St}{H:Hp}{s:Shared}{h':Heap}{m:Str->Option Value}{D:Addr}{o:HO}{t':Nat}(I:aT X af σ H s)(F:Fr X.base X.env.locals s.heap m)(F':Fr X.base X.env.locals h' m)(N':News X.base X.env.locals h' (iU X.base s.heap X.env.locals))(hD:s.heap.get? D=none)(new:cz X.prog X.w (upd H D o) h' D o):aT X af σ (upd H D o) { s with heap:=h',toks:=t' }:=by
 have hn:=I.cL.qA hD;have ne:∀b u,s.heap.get? b=some u->b≠D:=fun b u e z=>by rw[z,hD] at e;cases e
 have keep:∀b u,b≠X.env.locals->s.heap.get? b=some u->h'.get? b=some u:=fun b u hb e=>by
  cases q:X.base.get? b with
  |some v=>
   have:=I.bk b v q;rw[e] at this;cases this;exact F'.keep b _ q
  |none=>exact(N' (b,u) (jF hb q e)).1
 refine I.step (g':=s.gens) (d':=s.drawn) (ch:=[]) (fun _ z=>absurd z (by simp)) (fun b u hb _ _ e _=>keep b u hb e) (fun b u hb _ _ e _=>⟨u.slots,keep b u hb e⟩) (fun b u _ e n=>by rw[aj (ne b u e)];exact n) (fun b u _ e=>?_)
  (fun b xs e=>by rw[aj (ak e hn)];exact e) (fun b u v e=>by rw[aj (ak e hn)];exact e) (fun b ps e=>⟨#[],by rw[aj (ak e hn),e];simp⟩) (fun m1 hm=>by rw[Gr hm F.ns];exact F'.ns) (fun b u e=>?_) I.bare
 .by_cases hb:b=X.env.locals
  .obtain⟨o',_,_,q,_⟩:=F'.ns;exact⟨o',by rw[hb];exact q⟩
  .exact⟨u,keep b u hb e⟩
 .by_cases hb:b=D
  .subst hb;rw[ab] at e;cases e;exact new
  .rw[aj hb] at e;refine(I.cL b u e).rj (fun c v hc q=>keep c v ?_ q) (fun c q=>by rw[aj (ak q hn)];exact q) fun c xs q=>by rw[aj (ak q hn)];exact q
   rintro rfl;rcases hc with z|hc
   .have f:=I.free;rw[z,e] at f;cases f
   .rw[I.free] at hc;cases hc
theorem rC(I:aT X af σ H s)(N:News X.base X.env.locals h' ((D,o)::iU X.base s.heap X.env.locals))(e_:∀q∈iU X.base s.heap X.env.locals,q.1<D):s.heap.get? D=none:=by
 cases e:s.heap.get? D with
 |none=>rfl
 |some u=>
  obtain⟨_,n1,n2⟩:=N (D,o) bU;exact absurd (e_ (D,u) (jF n1 n2 e)) (ip _)
def Du(K:PySem.W.Frag)(H:Hp)(a:Addr)(y:Int×Int):Prop:=bD K H a [.int y.1,.int y.2]
section
variable {X:Cx}
theorem yG(I:aT X af σ H s)(h:Du X.K H a y):∃o n t u,s.heap.get? a=some o/\o.cls=.type "tuple"/\o.data=.seq #[.int y.1 t,.int y.2 u] n:=by
 obtain⟨its,r,p,_⟩:=I.tuple h;obtain⟨u1,u2,rfl,r1,r2⟩:=r.two;obtain⟨t,rfl⟩:=r1;obtain⟨t',rfl⟩:=r2;obtain⟨o,e,c,n,d⟩:=p;exact⟨o,n,t,t',e,c,d⟩
end
def KG(hs:Array Int)(i:Nat):Int:=(hs[i]?).getD 0
def f8(hs:Array Int)(t:SetTable)(h:Int):Option (Array Int×SetTable):=
 if t.gaveWay then none else
 match t.probe (KG hs) h (t.probeStart h) with
 |some (.empty j none)=>
  let q:=t.put j
  let Dv:=SetTable.insertAt hs q.2 h
  if q.1.fits Dv.size&&decide (Dv.size<=4096) then
   if q.1.tooFull then
    (match q.1.relaid Dv (SetTable.grown (hs.size+1)) with
    |some (t2,ji)=>
     let qt:=ji.filterMap (Dv[·]?)
     if qt.size==Dv.size&&t2.fits qt.size&&decide (SetTable.sizeAbove (SetTable.grown (hs.size+1))<=4096) then some (qt,t2) else none
    |none=>none)
   else some (Dv,q.1)
  else none
 |_=>none
def uB(led:Bool):List Int->Option (Array Int×SetTable):=fun l=>l.foldlM (fun q h=>f8 q.1 q.2 h) (#[],SetTable.fresh 0 0 led)
def jP(h:Heap)(S:Addr)(hs:Array Int)(t:SetTable):Prop:=∃o es ep,h.get? S=some o/\o.cls=.type "set"/\(o.dict=none/\o.slots=#[])/\o.data=.set es ep t/\es.map (·.1)=hs/\t.fits es.size=true
section
variable {prog:Program} {w:World} {A:Around} {E:Value->Shared->Prop} {s:Shared} {S:Addr}
theorem KH(es:Array (Int×Value)):(fun i=>(es[i]?.map (·.1)).getD 0)=KG (es.map (·.1)):=by
 funext i;unfold KG;rw[Array.getElem?_map]
theorem lW(es:Array (Int×Value))(p:Nat)(x:Int×Value):(SetTable.insertAt es p x).map (·.1)=SetTable.insertAt (es.map (·.1)) p x.1:=by
 unfold SetTable.insertAt;simp
theorem nF(es:Array (Int×Value))(ji:Array Nat):(ji.filterMap (es[·]?)).map (·.1)=ji.filterMap ((es.map (·.1))[·]?):=by
 apply Array.ext';rw[tR,tj,tj,List.map_filterMap];congr 1;funext i;rw[Array.getElem?_map]
theorem yH(hS:jP s.heap S hs t)(hg:t.gaveWay=false)(hp:t.probe (KG hs) h (t.probeStart h)=some (.empty j none))(q:Q (.free j false) s):
  wpAny (model prog w) A (setSearch S x h true) Q E s:=by
 obtain⟨o,es,ep,ho,hc,V3,hd,hm,hf⟩:=hS;unfold setSearch setSearchFrom;refine aw (tS ho hd hf ?_);dsimp only;rw[hg,aA cp];have M4:t.probe (fun i=>(es[i]?.map (·.1)).getD 0) h (t.probeStart h)=some (.empty j none):=by rw[KH,hm];exact hp
 refine aw (wpAny_pure ?_);erw[M4];exact wpAny_pure q
theorem Bp(ho:s.heap.get? a=some o)(hc:o.cls=.type "tuple")(hd:o.data=.seq #[.int x t,.int y u] n)(q:Q true s):
  wpAny (model prog w) A (hashByValue 8 (.ref a)) Q E s:=by
 have hT:s.TypeIs (.ref a) "tuple":=⟨_,ho,hc⟩
 unfold hashByValue;refine aw (wpAny_specialOf hT PySem.F.slot_tuple_hash.lookup ?_);refine aw (iQ ho hd ?_);refine aw ?_;show wpAny _ _ (forIn #[Value.int x t,Value.int y u] _ _) _ _ s;rw[<-Array.forIn_toList];refine wpAny_forIn_list _ (fun oU r s'=>r.1=none/\s'=s/\∀v∈oU,∃z k,v=Value.int z k) _ ?_ ?_ _ _ ⟨rfl,rfl,fun v hv=>?_⟩
 .rintro v oU r s' ⟨hr,rfl,iZ⟩;obtain⟨z,k,rfl⟩:=iZ v bU;refine aw (wpAny_pure ?_);exact wpAny_pure ⟨rfl,rfl,fun u' rD=>iZ u' (cU _ rD)⟩
 .rintro⟨r1,r2⟩ s' ⟨hr,rfl,_⟩;have Cs:r1=none:=hr;subst Cs;exact wpAny_pure q
 .rcases bX.mp hv with z|z
  .exact⟨_,_,z⟩
  .rcases bX.mp z with z|z
   .exact⟨_,_,z⟩
   .cases z
theorem Ab(hS:jP s.heap S hs t)(hf:t'.fits w9.size=true)(hz:w9.size<=4096)(q:∀h',Heap.SameBut S s.heap h'->jP h' S (w9.map (·.1)) t'->Q () { s with heap:=h' }):wpAny (model prog w) A (storeSet S w9 t') Q E s:=by
 obtain⟨o,es,ep,ho,hc,V3,hd,hm,_⟩:=hS;refine wpAny_storeSet_of ho hd (q _ (Heap.SameBut.update s.heap S (Obj.putSet w9 t')) ?_) (bw hz (by decide));have g:=xR (Obj.putSet w9 t') ho (by rw[putSet_of w9 t' hd];rfl);rw[putSet_of w9 t' hd] at g;exact⟨_,w9,ep+1,g,hc,V3,rfl,rfl,hf⟩
theorem Gs(hu:A.units<cLine)(hS:jP s.heap S hs t)(ho:s.heap.get? a=some o)(hc:o.cls=.type "tuple")(hd:o.data=.seq #[.int x tx,.int y ty] n)(vA:a≠S)(lM:f8 hs t (tupleKeyHash (intKind prog w) [x,y])=some (hs',t'))(q:∀h' tk,Heap.SameBut S s.heap h'->jP h' S hs' t'->Q true { s with heap:=h',toks:=tk }):wpAny (model prog w) A (setAdd S (.ref a)) Q E s:=by
 have hk:IsTupleKey (intKind prog w) s.heap [x,y] a:=⟨o,_,n,ho,hc,hd,.cons (intKind_is _ _ _ _) (.cons (intKind_is _ _ _ _) .nil)⟩
 unfold setAdd;refine fK (aw (wpAny_pyHash_tuple hu hk ?_));generalize SF:s.toks+([x,y].length+1)=tk;generalize hh:tupleKeyHash (intKind prog w) [x,y]=h at lM |-;have V4:=hS;obtain⟨ob,es,ep,hb,S6,hbd,FN,hm,hf⟩:=hS;unfold setAddHashed setAddHashedIn;refine fK (aw (tS (s:={ s with toks:=tk }) hb FN hf ?_));dsimp only;have Jl:byScan (.ref a) es=false:=by unfold byScan;rfl
 rw[Jl,aA cp];unfold f8 at lM;cases hg:t.gaveWay with
 |true=>rw[hg,am rfl] at lM;cases lM
 |false=>
  rw[hg,aA cp] at lM;split at lM
  .rename_i j hp;dsimp only at lM;split at lM
   .rename_i Ro;rw[fE,qb] at Ro;refine aw (yH (s:={ s with toks:=tk }) V4 hg hp ?_);dsimp only;refine aw (tS (s:={ s with toks:=tk }) hb FN hf ?_);dsimp only;have Yk:∀ {kk:Bool->Sem Bool},wpAny (model prog w) A (kk true) Q E { s with toks:=tk }->wpAny (model prog w) A (if (t.put j).1.plain=true then hashByValue 8 (.ref a) >>= kk else pure true >>= kk) Q E { s with toks:=tk }:=fun {kk} hP=>by
     split
     .exact aw (Bp (s:={ s with toks:=tk }) ho hc hd hP)
     .exact aw (wpAny_pure hP)
    refine Yk ?_;simp only[iw];have ku:(SetTable.insertAt es (t.put j).2 (h,Value.ref a)).size=(SetTable.insertAt hs (t.put j).2 h).size:=by
     rw[<-hm,<-lW es (t.put j).2 (h,Value.ref a),iP]
    refine aw (Ab (s:={ s with toks:=tk }) V4 (by rw[ku];exact Ro.1) (by rw[ku];exact Ro.2) fun h1 mE S1=>?_);rw[lW,hm] at S1;split at lM
    .rename_i S7;rw[show (!false&&(t.put j).1.tooFull)=true by rw[S7];rfl,am rfl];split at lM
     .rename_i t2 ji hr;split at lM
      .rename_i hq;rw[fE,fE,qb,fc] at hq;obtain⟨⟨Jm,Rp⟩,V5⟩:=hq;cases lM;have Yl:es.size=hs.size:=by rw[<-hm,iP]
       refine aw ?_;unfold setRelay;obtain⟨o1,Bq,ep1,g1,g2,g3,g4,g5,g6⟩:=id S1;refine aw (tS (s:={ s with heap:=h1,toks:=tk }) g1 g4 g6 ?_);dsimp only;rw[Yl];rw[aA (by (have h4:(4096:Nat)<=sizeLine:=by decide);lia)];refine aw ?_;rw[g5,hr];have yI:(ji.filterMap (Bq[·]?)).size=Bq.size:=by
        have e1:=congrArg Array.size (nF Bq ji);rw[iP,g5] at e1;rw[e1,Jm,<-g5,iP]
       refine wpAny_of_eq (show _=(pure (ji.filterMap (Bq[·]?),t'):Sem (Array (Int×Value)×SetTable)) from ?_) ?_
       .show (do
         let w9:=ji.filterMap (Bq[·]?)
         if w9.size != Bq.size then unsupported "internal:set-table-lost-an-element"
         pure (w9,t'):Sem (Array (Int×Value)×SetTable))=_
        simp[yI]
       dsimp only;have S9:Bq.size<=4096:=by
        have e1:=congrArg Array.size g5;rw[iP] at e1;rw[e1];exact Ro.2
       have Ym:(ji.filterMap (Bq[·]?)).size=(ji.filterMap ((SetTable.insertAt hs (t.put j).2 h)[·]?)).size:=by
        have e1:=congrArg Array.size (nF Bq ji);rw[iP,g5] at e1;exact e1
       refine Ab (s:={ s with heap:=h1,toks:=tk }) S1 (by rw[Ym];exact Rp) (by rw[yI];exact S9) fun h2 lC S2=>?_;rw[nF,g5] at S2;exact wpAny_pure (q h2 tk (mE.trans lC) S2)
      .cases lM
     .cases lM
    .rename_i S7;cases lM;have S_:(t.put j).1.tooFull=false:=by simpa using S7
     rw[show (!false&&(t.put j).1.tooFull)=false by rw[S_];rfl,aA cp];exact wpAny_pure (q h1 tk mE S1)
   .cases lM
  .cases lM
end
section
variable {prog:Program} {w:World} {A:Around} {E:Value->Shared->Prop} {s:Shared} {S Ia l:Addr} {R:Result->Shared->Prop}
def i0(h:Heap)(vs:List Value)(ys:List (Int×Int)):Prop:=vs.length=ys.length/\∀i v,vs[i]?=some v->∃a o n t u,v=.ref a/\h.get? a=some o/\o.cls=.type "tuple"/\o.data=.seq #[.int (ys.getD i (0,0)).1 t,.int (ys.getD i (0,0)).2 u] n
theorem i0.keeps(p:i0 h vs ys)(k:∀b o,(∃xs n,o.data=.seq xs n)->h.get? b=some o->h'.get? b=some o):i0 h' vs ys:=
 ⟨p.1,fun i v e=>let ⟨a,o,n,t,u,e1,e2,c,d⟩:=p.2 i v e;⟨a,o,n,t,u,e1,k a o ⟨_,_,d⟩ e2,c,d⟩⟩
def fh(prog:Program)(w:World)(y:Int×Int):Int:=tupleKeyHash (intKind prog w) [y.1,y.2]
theorem Dw(hh:A.handled=none)(hu:A.units+1<cLine)(Yn:l≠S)(Ta:l≠Ia)(Tb:S≠Ia):
  ∀ (k i:Nat) (s:Shared) (hs:Array Int) (t:SetTable),vs.length-i=k->i<=vs.length->s.heap.IsListIter Ia l i->s.heap.IsList l vs.toArray->i0 s.heap vs ys->jP s.heap S hs t->
   ((ys.drop i).map (fh prog w)).foldlM (fun q h=>f8 q.1 q.2 h) (hs,t)=some (hsN,tN)->
   (∀h' tk,(∀b o,b≠S->b≠Ia->s.heap.get? b=some o->h'.get? b=some o)->jP h' S hsN tN->R (.ok (.ret .none)) { s with heap:=h',toks:=tk })->
   codeAny (model prog w) A (.builtin "set.update.loop" ⟨[.ref S,.ref Ia],[]⟩) R s:=by
 intro k;induction k with
 |zero=>
  intro i s hs t hk hi vB hl hp hS hf hR;have e:i=vs.length:=by lia
  refine m_ CD ?_;rw[tJ xj _];show wpAny _ A.in1 (pyNext (.ref Ia) >>= _) _ _ s;refine aw (tD (show A.in1.handled=none from hh) vB hl (by simp;lia) fun h' eb=>?_);show wpAny _ A.in1 (ret Value.none) _ _ _;have hd:ys.drop i=[]:=by rw[List.drop_eq_nil_iff];have:=hp.1;lia
  rw[hd] at hf;cases hf;obtain⟨o,es,ep,q1,q2⟩:=hS;exact wpAny_pure (hR h' s.toks (fun b o hb Gu e=>eb b o Gu e) ⟨o,es,ep,eb S o Tb q1,q2⟩)
 |succ k ih=>
  intro i s hs t hk hi vB hl hp hS hf hR;have e_:i<vs.length:=by lia
  refine m_ CD ?_;rw[tJ xj _];show wpAny _ A.in1 (pyNext (.ref Ia) >>= _) _ _ s;have hv:vs[i]?=some vs[i]:=bO e_;refine aw (p9 vB hl (x:=vs[i]) (by simpa using hv) fun h1 KI mE=>?_);obtain⟨a,o,n,tx,ty,ea,eo,ec,ed⟩:=hp.2 i _ hv;rw[ea];have Rq:∀b ob,(∃xs n,ob.data=.seq xs n)->s.heap.get? b=some ob->b≠Ia:=fun b ob ⟨xs,m,z⟩ e z'=>by
   obtain⟨oi,e1,_,d1⟩:=vB;rw[z',e1] at e;cases e;rw[d1] at z;cases z
  have vC:i0 h1 vs ys:=hp.keeps fun b ob hb e=>(mE.2 b (Rq b ob hb e)).trans e;have V6:jP h1 S hs t:=by
   obtain⟨oS,es,ep,q1,q2⟩:=hS;exact⟨oS,es,ep,(mE.2 S Tb).trans q1,q2⟩
  have Cu:h1.IsList l vs.toArray:=by
   obtain⟨ol,q1,q2⟩:=hl;exact⟨ol,(mE.2 l Ta).trans q1,q2⟩
  have Oh:h1.get? a=some o:=(mE.2 a (Rq a o ⟨_,_,ed⟩ eo)).trans eo;have V7:∀b ob,(∃xs n,ob.data=.seq xs n)->h1.get? b=some ob->b≠S:=fun b ob ⟨xs,m,z⟩ e z'=>by
   obtain⟨oS,es,ep,q1,_,_,q4,_⟩:=V6;rw[z',q1] at e;cases e;rw[q4] at z;cases z
  have Br:i<ys.length:=by have:=hp.1;lia
  have Tc:ys.drop i=ys[i]::ys.drop (i+1):=rS Br;have Yo:ys.getD i (0,0)=ys[i]:=by rw[bb,bO Br];rfl
  rw[Tc,eE,List.foldlM_cons] at hf;cases lM:f8 hs t (fh prog w ys[i]) with
  |none=>rw[lM] at hf;cases hf
  |some q=>
   obtain⟨qt,t2⟩:=q;rw[lM] at hf;have V8:((ys.drop (i+1)).map (fh prog w)).foldlM (fun q h=>f8 q.1 q.2 h) (qt,t2)=some (hsN,tN):=hf;show wpAny _ A.in1 (holding [Value.ref a] (setAdd S (.ref a)) >>= _) _ _ _;refine aw (fK (Gs (s:={ s with heap:=h1 }) (by show A.units+1<cLine;exact hu) V6 Oh ec ed (V7 a o ⟨_,_,ed⟩ Oh) (hs':=qt) (t':=t2) (by rw[Yo];exact lM) fun h2 tk lC S2=>?_));refine wpAny_pure ⟨plainId_quiet xj _,?_⟩;refine ih (i+1) { s with heap:=h2,toks:=tk } qt t2 (by lia) e_ ?_ ?_ (vC.keeps fun b ob hb e=>(lC.2 b (V7 b ob hb e)).trans e) S2 V8 fun h3 Td k3 S3=>?_
   .obtain⟨oi,q1,q2⟩:=KI;exact⟨oi,(lC.2 Ia (gU Tb)).trans q1,q2⟩
   .obtain⟨ol,q1,q2⟩:=Cu;exact⟨ol,(lC.2 l Yn).trans q1,q2⟩
   .exact hR h3 Td (fun b ob hb Gu e=>k3 b ob hb Gu ((lC.2 b hb).trans ((mE.2 b Gu).trans e))) S3
theorem Dx{vs:List Value}{ys:List (Int×Int)}{hsN:Bool->Array Int}{tN:Bool->SetTable}{Q:Value->Shared->Prop}(hh:A.handled=none)(hu:A.units+8<cLine)(hl:s.heap.IsList l vs.toArray)(hp:i0 s.heap vs ys)(Bs:∀led,uB led (ys.map (fh prog w))=some (hsN led,tN led))(h:∀ (led:Bool) (h':Heap) (tk:Nat),jP h' s.heap.objs.size (hsN led) (tN led)->(∀b o,b<s.heap.objs.size->s.heap.get? b=some o->h'.get? b=some o)->Q (.ref s.heap.objs.size) { s with heap:=h',toks:=tk }):
  wpAny (model prog w) A (call (.type "set") [.ref l]) Q E s:=by
 obtain⟨c,tl,Yp⟩:=oz.mro;have c1:=oz.made;have c2:=oz.sub;refine wpAny_call (codeAny_of_tree ?_);show wpAny _ _ (callAny (.type "set") _) _ _ _;refine wpAny_pure ⟨Code.quiet_builtin _ (by decide +kernel),m_ PySem.F.entry_type_call ?_⟩;rw[Around.under_plain (weight_type_call_type "set" [.ref l] []) rfl];have c3:=oz.notType;have c4:=oz.canCreate;have c5:=PySem.F.typeCall_set_1 (.ref l);repeat (any_goals (first|assumption|wp_step))
 refine nh (code_set_new_1 (.ref l) (E:=E) (Q₁:=fun obj s₁=>∃led:Bool,obj=.ref s.heap.objs.size/\s₁={ s with heap:=s.heap.push { cls:=.type "set",dict:=none,data:=.set #[] 0 (.fresh 0 0 led) } }) fun led=>⟨led,rfl,rfl⟩) fun r s₁ hr=>?_;cases r with
 |error e=>exact hr
 |ok fl=>
  cases fl with
  |next=>exact hr.elim
  |brk=>exact hr.elim
  |cont=>exact hr.elim
  |ret obj=>
   obtain⟨led,rfl,rfl⟩:=hr;generalize Te:s.heap.push { cls:=.type "set",dict:=none,data:=.set #[] 0 (.fresh 0 0 led) }=hS;have ku:hS.objs.size=s.heap.objs.size+1:=by rw[<-Te,jg]
   have gS:hS.get? s.heap.objs.size=some { cls:=.type "set",dict:=none,data:=.set #[] 0 (.fresh 0 0 led) }:=by rw[<-Te];exact cD _ rfl
   have up:∀b o,s.heap.get? b=some o->hS.get? b=some o:=fun b o e=>by rw[<-Te];exact bV _ e
   have hT:Shared.TypeIs { s with heap:=hS } (.ref s.heap.objs.size) "set":=⟨_,gS,rfl⟩
   have c6:=oz.init.lookup;have c7:=oz.init.bind (.ref s.heap.objs.size);repeat (any_goals (first|assumption|wp_step))
   refine nh (xT (R:=wants (fun r s₂=>r=.none/\∃h' tk,s₂={ s with heap:=h',toks:=tk }/\jP h' s.heap.objs.size (hsN led) (tN led)/\
     (∀b o,b<s.heap.objs.size->s.heap.get? b=some o->h'.get? b=some o)) E) oz.init.plain PySem.F.entry_set_init (check_set_init_1 hT ?_)) fun r₂ s₂ Oi=>?_
   .obtain⟨ol,FU,M3,nl,Rr⟩:=hl;obtain⟨Yq,V9,V_,Tf⟩:=ol;simp only at M3 Rr;subst M3;subst Rr;have Tg:=up _ _ FU;have c8:=PySem.F.sub_list_set;have c9:=PySem.F.sub_list_frozenset;have c10:(Value.type "list"==Value.type "dict")=false:=by decide
    have Cu:hS.IsList l vs.toArray:=⟨_,Tg,rfl,nl,rfl⟩
    unfold Builtin.«set.__init__» noKeywords Builtin.Frozenset.updateFrom;generalize Yr:pyIter=PI
    wp_walk
    subst Yr;refine mW Cu ?_;refine aw (wpAny_runValue ?_);have e_:l<s.heap.objs.size:=be FU;refine Dw (l:=l) (vs:=vs) (ys:=ys) (hsN:=hsN led) (tN:=tN led) (by simp[hh]) (by simp;lia) (ba e_) (by rw[ku];exact ba (dg e_)) (by rw[ku];exact ba (iN _))
     (vs.length-0) 0 _ #[] (.fresh 0 0 led) rfl (dh _) ⟨_,cD _ rfl,rfl,rfl⟩ (Cu.push _) (hp.keeps fun b o _ e=>bV _ (up b o e)) ⟨_,#[],0,bV _ gS,rfl,⟨rfl,rfl⟩,rfl,by simp,rfl⟩ (Bs led) fun h' tk k S'=>?_
    show wpAny _ _ _ _ _ _;refine wpAny_pure ?_;show wpAny _ _ (ret Value.none) _ _ _;refine wpAny_pure ⟨rfl,h',tk,rfl,S',fun b o hb e=>?_⟩;exact k b o (ba hb) (by rw[ku];exact ba (dg hb)) (bV _ (up b o e))
   .cases r₂ with
    |error e=>exact Oi
    |ok Ys=>
     cases Ys with
     |next=>exact Oi.elim
     |brk=>exact Oi.elim
     |cont=>exact Oi.elim
     |ret r=>
      obtain⟨rfl,h',tk,rfl,S',k⟩:=Oi;repeat (any_goals (first|assumption|wp_step))
      exact h led h' tk S' k
end
open PySem
def Dy(l:List Nat):Nat:=l.foldl (fun a x=>a ||| (1 <<< x)) 0
theorem Bt(l:List Nat)(a j:Nat):(l.foldl (fun a x=>a ||| (1 <<< x)) a).testBit j=(a.testBit j||l.contains j):=by
 induction l generalizing a with
 |nil=>simp
 |cons x xs ih=>
  rw[tU,ih,Nat.testBit_or,List.contains_cons];have:(1 <<< x).testBit j=(j==x):=by
   rw[Nat.one_shiftLeft,Nat.testBit_two_pow];by_cases h:x=j
   .simp[h]
   .have h':¬ j=x:=fun e=>h e.symm;simp[h,h']
  rw[this,Bool.or_assoc]
theorem oC(h:Dy l=2 ^ n-1)(hj:j<n):j∈l:=by
 have e:=Bt l 0 j;have h':l.foldl (fun a x=>a ||| (1 <<< x)) 0=2 ^ n-1:=h;rw[h',Nat.testBit_two_pow_sub_one] at e;simp[hj] at e;exact e
def Dz(M:Nat):Nat->Nat->Nat
 |0,i=>i
 |n+1,i=>Dz M n ((i*5+1) % M)
theorem pF(M a:Nat):∀b i,Dz M (b+a) i=Dz M a (Dz M b i)
 |0,i=>by rw[t7];rfl
 |b+1,i=>by
  rw[show b+1+a=(b+a)+1 by lia];show Dz M (b+a) _=Dz M a (Dz M b _);exact pF M a b _
def KJ(M:Nat):Nat->Nat->List Nat
 |0,_=>[]
 |n+1,i=>i::KJ M n ((i*5+1) % M)
theorem qB:∀ {n i},j∈KJ M n i->∃k,k<n/\Dz M k i=j
 |0,_,h=>by cases h
 |n+1,i,h=>by
  rcases bX.mp h with z|z
  .exact⟨0,by lia,z.symm⟩
  .obtain⟨k,a,b⟩:=qB z;exact⟨k+1,by lia,b⟩
structure Bu(M:Nat):Prop where
 all:Dy (KJ M M 0)=2 ^ M-1
 back:Dz M M 0=0
theorem Th:Bu 8:=⟨by decide +kernel,by decide +kernel⟩
theorem Jn:Bu 32:=⟨by decide +kernel,by decide +kernel⟩
theorem DA:Bu 128:=⟨by decide +kernel,by decide +kernel⟩
theorem DB:Bu 512:=⟨by decide +kernel,by decide +kernel⟩
theorem Bu.cover(R:Bu M)(hi:i<M)(hj:j<M):∃n,n<M/\Dz M n i=j:=by
 obtain⟨a,ha,ea⟩:=qB (oC R.all hi);obtain⟨b,hb,eb⟩:=qB (oC R.all hj);by_cases h:a<=b
 .refine⟨b-a,by lia,?_⟩;rw[<-ea,<-pF,show a+(b-a)=b by lia,eb]
 .refine⟨M+b-a,by lia,?_⟩;rw[<-ea,<-pF,show a+(M+b-a)=M+b by lia,pF,R.back,eb]
def gG(mask:Nat):Nat->Nat×Nat->Nat×Nat
 |0,q=>q
 |n+1,q=>gG mask n (SetTable.leap mask q.1 q.2)
theorem si(m a:Nat):∀b q,gG m (b+a) q=gG m a (gG m b q)
 |0,q=>by rw[t7];rfl
 |b+1,q=>by
  rw[show b+1+a=(b+a)+1 by lia];exact si m a b _
theorem vX:∀ {n:Nat} {q:Nat×Nat},q.1<m+1->(gG m n q).1<m+1
 |0,_,h=>h
 |n+1,q,h=>vX (n:=n) (iu _ (Nat.succ_pos _))
theorem Ac:∀ {n:Nat} {q:Nat×Nat},(gG m n q).2=q.2 / 32 ^ n
 |0,_=>by simp[gG]
 |n+1,q=>by
  show (gG m n _).2=_;rw[Ac];show q.2 / 32 / 32 ^ n=_;rw[xz,Nat.pow_succ,Nat.mul_comm]
theorem sj:∀ {n i:Nat},gG m n (i,0)=(Dz (m+1) n i,0)
 |0,_=>rfl
 |n+1,i=>by
  show gG m n (SetTable.leap m i 0)=_;unfold SetTable.leap;simp only[Nat.zero_div,ua];exact sj
theorem oE(R:Bu (m+1))(hi:i<m+1)(hp:p<2 ^ 64)(hj:j<m+1):∃n,n<m+14/\(gG m n (i,p)).1=j:=by
 have h1:=vX (m:=m) (n:=13) (q:=(i,p)) hi;have h2:(gG m 13 (i,p)).2=0:=by
  rw[Ac];exact Nat.div_eq_of_lt (cA hp (by decide))
 obtain⟨n,hn,e⟩:=R.cover h1 hj;refine⟨13+n,by lia,?_⟩;rw[si];have:gG m 13 (i,p)=((gG m 13 (i,p)).1,0):=ff rfl h2;rw[this,sj];exact e
theorem Ad(h:Int):SetTable.bits h<2 ^ 64:=by
 unfold SetTable.bits;have a:=m9 h (show (2 ^ 64:Int)≠0 by decide);have b:=mO h (show (0:Int)<2 ^ 64 by decide);lia
theorem Oj{M:Nat}{l:List Nat}(h:l.length<M):∃j,j<M/\j∉l:=by
 have key:∀ (a b:List Nat),a.Nodup->(∀x∈a,x∈b)->a.length<=b.length:=by
  intro a;induction a with
  |nil=>intro b _ _;exact dh _
  |cons x xs ih=>
   intro b hn hs;obtain⟨h1,h2⟩:=fJ.mp hn;have hx:x∈b:=hs x bU;have:=ih (b.erase x) h2 fun y hy=>(xF (fun (e:y=x)=>h1 (e ▸ hy))).mpr (hs y (cU _ hy));rw[xt hx] at this;have:0<b.length:=tf hx;rw[dH];lia
 apply lE;intro De;have:=key (List.range M) l kE fun x hx=>lE fun A6=>De ⟨x,bH.mp hx,A6⟩;rw[bR] at this;lia
def yJ(mask i p:Nat):SetTable.Probe:={ j:=i,more:=SetTable.runEnd mask i-i,i:=i,perturb:=p,dummy:=none }
theorem KL(mask i:Nat):SetTable.runEnd mask i-i<=9:=by unfold SetTable.runEnd;split <;> lia
theorem uC{t:SetTable}(hd:t.dummies=#[])(j:Nat):t.slot j=.empty\/∃i,t.slot j=.live i/\t.place[i]?=some j:=by
 unfold SetTable.slot;dsimp only;split
 .rename_i h;exact .inr ⟨_,rfl,by simpa using h⟩
 .left;rw[hd];rfl
theorem yK{t:SetTable}(hd:t.dummies=#[]){j:Nat}(h:j∉t.place.toList):t.slot j=.empty:=by
 rcases uC hd j with e|⟨i,_,e2⟩
 .exact e
 .exact absurd (by rw[<-mK] at e2;exact cm e2) h
section
variable {t:SetTable} {hashAt:Nat->Int} {h:Int}
theorem DC(hd:t.dummies=#[])(hh:∀i,i<t.place.size->hashAt i≠h)(i p:Nat):∀ (r:Nat) (j gh:Nat),
  (∃j',SetTable.probe.go t hashAt h (gh+r+1) { j:=j,more:=r,i:=i,perturb:=p,dummy:=none }=some (.empty j' none))\/
  SetTable.probe.go t hashAt h (gh+r+1) { j:=j,more:=r,i:=i,perturb:=p,dummy:=none }=SetTable.probe.go t hashAt h gh (yJ t.mask (SetTable.leap t.mask i p).1 (SetTable.leap t.mask i p).2)
 |0,j,gh=>by
  rcases uC hd j with e|⟨k,e,e2⟩
  .exact .inl ⟨j,by unfold SetTable.probe.go;rw[e]⟩
  .right;have hk:k<t.place.size:=(CM.mp e2).1;conv=>lhs;unfold SetTable.probe.go
   rw[e];simp only[fc,hh k hk,fU];rfl
 |r+1,j,gh=>by
  rcases uC hd j with e|⟨k,e,e2⟩
  .exact .inl ⟨j,by rw[show gh+(r+1)+1=(gh+r+1)+1 by lia];unfold SetTable.probe.go;rw[e]⟩
  .have hk:k<t.place.size:=(CM.mp e2).1;have st:SetTable.probe.go t hashAt h (gh+(r+1)+1) { j:=j,more:=r+1,i:=i,perturb:=p,dummy:=none }=SetTable.probe.go t hashAt h (gh+r+1) { j:=j+1,more:=r,i:=i,perturb:=p,dummy:=none }:=by
    rw[show gh+(r+1)+1=(gh+r+1)+1 by lia];conv=>lhs;unfold SetTable.probe.go
    rw[e];simp only[fc,hh k hk,fU];rfl
   rw[st];exact DC hd hh i p r (j+1) gh
theorem Ae(hd:t.dummies=#[])(hh:∀i,i<t.place.size->hashAt i≠h):∀ (m:Nat) (i p gh:Nat),10*(m+1)<=gh->t.slot (gG t.mask m (i,p)).1=.empty->
  ∃j',SetTable.probe.go t hashAt h gh (yJ t.mask i p)=some (.empty j' none)
 |0,i,p,gh,hf,e=>by
  obtain⟨f,rfl⟩:∃f,gh=f+1:=⟨gh-1,by lia⟩
  refine⟨i,?_⟩;have e':t.slot i=.empty:=e;unfold SetTable.probe.go yJ;dsimp only;rw[e']
 |m+1,i,p,gh,hf,e=>by
  have hr:=KL t.mask i;obtain⟨f,Gv⟩:∃f,gh=f+(SetTable.runEnd t.mask i-i)+1:=⟨gh-(SetTable.runEnd t.mask i-i)-1,by lia⟩
  rcases DC (hashAt:=hashAt) (h:=h) hd hh i p (SetTable.runEnd t.mask i-i) i f with z|z
  .rw[Gv];exact z
  .rw[Gv];show ∃j',SetTable.probe.go t hashAt h _ { j:=i,more:=_,i:=i,perturb:=p,dummy:=none }=_;rw[z];exact Ae hd hh m _ _ f (by lia) e
theorem yL(R:Bu (t.mask+1))(hd:t.dummies=#[])(hs:t.place.size<=t.mask)(hh:∀i,i<t.place.size->hashAt i≠h):∃j,t.probe hashAt h (t.probeStart h)=some (.empty j none):=by
 obtain⟨j,hj,hn⟩:=Oj (M:=t.mask+1) (l:=t.place.toList) (by simpa using Nat.lt_succ_of_le hs);obtain⟨m,hm,e⟩:=oE R (iu (SetTable.bits h) (Nat.succ_pos t.mask)) (Ad h) hj;refine Ae hd hh m _ _ _ ?_ (by rw[e];exact yK hd hn);unfold SetTable.turns;lia
end
theorem jQ{α β:Type}{f:α->Option β}:∀ {l:List α},(∀q∈l,(f q).isSome=true)->(l.filterMap f).length=l.length
 |[],_=>rfl
 |q::l,h=>by
  have hq:=h q bU;cases e:f q with
  |none=>rw[e] at hq;cases hq
  |some b=>rw[CP e,dH,dH,jQ fun x hx=>h x (cU _ hx)]
theorem sk:∀ (m gh i p:Nat),m<gh->owner.getD (gG mask m (i,p)).1 (some 0)=none->∃j,SetTable.layClean.free mask owner gh i p=some j/\owner.getD j (some 0)=none
 |m,0,_,_,h,_=>by lia
 |m,gh+1,i,p,h,e=>by
  unfold SetTable.layClean.free;cases hf:(List.range (SetTable.runEnd mask i+1-i)).find? fun k=>(owner.getD (i+k) (some 0)).isNone with
  |some k=>
   refine⟨i+k,rfl,?_⟩;have:=List.find?_some hf;simpa using this
  |none=>
   cases m with
   |zero=>
    have h0:(0:Nat)∈List.range (SetTable.runEnd mask i+1-i):=bH.mpr (by unfold SetTable.runEnd;split <;> lia);have:=List.find?_eq_none.mp hf 0 h0;have e':owner.getD i (some 0)=none:=e;rw[ua,e'] at this;exact absurd rfl this
   |succ m=>
    exact sk m gh _ _ (by lia) e
structure vY(M:Nat)(owner:Array (Option Nat))(k:Nat):Prop where
 size:owner.size=M
 cnt:owner.toList.countP Option.isSome=k
 lt:∀x,some x∈owner.toList->x<k
theorem yM{l:List (Option Nat)}{j:Nat}{x:Nat}(hj:l[j]?=some none):(l.set j (some x)).countP Option.isSome=l.countP Option.isSome+1:=by
 induction l generalizing j with
 |nil=>cases hj
 |cons a l ih=>
  cases j with
  |zero=>
   obtain rfl:a=none:=by simpa using hj
   simp
  |succ j=>
   rw[List.set_cons_succ,mU,mU,ih (by simpa using hj)];lia
theorem vY.one{mask:Nat}{owner:Array (Option Nat)}{k:Nat}(L:vY (mask+1) owner k)(R:Bu (mask+1))(hk:k<mask+1)(h:Int):
  ∃j,SetTable.layClean.free mask owner (SetTable.turns mask) (SetTable.bits h % (mask+1)) (SetTable.bits h)=some j/\vY (mask+1) (owner.setIfInBounds j (some k)) (k+1):=by
 have De:∃j,j<mask+1/\owner.toList[j]?=some none:=by
  apply lE;intro De;have iZ:∀x∈owner.toList,x.isSome=true:=by
   intro x hx;obtain⟨j,hj,e⟩:=kN.mp hx;cases x with
   |some _=>rfl
   |none=>
    refine absurd ⟨j,?_,?_⟩ De
    .rw[<-L.size];simpa using hj
    .rw[bO hj,e]
  have:=List.countP_eq_length.mpr iZ;rw[L.cnt,kP,L.size] at this;lia
 obtain⟨j0,Yt,e0⟩:=De;obtain⟨m,hm,em⟩:=oE R (iu (SetTable.bits h) (Nat.succ_pos mask)) (Ad h) Yt;obtain⟨j,ej,en⟩:=sk (mask:=mask) (owner:=owner) m (SetTable.turns mask) (SetTable.bits h % (mask+1)) (SetTable.bits h) (by unfold SetTable.turns;lia)
  (by rw[em,sX,<-mK,e0];rfl)
 refine⟨j,ej,?_⟩;have Yu:owner.toList[j]?=some none:=by
  rw[sX,<-mK] at en;cases hq:owner.toList[j]? with
  |none=>rw[hq] at en;cases en
  |some v=>rw[hq] at en;rw[show v=none from en]
 have oY:(owner.setIfInBounds j (some k)).toList=owner.toList.set j (some k):=by simp
 refine⟨by simp[L.size],by rw[oY,yM Yu,L.cnt],fun x hx=>?_⟩;rw[oY] at hx;rcases List.mem_or_eq_of_mem_set hx with z|z
 .exact dg (L.lt x z)
 .cases z;exact iN _
theorem Af(R:Bu (mask+1)):∀ (l:List Int) (owner:Array (Option Nat)) (k:Nat),vY (mask+1) owner k->k+l.length<=mask->
  ∃DD,l.foldl (fun dN h=>do
   let (owner,k) <- dN
   let j <- SetTable.layClean.free mask owner (SetTable.turns mask) (SetTable.bits h % (mask+1)) (SetTable.bits h)
   pure (owner.setIfInBounds j (some k),k+1)) (some (owner,k))=some (DD,k+l.length)/\vY (mask+1) DD (k+l.length)
 |[],owner,k,L,_=>⟨owner,rfl,L⟩
 |h::l,owner,k,L,hl=>by
  rw[dH] at hl;obtain⟨j,ej,L'⟩:=L.one R (by lia) h;obtain⟨o',e,L2⟩:=Af R l _ _ L' (by lia);refine⟨o',?_,by rw[dH,show k+(l.length+1)=k+1+l.length by lia];exact L2⟩;rw[tU];have:(do
   let (owner,k) <- some (owner,k)
   let j <- SetTable.layClean.free mask owner (SetTable.turns mask) (SetTable.bits h % (mask+1)) (SetTable.bits h)
   pure (owner.setIfInBounds j (some k),k+1):Option (Array (Option Nat)×Nat))=some (owner.setIfInBounds j (some k),k+1):=by
   show (SetTable.layClean.free mask owner (SetTable.turns mask) (SetTable.bits h % (mask+1)) (SetTable.bits h)).bind _=_;rw[ej];rfl
  rw[this,e,dH,show k+(l.length+1)=k+1+l.length by lia]
theorem vZ(R:Bu (mask+1))(hs:Array Int)(h:hs.size<=mask):∃owner,SetTable.layClean mask hs=some owner/\vY (mask+1) owner hs.size:=by
 have L0:vY (mask+1) (Array.replicate (mask+1) none) 0:=⟨by simp,by simp[List.countP_replicate],fun x hx=>by simp at hx⟩
 obtain⟨o,e,L⟩:=Af R hs.toList _ 0 L0 (by simpa using h);refine⟨o,?_,by simpa using L⟩;unfold SetTable.layClean;rw[<-Array.foldl_toList];have e':=congrArg (Option.map (·.1)) e;exact e'
theorem yN(L:vY M owner n):
  ((List.range M).filterMap fun j=>(owner.getD j none).map (j,·)).length=n/\∀q∈(List.range M).filterMap (fun j=>(owner.getD j none).map (j,·)),q.2<n:=by
 constructor
 .rw[<-L.cnt];have e:owner.toList=(List.range M).map fun j=>owner.getD j none:=by
   apply xZ
   .simp[L.size]
   .intro i h1 h2;simp only[qg,xQ,Array.getElem_toList];rw[sX,xp (by simpa using h1)];rfl
  conv=>rhs;rw[e]
  rw[yb];generalize List.range M=l;induction l with
  |nil=>rfl
  |cons a l ih=>
   rw[mU,<-ih];cases hq:owner.getD a none with
   |none=>rw[List.filterMap_cons_none (by rw[hq];rfl),show (Option.isSome ∘ fun j=>owner.getD j none) a=false by show (owner.getD a none).isSome=false;rw[hq];rfl];simp
   |some x=>rw[CP (b:=(a,x)) (by rw[hq];rfl),show (Option.isSome ∘ fun j=>owner.getD j none) a=true by show (owner.getD a none).isSome=true;rw[hq];rfl];simp
 .intro q hq;obtain⟨j,_,e⟩:=mN.mp hq;cases hx:owner.getD j none with
  |none=>rw[hx] at e;cases e
  |some x=>
   rw[hx] at e;cases e;refine L.lt x ?_;rw[sX,<-mK] at hx;cases hy:owner.toList[j]? with
   |none=>rw[hy] at hx;cases hx
   |some v=>rw[hy] at hx;obtain rfl:v=some x:=hx;exact cm hy
structure v3(hs:Array Int)(t:SetTable):Prop where
 dm:t.dummies=#[]
 sz:t.place.size=hs.size
 ms:(t.mask=7/\hs.size<=4)\/(t.mask=31/\hs.size<=18)\/(t.mask=127/\hs.size<=76)\/(t.mask=511/\hs.size<=306)
theorem v3.Yv(T:v3 hs t):Bu (t.mask+1):=by
 rcases T.ms with ⟨e,_⟩|⟨e,_⟩|⟨e,_⟩|⟨e,_⟩ <;> rw[e]
 .exact Th
 .exact Jn
 .exact DA
 .exact DB
theorem kG(xs:Array α)(p:Nat)(x:α):(SetTable.insertAt xs p x).size=xs.size+1:=by
 unfold SetTable.insertAt;simp;lia
theorem lX(h:y∈(SetTable.insertAt xs p x).toList):y=x\/y∈xs.toList:=by
 unfold SetTable.insertAt at h;rw[eU,mR,xH,xH] at h;rcases bS.mp h with z|z
 .rcases bS.mp z with z|z
  .right;rw[List.extract_eq_drop_take] at z;exact tu (ot z)
  .left;simpa using z
 .right;rw[List.extract_eq_drop_take] at z;exact tu (ot z)
theorem yO{hs:Array Int}{t:SetTable}{h:Int}(T:v3 hs t)(hn:h∉hs.toList)(hl:hs.size<300):∃hs' t',f8 hs t h=some (hs',t')/\v3 hs' t'/\hs'.size=hs.size+1/\∀x∈hs'.toList,x=h\/x∈hs.toList:=by
 have S9:t.place.size<=t.mask:=by rw[T.sz];rcases T.ms with ⟨e,z⟩|⟨e,z⟩|⟨e,z⟩|⟨e,z⟩ <;> lia
 have hh:∀i,i<t.place.size->KG hs i≠h:=by
  intro i hi e;rw[T.sz] at hi;unfold KG at e;rw[xp hi] at e;exact hn (by rw[<-e];simp)
 obtain⟨j,hp⟩:=yL (hashAt:=KG hs) (h:=h) T.Yv T.dm S9 hh;have hg:t.gaveWay=false:=by
  unfold SetTable.gaveWay;rcases T.ms with ⟨e,_⟩|⟨e,_⟩|⟨e,_⟩|⟨e,_⟩ <;> rw[e] <;> rfl
 have q1:(t.put j).1.place=SetTable.insertAt t.place (SetTable.below t.place j) j:=rfl;have q2:(t.put j).1.dummies=#[]:=by
  show (if SetTable.has t.dummies j=true then _ else t.dummies)=_;rw[T.dm];rfl
 have q3:(t.put j).1.mask=t.mask:=rfl;have s1:(SetTable.insertAt hs (t.put j).2 h).size=hs.size+1:=kG _ _ _;have s2:(t.put j).1.place.size=hs.size+1:=by rw[q1,kG,T.sz]
 have fl:(t.put j).1.fill=hs.size+1:=by unfold SetTable.fill;rw[s2,q2];rfl
 have Yw:(t.put j).1.fits (SetTable.insertAt hs (t.put j).2 h).size=true:=by
  unfold SetTable.fits;rw[s1,s2,fl,q3];simp;rcases T.ms with ⟨e,z⟩|⟨e,z⟩|⟨e,z⟩|⟨e,z⟩ <;> lia
 unfold f8;rw[hg,aA cp,hp];dsimp only;rw[am (by rw[Yw,s1];simp;lia)];by_cases hf:(t.put j).1.tooFull=true
 .rw[am hf];have Gv:=hf;unfold SetTable.tooFull at Gv;rw[fl,q3] at Gv;have V8:(hs.size+1)*5>=t.mask*3:=by simpa using Gv
  have gr:SetTable.grown (hs.size+1)=(hs.size+1)*4:=by unfold SetTable.grown;rw[aA (by lia)]
  obtain⟨m2,Wa,Ti,R2⟩:∃m2,SetTable.sizeAbove (SetTable.grown (hs.size+1))=m2+1/\((m2=31/\hs.size+1<=18)\/(m2=127/\hs.size+1<=76)\/(m2=511/\hs.size+1<=306))/\Bu (m2+1):=by
   rw[gr];rcases T.ms with ⟨e,z⟩|⟨e,z⟩|⟨e,z⟩|⟨e,z⟩
   .have:hs.size=4:=by lia
    exact⟨31,by rw[this];rfl,.inl ⟨rfl,by lia⟩,Jn⟩
   .have:hs.size=18:=by lia
    exact⟨127,by rw[this];rfl,.inr (.inl ⟨rfl,by lia⟩),DA⟩
   .have:hs.size=76:=by lia
    exact⟨511,by rw[this];rfl,.inr (.inr ⟨rfl,by lia⟩),DB⟩
   .lia
  have Wb:(SetTable.insertAt hs (t.put j).2 h).size<=m2:=by rw[s1];rcases Ti with ⟨e,z⟩|⟨e,z⟩|⟨e,z⟩ <;> lia
  obtain⟨owner,eo,L⟩:=vZ R2 (SetTable.insertAt hs (t.put j).2 h) Wb;obtain⟨Ol,Tj⟩:=yN L;rw[s1] at Ol Tj;generalize Om:(List.range (m2+1)).filterMap (fun j=>(owner.getD j none).map (j,·))=live at Ol Tj;have er:(t.put j).1.relaid (SetTable.insertAt hs (t.put j).2 h) (SetTable.grown (hs.size+1))=some ({ mask:=m2,place:=(live.map (·.1)).toArray,dummies:=#[],finger:=(t.put j).1.finger,led:=(t.put j).1.led,moves:=(t.put j).1.movedTo m2,plain:=(t.put j).1.plain },(live.map (·.2)).toArray):=by
   unfold SetTable.relaid SetTable.laid;rw[Wa];simp only[Nat.add_sub_cancel];rw[eo];show some _=some _;rw[<-Om]
  rw[er];dsimp only;have yI:((live.map (·.2)).toArray.filterMap ((SetTable.insertAt hs (t.put j).2 h)[·]?)).size=hs.size+1:=by
   rw[<-kP,tj];show ((live.map (·.2)).filterMap _).length=_;rw[<-Ol,List.filterMap_map];refine jQ fun q hq=>?_;show ((SetTable.insertAt hs (t.put j).2 h)[q.2]?).isSome=true;rw[xp (by rw[s1];exact Tj q hq)];rfl
  have Yx:∀x,({ mask:=m2,place:=(live.map (·.1)).toArray,dummies:=#[],finger:=(t.put j).1.finger,led:=(t.put j).1.led,moves:=(t.put j).1.movedTo m2,plain:=(t.put j).1.plain }:SetTable).fits x=(decide (hs.size+1=x)&&decide (hs.size+1<=m2)):=by
   intro x;unfold SetTable.fits SetTable.fill;simp[Ol];rw[ic];simp
  rw[am (by
   rw[yI,s1,Yx,Wa];have:hs.size+1<=m2:=by rw[<-s1];exact Wb
   simp[this];rcases Ti with ⟨e,z⟩|⟨e,z⟩|⟨e,z⟩ <;> lia)]
  refine⟨_,_,rfl,⟨rfl,?_,?_⟩,yI,fun x hx=>?_⟩
  .rw[yI];simp[Ol]
  .rw[yI];exact .inr Ti
  .rw[tj] at hx;obtain⟨k,_,ek⟩:=mN.mp hx;refine lX (p:=(t.put j).2) ?_;rw[<-mK] at ek;exact cm ek
 .rw[aA hf];refine⟨_,_,rfl,⟨q2,by rw[s2,s1],?_⟩,s1,fun x hx=>lX hx⟩;have Gv:¬ (hs.size+1)*5>=t.mask*3:=by
   intro z;refine hf ?_;unfold SetTable.tooFull;rw[fl,q3];simpa using z
  rw[s1,q3];rcases T.ms with ⟨e,z⟩|⟨e,z⟩|⟨e,z⟩|⟨e,z⟩ <;> lia
theorem oF:∀ (l:List Int) (hs:Array Int) (t:SetTable),v3 hs t->(∀x∈l,x∉hs.toList)->l.Nodup->hs.size+l.length<=300->∃hs' t',l.foldlM (fun q h=>f8 q.1 q.2 h) (hs,t)=some (hs',t')/\hs'.size=hs.size+l.length
 |[],hs,t,_,_,_,_=>⟨hs,t,rfl,rfl⟩
 |h::l,hs,t,T,hn,nd,hl=>by
  rw[dH] at hl;obtain⟨n1,n2⟩:=fJ.mp nd;obtain⟨Dv,t1,e1,T1,z1,m1⟩:=yO T (hn h bU) (by lia);obtain⟨qt,t2,e2,z2⟩:=oF l Dv t1 T1 (fun x hx hy=>by
   rcases m1 x hy with e|e
   .exact n1 (e ▸ hx)
   .exact hn x (cU _ hx) e) n2 (by lia)
  refine⟨qt,t2,?_,by rw[z2,z1,dH];lia⟩;rw[List.foldlM_cons];show (f8 hs t h).bind _=_;rw[e1];exact e2
theorem Bv(led:Bool)(nd:l.Nodup)(hl:l.length<=300):∃hs t,uB led l=some (hs,t)/\hs.size=l.length:=by
 obtain⟨hs,t,e,z⟩:=oF l #[] (SetTable.fresh 0 0 led) ⟨rfl,rfl,.inl ⟨rfl,by decide⟩⟩ (fun x _ h=>by simp at h) nd (by simpa using hl);exact⟨hs,t,e,by simpa using z⟩
def Ag:List Nat->Nat->Bool
 |[],_=>true
 |x::xs,dN=>bif Nat.testBit dN x then false else Ag xs (dN ||| (1 <<< x))
theorem v4:∀ (l:List Nat) (dN:Nat),Ag l dN=true->l.Nodup/\∀x∈l,dN.testBit x=false
 |[],_,_=>⟨iO,fun x h=>(nomatch h)⟩
 |x::xs,dN,h=>by
  unfold Ag at h;cases hb:dN.testBit x with
  |true=>rw[hb] at h;cases h
  |false=>
   rw[hb] at h;obtain⟨nd,hx⟩:=v4 xs _ h;have Wc:∀y∈xs,dN.testBit y=false/\y≠x:=by
    intro y hy;have:=hx y hy;rw[Nat.testBit_or,Nat.one_shiftLeft,Nat.testBit_two_pow] at this;rw[Bool.or_eq_false_iff] at this;exact⟨this.1,fun e=>by have:=this.2;simp[e] at this⟩
   refine⟨fJ.mpr ⟨fun hm=>(Wc x hm).2 rfl,nd⟩,fun y hy=>?_⟩;rcases bX.mp hy with z|z
   .rw[z];exact hb
   .exact(Wc y z).1
def qC:List (Int×Int):=(List.range 32).flatMap fun a=>(List.range 32).map fun b=>(Int.ofNat a,Int.ofNat b)
def Jo(h:Int):Nat:=(h % 6554).toNat
theorem Bw(P:Program)(w:World):Ag (qC.map fun y=>Jo (fh P w y)) 0=true:=by kernel_rfl
theorem Ah(h1:0<=y.1/\y.1<32)(h2:0<=y.2/\y.2<32):y∈qC:=by
 unfold qC;refine xY.mpr ⟨y.1.toNat,bH.mpr (by lia),bn.mpr ⟨y.2.toNat,bH.mpr (by lia),ff ?_ ?_⟩⟩
 .show ((y.1.toNat:Nat):Int)=y.1;lia
 .show ((y.2.toNat:Nat):Int)=y.2;lia
theorem kH:∀ {l:List α},(l.map f).Nodup->∀x∈l,∀y∈l,f x=f y->x=y
 |[],_,_,h,_,_,_=>by cases h
 |a::l,h,x,hx,y,hy,e=>by
  rw[eE] at h;obtain⟨h1,h2⟩:=fJ.mp h;rcases bX.mp hx with z|z <;> rcases bX.mp hy with z'|z'
  .rw[z,z']
  .exact absurd (bn.mpr ⟨y,z',by rw[<-e,z]⟩) h1
  .exact absurd (bn.mpr ⟨x,z,by rw[e,z']⟩) h1
  .exact kH h2 x z y z' e
theorem uD(hx:(0<=x.1/\x.1<32)/\(0<=x.2/\x.2<32))(hy:(0<=y.1/\y.1<32)/\(0<=y.2/\y.2<32))(e:fh P w x=fh P w y):x=y:=
 kH (v4 _ _ (Bw P w)).1 x (Ah hx.1 hx.2) y (Ah hy.1 hy.2) (congrArg Jo e)
theorem nG:∀ {l:List α},l.Nodup->(∀x∈l,∀y∈l,f x=f y->x=y)->(l.map f).Nodup
 |[],_,_=>iO
 |a::l,h,hf=>by
  obtain⟨h1,h2⟩:=fJ.mp h;rw[eE];refine fJ.mpr ⟨fun z=>?_,nG h2 fun x hx y hy=>hf x (cU _ hx) y (cU _ hy)⟩;obtain⟨y,hy,e⟩:=bn.mp z;have:=hf y (cU _ hy) a bU e;exact h1 (this ▸ hy)
theorem v5{P:Program}{w:World}(led:Bool){ys:List (Int×Int)}(nd:ys.Nodup)(hr:∀y∈ys,(0<=y.1/\y.1<32)/\(0<=y.2/\y.2<32))(hl:ys.length<=300):
  ∃hs t,uB led (ys.map (fh P w))=some (hs,t)/\hs.size=ys.length:=by
 obtain⟨hs,t,e,z⟩:=Bv led (nG nd fun x hx y hy e=>uD (P:=P) (w:=w) (hr x hx) (hr y hy) e) (by rw[aO];exact hl);exact⟨hs,t,e,by rw[z,aO]⟩
theorem uE:∀ {as:List Addr} {its:List Value},aZ (as.map V.ref) its->its=as.map Value.ref
 |[],_,r=>by cases r;rfl
 |a::as,_,r=>by
  cases r with
  |cons r rr=>
   obtain rfl:=(show _=Value.ref a from r)
   rw[uE rr];rfl
def Gw(D:Addr)(n:Nat):HO:=.ext fun h=>∃hs t,jP h D hs t/\hs.size=n
section
variable {X:Cx}
def On(K:PySem.W.Frag):List V->Hp->VK->Prop:=fun xs H Q=>∃ (l:Addr) (as:List Addr) (ys:List (Int×Int)),xs=[.ref l]/\aQ K H l (as.map V.ref)/\as.length=ys.length/\
 (∀i,i<ys.length->Du K H (as.getD i 0) (ys.getD i (0,0)))/\ys.Nodup/\(∀y∈ys,(0<=y.1/\y.1<32)/\(0<=y.2/\y.2<32))/\ys.length<=300/\∀D,H D=none->Q (.ref D) (upd H D (Gw D ys.length))
theorem Bx(hc:X.calm=true)(hu:X.A.units+8<cLine):eX X (.type "set") (On X.K):=by
 intro af s σ H xs us Q I r h;obtain⟨l,as,ys,rfl,hl,dq,hp,nd,rg,h3,q⟩:=h;obtain⟨u1,rfl,r1⟩:=r.one;obtain rfl:u1=Value.ref l:=r1;obtain⟨its,rv,pl,hz⟩:=I.list hl;have e:=uE rv;subst e;have Yy:i0 s.heap (as.map Value.ref) ys:=⟨by rw[aO,dq],fun i v hv=>by
  rw[bZ] at hv;cases ea:as[i]? with
  |none=>rw[ea] at hv;cases hv
  |some a=>
   rw[ea] at hv;obtain rfl:Value.ref a=v:=bW hv;have hi:i<as.length:=(cN.mp ea).1;obtain⟨o,n,t,u,e1,c,d⟩:=yG I (hp i (by lia));have eg:as.getD i 0=a:=by rw[bb,ea];rfl
   rw[eg] at e1;exact⟨a,o,n,t,u,rfl,e1,c,d⟩⟩
 have Bs:∀led,∃q:Array Int×SetTable,uB led (ys.map (fh X.prog X.w))=some q/\q.1.size=ys.length:=fun led=>
  let ⟨hs,t,e,z⟩:=v5 (P:=X.prog) (w:=X.w) led nd rg h3;⟨(hs,t),e,z⟩
 refine Dx (I.ok.hd hc) hu pl.isList Yy (hsN:=fun led=>(Bs led).choose.1) (tN:=fun led=>(Bs led).choose.2) (fun led=>(Bs led).choose_spec.1) fun led h' tk S' k=>?_;refine⟨.ref s.heap.objs.size,_,I.vW (t':=tk) (o:=Gw s.heap.objs.size ys.length) (fun b u e=>k b u (be e) e) (mL (aU _)) ⟨⟨_,_,S',(Bs led).choose_spec.2⟩,?_,fun h1 h2 ⟨hs,t,⟨o,es,ep,q1,q2⟩,z⟩ kk=>⟨hs,t,⟨o,es,ep,kk o q1,q2⟩,z⟩⟩,rfl,q _ I.fresh⟩;obtain⟨o,_,_,q1,_⟩:=S';exact⟨o,q1⟩
theorem v6:eX X (.builtin "len") (fun xs H Q=>∃D n,xs=[.ref D]/\H D=some (Gw D n)/\n<=4096/\Q (.int n) H):=by
 intro af s σ H xs us Q I r h;obtain⟨D,n,rfl,e,hn,q⟩:=h;obtain⟨u1,rfl,r1⟩:=r.one;obtain rfl:u1=Value.ref D:=r1;obtain⟨⟨hs,t,⟨o,es,ep,q1,q2,q3,q4,q5,q6⟩,z⟩,_⟩:=(show cz X.prog X.w H s.heap D (Gw D n) from I.cL D _ e)
 have ku:es.size=n:=by rw[<-z,<-q5,iP]
 exact call_len_set q1 ⟨q2,q3.1,q3.2⟩ q4 q6 (by rw[ku];lia) ⟨.int n,H,I.tok _,⟨_,by rw[ku]⟩,q⟩
theorem v7:eX X (.type "range") (fun xs H Q=>∃n,xs=[.int n]/\∀p,H p=none->Q (.ref p) (upd H p (.FY 0 n))):=by
 intro af s σ H xs us Q I r h;obtain⟨n,rfl,q⟩:=h;obtain⟨u1,rfl,t,rfl⟩:=r.one;refine call_range_1 ⟨.ref s.heap.objs.size,_,I.laid (o:=.FY 0 n) (fun b u e=>bV _ e) (aU _) ⟨_,_,_,cD _ rfl⟩,rfl,q _ I.fresh⟩
theorem yP(hc:X.calm=true):eX X (.type "list") (fun xs H Q=>∃ (p:Addr) (n:Nat),xs=[.ref p]/\H p=some (.FY 0 n)/\n<=1000/\∀l,H l=none->Q (.ref l) (upd H l (.lst ((List.range n).map fun (i:Nat)=>V.int i)))):=by
 intro af s σ H xs us Q I r h;obtain⟨p,n,rfl,e,hn,q⟩:=h;obtain⟨u1,rfl,r1⟩:=r.one;obtain rfl:u1=Value.ref p:=r1;obtain⟨t,u,v,hp⟩:=(show cz X.prog X.w H s.heap p (.FY 0 n) from I.cL p _ e)
 refine call_list_range (n:=n) (I.ok.hd hc) (show IsRange s.heap p 0 n 1 t u v from hp) (small_one (by lia) (by lia) (by lia) (by lia)) (by rw[rangeSize_one];split <;> lia) (by lia) fun h' tk dN c k g it=>?_;obtain⟨i1,i2⟩:=it;refine⟨.ref s.heap.objs.size,_,I.vW (t':=tk) (o:=.lst ((List.range n).map fun (i:Nat)=>V.int i)) (fun b u e=>k b u e) (mL (aU _)) ⟨?_,dN.toList,c,?_,by simpa using g⟩,rfl,q _ I.fresh⟩
 .rw[aO,bR];exact bw hn (by decide)
 .have go:∀ (m:Nat) (l:List Value),l.length=m->(∀ (j:Nat) v,l[j]?=some v->∃t,v=Value.int (0+(j:Int)*1) t)->aZ ((List.range m).map fun (i:Nat)=>V.int i) l:=by
   intro m;induction m with
   |zero=>intro l hl _;cases l with
    |nil=>exact .nil
    |cons _ _=>cases hl
   |succ m ih=>
    intro l hl hv;have vA:l≠[]:=by intro z;rw[z] at hl;cases hl
    have el:l=l.dropLast++[l.getLast vA]:=(List.dropLast_concat_getLast vA).symm;rw[je,cq,el];have Rr:l.dropLast.length=m:=by rw[List.length_dropLast,hl];rfl
    refine aZ.append (ih _ Rr fun j v hj=>hv j v ?_) (.cons ?_ .nil)
    .rw[el];have By:j<l.dropLast.length:=(cN.mp hj).1;rw[h9 By];exact hj
    .obtain⟨t,ht⟩:=hv m (l.getLast vA) (by
      rw[List.getLast_eq_getElem,bO (by lia:m<l.length)];simp[hl])
     exact⟨t,by rw[ht];simp⟩
  exact go n dN.toList (by simpa using i1) fun j v hj=>i2 j v (by simpa using hj)
end
def g7(e:V->V->Bool):List V->List V->Bool
 |[],[]=>true
 |x::xs,y::ys=>e x y&&g7 e xs ys
 |_,_=>false
theorem ig:∀ {xs ys:List V},xs.length=ys.length->g7 e xs ys=(List.range xs.length).all fun i=>e (xs.getD i .b_) (ys.getD i .b_)
 |[],[],_=>rfl
 |x::xs,y::ys,h=>by
  have h':xs.length=ys.length:=by simpa using h
  rw[g7,ig h',dH,mI,jA,List.all_map];rfl
 |[],_::_,h=>by simp at h
 |_::_,[],h=>by simp at h
theorem nI:∀ {xs ys:List V},xs.length≠ys.length->g7 e xs ys=false
 |[],[],h=>absurd rfl h
 |x::xs,y::ys,h=>by
  have h':xs.length≠ys.length:=fun z=>h (by simp[z]);rw[g7,nI h',tX]
 |[],_::_,_=>rfl
 |_::_,[],_=>rfl
section
variable {X:Cx}
def Oo(X:Cx)(H:Hp)(e:V->V->Bool)(x y:V):Prop:=∀ (af:List (Addr×Obj)) (s:Shared) (σ:St) (A:Around) (u v:Value),aT X af σ H s->A.units+1<cLine->bT x u->bT y v->SeqAt.EqAt A s u v (e x y)
def Op(X:Cx)(N4:Bool)(e:V->V->Bool):R2:=fun x y H Q=>∃p q xs ys,x=.ref p/\y=.ref q/\aQ X.K H p xs/\aQ X.K H q ys/\(∀i,i<xs.length->i<ys.length->Oo X H e (xs.getD i .b_) (ys.getD i .b_))/\Q (.bl (if N4 then !g7 e xs ys else g7 e xs ys)) H
theorem v8(I:aT X af σ H s)(hu:A.units+1<cLine)(rx:aZ xs us)(ry:aZ ys vs)(he:∀i,i<xs.length->i<ys.length->Oo X H e (xs.getD i .b_) (ys.getD i .b_)):∀j (h1:j<us.toArray.size) (h2:j<vs.toArray.size),SeqAt.EqAt A s us.toArray[j] vs.toArray[j] (e (xs.getD j .b_) (ys.getD j .b_)):=by
 intro j h1 h2;have j1:j<xs.length:=by rw[rx.length];simpa using h1
 have j2:j<ys.length:=by rw[ry.length];simpa using h2
 have e1:xs[j]?=some (xs.getD j .b_):=by rw[bb,bO j1];rfl
 have e2:ys[j]?=some (ys.getD j .b_):=by rw[bb,bO j2];rfl
 obtain⟨u,Tk,ru⟩:=rx.get e1;obtain⟨v,Oq,rv⟩:=ry.get e2;have eu:us.toArray[j]=u:=by
  have:us[j]?=some us.toArray[j]:=by simp at h1 |-
  rw[Tk] at this;exact(bW this).symm
 have ev:vs.toArray[j]=v:=by
  have:vs[j]?=some vs.toArray[j]:=by simp at h2 |-
  rw[Oq] at this;exact(bW this).symm
 rw[eu,ev];exact he j j1 j2 af s σ A u v I hu ru rv
theorem yQ{e:V->V->Bool}(hu:X.A.units+2<cLine):k7 X (compareOp .NotEq) (Op X true e):=by
 intro af s σ H x y v u Q I rx ry h;obtain⟨p,q,xs,ys,rfl,rfl,hp,hq,he,k⟩:=h;obtain rfl:v=Value.ref p:=rx;obtain rfl:u=Value.ref q:=ry;obtain⟨us,r1,p1,_⟩:=I.list hp;obtain⟨vs,r2,p2,_⟩:=I.list hq;by_cases hl:xs.length=ys.length
 .refine SeqAt.RcNeAt.lists (e:=fun i=>e (xs.getD i .b_) (ys.getD i .b_)) p1.isList p2.isList (by simp only[bQ];rw[<-r1.length,<-r2.length];exact hl) (by lia) (v8 I (by show X.A.units+1+1<cLine;lia) r1 r2 he) _ _ _ _ ⟨.bl _,H,I,rfl,?_⟩;rw[show us.toArray.size=xs.length by rw[bQ,r1.length],<-ig hl];exact k
 .refine SeqAt.RcNeAt.lists_lengths p1.isList p2.isList (by simp only[bQ];rw[<-r1.length,<-r2.length];simpa using hl) (by lia) _ _ _ _ ⟨.bl _,H,I,rfl,?_⟩;have k':=k;rw[nI hl] at k';exact k'
theorem yR(hu:X.A.units+2<cLine):k7 X (compareOp .Eq) (Op X false e):=by
 intro af s σ H x y v u Q I rx ry h;obtain⟨p,q,xs,ys,rfl,rfl,hp,hq,he,k⟩:=h;obtain rfl:v=Value.ref p:=rx;obtain rfl:u=Value.ref q:=ry;obtain⟨us,r1,p1,_⟩:=I.list hp;obtain⟨vs,r2,p2,_⟩:=I.list hq;by_cases hl:xs.length=ys.length
 .refine SeqAt.eq_listAt (e:=fun i=>e (xs.getD i .b_) (ys.getD i .b_)) p1.isList p2.isList (by simp only[bQ];rw[<-r1.length,<-r2.length];exact hl) (by lia) (v8 I (by show X.A.units+1+1<cLine;lia) r1 r2 he) ⟨.bl _,H,I,rfl,?_⟩;rw[show us.toArray.size=xs.length by rw[bQ,r1.length],<-ig hl];exact k
 .refine SeqAt.eq_list_lengthsAt p1.isList p2.isList (by simp only[bQ];rw[<-r1.length,<-r2.length];simpa using hl) (by lia) ⟨.bl _,H,I,rfl,?_⟩;have k':=k;rw[nI hl] at k';exact k'
theorem nJ(hc:X.calm=true):eX X (.builtin "any") (fun xs H Q=>∃ (p:Addr) (bs:List Bool),xs=[.ref p]/\aQ X.K H p (bs.map V.bl)/\Q (.bl (bs.any id)) H):=by
 intro af s σ H xs us Q I r h;obtain⟨p,bs,rfl,hp,q⟩:=h;obtain⟨u1,rfl,r1⟩:=r.one;obtain rfl:u1=Value.ref p:=r1;obtain⟨its,rv,pl,hz⟩:=I.list hp;have yS:its=bs.map Value.bool:=by
  have go:∀ (bs:List Bool) (its:List Value),aZ (bs.map V.bl) its->its=bs.map Value.bool:=by
   intro bs;induction bs with
   |nil=>intro its r;cases r;rfl
   |cons b bs ih=>
    intro its r;cases r with
    |cons r rr=>
     obtain rfl:=(show _=Value.bool b from r)
     rw[ih _ rr];rfl
  exact go bs its rv
 subst yS;obtain⟨ob,Tl,_⟩:=id pl.isList;have e_:p<s.heap.objs.size:=be Tl;refine call_any_walk (mW pl.isList ⟨s.heap.objs.size,_,_,_,_,_,fun i=>bs.getD i false,rfl,Walks.list (show X.A.in1.handled=none from I.ok.hd hc) _ p (ba e_) _,⟨⟨_,cD _ rfl,rfl,rfl⟩,pl.isList.push _⟩,fun i v s1 Q' E' hv hq=>?_,fun h' tk k=>?_⟩)
 .have Ba:(bs.map Value.bool)[i]?=some v:=by simpa using hv
  rw[bZ] at Ba;cases eb:bs[i]? with
  |none=>rw[eb] at Ba;cases Ba
  |some b=>
   rw[eb] at Ba;obtain rfl:Value.bool b=v:=bW Ba;have:bs.getD i false=b:=by rw[bb,eb];rfl
   have Gd:Q' b s1:=by rw[<-this];exact hq
   exact wpAny_pure Gd
 .have keep:∀b o,s.heap.get? b=some o->h'.get? b=some o:=fun b o e=>k b o (by simpa using ba (be e)) (bV _ e);refine⟨.bl (bs.any id),H,I.kept (t':=tk) keep,?_,q⟩;show Value.bool _=Value.bool _;congr 1;have go:∀ (bs:List Bool),((List.range bs.length).any fun i=>bs.getD i false)=bs.any id:=by
   intro bs;induction bs with
   |nil=>rfl
   |cons b bs ih=>
    rw[dH,mI,iq,List.any_map,iq,<-ih];rfl
  rw[<-go bs];simp
end
def sn(c:Addr)(qual:Str):HO:=.ext fun h=>h.CodeRec (.ref c) qual
theorem DE(x:h.CodeRec (.ref c) qual):cz P w H h c (sn c qual):=by
 refine⟨x,?_,?_⟩
 .obtain⟨c',o,vs,t,e,ho,_⟩:=x;cases e;exact⟨o,ho⟩
 .rintro h1 h2 ⟨c',o,vs,t,e,ho,r⟩ k;cases e;exact⟨c,o,vs,t,rfl,k o ho,r⟩
def Jp(f:Addr)(qual:Str)(params:Arguments)(body:Expr)(scope:Scope)(cells:List (Str×Addr))(c:Addr)(h:Heap):Prop:=
 ∃ (jR:List (Str×Addr)) (pm Ai:Value),(∀x a,jR.lookup x=some a->cells.lookup x=some a)/\(∀x,(x,NameKind.free)∈scope.names->∃a,jR.lookup x=some a)/\
  h.get? f=some (PySem.W.kla_obj "<lambda>" qual params body scope jR pm c Ai)
def yT(f:Addr)(qual:Str)(params:Arguments)(body:Expr)(scope:Scope)(cells:List (Str×Addr))(c:Addr):HO:=.ext (Jp f qual params body scope cells c)
theorem Aj(x:Jp f qual params body scope cells c h):
  cz P w H h f (yT f qual params body scope cells c):=by
 refine⟨x,?_,?_⟩
 .obtain⟨_,_,_,_,_,e⟩:=x;exact⟨_,e⟩
 .rintro h1 h2 ⟨jR,pm,Ai,a,b,e⟩ k;exact⟨jR,pm,Ai,a,b,k _ e⟩
def DG(lp:Pos)(qual:Str)(P:Addr)(H:Hp):Prop:=H P=some (.rh #[])\/∃c,H P=some (.rh #[rawInt lp.line,rawInt lp.col,.ref c])/\H c=some (sn c qual)
structure Gx(X:Cx)(c P:Addr):Prop where
 code:X.env.code=.ref c
 hd:PySem.W.CodeHd X.base c P
 bm:∃bm o,X.mg "__builtins__"=some (.ref bm)/\bm≠builtinsNs/\bm≠mainGlobals/\X.base.get? bm=some o/\o.cls=.type "module"/\o.dict=some builtinsNs/\o.data=.plain
def Tn(lp:Pos)(qual:Str)(P:Addr)(params:Arguments)(body:Expr)(scope:Scope)(cells:List (Str×Addr)):TE:=fun _ H Q=>DG lp qual P H/\
 ∀ (f c:Addr) (H2:Hp),DG lp qual P H2->(∀b o,H b=some o->b≠P->H2 b=some o)->H2 c=some (sn c qual)->H2 f=some (yT f qual params body scope cells c)->Q (.ref f) H2
theorem v9{lp:Pos}{c:Addr}:TriplesOk (#[rawInt lp.line,rawInt lp.col,.ref c]:Array Value).toList:=trivial
theorem Bz:codeAmong lp (#[rawInt lp.line,rawInt lp.col,.ref c]:Array Value).toList=some (.ref c):=by
 show (if ((lp.line:Int)==(lp.line:Int)&&(lp.col:Int)==(lp.col:Int))=true then some (Value.ref c) else _)=_;simp
section
variable {X:Cx} {c P:Addr} {params:Arguments} {body:Expr} {scope:Scope} {lp:Pos} {NB:List Str} {src:List (Option Nat)}
theorem Gx.at(C:Gx X c P)(I:aT X af σ H s)(hP:H P=some (.rh ps)):s.heap.BuiltinsAt X.mg P:=by
 obtain⟨bm,o,b1,b2,b3,b4,b5,b6,b7⟩:=C.bm;refine⟨bm,o,b1,b2,b3,fun z=>?_,I.bk _ _ b4,b5,b6,b7⟩;have:=(I.bs _ _ b4).2;rw[z,hP] at this;cases this
theorem aT.Jq(I:aT X af σ H s):s.heap.Ns mainGlobals X.mg:=I.mod.glob.keeps I.bk
theorem KM(C:Gx X c P)(S:gZ NB src scope X)(To:defaultsOf params X.env=([],[]):=by rfl):PE X (.Lambda params body scope lp) (Tn lp (X.env.qual++"<lambda>") P params body scope X.env.cells):=by
 intro af s σ H Q I h;obtain⟨Yz,h⟩:=h;obtain⟨jR,Wd,c1,c2⟩:=lc I.ok S;refine PySem.W.kla_eval To ?_;have ku:∀b o,s.heap.get? b=some o->b<s.heap.objs.size:=fun b o e=>be e;rcases Yz with hP|⟨c',hP,vL⟩
 .-- YA first time
  have Ot:s.heap.get? P=some (PySem.W.tabObj #[]):=I.cL P _ hP;have YB:X.env.locals≠P:=fun z=>by have f:=I.free;rw[z,hP] at f;cases f
  have YC:mainGlobals≠P:=fun z=>by
   obtain⟨o,es,ep,e,d,_⟩:=I.mod.glob;have:=(I.bs _ _ e).2;rw[z,hP] at this;cases this
  refine PySem.W.kla_makeFunction (mg:=X.mg) Wd I.ok.glob I.Jq C.code (C.hd.keeps I.bk) Ot (by trivial) rfl YC (C.at I hP) fun c' Ai h' tk hx Gy e_ Tp We=>?_;have Gz:∀b o,b≠P->s.heap.get? b=some o->(h'.push (PySem.W.kla_obj "<lambda>" (X.env.qual++"<lambda>") params body scope jR ((X.mg "__name__").getD .none) c' Ai)).get? b=some o:=fun b o hb e=>bV _ (hx b o hb e);have YD:c'≠P:=iS (cA (ku _ _ Ot) Gy);have YE:h'.objs.size≠P:=iS (cA (ku _ _ Ot) (bw Gy (jB e_)));have YF:h'.objs.size≠c':=iS e_;have nf:H h'.objs.size=none:=I.cL.fresh (by lia);have nc:H c'=none:=I.cL.fresh Gy
  let H2:Hp:=upd (upd (upd H P (.rh #[rawInt lp.line,rawInt lp.col,.ref c'])) c' (sn c' (X.env.qual++"<lambda>"))) h'.objs.size (yT h'.objs.size (X.env.qual++"<lambda>") params body scope X.env.cells c')
  have eP:H2 P=some (.rh #[rawInt lp.line,rawInt lp.col,.ref c']):=by
   show upd _ _ _ _=_;rw[aj YE.symm,aj YD.symm,ab]
  have ec:H2 c'=some (sn c' (X.env.qual++"<lambda>")):=by
   show upd _ _ _ _=_;rw[aj YF.symm,ab]
  have ef:H2 h'.objs.size=some (yT h'.objs.size (X.env.qual++"<lambda>") params body scope X.env.cells c'):=ab;have eo:∀b,b≠P->b≠c'->b≠h'.objs.size->H2 b=H b:=fun b h1 h2 h3=>by
   show upd _ _ _ _=_;rw[aj h3,aj h2,aj h1]
  have vD:∀b o,H b=some o->b≠P->H2 b=some o:=fun b o e hb=>by
   rw[eo b hb (ak e nc) (ak e nf)];exact e
  have I2:aT X af σ H2 { s with heap:=h'.push (PySem.W.kla_obj "<lambda>" (X.env.qual++"<lambda>") params body scope jR ((X.mg "__name__").getD .none) c' Ai),toks:=tk }:=by
   refine I.step (g':=s.gens) (d':=s.drawn) (ch:=[]) (fun _ z=>absurd z (by simp)) (fun b o _ _ _ e n=>Gz b o (fun z=>by rw[z,hP] at n;cases n) e) (fun b o _ _ _ e n=>⟨o.slots,Gz b o (fun z=>by rw[z,hP] at n;cases n) e⟩)
    (fun b o _ e n=>?_) (fun b o _ e=>?_) (fun b xs e=>vD b _ e fun z=>by rw[z,hP] at e;cases e) (fun b o u e=>vD b _ e fun z=>by rw[z,hP] at e;cases e) (fun b ps e=>?_) (fun m hm=>?_) (fun b o e=>?_) I.bare
   .rw[eo b (fun z=>by rw[z,hP] at n;cases n) (ba (cA (ku b o e) Gy)) (ba (cA (ku b o e) (bw Gy (jB e_))))];exact n
   .by_cases hb:b=P
    .exact⟨_,by rw[hb];exact bV _ We⟩
    .exact⟨o,Gz b o hb e⟩
   .by_cases hb:b=P
    .rw[hb] at e |-;rw[hP] at e;cases e;exact⟨#[rawInt lp.line,rawInt lp.col,.ref c'],by rw[eP];simp⟩
    .exact⟨#[],by rw[vD b _ e hb];simp⟩
   .exact(hm.extBut hx YB).push _
   .by_cases Wf:b=h'.objs.size
    .subst Wf;rw[ef] at e;cases e;exact Aj ⟨jR,_,Ai,c1,c2,cD _ rfl⟩
    .by_cases S6:b=c'
     .subst S6;rw[ec] at e;cases e;refine DE ?_;obtain⟨c₂,oc,vs,t,e2,Rh,r⟩:=Tp;exact⟨c₂,oc,vs,t,e2,bV _ Rh,r⟩
     .by_cases Tq:b=P
      .subst Tq;rw[eP] at e;cases e;exact bV _ We
      .rw[eo b Tq S6 Wf] at e;refine(I.cL b o e).rj (fun d u hd q=>Gz d u ?_ q) (fun d q=>vD d _ q fun z=>by rw[z,hP] at q;cases q) fun d xs q=>vD d _ q fun z=>by rw[z,hP] at q;cases q
       rintro rfl;rcases hd with z|z
       .exact Tq z.symm
       .rw[hP] at z;cases z
  exact⟨.ref h'.objs.size,H2,I2,rfl,h _ c' H2 (.inr ⟨c',eP,ec⟩) vD ec ef⟩
 .-- again
  have Ot:s.heap.get? P=some (PySem.W.tabObj #[rawInt lp.line,rawInt lp.col,.ref c']):=I.cL P _ hP;refine PySem.W.kla_makeFunctionHit (mg:=X.mg) Wd I.ok.glob I.Jq C.code (C.hd.keeps I.bk) Ot v9 Bz (C.at I hP) fun Ai h' tk hk Gy=>?_;have nf:H h'.objs.size=none:=I.cL.fresh Gy
  let H2:Hp:=upd H h'.objs.size (yT h'.objs.size (X.env.qual++"<lambda>") params body scope X.env.cells c')
  have ef:H2 h'.objs.size=some (yT h'.objs.size (X.env.qual++"<lambda>") params body scope X.env.cells c'):=ab;have vD:∀b o,H b=some o->H2 b=some o:=fun b o e=>by
   show upd _ _ _ _=_;rw[aj (ak e nf)];exact e
  have Gz:∀b o,s.heap.get? b=some o->(h'.push (PySem.W.kla_obj "<lambda>" (X.env.qual++"<lambda>") params body scope jR ((X.mg "__name__").getD .none) c' Ai)).get? b=some o:=fun b o e=>bV _ (hk b o e);have I2:aT X af σ H2 { s with heap:=h'.push (PySem.W.kla_obj "<lambda>" (X.env.qual++"<lambda>") params body scope jR ((X.mg "__name__").getD .none) c' Ai),toks:=tk }:=by
   refine I.step (g':=s.gens) (d':=s.drawn) (ch:=[]) (fun _ z=>absurd z (by simp)) (fun b o _ _ _ e n=>Gz b o e) (fun b o _ _ _ e n=>⟨o.slots,Gz b o e⟩)
    (fun b o _ e n=>?_) (fun b o _ e=>⟨o,Gz b o e⟩) (fun b xs e=>vD b _ e) (fun b o u e=>vD b _ e) (fun b ps e=>⟨#[],by rw[vD b _ e];simp⟩) (fun m hm=>(hm.keeps hk).push _) (I.cL.laid Gz Gy (Aj ⟨jR,_,Ai,c1,c2,cD _ rfl⟩)) I.bare
   .show upd _ _ _ _=_;rw[aj (ba (cA (ku b o e) Gy))];exact n
  exact⟨.ref h'.objs.size,H2,I2,rfl,h _ c' H2 (.inr ⟨c',vD _ _ hP,vD _ _ vL⟩) (fun b o e _=>vD b o e) (vD _ _ vL) ef⟩
end
def DH(X:Cx)(id:String)(ks:List Str)(r:St->List V->List V->Hp->VK->Prop):Prop:=
 ∀ (af:List (Addr×Obj)) (s:Shared) (σ:St) (H:Hp) (vs zs:List V) (us ws:List Value) (Q:VK),aT X af σ H s->aZ vs us->aZ zs ws->r σ vs zs H Q->
  wpAny (model X.prog X.w) X.A (call (.builtin id) us (ks.zip ws)) (EP X af σ Q) X.xe s
def Tt(r:St->List V->List V->Hp->VK->Prop)(t tk:TA):TE:=fun σ H Q=>t σ H fun vs H1=>tk σ H1 fun zs H2=>r σ vs zs H2 Q
section
variable {X:Cx} {x:Str} {p pos:Pos} {e:Expr} {es:List Expr} {Dc:List Keyword} {t tk:TA} {id:String} {ks:List Str} {r:St->List V->List V->Hp->VK->Prop}
theorem BA(hc:DH X id ks r)(hg:Gl X x)(hm:X.mg x=none)(hv:bootBuiltins x=some (.builtin id))(ha:PA X (e::es) t)(YG:PK X Dc tk)(hn:x≠"__name__":=by decide)(Da:(x==("__debug__":Str))=false:=by decide)(YH:(backToKw pos (keywordEach Dc X.env)).filterMap (·.1)=ks:=by rfl)(he:backTo pos (starEach (e::es) X.env)=(false,eval e X.env)::backTo pos (starEach es X.env):=by rfl)(qw:(backTo pos (starEach (e::es) X.env)).any (·.1)=false:=by rfl)(iZ:(backToKw pos (keywordEach Dc X.env)).all (·.1.isSome)=true:=by rfl)(De:(backToKw pos (keywordEach Dc X.env)).any (·.1.isNone)=false:=by rfl):PE X (.Call (.Name x p) (e::es) Dc pos) (Tt r t tk):=by
 intro af s σ H Q I h;refine qf (k6 I hg hm hv ?_ hn Da);refine PyProof.Rows.callWith_kw (cV (ha pos af s σ H _ I h) fun us s1 ⟨vs,H1,I1,r1,q1⟩=>?_) he qw iZ De;refine cV (YG pos af s1 σ H1 _ I1 q1) fun ws s2 ⟨zs,H2,I2,rz,q2⟩=>?_;rw[YH];exact hc af s2 σ H2 vs zs us ws Q I2 r1 rz q2
end
def KN(za zb:Int)(ns out:List Int):Prop:=∃ps:List (Int×Int),ps.Perm (ns.map fun z=>((z-za) % zb,z))/\out=ps.map (·.2)/\ps.Pairwise fun p q=>p.1<=q.1
def KO(X:Cx)(qual:Str)(params:Arguments)(body:Expr)(scope:Scope)(ia ib:Nat):St->List V->List V->Hp->VK->Prop:=fun σ vs zs H Q=>
 ∃ (l f c:Addr) (ns:List Int) (za zb:Int),vs=[.ref l]/\zs=[.ref f]/\aQ X.K H l (ns.map V.int)/\ns.length<64/\H f=some (yT f qual params body scope X.env.cells c)/\H c=some (sn c qual)/\
  σ[ia]?=some (some (.int za))/\σ[ib]?=some (some (.int zb))/\0<zb/\∀ (r:Addr) (out:List Int),H r=none->KN za zb ns out->Q (.ref r) (upd H r (.lst (out.map V.int)))
theorem sq:∀ {ns:List Int} {vs:List Value},aZ (ns.map V.int) vs->IntsAre vs ns
 |[],_,.nil=>.nil
 |_::_,_,.cons ⟨t,e⟩ r=>by subst e;exact .cons _ t (sq r)
structure Ou(X:Cx)(qual:Str)(params:Arguments)(body:Expr)(scope:Scope)(y a b:Str)(ia ib:Nat):Prop where
 bd:∃p1 p2 p3 p4 p5,body=.BinOp (.BinOp (.Name y p1) .Sub (.Name a p2) p3) .Mod (.Name b p4) p5
 bind:∀jR pm c Ai v,bindArgs (PySem.W.kla_fn "<lambda>" qual params body scope jR pm (.ref c) Ai) ⟨[v],[]⟩=pure [(y,v)]
 na:X.N[ia]?=some a
 nb:X.N[ib]?=some b
 ca:X.env.scope.names.lookup a=some .cell
 cb:X.env.scope.names.lookup b=some .cell
 ly:scope.names.lookup y=some .local
 fa:scope.names.lookup a=some .free
 fb:scope.names.lookup b=some .free
 ma:(a,NameKind.free)∈scope.names
 mb:(b,NameKind.free)∈scope.names
 KQ:∀z∈scope.names,z.2≠.cell
 kind:scope.kind=.function
 co:scope.isCoroutine=false
 gen:scope.isGenerator=false
 dy:(y==("__debug__":Str))=false
 da:(a==("__debug__":Str))=false/\(a==("__classdict__":Str))=false
 db:(b==("__debug__":Str))=false/\(b==("__classdict__":Str))=false
theorem yU(S:Ou X qual params body scope y a b ia ib)(hr:dk k X.A):
  DH X "sorted" ["key"] (KO X qual params body scope ia ib):=by
 intro af s σ H vs zs us ws Q I r rz h;obtain⟨l,f,c,ns,za,zb,rfl,rfl,hl,Ov,hf,hc,sa,sb,hb0,q⟩:=h;obtain⟨u1,rfl,r1⟩:=r.one;obtain rfl:u1=Value.ref l:=r1;obtain⟨w1,rfl,YI⟩:=rz.one;obtain rfl:w1=Value.ref f:=YI;obtain⟨its,rv,pl,hz⟩:=I.list hl;have hI:=sq rv;obtain⟨m,F⟩:=I.fr;obtain⟨p1,p2,p3,p4,p5,rfl⟩:=S.bd;obtain⟨jR,pm,Ai,c1,c2,N8⟩:=(I.cL f _ hf).1;have Wg:s.heap.CodeRec (.ref c) qual:=(I.cL c _ hc).1;obtain⟨m',VO,Wi⟩:=I.loc;have Ow:∃ca ta,jR.lookup a=some ca/\s.heap.IsCell ca (some (.int za ta)):=by
  obtain⟨u,⟨ta,rfl⟩,lk⟩:=Wi ia a (.int za) S.na sa (.inr (.inl S.ca));obtain⟨ca,e1⟩:=c2 a S.ma;rcases lk with ⟨z,_⟩|⟨_,ca',e2,e3⟩
  .have z':X.env.scope.names.lookup a=some .local:=z;rw[S.ca] at z';cases z'
  .have e4:=c1 a ca e1;rw[e2] at e4;cases e4;exact⟨ca,ta,e1,e3⟩
 have Ox:∃cb tb,jR.lookup b=some cb/\s.heap.IsCell cb (some (.int zb tb)):=by
  obtain⟨u,⟨tb,rfl⟩,lk⟩:=Wi ib b (.int zb) S.nb sb (.inr (.inl S.cb));obtain⟨cb,e1⟩:=c2 b S.mb;rcases lk with ⟨z,_⟩|⟨_,cb',e2,e3⟩
  .have z':X.env.scope.names.lookup b=some .local:=z;rw[S.cb] at z';cases z'
  .have e4:=c1 b cb e1;rw[e2] at e4;cases e4;exact⟨cb,tb,e1,e3⟩
 obtain⟨ca,ta,ea,ha⟩:=Ow;obtain⟨cb,tb,eb,hb⟩:=Ox;have Rt:∀b' (o:Obj),s.heap.get? b'=some o->(∀es ep,o.data≠.dict es ep)->b'≠X.env.locals:=fun b' o e d z=>by
  obtain⟨o',es,ep,e',d',_⟩:=F.ns;rw[z,e'] at e;cases e;exact d _ _ d'
 have len:(ns.map fun z=>(z-za) % zb).length=its.length:=by rw[aO,hI.length]
 refine ksk_sorted (b:=false) (f:=.ref f) (kz:=ns.map fun z=>(z-za) % zb) F CU pl.isList len (by rw[hI.length];exact Ov) (ksk_s1 _ _) (fun x=>ksk_l1 _ _) (fun x=>ksk_t1 _ _) ?_ ?_
 .-- one key
  intro i v k hv hk h tk own F' N';have at_:∀b' u,b'≠X.env.locals->s.heap.get? b'=some u->h.get? b'=some u:=fun b' u vA e=>by
   cases z:X.base.get? b' with
   |some o=>
    have:=I.bk b' o z;rw[e] at this;cases this;exact F'.keep b' _ z
   |none=>exact(N' (b',u) (gy _ (jF vA z e))).1
  have Tu:=at_ f _ (Rt f _ N8 (by intro es ep z;cases z)) N8;have Tv:h.CodeRec (.ref c) qual:=by
   obtain⟨c0,o,YJ,t0,e0,ho,hd,YK⟩:=Wg;refine⟨c0,o,YJ,t0,e0,at_ _ _ (Rt _ _ ho (by rw[hd];intro es ep z;cases z)) ho,hd,YK⟩
  have N7:h.IsCell ca (some (.int za ta)):=by
   obtain⟨o,ho,hd⟩:=ha;exact⟨o,at_ _ _ (Rt _ _ ho (by rw[hd];intro es ep z;cases z)) ho,hd⟩
  have xa:h.IsCell cb (some (.int zb tb)):=by
   obtain⟨o,ho,hd⟩:=hb;exact⟨o,at_ _ _ (Rt _ _ ho (by rw[hd];intro es ep z;cases z)) ho,hd⟩
  obtain⟨z,tz,rfl,rfl⟩:∃z tz,v=.int z tz/\k=(z-za) % zb:=by
   obtain⟨n,t,e⟩:=hI.all v (cm hv);refine⟨n,t,e,?_⟩;rw[bZ] at hk;have hn:=hI.nums;have e1:(its.map numOf)[i]?=some n:=by rw[bZ,hv,e];rfl
   rw[hn] at e1;rw[e1] at hk;exact(bW hk).symm
  have Oy:X.A.in1.in1.depth<recursionLimit:=by
   have:=hr.dp;show X.A.depth<_;lia
  refine wpAny_call (PySem.W.kla_callFunE Oy Tu rfl S.co S.gen rfl Tv ?_);rw[S.bind];refine wpAny_pure (wpAny_newFunctionEnv S.KQ (fun x hx=>by rw[cE.mp hx];exact S.ly) (fun h₁ xb Wj=>⟨((I.ok.mod.nolimit).keeps F'.keep).fresh _ Wj,?_⟩) S.kind);have Oz:∀b o,h.get? b=some o->h₁.get? b=some o:=fun b o e=>Wj.extBut b o (ba (be e)) (bV _ e);have YL:=N7.keeps Oz;have YM:=xa.keeps Oz;refine PySem.W.kla_codeExpr ?_;refine wpAny_BinOp (wpAny_BinOp ?_);refine nj (xS S.kind S.ly xb (v:=.int z tz) (by simp) ?_) S.dy;refine nj (xW S.kind S.fa ea YL ?_ S.da.2) S.da.1;refine sub_int ?_;refine nj (xW S.kind S.fb eb YM ?_ S.db.2) S.db.1;refine mod_int' (by lia) ?_;rw[xm _ (by lia)];refine KskEnd.intro (news':=iU X.base s.heap X.env.locals++own) ⟨F'.ns.keeps Oz,fun b o e=>Oz b o (F'.keep b o e),F'.above⟩ (fun p hp=>⟨Oz _ _ (N' p hp).1,(N' p hp).2⟩) fun p hp=>hp
 .-- YA list
  intro D h' tk out cc F' N' e_ Tw;have hD:=rC I N' e_;obtain⟨ps,hp,ho,hs⟩:=Tw;have Gq:∀p∈ps,∃n t,p.2=.int n t:=fun p M4=>by
   have:=hp.mem_iff.mp M4;exact hI.all _ (qh this).2
  have OA:((ns.map fun z=>(z-za) % zb).zip its).map (fun p=>(p.1,numOf p.2))=ns.map fun z=>((z-za) % zb,z):=by
   have hn:=hI.nums;rw[<-hn];have go:∀ (l:List Value),((((l.map numOf).map fun z=>(z-za) % zb).zip l).map fun p=>(p.1,numOf p.2))=(l.map numOf).map fun z=>((z-za) % zb,z):=by
    intro l;induction l with
    |nil=>rfl
    |cons x l ih=>simp only[eE,List.zip_cons_cons,ih]
   exact go its
  have Do:aZ ((ps.map fun p=>(p.1,numOf p.2)).map (fun p=>V.int p.2)) (ps.map Prod.snd):=by
   have go:∀ (l:List (Int×Value)),(∀p∈l,∃n t,p.2=.int n t)->aZ ((l.map fun p=>(p.1,numOf p.2)).map (fun p=>V.int p.2)) (l.map Prod.snd):=by
    intro l;induction l with
    |nil=>intro _;exact .nil
    |cons x l ih=>
     intro hx;refine .cons ?_ (ih fun p hp=>hx p (cU _ hp));obtain⟨n,t,e⟩:=hx x bU;show ∃t,x.2=Value.int (numOf x.2) t;rw[e];exact⟨t,rfl⟩
   exact go ps Gq
  have BB:KN za zb ns ((ps.map fun p=>(p.1,numOf p.2)).map (·.2)):=by
   refine⟨ps.map fun p=>(p.1,numOf p.2),?_,rfl,?_⟩
   .rw[<-OA];exact hp.map _
   .refine iD.mpr (hs.imp fun {p q} z=>?_);simpa using z
  have YN:h'.get? D=some (seqObj "list" out cc):=(N' _ bU).1;have I2:aT X af σ (upd H D (.lst (((ps.map fun p=>(p.1,numOf p.2)).map (·.2)).map V.int))) { s with heap:=h',toks:=tk }:=by
   refine I.Og F F' (fun p hp=>N' p (cU _ hp)) hD ⟨?_,ps.map Prod.snd,cc,?_,?_⟩
   .have h1:=hp.length_eq;rw[List.length_zip,len,Nat.min_self] at h1;simp only[aO];rw[h1,hI.length];exact bw (jB Ov) (by decide)
   .have ev:=Do;simp only[cy] at ev |-;exact ev
   .rw[YN,<-ho]
  exact⟨.ref D,_,I2,rfl,q D _ (I.cL.qA hD) BB⟩
def uF(mg:Str->Option Value)(base:Heap):Prop:=∃bm o,mg "__builtins__"=some (.ref bm)/\bm≠builtinsNs/\bm≠mainGlobals/\base.get? bm=some o/\o.cls=.type "module"/\o.dict=some builtinsNs/\o.data=.plain
def Ak(ts:List Addr)(H:Hp):Prop:=(∀P∈ts,H P=some (.rh #[]))/\∀b,H b=none\/(b∈ts/\H b=some (.rh #[]))\/∃o xs,H b=some (.ud o (.lst xs))
theorem BC{P:Program}{w:World}{K:PySem.W.Frag}{mg mb:Str->Option Value}{CX:w_}{k:Nat}{fa a:Addr}{fd:FuncData}{x:Str}{sp:Sp}{s₁:Shared}{vs:List Value}{ns:List Int}{ts:List Addr}(KX:K.In s₁.heap)(xb:s₁.heap.Ns mainGlobals mg)(hb:s₁.heap.Ns builtinsNs mb)(YO:∀x:Str,x≠"__name__"->mb x=bootBuiltins x)(Tx:s₁.heap.NoLimit)(hg:s₁.gens=#[])(YQ:uF mg s₁.heap)(OB:∀P∈ts,s₁.heap.get? P=some (PySem.W.tabObj #[]))(rd:∀P∈ts,∃c,PySem.W.codeHdIn K c P=true)(OC:∀P∈ts,K.lookup P=none)(ha:s₁.heap.get? a=some { cls:=.type "list",data:=.seq vs.toArray })(hi:IntsAre vs ns)(hl:ns.length<=sizeLine)(hr:dk k callerA)(F:∀base:Heap,K.In base->base.Ns mainGlobals mg->uF mg base->bY P w K mg base CX k fa fd [x] sp)(OD:∀ (s:Shared) (u:Value),BindsTo s fd ⟨[u],[]⟩ [(x,u)])(FR:∀H:Hp,Ak ts H->aQ K H a (ns.map V.int)->sp [.ref a] H (fun v _=>v=.bl true) fun _ _ _=>False)(Tz:∀H e s',CX [] H s₁ (fun _ _ _=>False) e s'->False):
  codeAny (model P w) callerA (.call (.ref fa) ⟨[.ref a],[]⟩) (fun r s'=>r=.ok (.ret (.bool true))/\OldK s₁.heap s'.heap/\s'.os=s₁.os/\AllBare s'.gens) s₁:=by
 have rv:=nB hi;have TB:=hi.length;have Wk:a∉ts:=fun z=>by
  have:=OB a z;rw[ha] at this;cases this
 have OE:∀H:Hp,Ak ts H->aQ K H a (ns.map V.int)->k5 P w H s₁.heap->(∀b,H b≠none->b=a\/b∈ts)->(H a≠none->K.lookup a=none)->
   codeAny (model P w) callerA (.call (.ref fa) ⟨[.ref a],[]⟩) (fun r s'=>r=.ok (.ret (.bool true))/\OldK s₁.heap s'.heap/\s'.os=s₁.os/\AllBare s'.gens) s₁:=by
  intro H hO hS cL hA hK;have uG:∀ {b:Addr} {o:Obj},s₁.heap.get? b=some o->H b=none->(rk s₁.heap H).get? b=some o:=fun e n=>CS e n;have M0:∀ {b:Addr} {o:Obj},s₁.heap.get? b=some o->(∀v n,o.data≠.seq v n)->(∀v,o.data≠.fields v)->H b=none:=fun {b o} e d1 d2=>by
   cases q:H b with
   |none=>rfl
   |some u=>
    rcases hA b (by rw[q];simp) with e'|e'
    .subst e';rw[ha] at e;cases e;exact absurd rfl (d1 _ _)
    .rw[OB b e'] at e;cases e;exact absurd rfl (d2 _)
  have Ru:∀ {b:Addr} {m:Str->Option Value},s₁.heap.Ns b m->(rk s₁.heap H).Ns b m:=fun {b m} ⟨o,es,ep,e,d,r⟩=>⟨o,es,ep,uG e (M0 e (by rw[d];intro v n z;cases z) (by rw[d];intro v z;cases z)),d,r⟩
  have Wl:K.In (rk s₁.heap H):=fun b o e=>uG (KX b o e) (by
   cases q:H b with
   |none=>rfl
   |some u=>
    rcases hA b (by rw[q];simp) with e'|e'
    .subst e';rw[hK (by rw[q];simp)] at e;cases e
    .rw[OC b e'] at e;cases e)
  have hB:uF mg (rk s₁.heap H):=by
   obtain⟨bm,o,b1,b2,b3,b4,b5,b6,b7⟩:=YQ;exact⟨bm,o,b1,b2,b3,uG b4 (M0 b4 (by rw[b7];intro v n z;cases z) (by rw[b7];intro v z;cases z)),b5,b6,b7⟩
  have hM:Mod K mg (rk s₁.heap H):=⟨Wl,Ru xb,⟨mb,Ru hb,YO⟩,let ⟨mc,h1,h2⟩:=Tx;⟨mc,Ru h1,h2⟩⟩
  have e0:yz P w K mg (rk s₁.heap H) callerA [] s₁ H:=⟨rfl,hM,fun b o e=>FZ e,qk (A2 _ _),trivial,fun b hb=>absurd (show b∈([]:List Addr) from hb) (by simp),cL,.of_eq hg⟩
  refine nh ((F _ Wl (Ru xb) hB).run callerA [] s₁ H ⟨[.ref a],[]⟩ [.ref a] [.ref a] _ _ hr e0 (OD s₁ (.ref a)) (.cons rfl .nil) (FR H hO hS)) fun r s' h=>?_;cases r with
  |error e=>exact(Tz H e s' h).elim
  |ok fl=>
   cases fl with
   |next=>exact False.elim h
   |brk=>exact False.elim h
   |cont=>exact False.elim h
   |ret u=>
    obtain⟨v,H',os,bare,un,OF,r',q⟩:=h;have q':v=.bl true:=q;subst q';obtain rfl:u=Value.bool true:=r';refine⟨rfl,⟨fun b o e=>?_,fun b o e=>un.there b o e (by simp)⟩,os,bare⟩;cases q:H b with
    |none=>exact .inl (un.keep b o e q (by intro z;exact absurd (show b∈([]:List Addr) from z) (by simp)) (by simp))
    |some u=>
     rcases hO.2 b with z|⟨zt,z⟩|⟨ob,xs,z⟩
     .rw[q] at z;cases z
     .obtain⟨more,z2⟩:=un.uf b _ z;have e1:=OB b zt;rw[e] at e1;cases e1;have e2:s'.heap.get? b=some { cls:=.none,data:=.fields (#[]++more) }:=OF b _ z2;obtain⟨c,hc⟩:=rd b zt;obtain⟨oc,YR,_,_,_,_,_,_,_,g1,g2,g3,g4,_⟩:=PySem.W.codeHd_of_K KX hc;exact .inr (.inl ⟨⟨c,oc,YR,g1,g2,g3,g4⟩,rfl,#[],more,rfl,e2⟩)
     .have z2:=un.ue b ob _ z;obtain⟨e1,_⟩:=cL b _ z;obtain⟨e2,_⟩:=OF b _ z2;rw[e] at e1;cases e1;exact .inl e2
 have Wm:∀ (H:Hp),(∀P∈ts,H P=some (.rh #[]))->True:=fun _ _=>trivial
 classical
 cases hk:K.lookup a with
 |some o=>
  have e:=KX a o hk;rw[ha] at e;cases e;refine OE (fun b=>if b∈ts then some (.rh #[]) else none) ⟨fun P hP=>am hP,fun b=>?_⟩ (.inr ⟨_,vs.toArray,_,hk,rfl,rfl,rfl,by rw[bQ,TB];exact hl,by simpa using rv⟩) (fun b u z=>?_) (fun b z=>?_) fun z=>absurd (aA Wk) z
  .by_cases hb:b∈ts
   .exact .inr (.inl ⟨hb,am hb⟩)
   .exact .inl (aA hb)
  .by_cases hb:b∈ts
   .have z':=(am hb).symm.trans z;cases z';exact OB b hb
   .have z':=(aA hb).symm.trans z;cases z'
  .by_cases hb:b∈ts
   .exact .inr hb
   .exact absurd (aA hb) z
 |none=>
  refine OE (fun b=>if b=a then some (.ud { cls:=.type "list",data:=.seq vs.toArray } (.lst (ns.map V.int))) else if b∈ts then some (.rh #[]) else none) ⟨fun P hP=>?_,fun b=>?_⟩ (.inl (.inr ⟨{ cls:=.type "list",data:=.seq vs.toArray },am rfl⟩)) (fun b u z=>?_) (fun b z=>?_) fun _=>hk
  .have:P≠a:=fun z=>Wk (z ▸ hP);show (if P=a then _ else if P∈ts then _ else _)=_;rw[aA this,am hP]
  .by_cases hb:b=a
   .exact .inr (.inr ⟨_,_,am hb⟩)
   .by_cases ht:b∈ts
    .exact .inr (.inl ⟨ht,by show (if b=a then _ else if b∈ts then _ else _)=_;rw[aA hb,am ht]⟩)
    .exact .inl (by show (if b=a then _ else if b∈ts then _ else _)=_;rw[aA hb,aA ht])
  .by_cases hb:b=a
   .have z':=(am hb).symm.trans z;cases z';subst hb;exact⟨ha,by rw[aO];exact hl,vs,_,rv,ha⟩
   .have z1:(if b∈ts then some (HO.rh #[]) else none)=some u:=(aA hb).symm.trans z;by_cases ht:b∈ts
    .rw[am ht] at z1;cases z1;exact OB b ht
    .rw[aA ht] at z1;cases z1
  .by_cases hb:b=a
   .exact .inl hb
   .by_cases ht:b∈ts
    .exact .inr ht
    .exact absurd (by show (if b=a then _ else if b∈ts then _ else _)=_;rw[aA hb,aA ht]) z
theorem DI{l:PySem.W.OpenLaw}{n k:Nat}{q:Program}{sf:List Str}{XP:(Str->Option Value)->Heap->Prop}{YP:World->Heap->Prop}{d:DefRec}{K:Params->PySem.W.Frag}{CX:World->w_}{sp:World->Sp}{x:Str}{ts:List Addr}(hn:l.most=some n)(MZ:n<=sizeLine)(N5:d.params.defaults=[])(hr:dk k callerA)(hY:∀ (w:World) (h:Heap),YP w h->(K w.params).In h)(hT:∀ (w:World) (h:Heap),YP w h->∀P∈ts,h.get? P=some (PySem.W.tabObj #[]))(rd:∀ (w:World),∀P∈ts,∃c,PySem.W.codeHdIn (K w.params) c P=true)(OC:∀ (w:World),∀P∈ts,(K w.params).lookup P=none)(F:∀ (w:World) (mg:Str->Option Value) (fa:Addr) (h:Heap),(K w.params).In h->h.Ns mainGlobals mg->mg d.name=some (.ref fa)->
   ∃fd:FuncData,(∀ (s:Shared) (u:Value),BindsTo s fd ⟨[u],[]⟩ [(x,u)])/\
    ∀base:Heap,(K w.params).In base->base.Ns mainGlobals mg->uF mg base->bY l.prog w (K w.params) mg base (CX w) k fa fd [x] (sp w))(FR:∀ (w:World) (H:Hp) (a:Addr) (ns:List Int),ns.length<=n->Ak ts H->aQ (K w.params) H a (ns.map V.int)->sp w [.ref a] H (fun v _=>v=.bl true) fun _ _ _=>False)(Tz:∀ (w:World) (H:Hp) (s:Shared) (e:Value) (s':Shared),CX w [] H s (fun _ _ _=>False) e s'->False):
  PySem.W.WalkO q sf XP YP l.row.toRowW d [] (fun f vs=>PySem.call f vs):=by
 refine VY.vU hn N5 fun w s₀ s₁ mg mb fa o pm cd lP a vs ns G Y ho hd YS N6 KC Dp dq hg=>?_;have KX:=hY w _ Y;obtain⟨fd,hb,hF⟩:=F w mg fa _ KX G.T.g N6;have hB:uF mg s₁.heap:=by
  obtain⟨bm,ob,b1,b2,b3,b4,b5,b6⟩:=G.T.bmain;refine⟨bm,ob,b1,b2,fun z=>?_,b3,b4,b5,b6⟩;obtain⟨o',es,ep,e,F3,_⟩:=G.T.g;rw[z,e] at b3;cases b3;rw[F3] at b6;cases b6
 exact BC KX G.T.g G.T.b G.T.builtins G.T.nolimit hg hB (hT w _ Y) (rd w) (OC w) KC Dp (bw dq MZ) hr hF hb (fun H hO hS=>FR w H a ns dq hO hS) fun H e s'=>Tz w H s₁ e s'
structure yV(K:PySem.W.Frag)(x qual:Str)(st:Stmt)(f:Addr)(fd:FuncData)(c:Addr):Prop where
 ex:∃ (oc:Value) (od:Option Addr) (kV lP pm:Value) (an:Option Addr) (ct:Value) (ut:Array (Option Value)),
  fd=PySem.W.fnOf x qual (dC st) (cw st) (az st) .none kV lP pm an (.ref c) ct/\K.lookup f=some ⟨oc,od,.func fd,ut⟩/\PySem.W.codeIn K (.ref c) qual=true
 kp:PySem.W.keepIn K (.ref f)=true
theorem yV.fun{K:PySem.W.Frag}{x qual:Str}{st:Stmt}{f:Addr}{fd:FuncData}{c:Addr}(F:yV K x qual st f fd c):hW K x qual st f fd:=by
 obtain⟨oc,od,kV,lP,pm,an,ct,ut,e,lk,rd⟩:=F.ex;exact⟨⟨oc,od,kV,lP,pm,an,_,ct,ut,e,lk,rd⟩,F.kp⟩
section
variable {P:Program} {w:World} {K:PySem.W.Frag} {mg:Str->Option Value} {base:Heap}
theorem yV.ok{x qual:Str}{st:Stmt}{f:Addr}{fd:FuncData}{c:Addr}{N ps:List Str}{k:Nat}{sp:Sp}(F:yV K x qual st f fd c)(S:aS N ps (az st))(len:∀vs H Q E,sp vs H Q E->vs.length=ps.length)(vS:∀ (A:Around) (outer:List Env) (s:Shared) (H:Hp) (vs:List V) (Q:VK) (E:XK),dk k (A.deeper (envOfC qual (az st) s.heap.objs.size f (.ref c)))->sp vs H Q E->
   ∃t,yk (ur bE P w K mg base N qual (az st) f (.ref c) A outer s H E).Jd (cw st) t/\t { nx:=fun _ H'=>Q .b_ H',rt:=Q } (start N vs) H):bY P w K mg base bE (k+1) f fd ps sp:=by
 obtain⟨oc,od,kV,lP,pm,an,ct,ut,rfl,lk,rd⟩:=F.ex;refine Jh lk rd S len fun A outer s H vs Q E hr FR=>?_;obtain⟨t,h,q⟩:=vS A outer s H vs Q E hr FR;exact⟨t,h.Jd,q⟩
theorem GA{x qual:Str}{st:Stmt}{f c:Addr}{oc:Value}{od an:Option Addr}{ut:Array (Option Value)}{kV lP pm ct:Value}(l:K.lookup f=some ⟨oc,od,.func (PySem.W.fnOf x qual (dC st) (cw st) (az st) .none kV lP pm an (.ref c) ct),ut⟩)(rd:PySem.W.codeIn K (.ref c) qual=true)(kp:PySem.W.keepIn K (.ref f)=true):yV K x qual st f (PySem.W.fnOf x qual (dC st) (cw st) (az st) .none kV lP pm an (.ref c) ct) c:=⟨⟨oc,od,kV,lP,pm,an,ct,ut,rfl,l,rd⟩,kp⟩
theorem GB(kb:K.In base)(hb:uF mg base)(hc:PySem.W.codeHdIn K c P'=true):
  Gx (ur CX P w K mg base N qual scope f (.ref c) A outer s H E).Jd c P':=⟨rfl,PySem.W.codeHd_of_K kb hc,hb⟩
end
def pG(sc TC:Scope)(y:Str×NameKind):Bool:=match y.2 with
 |.cell=>(match sc.names.lookup y.1 with|some .cell=>true|_=>false)
 |.local=>(match sc.names.lookup y.1 with|some .local=>true|_=>false)
 |.free=>(match TC.names.lookup y.1 with|some .cell=>true|some .free=>true|_=>false)
 |_=>true
def DJ(NB:List Str)(src:List (Option Nat))(sc:Scope)(N:List Str)(i:Nat):Bool:=match NB[i]?,src[i]? with
 |some x,some (some j)=>(N[j]?==some x)&&(match sc.names.lookup x with|some .free=>true|_=>false)
 |_,_=>true
def Am(sc:Scope):Bool:=match sc.kind with|.function=>true|_=>false
def DK(NB:List Str)(src:List (Option Nat))(sc TC:Scope)(N:List Str):Bool:=
 Am sc&&decide NB.Nodup&&(src.length==NB.length)&&(sc.names.all (pG sc TC))&&(List.range NB.length).all (DJ NB src sc N)
theorem bf(h:DK NB src sc X.env.scope X.N=true):gZ NB src sc X:=by
 unfold DK at h;simp only[fE,qb,fc,jc] at h;obtain⟨⟨⟨⟨h1,h2⟩,h3⟩,h4⟩,h5⟩:=h;refine⟨?_,h2,h3,fun y hy z=>?_,fun y hy z=>?_,fun y hy z=>?_,fun i x j e1 e2=>?_⟩
 .unfold Am at h1;split at h1
  .assumption
  .cases h1
 .have:=h4 y hy;obtain⟨n,k⟩:=y;obtain rfl:k=.cell:=z;dsimp only[pG] at this |-;split at this
  .assumption
  .cases this
 .have:=h4 y hy;obtain⟨n,k⟩:=y;obtain rfl:k=.local:=z;dsimp only[pG] at this |-;split at this
  .assumption
  .cases this
 .have:=h4 y hy;obtain⟨n,k⟩:=y;obtain rfl:k=.free:=z;dsimp only[pG] at this |-;split at this
  .exact .inl (by assumption)
  .exact .inr (by assumption)
  .cases this
 .have hi:i<NB.length:=(cN.mp e1).1;have:=h5 i (bH.mpr hi);unfold DJ at this;rw[e1,e2] at this;simp only[fE,fc] at this;refine⟨this.1,?_⟩;have t2:=this.2;split at t2
  .assumption
  .cases t2
theorem cK{K:PySem.W.Frag}{a D:Addr}{xs:List V}{g:TG}{tt:TT}{te:TE}{dU:Hp->Prop}{σB:St}{H0:Hp}(Pv:Nat->List V->St->Hp->Prop)(h0:Pv 0 [] σB H0)(hl:∀i ys σ H,i<=xs.length->Pv i ys σ H->aQ K H a xs)(hs:∀i x ys σ H (Kt:V->St->Hp->Prop) (Kf:St->Hp->Prop),xs[i]?=some x->Pv i ys σ H->
   (∀v σ2 H4,H4 D=some (.lst ys)->ys.length<sizeLine->Pv (i+1) (ys++[v]) σ2 (upd H4 D (.lst (ys++[v])))->Kt v σ2 H4)->(∀σ2 H3,Pv (i+1) ys σ2 H3->Kf σ2 H3)->
   g x σ H fun σ2 H2=>tt σ2 H2 fun b H3=>if b=true then te σ2 H3 fun v H4=>Kt v σ2 H4 else Kf σ2 H3)(hd:∀ys σ H,Pv xs.length ys σ H->dU H):fP (A7 K a) g tt te D dU σB H0:=by
 refine⟨fun i m σ H=>m=xs.length-i/\i<=xs.length/\∃ys,Pv i ys σ H,⟨xs.length,by simp,dh _,[],h0⟩,?_⟩;rintro i m σ H ⟨rfl,hi,ys,p⟩;have q:=hl i ys σ H hi p;by_cases e_:i<xs.length
 .refine .inr ⟨⟨xs,xs[i],q,by simp[e_]⟩,?_⟩;rintro x H' ⟨rfl,y⟩;exact hs i x ys σ _ (fun v σ2 H4=>∃ys,H4 D=some (.lst ys)/\ys.length<sizeLine/\∃m',m'<xs.length-i/\m'=xs.length-(i+1)/\i+1<=xs.length/\∃v_,Pv (i+1) v_ σ2 (upd H4 D (.lst (ys++[v]))))
   (fun σ2 H3=>∃m',m'<xs.length-i/\m'=xs.length-(i+1)/\i+1<=xs.length/\∃v_,Pv (i+1) v_ σ2 H3) (y xs q) p
   (fun v σ2 H4 z1 z2 z3=>⟨ys,z1,z2,_,by lia,rfl,e_,_,z3⟩) (fun σ2 H3 z=>⟨_,by lia,rfl,e_,_,z⟩)
 .have e:i=xs.length:=by lia
  subst e;exact .inl ⟨⟨xs,q,aU _⟩,hd ys σ H p⟩
theorem dD{lo:Int}{n:Nat}{D:Addr}{g:TG}{tt:TT}{te:TE}{dU:Hp->Prop}{σB:St}{H0:Hp}(Pv:Nat->List V->St->Hp->Prop)(h0:Pv 0 [] σB H0)(hs:∀i ys σ H (Kt:V->St->Hp->Prop) (Kf:St->Hp->Prop),i<n->Pv i ys σ H->
   (∀v σ2 H4,H4 D=some (.lst ys)->ys.length<sizeLine->Pv (i+1) (ys++[v]) σ2 (upd H4 D (.lst (ys++[v])))->Kt v σ2 H4)->(∀σ2 H3,Pv (i+1) ys σ2 H3->Kf σ2 H3)->
   g (.int (lo+i)) σ H fun σ2 H2=>tt σ2 H2 fun b H3=>if b=true then te σ2 H3 fun v H4=>Kt v σ2 H4 else Kf σ2 H3)(hd:∀ys σ H,Pv n ys σ H->dU H):fP (Cp lo n) g tt te D dU σB H0:=by
 refine⟨fun i m σ H=>m=n-i/\i<=n/\∃ys,Pv i ys σ H,⟨n,by simp,dh _,[],h0⟩,?_⟩;rintro i m σ H ⟨rfl,hi,ys,p⟩;by_cases e_:i<n
 .refine .inr ⟨e_,?_⟩;rintro x H' ⟨rfl,rfl⟩;exact hs i ys σ _ (fun v σ2 H4=>∃ys,H4 D=some (.lst ys)/\ys.length<sizeLine/\∃m',m'<n-i/\m'=n-(i+1)/\i+1<=n/\∃v_,Pv (i+1) v_ σ2 (upd H4 D (.lst (ys++[v]))))
   (fun σ2 H3=>∃m',m'<n-i/\m'=n-(i+1)/\i+1<=n/\∃v_,Pv (i+1) v_ σ2 H3) e_ p
   (fun v σ2 H4 z1 z2 z3=>⟨ys,z1,z2,_,by lia,rfl,e_,_,z3⟩) (fun σ2 H3 z=>⟨_,by lia,rfl,e_,_,z⟩)
 .have e:i=n:=by lia
  subst e;exact .inl ⟨aU _,hd ys σ H p⟩
section
variable {κ:Type} [DecidableEq κ]
def gJ(cG:List (κ×V))(k:κ):Option V:=(cG.find? fun kv=>decide (kv.1=k)).map (·.2)
def qD(cG:List (κ×V))(k:κ)(v:V):List (κ×V):=
 if (cG.any fun kv=>decide (kv.1=k))=true then cG.map (fun kv=>if kv.1=k then (kv.1,v) else kv) else cG++[(k,v)]
theorem dY{p:κ×V}{r:List (κ×V)}{k:κ}(e:p.1=k):gJ (p::r) k=some p.2:=by simp[gJ,mZ,e]
theorem dZ{p:κ×V}{r:List (κ×V)}{k:κ}(e:¬ p.1=k):gJ (p::r) k=gJ r k:=by simp[gJ,mZ,e]
theorem lY(k:κ):∀cG:List (κ×V),(cG.any fun kv=>decide (kv.1=k))=(gJ cG k).isSome
 |[]=>rfl
 |p::r=>by
  rw[iq];by_cases e:p.1=k
  .simp only[dY e,decide_eq_true e,Bool.true_or,xO]
  .rw[dZ e,cY e,Bool.false_or];exact lY k r
theorem wa(k j:κ)(y:V):∀cG:List (κ×V),gJ (cG.map fun kv=>if kv.1=k then (kv.1,y) else kv) j=(gJ cG j).map fun x=>if j=k then y else x
 |[]=>rfl
 |p::r=>by
  have ih:=wa k j y r;rw[eE];by_cases h:p.1=k
  .rw[am h];by_cases e:p.1=j
   .rw[dY (p:=(p.1,y)) e,dY e,kT,am (e.symm.trans h)]
   .rw[dZ (p:=(p.1,y)) e,dZ e,ih]
  .rw[aA h];by_cases e:p.1=j
   .rw[dY (p:=p) e,dY e,kT,aA (fun z=>h (e.trans z))]
   .rw[dZ (p:=p) e,dZ e,ih]
theorem sr(k j:κ)(y:V):∀cG:List (κ×V),gJ cG k=none->gJ (cG++[(k,y)]) j=if j=k then some y else gJ cG j
 |[],_=>by
  by_cases e:k=j
  .rw[am e.symm];exact dY (p:=(k,y)) e
  .rw[aA (fun z=>e z.symm)];exact dZ (p:=(k,y)) e
 |p::r,hn=>by
  rw[List.cons_append];have hk:¬ p.1=k:=fun z=>by rw[dY z] at hn;cases hn
  rw[dZ hk] at hn;have ih:=sr k j y r hn;by_cases e:p.1=j
  .rw[dY e,dY e,aA (fun z=>hk (e.trans z))]
  .rw[dZ e,dZ e,ih]
theorem DL(cG:List (κ×V))(k j:κ)(y:V):gJ (qD cG k y) j=if j=k then some y else gJ cG j:=by
 unfold qD;by_cases a:(cG.any fun kv=>decide (kv.1=k))=true
 .rw[am a,wa];rw[lY] at a;by_cases e:j=k
  .obtain⟨x,hx⟩:=pU.mp a;rw[am e,e,hx,kT,am rfl]
  .rw[aA e];cases gJ cG j with
   |none=>rfl
   |some x=>rw[kT,aA e]
 .rw[aA a];refine sr k j y cG ?_;rw[lY] at a;cases q:gJ cG k with
  |none=>rfl
  |some x=>rw[q] at a;exact(a rfl).elim
theorem wb(cG:List (κ×V))(k:κ)(v:V):(qD cG k v).length<=cG.length+1:=by
 unfold qD;split
 .rw[aO];lia
 .rw[cF,dH,List.length_nil];lia
theorem lJ.nK(r:lJ o u):o.isSome=u.isSome:=by
 cases o with
 |none=>cases u with
  |none=>rfl
  |some _=>exact(show False from r).elim
 |some _=>cases u with
  |none=>exact(show False from r).elim
  |some _=>rfl
theorem KV.val{cG:List (κ×V)}{vs:List (κ×Value)}(r:KV cG vs)(k:κ):lJ (gJ cG k) (valueAt vs k):=by
 unfold KV at r;induction r with
 |nil=>exact True.intro
 |@cons p q ps qs h t ih=>
  obtain⟨h1,h2⟩:=h;by_cases e:p.1=k
  .have e':q.1=k:=h1.symm.trans e;have b:valueAt (q::qs) k=some q.2:=by simp[valueAt,mZ,e']
   rw[dY e,b];exact h2
  .have e':¬ q.1=k:=fun z=>e (h1.trans z);have b:valueAt (q::qs) k=valueAt qs k:=by simp[valueAt,mZ,e']
   rw[dZ e,b];exact ih
end
theorem Jr(r:bT (kV k) u):(b9 P w).is k u=true:=by
 cases k with
 |inl i=>obtain⟨t,e⟩:=(show ∃t,u=Value.int i t from r);subst e;exact vI P w i t
 |inr x=>obtain⟨t,e⟩:=(show ∃t,u=Value.str x t from r);subst e;exact vJ P w x t
theorem su:∀ {ks:List gE} {us:List Value},aZ (ks.map kV) us->ItemsAre (b9 P w) ks us
 |[],_,r=>by rw[List.map_nil] at r;cases r;exact .nil
 |k::ks,_,r=>by
  rw[eE] at r;cases r with
  |cons h t=>exact .cons (Jr h) (su t)
abbrev KT(H:Hp):List (List gE×V)->List (List gE×Addr×Value)->Prop:=Paired fun p q=>p.1=q.1/\H q.2.1=some (.tup (p.1.map kV))/\bT p.2 q.2.2
theorem KT.val{H:Hp}{cG:List (List gE×V)}{xs:List (List gE×Addr×Value)}(r:KT H cG xs)(k:List gE):lJ (gJ cG k) ((atKey xs k).map (·.2)):=by
 induction r with
 |nil=>exact True.intro
 |@cons p q ps qs h t ih=>
  obtain⟨h1,_,h2⟩:=h;by_cases e:p.1=k
  .have e':q.1=k:=h1.symm.trans e;have b:atKey (q::qs) k=some q.2:=by simp[atKey,mZ,e']
   rw[dY e,b];exact h2
  .have e':¬ q.1=k:=fun z=>e (h1.trans z);have b:atKey (q::qs) k=atKey qs k:=by simp[atKey,mZ,e']
   rw[dZ e,b];exact ih
theorem KT.TD(r:KT H cG xs)(k:List gE)(ry:bT y u):
  KT H (cG.map fun kv=>if kv.1=k then (kv.1,y) else kv) (xs.map (putAt k u)):=by
 induction r with
 |nil=>exact .nil
 |@cons p q ps qs h t ih=>
  rw[eE,eE];refine .cons ?_ ih;obtain⟨h1,h2,h3⟩:=h;unfold putAt;by_cases e:p.1=k
  .rw[am e,am (h1.symm.trans e)];exact⟨h1,h2,ry⟩
  .rw[aA e,aA (fun z=>e (h1.trans z))];exact⟨h1,h2,h3⟩
theorem KT.put(r:KT H cG xs)(k:List gE)(hb:H b=some (.tup (k.map kV)))(ry:bT y u):
  KT H (qD cG k y) (storedH xs k b u):=by
 have e:(cG.any fun kv=>decide (kv.1=k))=(atKey xs k).isSome:=by
  rw[lY,(r.val k).nK,Option.isSome_map]
 unfold qD storedH;rw[e];by_cases q:(atKey xs k).isSome=true
 .rw[am q,am q];exact r.TD k ry
 .rw[aA q,aA q];exact Paired.snoc r ⟨rfl,hb,ry⟩
theorem KT.keeps(r:KT H cG xs)(ht:∀b ys,H b=some (.tup ys)->H' b=some (.tup ys)):KT H' cG xs:=
 Paired.J2 r fun _ _ z=>⟨z.1,ht _ _ z.2.1,z.2.2⟩
section
variable {P:Program} {w:World} {H:Hp} {h:Heap} {a:Addr}
theorem Js(ok:k5 P w H h)(e:Rd H a u):cz P w H h a u:=e.ok ok
theorem OG(ok:k5 P w H h)(e:Rd H a (.dK cG)):cG.length<=sizeLine/\(a==sysModules)=false/\∃vs,KV cG vs/\h.DictOf (b9 P w) a vs:=
 show cz P w H h a (.dK cG) from Js ok e
theorem nM(ok:k5 P w H h)(e:H a=some (.tup (ks.map kV))):(tupleKind (b9 P w)).is h ks a:=by
 obtain⟨_,its,r,o,h1,h2,n,h3,_⟩:=(show cz P w H h a (.tup (ks.map kV)) from ok a _ e)
 exact⟨o,its.toArray,n,h1,h2,h3,by simpa using su r⟩
theorem OH(ok:k5 P w H h)(e:Rd H a (.dT cG)):cG.length<=sizeLine/\(a==sysModules)=false/\
  ∃xs,KT H cG xs/\h.DictOfH (tupleKind (b9 P w)) a xs:=by
 obtain⟨z,y,xs,r,o,es,ep,h1,h2,h3,h4,h5⟩:=(show cz P w H h a (.dT cG) from Js ok e)
 refine⟨z,y,xs,r,o,es,ep,h1,h2,h3,h4,fun x hx=>?_,h5⟩;have all:∀ {l:List (List gE×V)} {m:List (List gE×Addr×Value)},KT H l m->∀x∈m,(tupleKind (b9 P w)).is h x.1 x.2.1:=by
  intro l m q;induction q with
  |nil=>intro x hx;exact nomatch hx
  |@cons p q ps qs hq t ih=>
   intro x hx;rcases bX.mp hx with e|hx
   .subst e;exact nM ok (by rw[<-hq.1];exact hq.2.1)
   .exact ih x hx
 exact all r x hx
end
def DM(H:Hp)(a:Addr)(y:V)(r:Option V):Prop:=
 (∃cG k,Rd H a (.dK cG)/\y=kV k/\r=gJ cG k)\/∃cG k b,Rd H a (.dT cG)/\y=.ref b/\H b=some (.tup (k.map kV))/\r=gJ cG k
theorem DM.t(e:H a=some (.dT cG))(eb:H b=some (.tup (k.map kV))):DM H a (.ref b) (gJ cG k):=.inr ⟨cG,k,b,.inl e,rfl,eb,rfl⟩
section
variable {X:Cx} {af:List (Addr×Obj)} {σ:St} {H:Hp} {s:Shared} {a:Addr} {y v:V} {u r:Value} {o:Option V} {A:Around} {E:Value->Shared->Prop}
theorem TF(hu:A.units+1<cLine)(I:aT X af σ H s)(g:DM H a y o)(ry:bT y u)(h:∀s',aT X af σ H s'->Q (.bool o.isSome) s'):
  wpAny (model X.prog X.w) A (compareOp .In u (.ref a)) Q E s:=by
 rcases g with ⟨cG,k,e,ey,l⟩|⟨cG,k,b,e,ey,eb,l⟩
 .subst ey;obtain⟨z,hd,vs,TH,dd⟩:=OG I.cL e;refine wpAny_in_of (Jr ry) hd dd.mapOf ?_;rw[<-(TH.val k).nK,<-l];exact h _ (I.tok _)
 .subst ey;cases (show u=Value.ref b from ry);obtain⟨z,hd,xs,TH,dd⟩:=OH I.cL e;refine wpAny_in_heap (tupleKind_room_in1 hu) (nM I.cL eb) hd dd ?_;have q:=(TH.val k).nK;rw[Option.isSome_map] at q;rw[<-q,<-l];exact h _ (I.tok _)
end
section
variable {X:Cx} {af:List (Addr×Obj)} {σ:St} {H:Hp} {s:Shared} {a:Addr} {cG:List (gE×V)} {k:gE} {u:Value} {A:Around} {E:Value->Shared->Prop}
end
def OI(ty td:TE):TE:=fun σ H Q=>ty σ H fun y H1=>td σ H1 fun x H2=>∃a o,x=.ref a/\DM H2 a y o/\Q (.bl o.isSome) H2
section
variable {X:Cx} {o i e value:Expr} {pos A5 Kp:Pos} {td ty tv:TE}
theorem KR(hu:X.A.units+1<cLine)(hi:PE X i ty)(ho:PE X o td):PC X .In i o (OI ty td):=by
 intro af s σ H Q I h;refine cV (hi af s σ H _ I h) fun iv s1 ⟨y,H1,I1,ry,q1⟩=>cV (ho af s1 σ H1 _ I1 q1) fun u s2 ⟨x,H2,I2,rx,a,ov,ex,g,q2⟩=>?_;subst ex;obtain rfl:u=Value.ref a:=rx;exact TF hu I2 g ry fun s3 I3=>⟨.bl ov.isSome,H2,I3,rfl,q2⟩
end
section
variable {X:Cx} {pos:Pos}
end
section
variable {X:Cx} {af:List (Addr×Obj)} {σ:St} {H:Hp} {s:Shared} {a:Addr} {y d:V} {u r:Value} {o:Option V} {A:Around} {E:Value->Shared->Prop}
end
section
variable {X:Cx} {o e f:Expr} {oW jM:Pos} {td ty tx:TE}
end
section
variable {X:Cx} {af:List (Addr×Obj)} {σ:St} {H:Hp} {s:Shared} {a:Addr} {cG:List (gE×V)} {A:Around} {E:Value->Shared->Prop}
end
section
variable {X:Cx} {af:List (Addr×Obj)} {σ:St} {H:Hp} {s:Shared} {a:Addr} {y:V} {u:Value} {A:Around} {E:Value->Shared->Prop}
end
section
variable {X:Cx}
end
section
variable {κ:Type} [DecidableEq κ]
end
section
variable {X:Cx}
theorem lf:∀ {xs:List V} {its:List Value},aZ xs its->xs.all dJ=true->its.countP (r6 x)=xs.countP (fun z=>iX z x)
 |[],_,.nil,_=>rfl
 |y::xs,_,.cons (b:=u) r rr,f=>by
  have fy:dJ y=true:=by rw[jA,fE] at f;exact f.1
  have fx:xs.all dJ=true:=by rw[jA,fE] at f;exact f.2
  have h1:[u].any (r6 x)=[y].any (fun z=>iX z x):=ke (.cons r .nil) (by simp[fy]);have h2:r6 x u=iX y x:=by simpa using h1
  rw[mU,mU,lf rr fx,h2]
def DN:V->List V->Hp->VK->Prop:=fun x vs H Q=>∃ (l:Addr) (xs:List V) (y:V),x=.ref l/\vs=[y]/\H l=some (.lst xs)/\dJ y=true/\xs.all dJ=true/\Q (.int (xs.countP fun z=>iX z y)) H
theorem DO:M1 X "list.count" DN:=by
 intro af s σ H x vs v us Q I rx rv h;obtain⟨l,xs,y,rfl,rfl,hH,fy,fs,q⟩:=h;cases rx;obtain⟨u,rfl,ru⟩:=rv.one;obtain⟨z,its,n,r,hl,e⟩:=I.rB hH;refine iT F.slot_list_count ⟨_,e,rfl⟩ F.entry_list_count (F.args_list_count_2 _ _) (SeqAt.list_countAt l its.toArray n none #[] u (r6 y)) ⟨e,fun w hw=>gY ru fy r fs w (by simpa using hw),?_⟩;refine⟨.int _,H,I.tok _,⟨s.toks,?_⟩,q⟩;rw[show its.toArray.toList=its by simp,lf r fs]
end
section
variable {prog:Program} {w:World} {A:Around} {E:Value->Shared->Prop} {s:Shared}
theorem qE(vB:s.heap.IsTupleIter it t i)(ht:s.heap.IsTuple t xs)(hx:xs[i]?=some x)(q:∀h',h'.IsTupleIter it t (i+1)->Heap.SameBut it s.heap h'->Q x { s with heap:=h' }):wpAny (model prog w) A (Builtin.SmallTypes.nextOf (.ref it)) Q E s:=by
 obtain⟨o,h1,h2,h3⟩:=id vB;obtain⟨p,k1,_,n,k3⟩:=ht;unfold Builtin.SmallTypes.nextOf;refine aw (mJ (name:=Str.ofString "__next__") vB.typeIs F.slot_tuple_iterator_next (kS F.slot_tuple_iterator_next vB.typeIs F.entry_tuple_iterator_next ?_ (F.args_tuple_iterator_next_1 _)));change wpAny _ _ (field (.ref it) 0 >>= _) _ _ s;refine aw (gQ h1 h3 (x:=.ref t) rfl ?_);change wpAny _ _ (if (Value.ref t==Value.none)=true then _ else _) _ _ s;rw[aA (by exact cp)];change wpAny _ _ (field (.ref it) 1 >>= _) _ _ s;refine aw (gQ h1 h3 (x:=.int i 0) rfl ?_);change wpAny _ _ (seqItems? (.ref t) >>= _) _ _ s;refine aw (iQ k1 k3 ?_);simp only[iE,hx];refine aw (wpAny_setField h1 h3 (by simp) (wpAny_pure ⟨x,rfl,wpAny_pure (q _ ?_ (Heap.SameBut.update ..))⟩));refine⟨_,xR _ h1 (Obj.isFreed_of_fields (Obj.data_mapFields h3 _)),(Obj.cls_mapFields ..).trans h2,?_⟩;rw[Obj.data_mapFields h3];simp[rawInt]
theorem BE(hh:A.handled=none)(vB:s.heap.IsTupleIter it t i)(ht:s.heap.IsTuple t xs)(hx:xs[i]?=none)(q:∀h' e,Heap.ExtBut it s.heap h'->(∃o,h'.get? e=some o/\o.cls=.type "StopIteration")->E (.ref e) { s with heap:=h' }):wpAny (model prog w) A (Builtin.SmallTypes.nextOf (.ref it)) Q E s:=by
 obtain⟨o,h1,h2,h3⟩:=id vB;obtain⟨p,k1,_,n,k3⟩:=ht;unfold Builtin.SmallTypes.nextOf;refine aw (mJ (name:=Str.ofString "__next__") vB.typeIs F.slot_tuple_iterator_next (kS F.slot_tuple_iterator_next vB.typeIs F.entry_tuple_iterator_next ?_ (F.args_tuple_iterator_next_1 _)));change wpAny _ _ (field (.ref it) 0 >>= _) _ _ s;refine aw (gQ h1 h3 (x:=.ref t) rfl ?_);change wpAny _ _ (if (Value.ref t==Value.none)=true then _ else _) _ _ s;rw[aA (by exact cp)];change wpAny _ _ (field (.ref it) 1 >>= _) _ _ s;refine aw (gQ h1 h3 (x:=.int i 0) rfl ?_);change wpAny _ _ (seqItems? (.ref t) >>= _) _ _ s;refine aw (iQ k1 k3 ?_);simp only[iE,hx];refine aw (gm (aw (wpAny_setField h1 h3 (by simp) ?stop)));case stop=>
  change wpAny _ _ (newExc (.type "StopIteration") [] >>= _) _ _ _;refine aw ?_;simp only[newExc,newTuple];refine aw (jv (aw (m:=firstArgMember _ _) (wpAny_of_eq (a:=Value.none) (by simp only[firstArgMember];rfl) (jv ?_ (by size_fits)))) (by size_fits));simp only[raiseNew];refine aw (wpAny_handled ?_);rw[show A.in1.handled=none from hh];exact aw (wpAny_pure (wpAny_throw (q _ _ (fun b u hb z=>bV _ (bV _ ((xL _ _ (gU hb)).trans z))) ⟨_,cD _ rfl,rfl⟩)))
end
section
variable {X:Cx}
end
section
variable {X:Cx} {tg:Expr}
end
theorem uH:typeLookup (.type "list") "keys"=pure none:=by rw[typeLookup_type,builtinLookup_eq_fast];kernel_rfl
theorem oZ:typeLookup (.type "list") "__getattr__"=pure none:=by rw[typeLookup_type,builtinLookup_eq_fast];kernel_rfl
theorem qF(l:Addr)(u:Tok)(items:Array Value)(n:Nat):
  Meets (Builtin.«object.__getattribute__» ⟨[.ref l,.str "keys" u],[]⟩) (fun A R s=>s.heap.get? l=some { cls:=.type "list",data:=.seq items n }/\raisesAttr (.ref l) "keys" A R s):=
 Meets.of_wp fun prog w A R s hs=>by
  obtain⟨hp,g,d,tk,os⟩:=s;obtain⟨hl,hs⟩:=hs;have hT:(⟨hp,g,d,tk,os⟩:Shared).TypeIs (.ref l) "list":=⟨_,hl,rfl⟩
  have f1:=uH;unfold Builtin.«object.__getattribute__»;repeat (any_goals (first|assumption|wp_step))
  exact wpAny_raiseAttrError hs.1 hs.2 (attrMsg_fits (by decide +kernel) (by decide +kernel))
theorem KS(hA:A.handled=none)(hl:s.heap.get? l=some { cls:=.type "list",data:=.seq items n })(h:∀h' tk,(∀b o,s.heap.get? b=some o->h'.get? b=some o)->Q none { s with heap:=h',toks:=tk }):wpAny (model prog w) A (getAttr? (.ref l) "keys") Q E s:=by
 obtain⟨hp,g,d,tk,os⟩:=s;have hT:∀tk,(⟨hp,g,d,tk,os⟩:Shared).TypeIs (.ref l) "list":=fun _=>⟨_,hl,rfl⟩
 have f1:=sub_AttributeError;have f3:=F.slot_list_getattribute.lookup;have f4:=F.slot_list_getattribute.bind (.ref l);have f5:=oZ;unfold getAttr? getAttrBy?;refine aw (wpAny_mkText ?_);refine aw (ub ?_);unfold getAttrBy;repeat (any_goals (first|assumption|((with_reducible show wpAny _ _ (call (Value.builtin "list.__getattribute__") _ _) _ _ _);refine iT F.slot_list_getattribute (hT _) F.entry_list_ga (F.args_list_getattribute_2 _ _) (qF l _ items n) ⟨hl,hA,fun h' tk' e hx=>?_⟩)|wp_step))
 obtain⟨t',u',he⟩:=hx.there;show wpAny _ _ (getattributeRaised _ _ _ _ _ _ _) _ _ _;unfold getattributeRaised;repeat (any_goals (first|assumption|wp_step))
 exact h _ _ hx.keeps
theorem oG:entryFor table "dict.update.loop"=some Builtin.«dict.update.loop»:=entryFor_of_tree (by kernel_rfl)
theorem ii:plainId "dict.update.loop"=true:=by decide +kernel
section
variable {prog:Program} {w:World} {A:Around} {E:Value->Shared->Prop} {s:Shared} {R:Result->Shared->Prop} {l d Ia:Addr}
end
section
variable {prog:Program} {w:World} {A:Around} {E:Value->Shared->Prop} {s:Shared} {l:Addr}
end
section
variable {X:Cx}
theorem BF(hc:X.calm=true):eX X (.builtin "all") (fun xs H Q=>∃ (p:Addr) (bs:List Bool),xs=[.ref p]/\aQ X.K H p (bs.map V.bl)/\Q (.bl (bs.all id)) H):=by
 intro af s σ H xs us Q I r h;obtain⟨p,bs,rfl,hp,q⟩:=h;obtain⟨u1,rfl,r1⟩:=r.one;obtain rfl:u1=Value.ref p:=r1;obtain⟨its,rv,pl,hz⟩:=I.list hp;have yS:its=bs.map Value.bool:=by
  have go:∀ (bs:List Bool) (its:List Value),aZ (bs.map V.bl) its->its=bs.map Value.bool:=by
   intro bs;induction bs with
   |nil=>intro its r;cases r;rfl
   |cons b bs ih=>
    intro its r;cases r with
    |cons r rr=>
     obtain rfl:=(show _=Value.bool b from r)
     rw[ih _ rr];rfl
  exact go bs its rv
 subst yS;obtain⟨ob,Tl,_⟩:=id pl.isList;have e_:p<s.heap.objs.size:=be Tl;refine call_all_walk (mW pl.isList ⟨s.heap.objs.size,_,_,_,_,_,fun i=>bs.getD i true,rfl,Walks.list (show X.A.in1.handled=none from I.ok.hd hc) _ p (ba e_) _,⟨⟨_,cD _ rfl,rfl,rfl⟩,pl.isList.push _⟩,fun i v s1 Q' E' hv hq=>?_,fun h' tk k=>?_⟩)
 .have Ba:(bs.map Value.bool)[i]?=some v:=by simpa using hv
  rw[bZ] at Ba;cases eb:bs[i]? with
  |none=>rw[eb] at Ba;cases Ba
  |some b=>
   rw[eb] at Ba;obtain rfl:Value.bool b=v:=bW Ba;have:bs.getD i true=b:=by rw[bb,eb];rfl
   have Gd:Q' b s1:=by rw[<-this];exact hq
   exact wpAny_pure Gd
 .have keep:∀b o,s.heap.get? b=some o->h'.get? b=some o:=fun b o e=>k b o (by simpa using ba (be e)) (bV _ e);refine⟨.bl (bs.all id),H,I.kept (t':=tk) keep,?_,q⟩;show Value.bool _=Value.bool _;congr 1;have go:∀ (bs:List Bool),((List.range bs.length).all fun i=>bs.getD i true)=bs.all id:=by
   intro bs;induction bs with
   |nil=>rfl
   |cons b bs ih=>
    rw[dH,mI,jA,List.all_map,jA,<-ih];rfl
  rw[<-go bs];simp
def GC:V->List V->Hp->VK->Prop:=fun x vs H Q=>∃ (l:Addr) (ns:List Int) (z:Int),x=.ref l/\vs=[.int z]/\H l=some (.lst (ns.map V.int))/\z∈ns/\Q .b_ (upd H l (.lst ((ns.eraseIdx (ns.idxOf z)).map V.int)))
theorem ints_of:∀ {ns:List Int} {its:List Value},aZ (ns.map V.int) its->∀i (h:i<its.length) (h':i<ns.length),∃t,its[i]=Value.int ns[i] t
 |[],_,.nil,i,h,_=>by simp at h
 |n::ns,_,.cons ⟨t,e⟩ r,0,_,_=>⟨t,e⟩
 |n::ns,_,.cons _ r,i+1,h,h'=>ints_of r i (by simpa using h) (by simpa using h')
def YT(z:Int)(v:Value):Bool:=match v with
 |.int y _=>y==z
 |_=>false
theorem BG:M1 X "list.remove" GC:=by
 intro af s σ H x vs v us Q I rx rv h;obtain⟨l,ns,z,rfl,rfl,hH,hz,q⟩:=h;cases rx;obtain⟨u,rfl,ru⟩:=rv.one;obtain⟨t,rfl⟩:=ru;obtain⟨zz,its,n,r,hl,e⟩:=I.rB hH;have dq:its.length=ns.length:=by have:=r.length;rw[aO] at this;exact this.symm
 have hj:ns.idxOf z<ns.length:=CO.mpr hz;have at_:∀i (h:i<its.length),∃t,its[i]=Value.int (ns[i]'(by lia)) t:=fun i h=>ints_of r i h (by lia);refine iT F.slot_list_remove ⟨_,e,rfl⟩ F.entry_list_remove (F.args_list_remove_2 _ _)
  (MeetsSeq.list_remove l its.toArray n (.int z t) (YT z) (fun y hy=>?_) (ns.idxOf z) (by simpa [dq] using hj) ?_ (fun m hm e_=>?_) (by rw[bQ,dq];rw[aO] at zz;exact zz)) ⟨e,?_⟩
 .obtain⟨i,hi,rfl⟩:=kN.mp (show y∈its by simpa using hy);obtain⟨t',e'⟩:=at_ i hi;rw[e'];exact MeetsSeq.EqGives.int _ _ _ _
 .obtain⟨t',e'⟩:=at_ (ns.idxOf z) (by lia);have e2:its.toArray[ns.idxOf z]'(by simpa [dq] using hj)=its[ns.idxOf z]'(by lia):=by simp
  rw[e2,e'];show (ns[ns.idxOf z]==z)=true;rw[List.getElem_idxOf];simp
 .obtain⟨t',e'⟩:=at_ m (by simpa using hm);have e2:its.toArray[m]=its[m]'(by simpa using hm):=by simp
  rw[e2,e'];show (ns[m]==z)=false;have:=List.not_of_lt_findIdx (p:=(·==z)) (xs:=ns) (i:=m) e_;simpa using this
 .refine⟨.b_,_,I.Gi (its':=its.eraseIdx (ns.idxOf z)) hH e ?_ ?_ ?_,rfl,q⟩
  .show its.toArray.eraseIdxIfInBounds _=_;rw[CF]
  .have em:∀ (l:List Int) (j:Nat),(l.eraseIdx j).map V.int=(l.map V.int).eraseIdx j:=by
    intro l;induction l with
    |nil=>intro j;rfl
    |cons y l ih=>
     intro j;cases j with
     |zero=>rfl
     |succ j=>simp only[List.eraseIdx_cons_succ,eE,ih]
   rw[em];exact r.eraseIdx _
  .rw[aO,List.length_eraseIdx];rw[aO] at zz;split <;> lia
end
structure cX(P:Program)(w:World)(K:PySem.W.Frag)(mg:Str->Option Value)(base:Heap)(CX:w_)(k:Nat)(x:Str)(ps:List Str)(sp:Sp):Prop where
 ex:∃f fd,mg x=some (.ref f)/\PySem.W.keepIn K (.ref f)=true/\jL K fd ps []/\bY P w K mg base CX k f fd ps sp
theorem aL(C:cX X.prog X.w X.K X.mg X.base CX k x ps sp)(hr:dk k X.A)(hx:k9 CX X E)(ha:PA X (e::es) t)(hg:Gl X x:=by rfl)(Da:(x==("__debug__":Str))=false:=by decide)(he:starEach (e::es) X.env=(false,eval e X.env)::starEach es X.env:=by rfl)(Cq:(backTo pos (starEach es X.env)).any (·.1)=false:=by rfl):
  PE X (.Call (.Name x p) (e::es) [] pos) (oA sp [] E t):=by
 obtain⟨f,fd,a,b,c,d⟩:=C.ex;exact Gc d hr hg a b c .nil hx ha Da he Cq
theorem ai(h:H D=none):aG H (upd H D o):=fun b u e=>by rw[aj (ak e h)];exact e
def au(p:Addr)(H H':Hp):Prop:=∀b o,H b=some o->b≠p->H' b=some o
theorem au.refl:au p H H:=fun _ _ h _=>h
theorem au.trans(a:au p H H1)(b:au p H1 H2):au p H H2:=fun c o h n=>b c o (a c o h n) n
theorem au.upd:au p H (upd H p o):=fun b u h n=>by rw[aj n];exact h
theorem au.of(s:aG H H'):au p H H':=fun b o h _=>s b o h
theorem au.free(s:au p H H')(hp:H' p≠none)(h:H' q=none):H q=none:=by
 cases z:H q with
 |none=>rfl
 |some o=>
  by_cases e:q=p
  .subst e;exact absurd h hp
  .rw[s q o z e] at h;cases h
theorem de(h:j<n):Df n (j:Int)=some j:=by
 unfold Df;rw[am (by lia),am (by lia)];simp
theorem BH(h:as.length=n):(as++[t]).getD j 0=if j=n then t else as.getD j 0:=by
 rw[bb,bb];by_cases hj:j=n
 .subst hj;subst h;rw[am rfl,jq (aU _),ir];rfl
 .rw[aA hj];by_cases e_:j<as.length
  .rw[h9 e_]
  .rw[jq (by lia),dG (by simp;lia),dG (by lia)]
def Holds(H:Hp)(as:List Addr)(n:Nat)(o:Nat->HO):Prop:=as.length=n/\∀j,j<n->H (as.getD j 0)=some (o j)
theorem Holds.nil:Holds H [] 0 o:=⟨rfl,fun j hj=>absurd hj (by lia)⟩
theorem Holds.snoc(h:Holds H as n o)(ht:H t=some (o n)):Holds H (as++[t]) (n+1) o:=by
 refine⟨by rw[cF,h.1];rfl,fun j hj=>?_⟩;rw[BH h.1];by_cases e:j=n
 .rw[am e,e];exact ht
 .rw[aA e];exact h.2 j (by lia)
theorem Holds.mono(h:Holds H as n o)(e:∀j,j<n->H (as.getD j 0)=some (o j)->H' (as.getD j 0)=some (o j)):Holds H' as n o:=⟨h.1,fun j hj=>e j hj (h.2 j hj)⟩
end L2
namespace PyProof.Rows
open PySem
def ij:Bool->Keyed->Array Keyed->Nat->Nat->Nat->StateT SortSt Sem (Option Nat):=sortPriv% PySem.Builtin.gallop
def qG:Array Keyed->Array Keyed->StateT SortSt Sem (Array Keyed):=sortPriv% PySem.Builtin.mergeLo
def qH:Array Keyed->Array Keyed->StateT SortSt Sem (Array Keyed):=sortPriv% PySem.Builtin.mergeHi
def iy:Nat->StateT SortSt Sem Unit:=sortPriv% PySem.Builtin.setMinGallop
def wc(prog:Program)(w:World)(A:Around)(s:Shared)(κ:SortKind)(a₀:Array Keyed):Prop:=
 ∀x y,x∈a₀.toList->y∈a₀.toList->∀ (Q:Bool->Shared->Prop) (E:Value->Shared->Prop),(∀b,Q b s)->wpAny (model prog w) A (keyLt' κ x.1 y.1) Q E s
structure SQ(κ:SortKind)(a₀:Array Keyed)(pd:Array (Nat×Nat×Nat))(st:SortSt):Prop where
 perm:(arrOf st).Perm a₀
 kind:kindOf st=κ
 failed:failedOf st=none
 pend:pendingOf st=pd
section
variable {prog:Program} {w:World} {A:Around} {E:Value->Shared->Prop} {s:Shared} {κ:SortKind} {a₀:Array Keyed} {pd:Array (Nat×Nat×Nat)}
theorem SQ.size{st:SortSt}(h:SQ κ a₀ pd st):(arrOf st).size=a₀.size:=h.perm.size_eq
theorem SQ.setArr{st:SortSt}(h:SQ κ a₀ pd st){xs:Array Keyed}(hp:xs.Perm (arrOf st)):SQ κ a₀ pd (setArr st xs):=⟨hp.trans h.perm,h.kind,h.failed,h.pend⟩
theorem SQ.at{st:SortSt}(h:SQ κ a₀ pd st){i:Nat}(hi:i<a₀.size):∃p,(arrOf st)[i]?=some p/\p∈a₀.toList:=by
 have rE:i<(arrOf st).size:=by rw[h.size];exact hi
 exact⟨(arrOf st)[i],dw _ i rE,(lD.mp h.perm).mem_iff.mp (by simp)⟩
theorem qI{st:SortSt}{x y:Keyed}{Q:Option Bool->SortSt->Prop}(hC:wc prog w A s κ a₀)(hk:kindOf st=κ)(hx:x∈a₀.toList)(hy:y∈a₀.toList)(h:∀b,Q (some b) st):wpS (model prog w) A E s (lt' x y) Q st:=by
 rw[lt'_eq];refine aB (gW ?_);rw[hk];refine aB (k4 (ub (hC x y hx hy _ _ fun b=>⟨rfl,?_⟩)));exact aV (h b)
theorem bC{st:SortSt}{arr:Array Keyed}{i:Nat}{p:Keyed}{Q:Keyed->SortSt->Prop}(hi:arr[i]?=some p)(h:Q p st):wpS (model prog w) A E s (elem' arr i) Q st:=by
 rw[elem'_eq,hi];exact aV h
theorem fk{st:SortSt}{i j:Nat}{Q:Option Bool->SortSt->Prop}(hC:wc prog w A s κ a₀)(hB:SQ κ a₀ pd st)(hi:i<a₀.size)(hj:j<a₀.size)(h:∀b,Q (some b) st):wpS (model prog w) A E s (ltAt' i j) Q st:=by
 obtain⟨p,e1,m1⟩:=hB.at hi;obtain⟨q,e2,m2⟩:=hB.at hj;rw[ltAt'_eq];refine aB (gW ?_);exact aB (bC e1 (aB (bC e2 (qI hC hB.kind m1 m2 h))))
theorem gK{st:SortSt}{i j:Nat}{Q:Unit->SortSt->Prop}(hB:SQ κ a₀ pd st)(h:∀bj,SQ κ a₀ pd bj->Q () bj):wpS (model prog w) A E s (reverseSlice' i j) Q st:=by
 rw[reverseSlice'_eq];exact gn (h _ (hB.setArr (mirror_perm _ _ _ _)))
theorem DP{st:SortSt}{i j:Nat}{Q:Unit->SortSt->Prop}(hB:SQ κ a₀ pd st)(h:∀bj,SQ κ a₀ pd bj->Q () bj):wpS (model prog w) A E s (moveDown' i j) Q st:=by
 rw[moveDown'_eq];exact gn (h _ (hB.setArr (bubble_perm _ _ _)))
theorem GD{st:SortSt}{lo n ok:Nat}{Q:Bool->SortSt->Prop}(hC:wc prog w A s κ a₀)(hn:lo+n<=a₀.size)(hB:SQ κ a₀ pd st)(h:∀bj,SQ κ a₀ pd bj->Q true bj):wpS (model prog w) A E s (binarySort' lo n ok) Q st:=by
 rw[binarySort'_eq];refine aB (dP (fL (I:=fun _ c bj=>c=(none,())/\SQ κ a₀ pd bj) (Q:=fun c bj=>c=(none,())/\SQ κ a₀ pd bj) ?_ (fun c bj hh=>hh) ⟨rfl,hB⟩) ?_)
 .rintro k c bj hk1 TJ ⟨rfl,TL⟩;dsimp only;refine aB (dP (fL (I:=fun _ c KU=>(∃l r,c=(none,l,r)/\r<=k)/\SQ κ a₀ pd KU) (Q:=fun c KU=>(∃l r,c=(none,l,r)/\r<=k)/\SQ κ a₀ pd KU) ?_ (fun c bj hh=>hh) ⟨⟨_,_,rfl,aU _⟩,TL⟩) ?_)
  .rintro x c rm _ _ ⟨⟨l,r,rfl,hr⟩,rF⟩;dsimp only;by_cases An:l>=r
   .rw[am An];exact aV ⟨⟨_,_,rfl,hr⟩,rF⟩
   .rw[aA An];refine aB (fk hC rF (by lia) (by lia) fun b=>?_);cases b
    .exact aV ⟨⟨_,_,rfl,hr⟩,rF⟩
    .exact aV ⟨⟨_,_,rfl,by lia⟩,rF⟩
  .rintro c rm ⟨⟨l,r,rfl,hr⟩,rF⟩;dsimp only;exact aB (DP rF fun yq o0=>aV ⟨rfl,o0⟩)
 .rintro c bj ⟨rfl,TL⟩;exact aV (h bj TL)
end
theorem yW(left:Bool)(key:Keyed)(arr:Array Keyed)(base n lh:Nat):ij left key arr base n lh=(do
 let uI (i:Nat):StateT SortSt Sem (Option Bool):=do
  let x <- elem' arr (base+i)
  if left then lt' x key else return (<-lt' key x).map (!·)
 let mut lastofs:=0
 let mut ofs:=1
 let mut lo:=0
 let mut hi:=0
 let some right <- uI lh|return none
 if right then
  let qJ:=n-lh
  for _ in [0:n] do
   if ofs>=qJ then break
   let some more <- uI (lh+ofs)|return none
   if !more then break
   lastofs:=ofs
   ofs:=2*ofs+1
  lo:=lh+lastofs+1
  hi:=lh+min ofs qJ
 else
  let qJ:=lh+1
  for _ in [0:n] do
   if ofs>=qJ then break
   let some DQ <- uI (lh-ofs)|return none
   if DQ then break
   lastofs:=ofs
   ofs:=2*ofs+1
  lo:=lh+1-min ofs qJ
  hi:=lh-lastofs
 for _ in [0:n] do
  if lo>=hi then break
  let m:=lo+(hi-lo) / 2
  let some more <- uI m|return none
  if more then lo:=m+1 else hi:=m
 return some hi):=rfl
section
variable {prog:Program} {w:World} {A:Around} {E:Value->Shared->Prop} {s:Shared} {κ:SortKind} {a₀:Array Keyed} {pd:Array (Nat×Nat×Nat)}
theorem g8{st:SortSt}{left:Bool}{key:Keyed}{arr:Array Keyed}{j:Nat}{Q:Option Bool->SortSt->Prop}(hC:wc prog w A s κ a₀)(hk:kindOf st=κ)(rp:key∈a₀.toList)(re:∀x∈arr.toList,x∈a₀.toList)(hj:j<arr.size)(h:∀b,Q (some b) st):
  wpS (model prog w) A E s (do
  let x <- elem' arr j
  if left then lt' x key else return (<-lt' key x).map (!·)) Q st:=by
 have hm:arr[j]∈a₀.toList:=re _ (by simp);refine aB (bC (dw arr j hj) ?_);cases left
 .rw[aA (by decide)];exact aB (qI hC hk rp hm fun b=>aV (h (!b)))
 .rw[am rfl];exact qI hC hk hm rp h
theorem fY{st:SortSt}{left:Bool}{key:Keyed}{arr:Array Keyed}{base n lh:Nat}{Q:Option Nat->SortSt->Prop}(hC:wc prog w A s κ a₀)(hk:kindOf st=κ)(rp:key∈a₀.toList)(re:∀x∈arr.toList,x∈a₀.toList)(hn:base+n<=arr.size)(hh:lh<n)(h:∀k,k<=n->Q (some k) st):wpS (model prog w) A E s (ij left key arr base n lh) Q st:=by
 rw[yW];refine aB (g8 hC hk rp re (by lia) fun right=>?_);cases right
 .dsimp only;rw[aA (by decide)];refine aB (dP (fL (I:=fun _ c bj=>(∃l o,c=(none,l,o))/\st=bj) (Q:=fun c bj=>(∃l o,c=(none,l,o))/\st=bj) ?_ (fun c bj hh=>hh) ⟨⟨_,_,rfl⟩,rfl⟩) ?_)
  .rintro x c bj _ _ ⟨⟨l,o,rfl⟩,rfl⟩;dsimp only;by_cases An:o>=lh+1
   .rw[am An];exact aV ⟨⟨_,_,rfl⟩,rfl⟩
   .rw[aA An];refine aB (g8 hC hk rp re (by lia) fun DQ=>?_);cases DQ
    .exact aV ⟨⟨_,_,rfl⟩,rfl⟩
    .exact aV ⟨⟨_,_,rfl⟩,rfl⟩
  .rintro c bj ⟨⟨l,o,rfl⟩,rfl⟩;dsimp only;refine aB (dP (fL (I:=fun _ c bj=>(∃l u,c=(none,l,u)/\u<=n)/\st=bj) (Q:=fun c bj=>(∃l u,c=(none,l,u)/\u<=n)/\st=bj) ?_ (fun c bj hh=>hh) ⟨⟨_,_,rfl,by lia⟩,rfl⟩) ?_)
   .rintro x c bj _ _ ⟨⟨l,u,rfl,hu⟩,rfl⟩;dsimp only;by_cases An:l>=u
    .rw[am An];exact aV ⟨⟨_,_,rfl,hu⟩,rfl⟩
    .rw[aA An];refine aB (g8 hC hk rp re (by lia) fun more=>?_);cases more
     .exact aV ⟨⟨_,_,rfl,by lia⟩,rfl⟩
     .exact aV ⟨⟨_,_,rfl,hu⟩,rfl⟩
   .rintro c bj ⟨⟨l,u,rfl,hu⟩,rfl⟩;exact aV (h u hu)
 .dsimp only;rw[am rfl];refine aB (dP (fL (I:=fun _ c bj=>(∃l o,c=(none,l,o))/\st=bj) (Q:=fun c bj=>(∃l o,c=(none,l,o))/\st=bj) ?_ (fun c bj hh=>hh) ⟨⟨_,_,rfl⟩,rfl⟩) ?_)
  .rintro x c bj _ _ ⟨⟨l,o,rfl⟩,rfl⟩;dsimp only;by_cases An:o>=n-lh
   .rw[am An];exact aV ⟨⟨_,_,rfl⟩,rfl⟩
   .rw[aA An];refine aB (g8 hC hk rp re (by lia) fun more=>?_);cases more
    .exact aV ⟨⟨_,_,rfl⟩,rfl⟩
    .exact aV ⟨⟨_,_,rfl⟩,rfl⟩
  .rintro c bj ⟨⟨l,o,rfl⟩,rfl⟩;dsimp only;refine aB (dP (fL (I:=fun _ c bj=>(∃l u,c=(none,l,u)/\u<=n)/\st=bj) (Q:=fun c bj=>(∃l u,c=(none,l,u)/\u<=n)/\st=bj) ?_ (fun c bj hh=>hh) ⟨⟨_,_,rfl,by lia⟩,rfl⟩) ?_)
   .rintro x c bj _ _ ⟨⟨l,u,rfl,hu⟩,rfl⟩;dsimp only;by_cases An:l>=u
    .rw[am An];exact aV ⟨⟨_,_,rfl,hu⟩,rfl⟩
    .rw[aA An];refine aB (g8 hC hk rp re (by lia) fun more=>?_);cases more
     .exact aV ⟨⟨_,_,rfl,by lia⟩,rfl⟩
     .exact aV ⟨⟨_,_,rfl,hu⟩,rfl⟩
   .rintro c bj ⟨⟨l,u,rfl,hu⟩,rfl⟩;exact aV (h u hu)
end
structure SM(κ:SortKind)(ar:Array Keyed)(pd:Array (Nat×Nat×Nat))(st:SortSt):Prop where
 arr:arrOf st=ar
 kind:kindOf st=κ
 failed:failedOf st=none
 pend:pendingOf st=pd
abbrev o3:=Option (Array Keyed)
abbrev sw:=StateT SortSt Sem
def wd{τ:Type}(c:Bool)(d:Prop)[Decidable d](r:Array Keyed)(t:τ):sw (ForInStep (o3×τ)):=if c then pure (.done (some r,t)) else if d then pure (.done (none,t)) else pure (.yield (none,t))
def Wn{α β γ:Type}(N:Nat)(f:Nat->o3×α×β×γ×Nat×Nat->sw (ForInStep (o3×α×β×γ×Nat×Nat)))(g:o3×α×β×γ×Nat×Nat×Nat->sw (ForInStep (o3×α×β×γ×Nat×Nat×Nat)))(s:o3×α×β×γ×Nat):sw (ForInStep (o3×α×β×γ×Nat)):=do
 let t <- forIn [0:N] ((none,s.2.1,s.2.2.1,s.2.2.2.1,0,0):o3×α×β×γ×Nat×Nat) fun _ t=>f s.2.2.2.2 t
 match t.1 with
 |some r=>pure (.done (some r,t.2.1,t.2.2.1,t.2.2.2.1,s.2.2.2.2))
 |none=>do
  liftM (rule "list.sort.gallop")
  let u <- forIn [0:N] ((none,t.2.1,t.2.2.1,t.2.2.2.1,s.2.2.2.2+1,t.2.2.2.2.1,t.2.2.2.2.2):o3×α×β×γ×Nat×Nat×Nat) fun _ u=>g u
  match u.1 with
  |some r=>pure (.done (some r,u.2.1,u.2.2.1,u.2.2.2.1,u.2.2.2.2.1))
  |none=>do
   iy (u.2.2.2.2.1+1)
   pure (.yield (none,u.2.1,u.2.2.1,u.2.2.2.1,u.2.2.2.2.1+1))
def Rv{α β γ:Type}(N:Nat)(f:Nat->o3×α×β×γ×Nat×Nat->sw (ForInStep (o3×α×β×γ×Nat×Nat)))(g:o3×α×β×γ×Nat×Nat×Nat->sw (ForInStep (o3×α×β×γ×Nat×Nat×Nat)))(x:α)(y:β)(z:γ):sw (Array Keyed):=do
 let st <- get
 let s <- forIn [0:N] ((none,x,y,z,gallopOf st):o3×α×β×γ×Nat) fun _ s=>Wn N f g s
 match s.1 with
 |some r=>pure r
 |none=>liftM (unsupported "internal:list.sort.merge-bound")
section
variable {prog:Program} {w:World} {A:Around} {E:Value->Shared->Prop} {s:Shared} {κ:SortKind} {a₀:Array Keyed} {pd:Array (Nat×Nat×Nat)} {ar:Array Keyed} {F:Array Keyed->Prop}
def GP{τ:Type}(κ:SortKind)(ar:Array Keyed)(pd:Array (Nat×Nat×Nat))(F:Array Keyed->Prop)(D J:τ->Prop)(r:ForInStep (o3×τ))(st:SortSt):Prop:=SM κ ar pd st/\
 ((∃x t,r=.done (some x,t)/\F x)\/(∃t,r=.done (none,t)/\D t)\/∃t,r=.yield (none,t)/\J t)
theorem fm{τ:Type}{D J:τ->Prop}{st:SortSt}{x:Array Keyed}{t:τ}(m:SM κ ar pd st)(h:F x):wpS (model prog w) A E s (pure (.done (some x,t))) (GP κ ar pd F D J) st:=aV ⟨m,.inl ⟨_,_,rfl,h⟩⟩
theorem iH{τ:Type}{D J:τ->Prop}{c:Bool}{d:Prop}[Decidable d]{r:Array Keyed}{t:τ}{st:SortSt}(m:SM κ ar pd st)(h1:c=true->F r)(h2:c=false->D t/\J t):wpS (model prog w) A E s (wd c d r t) (GP κ ar pd F D J) st:=by
 unfold wd;cases c
 .rw[aA cp];split
  .exact aV ⟨m,.inr (.inl ⟨_,rfl,(h2 rfl).1⟩)⟩
  .exact aV ⟨m,.inr (.inr ⟨_,rfl,(h2 rfl).2⟩)⟩
 .rw[am rfl];exact fm m (h1 rfl)
theorem nN{τ:Type}{D:τ->Prop}{J:Nat->τ->Prop}{N:Nat}{f:o3×τ->sw (ForInStep (o3×τ))}{t:τ}{st:SortSt}{Q:o3×τ->SortSt->Prop}(m:SM κ ar pd st)(hJ:J 0 t)(up:∀t,J N t->D t)(b:∀t st,SM κ ar pd st->∀i,J i t->wpS (model prog w) A E s (f (none,t)) (GP κ ar pd F D (J (i+1))) st)(h1:∀x t bj,SM κ ar pd bj->F x->Q (some x,t) bj)(h2:∀t bj,SM κ ar pd bj->D t->Q (none,t) bj):wpS (model prog w) A E s (forIn [0:N] ((none,t):o3×τ) fun _ c=>f c) Q st:=by
 refine fL (I:=fun i c bj=>c.1=none/\SM κ ar pd bj/\J i c.2) ?_ ?_ ⟨rfl,m,hJ⟩
 .rintro i ⟨_,t⟩ bj _ _ ⟨rfl,m',j⟩;refine dP (b t bj m' i j) ?_;rintro r rm ⟨m2,⟨x,t,rfl,h⟩|⟨t,rfl,h⟩|⟨t,rfl,h⟩⟩
  .exact h1 _ _ _ m2 h
  .exact h2 _ _ m2 h
  .exact⟨rfl,m2,h⟩
 .rintro⟨_,t⟩ bj ⟨rfl,m',j⟩;rw[Nat.max_eq_right (dh _)] at j;exact h2 _ _ m' (up _ j)
theorem Ao{α β γ:Type}{N:Nat}{f:Nat->o3×α×β×γ×Nat×Nat->sw (ForInStep (o3×α×β×γ×Nat×Nat))}{g:o3×α×β×γ×Nat×Nat×Nat->sw (ForInStep (o3×α×β×γ×Nat×Nat×Nat))}{x:α}{y:β}{z:γ}{J:Nat->α->β->γ->Prop}{st:SortSt}{Q:Array Keyed->SortSt->Prop}(m:SM κ ar pd st)(h0:J 0 x y z)(dn:∀i k x y z,J (i+k) x y z->J i x y z)(no:∀x y z,¬ J N x y z)(N1:1<=N)(hf:∀mg n k x y z p st,SM κ ar pd st->J (n+k) x y z->wpS (model prog w) A E s (f mg (none,x,y,z,p)) (GP κ ar pd F (fun t=>J (n+1) t.1 t.2.1 t.2.2.1) fun t=>J (n+(k+1)) t.1 t.2.1 t.2.2.1) st)(hg:∀n x y z p st,SM κ ar pd st->J n x y z->wpS (model prog w) A E s (g (none,x,y,z,p)) (GP κ ar pd F (fun t=>J n t.1 t.2.1 t.2.2.1) fun t=>J n t.1 t.2.1 t.2.2.1) st)(h:∀x bj,F x->SM κ ar pd bj->Q x bj):wpS (model prog w) A E s (Rv N f g x y z) Q st:=by
 unfold Rv;refine aB (gW ?_);refine aB (nN (F:=F) (D:=fun _=>False) (J:=fun n (t:α×β×γ×Nat)=>J n t.1 t.2.1 t.2.2.1) m h0 (fun t h=>no _ _ _ h) ?_ (fun x t st m hx=>aV (h _ _ hx m)) fun t st m j=>j.elim);intro t st m i j;unfold Wn;refine aB (nN (F:=F) (D:=fun t=>J (i+1) t.1 t.2.1 t.2.2.1) (J:=fun n (t:α×β×γ×Nat×Nat)=>J (i+n) t.1 t.2.1 t.2.2.1) m j (fun t h=>dn _ (N-1) _ _ _ (by rw[show i+1+(N-1)=i+N by lia];exact h)) (fun t st m n j=>hf _ _ _ _ _ _ _ _ m j) (fun x t st m hx=>fm m hx) ?_);intro t st m j;refine aB (k4 (gm ⟨rfl,?_⟩));refine aB (nN (F:=F) (D:=fun t=>J (i+1) t.1 t.2.1 t.2.2.1) (J:=fun n (t:α×β×γ×Nat×Nat×Nat)=>J (i+1) t.1 t.2.1 t.2.2.1) m j (fun _ h=>h) (fun t st m n j=>hg _ _ _ _ _ _ m j) (fun x t st m hx=>fm m hx) ?_);intro t st m j;refine aB (gn ?_);exact aV ⟨⟨m.arr,m.kind,m.failed,m.pend⟩,.inr (.inr ⟨_,rfl,j⟩)⟩
end
abbrev jS(a b out:Array Keyed)(ia ib:Nat):=out++a.extract ia a.size++b.extract ib b.size
abbrev uJ(a b out:Array Keyed)(ia ib:Nat):=out++b.extract ib b.size++a.extract ia a.size
abbrev Jt ρ:=o3×Array Keyed×Nat×Nat×ρ
def Wo(a b:Array Keyed)(mg:Nat)(t:Jt (Nat×Nat)):sw (ForInStep (Jt (Nat×Nat))):=do
 let x <- elem' b t.2.2.2.1
 let y <- elem' a t.2.2.1
 let some w <- lt' x y|pure (.done (some (jS a b t.2.1 t.2.2.1 t.2.2.2.1),t.2.1,t.2.2.1,t.2.2.2.1,t.2.2.2.2.1,t.2.2.2.2.2))
 if w then do
  let x <- elem' b t.2.2.2.1
  wd (t.2.2.2.1+1==b.size) (t.2.2.2.2.2+1>=mg) (jS a b (t.2.1.push x) t.2.2.1 (t.2.2.2.1+1)) (t.2.1.push x,t.2.2.1,t.2.2.2.1+1,0,t.2.2.2.2.2+1)
 else do
  let x <- elem' a t.2.2.1
  wd (t.2.2.1+1+1==a.size) (t.2.2.2.2.1+1>=mg) (uJ a b (t.2.1.push x) (t.2.2.1+1) t.2.2.2.1) (t.2.1.push x,t.2.2.1+1,t.2.2.2.1,t.2.2.2.2.1+1,0)
def TM(a b out:Array Keyed)(ia ib mg ac bc:Nat):sw (ForInStep (Jt (Nat×Nat×Nat))):=do
 let x <- elem' a ia
 wd (ia+1+1==a.size) ((ac<7&&bc<7)=true) (uJ a b (out.push x) (ia+1) ib) (out.push x,ia+1,ib,mg,ac,bc)
def TN(a b out:Array Keyed)(ia ib mg ac bc:Nat):sw (ForInStep (Jt (Nat×Nat×Nat))):=do
 let x <- elem' b ib
 if ib+1==b.size then pure (.done (some (jS a b (out.push x) ia (ib+1)),out.push x,ia,ib+1,mg,ac,bc))
 else do
  let y <- elem' a ia
  let some k <- ij true y b (ib+1) (b.size-(ib+1)) 0|pure (.done (some (jS a b (out.push x) ia (ib+1)),out.push x,ia,ib+1,mg,ac,bc))
  if k > 0 then
   if ib+1+k==b.size then pure (.done (some (jS a b (out.push x++b.extract (ib+1) (ib+1+k)) ia (ib+1+k)),out.push x++b.extract (ib+1) (ib+1+k),ia,ib+1+k,mg,ac,k))
   else TM a b (out.push x++b.extract (ib+1) (ib+1+k)) ia (ib+1+k) mg ac k
  else TM a b (out.push x) ia (ib+1) mg ac k
def TQ(a b out:Array Keyed)(ia ib mg ac bc:Nat):sw (ForInStep (Jt (Nat×Nat×Nat))):=do
 iy mg
 let y <- elem' b ib
 let some k <- ij false y a ia (a.size-ia) 0|pure (.done (some (jS a b out ia ib),out,ia,ib,mg,ac,bc))
 if k > 0 then
  if ia+k+1==a.size then pure (.done (some (uJ a b (out++a.extract ia (ia+k)) (ia+k) ib),out++a.extract ia (ia+k),ia+k,ib,mg,k,bc))
  else if ia+k==a.size then pure (.done (some (jS a b (out++a.extract ia (ia+k)) (ia+k) ib),out++a.extract ia (ia+k),ia+k,ib,mg,k,bc))
  else TN a b (out++a.extract ia (ia+k)) (ia+k) ib mg k bc
 else TN a b out ia ib mg k bc
def Wp(a b:Array Keyed)(t:Jt (Nat×Nat×Nat)):sw (ForInStep (Jt (Nat×Nat×Nat))):=
 if t.2.2.2.2.1 > 1 then TQ a b t.2.1 t.2.2.1 t.2.2.2.1 (t.2.2.2.2.1-1) t.2.2.2.2.2.1 t.2.2.2.2.2.2 else TQ a b t.2.1 t.2.2.1 t.2.2.2.1 t.2.2.2.2.1 t.2.2.2.2.2.1 t.2.2.2.2.2.2
theorem we(a b:Array Keyed):qG a b=(do
 liftM (rule "list.sort.merge-lo")
 let x <- elem' b 0
 if 1==b.size then pure (jS a b #[x] 0 1) else if 0+1==a.size then pure (uJ a b #[x] 0 1) else Rv (a.size+b.size) (Wo a b) (Wp a b) #[x] 0 1):=by kernel_rfl
def PI(a b out:Array Keyed)(ia ib:Nat):Prop:=out.toList.Perm (a.toList.take ia++b.toList.take ib)
theorem g9{l:List Keyed}{i:Nat}(h:i<l.length):l.take (i+1)=l.take i++[l[i]]:=by rw[eC,bO h];rfl
theorem PI.sA{a b out:Array Keyed}{ia ib:Nat}(h:PI a b out ia ib)(hi:ia<a.size):PI a b (out.push a[ia]) (ia+1) ib:=by
 unfold PI at h |-;rw[mR,g9 (by simpa using hi),cP];refine(h.append_right _).trans ?_;rw[cP];refine kD _ ?_;have:a.toList[ia]'(by simpa using hi)=a[ia]:=by simp
 rw[this];exact iB
theorem PI.sB{a b out:Array Keyed}{ia ib:Nat}(h:PI a b out ia ib)(hi:ib<b.size):PI a b (out.push b[ib]) ia (ib+1):=by
 unfold PI at h |-;rw[mR,g9 (by simpa using hi),<-cP];have:b.toList[ib]'(by simpa using hi)=b[ib]:=by simp
 rw[this];exact h.append_right _
theorem d5{a:Array Keyed}{i j:Nat}:(a.extract i j).toList=(a.toList.drop i).take (j-i):=by
 rw[xH,List.extract_eq_take_drop]
theorem PI.BI{a b out:Array Keyed}{ia ib:Nat}(h:PI a b out ia ib)(k:Nat):PI a b (out++a.extract ia (ia+k)) (ia+k) ib:=by
 unfold PI at h |-;rw[eU,d5,Nat.add_sub_cancel_left,List.take_add,cP];refine(h.append_right _).trans ?_;rw[cP];exact kD _ iB
theorem PI.BJ{a b out:Array Keyed}{ia ib:Nat}(h:PI a b out ia ib)(k:Nat):PI a b (out++b.extract ib (ib+k)) ia (ib+k):=by
 unfold PI at h |-;rw[eU,d5,Nat.add_sub_cancel_left,List.take_add,<-cP];exact h.append_right _
theorem PI.done{a b out:Array Keyed}{ia ib:Nat}(h:PI a b out ia ib):(out++a.extract ia a.size++b.extract ib b.size).Perm (a++b):=by
 rw[lD];unfold PI at h;rw[eU,eU,eU,d5,d5];have e1:(a.toList.drop ia).take (a.size-ia)=a.toList.drop ia:=pW (by simp);have e2:(b.toList.drop ib).take (b.size-ib)=b.toList.drop ib:=pW (by simp);rw[e1,e2];refine((h.append_right _).append_right _).trans ?_;conv=>rhs;rw[<-oq ia a.toList,<-oq ib b.toList]
 rw[cP,cP,cP];refine kD _ ?_;rw[<-cP,<-cP];exact xB _ iB
theorem PI.last{a b out:Array Keyed}{ia ib:Nat}(h:PI a b out ia ib):(out++b.extract ib b.size++a.extract ia a.size).Perm (a++b):=by
 refine Array.Perm.trans ?_ h.done;rw[lD];rw[eU,eU,eU,eU,cP,cP];exact kD _ iB
section
variable {prog:Program} {w:World} {A:Around} {E:Value->Shared->Prop} {s:Shared} {κ:SortKind} {a₀:Array Keyed} {pd:Array (Nat×Nat×Nat)} {ar:Array Keyed} {a b out:Array Keyed} {ia ib mg ac bc n:Nat} {st:SortSt}
def JL(a b:Array Keyed)(n:Nat)(out:Array Keyed)(ia ib:Nat):Prop:=PI a b out ia ib/\ia+1<a.size/\ib<b.size/\n<=ia+ib
abbrev GL{ρ:Type}(κ:SortKind)(ar:Array Keyed)(pd:Array (Nat×Nat×Nat))(a b:Array Keyed)(n m:Nat):ForInStep (Jt ρ)->SortSt->Prop:=GP κ ar pd (fun x=>x.Perm (a++b)) (fun t=>JL a b n t.1 t.2.1 t.2.2.1) fun t=>JL a b m t.1 t.2.1 t.2.2.1
theorem Ap(hB:SM κ ar pd st)(h:JL a b n out ia ib):wpS (model prog w) A E s (TM a b out ia ib mg ac bc) (GL κ ar pd a b n n) st:=by
 obtain⟨p,la,lb,li⟩:=h;refine aB (bC (dw a ia (by lia)) ?_);have p:=p.sA (show ia<a.size by lia);refine iH hB (fun _=>p.last) fun f=>?_;have g:=mX f;have j:JL a b n (out.push a[ia]) (ia+1) ib:=⟨p,by lia,lb,by lia⟩
 exact⟨j,j⟩
theorem Aq(hC:wc prog w A s κ a₀)(ha:∀x∈a.toList,x∈a₀.toList)(hb:∀x∈b.toList,x∈a₀.toList)(hB:SM κ ar pd st)(h:JL a b n out ia ib):wpS (model prog w) A E s (TN a b out ia ib mg ac bc) (GL κ ar pd a b n n) st:=by
 obtain⟨p,la,lb,li⟩:=h;refine aB (bC (dw b ib lb) ?_);have p:=p.sB lb;split
 .exact fm hB p.done
 next f=>
 have g:ib+1≠b.size:=by simpa using f
 refine aB (bC (dw a ia (by lia)) ?_);refine aB (fY hC hB.kind (ha _ (by simp)) hb (by lia) (by lia) fun k hk=>?_);dsimp only;split
 .split
  .exact fm hB (p.BJ k).done
  next f=>
  have g:ib+1+k≠b.size:=by simpa using f
  exact Ap hB ⟨p.BJ k,la,by lia,by lia⟩
 .exact Ap hB ⟨p,la,by lia,by lia⟩
theorem GE(hC:wc prog w A s κ a₀)(ha:∀x∈a.toList,x∈a₀.toList)(hb:∀x∈b.toList,x∈a₀.toList)(hB:SM κ ar pd st)(h:JL a b n out ia ib):wpS (model prog w) A E s (TQ a b out ia ib mg ac bc) (GL κ ar pd a b n n) st:=by
 obtain⟨p,la,lb,li⟩:=h;refine aB (gn ?_);refine aB (bC (dw b ib lb) ?_);have rF:SM κ ar pd (SortSt.mk' (kindOf st) (arrOf st) (pendingOf st) mg (failedOf st)):=⟨hB.arr,hB.kind,hB.failed,hB.pend⟩
 refine aB (fY hC rF.kind (hb _ (by simp)) ha (by lia) (by lia) fun k hk=>?_);dsimp only;split
 .split
  .exact fm rF (p.BI k).last
  next f=>
  split
  .exact fm rF (p.BI k).done
  next f'=>
  have g:ia+k+1≠a.size:=by simpa using f
  have g':ia+k≠a.size:=by simpa using f'
  exact Aq hC ha hb rF ⟨p.BI k,by lia,lb,by lia⟩
 .exact Aq hC ha hb rF ⟨p,la,lb,li⟩
theorem GJ{k:Nat}(hC:wc prog w A s κ a₀)(ha:∀x∈a.toList,x∈a₀.toList)(hb:∀x∈b.toList,x∈a₀.toList)(hB:SM κ ar pd st)(h:JL a b (n+k) out ia ib){q:Nat×Nat}:wpS (model prog w) A E s (Wo a b mg (none,out,ia,ib,q)) (GL κ ar pd a b (n+1) (n+(k+1))) st:=by
 obtain⟨p,la,lb,li⟩:=h;refine aB (bC (dw b ib lb) (aB (bC (dw a ia (by lia)) (aB (qI hC hB.kind (hb _ (by simp)) (ha _ (by simp)) fun w=>?_)))));cases w
 .refine aB (bC (dw a ia (by lia)) ?_);have p:=p.sA (show ia<a.size by lia);refine iH hB (fun _=>p.last) fun f=>?_;have g:=mX f;exact⟨⟨p,by dsimp only;lia,lb,by dsimp only;lia⟩,p,by dsimp only;lia,lb,by dsimp only;lia⟩
 .refine aB (bC (dw b ib lb) ?_);have p:=p.sB lb;refine iH hB (fun _=>p.done) fun f=>?_;have g:=mX f;exact⟨⟨p,la,by dsimp only at g |-;lia,by dsimp only;lia⟩,p,la,by dsimp only at g |-;lia,by dsimp only;lia⟩
theorem wf{Q:Array Keyed->SortSt->Prop}(hC:wc prog w A s κ a₀)(hB:SM κ ar pd st)(ha:∀x∈a.toList,x∈a₀.toList)(hb:∀x∈b.toList,x∈a₀.toList)(a1:1<=a.size)(b1:1<=b.size)(h:∀out bj,out.Perm (a++b)->SM κ ar pd bj->Q out bj):wpS (model prog w) A E s (qG a b) Q st:=by
 rw[we];refine aB (k4 (gm ⟨rfl,?_⟩));refine aB (bC (dw b 0 (by lia)) ?_);have p0:PI a b #[b[0]] 0 1:=by
  have:PI a b #[] 0 0:=by unfold PI;simp
  exact this.sB (by lia)
 split
 .exact aV (h _ _ p0.done hB)
 next f=>
 split
 .exact aV (h _ _ p0.last hB)
 next f'=>
 have g:1≠b.size:=by simpa using f
 have g':0+1≠a.size:=by simpa using f'
 refine Ao (J:=JL a b) hB ⟨p0,by lia,by lia,by lia⟩ (fun i k x y z h=>⟨h.1,h.2.1,h.2.2.1,by have:=h.2.2.2;lia⟩) (fun x y z h=>by have:=h.2;lia) (by lia) (fun mg n k x y z p st m j=>GJ hC ha hb m j) (fun n x y z p st m j=>?_) h;unfold Wp;split <;> exact GE hC ha hb m j
end
abbrev jT(a b out:Array Keyed)(na nb:Nat):=a.extract 0 na++b.extract 0 nb++out.reverse
abbrev pH(a b out:Array Keyed)(na nb:Nat):=b.extract 0 nb++a.extract 0 na++out.reverse
abbrev Ju ρ:=o3×Nat×Nat×Array Keyed×ρ
def Wq(a b:Array Keyed)(mg:Nat)(t:Ju (Nat×Nat)):sw (ForInStep (Ju (Nat×Nat))):=do
 let x <- elem' b (t.2.2.1-1)
 let y <- elem' a (t.2.1-1)
 let some w <- lt' x y|pure (.done (some (jT a b t.2.2.2.1 t.2.1 t.2.2.1),t.2.1,t.2.2.1,t.2.2.2.1,t.2.2.2.2.1,t.2.2.2.2.2))
 if w then do
  let x <- elem' a (t.2.1-1)
  wd (t.2.1-1==0) (t.2.2.2.2.1+1>=mg) (jT a b (t.2.2.2.1.push x) (t.2.1-1) t.2.2.1) (t.2.1-1,t.2.2.1,t.2.2.2.1.push x,t.2.2.2.2.1+1,0)
 else do
  let x <- elem' b (t.2.2.1-1)
  wd (t.2.2.1-1==1) (t.2.2.2.2.2+1>=mg) (pH a b (t.2.2.2.1.push x) t.2.1 (t.2.2.1-1)) (t.2.1,t.2.2.1-1,t.2.2.2.1.push x,0,t.2.2.2.2.2+1)
def TU(a b:Array Keyed)(na nb:Nat)(out:Array Keyed)(mg ac bc:Nat):sw (ForInStep (Ju (Nat×Nat×Nat))):=do
 let x <- elem' a (na-1)
 wd (na-1==0) ((ac<7&&bc<7)=true) (jT a b (out.push x) (na-1) nb) (na-1,nb,out.push x,mg,ac,bc)
def TV(a b:Array Keyed)(na nb:Nat)(out:Array Keyed)(mg ac bc:Nat):sw (ForInStep (Ju (Nat×Nat×Nat))):=do
 let x <- elem' b (nb-1)
 if nb-1==1 then pure (.done (some (pH a b (out.push x) na (nb-1)),na,nb-1,out.push x,mg,ac,bc))
 else do
  let y <- elem' a (na-1)
  let some k <- ij true y b 0 (nb-1) (nb-1-1)|pure (.done (some (jT a b (out.push x) na (nb-1)),na,nb-1,out.push x,mg,ac,bc))
  if nb-1-k > 0 then
   if k==1 then pure (.done (some (pH a b (out.push x++(b.extract k (nb-1)).reverse) na k),na,k,out.push x++(b.extract k (nb-1)).reverse,mg,ac,nb-1-k))
   else if k==0 then pure (.done (some (jT a b (out.push x++(b.extract k (nb-1)).reverse) na k),na,k,out.push x++(b.extract k (nb-1)).reverse,mg,ac,nb-1-k))
   else TU a b na k (out.push x++(b.extract k (nb-1)).reverse) mg ac (nb-1-k)
  else TU a b na (nb-1) (out.push x) mg ac (nb-1-k)
def TW(a b:Array Keyed)(na nb:Nat)(out:Array Keyed)(mg ac bc:Nat):sw (ForInStep (Ju (Nat×Nat×Nat))):=do
 iy mg
 let y <- elem' b (nb-1)
 let some k <- ij false y a 0 na (na-1)|pure (.done (some (jT a b out na nb),na,nb,out,mg,ac,bc))
 if na-k > 0 then
  if k==0 then pure (.done (some (jT a b (out++(a.extract k na).reverse) k nb),k,nb,out++(a.extract k na).reverse,mg,na-k,bc))
  else TV a b k nb (out++(a.extract k na).reverse) mg (na-k) bc
 else TV a b na nb out mg (na-k) bc
def Wr(a b:Array Keyed)(t:Ju (Nat×Nat×Nat)):sw (ForInStep (Ju (Nat×Nat×Nat))):=
 if t.2.2.2.2.1 > 1 then TW a b t.2.1 t.2.2.1 t.2.2.2.1 (t.2.2.2.2.1-1) t.2.2.2.2.2.1 t.2.2.2.2.2.2 else TW a b t.2.1 t.2.2.1 t.2.2.2.1 t.2.2.2.2.1 t.2.2.2.2.2.1 t.2.2.2.2.2.2
theorem wg(a b:Array Keyed):qH a b=(do
 liftM (rule "list.sort.merge-hi")
 let x <- elem' a (a.size-1)
 if a.size-1==0 then pure (jT a b #[x] (a.size-1) b.size) else if b.size==1 then pure (pH a b #[x] (a.size-1) b.size) else Rv (a.size+b.size) (Wq a b) (Wr a b) (a.size-1) b.size #[x]):=by kernel_rfl
def PH(a b out:Array Keyed)(na nb:Nat):Prop:=out.toList.Perm (a.toList.drop na++b.toList.drop nb)
theorem PH.sA{a b out:Array Keyed}{na nb:Nat}(h:PH a b out na nb)(h1:1<=na)(hi:na-1<a.size):PH a b (out.push a[na-1]) (na-1) nb:=by
 unfold PH at h |-;have e:a.toList.drop (na-1)=a[na-1]::a.toList.drop na:=by
  have:=rS (l:=a.toList) (i:=na-1) (by simpa using hi);rw[this,Nat.sub_add_cancel h1];simp
 rw[mR,e];refine(h.append_right _).trans ?_;exact iB
theorem PH.sB{a b out:Array Keyed}{na nb:Nat}(h:PH a b out na nb)(h1:1<=nb)(hi:nb-1<b.size):PH a b (out.push b[nb-1]) na (nb-1):=by
 unfold PH at h |-;have e:b.toList.drop (nb-1)=b[nb-1]::b.toList.drop nb:=by
  have:=rS (l:=b.toList) (i:=nb-1) (by simpa using hi);rw[this,Nat.sub_add_cancel h1];simp
 rw[mR,e];refine(h.append_right _).trans ?_;rw[cP];exact kD _ iB
theorem lZ{l:List Keyed}{i j:Nat}(h:i<=j):l.drop i=(l.drop i).take (j-i)++l.drop j:=by
 have:=(oq (j-i) (l.drop i)).symm;rw[List.drop_drop,show i+(j-i)=j by lia] at this;exact this
theorem PH.BI{a b out:Array Keyed}{na nb:Nat}(h:PH a b out na nb){k:Nat}(hk:k<=na):PH a b (out++(a.extract k na).reverse) k nb:=by
 unfold PH at h |-;rw[eU,xG,d5];conv=>rhs;rw[lZ hk]
 refine((h.append_left _).trans ?_ |> fun z=>(List.Perm.trans iB ((xU _).append_right _)).trans z);rw[cP]
theorem PH.BJ{a b out:Array Keyed}{na nb:Nat}(h:PH a b out na nb){k:Nat}(hk:k<=nb):PH a b (out++(b.extract k nb).reverse) na k:=by
 unfold PH at h |-;rw[eU,xG,d5];conv=>rhs;rw[lZ hk]
 refine(h.append_right _).trans ?_;rw[cP];refine kD _ ?_;exact iB.trans ((xU _).append_right _)
theorem OJ{a:Array Keyed}{j:Nat}:(a.extract 0 j).toList=a.toList.take j:=by rw[d5,ye,Nat.sub_zero]
theorem PH.done{a b out:Array Keyed}{na nb:Nat}(h:PH a b out na nb):(a.extract 0 na++b.extract 0 nb++out.reverse).Perm (a++b):=by
 rw[lD];unfold PH at h;rw[eU,eU,eU,xG,OJ,OJ];conv=>rhs;rw[<-oq na a.toList,<-oq nb b.toList]
 refine(kD _ ((xU _).trans h)).trans ?_;rw[cP,cP];refine kD _ ?_;rw[<-cP,<-cP];exact xB _ iB
theorem PH.first{a b out:Array Keyed}{na nb:Nat}(h:PH a b out na nb):(b.extract 0 nb++a.extract 0 na++out.reverse).Perm (a++b):=by
 refine Array.Perm.trans ?_ h.done;rw[lD];rw[eU,eU,eU,eU];exact xB _ iB
section
variable {prog:Program} {w:World} {A:Around} {E:Value->Shared->Prop} {s:Shared} {κ:SortKind} {a₀:Array Keyed} {pd:Array (Nat×Nat×Nat)} {ar:Array Keyed} {a b out:Array Keyed} {na nb mg ac bc n:Nat} {st:SortSt}
def JH(a b:Array Keyed)(n na nb:Nat)(out:Array Keyed):Prop:=PH a b out na nb/\1<=na/\2<=nb/\na<=a.size/\nb<=b.size/\n+na+nb<=a.size+b.size
abbrev GH{ρ:Type}(κ:SortKind)(ar:Array Keyed)(pd:Array (Nat×Nat×Nat))(a b:Array Keyed)(n m:Nat):ForInStep (Ju ρ)->SortSt->Prop:=GP κ ar pd (fun x=>x.Perm (a++b)) (fun t=>JH a b n t.1 t.2.1 t.2.2.1) fun t=>JH a b m t.1 t.2.1 t.2.2.1
theorem Ar(hB:SM κ ar pd st)(p:PH a b out na nb)(la:1<=na)(lb:2<=nb)(ma:na<=a.size)(mb:nb<=b.size)(li:n+na+nb<=a.size+b.size+1):wpS (model prog w) A E s (TU a b na nb out mg ac bc) (GH κ ar pd a b n n) st:=by
 refine aB (bC (dw a (na-1) (by lia)) ?_);have p:=p.sA la (show na-1<a.size by lia);refine iH hB (fun _=>p.done) fun f=>?_;have g:=mX f;have j:JH a b n (na-1) nb (out.push a[na-1]):=⟨p,by lia,lb,by lia,mb,by lia⟩
 exact⟨j,j⟩
theorem As(hC:wc prog w A s κ a₀)(ha:∀x∈a.toList,x∈a₀.toList)(hb:∀x∈b.toList,x∈a₀.toList)(hB:SM κ ar pd st)(h:JH a b n na nb out):wpS (model prog w) A E s (TV a b na nb out mg ac bc) (GH κ ar pd a b n n) st:=by
 obtain⟨p,la,lb,ma,mb,li⟩:=h;refine aB (bC (dw b (nb-1) (by lia)) ?_);have p:=p.sB (show 1<=nb by lia) (show nb-1<b.size by lia);split
 .exact fm hB p.first
 next f=>
 have g:nb-1≠1:=by simpa using f
 refine aB (bC (dw a (na-1) (by lia)) ?_);refine aB (fY hC hB.kind (ha _ (by simp)) hb (by lia) (by lia) fun k hk=>?_);dsimp only;split
 .split
  .exact fm hB (p.BJ hk).first
  next f=>
  split
  .exact fm hB (p.BJ hk).done
  next f'=>
  have g:k≠1:=by simpa using f
  have g':k≠0:=by simpa using f'
  exact Ar hB (p.BJ hk) la (by lia) ma (by lia) (by lia)
 .exact Ar hB p la (by lia) ma (by lia) (by lia)
theorem GK(hC:wc prog w A s κ a₀)(ha:∀x∈a.toList,x∈a₀.toList)(hb:∀x∈b.toList,x∈a₀.toList)(hB:SM κ ar pd st)(h:JH a b n na nb out):wpS (model prog w) A E s (TW a b na nb out mg ac bc) (GH κ ar pd a b n n) st:=by
 obtain⟨p,la,lb,ma,mb,li⟩:=h;refine aB (gn ?_);refine aB (bC (dw b (nb-1) (by lia)) ?_);have rF:SM κ ar pd (SortSt.mk' (kindOf st) (arrOf st) (pendingOf st) mg (failedOf st)):=⟨hB.arr,hB.kind,hB.failed,hB.pend⟩
 refine aB (fY hC rF.kind (hb _ (by simp)) ha (by lia) (by lia) fun k hk=>?_);dsimp only;split
 .split
  .exact fm rF (p.BI hk).done
  next f=>
  have g:k≠0:=by simpa using f
  exact As hC ha hb rF ⟨p.BI hk,by lia,lb,by lia,mb,by lia⟩
 .exact As hC ha hb rF ⟨p,la,lb,ma,mb,li⟩
theorem GN{k:Nat}(hC:wc prog w A s κ a₀)(ha:∀x∈a.toList,x∈a₀.toList)(hb:∀x∈b.toList,x∈a₀.toList)(hB:SM κ ar pd st)(h:JH a b (n+k) na nb out){q:Nat×Nat}:wpS (model prog w) A E s (Wq a b mg (none,na,nb,out,q)) (GH κ ar pd a b (n+1) (n+(k+1))) st:=by
 obtain⟨p,la,lb,ma,mb,li⟩:=h;refine aB (bC (dw b (nb-1) (by lia)) (aB (bC (dw a (na-1) (by lia)) (aB (qI hC hB.kind (hb _ (by simp)) (ha _ (by simp)) fun w=>?_)))));cases w
 .refine aB (bC (dw b (nb-1) (by lia)) ?_);have p:=p.sB (show 1<=nb by lia) (show nb-1<b.size by lia);refine iH hB (fun _=>p.first) fun f=>?_;have g:nb-1≠1:=mX f;have j:JH a b (n+(k+1)) na (nb-1) (out.push b[nb-1]):=⟨p,la,by lia,ma,by lia,by lia⟩
  exact⟨⟨p,la,j.2.2.1,ma,j.2.2.2.2.1,by have:=j.2.2.2.2.2;dsimp only;lia⟩,j⟩
 .refine aB (bC (dw a (na-1) (by lia)) ?_);have p:=p.sA la (show na-1<a.size by lia);refine iH hB (fun _=>p.done) fun f=>?_;have g:na-1≠0:=mX f;have j:JH a b (n+(k+1)) (na-1) nb (out.push a[na-1]):=⟨p,by lia,lb,by lia,mb,by lia⟩
  exact⟨⟨p,j.2.1,lb,j.2.2.2.1,mb,by have:=j.2.2.2.2.2;dsimp only;lia⟩,j⟩
theorem wm{Q:Array Keyed->SortSt->Prop}(hC:wc prog w A s κ a₀)(hB:SM κ ar pd st)(ha:∀x∈a.toList,x∈a₀.toList)(hb:∀x∈b.toList,x∈a₀.toList)(a1:1<=a.size)(b1:1<=b.size)(h:∀out bj,out.Perm (a++b)->SM κ ar pd bj->Q out bj):wpS (model prog w) A E s (qH a b) Q st:=by
 rw[wg];refine aB (k4 (gm ⟨rfl,?_⟩));refine aB (bC (dw a (a.size-1) (by lia)) ?_);have p0:PH a b #[a[a.size-1]] (a.size-1) b.size:=by
  have:PH a b #[] a.size b.size:=by unfold PH;simp
  exact this.sA a1 (by lia)
 split
 .exact aV (h _ _ p0.done hB)
 next f=>
 split
 .exact aV (h _ _ p0.first hB)
 next f'=>
 have g:a.size-1≠0:=by simpa using f
 have g':b.size≠1:=by simpa using f'
 refine Ao (J:=JH a b) hB ⟨p0,by lia,by lia,by lia,by lia,by lia⟩ (fun i k x y z h=>⟨h.1,h.2.1,h.2.2.1,h.2.2.2.1,h.2.2.2.2.1,by have:=h.2.2.2.2.2;lia⟩) (fun x y z h=>by have:=h.2;lia) (by lia) (fun mg n k x y z p st m j=>GN hC ha hb m j) (fun n x y z p st m j=>?_) h;unfold Wr;split <;> exact GK hC ha hb m j
end
section
variable {prog:Program} {w:World} {A:Around} {E:Value->Shared->Prop} {s:Shared} {κ:SortKind} {a₀:Array Keyed} {pd:Array (Nat×Nat×Nat)}
theorem BK{st:SortSt}{lo nQ:Nat}{Q:Option Nat->SortSt->Prop}(hC:wc prog w A s κ a₀)(hn:lo+nQ<=a₀.size)(h1:1<=nQ)(hB:SQ κ a₀ pd st)(h:∀n bj,SQ κ a₀ pd bj->1<=n->n<=nQ->Q (some n) bj):wpS (model prog w) A E s (countRun' lo nQ) Q st:=by
 rw[countRun'_eq];refine aB (dP (fL (I:=fun i c bj=>SQ κ a₀ pd bj/\∃m,c=(none,m)/\m=i) (Q:=fun c bj=>SQ κ a₀ pd bj/\∃m,c=(none,m)/\1<=m/\m<=nQ) ?_ ?_ ⟨hB,_,rfl,rfl⟩) ?_)
 .rintro i c Jv M5 Br ⟨DR,m,rfl,rfl⟩;dsimp only;refine aB (fk hC DR (by lia) (by lia) fun b1=>?_);cases b1
  .exact aV ⟨DR,_,rfl,rfl⟩
  .exact aV ⟨DR,_,rfl,by lia,by lia⟩
 .rintro c Jv ⟨DR,m,rfl,rfl⟩;exact⟨DR,_,rfl,by lia,by lia⟩
 .rintro c Jv ⟨DR,n,rfl,n1,n2⟩;dsimp only;by_cases e1:(n==nQ)=true
  .rw[am e1];exact aV (h n Jv DR n1 n2)
  rw[aA e1];have g1:¬ (n=nQ):=by simpa using e1
  by_cases e2:n > 1
  .rw[am e2];refine aB (fk hC DR (by lia) (by lia) fun b2=>?_);cases b2
   .dsimp only;rw[aA (by decide)];refine aB (gK DR fun rm rF=>?_);refine aB (k4 (gm ⟨rfl,?_⟩));refine aB (dP (fL (I:=fun i c bj=>SQ κ a₀ pd bj/\∃m q,c=(none,m,q)/\m=i) (Q:=fun c bj=>SQ κ a₀ pd bj/\∃m q,c=(none,m,q)/\1<=m/\m<=nQ) ?_ ?_ ⟨rF,_,_,rfl,rfl⟩) ?_)
    .rintro i c yq M5 Br ⟨o0,m,q,rfl,rfl⟩;dsimp only;refine aB (fk hC o0 (by lia) (by lia) fun b3=>?_);cases b3
     .dsimp only;rw[aA (by decide)];refine aB (fk hC o0 (by lia) (by lia) fun b4=>?_);cases b4
      .exact aV ⟨o0,_,_,rfl,rfl⟩
      .exact aV ⟨o0,_,_,rfl,by lia,by lia⟩
     .dsimp only;rw[am rfl];split
      .exact aB (gK o0 fun rf KW=>aV ⟨KW,_,_,rfl,rfl⟩)
      .exact aV ⟨o0,_,_,rfl,rfl⟩
    .rintro c yq ⟨o0,m,q,rfl,rfl⟩;exact⟨o0,_,_,rfl,by lia,by lia⟩
    .rintro c yq ⟨o0,m,q,rfl,m1,m2⟩;dsimp only;split
     .refine aB (gK o0 fun rf KW=>?_);refine aB (gK KW fun vz KY=>?_);refine aB (dP (fL (I:=fun i c bj=>SQ κ a₀ pd bj/\∃m,c=(none,m)/\m=i) (Q:=fun c bj=>SQ κ a₀ pd bj/\∃m,c=(none,m)/\1<=m/\m<=nQ) ?_ ?_ ⟨KY,_,rfl,rfl⟩) ?_)
      .rintro i c yX M5 Br ⟨lj,m,rfl,rfl⟩;dsimp only;refine aB (fk hC lj (by lia) (by lia) fun b6=>?_);cases b6
       .exact aV ⟨lj,_,rfl,rfl⟩
       .exact aV ⟨lj,_,rfl,by lia,by lia⟩
      .rintro c yX ⟨lj,m,rfl,rfl⟩;exact⟨lj,_,rfl,by lia,by lia⟩
      .rintro c yX ⟨lj,m,rfl,h1,h2⟩;exact aV (h m yX lj h1 h2)
     .refine aB (gK o0 fun vz KY=>?_);refine aB (dP (fL (I:=fun i c bj=>SQ κ a₀ pd bj/\∃m,c=(none,m)/\m=i) (Q:=fun c bj=>SQ κ a₀ pd bj/\∃m,c=(none,m)/\1<=m/\m<=nQ) ?_ ?_ ⟨KY,_,rfl,rfl⟩) ?_)
      .rintro i c yX M5 Br ⟨lj,m,rfl,rfl⟩;dsimp only;refine aB (fk hC lj (by lia) (by lia) fun b6=>?_);cases b6
       .exact aV ⟨lj,_,rfl,rfl⟩
       .exact aV ⟨lj,_,rfl,by lia,by lia⟩
      .rintro c yX ⟨lj,m,rfl,rfl⟩;exact⟨lj,_,rfl,by lia,by lia⟩
      .rintro c yX ⟨lj,m,rfl,h1,h2⟩;exact aV (h m yX lj h1 h2)
   .exact aV (h n Jv DR n1 n2)
  .rw[aA e2];have rF:=DR;refine aB (k4 (gm ⟨rfl,?_⟩));refine aB (dP (fL (I:=fun i c bj=>SQ κ a₀ pd bj/\∃m q,c=(none,m,q)/\m=i) (Q:=fun c bj=>SQ κ a₀ pd bj/\∃m q,c=(none,m,q)/\1<=m/\m<=nQ) ?_ ?_ ⟨rF,_,_,rfl,rfl⟩) ?_)
   .rintro i c yq M5 Br ⟨o0,m,q,rfl,rfl⟩;dsimp only;refine aB (fk hC o0 (by lia) (by lia) fun b3=>?_);cases b3
    .dsimp only;rw[aA (by decide)];refine aB (fk hC o0 (by lia) (by lia) fun b4=>?_);cases b4
     .exact aV ⟨o0,_,_,rfl,rfl⟩
     .exact aV ⟨o0,_,_,rfl,by lia,by lia⟩
    .dsimp only;rw[am rfl];split
     .exact aB (gK o0 fun rf KW=>aV ⟨KW,_,_,rfl,rfl⟩)
     .exact aV ⟨o0,_,_,rfl,rfl⟩
   .rintro c yq ⟨o0,m,q,rfl,rfl⟩;exact⟨o0,_,_,rfl,by lia,by lia⟩
   .rintro c yq ⟨o0,m,q,rfl,m1,m2⟩;dsimp only;split
    .refine aB (gK o0 fun rf KW=>?_);refine aB (gK KW fun vz KY=>?_);refine aB (dP (fL (I:=fun i c bj=>SQ κ a₀ pd bj/\∃m,c=(none,m)/\m=i) (Q:=fun c bj=>SQ κ a₀ pd bj/\∃m,c=(none,m)/\1<=m/\m<=nQ) ?_ ?_ ⟨KY,_,rfl,rfl⟩) ?_)
     .rintro i c yX M5 Br ⟨lj,m,rfl,rfl⟩;dsimp only;refine aB (fk hC lj (by lia) (by lia) fun b6=>?_);cases b6
      .exact aV ⟨lj,_,rfl,rfl⟩
      .exact aV ⟨lj,_,rfl,by lia,by lia⟩
     .rintro c yX ⟨lj,m,rfl,rfl⟩;exact⟨lj,_,rfl,by lia,by lia⟩
     .rintro c yX ⟨lj,m,rfl,h1,h2⟩;exact aV (h m yX lj h1 h2)
    .refine aB (gK o0 fun vz KY=>?_);refine aB (dP (fL (I:=fun i c bj=>SQ κ a₀ pd bj/\∃m,c=(none,m)/\m=i) (Q:=fun c bj=>SQ κ a₀ pd bj/\∃m,c=(none,m)/\1<=m/\m<=nQ) ?_ ?_ ⟨KY,_,rfl,rfl⟩) ?_)
     .rintro i c yX M5 Br ⟨lj,m,rfl,rfl⟩;dsimp only;refine aB (fk hC lj (by lia) (by lia) fun b6=>?_);cases b6
      .exact aV ⟨lj,_,rfl,rfl⟩
      .exact aV ⟨lj,_,rfl,by lia,by lia⟩
     .rintro c yX ⟨lj,m,rfl,rfl⟩;exact⟨lj,_,rfl,by lia,by lia⟩
     .rintro c yX ⟨lj,m,rfl,h1,h2⟩;exact aV (h m yX lj h1 h2)
end
abbrev M6:=Nat×Nat×Nat
def iI:List M6->Nat->Nat->Prop
 |[],s,e=>s=e
 |r::rs,s,e=>r.1=s/\1<=r.2.1/\iI rs (s+r.2.1) e
theorem iI.le:∀ {l:List M6} {s e:Nat},iI l s e->s<=e
 |[],_,_,h=>qk h
 |r::rs,s,e,⟨_,h2,h3⟩=>by have:=h3.le;lia
theorem iI.two:∀ {l:List M6} {s e i:Nat} {x y:M6},iI l s e->l[i]?=some x->l[i+1]?=some y->
  x.1+x.2.1=y.1/\y.1+y.2.1<=e/\1<=x.2.1/\1<=y.2.1/\∀p,iI ((l.set i (x.1,x.2.1+y.2.1,p)).eraseIdx (i+1)) s e
 |r::q::rs,s,e,0,x,y,⟨h1,h2,h3,h4,h5⟩,hx,hy=>by
  obtain rfl:=bW hx;obtain rfl:=bW hy;have:=h5.le;refine⟨by lia,by lia,h2,h4,fun p=>⟨h1,by show 1<=r.2.1+q.2.1;lia,?_⟩⟩;show iI rs (s+(r.2.1+q.2.1)) e;rw[<-Nat.add_assoc];exact h5
 |r::rs,s,e,i+1,x,y,⟨h1,h2,h3⟩,hx,hy=>by
  obtain⟨a1,a2,a3,a4,a5⟩:=iI.two (i:=i) h3 hx hy;exact⟨a1,a2,a3,a4,fun p=>⟨h1,h2,a5 p⟩⟩
theorem iI.push:∀ {l:List M6} {s e n p:Nat},iI l s e->1<=n->iI (l++[(e,n,p)]) s (e+n)
 |[],s,e,n,p,h,hn=>⟨h.symm,hn,by rw[h];rfl⟩
 |r::rs,s,e,n,p,⟨h1,h2,h3⟩,hn=>⟨h1,h2,iI.push h3 hn⟩
theorem iI.pw:∀ {l:List M6} {s e:Nat} (i p:Nat),iI l s e->iI (l.modify i fun r=>(r.1,r.2.1,p)) s e
 |[],s,e,i,p,h=>by cases i <;> exact h
 |r::rs,s,e,0,p,⟨h1,h2,h3⟩=>⟨h1,h2,h3⟩
 |r::rs,s,e,i+1,p,⟨h1,h2,h3⟩=>⟨h1,h2,iI.pw i p h3⟩
theorem GO{M:Model}{A:Around}{E:Value->Shared->Prop}{s:Shared}{σ:Type}{x:σ}{Q:PUnit->σ->Prop}{st:σ}(h:Q ⟨⟩ x):wpS M A E s (set x:StateT σ Sem PUnit) Q st:=by
 unfold wpS;rw[StateT.run_set];exact wpAny_pure ⟨rfl,h⟩
theorem wn(i:Nat):mergeAt' i=(do
 let s <- get
 let (some (sa,na,OK),some (sb,nb,_)):=((pendingOf s)[i]?,(pendingOf s)[i+1]?)|unsupported "internal:list.sort.pending"
 set (setPending s (((pendingOf s).setIfInBounds i (sa,na+nb,OK)).eraseIdxIfInBounds (i+1)))
 let some k <- ij false (<-elem' (arrOf s) sb) (arrOf s) sa na 0|return false
 let (sa,na):=(sa+k,na-k)
 if na==0 then return true
 let some nb <- ij true (<-elem' (arrOf s) (sa+na-1)) (arrOf s) sb nb (nb-1)|return false
 if nb==0 then return true
 let x:=(arrOf s).extract sa sb
 let y:=(arrOf s).extract sb (sb+nb)
 let merged <- if na<=nb then qG x y else qH x y
 modify fun s=>setArr s (merged.toList.zipIdx.foldl (fun a (p,j)=>a.setIfInBounds (sa+j) p) (arrOf s))
 return (failedOf (<-get)).isNone):=rfl
theorem qK{sa:Nat}:∀ (l:List Keyed) (k:Nat) (arr:Array Keyed),sa+k+l.length<=arr.size->
  ((l.zipIdx k).foldl (fun (a:Array Keyed) (x:Keyed×Nat)=>a.setIfInBounds (sa+x.2) x.1) arr).toList=arr.toList.take (sa+k)++l++arr.toList.drop (sa+k+l.length)
 |[],k,arr,_=>by simp
 |x::l,k,arr,h=>by
  rw[dH] at h;have hs:sa+k<arr.toList.length:=by rw[kP];lia
  rw[xX,tU,qK l (k+1) _ (by rw[Array.size_setIfInBounds];lia),CL];dsimp only;have e1:(arr.toList.set (sa+k) x).take (sa+(k+1))=arr.toList.take (sa+k)++[x]:=by
   rw[<-Nat.add_assoc,eC,pX hs,List.take_set_of_le (aU _)];rfl
  have e2:(arr.toList.set (sa+k) x).drop (sa+(k+1)+l.length)=arr.toList.drop (sa+k+(x::l).length):=by
   rw[List.drop_set_of_lt (by lia),dH];congr 1;lia
  rw[e1,e2,cP,cP,cP];rfl
section
variable {prog:Program} {w:World} {A:Around} {E:Value->Shared->Prop} {s:Shared} {κ:SortKind} {a₀:Array Keyed}
def SR(κ:SortKind)(a₀:Array Keyed)(lo:Nat)(st:SortSt):Prop:=∃pd,SQ κ a₀ pd st/\iI pd.toList 0 lo/\lo<=a₀.size
theorem jU{st:SortSt}{i lo:Nat}{Q:Bool->SortSt->Prop}(hC:wc prog w A s κ a₀)(hB:SR κ a₀ lo st)(hi:i+1<(pendingOf st).size)(h:∀bj,SR κ a₀ lo bj->Q true bj):wpS (model prog w) A E s (mergeAt' i) Q st:=by
 obtain⟨pd,hq,hr,Rn⟩:=hB;rw[hq.pend] at hi;rw[wn];refine aB (gW ?_);have e1:pd[i]?=some pd[i]:=dw pd i (by lia);have e2:pd[i+1]?=some pd[i+1]:=dw pd (i+1) hi;obtain⟨a1,a2,a3,a4,a5⟩:=hr.two (i:=i) (x:=pd[i]) (y:=pd[i+1]) (by simpa using e1) (by simpa using e2);rw[hq.pend,e1,e2];revert a1 a2 a3 a4 a5;generalize pd[i]=x;generalize pd[i+1]=y;obtain⟨sa,na,pw⟩:=x;obtain⟨sb,nb,pw2⟩:=y;intro a1 a2 a3 a4 a5;dsimp only at a1 a2 a3 a4 a5 |-;obtain⟨GQ,OL⟩:∃GQ,GQ=(pd.setIfInBounds i (sa,na+nb,pw)).eraseIdxIfInBounds (i+1):=⟨_,rfl⟩
 have Cs:iI GQ.toList 0 lo:=by
  rw[OL,Array.toList_eraseIdxIfInBounds,CL];exact a5 pw
 refine aB (GO ?_);rw[<-OL];have Jm:SM κ (arrOf st) GQ (setPending st GQ):=⟨rfl,hq.kind,hq.failed,rfl⟩
 have ku:=hq.size;have re:∀x∈(arrOf st).toList,x∈a₀.toList:=fun x hx=>(lD.mp hq.perm).mem_iff.mp hx;have dU:∀bj,SM κ (arrOf st) GQ bj->SR κ a₀ lo bj:=fun bj m=>⟨GQ,⟨by rw[m.arr];exact hq.perm,m.kind,m.failed,m.pend⟩,Cs,Rn⟩
 refine aB (bC (dw (arrOf st) sb (by lia)) ?_);refine aB (fY hC Jm.kind (re _ (by simp)) re (by lia) (by lia) fun k hk=>?_);dsimp only;by_cases f1:(na-k==0)=true
 .rw[am f1];exact aV (h _ (dU _ Jm))
 rw[aA f1];have g1:¬ (na-k=0):=by simpa using f1
 refine aB (bC (dw (arrOf st) (sa+k+(na-k)-1) (by lia)) ?_);refine aB (fY hC Jm.kind (re _ (by simp)) re (by lia) (by lia) fun k2 TJ=>?_);dsimp only;by_cases f2:(k2==0)=true
 .rw[am f2];exact aV (h _ (dU _ Jm))
 rw[aA f2];have g2:¬ (k2=0):=by simpa using f2
 have hx:∀x∈((arrOf st).extract (sa+k) sb).toList,x∈a₀.toList:=fun x hx=>re x (by rw[d5] at hx;exact tu (ot hx));have hy:∀x∈((arrOf st).extract sb (sb+k2)).toList,x∈a₀.toList:=fun x hx=>re x (by rw[d5] at hx;exact tu (ot hx));have sx:((arrOf st).extract (sa+k) sb).size=sb-(sa+k):=by rw[Array.size_extract];lia
 have sy:((arrOf st).extract sb (sb+k2)).size=k2:=by rw[Array.size_extract];lia
 have last:∀ (out:Array Keyed) (bj:SortSt),out.Perm ((arrOf st).extract (sa+k) sb++(arrOf st).extract sb (sb+k2))->SM κ (arrOf st) GQ bj->wpS (model prog w) A E s (do
   modify fun s=>setArr s (out.toList.zipIdx.foldl (fun a (p,j)=>a.setIfInBounds (sa+k+j) p) (arrOf s))
   return (failedOf (<-get)).isNone) Q bj:=by
  intro out bj hp m;refine aB (gn ?_);refine aB (gW (aV ?_));have Ws:out.toList.length=sb-(sa+k)+k2:=by
   rw[kP,hp.size_eq,Array.size_append,sx,sy]
  have wl:=qK (sa:=sa+k) out.toList 0 (arrOf bj) (by rw[m.arr,Ws];lia);have pm:(out.toList.zipIdx.foldl (fun a (p,j)=>a.setIfInBounds (sa+k+j) p) (arrOf bj)).Perm (arrOf st):=by
   rw[lD];refine(qi wl).trans ?_;rw[m.arr,Ws,ua];have M4:=lD.mp hp;rw[eU,d5,d5] at M4;refine((M4.append_left _).append_right _).trans ?_;have e1:(arrOf st).toList.drop (sa+k)=((arrOf st).toList.drop (sa+k)).take (sb-(sa+k))++(arrOf st).toList.drop sb:=lZ (by lia);have e2:(arrOf st).toList.drop sb=((arrOf st).toList.drop sb).take (sb+k2-sb)++(arrOf st).toList.drop (sb+k2):=lZ (by lia);have e3:sa+k+(sb-(sa+k)+k2)=sb+k2:=by lia
   rw[e3];refine qi ?_;conv=>rhs;rw[<-oq (sa+k) (arrOf st).toList,e1,e2]
   simp only[cP]
  have hf:(failedOf bj).isNone=true:=by rw[m.failed];rfl
  show Q (failedOf bj).isNone _;rw[hf];exact h _ ⟨GQ,⟨pm.trans hq.perm,m.kind,m.failed,m.pend⟩,Cs,Rn⟩
 by_cases f3:na-k<=k2
 .rw[am f3];exact aB (wf hC Jm hx hy (by lia) (by lia) fun out bj hp m=>last out bj hp m)
 .rw[aA f3];exact aB (wm hC Jm hx hy (by lia) (by lia) fun out bj hp m=>last out bj hp m)
theorem wo{c:Prop}[Decidable c]{x:Nat}:(if c then x-1 else x)<=x:=by split <;> lia
theorem SR.pw{lo:Nat}{st:SortSt}(h:SR κ a₀ lo st)(i p:Nat):SR κ a₀ lo (setPending st ((pendingOf st).modify i fun r=>(r.1,r.2.1,p))):=by
 obtain⟨pd,hq,hr,hl⟩:=h;refine⟨_,⟨hq.perm,hq.kind,hq.failed,rfl⟩,?_,hl⟩;show iI ((pendingOf st).modify i fun r=>(r.1,r.2.1,p)).toList 0 lo;rw[hq.pend,Array.toList_modify];exact hr.pw i p
theorem SR.push{lo n:Nat}{st:SortSt}(h:SR κ a₀ lo st)(h1:1<=n)(hn:lo+n<=a₀.size):SR κ a₀ (lo+n) (setPending st ((pendingOf st).push (lo,n,0))):=by
 obtain⟨pd,hq,hr,hl⟩:=h;refine⟨_,⟨hq.perm,hq.kind,hq.failed,rfl⟩,?_,hn⟩;show iI ((pendingOf st).push (lo,n,0)).toList 0 (lo+n);rw[hq.pend,mR];exact hr.push h1
theorem BL{st:SortSt}{Q:Unit->SortSt->Prop}(hC:wc prog w A s κ a₀)(hp:(arrOf st).Perm a₀)(hk:kindOf st=κ)(hf:failedOf st=none)(YU:pendingOf st=#[])(h:∀bj,(arrOf bj).Perm a₀->failedOf bj=none->Q () bj):wpS (model prog w) A E s sortRuns' Q st:=by
 have h0:SR κ a₀ 0 st:=⟨#[],⟨hp,hk,hf,YU⟩,rfl,dh _⟩
 have ku:(arrOf st).size=a₀.size:=hp.size_eq;rw[sortRuns'_eq];refine aB (gW ?_);dsimp only;rw[ku];refine aB (dP (fL (I:=fun _ c bj=>∃lo,c=(none,lo)/\SR κ a₀ lo bj) (Q:=fun c bj=>∃lo,c=(none,lo)/\SR κ a₀ lo bj) ?_ (fun c bj hh=>hh) ⟨0,rfl,h0⟩) ?_)
 .rintro i c Jv _ _ ⟨lo,rfl,hR⟩;dsimp only;by_cases e1:lo>=a₀.size
  .rw[am e1];exact aV ⟨lo,rfl,hR⟩
  rw[aA e1];have Rn:lo<a₀.size:=by lia
  obtain⟨pd,hq,hr,hl⟩:=hR;refine aB (BK hC (by lia) (by lia) hq fun n rm Rp n1 n2=>?_);dsimp only;by_cases hm:n<minRun' a₀.size a₀.size 0
  .rw[am hm];refine aB (k4 (gm ⟨rfl,?_⟩));refine aB (GD hC (by lia) Rp fun yq V5=>?_);simp only[tZ,ju,fU];have yY:SR κ a₀ lo yq:=⟨pd,V5,hr,hl⟩
   refine aB (gW ?_);cases hb:(pendingOf yq).back? with
   |none=>
    dsimp only;exact aB (gn (aV ⟨_,rfl,yY.push (by lia) (by lia)⟩))
   |some r=>
    obtain⟨s1,YV,YW⟩:=r;dsimp only;refine aB (dP (fL (I:=fun _ c bj=>c=(none,())/\SR κ a₀ lo bj) (Q:=fun c bj=>c=(none,())/\SR κ a₀ lo bj) ?_ (fun c bj hh=>hh) ⟨rfl,yY⟩) ?_)
    .rintro x c rf _ _ ⟨rfl,pI⟩;refine aB (gW ?_);by_cases hs:(pendingOf rf).size > 1
     .rw[am hs,dw (pendingOf rf) ((pendingOf rf).size-2) (by lia)];generalize (pendingOf rf)[(pendingOf rf).size-2]=r4;obtain⟨_,_,OM⟩:=r4;dsimp only;split
      .exact aV ⟨rfl,pI⟩
      .refine aB (jU hC pI (by lia) fun vz GR=>?_);simp only[tZ,ju,fU];exact aV ⟨rfl,GR⟩
     .rw[aA hs];exact aV ⟨rfl,pI⟩
    .rintro c rf ⟨rfl,pI⟩;dsimp only;exact aB (gn (aB (gn (aV ⟨_,rfl,(pI.pw _ _).push (by lia) (by lia)⟩))))
  .rw[aA hm];have yY:SR κ a₀ lo rm:=⟨pd,Rp,hr,hl⟩
   refine aB (gW ?_);cases hb:(pendingOf rm).back? with
   |none=>
    dsimp only;exact aB (gn (aV ⟨_,rfl,yY.push (by lia) (by lia)⟩))
   |some r=>
    obtain⟨s1,YV,YW⟩:=r;dsimp only;refine aB (dP (fL (I:=fun _ c bj=>c=(none,())/\SR κ a₀ lo bj) (Q:=fun c bj=>c=(none,())/\SR κ a₀ lo bj) ?_ (fun c bj hh=>hh) ⟨rfl,yY⟩) ?_)
    .rintro x c rf _ _ ⟨rfl,pI⟩;refine aB (gW ?_);by_cases hs:(pendingOf rf).size > 1
     .rw[am hs,dw (pendingOf rf) ((pendingOf rf).size-2) (by lia)];generalize (pendingOf rf)[(pendingOf rf).size-2]=r4;obtain⟨_,_,OM⟩:=r4;dsimp only;split
      .exact aV ⟨rfl,pI⟩
      .refine aB (jU hC pI (by lia) fun vz GR=>?_);simp only[tZ,ju,fU];exact aV ⟨rfl,GR⟩
     .rw[aA hs];exact aV ⟨rfl,pI⟩
    .rintro c rf ⟨rfl,pI⟩;dsimp only;exact aB (gn (aB (gn (aV ⟨_,rfl,(pI.pw _ _).push (by lia) (by lia)⟩))))
 .rintro c Jv ⟨lo,rfl,hR⟩;dsimp only;refine aB (dP (fL (I:=fun _ c bj=>c=(none,())/\SR κ a₀ lo bj) (Q:=fun c bj=>c=(none,())/\SR κ a₀ lo bj) ?_ (fun c bj hh=>hh) ⟨rfl,hR⟩) ?_)
  .rintro x c rf _ _ ⟨rfl,pI⟩;refine aB (gW ?_);by_cases hs:(pendingOf rf).size<=1
   .rw[am hs];exact aV ⟨rfl,pI⟩
   rw[aA hs];refine aB (jU hC pI ?_ fun vz GR=>?_)
   .exact eA (Nat.succ_le_succ wo) (show (pendingOf rf).size-2+1<(pendingOf rf).size by lia)
   .simp only[tZ,ju,fU];exact aV ⟨rfl,GR⟩
  .rintro c rf ⟨rfl,pd,hq,_⟩;exact aV (h _ hq.perm hq.failed)
end
end PyProof.Rows
namespace L2
open PySem PySem.Spec PyProof.Rows PySem.W
def i3(h:Heap)(vs:List Value):Prop:=∀v∈vs,∃a o n x t y u,v=Value.ref a/\h.get? a=some o/\o.cls=.type "tuple"/\o.data=.seq #[.int x t,.int y u] n
theorem i3.qp{h:Heap}:∀ {vs:List Value},i3 h vs->∃fs,KatTups h vs fs/\fs.length=vs.length/\∀v∈fs,∃n t,v=Value.int n t
 |[],_=>⟨[],trivial,rfl,fun v hv=>nomatch hv⟩
 |v::vs,hp=>by
  obtain⟨fs,k1,k2,k3⟩:=i3.qp (vs:=vs) fun b hb=>hp b (cU _ hb);obtain⟨a,o,n,x,t,y,u,rfl,e,c,d⟩:=hp v bU;refine⟨.int x t::fs,KatTups.cons e c d rfl k1,by simp[k2],fun v hv=>?_⟩;rcases bX.mp hv with z|z
  .exact⟨x,t,z⟩
  .exact k3 v z
section
variable {prog:Program} {w:World} {A:Around} {E:Value->Shared->Prop} {s:Shared}
theorem BM{vs:List Value}(hp:i3 s.heap vs):wc prog w A s (tuples' true) (vs.toArray.zip vs.toArray):=by
 have mem:∀x∈(vs.toArray.zip vs.toArray).toList,x.1∈vs:=by
  intro x hx;rw[Array.toList_zip] at hx;exact(qh hx).1
 intro x y hx hy Q E' q;obtain⟨a,o,n,x1,t1,x2,t2,e1,eo,_,ed⟩:=hp x.1 (mem x hx);obtain⟨b,o',n',y1,u1,y2,u2,e2,YX,_,YY⟩:=hp y.1 (mem y hy);rw[e1,e2];refine kat_lt eo ed YX YY (kat_cons (yf ?_));by_cases h1:x1=y1
 .rw[fc.mpr h1];refine kat_yes (kat_cons (yf ?_));by_cases h2:x2=y2
  .rw[fc.mpr h2];exact kat_yes (kat_nil (q _))
  .rw[ou.mpr h2];exact kat_no (kat_one _ _ (lt_int (q _)))
 .rw[ou.mpr h1];exact kat_no (oneLt_int (q _))
theorem GS{vs:List Value}:((vs.toArray.zip vs.toArray).map (·.2)).toList=vs:=by
 rw[tR,Array.toList_zip];show (vs.zip vs).map (·.2)=vs;rw[<-List.unzip_snd,List.unzip_zip_right (aU _)]
theorem o4{a:Addr}{vs:List Value}{n:Nat}{P:PySem.Fin->Shared->Prop}(ho:s.heap.get? a=some (seqObj "list" vs.toArray n))(hp:i3 s.heap vs)(hz:vs.length<=4096)(h:∀ (out:Array Value),out.toList.Perm vs->P (.done (.ret .none)) { s with heap:=sortedHeap s.heap a vs out }):
  wpAny (model prog w) A (Builtin.«list.sort» ⟨[.ref a],[]⟩) P E s:=by
 rw[list_sort_plain];have ha:a<s.heap.objs.size:=be ho;have Rx:vs.toArray.size<=sizeLine:=by rw[bQ,jC];lia
 refine aw (listItems_at ho rfl ?_);refine aw (listUpdate_at ho rfl ?_ Rx (dh _));obtain⟨e1,M7⟩:∃e1,(s.heap.update a (Obj.mapSeq fun _=>#[])).get? a=some (seqObj "list" #[] e1):=⟨_,ql ho (fun _=>#[])⟩
 refine aw (seqEpoch_at M7 rfl ?_);refine aw (wpAny_newTuple ?_ (by show vs.length<=_;rw[jC];lia));refine aw (wpAny_newList ?_ (dh _));refine fK ?_;have Jw:(((s.heap.update a (Obj.mapSeq fun _=>#[])).push (seqObj "tuple" vs.toArray 0)).push (seqObj "list" #[] 0)).get? a=some (seqObj "list" #[] e1):=by
  rw[fz _ _ _ (by rw[gR,gO];exact ba (dg ha)),fz _ _ _ (by rw[gO];exact ba ha)];exact M7
 have Jx:i3 (((s.heap.update a (Obj.mapSeq fun _=>#[])).push (seqObj "tuple" vs.toArray 0)).push (seqObj "list" #[] 0)) vs:=by
  intro v hv;obtain⟨b,o,n,x,t,y,u,ev,e,c,d⟩:=hp v hv;have hb:b<s.heap.objs.size:=be e;have vA:b≠a:=by
   rintro rfl;rw[ho] at e;cases e;exact absurd (Value.type.inj c) (by decide)
  refine⟨b,o,n,x,t,y,u,ev,?_,c,d⟩;rw[fz _ _ _ (by rw[gR,gO];exact ba (dg hb)),fz _ _ _ (by rw[gO];exact ba hb),oy _ _ _ _ vA];exact e
 show wpAny (model prog w) A _ P E { s with heap:=((s.heap.update a (Obj.mapSeq fun _=>#[])).push (seqObj "tuple" vs.toArray 0)).push (seqObj "list" #[] 0) };dsimp only;have dU:∀bj:SortSt,(arrOf bj).Perm (vs.toArray.zip vs.toArray)->P (.done (.ret .none)) { s with heap:=sortedHeap s.heap a vs ((arrOf bj).map (·.2)) }:=by
  intro bj Ry;refine h _ ?_;have:=(lD.mp Ry).map (·.2);rw[<-tR,<-tR,GS] at this;exact this
 have Wt:(vs.toArray.zip vs.toArray).size=vs.length:=by simp
 by_cases h2:vs.toArray.size<2
 .rw[am h2,am h2];refine aw (wpAny_pure ?_);rw[StateT.run_pure];refine aw (wpAny_pure ?_);dsimp only;refine aw (seqEpoch_at Jw rfl ?_);refine aw (listUpdate_at Jw rfl ?_ (dh _) (by show ((vs.toArray.zip vs.toArray).map (·.2)).size<=_;rw[iP,Wt,jC];lia));simp only[bne_self_eq_false,ju,fU];exact wpAny_pure (dU (SortSt.mk' general' (vs.toArray.zip vs.toArray) #[] 7 none) (Array.Perm.refl _))
 .rw[aA h2,aA h2];have dq:2<=vs.length:=by rw[bQ] at h2;lia
  obtain⟨fs,k1,k2,k3⟩:=Jx.qp;refine aw (kat_kind (T:=.type "int") k1 (by lia) (fun v hv=>?_) rfl ?_)
  .obtain⟨m,t,rfl⟩:=k3 v hv;exact .now
  refine aw (ni (BL (a₀:=vs.toArray.zip vs.toArray) (κ:=tuples' true) (st:=SortSt.mk' (tuples' true) (vs.toArray.zip vs.toArray) #[] 7 none)
   (Q:=fun _ bj=>(arrOf bj).Perm (vs.toArray.zip vs.toArray)/\failedOf bj=none) (BM Jx) (Array.Perm.refl _) rfl rfl rfl fun bj b1 b2=>⟨b1,b2⟩) ?_ fun _ _ e=>e)
  rintro⟨⟨⟩,bj⟩ s' ⟨rfl,Ry,hf⟩;dsimp only;refine aw (seqEpoch_at Jw rfl ?_);refine aw (listUpdate_at Jw rfl ?_ (dh _) (by refine bw (qk ((iP ..).trans (Ry.size_eq.trans Wt))) ?_;rw[jC];lia));rw[hf];simp only[bne_self_eq_false,ju,fU];exact wpAny_pure (dU bj Ry)
theorem uK{l:Addr}{vs:List Value}{Q:Value->Shared->Prop}(hl:s.heap.IsList l vs.toArray)(hp:i3 s.heap vs)(hz:vs.length<=4096)(h:∀ (out:Array Value),out.toList.Perm vs->Q (.ref (s.heap.objs.size+1)) { s with heap:=sortedAll s.heap vs out }):
  wpAny (model prog w) A (call (.builtin "sorted") [.ref l]) Q E s:=by
 have Rx:vs.length<=sizeLine:=by rw[jC];lia
 refine Calls.call_function_entry kind_sorted plain_sorted entry_sorted (args_sorted1 _) ?_;unfold Builtin.«sorted»;refine aw (m:=checkCount "sorted" 1 1 _) (wpAny_pure ?_);refine aw (collect_list hl ?_ Rx);refine aw (wpAny_newList ?_ Rx);have ku:((s.heap.push (seqObj "list" #[] 0)).update s.heap.objs.size (Obj.mapSeq (·++vs.toArray))).objs.size=s.heap.objs.size+1:=by
  rw[gO,gR]
 have Co:(((s.heap.push (seqObj "list" #[] 0)).update s.heap.objs.size (Obj.mapSeq (·++vs.toArray))).push (seqObj "list" vs.toArray 0)).get? (s.heap.objs.size+1)=some (seqObj "list" vs.toArray 0):=by
  rw[<-ku];exact cD _ rfl
 have uL:i3 (((s.heap.push (seqObj "list" #[] 0)).update s.heap.objs.size (Obj.mapSeq (·++vs.toArray))).push (seqObj "list" vs.toArray 0)) vs:=by
  intro v hv;obtain⟨b,o,n,x,t,y,u,ev,e,c,d⟩:=hp v hv;have hb:b<s.heap.objs.size:=be e;refine⟨b,o,n,x,t,y,u,ev,?_,c,d⟩;rw[fz _ _ _ (by rw[ku];exact ba (dg hb)),oy _ _ _ _ (ba hb),fz _ _ _ (ba hb)];exact e
 show wpAny _ _ _ _ _ { s with heap:=((s.heap.push (seqObj "list" #[] 0)).update s.heap.objs.size (Obj.mapSeq (·++vs.toArray))).push (seqObj "list" vs.toArray 0) };rw[ku];refine aw (fK (kS slot_list_sort ⟨_,Co,rfl⟩ entry_list_sort (o4 Co uL hz fun out a1=>⟨_,rfl,?_⟩) (args_list_sort _)));exact wpAny_pure ⟨_,rfl,h out a1⟩
end
theorem l0:∀ {as:List Addr} {its:List Value},aZ (as.map V.ref) its->its=as.map Value.ref
 |[],_,r=>by cases r;rfl
 |a::as,_,r=>by
  cases r with
  |cons r rr=>
   obtain rfl:=(show _=Value.ref a from r)
   rw[l0 rr];rfl
theorem sC:∀ {as:List Addr},aZ (as.map V.ref) (as.map Value.ref)
 |[]=>.nil
 |_::_=>.cons rfl sC
theorem BN{as:List Addr}{vs:List Value}(h:vs.Perm (as.map Value.ref)):∃xc:List Addr,vs=xc.map Value.ref/\xc.Perm as:=by
 let un:Value->Addr:=fun v=>match v with|.ref a=>a|_=>0
 refine⟨vs.map un,?_,?_⟩
 .rw[cy];have:∀v∈vs,(Value.ref ∘ un) v=v:=by
   intro v hv;obtain⟨a,_,rfl⟩:=bn.mp (h.mem_iff.mp hv);rfl
  conv=>lhs;rw[<-kZ vs]
  exact h_ fun v hv=>(this v hv).symm
 .have:=h.map un;rw[cy] at this;have e:as.map (un ∘ Value.ref)=as:=by
   conv=>rhs;rw[<-kZ as]
   exact h_ fun a _=>rfl
  rw[e] at this;exact this
def DS(K:PySem.W.Frag):List V->Hp->VK->Prop:=fun xs H Q=>∃ (l:Addr) (as:List Addr),xs=[.ref l]/\aQ K H l (as.map V.ref)/\(∀a∈as,∃x y:Int,bD K H a [.int x,.int y])/\as.length<=4096/\
 ∀ (D:Addr) (xc:List Addr),H D=none->xc.Perm as->Q (.ref D) (upd H D (.lst (xc.map V.ref)))
theorem yZ{X:Cx}:eX X (.builtin "sorted") (DS X.K):=by
 intro af s σ H xs us Q I r h;obtain⟨l,as,rfl,hl,hp,hz,q⟩:=h;obtain⟨u1,rfl,r1⟩:=r.one;obtain rfl:u1=Value.ref l:=r1;obtain⟨its,rv,pl,_⟩:=I.list hl;have yS:=l0 rv;subst yS;have YZ:i3 s.heap (as.map Value.ref):=by
  intro v hv;obtain⟨a,ha,rfl⟩:=bn.mp hv;obtain⟨x,y,Jy⟩:=hp a ha;obtain⟨its,r,⟨o,e,c,n,d⟩,_⟩:=I.tuple Jy;obtain⟨u1,u2,rfl,r1,r2⟩:=r.two;obtain⟨t,rfl⟩:=r1;obtain⟨t',rfl⟩:=r2;exact⟨a,o,n,x,t,y,t',rfl,e,c,d⟩
 refine uK pl.isList YZ (by rw[aO];exact hz) fun out ON=>?_;obtain⟨xc,eo,pa⟩:=BN ON;have BB:out=(xc.map Value.ref).toArray:=by rw[<-eo]
 subst BB;have KZ:((s.heap.push (seqObj "list" #[] 0)).update s.heap.objs.size (Obj.mapSeq (·++(as.map Value.ref).toArray))).objs.size=s.heap.objs.size+1:=by rw[gO,gR]
 have k1:∀b u,s.heap.get? b=some u->(((s.heap.push (seqObj "list" #[] 0)).update s.heap.objs.size (Obj.mapSeq (·++(as.map Value.ref).toArray))).push (seqObj "list" (as.map Value.ref).toArray 0)).get? b=some u:=fun b u e=>by
  have hb:b<s.heap.objs.size:=be e;rw[fz _ _ _ (by rw[KZ];exact ba (dg hb)),oy _ _ _ _ (ba hb),fz _ _ _ (ba hb)];exact e
 have Co:(((s.heap.push (seqObj "list" #[] 0)).update s.heap.objs.size (Obj.mapSeq (·++(as.map Value.ref).toArray))).push (seqObj "list" (as.map Value.ref).toArray 0)).get? (s.heap.objs.size+1)=some (seqObj "list" (as.map Value.ref).toArray 0):=by
  rw[<-KZ];exact cD _ rfl
 have BP:(((s.heap.push (seqObj "list" #[] 0)).update s.heap.objs.size (Obj.mapSeq (·++(as.map Value.ref).toArray))).push (seqObj "list" (as.map Value.ref).toArray 0)).objs.size=s.heap.objs.size+2:=by rw[gR,KZ]
 show EP X af σ Q (.ref (s.heap.objs.size+1)) { s with heap:=sortedHeap (((s.heap.push (seqObj "list" #[] 0)).update s.heap.objs.size (Obj.mapSeq (·++(as.map Value.ref).toArray))).push (seqObj "list" (as.map Value.ref).toArray 0)) (s.heap.objs.size+1) (as.map Value.ref) (xc.map Value.ref).toArray };revert k1 Co BP;generalize ((s.heap.push (seqObj "list" #[] 0)).update s.heap.objs.size (Obj.mapSeq (·++(as.map Value.ref).toArray))).push (seqObj "list" (as.map Value.ref).toArray 0)=h1;intro k1 Co BP;obtain⟨e1,M7⟩:∃e1,(h1.update (s.heap.objs.size+1) (Obj.mapSeq fun _=>(#[]:Array Value))).get? (s.heap.objs.size+1)=some (seqObj "list" #[] e1):=⟨_,ql Co (fun _=>#[])⟩
 have Jw:(((h1.update (s.heap.objs.size+1) (Obj.mapSeq fun _=>(#[]:Array Value))).push (seqObj "tuple" (as.map Value.ref).toArray 0)).push (seqObj "list" #[] 0)).get? (s.heap.objs.size+1)=some (seqObj "list" #[] e1):=by
  rw[fz _ _ _ (by rw[gR,gO,BP];exact ba (dg (iN _))),fz _ _ _ (by rw[gO,BP];exact ba (iN _))];exact M7
 obtain⟨e2,Y0⟩:∃e2,(sortedHeap h1 (s.heap.objs.size+1) (as.map Value.ref) (xc.map Value.ref).toArray).get? (s.heap.objs.size+1)=some (seqObj "list" (xc.map Value.ref).toArray e2):=⟨_,ql Jw (fun _=>(xc.map Value.ref).toArray)⟩
 have keep:∀b u,s.heap.get? b=some u->(sortedHeap h1 (s.heap.objs.size+1) (as.map Value.ref) (xc.map Value.ref).toArray).get? b=some u:=fun b u e=>by
  have hb:b<s.heap.objs.size:=be e;unfold sortedHeap;rw[oy _ _ _ _ (ba (dg hb)),fz _ _ _ (by rw[gR,gO,BP];exact ba (dg (dg (dg hb)))),fz _ _ _ (by rw[gO,BP];exact ba (dg (dg hb))),oy _ _ _ _ (ba (dg hb))];exact k1 b u e
 have wq:s.heap.get? (s.heap.objs.size+1)=none:=mL (by lia);refine⟨.ref (s.heap.objs.size+1),_,I.vW (t':=s.toks) (o:=.lst (xc.map V.ref)) keep wq ⟨?_,xc.map Value.ref,e2,sC,Y0⟩,rfl,q _ xc (I.cL.qA wq) pa⟩;rw[aO,pa.length_eq];exact bw hz (by decide)
open PySem PySem.Spec PyProof.Rows
theorem cC(sb:Heap.SameBut c h h')(n:b≠c)(e:h.get? b=some o):h'.get? b=some o:=(sb.2 b n).trans e
theorem fq(r:h.IsTupleIter it t k)(sb:Heap.SameBut c h h')(n:it≠c):h'.IsTupleIter it t k:=r.at fun o e=>cC sb n e
theorem qL(r:h.IsTuple t xs)(sb:Heap.SameBut c h h')(n:t≠c):h'.IsTuple t xs:=let ⟨o,e,z⟩:=r;⟨o,cC sb n e,z⟩
section
variable {prog:Program} {w:World} {A:Around} {E:Value->Shared->Prop} {s:Shared}
theorem BQ{z ti tq i1 i2 t1 t2:Addr}{k:Nat}{xs ys:Array Value}{x y a b:Value}{Q:Value->Shared->Prop}(dj:ZipApart z ti tq i1 i2 t1 t2)(gz:IsZip s.heap z ti tq .none)(gi:IsPair s.heap ti (.ref i1) (.ref i2))(gq:IsPair s.heap tq a b)(r1:s.heap.IsTupleIter i1 t1 k)(r2:s.heap.IsTupleIter i2 t2 k)(g1:s.heap.IsTuple t1 xs)(g2:s.heap.IsTuple t2 ys)(ex:xs[k]?=some x)(ey:ys[k]?=some y)(q:∀h',IsZip h' z ti tq (rawInt s.heap.objs.size)->IsPair h' tq x y->h'.IsTupleIter i1 t1 (k+1)->h'.IsTupleIter i2 t2 (k+1)->IsPair h' s.heap.objs.size x y->(∀c o,c≠z->c≠tq->c≠i1->c≠i2->s.heap.get? c=some o->h'.get? c=some o)->Q (.ref s.heap.objs.size) { s with heap:=h' }):
  wpAny (model prog w) A (Builtin.«zip.__next__» ⟨[.ref z],[]⟩) (fun dU s'=>∃v,dU=.done (.ret v)/\Q v s') E s:=by
 change wpAny _ _ (field (.ref z) 2 >>= _) _ _ _;refine aw (gQ gz rfl (x:=.bool false) rfl ?_);change wpAny _ _ (field (.ref z) 3 >>= _) _ _ _;refine aw (gQ gz rfl (x:=.ref ti) rfl (aw (iQ gi rfl ?_)));change wpAny _ _ (Builtin.SmallTypes.ownedTupleIsFree (.ref z) >>= _) _ _ _;refine aw ?_;unfold Builtin.SmallTypes.ownedTupleIsFree;refine aw (gQ gz rfl (x:=.none) rfl (wpAny_pure ?_));simp only[iw];refine aw (gm (aw (gQ gz rfl (x:=.ref tq) rfl ?_)));refine aw (qe gz (by simp) fun m1 GT mE=>?_);replace GT:IsZip m1 z ti tq .ellipsis:=GT;refine aw ?_;simp only[xX,List.zipIdx_nil,tT,tW];refine aw (aw (wpAny_onRaise ?_));change wpAny _ _ (Builtin.SmallTypes.nextOf (.ref i1) >>= _) _ _ _;refine aw (qE (fq r1 mE dj.i1z) (qL g1 mE dj.l1z) ex fun m2 Y1 lC=>wpAny_pure ?_);have Wu:IsPair m2 tq a b:=cC lC dj.TOi1 (cC mE dj.TOz gq);refine aw (iQ Wu rfl (aw (wpAny_updateSeq_pair Wu fun m3 TX GU=>?_)));replace TX:IsPair m3 tq x b:=TX;refine aw (wpAny_letGo (wpAny_pure ?_));refine aw (aw (wpAny_onRaise ?_));change wpAny _ _ (Builtin.SmallTypes.nextOf (.ref i2) >>= _) _ _ _;refine aw (qE (fq (fq (fq r2 mE dj.i2z) lC dj.i12.symm) GU dj.TOi2.symm) (qL (qL (qL g2 mE dj.l2z) lC dj.l2i1) GU dj.l2TO) ey fun m4 Y2 OO=>wpAny_pure ?_);have Wv:IsPair m4 tq x b:=cC OO dj.TOi2 TX;refine aw (iQ Wv rfl (aw (wpAny_updateSeq_pair Wv fun m5 Rz OP=>?_)));replace Rz:IsPair m5 tq x y:=Rz;refine aw (wpAny_letGo (wpAny_pure (wpAny_pure ?_)));refine aw (iQ Rz rfl (aw (wpAny_newTuple ?_)));have sz:m5.objs.size=s.heap.objs.size:=by rw[OP.1,OO.1,GU.1,lC.1,mE.1]
 have Ww:IsZip m5 z ti tq .ellipsis:=cC OP dj.TOz.symm (cC OO dj.i2z.symm (cC GU dj.TOz.symm (cC lC dj.i1z.symm GT)));have Y3:∀c o,c≠z->c≠tq->c≠i1->c≠i2->s.heap.get? c=some o->m5.get? c=some o:=fun c o c1 c2 c3 c4 e=>
  cC OP c2 (cC OO c4 (cC GU c2 (cC lC c3 (cC mE c1 e))))
 have Y4:m5.IsTupleIter i1 t1 (k+1):=fq (fq (fq Y1 GU dj.TOi1.symm) OO dj.i12) OP dj.TOi1.symm;have Y5:m5.IsTupleIter i2 t2 (k+1):=fq Y2 OP dj.TOi2.symm;have zl:z<m5.objs.size:=be Ww;change wpAny _ _ (Builtin.SmallTypes.ownedTupleHandOut (.ref z) (.ref m5.objs.size) >>= _) _ _ _;refine aw ?_;unfold Builtin.SmallTypes.ownedTupleHandOut;have Y6:IsZip (m5.push { cls:=.type "tuple",data:=.seq #[x,y] }) z ti tq .ellipsis:=bV _ Ww;refine aw (qe Y6 (by simp) fun m7 TY Wx=>?_);replace TY:IsZip m7 z ti tq (rawInt m5.objs.size):=TY;refine qe TY (by simp) fun m8 RA Wy=>?_;replace RA:IsZip m8 z ti tq (rawInt m5.objs.size):=RA;have up:∀c o,c≠z->m5.get? c=some o->m8.get? c=some o:=fun c o c1 e=>cC Wy c1 (cC Wx c1 (bV _ e));have Wz:IsPair m8 m5.objs.size x y:=cC Wy (iS zl) (cC Wx (iS zl) (cD _ rfl));rw[sz] at RA Wz;refine wpAny_pure ⟨_,rfl,?_⟩;change Q (.ref m5.objs.size) _;rw[sz];exact q m8 RA (up _ _ dj.TOz Rz) (Y4.at fun o e=>up _ o dj.i1z e) (Y5.at fun o e=>up _ o dj.i2z e) Wz fun c o c1 c2 c3 c4 e=>up c o c1 (Y3 c o c1 c2 c3 c4 e)
theorem DT(hh:A.handled=none)(dj:ZipApart z ti tq i1 i2 t1 t2)(gz:IsZip s.heap z ti tq .none)(gi:IsPair s.heap ti (.ref i1) (.ref i2))(r1:s.heap.IsTupleIter i1 t1 k)(g1:s.heap.IsTuple t1 xs)(ex:xs[k]?=none)(q:∀h' e,(∀c o,c≠z->c≠i1->s.heap.get? c=some o->h'.get? c=some o)->(∃o,h'.get? e=some o/\o.cls=.type "StopIteration")->E (.ref e) { s with heap:=h' }):
  wpAny (model prog w) A (Builtin.«zip.__next__» ⟨[.ref z],[]⟩) Q E s:=by
 change wpAny _ _ (field (.ref z) 2 >>= _) _ _ _;refine aw (gQ gz rfl (x:=.bool false) rfl ?_);change wpAny _ _ (field (.ref z) 3 >>= _) _ _ _;refine aw (gQ gz rfl (x:=.ref ti) rfl (aw (iQ gi rfl ?_)));change wpAny _ _ (Builtin.SmallTypes.ownedTupleIsFree (.ref z) >>= _) _ _ _;refine aw ?_;unfold Builtin.SmallTypes.ownedTupleIsFree;refine aw (gQ gz rfl (x:=.none) rfl (wpAny_pure ?_));simp only[iw];refine aw (gm (aw (gQ gz rfl (x:=.ref tq) rfl ?_)));refine aw (qe gz (by simp) fun m1 GT mE=>?_);replace GT:IsZip m1 z ti tq .ellipsis:=GT;refine aw ?_;simp only[xX,List.zipIdx_nil,tT,tW];refine aw (aw (wpAny_onRaise ?_));change wpAny _ _ (Builtin.SmallTypes.nextOf (.ref i1) >>= _) _ _ _;refine aw (BE hh (fq r1 mE dj.i1z) (qL g1 mE dj.l1z) ex fun m2 e lC he=>?_);obtain⟨oe,TZ,WB⟩:=he;have RB:IsZip m2 z ti tq .ellipsis:=lC _ _ dj.i1z.symm GT;have Y7:e≠z:=fun y=>by subst y;rw[RB] at TZ;cases TZ;simp at WB
 exact qe RB (by simp) fun m3 _ GU=>q m3 e (fun c o c1 c3 y=>cC GU c1 (lC _ _ c3 (cC mE c1 y))) ⟨oe,cC GU Y7 TZ,WB⟩
theorem y3(dj:ZipApart z ti tq i1 i2 t1 t2)(gz:IsZip s.heap z ti tq .none)(gi:IsPair s.heap ti (.ref i1) (.ref i2))(gq:IsPair s.heap tq a b)(r1:s.heap.IsTupleIter i1 t1 k)(r2:s.heap.IsTupleIter i2 t2 k)(g1:s.heap.IsTuple t1 xs)(g2:s.heap.IsTuple t2 ys)(ex:xs[k]?=some x)(ey:ys[k]?=some y)(q:∀h',IsZip h' z ti tq (rawInt s.heap.objs.size)->IsPair h' tq x y->h'.IsTupleIter i1 t1 (k+1)->h'.IsTupleIter i2 t2 (k+1)->IsPair h' s.heap.objs.size x y->(∀c o,c≠z->c≠tq->c≠i1->c≠i2->s.heap.get? c=some o->h'.get? c=some o)->Q (some (.ref s.heap.objs.size)) { s with heap:=h' }):
  wpAny (model prog w) A (pyNext (.ref z)) Q E s:=by
 have ty:s.TypeIs (.ref z) "zip":=⟨_,gz,rfl⟩
 unfold pyNext;refine aw (ub (mJ (name:=Str.ofString "__next__") ty F.slot_zip_next (kS F.slot_zip_next ty F.entry_zip_next ?_ (F.args_zip_next_1 _))));exact BQ dj gz gi gq r1 r2 g1 g2 ex ey fun h' a1 a2 a3 a4 a5 a6=>wpAny_pure (q h' a1 a2 a3 a4 a5 a6)
theorem y4(hh:A.handled=none)(dj:ZipApart z ti tq i1 i2 t1 t2)(gz:IsZip s.heap z ti tq .none)(gi:IsPair s.heap ti (.ref i1) (.ref i2))(r1:s.heap.IsTupleIter i1 t1 k)(g1:s.heap.IsTuple t1 xs)(ex:xs[k]?=none)(q:∀h',(∀c o,c≠z->c≠i1->s.heap.get? c=some o->h'.get? c=some o)->Q none { s with heap:=h' }):wpAny (model prog w) A (pyNext (.ref z)) Q E s:=by
 have ty:s.TypeIs (.ref z) "zip":=⟨_,gz,rfl⟩
 unfold pyNext;refine aw (ub (mJ (name:=Str.ofString "__next__") ty F.slot_zip_next (kS F.slot_zip_next ty F.entry_zip_next (DT hh dj gz gi r1 g1 ex fun h' e hk he=>?_) (F.args_zip_next_1 _))));obtain⟨o,ho,hc⟩:=he;exact aw (wpAny_isInstance (T:="StopIteration") (b:=true) ⟨o,ho,hc⟩ isSubtype_stop (wpAny_pure (q _ hk)))
abbrev zT(t:Addr):Obj:={ cls:=.type "tuple_iterator",data:=.fields #[.ref t,.int 0 0] }
abbrev RC(h:Heap)(t1 t2:Addr):Heap:=((h.push (zT t1)).push (zT t2)).push { cls:=.type "tuple",data:=.seq #[.ref h.objs.size,.ref (h.push (zT t1)).objs.size] }
abbrev RD(h:Heap)(t1 t2:Addr):Heap:=(RC h t1 t2).push { cls:=.type "tuple",data:=.seq #[.none,.none] }
abbrev M8(h:Heap)(t1 t2:Addr):Heap:=(RD h t1 t2).push { cls:=.type "zip",data:=.fields #[.none,.bool false,.bool false,.ref ((h.push (zT t1)).push (zT t2)).objs.size,.ref (RC h t1 t2).objs.size] }
theorem DU(t1 t2:Addr)(xs ys:Array Value):
  Meets (Builtin.«zip.__new__» ⟨[.type "zip",.ref t1,.ref t2],[]⟩) (fun _ R s=>s.heap.IsTuple t1 xs/\s.heap.IsTuple t2 ys/\R (.ok (.ret (.ref (RD s.heap t1 t2).objs.size))) { s with heap:=M8 s.heap t1 t2 }):=
 .of_wp fun prog w A R s h=>by
  obtain⟨hp,g,d,tk,os⟩:=s;obtain⟨g1,g2,h⟩:=h;have Y8:=sub_zip;have gA:Heap.IsTuple (Shared.heap ⟨hp,g,d,tk,os⟩) t1 xs:=g1;have gB:Heap.IsTuple (Shared.heap ⟨hp.push (zT t1),g,d,tk,os⟩) t2 ys:=let ⟨o,e,z⟩:=g2;⟨o,bV _ e,z⟩
  wp_walk using x0 gA,x0 gB
  exact⟨_,rfl,h⟩
theorem BR(g1:s.heap.IsTuple t1 xs)(g2:s.heap.IsTuple t2 ys)(q:∀h',IsZip h' (s.heap.objs.size+4) (s.heap.objs.size+2) (s.heap.objs.size+3) .none->IsPair h' (s.heap.objs.size+2) (.ref s.heap.objs.size) (.ref (s.heap.objs.size+1))->IsPair h' (s.heap.objs.size+3) .none .none->
   h'.IsTupleIter s.heap.objs.size t1 0->h'.IsTupleIter (s.heap.objs.size+1) t2 0->(∀c o,s.heap.get? c=some o->h'.get? c=some o)->Q (.ref (s.heap.objs.size+4)) { s with heap:=h' }):
  wpAny (model prog w) A (call (.type "zip") [.ref t1,.ref t2]) Q E s:=by
 refine callType_new F.called_zip (by decide) (F.typeCall_zip_2 _ _) (F.newCall_zip_2 _ _) (fun obj=>F.args_object_init_3 obj _ _) F.entry_zip_new (DU t1 t2 xs ys) ⟨g1,g2,?_⟩;have n1:(s.heap.push (zT t1)).objs.size=s.heap.objs.size+1:=jg ..;have n2:((s.heap.push (zT t1)).push (zT t2)).objs.size=s.heap.objs.size+2:=by rw[jg,n1]
 have n3:(RC s.heap t1 t2).objs.size=s.heap.objs.size+3:=by rw[jg,n2]
 have n4:(RD s.heap t1 t2).objs.size=s.heap.objs.size+4:=by rw[jg,n3]
 have e5:(M8 s.heap t1 t2).get? (RD s.heap t1 t2).objs.size=some _:=cD _ rfl;have e4:(M8 s.heap t1 t2).get? (RC s.heap t1 t2).objs.size=some _:=bV _ (cD _ rfl);have e3:(M8 s.heap t1 t2).get? ((s.heap.push (zT t1)).push (zT t2)).objs.size=some _:=bV _ (bV _ (cD _ rfl));have e2:(M8 s.heap t1 t2).get? (s.heap.push (zT t1)).objs.size=some _:=bV _ (bV _ (bV _ (cD _ rfl)));have e1:(M8 s.heap t1 t2).get? s.heap.objs.size=some _:=bV _ (bV _ (bV _ (bV _ (cD _ rfl))));change _/\_;rw[n2,n3,n4] at e5;rw[n1,n2] at e3;rw[n3] at e4;rw[n1] at e2;rw[n4];exact⟨⟨_,e5,rfl⟩,q _ e5 e3 e4 ⟨_,e1,rfl,rfl⟩ ⟨_,e2,rfl,rfl⟩ fun c o y=>
  bV _ (bV _ (bV _ (bV _ (bV _ y))))⟩
end
theorem aT.GV{X:Cx}{af:List (Addr×Obj)}{σ:St}{H:Hp}{s:Shared}{h':Heap}{t':Nat}{ch:List Addr}(I:aT X af σ H s)(fe:∀e∈ch,jk X af H e)(k:∀b o,b∉ch->s.heap.get? b=some o->h'.get? b=some o):aT X af σ H { s with heap:=h',toks:=t' }:=by
 have Jb:∀b u,H b=some u->b∉ch:=fun b u e z=>by rw[(fe b z).1] at e;cases e
 refine I.step (g':=s.gens) (d':=s.drawn) (ch:=ch) (fun b hb=>?_) (fun b o _ _ hc e _=>k b o hc e) (fun b o _ _ hc e _=>⟨o.slots,k b o hc e⟩) (fun _ _ _ _ n=>n) (fun b o hc e=>⟨o,k b o hc e⟩) (fun _ _ e=>e) (fun _ _ _ e=>e) (fun b ps e=>⟨#[],by rw[e];simp⟩) (fun m hm=>?_) (fun b u e=>?_) I.bare
 .obtain⟨_,f1,_,f3,f4,f5⟩:=fe b hb;exact⟨f3,f1,f4,f5⟩
 .obtain⟨o,es,ep,ho,r⟩:=hm;exact⟨o,es,ep,k _ o (fun z=>(fe _ z).2.1 rfl) ho,r⟩
 .refine(I.cL b u e).rj (fun c v hc q=>k c v ?_ q) (fun _ q=>q) fun _ _ q=>q;rcases hc with z|z
  .rw[z];exact Jb b u e
  .exact Jb c _ z
theorem aT.GW{X:Cx}{af:List (Addr×Obj)}{σ:St}{H:Hp}{s:Shared}{h':Heap}{p:Addr}{t':Nat}{ch:List Addr}{xs:List V}{its:List Value}(I:aT X af σ H s)(fe:∀e∈ch,jk X af H e)(k:∀b o,b∉ch->s.heap.get? b=some o->h'.get? b=some o)(hp:s.heap.objs.size<=p)(hl:xs.length<=sizeLine)(r:aZ xs its)(ht:h'.get? p=some { cls:=.type "tuple",data:=.seq its.toArray }):aT X af σ (upd H p (.tup xs)) { s with heap:=h',toks:=t' }:=by
 have hn:=I.cL.fresh hp;have ne:∀b o,s.heap.get? b=some o->b≠p:=fun b o q=>ba (cA (be q) hp);have Jb:∀b u,H b=some u->b∉ch:=fun b u e z=>by rw[(fe b z).1] at e;cases e
 refine I.step (g':=s.gens) (d':=s.drawn) (ch:=ch) (fun b hb=>?_) (fun b o _ _ hb q _=>k b o hb q) (fun b o _ _ hb q _=>⟨o.slots,k b o hb q⟩) (fun b o hb q n=>by rw[aj (ne b o q)];exact n) (fun b o hb q=>⟨o,k b o hb q⟩)
  (fun b ys q=>by rw[aj (ak q hn)];exact q) (fun b o u q=>by rw[aj (ak q hn)];exact q) (fun b ps q=>⟨#[],by rw[aj (ak q hn),q];simp⟩) (fun m hm=>?_) (fun b o q=>?_) I.bare
 .obtain⟨_,f1,_,f3,f4,f5⟩:=fe b hb;exact⟨f3,f1,f4,f5⟩
 .obtain⟨o,es,ep,q,d,r'⟩:=hm;exact⟨o,es,ep,k _ _ (fun z=>(fe _ z).2.1 rfl) q,d,r'⟩
 .by_cases hb:b=p
  .subst hb;rw[ab] at q;cases q;exact⟨hl,its,r,_,ht,rfl,_,rfl,rfl⟩
  .rw[aj hb] at q;refine(I.cL b o q).rj (fun c u hc z=>k c u ?_ z) (fun c z=>by rw[aj (ak z hn)];exact z) fun c ys z=>by rw[aj (ak z hn)];exact z
   rcases hc with rfl|hc
   .exact Jb _ _ q
   .exact Jb _ _ hc
def T4(K:PySem.W.Frag)(a b:Addr):It:=
 ⟨fun i H=>∃xs ys x y,bD K H a xs/\bD K H b ys/\xs[i]?=some x/\ys[i]?=some y,fun i H v H'=>∃p x y,v=.ref p/\H p=none/\H'=upd H p (.tup [x,y])/\(∀xs,bD K H a xs->xs[i]?=some x)/\∀ys,bD K H b ys->ys[i]?=some y,fun i H=>∃xs,bD K H a xs/\xs.length<=i⟩
theorem DV{P:Program}{w:World}{K:PySem.W.Frag}{es:List Expr}{x1:Nat}{pos:Pos}(a b z ti tq i1 i2:Addr)(dj:ZipApart z ti tq i1 i2 a b):
  ym P w K (.Tuple es x1 pos) (T4 K a b) [z,ti,tq,i1,i2] z (fun i h=>IsZip h z ti tq .none/\IsPair h ti (.ref i1) (.ref i2)/\(∃u v,IsPair h tq u v)/\h.IsTupleIter i1 a i/\h.IsTupleIter i2 b i) where
 mem:=by simp
 obj:=fun i h st c hc=>by
  obtain⟨gz,gi,⟨u,v,gq⟩,⟨o1,q1,c1,d1⟩,⟨o2,q2,c2,d2⟩⟩:=st;simp only[bX,jw,jD] at hc;rcases hc with rfl|rfl|rfl|rfl|rfl
  .exact⟨_,gz,fun v z=>by have z':Data.fields _=Data.cell v:=z;cases z'⟩
  .exact⟨_,gi,fun v z=>by have z':Data.seq _ _=Data.cell v:=z;cases z'⟩
  .exact⟨_,gq,fun v z=>by have z':Data.seq _ _=Data.cell v:=z;cases z'⟩
  .exact⟨o1,q1,fun v z=>by rw[d1] at z;cases z⟩
  .exact⟨o2,q2,fun v z=>by rw[d2] at z;cases z⟩
 keep:=fun i h h' st k=>by
  obtain⟨gz,gi,⟨u,v,gq⟩,r1,r2⟩:=st;exact⟨k z (by simp) _ gz,k ti (by simp) _ gi,⟨u,v,k tq (by simp) _ gq⟩,r1.at fun o q=>k i1 (by simp) o q,r2.at fun o q=>k i2 (by simp) o q⟩
 item:=by
  intro X hP hw hK hc i af s σ H E I hf st hg;subst hP hw hK;obtain⟨xs,ys,x,y,hx,hy,ex,ey⟩:=hg;obtain⟨us,rx,px,_⟩:=I.tuple hx;obtain⟨vs,ry,py,_⟩:=I.tuple hy;obtain⟨u,hu,ru⟩:=rx.get ex;obtain⟨v,hv,rv⟩:=ry.get ey;obtain⟨gz,gi,⟨u0,v0,gq⟩,r1,r2⟩:=st;refine y3 dj gz gi gq r1 r2 (show s.heap.IsTuple a us.toArray from px) (show s.heap.IsTuple b vs.toArray from py) (x:=u) (y:=v) (by simpa using hu) (by simpa using hv) fun h1 GT Y9 Y_ Za Zb kp=>?_;refine⟨_,rfl,wpAny_letOwnedTupleGo_zip GT fun h2 RB lC=>?_⟩;have zl:z<s.heap.objs.size:=be gz;have nz:s.heap.objs.size≠z:=iS zl;have WC:∀c o,c∉[z,tq,i1,i2]->s.heap.get? c=some o->h2.get? c=some o:=fun c o hc e=>by
   simp only[bX,jw,jD,not_or] at hc;exact cC lC hc.1 (kp c o hc.1 hc.2.1 hc.2.2.1 hc.2.2.2 e)
  have Zc:IsPair h2 ti (.ref i1) (.ref i2):=WC _ _ (by simp only[bX,jw,jD,not_or];exact⟨dj.TIz,dj.TITO,dj.TIi1,dj.TIi2⟩) gi;have fe:∀e∈[z,tq,i1,i2],jk X af H e:=fun e he=>hf e (by simp only[bX,jw,jD] at he |-;rcases he with h|h|h|h <;> simp[h]);have I2:aT X af σ (upd H s.heap.objs.size (.tup [x,y])) { s with heap:=h2,toks:=s.toks }:=
   I.GW (its:=[u,v]) fe WC (aU _) (by show 2<=sizeLine;decide) (.cons ru (.cons rv .nil)) (cC lC nz Zb)
  refine⟨.ref s.heap.objs.size,_,I2,rfl,⟨_,x,y,rfl,I.cL.fresh (aU _),rfl,fun zs hz=>by rw[I.fW hz hx];exact ex,fun zs hz=>by rw[I.fW hz hy];exact ey⟩,⟨RB,Zc,⟨u,v,cC lC dj.TOz Y9⟩,fq Y_ lC dj.i1z,fq Za lC dj.i2z⟩,fun c hc=>?_⟩;have f0:=(hf c hc).1;have cl:c<s.heap.objs.size:=by
   simp only[bX,jw,jD] at hc;rcases hc with rfl|rfl|rfl|rfl|rfl
   .exact zl
   .exact be gi
   .exact be gq
   .obtain⟨o,q,_⟩:=r1;exact be q
   .obtain⟨o,q,_⟩:=r2;exact be q
  rw[aj (ba cl)];exact f0
 done:=by
  intro X hP hw hK hc i af s σ H E I hf st hg;subst hP hw hK;obtain⟨xs,hx,hi⟩:=hg;obtain⟨us,rx,px,_⟩:=I.tuple hx;obtain⟨gz,gi,⟨u0,v0,gq⟩,r1,r2⟩:=st;have hl:=rx.length;refine y4 (I.ok.hd hc) dj gz gi r1 (show s.heap.IsTuple a us.toArray from px) (by simp;lia) fun h' kp=>⟨rfl,?_⟩
  have fe:∀e∈[z,i1],jk X af H e:=fun e he=>hf e (by simp only[bX,jw,jD] at he |-;rcases he with h|h <;> simp[h]);refine I.GV (t':=s.toks) fe fun c o hc e=>?_;simp only[bX,jw,jD,not_or] at hc;exact kp c o hc.1 hc.2 e
 self:=fun _ _ _ _ _ st h=>wpAny_pyIter_zip st.1 h
section
variable {X:Cx}
def OQ(K:PySem.W.Frag)(ta:TA):TI:=fun σ H R=>ta σ H fun vs H1=>∃a b xs ys,vs=[.ref a,.ref b]/\bD K H1 a xs/\bD K H1 b ys/\xs.length=ys.length/\R (T4 K a b) H1
theorem GX{es:List Expr}{x1:Nat}{Kp:Pos}{a b:Expr}{ta:TA}{p pos:Pos}(hg:Gl X "zip")(hm:X.mg "zip"=none)(ha:PA X [a,b] ta)(hs:starEach [a,b] X.env=[(false,eval a X.env),(false,eval b X.env)]:=by rfl)(qt:starEach [b] X.env=[(false,eval b X.env)]:=by rfl):
  PI X (.Tuple es x1 Kp) (.Call (.Name "zip" p) [a,b] [] pos) (OQ X.K ta):=by
 intro af s σ H R I h;refine Call_ (k6 I hg hm PyProof.Rows.boot_zip (sV (cV (ha pos af s σ H _ I h) fun us s1 ⟨vs,H1,I1,r1,q1⟩=>?_) (by rw[hs,qt]) (by rw[qt];rfl)));obtain⟨l,m,xs,ys,rfl,hl,T5,Jy,q⟩:=q1;obtain⟨u1,u2,rfl,Zd,Ze⟩:=r1.two;obtain rfl:u1=Value.ref l:=Zd;obtain rfl:u2=Value.ref m:=Ze;obtain⟨its,rv,pt,_⟩:=I1.tuple hl;obtain⟨jN,rv2,MV,_⟩:=I1.tuple T5;have e_:l<s1.heap.objs.size:=by obtain⟨o,e,_⟩:=pt;exact be e
 have K0:m<s1.heap.objs.size:=by obtain⟨o,e,_⟩:=MV;exact be e
 refine BR (show s1.heap.IsTuple l its.toArray from pt) (show s1.heap.IsTuple m jN.toArray from MV) fun h' gz gi gq r1 r2 k=>?_;refine wpAny_pyIter_zip gz ?_;have I2:aT X af σ H1 { s1 with heap:=h' }:=I1.kept (t':=s1.toks) k;refine⟨s1.heap.objs.size+4,[s1.heap.objs.size+4,s1.heap.objs.size+2,s1.heap.objs.size+3,s1.heap.objs.size,s1.heap.objs.size+1],_,_,H1,rfl,I2,DV l m _ _ _ _ _ (zipApart_new e_ K0),⟨gz,gi,⟨_,_,gq⟩,r1,r2⟩,fun b hb=>?_,q⟩;have xa:s1.heap.objs.size<=b:=by
  simp only[bX,jw,jD] at hb;rcases hb with rfl|rfl|rfl|rfl|rfl
  .exact tO _ _
  .exact tO _ _
  .exact tO _ _
  .exact aU _
  .exact tO _ _
 exact I1.C2 xa (I1.cL.fresh xa)
theorem DW{K:PySem.W.Frag}{a b D:Addr}{xs ys:List V}{g:TG}{tt:TT}{te:TE}{dU:Hp->Prop}{σB:St}{H0:Hp}(Jy:xs.length=ys.length)(Pv:Nat->List V->St->Hp->Prop)(h0:Pv 0 [] σB H0)(hl:∀i zs σ H,i<=xs.length->Pv i zs σ H->bD K H a xs/\bD K H b ys)(hs:∀i x y p zs σ H (Kt:V->St->Hp->Prop) (Kf:St->Hp->Prop),xs[i]?=some x->ys[i]?=some y->Pv i zs σ H->H p=none->
   (∀v σ2 H4,H4 D=some (.lst zs)->zs.length<sizeLine->Pv (i+1) (zs++[v]) σ2 (upd H4 D (.lst (zs++[v])))->Kt v σ2 H4)->(∀σ2 H3,Pv (i+1) zs σ2 H3->Kf σ2 H3)->
   g (.ref p) σ (upd H p (.tup [x,y])) fun σ2 H2=>tt σ2 H2 fun b H3=>if b=true then te σ2 H3 fun v H4=>Kt v σ2 H4 else Kf σ2 H3)(hd:∀zs σ H,Pv xs.length zs σ H->dU H):fP (T4 K a b) g tt te D dU σB H0:=by
 refine⟨fun i m σ H=>m=xs.length-i/\i<=xs.length/\∃zs,Pv i zs σ H,⟨xs.length,by simp,dh _,[],h0⟩,?_⟩;rintro i m σ H ⟨rfl,hi,zs,p⟩;obtain⟨q1,q2⟩:=hl i zs σ H hi p;by_cases e_:i<xs.length
 .have K0:i<ys.length:=by lia
  refine .inr ⟨⟨xs,ys,xs[i],ys[i],q1,q2,by simp[e_],by simp[K0]⟩,?_⟩;rintro v H' ⟨pp,x,y,rfl,hn,rfl,Oq,Zf⟩;exact hs i x y pp zs σ _ (fun v σ2 H4=>∃zs,H4 D=some (.lst zs)/\zs.length<sizeLine/\∃m',m'<xs.length-i/\m'=xs.length-(i+1)/\i+1<=xs.length/\∃vE,Pv (i+1) vE σ2 (upd H4 D (.lst (zs++[v]))))
   (fun σ2 H3=>∃m',m'<xs.length-i/\m'=xs.length-(i+1)/\i+1<=xs.length/\∃vE,Pv (i+1) vE σ2 H3) (Oq xs q1) (Zf ys q2) p hn
   (fun v σ2 H4 z1 z2 z3=>⟨zs,z1,z2,_,by lia,rfl,e_,_,z3⟩) (fun σ2 H3 z=>⟨_,by lia,rfl,e_,_,z⟩)
 .have e:i=xs.length:=by lia
  subst e;exact .inl ⟨⟨xs,q1,aU _⟩,hd zs σ H p⟩
theorem y6(rx:aZ xs us)(ry:aZ ys vs)(fx:xs.all dJ=true)(fy:ys.all dJ=true):
  ∀j (h1:j<us.toArray.size) (h2:j<vs.toArray.size),SeqAt.EqAt A s us.toArray[j] vs.toArray[j] (iX (xs.getD j .b_) (ys.getD j .b_)):=by
 intro j h1 h2;have j1:j<xs.length:=by rw[rx.length];simpa using h1
 have j2:j<ys.length:=by rw[ry.length];simpa using h2
 have e1:xs[j]?=some (xs.getD j .b_):=by rw[bb,bO j1];rfl
 have e2:ys[j]?=some (ys.getD j .b_):=by rw[bb,bO j2];rfl
 obtain⟨u,Tk,ru⟩:=rx.get e1;obtain⟨v,Oq,rv⟩:=ry.get e2;have eu:us.toArray[j]=u:=by
  have:us[j]?=some us.toArray[j]:=by simp at h1 |-
  rw[Tk] at this;exact(bW this).symm
 have ev:vs.toArray[j]=v:=by
  have:vs[j]?=some vs.toArray[j]:=by simp at h2 |-
  rw[Oq] at this;exact(bW this).symm
 rw[eu,ev];exact Di ru rv (jc.mp fx _ (cm e1)) (jc.mp fy _ (cm e2))
theorem wr(I:aT X af σ H s)(hu:A.units+1<cLine)(ha:bD X.K H a xs)(hb:bD X.K H b ys)(hl:xs.length=ys.length)(fx:xs.all dJ=true)(fy:ys.all dJ=true):
  SeqAt.EqAt A s (.ref a) (.ref b) (g7 iX xs ys):=by
 by_cases oH:a=b
 .subst oH;have e1:=I.fW ha hb;subst e1;have e2:g7 iX xs xs=true:=by
   clear ha hb hl fy;induction xs with
   |nil=>rfl
   |cons x xs ih=>
    rw[jA,fE] at fx;rw[g7,ih fx.2,yi];cases x <;> first|rfl|(show (_==_)=true;simp)|exact absurd (show false=true from fx.1) cp
  rw[e2];exact SeqAt.EqAt.same _
 .obtain⟨us,r1,p1,_⟩:=I.tuple ha;obtain⟨vs,r2,p2,_⟩:=I.tuple hb;have h:=SeqAt.RcAt.tuples (A:=A) (s:=s) (l:=a) (b:=b) (e:=fun i=>iX (xs.getD i .b_) (ys.getD i .b_)) (show s.heap.IsTuple a us.toArray from p1) (show s.heap.IsTuple b vs.toArray from p2) (by lia)
   (y6 r1 r2 fx fy)
  refine SeqAt.EqAt.of_refs oH ?_;have er:((List.range (min us.toArray.size vs.toArray.size)).all (fun i=>iX (xs.getD i .b_) (ys.getD i .b_))&&us.toArray.size==vs.toArray.size)=g7 iX xs ys:=by
   rw[bQ,bQ,<-r1.length,<-r2.length,<-hl,Nat.min_self,beq_self_eq_true,yi,ig hl]
  rw[er] at h;exact h
theorem y7{p q:Int×Int}:g7 iX [.int p.1,.int p.2] [.int q.1,.int q.2]=decide (p=q):=by
 obtain⟨a,b⟩:=p;obtain⟨c,d⟩:=q;show ((a==c)&&((b==d)&&true))=decide ((a,b)=(c,d));by_cases h1:a=c <;> by_cases h2:b=d <;> simp[h1,h2]
def OS(K:PySem.W.Frag)(N4:Bool):R2:=fun x y H Q=>∃ (p l:Addr) (u:Int×Int) (as:List Addr) (ps:List (Int×Int)),x=.ref p/\y=.ref l/\bD K H p [.int u.1,.int u.2]/\aQ K H l (as.map V.ref)/\as.length=ps.length/\(∀i,i<ps.length->bD K H (as.getD i 0) [.int (ps.getD i (0,0)).1,.int (ps.getD i (0,0)).2])/\
 Q (.bl (if N4 then !decide (u∈ps) else decide (u∈ps))) H
open Classical in
theorem At(I:aT X af σ H s):∀ {as:List Addr} {ps:List (Int×Int)},as.length=ps.length->(∀i,i<ps.length->bD X.K H (as.getD i 0) [.int (ps.getD i (0,0)).1,.int (ps.getD i (0,0)).2])->
  ((as.map Value.ref).any fun v=>decide (∃a,v=Value.ref a/\bD X.K H a [.int u.1,.int u.2]))=decide (u∈ps)
 |[],[],_,_=>by simp
 |a::as,p::ps,hl,h=>by
  have ih:=At I (u:=u) (as:=as) (ps:=ps) (by simpa using hl) (fun i hi=>h (i+1) (by simpa using hi));have h0:bD X.K H a [.int p.1,.int p.2]:=h 0 (by simp);rw[eE,iq,ih];have e:decide (∃b,Value.ref a=Value.ref b/\bD X.K H b [.int u.1,.int u.2])=decide (u=p):=by
   rw[ic,lI,lI];constructor
   .rintro⟨b,e,hb⟩;cases e;have:=I.fW h0 hb;have e1:p.1=u.1:=V.int.inj (iR this).1;have e2:p.2=u.2:=V.int.inj (iR (iR this).2).1;exact ff e1.symm e2.symm
   .rintro rfl;exact⟨a,rfl,h0⟩
  rw[e];by_cases z:u=p
  .simp[z]
  .simp[z]
open Classical in
theorem DX{af:List (Addr×Obj)}{σ:St}{H:Hp}{s:Shared}{A:Around}(I:aT X af σ H s)(hu:A.units+1<cLine){p:Addr}{u:Int×Int}(hp:bD X.K H p [.int u.1,.int u.2]){as:List Addr}{ps:List (Int×Int)}(hl:as.length=ps.length)(h:∀i,i<ps.length->bD X.K H (as.getD i 0) [.int (ps.getD i (0,0)).1,.int (ps.getD i (0,0)).2]):∀v∈as.map Value.ref,SeqAt.EqAt A s v (.ref p) (decide (∃a,v=Value.ref a/\bD X.K H a [.int u.1,.int u.2])):=by
 intro v hv;obtain⟨a,ha,rfl⟩:=bn.mp hv;obtain⟨i,hi,e⟩:=kN.mp ha;have hq:=h i (by lia);have ea:as.getD i 0=a:=by rw[bb,bO hi];exact e
 rw[ea] at hq;have z:=wr (A:=A) I hu hq hp rfl rfl rfl;rw[y7] at z;have e:decide (∃b,Value.ref a=Value.ref b/\bD X.K H b [.int u.1,.int u.2])=decide (ps.getD i (0,0)=u):=by
  rw[ic,lI,lI];constructor
  .rintro⟨b,e,hb⟩;cases e;have:=I.fW hq hb;exact ff (V.int.inj (iR this).1) (V.int.inj (iR (iR this).2).1)
  .intro e;rw[<-e];exact⟨a,rfl,hq⟩
 rw[e];exact z
open Classical in
theorem sD(hu:X.A.units+2<cLine):k7 X (compareOp .NotIn) (OS X.K true):=by
 intro af s σ H x y v u Q I rx ry h;obtain⟨p,l,w,as,ps,rfl,rfl,hp,hl,dq,WD,q⟩:=h;obtain rfl:v=Value.ref p:=rx;obtain rfl:u=Value.ref l:=ry;obtain⟨its,r,pl,_⟩:=I.list hl;have e:=l0 r;subst e;refine x_ (fun v=>decide (∃a,v=Value.ref a/\bD X.K H a [.int w.1,.int w.2])) pl.isList (fun y hy=>DX I (by show X.A.units+1+1<cLine;lia) hp dq WD y (by simpa using hy)) ⟨.bl _,H,I,rfl,?_⟩;rw[show (as.map Value.ref).toArray.any (fun v=>decide (∃a,v=Value.ref a/\bD X.K H a [.int w.1,.int w.2]))=(as.map Value.ref).any (fun v=>decide (∃a,v=Value.ref a/\bD X.K H a [.int w.1,.int w.2])) by simp,At I dq WD];exact q
def OT(K:PySem.W.Frag)(t:J_):TG:=fun v σ H Q=>∃a x y,v=.ref a/\aQ K H a [x,y]/\t [x,y] σ H Q
theorem GY{es:List Expr}{k:Nat}{t:J_}{pos:Pos}(hc:X.calm=true)(h:NL X es t)(hn:(assignEach es X.env).length=2:=by rfl)(lM:(assignEach es X.env).findIdx? (·.1)=none:=by rfl):PG X (.Tuple es k pos) (OT X.K t):=by
 intro af s σ H v u Q I r hw;obtain⟨a,x,y,e1,hq,hw⟩:=hw;subst e1;cases r;obtain⟨its,rv,ht,hz⟩:=I.list hq;obtain⟨u1,u2,rfl,r1,r2⟩:=rv.two;have e_:a≠s.heap.objs.size:=by
  obtain⟨o,ho,_⟩:=ht.isList;exact ba (be ho)
 rw[assign_Tuple];refine aw (kY ?_);unfold unpack;rw[hn,lM];refine aw (fK ?_);unfold unpackItems;refine aw ?_;unfold notIterableAtAll;refine aw (wpAny_specialOf ht.isList.typeIs slot_list_iter.lookup (wpAny_pure ?_));simp only[ju,fU];refine aw (fK (mW ht.isList ?_));have WE:(s.heap.push { cls:=.type "list_iterator",data:=.fields #[.ref a,.int 0 0] }).IsList a [u1,u2].toArray:=ht.isList.push _;refine aw (fK ?_);change wpAny _ _ (pyNext (.ref s.heap.objs.size) >>= _) _ _ _;refine aw (p9 (it:=s.heap.objs.size) (l:=a) (i:=0) (s:={ s with heap:=s.heap.push { cls:=.type "list_iterator",data:=.fields #[.ref a,.int 0 0] } }) ⟨_,cD _ rfl,rfl,rfl⟩ WE (x:=u1) rfl fun h1 Zg mE=>?_);refine aw (fK ?_);change wpAny _ _ (pyNext (.ref s.heap.objs.size) >>= _) _ _ _;have uM:h1.IsList a [u1,u2].toArray:=WE.extBut mE.extBut e_;refine aw (p9 (s:={ s with heap:=h1 }) Zg uM (x:=u2) rfl fun h2 Zh lC=>?_);have M9:h2.IsList a [u1,u2].toArray:=uM.extBut lC.extBut e_;refine aw (fK (wpAny_pure (wpAny_pure (wpAny_pure ?_))));rw[aA (by simp)];refine aw (fK (tD (s:={ s with heap:=h2 }) (I.ok.hd hc) Zh M9 rfl fun h3 Zi=>?_));simp only[Option.isSome_none,ju,fU];refine wpAny_pure ?_;have I1:aT X af σ H { s with heap:=h3 }:=I.kept (t':=s.toks) fun b o e=>by
  have nb:b≠s.heap.objs.size:=ba (be e);exact Zi b o nb (lC.extBut b o nb (mE.extBut b o nb (bV _ e)))
 exact h af _ σ H [x,y] _ Q I1 (.cons r1 (.cons r2 .nil)) hw
end
theorem wu{h:Heap}{vs:List Value}{out:Array Value}:(∃e,(sortedAll h vs out).get? (h.objs.size+1)=some (seqObj "list" out e))/\∀b u,h.get? b=some u->(sortedAll h vs out).get? b=some u:=by
 have KZ:((h.push (seqObj "list" #[] 0)).update h.objs.size (Obj.mapSeq (·++vs.toArray))).objs.size=h.objs.size+1:=by rw[gO,gR]
 have k1:∀b u,h.get? b=some u->(((h.push (seqObj "list" #[] 0)).update h.objs.size (Obj.mapSeq (·++vs.toArray))).push (seqObj "list" vs.toArray 0)).get? b=some u:=fun b u e=>by
  have hb:b<h.objs.size:=be e;rw[fz _ _ _ (by rw[KZ];exact ba (dg hb)),oy _ _ _ _ (ba hb),fz _ _ _ (ba hb)];exact e
 have Co:(((h.push (seqObj "list" #[] 0)).update h.objs.size (Obj.mapSeq (·++vs.toArray))).push (seqObj "list" vs.toArray 0)).get? (h.objs.size+1)=some (seqObj "list" vs.toArray 0):=by
  rw[<-KZ];exact cD _ rfl
 have BP:(((h.push (seqObj "list" #[] 0)).update h.objs.size (Obj.mapSeq (·++vs.toArray))).push (seqObj "list" vs.toArray 0)).objs.size=h.objs.size+2:=by rw[gR,KZ]
 unfold sortedAll;revert k1 Co BP;generalize ((h.push (seqObj "list" #[] 0)).update h.objs.size (Obj.mapSeq (·++vs.toArray))).push (seqObj "list" vs.toArray 0)=h1;intro k1 Co BP;obtain⟨e1,M7⟩:∃e1,(h1.update (h.objs.size+1) (Obj.mapSeq fun _=>(#[]:Array Value))).get? (h.objs.size+1)=some (seqObj "list" #[] e1):=⟨_,ql Co (fun _=>#[])⟩
 have Jw:(((h1.update (h.objs.size+1) (Obj.mapSeq fun _=>(#[]:Array Value))).push (seqObj "tuple" vs.toArray 0)).push (seqObj "list" #[] 0)).get? (h.objs.size+1)=some (seqObj "list" #[] e1):=by
  rw[fz _ _ _ (by rw[gR,gO,BP];exact ba (dg (iN _))),fz _ _ _ (by rw[gO,BP];exact ba (iN _))];exact M7
 refine⟨⟨_,ql Jw (fun _=>out)⟩,fun b u e=>?_⟩;have hb:b<h.objs.size:=be e;unfold sortedHeap;rw[oy _ _ _ _ (ba (dg hb)),fz _ _ _ (by rw[gR,gO,BP];exact ba (dg (dg (dg hb)))),fz _ _ _ (by rw[gO,BP];exact ba (dg (dg hb))),oy _ _ _ _ (ba (dg hb))];exact k1 b u e
end L2
namespace jV
abbrev Ts:=List (Int×Int)
def T(ts:Ts)(a b:Nat):Prop:=(((a:Nat):Int),((b:Nat):Int))∈ts
instance (ts:Ts) (a b:Nat):Decidable (T ts a b):=inferInstanceAs (Decidable (_∈_))
def du(ts:Ts):Nat->Nat->Nat->Prop
 |0,a,b=>a=b
 |k+1,a,b=>∃c,du ts k a c/\T ts c b
theorem du.trans(h:du ts k a b):∀ {l:Nat} {c:Nat},du ts l b c->du ts (k+l) a c
 |0,_,e=>by cases e;exact h
 |l+1,_,⟨d,w,t⟩=>⟨d,h.trans w,t⟩
theorem du.one(h:T ts a b):du ts 1 a b:=⟨a,rfl,h⟩
theorem du.cons(h:T ts a b)(w:du ts k b c):du ts (k+1) a c:=by
 have:=(du.one h).trans w;rwa [Nat.add_comm] at this
theorem du.DY{ts:Ts}:∀ {k:Nat} {a c:Nat},du ts (k+1) a c->∃b,T ts a b/\du ts k b c
 |0,a,c,⟨d,e,t⟩=>by cases e;exact⟨c,t,rfl⟩
 |k+1,a,c,⟨d,w,t⟩=>by
  obtain⟨b,t',w'⟩:=du.DY w;exact⟨b,t',d,w',t⟩
def l6(ts:Ts)(a b d:Nat):Prop:=du ts d a b/\∀k,du ts k a b->d<=k
theorem l6.uniq(h:l6 ts a b d)(g:l6 ts a b e):d=e:=Nat.le_antisymm (h.2 _ g.1) (g.2 _ h.1)
theorem K1{ts:Ts}{a b:Nat}:∀k,du ts k a b->∃d,l6 ts a b d:=by
 intro k;induction k using Nat.strongRecOn with
 |ind k ih=>
  intro w;by_cases h:∃j,j<k/\du ts j a b
  .obtain⟨j,hj,wj⟩:=h;exact ih j hj wj
  .exact⟨k,w,fun j wj=>lE fun z=>h ⟨j,by lia,wj⟩⟩
open Classical in
noncomputable def far(ts:Ts)(a b:Nat):Nat:=if h:∃d,l6 ts a b d then h.choose else 0
theorem DZ(h:l6 ts a b d):far ts a b=d:=by
 unfold far;have hx:∃d,l6 ts a b d:=⟨d,h⟩
 rw[dif_pos hx];exact hx.choose_spec.uniq h
theorem K2{ts:Ts}{a b k:Nat}(w:du ts k a b):l6 ts a b (far ts a b):=by
 obtain⟨d,h⟩:=K1 k w;rw[DZ h];exact h
structure cg(n:Nat)(ts:Ts):Prop where
 n1:2<=n
 n2:n<=32
 nd:ts.Nodup
 rg:∀t∈ts,(0<=t.1/\t.1<n)/\(0<=t.2/\t.2<n)
 ne:∀t∈ts,t.1≠t.2
 BS:∀h:Int,(ts.filter fun t=>decide (t.1=h)).length=(ts.filter fun t=>decide (t.2=h)).length
 most:∀h:Int,(ts.filter fun t=>decide (t.1=h)).length<=8
 con:∀a b,a<n->b<n->∃k,du ts k a b
theorem BU(f:α->Int):∀ (l:List α) (n:Nat),(∀x∈l,0<=f x/\f x<n)->(∀h:Int,(l.filter fun t=>decide (f t=h)).length<=8)->l.length<=8*n:=by
 intro l n;induction n generalizing l with
 |zero=>
  intro h _;cases l with
  |nil=>simp
  |cons x xs=>have:=h x bU;lia
 |succ n ih=>
  intro h h8;have e:l.length=(l.filter fun t=>decide (f t=(n:Int))).length+(l.filter fun t=>!decide (f t=(n:Int))).length:=by
   induction l with
   |nil=>rfl
   |cons x xs WF=>
    have:=WF (fun y hy=>h y (cU _ hy)) (fun hh=>bw (by rw[cQ];split <;> simp) (h8 hh));by_cases q:f x=(n:Int) <;> simp[cQ,q] <;> lia
  have i2:=ih (l.filter fun t=>!decide (f t=(n:Int))) (fun x hx=>by
   have a:=h x (bA.mp hx |>.1);have b:=(bA.mp hx).2;simp at b;lia) (fun hh=>by
   refine bw ?_ (h8 hh);exact(tI.filter _).length_le)
  have:=h8 (n:Int);lia
theorem cg.len(F:cg n ts):ts.length<=256:=by
 have:=BU (·.1) ts n (fun t ht=>(F.rg t ht).1) F.most;have:=F.n2;lia
theorem cg.T6(F:cg n ts)(h:T ts a b):a<n/\b<n/\a≠b:=by
 have q:=F.rg _ h;have q2:=F.ne _ h;refine⟨by have:=q.1;simp at this;lia,by have:=q.2;simp at this;lia,fun e=>q2 (by rw[e])⟩
theorem cg.OV{n:Nat}{ts:Ts}(F:cg n ts){a b:Nat}(ha:a<n)(hb:b<n):l6 ts a b (far ts a b):=
 let ⟨_,w⟩:=F.con a b ha hb;K2 w
def bh(n:Nat)(ts:Ts)(h:Nat):List Nat:=((List.range n).map fun s=>(h+s) % n).filter fun o=>decide (T ts h o)
theorem dL(F:cg n ts)(hh:h<n):o∈bh n ts h↔T ts h o:=by
 unfold bh;rw[bA,qb];refine⟨fun z=>z.2,fun z=>⟨?_,z⟩⟩;obtain⟨_,h2,_⟩:=F.T6 z;refine bn.mpr ⟨if h<=o then o-h else o+n-h,bH.mpr (by split <;> lia),?_⟩;split
 .rw[show h+(o-h)=o by lia,iM h2]
 .rw[show h+(o+n-h)=o+n by lia,Nat.add_mod_right,iM h2]
theorem l7(F:cg n ts)(hh:h<n)(ho:o∈bh n ts h):o<n:=(F.T6 ((dL F hh).mp ho)).2.1
def key(n h o:Nat):Int:=((o:Int)-(h:Int)) % (n:Int)
theorem nM(hh:h<n)(hs:s<n):key n h ((h+s) % n)=(s:Int):=by
 unfold key;by_cases c:h+s<n
 .rw[iM c,show (((h+s:Nat):Int)-(h:Int))=(s:Int) by lia];exact Int.emod_eq_of_lt (by lia) (by lia)
 .have e:(h+s) % n=h+s-n:=by
   rw[Nat.mod_eq_sub_mod (by lia),iM (by lia)]
  rw[e,show ((((h+s-n:Nat)):Int)-(h:Int))=(s:Int)-(n:Int) by lia,Int.sub_emod_right];exact Int.emod_eq_of_lt (by lia) (by lia)
theorem oI(hh:h<n):(bh n ts h).Pairwise fun a b=>key n h a<key n h b:=by
 unfold bh;refine List.Pairwise.filter _ ?_;refine iD.mpr ?_;refine CQ ?_ (List.pairwise_lt_range (n:=n));intro a b ha hb oH;rw[nM hh (bH.mp ha),nM hh (bH.mp hb)];lia
theorem oJ{α:Type}{k:α->Int}:∀ {a b:List α},a.Pairwise (fun x y=>k x<k y)->b.Pairwise (fun x y=>k x<k y)->(∀x,x∈a↔x∈b)->a=b
 |[],[],_,_,_=>rfl
 |[],y::ys,_,_,h=>absurd ((h y).mpr bU) (by simp)
 |x::xs,[],_,_,h=>absurd ((h x).mp bU) (by simp)
 |x::xs,y::ys,ha,hb,h=>by
  obtain⟨a1,a2⟩:=qa.mp ha;obtain⟨b1,b2⟩:=qa.mp hb;have e:x=y:=by
   rcases bX.mp ((h x).mp bU) with z|z
   .exact z
   .rcases bX.mp ((h y).mpr bU) with z'|z'
    .exact z'.symm
    .have q1:=b1 x z;have q2:=a1 y z';lia
  subst e;refine congrArg (x::·) (oJ a2 b2 fun z=>⟨fun hz=>?_,fun hz=>?_⟩)
  .rcases bX.mp ((h z).mp (cU _ hz)) with q|q
   .subst q;exact absurd (a1 _ hz) (by lia)
   .exact q
  .rcases bX.mp ((h z).mpr (cU _ hz)) with q|q
   .subst q;exact absurd (b1 _ hz) (by lia)
   .exact q
structure xf(n:Nat)(ts:Ts)(s i:Nat)(R:List Nat)(f:Nat->Nat):Prop where
 nd:R.Nodup
 lt:∀x∈R,x<n
 st:s∈R
 z:f s=0
 wk:∀x∈R,du ts (f x) s x
 up:R.Pairwise fun a b=>f a<=f b
 bd:∀u,R[i]?=some u->∀x∈R,f x<=f u+1
 cl:∀j u,j<i->R[j]?=some u->∀v,T ts u v->v∈R/\f v<=f u+1
theorem xf.start(hs:s<n):xf n ts s 0 [s] (fun _=>0):=
 ⟨by simp,fun x hx=>by simp at hx;lia,by simp,rfl,fun x hx=>by simp at hx;subst hx;rfl,by simp,fun u _ x _=>by lia,fun j u h=>absurd h (by lia)⟩
def put(f:Nat->Nat)(v k:Nat):Nat->Nat:=fun y=>if y=v then k else f y
theorem g_:put f v k v=k:=by simp[put]
theorem eS(h:x≠v):put f v k x=f x:=by simp[put,h]
theorem xf.add(B:xf n ts s i R f)(hu:R[i]?=some u)(hv:v<n)(t:T ts u v)(hn:v∉R):xf n ts s i (R++[v]) (put f v (f u+1)):=by
 have WG:u∈R:=cm hu;have nv:∀x∈R,x≠v:=fun x hx e=>hn (e ▸ hx);have hi:i<R.length:=(cN.mp hu).1;refine⟨?_,fun x hx=>?_,gy _ B.st,by rw[eS (nv s B.st)];exact B.z,fun x hx=>?_,?_,fun w hw x hx=>?_,fun j w hj hw x hx=>?_⟩
 .rw[kQ];exact⟨B.nd,by simp,fun a ha b hb e=>by simp at hb;subst hb;exact hn (e ▸ ha)⟩
 .rcases bS.mp hx with z|z
  .exact B.lt x z
  .simp at z;lia
 .rcases bS.mp hx with z|z
  .rw[eS (nv x z)];exact B.wk x z
  .simp at z;subst z;rw[g_];exact⟨u,B.wk u WG,t⟩
 .rw[List.pairwise_append];refine⟨B.up.imp_of_mem fun {a b} ha hb h=>by rw[eS (nv a ha),eS (nv b hb)];exact h,by simp,fun a ha b hb=>?_⟩;simp at hb;subst hb;rw[eS (nv a ha),g_];exact B.bd u hu a ha
 .have Zj:w=u:=by
   rw[h9 hi,hu] at hw;exact(bW hw).symm
  subst Zj;rw[eS (nv w WG)];rcases bS.mp hx with z|z
  .rw[eS (nv x z)];exact B.bd w hu x z
  .simp at z;subst z;rw[g_];exact aU _
 .rw[h9 (by lia)] at hw;obtain⟨a,b⟩:=B.cl j w hj hw x hx;refine⟨gy _ a,?_⟩;rw[eS (nv x a),eS (nv w (cm hw))];exact b
theorem xf.next(B:xf n ts s i R f)(hu:R[i]?=some u)(h:∀v,T ts u v->v∈R/\f v<=f u+1):xf n ts s (i+1) R f:=by
 refine⟨B.nd,B.lt,B.st,B.z,B.wk,B.up,fun w hw x hx=>?_,fun j w hj hw v hv=>?_⟩
 .have h1:=B.bd u hu x hx;have h2:f u<=f w:=by
   have hi:i<R.length:=(cN.mp hu).1;have rE:i+1<R.length:=(cN.mp hw).1;have:=CN.mp B.up i (i+1) hi rE (by lia);rw[bO hi] at hu;rw[bO rE] at hw;rw[bW hu,bW hw] at this;exact this
  lia
 .by_cases e:j=i
  .subst e;rw[hu] at hw;cases hw;exact h v hv
  .exact B.cl j w (by lia) hw v hv
theorem d_:∀ {n:Nat} {R:List Nat},R.Nodup->(∀x∈R,x<n)->R.length<=n:=by
 intro n R hn hl;have key:∀ (a b:List Nat),a.Nodup->(∀x∈a,x∈b)->a.length<=b.length:=by
  intro a;induction a with
  |nil=>intro b _ _;exact dh _
  |cons x xs ih=>
   intro b hn hs;obtain⟨h1,h2⟩:=fJ.mp hn;have hx:x∈b:=hs x bU;have:=ih (b.erase x) h2 fun y hy=>(xF (fun (e:y=x)=>h1 (e ▸ hy))).mpr (hs y (cU _ hy));rw[xt hx] at this;have:0<b.length:=tf hx;rw[dH];lia
 have:=key R (List.range n) hn fun x hx=>bH.mpr (hl x hx);rwa [bR] at this
theorem xf.done(B:xf n ts s i R f)(F:cg n ts)(hi:R.length<=i)(hx:x<n):x∈R/\f x=far ts s x:=by
 have cl:∀u∈R,∀v,T ts u v->v∈R/\f v<=f u+1:=fun u hu v hv=>by
  obtain⟨j,hj,e⟩:=kN.mp hu;exact B.cl j u (by lia) (by rw[bO hj,e]) v hv
 have walk:∀k x,du ts k s x->x∈R/\f x<=k:=by
  intro k;induction k with
  |zero=>intro x e;cases e;exact⟨B.st,by rw[B.z];exact aU _⟩
  |succ k ih=>
   rintro x ⟨c,w,t⟩;obtain⟨c1,c2⟩:=ih c w;obtain⟨d1,d2⟩:=cl c c1 x t;exact⟨d1,by lia⟩
 obtain⟨k,w⟩:=F.con s x (B.lt s B.st) hx;obtain⟨m,_⟩:=walk k x w;exact⟨m,(DZ ⟨B.wk x m,fun k w=>(walk k x w).2⟩).symm⟩
theorem du.mono(h:∀t∈ts,t∈T7):∀ {k a b:Nat},du ts k a b->du T7 k a b
 |0,_,_,e=>e
 |_+1,_,_,⟨c,w,t⟩=>⟨c,w.mono h,h _ t⟩
structure xg(n:Nat)(ts:Ts):Prop where
 nd:ts.Nodup
 rg:∀t∈ts,(0<=t.1/\t.1<n)/\(0<=t.2/\t.2<n)
 ne:∀t∈ts,t.1≠t.2
 BS:∀h:Int,(ts.filter fun t=>decide (t.1=h)).length=(ts.filter fun t=>decide (t.2=h)).length
 most:∀h:Int,(ts.filter fun t=>decide (t.1=h)).length<=8
theorem cg.pre(F:cg n ts):xg n ts:=⟨F.nd,F.rg,F.ne,F.BS,F.most⟩
theorem xg.lm(P:xg n ts)(n1:2<=n)(n2:n<=32)(c:∀a b,a<n->b<n->∃k,du ts k a b):cg n ts:=⟨n1,n2,P.nd,P.rg,P.ne,P.BS,P.most,c⟩
theorem cg.perm(F:cg n ts)(p:T7.Perm ts):cg n T7:=
  ⟨F.n1,F.n2,p.nodup_iff.mpr F.nd,fun t ht=>F.rg t (p.mem_iff.mp ht),fun t ht=>F.ne t (p.mem_iff.mp ht),fun h=>by rw[(p.filter _).length_eq,(p.filter _).length_eq];exact F.BS h,
   fun h=>by rw[(p.filter _).length_eq];exact F.most h,fun a b ha hb=>let ⟨k,w⟩:=F.con a b ha hb;⟨k,w.mono fun t ht=>p.mem_iff.mpr ht⟩⟩
theorem cg.app(F:cg n ts)(P:xg n (ts++us)):cg n (ts++us):=
 P.lm F.n1 F.n2 fun a b ha hb=>let ⟨k,w⟩:=F.con a b ha hb;⟨k,w.mono fun t ht=>gy _ ht⟩
def pk(c k:Nat):Nat:=if k=0 then c-1 else k-1
abbrev ci(x:Nat):Int:=(x:Int)
def qM(xs:List Nat):Ts:=(List.range xs.length).map fun k=>(ci (xs.getD (pk xs.length k) 0),ci (xs.getD k 0))
theorem dS{xs:List Nat}{k:Nat}(h:k<xs.length):xs.getD k 0=xs[k]:=by rw[bb,bO h];rfl
theorem Au(xs:List Nat):(qM xs).map (·.2)=xs.map ci:=by
 unfold qM;rw[cy];apply xZ
 .simp
 .intro i h1 h2;simp only[qg,xQ,Function.comp];rw[dS (by simpa using h2)]
theorem Av(xs:List Nat):((qM xs).map (·.1)).Perm (xs.map ci):=by
 cases hx:xs with
 |nil=>exact kW _
 |cons y ys=>
  rw[<-hx];have hl:xs.length=ys.length+1:=by rw[hx];rfl
  have e:(qM xs).map (·.1)=ci (xs.getD (xs.length-1) 0)::(xs.take (xs.length-1)).map ci:=by
   unfold qM;rw[cy];apply xZ
   .simp;lia
   .intro i h1 h2;simp only[qg,xQ,Function.comp];cases i with
    |zero=>rfl
    |succ i=>
     have hi:i+1<xs.length:=by simpa using h1
     simp only[List.getElem_cons_succ,qg,List.getElem_take];unfold pk;rw[aA (by lia),show i+1-1=i by lia,dS (by lia)]
  rw[e];have:xs.map ci=(xs.take (xs.length-1)).map ci++[ci (xs.getD (xs.length-1) 0)]:=by
   conv=>lhs;rw[<-oq (xs.length-1) xs]
   rw[cq];congr 1;rw[rS (by lia),List.drop_eq_nil_of_le (by lia),dS (by lia)];rfl
  rw[this];exact(List.perm_append_singleton _ _).symm
theorem iJ(ts:Ts)(h:Int):(ts.filter fun t=>decide (t.1=h)).length=(ts.map (·.1)).count h:=by
 induction ts with
 |nil=>rfl
 |cons t ts ih=>by_cases e:t.1=h <;> simp[cQ,List.count_cons,e,ih]
theorem nU(ts:Ts)(h:Int):(ts.filter fun t=>decide (t.2=h)).length=(ts.map (·.2)).count h:=by
 induction ts with
 |nil=>rfl
 |cons t ts ih=>by_cases e:t.2=h <;> simp[cQ,List.count_cons,e,ih]
theorem ww{xs:List Nat}(h:xs.Nodup):(xs.map ci).Nodup:=by
 refine iD.mpr (h.imp fun {a b} oH e=>oH ?_);exact dI e
theorem l8:∀ {l:List α},(l.map f).Nodup->l.Nodup
 |[],_=>iO
 |a::l,h=>by
  rw[eE] at h;obtain⟨h1,h2⟩:=fJ.mp h;exact fJ.mpr ⟨fun z=>h1 (bn.mpr ⟨a,z,rfl⟩),l8 h2⟩
theorem l9(h:t∈qM xs):∃k,k<xs.length/\t=(ci (xs.getD (pk xs.length k) 0),ci (xs.getD k 0)):=by
 obtain⟨k,hk,rfl⟩:=bn.mp h;exact⟨k,bH.mp hk,rfl⟩
theorem sG(h:k<c):pk c k<c:=by unfold pk;split <;> lia
theorem nV{xs:List Nat}{k:Nat}(h:k<xs.length):xs.getD k 0∈xs:=by rw[dS h];exact dR h
theorem nX{xs:List Nat}(nd:xs.Nodup){i j:Nat}(hi:i<xs.length)(hj:j<xs.length)(e:xs[i]=xs[j]):i=j:=by
 have pw:=CN.mp nd;rcases Nat.lt_trichotomy i j with z|z|z
 .exact absurd e (pw i j hi hj z)
 .exact z
 .exact absurd e.symm (pw j i hj hi z)
theorem uN{n:Nat}{xs:List Nat}(nd:xs.Nodup)(lt:∀x∈xs,x<n)(c2:2<=xs.length):xg n (qM xs)/\∀h:Int,((qM xs).filter fun t=>decide (t.1=h)).length<=1:=by
 have T8:((qM xs).map (·.2)).Nodup:=by rw[Au];exact ww nd
 have one:∀h:Int,((qM xs).filter fun t=>decide (t.1=h)).length<=1:=fun h=>by
  rw[iJ,(Av xs).count_eq];exact List.nodup_iff_count.mp (ww nd) h
 refine⟨⟨l8 T8,fun t ht=>?_,fun t ht=>?_,fun h=>?_,fun h=>bw (one h) (by decide)⟩,one⟩
 .obtain⟨k,hk,rfl⟩:=l9 ht;have h1:=lt _ (nV (sG hk));have h2:=lt _ (nV hk);simp only[ci];lia
 .obtain⟨k,hk,rfl⟩:=l9 ht;intro e;have e':xs.getD (pk xs.length k) 0=xs.getD k 0:=dI e;rw[dS (sG hk),dS hk] at e';have:=nX nd (sG hk) hk e';unfold pk at this;split at this <;> lia
 .rw[iJ,nU,(Av xs).count_eq,Au]
theorem pJ(P:xg n ts)(Q:xg n us)(hd:∀t∈us,t∉ts)(hm:∀h:Int,(ts.filter fun t=>decide (t.1=h)).length+(us.filter fun t=>decide (t.1=h)).length<=8):xg n (ts++us):=by
 refine⟨kQ.mpr ⟨P.nd,Q.nd,fun a ha b hb e=>hd b hb (e ▸ ha)⟩,fun t ht=>?_,fun t ht=>?_,fun h=>?_,fun h=>?_⟩
 .rcases bS.mp ht with z|z
  .exact P.rg t z
  .exact Q.rg t z
 .rcases bS.mp ht with z|z
  .exact P.ne t z
  .exact Q.ne t z
 .rw[eH,eH,cF,cF,P.BS,Q.BS]
 .rw[eH,cF];exact hm h
theorem BV(P:xg n ts)(nd:xs.Nodup)(lt:∀x∈xs,x<n)(c2:2<=xs.length)(hf:∀t∈qM xs,(ts.filter fun u=>decide (u.1=t.1)).length<=7)(hn:∀t∈qM xs,t∉ts):xg n (ts++qM xs):=by
 obtain⟨Q,one⟩:=uN nd lt c2;refine pJ P Q hn fun h=>?_;by_cases z:(qM xs).filter (fun t=>decide (t.1=h))=[]
 .rw[z];simpa using P.most h
 .obtain⟨t,ht⟩:=List.exists_mem_of_ne_nil _ z;obtain⟨h1,h2⟩:=bA.mp ht;have e:t.1=h:=by simpa using h2
  have a:=hf t h1;rw[e] at a;have:=one h;lia
theorem Jz(hk:k<xs.length):T (qM xs) (xs.getD (pk xs.length k) 0) (xs.getD k 0):=bn.mpr ⟨k,bH.mpr hk,rfl⟩
theorem y8(i:Nat):∀ (d:Nat),i+d<xs.length->du (qM xs) d (xs.getD i 0) (xs.getD (i+d) 0)
 |0,_=>rfl
 |d+1,h=>by
  refine⟨_,y8 i d (by lia),?_⟩;have:=Jz (xs:=xs) (k:=i+(d+1)) h;unfold pk at this;rw[aA (by lia)] at this;exact this
theorem sI{n:Nat}{xs:List Nat}(n1:2<=n)(n2:n<=32)(pm:xs.Perm (List.range n)):cg n (qM xs):=by
 have hl:xs.length=n:=by rw[pm.length_eq,bR]
 have nd:xs.Nodup:=pm.nodup_iff.mpr kE;have lt:∀x∈xs,x<n:=fun x hx=>bH.mp (pm.mem_iff.mp hx);refine(uN nd lt (by lia)).1.lm n1 n2 fun a b ha hb=>?_;obtain⟨i,hi,ei⟩:=kN.mp (pm.mem_iff.mpr (bH.mpr ha));obtain⟨j,hj,ej⟩:=kN.mp (pm.mem_iff.mpr (bH.mpr hb));have w1:=y8 (xs:=xs) i (xs.length-1-i) (by lia);have t0:=Jz (xs:=xs) (k:=0) (by lia);have w3:=y8 (xs:=xs) 0 j (by lia);rw[show i+(xs.length-1-i)=xs.length-1 by lia] at w1;rw[show pk xs.length 0=xs.length-1 from rfl] at t0;rw[t7] at w3;have w:=w1.trans (du.cons t0 w3);rw[dS hi,dS hj,ei,ej] at w;exact⟨_,w⟩
theorem qN:∀ (hs:List Nat) (ts:Ts),hs.Nodup->(∀h∈hs,8<=(ts.filter fun t=>decide (t.1=ci h)).length)->8*hs.length<=ts.length
 |[],_,_,_=>by simp
 |h::hs,ts,nd,hf=>by
  obtain⟨h1,h2⟩:=fJ.mp nd;have e:ts.length=(ts.filter fun t=>decide (t.1=ci h)).length+(ts.filter fun t=>!decide (t.1=ci h)).length:=by
   clear hf;induction ts with
   |nil=>rfl
   |cons x xs WF=>by_cases q:x.1=ci h <;> simp[cQ,q] <;> lia
  have a:=hf h bU;have ih:=qN hs (ts.filter fun t=>!decide (t.1=ci h)) h2 fun x hx=>by
   refine bw (hf x (cU _ hx)) (qk ?_);rw[List.filter_filter];congr 1;refine List.filter_congr fun t _=>?_;by_cases q:t.1=ci x
   .have:¬ t.1=ci h:=fun z=>h1 (by have:=dI (z.symm.trans q);exact this ▸ hx);simp[q];rw[q] at this;exact this
   .simp[q]
  rw[dH];lia
structure qO(n:Nat)(os:List Nat)(k:Nat)(ts:Ts):Prop where
 pre:xg n ts
 ends:∀t∈ts,∃a b,a∈os.take k/\b∈os.take k/\t=(ci a,ci b)
 con:∀a b,a∈os.take k->b∈os.take k->∃j,du ts j a b
 len:ts.length+2=2*k
theorem qO.start(h:0<os.length):qO n os 1 []:=by
 refine⟨⟨iO,(fun t h=>nomatch h),(fun t h=>nomatch h),fun h=>rfl,fun h=>by simp⟩,(fun t h=>nomatch h),fun a b ha hb=>?_,rfl⟩;cases os with
 |nil=>simp at h
 |cons o os=>
  simp at ha hb;exact⟨0,by rw[ha,hb];rfl⟩
theorem qO.free{n:Nat}{os:List Nat}{k:Nat}{ts:Ts}(T:qO n os k ts)(nd:os.Nodup)(hk:k<=os.length):∃h∈os.take k,(ts.filter fun t=>decide (t.1=ci h)).length<8:=by
 apply lE;intro De;have:=qN (os.take k) ts (nd.sublist (tK _ _)) fun h hh=>lE fun z=>De ⟨h,hh,by lia⟩;have hl:=T.len;rw[jx,ya hk] at this;lia
theorem qO.add(Tr:qO n os k ts)(nd:os.Nodup)(lt:∀x∈os,x<n)(hv:os[k]?=some v)(hs:s∈os.take k)(hd:(ts.filter fun t=>decide (t.1=ci s)).length<8):qO n os (k+1) (ts++[(ci s,ci v),(ci v,ci s)]):=by
 have tk:os.take (k+1)=os.take k++[v]:=by rw[eC,hv];rfl
 have Zk:(os.take k++[v]).Nodup:=by rw[<-tk];exact nd.sublist (tK _ _)
 have vn:v∉os.take k:=fun z=>(kQ.mp Zk).2.2 v z v (by simp) rfl;have sv:s≠v:=fun e=>vn (e ▸ hs);have vm:v∈os:=cm hv;have sl:=lt s (ot hs);have vl:=lt v vm;have T9:∀t∈ts,t.1≠ci v/\t.2≠ci v:=fun t ht=>by
  obtain⟨a,b,ha,hb,rfl⟩:=Tr.ends t ht;exact⟨fun e=>vn (dI e ▸ ha),fun e=>vn (dI e ▸ hb)⟩
 have Q:xg n [(ci s,ci v),(ci v,ci s)]:=by
  have OX:ci s≠ci v:=fun e=>sv (dI e);refine⟨?_,fun t ht=>?_,fun t ht=>?_,fun h=>?_,fun h=>bw (dF _ _) (by simp)⟩
  .simp[OX]
  .simp at ht;rcases ht with rfl|rfl <;> (simp only[ci];lia)
  .simp at ht;rcases ht with rfl|rfl
   .exact OX
   .exact OX.symm
  .by_cases a:ci s=h <;> by_cases b:ci v=h <;> simp[cQ,a,b]
 have P2:xg n (ts++[(ci s,ci v),(ci v,ci s)]):=by
  refine pJ Tr.pre Q (fun t ht z=>?_) fun h=>?_
  .simp at ht;rcases ht with rfl|rfl
   .exact(T9 _ z).2 rfl
   .exact(T9 _ z).1 rfl
  .have OX:ci s≠ci v:=fun e=>sv (dI e);by_cases a:ci s=h
   .subst a;have b:¬ ci v=ci s:=OX.symm;simp only[cQ,decide_true,iw,cY b];simp;lia
   .by_cases b:ci v=h
    .subst b;have z:ts.filter (fun t=>decide (t.1=ci v))=[]:=xA.mpr fun t ht=>by simpa using (T9 t ht).1
     rw[z];exact bw (Nat.add_le_add_left (dF _ _) _) (by simp)
    .have:=Tr.pre.most h;simp[cQ,a,b];exact this
 have up:∀t∈ts,t∈ts++[(ci s,ci v),(ci v,ci s)]:=fun t ht=>gy _ ht;have t1:T (ts++[(ci s,ci v),(ci v,ci s)]) s v:=iC _ (by simp);have t2:T (ts++[(ci s,ci v),(ci v,ci s)]) v s:=iC _ (by simp);have Zl:∀a,a∈os.take k++[v]->∃j,du (ts++[(ci s,ci v),(ci v,ci s)]) j a s:=fun a ha=>by
  rcases bS.mp ha with z|z
  .obtain⟨j,w⟩:=Tr.con a s z hs;exact⟨j,w.mono up⟩
  .simp at z;subst z;exact⟨1,du.one t2⟩
 have Zm:∀b,b∈os.take k++[v]->∃j,du (ts++[(ci s,ci v),(ci v,ci s)]) j s b:=fun b hb=>by
  rcases bS.mp hb with z|z
  .obtain⟨j,w⟩:=Tr.con s b hs z;exact⟨j,w.mono up⟩
  .simp at z;subst z;exact⟨1,du.one t1⟩
 refine⟨P2,fun t ht=>?_,fun a b ha hb=>?_,?_⟩
 .rw[tk];rcases bS.mp ht with z|z
  .obtain⟨a,b,ha,hb,e⟩:=Tr.ends t z;exact⟨a,b,gy _ ha,gy _ hb,e⟩
  .simp at z;rcases z with rfl|rfl
   .exact⟨s,v,gy _ hs,by simp,rfl⟩
   .exact⟨v,s,by simp,gy _ hs,rfl⟩
 .rw[tk] at ha hb;obtain⟨i,w1⟩:=Zl a ha;obtain⟨j,w2⟩:=Zm b hb;exact⟨i+j,w1.trans w2⟩
 .have:=Tr.len;rw[cF];simp;lia
theorem qO.lm(Tr:qO n os n ts)(n1:2<=n)(n2:n<=32)(pm:os.Perm (List.range n)):cg n ts:=by
 have hl:os.length=n:=by rw[pm.length_eq,bR]
 refine Tr.pre.lm n1 n2 fun a b ha hb=>Tr.con a b ?_ ?_
 .rw[pW (by lia)];exact pm.mem_iff.mpr (bH.mpr ha)
 .rw[pW (by lia)];exact pm.mem_iff.mpr (bH.mpr hb)
theorem cg.K3{n:Nat}{ts:Ts}(F:cg n ts){a b k:Nat}(ha:a<n)(hb:b<n)(w:du ts k a b):far ts a b<=k:=(F.OV ha hb).2 k w
theorem qP(hh:h<n):(bh n ts h).Nodup:=(oI hh).imp fun {a b} oH e=>by subst e;lia
end jV
namespace L2
open PySem PySem.Spec PyProof.Rows
section
variable {X:Cx}
theorem wx:∀ {ns:List Int} {its:List Value},aZ (ns.map V.int) its->∃xs:List (Int×Tok),its=xs.map (fun p=>Value.int p.1 p.2)/\xs.map (·.1)=ns
 |[],_,r=>by cases r;exact⟨[],rfl,rfl⟩
 |n::ns,_,r=>by
  cases r with
  |cons r rr=>
   obtain⟨t,rfl⟩:=(show ∃t,_=Value.int n t from r)
   obtain⟨xs,rfl,e⟩:=wx rr;exact⟨(n,t)::xs,rfl,by rw[eE,e]⟩
def OY(K:PySem.W.Frag):List V->Hp->VK->Prop:=fun xs H Q=>∃ (l:Addr) (ns:List Int),xs=[.ref l]/\aQ K H l (ns.map V.int)/\ns≠[]/\∀M,M∈ns->(∀a∈ns,a<=M)->Q (.int M) H
theorem sJ(hc:X.calm=true):eX X (.builtin "max") (OY X.K):=by
 intro af s σ H xs us Q I r h;obtain⟨l,ns,rfl,hl,vA,q⟩:=h;obtain⟨u1,rfl,r1⟩:=r.one;obtain rfl:u1=Value.ref l:=r1;obtain⟨its,rv,pl,_⟩:=I.list hl;obtain⟨ps,rfl,rfl⟩:=wx rv;have hi:intItems ps.toArray=(ps.map (fun p=>Value.int p.1 p.2)).toArray:=by unfold intItems;simp
 have ku:0<ps.toArray.size:=by
  cases ps with
  |nil=>exact absurd rfl vA
  |cons p ps=>simp
 refine max_intList (I.ok.hd hc) (xs:=ps.toArray) (by rw[hi];exact pl.isList) ku fun v h' tk hv hk=>?_;obtain⟨t,rfl⟩:=intItems_at hv;obtain⟨h1,h2⟩:=argBest_gt (numAt ps.toArray) (ps.toArray.size-1);have num:∀j,j<ps.length->numAt ps.toArray j∈ps.map (·.1)/\numAt ps.toArray j=(ps.map (·.1)).getD j 0:=fun j hj=>by
  have e:numAt ps.toArray j=ps[j].1:=by unfold numAt;simp[bO hj]
  refine⟨by rw[e];exact bn.mpr ⟨_,dR hj,rfl⟩,?_⟩;rw[e,bb,bZ,bO hj];rfl
 have hb:argBest (fun i j=>decide (numAt ps.toArray i > numAt ps.toArray j)) (ps.toArray.size-1)<ps.length:=by
  have:ps.toArray.size=ps.length:=by simp
  lia
 refine⟨.int _,H,I.kept (t':=tk) hk,⟨t,rfl⟩,q _ (num _ hb).1 fun a ha=>?_⟩;obtain⟨j,hj,e⟩:=kN.mp ha;rw[aO] at hj;have:=h2 j (by (have:ps.toArray.size=ps.length:=by simp);lia);rw[(num j hj).2,bb,bO (by rw[aO];exact hj)] at this;rw[<-e];exact this
end
end L2
namespace jV
abbrev nY(u:Int×Int):Int×Int:=(u.2,u.1)
def df(ps:Ts):Ts:=ps.flatMap fun u=>[u,nY u]
theorem i4:df (ps++qs)=df ps++df qs:=List.flatMap_append
theorem gj:∀ {ps:Ts},(df ps).Perm (ps++ps.map nY)
 |[]=>kW _
 |u::ps=>by
  have ih:=gj (ps:=ps);show (u::nY u::df ps).Perm (u::(ps++nY u::ps.map nY));refine List.Perm.cons _ ?_;exact(ih.cons _).trans List.perm_middle.symm
theorem ik:∀ {ps:Ts},(df ps).length=2*ps.length
 |[]=>rfl
 |u::ps=>by
  have ih:=ik (ps:=ps);show (df ps).length+2=2*(ps.length+1);lia
theorem Aw(h:u∈df ps):nY u∈df ps:=by
 obtain⟨v,hv,hu⟩:=xY.mp h;refine xY.mpr ⟨v,hv,?_⟩;rcases bX.mp hu with e|e
 .rw[e];exact cU _ (cE.mpr rfl)
 .rw[cE.mp e];exact bU
theorem l_:u∈df ps↔u∈ps\/nY u∈ps:=by
 rw[(gj (ps:=ps)).mem_iff,bS];refine or_congr Iff.rfl ⟨fun h=>?_,fun h=>bn.mpr ⟨_,h,rfl⟩⟩;obtain⟨v,hv,rfl⟩:=bn.mp h;exact hv
theorem Ax:((df ps).map nY).Perm (df ps):=by
 refine((gj (ps:=ps)).map nY).trans (List.Perm.trans ?_ (gj (ps:=ps)).symm);rw[cq,cy];have e:ps.map (nY ∘ nY)=ps:=(h_ fun u _=>rfl).trans (kZ ps);rw[e];exact iB
def BW(x:Nat):List Nat->Bool
 |[]=>false
 |y::ys=>Nat.beq x y||BW x ys
theorem qQ:∀ {ys:List Nat},BW x ys=true↔x∈ys
 |[]=>by simp[BW]
 |y::ys=>by
  unfold BW;rw[qj,qQ (ys:=ys),bX];exact or_congr ⟨fun h=>tm h,fun h=>by rw[h];exact t_ y⟩ Iff.rfl
def RE:List Nat->Bool
 |[]=>true
 |x::xs=>!BW x xs&&RE xs
theorem D9:∀ {xs:List Nat},RE xs=true->xs.Nodup
 |[],_=>iO
 |x::xs,h=>by
  unfold RE at h;rw[fE] at h;refine fJ.mpr ⟨fun z=>?_,D9 h.2⟩;rw[qQ.mpr z] at h;exact absurd h.1 (by decide)
def wz:List Nat->Bool
 |x::y::r=>Nat.ble x y&&wz (y::r)
 |_=>true
theorem D_:∀ {xs:List Nat},wz xs=true->xs.Pairwise (·<=·)
 |[],_=>List.Pairwise.nil
 |[x],_=>List.pairwise_singleton _ _
 |x::y::r,h=>by
  unfold wz at h;rw[fE] at h;have ih:=D_ h.2;refine qa.mpr ⟨fun z hz=>?_,ih⟩;have h1:=pZ h.1;rcases bX.mp hz with e|e
  .rw[e];exact h1
  .exact bw h1 ((qa.mp ih).1 z e)
abbrev hX(q:Nat×Nat):Int×Int:=((q.1:Int),(q.2:Int))
def OZ(qs:List (Nat×Nat)):List Nat:=qs.flatMap fun q=>[64*q.1+q.2,64*q.2+q.1]
def GZ(c:Nat):Int×Int:=(((c / 64:Nat):Int),((c % 64:Nat):Int))
theorem y9(h:b<64):GZ (64*a+b)=((a:Int),(b:Int)):=by
 unfold GZ;rw[show (64*a+b) / 64=a by lia,show (64*a+b) % 64=b by lia]
theorem pK:∀ {qs:List (Nat×Nat)},(∀q∈qs,q.1<64/\q.2<64)->(OZ qs).map GZ=df (qs.map hX)
 |[],_=>rfl
 |q::qs,h=>by
  have ih:=pK (qs:=qs) fun x hx=>h x (cU _ hx);obtain⟨h1,h2⟩:=h q bU;show GZ (64*q.1+q.2)::GZ (64*q.2+q.1)::(OZ qs).map GZ=hX q::nY (hX q)::df (qs.map hX);rw[ih,y9 h2,y9 h1]
def b1(b:Bool):Nat:=cond b 1 0
def kA(h:Nat):List (Nat×Nat)->Nat
 |[]=>0
 |q::qs=>b1 (Nat.beq q.1 h)+(b1 (Nat.beq q.2 h)+kA h qs)
theorem uO{h:Nat}:∀ {qs:List (Nat×Nat)},((df (qs.map hX)).filter fun t=>decide (t.1=(h:Int))).length=kA h qs
 |[]=>rfl
 |q::qs=>by
  have ih:=uO (h:=h) (qs:=qs);have e:∀a:Nat,(if decide ((a:Int)=(h:Int))=true then 1 else 0)=b1 (Nat.beq a h):=fun a=>by
   by_cases c:a=h
   .subst c;rw[am (by simp),t_];rfl
   .rw[aA (by simp;lia),show Nat.beq a h=false from mQ.mpr fun z=>c (tm z)];rfl
  show ((hX q::nY (hX q)::df (qs.map hX)).filter _).length=b1 (Nat.beq q.1 h)+(b1 (Nat.beq q.2 h)+kA h qs);rw[<-ih,<-e q.1,<-e q.2,cQ,cQ];split <;> split <;> simp <;> lia
def Ea(n:Nat)(qs:List (Nat×Nat)):Bool:=Nat.ble 2 n&&(Nat.ble n 32&&(RE (OZ qs)&&(qs.all (fun q=>Nat.blt q.1 n&&(Nat.blt q.2 n&&!Nat.beq q.1 q.2))&&((List.range n).all (fun h=>Nat.ble (kA h qs) 8) &&
 (List.range n).all (fun v=>Nat.beq v 0||(List.range v).reverse.any (fun u=>BW (64*u+v) (OZ qs)))))))
theorem ln(h:Nat.blt a b=true):a<b:=pZ h
theorem Eb(h:Ea n qs=true):cg n (df (qs.map hX))/\∀q∈qs,q.1<64/\q.2<64:=by
 unfold Ea at h;simp only[fE,jc,bH,qj,jy,List.mem_reverse] at h;obtain⟨h1,h2,h3,h4,h5,h6⟩:=h;have h1:=pZ h1;have h2:=pZ h2;have O0:∀q∈qs,q.1<64/\q.2<64:=fun q hq=>⟨by have:=ln (h4 q hq).1;lia,by have:=ln (h4 q hq).2.1;lia⟩
 have mem:∀t∈df (qs.map hX),∃q∈qs,t=hX q\/t=nY (hX q):=fun t ht=>by
  rcases l_.mp ht with z|z
  .obtain⟨q,hq,e⟩:=bn.mp z;exact⟨q,hq,.inl e.symm⟩
  .obtain⟨q,hq,e⟩:=bn.mp z;exact⟨q,hq,.inr (by rw[e])⟩
 have rg:∀t∈df (qs.map hX),((0<=t.1/\t.1<n)/\(0<=t.2/\t.2<n))/\t.1≠t.2:=fun t ht=>by
  obtain⟨q,hq,e⟩:=mem t ht;have a:=ln (h4 q hq).1;have b:=ln (h4 q hq).2.1;have c:q.1≠q.2:=fun z=>by have:=(h4 q hq).2.2;rw[z,t_] at this;exact absurd this (by decide)
  rcases e with rfl|rfl
  .exact⟨⟨⟨by show (0:Int)<=(q.1:Int);lia,by show (q.1:Int)<n;lia⟩,by show (0:Int)<=(q.2:Int);lia,by show (q.2:Int)<n;lia⟩,by show ((q.1:Nat):Int)≠(q.2:Nat);lia⟩
  .exact⟨⟨⟨by show (0:Int)<=(q.2:Int);lia,by show (q.2:Int)<n;lia⟩,by show (0:Int)<=(q.1:Int);lia,by show (q.1:Int)<n;lia⟩,by show ((q.2:Nat):Int)≠(q.1:Nat);lia⟩
 have BS:∀h:Int,((df (qs.map hX)).filter fun t=>decide (t.1=h)).length=((df (qs.map hX)).filter fun t=>decide (t.2=h)).length:=fun h=>by
  rw[<-(Ax (ps:=qs.map hX)).filter (fun t=>decide (t.1=h)) |>.length_eq,m6,aO];rfl
 have nd:(df (qs.map hX)).Nodup:=by
  rw[<-pK O0];refine List.Pairwise.map _ (fun a b oH e=>oH ?_) (pQ.mp (D9 h3));have e1:a / 64=b / 64:=dI (congrArg Prod.fst e);have e2:a % 64=b % 64:=dI (congrArg Prod.snd e);lia
 refine⟨⟨h1,h2,nd,fun t ht=>(rg t ht).1,fun t ht=>(rg t ht).2,BS,fun h=>?_,fun a b ha hb=>?_⟩,O0⟩
 .by_cases c:0<=h/\h<n
  .have:=pZ (h5 h.toNat (by lia));rw[<-uO,xK c.1] at this;exact this
  .have e:(df (qs.map hX)).filter (fun t=>decide (t.1=h))=[]:=xA.mpr fun t ht e=>c ((show t.1=h from cM e) ▸ (rg t ht).1.1);rw[e];exact dh _
 .have yE:∀v,v<n->(∃k,du (df (qs.map hX)) k 0 v)/\∃k,du (df (qs.map hX)) k v 0:=by
   intro v;induction v using Nat.strongRecOn with
   |ind v ih=>
    intro hv;rcases h6 v hv with e|⟨u,hu,t1⟩
    .have e:=tm e;subst e;exact⟨⟨0,rfl⟩,0,rfl⟩
    .obtain⟨⟨k,w⟩,l,w'⟩:=ih u hu (by lia);have t:T (df (qs.map hX)) u v:=by
      have:=bn.mpr ⟨_,qQ.mp t1,y9 (a:=u) (b:=v) (by lia)⟩;rw[pK O0] at this;exact this
     have t':T (df (qs.map hX)) v u:=Aw t;exact⟨⟨k+1,u,w,t⟩,l+1,du.cons t' w'⟩
  obtain⟨_,k,w⟩:=yE a ha;obtain⟨⟨l,w'⟩,_⟩:=yE b hb;exact⟨_,w.trans w'⟩
def qR(f b:Nat):List (Nat×Nat):=(List.range f).flatMap fun at_=>(List.range (b ^ f)).flatMap fun h=>(List.range (b-h / b ^ at_ % b-1)).map fun k=>(h,h+(k+1)*b ^ at_)
def O1(f b h:Nat):List Nat:=(List.range f).map fun k=>h / b ^ k % b
def Zn(f b o p:Nat):Nat:=((List.range f).filter fun k=>!Nat.beq ((O1 f b o).getD k 0) ((O1 f b p).getD k 0)).length
def y_(f b:Nat):List Nat:=(List.range (b ^ f)).flatMap fun o=>((List.range (b ^ f)).filter fun p=>Nat.beq (Zn f b o p) 1).map fun p=>64*o+p
def zc(f b:Nat):Ts:=(y_ f b).map GZ
def Ay(f b:Nat):Bool:=Ea (b ^ f) (qR f b)&&((OZ (qR f b)).isPerm (y_ f b)&&wz (y_ f b))
theorem zd:(List.range 6).all (fun f=>(List.range 6).all fun b=>Nat.blt f 1||(Nat.blt b 2||(Nat.blt 32 (b ^ f)||Ay f b)))=true:=by decide +kernel
theorem ze(f1:1<=f)(f2:f<=5)(b1:2<=b)(b2:b<=5)(hm:b ^ f<=32):cg (b ^ f) (df ((qR f b).map hX))/\(df ((qR f b).map hX)).Perm (zc f b)/\(zc f b).Pairwise (fun u v=>64*u.1+u.2<=64*v.1+v.2):=by
 have:=jc.mp (jc.mp zd f (bH.mpr (by lia))) b (bH.mpr (by lia));rw[qj,qj,qj] at this;rcases this with z|z|z|z
 .have:=ln z;lia
 .have:=ln z;lia
 .have:=ln z;lia
 .unfold Ay at z;rw[fE,fE] at z;obtain⟨h1,h2,h3⟩:=z;obtain⟨F,O0⟩:=Eb h1;refine⟨F,?_,?_⟩
  .rw[<-pK O0];exact(List.isPerm_iff.mp h2).map GZ
  .unfold zc;rw[iD];refine(D_ h3).imp fun {a b} h=>?_;unfold GZ;show 64*((a / 64:Nat):Int)+((a % 64:Nat):Int)<=64*((b / 64:Nat):Int)+((b % 64:Nat):Int);lia
def pr:List Nat->Nat
 |[]=>1
 |n::ns=>n*pr ns
def vF(m st n:Nat):List (Nat×Nat):=((List.range m).filter fun h=>decide (h / st % n+1<n)).map fun h=>(h,h+st)
def bx(m:Nat):Nat->List Nat->List (Nat×Nat)
 |_,[]=>[]
 |st,n::ns=>vF m st n++bx m (st*n) ns
def lq(ns:List Nat):List (Nat×Nat):=bx (pr ns) 1 ns
def G0:Nat->List Nat->Nat->Nat->Prop
 |_,[],_,_=>False
 |st,n::ns,a,b=>(a / st % n+1<n/\b=a+st)\/G0 (st*n) ns a b
theorem Az:q∈vF m st n↔q.1<m/\q.1 / st % n+1<n/\q.2=q.1+st:=by
 unfold vF;rw[bn];constructor
 .rintro⟨h,hh,rfl⟩;obtain⟨h1,h2⟩:=bA.mp hh;exact⟨bH.mp h1,cM h2,rfl⟩
 .rintro⟨h1,h2,h3⟩;exact⟨q.1,bA.mpr ⟨bH.mpr h1,decide_eq_true h2⟩,ff rfl h3.symm⟩
theorem uP:∀ {ns:List Nat} {st:Nat},q∈bx m st ns↔q.1<m/\G0 st ns q.1 q.2
 |[],st=>⟨fun h=>(nomatch h),fun h=>h.2.elim⟩
 |n::ns,st=>by
  unfold bx G0;rw[bS,Az,uP (ns:=ns)];constructor
  .rintro(⟨a,b,c⟩|⟨a,b⟩)
   .exact⟨a,.inl ⟨b,c⟩⟩
   .exact⟨a,.inr b⟩
  .rintro⟨a,⟨b,c⟩|b⟩
   .exact .inl ⟨a,b,c⟩
   .exact .inr ⟨a,b⟩
abbrev U(ns:List Nat):Nat->Nat->Prop:=G0 1 ns
theorem uQ:∀ {ns:List Nat} {st a b:Nat},0<st->(∀n∈ns,0<n)->(G0 st ns a b↔a % st=b % st/\U ns (a / st) (b / st))
 |[],st,a,b,h,_=>⟨fun z=>z.elim,fun z=>z.2.elim⟩
 |n::ns,st,a,b,h,hn=>by
  have FT:=hn n bU;have xb:∀n∈ns,0<n:=fun x hx=>hn x (cU _ hx);show (_\/G0 (st*n) ns a b)↔a % st=b % st/\(_\/G0 (1*n) ns (a / st) (b / st))
  rw[Nat.one_mul,uQ (qm h FT) xb,uQ FT xb,Nat.div_one,xz a st n,xz b st n,Nat.mod_mul,Nat.mod_mul];have e1:=jz a st;have e2:=jz b st;constructor
  .rintro(⟨c,rfl⟩|⟨c,d⟩)
   .refine⟨by rw[Nat.add_mod_right],.inl ⟨c,by rw[Nat.add_div_right _ h]⟩⟩
   .have m1:a % st=b % st:=by
     have:=congrArg (· % st) c;simp only[Nat.add_mul_mod_self_left,Nat.mod_mod] at this;exact this
    refine⟨m1,.inr ⟨?_,d⟩⟩;rw[m1] at c;exact Nat.eq_of_mul_eq_mul_left h (Nat.add_left_cancel c)
  .rintro⟨m1,⟨c,d⟩|⟨c,d⟩⟩
   .refine .inl ⟨c,?_⟩;rw[<-e2,d,<-m1,Nat.mul_add,uc,Nat.add_right_comm,e1]
   .exact .inr ⟨by rw[m1,c],d⟩
theorem zf(h:∀x∈n::ns,0<x):U (n::ns) a b↔(a % n+1<n/\b=a+1)\/(a % n=b % n/\U ns (a / n) (b / n)):=by
 show (_\/G0 (1*n) ns a b)↔_;rw[Nat.one_mul,uQ (h n bU) fun x hx=>h x (cU _ hx),Nat.div_one]
theorem zg(h:a % n+1<n):(a+1) / n=a / n/\(a+1) % n=a % n+1:=by
 have e:=jz a n;have e2:a+1=n*(a / n)+(a % n+1):=by lia
 have hn:0<n:=by lia
 rw[e2,Nat.mul_add_div hn,Nat.mul_add_mod,Nat.div_eq_of_lt h,iM h];exact⟨rfl,rfl⟩
theorem O2:∀ {ns:List Nat} {a b:Nat},(∀x∈ns,0<x)->U ns a b->a<pr ns->a<b/\b<pr ns
 |[],a,b,_,h,_=>h.elim
 |n::ns,a,b,hn,h,ha=>by
  have FT:=hn n bU;have xb:∀n∈ns,0<n:=fun x hx=>hn x (cU _ hx);have N7:a<n*pr ns:=ha;have hq:a / n<pr ns:=Nat.div_lt_of_lt_mul N7;show a<b/\b<n*pr ns;rcases(zf hn).mp h with ⟨c,rfl⟩|⟨c,d⟩
  .refine⟨by lia,?_⟩;have e:=jz a n;have:=tE n hq;rw[Nat.succ_eq_add_one,Nat.mul_add,uc] at this;lia
  .obtain⟨i1,i2⟩:=O2 xb d hq;refine⟨?_,?_⟩
   .have e1:=jz a n;have e2:=jz b n;have:=CJ i1 FT;lia
   .have e2:=jz b n;have hm:=iu b FT;have:=tE n i2;rw[Nat.succ_eq_add_one,Nat.mul_add,uc] at this;lia
theorem Ec:∀ {ns:List Nat} {v:Nat},(∀x∈ns,0<x)->0<v->v<pr ns->∃u,u<v/\U ns u v
 |[],v,_,h1,h2=>by have h2:v<1:=h2;lia
 |n::ns,v,hn,h1,h2=>by
  have FT:=hn n bU;have xb:∀n∈ns,0<n:=fun x hx=>hn x (cU _ hx);have lv:=iu v FT;have ev:=jz v n;by_cases c:v % n=0
  .have hq:0<v / n:=by
    rcases Nat.eq_zero_or_pos (v / n) with z|z
    .rw[z,c] at ev;simp at ev;lia
    .exact z
   obtain⟨u,hu,uu⟩:=Ec (v:=v / n) xb hq (Nat.div_lt_of_lt_mul h2);refine⟨n*u,?_,(zf hn).mpr (.inr ⟨by rw[Nat.mul_mod_right,c],by rw[Nat.mul_div_cancel_left _ FT];exact uu⟩)⟩;have:=CJ hu FT;lia
  .have hv:v-1=n*(v / n)+(v % n-1):=by lia
   have hm:(v-1) % n=v % n-1:=by rw[hv,Nat.mul_add_mod,iM (by lia)]
   exact⟨v-1,by lia,(zf hn).mpr (.inl ⟨by lia,by lia⟩)⟩
theorem AA:∀ {ns:List Nat} {st a b:Nat},(∀x∈ns,0<x)->G0 st ns a b->a+st<=b
 |[],st,a,b,_,h=>h.elim
 |n::ns,st,a,b,hn,h=>by
  rcases h with ⟨_,rfl⟩|h
  .exact aU _
  .have:=AA (fun x hx=>hn x (cU _ hx)) h;have h1:=Nat.le_mul_of_pos_right st (hn n bU);lia
theorem BY:(vF m st n).Nodup:=by
 unfold vF;refine pQ.mpr (iD.mpr ?_);exact(pQ.mp (kE.sublist tI)).imp fun {a b} h e=>h (congrArg Prod.fst e)
theorem wA:∀ {ns:List Nat} {st:Nat},0<st->(∀x∈ns,2<=x)->(bx m st ns).Nodup
 |[],_,_,_=>iO
 |n::ns,st,h,hn=>by
  have MZ:=hn n bU;have xb:∀x∈ns,2<=x:=fun x hx=>hn x (cU _ hx);refine kQ.mpr ⟨BY,wA (qm h (by lia)) xb,fun x hx y hy e=>?_⟩;subst e;have h1:=(Az.mp hx).2.2;have h2:=AA (fun x hx=>by have:=xb x hx;lia) (uP.mp hy).2;have h3:=tE st MZ;lia
theorem BZ(nd:ps.Nodup)(h:∀u∈ps,u.1<u.2):(df ps).Nodup:=by
 refine(gj (ps:=ps)).nodup_iff.mpr (kQ.mpr ⟨nd,?_,fun x hx y hy e=>?_⟩)
 .refine pQ.mpr (iD.mpr ((pQ.mp nd).imp fun {a b} oH e=>oH ?_));exact ff (congrArg Prod.snd e) (congrArg Prod.fst e)
 .subst e;obtain⟨u,hu,rfl⟩:=bn.mp hy;have h1:=h _ hx;have h2:=h u hu;have h1:u.2<u.1:=h1;lia
theorem B0{qs:List (Nat×Nat)}(h:qs.Nodup):(qs.map hX).Nodup:=by
 refine pQ.mpr (iD.mpr ((pQ.mp h).imp fun {a b} oH e=>oH ?_));exact ff (dI (congrArg Prod.fst e)) (dI (congrArg Prod.snd e))
theorem oK:∀ {a b:List (Nat×Nat)},kA h (a++b)=kA h a+kA h b
 |[],b=>by show kA h b=0+_;lia
 |q::a,b=>by
  have:=oK (h:=h) (a:=a) (b:=b);show b1 _+(b1 _+kA h (a++b))=b1 _+(b1 _+kA h a)+kA h b;lia
theorem JA:b1 (Nat.beq a b)=if a=b then 1 else 0:=by
 by_cases c:a=b
 .subst c;rw[am rfl,t_];rfl
 .rw[aA c,show Nat.beq a b=false from mQ.mpr fun z=>c (tm z)];rfl
theorem AB:∀ {L:List Nat},L.Nodup->kA h (L.map fun x=>(x,x+st))<=(if h∈L then 1 else 0)+(if st<=h/\h-st∈L then 1 else 0)
 |[],_=>dh _
 |x::L,nd=>by
  obtain⟨n1,n2⟩:=fJ.mp nd;have ih:=AB (h:=h) (st:=st) n2;show b1 (Nat.beq x h)+(b1 (Nat.beq (x+st) h)+kA h (L.map fun x=>(x,x+st)))<=_;rw[JA,JA];have e1:(if h∈x::L then 1 else 0)=(if x=h then 1 else 0)+(if h∈L then 1 else 0):=by
   by_cases c:x=h
   .subst c;rw[am bU,am rfl,aA n1]
   .rw[aA c];by_cases d:h∈L
    .rw[am (cU _ d),am d]
    .rw[aA d,aA (fun z=>(bX.mp z).elim (fun z=>c z.symm) d)]
  have e2:(if st<=h/\h-st∈x::L then 1 else 0)=(if x+st=h then 1 else 0)+(if st<=h/\h-st∈L then 1 else 0):=by
   by_cases c:x+st=h
   .have e:h-st=x:=by lia
    rw[am c,e,am ⟨by lia,bU⟩,aA (fun z=>n1 z.2)]
   .rw[aA c];by_cases d:st<=h/\h-st∈L
    .rw[am d,am ⟨d.1,cU _ d.2⟩]
    .rw[aA d,aA];rintro⟨z1,z2⟩;rcases bX.mp z2 with z|z
     .lia
     .exact d ⟨z1,z⟩
  rw[e1,e2];lia
def wt:List Nat->Nat
 |[]=>0
 |n::ns=>(if n=2 then 1 else 2)+wt ns
theorem G4(hs:0<st):kA h (vF m st n)<=if n=2 then 1 else 2:=by
 have c:=AB (h:=h) (st:=st) (L:=(List.range m).filter fun h=>decide (h / st % n+1<n)) (kE.sublist tI);refine bw c ?_;by_cases e:n=2
 .rw[am e];by_cases c1:h∈(List.range m).filter fun h=>decide (h / st % n+1<n)
  .rw[am c1,aA]
   .lia
   .rintro⟨z1,z2⟩;have d1:h / st % n+1<n:=cM (bA.mp c1).2;have d2:(h-st) / st % n+1<n:=cM (bA.mp z2).2;have d3:h / st=(h-st) / st+1:=by
     have:=Nat.add_div_right (h-st) hs;rw[show h-st+st=h by lia] at this;exact this
    obtain⟨_,d4⟩:=zg d2;rw[<-d3] at d4;lia
  .rw[aA c1];split <;> lia
 .rw[aA e];split <;> split <;> lia
theorem Ed:∀ {ns:List Nat} {st:Nat},0<st->(∀x∈ns,0<x)->kA h (bx m st ns)<=wt ns
 |[],_,_,_=>aU _
 |n::ns,st,hs,hn=>by
  show kA h (vF m st n++bx m (st*n) ns)<=_+wt ns;rw[oK];have h1:=G4 (m:=m) (n:=n) (h:=h) hs;have h2:=Ed (m:=m) (h:=h) (ns:=ns) (st:=st*n) (qm hs (hn n bU)) fun x hx=>hn x (cU _ hx);lia
theorem Ee:∀ {ns:List Nat},(∀x∈ns,2<=x)->3 ^ wt ns<=pr ns*pr ns
 |[],_=>aU _
 |n::ns,hn=>by
  have ih:=Ee (ns:=ns) fun x hx=>hn x (cU _ hx);have h2:=hn n bU;show 3 ^ ((if n=2 then 1 else 2)+wt ns)<=n*pr ns*(n*pr ns);rw[Nat.pow_add,Nat.mul_mul_mul_comm];refine yd ?_ ih;by_cases c:n=2
  .rw[am c,c];decide
  .rw[aA c];have:3<=n:=by lia
   exact yd this this
theorem O4(hn:∀x∈ns,2<=x)(hp:pr ns<=32):wt ns<=8:=by
 refine lE fun z=>?_;have h1:3 ^ 9<=3 ^ wt ns:=Nat.pow_le_pow_right (by decide) (by lia);have h2:=Ee hn;have h3:pr ns*pr ns<=32*32:=yd hp hp;have h4:(3:Nat) ^ 9=19683:=by decide
 lia
theorem Ef{ns:List Nat}(hn:∀x∈ns,2<=x)(h0:ns≠[])(hp:pr ns<=32):cg (pr ns) (df ((lq ns).map hX)):=by
 have K4:∀x∈ns,0<x:=fun x hx=>by have:=hn x hx;lia
 have q:∀q∈lq ns,q.1<q.2/\q.2<pr ns:=fun q hq=>by
  obtain⟨a,b⟩:=uP.mp hq;exact O2 K4 b a
 have n1:2<=pr ns:=by
  cases ns with
  |nil=>exact absurd rfl h0
  |cons n ns=>
   have h2:=hn n bU;have:∀ {l:List Nat},(∀x∈l,2<=x)->1<=pr l:=fun {l}=>by
    induction l with
    |nil=>intro _;exact aU _
    |cons x l ih=>intro hl;exact qm (by have:=hl x bU;lia) (ih fun y hy=>hl y (cU _ hy))
   have h3:=this (l:=ns) fun x hx=>hn x (cU _ hx);show 2<=n*pr ns;exact bw h2 (Nat.le_mul_of_pos_right n h3)
 have mem:∀t∈df ((lq ns).map hX),∃q∈lq ns,t=hX q\/t=nY (hX q):=fun t ht=>by
  rcases l_.mp ht with z|z
  .obtain⟨q,hq,e⟩:=bn.mp z;exact⟨q,hq,.inl e.symm⟩
  .obtain⟨q,hq,e⟩:=bn.mp z;exact⟨q,hq,.inr (by rw[e])⟩
 have rg:∀t∈df ((lq ns).map hX),((0<=t.1/\t.1<pr ns)/\(0<=t.2/\t.2<pr ns))/\t.1≠t.2:=fun t ht=>by
  obtain⟨p,hq,e⟩:=mem t ht;obtain⟨a,b⟩:=q p hq;rcases e with rfl|rfl
  .exact⟨⟨⟨by show (0:Int)<=(p.1:Int);lia,by show (p.1:Int)<(pr ns:Int);lia⟩,by show (0:Int)<=(p.2:Int);lia,by show (p.2:Int)<(pr ns:Int);lia⟩,by show ((p.1:Nat):Int)≠(p.2:Nat);lia⟩
  .exact⟨⟨⟨by show (0:Int)<=(p.2:Int);lia,by show (p.2:Int)<(pr ns:Int);lia⟩,by show (0:Int)<=(p.1:Int);lia,by show (p.1:Int)<(pr ns:Int);lia⟩,by show ((p.2:Nat):Int)≠(p.1:Nat);lia⟩
 have nd:(df ((lq ns).map hX)).Nodup:=BZ (B0 (wA (by decide) hn)) fun u hu=>by
  obtain⟨p,hq,rfl⟩:=bn.mp hu;have:=(q p hq).1;show (p.1:Int)<(p.2:Int);lia
 refine⟨n1,hp,nd,fun t ht=>(rg t ht).1,fun t ht=>(rg t ht).2,fun h=>?_,fun h=>?_,fun a b ha hb=>?_⟩
 .rw[<-(Ax (ps:=(lq ns).map hX)).filter (fun t=>decide (t.1=h)) |>.length_eq,m6,aO];rfl
 .by_cases c:0<=h/\h<pr ns
  .have:=Ed (m:=pr ns) (h:=h.toNat) (ns:=ns) (st:=1) (by decide) K4;have e:=uO (h:=h.toNat) (qs:=lq ns);rw[xK c.1] at e;rw[e];exact bw this (O4 hn hp)
  .have e:(df ((lq ns).map hX)).filter (fun t=>decide (t.1=h))=[]:=xA.mpr fun t ht e=>c ((show t.1=h from cM e) ▸ (rg t ht).1.1);rw[e];exact dh _
 .have yE:∀v,v<pr ns->(∃k,du (df ((lq ns).map hX)) k 0 v)/\∃k,du (df ((lq ns).map hX)) k v 0:=by
   intro v;induction v using Nat.strongRecOn with
   |ind v ih=>
    intro hv;rcases Nat.eq_zero_or_pos v with e|e
    .subst e;exact⟨⟨0,rfl⟩,0,rfl⟩
    .obtain⟨u,hu,uu⟩:=Ec K4 e hv;obtain⟨⟨k,w⟩,l,w'⟩:=ih u hu (by lia);have t:T (df ((lq ns).map hX)) u v:=l_.mpr (.inl (bn.mpr ⟨(u,v),uP.mpr ⟨by show u<pr ns;lia,uu⟩,rfl⟩));have t':T (df ((lq ns).map hX)) v u:=Aw t;exact⟨⟨k+1,u,w,t⟩,l+1,du.cons t' w'⟩
  obtain⟨_,k,w⟩:=yE a ha;obtain⟨⟨l,w'⟩,_⟩:=yE b hb;exact⟨_,w.trans w'⟩
end jV
namespace vG
open PySem L2
def i5(i:Nat):Stmt:=PySem.Challenge.pw_neverwait_k25_eager_handings.main.body.getD i (.Pass ⟨0,0,0,0⟩)
abbrev zh:Stmt:=i5 10
abbrev uR:Stmt:=i5 11
abbrev zi:Stmt:=i5 12
abbrev K5:Stmt:=i5 14
structure Bl(mg:Str->Option Value):Prop where
 O5:mg "isinstance"=none
 int:mg "int"=none
 bool:mg "bool"=none
 tup:mg "tuple"=none
 lst:mg "list"=none
 str:mg "str"=none
 set:mg "set"=none
 len:mg "len"=none
 range:mg "range"=none
 sorted:mg "sorted"=none
 any:mg "any"=none
 max:mg "max"=none
 min:mg "min"=none
 Zo:mg "ValueError"=none
 all:mg "all"=none
def Eg(K:PySem.W.Frag)(H:Hp)(x:V):Prop:=∃t,Of K H x t/\(PySem.W.kitOne K t (.type "int")=some false\/(PySem.W.kitOne K t (.type "int")=some true/\PySem.W.kitOne K t (.type "bool")=some true))
theorem wB:PySem.W.kitOne K (.type "int") (.type "int")=some true:=by kernel_rfl
theorem uS:PySem.W.kitOne K (.type "int") (.type "bool")=some false:=by kernel_rfl
inductive Wh (K:PySem.W.Frag) (H:Hp):V->Option Int->Prop where
 |int (i:Int):Wh K H (.int i) (some i)
 |no {x:V} (h:Eg K H x):Wh K H x none
def uT(K:PySem.W.Frag):Sp:=fun vs H Q _=>∃x o,vs=[x]/\Wh K H x o/\Q (.bl o.isSome) H
section
variable {P:Program} {w:World} {K:PySem.W.Frag} {mg:Str->Option Value} {base:Heap}
theorem G5:aS ["thing"] ["thing"] (az zh):=dB (by decide +kernel)
theorem Eh(F:hW K "is_whole" "is_whole" zh f fd)(B:Bl mg):bY P w K mg base bE 1 f fd ["thing"] (uT K):=by
 refine F.ok G5 (fun vs H Q E h=>?_) (fun eQ A outer s H vs Q E hr h=>?_)
 .obtain⟨x,o,rfl,_⟩:=h;rfl
 .obtain⟨x,o,rfl,W,k⟩:=h;refine⟨_,ap (aX (nn (aE jO (by rfl) B.O5 pT (aa (pv 0) (aa (lL (v:=.ty "int") rfl B.int PyProof.Rows.boot_int rfl) ae)))
   (qr (J8 (aE jO (by rfl) B.O5 pT (aa (pv 0) (aa (lL (v:=.ty "bool") rfl B.bool PyProof.Rows.boot_bool rfl) ae))))))),?_⟩
  cases W with
  |int i=>
   refine⟨_,rfl,_,_,_,.type "int",true,rfl,⟨rfl,wB⟩,.of (.int _),true,rfl,?_⟩;exact⟨_,rfl,_,_,_,.type "int",false,rfl,⟨rfl,uS⟩,.of (.int _),false,rfl,k⟩
  |no h=>
   obtain⟨t,ty,h|⟨h1,h2⟩⟩:=h
   .exact⟨_,rfl,_,_,_,t,false,rfl,⟨rfl,h⟩,ty,false,rfl,k⟩
   .refine⟨_,rfl,_,_,_,t,true,rfl,⟨rfl,h1⟩,ty,true,rfl,?_⟩;exact⟨_,rfl,_,_,_,t,true,rfl,⟨rfl,h2⟩,ty,true,rfl,k⟩
def iz(o:Option Int)(lo hi:Int):Bool:=match o with
 |some i=>decide (lo<=i)&&decide (i<=hi)
 |none=>false
def md(K:PySem.W.Frag):Sp:=fun vs H Q _=>∃x o lo hi,vs=[x,.int lo,.int hi]/\Wh K H x o/\Q (.bl (iz o lo hi)) H
theorem Ei:aS ["thing","least","most"] ["thing","least","most"] (az uR):=dB (by decide +kernel)
theorem B1(F:hW K "is_whole_within" "is_whole_within" uR f fd)(W:cX P w K mg base bE 1 "is_whole" ["thing"] (uT K)):bY P w K mg base bE 2 f fd ["thing","least","most"] (md K):=by
 refine F.ok Ei (fun vs H Q E h=>?_) (fun eQ A outer s H vs Q E hr h=>?_)
 .obtain⟨x,o,lo,hi,rfl,_⟩:=h;rfl
 .obtain⟨x,o,lo,hi,rfl,wh,k⟩:=h;refine⟨_,ap (aX (nn (aL W hr aR (aa (pv 0) ae)) (qr (C5 Jf Jf (pv 1) (pv 0) (pv 2))))),?_⟩;refine⟨_,rfl,x,o,rfl,wh,?_⟩;cases wh with
  |no h=>exact⟨false,rfl,k⟩
  |int i=>
   refine⟨true,rfl,_,rfl,_,rfl,_,_,rfl,rfl,_,rfl,?_⟩;show if decide (lo<=i)=true then _ else _
   have k':Q (.bl (decide (lo<=i)&&decide (i<=hi))) H:=k;by_cases h:lo<=i
   .rw[decide_eq_true h] at k' |-;exact⟨_,rfl,_,_,rfl,rfl,k'⟩
   .rw[cY h] at k' |-;exact k'
def pL(K:PySem.W.Frag):Sp:=fun vs H Q _=>∃x o n,vs=[.int n,x]/\Wh K H x o/\Q (.bl (iz o 0 (n-1))) H
theorem G6:aS ["many","thing"] ["many","thing"] (az zi):=dB (by decide +kernel)
theorem Ej(F:hW K "is_house" "is_house" zi f fd)(W:cX P w K mg base bE 2 "is_whole_within" ["thing","least","most"] (md K)):bY P w K mg base bE 3 f fd ["many","thing"] (pL K):=by
 refine F.ok G6 (fun vs H Q E h=>?_) (fun eQ A outer s H vs Q E hr h=>?_)
 .obtain⟨x,o,n,rfl,_⟩:=h;rfl
 .obtain⟨x,o,n,rfl,wh,k⟩:=h;refine⟨_,ap (aX (aL W hr aR (aa (pv 1) (aa av (aa (bg k8 (pv 0) av) ae))))),?_⟩;exact⟨_,rfl,_,rfl,_,_,rfl,rfl,x,o,0,n-1,rfl,wh,k⟩
inductive Rw (K:PySem.W.Frag) (H:Hp):V->Option (List V)->Prop where
 |tup {p:Addr} {xs:List V} (h:H p=some (.tup xs)):Rw K H (.ref p) (some xs)
 |no {x:V} {t:Value} (ty:Of K H x t) (h:PySem.W.kitOne K t (.type "tuple")=some false):Rw K H x none
def O6(o:Option (List V))(m:Int):Bool:=match o with
 |some xs=>decide ((xs.length:Int)=m)
 |none=>false
theorem G7:PySem.W.kitOne K (.type "tuple") (.type "tuple")=some true:=by kernel_rfl
def Ek(K:PySem.W.Frag):Sp:=fun vs H Q _=>∃x o m,vs=[x,.int m]/\Rw K H x o/\Q (.bl (O6 o m)) H
theorem O7:aS ["thing","length"] ["thing","length"] (az K5):=dB (by decide +kernel)
theorem K6(F:hW K "is_row" "is_row" K5 f fd)(B:Bl mg):bY P w K mg base bE 1 f fd ["thing","length"] (Ek K):=by
 refine F.ok O7 (fun vs H Q E h=>?_) (fun eQ A outer s H vs Q E hr h=>?_)
 .obtain⟨x,o,m,rfl,_⟩:=h;rfl
 .obtain⟨x,o,m,rfl,W,k⟩:=h;refine⟨_,ap (aX (nn (aE jO (by rfl) B.O5 pT (aa (pv 0) (aa (lL (v:=.ty "tuple") rfl B.tup pR rfl) ae)))
   (qr (ie eJ (aE aD (by rfl) B.len cu (aa (pv 0) ae)) (pv 1) (aP _))))),?_⟩
  cases W with
  |@tup p xs h=>
   refine⟨_,rfl,_,_,_,.type "tuple",true,rfl,⟨rfl,G7⟩,.of (.tup h),true,rfl,?_⟩;refine⟨_,rfl,_,_,rfl,.inr (bD.of h),_,rfl,rfl,?_⟩;have e:decide (V.int ((xs.length:Nat):Int)=V.int m)=decide (((xs.length:Nat):Int)=m):=by simp
   rw[e];exact k
  |no ty h=>exact⟨_,rfl,_,_,_,_,false,rfl,⟨rfl,h⟩,ty,false,rfl,k⟩
end
theorem bt(s:aG H H')(hD:H D=none):aG H (upd H' D o):=fun b u e=>by rw[aj (ak e hD)];exact s b u e
abbrev IV(ns:List Int):List V:=ns.map V.int
abbrev NV(ns:List Nat):List V:=ns.map fun (x:Nat)=>V.int (x:Int)
theorem me(G:St->Hp->Prop)(hr:∀σ H,G σ H->u D σ H)(ht:∀N:St->Hp->Prop,(∀σ H,G σ H->N σ H)->t { D with nx:=N } σ H):NJ t u D σ H:=ht _ hr
abbrev Zs:=List (Addr×(Int×Int))
abbrev rG(u:Int×Int):HO:=.tup [.int u.1,.int u.2]
def zr(zs:Zs):List V:=zs.map fun z=>V.ref z.1
def zp(zs:Zs):List (Int×Int):=zs.map (·.2)
def PO(H:Hp)(zs:Zs):Prop:=∀z∈zs,H z.1=some (rG z.2)
theorem eh:zr (a++b)=zr a++zr b:=cq
theorem et:zp (a++b)=zp a++zp b:=cq
theorem cx:(zr a).length=a.length:=aO _
theorem bv:(zp a).length=a.length:=aO _
theorem mf:zr a=(a.map (·.1)).map V.ref:=by unfold zr;rw[cy];rfl
theorem nZ{zs:Zs}{i:Nat}{x:V}(h:(zr zs)[i]?=some x):∃z,zs[i]?=some z/\x=.ref z.1:=by
 unfold zr at h;rw[bZ] at h;cases e:zs[i]? with
 |none=>rw[e] at h;cases h
 |some z=>rw[e] at h;exact⟨z,rfl,(bW h).symm⟩
theorem PO.nil:PO H []:=fun z hz=>(nomatch hz)
theorem PO.same(h:PO H zs)(s:aG H H'):PO H' zs:=fun z hz=>s _ _ (h z hz)
theorem PO.putL(h:PO H zs)(e:H D=some (.lst xs)):PO (upd H D o) zs:=fun z hz=>by
 have:=h z hz;rw[aj (by rintro rfl;rw[e] at this;cases this)];exact this
theorem PO.putN(h:PO H zs)(e:H D=none):PO (upd H D o) zs:=h.same (ai e)
theorem PO.append(h:PO H a)(h':PO H b):PO H (a++b):=fun z hz=>(bS.mp hz).elim (h z) (h' z)
theorem PO.one(h:H p=some (rG u)):PO H [(p,u)]:=fun z hz=>by rw[cE.mp hz];exact h
theorem wC{zs:Zs}{i:Nat}(h:i<zs.length):(zs.map (·.1)).getD i 0=zs[i].1:=by
 rw[bb,bZ,bO h];rfl
theorem AC(h:i<zs.length):(zp zs).getD i (0,0)=zs[i].2:=by
 unfold zp;rw[bb,bZ,bO h];rfl
theorem B3{H:Hp}{zs:Zs}(ho:PO H zs){as:List Addr}(h:as.Perm (zs.map (·.1))):∃vE:Zs,vE.Perm zs/\as=vE.map (·.1):=by
 classical
 let f:Addr->Int×Int:=fun a=>match H a with
  |some (.tup [.int x,.int y])=>(x,y)
  |_=>(0,0)
 have e:(zs.map (·.1)).map (fun a=>(a,f a))=zs:=by
  rw[cy];conv=>rhs;rw[<-kZ zs]
  refine h_ fun z hz=>?_;have:=ho z hz;show (z.1,f z.1)=z;have e2:f z.1=z.2:=by
   show (match H z.1 with|some (.tup [.int x,.int y])=>(x,y)|_=>(0,0))=z.2;rw[this]
  rw[e2]
 refine⟨as.map fun a=>(a,f a),?_,?_⟩
 .have:=h.map (fun a=>(a,f a));rw[e] at this;exact this
 .rw[cy];exact(kZ as).symm
abbrev WH(us:List (Int×Int)):Prop:=us=us
theorem G8{K:PySem.W.Frag}{H:Hp}{l:Addr}{zs:Zs}{Q:VK}(hl:H l=some (.lst (zr zs)))(ho:PO H zs)(hz:zs.length<=4096)(hb:∀u∈zp zs,0<=u.2/\u.2<64)(q:∀ (D:Addr) (vE:Zs),H D=none->vE.Perm zs->WH (zp vE)->Q (.ref D) (upd H D (.lst (zr vE)))):DS K [.ref l] H Q:=by
 refine⟨l,zs.map (·.1),rfl,aQ.of (by rw[<-mf];exact hl),fun a ha=>?_,by rw[aO];exact hz,fun D xc hD hp=>?_⟩
 .obtain⟨z,hz,rfl⟩:=bn.mp ha;exact⟨_,_,bD.of (ho z hz)⟩
 .obtain⟨vE,h1,rfl⟩:=B3 ho hp;rw[<-mf];exact q D vE hD h1 rfl
theorem mh(F:Nat->Int×Int)(bq:St->Prop)(hD:H0 D=none)(hn:n<=100000)(h0:bq σB)(hs:∀i σ H (R:V->St->Hp->Prop) (Kf:St->Hp->Prop),i<n->bq σ->aG H0 H->(∀σ2 p,bq σ2->H p=none->R (.ref p) σ2 (upd H p (rG (F i))))->g (.int (lo+i)) σ H fun σ2 H2=>tt σ2 H2 fun b H3=>if b=true then te σ2 H3 fun v H4=>R v σ2 H4 else Kf σ2 H3)(hd:∀zs H,aG H0 H->H D=some (.lst (zr zs))->PO H zs->zp zs=(List.range n).map F->(∀z∈zs,H0 z.1=none)->dU H):fP (Cp lo n) g tt te D dU σB (upd H0 D (.lst [])):=by
 refine dD (fun i ys σ H=>bq σ/\aG H0 H/\H D=some (.lst ys)/\∃zs:Zs,ys=zr zs/\PO H zs/\zp zs=(List.range i).map F/\∀z∈zs,H0 z.1=none) ⟨h0,ai hD,ab,[],rfl,PO.nil,rfl,fun z hz=>nomatch hz⟩ ?_ ?_
 .rintro i ys σ H Kt Kf hi ⟨sh,sm,dE,zs,rfl,po,ep,fr⟩ kt kf;have hl:zs.length=i:=by rw[<-bv,ep,aO,bR]
  refine hs i σ H Kt Kf hi sh sm (fun σ2 p lr hp=>?_)
  .have nD:D≠p:=ak dE hp;refine kt _ _ _ (by rw[aj nD];exact dE) (by rw[cx,hl];exact cA hi (bw hn (by decide))) ⟨lr,bt (sm.trans (ai hp)) hD,ab,zs++[(p,F i)],?_,?_,?_,?_⟩
   .rw[eh];rfl
   .refine PO.putL (xs:=zr zs) ?_ (by rw[aj nD];exact dE);exact(po.putN hp).append (PO.one ab)
   .rw[et,ep,je,cq];rfl
   .intro z hz;rcases bS.mp hz with z'|z'
    .exact fr z z'
    .rw[cE.mp z'];exact sm.free hp
 .rintro ys σ H ⟨_,sm,dE,zs,rfl,po,ep,fr⟩;exact hd zs H sm dE po ep fr
theorem El{K:PySem.W.Frag}{a D:Addr}{zj:Zs}{g:TG}{tt:TT}{te:TE}{dU:Hp->Prop}{σB:St}{H0:Hp}(F:Int×Int->Int×Int)(bq:St->Prop)(ha:H0 a=some (.lst (zr zj)))(Zp:PO H0 zj)(hD:H0 D=none)(hn:zj.length<=100000)(h0:bq σB)(hs:∀z σ H (R:V->St->Hp->Prop) (Kf:St->Hp->Prop),z∈zj->bq σ->H z.1=some (rG z.2)->(∀σ2 p,bq σ2->H p=none->R (.ref p) σ2 (upd H p (rG (F z.2))))->g (.ref z.1) σ H fun σ2 H2=>tt σ2 H2 fun b H3=>if b=true then te σ2 H3 fun v H4=>R v σ2 H4 else Kf σ2 H3)(hd:∀zs H,aG H0 H->H D=some (.lst (zr zs))->PO H zs->zp zs=(zp zj).map F->(∀z∈zs,H0 z.1=none)->dU H):fP (A7 K a) g tt te D dU σB (upd H0 D (.lst [])):=by
 refine cK (xs:=zr zj) (fun i ys σ H=>bq σ/\aG H0 H/\H D=some (.lst ys)/\∃zs:Zs,ys=zr zs/\PO H zs/\zp zs=((zp zj).take i).map F/\∀z∈zs,H0 z.1=none) ⟨h0,ai hD,ab,[],rfl,PO.nil,rfl,fun z hz=>nomatch hz⟩ (fun i ys σ H _ z=>aQ.of (z.2.1 _ _ ha)) ?_ ?_
 .rintro i x ys σ H Kt Kf hx ⟨sh,sm,dE,zs,rfl,po,ep,fr⟩ kt kf;obtain⟨z,hz,rfl⟩:=nZ hx;have hi:i<zj.length:=(cN.mp hz).1;have n0:z∈zj:=cm hz;have hl:zs.length=i:=by rw[<-bv,ep,aO,jx,bv];lia
  refine hs z σ H Kt Kf n0 sh (sm _ _ (Zp z n0)) (fun σ2 p lr hp=>?_)
  .have nD:D≠p:=ak dE hp;refine kt _ _ _ (by rw[aj nD];exact dE) (by rw[cx,hl];exact cA hi (bw hn (by decide))) ⟨lr,bt (sm.trans (ai hp)) hD,ab,zs++[(p,F z.2)],?_,?_,?_,?_⟩
   .rw[eh];rfl
   .refine PO.putL (xs:=zr zs) ?_ (by rw[aj nD];exact dE);exact(po.putN hp).append (PO.one ab)
   .have e2:(zp zj)[i]?=some z.2:=by unfold zp;rw[bZ,hz];rfl
    rw[et,ep,eC,e2,xN,cq];rfl
   .intro z hz;rcases bS.mp hz with z'|z'
    .exact fr z z'
    .rw[cE.mp z'];exact sm.free hp
 .rintro ys σ H ⟨_,sm,dE,zs,rfl,po,ep,fr⟩;rw[cx,<-bv,fA] at ep;exact hd zs H sm dE po ep fr
open jV
abbrev AD:Stmt:=pE (i5 19) 0
abbrev K7:Stmt:=pE (i5 19) 4
abbrev Em:Stmt:=pE (i5 19) 6
abbrev zk:Stmt:=pE (i5 19) 8
theorem Zq:¬ (("house_count":Str)="tie_list"):=by decide +kernel
theorem Zr:¬ (("house_count":Str)="out_lists"):=by decide +kernel
theorem Zt:¬ (("house_count":Str)="distances"):=by decide +kernel
theorem Zu:¬ (("out_lists":Str)="distances"):=by decide +kernel
def o5(n:Int)(tl ol ds:Addr):List (Str×V):=dA "distances" (.ref ds) (dA "out_lists" (.ref ol) (dA "tie_list" (.ref tl) (dA "house_count" (.int n) [])))
theorem G9(n:Int)(tl ol ds:Addr):(o5 n tl ol ds).lookup ("house_count":Str)=some (.int n):=by
 unfold o5;rw[bB,aA Zt,bB,aA Zr,bB,aA Zq,bB,am rfl]
theorem uU(n:Int)(tl ol ds:Addr){m:Str}(h1:¬ m="house_count")(h2:¬ m="tie_list")(h3:¬ m="out_lists")(h4:¬ m="distances"):(o5 n tl ol ds).lookup m=none:=by
 unfold o5;rw[bB,aA h4,bB,aA h3,bB,aA h2,bB,aA h1];all_goals rfl
theorem G_(n:Int)(tl ol ds:Addr):(o5 n tl ol ds).lookup ("out_lists":Str)=some (.ref ol):=by
 unfold o5;rw[bB,aA Zu,bB,am rfl]
theorem AE(n:Int)(tl ol ds:Addr):(o5 n tl ol ds).lookup ("distances":Str)=some (.ref ds):=by
 unfold o5;rw[bB,am rfl]
def bK(H:Hp)(L:Addr->Prop)(l:Addr)(n:Nat)(r:Nat->List Nat):Prop:=∃bs:List Addr,H l=some (.lst (bs.map V.ref))/\(∀b∈bs,L b)/\Holds H bs n (fun h=>.lst (NV (r h)))
theorem bK.keep(R:bK H L l n r)(hl:L l)(k:∀b o,L b->H b=some o->H' b=some o):bK H' L l n r:=
 let ⟨bs,a,b,c⟩:=R
 ⟨bs,k _ _ hl a,b,c.mono fun j hj e=>k _ _ (b _ (by rw[bb,bO (by rw[c.1];exact hj)];exact dR _)) e⟩
theorem bK.row(R:bK H L l n r)(hh:h<n):∃ (bs:List Addr) (b:Addr),H l=some (.lst (bs.map V.ref))/\(bs.map V.ref)[h]?=some (V.ref b)/\H b=some (.lst (NV (r h)))/\L b:=by
 obtain⟨bs,a,b,c⟩:=R;have hl:h<bs.length:=by rw[c.1];exact hh
 refine⟨bs,bs[h],a,by rw[bZ,bO hl];rfl,?_,b _ (dR _)⟩;have:=c.2 h hh;rw[bb,bO hl] at this;exact this
def Ha(H:Hp)(L:Addr->Prop)(tl:Addr)(ts:Ts):Prop:=L tl/\∃zs:Zs,H tl=some (.lst (zr zs))/\PO H zs/\(∀z∈zs,L z.1)/\(zp zs).Perm ts/\WH (zp zs)
theorem Ha.keep(h:Ha H L tl ts)(k:∀b o,L b->H b=some o->H' b=some o):Ha H' L tl ts:=
 let ⟨a,zs,b,c,d,e⟩:=h;⟨a,zs,k _ _ a b,fun z hz=>k _ _ (d z hz) (c z hz),d,e⟩
structure fQ(C:Addr)(H:Hp)(L:Addr->Prop)(p:Addr)(n:Nat)(ts:Ts):Prop where
 lm:cg n ts
 ob:∃dx tl ol ds,H p=some (.ins C dx (o5 n tl ol ds))/\L ol/\L ds/\bK H L ol n (bh n ts)/\bK H L ds n (fun h=>(List.range n).map (far ts h))/\Ha H L tl ts
theorem fQ.keep(N:fQ C H L p n ts)(k:∀b o,L b->H b=some o->H' b=some o)(kp:∀o,H p=some o->H' p=some o):fQ C H' L p n ts:=
 let ⟨dx,tl,ol,ds,a,l1,l2,b,c,d⟩:=N.ob
 ⟨N.lm,dx,tl,ol,ds,kp _ a,l1,l2,b.keep l1 k,c.keep l2 k,d.keep k⟩
theorem fQ.same(N:fQ C H L p n ts)(s:aG H H'):fQ C H' L p n ts:=N.keep (fun b o _ e=>s b o e) (fun o e=>s _ o e)
structure NT(K:PySem.W.Frag)(mg:Str->Option Value)(C:Addr):Prop where
 cl:FQ K C
 nH:ix K C "house_count"
 nT:ix K C "tie_list"
 nO:ix K C "out_lists"
 nD:ix K C "distances"
 Zv:mg "Net"=some (.ref C)
structure wD(P:Program)(w:World)(K:PySem.W.Frag)(mg:Str->Option Value)(base:Heap)(CX:w_)(k:Nat)(C:Addr)(x:Str)(ps:List Str)(sp:Sp):Prop where
 ex:∃f fd,Km K C x f/\jL K fd ps []/\bY P w K mg base CX k f fd ps sp
section
variable {P:Program} {w:World} {K:PySem.W.Frag} {mg:Str->Option Value} {base:Heap}
theorem He:aS ["self","thing"] ["self","thing"] (az zk):=dB (by decide +kernel)
theorem B4{i n:Nat}(h:i<n):iz (some (i:Int)) 0 ((n:Int)-1)=true:=by unfold iz;simp;lia
def qS(C:Addr):Sp:=fun vs H Q _=>∃ (L:Addr->Prop) (p:Addr) (n:Nat) (ts:Ts) (i:Nat),vs=[.ref p,.int i]/\fQ C H L p n ts/\i<n/\Q .b_ H
theorem B5{f C:Addr}{fd:FuncData}(F:hW K "check_house" "Net.check_house" zk f fd)(T:NT K mg C)(HH:cX P w K mg base bE 3 "is_house" ["many","thing"] (pL K)):
  bY P w K mg base bE 4 f fd ["self","thing"] (qS C):=by
 refine F.ok He (fun vs H Q E h=>?_) (fun eQ A outer s H vs Q E hr h=>?_)
 .obtain⟨L,p,n,ts,i,rfl,_⟩:=h;rfl
 .obtain⟨L,p,n,ts,i,rfl,N,hi,k⟩:=h;obtain⟨dx,tl,ol,ds,h1,_⟩:=N.ob;refine⟨_,ap (cf (jI (fV (aL HH hr aR (aa (nw (pv 0) rfl) (aa (pv 1) ae))))) eW a_),?_⟩;refine⟨_,rfl,p,C,dx,_,_,rfl,h1,T.cl,T.nH,G9 _ _ _ _,_,rfl,_,some (i:Int),n,rfl,.int _,_,rfl,?_⟩;rw[B4 hi];exact dQ k
theorem O8(n:Int)(tl ol ds:Addr):(o5 n tl ol ds).lookup ("check_house":Str)=none:=uU n tl ol ds (by decide +kernel) (by decide +kernel) (by decide +kernel) (by decide +kernel)
theorem K8(n:Int)(tl ol ds:Addr):(o5 n tl ol ds).lookup ("far":Str)=none:=uU n tl ol ds (by decide +kernel) (by decide +kernel) (by decide +kernel) (by decide +kernel)
theorem K9{xs:List Nat}{i:Nat}(h:i<xs.length):(NV xs)[i]?=some (.int ((xs[i]:Nat):Int)):=by rw[bZ,bO h];rfl
theorem aN:(NV xs).length=xs.length:=aO _
theorem O9:aS ["self","one","other"] ["self","one","other"] (az K7):=dB (by decide +kernel)
def uV(C:Addr):Sp:=fun vs H Q _=>∃ (L:Addr->Prop) (p:Addr) (n:Nat) (ts:Ts) (i j:Nat),vs=[.ref p,.int i,.int j]/\fQ C H L p n ts/\i<n/\j<n/\Q (.int (far ts i j:Nat)) H
theorem Hf(F:hW K "far" "Net.far" K7 f fd)(T:NT K mg C)(M:wD P w K mg base bE 4 C "check_house" ["self","thing"] (qS C)):
  bY P w K mg base bE 5 f fd ["self","one","other"] (uV C):=by
 obtain⟨fM,Zw,mM,bM,GM⟩:=M.ex;refine F.ok O9 (fun vs H Q E h=>?_) (fun eQ A outer s H vs Q E hr h=>?_)
 .obtain⟨L,p,n,ts,i,j,rfl,_⟩:=h;rfl
 .obtain⟨L,p,n,ts,i,j,rfl,N,hi,hj,k⟩:=h;obtain⟨dx,tl,ol,ds,h1,_,_,_,R,_⟩:=N.ob;refine⟨_,ag (cB (j_ (pv 0) T.cl mM GM hr bM .nil aR (aa (pv 1) ae)))
   (ag (cB (j_ (pv 0) T.cl mM GM hr bM .nil aR (aa (pv 2) ae)))
   (ap (aX (aJ aF (aJ aF (nw (pv 0) rfl) (pv 1) (fun _ _=>rfl)) (pv 2) (fun _ _=>rfl))))),?_⟩
  refine⟨_,rfl,p,dx,_,rfl,h1,O8 _ _ _ _,_,rfl,L,p,n,ts,i,rfl,N,hi,?_⟩;refine⟨_,rfl,p,dx,_,rfl,h1,O8 _ _ _ _,_,rfl,L,p,n,ts,j,rfl,N,hj,?_⟩;obtain⟨bs,b,r1,r2,r3,_⟩:=R.row hi;have hg:(NV ((List.range n).map (far ts i)))[j]?=some (.int (far ts i j:Nat)):=by
   rw[bZ,bZ,gN hj];rfl
  exact⟨_,rfl,p,C,dx,_,_,rfl,h1,T.cl,T.nD,AE _ _ _ _,_,rfl,ds,_,_,_,rfl,rfl,aQ.of r1,ao r2,_,rfl,b,_,_,_,rfl,rfl,aQ.of r3,ao hg,k⟩
end
open PySem L2 jV
abbrev zm:Stmt:=i5 20
abbrev K_:Stmt:=i5 21
abbrev La:Stmt:=i5 22
section
variable {P:Program} {w:World} {K:PySem.W.Frag} {mg:Str->Option Value} {base:Heap}
abbrev Lb:Stmt:=i5 13
theorem O_:aS ["many","one","other"] ["many","one","other"] (az Lb):=dB (by decide +kernel)
def En:Sp:=fun vs H Q _=>∃ (n a b:Int),vs=[.int n,.int a,.int b]/\0<=a/\a<n/\0<=b/\b<n/\a≠b/\Q (.bl true) H
theorem Lc(F:hW K "are_unlike_houses" "are_unlike_houses" Lb f fd)(HH:cX P w K mg base bE 3 "is_house" ["many","thing"] (pL K)):
  bY P w K mg base bE 4 f fd ["many","one","other"] En:=by
 refine F.ok O_ (fun vs H Q E h=>?_) (fun eQ A outer s H vs Q E hr h=>?_)
 .obtain⟨n,a,b,rfl,_⟩:=h;rfl
 .obtain⟨n,a,b,rfl,a1,a2,b1,b2,vA,k⟩:=h;refine⟨_,ap (aX (nn (aL HH hr aR (aa (pv 0) (aa (pv 1) ae))) (nn (aL HH hr aR (aa (pv 0) (aa (pv 2) ae))) (qr (ie rV (pv 1) (pv 2) (aP _)))))),?_⟩;refine⟨_,rfl,_,rfl,_,_,n,rfl,.int a,_,rfl,?_⟩;rw[am (show iz (some a) 0 (n-1)=true by unfold iz;simp;lia)];refine⟨_,rfl,_,rfl,_,_,n,rfl,.int b,_,rfl,?_⟩;rw[am (show iz (some b) 0 (n-1)=true by unfold iz;simp;lia)];refine⟨_,rfl,_,rfl,rfl,?_⟩;have e:(!decide (V.int a=V.int b))=true:=by simp[vA]
  rw[e];exact k
theorem Pa:aS ["many","thing"] ["many","thing"] (az K_):=dB (by decide +kernel)
def Eo:Sp:=fun vs H Q _=>∃ (n:Int) (p:Addr) (a b:Int),vs=[.int n,.ref p]/\H p=some (.tup [.int a,.int b])/\0<=a/\a<n/\0<=b/\b<n/\a≠b/\Q (.bl true) H
theorem Ld(F:hW K "is_tie" "is_tie" K_ f fd)(R:cX P w K mg base bE 1 "is_row" ["thing","length"] (Ek K))(U:cX P w K mg base bE 4 "are_unlike_houses" ["many","one","other"] En):
  bY P w K mg base bE 5 f fd ["many","thing"] Eo:=by
 refine F.ok Pa (fun vs H Q E h=>?_) (fun eQ A outer s H vs Q E hr h=>?_)
 .obtain⟨n,p,a,b,rfl,_⟩:=h;rfl
 .obtain⟨n,p,a,b,rfl,hp,a1,a2,b1,b2,vA,k⟩:=h;refine⟨_,ap (aX (nn (aL R (hr.mono (by decide)) aR (aa (pv 1) (aa av ae)))
   (qr (aL U hr aR (aa (pv 0) (aa (aJ bz (pv 1) av (fun _ _=>rfl)) (aa (aJ bz (pv 1) av (fun _ _=>rfl)) ae))))))),?_⟩
  refine⟨_,rfl,_,_,_,rfl,.tup hp,true,rfl,?_⟩;exact⟨_,rfl,_,rfl,p,_,_,_,rfl,rfl,bD.of hp,ao (j:=0) rfl,_,rfl,p,_,_,_,rfl,rfl,bD.of hp,ao (j:=1) rfl,n,a,b,rfl,a1,a2,b1,b2,vA,k⟩
theorem AF:aS ["many","ties","tie"] ["many","ties"] (az zm):=dB (by decide +kernel)
theorem Ep:PySem.W.kitOne K (.type "list") (.type "list")=some true:=by kernel_rfl
structure gp(H:Hp)(l:Addr)(n:Nat)(zs:Zs):Prop where
 lm:cg n (zp zs)
 at_:H l=some (.lst (zr zs))
 po:PO H zs
theorem gp.same(h:gp H l n zs)(s:aG H H'):gp H' l n zs:=⟨h.lm,s _ _ h.at_,h.po.same s⟩
def ki:Sp:=fun vs H Q _=>∃ (n:Nat) (l:Addr) (zs:Zs),vs=[.int n,.ref l]/\gp H l n zs/\∀H',aG H H'->Q .b_ H'
theorem Er(F:hW K "check_ties" "check_ties" zm f fd)(B:Bl mg)(gF:∃t,mg "FEWEST_HOUSES"=some (.int 2 t))(gM:∃t,mg "MOST_HOUSES"=some (.int 32 t))(W:cX P w K mg base bE 2 "is_whole_within" ["thing","least","most"] (md K))(T:cX P w K mg base bE 5 "is_tie" ["many","thing"] Eo):
  bY P w K mg base bE 6 f fd ["many","ties"] ki:=by
 obtain⟨tF,gF⟩:=gF;obtain⟨tM,gM⟩:=gM;refine F.ok AF (fun vs H Q E h=>?_) (fun eQ A outer s H vs Q E hr h=>?_)
 .obtain⟨n,l,zs,rfl,_⟩:=h;rfl
 .refine⟨_,ag (cf (jI (fV (aL W (hr.mono (by decide)) aR (aa (pv 0) (aa (ui (v:=.int 2) rfl gF ⟨_,rfl⟩) (aa (ui (v:=.int 32) rfl gM ⟨_,rfl⟩) ae)))))) eW a_)
   (ag (cf (jI (fV (aE jO (by rfl) B.O5 pT (aa (pv 1) (aa (lL (v:=.ty "list") rfl B.lst pV rfl) ae))))) eW a_)
   (ag (cn cZ rfl (bi (pv 1)) (aq (i:=2) AF.nd rfl aM) (ap (cf (jI (fV (aL T hr aR (aa (pv 0) (aa (pv 2) ae))))) eW a_)))
   (ap (cf (aI rV (aE v6 (by rfl) B.len cu (aa (cJ (Bx rfl (by have:=hr.un;show (A.deeper _).units+8<_;lia)) (by rfl) B.set PyProof.Rows.boot_set (aa (pv 1) ae)) ae)) (aE aD (by rfl) B.len cu (aa (pv 1) ae)) (aP _)) eW a_)))),?_⟩
  obtain⟨n,l,zs,rfl,tt,k⟩:=h;obtain⟨fi,hl,po⟩:=id tt;have n1:=fi.n1;have n2:=fi.n2;refine⟨_,rfl,_,_,2,32,rfl,.int n,_,rfl,?_⟩;rw[show iz (some (n:Int)) 2 32=true by unfold iz;simp;lia];refine dQ ?_;refine⟨_,rfl,_,_,_,.type "list",true,rfl,⟨rfl,Ep⟩,.of (.lst hl),_,rfl,dQ ?_⟩;refine⟨_,rfl,l,rfl,⟨_,aQ.of hl⟩,eI (K:=K) (a:=l) (xs:=zr zs) (fun i σ H2=>H2=H/\∃v,σ=[some (.int n),some (.ref l),v]) ⟨rfl,none,rfl⟩ (fun i σ H2 _ ⟨e,_⟩=>by rw[e];exact aQ.of hl) ?_ ?_⟩
  .rintro i x σ H2 hx ⟨rfl,v,rfl⟩;obtain⟨z,hz,rfl⟩:=nZ hx;have n0:z∈zs:=cm hz;have WI:z.2∈zp zs:=bn.mpr ⟨z,n0,rfl⟩;have r:=fi.rg _ WI;exact⟨_,rfl,_,rfl,n,_,_,_,rfl,po z n0,r.1.1,r.1.2,r.2.1,r.2.2,fi.ne _ WI,_,rfl,dQ ⟨rfl,_,rfl⟩⟩
  .rintro σ H2 ⟨rfl,v,rfl⟩;have dq:(zp zs).length<=256:=fi.len;refine⟨_,rfl,l,zs.map (·.1),zp zs,rfl,aQ.of (by rw[<-mf];exact hl),by rw[aO,bv],fun i hi=>?_,fi.nd,fun y hy=>?_,by lia,fun D hD=>?_⟩
   .rw[bv] at hi;rw[wC hi,AC hi];exact bD.of (po _ (dR hi))
   .have r:=fi.rg _ hy;lia
   .have nl:l≠D:=ak hl hD;refine⟨D,_,rfl,ab,by lia,_,rfl,l,zr zs,rfl,.inl (aQ.of (by rw[aj nl];exact hl)),rfl,_,rfl,?_⟩;have ez:(!decide (V.int (((zp zs).length:Nat):Int)=V.int (((zr zs).length:Nat):Int)))=false:=by rw[bv,cx];simp
    rw[ez];exact dQ (k _ (ai hD))
end
abbrev wE:Stmt:=i5 23
section
variable {P:Program} {w:World} {K:PySem.W.Frag} {mg:Str->Option Value} {base:Heap}
theorem n5(S:St->Prop)(p q:Int×Int->Int)(h:Int)(hD:H D=none)(hl:H l=some (.lst (zr zs)))(po:PO H zs)(hn:zs.length<=1000)(s0:S σB)(hg:∀z σ H2 (Kt:V->St->Hp->Prop) (Kf:St->Hp->Prop),z∈zs->S σ->H2 z.1=some (rG z.2)->(∀σ2,S σ2->p z.2=h->Kt (.int (q z.2)) σ2 H2)->(∀σ2,S σ2->p z.2≠h->Kf σ2 H2)->
   g (.ref z.1) σ H2 fun σ2 H2=>tt σ2 H2 fun b H3=>if b=true then te σ2 H3 fun v H4=>Kt v σ2 H4 else Kf σ2 H3)(hd:dU (upd H D (.lst (IV (((zp zs).filter fun y=>decide (p y=h)).map q))))):fP (A7 K l) g tt te D dU σB (upd H D (.lst [])):=by
 have nl:l≠D:=ak hl hD;have tk:∀ {i:Nat} {z:Addr×(Int×Int)},zs[i]?=some z->(zp zs).take (i+1)=(zp zs).take i++[z.2]:=fun {i z} hz=>by
  rw[eC,show (zp zs)[i]?=some z.2 by unfold zp;rw[bZ,hz];rfl];rfl
 refine cK (xs:=zr zs) (fun i ys σ H2=>S σ/\ys=IV ((((zp zs).take i).filter fun y=>decide (p y=h)).map q)/\H2=upd H D (.lst ys)) ⟨s0,by simp,rfl⟩ (fun i ys σ H2 _ ⟨_,_,e⟩=>by rw[e];exact aQ.of (by rw[aj nl];exact hl)) ?_ ?_
 .rintro i x ys σ H2 Kt Kf hx ⟨hS,ey,rfl⟩ kt kf;obtain⟨z,hz,rfl⟩:=nZ hx;have n0:z∈zs:=cm hz;have hp:=po z n0;have na:z.1≠D:=ak hp hD;have hi:i<zs.length:=(cN.mp hz).1;refine hg z σ _ Kt Kf n0 hS (by rw[aj na];exact hp) (fun σ2 s2 e=>?_) (fun σ2 s2 e=>?_)
  .refine kt _ _ _ ab ?_ ⟨s2,?_,?_⟩
   .rw[ey,aO,aO];exact eA (dF _ _) (eA (tG _ _) (cA (show i<1000 by lia) (by decide)))
   .rw[ey,tk hz,eH,cq];have:decide (p z.2=h)=true:=by simp[e]
    simp[cQ,this]
   .rw[j8]
  .refine kf _ _ ⟨s2,?_,rfl⟩;have:decide (p z.2=h)=false:=by simp[e]
   rw[ey,tk hz,eH];simp[cQ,this]
 .rintro ys σ H2 ⟨_,ey,rfl⟩;rw[cx,<-bv,fA] at ey;rw[ey];exact hd
theorem M_:(["one","other","house"]:List Str).Nodup:=by decide +kernel
theorem AG:aS ["many","ties","house","leading_out","leading_in"] ["many","ties"] (az La):=dB (by decide +kernel)
theorem Le(F:hW K "check_balance" "check_balance" La f fd)(B:Bl mg)(gM:∃t,mg "MOST_TIES_OUT"=some (.int 8 t)):
  bY P w K mg base bE 1 f fd ["many","ties"] ki:=by
 obtain⟨tM,gM⟩:=gM;refine F.ok AG (fun vs H Q E h=>?_) (fun eQ A outer s H vs Q E hr h=>?_)
 .obtain⟨n,l,zs,rfl,_⟩:=h;rfl
 .obtain⟨n,l,zs,rfl,T,k⟩:=h;have fi:=T.lm;have n1:=fi.n1;have n2:=fi.n2;have dq:zs.length<=256:=by have:=fi.len;rw[bv] at this;exact this
  refine'⟨_,ap (cn cZ rfl (aY rfl B.range (aa (pv 0) ae)) (aq (i:=2) AG.nd rfl bo)
   (ag (aH (i:=3) AG.nd rfl aM (aE aD (by rfl) B.len cu (aa ?c1 ae)))
   (ag (aH (i:=4) AG.nd rfl aM (aE aD (by rfl) B.len cu (aa ?c2 ae)))
   (ag (cf (aI rV (pv 3) (pv 4) (aP _)) eW a_)
   (ap (cf (aI vP (pv 3) (ui (v:=.int 8) rfl gM ⟨_,rfl⟩) (aP _)) eW a_)))))),?_⟩
  case c1=>
   refine' bJ (g:=A4 K 2 (jK (bp 0) (jK (bp 1) A3))) (NB:=["one","other","house"]) (src:=[none,none,some 2]) (bf (by kernel_rfl)) rfl (bi (pv 1)) ?g ?t ?e;case g=>exact fun cl C s₃ H₃ fp=>eG (n:=2) rfl (aW (aq (i:=0) M_ rfl aM bo) (aW (aq (i:=1) M_ rfl aM bo) cS))
   case t=>exact fun cl C s₃ H₃ fp=>cj (aI eJ (pv 0) (pv 2) (aP _))
   case e=>exact fun cl C s₃ H₃ fp=>pv 0
  case c2=>
   refine' bJ (g:=A4 K 2 (jK (bp 0) (jK (bp 1) A3))) (NB:=["one","other","house"]) (src:=[none,none,some 2]) (bf (by kernel_rfl)) rfl (bi (pv 1)) ?g ?t ?e;case g=>exact fun cl C s₃ H₃ fp=>eG (n:=2) rfl (aW (aq (i:=0) M_ rfl aM bo) (aW (aq (i:=1) M_ rfl aM bo) cS))
   case t=>exact fun cl C s₃ H₃ fp=>cj (aI eJ (pv 1) (pv 2) (aP _))
   case e=>exact fun cl C s₃ H₃ fp=>pv 1
  refine⟨_,rfl,n,rfl,by lia,by lia,cI (n:=n) (lo:=0) (fun i σ H2=>aG H H2/\∃a b c,σ=[some (.int n),some (.ref l),a,b,c]) ⟨aG.refl _,none,none,none,rfl⟩ ?_ ?_⟩
  .rintro i σ H2 hi ⟨sm,a,b,c,rfl⟩;have T2:=T.same sm;refine⟨_,rfl,l,rfl,⟨_,aQ.of T2.at_⟩,fun D hD=>n5 (fun σ=>∃a b,σ=[a,b,some (.int (0+(i:Int)))]) (·.1) (·.1) (0+(i:Int)) hD T2.at_ T2.po (by lia) ⟨_,_,rfl⟩ ?_ ?_⟩
   .rintro z σ H3 Kt Kf hj ⟨x,y,rfl⟩ ha kt kf;refine⟨z.1,_,rfl,bD.of ha,rfl,_,_,rfl,_,_,rfl,rfl,?_⟩;refine⟨_,rfl,_,rfl,rfl,_,rfl,?_⟩;refine d9 (fun e=>?_) (fun e=>?_)
    .exact⟨_,rfl,kt _ ⟨_,_,rfl⟩ (by simpa using e)⟩
    .exact kf _ ⟨_,_,rfl⟩ (by simpa using e)
   .refine⟨D,_,rfl,.inl (aQ.of ab),?_⟩;have B6:=bt (o:=.lst (IV (((zp zs).filter fun y=>decide (y.1=0+(i:Int))).map (·.1)))) (sm.trans (aG.refl _)) (H:=H) (by cases z:H D with|none=>rfl|some o=>rw[sm _ _ z] at hD;cases hD);have T3:=T.same B6;refine⟨_,rfl,l,rfl,⟨_,aQ.of T3.at_⟩,fun D' RG=>n5 (fun σ=>∃a b,σ=[a,b,some (.int (0+(i:Int)))]) (·.2) (·.2) (0+(i:Int)) RG T3.at_ T3.po (by lia) ⟨_,_,rfl⟩ ?_ ?_⟩
    .rintro z σ H3 Kt Kf hj ⟨x,y,rfl⟩ ha kt kf;refine⟨z.1,_,rfl,bD.of ha,rfl,_,_,rfl,_,_,rfl,rfl,?_⟩;refine⟨_,rfl,_,rfl,rfl,_,rfl,?_⟩;refine d9 (fun e=>?_) (fun e=>?_)
     .exact⟨_,rfl,kt _ ⟨_,_,rfl⟩ (by simpa using e)⟩
     .exact kf _ ⟨_,_,rfl⟩ (by simpa using e)
    .refine⟨D',_,rfl,.inl (aQ.of ab),?_⟩;rw[dz] at *;have q1:(IV (((zp zs).filter fun y=>decide (y.1=(i:Int))).map (·.1))).length=(IV (((zp zs).filter fun y=>decide (y.2=(i:Int))).map (·.2))).length:=by
      rw[aO,aO,aO,aO];exact fi.BS i
     have q2:(IV (((zp zs).filter fun y=>decide (y.1=(i:Int))).map (·.1))).length<=8:=by
      rw[aO,aO];exact fi.most i
     refine⟨_,rfl,_,rfl,rfl,_,rfl,?_⟩;rw[<-q1];rw[show (!decide (V.int (((IV (((zp zs).filter fun y=>decide (y.1=(i:Int))).map (·.1))).length:Nat):Int)=V.int (((IV (((zp zs).filter fun y=>decide (y.1=(i:Int))).map (·.1))).length:Nat):Int)))=false by simp];refine dQ ?_;refine⟨_,rfl,_,_,rfl,rfl,_,rfl,?_⟩;rw[show decide ((((IV (((zp zs).filter fun y=>decide (y.1=(i:Int))).map (·.1))).length:Nat):Int) > 8)=false by rw[xu];lia];exact dQ ⟨B6.trans (ai RG),_,_,_,rfl⟩
  .rintro σ H2 ⟨sm,a,b,c,rfl⟩;exact k H2 sm
end
def Hg:Expr:=match (cw wE).getD 1 (.Pass ⟨0,0,0,0⟩) with
 |.Return (some (.Call _ _ (k::_) _)) _=>k.value
 |_=>.Name "x" ⟨0,0,0,0⟩
def Hh:Arguments:=match Hg with
 |.Lambda a _ _ _=>a
 |_=>{ posonlyargs:=[],args:=[],vararg:=none,kwonlyargs:=[],kw_defaults:=[],kwarg:=none,defaults:=[] }
def Hi:Expr:=match Hg with
 |.Lambda _ b _ _=>b
 |e=>e
def Pb:Scope:=match Hg with
 |.Lambda _ _ s _=>s
 |_=>{ kind:=.function,names:=[],isGenerator:=false,isCoroutine:=false }
def Lf:Pos:=match Hg with
 |.Lambda _ _ _ p=>p
 |_=>⟨0,0,0,0⟩
def JB:Str:=("houses_out":Str)++".<locals>."++"<lambda>"
abbrev oM(Pt:Addr)(H:Hp):Prop:=DG Lf JB Pt H
def wF(Pt:Addr)(H H':Hp):Prop:=∀b o,H b=some o->b≠Pt->H' b=some o
theorem wF.of(a:aG H H'):wF Pt H H':=fun c o h _=>a c o h
theorem oM.not(t:oM Pt H)(h:H b=some o)(n:∀ps,o≠.rh ps):b≠Pt:=by
 rintro rfl;rcases t with z|⟨c,z,_⟩ <;> · rw[h] at z;exact n _ (bW z)
theorem oM.same(t:oM Pt H)(e:aG H H'):oM Pt H':=by
 rcases t with z|⟨c,z,y⟩
 .exact .inl (e _ _ z)
 .exact .inr ⟨c,e _ _ z,e _ _ y⟩
theorem Hj{n a b h:Int}(hn:0<n)(a0:0<=a)(a1:a<n)(b0:0<=b)(b1:b<n)(e:(a-h) % n=(b-h) % n):a=b:=by
 have h1:=Int.emod_emod_of_dvd (a-h) (Int.dvd_refl n);have q:(a-b) % n=0:=by
  have:a-b=(a-h)-(b-h):=by lia
  rw[this,Int.sub_emod,e,Int.sub_self,Int.zero_emod]
 obtain⟨c,hc⟩:=Int.dvd_of_emod_eq_zero q;have c0:c=0:=by
  rcases Int.lt_trichotomy c 0 with z|z|z
  .have:n*c<=n*(-1):=CG (by lia) (by lia);lia
  .exact z
  .have:n*1<=n*c:=CG (by lia) (by lia);lia
 rw[c0] at hc;lia
theorem rH{ts:Ts}{h:Int}(nd:ts.Nodup):((ts.filter fun y=>decide (y.1=h)).map (·.2)).Nodup:=by
 refine L2.nG (nd.filter _) fun x hx y hy e=>?_;have a:=(bA.mp hx).2;have b:=(bA.mp hy).2;simp at a b;exact ff (a.trans b.symm) e
theorem B7{n:Nat}{ts:Ts}{h:Nat}(F:cg n ts)(hh:h<n){out:List Int}(ko:KN (h:Int) (n:Int) ((ts.filter fun y=>decide (y.1=(h:Int))).map (·.2)) out):out.map V.int=NV (bh n ts h):=by
 obtain⟨ps,hp,rfl,hs⟩:=ko;have BB:(ps.map (·.2)).Perm ((ts.filter fun y=>decide (y.1=(h:Int))).map (·.2)):=by
  have:=hp.map (·.2);rw[cy] at this;refine this.trans (qi ?_);conv=>rhs;rw[<-kZ ((ts.filter fun y=>decide (y.1=(h:Int))).map (·.2))]
  rfl
 have mem:∀z,z∈ps.map (·.2)↔((h:Int),z)∈ts:=fun z=>by
  rw[BB.mem_iff,bn];constructor
  .rintro⟨y,hy,rfl⟩;obtain⟨y1,y2⟩:=bA.mp hy;have:y.1=(h:Int):=by simpa using y2
   rw[<-this];exact y1
  .intro hz;exact⟨_,bA.mpr ⟨hz,by simp⟩,rfl⟩
 have nd:(ps.map (·.2)).Nodup:=BB.nodup_iff.mpr (rH F.nd);have key:∀q∈ps,q.1=(q.2-(h:Int)) % (n:Int):=fun q hq=>by
  obtain⟨z,_,e⟩:=bn.mp (hp.mem_iff.mp hq);rw[<-e]
 have hn:(0:Int)<n:=by have:=F.n1;lia
 have sorted:(ps.map (·.2)).Pairwise fun x y=>(x-(h:Int)) % (n:Int)<(y-(h:Int)) % (n:Int):=by
  refine iD.mpr ?_;have T8:=iD.mp nd;refine(hs.and T8).imp_of_mem fun {x y} hx hy Jy=>?_;have l1:=Jy.1;rw[key x hx,key y hy] at l1;have ax:=F.rg _ ((mem x.2).mp (bn.mpr ⟨x,hx,rfl⟩));have ay:=F.rg _ ((mem y.2).mp (bn.mpr ⟨y,hy,rfl⟩));have ne:(x.2-(h:Int)) % (n:Int)≠(y.2-(h:Int)) % (n:Int):=fun z=>Jy.2 (Hj hn ax.2.1 ax.2.2 ay.2.1 ay.2.2 z);lia
 have e:ps.map (·.2)=(bh n ts h).map fun (o:Nat)=>(o:Int):=by
  refine oJ (k:=fun z=>(z-(h:Int)) % (n:Int)) sorted ?_ fun z=>?_
  .refine iD.mpr ?_;exact oI hh
  .rw[mem,bn];constructor
   .intro hz;have r:=F.rg _ hz;refine⟨z.toNat,(dL F hh).mpr ?_,by lia⟩;show (((h:Nat):Int),((z.toNat:Nat):Int))∈ts;rw[show ((z.toNat:Nat):Int)=z by lia];exact hz
   .rintro⟨o,ho,rfl⟩;exact(dL F hh).mp ho
 rw[e,cy];rfl
section
variable {P:Program} {w:World} {K:PySem.W.Frag} {mg:Str->Option Value} {base:Heap}
theorem Es:aS ["many","ties","house","others"] ["many","ties","house"] (az wE):=dB (by decide +kernel)
def uW(Pt:Addr):Sp:=fun vs H Q _=>∃ (n:Nat) (l:Addr) (h:Nat) (zs:Zs),vs=[.int n,.ref l,.int h]/\h<n/\gp H l n zs/\oM Pt H/\
 ∀ (r:Addr) (H':Hp),oM Pt H'->wF Pt H H'->H r=none->H' r=some (.lst (NV (bh n (zp zs) h)))->Q (.ref r) H'
theorem Hk(F:yV K "houses_out" "houses_out" wE f fd c)(B:Bl mg)(kb:K.In base)(hb:uF mg base)(hc:PySem.W.codeHdIn K c Pt=true):
  bY P w K mg base bE 1 f fd ["many","ties","house"] (uW Pt):=by
 refine F.ok Es (fun vs H Q E h=>?_) (fun A outer s H vs Q E hr h=>?_)
 .obtain⟨n,l,h,zs,rfl,_⟩:=h;rfl
 .obtain⟨n,l,h,zs,rfl,hh,T,tb,k⟩:=h;have fi:=T.lm;have n1:=fi.n1;have dq:zs.length<=256:=by have:=fi.len;rw[bv] at this;exact this
  have LS:Ou (ur bE P w K mg base ["many","ties","house","others"] "houses_out" (az wE) f (.ref c) A outer s H E).Jd JB Hh Hi Pb "other" "house" "many" 2 0:=
   ⟨⟨_,_,_,_,_,rfl⟩,fun _ _ _ _ _=>rfl,rfl,rfl,rfl,rfl,rfl,rfl,rfl,by decide +kernel,by decide +kernel,by decide +kernel,rfl,rfl,rfl,by decide,⟨by decide,by decide⟩,⟨by decide,by decide⟩⟩
  refine'⟨_,ag (bL (i:=3) (g:=A4 K 2 (jK (bp 0) (jK (bp 1) A3))) (NB:=["one","other","house"]) (src:=[none,none,some 2]) (bf (by kernel_rfl)) rfl (bi (pv 1)) ?g ?t ?e Es.nd rfl rfl rfl)
   (ap (aX (BA (yU LS hr) rfl B.sorted xr (aa (pv 3) ae) (Gf (KM (NB:=["other","house","many"]) (src:=[none,some 2,some 0]) (GB kb hb hc) (bf (by kernel_rfl))) Kq)))),?_⟩
  case g=>exact fun cl C s₃ H₃ fp=>eG (n:=2) rfl (aW (aq (i:=0) M_ rfl aM bo) (aW (aq (i:=1) M_ rfl aM bo) cS))
  case t=>exact fun cl C s₃ H₃ fp=>cj (aI eJ (pv 0) (pv 2) (aP _))
  case e=>exact fun cl C s₃ H₃ fp=>pv 1
  refine⟨_,rfl,l,rfl,⟨_,aQ.of T.at_⟩,fun D hD=>n5 (fun σ=>∃a b,σ=[a,b,some (.int (h:Int))]) (·.1) (·.2) (h:Int) hD T.at_ T.po (by lia) ⟨_,_,rfl⟩ ?_ ?_⟩
  .rintro z σ H3 Kt Kf hj ⟨x,y,rfl⟩ ha kt kf;refine⟨z.1,_,rfl,bD.of ha,rfl,_,_,rfl,_,_,rfl,rfl,?_⟩;refine⟨_,rfl,_,rfl,rfl,_,rfl,?_⟩;refine d9 (fun e=>?_) (fun e=>?_)
   .exact⟨_,rfl,kt _ ⟨_,_,rfl⟩ (by simpa using e)⟩
   .exact kf _ ⟨_,_,rfl⟩ (by simpa using e)
  .generalize Be:((zp zs).filter fun y=>decide (y.1=(h:Int))).map (·.2)=os;have FU:os.length<=8:=by rw[<-Be,aO];exact fi.most h
   have sm:aG H (upd H D (.lst (IV os))):=ai hD;refine⟨_,rfl,tb.same sm,fun f' c' H2 T_ vD vL Gv=>?_⟩;have t2:oM Pt H2:=T_;have fu:H2 D=some (.lst (IV os)):=vD _ _ ab ((tb.same sm).not ab nofun);refine⟨D,f',c',os,h,n,rfl,rfl,aQ.of fu,(by lia),Gv,vL,rfl,rfl,by lia,fun r out Cs ko=>?_⟩;rw[<-Be] at ko;rw[B7 fi hh ko];have B6:aG H2 (upd H2 r (.lst (NV (bh n (zp zs) h)))):=ai Cs;refine k r _ (t2.same B6) (fun b o e hb=>B6 _ _ (vD b o (sm _ _ e) hb)) ?_ ab;cases z:H r with
   |none=>rfl
   |some o=>
    by_cases hP:r=Pt
    .rcases t2 with q|⟨_,q,_⟩ <;> · rw[<-hP,Cs] at q;cases q
    .rw[vD r o (sm _ _ z) hP] at Cs;cases Cs
end
abbrev Et:Stmt:=i5 24
abbrev zn:Stmt:=i5 25
def kB(n:Nat)(R:List Nat)(f:Nat->Nat):List V:=(List.range n).map fun x=>if x∈R then V.int ((f x:Nat):Int) else .b_
theorem jW:(kB n R f).length=n:=by unfold kB;rw[aO,bR]
theorem jX(h:x<n):(kB n R f)[x]?=some (if x∈R then V.int ((f x:Nat):Int) else .b_):=by
 unfold kB;rw[bZ,gN h];rfl
theorem zo(hs:s<n):(List.replicate n V.b_).set s (V.int 0)=kB n [s] (fun _=>0):=by
 apply kR;intro x;by_cases hx:x<n
 .rw[jX hx];by_cases e:x=s
  .subst e;rw[pX (by rw[jt];exact hx),am (by simp)];rfl
  .rw[p_ (fun z=>e z.symm),pS,am hx,aA (by simp[e])]
 .rw[dG (by rw[gg,jt];lia),dG (by rw[jW];lia)]
theorem Eu(hv:v<n):(kB n R f).set v (V.int ((k:Nat):Int))=kB n (R++[v]) (put f v k):=by
 apply kR;intro x;by_cases hx:x<n
 .rw[jX hx];by_cases e:x=v
  .subst e;rw[pX (by rw[jW];exact hx),am (by simp),g_]
  .rw[p_ (fun z=>e z.symm),jX hx,eS e];by_cases h:x∈R
   .rw[am h,am (gy _ h)]
   .rw[aA h,aA (fun z=>(bS.mp z).elim h fun z=>e (by simpa using z))]
 .rw[dG (by rw[gg,jW];lia),dG (by rw[jW];lia)]
def Pc(σ:St):Nat:=match σ[4]? with
 |some (some (V.int z))=>z.toNat
 |_=>0
theorem Zx:(["others"]:List Str).Nodup:=by decide +kernel
def qT(H:Hp)(ol:Addr)(n:Nat)(ts:Ts):Prop:=∃bs:List Addr,H ol=some (.lst (bs.map V.ref))/\Holds H bs n (fun h=>.lst (NV (bh n ts h)))
theorem qT.same(x:qT H ol n ts)(e:aG H H'):qT H' ol n ts:=let ⟨bs,a,b⟩:=x;⟨bs,e _ _ a,b.mono fun _ _ z=>e _ _ z⟩
theorem JC{as:List Addr}{i:Nat}{x:V}(h:(as.map V.ref)[i]?=some x):i<as.length/\x=.ref (as.getD i 0):=by
 rw[bZ] at h;cases e:as[i]? with
 |none=>rw[e] at h;cases h
 |some a=>
  rw[e] at h;refine⟨(cN.mp e).1,?_⟩;rw[bb,e];exact(bW h).symm
section
variable {P:Program} {w:World} {K:PySem.W.Frag} {mg:Str->Option Value} {base:Heap}
theorem lw:aS ["out_lists","start","distances","reached","at","house","other"] ["out_lists","start"] (az Et):=dB (by decide +kernel)
def uX:Sp:=fun vs H Q _=>∃ (ol:Addr) (n s:Nat) (ts:Ts),vs=[.ref ol,.int s]/\cg n ts/\s<n/\qT H ol n ts/\
 ∀ (r:Addr) (H':Hp),aG H H'->H r=none->H' r=some (.lst (NV ((List.range n).map (far ts s))))->Q (.ref r) H'
theorem Hl{f:Addr}{fd:FuncData}(F:hW K "distances_from" "distances_from" Et f fd)(B:Bl mg):bY P w K mg base bE 1 f fd ["out_lists","start"] uX:=by
 refine F.ok lw (fun vs H Q E h=>?_) (fun eQ A outer s H vs Q E hr h=>?_)
 .obtain⟨ol,n,s,ts,rfl,_⟩:=h;rfl
 .obtain⟨ol,n,st,ts,rfl,fi,hs,O,k⟩:=h;have n1:=fi.n1;have n2:=fi.n2;refine'⟨_,ag (bL (i:=2) (g:=bp 0) (NB:=["others"]) (src:=[none]) (bf (by kernel_rfl)) rfl (bi (pv 0)) ?g ?t ?e lw.nd rfl rfl rfl)
   (ag (cW av (fX (pv 2) (pv 1) dt))
   (ag (aH (i:=3) lw.nd rfl aM (b8 (aa (pv 1) ae)))
   (ag (aH (i:=4) lw.nd rfl aM av)
   (ag (vM cZ (aI jh (pv 4) (aE aD (by rfl) B.len cu (aa (pv 3) ae)) (aP _))
    (ag (aH (i:=5) lw.nd rfl aM (aJ aF (pv 3) (pv 4) (fun _ _=>rfl)))
    (ag (cn cZ rfl (bi (aJ aF (pv 0) (pv 5) (fun _ _=>rfl))) (aq (i:=6) lw.nd rfl aM)
     (ap (cf (aI yr (aJ aF (pv 2) (pv 6) (fun _ _=>rfl)) eR (aP _))
      (ag (cW (bg di (aJ aF (pv 2) (pv 5) (fun _ _=>rfl)) av) (fX (pv 2) (pv 6) dt))
      (ap (cB (fO fw lG lF dO (pv 3) (aa (pv 6) ae))))) a_)))
    (ap (Ke (i:=4) lw.nd rfl aM av Kg)))))
   (ap (aX (pv 2))))))),?_⟩
  case g=>exact fun cl C s₃ H₃ fp=>aq (i:=0) Zx rfl aM bo
  case t=>exact fun cl C s₃ H₃ fp=>ce
  case e=>exact fun cl C s₃ H₃ fp=>eR
  obtain⟨bs,FU,Pd,Jl⟩:=id O;refine⟨_,rfl,ol,rfl,⟨_,aQ.of FU⟩,fun D hD=>?_⟩;have Zy:ol≠D:=ak FU hD;refine cK (xs:=bs.map V.ref) (fun i ys σ H2=>(∃a,σ=[a])/\ys=List.replicate i V.b_/\H2=upd H D (.lst ys)) ⟨⟨_,rfl⟩,rfl,rfl⟩ (fun i ys σ H2 _ ⟨_,_,e⟩=>by rw[e];exact aQ.of (by rw[aj Zy];exact FU)) ?_ ?_
  .rintro i x ys σ H2 Kt Kf hx ⟨⟨a,rfl⟩,rfl,rfl⟩ kt kf;have hi:=(JC hx).1;refine kt _ _ _ ab ?_ ⟨⟨_,rfl⟩,?_,by rw[j8]⟩
   .rw[jt];exact cA hi (by rw[Pd];exact bw n2 (by decide))
   .rw[List.replicate_succ']
  .rintro ys σ H2 ⟨_,rfl,rfl⟩;rw[aO,Pd];refine⟨_,rfl,_,rfl,D,_,st,st,rfl,rfl,ab,by rw[jt];exact de hs,?_⟩;rw[j8,zo hs];refine⟨_,rfl,by show 1<=sizeLine;decide,fun R hR=>?_⟩;have Cv:D≠R:=ak (H:=upd H D (.lst (kB n [st] (fun _=>0)))) ab hR;have Hm:H R=none:=by rw[aj Cv.symm] at hR;exact hR
   refine vO (fun σ H2=>∃ (i:Nat) (Rs:List Nat) (f:Nat->Nat),i<=Rs.length/\xf n ts st i Rs f/\(∃a b,σ=[some (.ref ol),some (.int st),some (.ref D),some (.ref R),some (.int (i:Int)),a,b])/\aG H H2/\H2 D=some (.lst (kB n Rs f))/\H2 R=some (.lst (NV Rs)))
    (fun σ _=>n-Pc σ) ⟨0,[st],fun _=>0,dh _,xf.start hs,⟨none,none,rfl⟩,bt (ai hD) Hm,?_,ab⟩ ?_ ?_
   .rw[aj Cv,ab]
   .rintro σ H2 ⟨i,Rs,f,hi,Bf,⟨a,b,rfl⟩,sm,fu,Lg⟩;have Zz:Rs.length<=n:=d_ Bf.nd Bf.lt;refine⟨_,rfl,_,rfl,R,_,rfl,.inl (aQ.of Lg),_,_,rfl,rfl,_,rfl,?_⟩;rw[aN];by_cases re:i<Rs.length
    .rw[show decide ((i:Int)<((Rs.length:Nat):Int))=true by simp;lia];refine iG ?_;have hu:Rs[i]?=some Rs[i]:=bO re;generalize Rs[i]=u at hu;have wG:u<n:=Bf.lt u (cm hu);have Ua:(NV Rs)[i]?=some (.int (u:Int)):=by rw[bZ,hu];rfl
     refine⟨_,rfl,_,rfl,R,_,_,_,rfl,rfl,aQ.of Lg,ao Ua,?_⟩;have Lh:(bs.map V.ref)[u]?=some (.ref (bs.getD u 0)):=by
      rw[bZ,bb,bO (by rw[Pd];exact wG)];rfl
     have Li:=sm _ _ (Jl _ wG);refine⟨_,rfl,_,rfl,ol,_,_,_,rfl,rfl,aQ.of (sm _ _ FU),ao Lh,_,rfl,⟨_,aQ.of Li⟩,?_⟩;have nbD:bs.getD u 0≠D:=ak (Jl _ wG) hD;have nbR:bs.getD u 0≠R:=ak (Jl _ wG) Hm;refine eI (K:=K) (xs:=NV (bh n ts u)) (fun j σ H3=>∃ (gI:List Nat) (f':Nat->Nat),xf n ts st i gI f'/\gI[i]?=some u/\(∀v∈(bh n ts u).take j,v∈gI/\f' v<=f' u+1)/\
      (∃b,σ=[some (.ref ol),some (.int st),some (.ref D),some (.ref R),some (.int (i:Int)),some (.int (u:Int)),b])/\aG H H3/\H3 D=some (.lst (kB n gI f'))/\H3 R=some (.lst (NV gI)))
      ⟨Rs,f,Bf,hu,fun v hv=>by simp at hv,⟨_,rfl⟩,sm,fu,Lg⟩ (fun j σ H3 _ ⟨_,_,_,_,_,_,B8,_⟩=>aQ.of (B8 _ _ (Jl _ wG))) ?_ ?_
     .rintro j x σ H3 hx ⟨gI,f',uY,rD,dn,⟨b',rfl⟩,B8,kj,yY⟩;rw[bZ] at hx;cases hv:(bh n ts u)[j]? with
      |none=>rw[hv] at hx;cases hx
      |some v=>
       rw[hv] at hx;obtain rfl:V.int ((v:Nat):Int)=x:=bW hx;have Lj:v∈bh n ts u:=cm hv;have Ev:v<n:=l7 fi wG Lj;have Ub:T ts u v:=(dL fi wG).mp Lj;have tk:(bh n ts u).take (j+1)=(bh n ts u).take j++[v]:=by rw[eC,hv];rfl
       have B9:u∈gI:=cm rD;refine⟨_,rfl,_,rfl,D,_,_,_,rfl,rfl,aQ.of kj,ao (jX Ev),rfl,_,rfl,?_⟩;by_cases wH:v∈gI
       .rw[am wH];refine dQ ⟨gI,f',uY,rD,fun x hx=>?_,⟨_,rfl⟩,B8,kj,yY⟩;rw[tk] at hx;rcases bS.mp hx with z|z
        .exact dn x z
        .simp at z;subst z;exact⟨wH,uY.bd u rD _ wH⟩
       .rw[aA wH];refine iG ?_;have Uc:(kB n gI f')[u]?=some (.int ((f' u:Nat):Int)):=by rw[jX wG,am B9]
        refine⟨_,rfl,_,rfl,D,_,_,_,rfl,rfl,aQ.of kj,ao Uc,_,_,rfl,rfl,_,rfl,_,rfl,D,_,_,_,rfl,rfl,kj,by rw[jW];exact de Ev,?_⟩;have e1:(kB n gI f').set v (.int (((f' u:Nat):Int)+1))=kB n (gI++[v]) (put f' v (f' u+1)):=by
         rw[show ((f' u:Nat):Int)+1=((f' u+1:Nat):Int) by lia,Eu Ev]
        rw[e1];have pI:(upd H3 D (.lst (kB n (gI++[v]) (put f' v (f' u+1))))) R=some (.lst (NV gI)):=by rw[aj Cv.symm];exact yY
        have Ew:gI.length<=n:=d_ uY.nd uY.lt;refine⟨_,rfl,.inl ⟨rfl,_,aQ.of pI⟩,_,rfl,R,_,_,rfl,rfl,pI,by rw[aN];exact cA (show gI.length<33 by lia) (by decide),?_⟩;have rE:i<gI.length:=(cN.mp rD).1;have Ud:u≠v:=fun z=>wH (z ▸ B9);refine⟨gI++[v],put f' v (f' u+1),uY.add rD Ev Ub wH,by rw[h9 rE];exact rD,fun x hx=>?_,⟨_,rfl⟩,bt (bt B8 hD) Hm,?_,?_⟩
        .rw[eS Ud];rw[tk] at hx;rcases bS.mp hx with z|z
         .obtain⟨q1,q2⟩:=dn x z;exact⟨gy _ q1,by rw[eS (fun (z:x=v)=>wH (z ▸ q1))];exact q2⟩
         .simp at z;subst z;exact⟨by simp,by rw[g_];exact aU _⟩
        .rw[aj Cv,ab]
        .rw[ab];show _=some (HO.lst (NV (gI++[v])));rw[show NV (gI++[v])=NV gI++[.int (v:Int)] by unfold NV;rw[cq];rfl]
     .rintro σ H3 ⟨gI,f',uY,rD,dn,⟨b',rfl⟩,B8,kj,yY⟩;rw[aN,fA] at dn;have rE:i<gI.length:=(cN.mp rD).1;have Ew:gI.length<=n:=d_ uY.nd uY.lt;refine⟨_,rfl,_,_,rfl,rfl,⟨⟨i+1,gI,f',rE,uY.next rD (fun v t=>dn v ((dL fi wG).mpr t)),⟨_,_,rfl⟩,B8,kj,yY⟩,?_⟩⟩;show n-((i:Int)+1).toNat<n-(i:Int).toNat;lia
    .rw[show decide ((i:Int)<((Rs.length:Nat):Int))=false by rw[xu];lia];have e:kB n Rs f=NV ((List.range n).map (far ts st)):=by
      unfold kB NV;rw[cy];refine h_ fun x hx=>?_;obtain⟨q1,q2⟩:=Bf.done fi (by lia) (bH.mp hx);rw[am q1,q2];rfl
     rw[e] at fu;refine dQ ⟨_,rfl,k D H2 sm hD fu⟩
   .rintro σ H2 Q1 Q2 imp ⟨v,e1,v2,e2,p,ys,e3,e4,i1,i2,e5,e6,kk,e7,q⟩;exact⟨v,e1,v2,e2,p,ys,e3,e4,i1,i2,e5,e6,kk,e7,imp _ _ q⟩
end
theorem Pe:(["row"]:List Str).Nodup:=by decide +kernel
section
variable {P:Program} {w:World} {K:PySem.W.Frag} {mg:Str->Option Value} {base:Heap}
theorem Hn:aS ["distances"] ["distances"] (az zn):=dB (by decide +kernel)
def uZ:Sp:=fun vs H Q _=>∃ (l:Addr) (ds:List Addr) (n:Nat) (o:Nat->List V),vs=[.ref l]/\H l=some (.lst (ds.map V.ref))/\n<=32/\Holds H ds n (fun j=>.lst (o j))/\(∀j,j<n->∀x∈o j,∃i,x=.int i)/\∀H',aG H H'->Q .b_ H'
theorem Ex(F:hW K "check_reached" "check_reached" zn f fd)(B:Bl mg):bY P w K mg base bE 1 f fd ["distances"] uZ:=by
 refine F.ok Hn (fun vs H Q E h=>?_) (fun eQ A outer s H vs Q E hr h=>?_)
 .obtain⟨l,ds,n,o,rfl,_⟩:=h;rfl
 .obtain⟨l,ds,n,o,rfl,hl,n2,hh,hx,k⟩:=h;refine'⟨_,ap (cf (fV (aE (nJ rfl) (by rfl) B.any xE (aa ?c ae))) eW a_),?_⟩;case c=>
   refine' bJ (g:=bp 0) (te:=dW (Kw K false) (tC .b_) (aK 0)) (NB:=["row"]) (src:=[none]) (bf (by kernel_rfl)) rfl (bi (pv 0)) ?g ?t ?e;case g=>exact fun cl C s₃ H₃ fp=>aq (i:=0) Pe rfl aM bo
   case t=>exact fun cl C s₃ H₃ fp=>ce
   case e=>exact fun cl C s₃ H₃ fp=>ie r9 eR (pv 0) rfl
  refine⟨_,rfl,l,rfl,⟨_,aQ.of hl⟩,fun D hD=>?_⟩;have nl:l≠D:=ak hl hD;refine cK (xs:=ds.map V.ref) (fun i ys σ H2=>(∃a,σ=[a])/\ys=(List.replicate i false).map V.bl/\H2=upd H D (.lst ys)) ⟨⟨_,rfl⟩,rfl,rfl⟩ (fun i ys σ H2 _ ⟨_,_,e⟩=>by rw[e];exact aQ.of (by rw[aj nl];exact hl)) ?_ ?_
  .rintro i x ys σ H2 Kt Kf ZA ⟨⟨a,rfl⟩,rfl,rfl⟩ kt kf;obtain⟨hi,rfl⟩:=JC ZA;rw[hh.1] at hi;have hd:=hh.2 i hi;have nd:ds.getD i 0≠D:=ak hd hD;have q1:(o i).all dJ=true:=jc.mpr fun x A6=>by obtain⟨z,rfl⟩:=hx i hi x A6;rfl
   have q2:Bh .b_ (o i)=false:=by
    unfold Bh;rw[qd];intro x A6;obtain⟨z,rfl⟩:=hx i hi x A6;exact fun z=>by cases z
   refine⟨_,rfl,_,_,rfl,.inl (aQ.of (by rw[aj nd];exact hd)),rfl,q1,?_⟩;refine kt _ _ _ ab ?_ ⟨⟨_,rfl⟩,?_,by rw[j8]⟩
   .rw[aO,jt];exact cA hi (bw n2 (by decide))
   .rw[List.replicate_succ',cq,q2];rfl
  .rintro ys σ H2 ⟨_,rfl,rfl⟩;refine⟨D,_,rfl,aQ.of ab,_,rfl,?_⟩;have e:(List.replicate (ds.map V.ref).length false).any id=false:=by
    rw[qd];intro x A6;rw[(List.mem_replicate.mp A6).2];decide
   rw[e];exact dQ (k _ (ai hD))
end
theorem WJ:(["one","other"]:List Str).Nodup:=by decide +kernel
theorem Pf:(["house","many","ties"]:List Str).Nodup:=by decide +kernel
theorem Ue:(["house","self"]:List Str).Nodup:=by decide +kernel
def mi(p Pt:Addr)(H H':Hp):Prop:=∀b o,H b=some o->b≠p->b≠Pt->H' b=some o
theorem gp.mono(h:gp H l n zs)(e:mi p Pt H H')(hp:H p=some (.ins C dx fs))(tb:oM Pt H):gp H' l n zs:=
 ⟨h.lm,e _ _ h.at_ (fN h.at_ hp (by intro z;cases z)) (tb.not h.at_ nofun),fun z hz=>e _ _ (h.po z hz) (fN (h.po z hz) hp (by intro z;cases z)) (tb.not (h.po z hz) nofun)⟩
theorem oM.mono(t:oM Pt H)(e:∀b o,H b=some o->b≠p->H' b=some o)(hp:H p=some (.ins C dx fs)):oM Pt H':=by
 rcases t with z|⟨c,z,y⟩
 .exact .inl (e _ _ z (fN z hp (by intro q;cases q)))
 .exact .inr ⟨c,e _ _ z (fN z hp (by intro q;cases q)),e _ _ y (fN y hp (by intro q;cases q))⟩
theorem oM.full(t:oM Pt H):H Pt≠none:=by
 rcases t with z|⟨c,z,y⟩ <;> rw[z] <;> intro q <;> cases q
theorem mi.free(s:mi p Pt H H')(hp:H' p≠none)(tb:oM Pt H')(h:H' r=none):H r=none:=by
 cases z:H r with
 |none=>rfl
 |some o=>
  by_cases e1:r=p
  .subst e1;exact absurd h hp
  .by_cases e2:r=Pt
   .subst e2;exact absurd h tb.full
   .rw[s r o z e1 e2] at h;cases h
theorem Pg(h:k [] H):eY σ H k:=h
theorem km{H:Hp}{p:Addr}{o:HO}(h:H p=some o):H p≠none:=by rw[h];intro z;cases z
section
variable {P:Program} {w:World} {K:PySem.W.Frag} {mg:Str->Option Value} {base:Heap}
theorem Lk:aS ["self","many","ties"] ["self","many","ties"] (az AD):=dB (by decide +kernel)
def zq(C Pt:Addr):Sp:=fun vs H Q E=>∃ (p dx:Addr) (n:Nat) (l:Addr) (zs:Zs),vs=[.ref p,.int n,.ref l]/\H p=some (.ins C dx [])/\gp H l n zs/\oM Pt H/\
  ∀H',fQ C H' (fun a=>H a=none) p n (zp zs)->oM Pt H'->mi p Pt H H'->Q .b_ H'
theorem Ho{f C Pt:Addr}{fd:FuncData}(F:hW K "__init__" "Net.__init__" AD f fd)(T:NT K mg C)(B:Bl mg)(CT:cX P w K mg base bE 6 "check_ties" ["many","ties"] ki)(CB:cX P w K mg base bE 1 "check_balance" ["many","ties"] ki)(ZB:cX P w K mg base bE 1 "houses_out" ["many","ties","house"] (uW Pt))(DF:cX P w K mg base bE 1 "distances_from" ["out_lists","start"] uX)(CR:cX P w K mg base bE 1 "check_reached" ["distances"] uZ):
  bY P w K mg base bE 7 f fd ["self","many","ties"] (zq C Pt):=by
 refine F.ok Lk (fun vs H Q E h=>?_) (fun eQ A outer s H vs Q E hr h=>?_)
 .obtain⟨p,dx,n,l,zs,rfl,_⟩:=h;rfl
 .have JD:dk 1 _:=hr.mono (by decide);refine'⟨_,ag (cB (aL CT hr aR (aa (pv 1) (aa (pv 2) ae))))
   (ag (cB (aL CB JD aR (aa (pv 1) (aa (pv 2) ae))))
   (ag (uq (pv 0) (pv 1) rfl)
   (ag (uq (pv 0) (aE yZ (by rfl) B.sorted xr (aa ?c1 ae)) rfl)
   (ag (uq (pv 0) ?c2 rfl)
   (ag (uq (pv 0) ?c3 rfl)
   (ap (cB (aL CR JD aR (aa (nw (pv 0) rfl) ae))))))))),?_⟩
  case c1=>
   refine' bJ (g:=A4 K 2 (jK (bp 0) (jK (bp 1) A3))) (te:=nA (br (aK 0) (br (aK 1) eY))) (NB:=["one","other"]) (src:=[none,none]) (bf (by kernel_rfl)) rfl (bi (pv 2)) ?g ?t ?e;case g=>exact fun cl C s₃ H₃ fp=>eG (n:=2) rfl (aW (aq (i:=0) WJ rfl aM bo) (aW (aq (i:=1) WJ rfl aM bo) cS))
   case t=>exact fun cl C s₃ H₃ fp=>ce
   case e=>exact fun cl C s₃ H₃ fp=>bP (aa (pv 0) (aa (pv 1) ae))
  case c2=>
   refine' bJ (g:=bp 0) (te:=oA (uW Pt) [] E0 (br (aK 1) (br (aK 2) (br (aK 0) eY)))) (NB:=["house","many","ties"]) (src:=[none,some 1,some 2]) (bf (by kernel_rfl)) rfl (aY rfl B.range (aa (pv 1) ae)) ?g ?t ?e;case g=>exact fun cl C s₃ H₃ fp=>aq (i:=0) Pf rfl aM bo
   case t=>exact fun cl C s₃ H₃ fp=>ce
   case e=>exact fun cl C s₃ H₃ fp=>aL ZB JD aR (aa (pv 1) (aa (pv 2) (aa (pv 0) ae)))
  case c3=>
   refine' bJ (g:=bp 0) (te:=oA uX [] E0 (br (Ko K (aK 1) "out_lists") (br (aK 0) eY))) (NB:=["house","self"]) (src:=[none,some 0]) (bf (by kernel_rfl)) rfl (aY rfl B.range (aa (pv 1) ae)) ?g ?t ?e;case g=>exact fun cl C s₃ H₃ fp=>aq (i:=0) Ue rfl aM bo
   case t=>exact fun cl C s₃ H₃ fp=>ce
   case e=>exact fun cl C s₃ H₃ fp=>aL DF JD aR (aa (nw (pv 1) rfl) (aa (pv 0) ae))
  obtain⟨p,dx,n,l,zs,rfl,hp,TT,tb,k⟩:=h;have fi:=TT.lm;have n1:=fi.n1;have n2:=fi.n2;have dq:zs.length<=256:=by have:=fi.len;rw[bv] at this;exact this
  refine⟨_,rfl,_,rfl,n,l,zs,rfl,TT,fun H1 s1=>?_⟩;refine⟨_,rfl,_,rfl,n,l,zs,rfl,TT.same s1,fun H2 s2=>?_⟩;have Na:aG H H2:=s1.trans s2;refine⟨_,rfl,_,rfl,p,C,dx,[],rfl,Na _ _ hp,T.cl,T.nH,(by show 0<1000;decide),?_⟩
  let G1:Hp:=upd H2 p (.ins C dx (dA "house_count" (.int n) []))
  have d1:mi p Pt H G1:=fun b o e h1 _=>by show upd _ _ _ _=_;rw[aj h1];exact Na _ _ e
  have RH:G1 p=some (.ins C dx (dA "house_count" (.int n) [])):=ab;have Uf:gp G1 l n zs:=TT.mono d1 hp tb;have Ug:oM Pt G1:=tb.mono (fun b o e h1=>by show upd _ _ _ _=_;rw[aj h1];exact Na _ _ e) hp;refine⟨_,rfl,l,rfl,⟨_,aQ.of Uf.at_⟩,fun D hD=>?_⟩;refine El (fun y=>y) (fun σ=>∃a b,σ=[a,b]) Uf.at_ Uf.po hD (by lia) ⟨_,_,rfl⟩ ?_ ?_
  .rintro z σ H3 R Kf hz ⟨a,b,rfl⟩ ha kk;refine⟨_,_,rfl,bD.of ha,rfl,_,_,rfl,_,_,rfl,rfl,?_⟩;exact⟨_,rfl,_,rfl,by show 2<=sizeLine;decide,fun t ht=>kk _ _ ⟨_,_,rfl⟩ ht⟩
  .intro n6 H3 sm kj Ph ez ZC;rw[List.map_id'] at ez;have KA:n6.length=zs.length:=by rw[<-bv,ez,bv]
   refine Pg ?_;refine G8 kj Ph (by lia) (fun u hu=>by have:=(fi.rg u (ez ▸ hu)).2;lia) fun tl Nb Uh pm ZD=>?_;have Ui:H tl=none:=d1.free (km RH) Ug (sm.free Uh);have Kh:∀z∈Nb,H z.1=none:=fun z hz=>d1.free (km RH) Ug (ZC z (pm.mem_iff.mp hz));have Uj:H3 p=some (.ins C dx (dA "house_count" (.int n) [])):=sm _ _ RH;have Ll:p≠tl:=ak Uj Uh;refine⟨_,rfl,p,C,dx,_,rfl,by rw[aj Ll];exact Uj,T.cl,T.nT,by show 1<1000;decide,?_⟩
   let G2:Hp:=upd (upd H3 tl (.lst (zr Nb))) p (.ins C dx (dA "tie_list" (.ref tl) (dA "house_count" (.int n) [])))
   have q2:∀b o,H3 b=some o->b≠p->G2 b=some o:=fun b o e h1=>by
    show upd _ _ _ _=_;rw[aj h1,aj (ak e Uh)];exact e
   have d2:mi p Pt H G2:=fun b o e h1 h2=>q2 _ _ (sm _ _ (d1 _ _ e h1 h2)) h1;have WK:G2 tl=some (.lst (zr Nb)):=by show upd _ _ _ _=_;rw[aj Ll.symm,ab]
   have Uk:PO G2 Nb:=fun z hz=>q2 _ _ (Ph z (pm.mem_iff.mp hz)) (fN (Ph z (pm.mem_iff.mp hz)) Uj (by intro z;cases z));have Lm:G2 p=some (.ins C dx (dA "tie_list" (.ref tl) (dA "house_count" (.int n) []))):=ab;have ZE:gp G2 l n zs:=TT.mono d2 hp tb;have Ln:oM Pt G2:=Ug.mono (fun b o e h1=>q2 _ _ (sm _ _ e) h1) RH;refine⟨_,rfl,n,rfl,by lia,by lia,fun D2 fu=>?_⟩;refine dD (n:=n) (lo:=0) (fun i ys σ H4=>(∃a,σ=[a,some (.int n),some (.ref l)])/\∃bs:List Addr,ys=bs.map V.ref/\(∀b∈bs,H b=none)/\Holds H4 bs i (fun h=>.lst (NV (bh n (zp zs) h)))/\wF Pt G2 H4/\oM Pt H4/\H4 D2=some (.lst ys)/\∀b∈bs,b≠D2)
    ⟨⟨_,rfl⟩,[],rfl,(fun _ h=>nomatch h),Holds.nil,wF.of (ai fu),Ln.same (ai fu),ab,(fun _ h=>nomatch h)⟩ ?_ ?_
   .rintro i ys σ H4 Kt Kf hi ⟨⟨a,rfl⟩,bs,rfl,Ul,hb,o9,Nd,rJ,Um⟩ kt kf;have ZF:gp H4 l n zs:=ZE.mono (p:=p) (fun b o e _ h2=>o9 _ _ e h2) Lm Ln;have Nf:=o9 _ _ Lm (Ln.not Lm nofun);refine⟨_,rfl,_,rfl,_,rfl,n,l,i,zs,by rw[dz];rfl,hi,ZF,Nd,fun r H5 t5 vz Lo JE=>?_⟩;have Uo:H r=none:=mi.free (fun b o e h1 h2=>o9 _ _ (d2 _ _ e h1 h2) h2) (km Nf) Nd Lo;have RJ:H5 D2=some (.lst (bs.map V.ref)):=vz _ _ rJ (Nd.not rJ nofun);have Pj:r≠D2:=by rintro rfl;rw[rJ] at Lo;cases Lo
    have kI:∀b o v_,H5 b=some o->b≠D2->(upd H5 D2 v_) b=some o:=fun b o v_ e h=>by rw[aj h];exact e
    refine kt _ _ _ RJ (by rw[aO,hb.1];exact cA hi (bw n2 (by decide))) ⟨⟨_,rfl⟩,bs++[r],by rw[cq];rfl,?_,?_,?_,?_,ab,?_⟩
    .intro b xa;rcases bS.mp xa with z|z
     .exact Ul b z
     .rw[cE.mp z];exact Uo
    .refine Holds.snoc (hb.mono fun j hj e=>?_) (kI _ _ _ JE Pj);refine kI _ _ _ (vz _ _ e (Nd.not e nofun)) (Um _ ?_);rw[bb,bO (by rw[hb.1];exact hj)];exact dR _
    .intro b o e h;exact kI _ _ _ (vz _ _ (o9 _ _ e h) h) (ak e fu)
    .rcases t5 with z|⟨c,z,y⟩
     .exact .inl (kI _ _ _ z (fN z RJ (by intro q;cases q)))
     .exact .inr ⟨c,kI _ _ _ z (fN z RJ (by intro q;cases q)),kI _ _ _ y (fN y RJ (by intro q;cases q))⟩
    .intro b xa;rcases bS.mp xa with z|z
     .exact Um b z
     .rw[cE.mp z];exact Pj
   .rintro ys σ H4 ⟨_,bs,rfl,Ul,hb,o9,Nd,rJ,Um⟩;have Nf:H4 p=some (.ins C dx (dA "tie_list" (.ref tl) (dA "house_count" (.int n) []))):=o9 _ _ Lm (Ln.not Lm nofun);have Up:H D2=none:=d2.free (km Lm) Ln fu;refine⟨_,rfl,p,C,dx,_,rfl,Nf,T.cl,T.nO,by have h1:=dX "tie_list" (V.ref tl) (dA "house_count" (V.int n) []);have h2:=dX "house_count" (V.int n) [];simp at h2;lia,?_⟩
    let G3:Hp:=upd H4 p (.ins C dx (dA "out_lists" (.ref D2) (dA "tie_list" (.ref tl) (dA "house_count" (.int n) []))))
    have q3:∀b o,H4 b=some o->b≠p->G3 b=some o:=fun b o e h1=>by show upd _ _ _ _=_;rw[aj h1];exact e
    have Lp:G3 p=some (.ins C dx (dA "out_lists" (.ref D2) (dA "tie_list" (.ref tl) (dA "house_count" (.int n) [])))):=ab;have d3:mi p Pt H G3:=fun b o e h1 h2=>q3 _ _ (o9 _ _ (d2 _ _ e h1 h2) h2) h1;have Uq:oM Pt G3:=Nd.mono q3 Nf;have WL:Holds G3 bs n (fun h=>.lst (NV (bh n (zp zs) h))):=hb.mono fun j hj e=>q3 _ _ e (fN e Nf (by intro z;cases z));have Ur:G3 D2=some (.lst (bs.map V.ref)):=q3 _ _ rJ (fN rJ Nf (by intro z;cases z));have O3:qT G3 D2 n (zp zs):=⟨bs,Ur,WL⟩
    refine⟨_,rfl,n,rfl,by lia,by lia,fun D3 Lq=>?_⟩;refine dD (n:=n) (lo:=0) (fun i ys σ H6=>(∃a,σ=[a,some (.ref p)])/\∃ds:List Addr,ys=ds.map V.ref/\(∀b∈ds,H b=none)/\Holds H6 ds i (fun s=>.lst (NV ((List.range n).map (far (zp zs) s))))/\aG G3 H6/\H6 D3=some (.lst ys)/\∀b∈ds,b≠D3)
     ⟨⟨_,rfl⟩,[],rfl,(fun _ h=>nomatch h),Holds.nil,ai Lq,ab,(fun _ h=>nomatch h)⟩ ?_ ?_
    .rintro i ys σ H6 Kt Kf hi ⟨⟨a,rfl⟩,ds,rfl,Us,hd,vH,wI,NS⟩ kt kf;refine⟨_,rfl,p,C,dx,_,_,rfl,vH _ _ Lp,T.cl,T.nO,by rw[bB,am rfl],_,rfl,D2,n,i,zp zs,by rw[dz];rfl,fi,hi,O3.same vH,fun r H7 Ut Lr Pk=>?_⟩;have ZG:H7 D3=some (.lst (ds.map V.ref)):=Ut _ _ wI;have Pj:r≠D3:=by rintro rfl;rw[wI] at Lr;cases Lr
     have Uo:H r=none:=mi.free (fun b o e h1 h2=>vH _ _ (d3 _ _ e h1 h2)) (km (vH _ _ Lp)) (Uq.same vH) Lr;have kI:∀b o v_,H7 b=some o->b≠D3->(upd H7 D3 v_) b=some o:=fun b o v_ e h=>by rw[aj h];exact e
     refine kt _ _ _ ZG (by rw[aO,hd.1];exact cA hi (bw n2 (by decide))) ⟨⟨_,rfl⟩,ds++[r],by rw[cq];rfl,?_,?_,?_,ab,?_⟩
     .intro b xa;rcases bS.mp xa with z|z
      .exact Us b z
      .rw[cE.mp z];exact Uo
     .refine Holds.snoc (hd.mono fun j hj e=>?_) (kI _ _ _ Pk Pj);refine kI _ _ _ (Ut _ _ e) (NS _ ?_);rw[bb,bO (by rw[hd.1];exact hj)];exact dR _
     .intro b o e;exact kI _ _ _ (Ut _ _ (vH _ _ e)) (ak e Lq)
     .intro b xa;rcases bS.mp xa with z|z
      .exact NS b z
      .rw[cE.mp z];exact Pj
    .rintro ys σ H6 ⟨_,ds,rfl,Us,hd,vH,wI,NS⟩;have Pl:=vH _ _ Lp;refine⟨_,rfl,p,C,dx,_,rfl,Pl,T.cl,T.nD,by have h1:=dX "tie_list" (V.ref tl) (dA "house_count" (V.int n) []);have h2:=dX "house_count" (V.int n) [];have h3:=dX "out_lists" (V.ref D2) (dA "tie_list" (V.ref tl) (dA "house_count" (V.int n) []));simp at h2;lia,?_⟩;have q4:∀b o u,H6 b=some o->b≠p->(upd H6 p u) b=some o:=fun b o u e h1=>by rw[aj h1];exact e
     refine⟨_,rfl,p,C,dx,_,_,rfl,ab,T.cl,T.nD,by rw[bB,am rfl],D3,ds,n,fun s=>NV ((List.range n).map (far (zp zs) s)),rfl,q4 _ _ _ wI (fN wI Pl (by intro z;cases z)),n2,hd.mono fun j hj e=>q4 _ _ _ e (fN e Pl (by intro z;cases z)),fun j hj x hx=>?_,fun H8 s8=>?_⟩
     .obtain⟨y,hy,rfl⟩:=bn.mp hx;exact⟨_,rfl⟩
     .have up:∀b o,G3 b=some o->b≠p->H8 b=some o:=fun b o e h1=>s8 _ _ (q4 _ _ _ (vH _ _ e) h1);have Uu:H D3=none:=d3.free (km Lp) Uq Lq;have WM:∀b o,G2 b=some o->b≠p->b≠Pt->H8 b=some o:=fun b o e h1 h2=>up _ _ (q3 _ _ (o9 _ _ e h2) h1) h1;refine k H8 ⟨fi,dx,tl,D2,D3,s8 _ _ ab,Up,Uu,⟨bs,up _ _ Ur (fN Ur Lp (by intro z;cases z)),Ul,WL.mono fun j hj e=>up _ _ e (fN e Lp (by intro z;cases z))⟩,
       ⟨ds,s8 _ _ (q4 _ _ _ wI (fN wI Pl (by intro z;cases z))),Us,hd.mono fun j hj e=>s8 _ _ (q4 _ _ _ e (fN e Pl (by intro z;cases z)))⟩,
       ⟨Ui,Nb,WM _ _ WK Ll.symm (Ln.not WK nofun),fun z hz=>WM _ _ (Uk z hz) (fN (Uk z hz) Lm (by intro z;cases z)) (Ln.not (Uk z hz) nofun),Kh,((show (zp Nb).Perm (zp n6) from pm.map _).trans (qi ez)),ZD⟩⟩ ?_ fun b o e h1 h2=>up _ _ (d3 _ _ e h1 h2) h1
      exact Uq.mono up Lp
end
theorem i6:NV xs++[.int (x:Int)]=NV (xs++[x]):=by unfold NV;rw[cq];rfl
theorem kJ{xs:List Nat}{i:Nat}{x:V}(h:(NV xs)[i]?=some x):∃y,xs[i]?=some y/\x=.int (y:Int):=by
 unfold NV at h;rw[bZ] at h;cases e:xs[i]? with
 |none=>rw[e] at h;cases h
 |some z=>rw[e] at h;exact⟨z,rfl,(bW h).symm⟩
end vG
namespace L2
open PySem PySem.Spec PyProof.Rows
section
variable {X:Cx}
end
end L2
namespace vG
open PySem L2 jV
section
variable {P:Program} {w:World} {K:PySem.W.Frag} {mg:Str->Option Value} {base:Heap}
end
end vG
namespace L2
open PySem PySem.Spec PyProof.Rows
def qU(P:Program)(w:World)(h:Heap)(vs:List Value)(ps:List (List gE×Addr×Value)):Prop:=vs.length=ps.length/\∀ (i:Nat) (v:Value),vs[i]?=some v->∃ (a:Addr) (o:Obj) (n:Nat) (b:Addr) (k:List gE) (x:Value),v=Value.ref a/\h.get? a=some o/\o.cls=.type "tuple"/\o.data=.seq #[.ref b,x] n/\(tupleKind (b9 P w)).is h k b/\ps[i]?=some (k,b,x)
theorem wJ(x:(tupleKind (b9 P w)).is h k b)(q:∀b o,(∃xs n,o.data=.seq xs n)->h.get? b=some o->h'.get? b=some o):(tupleKind (b9 P w)).is h' k b:=by
 obtain⟨o,its,n,h1,h2,h3,h4⟩:=x;exact⟨o,its,n,q _ _ ⟨_,_,h3⟩ h1,h2,h3,h4⟩
theorem qU.keeps(x:qU P w h vs ps)(k:∀b o,(∃xs n,o.data=.seq xs n)->h.get? b=some o->h'.get? b=some o):qU P w h' vs ps:=
 ⟨x.1,fun i v hv=>let ⟨a,o,n,b,kk,y,e1,e2,e3,e4,e5,e6⟩:=x.2 i v hv;⟨a,o,n,b,kk,y,e1,k a o ⟨_,_,e4⟩ e2,e3,e4,wJ e5 k,e6⟩⟩
theorem qV{P:Program}{w:World}{h h':Heap}{d:Addr}{xs:List (List gE×Addr×Value)}(x:h.DictOfH (tupleKind (b9 P w)) d xs)(kd:∀o,h.get? d=some o->h'.get? d=some o)(q:∀b o,(∃xs n,o.data=.seq xs n)->h.get? b=some o->h'.get? b=some o):h'.DictOfH (tupleKind (b9 P w)) d xs:=by
 obtain⟨o,es,ep,h1,h2,h3,h4,h5,h6⟩:=x;exact⟨o,es,ep,kd _ h1,h2,h3,h4,fun y hy=>wJ (h5 y hy) q,h6⟩
section
variable {prog:Program} {w:World} {A:Around} {E:Value->Shared->Prop} {s:Shared} {R:Result->Shared->Prop} {l d Ia:Addr}
theorem zu{vs:List Value}{ps:List (List gE×Addr×Value)}(hh:A.handled=none)(hu:A.units+4<cLine)(ZH:l≠d)(Ta:l≠Ia)(Uv:d≠Ia):
  ∀ (k i:Nat) (j:Int) (t:Tok) (s:Shared) (cG:List (List gE×Addr×Value)),vs.length-i=k->i<=vs.length->s.heap.IsListIter Ia l i->s.heap.IsList l vs.toArray->qU prog w s.heap vs ps->s.heap.DictOfH (tupleKind (b9 prog w)) d cG->cG.length+k<=4096->
   (∀h' tk,(∀b o,b≠d->b≠Ia->s.heap.get? b=some o->h'.get? b=some o)->h'.DictOfH (tupleKind (b9 prog w)) d ((ps.drop i).foldl (fun m p=>storedH m p.1 p.2.1 p.2.2) cG)->R (.ok (.ret .none)) { s with heap:=h',toks:=tk })->
   codeAny (model prog w) A (.builtin "dict.update.loop" ⟨[.ref d,.ref Ia,.int j t,.none],[]⟩) R s:=by
 intro k;induction k with
 |zero=>
  intro i j t s cG hk hi vB hl hp hD hz hR;refine m_ oG ?_;rw[tJ ii _];show wpAny _ A.in1 (pyNext (.ref Ia) >>= _) _ _ s;refine aw (tD (show A.in1.handled=none from hh) vB hl (by simp;lia) fun h' eb=>?_);have hd:ps.drop i=[]:=by rw[List.drop_eq_nil_iff];have:=hp.1;lia
  have WN:=hR h' s.toks (fun b o hb Gu e=>eb b o Gu e);rw[hd] at WN;refine aw (wpAny_pure (wpAny_pure (WN ?_)));refine qV hD (fun o e=>eb d o Uv e) fun b o hb e=>eb b o (fun z=>?_) e;obtain⟨oi,e1,_,d1⟩:=vB;obtain⟨xs,m,hb⟩:=hb;rw[z,e1] at e;cases e;rw[d1] at hb;cases hb
 |succ k ih=>
  intro i j t s cG hk hi vB hl hp hD hz hR;have e_:i<vs.length:=by lia
  refine m_ oG ?_;rw[tJ ii _];show wpAny _ A.in1 (pyNext (.ref Ia) >>= _) _ _ s;have hv:vs[i]?=some vs[i]:=bO e_;refine aw (p9 vB hl (x:=vs[i]) (by simpa using hv) fun h1 KI mE=>?_);have Rq:∀b ob,(∃xs n,ob.data=.seq xs n)->s.heap.get? b=some ob->b≠Ia:=fun b ob ⟨xs,m,z⟩ e z'=>by
   obtain⟨oi,e1,_,d1⟩:=vB;rw[z',e1] at e;cases e;rw[d1] at z;cases z
  have k1:∀b ob,(∃xs n,ob.data=.seq xs n)->s.heap.get? b=some ob->h1.get? b=some ob:=fun b ob hb e=>(mE.2 b (Rq b ob hb e)).trans e;have vC:qU prog w h1 vs ps:=hp.keeps k1;have mH:h1.DictOfH (tupleKind (b9 prog w)) d cG:=qV hD (fun o e=>(mE.2 d Uv).trans e) k1;have Cu:h1.IsList l vs.toArray:=by
   obtain⟨ol,q1,q2⟩:=hl;exact⟨ol,(mE.2 l Ta).trans q1,q2⟩
  obtain⟨a,o,n,b,kk,x,ea,Oh,ec,ed,ek,ep⟩:=vC.2 i _ hv;rw[ea];have ZI:∀b ob,(∃xs n,ob.data=.seq xs n)->h1.get? b=some ob->b≠d:=fun b ob ⟨xs,m,z⟩ e z'=>by
   obtain⟨oS,es,NA,q1,_,q4,_⟩:=mH;rw[z',q1] at e;cases e;rw[q4] at z;cases z
  have hT:Shared.TypeIs { s with heap:=h1 } (.ref a) "tuple":=⟨o,Oh,ec⟩
  refine aw (fK ?_);show wpAny _ A.in1 (Sem.tryCatch (Builtin.Dict.pairItems (.ref a)) _ >>= _) _ _ _;refine aw (wpAny_tryCatch ?_);unfold Builtin.Dict.pairItems;refine aw (qo hT ?_);rw[am (by decide)];refine aw (iQ Oh ed (wpAny_pure ?_));show wpAny _ A.in1 (holding [.ref b,x] (dictSet d (.ref b) x)) _ _ _;refine fK (wpAny_dictSet_heap (s:={ s with heap:=h1 }) (show A.in1.units<cLine from by show A.units+1<cLine;lia) ek mH (fun h2 fu lC=>?_) (bw (by lia:cG.length<=4096) (by decide)));refine wpAny_pure ⟨plainId_quiet ii _,?_⟩;have Br:i<ps.length:=by have:=hp.1;lia
  have Tc:ps.drop i=(kk,b,x)::ps.drop (i+1):=by
   rw[rS Br];have:ps[i]?=some ps[i]:=bO Br;rw[this] at ep;rw[bW ep]
  have dq:(storedH cG kk b x).length<=cG.length+1:=by
   unfold storedH;split
   .rw[aO];lia
   .rw[cF];simp
  have k2:∀b ob,(∃xs n,ob.data=.seq xs n)->h1.get? b=some ob->h2.get? b=some ob:=fun b ob hb e=>(lC.2 b (ZI b ob hb e)).trans e;refine ih (i+1) _ _ { s with heap:=h2,toks:=_ } (storedH cG kk b x) (by lia) e_ ?_ ?_ (vC.keeps k2) fu (by lia) fun h3 Td k3 D3=>?_
  .obtain⟨oi,q1,q2⟩:=KI;exact⟨oi,(lC.2 Ia (gU Uv)).trans q1,q2⟩
  .obtain⟨ol,q1,q2⟩:=Cu;exact⟨ol,(lC.2 l ZH).trans q1,q2⟩
  .refine hR h3 Td (fun b ob hb Gu e=>k3 b ob hb Gu ((lC.2 b hb).trans ((mE.2 b Gu).trans e))) ?_;rw[Tc];exact D3
end
section
variable {prog:Program} {w:World} {A:Around} {E:Value->Shared->Prop} {s:Shared} {l:Addr}
theorem Ls(h:Heap):(h.push { cls:=.type "dict",data:=.dict #[] }).DictOfH (tupleKind (b9 P w)) h.objs.size []:=
 ⟨_,#[],0,cD _ rfl,⟨rfl,rfl,rfl⟩,rfl,rfl,(fun x hx=>nomatch hx),iO⟩
theorem zw(hh:A.handled=none)(hu:A.units+8<cLine)(hl:s.heap.get? l=some { cls:=.type "list",data:=.seq vs.toArray n })(hp:qU prog w s.heap vs ps)(hz:vs.length<=4096)(h:∀h' tk,h'.DictOfH (tupleKind (b9 prog w)) s.heap.objs.size (ps.foldl (fun m p=>storedH m p.1 p.2.1 p.2.2) [])->(∀b o,s.heap.get? b=some o->h'.get? b=some o)->Q (.ref s.heap.objs.size) { s with heap:=h',toks:=tk }):
  wpAny (model prog w) A (call (.type "dict") [.ref l]) Q E s:=by
 refine callType_codes (Q₁:=fun obj s₁=>obj=.ref s.heap.objs.size/\s₁={ s with heap:=s.heap.push { cls:=.type "dict",data:=.dict #[] } }) F.kt_called_dict (F.kt_typeCall_dict_1 _) F.entry_dict_init (kt_code_dict_new _ ⟨rfl,rfl⟩) ?_;rintro obj s₁ ⟨rfl,rfl⟩;have JF:(s.heap.push { cls:=.type "dict",data:=.dict #[] }).DictOf (b9 prog w) s.heap.objs.size []:=Heap.DictOf.new s.heap;have qy:(s.heap.push { cls:=.type "dict",data:=.dict #[] }).DictOfH (tupleKind (b9 prog w)) s.heap.objs.size []:=Ls s.heap;have ku:(s.heap.push { cls:=.type "dict",data:=.dict #[] }).objs.size=s.heap.objs.size+1:=jg ..;have up:∀b o,s.heap.get? b=some o->(s.heap.push { cls:=.type "dict",data:=.dict #[] }).get? b=some o:=fun b o e=>bV _ e;have e_:l<s.heap.objs.size:=be hl;refine⟨JF.typeIs,F.args_dict_init_2 _ _,?_⟩;generalize (s.heap.push { cls:=.type "dict",data:=.dict #[] })=hD at *;have hT:Shared.TypeIs { s with heap:=hD } (.ref l) "list":=⟨_,up _ _ hl,rfl⟩
 unfold Builtin.«dict.__init__»;refine aw ?_;unfold Builtin.Dict.selfAndRest;refine aw (wpAny_notOrdered_dict JF.typeIs (wpAny_pure ?_));show wpAny _ _ (Builtin.Dict.updateFrom "dict.__init__" s.heap.objs.size (.ref l) [] .none) _ _ _;unfold Builtin.Dict.updateFrom;refine aw (qo hT ?_);rw[am (by decide)];refine aw (KS (s:={ s with heap:=hD }) (show A.in1.handled=none from hh) (up _ _ hl) fun h1 ZJ k1=>?_);have Cu:h1.get? l=some { cls:=.type "list",data:=.seq vs.toArray n }:=k1 _ _ (up _ _ hl);have uM:h1.IsList l vs.toArray:=⟨_,Cu,rfl,n,rfl⟩
 rw[am (by rfl)];refine aw (gm ?_);refine aw (mW (s:={ s with heap:=h1,toks:=ZJ }) uM ?_);have Uw:s.heap.objs.size<h1.objs.size:=by
  obtain⟨o,es,ep,q1,q2⟩:=qy;exact be (k1 _ _ q1)
 refine wpAny_pure ⟨plainId_quiet ii _,?_⟩;refine zu (l:=l) (vs:=vs) (ps:=ps) (Ia:=h1.objs.size) (show A.in1.handled=none from hh) (show A.units+1+4<cLine by lia) (ba e_) (ba (t9 e_ Uw)) (ba Uw) vs.length 0 0 0 _ [] (by simp) (dh _) ⟨_,cD _ rfl,rfl,rfl⟩ ?_ ?_ ?_ (by simpa using hz) fun h2 wK k2 D2=>?_
 .exact⟨_,bV _ Cu,rfl,n,rfl⟩
 .exact hp.keeps fun b o _ e=>bV _ (k1 _ _ (up _ _ e))
 .exact qV qy (fun o e=>bV _ (k1 _ _ e)) fun b o _ e=>bV _ (k1 _ _ e)
 .refine⟨rfl,h h2 wK D2 fun b o e=>k2 b o (ba (be e)) (ba (t9 (be e) Uw)) (bV _ (k1 _ _ (up _ _ e)))⟩
end
abbrev TK:=List gE×Addr×V
def cT(m:List (List gE×V))(ps:List TK):List (List gE×V):=ps.foldl (fun m p=>qD m p.1 p.2.2) m
inductive KP (H:Hp):List TK->List (List gE×Addr×Value)->Prop where
 |nil:KP H [] []
 |cons {k:List gE} {b:Addr} {v:V} {u:Value} {ps:List TK} {us:List (List gE×Addr×Value)} (hb:H b=some (.tup (k.map kV))) (r:bT v u) (t:KP H ps us):KP H ((k,b,v)::ps) ((k,b,u)::us)
theorem KP.fold:∀ {ps:List TK} {us:List (List gE×Addr×Value)} {m:List (List gE×V)} {m':List (List gE×Addr×Value)},KP H ps us->KT H m m'->KT H (cT m ps) (us.foldl (fun m p=>storedH m p.1 p.2.1 p.2.2) m')
 |[],_,_,_,.nil,r=>r
 |(k,b,v)::ps,_,m,m',.cons (us:=us) hb rv t,r=>by
  have:=KP.fold (ps:=ps) (us:=us) t (r.put k hb rv);exact this
theorem oN:∀ (ps:List TK) (m:List (List gE×V)),(cT m ps).length<=m.length+ps.length
 |[],m=>by show m.length<=_;simp
 |p::ps,m=>by
  have h1:=oN ps (qD m p.1 p.2.2);have h2:=wb m p.1 p.2.2;show (cT (qD m p.1 p.2.2) ps).length<=_;rw[dH];lia
theorem wL(ok:k5 P w H h):∀ (ts:List Addr) (ps:List TK),ts.length=ps.length->(∀i,i<ps.length->∃k b v,ps[i]?=some (k,b,v)/\H (ts.getD i 0)=some (.tup [.ref b,v])/\H b=some (.tup (k.map kV)))->
  ∃us:List (List gE×Addr×Value),KP H ps us/\qU P w h (ts.map Value.ref) us
 |[],[],_,_=>⟨[],.nil,rfl,fun i v hv=>by simp at hv⟩
 |[],_::_,e,_=>by simp at e
 |_::_,[],e,_=>by simp at e
 |t::ts,(k,b,v)::ps,e,hs=>by
  obtain⟨us,r,T⟩:=wL ok ts ps (by simpa using e) fun i hi=>by
   obtain⟨k',b',v',h1,h2,h3⟩:=hs (i+1) (by simp;lia);exact⟨k',b',v',by simpa using h1,by simpa using h2,h3⟩
  obtain⟨k0,b0,v0,g1,g2,g3⟩:=hs 0 (by simp);have ZK:(k,b,v)=(k0,b0,v0):=by simpa using g1
  cases ZK;have ZL:H t=some (.tup [.ref b,v]):=by simpa using g2
  obtain⟨_,its,rv,o,q1,q2,n,q3⟩:=ok t _ ZL;cases rv with
  |cons ra rr=>
   cases rr with
   |cons rb ZM=>
    cases ZM;rename_i ka vb;obtain rfl:ka=Value.ref b:=ra;refine⟨(k,b,vb)::us,.cons g3 rb r,by simp[T.1],fun i x hx=>?_⟩;cases i with
    |zero=>
     have A6:Value.ref t=x:=by simpa using hx
     exact⟨t,o,n,b,k,vb,A6.symm,q1,q2,q3.1,nM ok g3,rfl⟩
    |succ i=>exact T.2 i x (by simpa using hx)
section
variable {X:Cx}
def Lu:List V->Hp->VK->Prop:=fun xs H Q=>∃ (l:Addr) (ts:List Addr) (ps:List TK),xs=[.ref l]/\H l=some (.lst (ts.map V.ref))/\ts.length=ps.length/\(∀i,i<ps.length->∃k b v,ps[i]?=some (k,b,v)/\H (ts.getD i 0)=some (.tup [.ref b,v])/\H b=some (.tup (k.map kV)))/\ps.length<=4096/\
 ∀D,H D=none->Q (.ref D) (upd H D (.dT (cT [] ps)))
theorem zx(hc:X.calm=true)(hu:X.A.units+8<cLine):eX X (.type "dict") Lu:=by
 intro af s σ H xs us Q I r h;obtain⟨l,ts,ps,rfl,hl,dq,ht,hz,q⟩:=h;obtain⟨u1,rfl,r1⟩:=r.one;obtain rfl:u1=Value.ref l:=r1;obtain⟨z,its,n,rv,_,e⟩:=I.rB hl;have yS:its=ts.map Value.ref:=uE rv;subst yS;obtain⟨vs,kv,T⟩:=wL I.cL ts ps dq ht;refine zw (I.ok.hd hc) hu e T (by rw[aO,dq];exact hz) fun h' tk D k=>?_;have hs:sysModules<s.heap.objs.size:=t9 (by decide:sysModules<mainGlobals) (I.mod.glob.keeps I.bk).lt;have nf:=I.cL.fresh (aU s.heap.objs.size);have I2:aT X af σ (upd H s.heap.objs.size (.dT (cT [] ps))) { s with heap:=h',toks:=tk }:=by
  obtain⟨o,es,ep,h1,h2,h3,h4,_,h6⟩:=D;refine I.vW (t':=tk) k (mL (aU _)) ⟨?_,?_,_,KT.keeps (KP.fold kv .nil) fun b ys eb=>?_,o,es,ep,h1,h2,h3,h4,h6⟩
  .have:=oN ps [];exact bw this (bw (by simpa using hz) (by decide:4096<=sizeLine))
  .rw[ou];exact iS hs
  .rw[aj (ak eb nf)];exact eb
 exact⟨.ref s.heap.objs.size,_,I2,rfl,q _ nf⟩
def Pm:R2:=fun x y H Q=>∃a b xs ys,x=.ref a/\y=.ref b/\H a=some (.tup xs)/\H b=some (.tup ys)/\xs.length+ys.length<=sizeLine/\∀r H',aG H H'->H' r=some (.tup (xs++ys))->Q (.ref r) H'
theorem AH:k7 X (binaryOp .Add) Pm:=by
 intro af s σ H x y v u Q I rx ry h;obtain⟨a,b,xs,ys,rfl,rfl,ha,hb,hz,q⟩:=h;cases rx;cases ry;obtain⟨its,r1,p1,_⟩:=I.tuple (bD.of ha);obtain⟨jN,r2,p2,_⟩:=I.tuple (bD.of hb);obtain⟨⟨cls,dd,data,sl⟩,ho,hc,n,hd⟩:=id p1;obtain⟨⟨ZN,Ux,data2,Uy⟩,Ng,WP,n2,RK⟩:=id p2;simp only at hc hd WP RK;subst hc hd WP RK;have e:its.toArray++jN.toArray=(its++jN).toArray:=by simp
 by_cases hv:xs=[]
 .subst hv;have hi:its=[]:=r1.pD.mpr rfl;exact concat_meets ⟨_,ho,rfl⟩ ⟨_,Ng,rfl⟩ yg seq_tuple_add xw xv (xq _ _)
   (tuple_addW0 a b its.toArray jN.toArray n n2 dd Ux sl Uy (by simp[hi])) ⟨ho,Ng,⟨.ref b,H,I,rfl,q b H (aG.refl _) hb⟩⟩
 .have hi:its≠[]:=fun z=>hv (r1.pD.mp z);by_cases hw:ys=[]
  .subst hw;have hj:jN=[]:=r2.pD.mpr rfl;exact concat_meets ⟨_,ho,rfl⟩ ⟨_,Ng,rfl⟩ yg seq_tuple_add xw xv (xq _ _)
    (tuple_addW1 a b its.toArray jN.toArray n n2 dd Ux sl Uy (by simpa using hi) (by simp[hj])) ⟨ho,Ng,⟨.ref a,H,I,rfl,q a H (aG.refl _) (by rw[tV];exact ha)⟩⟩
  .have hj:jN≠[]:=fun z=>hw (r2.pD.mp z);refine concat_meets ⟨_,ho,rfl⟩ ⟨_,Ng,rfl⟩ yg seq_tuple_add xw xv (xq _ _)
    (tuple_addW2 a b its.toArray jN.toArray n n2 dd Ux sl Uy (by simpa using hi) (by simpa using hj) (by rw[bQ,bQ,<-r1.length,<-r2.length];exact hz)) ⟨ho,Ng,?_⟩
   rw[e];have nf:=I.cL.fresh (aU s.heap.objs.size);refine⟨.ref s.heap.objs.size,_,I.laid (t':=s.toks) (o:=.tup (xs++ys)) (fun b ob q=>bV _ q) (aU _) ?_,rfl,q _ _ (ai nf) ab⟩;exact⟨by rw[cF];exact hz,_,r1.append r2,jE.new _ _⟩
theorem mj{prog:Program}{w:World}{A:Around}{E:Value->Shared->Prop}{s:Shared}{t sl:Addr}{items:Array Value}{vl vu:Value}{lo hi:Option Int}{Q:Value->Shared->Prop}(ht:IsTup s.heap t items)(hs:s.heap.IsSliceOf sl vl vu .none)(pl:IsPart vl lo)(pu:IsPart vu hi)(hw:HT.d8 items.size 0 lo=0/\HT.d8 items.size items.size hi=items.size)(h:Q (.ref t) s):wpAny (model prog w) A (getItem (.ref t) (.ref sl)) Q E s:=by
 obtain⟨os,Be,Rl,FS⟩:=id hs;have SI:s.TypeIs (.ref sl) "slice":=⟨os,Be,Rl⟩
 unfold getItem;try with_reducible refine fK ?_
 first|refine aw (wpAny_pure ?_)|skip
 refine aw (wpAny_sequenceKey ht.typeIs (by decide) ?_);refine aw (mJ (name:=Str.ofString "__getitem__") ht.typeIs rR
  (kS rR ht.typeIs entry_tuple_getitem ?_ (args_tuple_getitem _ _)))
 show wpAny _ _ (Builtin.Tuple.tupleItemsOf (.ref t) >>= _) _ _ s;refine aw (tupleItemsOf_ ht ?_);refine aw (qo SI ?_);rw[am (by decide)];refine aw (HT.iF hs pl pu ?_);have Uz:(((HT.d8 items.size 0 lo:Nat):Int)==0&&(1:Int)==1&&(HT.d8 items.size items.size hi-HT.d8 items.size 0 lo)==items.size)=true:=by
  rw[hw.1,hw.2];simp
 show wpAny _ _ (if (((HT.d8 items.size 0 lo:Nat):Int)==0&&(1:Int)==1&&(HT.d8 items.size items.size hi-HT.d8 items.size 0 lo)==items.size)=true then _ else _) _ _ s;rw[am Uz];refine aw (Q:=_) (m:=Builtin.Tuple.tupleIsExact (.ref t)) ?_;unfold Builtin.Tuple.tupleIsExact;refine aw (qo ht.typeIs ?_);refine wpAny_pure ?_;rw[am (by decide)];exact aw (gm (wpAny_pure ⟨_,rfl,wpAny_pure h⟩))
def UA:V->Option Int->Option Int->Hp->VK->Prop:=fun x lo hi H Q=>∃a xs,x=.ref a/\H a=some (.tup xs)/\∀r H',aG H H'->H' r=some (.tup (lS xs lo hi))->Q (.ref r) H'
theorem Ey{xs:List V}{lo hi:Option Int}(hw:HT.d8 xs.length 0 lo=0/\HT.d8 xs.length xs.length hi=xs.length):lS xs lo hi=xs:=by
 unfold lS;rw[hw.1,hw.2,Nat.sub_zero,ye,fA]
theorem AI:Rm X UA:=by
 intro af s σ H x v vl vu lo hi sl Q I rx hs pl pu h;obtain⟨a,xs,rfl,hx,q⟩:=h;by_cases hw:HT.d8 xs.length 0 lo=0/\HT.d8 xs.length xs.length hi=xs.length
 .cases rx;obtain⟨its,r,ht,hz⟩:=I.tuple (bD.of hx);have dq:its.toArray.size=xs.length:=by rw[bQ];exact r.length.symm
  refine⟨"tuple",_,rR.lookup,ht.typeIs,?_⟩;exact mj ht hs pl pu (by rw[dq];exact hw) ⟨.ref a,H,I,rfl,q a H (aG.refl _) (by rw[Ey hw];exact hx)⟩
 .exact Ku af s σ H _ v vl vu lo hi sl Q I rx hs pl pu ⟨a,xs,rfl,bD.of hx,hw,fun p hp=>q p _ (ai hp) ab⟩
end
end L2
namespace jV
abbrev gu(ts:Ts)(h:Int):Nat:=(ts.filter fun t=>decide (t.1=h)).length
theorem u4:gu (ts++us) h=gu ts h+gu us h:=by unfold gu;rw[eH,cF]
theorem pM:gu [(a,b),(b,a)] h=(if a=h then 1 else 0)+(if b=h then 1 else 0):=by
 unfold gu;by_cases c1:a=h <;> by_cases c2:b=h <;> simp[c1,c2]
theorem Hq:gu (df (ps++[(a,b)])) h=gu (df ps) h+((if a=h then 1 else 0)+(if b=h then 1 else 0)):=by
 rw[i4,u4];exact congrArg _ pM
theorem Hr:df [(a,b)]=[(a,b),(b,a)]:=rfl
theorem Ht(ha:a<n)(hb:b<n)(oH:a≠b):xg n [(ci a,ci b),(ci b,ci a)]:=by
 have ne:ci a≠ci b:=fun e=>oH (dI e);refine⟨?_,?_,?_,?_,?_⟩
 .rw[fJ];refine⟨fun h=>?_,by simp⟩;have:=cE.mp h;exact ne (congrArg Prod.fst this)
 .intro t ht;rcases bX.mp ht with rfl|ht
  .exact⟨⟨by lia,by lia⟩,⟨by lia,by lia⟩⟩
  .rw[cE.mp ht];exact⟨⟨by lia,by lia⟩,⟨by lia,by lia⟩⟩
 .intro t ht;rcases bX.mp ht with rfl|ht
  .exact ne
  .rw[cE.mp ht];exact fun e=>ne e.symm
 .intro h;by_cases c1:ci a=h <;> by_cases c2:ci b=h <;> simp[c1,c2]
 .intro h;have:=pM (a:=ci a) (b:=ci b) (h:=h);show gu [(ci a,ci b),(ci b,ci a)] h<=8;rw[this];split <;> split <;> lia
theorem cg.pair(F:cg n (df ps))(ha:a<n)(hb:b<n)(oH:a≠b)(h1:(ci a,ci b)∉ps)(h2:(ci b,ci a)∉ps)(d1:gu (df ps) (ci a)<=7)(d2:gu (df ps) (ci b)<=7):cg n (df (ps++[(ci a,ci b)])):=by
 rw[i4,Hr];have ne:ci a≠ci b:=fun e=>oH (dI e);refine F.app (pJ F.pre (Ht ha hb oH) (fun t ht=>?_) fun h=>?_)
 .rcases bX.mp ht with rfl|ht
  .exact fun z=>(l_.mp z).elim h1 h2
  .rw[cE.mp ht];exact fun z=>(l_.mp z).elim h2 h1
 .show gu (df ps) h+gu [(ci a,ci b),(ci b,ci a)] h<=8;rw[pM];have m:=F.most h;by_cases c1:ci a=h
  .subst c1;rw[am rfl,aA (fun e=>ne e.symm)];lia
  .by_cases c2:ci b=h
   .subst c2;rw[aA c1,am rfl];lia
   .rw[aA c1,aA c2];exact m
theorem sM:∀ {ps:Ts} {h:Int},(∀u∈ps,u.1≠u.2)->(ps.filter fun u=>decide (u.1=h)||decide (u.2=h)).length=gu (df ps) h
 |[],_,_=>rfl
 |u::ps,h,hn=>by
  have ih:=sM (ps:=ps) (h:=h) fun v hv=>hn v (cU _ hv);have hu:=hn u bU;have e:df (u::ps)=[u,nY u]++df ps:=rfl;rw[e,u4,cQ,<-ih];obtain⟨a,b⟩:=u;have d:gu [(a,b),nY (a,b)] h=(if a=h then 1 else 0)+(if b=h then 1 else 0):=pM;rw[d];have oH:a≠b:=hu;by_cases c1:a=h
  .have c2:¬ b=h:=fun z=>oH (c1.trans z.symm);simp[c1,c2];lia
  .by_cases c2:b=h
   .simp[c1,c2];lia
   .simp[c1,c2]
theorem Hu(P:xg n ts):xg n (ts.map nY):=by
 have fl:∀h:Int,((ts.map nY).filter fun t=>decide (t.1=h)).length=(ts.filter fun t=>decide (t.2=h)).length:=fun h=>by
  rw[m6,aO];rfl
 have ZO:∀h:Int,((ts.map nY).filter fun t=>decide (t.2=h)).length=(ts.filter fun t=>decide (t.1=h)).length:=fun h=>by
  rw[m6,aO];rfl
 refine⟨?_,fun t ht=>?_,fun t ht=>?_,fun h=>?_,fun h=>?_⟩
 .refine iD.mpr (P.nd.imp fun {x y} Jy e=>Jy ?_);have e1:=congrArg Prod.fst e;have e2:=congrArg Prod.snd e;exact ff e2 e1
 .obtain⟨u,hu,rfl⟩:=bn.mp ht;exact⟨(P.rg u hu).2,(P.rg u hu).1⟩
 .obtain⟨u,hu,rfl⟩:=bn.mp ht;exact fun e=>P.ne u hu e.symm
 .rw[fl,ZO,P.BS]
 .rw[fl,<-P.BS];exact P.most h
theorem Lv(h:3<=m)(hk:k<m):pk m (pk m k)≠k:=by
 unfold pk;split <;> split <;> lia
theorem wM(n1:3<=n)(n2:n<=32)(pm:xs.Perm (List.range n)):cg n (df (qM xs)):=by
 have F:=sI (by lia) n2 pm;have nd:xs.Nodup:=pm.nodup_iff.mpr kE;have hl:xs.length=n:=by rw[pm.length_eq,bR]
 have lt:∀x∈xs,x<n:=fun x hx=>bH.mp (pm.mem_iff.mp hx);obtain⟨P,one⟩:=uN nd lt (by lia);have Q:=Hu P;refine cg.perm ?_ gj;refine F.app (pJ P Q (fun t ht hm=>?_) fun h=>?_)
 .obtain⟨u,hu,rfl⟩:=bn.mp ht;obtain⟨k,hk,rfl⟩:=l9 hu;obtain⟨j,hj,e⟩:=l9 hm;have e1:xs.getD k 0=xs.getD (pk xs.length j) 0:=dI (congrArg Prod.fst e);have e2:xs.getD (pk xs.length k) 0=xs.getD j 0:=dI (congrArg Prod.snd e);have pj:=sG hj;have WQ:=sG hk;rw[dS hk,dS pj] at e1;rw[dS WQ,dS hj] at e2;have i1:=nX nd hk pj e1;have i2:=nX nd WQ hj e2;rw[<-i2] at i1;exact Lv (by lia) hk i1.symm
 .have o1:=one h;have e:((qM xs).map nY).filter (fun t=>decide (t.1=h))=((qM xs).filter fun t=>decide (t.2=h)).map nY:=by rw[m6];rfl
  rw[e,aO,<-P.BS];lia
theorem wN{ps:Ts}:(df (ps.map nY)).Perm (df ps):=by
 have e:(ps.map nY).map nY=ps:=by
  rw[cy];conv=>rhs;rw[<-kZ ps]
  exact h_ fun u _=>rfl
 refine gj.trans ?_;rw[e];exact iB.trans gj.symm
def B_(xs:List Nat):Ts:=(List.range xs.length).map fun k=>(ci (xs.getD k 0),ci (xs.getD ((k+1) % xs.length) 0))
theorem Ez:((List.range m).map fun k=>(k+1) % m).Perm (List.range m):=by
 cases m with
 |zero=>exact kW _
 |succ m=>
  rw[je,cq,List.map_singleton,Nat.mod_self];have e:(List.range m).map (fun k=>(k+1) % (m+1))=(List.range m).map (·+1):=h_ fun k hk=>iM (by have:=bH.mp hk;lia);rw[e];refine iB.trans ?_;rw[<-je,mI];exact kW _
theorem n8:(B_ xs).Perm (qM xs):=by
 have h:=(Ez (m:=xs.length)).map fun k=>(ci (xs.getD (pk xs.length k) 0),ci (xs.getD k 0))
 rw[cy] at h;refine List.Perm.trans (qi ?_) h;unfold B_;refine h_ fun k hk=>?_;have Jk:=bH.mp hk;have:pk xs.length ((k+1) % xs.length)=k:=by
  by_cases c:k+1=xs.length
  .rw[c,Nat.mod_self];unfold pk;rw[am rfl];lia
  .rw[iM (by lia)];unfold pk;rw[aA (by lia)];lia
 show _=(ci (xs.getD (pk xs.length ((k+1) % xs.length)) 0),ci (xs.getD ((k+1) % xs.length) 0));rw[this]
theorem cg.round(F:cg n ts)(nd:xs.Nodup)(lt:∀x∈xs,x<n)(c2:2<=xs.length)(hf:∀x∈xs,gu ts (ci x)<=7)(hn:∀t∈B_ xs,t∉ts):cg n (ts++B_ xs):=by
 have P:=BV F.pre nd lt c2 (fun t ht=>?_) (fun t ht=>hn t (n8.mem_iff.mpr ht))
 .exact(F.app P).perm (kD _ n8)
 .obtain⟨k,hk,rfl⟩:=l9 ht;exact hf _ (nV (sG hk))
end jV
namespace vG
open PySem L2 jV
abbrev Lw:Stmt:=i5 27
abbrev EB:Stmt:=i5 28
abbrev zy:Stmt:=i5 29
structure Pn(mg:Str->Option Value):Prop where
 abs:mg "abs"=none
 divmod:mg "divmod"=none
 dict:mg "dict"=none
 zip:mg "zip"=none
 repr:mg "repr"=none
theorem gL{e:V->V->Bool}:∀ {xs:List V},g7 e xs []=decide (xs=[])
 |[]=>rfl
 |x::xs=>by simp[g7]
def bu(H:Hp)(p:Addr):Prop:=∃a b:Int,H p=some (.lst [.int a,.int b])/\0<=a/\0<=b/\b<4294967296
theorem bu.same{H H':Hp}{p:Addr}(h:bu H p)(s:aG H H'):bu H' p:=let ⟨a,b,e,r⟩:=h;⟨a,b,s _ _ e,r⟩
theorem bu.full{H:Hp}{p:Addr}(h:bu H p):H p≠none:=by obtain⟨a,b,e,_⟩:=h;rw[e];intro z;cases z
theorem bu.ne{H:Hp}{p q:Addr}(h:bu H p)(e:H q=none):q≠p:=by rintro rfl;exact h.full e
theorem bu.put{H:Hp}{p q:Addr}{o:HO}(h:bu H p)(n:p≠q):bu (upd H q o) p:=let ⟨a,b,e,r⟩:=h;⟨a,b,by rw[aj n];exact e,r⟩
theorem bu.neT{H:Hp}{p q:Addr}{xs:List V}(h:bu H p)(e:H q=some (.tup xs)):q≠p:=by rintro rfl;obtain⟨a,b,z,_⟩:=h;rw[e] at z;cases z
theorem PO.mq{H H':Hp}{p:Addr}{zs:Zs}(h:PO H zs)(s:au p H H')(hp:bu H p):PO H' zs:=fun z hz=>s _ _ (h z hz) (hp.neT (h z hz))
theorem _root_.L2.aQ.same{K:PySem.W.Frag}{H H':Hp}{a:Addr}{xs:List V}(h:aQ K H a xs)(s:aG H H'):aQ K H' a xs:=by
 rcases h with (h|⟨o,h⟩)|h
 .exact .inl (.inl (s _ _ h))
 .exact .inl (.inr ⟨o,s _ _ h⟩)
 .exact .inr h
theorem lx:(["_law_k","_law_left","_law_pot_here"]:List Str).Nodup:=by decide +kernel
section
variable {P:Program} {w:World} {K:PySem.W.Frag} {mg:Str->Option Value} {base:Heap}
theorem wO:aS ["_law_script","_law_k","_law_cell","_law_rest"] ["_law_script","_law_k"] (az Lw):=dB (by decide +kernel)
def EC(K:PySem.W.Frag):Sp:=fun vs H Q _=>∃ (a:Addr) (ns:List Int) (k:Nat),vs=[.ref a,.int k]/\aQ K H a (ns.map V.int)/\k<64/\∀ (r:Addr) (H':Hp),aG H H'->H r=none->bu H' r->Q (.ref r) H'
theorem Lx{f:Addr}{fd:FuncData}(F:hW K "_law_pot" "_law_pot" Lw f fd)(B:Bl mg)(B2:Pn mg):bY P w K mg base bE 1 f fd ["_law_script","_law_k"] (EC K):=by
 refine F.ok wO (fun vs H Q E h=>?_) (fun eQ A outer s H vs Q E hr h=>?_)
 .obtain⟨a,ns,k,rfl,_⟩:=h;rfl
 .obtain⟨a,ns,k,rfl,hS,hk,q⟩:=h;refine⟨_,(ag (cW (bP (aa av (aa av ae))) (eG (n:=2) rfl (aW (aq (i:=2) wO.nd rfl aM) (aW (aq (i:=3) wO.nd rfl aM) cS))))
   (ag (cf (aI (yQ (e:=iX) hr.u) (pv 0) (b8 ae) (aP _)) (ap (aH (i:=2) wO.nd rfl aM (aE C7 (by rfl) B2.abs PyProof.Rows.boot_abs (aa (aJ aF (pv 0) (bg gX (pv 1) (aE aD (by rfl) B.len cu (aa (pv 0) ae))) (fun _ _=>rfl)) ae)))) a_)
   (ag (cf (aI jh (pv 1) (aE aD (by rfl) B.len cu (aa (pv 0) ae)) (aP _)) (ap (aH (i:=3) wO.nd rfl aM (aE (nr rfl) (by rfl) B.max pY (aa av (aa (bg k8 (pv 2) (bg Kk av av)) ae))))) a_)
   (ap (aX (b8 (aa (pv 3) (aa (bg di (bg di (bg gX (bg iW (bg di (bg gX (pv 2) av) av) (bg di (pv 1) av)) av) (bg iW av (pv 1))) av) ae)))))))),?_⟩
  refine⟨by show 2<=sizeLine;decide,fun T0 Nh=>⟨T0,_,rfl,bD.of ab,rfl,_,_,rfl,_,_,rfl,rfl,?_⟩⟩;have sT:=ai (o:=.tup [.int 0,.int 0]) Nh;dsimp only;refine me (fun σ Hc=>aG H Hc/\∃c:Int,0<=c/\σ=[some (.ref a),some (.int k),some (.int c),some (.int 0)]) ?_ ?_
  .rintro σ Hc ⟨sc,c,c0,rfl⟩;have m0:0<=c % 2147483579:=m9 _ (by decide);have m1:c % 2147483579<2147483579:=mO _ (by decide);refine me (fun σ Hd=>Hd=Hc/\∃d:Int,0<=d/\σ=[some (.ref a),some (.int k),some (.int c),some (.int d)]) ?_ ?_
   .rintro σ Hd ⟨rfl,d,d0,rfl⟩;refine⟨_,rfl,_,rfl,_,_,rfl,rfl,(by show (0:Int)<2147483579;decide),_,_,rfl,rfl,_,rfl,_,_,rfl,rfl,_,_,rfl,rfl,.inl ⟨by lia,by lia⟩,_,_,rfl,rfl,(by show (0:Int)<2147483579;decide),_,rfl,_,_,rfl,rfl,.inl ⟨by decide,by decide⟩,_,_,rfl,rfl,_,_,rfl,rfl,by show 2<=sizeLine;decide,fun r Cs=>?_⟩;have v0:0<=(c % 2147483579+1)*((k:Int)+1) % 2147483579:=m9 _ (by decide);have v1:(c % 2147483579+1)*((k:Int)+1) % 2147483579<2147483579:=mO _ (by decide);refine q r _ (sc.trans (ai Cs)) (sc.free Cs) ⟨_,_,ab,d0,?_,?_⟩
    .generalize (c % 2147483579+1)*((k:Int)+1) % 2147483579=z at *;lia
    .generalize (c % 2147483579+1)*((k:Int)+1) % 2147483579=z at *;lia
   .intro N hN;refine⟨_,rfl,_,rfl,a,_,rfl,.inl (hS.same sc),_,_,rfl,rfl,_,rfl,d9 (fun e=>?_) (fun e=>hN _ _ ⟨rfl,0,by decide,rfl⟩)⟩;exact⟨_,rfl,_,_,rfl,rfl,⟨by decide,by decide,by decide⟩,_,_,rfl,rfl,0,_,rfl,hN _ _ ⟨rfl,_,by split <;> lia,rfl⟩⟩
  .intro N hN;refine⟨_,rfl,by show 0<=sizeLine;decide,fun E1 Hv=>?_⟩;have sE:=sT.trans (ai (o:=.lst []) Hv);have S1:=hS.same sE;refine⟨a,E1,_,[],rfl,rfl,S1,aQ.of ab,fun i h1 h2=>absurd h2 (by simp),_,rfl,?_⟩;rw[am rfl,gL];by_cases e:ns.map V.int=[]
   .rw[decide_eq_true e];exact dQ (hN _ _ ⟨sE,0,by decide,rfl⟩)
   .rw[cY e];have hl:0<ns.length:=by
     rcases ns with _|⟨x,xs⟩
     .exact absurd rfl e
     .simp
    have hm:k % ns.length<ns.length:=iu _ hl;refine iG ⟨_,rfl,_,rfl,_,rfl,a,_,rfl,.inl S1,_,_,rfl,rfl,(by show (0:Int)<(((ns.map V.int).length:Nat):Int);rw[aO];lia),a,_,_,.int ns[k % ns.length],rfl,rfl,S1,?_,_,rfl,hN _ _ ⟨sE,_,?_,rfl⟩⟩
    .rw[aO];have:((k:Int) % ((ns.length:Nat):Int))=((k % ns.length:Nat):Int):=rfl;rw[this];exact ao (by rw[bZ,bO hm];rfl)
    .split <;> lia
theorem ED:aS ["_law_pot_here","_law_many","_law_digit"] ["_law_pot_here","_law_many"] (az EB):=dB (by decide +kernel)
def eT:Sp:=fun vs H Q _=>∃ (p:Addr) (m:Nat),vs=[.ref p,.int m]/\0<m/\m<1000000/\bu H p/\∀ (d:Nat) (H':Hp),d<m->au p H H'->bu H' p->Q (.int d) H'
theorem Hw{f:Addr}{fd:FuncData}(F:hW K "_law_take" "_law_take" EB f fd)(B2:Pn mg):bY P w K mg base bE 1 f fd ["_law_pot_here","_law_many"] eT:=by
 refine F.ok ED (fun vs H Q E h=>?_) (fun eQ A outer s H vs Q E hr h=>?_)
 .obtain⟨p,m,rfl,_⟩:=h;rfl
 .obtain⟨p,m',rfl,m0',m1',⟨a,b,hp,a0,b0,b1⟩,q'⟩:=h;generalize hm:((m':Nat):Int)=m;have m0:0<m:=by lia
  have m1:m<1000000:=by lia
  have q:∀ (d a b:Int) (H':Hp),0<=d->d<m->0<=a->0<=b->b<4294967296->au p H H'->H' p=some (.lst [.int a,.int b])->Q (.int d) H':=fun d a b H' h1 h2 h3 h4 h5 h6 h7=>by
   have:=q' d.toNat H' (by lia) h6 ⟨a,b,h7,h3,h4,h5⟩;rw[xK h1] at this;exact this
  refine⟨_,(ag (cf (aI vP (aJ aF (pv 0) av (fun _ _=>rfl)) av (aP _)) (ag (cW (aE vQ (by rfl) B2.divmod PyProof.Rows.boot_divmod (aa (aJ aF (pv 0) av (fun _ _=>rfl)) (aa (pv 1) ae))) (eG (n:=2) rfl (aW (fX (pv 0) av dt) (aW (aq (i:=2) ED.nd rfl aM) cS))))
    (ap (aX (pv 2)))) a_)
   (ag (cW (bg gX (bg di (bg iW (aJ aF (pv 0) av (fun _ _=>rfl)) av) av) av) (fX (pv 0) av dt))
   (ap (aX (bg gX (bg um (bg gX (bg iW (aJ aF (pv 0) av (fun _ _=>rfl)) (aJ aF (pv 0) av (fun _ _=>rfl))) av) av) (pv 1)))))),?_⟩
  have g0:Dg [V.int a,V.int b] 0=some (.int a):=ao (j:=0) rfl;have g1:Dg [V.int a,V.int b] 1=some (.int b):=ao (j:=1) rfl;refine⟨_,rfl,p,_,_,_,rfl,rfl,aQ.of hp,g0,_,_,rfl,rfl,_,rfl,?_⟩;refine d9 (fun e=>?_) (fun e=>?_)
  .refine⟨_,rfl,p,_,_,_,rfl,rfl,aQ.of hp,g0,_,rfl,_,_,rfl,⟨m0,by lia⟩,fun t ht=>?_⟩;have ZP:p≠t:=ak hp ht;refine⟨t,_,rfl,bD.of ab,rfl,_,_,rfl,?_⟩;refine⟨_,rfl,p,_,0,0,rfl,rfl,by rw[aj ZP];exact hp,de (j:=0) (by show 0<2;decide),_,_,rfl,rfl,_,rfl,?_⟩;exact q _ _ _ _ (m9 _ (by lia)) (mO _ m0) (Int.ediv_nonneg a0 (by lia)) b0 b1 (fun c o e n=>by rw[aj n,aj (ak e ht)];exact e) ab
  .refine⟨_,rfl,p,_,_,_,rfl,rfl,aQ.of hp,g1,_,_,rfl,rfl,.inl ⟨by lia,by lia⟩,_,_,rfl,rfl,_,_,rfl,rfl,(by show (0:Int)<2147483587;decide),?_⟩;refine⟨_,rfl,p,_,1,1,rfl,rfl,hp,de (j:=1) (by show 1<2;decide),?_⟩;have c0:0<=(b*48283+10007) % 2147483587:=m9 _ (by decide);have c1:(b*48283+10007) % 2147483587<2147483587:=mO _ (by decide);refine⟨_,rfl,p,_,_,_,rfl,rfl,aQ.of ab,ao (j:=1) rfl,_,rfl,p,_,_,_,rfl,rfl,aQ.of ab,ao (j:=1) rfl,_,_,rfl,rfl,.inl ⟨by lia,by lia⟩,_,_,rfl,rfl,(by show (0:Int)<2147483549;decide),_,_,rfl,rfl,⟨by decide,by decide⟩,_,rfl,_,_,rfl,rfl,m0,?_⟩;exact q _ _ _ _ (m9 _ (by lia)) (mO _ m0) a0 c0 (by lia) au.upd ab
theorem jY:∀ {xs:List Nat} {k:Nat},(NV xs).eraseIdx k=NV (xs.eraseIdx k)
 |[],_=>rfl
 |x::xs,0=>rfl
 |x::xs,k+1=>congrArg (V.int (x:Nat)::·) (jY (xs:=xs) (k:=k))
theorem qW:∀ {ls:List Nat} {k:Nat} (hk:k<ls.length),(ls[k]::ls.eraseIdx k).Perm ls
 |x::xs,0,_=>kW _
 |x::xs,k+1,h=>(List.Perm.swap x _ _).trans ((qW (ls:=xs) (k:=k) (by simpa using h)).cons x)
theorem EE{xs ls:List Nat}{k v:Nat}{r:List Nat}(p:(xs++ls).Perm r)(h:ls[k]?=some v):(xs++[v]++ls.eraseIdx k).Perm r:=by
 refine List.Perm.trans ?_ p;rw[cP];refine kD _ ?_;obtain⟨hk,e⟩:=cN.mp h;subst e;exact qW hk
theorem AJ:aS ["_law_pot_here","_law_many","_law_left"] ["_law_pot_here","_law_many"] (az zy):=dB (by decide +kernel)
def mr:Sp:=fun vs H Q _=>∃ (p:Addr) (m:Nat),vs=[.ref p,.int m]/\m<=32/\bu H p/\∀ (r:Addr) (xs:List Nat) (H':Hp),au p H H'->bu H' p->H r=none->H' r=some (.lst (NV xs))->xs.Perm (List.range m)->Q (.ref r) H'
theorem EF{f:Addr}{fd:FuncData}(F:hW K "_law_order" "_law_order" zy f fd)(B:Bl mg)(D:cX P w K mg base bE 1 "_law_take" ["_law_pot_here","_law_many"] eT):bY P w K mg base bE 2 f fd ["_law_pot_here","_law_many"] mr:=by
 refine F.ok AJ (fun vs H Q E h=>?_) (fun eQ A outer s H vs Q E hr h=>?_)
 .obtain⟨p,m,rfl,_⟩:=h;rfl
 .obtain⟨p,m,rfl,hm,hp,q⟩:=h;refine'⟨_,(ag (aH (i:=2) AJ.nd rfl bo (cJ (yP rfl) (by rfl) B.lst pV (aa (cJ v7 (by rfl) B.range PyProof.Rows.boot_range (aa (pv 1) ae)) ae)))
   (ap (aX ?c1))),?_⟩
  case c1=>
   refine' bJ (g:=(bp 0)) (te:=(SN K "list" Dn (aK 1) (br (oA eT [] E0 (br (aK 2) (br (Ji (fun xs H Q=>∃p ys,xs=[V.ref p]/\(aQ K H p ys\/bD K H p ys)/\Q (.int ys.length) H) (br (aK 1) eY)) eY))) eY))) (NB:=["_law_k","_law_left","_law_pot_here"]) (src:=[none,some 2,some 0]) (bf (by kernel_rfl)) rfl (aY rfl B.range (aa (pv 1) ae)) ?g ?t ?e;case g=>exact fun cl C s₃ H₃ fp=>(aq (i:=0) lx rfl aM bo)
   case t=>exact fun cl C s₃ H₃ fp=>ce
   case e=>exact fun cl C s₃ H₃ fp=>(fO fw xD xC qx (pv 1) (aa (aL D hr aR (aa (pv 2) (aa (aE aD (by rfl) B.len cu (aa (pv 1) ae)) ae))) ae))
  refine⟨_,rfl,m,rfl,fun R hR=>⟨R,m,rfl,ab,by lia,fun L hL=>?_⟩⟩;have s0:aG H (upd (upd H R (.FY 0 m)) L (.lst (NV (List.range m)))):=(ai hR).trans (ai hL);have WR:H L=none:=(ai hR).free hL;refine⟨_,rfl,m,rfl,by lia,by lia,fun D' hD=>?_⟩;have UB:H D'=none:=s0.free hD;have WS:L≠p:=hp.ne WR;have Hx:D'≠p:=hp.ne UB;have UC:L≠D':=ak ab hD;refine dD (n:=m) (lo:=0) (fun i ys σ H2=>(∃k,σ=[k,some (.ref L),some (.ref p)])/\au p H H2/\bu H2 p/\∃ls xs:List Nat,H2 L=some (.lst (NV ls))/\H2 D'=some (.lst ys)/\ys=NV xs/\(xs++ls).Perm (List.range m)/\xs.length=i)
   ⟨⟨_,rfl⟩,au.of (s0.trans (ai hD)),(hp.same s0).same (ai hD),List.range m,[],by rw[aj UC,ab],ab,rfl,kW _,rfl⟩ ?_ ?_
  .rintro i ys σ H2 Kt Kf hi ⟨⟨k',rfl⟩,sm,uL,ls,xs,M9,fu,rfl,pm,xl⟩ kt kf;have ll:ls.length=m-i:=by have:=pm.length_eq;rw[cF,bR] at this;lia
   refine⟨_,rfl,.inl ⟨rfl,_,aQ.of M9⟩,_,rfl,_,rfl,L,_,rfl,.inl (aQ.of M9),p,_,rfl,by rw[aN];lia,by rw[aN];lia,uL,fun d H3 hd s3 mv=>?_⟩;rw[aN] at hd;have hv:ls[d]?=some ls[d]:=bO hd;refine⟨L,_,(d:Int),d,.int (ls[d]:Nat),rfl,rfl,s3 _ _ M9 WS,by lia,by lia,(lT (de (by rw[aN];exact hd))).1,by unfold NV;rw[bZ,hv];rfl,?_⟩;refine kt _ _ _ (by rw[aj UC.symm];exact s3 _ _ fu Hx) (by rw[aN,xl];exact cA (show i<33 by lia) (by decide)) ⟨⟨_,rfl⟩,fun b o e n=>?_,?_,ls.eraseIdx d,xs++[ls[d]],by rw[aj UC,ab,jY],ab,by rw[i6],EE pm hv,by rw[cF,xl];rfl⟩
   .rw[aj (ak e UB),aj (ak e WR)];exact s3 _ _ (sm _ _ e n) n
   .exact(mv.put WS.symm).put Hx.symm
  .rintro ys σ H2 ⟨_,sm,uL,ls,xs,M9,fu,rfl,pm,xl⟩;have ll:ls=[]:=by
    have:=pm.length_eq;rw[cF,bR,xl] at this;exact List.length_eq_zero_iff.mp (by lia)
   subst ll;rw[tV] at pm;exact q D' xs H2 sm uL UB fu pm
end
abbrev EG:Stmt:=i5 30
abbrev EH:Stmt:=i5 31
theorem wP:(["_law_one","_law_many"]:List Str).Nodup:=by decide +kernel
theorem jZ{α:Type}{x:α}:∀ {k:Nat},(List.replicate k [x]).flatten=List.replicate k x
 |0=>rfl
 |k+1=>by rw[lH,qc,jZ,lH];rfl
theorem kK{A B:Prop}{b:Bool}(hb:b=true)(h:A):if b=true then A else B:=by rw[am hb];exact h
theorem kL{A B:Prop}{b:Bool}(hb:b=false)(h:B):if b=true then A else B:=by rw[aA (by rw[hb];decide)];exact h
def mw(H:Hp)(D:Addr)(ts:Ts)(H2:Hp):Prop:=aG H H2/\∃zs:Zs,H2 D=some (.lst (zr zs))/\PO H2 zs/\zp zs=ts
theorem mx{lo:Int}{n:Nat}{D:Addr}{g:TG}{tt:TT}{te:TE}{dU:Hp->Prop}{σB:St}{H0:Hp}(c:Nat->Bool)(bq:St->Prop)(hD:H0 D=none)(hn:n<=1000)(h0:bq σB)(hs:∀x σ H (Kt:V->St->Hp->Prop) (Kf:St->Hp->Prop),x<n->bq σ->aG H0 H->(∀σ2 H2,bq σ2->aG H H2->c x=true->Kt (.int (lo+(x:Nat))) σ2 H2)->(∀σ2 H2,bq σ2->aG H H2->c x=false->Kf σ2 H2)->
   g (.int (lo+(x:Nat))) σ H fun σ2 H2=>tt σ2 H2 fun b H3=>if b=true then te σ2 H3 fun v H4=>Kt v σ2 H4 else Kf σ2 H3)(hd:∀H,aG H0 H->H D=some (.lst (((List.range n).filter c).map fun (x:Nat)=>V.int (lo+(x:Int))))->dU H):fP (Cp lo n) g tt te D dU σB (upd H0 D (.lst [])):=by
 refine dD (fun i ys σ H=>bq σ/\aG H0 H/\H D=some (.lst ys)/\ys=((List.range i).filter c).map fun (x:Nat)=>V.int (lo+(x:Int))) ⟨h0,ai hD,ab,rfl⟩ ?_ ?_
 .rintro i ys σ H Kt Kf hi ⟨sh,sm,dE,rfl⟩ kt kf;refine hs i σ H Kt Kf hi sh sm (fun σ2 H2 lr s2 e=>?_) (fun σ2 H2 lr s2 e=>?_)
  .refine kt _ _ _ (s2 _ _ dE) ?_ ⟨lr,bt (sm.trans s2) hD,ab,?_⟩
   .rw[aO];refine eA (dF _ _) ?_;rw[bR];exact cA (show i<1000 by lia) (by decide)
   .rw[je,eH,cq];simp[cQ,e]
  .refine kf _ _ ⟨lr,sm.trans s2,s2 _ _ dE,?_⟩;rw[je,eH];simp[cQ,e]
 .rintro ys σ H ⟨_,sm,dE,rfl⟩;exact hd H sm dE
theorem n9:∀ {xs:List Nat} {j x:Nat},(NV xs).set j (.int (x:Int))=NV (xs.set j x)
 |[],_,_=>rfl
 |y::ys,0,x=>rfl
 |y::ys,j+1,x=>congrArg (V.int (y:Int)::·) (n9 (xs:=ys) (j:=j) (x:=x))
theorem eN{xs:List Nat}{j:Nat}(h:j<xs.length):(NV xs)[j]?=some (.int ((xs.getD j 0:Nat):Int)):=by
 unfold NV;rw[bZ,bb,bO h];rfl
def fv(n:Nat)(ps:Ts):List Nat:=(List.range n).map fun (h:Nat)=>gu (df ps) (ci h)
theorem iK{n:Nat}{ps:Ts}:(fv n ps).length=n:=by unfold fv;rw[aO,bR]
theorem qX{n:Nat}{ps:Ts}{h:Nat}(hh:h<n):(fv n ps).getD h 0=gu (df ps) (ci h):=by
 unfold fv;rw[bb,bZ,gN hh];rfl
theorem EI{n:Nat}{ps:Ts}{a b:Nat}(ha:a<n)(hb:b<n)(oH:a≠b):((fv n ps).set a (gu (df ps) (ci a)+1)).set b (gu (df ps) (ci b)+1)=fv n (ps++[(ci a,ci b)]):=by
 have ne:∀x y:Nat,ci x=ci y->x=y:=fun x y e=>dI e;refine kR fun i=>?_;by_cases hi:i<n
 .have g:∀qs:Ts,(fv n qs)[i]?=some (gu (df qs) (ci i)):=fun qs=>by unfold fv;rw[bZ,gN hi];rfl
  rw[g,Hq,mP,mP,g,gg,iK];by_cases c1:b=i
  .subst c1;rw[am rfl,am hb,aA (fun z=>oH (ne _ _ z)),am rfl,t7]
  .rw[aA c1,aA (fun z=>c1 (ne _ _ z))];by_cases c2:a=i
   .subst c2;rw[am rfl,am ha,am rfl]
   .rw[aA c2,aA (fun z=>c2 (ne _ _ z))];rfl
 .rw[dG (by rw[gg,gg,iK];lia),dG (by rw[iK];lia)]
theorem EJ{n:Nat}:List.replicate n (V.int 0)=NV (fv n []):=by
 refine kR fun i=>?_;unfold NV fv;rw[cy,pS,bZ];by_cases hi:i<n
 .rw[am hi,gN hi];rfl
 .rw[aA hi,dG (by rw[bR];lia)];rfl
section
variable {P:Program} {w:World} {K:PySem.W.Frag} {mg:Str->Option Value} {base:Heap}
theorem u5:aS ["_law_pairs","_law_ties","_law_one","_law_other"] ["_law_pairs"] (az EG):=dB (by decide +kernel)
def zA:Sp:=fun vs H Q _=>∃ (l:Addr) (zs:Zs),vs=[.ref l]/\H l=some (.lst (zr zs))/\PO H zs/\zs.length<=1000/\∀ (r:Addr) (vE:Zs) (H':Hp),aG H H'->H r=none->H' r=some (.lst (zr vE))->PO H' vE->zp vE=df (zp zs)->Q (.ref r) H'
theorem Hy{f:Addr}{fd:FuncData}(F:hW K "_law_both" "_law_both" EG f fd):bY P w K mg base bE 1 f fd ["_law_pairs"] zA:=by
 refine F.ok u5 (fun vs H Q E h=>?_) (fun eQ A outer s H vs Q E hr h=>?_)
 .obtain⟨l,zs,rfl,_⟩:=h;rfl
 .obtain⟨l,zs,rfl,hl,po,hz,q⟩:=h;refine⟨_,(ag (aH (i:=1) u5.nd rfl aM (b8 ae))
   (ag (cn cZ rfl (bi (pv 0)) (eG (n:=2) rfl (aW (aq (i:=2) u5.nd rfl aM) (aW (aq (i:=3) u5.nd rfl aM) cS)))
    (ap (cB (fO fw s_ sY kg (pv 1) (aa (b8 (aa (bP (aa (pv 2) (aa (pv 3) ae))) (aa (bP (aa (pv 3) (aa (pv 2) ae))) ae))) ae)))))
   (ap (aX (pv 1))))),?_⟩
  refine⟨by show 0<=sizeLine;decide,fun D hD=>?_⟩;have s0:=ai (o:=.lst []) hD;refine⟨_,rfl,l,rfl,⟨_,aQ.of (s0 _ _ hl)⟩,eI (K:=K) (xs:=zr zs) (fun i σ H2=>(∃x y,σ=[some (.ref l),some (.ref D),x,y])/\mw H D (df ((zp zs).take i)) H2) ⟨⟨_,_,rfl⟩,s0,[],ab,PO.nil,rfl⟩ (fun i σ H2 _ z=>aQ.of (z.2.1 _ _ hl)) ?_ ?_⟩
  .rintro i x σ H2 hx ⟨⟨x',y',rfl⟩,sm,n6,fu,wQ,ez⟩;obtain⟨z,OA,rfl⟩:=nZ hx;have hi:i<zs.length:=(cN.mp OA).1;have ZQ:=sm _ _ (po z (cm OA));obtain⟨za,a,b⟩:=z;refine⟨za,_,rfl,bD.of ZQ,rfl,_,_,rfl,_,_,rfl,rfl,?_⟩;refine⟨_,rfl,.inl ⟨rfl,_,aQ.of fu⟩,_,rfl,_,rfl,by show 2<=sizeLine;decide,fun t1 h1=>⟨_,rfl,_,rfl,by show 2<=sizeLine;decide,fun t2 h2=>⟨by show 2<=sizeLine;decide,fun L hL=>?_⟩⟩⟩;have u1:=ai (o:=rG (a,b)) h1;have u2:=ai (o:=rG (b,a)) h2;have u3:=ai (o:=.lst [.ref t1,.ref t2]) hL;have g1:=u3 _ _ (u2 _ _ (ab (H:=H2) (a:=t1) (o:=rG (a,b))));have g2:=u3 _ _ (ab (H:=upd H2 t1 (rG (a,b))) (a:=t2) (o:=rG (b,a)));have s3:=(u1.trans u2).trans u3;have KA:n6.length=2*i:=by
    have:=congrArg List.length ez;rw[bv,ik,jx,bv] at this;lia
   have gD:=s3 _ _ fu;refine⟨D,L,_,_,rfl,rfl,gD,ab,?_,⟨_,_,rfl⟩,bt (sm.trans s3) hD,n6++[(t1,(a,b)),(t2,(b,a))],?_,?_,?_⟩
   .rw[cx,KA];exact bw (show 2*i+2<=2002 by lia) (by decide)
   .rw[ab,eh];rfl
   .refine PO.putL (xs:=zr n6) ((wQ.same s3).append fun z hz=>?_) gD;rcases bX.mp hz with rfl|hz
    .exact g1
    .rw[cE.mp hz];exact g2
   .rw[et,ez];have tk:(zp zs).take (i+1)=(zp zs).take i++[(a,b)]:=by
     rw[eC];unfold zp;rw[bZ,OA];rfl
    rw[tk,i4];rfl
  .rintro σ H2 ⟨⟨x',y',rfl⟩,sm,n6,fu,wQ,ez⟩;rw[cx,<-bv,fA] at ez;exact⟨_,rfl,q D n6 H2 sm hD fu wQ ez⟩
theorem n_:aS ["_law_pot_here","_law_n","_law_pairs","_law_many","_law_house","_law_some","_law_one"] ["_law_pot_here","_law_n"] (az EH):=dB (by decide +kernel)
def lz:Sp:=fun vs H Q _=>∃ (p:Addr) (n:Nat),vs=[.ref p,.int n]/\2<=n/\n<=32/\bu H p/\∀ (r:Addr) (zs:Zs) (H':Hp),au p H H'->bu H' p->H r=none->H' r=some (.lst (zr zs))->PO H' zs->cg n (df (zp zs))->(∀u∈zp zs,u.1<u.2)->Q (.ref r) H'
theorem Hz{f:Addr}{fd:FuncData}(F:hW K "_law_tree" "_law_tree" EH f fd)(B:Bl mg)(D:cX P w K mg base bE 1 "_law_take" ["_law_pot_here","_law_many"] eT):bY P w K mg base bE 2 f fd ["_law_pot_here","_law_n"] lz:=by
 refine F.ok n_ (fun vs H Q E h=>?_) (fun eQ A outer s H vs Q E hr h=>?_)
 .obtain⟨p,n,rfl,_⟩:=h;rfl
 .obtain⟨p,n,rfl,n1,n2,hp,q⟩:=h;refine'⟨_,(ag (aH (i:=2) n_.nd rfl aM (b8 ae))
   (ag (aH (i:=3) n_.nd rfl bo (bg uw (b8 (aa av ae)) (pv 1)))
   (ag (cn cZ rfl (nq rfl B.range (aa av (aa (pv 1) ae))) (aq (i:=4) n_.nd rfl aM)
    (ag (bL (i:=5) (g:=(bp 0)) (tt:=(eK (dW (rn fun i j=>.bl (decide (i<j))) (dW (jo K) (aK 1) (aK 0)) (tC (.int 8))))) (te:=(aK 0)) (NB:=["_law_one","_law_many"]) (src:=[none,some 3]) (bf (by kernel_rfl)) rfl (aY rfl B.range (aa (pv 4) ae)) ?g1 ?t1 ?e1 n_.nd rfl rfl rfl)
    (ag (aH (i:=6) n_.nd rfl aM (aJ aF (pv 5) (aL D hr aR (aa (pv 0) (aa (aE aD (by rfl) B.len cu (aa (pv 5) ae)) ae))) (fun _ _=>rfl)))
    (ag (cB (fO fw lG lF dO (pv 2) (aa (bP (aa (pv 6) (aa (pv 4) ae))) ae)))
    (ag (cW (bg di (aJ aF (pv 3) (pv 6) (fun _ _=>rfl)) av) (fX (pv 3) (pv 6) dt))
    (ap (cW (bg di (aJ aF (pv 3) (pv 4) (fun _ _=>rfl)) av) (fX (pv 3) (pv 4) dt))))))))
   (ap (aX (pv 2)))))),?_⟩
  case g1=>exact fun cl C s₃ H₃ fp=>(aq (i:=0) wP rfl aM bo)
  case t1=>exact fun cl C s₃ H₃ fp=>cj (aI jh (aJ aF (pv 1) (pv 0) (fun _ _=>rfl)) av (aP _))
  case e1=>exact fun cl C s₃ H₃ fp=>(pv 0)
  refine⟨by show 0<=sizeLine;decide,fun Pr JG=>?_⟩;have sP:=ai (o:=.lst []) JG;refine⟨by show 1<=sizeLine;decide,fun L1 uM=>⟨_,rfl,L1,_,_,rfl,rfl,ab,by lia,by lia,by rw[iE,kC];exact bw (show 1*n<=32 by lia) (by decide),fun M hM=>?_⟩⟩;rw[iE,jZ,EJ];have s1:=sP.trans (ai (o:=.lst [.int 0]) uM);have s2:=s1.trans (ai (o:=.lst (NV (fv n []))) hM);have gP:(upd (upd (upd H Pr (.lst [])) L1 (.lst [.int 0])) M (.lst (NV (fv n [])))) Pr=some (.lst (zr [])):=ai hM _ _ (ai uM _ _ ab);have gM:(upd (upd (upd H Pr (.lst [])) L1 (.lst [.int 0])) M (.lst (NV (fv n [])))) M=some (.lst (NV (fv n []))):=ab;have WT:Pr≠M:=ak (ai uM _ _ ab) hM;have WU:H M=none:=s1.free hM;generalize upd (upd (upd H Pr _) L1 _) M _=H0 at *;refine⟨_,rfl,1,(n:Int),rfl,⟨by decide,by decide,by lia,by lia⟩,?_⟩;rw[show ((n:Int)-1).toNat=n-1 by lia];refine cI (lo:=1) (n:=n-1) (fun i σ Hc=>∃zs:Zs,(∃a b c,σ=[some (.ref p),some (.int n),some (.ref Pr),some (.ref M),a,b,c])/\au p H Hc/\bu Hc p/\Hc Pr=some (.lst (zr zs))/\PO Hc zs/\Hc M=some (.lst (NV (fv n (zp zs))))/\qO n (List.range n) (i+1) (df (zp zs))/\∀u∈zp zs,u.1<u.2)
   ⟨[],⟨none,none,none,rfl⟩,au.of s2,hp.same s2,gP,PO.nil,gM,qO.start (by rw[bR];lia),fun u hu=>nomatch hu⟩ ?_ ?_
  .rintro i σ Hc hi ⟨zs,⟨a,b,c,rfl⟩,sc,jj,Ly,po,Lz,Tr,wz⟩;have e1:(1:Int)+(i:Int)=((i+1:Nat):Int):=by lia
   rw[e1];have RL:zs.length=i:=by have:=Tr.len;rw[ik,bv] at this;lia
   refine⟨_,rfl,((i+1:Nat):Int),rfl,by lia,by lia,fun D1 mH=>?_⟩;rw[show (((i+1:Nat):Int)).toNat=i+1 from rfl];refine mx (lo:=0) (n:=i+1) (fun x=>decide (gu (df (zp zs)) (ci x)<8)) (fun σ=>∃a,σ=[a,some (.ref M)]) mH (by lia) ⟨_,rfl⟩ ?_ ?_
   .rintro x σ H4 Kt Kf hx ⟨a',rfl⟩ o9 kt kf;rw[dz] at kt |-;have A6:x<(fv n (zp zs)).length:=by rw[iK];lia
    refine⟨_,rfl,_,rfl,M,_,_,_,rfl,rfl,aQ.of (o9 _ _ Lz),ao (eN A6),_,_,rfl,rfl,_,rfl,?_⟩;have ed:=qX (ps:=zp zs) (show x<n by lia);refine d9 (fun e=>?_) (fun e=>?_)
    .exact⟨_,rfl,kt _ _ ⟨_,rfl⟩ (aG.refl _) (decide_eq_true (by have:=cM e;lia))⟩
    .exact kf _ _ ⟨_,rfl⟩ (aG.refl _) (cY (fun z=>e (decide_eq_true (by lia))))
   .intro H4 o9 rJ;have e0:((((List.range (i+1)).filter fun x=>decide (gu (df (zp zs)) (ci x)<8)).map fun (x:Nat)=>V.int (0+(x:Int))))=NV ((List.range (i+1)).filter fun x=>decide (gu (df (zp zs)) (ci x)<8)):=h_ fun x _=>by rw[dz]
    rw[e0] at rJ;obtain⟨h0,WV,ZR⟩:=Tr.free kE (by rw[bR];lia);have tk:(List.range n).take (i+1)=List.range (i+1):=by rw[List.take_range,ya (by lia)]
    rw[tk] at WV;have ne:0<((List.range (i+1)).filter fun x=>decide (gu (df (zp zs)) (ci x)<8)).length:=tf (bA.mpr ⟨WV,decide_eq_true ZR⟩);have le:((List.range (i+1)).filter fun x=>decide (gu (df (zp zs)) (ci x)<8)).length<=i+1:=bw (dF _ _) (by rw[bR];exact aU _);generalize EK:(List.range (i+1)).filter (fun x=>decide (gu (df (zp zs)) (ci x)<8))=fs at *;have oa:=jj.same o9;refine⟨_,rfl,_,rfl,_,rfl,D1,_,rfl,.inl (aQ.of rJ),p,_,rfl,by rw[aN];exact ne,by rw[aN];lia,oa,fun d H5 hd s5 xh=>?_⟩;rw[aN] at hd;have ZS:D1≠p:=jj.ne mH;have hv:fs[d]?=some fs[d]:=bO hd;refine⟨D1,_,_,_,rfl,rfl,aQ.of (s5 _ _ rJ ZS),ao (eN hd),?_⟩;have RM:fs.getD d 0∈fs:=by rw[bb,hv];exact dR _
    generalize fs.getD d 0=sv at *;rw[<-EK] at RM;obtain⟨Dv,qt⟩:=bA.mp RM;have hsv:sv<i+1:=bH.mp Dv;have Ni:gu (df (zp zs)) (ci sv)<8:=cM qt;have LA:Pr≠p:=hp.ne JG;have FV:M≠p:=hp.ne WU;have Po:=s5 _ _ (o9 _ _ Ly) LA;have UD:=s5 _ _ (o9 _ _ Lz) FV;have AK:PO H5 zs:=(po.same o9).mq s5 oa;refine⟨_,rfl,.inl ⟨rfl,_,aQ.of Po⟩,_,rfl,_,rfl,by show 2<=sizeLine;decide,fun t ht=>?_⟩;have st:=ai (o:=rG (ci sv,ci (i+1))) ht;refine⟨Pr,_,_,rfl,rfl,st _ _ Po,by rw[cx,RL];exact cA (show i<33 by lia) (by decide),?_⟩;have Pp:(upd (upd H5 t (rG (ci sv,ci (i+1)))) Pr (.lst (zr zs++[.ref t]))) M=some (.lst (NV (fv n (zp zs)))):=by rw[aj WT.symm];exact st _ _ UD
    have Pq:sv<(fv n (zp zs)).length:=by rw[iK];lia
    refine⟨_,rfl,_,rfl,M,_,_,_,rfl,rfl,aQ.of Pp,ao (eN Pq),_,_,rfl,rfl,_,rfl,_,rfl,M,_,(sv:Int),sv,rfl,rfl,Pp,de (by rw[aN];exact Pq),?_⟩;have e2:(NV (fv n (zp zs))).set sv (V.int ((((fv n (zp zs)).getD sv 0:Nat):Int)+1))=NV ((fv n (zp zs)).set sv (gu (df (zp zs)) (ci sv)+1)):=by
     rw[qX (by lia)];exact n9 (x:=gu (df (zp zs)) (ci sv)+1)
    have WW:i+1<((fv n (zp zs)).set sv (gu (df (zp zs)) (ci sv)+1)).length:=by rw[gg,iK];lia
    have ek:((fv n (zp zs)).set sv (gu (df (zp zs)) (ci sv)+1)).getD (i+1) 0=gu (df (zp zs)) (ci (i+1)):=by
     rw[bb,p_ (by lia),<-bb,qX (by lia)]
    have RN:(upd (upd H5 t (rG (ci sv,ci (i+1)))) Pr (.lst (zr zs++[.ref t]))) Pr=some (.lst (zr zs++[.ref t])):=ab;have o6:∀b,b≠Pr->(upd (upd H5 t (rG (ci sv,ci (i+1)))) Pr (.lst (zr zs++[.ref t]))) b=(upd H5 t (rG (ci sv,ci (i+1)))) b:=fun b n=>aj n;have Cw:PO (upd (upd H5 t (rG (ci sv,ci (i+1)))) Pr (.lst (zr zs++[.ref t]))) (zs++[(t,(ci sv,ci (i+1)))]):=PO.putL (xs:=zr zs) ((AK.same st).append (PO.one ab)) (st _ _ Po);generalize upd (upd H5 t (rG (ci sv,ci (i+1)))) Pr _=H6 at *;generalize HB:upd H6 M _=H7;have WX:H7 M=some (.lst (NV ((fv n (zp zs)).set sv (gu (df (zp zs)) (ci sv)+1)))):=by rw[<-HB,ab];exact congrArg (fun l=>some (HO.lst l)) e2
    have o7:∀b,b≠M->H7 b=H6 b:=fun b n=>by rw[<-HB,aj n]
    refine⟨_,rfl,_,rfl,M,_,_,_,rfl,rfl,aQ.of WX,ao (eN WW),_,_,rfl,rfl,_,rfl,_,rfl,M,_,((i+1:Nat):Int),i+1,rfl,rfl,WX,de (by rw[aN];exact WW),?_⟩;generalize WY:upd H7 M _=H8;have e3:(NV ((fv n (zp zs)).set sv (gu (df (zp zs)) (ci sv)+1))).set (i+1) (V.int (((((fv n (zp zs)).set sv (gu (df (zp zs)) (ci sv)+1)).getD (i+1) 0:Nat):Int)+1))=NV (fv n (zp zs++[(ci sv,ci (i+1))])):=by
     rw[ek,<-EI (by lia) (by lia) (by lia)];exact n9 (x:=gu (df (zp zs)) (ci (i+1))+1)
    have ZT:H8 M=some (.lst (NV (fv n (zp zs++[(ci sv,ci (i+1))])))):=by rw[<-WY,ab];exact congrArg (fun l=>some (HO.lst l)) e3
    have o8:∀b,b≠M->H8 b=H6 b:=fun b n=>by rw[<-WY,aj n];exact o7 b n
    have ez:zp (zs++[(t,(ci sv,ci (i+1)))])=zp zs++[(ci sv,ci (i+1))]:=by rw[et];rfl
    refine⟨zs++[(t,(ci sv,ci (i+1)))],⟨_,_,_,rfl⟩,fun b o e n=>?_,?_,?_,fun z hz=>?_,by rw[ez];exact ZT,?_,fun u hu=>?_⟩
    .rw[o8 _ (ak e WU),o6 _ (ak e JG)];exact st _ _ (s5 _ _ (o9 _ _ (sc _ _ e n)) n)
    .obtain⟨x,y,e,r⟩:=xh.same st;exact⟨x,y,by rw[o8 _ FV.symm,o6 _ LA.symm];exact e,r⟩
    .rw[o8 _ WT,RN,eh];rfl
    .have g:=Cw z hz;rw[o8 _ (by rintro e;rw[e,Pp] at g;cases g)];exact g
    .rw[ez,i4];exact Tr.add kE (fun x hx=>bH.mp hx) (gN (by lia)) (by rw[tk];exact Dv) Ni
    .rw[ez] at hu;rcases bS.mp hu with z|z
     .exact wz u z
     .rw[cE.mp z];show ((sv:Nat):Int)<((i+1:Nat):Int);lia
  .rintro σ Hc ⟨zs,⟨a,b,c,rfl⟩,sc,jj,Ly,po,Lz,Tr,wz⟩;rw[show n-1+1=n by lia] at Tr;exact⟨_,rfl,q Pr zs Hc sc jj JG Ly po (Tr.lm n1 n2 (kW _)) wz⟩
end
end vG
namespace L2
open PySem PySem.Spec PyProof.Rows
def LB(K:PySem.W.Frag):List V->Hp->VK->Prop:=fun xs H Q=>∃ (l:Addr) (ns:List Int),xs=[.ref l]/\aQ K H l (ns.map V.int)/\ns.length<64/\∀ (D:Addr) (LC:List Int),H D=none->LC.Perm ns->LC.Pairwise (·<=·)->Q (.ref D) (upd H D (.lst (LC.map V.int)))
theorem zB{X:Cx}:eX X (.builtin "sorted") (LB X.K):=by
 intro af s σ H xs us Q I r h;obtain⟨l,ns,rfl,hl,Ov,q⟩:=h;obtain⟨u1,rfl,r1⟩:=r.one;obtain rfl:u1=Value.ref l:=r1;obtain⟨its,rv,pl,_⟩:=I.list hl;have ia:=yC rv;refine sorted_ints pl.isList ia (by rw[ia.length];exact Ov) fun out LC a1 a2 a3=>?_;obtain⟨⟨e,ho⟩,keep⟩:=wu (h:=s.heap) (vs:=its) (out:=out);have wq:s.heap.get? (s.heap.objs.size+1)=none:=mL (Nat.le_succ _);have eo:out=out.toList.toArray:=by simp
 refine⟨.ref (s.heap.objs.size+1),_,I.vW (t':=s.toks) (o:=.lst (LC.map V.int)) keep wq ⟨?_,out.toList,e,nB a1,by rw[ho]⟩,rfl,q _ LC (I.cL.qA wq) a2 a3⟩;rw[aO,a2.length_eq];exact bw (jB Ov) (by decide)
theorem EM{K:PySem.W.Frag}{a D:Addr}{xs:List V}{g:TG}{tt:TT}{te:TE}{dU:Hp->Prop}{σB:St}{H0:Hp}(Pv:Nat->List V->St->Hp->Prop)(h0:Pv 0 [] σB H0)(hl:∀i ys σ H,i<=xs.length->Pv i ys σ H->bD K H a xs)(hs:∀i x ys σ H (Kt:V->St->Hp->Prop) (Kf:St->Hp->Prop),xs[i]?=some x->Pv i ys σ H->
   (∀v σ2 H4,H4 D=some (.lst ys)->ys.length<sizeLine->Pv (i+1) (ys++[v]) σ2 (upd H4 D (.lst (ys++[v])))->Kt v σ2 H4)->(∀σ2 H3,Pv (i+1) ys σ2 H3->Kf σ2 H3)->
   g x σ H fun σ2 H2=>tt σ2 H2 fun b H3=>if b=true then te σ2 H3 fun v H4=>Kt v σ2 H4 else Kf σ2 H3)(hd:∀ys σ H,Pv xs.length ys σ H->dU H):fP (MX K a) g tt te D dU σB H0:=by
 refine⟨fun i m σ H=>m=xs.length-i/\i<=xs.length/\∃ys,Pv i ys σ H,⟨xs.length,by simp,dh _,[],h0⟩,?_⟩;rintro i m σ H ⟨rfl,hi,ys,p⟩;have q:=hl i ys σ H hi p;by_cases e_:i<xs.length
 .refine .inr ⟨⟨xs,xs[i],q,by simp[e_]⟩,?_⟩;rintro x H' ⟨rfl,y⟩;exact hs i x ys σ _ (fun v σ2 H4=>∃ys,H4 D=some (.lst ys)/\ys.length<sizeLine/\∃m',m'<xs.length-i/\m'=xs.length-(i+1)/\i+1<=xs.length/\∃v_,Pv (i+1) v_ σ2 (upd H4 D (.lst (ys++[v]))))
   (fun σ2 H3=>∃m',m'<xs.length-i/\m'=xs.length-(i+1)/\i+1<=xs.length/\∃v_,Pv (i+1) v_ σ2 H3) (y xs q) p
   (fun v σ2 H4 z1 z2 z3=>⟨ys,z1,z2,_,by lia,rfl,e_,_,z3⟩) (fun σ2 H3 z=>⟨_,by lia,rfl,e_,_,z⟩)
 .have e:i=xs.length:=by lia
  subst e;exact .inl ⟨⟨xs,q,aU _⟩,hd ys σ H p⟩
end L2
namespace vG
open PySem L2 jV
abbrev EN:Stmt:=i5 32
theorem qY:(["_law_house","_law_pairs"]:List Str).Nodup:=by decide +kernel
theorem rK:(["_law_pair","_law_house"]:List Str).Nodup:=by decide +kernel
theorem HC{K:PySem.W.Frag}{a D:Addr}{zs:Zs}{g:TG}{tt:TT}{te:TE}{dU:Hp->Prop}{σB:St}{H0:Hp}(c:Int×Int->Bool)(bq:St->Prop)(ha:H0 a=some (.lst (zr zs)))(hD:H0 D=none)(hn:zs.length<=1000)(h0:bq σB)(hs:∀z σ H (Kt:V->St->Hp->Prop) (Kf:St->Hp->Prop),z∈zs->bq σ->aG H0 H->(∀σ2 H2,bq σ2->aG H H2->c z.2=true->Kt (.ref z.1) σ2 H2)->(∀σ2 H2,bq σ2->aG H H2->c z.2=false->Kf σ2 H2)->
   g (.ref z.1) σ H fun σ2 H2=>tt σ2 H2 fun b H3=>if b=true then te σ2 H3 fun v H4=>Kt v σ2 H4 else Kf σ2 H3)(hd:∀H,aG H0 H->H D=some (.lst (zr (zs.filter fun z=>c z.2)))->dU H):fP (A7 K a) g tt te D dU σB (upd H0 D (.lst [])):=by
 refine cK (xs:=zr zs) (fun i ys σ H=>bq σ/\aG H0 H/\H D=some (.lst ys)/\ys=zr ((zs.take i).filter fun z=>c z.2)) ⟨h0,ai hD,ab,rfl⟩ (fun i ys σ H _ z=>aQ.of (z.2.1 _ _ ha)) ?_ ?_
 .rintro i x ys σ H Kt Kf hx ⟨sh,sm,dE,rfl⟩ kt kf;obtain⟨z,hz,rfl⟩:=nZ hx;have hi:i<zs.length:=(cN.mp hz).1;have tk:zs.take (i+1)=zs.take i++[z]:=by rw[eC,hz];rfl
  refine hs z σ H Kt Kf (cm hz) sh sm (fun σ2 H2 lr s2 e=>?_) (fun σ2 H2 lr s2 e=>?_)
  .refine kt _ _ _ (s2 _ _ dE) ?_ ⟨lr,bt (sm.trans s2) hD,ab,?_⟩
   .rw[cx];exact eA (dF _ _) (eA (tG _ _) (cA (show i<1000 by lia) (by decide)))
   .rw[tk,eH,eh];simp[cQ,e,zr]
  .refine kf _ _ ⟨lr,sm.trans s2,s2 _ _ dE,?_⟩;rw[tk,eH];simp[cQ,e]
 .rintro ys σ H ⟨_,sm,dE,rfl⟩;rw[cx,fA] at dE;exact hd H sm dE
theorem Ca{zs:Zs}{c:Int×Int->Bool}:zp (zs.filter fun z=>c z.2)=(zp zs).filter c:=by
 unfold zp;rw[m6];rfl
theorem rL{zs:Zs}{c:Int×Int->Bool}:(zr (zs.filter fun z=>c z.2)).length=((zp zs).filter c).length:=by rw[cx,<-bv,Ca]
theorem HD{x:Int}{u:Int×Int}:Bh (.int x) [.int u.1,.int u.2]=(decide (u.1=x)||decide (u.2=x)):=by
 unfold Bh;rw[ic];simp[iX]
theorem LG{a b:Int}{ns:List Int}(pm:ns.Perm [a,b])(so:ns.Pairwise (·<=·)):∃x y,ns=[x,y]/\x<=y/\(x=a\/x=b)/\(y=a\/y=b):=by
 have hl:=pm.length_eq
 match ns,hl with
 |[x,y],_=>
  have hx:x∈[a,b]:=pm.mem_iff.mp (by simp);have hy:y∈[a,b]:=pm.mem_iff.mp (by simp);refine⟨x,y,rfl,?_,by simpa using hx,by simpa using hy⟩;exact(qa.mp so).1 y (by simp)
section
variable {P:Program} {w:World} {K:PySem.W.Frag} {mg:Str->Option Value} {base:Heap}
theorem JI{H:Hp}{zs:Zs}(po:PO H zs):zs.length=(zp zs).length/\∀i,i<(zp zs).length->bD K H ((zs.map (·.1)).getD i 0) [.int ((zp zs).getD i (0,0)).1,.int ((zp zs).getD i (0,0)).2]:=by
 refine⟨bv.symm,fun i hi=>?_⟩;rw[bv] at hi;rw[wC hi,AC hi];exact bD.of (po _ (dR hi))
theorem og:aS ["_law_pot_here","_law_n","_law_pairs","_law_k","_law_one","_law_other","_law_full"] ["_law_pot_here","_law_n"] (az EN):=dB (by decide +kernel)
theorem HE{f:Addr}{fd:FuncData}(F:hW K "_law_mesh" "_law_mesh" EN f fd)(B:Bl mg)(D:cX P w K mg base bE 1 "_law_take" ["_law_pot_here","_law_many"] eT)(TR:cX P w K mg base bE 2 "_law_tree" ["_law_pot_here","_law_n"] lz):bY P w K mg base bE 3 f fd ["_law_pot_here","_law_n"] lz:=by
 refine F.ok og (fun vs H Q E h=>?_) (fun eQ A outer s H vs Q E hr h=>?_)
 .obtain⟨p,n,rfl,_⟩:=h;rfl
 .obtain⟨p,n,rfl,n1,n2,hp,q⟩:=h;have h1:dk 1 _:=hr.mono (by decide);refine'⟨_,(ag (aH (i:=2) og.nd rfl bo (aL TR hr aR (aa (pv 0) (aa (pv 1) ae))))
   (ag (cn cZ rfl (aY rfl B.range (aa (aL D h1 aR (aa (pv 0) (aa av ae))) ae)) (aq (i:=3) og.nd rfl aM)
    (ag (cW (aE zB (by rfl) B.sorted xr (aa (b8 (aa (aL D h1 aR (aa (pv 0) (aa (pv 1) ae))) (aa (aL D h1 aR (aa (pv 0) (aa (pv 1) ae))) ae))) ae)) (GY rfl (aW (aq (i:=4) og.nd rfl aM) (aW (aq (i:=5) og.nd rfl aM) cS))))
    (ag (aH (i:=6) og.nd rfl aM (ie vP (aE (sJ rfl) (by rfl) B.max pY (aa ?c1 ae)) av (aP _)))
    (ap (cf (PW.pt (jH (aI rV (pv 4) (pv 5) (aP _)) (jH (aI (sD hr.u) (bP (aa (pv 4) (aa (pv 5) ae))) (pv 2) rfl) (j9 (jI (fV (pv 6))))))) (ap (cB (fO fw lG lF dO (pv 2) (aa (bP (aa (pv 4) (aa (pv 5) ae))) ae)))) a_)))))
   (ap (aX (pv 2))))),?_⟩
  case c1=>
   refine' bJ (g:=(bp 0)) (te:=(Ji (fun xs H Q=>∃p ys,xs=[V.ref p]/\(aQ K H p ys\/bD K H p ys)/\Q (.int ys.length) H) (br (Dr [none,some 0] (Je K (aK 1)) (bp 0) (eK (dW (Kw K false) (aK 1) (aK 0))) (aK 0)) eY))) (NB:=["_law_house","_law_pairs"]) (src:=[none,some 2]) (bf (by kernel_rfl)) rfl (uk (bP (aa (pv 4) (aa (pv 5) ae)))) ?g ?t ?e;case g=>exact fun cl C s₃ H₃ fp=>(aq (i:=0) qY rfl bo aM)
   case t=>exact fun cl C s₃ H₃ fp=>ce
   case e=>
    intro cl C s₃ H₃ fp;refine'(aE aD (by rfl) B.len cu (aa ?c2 ae));case c2=>
     refine' bJ (g:=(bp 0)) (tt:=(eK (dW (Kw K false) (aK 1) (aK 0)))) (te:=(aK 0)) (NB:=["_law_pair","_law_house"]) (src:=[none,some 0]) (bf (by kernel_rfl)) rfl (bi (pv 1)) ?g ?t ?e;case g=>exact fun cl C s₃ H₃ fp=>(aq (i:=0) rK rfl aM bo)
     case t=>exact fun cl C s₃ H₃ fp=>cj (aI r9 (pv 1) (pv 0) rfl)
     case e=>exact fun cl C s₃ H₃ fp=>(pv 0)
  refine⟨_,rfl,_,rfl,p,n,rfl,n1,n2,hp,fun Pr zj H1 s1 vC JG ZU ZV F1 UE=>?_⟩;have LA:Pr≠p:=hp.ne JG;refine⟨_,rfl,p,10,rfl,by decide,by decide,vC,fun d H2 hd s2 uL=>⟨(d:Int),rfl,by lia,by lia,cI (n:=d) (lo:=0) (fun i σ Hc=>∃zs:Zs,(∃a b c e,σ=[some (.ref p),some (.int n),some (.ref Pr),a,b,c,e])/\au p H Hc/\bu Hc p/\Hc Pr=some (.lst (zr zs))/\PO Hc zs/\cg n (df (zp zs))/\∀u∈zp zs,u.1<u.2) ⟨zj,⟨_,_,_,_,rfl⟩,s1.trans s2,uL,s2 _ _ ZU LA,ZV.mq s2 vC,F1,UE⟩ ?_ ?_⟩⟩
  .rintro i σ Hc hi ⟨zs,⟨x3,x4,x5,x6,rfl⟩,sc,jj,Ly,po,Fi,wz⟩;refine⟨_,rfl,_,rfl,p,n,rfl,by lia,by lia,jj,fun d1 H3 h3 s3 mv=>⟨_,rfl,_,rfl,p,n,rfl,by lia,by lia,mv,fun d2 H4 h4 s4 oa=>⟨by show 2<=sizeLine;decide,fun L hL=>⟨L,[(d1:Int),(d2:Int)],rfl,aQ.of ab,by show 2<64;decide,fun S LC hS pm so=>?_⟩⟩⟩⟩;obtain⟨x,y,rfl,xy,hx,hy⟩:=LG pm so;obtain⟨a,b,rfl,rfl,ZW,Ps⟩:∃a b:Nat,x=(a:Int)/\y=(b:Int)/\a<n/\b<n:=⟨x.toNat,y.toNat,by lia,by lia,by lia,by lia⟩
   have sL:=ai (o:=.lst [.int (d1:Int),.int (d2:Int)]) hL;have sS:=ai (o:=.lst ([(a:Int),(b:Int)].map V.int)) hS;refine⟨S,_,_,rfl,aQ.of ab,_,_,rfl,_,_,rfl,rfl,?_⟩;have s5:au p H _:=((sc.trans s3).trans s4).trans (au.of (sL.trans sS));have xh:=oa.same (sL.trans sS);have Po:=sS _ _ (sL _ _ (s4 _ _ (s3 _ _ Ly LA) LA));have AK:=((po.mq s3 jj).mq s4 mv).same (sL.trans sS);generalize upd (upd H4 L _) S _=H5 at *;have RL:zs.length<=256:=by have:=Fi.len;rw[ik,bv] at this;lia
   refine⟨_,rfl,_,rfl,by show 2<=sizeLine;decide,fun T hT=>⟨T,rfl,⟨_,bD.of ab⟩,fun D1 mH=>?_⟩⟩;have sT:=ai (o:=.tup [.int (a:Int),.int (b:Int)]) hT;have gT:(upd H5 T (.tup [.int (a:Int),.int (b:Int)])) T=some (.tup [.int (a:Int),.int (b:Int)]):=ab;have RN:=sT _ _ Po;have Cw:=AK.same sT;have s6:au p H _:=s5.trans (au.of sT);have Jx:=xh.same sT;generalize upd H5 T _=H6 at *;refine EM (xs:=[.int (a:Int),.int (b:Int)]) (fun i ys σ H7=>(∃x,σ=[x,some (.ref Pr)])/\aG H6 H7/\H7 D1=some (.lst ys)/\ys=(([a,b].take i).map fun (h:Nat)=>((gu (df (zp zs)) (ci h):Nat):Int)).map V.int) ⟨⟨_,rfl⟩,ai mH,ab,rfl⟩ (fun i ys σ H7 _ z=>bD.of (z.2.1 _ _ gT)) ?_ ?_
   .rintro j v ys σ H7 Kt Kf hv ⟨⟨x',rfl⟩,AL,EO,rfl⟩ kt kf;obtain⟨h,hh,rfl⟩:∃h:Nat,[a,b][j]?=some h/\v=.int (h:Int):=by
     match j,hv with
     |0,hv=>exact⟨a,rfl,by simpa using hv.symm⟩
     |1,hv=>exact⟨b,rfl,by simpa using hv.symm⟩
    have hj:j<2:=(cN.mp hh).1;have Pu:=AL _ _ RN;refine⟨_,rfl,Pr,rfl,⟨_,aQ.of Pu⟩,fun D2 fu=>?_⟩;refine HC (fun u=>decide (u.1=ci h)||decide (u.2=ci h)) (fun σ=>∃a,σ=[a,some (.int (h:Int))]) Pu fu (by lia) ⟨_,rfl⟩ ?_ ?_
    .rintro z σ H8 Kt' Kf' hz ⟨a',rfl⟩ JJ ZX ZY;have ZZ:=JJ _ _ ((Cw.same AL) z hz);refine⟨_,rfl,_,rfl,z.1,_,rfl,.inr (bD.of ZZ),rfl,rfl,_,rfl,?_⟩;have e:=HD (x:=ci h) (u:=z.2);refine d9 (fun c=>?_) (fun c=>?_)
     .exact⟨_,rfl,ZX _ _ ⟨_,rfl⟩ (aG.refl _) (e ▸ c)⟩
     .exact ZY _ _ ⟨_,rfl⟩ (aG.refl _) (by rw[<-e];simpa using c)
    .intro H8 JJ Cy;have eL:(zr (zs.filter fun z=>decide (z.2.1=ci h)||decide (z.2.2=ci h))).length=((zp zs).filter fun u=>decide (u.1=ci h)||decide (u.2=ci h)).length:=rL (c:=fun u=>decide (u.1=ci h)||decide (u.2=ci h));have eD:=sM (ps:=zp zs) (h:=ci h) fun u hu=>by have:=wz u hu;lia
     refine⟨D2,_,rfl,.inl (aQ.of Cy),kt _ _ _ (JJ _ _ EO) ?_ ⟨⟨_,rfl⟩,bt (AL.trans JJ) mH,ab,?_⟩⟩
     .rw[aO,aO];exact eA (tG _ _) (cA (show j<3 by lia) (by decide))
     .rw[eC,hh,xN,cq,cq,eL,eD];rfl
   .rintro ys σ H7 ⟨_,AL,EO,rfl⟩;have HF:H7 D1=some (.lst ([((gu (df (zp zs)) (ci a):Nat):Int),((gu (df (zp zs)) (ci b):Nat):Int)].map V.int)):=EO;refine⟨D1,_,rfl,aQ.of HF,by simp,fun M hM iZ=>⟨_,_,rfl,rfl,?_⟩⟩;have s7:au p H H7:=s6.trans (au.of AL);have FW:=Jx.same AL;have Pu:=AL _ _ RN;have HG:=Cw.same AL;have da:=iZ _ (by simp:((gu (df (zp zs)) (ci a):Nat):Int)∈_);have db:=iZ ((gu (df (zp zs)) (ci b):Nat):Int) (by simp);refine⟨_,rfl,_,rfl,rfl,_,rfl,?_⟩;by_cases oH:a=b
    .refine kL (by subst oH;simp) (dQ ?_);exact⟨zs,⟨_,_,_,_,rfl⟩,s7,FW,Pu,HG,Fi,wz⟩
    refine kK (by simp;lia) ⟨_,rfl,_,rfl,by show 2<=sizeLine;decide,fun t ht=>?_⟩;have st:=ai (o:=rG ((a:Int),(b:Int))) ht;have Nj:=st _ _ Pu;have HI:=HG.same st;obtain⟨l1,l2⟩:=JI (K:=K) HI;refine⟨_,rfl,t,Pr,((a:Int),(b:Int)),zs.map (fun z:Addr×Int×Int=>z.1),zp zs,rfl,rfl,bD.of ab,by rw[<-mf];exact aQ.of Nj,by rw[aO];exact l1,l2,_,rfl,?_⟩;have s8:au p H _:=s7.trans (au.of st);have rM:=FW.same st;generalize upd H7 t _=H8 at *;by_cases re:((a:Int),(b:Int))∈zp zs
    .refine kL (by simp[re]) (dQ ?_);exact⟨zs,⟨_,_,_,_,rfl⟩,s8,rM,Nj,HI,Fi,wz⟩
    refine kK (by simp[re]) ⟨_,rfl,_,rfl,?_⟩;by_cases JK:(7:Int)<M
    .refine kL (by simp[JK]) ?_;exact⟨zs,⟨_,_,_,_,rfl⟩,s8,rM,Nj,HI,Fi,wz⟩
    .refine kK (by simp[JK]) ?_;refine⟨_,rfl,.inl ⟨rfl,_,aQ.of Nj⟩,_,rfl,_,rfl,by show 2<=sizeLine;decide,fun t2 UF=>?_⟩;have rm:=ai (o:=rG ((a:Int),(b:Int))) UF;refine⟨Pr,_,_,rfl,rfl,rm _ _ Nj,by rw[cx];exact eA RL (by decide),zs++[(t2,((a:Int),(b:Int)))],⟨_,_,_,_,rfl⟩,fun c o e m=>?_,?_,?_,?_,?_,?_⟩
     .rw[aj (ak e JG)];exact rm _ _ (s8 _ _ e m)
     .exact(rM.same rm).put LA.symm
     .rw[ab,eh];rfl
     .exact PO.putL (xs:=zr zs) ((HI.same rm).append (PO.one ab)) (rm _ _ Nj)
     .rw[et];refine Fi.pair ZW Ps oH re (fun z=>?_) (by lia) (by lia);have:=wz _ z;simp at this;lia
     .intro u hu;rw[et] at hu;rcases bS.mp hu with z|z
      .exact wz u z
      .rw[cE.mp z];show (a:Int)<(b:Int);lia
  .rintro σ Hc ⟨zs,⟨x3,x4,x5,x6,rfl⟩,sc,jj,Ly,po,Fi,wz⟩;exact⟨_,rfl,q Pr zs Hc sc jj JG Ly po Fi wz⟩
end
end vG
namespace jV
def Pw(m:Nat)(ns:List Nat)(i:Nat):List (Nat×Nat):=(List.range i).flatMap fun j=>vF m (pr (ns.take j)) (ns.getD j 0)
theorem f9{α:Type}{f:Nat->List α}{n:Nat}:(List.range (n+1)).flatMap f=(List.range n).flatMap f++f n:=by
 rw[je,List.flatMap_append];simp
theorem u6:∀ {ns:List Nat} {x:Nat},pr (ns++[x])=pr ns*x
 |[],x=>by show x*1=1*x;lia
 |n::ns,x=>by show n*pr (ns++[x])=n*pr ns*x;rw[u6,Nat.mul_assoc]
theorem EQ{m:Nat}:∀ {ns:List Nat} {st:Nat},bx m st ns=(List.range ns.length).flatMap fun j=>vF m (st*pr (ns.take j)) (ns.getD j 0)
 |[],st=>rfl
 |n::ns,st=>by
  show vF m st n++bx m (st*n) ns=_;rw[dH,mI,List.flatMap_cons,EQ (ns:=ns)];congr 1
  .show vF m st n=vF m (st*1) n;rw[uc]
  .rw[List.flatMap_map];congr 1;funext j;show _=vF m (st*(n*pr (ns.take j))) (ns.getD j 0);rw[Nat.mul_assoc]
theorem jQ{α:Type}{g:Nat->List α}{M:Nat}(hg:∀x,(g x).length<=M):∀ {m:Nat},((List.range m).flatMap g).length<=m*M
 |0=>dh _
 |m+1=>by rw[f9,cF,Nat.succ_mul];have:=hg m;have:=jQ hg (m:=m);lia
theorem AM{m st n:Nat}:(vF m st n).length<=m:=by unfold vF;rw[aO];exact bw (dF _ _) (by simp)
def wR(b at_ h:Nat):List (Nat×Nat):=(List.range (b-h / b ^ at_ % b-1)).map fun k=>(h,h+(k+1)*b ^ at_)
theorem qZ{b at_ h:Nat}(hb:b<=5):(wR b at_ h).length<=5:=by unfold wR;rw[aO,bR];lia
end jV
namespace vG
open PySem L2 jV
abbrev LH:Stmt:=i5 33
abbrev zC:Stmt:=i5 34
def ER(ns:List Nat):Prop:=1<=ns.length/\ns.length<=5/\(∀x∈ns,2<=x/\x<=8)/\pr ns<=32
theorem j3:(["_law_house","_law_stride","_law_side"]:List Str).Nodup:=by decide +kernel
theorem j4:(["_law_more","_law_house","_law_stride"]:List Str).Nodup:=by decide +kernel
theorem i7:∀ {ns:List Nat} {i:Nat},(∀x∈ns,1<=x)->pr (ns.take i)<=pr ns
 |[],i,_=>by rw[List.take_nil];exact aU _
 |n::ns,0,h=>by
  show 1<=n*pr ns;have:∀ {l:List Nat},(∀x∈l,1<=x)->1<=pr l:=fun {l}=>by
   induction l with
   |nil=>intro _;exact aU _
   |cons x l ih=>intro hl;exact qm (hl x bU) (ih fun y hy=>hl y (cU _ hy))
  exact this (l:=n::ns) h
 |n::ns,i+1,h=>by
  show n*pr (ns.take i)<=n*pr ns;exact tE n (i7 fun x hx=>h x (cU _ hx))
theorem sO{lo:Int}{n:Nat}{D:Addr}{g:TG}{tt:TT}{te:TE}{dU:Hp->Prop}{σB:St}{H0:Hp}(c:Nat->Bool)(F:Nat->Int×Int)(bq:St->Prop)(hD:H0 D=none)(hn:n<=1000)(h0:bq σB)(hs:∀i σ H (R:V->St->Hp->Prop) (Kf:St->Hp->Prop),i<n->bq σ->aG H0 H->(∀σ2 p,bq σ2->H p=none->c i=true->R (.ref p) σ2 (upd H p (rG (F i))))->(∀σ2,bq σ2->c i=false->Kf σ2 H)->g (.int (lo+i)) σ H fun σ2 H2=>tt σ2 H2 fun b H3=>if b=true then te σ2 H3 fun v H4=>R v σ2 H4 else Kf σ2 H3)(hd:∀zs H,aG H0 H->H D=some (.lst (zr zs))->PO H zs->zp zs=((List.range n).filter c).map F->dU H):fP (Cp lo n) g tt te D dU σB (upd H0 D (.lst [])):=by
 refine dD (fun i ys σ H=>bq σ/\aG H0 H/\H D=some (.lst ys)/\∃zs:Zs,ys=zr zs/\PO H zs/\zp zs=((List.range i).filter c).map F) ⟨h0,ai hD,ab,[],rfl,PO.nil,rfl⟩ ?_ ?_
 .rintro i ys σ H Kt Kf hi ⟨sh,sm,dE,zs,rfl,po,ep⟩ kt kf;have hl:zs.length<=i:=by
   rw[<-bv,ep,aO];exact bw (dF _ _) (by rw[bR];exact aU _)
  refine hs i σ H Kt Kf hi sh sm (fun σ2 p lr hp e=>?_) (fun σ2 lr e=>?_)
  .have nD:D≠p:=ak dE hp;refine kt _ _ _ (by rw[aj nD];exact dE) (by rw[cx];exact eA (show zs.length<=1000 by lia) (by decide)) ⟨lr,bt (sm.trans (ai hp)) hD,ab,zs++[(p,F i)],?_,?_,?_⟩
   .rw[eh];rfl
   .refine PO.putL (xs:=zr zs) ?_ (by rw[aj nD];exact dE);exact(po.putN hp).append (PO.one ab)
   .rw[et,ep,je,eH,cq];simp[cQ,e,zp]
  .refine kf _ _ ⟨lr,sm,dE,zs,rfl,po,?_⟩;rw[ep,je,eH];simp[cQ,e]
 .rintro ys σ H ⟨_,sm,dE,zs,rfl,po,ep⟩;exact hd zs H sm dE po ep
theorem mw.ext{H H2 H3:Hp}{D:Addr}{ts us:Ts}{n6 zs:Zs}(hD:H D=none)(sm:aG H H2)(h1:H2 D=some (.lst (zr n6)))(wQ:PO H2 n6)(ez:zp n6=ts)(s3:aG H2 H3)(po:PO H3 zs)(e:zp zs=us):mw H D (ts++us) (upd H3 D (.lst (zr n6++zr zs))):=
 ⟨bt (sm.trans s3) hD,n6++zs,by rw[ab,eh],PO.putL (xs:=zr n6) ((wQ.same s3).append po) (s3 _ _ h1),by rw[et,ez,e]⟩
section
variable {P:Program} {w:World} {K:PySem.W.Frag} {mg:Str->Option Value} {base:Heap}
theorem oO:aS ["_law_sides","_law_many","_law_side","_law_pairs","_law_stride"] ["_law_sides"] (az LH):=dB (by decide +kernel)
def JM(H:Hp)(m:Nat)(ts:Ts)(Q:V->Hp->Prop):Prop:=∀ (t r:Addr) (zs:Zs) (H':Hp),aG H H'->H t=none->H r=none->H' t=some (.tup [.int m,.ref r])->H' r=some (.lst (zr zs))->PO H' zs->zp zs=ts->Q (.ref t) H'
def ES:Sp:=fun vs H Q _=>∃ (a:Addr) (ns:List Nat),vs=[.ref a]/\H a=some (.tup (NV ns))/\ER ns/\JM H (pr ns) ((lq ns).map hX) Q
theorem LJ{f:Addr}{fd:FuncData}(F:hW K "_law_box" "_law_box" LH f fd)(B:Bl mg):bY P w K mg base bE 1 f fd ["_law_sides"] ES:=by
 refine F.ok oO (fun vs H Q E h=>?_) (fun eQ A outer s H vs Q E hr h=>?_)
 .obtain⟨a,ns,rfl,_⟩:=h;rfl
 .obtain⟨a,ns,rfl,ha,⟨VZ,hl,hn,hm⟩,k⟩:=h;refine'⟨_,(ag (aH (i:=1) oO.nd rfl aM av)
   (ag (cn cZ rfl (uk (pv 0)) (aq (i:=2) oO.nd rfl bo)
    (ap (aH (i:=1) oO.nd rfl aM (bg iW (pv 1) (pv 2)))))
   (ag (aH (i:=3) oO.nd rfl aM (b8 ae))
   (ag (aH (i:=4) oO.nd rfl bo av)
   (ag (cn cZ rfl (uk (pv 0)) (aq (i:=2) oO.nd rfl bo)
    (ag (cB (fO fw s_ sY kg (pv 3) (aa ?c1 ae)))
    (ap (aH (i:=4) oO.nd rfl bo (bg iW (pv 4) (pv 2))))))
   (ap (aX (bP (aa (pv 1) (aa (pv 3) ae)))))))))),?_⟩
  case c1=>
   refine' bJ (g:=(bp 0)) (tt:=(eK (dW (rn fun i j=>.bl (decide (i<j))) (dW (rI (fun _ j=>0<j) fun i j=>.int (i % j)) (dW (rI Kj fun i j=>.int (i / j)) (aK 0) (aK 1)) (aK 2)) (dW (rn fun i j=>.int (i-j)) (aK 2) (tC (.int 1)))))) (te:=(nA (br (aK 0) (br (dW (rn fun i j=>.int (i+j)) (aK 0) (aK 1)) eY)))) (NB:=["_law_house","_law_stride","_law_side"]) (src:=[none,some 4,some 2]) (bf (by kernel_rfl)) rfl (aY rfl B.range (aa (pv 1) ae)) ?g ?t ?e;case g=>exact fun cl C s₃ H₃ fp=>(aq (i:=0) j3 rfl aM bo)
   case t=>exact fun cl C s₃ H₃ fp=>cj (aI jh (bg gX (bg um (pv 0) (pv 1)) (pv 2)) (bg k8 (pv 2) av) (aP _))
   case e=>exact fun cl C s₃ H₃ fp=>(bP (aa (pv 0) (aa (bg di (pv 0) (pv 1)) ae)))
  have UG:∀x∈ns,1<=x:=fun x hx=>by have:=hn x hx;lia
  refine⟨_,rfl,a,rfl,⟨_,bD.of ha⟩,ul (K:=K) (xs:=NV ns) (fun i σ H2=>H2=H/\∃x2,σ=[some (.ref a),some (.int ((pr (ns.take i):Nat):Int)),x2,none,none]) ⟨rfl,_,rfl⟩ (fun i σ H2 _ z=>by rw[z.1];exact bD.of ha) ?_ ?_⟩
  .rintro i x σ H2 hx ⟨rfl,x2,rfl⟩;obtain⟨n,hv,rfl⟩:=kJ hx;have Z0:=hn n (cm hv);have lM:=i7 (ns:=ns) (i:=i) UG;have tk:ns.take (i+1)=ns.take i++[n]:=by rw[eC,hv];rfl
   rw[tk,u6];exact⟨_,rfl,_,rfl,_,_,rfl,rfl,.inr ⟨by lia,by lia⟩,rfl,_,rfl⟩
  rintro σ H2 ⟨rfl,x2,rfl⟩;rw[aN,fA];refine⟨by show 0<=sizeLine;decide,fun D hD=>?_⟩;have s0:=ai (o:=.lst []) hD;refine⟨_,rfl,a,rfl,⟨_,bD.of (s0 _ _ ha)⟩,ul (K:=K) (xs:=NV ns) (fun i σ Hc=>(∃x2,σ=[some (.ref a),some (.int ((pr ns:Nat):Int)),x2,some (.ref D),some (.int ((pr (ns.take i):Nat):Int))])/\mw H2 D ((Pw (pr ns) ns i).map hX) Hc) ⟨⟨_,rfl⟩,s0,[],ab,PO.nil,rfl⟩ (fun i σ Hc _ z=>bD.of (z.2.1 _ _ ha)) ?_ ?_⟩
  .rintro i x σ Hc hx ⟨⟨x3,rfl⟩,sm,n6,fu,wQ,JN⟩;obtain⟨n,hv,rfl⟩:=kJ hx;have hi:i<ns.length:=(cN.mp hv).1;have Z0:=hn n (cm hv);have lM:=i7 (ns:=ns) (i:=i) UG;have Z1:1<=pr (ns.take i):=i7 (ns:=ns.take i) (i:=0) fun x hx=>UG x (ot hx);have gd:ns.getD i 0=n:=by rw[bb,hv];rfl
   have tk:ns.take (i+1)=ns.take i++[n]:=by rw[eC,hv];rfl
   rw[tk,u6];have eB:Pw (pr ns) ns (i+1)=Pw (pr ns) ns i++vF (pr ns) (pr (ns.take i)) n:=by unfold Pw;rw[f9,gd]
   have zl:n6.length<=160:=by
    rw[<-bv,JN,aO];exact bw (jQ (M:=32) fun j=>bw AM hm) (by lia)
   rw[eB,cq];generalize pr (ns.take i)=st at *;refine⟨_,rfl,.inl ⟨rfl,_,aQ.of fu⟩,_,rfl,((pr ns:Nat):Int),rfl,by lia,by lia,fun L hL=>?_⟩;refine sO (lo:=0) (n:=pr ns) (fun h=>decide (h / st % n+1<n)) (fun h=>hX (h,h+st)) (fun σ=>∃x,σ=[x,some (.int (st:Int)),some (.int (n:Int))]) hL (by lia) ⟨_,rfl⟩ ?_ ?_
   .rintro j σ H4 R Kf hj ⟨x,rfl⟩ o9 kt kf;have UH:((0:Int)+(j:Int)) / (st:Int) % (n:Int)=(((j / st % n:Nat)):Int):=by rw[dz];rfl
    refine⟨_,rfl,_,rfl,_,_,rfl,rfl,⟨by lia,by lia⟩,_,rfl,_,_,rfl,rfl,(by show (0:Int)<(n:Int);lia),_,rfl,_,_,rfl,rfl,_,_,rfl,rfl,_,rfl,?_⟩;rw[UH];refine d9 (fun c=>?_) (fun c=>?_)
    .have c:=cM c;refine⟨_,rfl,_,rfl,_,rfl,_,_,rfl,rfl,by show 2<=sizeLine;decide,fun t ht=>?_⟩;rw[dz];exact kt _ _ ⟨_,rfl⟩ ht (decide_eq_true (by lia))
    .exact kf _ ⟨_,rfl⟩ (cY fun z=>c (decide_eq_true (by lia)))
   .intro zs H4 s4 Px Py LK;have e4:zp zs=(vF (pr ns) st n).map hX:=by rw[LK];unfold vF;rw[cy];rfl
    have l4:zs.length<=32:=by rw[<-bv,e4,aO];exact bw AM hm
    refine⟨D,L,_,_,rfl,rfl,s4 _ _ fu,Px,by rw[cx,cx];exact bw (show _<=192 by lia) (by decide),?_⟩;exact⟨_,rfl,_,rfl,_,_,rfl,rfl,.inr ⟨by lia,by lia⟩,⟨_,rfl⟩,mw.ext hD sm fu wQ JN s4 Py e4⟩
  .rintro σ Hc ⟨⟨x3,rfl⟩,sm,n6,fu,wQ,JN⟩;refine⟨_,rfl,_,rfl,by show 2<=sizeLine;decide,fun t ht=>?_⟩;have st:=ai (o:=.tup [.int ((pr ns:Nat):Int),.ref D]) ht;refine k t D n6 _ (sm.trans st) (sm.free ht) hD ab (st _ _ fu) (wQ.same st) ?_;rw[JN,aN];unfold lq Pw;rw[EQ];simp only[Nat.one_mul]
theorem f_:aS ["_law_figures","_law_base","_law_many","_law_k","_law_pairs","_law_stride","_law_house","_law_figure"] ["_law_figures","_law_base"] (az zC):=dB (by decide +kernel)
def u7:Sp:=fun vs H Q _=>∃f b:Nat,vs=[.int f,.int b]/\1<=f/\f<=5/\2<=b/\b<=5/\b ^ f<=32/\JM H (b ^ f) ((qR f b).map hX) Q
theorem ET{f:Addr}{fd:FuncData}(F:hW K "_law_words" "_law_words" zC f fd)(B:Bl mg):bY P w K mg base bE 1 f fd ["_law_figures","_law_base"] u7:=by
 refine F.ok f_ (fun vs H Q E h=>?_) (fun eQ A outer s H vs Q E hr h=>?_)
 .obtain⟨f,b,rfl,_⟩:=h;rfl
 .obtain⟨f,b,rfl,f1,f2,b1,b2,hm,k⟩:=h;refine'⟨_,(ag (aH (i:=2) f_.nd rfl aM av)
   (ag (cn cZ rfl (aY rfl B.range (aa (pv 0) ae)) (aq (i:=3) f_.nd rfl aM)
    (ap (aH (i:=2) f_.nd rfl aM (bg iW (pv 2) (pv 1)))))
   (ag (aH (i:=4) f_.nd rfl aM (b8 ae))
   (ag (aH (i:=5) f_.nd rfl bo av)
   (ag (cn cZ rfl (aY rfl B.range (aa (pv 0) ae)) (aq (i:=3) f_.nd rfl aM)
    (ag (cn cZ rfl (aY rfl B.range (aa (pv 2) ae)) (aq (i:=6) f_.nd rfl bo)
     (ag (aH (i:=7) f_.nd rfl aM (bg gX (bg um (pv 6) (pv 5)) (pv 1)))
     (ap (cB (fO fw s_ sY kg (pv 4) (aa ?c1 ae))))))
    (ap (aH (i:=5) f_.nd rfl bo (bg iW (pv 5) (pv 1))))))
   (ap (aX (bP (aa (pv 2) (aa (pv 4) ae)))))))))),?_⟩
  case c1=>
   refine' bJ (g:=(bp 0)) (te:=(nA (br (aK 1) (br (dW (rn fun i j=>.int (i+j)) (aK 1) (dW (rI F6 fun i j=>.int (i*j)) (aK 0) (aK 2))) eY)))) (NB:=["_law_more","_law_house","_law_stride"]) (src:=[none,some 6,some 5]) (bf (by kernel_rfl)) rfl (nq rfl B.range (aa av (aa (bg k8 (pv 1) (pv 7)) ae))) ?g ?t ?e;case g=>exact fun cl C s₃ H₃ fp=>(aq (i:=0) j4 rfl aM bo)
   case t=>exact fun cl C s₃ H₃ fp=>ce
   case e=>exact fun cl C s₃ H₃ fp=>(bP (aa (pv 1) (aa (bg di (pv 1) (bg iW (pv 0) (pv 2))) ae)))
  have WZ:∀i,i<=f->b ^ i<=32:=fun i hi=>bw (Nat.pow_le_pow_right (by lia) hi) hm;refine⟨_,rfl,(f:Int),rfl,by lia,by lia,cI (n:=f) (lo:=0) (fun i σ H2=>H2=H/\∃x3,σ=[some (.int f),some (.int b),some (.int ((b ^ i:Nat):Int)),x3,none,none,none,none]) ⟨rfl,_,rfl⟩ ?_ ?_⟩
  .rintro i σ H2 hi ⟨rfl,x3,rfl⟩;have Z2:=WZ i (by lia);refine⟨_,rfl,_,rfl,_,_,rfl,rfl,.inr ⟨by lia,by lia⟩,rfl,some (.int (0+(i:Int))),?_⟩;rw[Nat.pow_succ];rfl
  rintro σ H2 ⟨rfl,x3,rfl⟩;refine⟨by show 0<=sizeLine;decide,fun D hD=>?_⟩;refine⟨_,rfl,(f:Int),rfl,by lia,by lia,cI (n:=f) (lo:=0) (fun i σ Hc=>(∃x3 x6 x7,σ=[some (.int f),some (.int b),some (.int ((b ^ f:Nat):Int)),x3,some (.ref D),some (.int ((b ^ i:Nat):Int)),x6,x7])/\mw H2 D (((List.range i).flatMap fun at_=>(List.range (b ^ f)).flatMap (wR b at_)).map hX) Hc) ⟨⟨_,_,_,rfl⟩,ai hD,[],ab,PO.nil,rfl⟩ ?_ ?_⟩
  .rintro i σ Hc hi ⟨⟨x3,x6,x7,rfl⟩,Pi⟩;have Z2:=WZ i (by lia);have hbp:0<b ^ i:=Nat.pow_pos (by lia);refine⟨_,rfl,((b ^ f:Nat):Int),rfl,by lia,by lia,cI (n:=b ^ f) (lo:=0) (fun j σ H4=>(∃x3 x6 x7,σ=[some (.int f),some (.int b),some (.int ((b ^ f:Nat):Int)),x3,some (.ref D),some (.int ((b ^ i:Nat):Int)),x6,x7])/\mw H2 D ((((List.range i).flatMap fun at_=>(List.range (b ^ f)).flatMap (wR b at_))++(List.range j).flatMap (wR b i)).map hX) H4) ⟨⟨_,_,_,rfl⟩,by simpa using Pi⟩ ?_ ?_⟩
   .rintro j σ H4 hj ⟨⟨x3,x6,x7,rfl⟩,o9,Z3,UI,Py,LK⟩;have UH:((0:Int)+(j:Int)) / ((b ^ i:Nat):Int) % (b:Int)=((j / b ^ i % b:Nat):Int):=by rw[dz];rfl
    have e_:j / b ^ i % b<b:=iu _ (by lia);refine⟨_,rfl,_,rfl,_,_,rfl,rfl,⟨by lia,by lia⟩,_,rfl,_,_,rfl,rfl,(by show (0:Int)<(b:Int);lia),?_⟩;change bp 7 (V.int (((0:Int)+(j:Int)) / ((b ^ i:Nat):Int) % (b:Int))) _ _ _;rw[UH];refine⟨_,rfl,.inl ⟨rfl,_,aQ.of UI⟩,_,rfl,_,rfl,_,_,rfl,rfl,1,_,rfl,⟨by lia,by lia,by lia,by lia⟩,fun L hL=>?_⟩;have hn:((b:Int)-((j / b ^ i % b:Nat):Int)-1).toNat=b-j / b ^ i % b-1:=by lia
    rw[hn];have zl:Z3.length<=1000:=by
     have e:=congrArg List.length LK;rw[bv,aO,cF] at e;have z3:∀at_,((List.range (b ^ f)).flatMap (wR b at_)).length<=160:=fun at_=>bw (jQ fun x=>qZ b2) (by lia);have z4:=jQ (m:=i) z3;have z5:=jQ (m:=j) fun x=>qZ (at_:=i) (h:=x) b2;lia
    refine mh (lo:=1) (fun c=>hX (j,j+(c+1)*b ^ i)) (fun σ=>∃x,σ=[x,some (.int (j:Int)),some (.int ((b ^ i:Nat):Int))]) hL (by lia) ⟨_,by rw[dz];rfl⟩ ?_ ?_
    .rintro c σ H5 R Kf hc ⟨x,rfl⟩ my kt;have hq:(1+(c:Int))*((b ^ i:Nat):Int)=(((c+1)*b ^ i:Nat):Int):=by rw[Int.add_comm];exact(Int.natCast_mul _ _).symm
     refine⟨_,rfl,_,rfl,_,rfl,_,rfl,_,_,rfl,rfl,.inr ⟨by lia,by lia⟩,_,_,rfl,rfl,by show 2<=sizeLine;decide,fun t ht=>?_⟩;rw[hq];exact kt _ _ ⟨_,rfl⟩ ht
    .intro zs H5 s5 Z4 AK RP _;have e5:zp zs=(wR b i j).map hX:=by rw[RP];unfold wR;rw[cy];rfl
     have l5:zs.length<=5:=by rw[<-bv,e5,aO];exact qZ b2
     refine⟨D,L,_,_,rfl,rfl,s5 _ _ UI,Z4,by rw[cx,cx];exact bw (show _<=1005 by lia) (by decide),⟨_,_,_,rfl⟩,?_⟩;rw[f9,<-cP,cq];exact mw.ext hD o9 UI Py LK s5 AK e5
   .rintro σ H4 ⟨⟨x3,x6,x7,rfl⟩,P4⟩;refine⟨_,rfl,_,rfl,_,_,rfl,rfl,.inr ⟨by lia,by lia⟩,⟨x3,x6,x7,?_⟩,?_⟩
    .rw[Nat.pow_succ];rfl
    .rw[f9];exact P4
  .rintro σ Hc ⟨⟨x3,x6,x7,rfl⟩,sm,n6,fu,wQ,JN⟩;refine⟨_,rfl,_,rfl,by show 2<=sizeLine;decide,fun t ht=>?_⟩;have st:=ai (o:=.tup [.int ((b ^ f:Nat):Int),.ref D]) ht;exact k t D n6 _ (sm.trans st) (sm.free ht) hD ab (st _ _ fu) (wQ.same st) JN
end
abbrev LL:Stmt:=i5 35
theorem mz:(["_law_k","_law_order_here","_law_n"]:List Str).Nodup:=by decide +kernel
theorem Cb:(["_law_k","_law_some"]:List Str).Nodup:=by decide +kernel
theorem EU:(["_law_tie"]:List Str).Nodup:=by decide +kernel
theorem rN:(["_law_one","_law_begins"]:List Str).Nodup:=by decide +kernel
theorem wS:(["_law_tie","_law_ties"]:List Str).Nodup:=by decide +kernel
theorem zD{xs:List V}{k:Nat}:lS xs none (some (k:Int))=xs.take k:=by
 have h1:HT.d8 xs.length 0 none=0:=rfl;have h2:HT.d8 xs.length xs.length (some (k:Int))=min k xs.length:=by
  unfold HT.d8;simp;try lia
 unfold lS;rw[h1,h2,ye,Nat.sub_zero,List.take_eq_take_iff];simp;try lia
theorem wT{xs:List V}{k:Nat}:lS xs (some (k:Int)) none=xs.drop k:=by
 have h1:HT.d8 xs.length 0 (some (k:Int))=min k xs.length:=by
  unfold HT.d8;simp;try lia
 have h2:HT.d8 xs.length xs.length none=xs.length:=rfl;unfold lS;rw[h1,h2];by_cases c:k<=xs.length
 .rw[ya c];exact pW (by rw[tP];exact aU _)
 .rw[Nat.min_eq_right (by lia),List.drop_of_length_le (aU _),List.drop_of_length_le (by lia),List.take_nil]
theorem u8{β:Type}{K:PySem.W.Frag}{a D:Addr}{g:TG}{tt:TT}{te:TE}{dU:Hp->Prop}{σB:St}{H0:Hp}(ms:List β)(e G:β->V)(bq:St->Prop)(ha:H0 a=some (.lst (ms.map e)))(hD:H0 D=none)(hn:ms.length<=1000)(h0:bq σB)(hs:∀m σ H (R:V->St->Hp->Prop) (Kf:St->Hp->Prop),m∈ms->bq σ->aG H0 H->(∀σ2 H2,bq σ2->aG H H2->R (G m) σ2 H2)->
   g (e m) σ H fun σ2 H2=>tt σ2 H2 fun b H3=>if b=true then te σ2 H3 fun v H4=>R v σ2 H4 else Kf σ2 H3)(hd:∀H,aG H0 H->H D=some (.lst (ms.map G))->dU H):fP (A7 K a) g tt te D dU σB (upd H0 D (.lst [])):=by
 refine cK (xs:=ms.map e) (fun i ys σ H=>bq σ/\aG H0 H/\H D=some (.lst ys)/\ys=(ms.take i).map G) ⟨h0,ai hD,ab,rfl⟩ (fun i ys σ H _ z=>aQ.of (z.2.1 _ _ ha)) ?_ ?_
 .rintro i x ys σ H Kt Kf hx ⟨sh,sm,dE,rfl⟩ kt kf;rw[bZ] at hx;cases hz:ms[i]? with
  |none=>rw[hz] at hx;cases hx
  |some m=>
   rw[hz] at hx;obtain rfl:e m=x:=bW hx;refine hs m σ H Kt Kf (cm hz) sh sm (fun σ2 H2 lr s2=>?_);refine kt _ _ _ (s2 _ _ dE) ?_ ⟨lr,bt (sm.trans s2) hD,ab,?_⟩
   .rw[aO];exact eA (kO _ _) (eA hn (by decide))
   .rw[eC,hz,xN,cq];rfl
 .rintro ys σ H ⟨_,sm,dE,rfl⟩;rw[aO,fA] at dE;exact hd H sm dE
theorem sQ{h:Int}:∀ {ts:Ts},((ts.map fun u=>V.int u.1).countP fun z=>iX z (.int h))=gu ts h
 |[]=>rfl
 |u::ts=>by
  rw[eE,mU,sQ,show u::ts=[u]++ts from rfl,u4];have e:iX (.int u.1) (.int h)=decide (u.1=h):=by rw[ic];simp[iX]
  rw[e];unfold gu;by_cases c:u.1=h <;> simp[c] <;> lia
section
variable {P:Program} {w:World} {K:PySem.W.Frag} {mg:Str->Option Value} {base:Heap}
theorem oQ:aS ["_law_pot_here","_law_n","_law_order_here","_law_ties","_law_turn","_law_some","_law_more","_law_begins"] ["_law_pot_here","_law_n"] (az LL):=dB (by decide +kernel)
def EV:Sp:=fun vs H Q _=>∃ (p:Addr) (n:Nat),vs=[.ref p,.int n]/\2<=n/\n<=32/\bu H p/\∀ (r:Addr) (zs:Zs) (H':Hp),au p H H'->bu H' p->H r=none->H' r=some (.lst (zr zs))->PO H' zs->cg n (zp zs)->Q (.ref r) H'
theorem LM{f:Addr}{fd:FuncData}(F:hW K "_law_one_way" "_law_one_way" LL f fd)(B:Bl mg)(D:cX P w K mg base bE 1 "_law_take" ["_law_pot_here","_law_many"] eT)(OR:cX P w K mg base bE 2 "_law_order" ["_law_pot_here","_law_many"] mr):bY P w K mg base bE 3 f fd ["_law_pot_here","_law_n"] EV:=by
 refine F.ok oQ (fun vs H Q E h=>?_) (fun eQ A outer s H vs Q E hr h=>?_)
 .obtain⟨p,n,rfl,_⟩:=h;rfl
 .obtain⟨p,n,rfl,n1,n2,hp,q⟩:=h;have h1:dk 1 _:=hr.mono (by decide);refine'⟨_,(ag (aH (i:=2) oQ.nd rfl bo (aL OR hr aR (aa (pv 0) (aa (pv 1) ae))))
   (ag (aH (i:=3) oQ.nd rfl bo ?c1)
   (ag (cn cZ rfl (aY rfl B.range (aa (aL D h1 aR (aa (pv 0) (aa av ae))) ae)) (aq (i:=4) oQ.nd rfl aM)
    (ag (aH (i:=5) oQ.nd rfl bo (lR z8 (aL OR hr aR (aa (pv 0) (aa (pv 1) ae))) pB (pC (bg di av (aL D h1 aR (aa (pv 0) (aa (aE (rW rfl) (by rfl) B.min PyProof.Rows.boot_min (aa av (aa (bg k8 (pv 1) av) ae))) ae)))))))
    (ag (bL (i:=6) (g:=(bp 0)) (te:=(nA (br (dW (jo K) (aK 1) (aK 0)) (br (dW (jo K) (aK 1) (dW (rI (fun _ j=>0<j) fun i j=>.int (i % j)) (dW (rn fun i j=>.int (i+j)) (aK 0) (tC (.int 1))) (Ji (fun xs H Q=>∃p ys,xs=[V.ref p]/\(aQ K H p ys\/bD K H p ys)/\Q (.int ys.length) H) (br (aK 1) eY)))) eY)))) (NB:=["_law_k","_law_some"]) (src:=[none,some 5]) (bf (by kernel_rfl)) rfl (aY rfl B.range (aa (aE aD (by rfl) B.len cu (aa (pv 5) ae)) ae)) ?g2 ?t2 ?e2 oQ.nd rfl rfl rfl)
    (ag (aH (i:=7) oQ.nd rfl bo ?c3)
    (ap (cf (PW.pt (jH (fV (aE (BF rfl) (by rfl) B.all PyProof.Rows.boot_all (aa ?c5 ae))) (j9 (aI jh (aE (sJ rfl) (by rfl) B.max pY (aa ?c4 ae)) av (aP _))))) (ap (aH (i:=3) oQ.nd rfl bo (bg KB (pv 3) (pv 6)))) a_))))))
   (ap (aX (pv 3)))))),?_⟩
  case c1=>
   refine' bJ (g:=(bp 0)) (te:=(nA (br (dW (jo K) (aK 1) (aK 0)) (br (dW (jo K) (aK 1) (dW (rI (fun _ j=>0<j) fun i j=>.int (i % j)) (dW (rn fun i j=>.int (i+j)) (aK 0) (tC (.int 1))) (aK 2))) eY)))) (NB:=["_law_k","_law_order_here","_law_n"]) (src:=[none,some 2,some 1]) (bf (by kernel_rfl)) rfl (aY rfl B.range (aa (pv 1) ae)) ?g ?t ?e;case g=>exact fun cl C s₃ H₃ fp=>(aq (i:=0) mz rfl aM bo)
   case t=>exact fun cl C s₃ H₃ fp=>ce
   case e=>exact fun cl C s₃ H₃ fp=>(bP (aa (aJ aF (pv 1) (pv 0) (fun _ _=>rfl)) (aa (aJ aF (pv 1) (bg gX (bg di (pv 0) av) (pv 2)) (fun _ _=>rfl)) ae)))
  case g2=>exact fun cl C s₃ H₃ fp=>(aq (i:=0) Cb rfl aM bo)
  case t2=>exact fun cl C s₃ H₃ fp=>ce
  case e2=>exact fun cl C s₃ H₃ fp=>(bP (aa (aJ aF (pv 1) (pv 0) (fun _ _=>rfl)) (aa (aJ aF (pv 1) (bg gX (bg di (pv 0) av) (aE aD (by rfl) B.len cu (aa (pv 1) ae))) (fun _ _=>rfl)) ae)))
  case c3=>
   refine' bJ (g:=(bp 0)) (te:=(dW (ky K) (aK 0) (tC (.int 0)))) (NB:=["_law_tie"]) (src:=[none]) (bf (by kernel_rfl)) rfl (bi (pv 3)) ?g ?t ?e;case g=>exact fun cl C s₃ H₃ fp=>(aq (i:=0) EU rfl aM bo)
   case t=>exact fun cl C s₃ H₃ fp=>ce
   case e=>exact fun cl C s₃ H₃ fp=>(aJ bz (pv 0) av (fun _ _=>rfl))
  case c4=>
   refine' bJ (g:=(bp 0)) (te:=(SN K "list" DN (aK 1) (br (aK 0) eY))) (NB:=["_law_one","_law_begins"]) (src:=[none,some 7]) (bf (by kernel_rfl)) rfl (bi (pv 5)) ?g ?t ?e;case g=>exact fun cl C s₃ H₃ fp=>(aq (i:=0) rN rfl aM bo)
   case t=>exact fun cl C s₃ H₃ fp=>ce
   case e=>exact fun cl C s₃ H₃ fp=>(fO fw PySem.F.slot_list_count PySem.F.type_list_count DO (pv 1) (aa (pv 0) ae))
  case c5=>
   refine' bJ (g:=(bp 0)) (te:=(dW (OS K true) (aK 0) (aK 1))) (NB:=["_law_tie","_law_ties"]) (src:=[none,some 3]) (bf (by kernel_rfl)) rfl (bi (pv 6)) ?g ?t ?e;case g=>exact fun cl C s₃ H₃ fp=>(aq (i:=0) wS rfl aM bo)
   case t=>exact fun cl C s₃ H₃ fp=>ce
   case e=>exact fun cl C s₃ H₃ fp=>(ie (sD hr.u) (pv 0) (pv 1) rfl)
  refine⟨_,rfl,_,rfl,p,n,rfl,n2,hp,fun O xs H1 s1 vC hO Z5 pm=>?_⟩;have xl:xs.length=n:=by have:=pm.length_eq;rwa [bR] at this
  refine⟨_,rfl,(n:Int),rfl,by lia,by lia,fun T0 Nh=>?_⟩;refine mh (lo:=0) (n:=n) (fun k=>(ci (xs.getD k 0),ci (xs.getD ((k+1) % xs.length) 0))) (fun σ=>∃x,σ=[x,some (.ref O),some (.int n)]) Nh (by lia) ⟨_,rfl⟩ ?_ ?_
  .rintro k σ H2 R Kf hk ⟨x,rfl⟩ B6 kt;have e1:(0:Int)+(k:Int)=((k:Nat):Int):=dz _;have e2:(((k:Nat):Int)+1) % (n:Int)=(((k+1) % n:Nat):Int):=by lia
   have TJ:(k+1) % n<n:=iu _ (by lia);have W0:=B6 _ _ Z5;rw[e1];rw[xl] at kt;refine⟨_,rfl,_,rfl,O,_,_,_,rfl,rfl,aQ.of W0,ao (eN (by lia)),_,rfl,_,rfl,_,_,rfl,rfl,_,rfl,_,_,rfl,rfl,(by show (0:Int)<(n:Int);lia),O,_,_,_,rfl,rfl,aQ.of W0,by rw[e2];exact ao (eN (by lia)),by show 2<=sizeLine;decide,fun t ht=>?_⟩;exact kt _ _ ⟨_,rfl⟩ ht
  intro zj H2 s2 Z6 wQ JN _;have F2:cg n (zp zj):=by
   rw[JN];refine(sI n1 n2 pm).perm ?_;have:=n8 (xs:=xs);unfold B_ at this;rw[xl] at this |-;exact this
  have Pz:H T0=none:=lE fun z=>by
   cases e:H T0 with
   |none=>exact z e
   |some o=>
    by_cases c:T0=p
    .subst c;obtain⟨x,y,e',_⟩:=vC;rw[Nh] at e';cases e'
    .rw[s1 _ _ e c] at Nh;cases Nh
  have uL:=vC.same s2;refine⟨_,rfl,p,6,rfl,by decide,by decide,uL,fun d H3 hd s3 mv=>⟨(d:Int),rfl,by lia,by lia,cI (n:=d) (lo:=0) (fun i σ Hc=>∃ (T:Addr) (zs:Zs),(∃a b c e,σ=[some (.ref p),some (.int n),some (.ref O),some (.ref T),a,b,c,e])/\au p H Hc/\bu Hc p/\H T=none/\Hc T=some (.lst (zr zs))/\PO Hc zs/\cg n (zp zs)) ⟨T0,zj,⟨_,_,_,_,rfl⟩,(s1.trans (au.of s2)).trans s3,mv,Pz,s3 _ _ Z6 (hp.ne Pz),wQ.mq s3 uL,F2⟩ ?_ ?_⟩⟩
  .rintro i σ Hc hi ⟨T,zs,⟨x4,x5,x6,x7,rfl⟩,sc,jj,hT,UJ,po,Fi⟩;have W1:T≠p:=hp.ne hT;have RL:zs.length<=256:=by have:=Fi.len;rwa [bv] at this
   refine⟨_,rfl,_,rfl,p,n,rfl,n2,jj,fun L ys H4 s4 oa hL Px UK=>?_⟩;have yl:ys.length=n:=by have:=UK.length_eq;rwa [bR] at this
   have Z7:L≠p:=jj.ne hL;have em:(if (n:Int)-1<5 then (n:Int)-1 else 5)=((min 5 (n-1):Nat):Int):=by split <;> lia
   refine⟨_,rfl,_,rfl,_,_,rfl,rfl,5,_,rfl,p,min 5 (n-1),by rw[em];rfl,by lia,by lia,oa,fun d2 H5 RK s5 xh=>?_⟩;have Z8:d2<5/\d2<n-1:=by lia
   have e3:(2:Int)+(d2:Int)=((2+d2:Nat):Int):=by lia
   refine⟨_,_,rfl,rfl,_,rfl,L,_,rfl,aQ.of (s5 _ _ Px Z7),fun S hS=>?_⟩;rw[e3,zD,<-yh];have sS:=ai (o:=.lst (NV (ys.take (2+d2)))) hS;have Nk:(upd H5 S (.lst (NV (ys.take (2+d2))))) S=some (.lst (NV (ys.take (2+d2)))):=ab;have s6:au p H _:=((sc.trans s4).trans s5).trans (au.of sS);have Jx:=xh.same sS;have Z9:=sS _ _ (s5 _ _ (s4 _ _ UJ W1) W1);have Cw:=((po.mq s4 jj).mq s5 oa).same sS;have Z_:(ys.take (2+d2)).Nodup:=(UK.nodup_iff.mpr kE).sublist (tK _ _);have clt:∀x∈ys.take (2+d2),x<n:=fun x hx=>bH.mp (UK.mem_iff.mp (ot hx));have cl:(ys.take (2+d2)).length=2+d2:=by rw[jx];lia
   generalize ys.take (2+d2)=cs at *;generalize upd H5 S _=H6 at *;refine⟨_,rfl,S,_,rfl,.inl (aQ.of Nk),(((NV cs).length:Nat):Int),rfl,by lia,by rw[aN];lia,fun M hM=>?_⟩;rw[iE,aN];refine mh (lo:=0) (n:=cs.length) (fun k=>(ci (cs.getD k 0),ci (cs.getD ((k+1) % cs.length) 0))) (fun σ=>∃x,σ=[x,some (.ref S)]) hM (by lia) ⟨_,rfl⟩ ?_ ?_
   .rintro k σ H7 R Kf hk ⟨x,rfl⟩ AL kt;have e1:(0:Int)+(k:Int)=((k:Nat):Int):=dz _;have e2:(((k:Nat):Int)+1) % (((NV cs).length:Nat):Int)=(((k+1) % cs.length:Nat):Int):=by rw[aN];lia
    have TJ:(k+1) % cs.length<cs.length:=iu _ (by lia);have EW:=AL _ _ Nk;rw[e1];refine⟨_,rfl,_,rfl,S,_,_,_,rfl,rfl,aQ.of EW,ao (eN (by lia)),_,rfl,_,rfl,_,_,rfl,rfl,_,rfl,S,_,rfl,.inl (aQ.of EW),_,_,rfl,rfl,(by show (0:Int)<(((NV cs).length:Nat):Int);rw[aN];lia),S,_,_,_,rfl,rfl,aQ.of EW,by rw[e2];exact ao (eN (by lia)),by show 2<=sizeLine;decide,fun t ht=>?_⟩;exact kt _ _ ⟨_,rfl⟩ ht
   intro ms H7 s7 LN poM W2 _;have W3:zp ms=B_ cs:=W2;have ml:ms.length=cs.length:=by rw[<-bv,W2,aO,bR]
   have UL:=s7 _ _ Z9;have HG:=Cw.same s7;have EW:=s7 _ _ Nk;refine⟨_,rfl,T,rfl,⟨_,aQ.of UL⟩,fun Bg hB=>?_⟩;refine u8 zs (fun z=>V.ref z.1) (fun z=>V.int z.2.1) (fun σ=>∃x,σ=[x]) UL hB (by lia) ⟨_,rfl⟩ ?_ ?_
   .rintro z σ H8 R Kf hz ⟨x,rfl⟩ JJ kt;exact⟨_,rfl,z.1,_,0,_,rfl,rfl,bD.of (JJ _ _ (HG z hz)),rfl,kt _ _ ⟨_,rfl⟩ (aG.refl _)⟩
   intro H8 s8 hB8;have W4:=s8 _ _ UL;have UM:=s8 _ _ LN;have RQ:=s8 _ _ EW;have HI:=HG.same s8;have PB:=poM.same s8;have Cz:au p H H8:=(s6.trans (au.of s7)).trans (au.of s8);have rM:=(Jx.same s7).same s8;refine⟨_,rfl,M,rfl,⟨_,aQ.of UM⟩,fun Al hAl=>?_⟩;refine u8 ms (fun z=>V.ref z.1) (fun z=>V.bl (!decide (z.2∈zp zs))) (fun σ=>∃x,σ=[x,some (.ref T)]) UM hAl (by lia) ⟨_,rfl⟩ ?_ ?_
   .rintro z σ H9 R Kf hz ⟨x,rfl⟩ UN kt;obtain⟨l1,l2⟩:=JI (K:=K) (HI.same UN);exact⟨_,rfl,_,rfl,z.1,T,z.2,zs.map (fun z:Addr×Int×Int=>z.1),zp zs,rfl,rfl,bD.of (UN _ _ (PB z hz)),by rw[<-mf];exact aQ.of (UN _ _ W4),by rw[aO];exact l1,l2,kt _ _ ⟨_,rfl⟩ (aG.refl _)⟩
   intro H9 s9 hA9;have UO:H9 Al=some (.lst ((ms.map fun z=>!decide (z.2∈zp zs)).map V.bl)):=by rw[hA9,cy];rfl
   refine⟨Al,_,rfl,aQ.of UO,_,rfl,?_⟩;have W5:=s9 _ _ W4;have W6:=HI.same s9;have Nl:au p H H9:=Cz.trans (au.of s9);have Cc:=rM.same s9;refine d9 (fun c1=>?_) (fun c1=>?_)
   .have W7:=s9 _ _ RQ;have hB9:=s9 _ _ hB8;refine⟨_,rfl,S,rfl,⟨_,aQ.of W7⟩,fun Ct hC=>?_⟩;refine u8 cs (fun (x:Nat)=>V.int (x:Int)) (fun (x:Nat)=>V.int ((gu (zp zs) (ci x):Nat):Int)) (fun σ=>∃x,σ=[x,some (.ref Bg)]) W7 hC (by lia) ⟨_,rfl⟩ ?_ ?_
    .rintro x σ PD R Kf hx ⟨x',rfl⟩ UP kt;have PF:=UP _ _ hB9;refine⟨_,rfl,.inl ⟨rfl,_,aQ.of PF⟩,_,rfl,Bg,_,_,rfl,rfl,PF,rfl,?_,?_⟩
     .rw[List.all_map];exact jc.mpr fun z _=>rfl
     .have e:=sQ (ts:=zp zs) (h:=ci x);unfold zp at e;rw[cy] at e;have e':(zs.map fun z=>V.int z.2.1).countP (fun z=>iX z (.int (ci x)))=gu (zp zs) (ci x):=e;rw[show V.int (x:Int)=V.int (ci x) from rfl,e'];exact kt _ _ ⟨_,rfl⟩ (aG.refl _)
    intro PD CA UQ;have PJ:PD Ct=some (.lst ((cs.map fun (x:Nat)=>((gu (zp zs) (ci x):Nat):Int)).map V.int)):=by rw[UQ,cy];rfl
    refine⟨Ct,_,rfl,aQ.of PJ,fun z=>?_,fun Mx hMx iZ=>⟨_,_,rfl,rfl,_,rfl,?_⟩⟩
    .have:=congrArg List.length z;rw[aO,cl] at this;simp at this
    have LO:au p H PD:=Nl.trans (au.of CA);have EY:=Cc.same CA;have PL:=CA _ _ W5;have PM:=W6.same CA;refine d9 (fun c2=>?_) (fun c2=>?_)
    .have UR:=CA _ _ (s9 _ _ UM);refine⟨_,rfl,_,rfl,T,M,_,_,rfl,rfl,PL,UR,by rw[cx,cx];exact bw (show _<=300 by lia) (by decide),fun N hN=>?_⟩;have sN:=ai (o:=.lst (zr zs++zr ms)) hN;have hNH:H N=none:=lE fun z=>by
      cases e:H N with
      |none=>exact z e
      |some o=>
       by_cases c:N=p
       .subst c;obtain⟨x,y,e',_⟩:=EY;rw[hN] at e';cases e'
       .rw[LO _ _ e c] at hN;cases hN
     refine⟨N,zs++ms,⟨_,_,_,_,rfl⟩,LO.trans (au.of sN),EY.same sN,hNH,by rw[ab,eh],(PM.append ((PB.same s9).same CA)).same sN,?_⟩;rw[et,W3];refine Fi.round Z_ clt (by lia) (fun x hx=>?_) (fun t ht=>?_)
     .have h7:((gu (zp zs) (ci x):Nat):Int)<=Mx:=iZ _ (bn.mpr ⟨x,hx,rfl⟩);have h8:Mx<8:=cM c2;lia
     .rw[<-W3] at ht;obtain⟨z,hz,rfl⟩:=bn.mp ht;have:=jc.mp c1 _ (bn.mpr ⟨z,hz,rfl⟩);simpa using this
    .exact⟨T,zs,⟨_,_,_,_,rfl⟩,LO,EY,hT,PL,PM,Fi⟩
   .refine dQ ?_;exact⟨T,zs,⟨_,_,_,_,rfl⟩,Nl,Cc,hT,W5,W6,Fi⟩
  .rintro σ Hc ⟨T,zs,⟨x4,x5,x6,x7,rfl⟩,sc,jj,hT,UJ,po,Fi⟩;exact⟨_,rfl,q T zs Hc sc jj hT UJ po Fi⟩
end
end vG
namespace L2
open PySem PySem.Spec PyProof.Rows
def AN:List Nat->TA
 |[]=>eY
 |n::ns=>br (tC (.int (n:Nat))) (AN ns)
def EZ:List (List Nat)->TA
 |[]=>eY
 |c::cs=>br (nA (AN c)) (EZ cs)
def US:Expr->Option Nat
 |.Constant (.int (.ofNat n)) _ _=>some n
 |_=>none
def HJ:List Expr->Option (List Nat)
 |[]=>some []
 |e::es=>(US e).bind fun n=>(HJ es).map (n::·)
def E3:List Expr->Option (List (List Nat))
 |[]=>some []
 |.Tuple es _ _::r=>(HJ es).bind fun c=>(E3 r).map (c::·)
 |_=>none
theorem LP{e:Expr}{n:Nat}(h:US e=some n):∃j pos,e=.Constant (.int (n:Nat)) j pos:=by
 unfold US at h;split at h
 .cases h;exact⟨_,_,rfl⟩
 .cases h
theorem AO{X:Cx}:∀ {es:List Expr} {ns:List Nat},HJ es=some ns->PA X es (AN ns)
 |[],ns,h=>by cases h;exact ae
 |e::es,ns,h=>by
  unfold HJ at h;obtain⟨n,h1,h2⟩:=Option.bind_eq_some_iff.mp h;obtain⟨ms,h3,rfl⟩:=xx.mp h2;obtain⟨j,pos,rfl⟩:=LP h1;exact aa av (AO h3)
theorem u9{X:Cx}:∀ {es:List Expr} {cs:List (List Nat)},E3 es=some cs->PA X es (EZ cs)
 |[],cs,h=>by cases h;exact ae
 |e::r,cs,h=>by
  unfold E3 at h;split at h
  .cases h;contradiction
  .rename_i es _ _ r' e';cases e';obtain⟨n,h1,h2⟩:=Option.bind_eq_some_iff.mp h;obtain⟨ms,h3,rfl⟩:=xx.mp h2;exact aa (bP (AO h1)) (u9 h3)
  .cases h
end L2
namespace vG
open PySem L2 jV
abbrev E4:Stmt:=i5 36
theorem o_:(["_law_k","_law_order_here"]:List Str).Nodup:=by decide +kernel
theorem HK{xs:List Nat}{k:Nat}(h:k<xs.length):Dg (NV xs) ((k:Int)-1)=some (.int ((xs.getD (jV.pk xs.length k) 0:Nat):Int)):=by
 unfold jV.pk;by_cases k0:k=0
 .subst k0;rw[am rfl];have e:NV xs=NV (xs.take (xs.length-1))++[.int ((xs.getD (xs.length-1) 0:Nat):Int)]:=by
   rw[i6];congr 1;conv=>lhs;rw[<-oq (xs.length-1) xs]
   rw[rS (by lia),List.drop_eq_nil_of_le (by lia),dS (by lia)]
  rw[e];exact Dh _ _
 .rw[aA k0,show (k:Int)-1=((k-1:Nat):Int) by lia];exact ao (by rw[dS (by lia)];exact K9 (by lia))
theorem E5:∀ {ns:List Nat} {σ:St} {H:Hp} {Q:List V->Hp->Prop},Q (NV ns) H->AN ns σ H Q
 |[],σ,H,Q,h=>h
 |n::ns,σ,H,Q,h=>E5 (ns:=ns) (Q:=fun xs H2=>Q (.int (n:Nat)::xs) H2) h
theorem zE:∀ {cs:List (List Nat)} {σ:St} {H:Hp} {Q:List V->Hp->Prop},(∀c∈cs,c.length<=5)->(∀ (as:List Addr) (H':Hp),aG H H'->as.length=cs.length->(∀i,i<cs.length->H' (as.getD i 0)=some (.tup (NV (cs.getD i []))))->Q (as.map V.ref) H')->EZ cs σ H Q
 |[],σ,H,Q,_,h=>h [] H (aG.refl _) rfl fun i hi=>nomatch hi
 |c::cs,σ,H,Q,hc,h=>by
  refine E5 (ns:=c) ⟨?_,fun t ht=>?_⟩
  .rw[aN];exact bw (hc c bU) (by decide)
  refine zE (cs:=cs) (fun c vL=>hc c (cU _ vL)) fun as H' s l e=>?_;refine h (t::as) H' ((ai ht).trans s) (congrArg (·+1) l) fun i hi=>?_;cases i with
  |zero=>exact s _ _ ab
  |succ i=>exact e i (Nat.lt_of_succ_lt_succ hi)
section
variable {P:Program} {w:World} {K:PySem.W.Frag} {mg:Str->Option Value} {base:Heap}
theorem j5:aS ["_law_pot_here","_law_way","_law_n","_law_order_here","_law_sides","_law_pairs","_law_figures","_law_base"] ["_law_pot_here"] (az E4):=dB (by decide +kernel)
def E6(p:Addr)(H:Hp)(Q:V->Hp->Prop):Prop:=∀ (t r:Addr) (n:Nat) (zs:Zs) (H':Hp),au p H H'->bu H' p->H t=none->H' t=some (.tup [.int n,.ref r])->H r=none->H' r=some (.lst (zr zs))->PO H' zs->cg n (zp zs)->Q (.ref t) H'
def E7:Sp:=fun vs H Q _=>∃ (p:Addr),vs=[.ref p]/\bu H p/\E6 p H Q
theorem E6.go{p r t:Addr}{H H2:Hp}{Q:V->Hp->Prop}{n:Nat}{zs:Zs}(k:E6 p H Q)(s:au p H H2)(hp:bu H2 p)(hr:H r=none)(Cd:H2 r=some (.lst (zr zs)))(po:PO H2 zs)(F:cg n (zp zs))(ht:H2 t=none):Q (.ref t) (upd H2 t (.tup [.int n,.ref r])):=
 k t r n zs _ (s.trans (au.of (ai ht))) (hp.same (ai ht)) (s.free hp.full ht) ab hr (ai ht _ _ Cd) (po.putN ht) F
abbrev bd(i:Nat):Stmt:=(cw E4).getD i (.Pass ⟨0,0,0,0⟩)
def W8:Stmt->Expr
 |.If c _ _ _=>c
 |_=>.Constant .none 0 ⟨0,0,0,0⟩
def RS(i:Nat):Stmt->Stmt
 |.If _ b _ _=>b.getD i (.Pass ⟨0,0,0,0⟩)
 |_=>.Pass ⟨0,0,0,0⟩
theorem E8:∃Bq q1 q2 q3 q4 UT a1 a2 k a3 a4 a5 j a6 a7 q5 q6 q7 q8 PN RT,cw E4=[bd 0,bd 1,bd 2,bd 3,.If (W8 (bd 4)) [.Assign [.Name "_law_sides" q1] (.List Bq q2) q3,RS 1 (bd 4),RS 2 (bd 4)] [] q4,
   .If (W8 (bd 5)) [.Assign [.Tuple [.Name "_law_figures" a1,.Name "_law_base" a2] k a3] (.Subscript (.List UT q5) (.Call (.Name "_law_take" a4) [.Name "_law_pot_here" a5,.Constant (.int 9) j a6] [] a7) q6) q7,RS 1 (bd 5),RS 2 (bd 5)] [] q8,bd 6,bd 7]/\E3 Bq=some PN/\E3 UT=some RT/\PN=[[5],[8],[2,2],[3,3],[3,4],[2,3,4],[3,3,3],[2,2,2,2,2],[4,8]]/\RT=[[1,3],[1,5],[2,2],[2,3],[2,4],[2,5],[3,3],[4,2],[5,2]]:=
 ⟨_,_,_,_,_,_,_,_,_,_,_,_,_,_,_,_,_,_,_,[[5],[8],[2,2],[3,3],[3,4],[2,3,4],[3,3,3],[2,2,2,2,2],[4,8]],[[1,3],[1,5],[2,2],[2,3],[2,4],[2,5],[3,3],[4,2],[5,2]],rfl,by decide +kernel,by decide +kernel,rfl,rfl⟩
theorem LQ{f:Addr}{fd:FuncData}(F:hW K "_law_net" "_law_net" E4 f fd)(B:Bl mg)(D:cX P w K mg base bE 1 "_law_take" ["_law_pot_here","_law_many"] eT)(OR:cX P w K mg base bE 2 "_law_order" ["_law_pot_here","_law_many"] mr)(TR:cX P w K mg base bE 2 "_law_tree" ["_law_pot_here","_law_n"] lz)(ME:cX P w K mg base bE 3 "_law_mesh" ["_law_pot_here","_law_n"] lz)(BO:cX P w K mg base bE 1 "_law_both" ["_law_pairs"] zA)(BX:cX P w K mg base bE 1 "_law_box" ["_law_sides"] ES)(WO:cX P w K mg base bE 1 "_law_words" ["_law_figures","_law_base"] u7)(OW:cX P w K mg base bE 3 "_law_one_way" ["_law_pot_here","_law_n"] EV):bY P w K mg base bE 4 f fd ["_law_pot_here"] E7:=by
 refine F.ok j5 (fun vs H Q E h=>?_) (fun eQ A outer s H vs Q E hr h=>?_)
 .obtain⟨p,rfl,_⟩:=h;rfl
 .obtain⟨p,rfl,hp,q⟩:=h;have h1:dk 1 _:=hr.mono (by decide);have h2:dk 2 _:=hr.mono (by decide);obtain⟨Bq,q1,q2,q3,q4,UT,a1,a2,k,a3,a4,a5,j,a6,a7,q5,q6,q7,q8,PN,RT,eb,UU,UV,PP,PQ⟩:=E8;rw[eb];refine'⟨_,(ag (aH (i:=1) j5.nd rfl aM (aL D h1 aR (aa (pv 0) (aa av ae))))
   (ag (aH (i:=2) j5.nd rfl aM (bg di av (aL D h1 aR (aa (pv 0) (aa (aJ aF (b8 (aa av (aa av (aa av ae)))) (aL D h1 aR (aa (pv 0) (aa av ae))) (fun _ _=>rfl)) ae)))))
   (ag (cf (aI jh (pv 1) av (aP _)) (ap (aX (bP (aa (pv 2) (aa (aL BO h1 aR (aa (aL TR h2 aR (aa (pv 0) (aa (pv 2) ae))) ae)) ae))))) a_)
   (ag (cf (aI eJ (pv 1) av (aP _)) (ag (aH (i:=3) j5.nd rfl bo (aL OR h2 aR (aa (pv 0) (aa (aE (nr rfl) (by rfl) B.max pY (aa av (aa (pv 2) ae))) ae))))
    (ap (aX (bP (aa (aE aD (by rfl) B.len cu (aa (pv 3) ae)) (aa (aL BO h1 aR (aa ?c1 ae)) ae)))))) a_)
   (ag (cf (aI eJ (pv 1) av (aP _)) (ag (aH (i:=4) j5.nd rfl aM (b8 (u9 UU)))
    (ag (cW (aL BX h1 aR (aa (aJ aF (pv 4) (aL D h1 aR (aa (pv 0) (aa av ae))) (fun _ _=>rfl)) ae)) (eG (n:=2) rfl (aW (aq (i:=2) j5.nd rfl aM) (aW (aq (i:=5) j5.nd rfl aM) cS))))
    (ap (aX (bP (aa (pv 2) (aa (aL BO h1 aR (aa (pv 5) ae)) ae))))))) a_)
   (ag (cf (aI eJ (pv 1) av (aP _)) (ag (cW (aJ aF (b8 (u9 UV)) (aL D h1 aR (aa (pv 0) (aa av ae))) (fun _ _=>rfl)) (eG (n:=2) rfl (aW (aq (i:=6) j5.nd rfl aM) (aW (aq (i:=7) j5.nd rfl aM) cS))))
    (ag (cW (aL WO h1 aR (aa (pv 6) (aa (pv 7) ae))) (eG (n:=2) rfl (aW (aq (i:=2) j5.nd rfl aM) (aW (aq (i:=5) j5.nd rfl aM) cS))))
    (ap (aX (bP (aa (pv 2) (aa (aL BO h1 aR (aa (pv 5) ae)) ae))))))) a_)
   (ag (cf (aI eJ (pv 1) av (aP _)) (ap (aX (bP (aa (pv 2) (aa (aL BO h1 aR (aa (aL ME hr aR (aa (pv 0) (aa (pv 2) ae))) ae)) ae))))) a_)
   (ap (aX (bP (aa (pv 2) (aa (aL OW hr aR (aa (pv 0) (aa (pv 2) ae))) ae)))))))))))),?_⟩
  case c1=>
   refine' bJ (g:=(bp 0)) (te:=(nA (br (dW (jo K) (aK 1) (aK 0)) (br (dW (jo K) (aK 1) (dW (rn fun i j=>.int (i-j)) (aK 0) (tC (.int 1)))) eY)))) (NB:=["_law_k","_law_order_here"]) (src:=[none,some 3]) (bf (by kernel_rfl)) rfl (aY rfl B.range (aa (aE aD (by rfl) B.len cu (aa (pv 3) ae)) ae)) ?g ?t ?e;case g=>exact fun cl C s₃ H₃ fp=>(aq (i:=0) o_ rfl aM bo)
   case t=>exact fun cl C s₃ H₃ fp=>ce
   case e=>exact fun cl C s₃ H₃ fp=>(bP (aa (aJ aF (pv 1) (pv 0) (fun _ _=>rfl)) (aa (aJ aF (pv 1) (bg k8 (pv 0) av) (fun _ _=>rfl)) ae)))
  refine⟨_,rfl,p,8,rfl,by decide,by decide,hp,fun wy H1 hw s1 vC=>⟨_,rfl,by show 3<=sizeLine;decide,fun L hL=>⟨_,rfl,p,3,rfl,by decide,by decide,vC.same (ai hL),fun d1 H2 hd1 s2 uL=>?_⟩⟩⟩;have nL:L≠p:=vC.ne hL;obtain⟨mm,em,mm1,mm2⟩:∃m:Nat,([V.int 3,.int 9,.int 31]:List V)[d1]?=some (.int m)/\0<m/\m<=31:=by
   match d1,hd1 with
   |0,_=>exact⟨3,rfl,by decide,by decide⟩
   |1,_=>exact⟨9,rfl,by decide,by decide⟩
   |2,_=>exact⟨31,rfl,by decide,by decide⟩
  refine⟨L,_,_,_,rfl,rfl,aQ.of (s2 _ _ ab nL),ao em,p,mm,rfl,mm1,by lia,uL,fun d2 H3 RK s3 mv=>?_⟩;have e2:(2:Int)+(d2:Int)=((2+d2:Nat):Int):=by lia
  refine⟨_,_,rfl,rfl,?_⟩;change bp 2 (V.int ((2:Int)+(d2:Int))) _ _ _;rw[e2];have n1:2<=2+d2:=by lia
  have n2:2+d2<=32:=by lia
  generalize 2+d2=n at *;have sH:au p H H3:=((s1.trans (au.of (ai hL))).trans s2).trans s3;clear s1 s2 s3 vC uL hL nL;refine⟨_,rfl,_,_,rfl,rfl,_,rfl,d9 (fun c=>?_) (fun c0=>?_)⟩
  .refine⟨_,rfl,_,rfl,_,rfl,p,n,rfl,n1,n2,mv,fun r zs H4 s4 oa Lo E9 po F4 _=>?_⟩;have zl:zs.length<=256:=by have:=F4.len;rw[ik,bv] at this;lia
   refine⟨r,zs,rfl,E9,po,by lia,fun r2 n6 H5 s5 JE LR AK e5=>⟨by show 2<=sizeLine;decide,fun t ht=>?_⟩⟩;exact q.go ((sH.trans s4).trans (au.of s5)) (oa.same s5) ((sH.trans s4).free oa.full JE) LR AK (by rw[e5];exact F4) ht
  refine⟨_,rfl,rfl,_,rfl,d9 (fun c=>?_) (fun c1=>?_)⟩
  .have em:(if (3:Int)<(n:Int) then (n:Int) else 3)=((max 3 n:Nat):Int):=by split <;> lia
   refine⟨_,rfl,_,rfl,3,_,rfl,p,max 3 n,by rw[em];rfl,by lia,mv,fun O xs H4 s4 oa hO UW pm=>?_⟩;have m1:3<=max 3 n:=by lia
   have m2:max 3 n<=32:=by lia
   generalize max 3 n=m at *;have xl:xs.length=m:=by have:=pm.length_eq;rwa [bR] at this
   refine⟨_,rfl,O,_,rfl,.inl (aQ.of UW),_,rfl,O,_,rfl,.inl (aQ.of UW),(((NV xs).length:Nat):Int),rfl,by lia,by rw[aN];lia,fun R hR=>?_⟩;rw[iE,aN];refine mh (lo:=0) (n:=xs.length) (fun k=>nY (ci (xs.getD (pk xs.length k) 0),ci (xs.getD k 0))) (fun σ=>∃x,σ=[x,some (.ref O)]) hR (by lia) ⟨_,rfl⟩ ?_ ?_
   .rintro k σ H5 R' Kf hk ⟨x,rfl⟩ my kt;have W9:=my _ _ UW;rw[dz];refine⟨_,rfl,_,rfl,O,_,_,_,rfl,rfl,aQ.of W9,ao (eN hk),_,rfl,_,rfl,_,_,rfl,rfl,O,_,_,_,rfl,rfl,aQ.of W9,HK hk,by show 2<=sizeLine;decide,fun t ht=>?_⟩;exact kt _ _ ⟨_,rfl⟩ ht
   intro zs H5 s5 GR AK RP _;have ez:zp zs=(qM xs).map nY:=by rw[RP];unfold qM;rw[cy];rfl
   have zl:zs.length<=32:=by rw[<-bv,RP,aO,bR];lia
   refine⟨R,zs,rfl,GR,AK,by lia,fun r2 n6 H6 s6 Lr E_ Cw e6=>⟨by show 2<=sizeLine;decide,fun t ht=>?_⟩⟩;rw[xl];refine q.go ((sH.trans s4).trans (au.of (s5.trans s6))) ((oa.same s5).same s6) ((sH.trans s4).free oa.full (s5.free Lr)) E_ Cw ?_ ht;rw[e6,ez];exact(wM m1 m2 pm).perm wN
  refine⟨_,rfl,rfl,_,rfl,d9 (fun c=>?_) (fun c2=>?_)⟩
  .refine zE (cs:=PN) (by rw[PP];decide) fun as H4 s4 la ea=>⟨?_,fun S hS=>?_⟩
   .rw[aO,la,PP];show 9<=sizeLine;decide
   have sS:=ai (o:=.lst (as.map V.ref)) hS;refine⟨_,rfl,_,rfl,p,9,rfl,by decide,by decide,(mv.same s4).same sS,fun d H5 hd s5 xh=>?_⟩;have UX:as[d]?=some (as.getD d 0):=by rw[bb,bO (by rw[la,PP];exact hd)];rfl
   have nS:S≠p:=(mv.same s4).ne hS;have ga:=ea d (by rw[PP];exact hd);have PR:=s5 _ _ (sS _ _ ga) ((mv.same s4).neT ga);have sd:∀d,d<9->ER (([[5],[8],[2,2],[3,3],[3,4],[2,3,4],[3,3,3],[2,2,2,2,2],[4,8]]:List (List Nat)).getD d []):=by unfold ER;decide
   have sd:=sd d hd;rw[<-PP] at sd;refine⟨S,_,_,_,rfl,rfl,aQ.of (s5 _ _ ab nS),ao (by rw[bZ,UX];rfl),_,_,rfl,PR,sd,fun t r zs H6 s6 ht Lr UY E_ Cw e6=>?_⟩;refine⟨t,_,rfl,bD.of UY,rfl,_,_,rfl,_,_,rfl,rfl,?_⟩;generalize xb:List.getD PN d []=ns at sd PR e6;clear ga ea;have Fb:=Ef (fun x hx=>(sd.2.2.1 x hx).1) (by rintro rfl;exact absurd sd.1 (by decide)) sd.2.2.2;have zl:zs.length<=256:=by have:=Fb.len;rw[<-e6,ik,bv] at this;lia
   refine⟨_,rfl,_,rfl,r,zs,rfl,E_,Cw,by lia,fun r2 n6 H7 s7 Pk LU HG e7=>⟨by show 2<=sizeLine;decide,fun t ht=>?_⟩⟩;refine q.go ((((sH.trans (au.of (s4.trans sS))).trans s5)).trans (au.of (s6.trans s7))) ((xh.same s6).same s7) (((sH.trans (au.of (s4.trans sS))).trans s5).free xh.full (s6.free Pk)) LU HG ?_ ht;rw[e7,e6];exact Fb
  refine⟨_,rfl,rfl,_,rfl,d9 (fun c=>?_) (fun c3=>?_)⟩
  .refine zE (cs:=RT) (by rw[PQ];decide) fun as H4 s4 la ea=>⟨?_,fun S hS=>?_⟩
   .rw[aO,la,PQ];show 9<=sizeLine;decide
   have sS:=ai (o:=.lst (as.map V.ref)) hS;refine⟨_,rfl,p,9,rfl,by decide,by decide,(mv.same s4).same sS,fun d H5 hd s5 xh=>?_⟩;have UX:as[d]?=some (as.getD d 0):=by rw[bb,bO (by rw[la,PQ];exact hd)];rfl
   have nS:S≠p:=(mv.same s4).ne hS;have ga:=ea d (by rw[PQ];exact hd);have PR:=s5 _ _ (sS _ _ ga) ((mv.same s4).neT ga);have sd:∀d,d<9->∃f b:Nat,([[1,3],[1,5],[2,2],[2,3],[2,4],[2,5],[3,3],[4,2],[5,2]]:List (List Nat)).getD d []=[f,b]/\1<=f/\f<=5/\2<=b/\b<=5/\b ^ f<=32:=fun d hd=>
    ⟨(([[1,3],[1,5],[2,2],[2,3],[2,4],[2,5],[3,3],[4,2],[5,2]]:List (List Nat)).getD d []).getD 0 0,(([[1,3],[1,5],[2,2],[2,3],[2,4],[2,5],[3,3],[4,2],[5,2]]:List (List Nat)).getD d []).getD 1 0,by revert d;decide⟩
   obtain⟨fg,b,es,f1,f2,b1,b2,hm⟩:=sd d hd;rw[PQ,es] at PR;refine⟨S,_,_,_,rfl,rfl,aQ.of (s5 _ _ ab nS),ao (by rw[bZ,UX];rfl),_,_,rfl,bD.of PR,rfl,_,_,rfl,_,_,rfl,rfl,?_⟩;refine⟨_,rfl,_,rfl,fg,b,rfl,f1,f2,b1,b2,hm,fun t r zs H6 s6 ht Lr UY E_ Cw e6=>?_⟩;refine⟨t,_,rfl,bD.of UY,rfl,_,_,rfl,_,_,rfl,rfl,?_⟩;have Fb:=(ze f1 f2 b1 b2 hm).1;have zl:zs.length<=256:=by have:=Fb.len;rw[<-e6,ik,bv] at this;lia
   refine⟨_,rfl,_,rfl,r,zs,rfl,E_,Cw,by lia,fun r2 n6 H7 s7 Pk LU HG e7=>⟨by show 2<=sizeLine;decide,fun t ht=>?_⟩⟩;refine q.go ((((sH.trans (au.of (s4.trans sS))).trans s5)).trans (au.of (s6.trans s7))) ((xh.same s6).same s7) (((sH.trans (au.of (s4.trans sS))).trans s5).free xh.full (s6.free Pk)) LU HG ?_ ht;rw[e7,e6];exact Fb
  refine⟨_,rfl,rfl,_,rfl,d9 (fun c=>?_) (fun c4=>?_)⟩
  .refine⟨_,rfl,_,rfl,_,rfl,p,n,rfl,n1,n2,mv,fun r zs H4 s4 oa Lo E9 po F4 _=>?_⟩;have zl:zs.length<=256:=by have:=F4.len;rw[ik,bv] at this;lia
   refine⟨r,zs,rfl,E9,po,by lia,fun r2 n6 H5 s5 JE LR AK e5=>⟨by show 2<=sizeLine;decide,fun t ht=>?_⟩⟩;exact q.go ((sH.trans s4).trans (au.of s5)) (oa.same s5) ((sH.trans s4).free oa.full JE) LR AK (by rw[e5];exact F4) ht
  refine⟨_,rfl,_,rfl,_,rfl,p,n,rfl,n1,n2,mv,fun r zs H4 s4 oa Lo E9 po F4=>⟨by show 2<=sizeLine;decide,fun t ht=>?_⟩⟩;exact q.go (sH.trans s4) oa (sH.free mv.full Lo) E9 po F4 ht
end
abbrev zF:Stmt:=i5 37
theorem pe:(["_law_step","_law_house","_law_n"]:List Str).Nodup:=by decide +kernel
theorem j6:(["_law_there","_law_house","_law_known"]:List Str).Nodup:=by decide +kernel
theorem HL{lo:Int}{n:Nat}{D:Addr}{g:TG}{tt:TT}{te:TE}{dU:Hp->Prop}{σB:St}{H0:Hp}(G:Nat->V)(bq:St->Prop)(hD:H0 D=none)(hn:n<=1000)(h0:bq σB)(hs:∀x σ H (R:V->St->Hp->Prop) (Kf:St->Hp->Prop),x<n->bq σ->aG H0 H->(∀σ2 H2,bq σ2->aG H H2->R (G x) σ2 H2)->g (.int (lo+(x:Nat))) σ H fun σ2 H2=>tt σ2 H2 fun b H3=>if b=true then te σ2 H3 fun v H4=>R v σ2 H4 else Kf σ2 H3)(hd:∀H,aG H0 H->H D=some (.lst ((List.range n).map G))->dU H):fP (Cp lo n) g tt te D dU σB (upd H0 D (.lst [])):=by
 refine dD (fun i ys σ H=>bq σ/\aG H0 H/\H D=some (.lst ys)/\ys=(List.range i).map G) ⟨h0,ai hD,ab,rfl⟩ ?_ ?_
 .rintro i ys σ H Kt Kf hi ⟨sh,sm,dE,rfl⟩ kt kf;refine hs i σ H Kt Kf hi sh sm (fun σ2 H2 lr s2=>?_);refine kt _ _ _ (s2 _ _ dE) ?_ ⟨lr,bt (sm.trans s2) hD,ab,by rw[je,cq];rfl⟩;rw[aO,bR];exact cA (show i<1000 by lia) (by decide)
 .rintro ys σ H ⟨_,sm,dE,rfl⟩;exact hd H sm dE
theorem HM{β:Type}{K:PySem.W.Frag}{a D:Addr}{g:TG}{tt:TT}{te:TE}{dU:Hp->Prop}{σB:St}{H0:Hp}(ms:List β)(e:β->V)(c:β->Bool)(bq:St->Prop)(ha:H0 a=some (.lst (ms.map e)))(hD:H0 D=none)(hn:ms.length<=1000)(h0:bq σB)(hs:∀m σ H (Kt:V->St->Hp->Prop) (Kf:St->Hp->Prop),m∈ms->bq σ->aG H0 H->(∀σ2 H2,bq σ2->aG H H2->c m=true->Kt (e m) σ2 H2)->(∀σ2 H2,bq σ2->aG H H2->c m=false->Kf σ2 H2)->
   g (e m) σ H fun σ2 H2=>tt σ2 H2 fun b H3=>if b=true then te σ2 H3 fun v H4=>Kt v σ2 H4 else Kf σ2 H3)(hd:∀H,aG H0 H->H D=some (.lst ((ms.filter c).map e))->dU H):fP (A7 K a) g tt te D dU σB (upd H0 D (.lst [])):=by
 refine cK (xs:=ms.map e) (fun i ys σ H=>bq σ/\aG H0 H/\H D=some (.lst ys)/\ys=((ms.take i).filter c).map e) ⟨h0,ai hD,ab,rfl⟩ (fun i ys σ H _ z=>aQ.of (z.2.1 _ _ ha)) ?_ ?_
 .rintro i x ys σ H Kt Kf hx ⟨sh,sm,dE,rfl⟩ kt kf;rw[bZ] at hx;cases hz:ms[i]? with
  |none=>rw[hz] at hx;cases hx
  |some m=>
   rw[hz] at hx;obtain rfl:e m=x:=bW hx;have tk:ms.take (i+1)=ms.take i++[m]:=by rw[eC,hz];rfl
   refine hs m σ H Kt Kf (cm hz) sh sm (fun σ2 H2 lr s2 hc=>?_) (fun σ2 H2 lr s2 hc=>?_)
   .refine kt _ _ _ (s2 _ _ dE) ?_ ⟨lr,bt (sm.trans s2) hD,ab,by rw[tk,eH];simp[cQ,hc]⟩;rw[aO];exact eA (bw (dF _ _) (kO _ _)) (eA hn (by decide))
   .exact kf _ _ ⟨lr,sm.trans s2,s2 _ _ dE,by rw[tk,eH];simp[cQ,hc]⟩
 .rintro ys σ H ⟨_,sm,dE,rfl⟩;rw[aO,fA] at dE;exact hd H sm dE
def wK(u:Int×Int):List gE:=[.inl u.1,.inl u.2]
theorem wU{k:List gE}:∀ {ps:List TK} {m:List (List gE×V)},(gJ (cT m ps) k).isSome=true↔(gJ m k).isSome=true\/k∈ps.map fun p:TK=>p.1
 |[],m=>by unfold cT;simp
 |p::ps,m=>by
  have ih:=wU (k:=k) (ps:=ps) (m:=qD m p.1 p.2.2);rw[show cT m (p::ps)=cT (qD m p.1 p.2.2) ps from rfl,ih,DL];by_cases c:k=p.1
  .rw[am c];simp[c]
  .rw[aA c,eE];simp[c]
theorem HN{u:Int×Int}{ts:Ts}:wK u∈ts.map wK↔u∈ts:=by
 constructor
 .intro h;obtain⟨v,hv,e⟩:=bn.mp h;unfold wK at e;injection e with e1 e2;injection e2 with e2 _;rw[show u=v from ff (Sum.inl.inj e1).symm (Sum.inl.inj e2).symm];exact hv
 .exact fun h=>bn.mpr ⟨u,h,rfl⟩
theorem HP{n:Nat}{ts:Ts}(F:cg n ts){h:Nat}(hh:h<n):((List.range (n-1)).map fun s=>(h+(s+1)) % n).filter (fun o=>decide ((ci h,ci o)∈ts))=bh n ts h:=by
 unfold bh;obtain⟨m,rfl⟩:∃m,n=m+1:=⟨n-1,by lia⟩
 have e0:(h+0) % (m+1)=h:=iM hh;rw[mI,eE,cQ,cy,e0];have nt:¬ T ts h h:=fun z=>F.ne _ z rfl;rw[aA (fun z=>nt (cM z)),show m+1-1=m from rfl];exact List.filter_congr fun o _=>mS.mpr Iff.rfl
section
variable {P:Program} {w:World} {K:PySem.W.Frag} {mg:Str->Option Value} {base:Heap}
theorem mB:aS ["_law_n","_law_ties","_law_known","_law_found","_law_house","_law_round_it"] ["_law_n","_law_ties"] (az zF):=dB (by decide +kernel)
def u_:Sp:=fun vs H Q _=>∃ (n:Nat) (l:Addr) (zs:Zs),vs=[.int n,.ref l]/\H l=some (.lst (zr zs))/\PO H zs/\cg n (zp zs)/\∀ (r:Addr) (H':Hp),aG H H'->H r=none->bK H' (fun a=>H a=none) r n (bh n (zp zs))->Q (.ref r) H'
theorem Fa{f:Addr}{fd:FuncData}(F:hW K "_law_outs" "_law_outs" zF f fd)(B:Bl mg)(B2:Pn mg):bY P w K mg base bE 1 f fd ["_law_n","_law_ties"] u_:=by
 refine F.ok mB (fun vs H Q E h=>?_) (fun eQ A outer s H vs Q E hr h=>?_)
 .obtain⟨n,l,zs,rfl,_⟩:=h;rfl
 .obtain⟨n,l,zs,rfl,hl,po,Fi,q⟩:=h;have n1:=Fi.n1;have n2:=Fi.n2;have zl:zs.length<=256:=by have:=Fi.len;rwa [bv] at this
  refine'⟨_,(ag (aH (i:=2) mB.nd rfl bo (cJ (zx rfl hr.u) (by rfl) B2.dict PyProof.Rows.boot_dict (aa ?c1 ae)))
   (ag (aH (i:=3) mB.nd rfl aM (b8 ae))
   (ag (cn cZ rfl (aY rfl B.range (aa (pv 0) ae)) (aq (i:=4) mB.nd rfl bo)
    (ag (bL (i:=5) (g:=(bp 0)) (te:=(dW (rI (fun _ j=>0<j) fun i j=>.int (i % j)) (dW (rn fun i j=>.int (i+j)) (aK 1) (aK 0)) (aK 2))) (NB:=["_law_step","_law_house","_law_n"]) (src:=[none,some 4,some 0]) (bf (by kernel_rfl)) rfl (nq rfl B.range (aa av (aa (pv 0) ae))) ?g2 ?t2 ?e2 mB.nd rfl rfl rfl)
    (ap (cB (fO fw lG lF dO (pv 3) (aa ?c3 ae))))))
   (ap (aX (pv 3)))))),?_⟩
  case c1=>
   refine' bJ (g:=(bp 0)) (te:=(nA (br (aK 0) (br (tC (.bl true)) eY)))) (NB:=["_law_tie"]) (src:=[none]) (bf (by kernel_rfl)) rfl (bi (pv 1)) ?g ?t ?e;case g=>exact fun cl C s₃ H₃ fp=>(aq (i:=0) EU rfl aM bo)
   case t=>exact fun cl C s₃ H₃ fp=>ce
   case e=>exact fun cl C s₃ H₃ fp=>(bP (aa (pv 0) (aa lK ae)))
  case g2=>exact fun cl C s₃ H₃ fp=>(aq (i:=0) pe rfl aM bo)
  case t2=>exact fun cl C s₃ H₃ fp=>ce
  case e2=>exact fun cl C s₃ H₃ fp=>(bg gX (bg di (pv 1) (pv 0)) (pv 2))
  case c3=>
   refine' bJ (g:=(bp 0)) (tt:=(tB (OI (nA (br (aK 1) (br (aK 0) eY))) (aK 2)))) (te:=(aK 0)) (NB:=["_law_there","_law_house","_law_known"]) (src:=[none,some 4,some 2]) (bf (by kernel_rfl)) rfl (bi (pv 5)) ?g ?t ?e;case g=>exact fun cl C s₃ H₃ fp=>(aq (i:=0) j6 rfl aM bo)
   case t=>exact fun cl C s₃ H₃ fp=>cj (J6 (KR hr.u (bP (aa (pv 1) (aa (pv 0) ae))) (pv 2)))
   case e=>exact fun cl C s₃ H₃ fp=>(pv 0)
  refine⟨_,rfl,l,rfl,⟨_,aQ.of hl⟩,fun D1 mH=>?_⟩;refine cK (xs:=zr zs) (fun i ys σ H2=>(∃x,σ=[x])/\aG H H2/\H2 D1=some (.lst ys)/\∃as:List Addr,ys=as.map V.ref/\as.length=i/\∀j,j<i->∃z,zs[j]?=some z/\H2 (as.getD j 0)=some (.tup [.ref z.1,.bl true])) ⟨⟨_,rfl⟩,ai mH,ab,[],rfl,rfl,fun j hj=>absurd hj (mY _)⟩ (fun i ys σ H2 _ z=>aQ.of (z.2.1 _ _ hl)) ?_ ?_
  .rintro i x ys σ H2 Kt Kf hx ⟨⟨x',rfl⟩,sm,dE,as,rfl,al,ah⟩ kt kf;obtain⟨z,hz,rfl⟩:=nZ hx;have hi:i<zs.length:=(cN.mp hz).1;refine⟨_,rfl,by show 2<=sizeLine;decide,fun t ht=>?_⟩;have st:=ai (o:=.tup [.ref z.1,.bl true]) ht;have nD:D1≠t:=ak dE ht;refine kt _ _ _ (st _ _ dE) (by rw[aO,al];exact cA (show i<1000 by lia) (by decide)) ⟨⟨_,rfl⟩,bt (sm.trans st) mH,ab,as++[t],by rw[cq];rfl,by rw[cF,al];rfl,fun j hj=>?_⟩;by_cases c:j<i
   .obtain⟨z',e1,e2⟩:=ah j c;refine⟨z',e1,?_⟩;have e3:=st _ _ e2;rw[bb,h9 (by lia),<-bb,aj (by rintro e;rw[e,st _ _ dE] at e3;cases e3)];exact e3
   .obtain rfl:j=i:=by lia
    refine⟨z,hz,?_⟩;rw[bb,jq (by lia),al,ir];show (upd _ D1 _) t=_;rw[aj nD.symm];exact ab
  rintro ys σ H2 ⟨_,s2,fu,as,rfl,al,ah⟩;rw[cx] at al ah;refine⟨D1,as,zs.map fun z=>(wK z.2,z.1,V.bl true),rfl,fu,by rw[aO];exact al,fun i hi=>?_,by rw[aO];lia,fun Kn hK=>?_⟩
  .rw[aO] at hi;obtain⟨z,e1,e2⟩:=ah i hi;exact⟨wK z.2,z.1,.bl true,by rw[bZ,e1];rfl,e2,s2 _ _ (po z (cm e1))⟩
  have PU:∀u:Int×Int,(gJ (cT [] (zs.map fun z=>(wK z.2,z.1,V.bl true))) (wK u)).isSome=decide (u∈zp zs):=fun u=>by
   rw[ic,wU,cy,qb];have e:((fun p:TK=>p.1) ∘ fun z:Addr×Int×Int=>(wK z.2,z.1,V.bl true))=wK ∘ fun z:Addr×Int×Int=>z.2:=rfl;rw[e,<-cy];have:=HN (u:=u) (ts:=zp zs);unfold zp at this |-;rw[this];simp[gJ]
  have sK:=ai (o:=.dT (cT [] (zs.map fun z=>(wK z.2,z.1,V.bl true)))) hK;have hKK:(upd H2 Kn (.dT (cT [] (zs.map fun z=>(wK z.2,z.1,V.bl true))))) Kn=some (.dT (cT [] (zs.map fun z=>(wK z.2,z.1,V.bl true)))):=ab;generalize cT [] _=kd at *;refine⟨by show 0<=sizeLine;decide,fun R hR=>?_⟩;have s3:aG H _:=s2.trans sK;have hK3:=ai (o:=.lst []) hR _ _ hKK;have W_:=s3.free hR;have s4:=s3.trans (ai (o:=.lst []) hR);refine⟨_,rfl,(n:Int),rfl,by lia,by lia,cI (n:=n) (lo:=0) (fun i σ Hc=>(∃a b,σ=[some (.int n),some (.ref l),some (.ref Kn),some (.ref R),a,b])/\aG H Hc/\Hc Kn=some (.dT kd)/\∃bs:List Addr,Hc R=some (.lst (bs.map V.ref))/\(∀b∈bs,H b=none/\b≠R)/\Holds Hc bs i fun h=>.lst (NV (bh n (zp zs) h))) ⟨⟨_,_,rfl⟩,s4,hK3,[],ab,fun b hb=>(nomatch hb),Holds.nil⟩ ?_ ?_⟩
  .rintro i σ Hc hi ⟨⟨x4,x5,rfl⟩,sc,RU,bs,PV,fr,hb⟩;have nKR:Kn≠R:=by rintro rfl;rw[RU] at PV;cases PV
   rw[dz];refine⟨_,rfl,1,(n:Int),rfl,⟨by decide,by decide,by lia,by lia⟩,fun D2 fu=>?_⟩;rw[show ((n:Int)-1).toNat=n-1 by lia];refine HL (lo:=1) (n:=n-1) (fun s=>V.int (((i+(s+1)) % n:Nat):Int)) (fun σ=>∃x,σ=[x,some (.int (i:Nat)),some (.int n)]) fu (by lia) ⟨_,rfl⟩ ?_ ?_
   .rintro x σ H4 R' Kf hx ⟨x',rfl⟩ o9 kt;have e:((i:Int)+(1+(x:Int))) % (n:Int)=(((i+(x+1)) % n:Nat):Int):=by lia
    refine⟨_,rfl,_,rfl,_,_,rfl,rfl,_,rfl,_,_,rfl,rfl,(by show (0:Int)<(n:Int);lia),?_⟩;have:=kt [some (.int (1+(x:Int))),some (.int (i:Nat)),some (.int n)] H4 ⟨_,rfl⟩ (aG.refl _);rw[<-e] at this;exact this
   intro H4 s4 rJ;have HQ:H4 D2=some (.lst (((List.range (n-1)).map fun s=>(i+(s+1)) % n).map fun (x:Nat)=>V.int (x:Int))):=by rw[rJ,cy];rfl
   have pI:=s4 _ _ PV;refine⟨_,rfl,.inl ⟨rfl,_,aQ.of pI⟩,_,rfl,D2,rfl,⟨_,aQ.of HQ⟩,fun D3 kj=>?_⟩;refine HM ((List.range (n-1)).map fun s=>(i+(s+1)) % n) (fun (x:Nat)=>V.int (x:Int)) (fun o=>decide ((ci i,ci o)∈zp zs)) (fun σ=>∃x,σ=[x,some (.int (i:Nat)),some (.ref Kn)]) HQ kj (by rw[aO,bR];lia) ⟨_,rfl⟩ ?_ ?_
   .rintro m σ H5 Kt Kf hm ⟨x',rfl⟩ my kt kf;refine⟨_,rfl,_,rfl,by show 2<=sizeLine;decide,fun t ht=>?_⟩;have st:=ai (o:=.tup [.int (i:Int),.int (m:Int)]) ht;have hK5:=st _ _ (my _ _ (s4 _ _ RU));refine⟨_,rfl,Kn,_,rfl,DM.t (k:=wK (ci i,ci m)) hK5 ab,_,rfl,?_⟩;rw[PU];refine d9 (fun c=>?_) (fun c=>?_)
    .exact⟨_,rfl,kt _ _ ⟨_,rfl⟩ st c⟩
    .exact kf _ _ ⟨_,rfl⟩ st (by simpa using c)
   intro H5 s5 q0;rw[HP Fi hi] at q0;have GR:=s5 _ _ pI;have bl:bs.length=i:=hb.1;have Cv:D3≠R:=by rintro rfl;rw[pI] at kj;cases kj
   refine⟨R,_,_,rfl,rfl,GR,by rw[aO,bl];exact cA (show i<33 by lia) (by decide),⟨_,_,rfl⟩,bt ((sc.trans s4).trans s5) W_,?_,bs++[D3],by rw[ab,cq];rfl,fun b xa=>?_,?_⟩
   .rw[aj nKR];exact s5 _ _ (s4 _ _ RU)
   .rcases bS.mp xa with z|z
    .exact fr b z
    .rw[cE.mp z];exact⟨(sc.trans s4).free kj,Cv⟩
   .refine Holds.snoc (hb.mono fun j hj e=>?_) (by rw[aj Cv];exact q0);have e5:=s5 _ _ (s4 _ _ e);have hm:bs.getD j 0∈bs:=by rw[bb,bO (by lia)];exact dR _
    rw[aj (fr _ hm).2];exact e5
  .rintro σ Hc ⟨⟨x4,x5,rfl⟩,sc,RU,bs,PV,fr,hb⟩;exact⟨_,rfl,q R Hc sc W_ ⟨bs,PV,fun b xa=>(fr b xa).1,hb⟩⟩
end
abbrev zG:Stmt:=i5 38
theorem gv:(["_law_house","_law_home","_law_many","_law_outs_here"]:List Str).Nodup:=by decide +kernel
def oV:Option Nat->V
 |none=>.b_
 |some k=>.int (k:Int)
theorem au.put{p a:Addr}{H H':Hp}{o:HO}(s:au p H H')(e:H a=none):au p H (upd H' a o):=fun b o' h n=>by
 rw[aj (ak h e)];exact s _ _ h n
section
variable {P:Program} {w:World} {K:PySem.W.Frag} {mg:Str->Option Value} {base:Heap}
theorem gf:aS ["_law_pot_here","_law_n","_law_outs_here","_law_many","_law_homes","_law_stand_here","_law_crowd","_law_k","_law_home","_law_some","_law_house"] ["_law_pot_here","_law_n","_law_outs_here"] (az zG):=dB (by decide +kernel)
structure va(n:Nat)(ts:Ts)(homes:List Nat)(st:List (Option Nat)):Prop where
 len:homes.length=st.length
 le:st.length<=16
 hs:∀x∈homes,x<n
 ss:∀y,some y∈st->y<n
 RV:∀y,y<n->st.count (some y)<=(bh n ts y).length
 ne:∀j y,st.getD j none=some y->homes.getD j 0≠y
def vc:Sp:=fun vs H Q _=>∃ (p:Addr) (n:Nat) (r:Addr) (ts:Ts) (L:Addr->Prop),vs=[.ref p,.int n,.ref r]/\2<=n/\n<=32/\bu H p/\bK H L r n (bh n ts)/\L r/\¬ L p/\
 ∀ (t a b:Addr) (homes:List Nat) (st:List (Option Nat)) (H':Hp),au p H H'->bu H' p->H' t=some (.tup [.ref a,.ref b])->H' a=some (.tup (NV homes))->H' b=some (.tup (st.map oV))->va n ts homes st->Q (.ref t) H'
theorem Fc{f:Addr}{fd:FuncData}(F:hW K "_law_stand" "_law_stand" zG f fd)(B:Bl mg)(D:cX P w K mg base bE 1 "_law_take" ["_law_pot_here","_law_many"] eT):bY P w K mg base bE 2 f fd ["_law_pot_here","_law_n","_law_outs_here"] vc:=by
 refine F.ok gf (fun vs H Q E h=>?_) (fun eQ A outer s H vs Q E hr h=>?_)
 .obtain⟨p,n,r,ts,L,rfl,_⟩:=h;rfl
 .obtain⟨p,n,r,ts,L,rfl,n1,n2,hp,R0,Nm,JO,q⟩:=h;refine'⟨_,(ag (aH (i:=3) gf.nd rfl bo (bg uw (b8 (aa av ae)) (pv 1)))
   (ag (Kc (i:=4) (j:=5) rfl gf.nd rfl rfl (by decide) rfl rfl (aa (b8 ae) (aa (b8 ae) ae)) (by rfl))
   (ag (aH (i:=6) gf.nd rfl aM (aL D hr aR (aa (pv 0) (aa av ae))))
   (ag (cn cZ rfl (aY rfl B.range (aa (aL D hr aR (aa (pv 0) (aa av ae))) ae)) (aq (i:=7) gf.nd rfl aM)
    (ag (aH (i:=8) gf.nd rfl bo (aL D hr aR (aa (pv 0) (aa (pv 1) ae))))
    (ag (bL (i:=9) (g:=(bp 0)) (tt:=(J7 (eK (dW (VT) (aK 0) (aK 1))) (eK (dW (rn fun i j=>.bl (decide (i<j))) (dW (jo K) (aK 2) (aK 0)) (Ji (fun xs H Q=>∃p ys,xs=[V.ref p]/\(aQ K H p ys\/bD K H p ys)/\Q (.int ys.length) H) (br (dW (jo K) (aK 3) (aK 0)) eY)))))) (te:=(aK 0)) (NB:=["_law_house","_law_home","_law_many","_law_outs_here"]) (src:=[none,some 8,some 3,some 2]) (bf (by kernel_rfl)) rfl (aY rfl B.range (aa (pv 1) ae)) ?g1 ?t1 ?e1 gf.nd rfl rfl rfl)
    (ag (cf (aI eJ (pv 6) av (aP _)) (ap (aH (i:=9) gf.nd rfl aM (lR z8 (pv 9) pB (pC av)))) a_)
    (ag (aH (i:=10) gf.nd rfl aM eR)
    (ag (cf (PW.pt (jH (aI (yQ (e:=iX) hr.u) (pv 9) (b8 ae) (aP _)) (j9 (aI vP (aL D hr aR (aa (pv 0) (aa av ae))) av (aP _))))) (ag (aH (i:=10) gf.nd rfl aM (aJ aF (pv 9) (aL D hr aR (aa (pv 0) (aa (aE aD (by rfl) B.len cu (aa (pv 9) ae)) ae))) (fun _ _=>rfl)))
     (ap (cW (bg di (aJ aF (pv 3) (pv 10) (fun _ _=>rfl)) av) (fX (pv 3) (pv 10) dt)))) a_)
    (ag (cB (fO fw lG lF dO (pv 4) (aa (pv 8) ae)))
    (ap (cB (fO fw lG lF dO (pv 5) (aa (pv 10) ae)))))))))))
   (ap (aX (bP (aa (cJ dM (by rfl) B.tup pR (aa (pv 4) ae)) (aa (cJ dM (by rfl) B.tup pR (aa (pv 5) ae)) ae))))))))),?_⟩
  case g1=>exact fun cl C s₃ H₃ fp=>(aq (i:=0) gv rfl aM bo)
  case t1=>exact fun cl C s₃ H₃ fp=>cj (PW.pt (jH (aI rV (pv 0) (pv 1) (aP _)) (j9 (aI jh (aJ aF (pv 2) (pv 0) (fun _ _=>rfl)) (aE aD (by rfl) B.len cu (aa (aJ aF (pv 3) (pv 0) (fun _ _=>rfl)) ae)) (aP _)))))
  case e1=>exact fun cl C s₃ H₃ fp=>(pv 0)
  refine⟨by show 1<=sizeLine;decide,fun L1 uM=>⟨_,rfl,L1,_,_,rfl,rfl,ab,by lia,by lia,by rw[iE,kC];exact bw (show 1*n<=32 by lia) (by decide),fun M hM=>?_⟩⟩;rw[iE,jZ];have eM:List.replicate n (V.int 0)=NV (List.replicate n 0):=by unfold NV;rw[xP];rfl
  rw[eM];refine⟨by show 0<=sizeLine;decide,fun Hs PX=>⟨by show 0<=sizeLine;decide,fun St Nn=>⟨_,_,rfl,?_⟩⟩⟩;have s1:=ai (o:=.lst [.int 0]) uM;have s2:=s1.trans (ai (o:=.lst (NV (List.replicate n 0))) hM);have s3:=s2.trans (ai (o:=.lst []) PX);have s4:=s3.trans (ai (o:=.lst []) Nn);have fM:=s1.free hM;have fH:=s2.free PX;have fS:=s3.free Nn;have gM:=ai (o:=.lst []) Nn _ _ (ai (o:=.lst []) PX _ _ (ab (H:=upd H L1 (.lst [.int 0])) (a:=M) (o:=.lst (NV (List.replicate n 0)))));have gH:=ai (o:=.lst []) Nn _ _ (ab (H:=upd (upd H L1 (.lst [.int 0])) M (.lst (NV (List.replicate n 0)))) (a:=Hs) (o:=.lst []));have gS:=ab (H:=upd (upd (upd H L1 (.lst [.int 0])) M (.lst (NV (List.replicate n 0)))) Hs (.lst [])) (a:=St) (o:=.lst []);have Xa:M≠Hs:=ak ab PX;have Xb:M≠St:=ak (ai PX _ _ ab) Nn;have Xc:Hs≠St:=ak ab Nn;have FV:=hp.ne fM;have LV:=hp.ne fH;have LW:=hp.ne fS;generalize upd (upd (upd (upd H L1 _) M _) Hs _) St _=H1 at *;have vC:=hp.same s4;refine⟨_,rfl,p,2,rfl,by decide,by decide,vC,fun cr H2 Wg s5 uL=>⟨_,rfl,p,17,rfl,by decide,by decide,uL,fun d H3 hd s6 mv=>⟨(d:Int),rfl,by lia,by lia,?_⟩⟩⟩;refine cI (n:=d) (lo:=0) (fun i σ Hc=>∃ (ms homes:List Nat) (st:List (Option Nat)),(∃a b c e,σ=[some (.ref p),some (.int n),some (.ref r),some (.ref M),some (.ref Hs),some (.ref St),some (.int (cr:Int)),a,b,c,e])/\au p H Hc/\bu Hc p/\Hc M=some (.lst (NV ms))/\ms.length=n/\Hc Hs=some (.lst (NV homes))/\Hc St=some (.lst (st.map oV))/\homes.length=i/\st.length=i/\(∀x∈homes,x<n)/\(∀j y,st.getD j none=some y->homes.getD j 0≠y)/\(∀y,some y∈st->y<n)/\∀y,y<n->st.count (some y)=ms.getD y 0/\ms.getD y 0<=(bh n ts y).length)
   ⟨List.replicate n 0,[],[],⟨_,_,_,_,rfl⟩,((au.of s4).trans s5).trans s6,mv,s6 _ _ (s5 _ _ gM FV) FV,jt,s6 _ _ (s5 _ _ gH LV) LV,s6 _ _ (s5 _ _ gS LW) LW,rfl,rfl,fun x hx=>(nomatch hx),(fun j y e=>by simp at e),fun y hy=>(nomatch hy),fun y hy=>by rw[bb,pS,am hy];exact⟨rfl,dh _⟩⟩ ?_ ?_
  .rintro i σ Hc hi ⟨ms,homes,st,⟨x7,x8,x9,PY,rfl⟩,sc,jj,Lz,ml,RW,RX,Cu,KA,Lh,Ps,Li,PZ⟩;refine⟨_,rfl,_,rfl,p,n,rfl,by lia,by lia,jj,fun home H4 P0 s7 oa=>?_⟩;have Ce:=sc.trans s7;have UZ:=s7 _ _ Lz FV;have R4:bK H4 L r n (bh n ts):=R0.keep Nm fun b o l e=>Ce b o e fun z=>JO (z ▸ l);obtain⟨bs,b1,b2,b3⟩:=R4;refine⟨_,rfl,(n:Int),rfl,by lia,by lia,fun D1 mH=>?_⟩;refine mx (lo:=0) (n:=n) (fun x=>decide (x≠home)&&decide (ms.getD x 0<(bh n ts x).length)) (fun σ=>∃a,σ=[a,some (.int (home:Int)),some (.ref M),some (.ref r)]) mH (by lia) ⟨_,rfl⟩ ?_ ?_
   .rintro x σ H5 Kt Kf hx ⟨a',rfl⟩ my kt kf;rw[dz] at kt |-;refine⟨_,rfl,_,rfl,rfl,_,rfl,?_⟩;refine d9 (fun c=>?_) (fun c=>?_)
    .have c:x≠home:=by have:=c;simp at this;lia
     have gb:(bs.map V.ref)[x]?=some (.ref (bs.getD x 0)):=by
      rw[bZ,bb,bO (by rw[b3.1];exact hx)];rfl
     refine⟨_,rfl,_,rfl,M,_,_,_,rfl,rfl,aQ.of (my _ _ UZ),ao (eN (by lia)),_,rfl,_,rfl,r,_,_,_,rfl,rfl,aQ.of (my _ _ b1),ao gb,_,_,rfl,.inl (aQ.of (my _ _ (b3.2 x hx))),_,_,rfl,rfl,_,rfl,?_⟩;rw[aN];refine d9 (fun c2=>?_) (fun c2=>?_)
     .have c2:=cM c2;exact⟨_,rfl,kt _ _ ⟨_,rfl⟩ (aG.refl _) (by rw[decide_eq_true c,decide_eq_true (show ms.getD x 0<(bh n ts x).length by lia)];rfl)⟩
     .exact kf _ _ ⟨_,rfl⟩ (aG.refl _) (by rw[cY (show ¬ ms.getD x 0<(bh n ts x).length from fun z=>c2 (decide_eq_true (by lia))),tX])
    .have c:x=home:=by have:=c;simp at this;lia
     refine dQ (kf _ _ ⟨_,rfl⟩ (aG.refl _) (by simp[c]))
   intro H5 s8 q0;have e0:∀c:Nat->Bool,(((List.range n).filter c).map fun (x:Nat)=>V.int (0+(x:Int)))=NV ((List.range n).filter c):=fun c=>h_ fun x _=>by rw[dz]
   rw[e0] at q0;have EK:∀x∈(List.range n).filter (fun x=>decide (x≠home)&&decide (ms.getD x 0<(bh n ts x).length)),x<n/\ms.getD x 0<(bh n ts x).length/\x≠home:=fun x hx=>⟨bH.mp (bA.mp hx).1,cM (tw.mp (bA.mp hx).2).2,cM (tw.mp (bA.mp hx).2).1⟩
   have U0:((List.range n).filter (fun x=>decide (x≠home)&&decide (ms.getD x 0<(bh n ts x).length))).length<=32:=bw (dF _ _) (by rw[bR];exact n2);generalize (List.range n).filter _=fs at *;have U1:=Ce.trans (au.of s8);have xh:=oa.same s8;have UD:=s8 _ _ UZ;have hH5:=s8 _ _ (s7 _ _ RW LV);have hS5:=s8 _ _ (s7 _ _ RX LW);have fD1:=Ce.free oa.full mH;clear s7 s8 Lz RW RX UZ b1 b2 b3 jj sc;dsimp only;refine me (fun σ H6=>∃ (S:Addr) (fs:List Nat),(∃a,σ=[some (.ref p),some (.int n),some (.ref r),some (.ref M),some (.ref Hs),some (.ref St),some (.int (cr:Int)),a,some (.int (home:Int)),some (.ref S),PY])/\aG H5 H6/\H6 S=some (.lst (NV fs))/\S≠p/\(∀x∈fs,x<n/\ms.getD x 0<(bh n ts x).length/\x≠home)/\fs.length<=32) ?_ ?_
   .rintro σ H6 ⟨S,fs,⟨x7,rfl⟩,s9,Nk,nS,EK,U0⟩;have sH6:=U1.trans (au.of s9);have Jx:=xh.same s9;have Pp:=s9 _ _ UD;have hH6:=s9 _ _ hH5;have U2:=s9 _ _ hS5;refine me (fun σ H7=>H7=H6/\σ=[some (.ref p),some (.int n),some (.ref r),some (.ref M),some (.ref Hs),some (.ref St),some (.int (cr:Int)),x7,some (.int (home:Int)),some (.ref S),some .b_]) ?_ (fun N hN=>hN _ _ ⟨rfl,rfl⟩);rintro σ H7 ⟨rfl,rfl⟩;refine me (fun σ H7=>∃ (o:Option Nat) (No:List Nat),(∃a,σ=[some (.ref p),some (.int n),some (.ref r),some (.ref M),some (.ref Hs),some (.ref St),some (.int (cr:Int)),a,some (.int (home:Int)),some (.ref S),some (oV o)])/\au p H H7/\bu H7 p/\H7 M=some (.lst (NV No))/\No.length=n/\H7 Hs=some (.lst (NV homes))/\H7 St=some (.lst (st.map oV))/\(∀y,o=some y->y<n/\home≠y)/\∀y,y<n->(st++[o]).count (some y)=No.getD y 0/\No.getD y 0<=(bh n ts y).length) ?_ ?_
    .rintro σ H7 ⟨o,No,⟨x7',rfl⟩,FX,FW,LN,ml',HB,EW,ho,U3⟩;refine⟨_,rfl,.inl ⟨rfl,_,aQ.of HB⟩,_,rfl,Hs,_,_,rfl,rfl,HB,by rw[aN];exact cA (show homes.length<33 by lia) (by decide),?_⟩;have RQ:(upd H7 Hs (.lst (NV homes++[.int (home:Int)]))) St=some (.lst (st.map oV)):=by rw[aj Xc.symm];exact EW
     refine⟨_,rfl,.inl ⟨rfl,_,aQ.of RQ⟩,_,rfl,St,_,_,rfl,rfl,RQ,by rw[aO];exact cA (show st.length<33 by lia) (by decide),?_⟩;refine⟨No,homes++[home],st++[o],⟨_,_,_,_,rfl⟩,au.put (au.put FX fH) fS,(FW.put LV.symm).put LW.symm,by rw[aj Xb,aj Xa];exact LN,ml',by rw[aj Xc,ab,i6],by rw[ab,cq];rfl,by rw[cF,Cu];rfl,by rw[cF,KA];rfl,fun x hx=>?_,fun j y e=>?_,fun y hy=>?_,U3⟩
     .rcases bS.mp hx with z|z
      .exact Lh x z
      .rw[cE.mp z];exact P0
     .rcases Nat.lt_trichotomy j st.length with c|c|c
      .rw[bb,h9 c,<-bb] at e;rw[bb,h9 (by lia),<-bb];exact Ps j y e
      .rw[bb,jq (by lia),c,ir] at e;rw[bb,jq (by lia),show j-homes.length=0 by lia];exact(ho y e).2
      .rw[bb,dG (by rw[cF];exact c)] at e;cases e
     .rcases bS.mp hy with z|z
      .exact Li y z
      .exact(ho y (cE.mp z).symm).1
    .intro N hN;refine⟨_,rfl,by show 0<=sizeLine;decide,fun E1 Hv=>?_⟩;have sE:=ai (o:=.lst []) Hv;refine⟨S,E1,_,[],rfl,rfl,aQ.of (sE _ _ Nk),aQ.of ab,fun i h1 h2=>absurd h2 (by simp),_,rfl,?_⟩;rw[am rfl,gL];have FX:=sH6.trans (au.of sE);have FW:=Jx.same sE;have LN:=sE _ _ Pp;have HB:=sE _ _ hH6;have EW:=sE _ _ U2;have Xd:=sE _ _ Nk;have Xe:∀y,y<n->(st++[none]).count (some y)=ms.getD y 0/\ms.getD y 0<=(bh n ts y).length:=fun y hy=>by rw[List.count_append,List.count_singleton,aA (by simp),ua];exact PZ y hy
     by_cases e:NV fs=[]
     .rw[decide_eq_true e];exact dQ (dQ (hN _ _ ⟨none,ms,⟨_,rfl⟩,FX,FW,LN,ml,HB,EW,fun y hy=>(nomatch hy),Xe⟩))
     .rw[cY e];have hl:0<fs.length:=by
       rcases fs with _|⟨x,xs⟩
       .exact absurd rfl e
       .simp
      refine iG ⟨_,rfl,p,6,rfl,by decide,by decide,FW,fun d6 H8 hd6 s8 rM=>⟨_,_,rfl,rfl,_,rfl,d9 (fun c=>?_) (fun c=>?_)⟩⟩
      .refine⟨_,rfl,_,rfl,_,rfl,S,_,rfl,.inl (aQ.of (s8 _ _ Xd nS)),p,_,rfl,by rw[aN];exact hl,by rw[aN];lia,rM,fun d7 H9 U4 P1 Cc=>?_⟩;rw[aN] at U4;have hv:fs[d7]?=some fs[d7]:=bO U4;have RM:fs.getD d7 0∈fs:=by rw[bb,hv];exact dR _
       refine⟨S,_,_,_,rfl,rfl,aQ.of (P1 _ _ (s8 _ _ Xd nS) nS),ao (eN U4),?_⟩;obtain⟨hyn,hyc,hye⟩:=EK _ RM;generalize fs.getD d7 0=y at *;have Nl:=(FX.trans s8).trans P1;have Xf:=P1 _ _ (s8 _ _ LN FV) FV;have JP:y<ms.length:=by lia
       refine⟨_,rfl,_,rfl,M,_,_,_,rfl,rfl,aQ.of Xf,ao (eN JP),_,_,rfl,rfl,_,rfl,_,rfl,M,_,(y:Int),y,rfl,rfl,Xf,de (by rw[aN];exact JP),?_⟩;refine hN _ _ ⟨some y,ms.set y (ms.getD y 0+1),⟨_,rfl⟩,au.put Nl fM,Cc.put FV.symm,?_,by rw[gg];exact ml,?_,?_,(fun z hz=>by cases hz;exact⟨hyn,hye.symm⟩),fun z hz=>?_⟩
       .rw[ab];exact congrArg (fun l=>some (HO.lst l)) (n9 (x:=ms.getD y 0+1))
       .rw[aj Xa.symm];exact P1 _ _ (s8 _ _ HB LV) LV
       .rw[aj Xb.symm];exact P1 _ _ (s8 _ _ EW LW) LW
       .rw[List.count_append,List.count_singleton,bb,mP];obtain⟨g1,g2⟩:=PZ z hz;by_cases c:y=z
        .subst c;rw[am (by simp),am rfl,am JP];exact⟨congrArg (·+1) g1,hyc⟩
        .rw[aA (by simp[c]),aA c,<-bb];exact⟨g1,g2⟩
      .exact hN _ _ ⟨none,ms,⟨_,rfl⟩,FX.trans s8,rM,s8 _ _ LN FV,ml,s8 _ _ HB LV,s8 _ _ EW LW,fun y hy=>(nomatch hy),Xe⟩
   .intro N hN;refine⟨_,rfl,rfl,_,rfl,d9 (fun c=>?_) (fun c=>hN _ _ ⟨D1,fs,⟨_,rfl⟩,aG.refl _,q0,hp.ne fD1,EK,U0⟩)⟩;refine⟨_,rfl,_,rfl,D1,_,rfl,aQ.of q0,fun S hS=>?_⟩;have e3:lS (NV fs) none (some 3)=NV (fs.take 3):=by rw[show (3:Int)=((3:Nat):Int) from rfl,zD];unfold NV;rw[yh]
    refine hN _ _ ⟨S,fs.take 3,⟨_,rfl⟩,ai hS,by rw[ab,e3],xh.ne hS,fun x hx=>EK x (ot hx),bw (kO _ _) U0⟩
  .rintro σ Hc ⟨ms,homes,st,⟨x7,x8,x9,PY,rfl⟩,sc,jj,Lz,ml,RW,RX,Cu,KA,Lh,Ps,Li,PZ⟩;refine⟨_,rfl,Hs,_,rfl,.inl ⟨aQ.of RW,fun a ha=>?_⟩⟩;have sa:=ai (o:=.tup (NV homes)) ha;refine⟨_,rfl,St,_,rfl,.inl ⟨aQ.of (sa _ _ RX),fun b hb=>⟨by show 2<=sizeLine;decide,fun t ht=>?_⟩⟩⟩;have sb:=ai (o:=.tup (st.map oV)) hb;have bj:=ai (o:=.tup [.ref a,.ref b]) ht;exact q t a b homes st _ (((sc.trans (au.of sa)).trans (au.of sb)).trans (au.of bj)) (((jj.same sa).same sb).same bj) ab (bj _ _ (sb _ _ ab)) (bj _ _ ab) ⟨by lia,by lia,Lh,Li,(fun y hy=>by rw[(PZ y hy).1];exact(PZ y hy).2),Ps⟩
end
theorem HR{xs:List Nat}:(NV xs).all dJ=true:=jc.mpr fun x hx=>by obtain⟨y,_,rfl⟩:=bn.mp hx;rfl
theorem c_{st:List (Option Nat)}{i:Nat}(h:i<st.length):(st.map oV)[i]?=some (oV (st.getD i none)):=by
 rw[bZ,bb,bO h];rfl
theorem bK.same{H H':Hp}{L:Addr->Prop}{l:Addr}{n:Nat}{r:Nat->List Nat}(R:bK H L l n r)(s:aG H H'):bK H' L l n r:=
 let ⟨bs,a,b,c⟩:=R
 ⟨bs,s _ _ a,b,c.mono fun j _ e=>s _ _ e⟩
theorem j7{bs:List Addr}{h:Nat}(hh:h<bs.length):(bs.map V.ref)[h]?=some (.ref (bs.getD h 0)):=by
 rw[bZ,bb,bO hh];rfl
abbrev zH:Stmt:=i5 39
theorem Fd:(["_law_row"]:List Str).Nodup:=by decide +kernel
theorem lA{cs:List Addr}{j:Nat}(h:j<cs.length):cs.getD j 0∈cs:=by rw[bb,bO h];exact dR _
theorem Fe{cs:List Addr}{i j:Nat}(nd:cs.Nodup)(hi:i<cs.length)(hj:j<cs.length)(ne:i≠j):cs.getD i 0≠cs.getD j 0:=by
 rw[bb,bO hi,bb,bO hj];exact fun e=>ne ((tQ nd).mp e)
theorem kn{n:Nat}{ts:Ts}{h:Nat}:(bh n ts h).length<=n:=by
 unfold bh;exact bw (dF _ _) (by rw[aO,bR];exact aU _)
theorem Ff{n:Nat}{ts:Ts}{h x:Nat}(n1:0<n)(hx:x∈bh n ts h):x<n:=by
 obtain⟨s,_,rfl⟩:=bn.mp (bA.mp hx).1;exact iu _ n1
theorem Fg{α:Type}[DecidableEq α]:∀ {a b:List α},a.Nodup->(∀x∈a,x∈b)->a.length<=b.length
 |[],b,_,_=>dh _
 |x::xs,b,hn,hs=>by
  obtain⟨h1,h2⟩:=fJ.mp hn;have hx:x∈b:=hs x bU;have:=Fg (b:=b.erase x) h2 fun y hy=>(xF (fun (e:y=x)=>h1 (e ▸ hy))).mpr (hs y (cU _ hy));rw[xt hx] at this;have:0<b.length:=tf hx;rw[dH];lia
theorem Fh{n:Nat}{ts:Ts}{h:Nat}(F:cg n ts)(hh:h<n):(bh n ts h).length=gu ts (ci h):=by
 have p:((bh n ts h).map fun (o:Nat)=>(ci h,ci o)).Perm (ts.filter fun t=>decide (t.1=ci h)):=by
  refine(List.perm_ext_iff_of_nodup (iD.mpr ((qP hh).imp fun {x y} q e=>q (dI (congrArg Prod.snd e)))) (F.nd.filter _)).mpr fun u=>?_;rw[bn,bA];constructor
  .rintro⟨o,ho,rfl⟩;exact⟨(dL F hh).mp ho,decide_eq_true rfl⟩
  .rintro⟨a,b⟩;have r:=F.rg u a;refine⟨u.2.toNat,(dL F hh).mpr ?_,?_⟩
   .show (ci h,ci u.2.toNat)∈ts;rw[show (ci h,ci u.2.toNat)=u from ff (cM b).symm (show ((u.2.toNat:Nat):Int)=u.2 by lia)];exact a
   .exact ff (cM b).symm (show ((u.2.toNat:Nat):Int)=u.2 by lia)
 unfold gu;rw[<-p.length_eq,aO]
theorem vd{P P':Nat->Bool}{i:Nat}(he:∀j,j≠i->P' j=P j)(hi:P i=false):∀ {m:Nat},i<m->(List.range m).countP P'=(List.range m).countP P+(if P' i=true then 1 else 0)
 |0,h=>absurd h (mY _)
 |m+1,h=>by
  rw[je,List.countP_append,List.countP_append,List.countP_singleton,List.countP_singleton];by_cases c:i<m
  .rw[vd he hi c,he m (by lia)];lia
  .obtain rfl:i=m:=by lia
   rw[show (List.range i).countP P'=(List.range i).countP P from tL fun j hj=>by rw[he j (by have:=bH.mp hj;lia)],hi];simp
theorem wV{P P':Nat->Bool}(h:∀j,P j=true->P' j=true){m:Nat}:(List.range m).countP P<=(List.range m).countP P':=List.countP_mono_left fun j _=>h j
theorem Fj{P P':Nat->Bool}{i:Nat}(h:∀j,P j=true->P' j=true)(hi:P i=false)(rE:P' i=true){m:Nat}(hm:i<m):(List.range m).countP P<(List.range m).countP P':=by
 have a:=vd (P:=P) (P':=fun j=>if j=i then true else P j) (i:=i) (fun j hj=>aA hj) hi hm;have b:=wV (P:=fun j=>if j=i then true else P j) (P':=P') (m:=m) fun j hj=>by
  by_cases c:j=i
  .rw[c];exact rE
  .rw[aA c] at hj;exact h j hj
 rw[am rfl,am rfl] at a;lia
theorem LX{st:List (Option Nat)}:st=(List.range st.length).map fun j=>st.getD j none:=by
 apply kR;intro i;by_cases h:i<st.length
 .rw[bZ,gN h];simp[bb,h]
 .rw[dG (by lia),dG (by rw[aO,bR];lia)]
theorem ve{st:List (Option Nat)}{o:Option Nat}:st.count o=(List.range st.length).countP fun j=>decide (st.getD j none=o):=by
 have e:st.count o=((List.range st.length).map fun j=>st.getD j none).count o:=congrArg _ LX;rw[e,List.count_eq_countP,yb];exact tL fun j _=>by simp
def q9(st fs:List (Option Nat))(h j:Nat):Bool:=decide (st.getD j none=some h)&&(fs.getD j none).isSome
structure lB(n:Nat)(ts:Ts)(st fs:List (Option Nat))(ls:Nat->List Nat):Prop where
 len:fs.length=st.length
 nd:∀h,h<n->(ls h).Nodup
 sub:∀h,h<n->∀x∈ls h,x∈bh n ts h
 cnt:∀h,h<n->(ls h).length+(List.range st.length).countP (q9 st fs h)=(bh n ts h).length
 out:∀j y,fs.getD j none=some y->∃h,h<n/\st.getD j none=some h/\y∈bh n ts h/\y∉ls h
 inj:∀j k y,j≠k->fs.getD j none=some y->fs.getD k none=some y->st.getD j none≠st.getD k none
theorem vf{m j:Nat}:(List.replicate m (none:Option Nat)).getD j none=none:=by
 rw[bb,pS];split <;> rfl
theorem lB.start{n:Nat}{ts:Ts}{st:List (Option Nat)}:lB n ts st (List.replicate st.length none) (bh n ts):=
 ⟨jt,fun h hh=>qP hh,fun h _ x hx=>hx,fun h _=>by
  rw[show (List.range st.length).countP (q9 st (List.replicate st.length none) h)=0 from List.countP_eq_zero.mpr fun j _=>by unfold q9;rw[vf];simp];rfl,(fun j y hy=>by rw[vf] at hy;cases hy),(fun j k y _ hy=>by rw[vf] at hy;cases hy)⟩
theorem iA{fs:List (Option Nat)}{i j:Nat}{o:Option Nat}(hi:i<fs.length):(fs.set i o).getD j none=if j=i then o else fs.getD j none:=by
 rw[bb,mP];by_cases c:i=j
 .subst c;rw[am rfl,am hi,am rfl];rfl
 .rw[aA c,aA (fun z=>c z.symm),bb]
theorem lB.step{n:Nat}{ts:Ts}{st fs:List (Option Nat)}{ls:Nat->List Nat}(I:lB n ts st fs ls){i h y:Nat}{l:List Nat}(hi:i<st.length)(hs:st.getD i none=some h)(hh:h<n)(hf:fs.getD i none=none)(hy:y∈ls h)(l1:l.Nodup)(l2:∀x∈l,x∈ls h/\x≠y)(l3:l.length+1=(ls h).length):lB n ts st (fs.set i (some y)) fun k=>if k=h then l else ls k:=by
 have rE:i<fs.length:=by rw[I.len];exact hi
 refine⟨by rw[gg];exact I.len,fun k hk=>?_,fun k hk x hx=>?_,fun k hk=>?_,fun j z hz=>?_,fun j k z ne h1 h2=>?_⟩
 .split
  .exact l1
  .exact I.nd k hk
 .split at hx
  .rename_i e;subst e;exact I.sub k hk x (l2 x hx).1
  .exact I.sub k hk x hx
 .have c:=vd (P:=q9 st fs k) (P':=q9 st (fs.set i (some y)) k) (i:=i) (fun j hj=>by unfold q9;rw[iA rE,aA hj]) (by unfold q9;rw[hf];simp) hi;have e:q9 st (fs.set i (some y)) k i=decide (k=h):=by
   unfold q9;rw[iA rE,am rfl,hs,xO,yi];exact mS.mpr ⟨(fun z=>(bW z).symm),(fun z=>by rw[z])⟩
  rw[e] at c;have:=I.cnt k hk;by_cases ck:k=h
  .subst ck;rw[am rfl,c,decide_eq_true rfl,am rfl];lia
  .rw[aA ck,c,cY ck,aA (by decide)];lia
 .rw[iA rE] at hz;split at hz
  .rename_i e;subst e;cases hz;refine⟨h,hh,hs,I.sub h hh _ hy,?_⟩;rw[am rfl];exact fun m=>(l2 _ m).2 rfl
  .obtain⟨k,a,b,c,d⟩:=I.out j z hz;refine⟨k,a,b,c,fun m=>d ?_⟩;split at m
   .rename_i e;subst e;exact(l2 _ m).1
   .exact m
 .rw[iA rE] at h1 h2;by_cases c1:j=i
  .subst c1;rw[am rfl] at h1;rw[aA (fun z=>ne z.symm)] at h2;cases h1;obtain⟨k',_,b,_,d⟩:=I.out k y h2;rw[hs,b];exact fun e=>d (by cases e;exact hy)
  .rw[aA c1] at h1;by_cases c2:k=i
   .subst c2;rw[am rfl] at h2;cases h2;obtain⟨k',_,b,_,d⟩:=I.out j y h1;rw[hs,b];exact fun e=>d (by cases e;exact hy)
   .rw[aA c2] at h2;exact I.inj j k z ne h1 h2
theorem lB.full{n:Nat}{ts:Ts}{st fs:List (Option Nat)}{ls:Nat->List Nat}(I:lB n ts st fs ls){i h:Nat}(hi:i<st.length)(hs:st.getD i none=some h)(hh:h<n)(hf:fs.getD i none=none)(RV:st.count (some h)<=(bh n ts h).length):0<(ls h).length:=by
 have a:=I.cnt h hh;rw[ve] at RV;have b:=Fj (P:=q9 st fs h) (P':=fun j=>decide (st.getD j none=some h)) (i:=i) (fun j hj=>(tw.mp hj).1) (by unfold q9;rw[hf];simp) (decide_eq_true hs) hi;lia
structure Hd(n:Nat)(ts:Ts)(st fs:List (Option Nat)):Prop where
 len:fs.length=st.length
 b_:∀j,st.getD j none=none->fs.getD j none=none
 out:∀j h,st.getD j none=some h->∃y,fs.getD j none=some y/\y∈bh n ts h
 inj:∀j k y,j≠k->fs.getD j none=some y->fs.getD k none=some y->st.getD j none≠st.getD k none
theorem lB.done{n:Nat}{ts:Ts}{st fs:List (Option Nat)}{ls:Nat->List Nat}(I:lB n ts st fs ls)(h:∀j,st.getD j none≠none->fs.getD j none≠none):Hd n ts st fs:=by
 refine⟨I.len,fun j hj=>?_,fun j k hk=>?_,I.inj⟩
 .match e:fs.getD j none with
  |none=>rfl
  |some y=>obtain⟨k,_,b,_⟩:=I.out j y e;rw[hj] at b;cases b
 .match e:fs.getD j none with
  |none=>exact absurd e (h j (by rw[hk];exact fun z=>by cases z))
  |some y=>
   obtain⟨k',_,b,c,_⟩:=I.out j y e;rw[hk] at b;cases b;exact⟨y,rfl,c⟩
def AQ(homes:List Nat)(fs:List (Option Nat)):List (Option Nat):=(List.range fs.length).map fun j=>if fs.getD j none=some (homes.getD j 0) then none else fs.getD j none
theorem mC{homes:List Nat}{fs:List (Option Nat)}:(AQ homes fs).length=fs.length:=by unfold AQ;rw[aO,bR]
theorem vg{homes:List Nat}{fs:List (Option Nat)}{j y:Nat}(h:(AQ homes fs).getD j none=some y):fs.getD j none=some y:=by
 unfold AQ at h;by_cases hj:j<fs.length
 .rw[bb,bZ,gN hj,kT,mT] at h;split at h
  .cases h
  .exact h
 .rw[bb,dG (by rw[aO,bR];lia)] at h;cases h
theorem Hd.next{n:Nat}{ts:Ts}{homes:List Nat}{st fs:List (Option Nat)}(F:cg n ts)(S:va n ts homes st)(d:Hd n ts st fs):va n ts homes (AQ homes fs):=by
 have mem:∀ {l:List (Option Nat)} {y:Nat},some y∈l->∃j,j<l.length/\l.getD j none=some y:=fun {l y} h=>by
  obtain⟨j,hj,e⟩:=tH h;exact⟨j,hj,by rw[bb,bO hj,e];rfl⟩
 have Xg:∀j y,fs.getD j none=some y->∃h,h<n/\st.getD j none=some h/\y∈bh n ts h:=fun j y hy=>by
  match e:st.getD j none with
  |none=>rw[d.b_ j e] at hy;cases hy
  |some h=>
   obtain⟨y',a,b⟩:=d.out j h e;rw[hy] at a;cases a;have hj:j<st.length:=by
    rcases ng j st.length with c|c
    .exact c
    .rw[bb,dG c] at e;cases e
   exact⟨h,S.ss h (by rw[<-e,bb,bO hj];exact dR _),rfl,b⟩
 refine⟨by rw[mC,d.len];exact S.len,by rw[mC,d.len];exact S.le,S.hs,fun y hy=>?_,fun y hy=>?_,fun j y e z=>?_⟩
 .obtain⟨j,_,e⟩:=mem hy;obtain⟨h,hh,_,b⟩:=Xg j y (vg e);exact l7 F hh b
 .rw[ve,mC,Fh F hy];refine bw (wV (P':=fun j=>decide (fs.getD j none=some y)) fun j hj=>decide_eq_true (vg (cM hj))) ?_;unfold gu;rw[F.BS,CH];have e:∀j∈(List.range fs.length).filter (fun j=>decide (fs.getD j none=some y)),∃h:Nat,st.getD j none=some h/\(ci h,ci y)∈ts:=fun j hj=>by
   obtain⟨h,hh,a,b⟩:=Xg j y (cM (bA.mp hj).2);exact⟨h,a,(dL F hh).mp b⟩
  have nd:(((List.range fs.length).filter (fun j=>decide (fs.getD j none=some y))).map fun j=>(ci ((st.getD j none).getD 0),ci y)).Nodup:=by
   refine iD.mpr ?_;refine CQ ?_ (List.Pairwise.filter _ kE);intro a b ha hb oH ee;obtain⟨h1,g1,_⟩:=e a ha;obtain⟨h2,g2,_⟩:=e b hb;rw[g1,g2] at ee;have:h1=h2:=dI (congrArg Prod.fst ee);exact d.inj a b y oH (cM (bA.mp ha).2) (cM (bA.mp hb).2) (by rw[g1,g2,this])
  have:=Fg (b:=ts.filter fun t=>decide (t.2=ci y)) nd fun u hu=>by
   obtain⟨j,hj,rfl⟩:=bn.mp hu;obtain⟨h,g,t⟩:=e j hj;rw[g];exact bA.mpr ⟨t,decide_eq_true rfl⟩
  rw[aO] at this;exact this
 .have e2:=vg e;have hj:j<fs.length:=by
   rcases ng j fs.length with c|c
   .exact c
   .rw[bb,dG c] at e2;cases e2
  unfold AQ at e;rw[bb,bZ,gN hj,kT,mT,am (by rw[e2,z])] at e;cases e
theorem zI{l:List Nat}{d:Nat}(nd:l.Nodup)(hd:d<l.length):l[d]∈l/\(l.eraseIdx d).Nodup/\(∀x∈l.eraseIdx d,x∈l/\x≠l[d])/\(l.eraseIdx d).length+1=l.length:=by
 refine⟨dR _,nd.sublist (List.eraseIdx_sublist _ _),fun x hx=>⟨List.mem_of_mem_eraseIdx hx,?_⟩,by rw[List.length_eraseIdx_of_lt hd];lia⟩;obtain⟨i,hi,ne,e⟩:=List.mem_eraseIdx_iff_getElem.mp hx;rw[<-e];exact fun z=>ne ((tQ nd).mp z)
def Cf(fs:List (Option Nat))(m:Nat):List (Option Nat):=fs++List.replicate (m-fs.length) none
theorem AR{fs:List (Option Nat)}{m:Nat}(h:fs.length<m)(o:Option Nat):Cf (fs++[o]) m=(Cf fs m).set fs.length o:=by
 unfold Cf;rw[cF,kC,cP,show m-fs.length=(m-(fs.length+1))+1 by lia,lH,List.set_append_right _ _ (aU _),ir];rfl
theorem LY{fs:List (Option Nat)}{m:Nat}:(Cf fs m).getD fs.length none=none:=by
 unfold Cf;rw[bb,jq (aU _),pS];split <;> rfl
theorem HS{fs:List (Option Nat)}{m:Nat}(h:fs.length<m):Cf (fs++[none]) m=Cf fs m:=by
 rw[AR h];unfold Cf;rw[show m-fs.length=(m-(fs.length+1))+1 by lia,lH,List.set_append_right _ _ (aU _),ir];rfl
theorem Fk{fs:List (Option Nat)}:Cf fs fs.length=fs:=by unfold Cf;rw[ir];simp
theorem LZ{fs:List (Option Nat)}{o:Option Nat}{j:Nat}:(fs++[o]).getD j none=if j=fs.length then o else fs.getD j none:=by
 rw[bb];by_cases c:j<fs.length
 .rw[h9 c,aA (by lia),bb]
 .rw[jq (by lia)];by_cases e:j=fs.length
  .rw[am e,e,ir];rfl
  .rw[aA e,dG (by rw[kC];lia),bb,dG (by lia)]
abbrev Fl:Stmt:=i5 40
def i8(n:Nat)(R:List Nat)(f:Nat->Nat):List Nat:=(List.range n).map fun x=>if x∈R then f x else n
theorem Fm{n:Nat}{R:List Nat}{f:Nat->Nat}:(i8 n R f).length=n:=by unfold i8;rw[aO,bR]
theorem wW{n:Nat}{R:List Nat}{f:Nat->Nat}{x:Nat}(h:x<n):(NV (i8 n R f))[x]?=some (.int ((if x∈R then f x else n:Nat):Int)):=by
 unfold NV i8;rw[bZ,bZ,gN h];rfl
theorem zJ{n s:Nat}(hs:s<n):(NV (List.replicate n n)).set s (V.int 0)=NV (i8 n [s] (fun _=>0)):=by
 rw[show V.int 0=V.int ((0:Nat):Int) from rfl,n9];congr 1;apply kR;intro x;unfold i8;by_cases hx:x<n
 .rw[mP,bZ,gN hx,jt,pS,am hx];by_cases c:s=x
  .subst c;simp[hx]
  .have c':¬ x=s:=fun z=>c z.symm;rw[aA c];simp[c']
 .rw[dG (by rw[gg,jt];lia),dG (by rw[aO,bR];lia)]
theorem Fn{n v k:Nat}{R:List Nat}{f:Nat->Nat}(hv:v<n):(NV (i8 n R f)).set v (V.int ((k:Nat):Int))=NV (i8 n (R++[v]) (put f v k)):=by
 rw[n9];congr 1;apply kR;intro x;unfold i8;by_cases hx:x<n
 .rw[mP,bZ,bZ,gN hx,aO,bR];by_cases c:v=x
  .subst c;simp[hx,put]
  .have c':¬ x=v:=fun z=>c z.symm;rw[aA c];simp[put,c']
 .rw[dG (by rw[gg,aO,bR];lia),dG (by rw[aO,bR];lia)]
def P3(σ:St):Nat:=match σ[6]? with
 |some (some (V.int i))=>i.toNat
 |_=>0
section
variable {P:Program} {w:World} {K:PySem.W.Frag} {mg:Str->Option Value} {base:Heap}
theorem i9:aS ["_law_n","_law_outs_here","_law_found","_law_begin","_law_row","_law_line","_law_at","_law_here","_law_there"] ["_law_n","_law_outs_here"] (az Fl):=dB (by decide +kernel)
def zK:Sp:=fun vs H Q _=>∃ (L:Addr->Prop) (o:Addr) (n:Nat) (ts:Ts),vs=[.int n,.ref o]/\cg n ts/\bK H L o n (bh n ts)/\∀ (r:Addr) (H':Hp),aG H H'->H r=none->bK H' (fun b=>H b=none) r n (fun h=>(List.range n).map (far ts h))->Q (.ref r) H'
theorem HU{f:Addr}{fd:FuncData}(F:hW K "_law_far" "_law_far" Fl f fd)(B:Bl mg):bY P w K mg base bE 1 f fd ["_law_n","_law_outs_here"] zK:=by
 refine F.ok i9 (fun vs H Q E h=>?_) (fun eQ A outer s H vs Q E hr h=>?_)
 .obtain⟨L,o,n,ts,rfl,_⟩:=h;rfl
 .obtain⟨L,o,n,ts,rfl,fi,O,q⟩:=h;have n1:=fi.n1;have n2:=fi.n2;refine⟨_,(ag (aH (i:=2) i9.nd rfl aM (b8 ae))
   (ag (cn cZ rfl (aY rfl B.range (aa (pv 0) ae)) (aq (i:=3) i9.nd rfl aM)
    (ag (aH (i:=4) i9.nd rfl aM (bg uw (b8 (aa (pv 0) ae)) (pv 0)))
    (ag (cW av (fX (pv 4) (pv 3) dt))
    (ag (aH (i:=5) i9.nd rfl aM (b8 (aa (pv 3) ae)))
    (ag (aH (i:=6) i9.nd rfl aM av)
    (ag (vM cZ (aI jh (pv 6) (aE aD (by rfl) B.len cu (aa (pv 5) ae)) (aP _)) (ag (aH (i:=7) i9.nd rfl aM (aJ aF (pv 5) (pv 6) (fun _ _=>rfl)))
     (ag (cn cZ rfl (bi (aJ aF (pv 1) (pv 7) (fun _ _=>rfl))) (aq (i:=8) i9.nd rfl aM)
      (ap (cf (aI eJ (aJ aF (pv 4) (pv 8) (fun _ _=>rfl)) (pv 0) (aP _)) (ag (cW (bg di (aJ aF (pv 4) (pv 7) (fun _ _=>rfl)) av) (fX (pv 4) (pv 8) dt))
       (ap (cB (fO fw lG lF dO (pv 5) (aa (pv 8) ae))))) a_)))
     (ap (aH (i:=6) i9.nd rfl aM (bg di (pv 6) av))))))
    (ap (cB (fO fw lG lF dO (pv 2) (aa (pv 4) ae))))))))))
   (ap (aX (pv 2))))),?_⟩
  obtain⟨bs,FU,hbL,Pd,Jl⟩:=O;refine⟨by show 0<=sizeLine;decide,fun F hF=>?_⟩;have sF:=ai (o:=.lst []) hF;refine⟨_,rfl,(n:Int),rfl,by lia,by lia,cI (n:=n) (lo:=0) (fun i σ Hc=>(∃a b c d e g,σ=[some (.int (n:Int)),some (.ref o),some (.ref F),a,b,c,d,e,g])/\aG H Hc/\∃ds:List Addr,Hc F=some (.lst (ds.map V.ref))/\(∀b∈ds,H b=none/\b≠F)/\ds.length=i/\∀j,j<i->Hc (ds.getD j 0)=some (.lst (NV ((List.range n).map (far ts j))))) ⟨⟨_,_,_,_,_,_,rfl⟩,sF,[],ab,fun b hb=>(nomatch hb),rfl,fun j hj=>absurd hj (mY _)⟩ ?_ ?_⟩
  rotate_left
  .rintro σ Hc ⟨⟨a,b,c,d,e,g,rfl⟩,sc,ds,sU,FS,dl,RY⟩;exact⟨_,rfl,q F Hc sc hF ⟨ds,sU,fun b hb=>(FS b hb).1,dl,RY⟩⟩
  .rintro b σ Hc hb ⟨⟨_,_,_,_,_,_,rfl⟩,sc,ds,sU,FS,dl,RY⟩;rw[dz];refine⟨_,rfl,by show 1<=sizeLine;decide,fun L1 uM=>⟨_,rfl,L1,_,_,rfl,rfl,ab,by lia,by lia,by rw[iE,kC];exact bw (show 1*n<=32 by lia) (by decide),fun D hD=>?_⟩⟩;rw[iE,jZ];have eM:List.replicate n (V.int (n:Int))=NV (List.replicate n n):=by unfold NV;rw[xP]
   rw[eM];have s1:=sc.trans (ai (o:=.lst [.int (n:Int)]) uM);have Xh:F≠D:=ak ((ai (o:=.lst [.int (n:Int)]) uM) _ _ sU) hD;have fD:=s1.free hD;have dsD:∀c∈ds,c≠D:=fun c hc=>by
    rintro rfl;exact absurd hD (by
     obtain⟨j,hj,e⟩:=tH hc;have:(upd Hc L1 (.lst [.int (n:Int)])) c=some (.lst (NV ((List.range n).map (far ts j)))):=(ai uM) _ _ (by have:=RY j (by lia);rw[bb,bO hj,mT,e] at this;exact this);rw[this];exact fun z=>by cases z)
   have Xi:=(ai (o:=.lst [.int (n:Int)]) uM) _ _ sU;have P5:∀j,j<b->(upd Hc L1 (.lst [.int (n:Int)])) (ds.getD j 0)=some (.lst (NV ((List.range n).map (far ts j)))):=fun j hj=>(ai uM) _ _ (RY j hj);generalize upd Hc L1 _=H1 at *;refine⟨_,rfl,_,rfl,D,_,b,b,rfl,rfl,ab,by rw[aN,jt];exact de hb,?_⟩;rw[j8,zJ hb];refine⟨_,rfl,by show 1<=sizeLine;decide,fun R hR=>?_⟩;have Cv:D≠R:=ak (H:=upd H1 D (.lst (NV (i8 n [b] (fun _=>0))))) ab hR;have Hm:H1 R=none:=by rw[aj Cv.symm] at hR;exact hR
   have fR:=s1.free Hm;have hFR:F≠R:=ak Xi Hm;have dsR:∀c∈ds,c≠R:=fun c hc=>by
    rintro rfl;obtain⟨j,hj,e⟩:=tH hc;have:=P5 j (by lia);rw[bb,bO hj,mT,e,Hm] at this;cases this
   have sm0:aG H1 (upd (upd H1 D (.lst (NV (i8 n [b] (fun _=>0))))) R (.lst [.int (b:Int)])):=bt (ai hD) Hm;have U5:=s1 _ _ FU;have P6:∀u,u<n->H1 (bs.getD u 0)=some (.lst (NV (bh n ts u))):=fun u hu=>s1 _ _ (Jl u hu);refine vO (fun σ H2=>∃ (i:Nat) (Rs:List Nat) (f:Nat->Nat),i<=Rs.length/\xf n ts b i Rs f/\(∀x∈Rs,f x<Rs.length)/\(∃u v,σ=[some (.int (n:Int)),some (.ref o),some (.ref F),some (.int (b:Int)),some (.ref D),some (.ref R),some (.int (i:Int)),u,v])/\aG H1 H2/\H2 D=some (.lst (NV (i8 n Rs f)))/\H2 R=some (.lst (NV Rs)))
    (fun σ _=>n-P3 σ) ⟨0,[b],fun _=>0,dh _,xf.start hb,fun x hx=>Nat.zero_lt_one,⟨_,_,rfl⟩,sm0,?_,ab⟩ ?_ ?_
   .rw[aj Cv,ab]
   .rintro σ H2 ⟨i,Rs,f,hi,Bf,fl,⟨u',v',rfl⟩,sm,fu,Lg⟩;have Zz:Rs.length<=n:=d_ Bf.nd Bf.lt;refine⟨_,rfl,_,rfl,R,_,rfl,.inl (aQ.of Lg),_,_,rfl,rfl,_,rfl,?_⟩;rw[aN];by_cases re:i<Rs.length
    .rw[show decide ((i:Int)<((Rs.length:Nat):Int))=true by simp;lia];refine iG ?_;have hu:Rs[i]?=some Rs[i]:=bO re;generalize Rs[i]=u at hu;have wG:u<n:=Bf.lt u (cm hu);have Ua:(NV Rs)[i]?=some (.int (u:Int)):=by rw[bZ,hu];rfl
     refine⟨_,rfl,_,rfl,R,_,_,_,rfl,rfl,aQ.of Lg,ao Ua,?_⟩;have Lh:=j7 (bs:=bs) (h:=u) (by rw[Pd];exact wG);have Li:=sm _ _ (P6 _ wG);refine⟨_,rfl,_,rfl,o,_,_,_,rfl,rfl,aQ.of (sm _ _ U5),ao Lh,_,rfl,⟨_,aQ.of Li⟩,?_⟩;refine eI (K:=K) (xs:=NV (bh n ts u)) (fun j σ H3=>∃ (gI:List Nat) (f':Nat->Nat),xf n ts b i gI f'/\(∀x∈gI,f' x<gI.length)/\gI[i]?=some u/\(∀v∈(bh n ts u).take j,v∈gI/\f' v<=f' u+1)/\
      (∃c,σ=[some (.int (n:Int)),some (.ref o),some (.ref F),some (.int (b:Int)),some (.ref D),some (.ref R),some (.int (i:Int)),some (.int (u:Int)),c])/\aG H1 H3/\H3 D=some (.lst (NV (i8 n gI f')))/\H3 R=some (.lst (NV gI)))
      ⟨Rs,f,Bf,fl,hu,fun v hv=>by simp at hv,⟨_,rfl⟩,sm,fu,Lg⟩ (fun j σ H3 _ ⟨_,_,_,_,_,_,_,B8,_⟩=>aQ.of (B8 _ _ (P6 _ wG))) ?_ ?_
     .rintro j x σ H3 hx ⟨gI,f',uY,Np,rD,dn,⟨b',rfl⟩,B8,kj,yY⟩;obtain⟨v,hv,rfl⟩:=kJ hx;have Lj:v∈bh n ts u:=cm hv;have Ev:v<n:=l7 fi wG Lj;have Ub:T ts u v:=(dL fi wG).mp Lj;have tk:(bh n ts u).take (j+1)=(bh n ts u).take j++[v]:=by rw[eC,hv];rfl
      have B9:u∈gI:=cm rD;have Ew:gI.length<=n:=d_ uY.nd uY.lt;refine⟨_,rfl,_,rfl,D,_,_,_,rfl,rfl,aQ.of kj,ao (wW Ev),_,rfl,rfl,_,rfl,?_⟩;by_cases wH:v∈gI
      .rw[am wH];have ne:f' v≠n:=by have:=Np v wH;lia
       refine kL (by simp;lia) ⟨gI,f',uY,Np,rD,fun x hx=>?_,⟨_,rfl⟩,B8,kj,yY⟩;rw[tk] at hx;rcases bS.mp hx with z|z
       .exact dn x z
       .simp at z;subst z;exact⟨wH,uY.bd u rD _ wH⟩
      .rw[aA wH];refine kK (by simp) ?_;have Uc:(NV (i8 n gI f'))[u]?=some (.int ((f' u:Nat):Int)):=by rw[wW wG,am B9]
       refine⟨_,rfl,_,rfl,D,_,_,_,rfl,rfl,aQ.of kj,ao Uc,_,_,rfl,rfl,_,rfl,_,rfl,D,_,_,_,rfl,rfl,kj,by rw[aN,Fm];exact de Ev,?_⟩;have e1:(NV (i8 n gI f')).set v (.int (((f' u:Nat):Int)+1))=NV (i8 n (gI++[v]) (put f' v (f' u+1))):=by
        rw[show ((f' u:Nat):Int)+1=((f' u+1:Nat):Int) by lia,Fn Ev]
       rw[e1];have pI:(upd H3 D (.lst (NV (i8 n (gI++[v]) (put f' v (f' u+1)))))) R=some (.lst (NV gI)):=by rw[aj Cv.symm];exact yY
       refine⟨_,rfl,.inl ⟨rfl,_,aQ.of pI⟩,_,rfl,R,_,_,rfl,rfl,pI,by rw[aN];exact cA (show gI.length<33 by lia) (by decide),?_⟩;have rE:i<gI.length:=(cN.mp rD).1;have Ud:u≠v:=fun z=>wH (z ▸ B9);refine⟨gI++[v],put f' v (f' u+1),uY.add rD Ev Ub wH,fun x hx=>?_,by rw[h9 rE];exact rD,fun x hx=>?_,⟨_,rfl⟩,bt (bt B8 hD) Hm,?_,?_⟩
       .rw[cF,kC];rcases bS.mp hx with z|z
        .rw[eS (fun (y:x=v)=>wH (y ▸ z))];have:=Np x z;lia
        .simp at z;subst z;rw[g_];have:=Np u B9;lia
       .rw[eS Ud];rw[tk] at hx;rcases bS.mp hx with z|z
        .obtain⟨q1,q2⟩:=dn x z;exact⟨gy _ q1,by rw[eS (fun (z:x=v)=>wH (z ▸ q1))];exact q2⟩
        .simp at z;subst z;exact⟨by simp,by rw[g_];exact aU _⟩
       .rw[aj Cv,ab]
       .rw[ab,i6]
     .rintro σ H3 ⟨gI,f',uY,Np,rD,dn,⟨b',rfl⟩,B8,kj,yY⟩;rw[aN,fA] at dn;have rE:i<gI.length:=(cN.mp rD).1;have Ew:gI.length<=n:=d_ uY.nd uY.lt;refine⟨_,rfl,_,_,rfl,rfl,⟨⟨i+1,gI,f',rE,uY.next rD (fun v t=>dn v ((dL fi wG).mpr t)),Np,⟨_,_,rfl⟩,B8,kj,yY⟩,?_⟩⟩;show n-((i:Int)+1).toNat<n-(i:Int).toNat;lia
    .rw[show decide ((i:Int)<((Rs.length:Nat):Int))=false by rw[xu];lia];have e:i8 n Rs f=(List.range n).map (far ts b):=by
      unfold i8;refine h_ fun x hx=>?_;obtain⟨q1,q2⟩:=Bf.done fi (by lia) (bH.mp hx);rw[am q1,q2]
     rw[e] at fu;have RZ:=sm _ _ Xi;refine dQ ⟨_,rfl,.inl ⟨rfl,_,aQ.of RZ⟩,_,rfl,F,_,_,rfl,rfl,RZ,by rw[aO,dl];exact cA (show b<33 by lia) (by decide),?_⟩;refine⟨⟨_,_,_,_,_,_,rfl⟩,fun c ob ec=>?_,ds++[D],by rw[ab,cq];rfl,fun c hc=>?_,by rw[cF,dl];rfl,fun j hj=>?_⟩
     .rw[aj (ak ec hF)];exact sm _ _ (s1 _ _ ec)
     .rcases bS.mp hc with z|z
      .exact FS c z
      .rw[cE.mp z];exact⟨fD,Xh.symm⟩
     .by_cases c:j<b
      .have m:=lA (cs:=ds) (j:=j) (by lia);have e:(ds++[D]).getD j 0=ds.getD j 0:=by rw[bb,bb,h9 (by lia)]
       rw[e,aj (FS _ m).2];exact sm _ _ (P5 j c)
      .obtain rfl:j=b:=by lia
       have e:(ds++[D]).getD j 0=D:=by rw[bb,jq (by lia),dl,ir];rfl
       rw[e,aj Xh.symm];exact fu
   .rintro σ H2 Q1 Q2 imp ⟨v,e1,v2,e2,p,ys,e3,e4,i1,i2,e5,e6,kk,e7,q⟩;exact⟨v,e1,v2,e2,p,ys,e3,e4,i1,i2,e5,e6,kk,e7,imp _ _ q⟩
theorem kq:aS ["_law_pot_here","_law_outs_here","_law_stand_here","_law_left","_law_found","_law_house","_law_there"] ["_law_pot_here","_law_outs_here","_law_stand_here"] (az zH):=dB (by decide +kernel)
def vh:Sp:=fun vs H Q _=>∃ (p:Addr) (r:Addr) (n:Nat) (ts:Ts) (L:Addr->Prop) (sa:Addr) (homes:List Nat) (st:List (Option Nat)),vs=[.ref p,.ref r,.ref sa]/\cg n ts/\1<=n/\n<=32/\bu H p/\bK H L r n (bh n ts)/\H sa=some (.tup (st.map oV))/\va n ts homes st/\
 ∀ (t:Addr) (fs:List (Option Nat)) (H':Hp),au p H H'->bu H' p->H' t=some (.tup (fs.map oV))->Hd n ts st fs->Q (.ref t) H'
theorem Fp{f:Addr}{fd:FuncData}(F:hW K "_law_right" "_law_right" zH f fd)(B:Bl mg)(D:cX P w K mg base bE 1 "_law_take" ["_law_pot_here","_law_many"] eT):bY P w K mg base bE 2 f fd ["_law_pot_here","_law_outs_here","_law_stand_here"] vh:=by
 refine F.ok kq (fun vs H Q E h=>?_) (fun eQ A outer s H vs Q E hr h=>?_)
 .obtain⟨p,r,n,ts,L,sa,homes,st,rfl,_⟩:=h;rfl
 .obtain⟨p,r,n,ts,L,sa,homes,st,rfl,Fi,n1,n2,hp,R0,hZ,SD,q⟩:=h;refine'⟨_,(ag (bL (i:=3) (g:=(bp 0)) (te:=(Ji (fun xs H Q=>∃p ys,xs=[V.ref p]/\(aQ K H p ys\/bD K H p ys)/\∀l,H l=none->Q (.ref l) (upd H l (.lst ys))) (br (aK 0) eY))) (NB:=["_law_row"]) (src:=[none]) (bf (by kernel_rfl)) rfl (bi (pv 1)) ?g1 ?t1 ?e1 kq.nd rfl rfl rfl)
   (ag (aH (i:=4) kq.nd rfl aM (b8 ae))
   (ag (cn cZ rfl (uk (pv 2)) (aq (i:=5) kq.nd rfl aM)
    (ag (aH (i:=6) kq.nd rfl aM eR)
    (ag (cf (aI lO (pv 5) eR (aP _)) (ap (aH (i:=6) kq.nd rfl aM (fO fw xD xC qx (aJ aF (pv 3) (pv 5) (fun _ _=>rfl)) (aa (aL D hr aR (aa (pv 0) (aa (aE aD (by rfl) B.len cu (aa (aJ aF (pv 3) (pv 5) (fun _ _=>rfl)) ae)) ae))) ae)))) a_)
    (ap (cB (fO fw lG lF dO (pv 4) (aa (pv 6) ae)))))))
   (ap (aX (cJ dM (by rfl) B.tup pR (aa (pv 4) ae))))))),?_⟩
  case g1=>exact fun cl C s₃ H₃ fp=>(aq (i:=0) Fd rfl aM bo)
  case t1=>exact fun cl C s₃ H₃ fp=>ce
  case e1=>exact fun cl C s₃ H₃ fp=>(cJ iY (by rfl) B.lst pV (aa (pv 0) ae))
  obtain⟨bs,b1,b2,b3⟩:=R0;have bl:bs.length=n:=b3.1;refine⟨_,rfl,r,rfl,⟨_,aQ.of b1⟩,fun D1 mH=>?_⟩;refine cK (K:=K) (xs:=bs.map V.ref) (fun i ys σ H2=>(∃a,σ=[a])/\aG H H2/\H2 D1=some (.lst ys)/\∃cs:List Addr,ys=cs.map V.ref/\cs.length=i/\cs.Nodup/\(∀c∈cs,H c=none/\c≠D1/\H2 c≠none)/\∀j,j<i->H2 (cs.getD j 0)=some (.lst (NV (bh n ts j))))
   ⟨⟨_,rfl⟩,ai mH,ab,[],rfl,rfl,iO,fun c hc=>(nomatch hc),fun j hj=>absurd hj (mY _)⟩ (fun i ys σ H2 _ z=>aQ.of (z.2.1 _ _ b1)) ?_ ?_
  .rintro i x ys σ H2 Kt Kf hx ⟨⟨a,rfl⟩,sm,dE,cs,rfl,cl,nd,hc,Cd⟩ kt kf;have hi:i<n:=by have:=(cN.mp hx).1;rw[aO] at this;lia
   obtain rfl:V.ref (bs.getD i 0)=x:=by rw[j7 (by lia)] at hx;exact bW hx
   refine⟨_,rfl,_,_,rfl,.inl (aQ.of (sm _ _ (b3.2 i hi))),fun l hl=>?_⟩;have nD:D1≠l:=ak dE hl;have nl:∀c∈cs,c≠l:=fun c vL=>by rintro rfl;exact(hc c vL).2.2 hl
   refine kt _ _ _ (by rw[aj nD];exact dE) (by rw[aO,cl];exact cA (show i<33 by lia) (by decide)) ⟨⟨_,rfl⟩,bt (sm.trans (ai hl)) mH,ab,cs++[l],by rw[cq];rfl,by rw[cF,cl];rfl,?_,fun c vL=>?_,fun j hj=>?_⟩
   .exact kQ.mpr ⟨nd,by simp,fun a ha b hb=>by rw[cE.mp hb];exact nl a ha⟩
   .rcases bS.mp vL with z|z
    .exact⟨(hc c z).1,(hc c z).2.1,by rw[aj (hc c z).2.1,aj (nl c z)];exact(hc c z).2.2⟩
    .rw[cE.mp z];exact⟨sm.free hl,nD.symm,by rw[aj nD.symm,ab];exact fun z=>by cases z⟩
   .by_cases c:j<i
    .have m:=lA (cs:=cs) (j:=j) (by lia);have e:(cs++[l]).getD j 0=cs.getD j 0:=by rw[bb,bb,h9 (by lia)]
     rw[e,aj (hc _ m).2.1,aj (nl _ m)];exact Cd j c
    .obtain rfl:j=i:=by lia
     have e:(cs++[l]).getD j 0=l:=by rw[bb,jq (by lia),cl,ir];rfl
     rw[e,aj nD.symm,ab]
  rintro ys σ H2 ⟨⟨a,rfl⟩,sm,dE,cs,rfl,cl,nd,hc,Cd⟩;rw[aO,bl] at cl Cd;have fD:H D1=none:=mH;have cH:∀h,h<n->H (cs.getD h 0)=none/\cs.getD h 0≠D1:=fun h hh=>⟨(hc _ (lA (by lia))).1,(hc _ (lA (by lia))).2.1⟩
  dsimp only;refine⟨by show 0<=sizeLine;decide,fun Fo HV=>?_⟩;have sF:=ai (o:=.lst []) HV;have fF:=sm.free HV;have R1:Fo≠D1:=(ak dE HV).symm;have L3:∀h,h<n->cs.getD h 0≠Fo:=fun h hh=>ak (Cd h hh) HV;have HW:=hp.ne fF;have Hx:=hp.ne fD;have Fq:∀h,h<n->cs.getD h 0≠p:=fun h hh=>hp.ne (cH h hh).1;have JQ:=hp.neT hZ;refine⟨_,rfl,sa,rfl,⟨_,bD.of ((sm.trans sF) _ _ hZ)⟩,ul (K:=K) (xs:=st.map oV) (fun i σ Hc=>∃ (ls:Nat->List Nat) (fs:List (Option Nat)),(∃u v,σ=[some (.ref p),some (.ref r),some (.ref sa),some (.ref D1),some (.ref Fo),u,v])/\au p H Hc/\bu Hc p/\Hc D1=some (.lst (cs.map V.ref))/\Hc Fo=some (.lst (fs.map oV))/\fs.length=i/\(∀j,j<i->st.getD j none≠none->fs.getD j none≠none)/\lB n ts st (Cf fs st.length) ls/\∀h,h<n->Hc (cs.getD h 0)=some (.lst (NV (ls h))))
   ⟨bh n ts,[],⟨_,_,rfl⟩,au.of (sm.trans sF),hp.same (sm.trans sF),sF _ _ dE,ab,rfl,fun j hj=>absurd hj (mY _),lB.start,fun h hh=>sF _ _ (Cd h hh)⟩ (fun i σ Hc _ z=>by obtain⟨_,_,_,z,_⟩:=z;exact bD.of (z _ _ hZ JQ)) ?_ ?_⟩
  .rintro i x σ Hc hx ⟨ls,fs,⟨u,v,rfl⟩,sc,jj,wX,sU,fl,EK,LI,xi⟩;have hi:i<st.length:=by have:=(cN.mp hx).1;rwa [aO] at this
   rw[c_ hi] at hx;obtain rfl:=bW hx;have hoi:st[i]?=some (st.getD i none):=by rw[bb,bO hi];rfl
   have U6:st.getD i none∈st:=cm hoi;generalize ho:st.getD i none=o at *;have i16:i<16:=cA hi SD.le;refine me (fun σ H7=>H7=Hc/\σ=[some (.ref p),some (.ref r),some (.ref sa),some (.ref D1),some (.ref Fo),some (oV o),some .b_]) ?_ (fun N hN=>hN _ _ ⟨rfl,rfl⟩);rintro σ H7 ⟨rfl,rfl⟩;refine me (fun σ H8=>∃ (ls:Nat->List Nat) (o':Option Nat),(σ=[some (.ref p),some (.ref r),some (.ref sa),some (.ref D1),some (.ref Fo),some (oV o),some (oV o')])/\au p H H8/\bu H8 p/\H8 D1=some (.lst (cs.map V.ref))/\H8 Fo=some (.lst (fs.map oV))/\(o≠none->o'≠none)/\lB n ts st (Cf (fs++[o']) st.length) ls/\∀h,h<n->H8 (cs.getD h 0)=some (.lst (NV (ls h)))) ?_ ?_
   .rintro σ H8 ⟨ls',o',rfl,s8,rM,Cy,R3,CW,LI',U7⟩;refine⟨_,rfl,.inl ⟨rfl,_,aQ.of R3⟩,_,rfl,Fo,_,_,rfl,rfl,R3,by rw[aO,fl];exact cA (show i<33 by lia) (by decide),?_⟩;refine⟨ls',fs++[o'],⟨_,_,rfl⟩,au.put s8 fF,rM.put HW.symm,by rw[aj R1.symm];exact Cy,by rw[ab,cq];rfl,by rw[cF,fl];rfl,fun j hj hn=>?_,LI',fun h hh=>?_⟩
    .rw[LZ];by_cases c:j=fs.length
     .rw[am c];refine CW (fun z=>hn ?_);rw[c,fl];exact ho.trans z
     .rw[aA c];exact EK j (by lia) hn
    .rw[aj (L3 h hh)];exact U7 h hh
   .intro N hN;cases o with
    |none=>exact⟨_,rfl,rfl,_,rfl,dQ (hN _ _ ⟨ls,none,rfl,sc,jj,wX,sU,(fun z=>absurd rfl z),by rw[HS (by lia)];exact LI,xi⟩)⟩
    |some h=>
     have hh:h<n:=SD.ss h U6;have g1:=xi h hh;have pf:(Cf fs st.length).getD i none=none:=by rw[<-fl];exact LY
     have lp:0<(ls h).length:=LI.full hi ho hh pf (SD.RV h hh);have lu:(ls h).length<=32:=by have:=kn (n:=n) (ts:=ts) (h:=h);have:=LI.cnt h hh;lia
     have ch:=j7 (bs:=cs) (h:=h) (by lia);refine⟨_,rfl,rfl,_,rfl,kK rfl ?_⟩;refine⟨_,rfl,_,rfl,D1,_,_,_,rfl,rfl,aQ.of wX,ao ch,.inl ⟨rfl,_,aQ.of g1⟩,_,rfl,_,rfl,_,rfl,D1,_,_,_,rfl,rfl,aQ.of wX,ao ch,_,_,rfl,.inl (aQ.of g1),p,_,rfl,by rw[aN];exact lp,by rw[aN];lia,jj,fun d H9 hd s9 Cc=>?_⟩;rw[aN] at hd;have hv:(ls h)[d]?=some (ls h)[d]:=bO hd;refine⟨_,_,(d:Int),d,.int ((ls h)[d]:Nat),rfl,rfl,s9 _ _ g1 (Fq h hh),by lia,by lia,(lT (de (by rw[aN];exact hd))).1,by unfold NV;rw[bZ,hv];rfl,?_⟩;refine hN _ _ ⟨fun k=>if k=h then (ls h).eraseIdx d else ls k,some (ls h)[d],rfl,au.put (sc.trans s9) (cH h hh).1,Cc.put (Fq h hh).symm,by rw[aj (cH h hh).2.symm];exact s9 _ _ wX Hx,by rw[aj (L3 h hh).symm];exact s9 _ _ sU HW,(fun _ z=>by cases z),?_,fun k hk=>?_⟩
     .obtain⟨q1,q2,q3,q4⟩:=zI (LI.nd h hh) hd;rw[AR (by lia),fl];exact LI.step hi ho hh pf q1 q2 q3 q4
     dsimp only;by_cases c:k=h
     .subst c;rw[am rfl,ab,jY]
     .rw[aA c,aj (Fe nd (by lia) (by lia) c)];exact s9 _ _ (xi k hk) (Fq k hk)
  .rintro σ Hc ⟨ls,fs,⟨u,v,rfl⟩,sc,jj,wX,sU,fl,EK,LI,xi⟩;refine⟨_,rfl,Fo,_,rfl,.inl ⟨aQ.of sU,fun t ht=>?_⟩⟩;have bj:=ai (o:=.tup (fs.map oV)) ht;rw[aO] at fl EK;refine q t fs _ (sc.trans (au.of bj)) (jj.same bj) ab ?_;rw[<-fl,Fk] at LI;refine LI.done fun j hj=>EK j ?_ hj;rcases ng j st.length with c|c
   .exact c
   .exact absurd (by rw[bb,dG c];rfl) hj
end
abbrev zL:Stmt:=i5 3
abbrev L4:Stmt:=i5 2
theorem eZ:(["letter","net","homes","stand","handing"]:List Str).Nodup:=by decide +kernel
noncomputable def gw(ts:Ts)(homes:List Nat)(st fs:List (Option Nat))(j:Nat):Bool:=match st.getD j none with
 |none=>false
 |some h=>decide (far ts h (homes.getD j 0)<=far ts ((fs.getD j none).getD 0) (homes.getD j 0))
noncomputable def i_(ts:Ts)(homes:List Nat)(st fs:List (Option Nat))(i:Nat):List Nat:=(List.range i).filter (gw ts homes st fs)
structure Cg(n:Nat)(homes:List Nat)(st fs:List (Option Nat)):Prop where
 l1:homes.length=st.length
 l2:fs.length=st.length
 l3:st.length<=16
 hs:∀j,j<st.length->homes.getD j 0<n
 b_:∀j,st.getD j none=none->fs.getD j none=none
 out:∀j h,st.getD j none=some h->h<n/\∃y,fs.getD j none=some y/\y<n/\y≠h
theorem Hd.goes{n:Nat}{ts:Ts}{homes:List Nat}{st fs:List (Option Nat)}(F:cg n ts)(S:va n ts homes st)(d:Hd n ts st fs):Cg n homes st fs:=by
 refine⟨S.len,d.len,S.le,fun j hj=>S.hs _ ?_,d.b_,fun j h e=>?_⟩
 .rw[bb,bO (by rw[S.len];exact hj)];exact dR _
 .have hj:j<st.length:=by
   rcases ng j st.length with c|c
   .exact c
   .rw[bb,dG c] at e;cases e
  have hh:=S.ss h (by rw[<-e,bb,bO hj];exact dR _);obtain⟨y,a,b⟩:=d.out j h e;refine⟨hh,y,a,l7 F hh b,fun z=>?_⟩;have:=F.ne _ ((dL F hh).mp b);exact this (by show ci h=ci y;rw[z])
theorem oh{n:Nat}{ts:Ts}{a b:Nat}(h:b<n):(NV ((List.range n).map (far ts a)))[b]?=some (.int ((far ts a b:Nat):Int)):=by
 unfold NV;rw[bZ,bZ,gN h];rfl
theorem AS{a b:Option Nat}:F7 (oV a) (oV b)=true:=by cases a <;> cases b <;> rfl
section
variable {P:Program} {w:World} {K:PySem.W.Frag} {mg:Str->Option Value} {base:Heap}
theorem vi:aS ["net","homes","stand","handing","letter","house","goes"] ["net","homes","stand","handing","letter"] (az zL):=dB (by decide +kernel)
def pN(C:Addr):Sp:=fun vs H Q _=>∃ (L:Addr->Prop) (p:Addr) (n:Nat) (ts:Ts) (ha:Addr) (homes:List Nat) (sa:Addr) (st:List (Option Nat)) (fa:Addr) (fs:List (Option Nat)) (j:Nat),vs=[.ref p,.ref ha,.ref sa,.ref fa,.int j]/\fQ C H L p n ts/\H ha=some (.tup (NV homes))/\H sa=some (.tup (st.map oV))/\H fa=some (.tup (fs.map oV))/\Cg n homes st fs/\j<st.length/\Q (.bl (gw ts homes st fs j)) H
theorem Fs{f C:Addr}{fd:FuncData}(F:hW K "is_led" "is_led" zL f fd)(B:Bl mg)(T:NT K mg C)(MF:wD P w K mg base bE 5 C "far" ["self","one","other"] (uV C)):bY P w K mg base bE 6 f fd ["net","homes","stand","handing","letter"] (pN C):=by
 obtain⟨fF,fdF,mF,bF,GF⟩:=MF.ex;refine F.ok vi (fun vs H Q E h=>?_) (fun eQ A outer s H vs Q E hr h=>?_)
 .obtain⟨L,p,n,ts,ha,homes,sa,st,fa,fs,j,rfl,_⟩:=h;rfl
 .obtain⟨L,p,n,ts,ha,homes,sa,st,fa,fs,j,rfl,N,pO,hZ,om,G,hj,q⟩:=h;refine⟨_,(ag (aH (i:=5) vi.nd rfl aM (aJ bz (pv 2) (pv 4) (fun _ _=>rfl)))
   (ag (aH (i:=6) vi.nd rfl aM (aJ bz (pv 3) (pv 4) (fun _ _=>rfl)))
   (ag (cf (PW.pt (zV (aI yr (pv 6) eR (aP _)) (uj (aI eJ (pv 6) (pv 5) (aP _))))) (ap (aX lK)) a_)
   (ap (aX (ie Jg (j_ (pv 0) T.cl mF GF hr bF .nil aR (aa (pv 6) (aa (aJ bz (pv 1) (pv 4) (fun _ _=>rfl)) ae))) (j_ (pv 0) T.cl mF GF hr bF .nil aR (aa (pv 5) (aa (aJ bz (pv 1) (pv 4) (fun _ _=>rfl)) ae))) (aP _))))))),?_⟩
  have l2:=G.l2;have l1:=G.l1;refine⟨_,rfl,_,rfl,sa,_,_,_,rfl,rfl,bD.of hZ,ao (c_ hj),?_⟩;refine⟨_,rfl,_,rfl,fa,_,_,_,rfl,rfl,bD.of om,ao (c_ (by lia)),?_⟩;obtain⟨dx,tl,ol,ds,hN,_⟩:=N.ob;have hh:=eN (xs:=homes) (j:=j) (by lia);unfold gw at q;cases ho:st.getD j none with
  |none=>
   rw[ho] at q;rw[G.b_ j ho];exact⟨_,rfl,rfl,_,rfl,iG (iG q)⟩
  |some h=>
   obtain⟨hn,y,ey,hy,ne⟩:=G.out j h ho;rw[ho] at q;rw[ey] at q |-;refine⟨_,rfl,rfl,_,rfl,kL rfl ⟨_,rfl,_,rfl,rfl,_,rfl,kL ?_ ?_⟩⟩
   .exact cY fun z=>by injection z with z;exact ne (dI z)
   refine⟨_,rfl,p,dx,_,rfl,hN,K8 _ _ _ _,_,rfl,_,rfl,_,rfl,ha,_,_,_,rfl,rfl,bD.of pO,ao hh,L,p,n,ts,y,_,rfl,N,hy,G.hs j hj,?_⟩;refine⟨_,rfl,p,dx,_,rfl,hN,K8 _ _ _ _,_,rfl,_,rfl,_,rfl,ha,_,_,_,rfl,rfl,bD.of pO,ao hh,L,p,n,ts,h,_,rfl,N,hn,G.hs j hj,?_⟩;refine⟨_,_,rfl,rfl,?_⟩;show Q (.bl (decide (((far ts h (homes.getD j 0):Nat):Int)<=((far ts y (homes.getD j 0):Nat):Int)))) H;rw[show decide (((far ts h (homes.getD j 0):Nat):Int)<=((far ts y (homes.getD j 0):Nat):Int))=decide (far ts h (homes.getD j 0)<=far ts ((some y).getD 0) (homes.getD j 0)) from mS.mpr (by rw[mT];lia)];exact q
theorem P7:aS ["net","homes","stand","handing"] ["net","homes","stand","handing"] (az L4):=dB (by decide +kernel)
def AT(C:Addr):Sp:=fun vs H Q _=>∃ (L:Addr->Prop) (p:Addr) (n:Nat) (ts:Ts) (ha:Addr) (homes:List Nat) (sa:Addr) (st:List (Option Nat)) (fa:Addr) (fs:List (Option Nat)),vs=[.ref p,.ref ha,.ref sa,.ref fa]/\fQ C H L p n ts/\H ha=some (.tup (NV homes))/\H sa=some (.tup (st.map oV))/\H fa=some (.tup (fs.map oV))/\Cg n homes st fs/\∀r H',aG H H'->H r=none->H' r=some (.lst (NV (i_ ts homes st fs st.length)))->Q (.ref r) H'
theorem L5{f C:Addr}{fd:FuncData}(F:hW K "led" "led" L4 f fd)(B:Bl mg)(IL:cX P w K mg base bE 6 "is_led" ["net","homes","stand","handing","letter"] (pN C)):bY P w K mg base bE 7 f fd ["net","homes","stand","handing"] (AT C):=by
 refine F.ok P7 (fun vs H Q E h=>?_) (fun eQ A outer s H vs Q E hr h=>?_)
 .obtain⟨L,p,n,ts,ha,homes,sa,st,fa,fs,rfl,_⟩:=h;rfl
 .obtain⟨L,p,n,ts,ha,homes,sa,st,fa,fs,rfl,N,pO,hZ,om,G,q⟩:=h;refine'⟨_,(ap (aX ?c1)),?_⟩;case c1=>
   refine' bJ (g:=(bp 0)) (tt:=(tB (oA (pN C) [] E0 (br (aK 1) (br (aK 2) (br (aK 3) (br (aK 4) (br (aK 0) eY)))))))) (te:=(aK 0)) (NB:=["letter","net","homes","stand","handing"]) (src:=[none,some 0,some 1,some 2,some 3]) (bf (by kernel_rfl)) rfl (aY rfl B.range (aa (aE aD (by rfl) B.len cu (aa (pv 1) ae)) ae)) ?g ?t ?e;case g=>exact fun cl C s₃ H₃ fp=>(aq (i:=0) eZ rfl aM bo)
   case t=>exact fun cl C s₃ H₃ fp=>cj (fV (aL IL hr aR (aa (pv 1) (aa (pv 2) (aa (pv 3) (aa (pv 4) (aa (pv 0) ae)))))))
   case e=>exact fun cl C s₃ H₃ fp=>(pv 0)
  have l3:=G.l3;refine⟨_,rfl,ha,_,rfl,.inr (bD.of pO),_,rfl,by lia,by rw[aN,G.l1];lia,fun D1 mH=>?_⟩;rw[aN,G.l1];refine mx (lo:=0) (n:=st.length) (gw ts homes st fs) (fun σ=>∃b,σ=[b,some (.ref p),some (.ref ha),some (.ref sa),some (.ref fa)]) mH (by lia) ⟨_,rfl⟩ ?_ ?_
  .rintro j σ H5 Kt Kf hj ⟨b',rfl⟩ my kt kf;rw[dz] at kt |-;refine⟨_,rfl,_,rfl,_,rfl,_,rfl,_,rfl,L,p,n,ts,ha,homes,sa,st,fa,fs,j,rfl,N.same my,my _ _ pO,my _ _ hZ,my _ _ om,G,hj,_,rfl,?_⟩;cases hk:gw ts homes st fs j with
   |false=>exact dQ (kf _ _ ⟨_,rfl⟩ (aG.refl _) hk)
   |true=>exact iG ⟨_,rfl,kt _ _ ⟨_,rfl⟩ (aG.refl _) hk⟩
  .intro H5 s5 q0;refine q D1 H5 s5 mH ?_;rw[q0];exact congrArg (fun l=>some (HO.lst l)) (h_ fun x _=>by rw[dz])
end
abbrev zM:Stmt:=i5 41
theorem gx:(["_law_i","_law_stand_here"]:List Str).Nodup:=by decide +kernel
theorem fZ:(["_law_there","_law_far_here","_law_homes","_law_i","_law_near"]:List Str).Nodup:=by decide +kernel
theorem kr{K:PySem.W.Frag}{a D:Addr}{os:List Nat}{g:TG}{tt:TT}{te:TE}{dU:Hp->Prop}{σB:St}{H0:Hp}(c:Nat->Bool)(bq:St->Prop)(ha:H0 a=some (.lst (NV os)))(hD:H0 D=none)(hn:os.length<=1000)(h0:bq σB)(hs:∀x σ H (Kt:V->St->Hp->Prop) (Kf:St->Hp->Prop),x∈os->bq σ->aG H0 H->(∀σ2 H2,bq σ2->aG H H2->c x=true->Kt (.int (x:Nat)) σ2 H2)->(∀σ2 H2,bq σ2->aG H H2->c x=false->Kf σ2 H2)->
   g (.int (x:Nat)) σ H fun σ2 H2=>tt σ2 H2 fun b H3=>if b=true then te σ2 H3 fun v H4=>Kt v σ2 H4 else Kf σ2 H3)(hd:∀H,aG H0 H->H D=some (.lst (NV (os.filter c)))->dU H):fP (A7 K a) g tt te D dU σB (upd H0 D (.lst [])):=by
 refine cK (xs:=NV os) (fun i ys σ H=>bq σ/\aG H0 H/\H D=some (.lst ys)/\ys=NV ((os.take i).filter c)) ⟨h0,ai hD,ab,rfl⟩ (fun i ys σ H _ z=>aQ.of (z.2.1 _ _ ha)) ?_ ?_
 .rintro i x ys σ H Kt Kf hx ⟨sh,sm,dE,rfl⟩ kt kf;obtain⟨y,hy,rfl⟩:=kJ hx;have tk:os.take (i+1)=os.take i++[y]:=by rw[eC,hy];rfl
  refine hs y σ H Kt Kf (cm hy) sh sm (fun σ2 H2 lr s2 e=>?_) (fun σ2 H2 lr s2 e=>?_)
  .refine kt _ _ _ (s2 _ _ dE) ?_ ⟨lr,bt (sm.trans s2) hD,ab,?_⟩
   .rw[aN];exact eA (bw (dF _ _) (kO _ _)) (eA hn (by decide))
   .rw[tk,eH,show [y].filter c=[y] by simp[cQ,e],i6]
  .refine kf _ _ ⟨lr,sm.trans s2,s2 _ _ dE,?_⟩;rw[tk,eH,show [y].filter c=[] by simp[cQ,e],tV]
 .rintro ys σ H ⟨_,sm,dE,rfl⟩;rw[aN,fA] at dE;exact hd H sm dE
theorem Ft{α β:Type}{f:α->β}:∀ {l:List α} {k:Nat},(l.eraseIdx k).map f=(l.map f).eraseIdx k
 |[],_=>rfl
 |x::l,0=>rfl
 |x::l,k+1=>congrArg (f x::·) (Ft (l:=l) (k:=k))
theorem g9{os:List Nat}{k j:Nat}(h:os[k]?=some j):os.take (k+1)=os.take k++[j]:=by rw[eC,h];rfl
theorem P8{xs:List Nat}{y:Nat}(hy:y∈xs):∃k,k<xs.length/\xs[k]?=some y/\(((xs.map fun (x:Nat)=>(x:Int)).eraseIdx ((xs.map fun (x:Nat)=>(x:Int)).idxOf (y:Int))).map V.int)=NV (xs.eraseIdx k):=by
 have hm:(y:Int)∈xs.map fun (x:Nat)=>(x:Int):=bn.mpr ⟨y,hy,rfl⟩;have hl:=CO.mpr hm;have hg:=List.getElem_idxOf hl;generalize (xs.map fun (x:Nat)=>(x:Int)).idxOf (y:Int)=k at *;have Xj:k<xs.length:=by rwa [aO] at hl
 refine⟨k,Xj,?_,?_⟩
 .rw[qg] at hg;rw[bO Xj,dI hg]
 .rw[<-jY];rw[show NV xs=(xs.map fun (x:Nat)=>(x:Int)).map V.int by unfold NV;rw[cy];rfl];exact Ft
theorem vj{fs:List (Option Nat)}{i:Nat}{o:Option Nat}:(fs.map oV).set i (oV o)=(fs.set i o).map oV:=(List.map_set).symm
section
variable {P:Program} {w:World} {K:PySem.W.Frag} {mg:Str->Option Value} {base:Heap}
theorem im:aS ["_law_pot_here","_law_outs_here","_law_far_here","_law_homes","_law_stand_here","_law_left","_law_found","_law_order_here","_law_i","_law_near","_law_good"] ["_law_pot_here","_law_outs_here","_law_far_here","_law_homes","_law_stand_here"] (az zM):=dB (by decide +kernel)
def vk:Sp:=fun vs H Q _=>∃ (p r fr:Addr) (n:Nat) (ts:Ts) (L L':Addr->Prop) (ha sa:Addr) (homes:List Nat) (st:List (Option Nat)),vs=[.ref p,.ref r,.ref fr,.ref ha,.ref sa]/\cg n ts/\bu H p/\bK H L r n (bh n ts)/\bK H L' fr n (fun h=>(List.range n).map (far ts h))/\L' fr/\¬ L' p/\H ha=some (.tup (NV homes))/\H sa=some (.tup (st.map oV))/\va n ts homes st/\
 ∀ (t:Addr) (fs:List (Option Nat)) (H':Hp),au p H H'->bu H' p->H' t=some (.tup (fs.map oV))->Hd n ts st fs->Q (.ref t) H'
theorem Fu{f:Addr}{fd:FuncData}(F:hW K "_law_eager" "_law_eager" zM f fd)(B:Bl mg)(D:cX P w K mg base bE 1 "_law_take" ["_law_pot_here","_law_many"] eT)(OR:cX P w K mg base bE 2 "_law_order" ["_law_pot_here","_law_many"] mr):bY P w K mg base bE 3 f fd ["_law_pot_here","_law_outs_here","_law_far_here","_law_homes","_law_stand_here"] vk:=by
 refine F.ok im (fun vs H Q E h=>?_) (fun eQ A outer s H vs Q E hr h=>?_)
 .obtain⟨p,r,fr,n,ts,L,L',ha,sa,homes,st,rfl,_⟩:=h;rfl
 .obtain⟨p,r,fr,n,ts,L,L',ha,sa,homes,st,rfl,Fi,hp,R0,RF,U8,JO,pO,hZ,SD,q⟩:=h;have h1:dk 1 _:=hr.mono (by decide);have n1:=Fi.n1;have n2:=Fi.n2;refine'⟨_,(ag (bL (i:=5) (g:=(bp 0)) (te:=(Ji (fun xs H Q=>∃p ys,xs=[V.ref p]/\(aQ K H p ys\/bD K H p ys)/\∀l,H l=none->Q (.ref l) (upd H l (.lst ys))) (br (aK 0) eY))) (NB:=["_law_row"]) (src:=[none]) (bf (by kernel_rfl)) rfl (bi (pv 1)) ?g1 ?t1 ?e1 im.nd rfl rfl rfl)
   (ag (aH (i:=6) im.nd rfl aM (bg uw (b8 (aa eR ae)) (aE aD (by rfl) B.len cu (aa (pv 4) ae))))
   (ag (bL (i:=7) (g:=(bp 0)) (tt:=(eK (dW (fun x y H Q=>y=.b_/\Q (.bl (!decide (x=.b_))) H) (dW (ky K) (aK 1) (aK 0)) (tC .b_)))) (te:=(aK 0)) (NB:=["_law_i","_law_stand_here"]) (src:=[none,some 4]) (bf (by kernel_rfl)) rfl (bi (aL OR hr aR (aa (pv 0) (aa (aE aD (by rfl) B.len cu (aa (pv 4) ae)) ae)))) ?g2 ?t2 ?e2 im.nd rfl rfl rfl)
   (ag (cn cZ rfl (bi (pv 7)) (aq (i:=8) im.nd rfl bo)
    (ag (aH (i:=9) im.nd rfl bo (aJ aF (aJ aF (pv 2) (aJ bz (pv 4) (pv 8) (fun _ _=>rfl)) (fun _ _=>rfl)) (aJ bz (pv 3) (pv 8) (fun _ _=>rfl)) (fun _ _=>rfl)))
    (ag (bL (i:=10) (g:=(bp 0)) (tt:=(eK (dW (rn fun i j=>.bl (decide (i<j))) (dW (jo K) (dW (jo K) (aK 1) (aK 0)) (dW (ky K) (aK 2) (aK 3))) (aK 4)))) (te:=(aK 0)) (NB:=["_law_there","_law_far_here","_law_homes","_law_i","_law_near"]) (src:=[none,some 2,some 3,some 8,some 9]) (bf (by kernel_rfl)) rfl (bi (aJ aF (pv 5) (aJ bz (pv 4) (pv 8) (fun _ _=>rfl)) (fun _ _=>rfl))) ?g3 ?t3 ?e3 im.nd rfl rfl rfl)
    (ap (cf (aI (yQ (e:=iX) hr.u) (pv 10) (b8 ae) (aP _)) (ag (cW (aJ aF (pv 10) (aL D h1 aR (aa (pv 0) (aa (aE aD (by rfl) B.len cu (aa (pv 10) ae)) ae))) (fun _ _=>rfl)) (fX (pv 6) (pv 8) dt))
     (ap (cB (fO fw PySem.F.slot_list_remove PySem.F.type_list_remove BG (aJ aF (pv 5) (aJ bz (pv 4) (pv 8) (fun _ _=>rfl)) (fun _ _=>rfl)) (aa (aJ aF (pv 6) (pv 8) (fun _ _=>rfl)) ae))))) a_)))))
   (ag (cn cZ rfl (bi (pv 7)) (aq (i:=8) im.nd rfl bo)
    (ap (cf (aI yr (aJ aF (pv 6) (pv 8) (fun _ _=>rfl)) eR (aP _)) (ap (cW (fO fw xD xC qx (aJ aF (pv 5) (aJ bz (pv 4) (pv 8) (fun _ _=>rfl)) (fun _ _=>rfl)) (aa (aL D h1 aR (aa (pv 0) (aa (aE aD (by rfl) B.len cu (aa (aJ aF (pv 5) (aJ bz (pv 4) (pv 8) (fun _ _=>rfl)) (fun _ _=>rfl)) ae)) ae))) ae)) (fX (pv 6) (pv 8) dt))) a_)))
   (ap (aX (cJ dM (by rfl) B.tup pR (aa (pv 6) ae))))))))),?_⟩
  case g1=>exact fun cl C s₃ H₃ fp=>(aq (i:=0) Fd rfl aM bo)
  case t1=>exact fun cl C s₃ H₃ fp=>ce
  case e1=>exact fun cl C s₃ H₃ fp=>(cJ iY (by rfl) B.lst pV (aa (pv 0) ae))
  case g2=>exact fun cl C s₃ H₃ fp=>(aq (i:=0) gx rfl aM bo)
  case t2=>exact fun cl C s₃ H₃ fp=>cj (aI lO (aJ bz (pv 1) (pv 0) (fun _ _=>rfl)) eR (aP _))
  case e2=>exact fun cl C s₃ H₃ fp=>(pv 0)
  case g3=>exact fun cl C s₃ H₃ fp=>(aq (i:=0) fZ rfl aM bo)
  case t3=>exact fun cl C s₃ H₃ fp=>cj (aI jh (aJ aF (aJ aF (pv 1) (pv 0) (fun _ _=>rfl)) (aJ bz (pv 2) (pv 3) (fun _ _=>rfl)) (fun _ _=>rfl)) (pv 4) (aP _))
  case e3=>exact fun cl C s₃ H₃ fp=>(pv 0)
  obtain⟨bs,b1,b2,b3⟩:=R0;have bl:bs.length=n:=b3.1;refine⟨_,rfl,r,rfl,⟨_,aQ.of b1⟩,fun D1 mH=>?_⟩;refine cK (K:=K) (xs:=bs.map V.ref) (fun i ys σ H2=>(∃a,σ=[a])/\aG H H2/\H2 D1=some (.lst ys)/\∃cs:List Addr,ys=cs.map V.ref/\cs.length=i/\cs.Nodup/\(∀c∈cs,H c=none/\c≠D1/\H2 c≠none)/\∀j,j<i->H2 (cs.getD j 0)=some (.lst (NV (bh n ts j))))
   ⟨⟨_,rfl⟩,ai mH,ab,[],rfl,rfl,iO,fun c hc=>(nomatch hc),fun j hj=>absurd hj (mY _)⟩ (fun i ys σ H2 _ z=>aQ.of (z.2.1 _ _ b1)) ?_ ?_
  .rintro i x ys σ H2 Kt Kf hx ⟨⟨a,rfl⟩,sm,dE,cs,rfl,cl,nd,hc,Cd⟩ kt kf;have hi:i<n:=by have:=(cN.mp hx).1;rw[aO] at this;lia
   obtain rfl:V.ref (bs.getD i 0)=x:=by rw[j7 (by lia)] at hx;exact bW hx
   refine⟨_,rfl,_,_,rfl,.inl (aQ.of (sm _ _ (b3.2 i hi))),fun l hl=>?_⟩;have nD:D1≠l:=ak dE hl;have nl:∀c∈cs,c≠l:=fun c vL=>by rintro rfl;exact(hc c vL).2.2 hl
   refine kt _ _ _ (by rw[aj nD];exact dE) (by rw[aO,cl];exact cA (show i<33 by lia) (by decide)) ⟨⟨_,rfl⟩,bt (sm.trans (ai hl)) mH,ab,cs++[l],by rw[cq];rfl,by rw[cF,cl];rfl,?_,fun c vL=>?_,fun j hj=>?_⟩
   .exact kQ.mpr ⟨nd,by simp,fun a ha b hb=>by rw[cE.mp hb];exact nl a ha⟩
   .rcases bS.mp vL with z|z
    .exact⟨(hc c z).1,(hc c z).2.1,by rw[aj (hc c z).2.1,aj (nl c z)];exact(hc c z).2.2⟩
    .rw[cE.mp z];exact⟨sm.free hl,nD.symm,by rw[aj nD.symm,ab];exact fun z=>by cases z⟩
   .by_cases c:j<i
    .have m:=lA (cs:=cs) (j:=j) (by lia);have e:(cs++[l]).getD j 0=cs.getD j 0:=by rw[bb,bb,h9 (by lia)]
     rw[e,aj (hc _ m).2.1,aj (nl _ m)];exact Cd j c
    .obtain rfl:j=i:=by lia
     have e:(cs++[l]).getD j 0=l:=by rw[bb,jq (by lia),cl,ir];rfl
     rw[e,aj nD.symm,ab]
  rintro ys σ H2 ⟨⟨a,rfl⟩,sm,dE,cs,rfl,cl,nd,hc,Cd⟩;rw[aO,bl] at cl Cd;have fD:H D1=none:=mH;have cH:∀h,h<n->H (cs.getD h 0)=none/\cs.getD h 0≠D1:=fun h hh=>⟨(hc _ (lA (by lia))).1,(hc _ (lA (by lia))).2.1⟩
  have U9:=SD.le;have JQ:=hp.neT hZ;have nha:=hp.neT pO;have Hx:=hp.ne fD;have Fq:∀h,h<n->cs.getD h 0≠p:=fun h hh=>hp.ne (cH h hh).1;dsimp only;refine⟨by show 1<=sizeLine;decide,fun L1 uM=>⟨_,rfl,sa,_,rfl,.inr (bD.of ((sm.trans (ai uM)) _ _ hZ)),L1,_,_,rfl,rfl,ab,by lia,by rw[aO];lia,by rw[iE,kC,aO];exact bw (show 1*st.length<=32 by lia) (by decide),fun Fo HV=>?_⟩⟩;rw[iE,jZ,aO];have eM:List.replicate st.length V.b_=(List.replicate st.length none).map oV:=by rw[xP];rfl
  rw[eM];have P9:=ai (o:=.lst [.b_]) uM;have CC:=sm.trans P9;have fF:=CC.free HV;have HW:=hp.ne fF;have R1:Fo≠D1:=(ak (P9 _ _ dE) HV).symm;have L3:∀h,h<n->cs.getD h 0≠Fo:=fun h hh=>ak (P9 _ _ (Cd h hh)) HV;have sF:=ai (o:=.lst ((List.replicate st.length none).map oV)) HV;have gF:=ab (H:=upd H2 L1 (.lst [.b_])) (a:=Fo) (o:=.lst ((List.replicate st.length none).map oV));have gD:=sF _ _ (P9 _ _ dE);have gc:∀h,h<n->_:=fun h hh=>sF _ _ (P9 _ _ (Cd h hh));have B6:=CC.trans sF;generalize upd (upd H2 L1 _) Fo _=H3 at *;have mv:=hp.same B6;refine⟨_,rfl,_,rfl,sa,_,rfl,.inr (bD.of (B6 _ _ hZ)),p,st.length,by rw[aO];rfl,by lia,mv,fun od Nq H4 s4 oa fod Xk pm=>?_⟩;refine⟨_,rfl,⟨_,aQ.of Xk⟩,fun D2 fu=>?_⟩;have aaa:Nq.length=st.length:=by rw[pm.length_eq,bR]
  have U_:=s4 _ _ (B6 _ _ hZ) JQ;refine kr (os:=Nq) (fun i=>(st.getD i none).isSome) (fun σ=>∃b,σ=[b,some (.ref sa)]) Xk fu (by lia) ⟨_,rfl⟩ ?_ ?_
  .rintro x σ H5 Kt Kf hx ⟨b',rfl⟩ my kt kf;have hxl:x<st.length:=bH.mp (pm.mem_iff.mp hx);refine⟨_,rfl,_,rfl,sa,_,_,_,rfl,rfl,bD.of (my _ _ U_),ao (c_ hxl),rfl,_,rfl,?_⟩;cases ho:st.getD x none with
   |none=>exact dQ (kf _ _ ⟨_,rfl⟩ (aG.refl _) (by rw[ho];rfl))
   |some h=>exact kK rfl ⟨_,rfl,kt _ _ ⟨_,rfl⟩ (aG.refl _) (by rw[ho];rfl)⟩
  intro H5 s5 q0;have osn:(Nq.filter fun i=>(st.getD i none).isSome).Nodup:=(pm.nodup_iff.mpr kE).sublist (tI);have Xl:∀j,j∈Nq.filter (fun i=>(st.getD i none).isSome)↔j<st.length/\st.getD j none≠none:=fun j=>by
   rw[bA,pm.mem_iff,bH];cases st.getD j none <;> simp
  have ut:(Nq.filter fun i=>(st.getD i none).isSome).length<=16:=bw (dF _ _) (by lia);generalize (Nq.filter fun i=>(st.getD i none).isSome)=os at *;have R5:au p H3 H5:=s4.trans (au.of s5);have U1:au p H H5:=(au.of B6).trans R5;have fD2:H D2=none:=((au.of B6).trans s4).free oa.full fu;have P_:=hp.ne fD2;have xh:=oa.same s5;have n2D:D2≠D1:=(ak (s4 _ _ gD Hx) fu).symm;have Xm:D2≠Fo:=(ak (s4 _ _ gF HW) fu).symm;have Xn:∀h,h<n->cs.getD h 0≠D2:=fun h hh=>ak (s4 _ _ (gc h hh) (Fq h hh)) fu;have Xo:∀ {k i},(NV os)[k]?=some i->∃j h,i=V.int ((j:Nat):Int)/\os[k]?=some j/\j<st.length/\st.getD j none=some h/\h<n:=fun {k i} hk=>by
   obtain⟨j,hj,rfl⟩:=kJ hk;obtain⟨jl,jn⟩:=(Xl j).mp (cm hj);cases ho:st.getD j none with
   |none=>exact absurd ho jn
   |some h=>exact⟨j,h,rfl,hj,jl,ho,SD.ss h (by rw[<-ho,bb,bO jl];exact dR _)⟩
  dsimp only;refine⟨_,rfl,D2,rfl,⟨_,aQ.of q0⟩,eI (K:=K) (xs:=NV os) (fun k σ Hc=>(∃ (ls:Nat->List Nat) (fs:List (Option Nat)),(∃a b c,σ=[some (.ref p),some (.ref r),some (.ref fr),some (.ref ha),some (.ref sa),some (.ref D1),some (.ref Fo),some (.ref D2),a,b,c])/\au p H Hc/\bu Hc p/\Hc D1=some (.lst (cs.map V.ref))/\Hc Fo=some (.lst (fs.map oV))/\Hc D2=some (.lst (NV os))/\lB n ts st fs ls/\(∀h,h<n->Hc (cs.getD h 0)=some (.lst (NV (ls h))))/\∀j,fs.getD j none≠none->j∈os.take k)) ⟨bh n ts,_,⟨_,_,_,rfl⟩,U1,xh,R5 _ _ gD Hx,R5 _ _ gF HW,q0,lB.start,fun h hh=>R5 _ _ (gc h hh) (Fq h hh),fun j hj=>absurd vf hj⟩ (fun k σ Hc _ z=>by obtain⟨_,_,_,_,_,_,_,z,_⟩:=z;exact aQ.of z) ?_ ?_⟩
  .rintro k i σ Hc hk ⟨ls,fs,⟨a8,a9,Va,rfl⟩,sc,jj,wX,sU,HX,LI,xi,oY⟩;obtain⟨j,h,rfl,hj,jl,ho,hh⟩:=Xo hk;have jf:fs.getD j none=none:=by
    cases e:fs.getD j none with
    |none=>rfl
    |some y=>
     have:=oY j (by rw[e];exact fun z=>by cases z);obtain⟨i',rE,ei⟩:=tH this;rw[jx] at rE;rw[List.getElem_take] at ei;have R8:=(cN.mp hj).2;have:=(tQ osn).mp (ei.trans R8.symm);lia
   have fl:=LI.len;have vo:=sc _ _ hZ JQ;have Qa:=sc _ _ pO nha;have oi:(st.map oV)[j]?=some (.int (h:Int)):=by rw[c_ jl,ho];rfl
   have hm:homes.getD j 0<n:=SD.hs _ (by rw[bb,bO (by rw[SD.len];exact jl)];exact dR _);have Xp:=eN (xs:=homes) (j:=j) (by rw[SD.len];exact jl);have Xq:bK Hc L' fr n (fun h=>(List.range n).map (far ts h)):=RF.keep U8 fun b o l e=>sc b o e fun z=>JO (z ▸ l);obtain⟨es,e1,e2,e3⟩:=Xq;have ge:∀k,k<n->(es.map V.ref)[k]?=some (.ref (es.getD k 0)):=fun k hk=>j7 (by rw[e3.1];exact hk);have ch:=j7 (bs:=cs) (h:=h) (by lia);refine⟨_,rfl,_,rfl,_,rfl,sa,_,_,_,rfl,rfl,bD.of vo,ao oi,fr,_,_,_,rfl,rfl,aQ.of e1,ao (ge h hh),_,rfl,_,rfl,ha,_,_,_,rfl,rfl,bD.of Qa,ao Xp,_,_,_,_,rfl,rfl,aQ.of (e3.2 h hh),ao (oh hm),?_⟩;refine⟨_,rfl,_,rfl,_,rfl,sa,_,_,_,rfl,rfl,bD.of vo,ao oi,D1,_,_,_,rfl,rfl,aQ.of wX,ao ch,_,rfl,⟨_,aQ.of (xi h hh)⟩,fun D3 kj=>?_⟩;have Xr:∀x∈ls h,x<n:=fun x hx=>Ff (by lia) (LI.sub h hh x hx);have lsl:(ls h).length<=32:=by have:=kn (n:=n) (ts:=ts) (h:=h);have:=LI.cnt h hh;lia
   refine kr (os:=ls h) (fun y=>decide (far ts y (homes.getD j 0)<far ts h (homes.getD j 0))) (fun σ=>∃b,σ=[b,some (.ref fr),some (.ref ha),some (.int (j:Int)),some (.int ((far ts h (homes.getD j 0):Nat):Int))]) (xi h hh) kj (by lia) ⟨_,rfl⟩ ?_ ?_
   .rintro x σ H6 Kt Kf hx ⟨b',rfl⟩ vH kt kf;refine⟨_,rfl,_,rfl,fr,_,_,_,rfl,rfl,aQ.of (vH _ _ e1),ao (ge x (Xr x hx)),_,rfl,_,rfl,ha,_,_,_,rfl,rfl,bD.of (vH _ _ Qa),ao Xp,_,_,_,_,rfl,rfl,aQ.of (vH _ _ (e3.2 x (Xr x hx))),ao (oh hm),_,rfl,_,_,rfl,rfl,_,rfl,?_⟩;refine d9 (fun c=>?_) (fun c=>?_)
    .exact⟨_,rfl,kt _ _ ⟨_,rfl⟩ (aG.refl _) (decide_eq_true (by have:=cM c;lia))⟩
    .exact kf _ _ ⟨_,rfl⟩ (aG.refl _) (cY fun z=>c (decide_eq_true (by lia)))
   intro H6 s6 wI;have Vb:∀x∈(ls h).filter (fun y=>decide (far ts y (homes.getD j 0)<far ts h (homes.getD j 0))),x∈ls h:=fun x hx=>(bA.mp hx).1;have gsl:((ls h).filter (fun y=>decide (far ts y (homes.getD j 0)<far ts h (homes.getD j 0)))).length<=32:=bw (dF _ _) lsl;generalize (ls h).filter _=gs at *;have s56:au p Hc H6:=au.of s6;dsimp only;refine⟨_,rfl,by show 0<=sizeLine;decide,fun E1 Hv=>?_⟩;have sE:=ai (o:=.lst []) Hv;refine⟨D3,E1,_,[],rfl,rfl,aQ.of (sE _ _ wI),aQ.of ab,fun i h1 h2=>absurd h2 (by simp),_,rfl,?_⟩;rw[am rfl,gL];have s7:=s6.trans sE;have EO:=sE _ _ wI;generalize upd H6 E1 _=H7 at *;have FW:=jj.same s7;have FX:=sc.trans (au.of s7);have nD3:=jj.ne kj;by_cases e:NV gs=[]
   .rw[decide_eq_true e];exact dQ ⟨ls,fs,⟨_,_,_,rfl⟩,FX,FW,s7 _ _ wX,s7 _ _ sU,s7 _ _ HX,LI,fun h hh=>s7 _ _ (xi h hh),fun j' By=>by rw[g9 hj];exact gy _ (oY j' By)⟩
   .rw[cY e];have gl:0<gs.length:=by
     rcases gs with _|⟨x,xs⟩
     .exact absurd rfl e
     .simp
    refine iG ⟨_,rfl,_,rfl,_,rfl,D3,_,rfl,.inl (aQ.of EO),p,_,rfl,by rw[aN];exact gl,by rw[aN];lia,FW,fun d H8 hd s8 rM=>?_⟩;rw[aN] at hd;have JP:gs.getD d 0∈ls h:=Vb _ (by rw[bb,bO hd];exact dR _);have Cz:=FX.trans s8;have Cy:=s8 _ _ (s7 _ _ wX) Hx;have R3:=s8 _ _ (s7 _ _ sU) HW;have h28:=s8 _ _ (s7 _ _ HX) P_;have hl8:∀h,h<n->H8 (cs.getD h 0)=some (.lst (NV (ls h))):=fun h hh=>s8 _ _ (s7 _ _ (xi h hh)) (Fq h hh);refine⟨D3,_,_,_,rfl,rfl,aQ.of (s8 _ _ EO nD3),ao (eN hd),_,rfl,_,rfl,Fo,_,(j:Int),j,rfl,rfl,R3,de (by rw[aO];lia),?_⟩;generalize gs.getD d 0=y at *;obtain⟨kk,R8,gk,ek⟩:=P8 JP;have eF:(fs.map oV).set j (.int (y:Int))=(fs.set j (some y)).map oV:=vj (o:=some y);rw[eF];have Xs:(upd H8 Fo (.lst ((fs.set j (some y)).map oV))) Fo=some (.lst ((fs.set j (some y)).map oV)):=ab;have Xt:(upd H8 Fo (.lst ((fs.set j (some y)).map oV))) D1=some (.lst (cs.map V.ref)):=by rw[aj R1.symm];exact Cy
    have h29:(upd H8 Fo (.lst ((fs.set j (some y)).map oV))) D2=some (.lst (NV os)):=by rw[aj Xm];exact h28
    have Vc:∀h,h<n->(upd H8 Fo (.lst ((fs.set j (some y)).map oV))) (cs.getD h 0)=some (.lst (NV (ls h))):=fun h hh=>by rw[aj (L3 h hh)];exact hl8 h hh
    have Vd:(upd H8 Fo (.lst ((fs.set j (some y)).map oV))) sa=some (.tup (st.map oV)):=by rw[aj (ak hZ fF)];exact Cz _ _ hZ JQ
    have Nl:au p H (upd H8 Fo (.lst ((fs.set j (some y)).map oV))):=au.put Cz fF;have Cc:=rM.put (o:=.lst ((fs.set j (some y)).map oV)) HW.symm;generalize upd H8 Fo _=H9 at *;have fj:((fs.set j (some y)).map oV)[j]?=some (.int (y:Int)):=by rw[c_ (by rw[gg];lia),iA (by lia),am rfl];rfl
    have gl9:H9 (cs.getD h 0)=some (.lst ((ls h).map (fun (x:Nat)=>(x:Int)) |>.map V.int)):=by rw[Vc h hh,cy];rfl
    refine⟨_,rfl,_,rfl,_,rfl,sa,_,_,_,rfl,rfl,bD.of Vd,ao oi,D1,_,_,_,rfl,rfl,aQ.of Xt,ao ch,.inl ⟨rfl,_,aQ.of (Vc h hh)⟩,_,rfl,_,rfl,Fo,_,_,_,rfl,rfl,aQ.of Xs,ao fj,cs.getD h 0,_,(y:Int),rfl,rfl,gl9,bn.mpr ⟨y,JP,rfl⟩,?_⟩;rw[ek];obtain⟨q1,q2,q3,q4⟩:=zI (LI.nd h hh) R8;have ey:(ls h)[kk]=y:=by rw[bO R8] at gk;exact bW gk
    rw[ey] at q1 q3;refine⟨fun k=>if k=h then (ls h).eraseIdx kk else ls k,fs.set j (some y),⟨_,_,_,rfl⟩,au.put Nl (cH h hh).1,Cc.put (Fq h hh).symm,by rw[aj (cH h hh).2.symm];exact Xt,by rw[aj (L3 h hh).symm];exact Xs,by rw[aj (Xn h hh).symm];exact h29,LI.step jl ho hh jf q1 q2 q3 q4,fun k' Jk=>?_,fun j' By=>?_⟩
    .dsimp only;by_cases c:k'=h
     .subst c;rw[am rfl,ab]
     .rw[aA c,aj (Fe nd (by lia) (by lia) c)];exact Vc k' Jk
    .rw[g9 hj];rw[iA (by lia)] at By;by_cases c:j'=j
     .rw[c];exact iC _ bU
     .rw[aA c] at By;exact gy _ (oY j' By)
  .rintro σ Hc ⟨ls,fs,⟨a8,a9,Va,rfl⟩,sc,jj,wX,sU,HX,LI,xi,_⟩;refine⟨_,rfl,D2,rfl,⟨_,aQ.of HX⟩,eI (K:=K) (xs:=NV os) (fun k σ Hc=>(∃ (ls:Nat->List Nat) (fs:List (Option Nat)),(∃a b c,σ=[some (.ref p),some (.ref r),some (.ref fr),some (.ref ha),some (.ref sa),some (.ref D1),some (.ref Fo),some (.ref D2),a,b,c])/\au p H Hc/\bu Hc p/\Hc D1=some (.lst (cs.map V.ref))/\Hc Fo=some (.lst (fs.map oV))/\Hc D2=some (.lst (NV os))/\lB n ts st fs ls/\(∀h,h<n->Hc (cs.getD h 0)=some (.lst (NV (ls h))))/\∀j,j∈os.take k->fs.getD j none≠none)) ⟨ls,fs,⟨_,_,_,rfl⟩,sc,jj,wX,sU,HX,LI,xi,fun j hj=>by simp at hj⟩ (fun k σ Hc _ z=>by obtain⟨_,_,_,_,_,_,_,z,_⟩:=z;exact aQ.of z) ?_ ?_⟩
   .rintro k i σ Hc hk ⟨ls,fs,⟨a8,a9,Va,rfl⟩,sc,jj,wX,sU,HX,LI,xi,oY⟩;obtain⟨j,h,rfl,hj,jl,ho,hh⟩:=Xo hk;have fl:=LI.len;have vo:=sc _ _ hZ JQ;have oi:(st.map oV)[j]?=some (.int (h:Int)):=by rw[c_ jl,ho];rfl
    have ch:=j7 (bs:=cs) (h:=h) (by lia);refine⟨_,rfl,_,rfl,Fo,_,_,_,rfl,rfl,aQ.of sU,ao (c_ (by lia)),rfl,_,rfl,?_⟩;cases jf:fs.getD j none with
    |some y=>
     refine kL rfl ⟨ls,fs,⟨_,_,_,rfl⟩,sc,jj,wX,sU,HX,LI,xi,fun j' By=>?_⟩;rw[g9 hj] at By;rcases bS.mp By with z|z
     .exact oY j' z
     .rw[cE.mp z,jf];exact fun z=>by cases z
    |none=>
     have g1:=xi h hh;have lp:0<(ls h).length:=LI.full jl ho hh jf (SD.RV h hh);have lu:(ls h).length<=32:=by have:=kn (n:=n) (ts:=ts) (h:=h);have:=LI.cnt h hh;lia
     refine iG ⟨_,rfl,_,rfl,_,rfl,sa,_,_,_,rfl,rfl,bD.of vo,ao oi,D1,_,_,_,rfl,rfl,aQ.of wX,ao ch,.inl ⟨rfl,_,aQ.of g1⟩,_,rfl,_,rfl,_,rfl,_,rfl,sa,_,_,_,rfl,rfl,bD.of vo,ao oi,D1,_,_,_,rfl,rfl,aQ.of wX,ao ch,_,_,rfl,.inl (aQ.of g1),p,_,rfl,by rw[aN];exact lp,by rw[aN];lia,jj,fun d H9 hd s9 Cc=>?_⟩;rw[aN] at hd;have hv:(ls h)[d]?=some (ls h)[d]:=bO hd;have hF9:=s9 _ _ sU HW;refine⟨_,_,(d:Int),d,.int ((ls h)[d]:Nat),rfl,rfl,s9 _ _ g1 (Fq h hh),by lia,by lia,(lT (de (by rw[aN];exact hd))).1,by unfold NV;rw[bZ,hv];rfl,?_⟩;refine⟨_,rfl,_,rfl,Fo,_,(j:Int),j,rfl,rfl,by rw[aj (L3 h hh).symm];exact hF9,de (by rw[aO];lia),?_⟩;have eF:(fs.map oV).set j (.int (((ls h)[d]:Nat):Int))=(fs.set j (some (ls h)[d])).map oV:=vj (o:=some (ls h)[d]);rw[eF,jY];obtain⟨q1,q2,q3,q4⟩:=zI (LI.nd h hh) hd;refine⟨fun k=>if k=h then (ls h).eraseIdx d else ls k,fs.set j (some (ls h)[d]),⟨_,_,_,rfl⟩,au.put (au.put (sc.trans s9) (cH h hh).1) fF,(Cc.put (Fq h hh).symm).put HW.symm,by rw[aj R1.symm,aj (cH h hh).2.symm];exact s9 _ _ wX Hx,ab,by rw[aj Xm,aj (Xn h hh).symm];exact s9 _ _ HX P_,LI.step jl ho hh jf q1 q2 q3 q4,fun k' Jk=>?_,fun j' By=>?_⟩
     .dsimp only;rw[aj (L3 k' Jk)];by_cases c:k'=h
      .subst c;rw[am rfl,ab]
      .rw[aA c,aj (Fe nd (by lia) (by lia) c)];exact s9 _ _ (xi k' Jk) (Fq k' Jk)
     .rw[g9 hj] at By;rw[iA (by lia)];by_cases c:j'=j
      .rw[am c];exact fun z=>by cases z
      .rw[aA c];rcases bS.mp By with z|z
       .exact oY j' z
       .exact absurd (cE.mp z) c
   .rintro σ Hc ⟨ls,fs,⟨a8,a9,Va,rfl⟩,sc,jj,wX,sU,HX,LI,xi,oY⟩;refine⟨_,rfl,Fo,_,rfl,.inl ⟨aQ.of sU,fun t ht=>?_⟩⟩;have bj:=ai (o:=.tup (fs.map oV)) ht;rw[aN,fA] at oY;refine q t fs _ (sc.trans (au.of bj)) (jj.same bj) ab (LI.done fun j hj=>oY j ((Xl j).mpr ⟨?_,hj⟩));rcases ng j st.length with c|c
    .exact c
    .exact absurd (by rw[bb,dG c];rfl) hj
end
abbrev Os:=List (Addr×Option Nat×Option Nat)
abbrev oP(u:Option Nat×Option Nat):List V:=[oV u.1,oV u.2]
theorem vp{a b:Option Nat}(h:oV a=oV b):a=b:=by
 cases a <;> cases b
 .rfl
 .cases h
 .cases h
 .injection h with h;exact congrArg some (dI h)
theorem wY{a b:Option Nat}:iX (oV a) (oV b)=decide (a=b):=by
 cases a <;> cases b <;> first|rfl|skip
 rename_i x y;show ((x:Int)==(y:Int))=decide (some x=some y);by_cases h:x=y
 .subst h;simp
 .rw[cY (by simpa using h)];exact ou.mpr fun z=>h (dI z)
theorem pP{a:Option Nat}:dJ (oV a)=true:=by cases a <;> rfl
theorem AU{u:Option Nat×Option Nat}:(oP u).all dJ=true:=by
 show (dJ (oV u.1)&&(dJ (oV u.2)&&true))=true;rw[pP,pP];rfl
theorem Qb{p q:Option Nat×Option Nat}:g7 iX (oP p) (oP q)=decide (p=q):=by
 obtain⟨a,b⟩:=p;obtain⟨c,d⟩:=q;show (iX (oV a) (oV c)&&(iX (oV b) (oV d)&&true))=decide ((a,b)=(c,d));rw[wY,wY];by_cases h1:a=c <;> by_cases h2:b=d <;> simp[h1,h2]
theorem L6{p q:Option Nat×Option Nat}(h:oP p=oP q):p=q:=ff (vp (iR h).1) (vp (iR (iR h).2).1)
def JR(K:PySem.W.Frag):R2:=fun x y H Q=>∃ (p l:Addr) (u:Option Nat×Option Nat) (zs:Os),x=.ref p/\y=.ref l/\bD K H p (oP u)/\aQ K H l (zs.map fun z=>V.ref z.1)/\(∀z∈zs,bD K H z.1 (oP z.2))/\Q (.bl (!decide (u∈zs.map (·.2)))) H
section
open PySem.Spec PyProof.Rows
variable {X:Cx}
open Classical in
theorem HY(hu:X.A.units+2<cLine):k7 X (compareOp .NotIn) (JR X.K):=by
 intro af s σ H x y v u Q I rx ry h;obtain⟨p,l,w,zs,rfl,rfl,hp,hl,hz,q⟩:=h;obtain rfl:v=Value.ref p:=rx;obtain rfl:u=Value.ref l:=ry;obtain⟨its,r,pl,_⟩:=I.list hl;have e:=l0 (as:=zs.map (·.1)) (by rw[cy];exact r);subst e;have fe:∀z∈zs,decide (∃a,Value.ref z.1=Value.ref a/\bD X.K H a (oP w))=decide (z.2=w):=fun z n0=>by
  rw[ic,lI,lI];constructor
  .rintro⟨a,e,ha⟩;cases e;exact L6 (I.fW (hz z n0) ha)
  .intro e;rw[<-e];exact⟨_,rfl,hz z n0⟩
 refine x_ (fun v=>decide (∃a,v=Value.ref a/\bD X.K H a (oP w))) pl.isList (fun y hy=>?_) ⟨.bl _,H,I,rfl,?_⟩
 .rw[List.mem_toArray,cy] at hy;obtain⟨z,n0,rfl⟩:=bn.mp hy;have:=wr (A:=X.A.in1) I (by show X.A.units+1+1<cLine;lia) (hz z n0) hp rfl AU AU;rw[Qb,<-fe z n0] at this;exact this
 .have:(List.map Value.ref (zs.map (·.1))).toArray.any (fun v=>decide (∃a,v=Value.ref a/\bD X.K H a (oP w)))=decide (w∈zs.map (·.2)):=by
   rw[List.any_toArray,ic,jy,lI,bn];constructor
   .rintro⟨y,hy,c⟩;rw[cy] at hy;obtain⟨z,n0,rfl⟩:=bn.mp hy;exact⟨z,n0,cM ((fe z n0).symm.trans c)⟩
   .rintro⟨z,n0,e⟩;exact⟨Value.ref z.1,by rw[cy];exact bn.mpr ⟨z,n0,rfl⟩,(fe z n0).trans (decide_eq_true e)⟩
  rw[this];exact q
end
abbrev Ve:Stmt:=i5 4
theorem nbG:(["other","self","home","own"]:List Str).Nodup:=by decide +kernel
theorem eO:(["letter","stand","handing","led_letters"]:List Str).Nodup:=by decide +kernel
theorem ja:(["other","house","nearing"]:List Str).Nodup:=by decide +kernel
theorem JS{x:Nat}:∀ {xs:List Nat},Bh (.int (x:Int)) (NV xs)=decide (x∈xs)
 |[]=>rfl
 |y::ys=>by
  have ih:=JS (x:=x) (xs:=ys);unfold Bh NV at *;rw[eE,iq,ih];by_cases e:y=x
  .subst e;simp[iX]
  .have e':¬ x=y:=fun z=>e z.symm;have e2:¬ (y:Int)=(x:Int):=fun z=>e (dI z);have e3:¬ (x:Int)=(y:Int):=fun z=>e' (dI z);simp[iX,e',e2,e3]
noncomputable def hG(n:Nat)(ts:Ts)(i j:Nat):List Nat:=(bh n ts i).filter fun o=>decide (far ts o j<far ts i j)
noncomputable def AV(ts:Ts)(homes:List Nat)(st fs:List (Option Nat))(m:Nat):List (Option Nat×Option Nat):=((List.range m).filter fun j=>!gw ts homes st fs j).map fun j=>(st.getD j none,fs.getD j none)
noncomputable def HZ(n:Nat)(ts:Ts)(homes:List Nat)(st fs:List (Option Nat))(i:Nat):Bool:=(hG n ts ((st.getD i none).getD 0) (homes.getD i 0)).any fun y=>!decide ((st.getD i none,some y)∈AV ts homes st fs st.length)
noncomputable def Ch(n:Nat)(ts:Ts)(homes:List Nat)(st fs:List (Option Nat))(ls:List Nat):Bool:=!ls.any (HZ n ts homes st fs)
theorem q_{ts:Ts}{homes:List Nat}{st fs:List (Option Nat)}{m i:Nat}(h:i∈i_ ts homes st fs m):i<m/\gw ts homes st fs i=true:=⟨bH.mp (bA.mp h).1,(bA.mp h).2⟩
theorem AW{ts:Ts}{homes:List Nat}{st fs:List (Option Nat)}{m i:Nat}(h:i<m):Bh (.int (i:Int)) (NV (i_ ts homes st fs m))=gw ts homes st fs i:=by
 rw[JS];cases e:gw ts homes st fs i with
 |true=>exact decide_eq_true (bA.mpr ⟨bH.mpr h,e⟩)
 |false=>exact cY fun z=>by rw[(q_ z).2] at e;cases e
theorem wZ{ts:Ts}{homes:List Nat}{st fs:List (Option Nat)}{i:Nat}:AV ts homes st fs (i+1)=AV ts homes st fs i++if gw ts homes st fs i=true then [] else [(st.getD i none,fs.getD i none)]:=by
 unfold AV;rw[je,eH,cq,cQ];cases gw ts homes st fs i <;> rfl
theorem Qc(n:Int)(tl ol ds:Addr):(o5 n tl ol ds).lookup ("good":Str)=none:=uU n tl ol ds (by decide +kernel) (by decide +kernel) (by decide +kernel) (by decide +kernel)
theorem vq{β:Type}{K:PySem.W.Frag}{a D:Addr}{g:TG}{tt:TT}{te:TE}{dU:Hp->Prop}{σB:St}{H0:Hp}(ms:List β)(e:β->V)(c:β->Bool)(G:β->V)(bq:St->Prop)(ha:H0 a=some (.lst (ms.map e)))(hD:H0 D=none)(hn:ms.length<=1000)(h0:bq σB)(hs:∀m σ H (Kt:V->St->Hp->Prop) (Kf:St->Hp->Prop),m∈ms->bq σ->aG H0 H->(∀σ2 H2,bq σ2->aG H H2->c m=true->Kt (G m) σ2 H2)->(∀σ2 H2,bq σ2->aG H H2->c m=false->Kf σ2 H2)->
   g (e m) σ H fun σ2 H2=>tt σ2 H2 fun b H3=>if b=true then te σ2 H3 fun v H4=>Kt v σ2 H4 else Kf σ2 H3)(hd:∀H,aG H0 H->H D=some (.lst ((ms.filter c).map G))->dU H):fP (A7 K a) g tt te D dU σB (upd H0 D (.lst [])):=by
 refine cK (xs:=ms.map e) (fun i ys σ H=>bq σ/\aG H0 H/\H D=some (.lst ys)/\ys=((ms.take i).filter c).map G) ⟨h0,ai hD,ab,rfl⟩ (fun i ys σ H _ z=>aQ.of (z.2.1 _ _ ha)) ?_ ?_
 .rintro i x ys σ H Kt Kf hx ⟨sh,sm,dE,rfl⟩ kt kf;rw[bZ] at hx;obtain⟨y,hy,rfl⟩:=xx.mp hx;have tk:ms.take (i+1)=ms.take i++[y]:=by rw[eC,hy];rfl
  refine hs y σ H Kt Kf (cm hy) sh sm (fun σ2 H2 lr s2 e=>?_) (fun σ2 H2 lr s2 e=>?_)
  .refine kt _ _ _ (s2 _ _ dE) ?_ ⟨lr,bt (sm.trans s2) hD,ab,?_⟩
   .rw[aO];exact eA (bw (dF _ _) (kO _ _)) (eA hn (by decide))
   .rw[tk,eH,cq,cQ,e];rfl
  .refine kf _ _ ⟨lr,sm.trans s2,s2 _ _ dE,?_⟩;rw[tk,eH,cQ,e];simp
 .rintro ys σ H ⟨_,sm,dE,rfl⟩;rw[aO,fA] at dE;exact hd H sm dE
section
variable {P:Program} {w:World} {K:PySem.W.Frag} {mg:Str->Option Value} {base:Heap}
theorem Fv:aS ["self","house","home","own"] ["self","house","home"] (az Em):=dB (by decide +kernel)
def vt(C:Addr):Sp:=fun vs H Q _=>∃ (L:Addr->Prop) (p:Addr) (n:Nat) (ts:Ts) (i j:Nat),vs=[.ref p,.int i,.int j]/\fQ C H L p n ts/\i<n/\j<n/\∀r H',aG H H'->H r=none->H' r=some (.lst (NV (hG n ts i j)))->Q (.ref r) H'
theorem Fw{f C:Addr}{fd:FuncData}(F:hW K "good" "Net.good" Em f fd)(T:NT K mg C)(M:wD P w K mg base bE 5 C "far" ["self","one","other"] (uV C)):
  bY P w K mg base bE 6 f fd ["self","house","home"] (vt C):=by
 obtain⟨fM,Zw,mM,bM,GM⟩:=M.ex;refine F.ok Fv (fun vs H Q E h=>?_) (fun eQ A outer s H vs Q E hr h=>?_)
 .obtain⟨L,p,n,ts,i,j,rfl,_⟩:=h;rfl
 .obtain⟨L,p,n,ts,i,j,rfl,N,hi,hj,k2⟩:=h;obtain⟨dx,tl,ol,ds,h1,_,_,RO,R,_⟩:=N.ob;have fi:=N.lm;have n2:=fi.n2;refine'⟨_,ag (aH (i:=3) Fv.nd rfl bo (j_ (pv 0) T.cl mM GM hr bM .nil aR (aa (pv 1) (aa (pv 2) ae))))
   (ap (aX ?c)),?_⟩
  case c=>
   refine' bJ (g:=bp 0) (tt:=eK (dW (rn fun i j=>.bl (decide (i<j))) (dW (jo K) (dW (jo K) (Ko K (aK 1) "distances") (aK 0)) (aK 2)) (aK 3))) (te:=aK 0) (NB:=["other","self","home","own"]) (src:=[none,some 0,some 2,some 3]) (bf (by kernel_rfl)) rfl (bi (aJ aF (nw (pv 0) rfl) (pv 1) (fun _ _=>rfl))) ?g ?t ?e;case g=>exact fun cl C s₃ H₃ fp=>aq (i:=0) nbG rfl aM bo
   case t=>exact fun cl C s₃ H₃ fp=>cj (aI jh (aJ aF (aJ aF (nw (pv 1) rfl) (pv 0) (fun _ _=>rfl)) (pv 2) (fun _ _=>rfl)) (pv 3) (aP _))
   case e=>exact fun cl C s₃ H₃ fp=>pv 0
  refine⟨_,rfl,p,dx,_,rfl,h1,K8 _ _ _ _,_,rfl,_,rfl,L,p,n,ts,i,j,rfl,N,hi,hj,?_⟩;obtain⟨bs,b,r1,r2,r3,_⟩:=RO.row hi;refine⟨_,rfl,p,C,dx,_,_,rfl,h1,T.cl,T.nO,G_ _ _ _ _,_,rfl,ol,_,_,_,rfl,rfl,aQ.of r1,ao r2,b,rfl,⟨_,aQ.of r3⟩,fun D hD=>?_⟩;have nb:b≠D:=ak r3 hD;refine cK (xs:=NV (bh n ts i)) (fun m ys σ H2=>(∃a,σ=[a,some (.ref p),some (.int (j:Int)),some (.int ((far ts i j:Nat):Int))])/\ys=NV (((bh n ts i).take m).filter fun o=>decide (far ts o j<far ts i j))/\H2=upd H D (.lst ys)) ⟨⟨_,rfl⟩,by simp,rfl⟩ (fun m ys σ H2 _ ⟨_,_,e⟩=>by rw[e];exact aQ.of (by rw[aj nb];exact r3)) ?_ ?_
  .rintro m x ys σ H2 Kt Kf hx ⟨⟨a,rfl⟩,ey,rfl⟩ kt kf;obtain⟨v,hv,rfl⟩:=kJ hx;have Lj:v∈bh n ts i:=cm hv;have Ev:v<n:=l7 fi hi Lj;have sm:aG H (upd H D (.lst ys)):=ai hD;obtain⟨bs2,b2,q1,q2,q3,_⟩:=R.row Ev;have hg:(NV ((List.range n).map (far ts v)))[j]?=some (.int (far ts v j:Nat)):=by
    rw[bZ,bZ,gN hj];rfl
   have tk:(bh n ts i).take (m+1)=(bh n ts i).take m++[v]:=by rw[eC,hv];rfl
   have hm:m<(bh n ts i).length:=(cN.mp hv).1;refine⟨_,rfl,p,C,dx,_,_,rfl,sm _ _ h1,T.cl,T.nD,AE _ _ _ _,_,rfl,ds,_,_,_,rfl,rfl,aQ.of (sm _ _ q1),ao q2,_,rfl,b2,_,_,_,rfl,rfl,aQ.of (sm _ _ q3),ao hg,_,rfl,_,_,rfl,rfl,_,rfl,?_⟩;refine d9 (fun e=>?_) (fun e=>?_)
   .refine⟨_,rfl,kt _ _ _ ab ?_ ⟨⟨_,rfl⟩,?_,by rw[j8]⟩⟩
    .rw[ey,aN];refine eA (dF _ _) (eA (tG _ _) (cA (show m<33 from ?_) (by decide)));have:(bh n ts i).length<=n:=bw (dF _ _) (by simp);lia
    .have:decide (far ts v j<far ts i j)=true:=by simp at e |-;lia
     rw[ey,tk,eH,i6];simp[cQ,this]
   .refine kf _ _ ⟨⟨_,rfl⟩,?_,rfl⟩;have:decide (far ts v j<far ts i j)=false:=by simp at e |-;lia
    rw[ey,tk,eH];simp[cQ,this]
  .rintro ys σ H2 ⟨_,ey,rfl⟩;rw[aN,fA] at ey;refine k2 D _ (ai hD) hD ?_;rw[ab,ey];rfl
theorem Fx:aS ["net","homes","stand","handing","led_letters","nearing","letter","house"] ["net","homes","stand","handing"] (az Ve):=dB (by decide +kernel)
def L7(C:Addr):Sp:=fun vs H Q _=>∃ (L:Addr->Prop) (p:Addr) (n:Nat) (ts:Ts) (ha:Addr) (homes:List Nat) (sa:Addr) (st:List (Option Nat)) (fa:Addr) (fs:List (Option Nat)),vs=[.ref p,.ref ha,.ref sa,.ref fa]/\fQ C H L p n ts/\H ha=some (.tup (NV homes))/\H sa=some (.tup (st.map oV))/\H fa=some (.tup (fs.map oV))/\Cg n homes st fs/\∀H',aG H H'->Q (.bl (Ch n ts homes st fs (i_ ts homes st fs st.length))) H'
theorem Qd{f C:Addr}{fd:FuncData}(F:hW K "is_eager" "is_eager" Ve f fd)(B:Bl mg)(T:NT K mg C)(LE:cX P w K mg base bE 7 "led" ["net","homes","stand","handing"] (AT C))(MG:wD P w K mg base bE 6 C "good" ["self","house","home"] (vt C)):bY P w K mg base bE 8 f fd ["net","homes","stand","handing"] (L7 C):=by
 obtain⟨fG,fdG,mG,bG,GG⟩:=MG.ex;refine F.ok Fx (fun vs H Q E h=>?_) (fun eQ A outer s H vs Q E hr h=>?_)
 .obtain⟨L,p,n,ts,ha,homes,sa,st,fa,fs,rfl,_⟩:=h;rfl
 .obtain⟨L,p,n,ts,ha,homes,sa,st,fa,fs,rfl,N,pO,hZ,om,G,q⟩:=h;have h6:dk 6 _:=hr.mono (by decide);refine'⟨_,(ag (aH (i:=4) Fx.nd rfl bo (aL LE hr aR (aa (pv 0) (aa (pv 1) (aa (pv 2) (aa (pv 3) ae))))))
   (ag (aH (i:=5) Fx.nd rfl bo ?c1)
   (ag (cn cZ rfl (bi (pv 4)) (aq (i:=6) Fx.nd rfl aM)
    (ag (aH (i:=7) Fx.nd rfl bo (aJ bz (pv 2) (pv 6) (fun _ _=>rfl)))
    (ap (cf (fV (aE (nJ rfl) (by rfl) B.any xE (aa ?c2 ae))) (ap (aX lK)) a_))))
   (ap (aX lK))))),?_⟩
  case c1=>
   refine' bJ (g:=(bp 0)) (tt:=(eK (dW (Kw K true) (aK 0) (aK 3)))) (te:=(nA (br (dW (ky K) (aK 1) (aK 0)) (br (dW (ky K) (aK 2) (aK 0)) eY)))) (NB:=["letter","stand","handing","led_letters"]) (src:=[none,some 2,some 3,some 4]) (bf (by kernel_rfl)) rfl (aY rfl B.range (aa (aE aD (by rfl) B.len cu (aa (pv 1) ae)) ae)) ?g ?t ?e;case g=>exact fun cl C s₃ H₃ fp=>(aq (i:=0) eO rfl aM bo)
   case t=>exact fun cl C s₃ H₃ fp=>cj (aI lU (pv 0) (pv 3) rfl)
   case e=>exact fun cl C s₃ H₃ fp=>(bP (aa (aJ bz (pv 1) (pv 0) (fun _ _=>rfl)) (aa (aJ bz (pv 2) (pv 0) (fun _ _=>rfl)) ae)))
  case c2=>
   refine' bJ (g:=(bp 0)) (te:=(dW (JR K) (nA (br (aK 1) (br (aK 0) eY))) (aK 2))) (NB:=["other","house","nearing"]) (src:=[none,some 7,some 5]) (bf (by kernel_rfl)) rfl (bi (j_ (pv 0) T.cl mG GG h6 bG .nil aR (aa (pv 7) (aa (aJ bz (pv 1) (pv 6) (fun _ _=>rfl)) ae)))) ?g ?t ?e;case g=>exact fun cl C s₃ H₃ fp=>(aq (i:=0) ja rfl aM bo)
   case t=>exact fun cl C s₃ H₃ fp=>ce
   case e=>exact fun cl C s₃ H₃ fp=>(ie (HY hr.u) (bP (aa (pv 1) (aa (pv 0) ae))) (pv 2) rfl)
  have l1:=G.l1;have l2:=G.l2;have l3:=G.l3;refine⟨_,rfl,_,rfl,_,rfl,_,rfl,L,p,n,ts,ha,homes,sa,st,fa,fs,rfl,N,pO,hZ,om,G,fun r1 H1 s1 nr1 JD=>?_⟩;dsimp only;have N1:=N.same s1;refine⟨_,rfl,ha,_,rfl,.inr (bD.of (s1 _ _ pO)),_,rfl,by lia,by rw[aN];lia,fun D1 mH=>?_⟩;rw[aN,l1];refine dD (n:=st.length) (fun i ys σ H2=>(∃b,σ=[b,some (.ref sa),some (.ref fa),some (.ref r1)])/\aG H1 H2/\H2 D1=some (.lst ys)/\∃zs:Os,ys=zs.map (fun z=>V.ref z.1)/\zs.map (·.2)=AV ts homes st fs i/\∀z∈zs,z.1≠D1/\H2 z.1=some (.tup (oP z.2))) ⟨⟨_,rfl⟩,ai mH,ab,[],rfl,rfl,fun z hz=>(nomatch hz)⟩ ?_ ?_
  .rintro j ys σ H2 Kt Kf hj ⟨⟨b,rfl⟩,sm,dE,zs,rfl,ez,hz⟩ kt kf;rw[dz];have hS2:=sm _ _ (s1 _ _ hZ);have RZ:=sm _ _ (s1 _ _ om);refine⟨_,rfl,_,rfl,r1,_,rfl,.inl (aQ.of (sm _ _ JD)),rfl,HR,_,rfl,?_⟩;cases hk:gw ts homes st fs j with
   |true=>
    refine kL (by show (!Bh _ _)=false;rw[AW hj,hk];rfl) (kf _ _ ⟨⟨_,rfl⟩,sm,dE,zs,rfl,?_,hz⟩);rw[ez,wZ,hk];simp
   |false=>
    refine kK (by show (!Bh _ _)=true;rw[AW hj,hk];rfl) ⟨_,rfl,_,rfl,sa,_,_,_,rfl,rfl,bD.of hS2,ao (c_ hj),_,rfl,_,rfl,fa,_,_,_,rfl,rfl,bD.of RZ,ao (c_ (by lia)),by show 2<=sizeLine;decide,fun t ht=>?_⟩;have nD:D1≠t:=ak dE ht;refine kt _ _ _ (by rw[aj nD];exact dE) ?_ ⟨⟨_,rfl⟩,bt (sm.trans (ai ht)) mH,ab,zs++[(t,st.getD j none,fs.getD j none)],by rw[cq];rfl,?_,fun z n0=>?_⟩
    .rw[aO,<-aO (f:=(·.2)),ez];unfold AV;rw[aO];exact eA (dF _ _) (by rw[bR];exact cA (show j<17 by lia) (by decide))
    .rw[cq,ez,wZ,hk];rfl
    .rcases bS.mp n0 with c|c
     .obtain⟨a,b⟩:=hz z c;exact⟨a,by rw[aj a,aj (ak b ht)];exact b⟩
     .rw[cE.mp c];exact⟨nD.symm,by rw[aj nD.symm,ab]⟩
  .rintro ys σ H2 ⟨_,sm,dE,zs,rfl,ez,hz⟩;dsimp only;have s2:=s1.trans sm;refine⟨_,rfl,r1,rfl,⟨_,aQ.of (sm _ _ JD)⟩,eI (K:=K) (xs:=NV (i_ ts homes st fs st.length)) (fun k σ Hc=>(∃a b,σ=[some (.ref p),some (.ref ha),some (.ref sa),some (.ref fa),some (.ref r1),some (.ref D1),a,b])/\aG H2 Hc/\((i_ ts homes st fs st.length).take k).any (HZ n ts homes st fs)=false) ⟨⟨_,_,rfl⟩,aG.refl _,rfl⟩ (fun k σ Hc _ z=>aQ.of (z.2.1 _ _ (sm _ _ JD))) ?_ ?_⟩
   .rintro k x σ Hc hk ⟨⟨a,b,rfl⟩,sc,vv⟩;obtain⟨i,hi,rfl⟩:=kJ hk;have R9:=cm hi;obtain⟨il,ib⟩:=q_ R9;have L8:=s2.trans sc;have Nc:=N.same L8;obtain⟨dx,tl,ol,ds,hN,_⟩:=Nc.ob;have tk:(i_ ts homes st fs st.length).take (k+1)=(i_ ts homes st fs st.length).take k++[i]:=by rw[eC,hi];rfl
    refine⟨_,rfl,_,rfl,sa,_,_,_,rfl,rfl,bD.of (L8 _ _ hZ),ao (c_ il),?_⟩;cases ho:st.getD i none with
    |none=>unfold gw at ib;rw[ho] at ib;cases ib
    |some h=>
     obtain⟨hn,_⟩:=G.out i h ho;refine⟨_,rfl,p,dx,_,rfl,hN,Qc _ _ _ _,_,rfl,_,rfl,_,rfl,ha,_,_,_,rfl,rfl,bD.of (L8 _ _ pO),ao (eN (by lia)),L,p,n,ts,h,homes.getD i 0,rfl,Nc,hn,G.hs i il,fun r3 H3 s3 nr3 R_=>?_⟩;have lg:(hG n ts h (homes.getD i 0)).length<=n:=bw (dF _ _) kn;have n2:=N.lm.n2;refine⟨r3,rfl,⟨_,aQ.of R_⟩,fun D3 kj=>?_⟩;refine vq (hG n ts h (homes.getD i 0)) (fun y=>V.int (y:Nat)) (fun _=>true) (fun y=>.bl (!decide ((some h,some y)∈AV ts homes st fs st.length))) (fun σ=>∃b,σ=[b,some (.int (h:Int)),some (.ref D1)]) R_ kj (by lia) ⟨_,rfl⟩ ?_ ?_
     .rintro y σ H4 Kt Kf hy ⟨b',rfl⟩ o9 kt kf;refine⟨_,rfl,_,rfl,by show 2<=sizeLine;decide,fun t ht=>⟨_,rfl,t,D1,(some h,some y),zs,rfl,rfl,bD.of ab,aQ.of ?_,fun z n0=>bD.of ?_,?_⟩⟩
      .exact(sc.trans (s3.trans (o9.trans (ai ht)))) _ _ dE
      .exact(sc.trans (s3.trans (o9.trans (ai ht)))) _ _ (hz z n0).2
      .rw[ez];exact kt _ _ ⟨_,rfl⟩ (ai ht) rfl
     .intro H5 s5 q0;rw[List.filter_eq_self.mpr fun _ _=>rfl] at q0;have Xu:=sc.trans (s3.trans s5);refine⟨D3,(hG n ts h (homes.getD i 0)).map fun y=>!decide ((some h,some y)∈AV ts homes st fs st.length),rfl,aQ.of (by rw[q0,cy];rfl),_,rfl,?_⟩;have ee:((hG n ts h (homes.getD i 0)).map fun y=>!decide ((some h,some y)∈AV ts homes st fs st.length)).any id=HZ n ts homes st fs i:=by
       unfold HZ;rw[ho,List.any_map];rfl
      rw[ee];cases hb:HZ n ts homes st fs i with
      |true=>
       refine iG ?_;have:Ch n ts homes st fs (i_ ts homes st fs st.length)=false:=by
        unfold Ch;rw[jy.mpr ⟨i,R9,hb⟩];rfl
       rw[<-this];exact q H5 (s2.trans Xu)
      |false=>
       refine dQ ⟨⟨_,_,rfl⟩,Xu,?_⟩;rw[tk,List.any_append,vv,iq,hb];rfl
   .rintro σ Hc ⟨⟨a,b,rfl⟩,sc,vv⟩;rw[aN,fA] at vv;have:Ch n ts homes st fs (i_ ts homes st fs st.length)=true:=by
     unfold Ch;rw[vv];rfl
    rw[<-this];exact q Hc (s2.trans sc)
end
theorem Hd.swap{n:Nat}{ts:Ts}{st fs:List (Option Nat)}(d:Hd n ts st fs){i j:Nat}(hi:i<st.length)(hj:j<st.length)(ne:i≠j)(e:st.getD j none=st.getD i none):Hd n ts st ((fs.set i (fs.getD j none)).set j (fs.getD i none)):=by
 have l:=d.len;have g:∀k,((fs.set i (fs.getD j none)).set j (fs.getD i none)).getD k none=fs.getD (if k=j then i else if k=i then j else k) none:=fun k=>by
  rw[iA (by rw[gg];lia),iA (by lia)];by_cases c:k=j
  .rw[am c,am c]
  .rw[aA c,aA c];by_cases c':k=i
   .rw[am c',am c']
   .rw[aA c',aA c']
 have s:∀k,st.getD (if k=j then i else if k=i then j else k) none=st.getD k none:=fun k=>by
  by_cases c:k=j
  .rw[am c,c,e]
  .rw[aA c];by_cases c':k=i
   .rw[am c',c',e]
   .rw[aA c']
 refine⟨by rw[gg,gg,l],fun k hk=>?_,fun k h hk=>?_,fun k m y nk a b=>?_⟩
 .rw[g];exact d.b_ _ (by rw[s];exact hk)
 .rw[g];exact d.out _ _ (by rw[s];exact hk)
 .rw[g] at a b;have:=d.inj _ _ y (fun z=>?_) a b
  .rw[s,s] at this;exact this
  .split at z <;> split at z <;> (try split at z) <;> (try split at z) <;> lia
theorem Hd.put{n:Nat}{ts:Ts}{st fs:List (Option Nat)}(d:Hd n ts st fs){i h y:Nat}(hi:i<st.length)(e:st.getD i none=some h)(hy:y∈bh n ts h)(no:∀k,st.getD k none=some h->fs.getD k none≠some y):Hd n ts st (fs.set i (some y)):=by
 have l:=d.len;have g:∀k,(fs.set i (some y)).getD k none=if k=i then some y else fs.getD k none:=fun k=>iA (by lia)
 refine⟨by rw[gg,l],fun k hk=>?_,fun k h' hk=>?_,fun k m z nk a b=>?_⟩
 .rw[g,aA (by rintro rfl;rw[e] at hk;cases hk)];exact d.b_ k hk
 .rw[g];by_cases c:k=i
  .subst c;rw[e] at hk;cases hk;exact⟨y,am rfl,hy⟩
  .rw[aA c];exact d.out k h' hk
 .rw[g] at a b;by_cases c:k=i
  .subst c;rw[am rfl] at a;rw[aA (fun z=>nk z.symm)] at b;rw[e];exact fun z'=>no m z'.symm (b.trans a.symm)
  .rw[aA c] at a;by_cases c':m=i
   .subst c';rw[am rfl] at b;rw[e];exact fun z'=>no k z' (a.trans b.symm)
   .rw[aA c'] at b;exact d.inj k m z nk a b
def PG(st:List (Option Nat))(u:Int×Int):Prop:=∃j i:Nat,u=((j:Int),(i:Int))/\j<i/\i<st.length/\st.getD j none=st.getD i none
abbrev Vf:Stmt:=i5 42
theorem mD:(["_law_j","_law_i","_law_stand_here"]:List Str).Nodup:=by decide +kernel
section
variable {P:Program} {w:World} {K:PySem.W.Frag} {mg:Str->Option Value} {base:Heap}
theorem Ci:aS ["_law_pot_here","_law_stand_here","_law_handing_here","_law_pairs","_law_i","_law_one","_law_other","_law_row"] ["_law_pot_here","_law_stand_here","_law_handing_here"] (az Vf):=dB (by decide +kernel)
def L9:Sp:=fun vs H Q _=>∃ (p sa fa:Addr) (n:Nat) (ts:Ts) (st fs:List (Option Nat)),vs=[.ref p,.ref sa,.ref fa]/\bu H p/\H sa=some (.tup (st.map oV))/\H fa=some (.tup (fs.map oV))/\st.length<=16/\Hd n ts st fs/\
 ∀ (t:Addr) (fs:List (Option Nat)) (H':Hp),au p H H'->bu H' p->H' t=some (.tup (fs.map oV))->Hd n ts st fs->Q (.ref t) H'
theorem Qe{f:Addr}{fd:FuncData}(F:hW K "_law_exchanged" "_law_exchanged" Vf f fd)(B:Bl mg)(D:cX P w K mg base bE 1 "_law_take" ["_law_pot_here","_law_many"] eT):bY P w K mg base bE 2 f fd ["_law_pot_here","_law_stand_here","_law_handing_here"] L9:=by
 refine F.ok Ci (fun vs H Q E h=>?_) (fun eQ A outer s H vs Q E hr h=>?_)
 .obtain⟨p,sa,fa,n,ts,st,fs,rfl,_⟩:=h;rfl
 .obtain⟨p,sa,fa,n,ts,st,fs,rfl,hp,hZ,om,U9,d,q⟩:=h;have h1:dk 1 _:=hr;refine'⟨_,(ag (aH (i:=3) Ci.nd rfl aM (b8 ae))
   (ag (cn cZ rfl (aY rfl B.range (aa (aE aD (by rfl) B.len cu (aa (pv 1) ae)) ae)) (aq (i:=4) Ci.nd rfl bo)
    (ap (cB (fO fw s_ sY kg (pv 3) (aa ?c1 ae)))))
   (ag (cf (aI (yR (e:=iX) hr.u) (pv 3) (b8 ae) (aP _)) (ap (aX (pv 2))) a_)
   (ag (cW (aJ aF (pv 3) (aL D h1 aR (aa (pv 0) (aa (aE aD (by rfl) B.len cu (aa (pv 3) ae)) ae))) (fun _ _=>rfl)) (eG (n:=2) rfl (aW (aq (i:=5) Ci.nd rfl aM) (aW (aq (i:=6) Ci.nd rfl aM) cS))))
   (ag (aH (i:=7) Ci.nd rfl aM (cJ iY (by rfl) B.lst pV (aa (pv 2) ae)))
   (ag (cW (bP (aa (aJ bz (pv 2) (pv 6) (fun _ _=>rfl)) (aa (aJ bz (pv 2) (pv 5) (fun _ _=>rfl)) ae))) (eG (n:=2) rfl (aW (fX (pv 7) (pv 5) dt) (aW (fX (pv 7) (pv 6) dt) cS))))
   (ap (aX (cJ dM (by rfl) B.tup pR (aa (pv 7) ae)))))))))),?_⟩
  case c1=>
   refine' bJ (g:=(bp 0)) (tt:=(J7 (eK (dW (fun x y H Q=>y=.b_/\Q (.bl (!decide (x=.b_))) H) (dW (ky K) (aK 2) (aK 1)) (tC .b_))) (eK (dW (MY) (dW (ky K) (aK 2) (aK 0)) (dW (ky K) (aK 2) (aK 1)))))) (te:=(nA (br (aK 0) (br (aK 1) eY)))) (NB:=["_law_j","_law_i","_law_stand_here"]) (src:=[none,some 4,some 1]) (bf (by kernel_rfl)) rfl (aY rfl B.range (aa (pv 4) ae)) ?g ?t ?e;case g=>exact fun cl C s₃ H₃ fp=>(aq (i:=0) mD rfl aM bo)
   case t=>exact fun cl C s₃ H₃ fp=>cj (PW.pt (jH (aI lO (aJ bz (pv 2) (pv 1) (fun _ _=>rfl)) eR (aP _)) (j9 (aI eJ (aJ bz (pv 2) (pv 0) (fun _ _=>rfl)) (aJ bz (pv 2) (pv 1) (fun _ _=>rfl)) (aP _)))))
   case e=>exact fun cl C s₃ H₃ fp=>(bP (aa (pv 0) (aa (pv 1) ae)))
  have fl:=d.len;refine⟨by show 0<=sizeLine;decide,fun D1 hD=>?_⟩;have s0:=ai (o:=.lst []) hD;refine⟨_,rfl,sa,_,rfl,.inr (bD.of (s0 _ _ hZ)),_,rfl,by lia,by rw[aO];lia,?_⟩;rw[aO];refine cI (n:=st.length) (lo:=0) (fun i σ Hc=>(∃a b c e,σ=[some (.ref p),some (.ref sa),some (.ref fa),some (.ref D1),a,b,c,e])/\aG H Hc/\∃zs:Zs,Hc D1=some (.lst (zr zs))/\PO Hc zs/\(∀u∈zp zs,PG st u)/\zs.length<=16*i) ⟨⟨_,_,_,_,rfl⟩,s0,[],ab,PO.nil,fun u hu=>(nomatch hu),by simp⟩ ?_ ?_
  .rintro i σ Hc hi ⟨⟨a,b,c,e,rfl⟩,sm,n6,fu,wQ,hg,hl⟩;rw[dz];refine⟨_,rfl,.inl ⟨rfl,_,aQ.of fu⟩,_,rfl,(i:Int),rfl,by lia,by lia,fun L hL=>?_⟩;rw[iE];refine sO (lo:=0) (n:=i) (fun j=>(st.getD i none).isSome&&decide (st.getD j none=st.getD i none)) (fun j=>((j:Int),(i:Int))) (fun σ=>∃x,σ=[x,some (.int (i:Int)),some (.ref sa)]) hL (by lia) ⟨_,rfl⟩ ?_ ?_
   .rintro j σ H4 R Kf hj ⟨x,rfl⟩ o9 kt kf;rw[dz];have L_:=bD.of (K:=K) ((sm.trans o9) _ _ hZ);refine⟨_,rfl,_,rfl,sa,_,_,_,rfl,rfl,L_,ao (c_ hi),rfl,_,rfl,?_⟩;cases ho:st.getD i none with
    |none=>exact dQ (dQ (kf _ ⟨_,rfl⟩ (by rw[ho];rfl)))
    |some h=>
     refine kK rfl ⟨_,rfl,_,rfl,sa,_,_,_,rfl,rfl,L_,ao (c_ (by lia)),_,rfl,_,rfl,sa,_,_,_,rfl,rfl,L_,ao (c_ hi),AS,_,rfl,d9 (fun c=>?_) (fun c=>?_)⟩
     .refine⟨_,rfl,_,rfl,by show 2<=sizeLine;decide,fun t ht=>kt _ _ ⟨_,rfl⟩ ht ?_⟩;rw[ho,decide_eq_true ((vp (cM c)).trans ho)];rfl
     .refine kf _ ⟨_,rfl⟩ ?_;rw[cY fun z=>c (decide_eq_true (congrArg oV z))];exact tX _
   .intro zs H4 s4 Px Py LK;have l4:zs.length<=i:=by rw[<-bv,LK,aO];exact bw (dF _ _) (by rw[bR];exact aU _)
    refine⟨D1,L,_,_,rfl,rfl,s4 _ _ fu,Px,by rw[cx,cx];exact bw (show _<=512 by lia) (by decide),⟨_,_,_,_,rfl⟩,?_⟩;obtain⟨sm',vE,RG,po',Xv⟩:=mw.ext hD sm fu wQ rfl s4 Py rfl;refine⟨sm',vE,RG,po',fun u hu=>?_,?_⟩
    .rw[Xv] at hu;rcases bS.mp hu with c|c
     .exact hg u c
     .rw[LK] at c;obtain⟨j,hj,rfl⟩:=bn.mp c;obtain⟨hj1,hj2⟩:=bA.mp hj;exact⟨j,i,rfl,bH.mp hj1,hi,cM (tw.mp hj2).2⟩
    .rw[<-bv,Xv,cF,bv,bv];lia
  .rintro σ Hc ⟨⟨a,b,c,e,rfl⟩,sm,zs,fu,wQ,hg,hl⟩;refine⟨_,rfl,by show 0<=sizeLine;decide,fun E1 Hv=>?_⟩;have sE:=ai (o:=.lst []) Hv;refine⟨D1,E1,_,[],rfl,rfl,aQ.of (sE _ _ fu),aQ.of ab,fun i h1 h2=>absurd h2 (by simp),_,rfl,?_⟩;rw[aA (by decide),gL];have CC:=sm.trans sE;have kj:=sE _ _ fu;have Ph:=wQ.same sE;generalize upd Hc E1 _=H3 at *;have mv:=hp.same CC;by_cases e:zr zs=[]
   .rw[decide_eq_true e];exact iG ⟨_,rfl,q fa fs H3 (au.of CC) mv (CC _ _ om) d⟩
   .rw[cY e];have gl:0<zs.length:=by
     rcases zs with _|⟨x,xs⟩
     .exact absurd rfl e
     .simp
    refine dQ ⟨_,rfl,_,rfl,_,rfl,D1,_,rfl,.inl (aQ.of kj),p,_,rfl,by rw[cx];exact gl,by rw[cx];lia,mv,fun dd H8 hd s8 rM=>?_⟩;rw[cx] at hd;obtain⟨z,hz⟩:∃z,zs[dd]?=some z:=⟨_,bO hd⟩
    have n0:=cm hz;obtain⟨j,i,eu,hji,hi,est⟩:=hg z.2 (List.mem_map_of_mem n0);have Nr:au p H H8:=(au.of CC).trans s8;have Cy:=s8 _ _ kj (hp.ne hD);have HI:=Ph.mq s8 mv;have JT:=Nr _ _ om (hp.neT om);refine⟨D1,_,_,_,rfl,rfl,aQ.of Cy,ao (show (zr zs)[dd]?=some (.ref z.1) by unfold zr;rw[bZ,hz];rfl),?_⟩;have ht8:H8 z.1=some (.tup [.int (j:Int),.int (i:Int)]):=by have:=HI z n0;rw[eu] at this;exact this
    refine⟨z.1,_,rfl,bD.of ht8,rfl,_,_,rfl,_,_,rfl,rfl,?_⟩;refine⟨_,rfl,fa,_,rfl,.inr (bD.of JT),fun Rw hR=>?_⟩;have sR:=ai (o:=.lst (fs.map oV)) hR;refine⟨_,rfl,_,rfl,fa,_,_,_,rfl,rfl,bD.of (sR _ _ JT),ao (c_ (by lia)),_,rfl,_,rfl,fa,_,_,_,rfl,rfl,bD.of (sR _ _ JT),ao (c_ (by lia)),by show 2<=sizeLine;decide,fun t ht=>?_⟩;have sT:=ai (o:=.tup [oV (fs.getD i none),oV (fs.getD j none)]) ht;refine⟨t,_,rfl,bD.of ab,rfl,_,_,rfl,_,rfl,_,rfl,Rw,_,_,j,rfl,rfl,sT _ _ ab,de (by rw[aO];lia),_,_,rfl,_,rfl,_,rfl,Rw,_,_,i,rfl,rfl,ab,de (by rw[gg,aO];lia),rfl,?_⟩;refine⟨_,rfl,Rw,_,rfl,.inl ⟨aQ.of ab,fun r hr=>?_⟩⟩;have nR:=Nr.free rM.full hR;refine q r _ _ ?_ ?_ (by rw[ab,vj,vj]) (d.swap (by lia) hi (by lia) est.symm)
    .intro b o e m;have e8:=Nr b o e m;have hb:b≠Rw:=ak e8 hR;have er:upd (upd (upd (upd H8 Rw (.lst (fs.map oV))) t (.tup [oV (fs.getD i none),oV (fs.getD j none)])) Rw (.lst ((fs.map oV).set j (oV (fs.getD i none))))) Rw (.lst (((fs.map oV).set j (oV (fs.getD i none))).set i (oV (fs.getD j none)))) b=some o:=by
      rw[aj hb,aj hb];exact sT _ _ (sR _ _ e8)
     exact(ai hr) _ _ er
    .have:=(rM.same sR).same sT;exact((this.put (rM.ne hR).symm).put (rM.ne hR).symm).same (ai hr)
end
abbrev Vg:Stmt:=i5 43
theorem ft:(["_law_i","_law_handing_here","_law_stand_here","_law_one"]:List Str).Nodup:=by decide +kernel
theorem rc:(["_law_there","_law_taken"]:List Str).Nodup:=by decide +kernel
theorem H_{fs:List (Option Nat)}{i:Nat}{y:Nat}(h:i<fs.length):(fs.map oV).take i++[.int (y:Nat)]++(fs.map oV).drop (i+1)=(fs.set i (some y)).map oV:=by
 rw[List.set_eq_take_append_cons_drop,am h,cq,eE,yh,List.map_drop,cP];rfl
theorem Qf{y:Nat}{is:List Nat}{fs:List (Option Nat)}:Bh (.int (y:Int)) (is.map fun i=>oV (fs.getD i none))=decide (∃i∈is,fs.getD i none=some y):=by
 unfold Bh;rw[ic,jy,lI];constructor
 .rintro⟨v,hv,e⟩;obtain⟨i,hi,rfl⟩:=bn.mp hv;rw[show V.int (y:Int)=oV (some y) from rfl,wY] at e;exact⟨i,hi,cM e⟩
 .rintro⟨i,hi,e⟩;exact⟨_,List.mem_map_of_mem hi,by rw[show V.int (y:Int)=oV (some y) from rfl,wY];exact decide_eq_true e⟩
section
variable {P:Program} {w:World} {K:PySem.W.Frag} {mg:Str->Option Value} {base:Heap}
theorem Fy:aS ["_law_pot_here","_law_outs_here","_law_stand_here","_law_handing_here","_law_some","_law_one","_law_taken","_law_free"] ["_law_pot_here","_law_outs_here","_law_stand_here","_law_handing_here"] (az Vg):=dB (by decide +kernel)
def Ma:Sp:=fun vs H Q _=>∃ (p r sa fa:Addr) (n:Nat) (ts:Ts) (L:Addr->Prop) (st fs:List (Option Nat)),vs=[.ref p,.ref r,.ref sa,.ref fa]/\bu H p/\bK H L r n (bh n ts)/\L r/\¬ L p/\H sa=some (.tup (st.map oV))/\H fa=some (.tup (fs.map oV))/\st.length<=16/\n<=32/\(∀y,some y∈st->y<n)/\Hd n ts st fs/\
 ∀ (t:Addr) (fs:List (Option Nat)) (H':Hp),au p H H'->bu H' p->H' t=some (.tup (fs.map oV))->Hd n ts st fs->Q (.ref t) H'
theorem Qg{f:Addr}{fd:FuncData}(F:hW K "_law_strayed" "_law_strayed" Vg f fd)(B:Bl mg)(D:cX P w K mg base bE 1 "_law_take" ["_law_pot_here","_law_many"] eT):bY P w K mg base bE 2 f fd ["_law_pot_here","_law_outs_here","_law_stand_here","_law_handing_here"] Ma:=by
 refine F.ok Fy (fun vs H Q E h=>?_) (fun eQ A outer s H vs Q E hr h=>?_)
 .obtain⟨p,r,sa,fa,n,ts,L,st,fs,rfl,_⟩:=h;rfl
 .obtain⟨p,r,sa,fa,n,ts,L,st,fs,rfl,hp,R,Nm,JO,hZ,om,U9,n2,ss,d,q⟩:=h;have h1:dk 1 _:=hr;refine'⟨_,(ag (bL (i:=4) (g:=(bp 0)) (tt:=(eK (dW (fun x y H Q=>y=.b_/\Q (.bl (!decide (x=.b_))) H) (dW (ky K) (aK 1) (aK 0)) (tC .b_)))) (te:=(aK 0)) (NB:=["_law_i","_law_stand_here"]) (src:=[none,some 2]) (bf (by kernel_rfl)) rfl (aY rfl B.range (aa (aE aD (by rfl) B.len cu (aa (pv 2) ae)) ae)) ?g1 ?t1 ?e1 Fy.nd rfl rfl rfl)
   (ag (cf (aI (yR (e:=iX) hr.u) (pv 4) (b8 ae) (aP _)) (ap (aX (pv 3))) a_)
   (ag (aH (i:=5) Fy.nd rfl bo (aJ aF (pv 4) (aL D h1 aR (aa (pv 0) (aa (aE aD (by rfl) B.len cu (aa (pv 4) ae)) ae))) (fun _ _=>rfl)))
   (ag (aH (i:=6) Fy.nd rfl bo ?c2)
   (ag (bL (i:=7) (g:=(bp 0)) (tt:=(eK (dW (Kw K true) (aK 0) (aK 1)))) (te:=(aK 0)) (NB:=["_law_there","_law_taken"]) (src:=[none,some 6]) (bf (by kernel_rfl)) rfl (bi (aJ aF (pv 1) (aJ bz (pv 2) (pv 5) (fun _ _=>rfl)) (fun _ _=>rfl))) ?g3 ?t3 ?e3 Fy.nd rfl rfl rfl)
   (ag (cf (aI (yR (e:=iX) hr.u) (pv 7) (b8 ae) (aP _)) (ap (aX (pv 3))) a_)
   (ap (aX (bg AH (bg AH (lR AI (pv 3) pB (pC (pv 5))) (bP (aa (aJ aF (pv 7) (aL D h1 aR (aa (pv 0) (aa (aE aD (by rfl) B.len cu (aa (pv 7) ae)) ae))) (fun _ _=>rfl)) ae))) (lR AI (pv 3) (pC (bg di (pv 5) av)) pB)))))))))),?_⟩
  case g1=>exact fun cl C s₃ H₃ fp=>(aq (i:=0) gx rfl aM bo)
  case t1=>exact fun cl C s₃ H₃ fp=>cj (aI lO (aJ bz (pv 1) (pv 0) (fun _ _=>rfl)) eR (aP _))
  case e1=>exact fun cl C s₃ H₃ fp=>(pv 0)
  case c2=>
   refine' bJ (g:=(bp 0)) (tt:=(eK (dW (MY) (dW (ky K) (aK 2) (aK 0)) (dW (ky K) (aK 2) (aK 3))))) (te:=(dW (ky K) (aK 1) (aK 0))) (NB:=["_law_i","_law_handing_here","_law_stand_here","_law_one"]) (src:=[none,some 3,some 2,some 5]) (bf (by kernel_rfl)) rfl (bi (pv 4)) ?g ?t ?e;case g=>exact fun cl C s₃ H₃ fp=>(aq (i:=0) ft rfl aM bo)
   case t=>exact fun cl C s₃ H₃ fp=>cj (aI eJ (aJ bz (pv 2) (pv 0) (fun _ _=>rfl)) (aJ bz (pv 2) (pv 3) (fun _ _=>rfl)) (aP _))
   case e=>exact fun cl C s₃ H₃ fp=>(aJ bz (pv 1) (pv 0) (fun _ _=>rfl))
  case g3=>exact fun cl C s₃ H₃ fp=>(aq (i:=0) rc rfl aM bo)
  case t3=>exact fun cl C s₃ H₃ fp=>cj (aI lU (pv 0) (pv 1) rfl)
  case e3=>exact fun cl C s₃ H₃ fp=>(pv 0)
  have fl:=d.len;refine⟨_,rfl,sa,_,rfl,.inr (bD.of hZ),_,rfl,by lia,by rw[aO];lia,fun D1 hD=>?_⟩;rw[aO];refine mx (lo:=0) (n:=st.length) (fun i=>(st.getD i none).isSome) (fun σ=>∃b,σ=[b,some (.ref sa)]) hD (by lia) ⟨_,rfl⟩ ?_ ?_
  .rintro x σ H5 Kt Kf hx ⟨b',rfl⟩ my kt kf;rw[dz] at kt |-;refine⟨_,rfl,_,rfl,sa,_,_,_,rfl,rfl,bD.of (my _ _ hZ),ao (c_ hx),rfl,_,rfl,?_⟩;cases ho:st.getD x none with
   |none=>exact dQ (kf _ _ ⟨_,rfl⟩ (aG.refl _) (by rw[ho];rfl))
   |some h=>exact kK rfl ⟨_,rfl,kt _ _ ⟨_,rfl⟩ (aG.refl _) (by rw[ho];rfl)⟩
  intro H2 s2 fu;have eD:H2 D1=some (.lst (NV ((List.range st.length).filter fun i=>(st.getD i none).isSome))):=by rw[fu];exact congrArg (fun l=>some (HO.lst l)) (h_ fun x _=>by rw[dz])
  have Xw:((List.range st.length).filter fun i=>(st.getD i none).isSome).length<=16:=bw (dF _ _) (by rw[bR];exact U9);have Ib:∀i,i∈((List.range st.length).filter fun i=>(st.getD i none).isSome)↔i<st.length/\st.getD i none≠none:=fun i=>by
   rw[bA,bH];cases st.getD i none <;> simp
  clear fu;generalize ((List.range st.length).filter fun i=>(st.getD i none).isSome)=os at *;dsimp only;refine⟨_,rfl,by show 0<=sizeLine;decide,fun E1 Hv=>?_⟩;have sE:=ai (o:=.lst []) Hv;refine⟨D1,E1,_,[],rfl,rfl,aQ.of (sE _ _ eD),aQ.of ab,fun i h1 h2=>absurd h2 (by simp),_,rfl,?_⟩;rw[aA (by decide),gL];have CC:=s2.trans sE;have kj:=sE _ _ eD;generalize upd H2 E1 _=H3 at *;have mv:=hp.same CC;by_cases e:NV os=[]
  .rw[decide_eq_true e];exact iG ⟨_,rfl,q fa fs H3 (au.of CC) mv (CC _ _ om) d⟩
  rw[cY e];have gl:0<os.length:=by
   rcases os with _|⟨x,xs⟩
   .exact absurd rfl e
   .simp
  refine dQ ⟨_,rfl,_,rfl,_,rfl,D1,_,rfl,.inl (aQ.of kj),p,_,rfl,by rw[aN];exact gl,by rw[aN];lia,mv,fun dd H4 hd s4 oa=>?_⟩;rw[aN] at hd;have Ce:au p H H4:=(au.of CC).trans s4;have rJ:=s4 _ _ kj (hp.ne hD);refine⟨D1,_,_,_,rfl,rfl,aQ.of rJ,ao (eN hd),?_⟩;have U6:os.getD dd 0∈os:=by rw[bb,bO hd];exact dR _
  generalize os.getD dd 0=one at *;obtain⟨ol,on⟩:=(Ib one).mp U6;have L_:=Ce _ _ hZ (hp.neT hZ);have Xx:=Ce _ _ om (hp.neT om);obtain⟨h,ho⟩:=xk.mp on;have hh:=ss h (by rw[<-ho,bb,bO ol];exact dR _);refine⟨_,rfl,D1,rfl,⟨_,aQ.of rJ⟩,fun D5 q0=>?_⟩;refine vq os (fun i=>V.int (i:Nat)) (fun i=>decide (st.getD i none=st.getD one none)) (fun i=>oV (fs.getD i none)) (fun σ=>∃b,σ=[b,some (.ref fa),some (.ref sa),some (.int (one:Int))]) rJ q0 (by lia) ⟨_,rfl⟩ ?_ ?_
  .rintro x σ H5 Kt Kf hx ⟨b',rfl⟩ my kt kf;have xl:=((Ib x).mp hx).1;refine⟨_,rfl,_,rfl,sa,_,_,_,rfl,rfl,bD.of (my _ _ L_),ao (c_ xl),_,rfl,_,rfl,sa,_,_,_,rfl,rfl,bD.of (my _ _ L_),ao (c_ ol),AS,_,rfl,d9 (fun c=>?_) (fun c=>?_)⟩
   .exact⟨_,rfl,_,rfl,fa,_,_,_,rfl,rfl,bD.of (my _ _ Xx),ao (c_ (by lia)),kt _ _ ⟨_,rfl⟩ (aG.refl _) (decide_eq_true (vp (cM c)))⟩
   .exact kf _ _ ⟨_,rfl⟩ (aG.refl _) (cY fun z=>c (decide_eq_true (congrArg oV z)))
  intro H5 s5 Vh;dsimp only;have R4:bK H5 L r n (bh n ts):=(R.keep Nm fun b o l e=>Ce b o e fun z=>JO (z ▸ l)).same s5;obtain⟨bs,b1,b2,b3⟩:=R4;refine⟨_,rfl,_,rfl,_,rfl,sa,_,_,_,rfl,rfl,bD.of (s5 _ _ L_),ao (c_ ol),?_⟩;rw[ho];refine⟨r,_,_,_,rfl,rfl,aQ.of b1,ao (j7 (h:=h) (by rw[b3.1];exact hh)),_,rfl,⟨_,aQ.of (b3.2 h hh)⟩,fun D6 wI=>?_⟩;have ole:=kn (n:=n) (ts:=ts) (h:=h);refine kr (os:=bh n ts h) (fun y=>!decide (∃i∈os.filter (fun i=>decide (st.getD i none=st.getD one none)),fs.getD i none=some y)) (fun σ=>∃b,σ=[b,some (.ref D5)]) (b3.2 h hh) wI (by lia) ⟨_,rfl⟩ ?_ ?_
  .rintro x σ H7 Kt Kf hx ⟨b',rfl⟩ AL kt kf;refine⟨_,rfl,_,rfl,D5,_,rfl,.inl (aQ.of (AL _ _ Vh)),rfl,?_,_,rfl,?_⟩
   .exact jc.mpr fun v hv=>by obtain⟨i,_,rfl⟩:=bn.mp hv;exact pP
   .rw[am rfl,Qf];refine d9 (fun c=>?_) (fun c=>?_)
    .exact⟨_,rfl,kt _ _ ⟨_,rfl⟩ (aG.refl _) c⟩
    .exact kf _ _ ⟨_,rfl⟩ (aG.refl _) (mQ.mpr c)
  intro H7 s7 EO;have Vb:∀y∈(bh n ts h).filter (fun y=>!decide (∃i∈os.filter (fun i=>decide (st.getD i none=st.getD one none)),fs.getD i none=some y)),y∈bh n ts h/\∀k,st.getD k none=some h->fs.getD k none≠some y:=fun y hy=>by
   obtain⟨a,b⟩:=bA.mp hy;refine⟨a,fun k hk z=>?_⟩;have kl:k<st.length:=by
    rcases ng k st.length with c|c
    .exact c
    .rw[bb,dG c] at hk;cases hk
   rw[decide_eq_true (show ∃i∈os.filter (fun i=>decide (st.getD i none=st.getD one none)),fs.getD i none=some y from ⟨k,bA.mpr ⟨(Ib k).mpr ⟨kl,by rw[hk];exact fun z=>by cases z⟩,decide_eq_true (hk.trans ho.symm)⟩,z⟩)] at b;cases b
  have gsl:((bh n ts h).filter (fun y=>!decide (∃i∈os.filter (fun i=>decide (st.getD i none=st.getD one none)),fs.getD i none=some y))).length<=32:=bw (dF _ _) (by lia);generalize (bh n ts h).filter _=gs at *;dsimp only;refine⟨_,rfl,by show 0<=sizeLine;decide,fun E2 hE2=>?_⟩;have Vi:=ai (o:=.lst []) hE2;refine⟨D6,E2,_,[],rfl,rfl,aQ.of (Vi _ _ EO),aQ.of ab,fun i h1 h2=>absurd h2 (by simp),_,rfl,?_⟩;rw[aA (by decide),gL];have JU:=s5.trans (s7.trans Vi);have Cy:=Vi _ _ EO;generalize upd H7 E2 _=H8 at *;have rM:=oa.same JU;have Cz:au p H H8:=Ce.trans (au.of JU);have JT:=JU _ _ Xx;by_cases e:NV gs=[]
  .rw[decide_eq_true e];exact iG ⟨_,rfl,q fa fs H8 Cz rM JT d⟩
  rw[cY e];have gl2:0<gs.length:=by
   rcases gs with _|⟨x,xs⟩
   .exact absurd rfl e
   .simp
  have ea:(one:Int)+1=((one+1:Nat):Int):=by lia
  refine dQ ⟨_,rfl,_,rfl,_,rfl,fa,_,rfl,JT,fun r1 H9 s9 g1=>?_⟩;rw[zD] at g1;have Cc:=rM.same s9;refine⟨_,rfl,_,rfl,_,rfl,D6,_,rfl,.inl (aQ.of (s9 _ _ Cy)),p,_,rfl,by rw[aN];exact gl2,by rw[aN];lia,Cc,fun Xy PD F3 CA EY=>?_⟩;rw[aN] at F3;refine⟨D6,_,_,_,rfl,rfl,aQ.of (CA _ _ (s9 _ _ Cy) ((oa.same s5).ne wI)),ao (eN F3),by show 1<=sizeLine;decide,fun t' ht'=>?_⟩;have JP:gs.getD Xy 0∈gs:=by rw[bb,bO F3];exact dR _
  generalize gs.getD Xy 0=y at *;obtain⟨y1,y2⟩:=Vb y JP;have s3:=ai (o:=.tup [.int (y:Int)]) ht';have Xz:au p H8 PD:=(au.of s9).trans CA;have tl:=kO one (fs.map oV);rw[aO] at tl;refine⟨r1,t',_,[.int (y:Int)],rfl,rfl,s3 _ _ (CA _ _ g1 (Cc.neT g1)),ab,?_,fun r2 H11 XA g2=>?_⟩
  .rw[kC];exact bw (show _<=40 by lia) (by decide)
  have s8B:au p H8 H11:=Xz.trans (au.of (s3.trans XA));refine⟨_,rfl,_,rfl,_,_,rfl,rfl,_,rfl,fa,_,rfl,s8B _ _ JT (rM.neT JT),fun r3 H12 Na g3=>⟨r2,r3,_,_,rfl,rfl,Na _ _ g2,g3,?_,fun r4 H13 s13 g4=>?_⟩⟩
  .rw[ea,wT,cF,tP,kC,aO];exact bw (show _<=60 by lia) (by decide)
  .rw[ea,wT,H_ (by lia)] at g4;have sZ:=((s3.trans XA).trans Na).trans s13;exact q r4 _ H13 ((Cz.trans Xz).trans (au.of sZ)) (EY.same sZ) g4 (d.put ol ho y1 y2)
end
abbrev Vj:Stmt:=i5 44
abbrev Vk:Stmt:=i5 45
theorem jp:(["_law_j","_law_stand_here","_law_house"]:List Str).Nodup:=by decide +kernel
theorem hU:(["_law_one","_law_far_here","_law_home","_law_house"]:List Str).Nodup:=by decide +kernel
theorem iL:(["_law_j","_law_handing_here","_law_there"]:List Str).Nodup:=by decide +kernel
theorem dv:(["_law_j","_law_far_here","_law_homes","_law_stand_here","_law_handing_here"]:List Str).Nodup:=by decide +kernel
theorem zN{o:Option Nat}{h:Nat}:F7 (oV o) (.int (h:Int))=true:=by cases o <;> rfl
theorem Fz{o:Option Nat}{h:Nat}:decide (oV o=V.int (h:Int))=decide (o=some h):=by
 cases o with
 |none=>exact mS.mpr ⟨(fun z=>by cases z),(fun z=>by cases z)⟩
 |some y=>exact mS.mpr ⟨(fun z=>by injection z with z;exact congrArg some (dI z)),(fun z=>by cases z;rfl)⟩
theorem Mb{ts:Ts}{homes:List Nat}{st fs:List (Option Nat)}{os:List Nat}{h y:Nat}(Be:∀i,i∈os↔i<st.length/\st.getD i none≠none):((((os.filter fun j=>decide (st.getD j none=some h)).filter fun j=>decide (fs.getD j none=some y))).map fun j=>!gw ts homes st fs j).any id=decide ((some h,some y)∈AV ts homes st fs st.length):=by
 rw[List.any_map,ic,jy,lI];unfold AV;rw[bn];constructor
 .rintro⟨j,hj,e⟩;obtain⟨hj,h2⟩:=bA.mp hj;obtain⟨hj,h1⟩:=bA.mp hj;exact⟨j,bA.mpr ⟨bH.mpr ((Be j).mp hj).1,e⟩,by rw[cM h1,cM h2]⟩
 .rintro⟨j,hj,e⟩;obtain⟨hj,h1⟩:=bA.mp hj;have e1:=congrArg Prod.fst e;have e2:=congrArg Prod.snd e;exact⟨j,bA.mpr ⟨bA.mpr ⟨(Be j).mpr ⟨bH.mp hj,by rw[show st.getD j none=some h from e1];exact fun z=>by cases z⟩,decide_eq_true e1⟩,decide_eq_true e2⟩,h1⟩
section
variable {P:Program} {w:World} {K:PySem.W.Frag} {mg:Str->Option Value} {base:Heap}
theorem Qh:aS ["_law_far_here","_law_homes","_law_stand_here","_law_handing_here","_law_i","_law_home"] ["_law_far_here","_law_homes","_law_stand_here","_law_handing_here","_law_i"] (az Vj):=dB (by decide +kernel)
def Ic:Sp:=fun vs H Q _=>∃ (fr:Addr) (n:Nat) (ts:Ts) (L':Addr->Prop) (ha sa fa:Addr) (homes:List Nat) (st fs:List (Option Nat)) (i:Nat),vs=[.ref fr,.ref ha,.ref sa,.ref fa,.int i]/\bK H L' fr n (fun h=>(List.range n).map (far ts h))/\H ha=some (.tup (NV homes))/\H sa=some (.tup (st.map oV))/\H fa=some (.tup (fs.map oV))/\Cg n homes st fs/\i<st.length/\st.getD i none≠none/\Q (.bl (!gw ts homes st fs i)) H
theorem Qi{f:Addr}{fd:FuncData}(F:hW K "_law_is_near" "_law_is_near" Vj f fd):bY P w K mg base bE 1 f fd ["_law_far_here","_law_homes","_law_stand_here","_law_handing_here","_law_i"] Ic:=by
 refine F.ok Qh (fun vs H Q E h=>?_) (fun eQ A outer s H vs Q E hr h=>?_)
 .obtain⟨fr,n,ts,L',ha,sa,fa,homes,st,fs,i,rfl,_⟩:=h;rfl
 .obtain⟨fr,n,ts,L',ha,sa,fa,homes,st,fs,i,rfl,⟨es,e1,e2,e3⟩,pO,hZ,om,G,hi,on,q⟩:=h;refine⟨_,(ag (aH (i:=5) Qh.nd rfl aM (aJ bz (pv 1) (pv 4) (fun _ _=>rfl)))
   (ap (aX (ie jh (aJ aF (aJ aF (pv 0) (aJ bz (pv 3) (pv 4) (fun _ _=>rfl)) (fun _ _=>rfl)) (pv 5) (fun _ _=>rfl)) (aJ aF (aJ aF (pv 0) (aJ bz (pv 2) (pv 4) (fun _ _=>rfl)) (fun _ _=>rfl)) (pv 5) (fun _ _=>rfl)) (aP _))))),?_⟩
  have l1:=G.l1;have l2:=G.l2;obtain⟨h,ho⟩:=xk.mp on;obtain⟨hn,y,ey,hy,_⟩:=G.out i h ho;have hm:=G.hs i hi;have ge:∀k,k<n->(es.map V.ref)[k]?=some (.ref (es.getD k 0)):=fun k hk=>j7 (by rw[e3.1];exact hk);have oi:(st.map oV)[i]?=some (.int (h:Int)):=by rw[c_ hi,ho];rfl
  have oj:(fs.map oV)[i]?=some (.int (y:Int)):=by rw[c_ (by lia),ey];rfl
  refine⟨_,rfl,_,rfl,ha,_,_,_,rfl,rfl,bD.of pO,ao (eN (by lia)),?_⟩;refine⟨_,rfl,_,rfl,_,rfl,fa,_,_,_,rfl,rfl,bD.of om,ao oj,fr,_,_,_,rfl,rfl,aQ.of e1,ao (ge y hy),_,rfl,_,_,_,_,rfl,rfl,aQ.of (e3.2 y hy),ao (oh hm),?_⟩;refine⟨_,rfl,_,rfl,_,rfl,sa,_,_,_,rfl,rfl,bD.of hZ,ao oi,fr,_,_,_,rfl,rfl,aQ.of e1,ao (ge h hn),_,rfl,_,_,_,_,rfl,rfl,aQ.of (e3.2 h hn),ao (oh hm),_,_,rfl,rfl,?_⟩;have e:decide (((far ts y (homes.getD i 0):Nat):Int)<((far ts h (homes.getD i 0):Nat):Int))=!gw ts homes st fs i:=by
   unfold gw;rw[ho,ey];show _=!decide (far ts h (homes.getD i 0)<=far ts y (homes.getD i 0));rw[<-decide_not];exact mS.mpr (by lia)
  show Q (.bl (decide (((far ts y (homes.getD i 0):Nat):Int)<((far ts h (homes.getD i 0):Nat):Int)))) H;rw[e];exact q
theorem w4:aS ["_law_outs_here","_law_far_here","_law_homes","_law_stand_here","_law_handing_here","_law_some","_law_i","_law_house","_law_home","_law_mates","_law_there","_law_takers"] ["_law_outs_here","_law_far_here","_law_homes","_law_stand_here","_law_handing_here"] (az Vk):=dB (by decide +kernel)
def Mc:Sp:=fun vs H Q _=>∃ (r fr:Addr) (n:Nat) (ts:Ts) (L L':Addr->Prop) (ha sa fa:Addr) (homes:List Nat) (st fs:List (Option Nat)),vs=[.ref r,.ref fr,.ref ha,.ref sa,.ref fa]/\n<=32/\0<n/\bK H L r n (bh n ts)/\bK H L' fr n (fun h=>(List.range n).map (far ts h))/\H ha=some (.tup (NV homes))/\H sa=some (.tup (st.map oV))/\H fa=some (.tup (fs.map oV))/\Cg n homes st fs/\∀H',aG H H'->Q (.bl (Ch n ts homes st fs (i_ ts homes st fs st.length))) H'
theorem Qj{f:Addr}{fd:FuncData}(F:hW K "_law_is_eager" "_law_is_eager" Vk f fd)(B:Bl mg)(NR:cX P w K mg base bE 1 "_law_is_near" ["_law_far_here","_law_homes","_law_stand_here","_law_handing_here","_law_i"] Ic):bY P w K mg base bE 2 f fd ["_law_outs_here","_law_far_here","_law_homes","_law_stand_here","_law_handing_here"] Mc:=by
 refine F.ok w4 (fun vs H Q E h=>?_) (fun eQ A outer s H vs Q E hr h=>?_)
 .obtain⟨r,fr,n,ts,L,L',ha,sa,fa,homes,st,fs,rfl,_⟩:=h;rfl
 .obtain⟨r,fr,n,ts,L,L',ha,sa,fa,homes,st,fs,rfl,n2,n1,R,RF,pO,hZ,om,G,q⟩:=h;have h1:dk 1 _:=hr;refine'⟨_,(ag (bL (i:=5) (g:=(bp 0)) (tt:=(eK (dW (fun x y H Q=>y=.b_/\Q (.bl (!decide (x=.b_))) H) (dW (ky K) (aK 1) (aK 0)) (tC .b_)))) (te:=(aK 0)) (NB:=["_law_i","_law_stand_here"]) (src:=[none,some 3]) (bf (by kernel_rfl)) rfl (aY rfl B.range (aa (aE aD (by rfl) B.len cu (aa (pv 3) ae)) ae)) ?g1 ?t1 ?e1 w4.nd rfl rfl rfl)
   (ag (cn cZ rfl (bi (pv 5)) (aq (i:=6) w4.nd rfl aM)
    (ag (cW (bP (aa (aJ bz (pv 3) (pv 6) (fun _ _=>rfl)) (aa (aJ bz (pv 2) (pv 6) (fun _ _=>rfl)) ae))) (eG (n:=2) rfl (aW (aq (i:=7) w4.nd rfl bo) (aW (aq (i:=8) w4.nd rfl bo) cS))))
    (ap (cf (jI (fV (aL NR h1 aR (aa (pv 1) (aa (pv 2) (aa (pv 3) (aa (pv 4) (aa (pv 6) ae)))))))) (ag (bL (i:=9) (g:=(bp 0)) (tt:=(eK (dW (MY) (dW (ky K) (aK 1) (aK 0)) (aK 2)))) (te:=(aK 0)) (NB:=["_law_j","_law_stand_here","_law_house"]) (src:=[none,some 3,some 7]) (bf (by kernel_rfl)) rfl (bi (pv 5)) ?g2 ?t2 ?e2 w4.nd rfl rfl rfl)
     (ap (cn cZ rfl (bi ?c3) (aq (i:=10) w4.nd rfl bo)
      (ag (bL (i:=11) (g:=(bp 0)) (tt:=(eK (dW (MY) (dW (ky K) (aK 1) (aK 0)) (aK 2)))) (te:=(aK 0)) (NB:=["_law_j","_law_handing_here","_law_there"]) (src:=[none,some 4,some 10]) (bf (by kernel_rfl)) rfl (bi (pv 9)) ?g4 ?t4 ?e4 w4.nd rfl rfl rfl)
      (ap (cf (jI (fV (aE (nJ rfl) (by rfl) B.any xE (aa ?c5 ae)))) (ap (aX lK)) a_)))))) a_))))
   (ap (aX lK)))),?_⟩
  case g1=>exact fun cl C s₃ H₃ fp=>(aq (i:=0) gx rfl aM bo)
  case t1=>exact fun cl C s₃ H₃ fp=>cj (aI lO (aJ bz (pv 1) (pv 0) (fun _ _=>rfl)) eR (aP _))
  case e1=>exact fun cl C s₃ H₃ fp=>(pv 0)
  case g2=>exact fun cl C s₃ H₃ fp=>(aq (i:=0) jp rfl aM bo)
  case t2=>exact fun cl C s₃ H₃ fp=>cj (aI eJ (aJ bz (pv 1) (pv 0) (fun _ _=>rfl)) (pv 2) (aP _))
  case e2=>exact fun cl C s₃ H₃ fp=>(pv 0)
  case c3=>
   refine' bJ (g:=(bp 0)) (tt:=(eK (dW (rn fun i j=>.bl (decide (i<j))) (dW (jo K) (dW (jo K) (aK 1) (aK 0)) (aK 2)) (dW (jo K) (dW (jo K) (aK 1) (aK 3)) (aK 2))))) (te:=(aK 0)) (NB:=["_law_one","_law_far_here","_law_home","_law_house"]) (src:=[none,some 1,some 8,some 7]) (bf (by kernel_rfl)) rfl (bi (aJ aF (pv 0) (pv 7) (fun _ _=>rfl))) ?g ?t ?e;case g=>exact fun cl C s₃ H₃ fp=>(aq (i:=0) hU rfl aM bo)
   case t=>exact fun cl C s₃ H₃ fp=>cj (aI jh (aJ aF (aJ aF (pv 1) (pv 0) (fun _ _=>rfl)) (pv 2) (fun _ _=>rfl)) (aJ aF (aJ aF (pv 1) (pv 3) (fun _ _=>rfl)) (pv 2) (fun _ _=>rfl)) (aP _))
   case e=>exact fun cl C s₃ H₃ fp=>(pv 0)
  case g4=>exact fun cl C s₃ H₃ fp=>(aq (i:=0) iL rfl aM bo)
  case t4=>exact fun cl C s₃ H₃ fp=>cj (aI eJ (aJ bz (pv 1) (pv 0) (fun _ _=>rfl)) (pv 2) (aP _))
  case e4=>exact fun cl C s₃ H₃ fp=>(pv 0)
  case c5=>
   refine' bJ (g:=(bp 0)) (te:=(oA Ic [] E0 (br (aK 1) (br (aK 2) (br (aK 3) (br (aK 4) (br (aK 0) eY))))))) (NB:=["_law_j","_law_far_here","_law_homes","_law_stand_here","_law_handing_here"]) (src:=[none,some 1,some 2,some 3,some 4]) (bf (by kernel_rfl)) rfl (bi (pv 11)) ?g ?t ?e;case g=>exact fun cl C s₃ H₃ fp=>(aq (i:=0) dv rfl aM bo)
   case t=>exact fun cl C s₃ H₃ fp=>ce
   case e=>exact fun cl C s₃ H₃ fp=>(aL NR h1 aR (aa (pv 1) (aa (pv 2) (aa (pv 3) (aa (pv 4) (aa (pv 0) ae))))))
  have l1:=G.l1;have l2:=G.l2;have l3:=G.l3;refine⟨_,rfl,sa,_,rfl,.inr (bD.of hZ),_,rfl,by lia,by rw[aO];lia,fun D1 hD=>?_⟩;rw[aO];refine mx (lo:=0) (n:=st.length) (fun i=>(st.getD i none).isSome) (fun σ=>∃b,σ=[b,some (.ref sa)]) hD (by lia) ⟨_,rfl⟩ ?_ ?_
  .rintro x σ H5 Kt Kf hx ⟨b',rfl⟩ my kt kf;rw[dz] at kt |-;refine⟨_,rfl,_,rfl,sa,_,_,_,rfl,rfl,bD.of (my _ _ hZ),ao (c_ hx),rfl,_,rfl,?_⟩;cases ho:st.getD x none with
   |none=>exact dQ (kf _ _ ⟨_,rfl⟩ (aG.refl _) (by rw[ho];rfl))
   |some h=>exact kK rfl ⟨_,rfl,kt _ _ ⟨_,rfl⟩ (aG.refl _) (by rw[ho];rfl)⟩
  intro H2 s2 fu;have eD:H2 D1=some (.lst (NV ((List.range st.length).filter fun i=>(st.getD i none).isSome))):=by rw[fu];exact congrArg (fun l=>some (HO.lst l)) (h_ fun x _=>by rw[dz])
  have Xw:((List.range st.length).filter fun i=>(st.getD i none).isSome).length<=16:=bw (dF _ _) (by rw[bR];exact l3);have Ib:∀i,i∈((List.range st.length).filter fun i=>(st.getD i none).isSome)↔i<st.length/\st.getD i none≠none:=fun i=>by
   rw[bA,bH];cases st.getD i none <;> simp
  clear fu;generalize ((List.range st.length).filter fun i=>(st.getD i none).isSome)=os at *;dsimp only;refine⟨_,rfl,D1,rfl,⟨_,aQ.of eD⟩,eI (K:=K) (xs:=NV os) (fun k σ Hc=>(∃a b c e g i,σ=[some (.ref r),some (.ref fr),some (.ref ha),some (.ref sa),some (.ref fa),some (.ref D1),a,b,c,e,g,i])/\aG H2 Hc/\∀i∈os.take k,gw ts homes st fs i=true->HZ n ts homes st fs i=false) ⟨⟨_,_,_,_,_,_,rfl⟩,aG.refl _,fun i hi=>by rw[List.take_zero] at hi;cases hi⟩ (fun k σ Hc _ z=>aQ.of (z.2.1 _ _ eD)) ?_ ?_⟩
  .rintro k x σ Hc hk ⟨⟨a,b,c,e,g,i',rfl⟩,sc,iZ⟩;obtain⟨i,hi,rfl⟩:=kJ hk;have R9:=cm hi;obtain⟨il,on⟩:=(Ib i).mp R9;obtain⟨h,ho⟩:=xk.mp on;obtain⟨hn,y0,ey0,hy0,_⟩:=G.out i h ho;have hm:=G.hs i il;have L8:=s2.trans sc;have Xq:=RF.same L8;have oi:(st.map oV)[i]?=some (.int (h:Int)):=by rw[c_ il,ho];rfl
   refine⟨_,rfl,_,rfl,sa,_,_,_,rfl,rfl,bD.of (L8 _ _ hZ),ao oi,_,rfl,_,rfl,ha,_,_,_,rfl,rfl,bD.of (L8 _ _ pO),ao (eN (by lia)),by show 2<=sizeLine;decide,fun t ht=>?_⟩;have Jv:=ai (o:=.tup [.int (h:Int),.int ((homes.getD i 0:Nat):Int)]) ht;refine⟨t,_,rfl,bD.of ab,rfl,_,_,rfl,_,_,rfl,rfl,?_⟩;have Sa:=sc.trans Jv;have Nt:=s2.trans Sa;generalize upd Hc t _=H3 at *;have tk:os.take (k+1)=os.take k++[i]:=by rw[eC,hi];rfl
   refine⟨_,rfl,_,rfl,_,rfl,_,rfl,_,rfl,fr,n,ts,L',ha,sa,fa,homes,st,fs,i,rfl,RF.same Nt,Nt _ _ pO,Nt _ _ hZ,Nt _ _ om,G,il,on,_,rfl,?_⟩;have kj:=Sa _ _ eD;cases hb:gw ts homes st fs i with
   |false=>exact dQ ⟨⟨_,_,_,_,_,_,rfl⟩,Sa,fun j hj z=>by
     rw[tk] at hj;rcases bS.mp hj with w|w
     .exact iZ j w z
     .rw[cE.mp w,hb] at z;cases z⟩
   |true=>
   refine iG ⟨_,rfl,D1,rfl,⟨_,aQ.of kj⟩,fun D4 rJ=>?_⟩;refine kr (os:=os) (fun j=>decide (st.getD j none=some h)) (fun σ=>∃b,σ=[b,some (.ref sa),some (.int (h:Int))]) kj rJ (by lia) ⟨_,rfl⟩ ?_ ?_
   .rintro x σ H5 Kt Kf hx ⟨b',rfl⟩ my kt kf;refine⟨_,rfl,_,rfl,sa,_,_,_,rfl,rfl,bD.of ((Nt.trans my) _ _ hZ),ao (c_ ((Ib x).mp hx).1),_,rfl,zN,_,rfl,?_⟩;rw[Fz];exact d9 (fun c=>⟨_,rfl,kt _ _ ⟨_,rfl⟩ (aG.refl _) c⟩) (fun c=>kf _ _ ⟨_,rfl⟩ (aG.refl _) (mQ.mpr c))
   intro H4 s4 HQ;have Ce:=Nt.trans s4;have mtl:(os.filter fun j=>decide (st.getD j none=some h)).length<=16:=bw (dF _ _) Xw;have XB:∀j∈(os.filter fun j=>decide (st.getD j none=some h)),j<st.length/\st.getD j none=some h:=fun j hj=>⟨((Ib j).mp (bA.mp hj).1).1,cM (bA.mp hj).2⟩
   have nra:=fun y=>Mb (ts:=ts) (homes:=homes) (fs:=fs) (h:=h) (y:=y) Ib;generalize (os.filter fun j=>decide (st.getD j none=some h))=mt at *;dsimp only;obtain⟨bs,b1,b2,b3⟩:=R.same Ce;obtain⟨es,e1,e2,e3⟩:=RF.same Ce;have ge:∀k,k<n->(es.map V.ref)[k]?=some (.ref (es.getD k 0)):=fun k hk=>j7 (by rw[e3.1];exact hk);have ole:=kn (n:=n) (ts:=ts) (h:=h);refine⟨_,rfl,_,rfl,r,_,_,_,rfl,rfl,aQ.of b1,ao (j7 (h:=h) (by rw[b3.1];exact hn)),_,rfl,⟨_,aQ.of (b3.2 h hn)⟩,fun D5 q0=>?_⟩;refine kr (os:=bh n ts h) (fun o=>decide (far ts o (homes.getD i 0)<far ts h (homes.getD i 0))) (fun σ=>∃b,σ=[b,some (.ref fr),some (.int ((homes.getD i 0:Nat):Int)),some (.int (h:Int))]) (b3.2 h hn) q0 (by lia) ⟨_,rfl⟩ ?_ ?_
   .rintro x σ H6 Kt Kf hx ⟨b',rfl⟩ vH kt kf;have xn:=Ff n1 hx;refine⟨_,rfl,_,rfl,fr,_,_,_,rfl,rfl,aQ.of (vH _ _ e1),ao (ge x xn),_,rfl,_,_,_,_,rfl,rfl,aQ.of (vH _ _ (e3.2 x xn)),ao (oh hm),?_⟩;refine⟨_,rfl,_,rfl,fr,_,_,_,rfl,rfl,aQ.of (vH _ _ e1),ao (ge h hn),_,rfl,_,_,_,_,rfl,rfl,aQ.of (vH _ _ (e3.2 h hn)),ao (oh hm),_,_,rfl,rfl,_,rfl,?_⟩;refine d9 (fun c=>?_) (fun c=>?_)
    .exact⟨_,rfl,kt _ _ ⟨_,rfl⟩ (aG.refl _) (decide_eq_true (by have:=cM c;lia))⟩
    .exact kf _ _ ⟨_,rfl⟩ (aG.refl _) (cY fun z=>c (decide_eq_true (by lia)))
   intro H6 s6 wI;have eg:(bh n ts h).filter (fun o=>decide (far ts o (homes.getD i 0)<far ts h (homes.getD i 0)))=hG n ts h (homes.getD i 0):=rfl;rw[eg] at wI;have s36:=s4.trans s6;have eb:HZ n ts homes st fs i=(hG n ts h (homes.getD i 0)).any fun y=>!decide ((some h,some y)∈AV ts homes st fs st.length):=by
    unfold HZ;rw[ho];rfl
   have Vl:=s6 _ _ HQ;refine⟨D5,rfl,⟨_,aQ.of wI⟩,eI (K:=K) (xs:=NV (hG n ts h (homes.getD i 0))) (fun m σ Hd=>(∃g i',σ=[some (.ref r),some (.ref fr),some (.ref ha),some (.ref sa),some (.ref fa),some (.ref D1),some (.int (i:Int)),some (.int (h:Int)),some (.int ((homes.getD i 0:Nat):Int)),some (.ref D4),g,i'])/\aG H6 Hd/\((hG n ts h (homes.getD i 0)).take m).any (fun y=>!decide ((some h,some y)∈AV ts homes st fs st.length))=false) ⟨⟨_,_,rfl⟩,aG.refl _,rfl⟩ (fun k σ Hc _ z=>aQ.of (z.2.1 _ _ wI)) ?_ ?_⟩
   .rintro m x σ Hd T5 ⟨⟨g,i'',rfl⟩,sd,vv⟩;obtain⟨y,hy,rfl⟩:=kJ T5;have wK:(hG n ts h (homes.getD i 0)).take (m+1)=(hG n ts h (homes.getD i 0)).take m++[y]:=by rw[eC,hy];rfl
    have XC:=Ce.trans (s6.trans sd);have XD:=sd _ _ Vl;refine⟨_,rfl,D4,rfl,⟨_,aQ.of XD⟩,fun D7 EO=>?_⟩;refine kr (os:=mt) (fun j=>decide (fs.getD j none=some y)) (fun σ=>∃b,σ=[b,some (.ref fa),some (.int (y:Int))]) XD EO (by lia) ⟨_,rfl⟩ ?_ ?_
    .rintro x σ H7 Kt Kf hx ⟨b',rfl⟩ AL kt kf;refine⟨_,rfl,_,rfl,fa,_,_,_,rfl,rfl,bD.of ((XC.trans AL) _ _ om),ao (c_ (by have:=(XB x hx).1;lia)),_,rfl,zN,_,rfl,?_⟩;rw[Fz];exact d9 (fun c=>⟨_,rfl,kt _ _ ⟨_,rfl⟩ (aG.refl _) c⟩) (fun c=>kf _ _ ⟨_,rfl⟩ (aG.refl _) (mQ.mpr c))
    intro H7 s7 HF;have tkl:(mt.filter fun j=>decide (fs.getD j none=some y)).length<=16:=bw (dF _ _) mtl;have tkm:∀j∈(mt.filter fun j=>decide (fs.getD j none=some y)),j<st.length/\st.getD j none=some h:=fun j hj=>XB j (bA.mp hj).1;have nry:=nra y;generalize (mt.filter fun j=>decide (fs.getD j none=some y))=XE at *;have FX:=XC.trans s7;dsimp only;refine⟨_,rfl,D7,rfl,⟨_,aQ.of HF⟩,fun D8 Cy=>?_⟩;refine vq XE (fun i=>V.int (i:Nat)) (fun _=>true) (fun j=>.bl (!gw ts homes st fs j)) (fun σ=>∃b,σ=[b,some (.ref fr),some (.ref ha),some (.ref sa),some (.ref fa)]) HF Cy (by lia) ⟨_,rfl⟩ ?_ ?_
    .rintro x σ H8 Kt Kf hx ⟨b',rfl⟩ JJ kt kf;have Cz:=FX.trans JJ;obtain⟨xl,xo⟩:=tkm x hx;exact⟨_,rfl,_,rfl,_,rfl,_,rfl,_,rfl,fr,n,ts,L',ha,sa,fa,homes,st,fs,x,rfl,RF.same Cz,Cz _ _ pO,Cz _ _ hZ,Cz _ _ om,G,xl,(by rw[xo];exact fun z=>by cases z),kt _ _ ⟨_,rfl⟩ (aG.refl _) rfl⟩
    intro H8 s8 Qk;rw[List.filter_eq_self.mpr fun _ _=>rfl] at Qk;refine⟨D8,XE.map fun j=>!gw ts homes st fs j,rfl,aQ.of (by rw[Qk,cy];rfl),_,rfl,?_⟩;rw[nry];have XF:=sd.trans (s7.trans s8);cases hc:decide ((some h,some y)∈AV ts homes st fs st.length) with
    |true=>
     refine dQ ⟨⟨_,_,rfl⟩,XF,?_⟩;rw[wK,List.any_append,vv,iq,hc];rfl
    |false=>
     refine iG ?_;have:Ch n ts homes st fs (i_ ts homes st fs st.length)=false:=by
      unfold Ch;have hl:i∈i_ ts homes st fs st.length:=bA.mpr ⟨bH.mpr il,hb⟩;rw[jy.mpr ⟨i,hl,eb.trans (jy.mpr ⟨y,cm hy,by rw[hc];rfl⟩)⟩];rfl
     rw[<-this];exact q H8 (Ce.trans (s6.trans XF))
   .rintro σ Hd ⟨⟨g,i'',rfl⟩,sd,vv⟩;rw[aN,fA] at vv;refine⟨⟨_,_,_,_,_,_,rfl⟩,Sa.trans (s36.trans sd),fun j hj z=>?_⟩;rw[tk] at hj;rcases bS.mp hj with w|w
    .exact iZ j w z
    .rw[cE.mp w,eb];exact vv
  .rintro σ Hc ⟨⟨a,b,c,e,g,i,rfl⟩,sc,iZ⟩;rw[aN,fA] at iZ;have:Ch n ts homes st fs (i_ ts homes st fs st.length)=true:=by
    unfold Ch;rw[xV,qd];intro i hi z;obtain⟨il,ib⟩:=q_ hi;rw[iZ i ((Ib i).mpr ⟨il,fun z=>by unfold gw at ib;rw[z] at ib;cases ib⟩) ib] at z;cases z
   rw[<-this];exact q Hc (s2.trans sc)
end
abbrev Vm:Stmt:=i5 46
section
variable {P:Program} {w:World} {K:PySem.W.Frag} {mg:Str->Option Value} {base:Heap}
theorem Ql:aS ["_law_pot_here","_law_way","_law_outs_here","_law_far_here","_law_homes","_law_stand_here","_law_handing_here"] ["_law_pot_here","_law_way","_law_outs_here","_law_far_here","_law_homes","_law_stand_here"] (az Vm):=dB (by decide +kernel)
def Md:Sp:=fun vs H Q _=>∃ (p r fr:Addr) (n:Nat) (ts:Ts) (L L':Addr->Prop) (ha sa:Addr) (homes:List Nat) (st:List (Option Nat)) (wy:Nat),vs=[.ref p,.int wy,.ref r,.ref fr,.ref ha,.ref sa]/\cg n ts/\bu H p/\bK H L r n (bh n ts)/\L r/\¬ L p/\bK H L' fr n (fun h=>(List.range n).map (far ts h))/\L' fr/\¬ L' p/\H ha=some (.tup (NV homes))/\H sa=some (.tup (st.map oV))/\va n ts homes st/\
 ∀ (t:Addr) (fs:List (Option Nat)) (H':Hp),au p H H'->bu H' p->H' t=some (.tup (fs.map oV))->Hd n ts st fs->Q (.ref t) H'
theorem Qm{f:Addr}{fd:FuncData}(F:hW K "_law_handing" "_law_handing" Vm f fd)(RI:cX P w K mg base bE 2 "_law_right" ["_law_pot_here","_law_outs_here","_law_stand_here"] vh)(EA:cX P w K mg base bE 3 "_law_eager" ["_law_pot_here","_law_outs_here","_law_far_here","_law_homes","_law_stand_here"] vk)(EX:cX P w K mg base bE 2 "_law_exchanged" ["_law_pot_here","_law_stand_here","_law_handing_here"] L9)(SR:cX P w K mg base bE 2 "_law_strayed" ["_law_pot_here","_law_outs_here","_law_stand_here","_law_handing_here"] Ma):bY P w K mg base bE 4 f fd ["_law_pot_here","_law_way","_law_outs_here","_law_far_here","_law_homes","_law_stand_here"] Md:=by
 refine F.ok Ql (fun vs H Q E h=>?_) (fun eQ A outer s H vs Q E hr h=>?_)
 .obtain⟨p,r,fr,n,ts,L,L',ha,sa,homes,st,wy,rfl,_⟩:=h;rfl
 .obtain⟨p,r,fr,n,ts,L,L',ha,sa,homes,st,wy,rfl,Fi,hp,R,Nm,JO,RF,U8,hLq,pO,hZ,SD,q⟩:=h;have h2:dk 2 _:=hr.mono (by decide);have n1:=Fi.n1;have n2:=Fi.n2;refine⟨_,(ag (cf (aI eJ (pv 1) av (aP _)) (ap (aX (aL RI h2 aR (aa (pv 0) (aa (pv 2) (aa (pv 5) ae)))))) a_)
   (ag (aH (i:=6) Ql.nd rfl aM (aL EA hr aR (aa (pv 0) (aa (pv 2) (aa (pv 3) (aa (pv 4) (aa (pv 5) ae)))))))
   (ag (cf (PW.pt (zV (aI eJ (pv 1) av (aP _)) (uj (aI eJ (pv 1) av (aP _))))) (ap (aX (aL EX h2 aR (aa (pv 0) (aa (pv 5) (aa (pv 6) ae)))))) a_)
   (ag (cf (PW.pt (zV (aI eJ (pv 1) av (aP _)) (uj (aI eJ (pv 1) av (aP _))))) (ap (aX (aL SR h2 aR (aa (pv 0) (aa (pv 2) (aa (pv 5) (aa (pv 6) ae))))))) a_)
   (ap (aX (pv 6))))))),?_⟩
  refine⟨_,rfl,rfl,_,rfl,d9 (fun c=>?_) (fun c=>?_)⟩
  .exact⟨_,rfl,_,rfl,_,rfl,p,r,n,ts,L,sa,homes,st,rfl,Fi,by lia,n2,hp,R,hZ,SD,q⟩
  refine⟨_,rfl,_,rfl,_,rfl,_,rfl,_,rfl,p,r,fr,n,ts,L,L',ha,sa,homes,st,rfl,Fi,hp,R,RF,U8,hLq,pO,hZ,SD,fun t fs H2 s2 uL ht d=>?_⟩;have qt:=s2 _ _ hZ (hp.neT hZ);have R2:bK H2 L r n (bh n ts):=R.keep Nm fun b o l e=>s2 b o e fun z=>JO (z ▸ l);have q2:∀ (t:Addr) (fs:List (Option Nat)) (H':Hp),au p H2 H'->bu H' p->H' t=some (.tup (fs.map oV))->Hd n ts st fs->Q (.ref t) H':=fun t fs H' s3=>q t fs H' (s2.trans s3);refine⟨_,rfl,rfl,_,rfl,d9 (fun c=>iG ?_) (fun c=>⟨_,rfl,rfl,_,rfl,d9 (fun c=>?_) (fun c=>?_)⟩)⟩
  iterate 2 · exact⟨_,rfl,_,rfl,_,rfl,p,sa,t,n,ts,st,fs,rfl,uL,qt,ht,SD.le,d,q2⟩
  refine⟨_,rfl,rfl,_,rfl,d9 (fun c=>iG ?_) (fun c=>⟨_,rfl,rfl,_,rfl,d9 (fun c=>?_) (fun c=>?_)⟩)⟩
  iterate 2 · exact⟨_,rfl,_,rfl,_,rfl,_,rfl,p,r,sa,t,n,ts,L,st,fs,rfl,uL,R2,Nm,JO,qt,ht,SD.le,n2,SD.ss,d,q2⟩
  exact⟨_,rfl,q t fs H2 s2 uL ht d⟩
end
end vG
namespace L2
open PySem PySem.Spec PyProof.Rows
def Ie:V->List V->Hp->VK->Prop:=fun x vs H Q=>∃ (l:Addr) (xs:List V) (y:V),x=.ref l/\vs=[y]/\H l=some (.tup xs)/\dJ y=true/\xs.all dJ=true/\Q (.int (xs.countP fun z=>iX z y)) H
theorem Cj{X:Cx}:M1 X "tuple.count" Ie:=by
 intro af s σ H x vs v us Q I rx rv h;obtain⟨l,xs,y,rfl,rfl,hH,fy,fs,q⟩:=h;cases rx;obtain⟨u,rfl,ru⟩:=rv.one;obtain⟨its,r,⟨o,e,hc,n,d⟩,_⟩:=I.tuple (bD.of hH);obtain⟨oc,od,odt,ut⟩:=o;obtain rfl:oc=.type "tuple":=hc;obtain rfl:odt=.seq its.toArray n:=d;refine iT F.slot_tuple_count ⟨_,e,rfl⟩ F.entry_tuple_count (F.args_tuple_count_2 _ _) (SeqAt.tuple_countAt l its.toArray n od ut u (r6 y)) ⟨e,fun w hw=>gY ru fy r fs w (by simpa using hw),?_⟩;refine⟨.int _,H,I.tok _,⟨s.toks,?_⟩,q⟩;rw[show its.toArray.toList=its by simp,lf r fs]
def Vn(r:V->List V->Hp->VK->Prop)(to:TE)(t:TA):TE:=fun σ H Q=>to σ H fun x H1=>(∃p xs,x=.ref p/\H1 p=some (.tup xs))/\t σ H1 fun xs H2=>r x xs H2 Q
theorem Me{X:Cx}{o e:Expr}{es:List Expr}{to:TE}{t:TA}{name:Str}{oW jM:Pos}{id:String}{r:V->List V->Hp->VK->Prop}(pa:PlainAttrs "tuple")(slot:Slot "tuple" name id)(SO:typeOf (.builtin id)=pure (.type "method_descriptor"))(hm:VW X id r)(ho:PE X o to)(ha:PA X (e::es) t)(Dk:attributeBase o name X.env (eval o X.env)=eval o X.env:=by rfl)(Ky:((backTo jM (starEach (e::es) X.env)).all (fun x=>!x.1)&&(backToKw jM (keywordEach [] X.env)).all (fun x=>x.1.isSome)
   && decide ((e::es).length+([]:List Keyword).length+(if ([]:List Keyword).isEmpty then 0 else 1)<30))=true:=by rfl)(Dl:(oW.endLine==jM.line)=true:=by rfl)(hs:starEach (e::es) X.env=(false,eval e X.env)::starEach es X.env:=by rfl)(qw:(backTo jM (starEach es X.env)).any (·.1)=false:=by rfl):
  PE X (.Call (.Attribute o name oW) (e::es) [] jM) (Vn r to t):=by
 intro af s σ H Q I h;refine wpAny_Call_method_late Dk Ky Dl rfl (cV (ho af s σ H _ I h) fun v s1 ⟨x,H1,I1,r1,ty,q1⟩=>?_);obtain⟨p,xs,rfl,hp⟩:=ty;cases r1;obtain⟨_,_,_,ob,e1,e2,_,_,e3⟩:=(show cz X.prog X.w H1 s1.heap p (.tup xs) from I1.cL p _ hp)
 refine⟨"tuple",id,pa,slot,SO,⟨ob,e1,e2⟩,fun a z=>by cases z;exact⟨ob,e1,e3⟩,?_⟩;have hA:=ha jM af s1 σ H1 _ I1 q1;rw[hs] at hA |-;refine Calls.callWith_builtin (by show (false||(backTo jM (starEach es X.env)).any (·.1))=false;rw[qw] <;> rfl) (Calls.evalArgs_plain ?_);exact cV hA fun us s2 ⟨vs,H2,I2,r2,q2⟩=>hm af s2 σ H2 (.ref p) vs (.ref p) us Q I2 rfl r2 q2
end L2
namespace vG
open PySem L2 jV
abbrev zO:Stmt:=i5 47
theorem rO:(["_law_j","_law_pot_here"]:List Str).Nodup:=by decide +kernel
theorem kM:(["_law_there","_law_home"]:List Str).Nodup:=by decide +kernel
theorem Ig{n y x:Nat}{ts:Ts}(F:cg n ts)(hy:y<n)(hx:x<n)(ne:y≠x):∃o os,hG n ts y x=o::os:=by
 obtain⟨w,mn⟩:=F.OV hy hx
 match e:far ts y x,w with
 |0,w=>exact absurd w ne
 |d+1,w=>
  obtain⟨c,t,w'⟩:=w.DY;have hc:=(F.T6 t).2.1;have m:c∈hG n ts y x:=bA.mpr ⟨(dL F hy).mpr t,decide_eq_true (by have:=F.K3 hc hx w';lia)⟩;cases e:hG n ts y x with
  |nil=>rw[e] at m;cases m
  |cons o os=>exact⟨o,os,rfl⟩
theorem Ih{homes:List Nat}{fs:List (Option Nat)}{i:Nat}(h:i<fs.length):((AQ homes fs).map oV)[i]?=some (if fs.getD i none=some (homes.getD i 0) then V.b_ else oV (fs.getD i none)):=by
 unfold AQ;rw[bZ,bZ,gN h];show some (oV (if _ then none else _))=_;split <;> rfl
theorem fQ.weak{C p:Addr}{H:Hp}{L L':Addr->Prop}{n:Nat}{ts:Ts}(N:fQ C H L p n ts)(k:∀b,L b->L' b):fQ C H L' p n ts:=by
 obtain⟨F',dx',tl,ol,ds,q1,q2,q3,⟨b1,c1,d1,e1⟩,⟨b2,c2,d2,e2⟩,⟨a3,zs,b3,c3,d3,e3⟩⟩:=N;exact⟨F',dx',tl,ol,ds,q1,k _ q2,k _ q3,⟨b1,c1,fun b hb=>k b (d1 b hb),e1⟩,⟨b2,c2,fun b hb=>k b (d2 b hb),e2⟩,⟨k _ a3,zs,b3,c3,fun z hz=>k _ (d3 z hz),e3⟩⟩
theorem FA{K:PySem.W.Frag}:PySem.W.kitOne K (.type "bool") (.type "bool")=some true:=by kernel_rfl
theorem Ii{n:Nat}{ts:Ts}{homes:List Nat}{st fs:List (Option Nat)}{i h:Nat}(F:cg n ts)(S:va n ts homes st)(e:Ch n ts homes st fs (i_ ts homes st fs st.length)=true)(il:i<st.length)(io:st.getD i none=some h):(i_ ts homes st fs st.length).length<(List.range st.length).countP fun j=>(st.getD j none).isSome:=by
 have ex:∃k,k<st.length/\(st.getD k none).isSome=true/\gw ts homes st fs k=false:=by
  cases c:gw ts homes st fs i with
  |false=>exact⟨i,il,by rw[io];rfl,c⟩
  |true=>
   have hm:homes.getD i 0<n:=S.hs _ (by rw[bb,bO (by rw[S.len];exact il)];exact dR _);have hn:h<n:=S.ss h (by rw[<-io,bb,bO il];exact dR _);obtain⟨o,os,eg⟩:=Ig F hn hm (S.ne i h io).symm;have hl:i∈i_ ts homes st fs st.length:=bA.mpr ⟨bH.mpr il,c⟩;unfold Ch at e;rw[xV,qd] at e;have e:=e i hl;unfold HZ at e;rw[io,mT,eg,Bool.not_eq_true,iq,Bool.or_eq_false_iff] at e;have:=cM ((Bool.not_eq_false' _).mp e.1);obtain⟨k,hk,ek⟩:=bn.mp this;obtain⟨k1,k2⟩:=bA.mp hk;exact⟨k,bH.mp k1,by rw[show st.getD k none=some h from congrArg Prod.fst ek];rfl,(xV _).mp k2⟩
 obtain⟨k,k1,k2,k3⟩:=ex;unfold i_;rw[<-CH];refine Fj (i:=k) (fun j hj=>?_) k3 k2 k1;unfold gw at hj;cases c:st.getD j none with
 |none=>rw[c] at hj;cases hj
 |some _=>rfl
theorem FB{st:List (Option Nat)}:((st.map oV).countP fun z=>iX z .b_)=st.count none:=by
 rw[yb];unfold List.count;exact tL fun x _=>by
  show iX (oV x) (oV none)=true↔_;rw[wY];simp
theorem FE{st:List (Option Nat)}:st.count none+((List.range st.length).countP fun j=>(st.getD j none).isSome)=st.length:=by
 rw[ve];have:=List.length_eq_countP_add_countP (fun j=>decide (st.getD j none=none)) (l:=List.range st.length);rw[bR] at this;exact(congrArg (_+·) (tL fun x _=>by cases st.getD x none <;> simp)).trans this.symm
section
variable {P:Program} {w:World} {K:PySem.W.Frag} {mg:Str->Option Value} {base:Heap}
def FF(K:PySem.W.Frag)(H:Hp)(a:Addr)(xs:List V):Prop:=(∃o,H a=some (.ud o (.lst xs)))\/(∀H':Hp,aQ K H' a xs)
theorem FF.seq{H:Hp}{a:Addr}{xs:List V}(h:FF K H a xs):aQ K H a xs:=by
 rcases h with ⟨o,h⟩|h
 .exact .inl (.inr ⟨o,h⟩)
 .exact h H
theorem FF.mono{H H':Hp}{a:Addr}{xs:List V}(h:FF K H a xs)(e:∀o u,H a=some (.ud o u)->H' a=some (.ud o u)):FF K H' a xs:=by
 rcases h with ⟨o,h⟩|h
 .exact .inl ⟨o,e _ _ h⟩
 .exact .inr h
theorem oM.AX{p Pt:Addr}{H H':Hp}(t:oM Pt H)(s:au p H H')(hp:bu H p):oM Pt H':=by
 obtain⟨a,b,e,_⟩:=hp;rcases t with z|⟨c,z,y⟩
 .exact .inl (s _ _ z (by rintro rfl;rw[z] at e;cases e))
 .exact .inr ⟨c,s _ _ z (by rintro rfl;rw[z] at e;cases e),s _ _ y (by rintro rfl;rw[y] at e;cases e)⟩
theorem fT:aS ["_law_script","_law_k","_law_pot_here","_law_ways","_law_n","_law_ties","_law_outs_here","_law_far_here","_law_homes","_law_stand_here","_law_net_here","_law_way","_law_handing_here","_law_due","_law_turn","_law_found","_law_many"] ["_law_script"] (az zO):=dB (by decide +kernel)
def AY(K:PySem.W.Frag)(Pt:Addr):Sp:=fun vs H Q _=>∃ (a:Addr) (ns:List Int),vs=[.ref a]/\FF K H a (ns.map V.int)/\ns.length<=63/\oM Pt H/\∀H',Q (.bl true) H'
theorem Mf{f C Pt fI:Addr}{fd XG:FuncData}(F:hW K "law" "law" zO f fd)(B:Bl mg)(B2:Pn mg)(T:NT K mg C)(M:Mk K C fI)(bI:jL K XG ["self","many","ties"] [])(GI:bY P w K mg base bE 7 fI XG ["self","many","ties"] (zq C Pt))(PT:cX P w K mg base bE 1 "_law_pot" ["_law_script","_law_k"] (EC K))(TK:cX P w K mg base bE 1 "_law_take" ["_law_pot_here","_law_many"] eT)(NE:cX P w K mg base bE 4 "_law_net" ["_law_pot_here"] E7)(OU:cX P w K mg base bE 1 "_law_outs" ["_law_n","_law_ties"] u_)(LF:cX P w K mg base bE 1 "_law_far" ["_law_n","_law_outs_here"] zK)(ST:cX P w K mg base bE 2 "_law_stand" ["_law_pot_here","_law_n","_law_outs_here"] vc)(HA:cX P w K mg base bE 4 "_law_handing" ["_law_pot_here","_law_way","_law_outs_here","_law_far_here","_law_homes","_law_stand_here"] Md)(EL:cX P w K mg base bE 2 "_law_is_eager" ["_law_outs_here","_law_far_here","_law_homes","_law_stand_here","_law_handing_here"] Mc)(IE:cX P w K mg base bE 8 "is_eager" ["net","homes","stand","handing"] (L7 C))(LD:cX P w K mg base bE 7 "led" ["net","homes","stand","handing"] (AT C)):
  bY P w K mg base bE 9 f fd ["_law_script"] (AY K Pt):=by
 refine F.ok fT (fun vs H Q E h=>?_) (fun eQ A outer s H vs Q E hr h=>?_)
 .obtain⟨a,ns,rfl,_⟩:=h;rfl
 .obtain⟨a,ns,rfl,hS,xb,tb,q⟩:=h;have h1:dk 1 _:=hr.mono (by decide);have h2:dk 2 _:=hr.mono (by decide);have h4:dk 4 _:=hr.mono (by decide);have h7:dk 7 _:=hr.mono (by decide);refine'⟨_,(ag (cn cZ rfl (aY rfl B.range (aa (aE (nr rfl) (by rfl) B.max pY (aa av (aa (aE (rW rfl) (by rfl) B.min PyProof.Rows.boot_min (aa av (aa (aE aD (by rfl) B.len cu (aa (pv 0) ae)) ae))) ae))) ae)) (aq (i:=1) fT.nd rfl aM)
    (ag (aH (i:=2) fT.nd rfl bo (aL PT h1 aR (aa (pv 0) (aa (pv 1) ae))))
    (ag (bL (i:=3) (g:=(bp 0)) (te:=(oA eT [] E0 (br (aK 1) (br (tC (.int 7)) eY)))) (NB:=["_law_j","_law_pot_here"]) (src:=[none,some 2]) (bf (by kernel_rfl)) rfl (aY rfl B.range (aa (bg di av (aL TK h1 aR (aa (pv 2) (aa av ae)))) ae)) ?g1 ?t1 ?e1 fT.nd rfl rfl rfl)
    (ag (cW (aL NE h4 aR (aa (pv 2) ae)) (eG (n:=2) rfl (aW (aq (i:=4) fT.nd rfl aM) (aW (aq (i:=5) fT.nd rfl aM) cS))))
    (ag (aH (i:=6) fT.nd rfl aM (aL OU h1 aR (aa (pv 4) (aa (pv 5) ae))))
    (ag (aH (i:=7) fT.nd rfl aM (aL LF h1 aR (aa (pv 4) (aa (pv 6) ae))))
    (ag (cW (aL ST h2 aR (aa (pv 2) (aa (pv 4) (aa (pv 6) ae)))) (eG (n:=2) rfl (aW (aq (i:=8) fT.nd rfl aM) (aW (aq (i:=9) fT.nd rfl aM) cS))))
    (ag (aH (i:=10) fT.nd rfl aM (Ge M GI hr rfl T.Zv bI .nil aR (aa (pv 4) (aa (pv 5) ae))))
    (ap (cn cZ rfl (bi (pv 3)) (aq (i:=11) fT.nd rfl aM)
     (ag (aH (i:=12) fT.nd rfl aM (aL HA h4 aR (aa (pv 2) (aa (pv 11) (aa (pv 6) (aa (pv 7) (aa (pv 8) (aa (pv 9) ae))))))))
     (ag (aH (i:=13) fT.nd rfl aM (aL EL h2 aR (aa (pv 6) (aa (pv 7) (aa (pv 8) (aa (pv 9) (aa (pv 12) ae)))))))
     (ag (cn cZ rfl (aY rfl B.range (aa av ae)) (aq (i:=14) fT.nd rfl aM)
      (ag (aH (i:=15) fT.nd rfl aM (aL IE hr aR (aa (pv 10) (aa (pv 8) (aa (pv 9) (aa (pv 12) ae))))))
      (ap (cf (PW.pt (zV (jI (fV (aE jO (by rfl) B.O5 pT (aa (pv 15) (aa (lL (v:=.ty "bool") rfl B.bool PyProof.Rows.boot_bool rfl) ae))))) (uj (aI rV (pv 15) (pv 13) (aP _))))) (ap (aX lK)) a_))))
     (ag (aH (i:=16) fT.nd rfl aM (bg k8 (aE aD (by rfl) B.len cu (aa (pv 9) ae)) (Me PySem.F.plainAttrs_tuple PySem.F.slot_tuple_count PySem.F.type_tuple_count Cj (pv 9) (aa eR ae))))
     (ag (cf (PW.pt (jH (fV (pv 15)) (jH (aI vP (pv 16) av (aP _)) (j9 (aI Jg (aE aD (by rfl) B.len cu (aa (aL LD h7 aR (aa (pv 10) (aa (pv 8) (aa (pv 9) (aa (pv 12) ae))))) ae)) (pv 16) (aP _)))))) (ap (aX lK)) a_)
     (ap (aH (i:=9) fT.nd rfl aM (cJ dM (by rfl) B.tup pR (aa ?c2 ae)))))))))))))))))))
   (ap (aX lK))),?_⟩
  case g1=>exact fun cl C s₃ H₃ fp=>(aq (i:=0) rO rfl aM bo)
  case t1=>exact fun cl C s₃ H₃ fp=>ce
  case e1=>exact fun cl C s₃ H₃ fp=>(aL TK h1 aR (aa (pv 1) (aa av ae)))
  case c2=>
   refine' bJ (g:=(A4 K 2 (jK (bp 0) (jK (bp 1) A3)))) (te:=(VQ (eK (dW (MY) (aK 0) (aK 1))) (tC .b_) (aK 0))) (NB:=["_law_there","_law_home"]) (src:=[none,none]) (bf (by kernel_rfl)) rfl (GX rfl B2.zip (aa (pv 12) (aa (pv 8) ae))) ?g ?t ?e;case g=>exact fun cl C s₃ H₃ fp=>(eG (n:=2) rfl (aW (aq (i:=0) kM rfl aM bo) (aW (aq (i:=1) kM rfl aM bo) cS)))
   case t=>exact fun cl C s₃ H₃ fp=>ce
   case e=>exact fun cl C s₃ H₃ fp=>(CY (aI eJ (pv 0) (pv 1) (aP _)) eR (pv 0))
  refine⟨_,rfl,a,_,rfl,.inl hS.seq,6,_,rfl,2,_,rfl,_,rfl,?_⟩;obtain⟨j,hj,j1⟩:∃j:Int,(if (if (((ns.map V.int).length:Nat):Int)<6 then (((ns.map V.int).length:Nat):Int) else 6) > 2 then (if (((ns.map V.int).length:Nat):Int)<6 then (((ns.map V.int).length:Nat):Int) else 6) else 2)=j/\1<=j/\j<=6:=⟨_,rfl,by split <;> split <;> lia⟩
  rw[hj];refine⟨by lia,by lia,cI (n:=j.toNat) (lo:=0) (fun k σ H2=>(∃x1 x2 x3 x4 x5 x6 x7 x8 x9 PY XH XI XJ XM XN XO,σ=[some (.ref a),x1,x2,x3,x4,x5,x6,x7,x8,x9,PY,XH,XI,XJ,XM,XN,XO])/\FF K H2 a (ns.map V.int)/\oM Pt H2) ⟨⟨_,_,_,_,_,_,_,_,_,_,_,_,_,_,_,_,rfl⟩,hS,tb⟩ ?_ ?_⟩
  rotate_left
  .rintro σ H2 _;exact q H2
  .rintro k σ H2 hk ⟨⟨x1,x2,x3,x4,x5,x6,x7,x8,x9,PY,XH,XI,XJ,XM,XN,XO,rfl⟩,S2,t2⟩;refine⟨_,rfl,_,rfl,a,ns,k,by rw[dz];rfl,S2.seq,by lia,fun p H3 s3 np p3=>?_⟩;have S3:FF K H3 a (ns.map V.int):=S2.mono fun o u e=>s3 _ _ e;have t3:=t2.same s3;have np3:∀ {o u},H3 a=some (.ud o u)->a≠p:=fun e z=>by subst z;obtain⟨x,y,e',_⟩:=p3;rw[e] at e';cases e'
   refine⟨_,rfl,p,8,rfl,by decide,by decide,p3,fun mn H4 hmn s4 p4=>⟨_,_,rfl,rfl,_,rfl,by lia,by lia,fun WA Vo=>?_⟩⟩;have nW:=p4.ne Vo;refine dD (n:=(1+(mn:Int)).toNat) (fun i ys σ Hc=>(∃b,σ=[b,some (.ref p)])/\au p H4 Hc/\bu Hc p/\Hc WA=some (.lst ys)/\∃ws:List Nat,ys=NV ws/\ws.length=i) ⟨⟨_,rfl⟩,au.of (ai Vo),p4.put nW.symm,ab,[],rfl,rfl⟩ ?_ ?_
   .rintro i ys σ Hc Kt Kf hi ⟨⟨b,rfl⟩,sc,pc,hWc,ws,rfl,wl⟩ kt kf;exact⟨_,rfl,p,7,rfl,by decide,by decide,pc,fun d H5 hd s5 p5=>kt _ _ _ (s5 _ _ hWc nW) (by rw[aN,wl];exact cA (show i<10 by lia) (by decide)) ⟨⟨_,rfl⟩,au.put (sc.trans s5) Vo,p5.put nW.symm,ab,ws++[d],by rw[i6],by rw[cF,wl];rfl⟩⟩
   rintro ys σ H0 ⟨_,sW,p0,hW0,ws,rfl,wl⟩;have Vp:au p H3 H0:=s4.trans sW;have t0:=t3.AX Vp p3;dsimp only;refine⟨_,rfl,p,rfl,p0,fun tn r n zs H5 s5 p5 htn Vq hrn JE AK Fi=>?_⟩;have nrp:r≠p:=p0.ne hrn;have n1:1<=n:=by have:=Fi.n1;lia
   refine⟨tn,_,rfl,bD.of Vq,rfl,_,_,rfl,_,_,rfl,rfl,?_⟩;refine⟨_,rfl,_,rfl,n,r,zs,rfl,JE,AK,Fi,fun oo H6 s6 Qn R6=>?_⟩;have p6:=p5.same s6;refine⟨_,rfl,_,rfl,_,oo,n,zp zs,rfl,Fi,R6,fun fr H7 s7 Sc R7=>?_⟩;have p7:=p6.same s7;have XQ:bK H7 (fun b=>H5 b=none) oo n (bh n (zp zs)):=R6.same s7;refine⟨_,rfl,_,rfl,_,rfl,p,n,oo,zp zs,_,rfl,Fi.n1,Fi.n2,p7,XQ,Qn,p5.full,fun T_ ha sa homes st H8 s8 p8 UF pO hZ SD=>?_⟩;refine⟨T_,_,rfl,bD.of UF,rfl,_,_,rfl,_,_,rfl,rfl,?_⟩;have JU:au p H5 H8:=((au.of s6).trans (au.of s7)).trans s8;have R68:bK H8 (fun b=>H5 b=none) oo n (bh n (zp zs)):=XQ.keep Qn fun b o l e=>s8 b o e fun z=>p5.full (z ▸ l);have Nr:au p H3 H8:=(Vp.trans s5).trans JU;have t8:=t3.AX Nr p3;have S8:FF K H8 a (ns.map V.int):=S3.mono fun o u e=>Nr _ _ e (np3 e);have hr8:=JU _ _ JE nrp;have XR:=(s5.trans JU) _ _ hW0 nW;have RF8:bK H8 (fun b=>H6 b=none) fr n (fun h=>(List.range n).map (far (zp zs) h)):=R7.keep Sc fun b o l e=>s8 b o e fun z=>p6.full (z ▸ l);dsimp only;refine⟨_,rfl,_,rfl,fun px dx nx ndx nex=>?_⟩;have sN:aG H8 (upd (upd H8 dx (.own px)) px (.ins C dx [])):=(ai (o:=.own px) ndx).trans (ai (D:=px) (o:=.ins C dx []) (by rw[aj nex.symm];exact nx));have gpx:(upd (upd H8 dx (.own px)) px (.ins C dx [])) px=some (.ins C dx []):=ab;refine⟨px,dx,n,r,zs,rfl,gpx,⟨Fi,sN _ _ hr8,(AK.mq JU p5).same sN⟩,t8.same sN,fun Hb N10 tB CA=>⟨rfl,?_⟩⟩;have tN:=t8.same sN;have nPx:px≠Pt:=fun z=>t8.full (z ▸ nx);have Mg:∀b o,H8 b=some o->b≠Pt->Hb b=some o:=fun b o e nt=>CA b o (sN _ _ e) (ak e nx) nt;have nP:∀ {b o},H8 b=some o->(∀ps,o≠.rh ps)->b≠Pt:=fun e nt=>t8.not e nt;have NB:fQ C Hb (fun b=>H8 b=none/\b≠Pt) px n (zp zs):=N10.weak fun b l=>⟨sN.free l,fun z=>tN.full (z ▸ l)⟩
   have t5:=t3.AX (Vp.trans s5) p3;have t6:=t5.same s6;have ROb:bK Hb (fun b=>H5 b=none) oo n (bh n (zp zs)):=R68.keep Qn fun b o l e=>Mg b o e (fun z=>t5.full (z ▸ l));have RFb:bK Hb (fun b=>H6 b=none) fr n (fun h=>(List.range n).map (far (zp zs) h)):=RF8.keep Sc fun b o l e=>Mg b o e (fun z=>t6.full (z ▸ l));have Qo:=Mg _ _ pO (nP pO nofun);have Qp:=Mg _ _ hZ (nP hZ nofun);have XS:=Mg _ _ XR (nP XR nofun);have Sb:FF K Hb a (ns.map V.int):=S8.mono fun o u e=>Mg _ _ e (nP e nofun);have pb:bu Hb p:=by
    obtain⟨x,y,e,z⟩:=p8;exact⟨x,y,Mg _ _ e (nP e nofun),z⟩
   have pxp:px≠p:=p8.ne nx;have Qq:ha≠p:=p8.neT pO;dsimp only;refine⟨_,rfl,WA,rfl,⟨_,aQ.of XS⟩,eI (K:=K) (xs:=NV ws) (fun i σ Hc=>∃ (sa:Addr) (st:List (Option Nat)),(∃u v w x y z,σ=[some (.ref a),some (.int (0+(k:Int))),some (.ref p),some (.ref WA),some (.int (n:Int)),some (.ref r),some (.ref oo),some (.ref fr),some (.ref ha),some (.ref sa),some (.ref px),u,v,w,x,y,z])/\au p Hb Hc/\bu Hc p/\Hc sa=some (.tup (st.map oV))/\va n (zp zs) homes st) ⟨sa,st,⟨_,_,_,_,_,_,rfl⟩,au.refl,pb,Qp,SD⟩ (fun i σ Hc _ z=>by obtain⟨_,_,_,sc,_⟩:=z;exact aQ.of (sc _ _ XS nW)) ?_ ?_⟩
   rotate_left
   .rintro σ Hc ⟨sa,st,⟨u,v,w,x,y,z,rfl⟩,sc,_⟩;exact⟨⟨_,_,_,_,_,_,_,_,_,_,_,_,_,_,_,_,rfl⟩,Sb.mono fun o u e=>sc _ _ e (by rintro rfl;obtain⟨x,y,e',_⟩:=pb;rw[e] at e';cases e'),tB.AX sc pb⟩
   clear hZ Qp SD;rintro i wv σ Hc hi ⟨sa,st,⟨u,v,w',x,y,z,rfl⟩,sc,jj,vo,SD⟩;obtain⟨wy,hwy,rfl⟩:=kJ hi;have JQ:=jj.neT vo;have RO:∀Hc,au p Hb Hc->bK Hc (fun b=>H5 b=none) oo n (bh n (zp zs)):=fun Hc sc=>ROb.keep Qn fun b o l e=>sc b o e fun z=>p5.full (z ▸ l);have RF:∀Hc,au p Hb Hc->bK Hc (fun b=>H6 b=none) fr n (fun h=>(List.range n).map (far (zp zs) h)):=fun Hc sc=>RFb.keep Sc fun b o l e=>sc b o e fun z=>p6.full (z ▸ l);refine⟨_,rfl,_,rfl,_,rfl,_,rfl,_,rfl,_,rfl,p,oo,fr,n,zp zs,_,_,ha,sa,homes,st,wy,rfl,Fi,jj,RO _ sc,Qn,p5.full,RF _ sc,Sc,p6.full,sc _ _ Qo Qq,vo,SD,fun fa fs H1 XT vC om hd=>?_⟩;have s1:=sc.trans XT;have G:=hd.goes Fi SD;have XU:fQ C H1 (fun b=>H8 b=none/\b≠Pt) px n (zp zs):=NB.keep (fun b o l e=>s1 b o e fun z=>p8.full (z ▸ l.1)) (fun o e=>s1 px o e pxp);have Ij:=s1 _ _ Qo Qq;have Mh:=XT _ _ vo JQ;refine⟨_,rfl,_,rfl,_,rfl,_,rfl,_,rfl,oo,fr,n,zp zs,_,_,ha,sa,fa,homes,st,fs,rfl,Fi.n2,n1,RO _ s1,RF _ s1,Ij,Mh,om,G,fun H2' s2'=>?_⟩;generalize hE:Ch n (zp zs) homes st fs (i_ (zp zs) homes st fs st.length)=ea;dsimp only;refine⟨_,rfl,by decide,by decide,cI (n:=2) (lo:=0) (fun i σ Hd=>(∃x y z,σ=[some (.ref a),some (.int (0+(k:Int))),some (.ref p),some (.ref WA),some (.int (n:Int)),some (.ref r),some (.ref oo),some (.ref fr),some (.ref ha),some (.ref sa),some (.ref px),some (.int (wy:Int)),some (.ref fa),some (.bl ea),x,y,z]/\(0<i->y=some (.bl ea)))/\aG H1 Hd) ⟨⟨_,_,_,rfl,fun z=>absurd z (ip _)⟩,s2'⟩ ?_ ?_⟩
   .rintro i σ Hd Br ⟨⟨x',y',z',rfl,_⟩,sd⟩;refine⟨_,rfl,_,rfl,_,rfl,_,rfl,_,px,n,zp zs,ha,homes,sa,st,fa,fs,rfl,XU.same sd,sd _ _ Ij,sd _ _ Mh,sd _ _ om,G,fun Vr Qr=>?_⟩;rw[hE];refine⟨_,rfl,_,_,_,.type "bool",true,rfl,⟨rfl,FA⟩,.of (.bl _),_,rfl,dQ ⟨_,rfl,_,rfl,rfl,_,rfl,kL (by show (!decide (V.bl ea=V.bl ea))=false;rw[decide_eq_true rfl];rfl) ⟨⟨_,_,_,rfl,fun _=>rfl⟩,sd.trans Qr⟩⟩⟩
   rintro σ Hd ⟨⟨x',y',z',rfl,hy'⟩,sd⟩;obtain rfl:=hy' (by decide);have Ni:=sd _ _ Mh;refine⟨_,rfl,sa,_,rfl,.inr (bD.of Ni),_,rfl,⟨_,_,rfl,Ni⟩,?_⟩;refine⟨sa,_,.b_,rfl,rfl,Ni,rfl,jc.mpr fun v hv=>by obtain⟨o,_,rfl⟩:=bn.mp hv;exact pP,_,_,rfl,rfl,?_⟩;rw[FB,aO];obtain⟨mm,hmm,em⟩:∃mm:Int,(st.length:Int)-(st.count none:Nat)=mm/\mm=(((List.range st.length).countP fun j=>(st.getD j none).isSome:Nat):Int):=⟨_,rfl,by have:=FE (st:=st);lia⟩
   change bp 16 (V.int ((st.length:Int)-(st.count none:Nat))) _ _ _;rw[hmm];refine me (fun σ H5=>H5=Hd/\σ=[some (.ref a),some (.int (0+(k:Int))),some (.ref p),some (.ref WA),some (.int (n:Int)),some (.ref r),some (.ref oo),some (.ref fr),some (.ref ha),some (.ref sa),some (.ref px),some (.int (wy:Int)),some (.ref fa),some (.bl ea),x',some (.bl ea),some (.int mm)]) ?_ (fun N hN=>hN _ _ ⟨rfl,rfl⟩);rintro σ H5 ⟨rfl,rfl⟩;refine me (fun σ H6'=>σ=[some (.ref a),some (.int (0+(k:Int))),some (.ref p),some (.ref WA),some (.int (n:Int)),some (.ref r),some (.ref oo),some (.ref fr),some (.ref ha),some (.ref sa),some (.ref px),some (.int (wy:Int)),some (.ref fa),some (.bl ea),x',some (.bl ea),some (.int mm)]/\aG H5 H6') ?_ ?_
   rotate_left
   .intro N hN;refine⟨_,rfl,ea,rfl,?_⟩;cases ea with
    |false=>exact dQ (dQ (hN _ _ ⟨rfl,aG.refl _⟩))
    |true=>
     refine iG ⟨_,rfl,_,_,rfl,rfl,_,rfl,d9 (fun c=>?_) (fun c=>dQ (hN _ _ ⟨rfl,aG.refl _⟩))⟩;refine⟨_,rfl,_,rfl,_,rfl,_,rfl,_,px,n,zp zs,ha,homes,sa,st,fa,fs,rfl,XU.same sd,sd _ _ Ij,Ni,sd _ _ om,G,fun r3 Vr Qr nr3 R_=>⟨r3,_,rfl,.inl (aQ.of R_),_,rfl,_,_,rfl,rfl,_,rfl,kL (cY fun z=>?_) (hN _ _ ⟨rfl,Qr⟩)⟩⟩;rw[aN] at z;have c:=cM c;have ⟨j,jr,js⟩:=List.countP_pos_iff.mp (show 0<(List.range st.length).countP fun j=>(st.getD j none).isSome by lia);obtain⟨h,ho⟩:=pU.mp js;have:=Ii Fi SD hE (bH.mp jr) ho;lia
   rintro σ Vr ⟨rfl,Qr⟩;have Vs:=sd.trans Qr;have Qs:=Vs _ _ om;have Qt:=Vs _ _ Ij;have fl:fs.length=homes.length:=by rw[G.l2,G.l1]
   refine⟨_,rfl,_,rfl,fa,ha,_,_,rfl,bD.of Qs,bD.of Qt,by rw[aO,aN];exact fl,fun D4 rJ=>?_⟩;refine DW (K:=K) (xs:=fs.map oV) (ys:=NV homes) (by rw[aO,aN];exact fl) (fun i zz σ H=>(∃u v,σ=[u,v])/\aG Vr H/\H D4=some (.lst zz)/\zz=((AQ homes fs).map oV).take i) ⟨⟨_,_,rfl⟩,ai rJ,ab,rfl⟩ (fun i zz σ H _ z=>⟨bD.of (z.2.1 _ _ Qs),bD.of (z.2.1 _ _ Qt)⟩) ?_ ?_
   .rintro i x y pp zz σ H5 Kt Kf hx hy ⟨⟨u,v,rfl⟩,my,q0,rfl⟩ hpp kt kf;have XV:i<fs.length:=by have:=(cN.mp hx).1;rwa [aO] at this
    rw[c_ XV] at hx;obtain rfl:=bW hx;rw[eN (by lia)] at hy;obtain rfl:=bW hy;have sp:=ai (o:=.tup [oV (fs.getD i none),.int ((homes.getD i 0:Nat):Int)]) hpp;have one:=Ih (homes:=homes) (fs:=fs) XV;have lt:(((AQ homes fs).map oV).take i).length<sizeLine:=eA (kO _ _) (by rw[aO,mC,G.l2];exact eA G.l3 (by decide));refine⟨pp,_,rfl,bD.of ab,rfl,_,_,rfl,_,_,rfl,rfl,?_⟩;refine⟨_,rfl,_,rfl,zN,_,rfl,?_⟩;rw[Fz];have go:∀v,((AQ homes fs).map oV)[i]?=some v->∀σ2,(∃u v,σ2=[u,v])->Kt v σ2 (upd H5 pp (.tup [oV (fs.getD i none),.int ((homes.getD i 0:Nat):Int)])):=fun v hv σ2 sh=>kt v σ2 _ (sp _ _ q0) lt ⟨sh,bt (my.trans sp) rJ,ab,by rw[eC,hv];rfl⟩;by_cases c:fs.getD i none=some (homes.getD i 0)
    .rw[am c] at one;rw[decide_eq_true c];exact iG (go _ one _ ⟨_,_,rfl⟩)
    .rw[aA c] at one;rw[cY c];exact dQ ⟨_,rfl,go _ one _ ⟨_,_,rfl⟩⟩
   .rintro zz σ H5 ⟨_,my,q0,rfl⟩;rw[aO,show fs.length=((AQ homes fs).map oV).length by rw[aO,mC],fA] at q0;refine⟨D4,_,rfl,.inl ⟨aQ.of q0,fun t ht=>?_⟩⟩;have bj:=ai (o:=.tup ((AQ homes fs).map oV)) ht;have XW:=(Vs.trans my).trans bj;exact⟨t,AQ homes fs,⟨_,_,_,_,_,_,rfl⟩,s1.trans (au.of XW),vC.same XW,ab,hd.next Fi SD⟩
end
def FD(K:PySem.W.Frag)(n:Str)(st:Stmt):Prop:=∃ (f:Addr) (oc:Value) (od an:Option Addr) (sl:Array (Option Value)) (kV dc pm cd ct:Value),PySem.W.nsIn K mainGlobals n=some (some (.ref f))/\K.lookup f=some ⟨oc,od,.func (PySem.W.fnOf n n (dC st) (cw st) (az st) .none kV dc pm an cd ct),sl⟩/\PySem.W.codeIn K cd n=true/\PySem.W.keepIn K (.ref f)=true
def FC(K:PySem.W.Frag)(n:Str)(st:Stmt)(c:Addr):Prop:=∃ (f:Addr) (oc:Value) (od an:Option Addr) (sl:Array (Option Value)) (kV dc pm ct:Value),PySem.W.nsIn K mainGlobals n=some (some (.ref f))/\K.lookup f=some ⟨oc,od,.func (PySem.W.fnOf n n (dC st) (cw st) (az st) .none kV dc pm an (.ref c) ct),sl⟩/\PySem.W.codeIn K (.ref c) n=true/\PySem.W.keepIn K (.ref f)=true
def MD(K:PySem.W.Frag)(C:Addr)(n q:Str)(st:Stmt):Prop:=∃ (f:Addr) (oc:Value) (od an:Option Addr) (sl:Array (Option Value)) (kV dc pm cd ct:Value),PySem.W.findIn K (.ref C) n=some (some (.ref f))/\PySem.W.isFn K (.ref f)=true/\K.lookup f=some ⟨oc,od,.func (PySem.W.fnOf n q (dC st) (cw st) (az st) .none kV dc pm an cd ct),sl⟩/\PySem.W.codeIn K cd q=true/\PySem.W.keepIn K (.ref f)=true
section
variable {P:Program} {w:World} {K:PySem.W.Frag} {mg:Str->Option Value} {base h:Heap} {n q:Str} {st:Stmt} {f c C:Addr} {oc kV dc pm cd ct:Value} {od an:Option Addr} {sl:Array (Option Value)} {CX:w_} {k:Nat} {ps:List Str} {sp:Sp}
theorem FD.mk(a:PySem.W.nsIn K mainGlobals n=some (some (.ref f)))(l:K.lookup f=some ⟨oc,od,.func (PySem.W.fnOf n n (dC st) (cw st) (az st) .none kV dc pm an cd ct),sl⟩)(d:PySem.W.codeIn K cd n=true)(k:PySem.W.keepIn K (.ref f)=true):FD K n st:=⟨f,oc,od,an,sl,kV,dc,pm,cd,ct,a,l,d,k⟩
theorem FC.mk(a:PySem.W.nsIn K mainGlobals n=some (some (.ref f)))(l:K.lookup f=some ⟨oc,od,.func (PySem.W.fnOf n n (dC st) (cw st) (az st) .none kV dc pm an (.ref c) ct),sl⟩)(d:PySem.W.codeIn K (.ref c) n=true)(k:PySem.W.keepIn K (.ref f)=true):FC K n st c:=⟨f,oc,od,an,sl,kV,dc,pm,ct,a,l,d,k⟩
theorem MD.mk(a:PySem.W.findIn K (.ref C) n=some (some (.ref f)))(i:PySem.W.isFn K (.ref f)=true)(l:K.lookup f=some ⟨oc,od,.func (PySem.W.fnOf n q (dC st) (cw st) (az st) .none kV dc pm an cd ct),sl⟩)(d:PySem.W.codeIn K cd q=true)(k:PySem.W.keepIn K (.ref f)=true):MD K C n q st:=⟨f,oc,od,an,sl,kV,dc,pm,cd,ct,a,i,l,d,k⟩
def BD(n q:Str)(st:Stmt)(ps:List Str):Prop:=∀ (kV lP pm:Value) (an:Option Addr) (eQ ct:Value) (us:List Value),us.length=ps.length->bindArgs (PySem.W.fnOf n q (dC st) (cw st) (az st) .none kV lP pm an eQ ct) ⟨us,[]⟩=pure (ps.zip us)
theorem FD.jb(X:K.In h)(G:h.Ns mainGlobals mg)(D:FD K n st)(b:BD n n st ps)(o:∀ {f fd},hW K n n st f fd->bY P w K mg base CX k f fd ps sp):cX P w K mg base CX k n ps sp:=by
 obtain⟨f,_,_,_,_,_,_,_,_,_,a,l,d,kp⟩:=D;have F:=ux (x:=n) (qual:=n) (st:=st) l d kp;exact⟨⟨f,_,kX X G a,kp,F.binds b,o F⟩⟩
theorem FC.jb(X:K.In h)(G:h.Ns mainGlobals mg)(D:FC K n st c)(b:BD n n st ps)(o:∀ {f fd},yV K n n st f fd c->bY P w K mg base CX k f fd ps sp):cX P w K mg base CX k n ps sp:=by
 obtain⟨f,_,_,_,_,_,_,_,_,a,l,d,kp⟩:=D;have F:=GA (x:=n) (qual:=n) (st:=st) l d kp;exact⟨⟨f,_,kX X G a,kp,F.fun.binds b,o F⟩⟩
theorem MD.jb(D:MD K C n q st)(b:BD n q st ps)(o:∀ {f fd},hW K n q st f fd->bY P w K mg base CX k f fd ps sp):wD P w K mg base CX k C n ps sp:=by
 obtain⟨f,_,_,_,_,_,_,_,_,_,a,i,l,d,kp⟩:=D;have F:=ux (x:=n) (qual:=q) (st:=st) l d kp;exact⟨⟨f,_,⟨a,i,kp⟩,F.binds b,o F⟩⟩
end
theorem Mi{l:PySem.W.OpenLaw}{w:World}{K:PySem.W.Frag}{h:Heap}{mg:Str->Option Value}{fa:Addr}(X:K.In h)(G:h.Ns mainGlobals mg)(om:mg "law"=some (.ref fa)){C cO Pt:Addr}{ph rP pi:Tok}(aC:PySem.W.nsIn K mainGlobals "Net"=some (some (.ref C)))(Ik:FD K "is_whole" zh)(FG:FD K "is_whole_within" uR)(Il:FD K "is_house" zi)(Qu:FD K "is_row" K5)(Qv:FD K "are_unlike_houses" Lb)(Qw:FD K "is_tie" K_)(Im:FD K "check_ties" zm)(Qx:FD K "check_balance" La)(Mj:FC K "houses_out" wE cO)(Ml:FD K "distances_from" Et)(Io:FD K "check_reached" zn)(Ip:FD K "is_led" zL)(Qy:FD K "led" L4)(Vt:FD K "is_eager" Ve)(Qz:FD K "_law_pot" Lw)(Mm:FD K "_law_take" EB)(Iq:FD K "_law_order" zy)(Mn:FD K "_law_both" EG)(Mo:FD K "_law_tree" EH)(Mp:FD K "_law_mesh" EN)(QA:FD K "_law_box" LH)(Ir:FD K "_law_words" zC)(QB:FD K "_law_one_way" LL)(QC:FD K "_law_net" E4)(Iu:FD K "_law_outs" zF)(Iv:FD K "_law_stand" zG)(Iw:FD K "_law_right" zH)(Mq:FD K "_law_far" Fl)(Ix:FD K "_law_eager" zM)(Vu:FD K "_law_exchanged" Vf)(Vv:FD K "_law_strayed" Vg)(Vw:FD K "_law_is_near" Vj)(Vx:FD K "_law_is_eager" Vk)(Vy:FD K "_law_handing" Vm)(QD:FD K "law" zO)(Mr:MD K C "__init__" "Net.__init__" AD)(Iy:MD K C "check_house" "Net.check_house" zk)(QE:MD K C "far" "Net.far" K7)(Ms:MD K C "good" "Net.good" Em)(pg:PySem.W.plainGet K C Str.empty=true)(Vz:PySem.W.hasDictIn K C=true)(po:PySem.W.plainOver K C=true)(sa:PySem.W.findIn K (.ref C) "__setattr__"=some (some (.builtin "object.__setattr__")))(mk:PySem.W.makesIn K C=true)(kc:PySem.W.keepIn K (.ref C)=true)(nH:PySem.W.findIn K (.ref C) "house_count"=some none)(nT:PySem.W.findIn K (.ref C) "tie_list"=some none)(nO:PySem.W.findIn K (.ref C) "out_lists"=some none)(nD:PySem.W.findIn K (.ref C) "distances"=some none)(vw:PySem.W.nsIn K mainGlobals "isinstance"=some none)(QF:PySem.W.nsIn K mainGlobals "int"=some none)(Mt:PySem.W.nsIn K mainGlobals "bool"=some none)(Iz:PySem.W.nsIn K mainGlobals "tuple"=some none)(Mu:PySem.W.nsIn K mainGlobals "list"=some none)(QG:PySem.W.nsIn K mainGlobals "str"=some none)(QH:PySem.W.nsIn K mainGlobals "set"=some none)(QI:PySem.W.nsIn K mainGlobals "len"=some none)(IA:PySem.W.nsIn K mainGlobals "range"=some none)(FH:PySem.W.nsIn K mainGlobals "sorted"=some none)(QJ:PySem.W.nsIn K mainGlobals "any"=some none)(QK:PySem.W.nsIn K mainGlobals "max"=some none)(QL:PySem.W.nsIn K mainGlobals "min"=some none)(vx:PySem.W.nsIn K mainGlobals "ValueError"=some none)(QM:PySem.W.nsIn K mainGlobals "all"=some none)(QN:PySem.W.nsIn K mainGlobals "abs"=some none)(FI:PySem.W.nsIn K mainGlobals "divmod"=some none)(Mv:PySem.W.nsIn K mainGlobals "dict"=some none)(QO:PySem.W.nsIn K mainGlobals "zip"=some none)(Mw:PySem.W.nsIn K mainGlobals "repr"=some none)(pq:PySem.W.nsIn K mainGlobals "FEWEST_HOUSES"=some (some (.int 2 ph)))(rQ:PySem.W.nsIn K mainGlobals "MOST_HOUSES"=some (some (.int 32 rP)))(pz:PySem.W.nsIn K mainGlobals "MOST_TIES_OUT"=some (some (.int 8 pi)))(My:PySem.W.codeHdIn K cO Pt=true):
  ∃fd:FuncData,(∀ (s:Shared) (v:Value),BindsTo s fd ⟨[v],[]⟩ [("_law_script",v)])/\∀base:Heap,K.In base->base.Ns mainGlobals mg->uF mg base->bY l.prog w K mg base bE 9 fa fd ["_law_script"] (AY K Pt):=by
 obtain⟨XX,oc,od,an,sl,kV,dc,pm,cd,ct,QP,QQ,QR,QS⟩:=QD;have e:=om.symm.trans (kX X G QP);cases e;have QT:=ux (x:="law") (qual:="law") (st:=zO) QQ QR QS;obtain⟨XY,oci,odi,ani,sli,kVi,dci,pmi,cdi,cti,a_i,i_i,l_i,d_i,k_i⟩:=Mr;have w5:=ux (x:="__init__") (qual:="Net.__init__") (st:=AD) l_i d_i k_i;have FJ:=w5.binds (ps:=["self","many","ties"]) fun _ _ _ _ _ _ us hl=>match us,hl with|[_,_,_],_=>rfl
 have MK:Mk K C XY:=⟨mk,a_i,i_i,kc⟩
 have B:Bl mg:=⟨eV X G vw,eV X G QF,eV X G Mt,eV X G Iz,eV X G Mu,eV X G QG,eV X G QH,eV X G QI,eV X G IA,eV X G FH,eV X G QJ,eV X G QK,eV X G QL,eV X G vx,eV X G QM⟩
 have T:NT K mg C:=⟨⟨pg,Vz,po,sa⟩,nH,nT,nO,nD,kX X G aC⟩
 have B2:Pn mg:=⟨eV X G QN,eV X G FI,eV X G Mv,eV X G QO,eV X G Mw⟩
 refine⟨PySem.W.fnOf "law" "law" (dC zO) (cw zO) (az zO) .none kV dc pm an cd ct,fun s v=>.of_eq rfl,fun base kb nb hb=>?_⟩;have IC:cX l.prog w K mg base bE 1 "is_whole" ["thing"] (uT K):=FD.jb X G Ik (fun _ _ _ _ _ _ us hl=>match us,hl with|[_],_=>rfl) fun ID=>Eh ID B;have w6:cX l.prog w K mg base bE 2 "is_whole_within" ["thing","least","most"] (md K):=FD.jb X G FG (fun _ _ _ _ _ _ us hl=>match us,hl with|[_,_,_],_=>rfl) fun FK=>B1 FK IC;have AZ:cX l.prog w K mg base bE 3 "is_house" ["many","thing"] (pL K):=FD.jb X G Il (fun _ _ _ _ _ _ us hl=>match us,hl with|[_,_],_=>rfl) fun IF=>Ej IF w6;have QU:cX l.prog w K mg base bE 1 "is_row" ["thing","length"] (Ek K):=FD.jb X G Qu (fun _ _ _ _ _ _ us hl=>match us,hl with|[_,_],_=>rfl) fun QV=>K6 QV B;have QW:cX l.prog w K mg base bE 4 "are_unlike_houses" ["many","one","other"] En:=FD.jb X G Qv (fun _ _ _ _ _ _ us hl=>match us,hl with|[_,_,_],_=>rfl) fun QX=>Lc QX AZ;have QY:cX l.prog w K mg base bE 5 "is_tie" ["many","thing"] Eo:=FD.jb X G Qw (fun _ _ _ _ _ _ us hl=>match us,hl with|[_,_],_=>rfl) fun QZ=>Ld QZ QU QW;have IG:cX l.prog w K mg base bE 6 "check_ties" ["many","ties"] ki:=FD.jb X G Im (fun _ _ _ _ _ _ us hl=>match us,hl with|[_,_],_=>rfl) fun IH=>Er IH B ⟨_,kX X G pq⟩ ⟨_,kX X G rQ⟩ w6 QY;have Q0:cX l.prog w K mg base bE 1 "check_balance" ["many","ties"] ki:=FD.jb X G Qx (fun _ _ _ _ _ _ us hl=>match us,hl with|[_,_],_=>rfl) fun Q3=>Le Q3 B ⟨_,kX X G pz⟩;have Mz:cX l.prog w K mg base bE 1 "houses_out" ["many","ties","house"] (uW Pt):=FC.jb X G Mj (fun _ _ _ _ _ _ us hl=>match us,hl with|[_,_,_],_=>rfl) fun MA=>Hk MA B kb hb My;have MB:cX l.prog w K mg base bE 1 "distances_from" ["out_lists","start"] uX:=FD.jb X G Ml (fun _ _ _ _ _ _ us hl=>match us,hl with|[_,_],_=>rfl) fun MC=>Hl MC B;have II:cX l.prog w K mg base bE 1 "check_reached" ["distances"] uZ:=FD.jb X G Io (fun _ _ _ _ _ _ us hl=>match us,hl with|[_],_=>rfl) fun IJ=>Ex IJ B;have MH:bY l.prog w K mg base bE 7 XY _ ["self","many","ties"] (zq C Pt):=Ho w5 T B IG Q0 Mz MB II;have IK:wD l.prog w K mg base bE 4 C "check_house" ["self","thing"] (qS C):=MD.jb Iy (fun _ _ _ _ _ _ us hl=>match us,hl with|[_,_],_=>rfl) fun Ck=>B5 Ck T AZ;have JV:wD l.prog w K mg base bE 5 C "far" ["self","one","other"] (uV C):=MD.jb QE (fun _ _ _ _ _ _ us hl=>match us,hl with|[_,_,_],_=>rfl) fun IM=>Hf IM T IK;have MI:wD l.prog w K mg base bE 6 C "good" ["self","house","home"] (vt C):=MD.jb Ms (fun _ _ _ _ _ _ us hl=>match us,hl with|[_,_,_],_=>rfl) fun FL=>Fw FL T JV;have IN:cX l.prog w K mg base bE 6 "is_led" ["net","homes","stand","handing","letter"] (pN C):=FD.jb X G Ip (fun _ _ _ _ _ _ us hl=>match us,hl with|[_,_,_,_,_],_=>rfl) fun IP=>Fs IP B T JV;have JW:cX l.prog w K mg base bE 7 "led" ["net","homes","stand","handing"] (AT C):=FD.jb X G Qy (fun _ _ _ _ _ _ us hl=>match us,hl with|[_,_,_,_],_=>rfl) fun Q4=>L5 Q4 B IN;have VA:cX l.prog w K mg base bE 8 "is_eager" ["net","homes","stand","handing"] (L7 C):=FD.jb X G Vt (fun _ _ _ _ _ _ us hl=>match us,hl with|[_,_,_,_],_=>rfl) fun VB=>Qd VB B T JW MI;have Q5:cX l.prog w K mg base bE 1 "_law_pot" ["_law_script","_law_k"] (EC K):=FD.jb X G Qz (fun _ _ _ _ _ _ us hl=>match us,hl with|[_,_],_=>rfl) fun Q6=>Lx Q6 B B2;have hV:cX l.prog w K mg base bE 1 "_law_take" ["_law_pot_here","_law_many"] eT:=FD.jb X G Mm (fun _ _ _ _ _ _ us hl=>match us,hl with|[_,_],_=>rfl) fun MJ=>Hw MJ B2;have vy:cX l.prog w K mg base bE 2 "_law_order" ["_law_pot_here","_law_many"] mr:=FD.jb X G Iq (fun _ _ _ _ _ _ us hl=>match us,hl with|[_,_],_=>rfl) fun IQ=>EF IQ B hV;have ML:cX l.prog w K mg base bE 1 "_law_both" ["_law_pairs"] zA:=FD.jb X G Mn (fun _ _ _ _ _ _ us hl=>match us,hl with|[_],_=>rfl) fun MM=>Hy MM;have FM:cX l.prog w K mg base bE 2 "_law_tree" ["_law_pot_here","_law_n"] lz:=FD.jb X G Mo (fun _ _ _ _ _ _ us hl=>match us,hl with|[_,_],_=>rfl) fun MN=>Hz MN B hV;have MO:cX l.prog w K mg base bE 3 "_law_mesh" ["_law_pot_here","_law_n"] lz:=FD.jb X G Mp (fun _ _ _ _ _ _ us hl=>match us,hl with|[_,_],_=>rfl) fun MP=>HE MP B hV FM;have Q7:cX l.prog w K mg base bE 1 "_law_box" ["_law_sides"] ES:=FD.jb X G QA (fun _ _ _ _ _ _ us hl=>match us,hl with|[_],_=>rfl) fun Q8=>LJ Q8 B;have IR:cX l.prog w K mg base bE 1 "_law_words" ["_law_figures","_law_base"] u7:=FD.jb X G Ir (fun _ _ _ _ _ _ us hl=>match us,hl with|[_,_],_=>rfl) fun IS=>ET IS B;have Q9:cX l.prog w K mg base bE 3 "_law_one_way" ["_law_pot_here","_law_n"] EV:=FD.jb X G QB (fun _ _ _ _ _ _ us hl=>match us,hl with|[_,_],_=>rfl) fun Q_=>LM Q_ B hV vy;have Ra:cX l.prog w K mg base bE 4 "_law_net" ["_law_pot_here"] E7:=FD.jb X G QC (fun _ _ _ _ _ _ us hl=>match us,hl with|[_],_=>rfl) fun Rb=>LQ Rb B hV vy FM MO ML Q7 IR Q9;have IT:cX l.prog w K mg base bE 1 "_law_outs" ["_law_n","_law_ties"] u_:=FD.jb X G Iu (fun _ _ _ _ _ _ us hl=>match us,hl with|[_,_],_=>rfl) fun IU=>Fa IU B B2;have IW:cX l.prog w K mg base bE 2 "_law_stand" ["_law_pot_here","_law_n","_law_outs_here"] vc:=FD.jb X G Iv (fun _ _ _ _ _ _ us hl=>match us,hl with|[_,_,_],_=>rfl) fun IX=>Fc IX B hV;have IY:cX l.prog w K mg base bE 2 "_law_right" ["_law_pot_here","_law_outs_here","_law_stand_here"] vh:=FD.jb X G Iw (fun _ _ _ _ _ _ us hl=>match us,hl with|[_,_,_],_=>rfl) fun IZ=>Fp IZ B hV;have MQ:cX l.prog w K mg base bE 1 "_law_far" ["_law_n","_law_outs_here"] zK:=FD.jb X G Mq (fun _ _ _ _ _ _ us hl=>match us,hl with|[_,_],_=>rfl) fun MR=>HU MR B;have I0:cX l.prog w K mg base bE 3 "_law_eager" ["_law_pot_here","_law_outs_here","_law_far_here","_law_homes","_law_stand_here"] vk:=FD.jb X G Ix (fun _ _ _ _ _ _ us hl=>match us,hl with|[_,_,_,_,_],_=>rfl) fun I_=>Fu I_ B hV vy;have VC:cX l.prog w K mg base bE 2 "_law_exchanged" ["_law_pot_here","_law_stand_here","_law_handing_here"] L9:=FD.jb X G Vu (fun _ _ _ _ _ _ us hl=>match us,hl with|[_,_,_],_=>rfl) fun VD=>Qe VD B hV;have VE:cX l.prog w K mg base bE 2 "_law_strayed" ["_law_pot_here","_law_outs_here","_law_stand_here","_law_handing_here"] Ma:=FD.jb X G Vv (fun _ _ _ _ _ _ us hl=>match us,hl with|[_,_,_,_],_=>rfl) fun VF=>Qg VF B hV;have VG:cX l.prog w K mg base bE 1 "_law_is_near" ["_law_far_here","_law_homes","_law_stand_here","_law_handing_here","_law_i"] Ic:=FD.jb X G Vw (fun _ _ _ _ _ _ us hl=>match us,hl with|[_,_,_,_,_],_=>rfl) fun VH=>Qi VH;have VI:cX l.prog w K mg base bE 2 "_law_is_eager" ["_law_outs_here","_law_far_here","_law_homes","_law_stand_here","_law_handing_here"] Mc:=FD.jb X G Vx (fun _ _ _ _ _ _ us hl=>match us,hl with|[_,_,_,_,_],_=>rfl) fun VJ=>Qj VJ B VG;have VL:cX l.prog w K mg base bE 4 "_law_handing" ["_law_pot_here","_law_way","_law_outs_here","_law_far_here","_law_homes","_law_stand_here"] Md:=FD.jb X G Vy (fun _ _ _ _ _ _ us hl=>match us,hl with|[_,_,_,_,_,_],_=>rfl) fun VM=>Qm VM IY I0 VC VE;exact Mf QT B B2 T MK FJ MH Q5 hV Ra IT MQ IW VL VI VA JW
theorem Rc(h:((List.range 2000).any fun c=>PySem.W.codeHdIn K c P)=true):∃c,PySem.W.codeHdIn K c P=true:=
 let ⟨c,_,e⟩:=jy.mp h;⟨c,e⟩
theorem MS(hO:Ak ts H)(h:aQ K H a xs):FF K H a xs:=by
 rcases h with h|h
 .rcases h with h|⟨o,h⟩
  .rcases hO.2 a with z|⟨_,z⟩|⟨o,ys,z⟩ <;> · rw[h] at z;cases z
  .exact .inl ⟨o,h⟩
 .exact .inr fun H'=>.inr h
theorem walk{l:PySem.W.OpenLaw}{q:Program}{sf:List Str}{XP:(Str->Option Value)->Heap->Prop}{YP:World->Heap->Prop}{d:DefRec}{K:Params->PySem.W.Frag}{Pt:Addr}(hn:l.most=some 63)(N5:d.params.defaults=[])(hY:∀ (w:World) (h:Heap),YP w h->(K w.params).In h)(hT:∀ (w:World) (h:Heap),YP w h->∀P∈[Pt],h.get? P=some (PySem.W.tabObj #[]))(rd:∀ (w:World),((List.range 2000).any fun c=>PySem.W.codeHdIn (K w.params) c Pt)=true)(OC:∀ (w:World),(K w.params).lookup Pt=none)(F:∀ (w:World) (mg:Str->Option Value) (fa:Addr) (h:Heap),(K w.params).In h->h.Ns mainGlobals mg->mg d.name=some (.ref fa)->
   ∃fd:FuncData,(∀ (s:Shared) (u:Value),BindsTo s fd ⟨[u],[]⟩ [("_law_script",u)])/\∀base:Heap,(K w.params).In base->base.Ns mainGlobals mg->uF mg base->bY l.prog w (K w.params) mg base bE 9 fa fd ["_law_script"] (AY (K w.params) Pt)):
  PySem.W.WalkO q sf XP YP l.row.toRowW d [] (fun f vs=>PySem.call f vs):=
 DI (n:=63) (k:=9) (x:="_law_script") (ts:=[Pt]) (K:=K) (CX:=fun _=>bE) (sp:=fun w=>(AY (K w.params) Pt)) hn (by decide) N5 ⟨rfl,by decide,by decide,rfl⟩ hY hT
  (fun w P hP=>by rw[cE.mp hP];exact Rc (rd w)) (fun w P hP=>by rw[cE.mp hP];exact OC w) F
  (fun w H a ns hl hO hS=>⟨a,ns,rfl,MS hO hS,hl,.inl (hO.1 _ (by simp)),fun _=>rfl⟩) fun _ _ _ _ _ z=>z
end vG
open PySem PySem.W PyProof.Rows
namespace PySem.W.Fast
def tw17832709160556386025:=trivial
def tw2703654640125540904:=trivial
def tw2106680329050197167:=trivial
def tw13287598646988026401:=trivial
def tw13072068214828402124:=trivial
def tw12285971661435577674:=trivial
def tw14119794402388356213:=trivial
def tw467100666671227832:=trivial
def tw291928674732160524:=trivial
def tw16476231713975554685:=trivial
def tw54109332283469716:=trivial
def tw9769012768050119699:=trivial
def tw6676018656782925764:=trivial
def tw13621233507655683112:=trivial
def tw18155215771007536347:=trivial
def tw18409197541842507152:=trivial
def tw13637301060119407610:=trivial
def tw14245538394589853966:=trivial
def tw2401062767182625989:=trivial
def tw10894477570161156516:=trivial
def tw7312730108802715317:=trivial
def tw417972769770644064:=trivial
def tw10997572047594864567:=trivial
def tw6461952436347685322:=trivial
def tw12572534937819797148:=trivial
def tw3268867237544861937:=trivial
def tw5344462080349808739:=trivial
def tw3992481170029667263:=trivial
def tw11024943127778354700:=trivial
def tw10630241039476913481:=trivial
def tw2785143703663147664:=trivial
def tw3705524008936459220:=trivial
def tw15668424569709619249:=trivial
def tw3444262856391475731:=trivial
def tw3946942633579990104:=trivial
def tw535243621112176323:=trivial
def tw8319226313493713583:=trivial
def tw9193382705556310490:=trivial
def tw2892760384939451869:=trivial
def tw6636226297791215642:=trivial
def tw11558842219230421705:=trivial
def tw14650851952605208559:=trivial
def tw902415690716404849:=trivial
def tw11980278446944189579:=trivial
def tw17986297843078084210:=trivial
def tw9268801192481191246:=trivial
def tw9971602414444738413:=trivial
def tw15131692664598396552:=trivial
def tw5599969263633100696:=trivial
def tw14823863330973961366:=trivial
def tw14908902052811204779:=trivial
def tw657227982237696699:=trivial
def tw17763385538338714332:=trivial
def tw4975684721202243259:=trivial
def tw9831759175048439267:=trivial
def tw11396867491473959696:=trivial
def tw384928045349705598:=trivial
def tw12913887739226662446:=trivial
def tw12773889059262042205:=trivial
def tw11662600955908929681:=trivial
def tw10658736005573664849:=trivial
def tw17214380401318888082:=trivial
def tw3947837179373165488:=trivial
def tw4909089562107618786:=trivial
def tw17770215266322658192:=trivial
def tw4263882417556932736:=trivial
def tw11365897964159813948:=trivial
def tw12576648061070142137:=trivial
def tw15962070375012130247:=trivial
def tw6878730203123875346:=trivial
def tw8112841836314724477:=trivial
def tw779699656502081368:=trivial
def tw9952910596150455432:=trivial
def tw3650561510455759348:=trivial
def tw1931882278663934474:=trivial
def tw788376561210995442:=trivial
def tw16029111961246323997:=trivial
def tw14503607904741447267:=trivial
def tw17627500773813077836:=trivial
def tw6423465014187388049:=trivial
def tw10148846996291251628:=trivial
def tw10817300103096110365:=trivial
def tw11913358454873290198:=trivial
def tw8056018822549443373:=trivial
def tw4610730059133645938:=trivial
def tw14240052780628283455:=trivial
def tw14704910039563927776:=trivial
def tw17077514073009104683:=trivial
def tw6551106686739667232:=trivial
def tw2453068062408855463:=trivial
def tw7520451728487420017:=trivial
def tw2351453245873601625:=trivial
def tw14706585860664484750:=trivial
def tw1448860189377575944:=trivial
def tw3143290437850790161:=trivial
def tw16647980608821542533:=trivial
def tw8254940180164760848:=trivial
def tw9348349728518759790:=trivial
def tw14208008958998056911:=trivial
def tw6830327375041500567:=trivial
def tw9498977910919560825:=trivial
def tw13572078300209153723:=trivial
def tw4786378122514462003:=trivial
def tw17133667811393000081:=trivial
def tw15712245001084951335:=trivial
def tw9563177485710071209:=trivial
def tw7928873228167580486:=trivial
def tw8990464006984745753:=trivial
def tw17432526500294303121:=trivial
def tw5739315110149952652:=trivial
def tw15929541623969308276:=trivial
def tw7927022166520058755:=trivial
def tw11790207105124145496:=trivial
def tw11103525789069293672:=trivial
def tw9891464954327479537:=trivial
def tw14913517378510993534:=trivial
def tw4502041348077318387:=trivial
def tw4112232819357352453:=trivial
def tw2759149859149998744:=trivial
def tw7291213052359238456:=trivial
def tw13958150108264704369:=trivial
def tw2908343229390093879:=trivial
def tw15460892266640553506:=trivial
def tw5451735923100645771:=trivial
def tw11484066243113149032:=trivial
def tw1356435498526541344:=trivial
def tw2552003733777987425:=trivial
def tw17964909384616648540:=trivial
def tw18389159991207822390:=trivial
def tw6031911054331962668:=trivial
def tw18172444923501442657:=trivial
def tw4307801551238385088:=trivial
def tw4766375483552331871:=trivial
def tw2116822274321223869:=trivial
def tw14074621797931832308:=trivial
def tw4556382990116888535:=trivial
def tw11457970319121147680:=trivial
def tw15946850221972620592:=trivial
def tw9974230332339034589:=trivial
def tw15038312281298530157:=trivial
def tw5466968204529641143:=trivial
def tw1440896404501520768:=trivial
def tw13097219240448787240:=trivial
def tw12608435344706593873:=trivial
def tw3049440724763518097:=trivial
def tw15035032725242102505:=trivial
def tw15010299498250009415:=trivial
def tw9722553876170846732:=trivial
def tw4430917460503212978:=trivial
def tw5385069931798044052:=trivial
def tw8436181629822350675:=trivial
def tw2038751263762572380:=trivial
def tw3206996704087169303:=trivial
def tw14133330430552498804:=trivial
def tw16641530729932868555:=trivial
def tw13256265483614578908:=trivial
def tw4596107909481047097:=trivial
def tw2668802069522622506:=trivial
def tw14737565984656171210:=trivial
def tw1346942320316153817:=trivial
def tw14399589842698654546:=trivial
def tw2409767947843655211:=trivial
def tw5527333068048510415:=trivial
def tw3034567689296382504:=trivial
def tw12650647115702330196:=trivial
def tw17067557028437317839:=trivial
def tw16331651783583993748:=trivial
def tw2177171844687835631:=trivial
def tw17340201367786594076:=trivial
def tw460152872379505157:=trivial
def tw2716458476458774984:=trivial
def tw8124406814058637036:=trivial
def tw11690628000635194477:=trivial
def tw6631484259564822890:=trivial
def tw18171068518815354371:=trivial
def tw13117952136386561232:=trivial
def tw11991667825185846629:=trivial
def tw18253262088927599778:=trivial
def tw3551370785040461678:=trivial
def tw1921715405297272072:=trivial
def tw16747521044210393961:=trivial
def tw633448426401133489:=trivial
def tw2084706088294871242:=trivial
def tw5185357708635257161:=trivial
def tw9470336562224500966:=trivial
def tw6762977759402382317:=trivial
def tw7885750406983848702:=trivial
def tw7877982641002408376:=trivial
def tw16798834580332168815:=trivial
def tw11820772988604537166:=trivial
def tw2915906273938903362:=trivial
def tw6953077444988682108:=trivial
def tw13128528806263608554:=trivial
def tw14671084521663047490:=trivial
def tw214817160552816117:=trivial
def tw15019513162866485022:=trivial
def tw14474270011310729384:=trivial
def tw8435424780378105511:=trivial
def tw6788673287513806406:=trivial
def tw10588334856776387856:=trivial
def tw2475821734211296539:=trivial
def tw9154378957760638736:=trivial
def tw9070472058443182343:=trivial
def tw17741373607227306519:=trivial
def tw13371294583520385938:=trivial
def tw9802180574572074017:=trivial
def tw11721739778931011097:=trivial
def tw3129393011748291844:=trivial
def tw4759050741277993765:=trivial
def tw3430668056155606322:=trivial
def tw401717995182380497:=trivial
def tw840345035286332503:=trivial
def tw9074774391124827851:=trivial
def tw13226445998819754672:=trivial
def tw5258068527931386737:=trivial
def tw7232842005054500431:=trivial
def tw17953455687566341362:=trivial
def tw8951553250057085540:=trivial
def tw17743745575159068176:=trivial
def tw17226717688931644727:=trivial
def tw7169237865660546459:=trivial
def tw796275622426199011:=trivial
def tw13508222523505424777:=trivial
def tw14642295507537425093:=trivial
def tw3953737036521945447:=trivial
def tw16274849609299692255:=trivial
def tw1222618491211983545:=trivial
def tw15988399252367170765:=trivial
def tw9571241754954517690:=trivial
def tw6720560790202153302:=trivial
def tw1405714980616339890:=trivial
def tw9758684925922120919:=trivial
def tw3724419503925638609:=trivial
def tw9318015797143974371:=trivial
def tw1867342302959079088:=trivial
def tw16770082210078437409:=trivial
def tw545763763929581522:=trivial
def tw6247403434318600005:=trivial
def tw8941767767229041575:=trivial
def tw12510772844198341379:=trivial
def tw16611629449275787519:=trivial
def tw14254616546739826527:=trivial
def tw9492094507675991443:=trivial
def tw7964619977067457778:=trivial
def tw11866014493158897834:=trivial
def tw8876876071929683491:=trivial
def tw7610443058678460988:=trivial
def tw12459956621328681328:=trivial
def tw13549222071684698872:=trivial
def tw2720722283400127909:=trivial
def tw2222027977740895764:=trivial
def tw6663059171615277784:=trivial
def tw4721199146574950993:=trivial
def tw18126394054806732291:=trivial
def tw8401412725323096563:=trivial
def tw11593687814339085254:=trivial
def tw16542979052450187170:=trivial
def tw1728205534853445514:=trivial
def tw6474384277970978612:=trivial
def tw1609063302699030518:=trivial
def tw6800671955941477916:=trivial
def tw17331231421025971738:=trivial
def tw15342443261075966909:=trivial
def tw13924047890571316464:=trivial
def tw15232616064086792062:=trivial
def tw10749449026020015303:=trivial
def tw16614382622376168747:=trivial
def tw15343607831070435833:=trivial
def tw1047151387012747688:=trivial
def tw2981120182162238941:=trivial
def tw8349332303908791634:=trivial
def tw12193551589364578707:=trivial
def tw8666316199461521596:=trivial
def tw12298179139953318236:=trivial
def tw2964852966258517990:=trivial
def tw11644969888650850308:=trivial
def tw7384123529129341649:=trivial
def tw12121688081580198566:=trivial
def tw6251645413035930052:=trivial
def tw17513285435233720160:=trivial
def tw2761382700858213821:=trivial
def tw9982962762751440641:=trivial
def tw470434329872451414:=trivial
def tw9640395643930360329:=trivial
def tw15039516678517382338:=trivial
def tw7883705692165186690:=trivial
def tw8609519162333502219:=trivial
def tw17106440576121063670:=trivial
def tw12237441887178518208:=trivial
def tw7745413894042733091:=trivial
def tw7101117817986923457:=trivial
def tw1968401541981289028:=trivial
def tw2934631807626090611:=trivial
def tw672497626268551952:=trivial
def tw7190391098296129011:=trivial
def tw11821269335415223350:=trivial
def tw17957385762999183683:=trivial
def tw3910971339375338987:=trivial
def tw14296906115019006295:=trivial
def tw7999591685092808984:=trivial
def tw10059007190476478552:=trivial
def tw12527279281677858407:=trivial
def tw7170288122351652160:=trivial
def tw10799507770513805846:=trivial
def tw11723175051528532887:=trivial
end PySem.W.Fast
set_option maxRecDepth 100000 in
set_option maxHeartbeats 0 in
theorem PySem.Challenge.cw_neverwait_k25_eager_handings_holds : PySem.Challenge.rw_neverwait_k25_eager_handings.Holds := by
 w_on; o_law; k_head; (case hw=>w_witness2)
 k_fill
 refine vG.walk (l:=PySem.Challenge.rw_neverwait_k25_eager_handings) (Pt:=_) rfl rfl (fun w h Y=>PySem.W.km_in_of Y) (fun w h Y=>PySem.W.km_tabs_of Y) ?cd ?kt ?F;case F =>
  intro w mg fa h KX G N6;refine' vG.Mi (Pt:=_) KX G N6 ?_ ?_ ?_ ?_ ?_ ?_ ?_ ?_ ?_ ?_ ?_ ?_ ?_ ?_ ?_ ?_ ?_ ?_ ?_ ?_ ?_ ?_ ?_ ?_ ?_ ?_ ?_ ?_ ?_ ?_ ?_ ?_ ?_ ?_ ?_ ?_ ?_ ?_ ?_ ?_ ?_ ?_ ?_ ?_ ?_ ?_ ?_ ?_ ?_ ?_ ?_ ?_ ?_ ?_ ?_ ?_ ?_ ?_ ?_ ?_ ?_ ?_ ?_ ?_ ?_ ?_ ?_ ?_ ?_ ?_ ?_ ?_ ?_ ?_;all_goals first
   | (refine' vG.FD.mk ?a ?l ?d ?k; (case a=>k_is); (case l=>k_is); (case d=>k_is); (case k=>k_is))
   | (refine' vG.FC.mk ?a ?l ?d ?k; (case a=>k_is); (case l=>k_is); (case d=>k_is); (case k=>k_is))
   | (refine' vG.MD.mk ?a ?i ?l ?d ?k; (case a=>k_is); (case i=>k_is); (case l=>k_is); (case d=>k_is); (case k=>k_is))
   | k_is
   | kernel_rfl
   | exact ⟨by kernel_rfl,by k_is,by k_is,by k_is,by k_is,by k_is,by k_is,by kernel_rfl⟩
   | skip
 case kt=>intro w; kernel_rfl
 case cd=>intro w; kernel_rfl
