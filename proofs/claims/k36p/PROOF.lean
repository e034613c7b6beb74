import PyProof.Rows.All
import Wide.All
import OpenK.AllK
import Wide.FinOn
import Lean
import PyProof.EqAt
import PyProof.EqKinds
import PyProof.TupleCall
import PySem.Challenge.RW_neverwait_k36_whole_the_first_comes_near
set_option Elab.async false
set_option linter.all false
set_option maxRecDepth 100000
set_option maxHeartbeats 8000000
def aw:=@PySem.wpAny_bind
def aT:=@List.length_map
def bW:=@List.getD_eq_getElem?_getD
def bw:=@PySem.Heap.get?_push_of_some
def bQ:=@List.getElem?_eq_getElem
def bR:=@List.mem_cons_self
def cD:=@List.mem_cons_of_mem
def ba:=@Nat.ne_of_lt
def bU:=@List.getElem?_map
def aF:=@PyProof.Rows.wpS_bind
def ak:=@if_neg
def b9:=@List.getElem?_eq_some_iff
def aP:=@PySem.Heap.lt_size
def bi:=@Nat.lt_of_lt_of_le
def aK:=@Nat.le_refl
def ao:=@if_pos
def aX:=@Nat.le_trans
def bb:=@List.mem_cons
def b_:=@PySem.Heap.get?_push_size
def cu:=@List.mem_singleton
def cU:=@List.mem_of_getElem?
def cw:=@Bool.false_ne_true
def cz:=@List.size_toArray
def aJ:=@PyProof.Rows.wpS_pure
def bN:=@Option.some.inj
def bD:=@List.mem_range
def cG:=@List.length_range
def bj:=@List.mem_map
def dh:=@List.length_append
def dR:=@List.mem_append_right
def bX:=@List.mem_append
def cV:=@Nat.lt_succ_of_lt
def di:=@List.append_assoc
def cW:=@List.map_append
def bE:=@Nat.zero_le
def d8:=@PySem.Heap.get?_push_ne
def dS:=@List.filter_cons
def fJ:=@List.getElem?_eq_none
def ft:=@List.mem_append_left
def gk:=@PySem.F.plainAttrs_list
def eK:=@Nat.lt_of_le_of_lt
def d9:=@PySem.Heap.size_update
def e_:=@PySem.W.mg_none_of
def dU:=@PySem.PassesOwn.never
def du:=@Int.ofNat.inj
def gm:=@List.length_replicate
def fK:=@Array.toList_append
def eF:=@List.length_cons
def fc:=@of_decide_eq_true
def dW:=@PySem.boot_len
def et:=@List.mem_filter
def dk:=@List.map_map
def fQ:=@List.getElem?_range
def fu:=@List.pairwise_map
def jj:=@Array.perm_iff_toList_perm
def jk:=@List.getElem?_append_left
def gn:=@List.filter_append
def ix:=@List.length_filter_le
def jl:=@PySem.F.type_list_append
def jm:=@PySem.F.slot_list_append
def dX:=@getElem?_pos
def gu:=@Int.toNat_natCast
def fT:=@List.lookup_cons
def fU:=@Bool.and_eq_true
def fL:=@List.nodup_cons
def gX:=@List.take_add_one
def ic:=@Bool.false_eq_true
def gv:=@List.getElem_mem
def jn:=@List.perm_append_comm
def gw:=@decide_eq_false
def gy:=@List.length_set
def fv:=@List.map_cons
def eG:=@PyProof.Rows.wpS_forRange
def gY:=@List.foldl_cons
def jo:=@List.map_congr_left
def fw:=@Nat.ne_of_gt
def kC:=@List.Perm.append_left
def ff:=@PySem.sizeLine_eq
def qh:=@PyProof.Rows.boot_isinstance
def gC:=@PySem.wpAny_holding
def ie:=@decide_eq_true
def jp:=@List.nodup_append
def kD:=@PySem.mem_of_lookup
def qi:=@List.getElem?_append_right
def kG:=@PySem.Heap.get?_update_ne
def iy:=@PySem.Heap.size_push
def fV:=@PySem.wpAny_field
def jq:=@PySem.W.kia_one
def jr:=@List.range_succ
def j9:=@List.take_length
def lU:=@Array.length_toList
def rE:=@PyProof.Rows.callWith_type1
def dv:=@Ne.symm
def rF:=@List.nodup_iff_pairwise_ne
def js:=@Array.size_map
def iU:=@PySem.W.mg_of
def kH:=@Nat.lt_succ_self
def kJ:=@List.not_mem_nil
def nq:=@beq_eq_false_iff_ne
def lV:=@List.ext_getElem?
def l7:=@PyProof.Rows.boot_sorted
def hW:=@List.Perm.refl
def hX:=@PySem.wpAny_seqItems
def l8:=@PyProof.Rows.boot_tuple
def i8:=@Nat.mod_eq_of_lt
def i9:=@List.nodup_range
def i_:=@List.all_eq_true
def cY:=@PyProof.Rows.wpS_mono
def l9:=@PySem.wpAny_callSpecial?_slot
def fj:=@beq_iff_eq
def ja:=@List.append_nil
def eL:=@PyProof.Rows.size_push'
def oH:=@List.pairwise_iff_getElem
def oJ:=@List.drop_eq_getElem_cons
def dY:=@if_false
def l_:=@List.take_append_drop
def md:=@List.length_singleton
def me:=@PySem.Heap.get?_update_other
def mf:=@Array.getElem?_toList
def kK:=@PySem.F.called_set
def jI:=@Array.toList_map
def iz:=@Nat.lt_irrefl
def hZ:=@Int.zero_add
def mh:=@List.mem_iff_getElem
def mi:=@PySem.Heap.get?_update_self
def fm:=@PyProof.Rows.wpS_modify
def fE:=@PySem.wpAny_rule
def jJ:=@PySem.wpAny_call_entry
def mj:=@List.replicate_succ
def oM:=@PyProof.Rows.boot_list
def oO:=@List.take_of_length_le
def oP:=@List.range_succ_eq_map
def oQ:=@List.getElem?_set_self
def kL:=@Option.getD_some
def jK:=@List.nodup_nil
def rG:=@Classical.byContradiction
def jL:=@PyProof.Rows.get?_update_seq
def kM:=@Nat.div_add_mod
def kO:=@List.find?_cons
def kP:=@List.Perm.of_eq
def kQ:=@Bool.eq_iff_iff
def mm:=@PySem.wpAny_Call_Name_kw
def jb:=@Nat.zero_add
def oU:=@List.mem_of_mem_take
def oW:=@List.getElem?_set_ne
def mq:=@List.flatMap_cons
def mr:=@Array.toList_push
def jM:=@List.any_cons
def jc:=@PyProof.Rows.listUpdate_at
def kR:=@PySem.codeAny_builtin
def oX:=@Int.toNat_of_nonneg
def mv:=@List.length_take
def mw:=@List.length_drop
def rH:=@List.getElem?_replicate
def oY:=@PySem.Heap.get?_none_of_le
def oZ:=@PySem.Around.under_plainId
def jN:=@PySem.wpAny_attempt
def jO:=@Nat.le_of_lt
def o0:=@List.mem_filterMap
def rJ:=@List.length_pos_of_mem
def rK:=@List.filter_eq_nil_iff
def o4:=@PySem.Heap.SameBut.update
def mx:=@List.of_mem_zip
def kU:=@List.all_cons
def rL:=@Nat.le_of_ble_eq_true
def vI:=@Array.getD_eq_getD_getElem?
def o5:=@PySem.wpAny_setField_rec
def my:=@PySem.wpAny_passesOwn
def jP:=@List.map_id
def o_:=@List.countP_cons
def pb:=@Array.toList_zip
def pc:=@PySem.wpAny_truthy_bool
def vJ:=@List.getElem?_zip_eq_some
def zW:=@PyProof.Rows.F.plain_set_update_loop
def rM:=@Nat.mul_le_mul_left
def rN:=@List.getElem_of_mem
def eM:=@PyProof.Rows.wpS_get
def jd:=@PySem.wpAny_mono
def vK:=@Option.isSome_iff_exists
def mz:=@List.cons.inj
def pe:=@ne_of_beq_false
def pf:=@List.length_zip
def ph:=@List.forIn_cons
def pi:=@List.filter_map
def rO:=@of_decide_eq_false
def rP:=@Int.emod_lt_of_pos
def rQ:=@Array.forIn_toList
def iA:=@or_false
def rR:=@decide_eq_true_eq
def rS:=@bne_self_eq_false
def iB:=@Prod.ext
def pq:=@List.forIn_nil
def rT:=@List.flatten_cons
def rV:=@List.any_eq_false
def vL:=@List.Perm.append_right
def vM:=@Array.toList_filterMap
def rW:=@PySem.wpAny_pyIter_tuple
def vN:=@PyProof.Rows.boot_min
def vO:=@PyProof.Rows.boot_max
def vP:=@Nat.eq_of_beq_eq_true
def vQ:=@List.mem_iff_getElem?
def kW:=@Nat.mod_lt
def rX:=@List.getElem_map
def rY:=@PySem.wpAny_pyIter_list
def vR:=@List.replicate_succ'
def vS:=@List.mem_of_mem_drop
def mB:=@Int.le_refl
def rZ:=@Option.map_some
def r6:=@Int.emod_nonneg
def r9:=@Bool.or_eq_true
def vT:=@PySem.builtinLookup_eq_fast
def vU:=@List.length_take_le
def r_:=@PySem.wpAny_eqBool_int
def kX:=@PyProof.Rows.seqEpoch_at
def pA:=@Nat.lt_trans
def pB:=@Nat.le_of_eq
def pC:=@PySem.wpAny_standAt
def pD:=@PySem.wpAny_newList
def vV:=@decide_eq_true_iff
def vW:=@PySem.codeAny_call_builtin
def vX:=@List.pairwise_cons
def zX:=@Int.fmod_eq_emod_of_nonneg
def zY:=@Int.fdiv_eq_ediv_of_nonneg
def zZ:=@PySem.F.plain_extend_loop
def z6:=@Array.getElem?_eq_getElem
def vY:=@List.getElem?_set
def pE:=@PySem.codeAny_mono
def z7:=@List.length_erase_of_mem
def z8:=@List.getElem?_take_of_lt
def sf:=@Bool.not_true
def sg:=@PySem.wpAny_newTuple
def z9:=@decide_eq_false_iff_not
def vZ:=@decide_eq_decide
def mD:=@PySem.call_meets
def z_:=@PyProof.Rows.boot_range
def v1:=@Nat.le_add_right
def je:=@PyProof.Rows.wpS_lift
def jQ:=@if_true
def si:=@Nat.sub_self
def sj:=@Nat.min_self
def Aa:=@Nat.div_div_eq_div_mul
def v3:=@PySem.wpAny_setState_of
def v4:=@PySem.wpAny_pyIter_enum
def v5:=@PySem.wpAny_newObj_type
def v6:=@Nat.not_lt_zero
def v7:=@Array.Perm.refl
def sn:=@PySem.plainId_quiet
def sq:=@Nat.mul_pos
def sr:=@Nat.le_succ
def Ab:=@List.mem_erase_of_ne
def Ac:=@List.Pairwise.filter
def Ad:=@Array.toList_reverse
def Ae:=@Array.toList_extract
def Af:=@PySem.wpAny_pyNext_list_item
def pF:=@PySem.wpAny_call
def pG:=@PySem.wpAny_Name
def Ag:=@PySem.W.plainGet_of
def FH:=@PyProof.Rows.F.entry_set_update_loop
def Ah:=@List.filter_sublist
def Ai:=@List.filterMap_cons
def v8:=@PySem.wpAny_updateSeq
def v9:=@PySem.wpAny_execs_nil
def v_:=@PySem.typeLookup_type
def Aj:=@PySem.wpAny_pyNext_list_end
def Ak:=@PySem.W.callWith_K
def Al:=@Option.toList_some
def Am:=@List.getElem_range
def An:=@List.find?_eq_none
def Ao:=@PySem.wpAny_loadName_local
def wa:=@Nat.sub_zero
def wb:=@Nat.beq_refl
def Ap:=@List.reverse_perm
def Aq:=@List.foldl_append
def Ar:=@Bool.not_eq_true'
def As:=@Bool.eq_false_iff
def At:=@PySem.wpAny_loadName_free
def Au:=@PySem.W.makes_of
def Av:=@Nat.succ_le_succ
def Aw:=@List.zipIdx_cons
def Ax:=@List.mem_flatMap
def Ay:=@List.ext_getElem
def Az:=@List.any_eq_true
def wc:=@Nat.mul_one
def FI:=@Int.mul_le_mul_of_nonneg_left
def AA:=@StateT.run_pure
def AB:=@Nat.min_eq_left
def AC:=@List.nil_append
def AD:=@List.find?_some
def AE:=@List.count_cons
def FJ:=@PySem.F.typeOf_object_class
def AF:=@PySem.wpAny_loadPart_at
def FK:=@Nat.mul_lt_mul_of_pos_left
def AG:=@Nat.mul_le_mul
def AH:=@List.foldl_nil
def FL:=@Array.toList_setIfInBounds
def FM:=@Array.getElem?_eq_some_iff
def FN:=@PySem.F.entry_extend_loop
def FO:=@List.mem_of_find?_eq_some
def AI:=@PySem.wpAny_pyIter_zip
def AJ:=@PySem.wpAny_isInstance
def FP:=@PyProof.noPylong_of_log2
def FQ:=@List.filterMap_cons_some
namespace L2
open PySem PySem.Spec PyProof.Rows
abbrev io:=Sum Int Str
def uO:io->Value->Bool
 |.inl k,v=>Value.isInt k v
 |.inr x,v=>Value.isStrOf x v
def WE(w:World):io->Int
 |.inl k=>hashInt k
 |.inr x=>hashStr w x
theorem dE:∀ {k:io} {v:Value},uO k v=true->(∃i t,k=Sum.inl i/\v=Value.int i t)\/(∃x t,k=Sum.inr x/\v=Value.str x t)
 |.inl i,v,h=>by
  obtain⟨t,e⟩:=Value.isInt_shape (k:=i) (v:=v) h;exact .inl ⟨i,t,rfl,e⟩
 |.inr x,v,h=>by
  obtain⟨t,e⟩:=Value.isStrOf_shape (x:=x) (v:=v) h;exact .inr ⟨x,t,rfl,e⟩
theorem DT(i:Int)(t:Tok):uO (.inl i) (.int i t)=true:=by simp[uO,Value.isInt]
theorem DU(x:Str)(t:Tok):uO (.inr x) (.str x t)=true:=by simp[uO,Value.isStrOf]
theorem Nf(a b:Int):decide ((Sum.inl a:io)=Sum.inl b)=(a==b):=by
 by_cases e:a=b
 .subst e;simp
 .have h:¬ (Sum.inl a:io)=Sum.inl b:=fun q=>e (Sum.inl.inj q);rw[gw h];exact(nq.mpr e).symm
theorem Ng(a b:Str):decide ((Sum.inr a:io)=Sum.inr b)=decide (a=b):=by
 by_cases e:a=b
 .subst e;simp
 .have h:¬ (Sum.inr a:io)=Sum.inr b:=fun q=>e (Sum.inr.inj q);rw[gw h,gw e]
theorem Nh(a:Int)(b:Str):decide ((Sum.inl a:io)=Sum.inr b)=false:=gw (fun q=>nomatch q)
theorem Ni(a:Str)(b:Int):decide ((Sum.inr a:io)=Sum.inl b)=false:=gw (fun q=>nomatch q)
def cp(prog:Program)(w:World):PySem.KeyKind prog w io where
 is:=uO
 hash:=WE w
 inj:=fun v a b ha hb=>by
  rcases dE ha with ⟨i,t,rfl,rfl⟩|⟨x,t,rfl,rfl⟩
  .rcases dE hb with ⟨j,u,rfl,e⟩|⟨y,u,rfl,e⟩
   .injection e with e1 _;rw[e1]
   .exact nomatch e
  .rcases dE hb with ⟨j,u,rfl,e⟩|⟨y,u,rfl,e⟩
   .exact nomatch e
   .injection e with e1 _;rw[e1]
 byValue:=fun k v h=>by
  rcases dE h with ⟨i,t,rfl,rfl⟩|⟨x,t,rfl,rfl⟩ <;> rfl
 pyHash:=fun hv h=>by
  rcases dE hv with ⟨i,t,rfl,rfl⟩|⟨x,t,rfl,rfl⟩
  .exact wpAny_pyHash_int h
  .exact wpAny_pyHash_str h
 eqBool:=fun hu hv h=>by
  rcases dE hu with ⟨i,t,rfl,rfl⟩|⟨x,t,rfl,rfl⟩
  .rcases dE hv with ⟨j,u,rfl,rfl⟩|⟨y,u,rfl,rfl⟩
   .rw[Nf] at h;exact r_ h
   .rw[Nh] at h;exact SeqAt.EqAt.int_str i t y u _ _ _ _ h
  .rcases dE hv with ⟨j,u,rfl,rfl⟩|⟨y,u,rfl,rfl⟩
   .rw[Ni] at h;exact SeqAt.EqAt.str_int x t j u _ _ _ _ h
   .rw[Ng] at h;exact wpAny_eqBool_str h
 «strs»:=fun k x t v h=>by
  rcases dE h with ⟨i,u,rfl,e⟩|⟨y,u,rfl,e⟩
  .exact nomatch e
  .injection e with e1 _
   subst e1
   cases v <;> rfl
theorem xO(prog:Program)(w:World)(i:Int)(t:Tok):(cp prog w).is (.inl i) (.int i t)=true:=DT i t
theorem xP(prog:Program)(w:World)(x:Str)(t:Tok):(cp prog w).is (.inr x) (.str x t)=true:=DU x t
inductive V where
 |cB|bl (b:Bool)|int (i:Int)|str (x:Str)|Fj (b:Array UInt8)|Nj (b:UInt64)|ref (a:Addr)|ty (n:String)
 deriving DecidableEq
def bH:V->Value->Prop
 |.cB,u=>u=Value.none
 |.bl b,u=>u=Value.bool b
 |.int i,u=>∃t,u=Value.int i t
 |.str x,u=>∃t,u=Value.str x t
 |.Fj b,u=>∃t,u=Value.bytes b t
 |.Nj b,u=>∃t,u=Value.float b t
 |.ref a,u=>u=Value.ref a
 |.ty n,u=>u=Value.type n
abbrev aZ:List V->List Value->Prop:=Paired bH
theorem aZ.length(r:aZ xs us):xs.length=us.length:=Paired.length r
theorem aZ.get:∀ {xs:List V} {us:List Value} {i:Nat} {x:V},aZ xs us->xs[i]?=some x->∃u,us[i]?=some u/\bH x u
 |_,_,_,_,.nil,e=>by simp at e
 |_,_,0,_,.cons r _,e=>by simp at e;subst e;exact⟨_,rfl,r⟩
 |_,_,i+1,x,.cons _ t,e=>by
  obtain⟨u,h1,h2⟩:=aZ.get (i:=i) (x:=x) t (by simpa using e);exact⟨u,by simpa using h1,h2⟩
theorem aZ.set(r:bH x u):∀ {xs:List V} {us:List Value} (i:Nat),aZ xs us->aZ (xs.set i x) (us.set i u)
 |_,_,_,.nil=>.nil
 |_,_,0,.cons _ t=>.cons r t
 |_,_,i+1,.cons q t=>.cons q (aZ.set r i t)
theorem aZ.append:∀ {xs ys:List V} {us ws:List Value},aZ xs us->aZ ys ws->aZ (xs++ys) (us++ws)
 |_,_,_,_,.nil,s=>s
 |_,_,_,_,.cons r t,s=>.cons r (aZ.append t s)
theorem aZ.take:∀ {xs:List V} {us:List Value} (n:Nat),aZ xs us->aZ (xs.take n) (us.take n)
 |_,_,0,_=>.nil
 |_,_,_+1,.nil=>.nil
 |_,_,n+1,.cons r t=>.cons r (aZ.take n t)
theorem aZ.drop:∀ {xs:List V} {us:List Value} (n:Nat),aZ xs us->aZ (xs.drop n) (us.drop n)
 |_,_,0,r=>r
 |_,_,_+1,.nil=>.nil
 |_,_,n+1,.cons _ t=>aZ.drop n t
def nr:Option V->Option Value->Prop
 |some v,some u=>bH v u
 |none,none=>True
 |_,_=>False
def KV{κ:Type}:List (κ×V)->List (κ×Value)->Prop:=Paired fun (p:κ×V) (q:κ×Value)=>p.1=q.1/\bH p.2 q.2
def kV:io->V
 |.inl i=>.int i
 |.inr x=>.str x
inductive HO where
 |lst (xs:List V)
 |tup (xs:List V)
 |dK (dq:List (io×V))|dT (dq:List (List io×V))
 |set (S:Int->Bool) (n:Nat)
 |ins (C dx:Addr) (fs:List (Str×V))
 |own (x:Addr)
 |xd (fs:List (Str×V))
 |met (f x:Addr)
 |Co (lo hi:Int)
 |xI (o:Obj) (u:HO)
 |iR (ps:Array Value)
 |ext (φ:Heap->Prop)
abbrev Hp:=Addr->Option HO
def upd(H:Hp)(a:Addr)(o:HO):Hp:=fun b=>if b=a then some o else H b
theorem ae:upd H a o a=some o:=by unfold upd;rw[ao rfl]
theorem ap(h:b≠a):upd H a o b=H b:=by unfold upd;rw[ak h]
theorem lI:upd (upd H a o) a u=upd H a u:=by
 funext b;unfold upd;split <;> rfl
theorem gD{H:Hp}{a b:Addr}{o u:HO}(h:H a=some o)(h':H b=some u)(d:o≠u):a≠b:=by
 intro e;subst e;rw[h] at h';exact d (bN h')
theorem am{H:Hp}{a b:Addr}{o:HO}(h:H a=some o)(h':H b=none):a≠b:=by
 intro e;subst e;rw[h] at h';cases h'
section
variable (P:Program) (w:World)
def pH(h:Heap)(a:Addr)(items:Array Value):Prop:=∃o,h.get? a=some o/\o.cls=.type "tuple"/\∃n,o.data=.seq items n/\o.dict=none
theorem pH.tup(p:pH h a items):IsTup h a items:=let ⟨o,e,c,n,d,_⟩:=p;⟨o,e,c,n,d⟩
theorem pH.new(h:Heap)(items:Array Value):pH (h.push { cls:=.type "tuple",data:=.seq items }) h.objs.size items:=⟨_,b_ _ rfl,rfl,_,rfl,rfl⟩
def cI(H:Hp)(h:Heap)(a:Addr):HO->Prop
 |.lst xs=>xs.length<=sizeLine/\∃ (its:List Value) (n:Nat),aZ xs its/\h.get? a=some { cls:=.type "list",data:=.seq its.toArray n }
 |.tup xs=>xs.length<=sizeLine/\∃its:List Value,aZ xs its/\pH h a its.toArray
 |.dK dq=>dq.length<=sizeLine/\(a==sysModules)=false/\∃vs,KV dq vs/\h.DictOf (cp P w) a vs
 |.dT dq=>dq.length<=sizeLine/\(a==sysModules)=false/\∃xs:List (List io×Addr×Value),
   Paired (fun (p:List io×V) (q:List io×Addr×Value)=>p.1=q.1/\H q.2.1=some (.tup (p.1.map kV))/\bH p.2 q.2.2) dq xs/\
   ∃o es ep,h.get? a=some o/\o.ExactDict/\o.data=.dict es ep/\es.toList=xs.map (entryOfKey (tupleKind (cp P w)))/\(xs.map (·.1)).Nodup
 |.set S n=>h.SetOf (intKind P w) a S n
 |.ins C dx fs=>H dx=some (.own a)/\fs.length<=1000/\dx≠a/\h.get? a=some (PySem.W.instObj C dx)/\
   ∃mA,h.Ns1 dx mA/\(∀f,nr (fs.lookup f) (mA f))/\PySem.Within mA (fs.map (·.1))
 |.own _=>∃o,h.get? a=some o
 |.xd fs=>∃mA,h.Ns1 a mA/\∀f,nr (fs.lookup f) (mA f)
 |.Co lo hi=>∃t u v,h.get? a=some { cls:=.type "range",data:=.fields #[.int lo t,.int hi u,.int 1 v] }
 |.xI o u=>h.get? a=some o/\cI H h a u
 |.iR ps=>h.get? a=some { cls:=.none,data:=.fields ps }
 |.met f x=>h.get? a=some (PySem.W.methodObj (.ref f) (.ref x))
 |.ext φ=>φ h/\(∃o,h.get? a=some o)/\∀h1 h2:Heap,φ h1->(∀o,h1.get? a=some o->h2.get? a=some o)->φ h2
def mE(H:Hp)(h:Heap):Prop:=∀a o,H a=some o->cI P w H h a o
end
section
variable {P:Program} {w:World} {H H':Hp} {h h':Heap} {a:Addr} {o:HO}
theorem cI.lt(x:cI P w H h a o):a<h.objs.size:=by
 cases o with
 |lst xs=>obtain⟨_,_,_,_,e⟩:=x;exact aP e
 |tup xs=>obtain⟨_,_,_,p⟩:=x;exact p.tup.lt
 |dK dq=>obtain⟨_,_,_,_,o,_,_,e,_⟩:=x;exact aP e
 |dT dq=>obtain⟨_,_,_,_,o,_,_,e,_⟩:=x;exact aP e
 |set S n=>obtain⟨o,_,_,_,e,_⟩:=x;exact aP e
 |ins C dx fs=>obtain⟨_,_,_,e,_⟩:=x;exact aP e
 |own y=>obtain⟨_,e⟩:=x;exact aP e
 |xd fs=>obtain⟨_,⟨_,_,_,e,_⟩,_⟩:=x;exact aP e
 |Co lo hi=>obtain⟨_,_,_,e⟩:=x;exact aP e
 |xI ob u=>obtain⟨e,_⟩:=x;exact aP e
 |iR ps=>exact aP (show h.get? a=some _ from x)
 |met f y=>exact aP (show h.get? a=some _ from x)
 |ext φ=>obtain⟨_,⟨_,e⟩,_⟩:=x;exact aP e
theorem Paired.Nk:∀ {l₁:List α} {l₂:List β},Paired F l₁ l₂->(∀a b,F a b->G a b)->Paired G l₁ l₂
 |_,_,.nil,_=>.nil
 |_,_,.cons r t,f=>.cons (f _ _ r) (Paired.Nk t f)
theorem cI.jf(x:cI P w H h a o)(k:∀b u,(b=a\/H b=some (.own a))->h.get? b=some u->h'.get? b=some u)(ho:∀b,H b=some (.own a)->H' b=some (.own a))(ht:∀b xs,H b=some (.tup xs)->H' b=some (.tup xs)):cI P w H' h' a o:=by
 induction o with
 |lst xs=>obtain⟨z,its,n,r,e⟩:=x;exact⟨z,its,n,r,k _ _ (.inl rfl) e⟩
 |tup xs=>obtain⟨z,its,r,ob,e,c⟩:=x;exact⟨z,its,r,ob,k _ _ (.inl rfl) e,c⟩
 |dK dq=>obtain⟨z,y,vs,r,ob,es,ep,e,c⟩:=x;exact⟨z,y,vs,r,ob,es,ep,k _ _ (.inl rfl) e,c⟩
 |dT dq=>
  obtain⟨z,y,xs,r,ob,es,ep,e,c⟩:=x;exact⟨z,y,xs,Paired.Nk r fun p q z=>⟨z.1,ht _ _ z.2.1,z.2.2⟩,ob,es,ep,k _ _ (.inl rfl) e,c⟩
 |set S n=>obtain⟨ob,es,ep,t,e,c⟩:=x;exact⟨ob,es,ep,t,k _ _ (.inl rfl) e,c⟩
 |ins C dx fs=>
  obtain⟨d,z,ne,e,mA,⟨od,es,ep,e2,c⟩,r⟩:=x;exact⟨ho _ d,z,ne,k _ _ (.inl rfl) e,mA,⟨od,es,ep,k _ _ (.inr d) e2,c⟩,r⟩
 |own y=>obtain⟨ob,e⟩:=x;exact⟨ob,k _ _ (.inl rfl) e⟩
 |xd fs=>obtain⟨mA,⟨od,es,ep,e,c⟩,r⟩:=x;exact⟨mA,⟨od,es,ep,k _ _ (.inl rfl) e,c⟩,r⟩
 |Co lo hi=>obtain⟨t,u,v,e⟩:=x;exact⟨t,u,v,k _ _ (.inl rfl) e⟩
 |xI ob u ih=>obtain⟨e,q⟩:=x;exact⟨k _ _ (.inl rfl) e,ih q⟩
 |iR ps=>
  have e:h.get? a=some { cls:=.none,data:=.fields ps }:=x;show h'.get? a=some { cls:=.none,data:=.fields ps };exact k a _ (.inl rfl) e
 |met f y=>
  have e:h.get? a=some (PySem.W.methodObj (.ref f) (.ref y)):=x;show h'.get? a=some (PySem.W.methodObj (.ref f) (.ref y));exact k a _ (.inl rfl) e
 |ext φ=>obtain⟨p,⟨o,e⟩,st⟩:=x;exact⟨st _ _ p fun o q=>k _ _ (.inl rfl) q,⟨o,k _ _ (.inl rfl) e⟩,st⟩
theorem mE.lt(x:mE P w H h)(e:H a=some o):a<h.objs.size:=(x a o e).lt
theorem mE.fresh(x:mE P w H h)(e:h.objs.size<=a):H a=none:=by
 cases q:H a with
 |none=>rfl
 |some u=>exact absurd (bi (x.lt q) e) (iz _)
theorem mE.kept(x:mE P w H h)(k:∀b u,h.get? b=some u->h'.get? b=some u):mE P w H h':=fun a o e=>
 (x a o e).jf (fun b u _ q=>k b u q) (fun _ q=>q) fun _ _ q=>q
theorem mE.laid(x:mE P w H h)(k:∀b u,h.get? b=some u->h'.get? b=some u)(hp:h.objs.size<=a)(new:cI P w (upd H a o) h' a o):mE P w (upd H a o) h':=fun b u e=>by
 have hn:=x.fresh hp;by_cases hb:b=a
 .subst hb;rw[ae] at e;cases e;exact new
 .rw[ap hb] at e;exact(x b u e).jf (fun c v _ q=>k c v q) (fun c q=>by rw[ap (am q hn)];exact q) fun c xs q=>by rw[ap (am q hn)];exact q
end
def Rd(H:Hp)(a:Addr)(u:HO):Prop:=H a=some u\/∃o,H a=some (.xI o u)
theorem Rd.ok(r:Rd H a u)(x:mE P w H h):cI P w H h a u:=by
 rcases r with r|⟨o,r⟩
 .exact x a u r
 .obtain⟨_,q⟩:=x a _ r;exact q
def VF:Option HO->Prop
 |some (.lst _)=>True
 |some (.dK _)=>True
 |some (.dT _)=>True
 |some (.set _ _)=>True
 |some (.ins _ _ _)=>True
 |some (.ext _)=>True
 |_=>False
section
variable {P:Program} {w:World} {H:Hp} {h h':Heap} {x e:Addr} {o':HO}
theorem mE.write(ok:mE P w H h)(mu:VF (H x))(he:e=x\/H e=some (.own x))(k:∀b u,b≠e->h.get? b=some u->h'.get? b=some u)(QL:∃u,h'.get? e=some u)(new:cI P w (upd H x o') h' x o'):mE P w (upd H x o') h':=fun b u q=>by
 have Rt:∀c y,H c=some (.own y)->c≠x:=fun c y r z=>by subst z;rw[r] at mu;exact mu
 have WF:∀c xs,H c=some (.tup xs)->c≠x:=fun c xs r z=>by subst z;rw[r] at mu;exact mu
 by_cases hb:b=x
 .subst hb;rw[ae] at q;cases q;exact new
 .rw[ap hb] at q;by_cases Jl:b=e
  .have q':H b=some (.own x):=by
    rcases he with z|z
    .exact absurd (Jl.trans z) hb
    .rw[Jl];exact z
   rw[q] at q';cases q';obtain⟨v,hv⟩:=QL;exact⟨v,by rw[Jl];exact hv⟩
  .refine(ok b u q).jf (fun c v hc r=>k c v ?_ r) (fun c r=>by rw[ap (Rt c b r)];exact r) fun c xs r=>by rw[ap (WF c xs r)];exact r
   rcases hc with rfl|hc
   .exact Jl
   .rintro rfl;rcases he with z|z
    .exact Rt c b hc z
    .rw[hc] at z;cases z;exact hb rfl
end
structure Un(fs ex:List Addr)(H H':Hp)(h h':Heap):Prop where
 keep:∀b o,h.get? b=some o->H b=none->b∉fs->b∉ex->h'.get? b=some o
 slot:∀b o,h.get? b=some o->H b=none->b∈fs->b∉ex->∃sl,h'.get? b=some { o with slots:=sl }
 free:∀b o,h.get? b=some o->H b=none->b∉ex->H' b=none
 there:∀b o,h.get? b=some o->b∉ex->∃o',h'.get? b=some o'
 nw:∀b xs,H b=some (.tup xs)->H' b=some (.tup xs)
 wd:∀b o u,H b=some (.xI o u)->H' b=some (.xI o u)
 we:∀b ps,H b=some (.iR ps)->∃more,H' b=some (.iR (ps++more))
section
variable {fs fs' ex ex':List Addr} {H H1 H2:Hp} {h h1 h2 h':Heap} {a x e:Addr} {o:HO}
theorem Un.any(u:Un fs ex H H1 h h1)(q:h.get? b=some ob)(n:H b=none)(hx:b∉ex):∃sl,h1.get? b=some { ob with slots:=sl }:=by
 by_cases hb:b∈fs
 .exact u.slot b ob q n hb hx
 .exact⟨ob.slots,u.keep b ob q n hb hx⟩
theorem Un.kept(k:∀b u,h.get? b=some u->h'.get? b=some u):Un fs ex H H h h':=
 ⟨fun b ob q _ _ _=>k b ob q,fun b ob q _ _ _=>⟨ob.slots,k b ob q⟩,fun _ _ _ n _=>n,fun b ob q _=>⟨ob,k b ob q⟩,fun _ _ q=>q,fun _ _ _ q=>q,fun _ ps q=>⟨#[],by rw[q];simp⟩⟩
theorem Un.refl:Un fs ex H H h h:=Un.kept fun _ _ q=>q
theorem Un.laid(k:∀b u,h.get? b=some u->h'.get? b=some u)(hp:h.objs.size<=a)(hn:H a=none):Un fs ex H (upd H a o) h h' where
 keep:=fun b u q _ _ _=>k b u q
 slot:=fun b u q _ _ _=>⟨u.slots,k b u q⟩
 free:=fun b u q n _=>by rw[ap (ba (bi (aP q) hp))];exact n
 there:=fun b u q _=>⟨u,k b u q⟩
 nw:=fun b xs q=>by rw[ap (am q hn)];exact q
 wd:=fun b u xs q=>by rw[ap (am q hn)];exact q
 we:=fun b ps q=>⟨#[],by rw[ap (am q hn),q];simp⟩
theorem Un.write(mu:VF (H x))(he:e=x\/H e=some (.own x))(k:∀b u,b≠e->h.get? b=some u->h'.get? b=some u)(QL:∃u,h'.get? e=some u):Un fs ex H (upd H x o) h h':=by
 have hx:∀b,H b=none->b≠x:=fun b n z=>by subst z;rw[n] at mu;exact mu
 have hb:∀b,H b=none->b≠e:=fun b n z=>by
  subst z;rcases he with r|r
  .exact hx b n r
  .rw[n] at r;cases r
 have hm:∀b u,H b=some u->¬ VF (some u)->b≠x:=fun b u q nm z=>by subst z;rw[q] at mu;exact nm mu
 refine⟨fun b u q n _ _=>k b u (hb b n) q,fun b u q n _ _=>⟨u.slots,k b u (hb b n) q⟩,fun b u q n _=>by rw[ap (hx b n)];exact n,fun b u q _=>?_,
  fun b xs q=>by rw[ap (hm b _ q fun z=>z)];exact q,fun b u xs q=>by rw[ap (hm b _ q fun z=>z)];exact q,fun b ps q=>⟨#[],by rw[ap (hm b _ q fun z=>z),q];simp⟩⟩
 by_cases Jl:b=e
 .subst Jl;exact QL
 .exact⟨u,k b u Jl q⟩
end
def VG(h:Heap)(H:Hp):List Addr:=(List.range h.objs.size).filter fun a=>(H a).isSome
def uk(h:Heap)(H:Hp):Heap:=PySem.W.hideAll h (VG h H)
theorem DV(h:Heap)(H:Hp):(uk h H).objs.size=h.objs.size:=PySem.W.hideAll_size _ _
theorem FR(e:h.get? b=some o)(n:H b=none):(uk h H).get? b=some o:=
 PySem.W.hideAll_get _ e fun hm=>by
  have q:(H b).isSome=true:=(et.mp hm).2;rw[n] at q;simp at q
theorem JC(e:(uk h H).get? b=some o):h.get? b=some o/\H b=none:=by
 have e':h.get? b=some o:=PySem.W.of_hideAll (VG h H) e;refine⟨e',?_⟩;cases q:H b with
 |none=>rfl
 |some x=>
  have hm:b∈VG h H:=et.mpr ⟨bD.mpr (aP e'),by simp[q]⟩;have z:(uk h H).get? b=none:=PySem.W.hideAll_none (VG h H) hm;rw[z] at e;cases e
def jR(g h:Heap)(L:Addr):List (Addr×Obj):=(List.range h.objs.size).filterMap fun a=>if a=L\/(g.get? a).isSome=true then none else (h.get? a).map fun o=>(a,o)
theorem kY(h1:a≠L)(h2:g.get? a=none)(h3:h.get? a=some o):(a,o)∈jR g h L:=
 o0.mpr ⟨a,bD.mpr (aP h3),by simp[h1,h2,h3]⟩
theorem su(hp:p∈jR g h L):p.1≠L/\g.get? p.1=none/\h.get? p.1=some p.2:=by
 obtain⟨b,_,e⟩:=o0.mp hp;split at e
 .cases e
 .rename_i hn;cases q:h.get? b with
  |none=>rw[q] at e;simp at e
  |some u=>
   rw[q] at e;simp only[rZ,Option.some.injEq] at e;subst e;refine⟨fun z=>hn (.inl z),?_,q⟩;show g.get? b=none;cases r:g.get? b with
   |none=>rfl
   |some v=>exact(hn (.inr (by simp[r]))).elim
theorem FS:News g L h (jR g h L):=fun p hp=>let ⟨a,b,c⟩:=su hp;⟨c,a,b⟩
structure Mod(K:PySem.W.Frag)(mg:Str->Option Value)(base:Heap):Prop where
 Ru:K.In base
 glob:base.Ns mainGlobals mg
 blt:∃mb,base.Ns builtinsNs mb/\∀x:Str,x≠"__name__"->mb x=bootBuiltins x
 nolimit:base.NoLimit
structure Cx where
 prog:Program
 w:World
 K:PySem.W.Frag
 mg:Str->Option Value
 base:Heap
 A:Around
 N:List Str
 s₀:Shared
 H₀:Hp
 env:Env
 outer:List Env
 stack:List Env
 ex:List Addr
 fn:Str->Bool
 calm:Bool
 pn:List (Addr×Obj)
 xe:Value->Shared->Prop
def Fk(l:List Env):List Addr:=l.filterMap (·.frame)
abbrev Cx.fs(X:Cx):List Addr:=Fk X.outer
def QM(sc:Scope)(x:Str):Prop:=sc.names.lookup x=some .local\/sc.names.lookup x=some .cell\/sc.names.lookup x=some .free
def Rv(sc:Scope)(x:Str):Prop:=sc.names.lookup x=some .local\/sc.names.lookup x=some .cell
def WG(env:Env)(h:Heap)(m:Str->Option Value)(x:Str)(u:Value):Prop:=
 (env.kindOf x=some .local/\m x=some u)\/((env.kindOf x=some .cell\/env.kindOf x=some .free)/\∃c,env.cells.lookup x=some c/\h.IsCell c (some u))
structure Cx.Ok(X:Cx):Prop where
 mod:Mod X.K X.mg X.base
 kind:X.env.scope.kind=.function
 glob:X.env.globals=mainGlobals
 blt:X.env.builtins=builtinsNs
 above:X.s₀.heap.objs.size<=X.env.locals
 inj:∀x y c,X.env.cells.lookup x=some c->X.env.cells.lookup y=some c->x=y
 has:∀x,(X.env.kindOf x=some .cell\/X.env.kindOf x=some .free)->∃c,X.env.cells.lookup x=some c
 Rx:∀x c,X.fn x=true->X.env.cells.lookup x=some c->X.s₀.heap.objs.size<=c
 hd:X.calm=true->X.A.handled=none
 frames:X.A.frames=some X.stack
 QN:X.stack=X.outer\/(X.stack=X.env::X.outer/\X.env.frame=some X.env.locals)
 WI:∀b∈X.ex,b≠X.env.locals/\∀x c,X.env.cells.lookup x=some c->c≠b
 bs:∀b o,X.base.get? b=some o->X.s₀.heap.get? b=some o/\X.H₀ b=none
 FT:X.base.objs.size<=X.s₀.heap.objs.size
 FU:∀b o,X.base.get? b=some o->b∉X.ex
 JD:∀b∈X.ex,b∉X.fs
 qC:X.s₀.heap.FunFrames X.base X.outer
 Nl:∀b∈X.fs,X.H₀ b=none
structure aS(X:Cx)(af:List (Addr×Obj))(σ:List (Option V))(H:Hp)(s:Shared):Prop where
 ok:X.Ok
 os:s.os=X.s₀.os
 bare:AllBare s.gens
 base:Un X.fs X.ex X.H₀ H X.s₀.heap s.heap
 loc:∃m,s.heap.Ns X.env.locals m/\∀ (i:Nat) (x:Str) (v:V),X.N[i]?=some x->σ[i]?=some (some v)->QM X.env.scope x->∃u,bH v u/\WG X.env s.heap m x u
 cell:∀x c,X.env.cells.lookup x=some c->∃v,s.heap.IsCell c v
 free:H X.env.locals=none
 kZ:∀x c,X.env.cells.lookup x=some c->H c=none
 pin:∀p∈X.pn++af,s.heap.get? p.1=some p.2/\H p.1=none/\p.1≠X.env.locals/\p.1∉X.fs/\∀v,p.2.data≠.cell v
 ce:mE X.prog X.w H s.heap
 len:σ.length=X.N.length
section
variable {X:Cx} {af:List (Addr×Obj)} {σ:List (Option V)} {H H':Hp} {s:Shared} {h':Heap}
theorem Cx.Ok.WJ(ok:X.Ok)(e:X.base.get? b=some o):b∉X.fs:=fun hb=>by
 have:=(ok.qC.mem hb).1;rw[e] at this;cases this
theorem aS.bs(I:aS X af σ H s):∀b o,X.base.get? b=some o->s.heap.get? b=some o/\H b=none:=fun b o e=>
 ⟨I.base.keep b o (I.ok.bs b o e).1 (I.ok.bs b o e).2 (I.ok.WJ e) (I.ok.FU b o e),I.base.free b o (I.ok.bs b o e).1 (I.ok.bs b o e).2 (I.ok.FU b o e)⟩
theorem aS.bk(I:aS X af σ H s):∀b o,X.base.get? b=some o->s.heap.get? b=some o:=fun b o e=>(I.bs b o e).1
theorem aS.mod(I:aS X af σ H s):Mod X.K X.mg X.base:=I.ok.mod
theorem aS.ny(I:aS X af σ H s):X.K.In s.heap:=I.ok.mod.Ru.keeps I.bk
theorem aS.nolimit(I:aS X af σ H s):s.heap.NoLimit:=I.ok.mod.nolimit.keeps I.bk
theorem aS.fr(I:aS X af σ H s):∃m,Fr X.base X.env.locals s.heap m:=
 let ⟨m,hn,_⟩:=I.loc
 ⟨m,hn,I.bk,aX I.ok.FT I.ok.above⟩
theorem aS.lt(I:aS X af σ H s):X.env.locals<s.heap.objs.size:=let ⟨_,hn,_⟩:=I.loc;hn.lt
theorem aS.sz(I:aS X af σ H s):X.s₀.heap.objs.size<=s.heap.objs.size:=aX I.ok.above (jO I.lt)
theorem aS.WK(I:aS X af σ H s)(h:s.heap.objs.size<=a):a∉X.fs:=fun hb=>by
 obtain⟨_,o,ho,_⟩:=I.ok.qC.mem hb;exact absurd (bi (aP ho) (aX I.sz h)) (iz _)
theorem aS.Nm(I:aS X af σ H s):∀x c,X.env.cells.lookup x=some c->c≠X.env.locals:=fun x c e z=>by
 obtain⟨v,o,ho,hd⟩:=I.cell x c e;obtain⟨m,⟨o',es,ep,JE,JF,_⟩,_⟩:=I.loc;rw[z,JE] at ho;cases ho;rw[JF] at hd;cases hd
theorem aS.qC(I:aS X af σ H s):s.heap.FunFrames X.base X.outer:=by
 have all:∀ (l:List Env),(∀b∈Fk l,b∈X.fs)->X.s₀.heap.FunFrames X.base l->s.heap.FunFrames X.base l:=by
  intro l;induction l with
  |nil=>intro _ _;trivial
  |cons env r ih=>
   intro hs hl;obtain⟨hk,⟨L,o,hf,hn,ho,hd⟩,hr⟩:=hl;have hL:L∈X.fs:=hs L (by unfold Fk;rw[Ai,hf];exact bR);obtain⟨sl,e⟩:=I.base.slot L o ho (I.ok.Nl L hL) hL fun z=>I.ok.JD L z hL;exact⟨hk,⟨L,_,hf,hn,e,hd⟩,ih (fun b hb=>hs b (by unfold Fk;rw[Ai,hf];exact cD _ hb)) hr⟩
 exact all X.outer (fun _ hb=>hb) I.ok.qC
theorem aS.stack(I:aS X af σ H s):s.heap.FunFrames X.base X.stack:=by
 rcases I.ok.QN with e|⟨e,hf⟩
 .rw[e];exact I.qC
 .rw[e];obtain⟨m,hn,_⟩:=I.loc;refine .cons (by rw[I.ok.kind];decide) hf hn ?_ I.qC;exact oY (aX I.ok.FT I.ok.above)
theorem aS.wf(I:aS X af σ H s):∀b∈Fk X.stack,b∈X.env.locals::X.fs:=fun b hb=>by
 rcases I.ok.QN with e|⟨e,hf⟩
 .rw[e] at hb;exact cD _ hb
 .rw[e] at hb;unfold Fk at hb;rw[Ai,hf] at hb;exact hb
theorem aS.wg(I:aS X af σ H s):∀b∈Fk X.stack,H b=none:=fun b hb=>by
 rcases bb.mp (I.wf b hb) with e|hb
 .rw[e];exact I.free
 .obtain⟨_,o,ho,_⟩:=I.ok.qC.mem hb;exact I.base.free b o ho (I.ok.Nl b hb) fun z=>I.ok.JD b z hb
theorem aS.step{g':Array GenState}{t':Nat}{d':Drawn}{ch:List Addr}(I:aS X af σ H s)(Jm:∀b∈ch,(b∈X.ex\/X.s₀.heap.objs.size<=b)/\b≠X.env.locals/\(∀x c,X.env.cells.lookup x=some c->c≠b)/\∀p∈X.pn++af,p.1≠b)(keep:∀b o,b≠X.env.locals->b∉X.fs->b∉ch->s.heap.get? b=some o->H b=none->h'.get? b=some o)(slot:∀b o,b≠X.env.locals->b∈X.fs->b∉ch->s.heap.get? b=some o->H b=none->∃sl,h'.get? b=some { o with slots:=sl })(free:∀b o,b∉ch->s.heap.get? b=some o->H b=none->H' b=none)(there:∀b o,b∉ch->s.heap.get? b=some o->∃o',h'.get? b=some o')(nw:∀b xs,H b=some (.tup xs)->H' b=some (.tup xs))(wd:∀b o u,H b=some (.xI o u)->H' b=some (.xI o u))(we:∀b ps,H b=some (.iR ps)->∃more,H' b=some (.iR (ps++more)))(ns:∀m,s.heap.Ns X.env.locals m->h'.Ns X.env.locals m)(ce:mE X.prog X.w H' h')(hg:AllBare g'):
  aS X af σ H' { s with heap:=h',gens:=g',drawn:=d',toks:=t' }:=by
 have neL:∀b o,X.s₀.heap.get? b=some o->b≠X.env.locals:=fun b o e=>ba (bi (aP e) I.ok.above);have VH:∀b o,X.s₀.heap.get? b=some o->b∉X.ex->b∉ch:=fun b o e hx hb=>by
  rcases(Jm b hb).1 with z|z
  .exact hx z
  .exact absurd (bi (aP e) z) (iz _)
 have Ma:∀x c,X.env.cells.lookup x=some c->∀v,s.heap.IsCell c v->h'.IsCell c v:=fun x c e v ⟨o,ho,hd⟩=>by
  have Ry:c∉ch:=fun z=>(Jm c z).2.2.1 x c e rfl;by_cases hc:c∈X.fs
  .obtain⟨sl,q⟩:=slot c o (I.Nm x c e) hc Ry ho (I.kZ x c e);exact⟨_,q,hd⟩
  .exact⟨o,keep c o (I.Nm x c e) hc Ry ho (I.kZ x c e),hd⟩
 refine⟨I.ok,I.os,hg,⟨fun b o e n hb hx=>?_,fun b o e n hb hx=>?_,fun b o e n hx=>?_,fun b o e hx=>?_,fun b xs e=>nw b xs (I.base.nw b xs e),fun b o xs e=>wd b o xs (I.base.wd b o xs e),fun b ps e=>?_⟩,?_,fun x c e=>?_,?_,fun x c e=>?_,fun p hp=>?_,ce,I.len⟩
 .exact keep b o (neL b o e) hb (VH b o e hx) (I.base.keep b o e n hb hx) (I.base.free b o e n hx)
 .obtain⟨sl,e1⟩:=I.base.slot b o e n hb hx;obtain⟨WL,e2⟩:=slot b _ (neL b o e) hb (VH b o e hx) e1 (I.base.free b o e n hx);exact⟨WL,e2⟩
 .obtain⟨o',e1⟩:=I.base.there b o e hx;exact free b o' (VH b o e hx) e1 (I.base.free b o e n hx)
 .obtain⟨o',e1⟩:=I.base.there b o e hx;exact there b o' (VH b o e hx) e1
 .obtain⟨m1,e1⟩:=I.base.we b ps e;obtain⟨m2,e2⟩:=we b _ e1;exact⟨m1++m2,by rw[e2,Array.append_assoc]⟩
 .obtain⟨m,hn,hl⟩:=I.loc;refine⟨m,ns m hn,fun i x v e1 e2 e3=>?_⟩;obtain⟨u,r,l⟩:=hl i x v e1 e2 e3;refine⟨u,r,?_⟩;rcases l with l|⟨k,c,e,z⟩
  .exact .inl l
  .exact .inr ⟨k,c,e,Ma x c e _ z⟩
 .obtain⟨v,z⟩:=I.cell x c e;exact⟨v,Ma x c e v z⟩
 .obtain⟨m,⟨o,_,_,ho,_⟩,_⟩:=I.loc;exact free _ o (fun z=>(Jm _ z).2.1 rfl) ho I.free
 .obtain⟨v,o,ho,hd⟩:=I.cell x c e;exact free c o (fun z=>(Jm c z).2.2.1 x c e rfl) ho (I.kZ x c e)
 .obtain⟨e,n,ne,nf,d⟩:=I.pin p hp;have Ry:p.1∉ch:=fun z=>(Jm p.1 z).2.2.2 p hp rfl;exact⟨keep p.1 p.2 ne nf Ry e n,free p.1 p.2 Ry e n,ne,nf,d⟩
theorem aS.un{t':Nat}(I:aS X af σ H s)(u:Un X.fs [] H H' s.heap h')(ce:mE X.prog X.w H' h'):aS X af σ H' { s with heap:=h',toks:=t' }:=by
 obtain⟨m,⟨o,es,ep,ho,r⟩,_⟩:=id I.loc;obtain⟨sl,hL⟩:=u.any ho I.free (by simp);exact I.step (g':=s.gens) (d':=s.drawn) (ch:=[]) (fun _ z=>nomatch z) (fun b o _ hb _ e n=>u.keep b o e n hb (by simp)) (fun b o _ hb _ e n=>u.slot b o e n hb (by simp)) (fun b o _ e n=>u.free b o e n (by simp)) (fun b o _ e=>u.there b o e (by simp)) u.nw u.wd u.we (fun m' hm=>by
  obtain⟨o',zK,Rz,JE,r'⟩:=hm;rw[ho] at JE;cases JE;exact⟨_,zK,Rz,hL,r'⟩) ce I.bare
theorem aS.call{g':Array GenState}{t':Nat}{d':Drawn}{ch:List Addr}(I:aS X af σ H s)(u:Un (Fk X.stack) ch H H' s.heap h')(ce:mE X.prog X.w H' h')(hg:AllBare g')(Jm:∀b∈ch,(b∈X.ex\/X.s₀.heap.objs.size<=b)/\b≠X.env.locals/\(∀x c,X.env.cells.lookup x=some c->c≠b)/\∀p∈X.pn++af,p.1≠b):
  aS X af σ H' { s with heap:=h',gens:=g',drawn:=d',toks:=t' }:=by
 obtain⟨m,⟨o,es,ep,ho,r⟩,_⟩:=id I.loc;obtain⟨sl,hL⟩:=u.any ho I.free fun z=>(Jm _ z).2.1 rfl;exact I.step (ch:=ch) Jm (fun b o hL hb hc e n=>u.keep b o e n (fun z=>(bb.mp (I.wf b z)).elim hL hb) hc) (fun b o _ _ hc e n=>u.any e n hc) (fun b o hc e n=>u.free b o e n hc) (fun b o hc e=>u.there b o e hc) u.nw u.wd u.we (fun m' hm=>by
  obtain⟨o',zK,Rz,JE,r'⟩:=hm;rw[ho] at JE;cases JE;exact⟨_,zK,Rz,hL,r'⟩) ce hg
theorem aS.turned{t':Nat}{it:Addr}(I:aS X af σ H s)(k:∀b o,b≠it->s.heap.get? b=some o->h'.get? b=some o)(hn:H it=none)(hL:it≠X.env.locals)(h1:it∈X.ex\/X.s₀.heap.objs.size<=it)(h2:∀x c,X.env.cells.lookup x=some c->c≠it)(h3:∀p∈X.pn++af,p.1≠it):aS X af σ H { s with heap:=h',toks:=t' }:=by
 have Mb:∀b u,H b=some u->b≠it:=fun b u e z=>by rw[z,hn] at e;cases e
 refine I.step (g':=s.gens) (d':=s.drawn) (ch:=[it]) (fun b hb=>?_) (fun b o _ _ hc e _=>k b o (fun z=>hc (by simp[z])) e) (fun b o _ _ hc e _=>⟨o.slots,k b o (fun z=>hc (by simp[z])) e⟩) (fun _ _ _ _ n=>n)
  (fun b o hc e=>⟨o,k b o (fun z=>hc (by simp[z])) e⟩) (fun _ _ e=>e) (fun _ _ _ e=>e) (fun b ps e=>⟨#[],by rw[e];simp⟩) (fun m hm=>?_) (fun b u e=>?_) I.bare
 .have e:b=it:=by simpa using hb
  subst e;exact⟨h1,hL,h2,h3⟩
 .obtain⟨o,es,ep,ho,r⟩:=hm;exact⟨o,es,ep,k _ o (dv hL) ho,r⟩
 .refine(I.ce b u e).jf (fun c v hc q=>k c v ?_ q) (fun _ q=>q) fun _ _ q=>q;rcases hc with z|z
  .rw[z];exact Mb b u e
  .exact Mb c _ z
theorem aS.tok(I:aS X af σ H s)(t:Nat):aS X af σ H { s with toks:=t }:=I.un (h':=s.heap) (t':=t) Un.refl I.ce
theorem aS.kept(I:aS X af σ H s)(k:∀b u,s.heap.get? b=some u->h'.get? b=some u):aS X af σ H { s with heap:=h',toks:=t' }:=I.un (Un.kept k) (I.ce.kept k)
theorem aS.laid(I:aS X af σ H s)(k:∀b u,s.heap.get? b=some u->h'.get? b=some u)(hp:s.heap.objs.size<=a)(new:cI X.prog X.w (upd H a o) h' a o):
  aS X af σ (upd H a o) { s with heap:=h',toks:=t' }:=I.un (Un.laid k hp (I.ce.fresh hp)) (I.ce.laid k hp new)
theorem aS.write(I:aS X af σ H s)(mu:VF (H x))(he:e=x\/H e=some (.own x))(k:∀b u,b≠e->s.heap.get? b=some u->h'.get? b=some u)(QL:∃u,h'.get? e=some u)(new:cI X.prog X.w (upd H x o) h' x o):aS X af σ (upd H x o) { s with heap:=h',toks:=t' }:=I.un (Un.write mu he k QL) (I.ce.write mu he k QL new)
theorem aS.nA(I:aS X af σ H s)(h:∀p∈pins',s.heap.get? p.1=some p.2/\H p.1=none/\p.1≠X.env.locals/\p.1∉X.fs/\∀v,p.2.data≠.cell v):aS X pins' σ H s:=
 ⟨I.ok,I.os,I.bare,I.base,I.loc,I.cell,I.free,I.kZ,fun p hp=>(bX.mp hp).elim (fun z=>I.pin p (ft _ z)) (h p),I.ce,I.len⟩
theorem xQ{N:List Str}(hN:N.Nodup){i j:Nat}{x:Str}(a:N[i]?=some x)(b:N[j]?=some x):i=j:=by
 obtain⟨h1,e1⟩:=b9.mp a;obtain⟨h2,e2⟩:=b9.mp b;exact(List.getElem_inj hN).mp (e1.trans e2.symm)
theorem uP{M:Model}{A:Around}{E:Value->Shared->Prop}{i:Nat}{x:Str}{v:V}{u:Value}{Q:Unit->Shared->Prop}(I:aS X af σ H s)(hN:X.N.Nodup)(hi:X.N[i]?=some x)(hx:Rv X.env.scope x)(r:bH v u)(h:∀s',aS X af (σ.set i (some v)) H s'->(∃a,Heap.SameBut a s.heap s'.heap/\(a=X.env.locals\/X.env.cells.lookup x=some a))->Q () s')(hf:X.fn x=true\/X.env.scope.names.lookup x=some .local:=by first|exact .inl rfl|exact .inr rfl|assumption):wpAny M A (storeName X.env x u) Q E s:=by
 obtain⟨m,hn,hl⟩:=id I.loc;have WM:(X.env.scope.kind==.class||(X.env.scope.kind==.module&&X.env.locals != X.env.globals))=false:=by rw[I.ok.kind];rfl
 have hiσ:i<σ.length:=by rw[I.len];exact(b9.mp hi).1
 have Nm:=I.Nm;have Cp:∀ {a:Addr} {h':Heap},(∃o,s.heap.get? a=some o/\H a=none)->Heap.SameBut a s.heap h'->mE X.prog X.w H h':=fun {a h'} ha hs b ob e=>by
  obtain⟨_,_,Mc⟩:=ha;refine(I.ce b ob e).jf (fun c w' hc q=>(hs.2 c ?_).trans q) (fun _ q=>q) fun _ _ q=>q;rintro rfl;rcases hc with rfl|hc
  .rw[Mc] at e;cases e
  .rw[Mc] at hc;cases hc
 rcases hx with hk|hk
 .refine wpAny_storeName_local hk hn (fun h' RB hs=>?_) WM;obtain⟨oL,_,_,uQ,_⟩:=id hn;refine h _ ⟨I.ok,I.os,I.bare,⟨fun b o e n hb hx=>?_,fun b o e n hb hx=>?_,I.base.free,fun b o e hx=>?_,I.base.nw,I.base.wd,I.base.we⟩,⟨_,RB,fun j y v' e1 e2 e3=>?_⟩,fun y c e=>?_,I.free,I.kZ,fun p hp=>?_,Cp ⟨oL,uQ,I.free⟩ hs,by simpa using I.len⟩ ⟨_,hs,.inl rfl⟩
  .exact(hs.2 b (ba (bi (aP e) I.ok.above))).trans (I.base.keep b o e n hb hx)
  .obtain⟨sl,e1⟩:=I.base.slot b o e n hb hx;exact⟨sl,(hs.2 b (ba (bi (aP e) I.ok.above))).trans e1⟩
  .obtain⟨o',e1⟩:=I.base.there b o e hx;exact⟨o',(hs.2 b (ba (bi (aP e) I.ok.above))).trans e1⟩
  .by_cases hj:j=i
   .subst hj;rw[hi] at e1;cases e1;rw[oQ hiσ] at e2;cases e2;exact⟨u,r,.inl ⟨hk,by simp⟩⟩
   .rw[oW (dv hj)] at e2;obtain⟨u',r',q⟩:=hl j y v' e1 e2 e3;refine⟨u',r',?_⟩;rcases q with ⟨k,e⟩|⟨k,c,e,z⟩
    .refine .inl ⟨k,?_⟩;have:y≠x:=fun e=>hj (xQ hN e1 (e ▸ hi));simp[this,e]
    .exact .inr ⟨k,c,e,z.sameBut hs (Nm y c e)⟩
  .obtain⟨w',z⟩:=I.cell y c e;exact⟨w',z.sameBut hs (Nm y c e)⟩
  .obtain⟨e,n,ne,nf,d⟩:=I.pin p hp;exact⟨(hs.2 p.1 ne).trans e,n,ne,nf,d⟩
 .have WN:X.fn x=true:=by
   rcases hf with z|z
   .exact z
   .rw[z] at hk;cases hk
  obtain⟨c,hc⟩:=I.ok.has x (.inl hk);obtain⟨w',z⟩:=I.cell x c hc;refine wpAny_storeName_cell I.ok.kind hk hc z (fun h' xR hs=>?_);obtain⟨oc,VI,WP⟩:=id z;refine h { s with heap:=h' } ⟨I.ok,I.os,I.bare,⟨fun b o e n hb hx=>?_,fun b o e n hb hx=>?_,I.base.free,fun b o e hx=>?_,I.base.nw,I.base.wd,I.base.we⟩,⟨m,hn.sameBut hs (dv (Nm x c hc)),fun j y v' e1 e2 e3=>?_⟩,fun y c' e=>?_,I.free,I.kZ,fun p hp=>?_,Cp ⟨oc,VI,I.kZ x c hc⟩ hs,by simpa using I.len⟩ ⟨c,hs,.inr hc⟩
  .exact(hs.2 b (ba (bi (aP e) (I.ok.Rx x c WN hc)))).trans (I.base.keep b o e n hb hx)
  .obtain⟨sl,e1⟩:=I.base.slot b o e n hb hx;exact⟨sl,(hs.2 b (ba (bi (aP e) (I.ok.Rx x c WN hc)))).trans e1⟩
  .obtain⟨o',e1⟩:=I.base.there b o e hx;exact⟨o',(hs.2 b (ba (bi (aP e) (I.ok.Rx x c WN hc)))).trans e1⟩
  .by_cases hj:j=i
   .subst hj;rw[hi] at e1;cases e1;rw[oQ hiσ] at e2;cases e2;exact⟨u,r,.inr ⟨.inl hk,c,hc,xR⟩⟩
   .rw[oW (dv hj)] at e2;obtain⟨u',r',q⟩:=hl j y v' e1 e2 e3;refine⟨u',r',?_⟩;rcases q with q|⟨k,c',e,z'⟩
    .exact .inl q
    .refine .inr ⟨k,c',e,z'.sameBut hs ?_⟩;rintro rfl;exact hj (xQ hN e1 (I.ok.inj _ _ _ e hc ▸ hi))
  .by_cases hcc:c'=c
   .subst hcc;exact⟨_,xR⟩
   .obtain⟨w2,z2⟩:=I.cell y c' e;exact⟨w2,z2.sameBut hs hcc⟩
  .obtain⟨e,n,ne,nf,d⟩:=I.pin p hp;refine⟨(hs.2 p.1 ?_).trans e,n,ne,nf,d⟩;intro q;rw[q,VI] at e;have q':oc=p.2:=bN e;exact d w' (by rw[<-q'];exact WP)
theorem k4(I:aS X af σ H s)(hN:X.N.Nodup)(hi:X.N[i]?=some x)(hx:Rv X.env.scope x)(r:bH v u)(h:∀s',aS X af (σ.set i (some v)) H s'->Q () s')(hf:X.fn x=true\/X.env.scope.names.lookup x=some .local:=by first|exact .inl rfl|exact .inr rfl|assumption):wpAny M A (storeName X.env x u) Q E s:=
 uP I hN hi hx r (fun s' I' _=>h s' I') hf
theorem aS.Md(I:aS X af σ H s)(ho:s'.os=s.os)(u:Un (Fk X.stack) ch H H' s.heap s'.heap)(ce:mE X.prog X.w H' s'.heap)(hg:AllBare s'.gens)(Jm:∀b∈ch,(b∈X.ex\/X.s₀.heap.objs.size<=b)/\b≠X.env.locals/\(∀x c,X.env.cells.lookup x=some c->c≠b)/\∀p∈X.pn++af,p.1≠b):aS X af σ H' s':=by
 obtain⟨h',g',d',t',o'⟩:=s';have e:o'=s.os:=ho;subst e;exact I.call (g':=g') (t':=t') (d':=d') u ce hg Jm
end
abbrev XK:=Value->Option Addr->Hp->Prop
abbrev St:=List (Option V)
abbrev VK:=V->Hp->Prop
abbrev TE:=St->Hp->VK->Prop
abbrev TT:=St->Hp->(Bool->Hp->Prop)->Prop
abbrev TA:=St->Hp->(List V->Hp->Prop)->Prop
structure wm where
 nx:St->Hp->Prop
 rt:VK
 bk:St->Hp->Prop:=fun _ _=>False
 ct:St->Hp->Prop:=fun _ _=>False
abbrev TS:=wm->St->Hp->Prop
def EP(X:Cx)(af:List (Addr×Obj))(σ:St)(Q:VK)(u:Value)(s':Shared):Prop:=∃v H',aS X af σ H' s'/\bH v u/\Q v H'
def TP(X:Cx)(af:List (Addr×Obj))(σ:St)(Q:Bool->Hp->Prop)(b:Bool)(s':Shared):Prop:=∃H',aS X af σ H' s'/\Q b H'
def AP(X:Cx)(af:List (Addr×Obj))(σ:St)(Q:List V->Hp->Prop)(us:List Value)(s':Shared):Prop:=∃vs H',aS X af σ H' s'/\aZ vs us/\Q vs H'
def SP(X:Cx)(af:List (Addr×Obj))(D:wm)(f:Flow)(s':Shared):Prop:=
 match f with
 |.next=>∃σ' H',aS X af σ' H' s'/\D.nx σ' H'
 |.brk=>∃σ' H',aS X af σ' H' s'/\D.bk σ' H'
 |.cont=>∃σ' H',aS X af σ' H' s'/\D.ct σ' H'
 |.ret u=>∃v σ' H',aS X af σ' H' s'/\bH v u/\D.rt v H'
def PE(X:Cx)(e:Expr)(t:TE):Prop:=
 ∀ (af:List (Addr×Obj)) (s:Shared) (σ:St) (H:Hp) (Q:VK),aS X af σ H s->t σ H Q->wpAny (model X.prog X.w) X.A (eval e X.env) (EP X af σ Q) X.xe s
def PT(X:Cx)(e:Expr)(t:TT):Prop:=
 ∀ (af:List (Addr×Obj)) (s:Shared) (σ:St) (H:Hp) (Q:Bool->Hp->Prop),aS X af σ H s->t σ H Q->wpAny (model X.prog X.w) X.A (isTrue e X.env (eval e X.env)) (TP X af σ Q) X.xe s
def PW(X:Cx)(e:Expr)(t:TT):Prop:=
 ∀ (Cq:Sem Value) (af:List (Addr×Obj)) (s:Shared) (σ:St) (H:Hp) (Q:Bool->Hp->Prop),aS X af σ H s->t σ H Q->wpAny (model X.prog X.w) X.A (isTrue e X.env Cq) (TP X af σ Q) X.xe s
theorem PW.pt(h:PW X e t):PT X e t:=h _
def PA(X:Cx)(es:List Expr)(t:TA):Prop:=
 ∀ (pos:Pos) (af:List (Addr×Obj)) (s:Shared) (σ:St) (H:Hp) (Q:List V->Hp->Prop),aS X af σ H s->t σ H Q->wpAny (model X.prog X.w) X.A (spliced (backTo pos (starEach es X.env))) (AP X af σ Q) X.xe s
def PS(X:Cx)(st:Stmt)(t:TS):Prop:=
 ∀ (af:List (Addr×Obj)) (s:Shared) (σ:St) (H:Hp) (D:wm),aS X af σ H s->t D σ H->wpAny (model X.prog X.w) X.A (exec st X.env) (SP X af D) X.xe s
def AK(X:Cx)(st:List Stmt)(t:TS):Prop:=
 ∀ (af:List (Addr×Obj)) (s:Shared) (σ:St) (H:Hp) (D:wm),aS X af σ H s->t D σ H->wpAny (model X.prog X.w) X.A (execs st X.env) (SP X af D) X.xe s
theorem dF(h:wpAny M A t Q E s)(hQ:∀a s,Q a s->Q' a s):wpAny M A t Q' E s:=jd h hQ fun _ _ x=>x
section
variable {X:Cx}
def a9(i:Nat):TE:=fun σ H Q=>∃v,σ[i]?=some (some v)/\Q v H
def tC(v:V):TE:=fun _ H Q=>Q v H
theorem Nn(hN:X.N[i]?=some x)(hv:QM X.env.scope x)(hd:(x==("__debug__":Str))=false:=by decide)(uR:(x==("__classdict__":Str))=false:=by decide):PE X (.Name x pos) (a9 i):=by
 intro af s σ H Q I h;obtain⟨v,e,h⟩:=h;obtain⟨m,hn,hl⟩:=I.loc;obtain⟨u,r,l⟩:=hl i x v hN e hv;have dQ:EP X af σ Q u s:=⟨v,H,I,r,h⟩
 rcases l with ⟨hk,hm⟩|⟨hk,c,hc,Cr⟩
 .exact pG (Ao I.ok.kind hk hn hm dQ) hd
 .rcases hk with hk|hk
  .exact pG (wpAny_loadName_cell I.ok.kind hk hc Cr dQ) hd
  .exact pG (At I.ok.kind hk hc Cr dQ uR) hd
theorem az{i j pos}:PE X (.Constant (.int i) j pos) (tC (.int i)):=fun _ _ _ H _ I h=>wpAny_Constant_int ⟨.int i,H,I.tok _,⟨_,rfl⟩,h⟩
theorem qj{b j pos}:PE X (.Constant (.bool b) j pos) (tC (.bl b)):=fun _ _ _ H _ I h=>Constant_bool ⟨.bl b,H,I,rfl,h⟩
theorem eN{j pos}:PE X (.Constant .none j pos) (tC .cB):=fun _ _ _ H _ I h=>Constant_none ⟨.cB,H,I,rfl,h⟩
def Gl(X:Cx)(x:Str):Prop:=X.env.kindOf x=some .globalImplicit
theorem qS(I:aS X af σ H s)(hg:Gl X x)(hm:X.mg x=some u)(h:Q u s)(hd:(x==("__debug__":Str))=false:=by decide):wpAny (model X.prog X.w) X.A (eval (.Name x pos) X.env) Q E s:=
 Calls.Name_function_global I.ok.kind hg (Calls.loadGlobal_global (by rw[I.ok.glob];exact I.mod.glob.keeps I.bk) hm h) hd
theorem iC(I:aS X af σ H s)(hg:Gl X x)(hm:X.mg x=none)(hv:bootBuiltins x=some u)(h:Q u s)(hn:x≠"__name__":=by decide)(hd:(x==("__debug__":Str))=false:=by decide):wpAny (model X.prog X.w) X.A (eval (.Name x pos) X.env) Q E s:=by
 obtain⟨mb,h1,h2⟩:=I.mod.blt;exact Calls.Name_function_global I.ok.kind hg (Calls.loadGlobal_builtin (by rw[I.ok.glob];exact I.mod.glob.keeps I.bk) hm (by rw[I.ok.blt];exact h1.keeps I.bk) ((h2 x hn).trans hv) h) hd
theorem qT(hg:Gl X x)(hm:X.mg x=some u)(r:bH v u)(hd:(x==("__debug__":Str))=false:=by decide):PE X (.Name x pos) (tC v):=
 fun _ _ _ H _ I h=>qS I hg hm ⟨v,H,I,r,h⟩ hd
theorem jS(hg:Gl X x)(hm:X.mg x=none)(hv:bootBuiltins x=some u)(r:bH v u)(hn:x≠"__name__":=by decide)(hd:(x==("__debug__":Str))=false:=by decide):PE X (.Name x pos) (tC v):=
 fun _ _ _ H _ I h=>iC I hg hm hv ⟨v,H,I,r,h⟩ hn hd
variable {a b:Expr} {ta tb:TE} {pos:Pos}
def PC(X:Cx)(op:CmpOp)(a b:Expr)(t:TE):Prop:=
 ∀ (af:List (Addr×Obj)) (s:Shared) (σ:St) (H:Hp) (Q:VK),aS X af σ H s->t σ H Q->
  wpAny (model X.prog X.w) X.A (eval a X.env) (fun v s₁=>wpAny (model X.prog X.w) X.A (eval b X.env) (fun u s₂=>wpAny (model X.prog X.w) X.A (compareOp op v u) (EP X af σ Q) X.xe s₂) X.xe s₁) X.xe s
def tB(t:TE):TT:=fun σ H Q=>t σ H fun x H1=>∃c,x=.bl c/\Q c H1
theorem No(h:PC X op a b t)(h1:behindInMarks op b=false:=by first|exact RC _ (by decide) (by decide)|rfl):PT X (.Compare a [op] [b] pos) (tB t):=by
 intro af s σ H Q I hw;refine wpAny_isTrue_Compare1 (dF (h af s σ H _ I hw) fun v s1 h1=>dF h1 fun u s2 h2=>dF h2 fun c s3 ⟨x,H1,I1,r1,q1⟩=>?_) h1;obtain⟨d,rfl,q⟩:=q1;cases r1;exact pc ⟨H1,I1,q⟩
theorem iD(h:PE X e t)(he:∀Cq,isTrue e X.env Cq=(do let v <- Cq;standAt e.pos;holding [v] (truthy v)):=by intro _;rfl):PT X e (tB t):=by
 intro af s σ H Q I hw;refine isTrue_plain (dF (h af s σ H _ I hw) fun v s1 ⟨x,H1,I1,r1,q1⟩=>?_) (he _);obtain⟨d,rfl,q⟩:=q1;cases r1;exact pc ⟨H1,I1,q⟩
variable {tA VJ:TT} {rest:List Expr}
def WQ(t u:TT):TT:=fun σ H Q=>t σ H fun c H1=>if c=true then u σ H1 Q else Q false H1
def tOr(t u:TT):TT:=fun σ H Q=>t σ H fun c H1=>if c=true then Q true H1 else u σ H1 Q
def WR(t:TT):TT:=fun σ H Q=>t σ H fun c H1=>Q (!c) H1
theorem jT(ha:PT X a tA):PW X (.BoolOp .And [a] pos) tA:=by
 intro wh af s σ H Q I h;refine isTrue_and (dF (ha af s σ H Q I h) fun c s1 e=>?_);cases c with
 |true=>exact isTrue_and_nil e
 |false=>exact e
theorem pI(ha:PT X a tA):PW X (.BoolOp .Or [a] pos) tA:=by
 intro wh af s σ H Q I h;refine isTrue_or (dF (ha af s σ H Q I h) fun c s1 e=>?_);cases c with
 |false=>exact isTrue_or_nil e
 |true=>exact e
theorem mH(ha:PT X a tA)(hb:PW X (.BoolOp .And (b::rest) pos) VJ):PW X (.BoolOp .And (a::b::rest) pos) (WQ tA VJ):=by
 intro wh af s σ H Q I h;refine isTrue_and (dF (ha af s σ H _ I h) fun c s1 ⟨H1,I1,q1⟩=>?_);cases c with
 |true=>exact hb wh af s1 σ H1 Q I1 q1
 |false=>exact⟨H1,I1,q1⟩
theorem sw(ha:PT X a tA)(hb:PW X (.BoolOp .Or (b::rest) pos) VJ):PW X (.BoolOp .Or (a::b::rest) pos) (tOr tA VJ):=by
 intro wh af s σ H Q I h;refine isTrue_or (dF (ha af s σ H _ I h) fun c s1 ⟨H1,I1,q1⟩=>?_);cases c with
 |true=>exact⟨H1,I1,q1⟩
 |false=>exact hb wh af s1 σ H1 Q I1 q1
theorem k6(ha:PT X a tA):PT X (.UnaryOp .Not a pos) (WR tA):=by
 intro af s σ H Q I h;exact isTrue_not (ha af s σ H (fun c H1=>Q (!c) H1) I h)
def RD(ta tb:TE):TE:=fun σ H Q=>ta σ H fun x H1=>∃c,x=.bl c/\if c=true then tb σ H1 Q else Q (.bl false) H1
def RE(ta:TE):TE:=fun σ H Q=>ta σ H fun x H1=>∃c,x=.bl c/\Q (.bl (!c)) H1
theorem sC{op}(h:PE X a t):PE X (.BoolOp op [a] pos) t:=fun af s σ H Q I hw=>BoolOp_one (h af s σ H Q I hw)
theorem pJ(ha:PE X a ta)(hb:PE X (.BoolOp .And (b::rest) pos) tb):PE X (.BoolOp .And (a::b::rest) pos) (RD ta tb):=by
 intro af s σ H Q I h;refine BoolOp_and (dF (ha af s σ H _ I h) fun v s1 ⟨x,H1,I1,r1,q1⟩=>?_);obtain⟨c,rfl,q1⟩:=q1;cases r1;refine pc ?_;cases c with
 |true=>exact hb af s1 σ H1 Q I1 q1
 |false=>exact⟨.bl false,H1,I1,rfl,q1⟩
theorem Np(ha:PE X a ta):PE X (.UnaryOp .Not a pos) (RE ta):=by
 intro af s σ H Q I h;refine UnaryOp_ (dF (ha af s σ H _ I h) fun v s1 ⟨x,H1,I1,r1,q1⟩=>?_);obtain⟨c,rfl,q1⟩:=q1;cases r1;exact not_of (pc ⟨.bl (!c),H1,I1,rfl,q1⟩)
def tIf(t:TT)(ta tb:TE):TE:=fun σ H Q=>t σ H fun c H1=>if c=true then ta σ H1 Q else tb σ H1 Q
theorem FV(hc:PT X c tA)(ha:PE X a ta)(hb:PE X b tb):PE X (.IfExp c a b pos) (tIf tA ta tb):=by
 intro af s σ H Q I h;refine wpAny_IfExp (dF (hc af s σ H _ I h) fun d s1 ⟨H1,I1,q1⟩=>?_);cases d with
 |true=>exact ha af s1 σ H1 Q I1 q1
 |false=>exact hb af s1 σ H1 Q I1 q1
end
def aW(K:PySem.W.Frag)(H:Hp)(a:Addr)(xs:List V):Prop:=
 Rd H a (.lst xs)\/
  ∃ (o:Obj) (its:Array Value) (n:Nat),K.lookup a=some o/\o.cls=.type "list"/\o.dict=none/\o.data=.seq its n/\its.size<=sizeLine/\aZ xs its.toList
def bP(K:PySem.W.Frag)(H:Hp)(a:Addr)(xs:List V):Prop:=
 Rd H a (.tup xs)\/
  ∃ (o:Obj) (its:Array Value) (n:Nat),K.lookup a=some o/\o.cls=.type "tuple"/\o.data=.seq its n/\its.size<=sizeLine/\aZ xs its.toList
def WS:Value->Option V
 |.none=>some .cB
 |.bool b=>some (.bl b)
 |.int i _=>some (.int i)
 |.str x _=>some (.str x)
 |.bytes b _=>some (.Fj b)
 |.float b _=>some (.Nj b)
 |.ref a=>some (.ref a)
 |.type n=>some (.ty n)
 |_=>none
theorem bH.abs(r:bH x u):WS u=some x:=by
 cases x with
 |cB=>cases r;rfl
 |bl _=>cases r;rfl
 |int _=>obtain⟨t,rfl⟩:=r;rfl
 |str _=>obtain⟨t,rfl⟩:=r;rfl
 |Fj _=>obtain⟨t,rfl⟩:=r;rfl
 |Nj _=>obtain⟨t,rfl⟩:=r;rfl
 |ref _=>cases r;rfl
 |ty _=>cases r;rfl
theorem bH.inj(r:bH x u)(q:bH y u):x=y:=bN (r.abs.symm.trans q.abs)
theorem aZ.inj:∀ {xs ys:List V} {us:List Value},aZ xs us->aZ ys us->xs=ys
 |_,_,_,.nil,.nil=>rfl
 |_,_,_,.cons r t,.cons r' t'=>by rw[r.inj r',aZ.inj t t']
section
variable {X:Cx} {af:List (Addr×Obj)} {σ:St} {H:Hp} {s:Shared} {a:Addr} {xs ys:List V}
theorem aW.of{K:PySem.W.Frag}(h:H a=some (.lst xs)):aW K H a xs:=.inl (.inl h)
theorem bP.of{K:PySem.W.Frag}(h:H a=some (.tup xs)):bP K H a xs:=.inl (.inl h)
theorem aS.list(I:aS X af σ H s)(h:aW X.K H a xs):∃its:List Value,aZ xs its/\PlainL s.heap a its.toArray/\xs.length<=sizeLine:=by
 rcases h with h|⟨o,its,n,hk,hc,hd,hs,hz,r⟩
 .obtain⟨z,its,n,r,e⟩:=h.ok I.ce;exact⟨its,r,⟨_,n,e,rfl,rfl,rfl⟩,z⟩
 .refine⟨its.toList,r,⟨o,n,I.ny a o hk,hc,hd,by simpa using hs⟩,?_⟩;have e:=r.length;simp only[lU] at e;lia
theorem aS.tuple(I:aS X af σ H s)(h:bP X.K H a xs):∃its:List Value,aZ xs its/\IsTup s.heap a its.toArray/\xs.length<=sizeLine:=by
 rcases h with h|⟨o,its,n,hk,hc,hs,hz,r⟩
 .obtain⟨z,its,r,p⟩:=h.ok I.ce;exact⟨its,r,p.tup,z⟩
 .refine⟨its.toList,r,⟨o,I.ny a o hk,hc,n,by simpa using hs⟩,?_⟩;have e:=r.length;simp only[lU] at e;lia
theorem aS.xS(I:aS X af σ H s)(h:aW X.K H a xs)(h':aW X.K H a ys):xs=ys:=by
 obtain⟨its,r,⟨o,n,e,_,_,d⟩,_⟩:=I.list h;obtain⟨its',r',⟨o',n',e',_,_,d'⟩,_⟩:=I.list h';rw[e] at e';cases e';rw[d] at d';injection d' with d1 _;have:its=its':=by simpa using congrArg Array.toList d1
 subst this;exact r.inj r'
theorem aS.gG(I:aS X af σ H s)(h:bP X.K H a xs)(h':bP X.K H a ys):xs=ys:=by
 obtain⟨its,r,⟨o,e,_,n,d⟩,_⟩:=I.tuple h;obtain⟨its',r',⟨o',e',_,n',d'⟩,_⟩:=I.tuple h';rw[e] at e';cases e';rw[d] at d';injection d' with d1 _;have:its=its':=by simpa using congrArg Array.toList d1
 subst this;exact r.inj r'
end
abbrev Cx.ul(X:Cx)(E:Value->Shared->Prop):Cx:={ X with xe:=E }
abbrev Cx.zL(X:Cx):Cx:=X.ul fun _ _=>False
theorem Cx.Ok.ul{X:Cx}(ok:X.Ok)(E:Value->Shared->Prop):(X.ul E).Ok:=
 ⟨ok.mod,ok.kind,ok.glob,ok.blt,ok.above,ok.inj,ok.has,ok.Rx,ok.hd,ok.frames,ok.QN,ok.WI,ok.bs,ok.FT,ok.FU,ok.JD,ok.qC,ok.Nl⟩
theorem Cx.Ok.k8{X:Cx}{E:Value->Shared->Prop}(ok:(X.ul E).Ok):X.Ok:=
 ⟨ok.mod,ok.kind,ok.glob,ok.blt,ok.above,ok.inj,ok.has,ok.Rx,ok.hd,ok.frames,ok.QN,ok.WI,ok.bs,ok.FT,ok.FU,ok.JD,ok.qC,ok.Nl⟩
section
variable {X:Cx} {af:List (Addr×Obj)} {σ:St} {H:Hp} {s:Shared} {E:Value->Shared->Prop}
theorem aS.ul(I:aS X af σ H s)(E:Value->Shared->Prop):aS (X.ul E) af σ H s:=⟨I.ok.ul E,I.os,I.bare,I.base,I.loc,I.cell,I.free,I.kZ,I.pin,I.ce,I.len⟩
theorem aS.k8(I:aS (X.ul E) af σ H s):aS X af σ H s:=⟨I.ok.k8,I.os,I.bare,I.base,I.loc,I.cell,I.free,I.kZ,I.pin,I.ce,I.len⟩
theorem SP.k8(h:SP (X.ul E) af D f s'):SP X af D f s':=by
 cases f with
 |next=>obtain⟨σ',H',I,q⟩:=h;exact⟨σ',H',I.k8,q⟩
 |brk=>obtain⟨σ',H',I,q⟩:=h;exact⟨σ',H',I.k8,q⟩
 |cont=>obtain⟨σ',H',I,q⟩:=h;exact⟨σ',H',I.k8,q⟩
 |ret u=>obtain⟨v,σ',H',I,r,q⟩:=h;exact⟨v,σ',H',I.k8,r,q⟩
theorem AK.zL{st:List Stmt}{t:TS}(h:AK X.zL st t):AK X st t:=fun af s σ H D I hw=>
 jd (h af s σ H D (I.ul _) hw) (fun _ _ q=>q.k8) fun _ _ z=>False.elim z
end
section
variable {X:Cx} {st:Stmt} {rest:List Stmt} {t u:TS} {e:Expr} {te:TE} {pos:Pos}
def Me:TS:=fun D σ H=>D.nx σ H
def RH(t u:TS):TS:=fun D σ H=>t { D with nx:=u D } σ H
theorem bh:AK X [] Me:=fun _ _ σ H _ I h=>v9 ⟨σ,H,I,h⟩
theorem aj(h1:PS X st t)(h2:AK X rest u):AK X (st::rest) (RH t u):=by
 intro af s σ H D I h;refine wpAny_execs_cons (dF (h1 af s σ H { D with nx:=u D } I h) fun f s1 q=>?_);cases f with
 |next=>
  obtain⟨σ',H',I',q⟩:=q;exact h2 af s1 σ' H' D I' q
 |ret v=>exact q
 |brk=>exact q
 |cont=>exact q
theorem au(h1:PS X st t):AK X [st] t:=by
 intro af s σ H D I h;refine wpAny_execs_cons (dF (h1 af s σ H D I h) fun f s1 q=>?_);cases f with
 |next=>exact v9 q
 |ret v=>exact q
 |brk=>exact q
 |cont=>exact q
theorem aS.quiet(I:aS X af σ H s):interactive X.env=false:=by simp[interactive,I.ok.kind]
def RI(te:TE):TS:=fun D σ H=>te σ H fun _ H1=>D.nx σ H1
theorem bY(he:PE X e te)(hs:swapsWith e none pos.line X.env=pure false:=by rfl):PS X (.Expr e pos) (RI te):=by
 intro af s σ H D I h;exact wpAny_Expr_any (dF (he af s σ H _ I h) fun v s1 ⟨x,H1,I1,r1,q1⟩=>⟨σ,H1,I1,q1⟩) I.quiet hs
def RJ(te:TE):TS:=fun D σ H=>te σ H D.rt
theorem a_(he:PE X e te):PS X (.Return (some e) pos) (RJ te):=by
 intro af s σ H D I h;exact wpAny_Return_some (dF (he af s σ H _ I h) fun v s1 ⟨x,H1,I1,r1,q1⟩=>⟨x,σ,H1,I1,r1,q1⟩)
def RM(c:TT)(t u:TS):TS:=fun D σ H=>c σ H fun b H1=>if b=true then t D σ H1 else u D σ H1
theorem cC(hc:PT X c tc)(ha:AK X a t)(hb:AK X b u):PS X (.If c a b pos) (RM tc t u):=by
 intro af s σ H D I h;refine wpAny_If (dF (hc af s σ H _ I h) fun d s1 ⟨H1,I1,q1⟩=>?_);cases d with
 |true=>exact ha af s1 σ H1 D I1 q1
 |false=>exact hb af s1 σ H1 D I1 q1
def Nq:TS:=fun _ _ _=>False
theorem eA:AK X sts Nq:=fun _ _ _ _ _ _ h=>h.elim
end
abbrev TG:=V->St->Hp->(St->Hp->Prop)->Prop
abbrev RP:=List V->St->Hp->(St->Hp->Prop)->Prop
def PG(X:Cx)(Nt:Expr)(t:TG):Prop:=
 ∀ (af:List (Addr×Obj)) (s:Shared) (σ:St) (H:Hp) (v:V) (u:Value) (Q:St->Hp->Prop),aS X af σ H s->bH v u->t v σ H Q->
  wpAny (model X.prog X.w) X.A (assign Nt X.env u) (fun _ s'=>∃σ' H',aS X af σ' H' s'/\Q σ' H') X.xe s
def VL(X:Cx)(ts:List Expr)(t:RP):Prop:=
 ∀ (af:List (Addr×Obj)) (s:Shared) (σ:St) (H:Hp) (vs:List V) (us:List Value) (Q:St->Hp->Prop),aS X af σ H s->aZ vs us->t vs σ H Q->
  wpAny (model X.prog X.w) X.A (assignInOrder ((assignEach ts X.env).map (·.2)) us) (fun _ s'=>∃σ' H',aS X af σ' H' s'/\Q σ' H') X.xe s
abbrev RQ:=V->V->V->Hp->(Hp->Prop)->Prop
def RU(X:Cx)(t:RQ):Prop:=
 ∀ (af:List (Addr×Obj)) (s:Shared) (σ:St) (H:Hp) (o i v:V) (ov iv u:Value) (Q:Hp->Prop),aS X af σ H s->bH o ov->bH i iv->bH v u->t o i v H Q->
  wpAny (model X.prog X.w) X.A (setItem ov iv u) (fun _ s'=>∃H',aS X af σ H' s'/\Q H') X.xe s
abbrev WT:=V->V->Hp->VK->Prop
def PIp(X:Cx)(op:Operator)(t:WT):Prop:=
 ∀ (af:List (Addr×Obj)) (s:Shared) (σ:St) (H:Hp) (x y:V) (v u:Value) (Q:VK),aS X af σ H s->bH x v->bH y u->t x y H Q->
  wpAny (model X.prog X.w) X.A (inplaceOp op v u) (EP X af σ Q) X.xe s
section
variable {X:Cx} {pos:Pos}
def bv(i:Nat):TG:=fun v σ H Q=>Q (σ.set i (some v)) H
theorem aA(hN:X.N.Nodup)(hi:X.N[i]?=some x)(hx:Rv X.env.scope x)(hf:X.fn x=true\/X.env.scope.names.lookup x=some .local:=by first|exact .inl rfl|exact .inr rfl|assumption):PG X (.Name x pos) (bv i):=by
 intro af s σ H v u Q I r h;exact wpAny_assign_Name (k4 I hN hi hx r (fun s' I'=>⟨_,H,I',h⟩) hf)
def um:RP:=fun vs σ H Q=>vs=[]/\Q σ H
def fW(t:TG)(u:RP):RP:=fun vs σ H Q=>∃v r,vs=v::r/\t v σ H fun σ' H'=>u r σ' H' Q
theorem cr:VL X [] um:=by
 intro af s σ H vs us Q I r h;obtain⟨e,h⟩:=h;subst e;cases r;exact assignInOrder_nil ⟨σ,H,I,h⟩
theorem aG(h1:PG X e t)(h2:VL X es u)(hs:(assignEach (e::es) X.env).map (·.2)=assign e X.env::(assignEach es X.env).map (·.2):=by rfl):VL X (e::es) (fW t u):=by
 intro af s σ H vs us Q I r h;obtain⟨v,vr,e1,h⟩:=h;subst e1;cases r with
 |cons r rr=>
  rw[hs];refine assignInOrder_cons (dF (h1 af s σ H _ _ _ I r h) fun _ s1 ⟨σ1,H1,I1,q1⟩=>?_);exact h2 af s1 σ1 H1 _ _ Q I1 rr q1
def uq(K:PySem.W.Frag)(n:Nat)(t:RP):TG:=fun v σ H Q=>∃a xs,v=.ref a/\bP K H a xs/\xs.length=n/\t xs σ H Q
theorem dA(hc:X.calm=true)(h:VL X es t)(hn:(assignEach es X.env).length=n:=by rfl)(oC:(assignEach es X.env).findIdx? (·.1)=none:=by rfl):PG X (.Tuple es k pos) (uq X.K n t):=by
 intro af s σ H v u Q I r hw;obtain⟨a,xs,e1,hq,hl,hw⟩:=hw;subst e1;cases r;obtain⟨its,rv,ht,hz⟩:=I.tuple hq;refine assign_Tuple_tuple (I.ok.hd hc) ht (by simp[hn,<-hl,rv.length]) oC fun h' hx=>?_;have I1:aS X af σ H { s with heap:=h' }:=I.kept (t':=s.toks) fun b o e=>hx b o (ba (aP e)) e;exact h af _ σ H xs _ Q I1 (by simpa using rv) hw
def WU(to ti:TE)(t:RQ):TG:=fun v σ H Q=>to σ H fun o H1=>ti σ H1 fun i H2=>t o i v H2 fun H3=>Q σ H3
theorem fX(ho:PE X o to)(hi:PE X i ti)(hs:RU X t)(ha:∀v,assign (.Subscript o i pos) X.env v=(do
   let ov <- holding [v] (eval o X.env)
   let iv <- holding [v,ov] (eval i X.env)
   standAt pos
   holding [v,ov,iv] (setItem ov iv v)
   release [v,ov,iv] []):=by intro _;rfl):PG X (.Subscript o i pos) (WU to ti t):=by
 intro af s σ H v u Q I r h;rw[ha];refine aw (gC (dF (ho af s σ H _ I h) fun ov s1 ⟨x,H1,I1,r1,q1⟩=>?_));refine aw (gC (dF (hi af s1 σ H1 _ I1 q1) fun iv s2 ⟨y,H2,I2,r2,q2⟩=>?_));refine aw (pC (aw (gC (dF (hs af s2 σ H2 x y v ov iv u _ I2 r1 r2 r q2) fun _ s3 ⟨H3,I3,q3⟩=>?_))));exact wpAny_release ⟨σ,H3,I3,q3⟩
def Nv(te:TE)(g:TG):TS:=fun D σ H=>te σ H fun x H1=>g x σ H1 D.nx
theorem dM(he:PE X e te)(hg:PG X tg g)(hs:swapsWithSole [tg] e pos.line X.env=pure false:=by rfl)(hw:swappedStores [tg] e X.env=pure none:=by rfl)(h1:(assignEach [tg] X.env).map (·.2)=[assign tg X.env]:=by rfl):PS X (.Assign [tg] e pos) (Nv te g):=by
 intro af s σ H D I h;refine wpAny_Assign_stores (dF (he af s σ H _ I h) fun v s1 ⟨x,H1,I1,r1,q1⟩=>?_) hs hw;rw[h1];exact dF (hg af s1 σ H1 x v _ I1 r1 q1) fun _ s2 q=>q
theorem aU(hN:X.N.Nodup)(hi:X.N[i]?=some x)(hx:Rv X.env.scope x)(he:PE X e te)(hs:swapsWith e (some (.Name x DW)) pos.line X.env=pure false:=by rfl)(hf:X.fn x=true\/X.env.scope.names.lookup x=some .local:=by first|exact .inl rfl|exact .inr rfl|assumption):
  PS X (.Assign [.Name x DW] e pos) (Nv te (bv i)):=by
 intro af s σ H D I h;refine wpAny_Assign_Name (dF (he af s σ H _ I h) fun v s1 ⟨y,H1,I1,r1,q1⟩=>?_) hs;exact k4 I1 hN hi hx r1 (fun s2 I2=>⟨_,H1,I2,q1⟩) hf
def WV(i j:Nat)(ta:TA):TS:=fun D σ H=>ta σ H fun vs H1=>∃v w,vs=[v,w]/\D.nx ((σ.set i (some v)).set j (some w)) H1
theorem AL{kt k2 Jn}(hc:X.calm=true)(hN:X.N.Nodup)(hi:X.N[i]?=some x)(hj:X.N[j]?=some y)(AM:i≠j)(hx:X.env.scope.names.lookup x=some .local)(hy:X.env.scope.names.lookup y=some .local)(ha:PA X [a,b] ta)(hw:swappedStores [.Tuple [.Name x px,.Name y py] kt pt] (.Tuple [a,b] k2 Jn) X.env=pure (some [x,y]))(hs:swapsWithSole [.Tuple [.Name x px,.Name y py] kt pt] (.Tuple [a,b] k2 Jn) pos.line X.env=pure false:=by rfl):
  PS X (.Assign [.Tuple [.Name x px,.Name y py] kt pt] (.Tuple [a,b] k2 Jn) pos) (WV i j ta):=by
 intro af s σ H D I h;rw[exec_Assign_arm];refine aw (pC ?_);rw[hs];refine aw (wpAny_pure ?_);rw[ak (by decide)];refine aw (Tuple_ (dF (ha _ af s σ H _ I h) fun us s1 ⟨vs,H1,I1,r1,q1⟩=>?_));obtain⟨v,w,e1,q1⟩:=q1;subst e1;obtain⟨u1,u2,rfl,rv,wn⟩:∃u1 u2,us=[u1,u2]/\bH v u1/\bH w u2:=by
  cases r1 with
  |cons p q=>
   cases q with
   |cons p' q'=>
    cases q';exact⟨_,_,rfl,p,p'⟩
 refine v5 ?_ (by show 2<=sizeLine;decide);have I2:aS X af σ H1 { s1 with heap:=s1.heap.push { cls:=.type "tuple",data:=.seq [u1,u2].toArray } }:=I1.kept (t':=s1.toks) fun b o e=>bw _ e;rw[hw];refine aw (wpAny_pure ?_);show wpAny (model X.prog X.w) X.A (do rule "assign.swapped-stores";let items <- unpackItems (.ref s1.heap.objs.size) 2 none;assignInOrder [fun v=>bindName X.env y v,fun v=>bindName X.env x v] items.reverse;pure Flow.next) _ _ _;refine aw (fE (aw (unpackItems_tuple (items:=#[u1,u2]) (I.ok.hd hc) (IsTup.new s1.heap _) fun h' sE=>?_)));have I3:=I2.kept (h':=h') (t':=s1.toks) fun b o e=>sE b o (ba (aP e)) e;show wpAny _ _ (assignInOrder [fun v=>bindName X.env y v,fun v=>bindName X.env x v] [u2,u1] >>= fun _=>pure Flow.next) _ _ _;refine aw (assignInOrder_cons (wpAny_bindName (k4 I3 hN hj (.inl hy) wn (fun s2 I4=>?_) (.inr hy))));refine assignInOrder_cons (wpAny_bindName (k4 I4 hN hi (.inl hx) rv (fun s3 I5=>assignInOrder_nil (wpAny_pure ?_)) (.inr hx)));rw[List.set_comm _ _ (dv AM)] at I5;exact⟨_,H1,I5,q1⟩
def WW(i:Nat)(te:TE)(ti:WT):TS:=fun D σ H=>∃x,σ[i]?=some (some x)/\te σ H fun y H1=>ti x y H1 fun z H2=>D.nx (σ.set i (some z)) H2
theorem Ny(hN:X.N.Nodup)(hi:X.N[i]?=some x)(hx:Rv X.env.scope x)(he:PE X e te)(ho:PIp X op ti)(hf:X.fn x=true\/X.env.scope.names.lookup x=some .local:=by first|exact .inl rfl|exact .inr rfl|assumption):
  PS X (.AugAssign (.Name x DW) op e pos) (WW i te ti):=by
 intro af s σ H D I h;obtain⟨v,e1,h⟩:=h;obtain⟨m,hn,hl⟩:=I.loc;have RV:QM X.env.scope x:=by rcases hx with k|k;exact .inl k;exact .inr (.inl k)
 obtain⟨u,r,l⟩:=hl i x v hi e1 RV;refine wpAny_AugAssign_Name ?_;have go:wpAny (model X.prog X.w) X.A (eval e X.env) (fun w s₂=>wpAny (model X.prog X.w) X.A (inplaceOp op u w) (fun r s₃=>wpAny (model X.prog X.w) X.A (storeName X.env x r) (fun _=>SP X af D .next) X.xe s₃) X.xe s₂) X.xe s:=by
  refine dF (he af s σ H _ I h) fun w s1 ⟨y,H1,I1,r1,q1⟩=>?_;refine dF (ho af s1 σ H1 v y u w _ I1 r r1 q1) fun z s2 ⟨zv,H2,I2,r2,q2⟩=>?_;exact k4 I2 hN hi hx r2 (fun s3 I3=>⟨_,H2,I3,q2⟩) hf
 rcases l with ⟨hk,hm⟩|⟨hk,c,hc,Cr⟩
 .exact Ao I.ok.kind hk hn hm go
 .rcases hk with hk|hk
  .exact wpAny_loadName_cell I.ok.kind hk hc Cr go
  .rcases hx with k|k
   .have:X.env.scope.names.lookup x=some .free:=hk;rw[k] at this;cases this
   .have:X.env.scope.names.lookup x=some .free:=hk;rw[k] at this;cases this
def ipI(f:Int->Int->Int):WT:=fun x y H Q=>∃i j,x=.int i/\y=.int j/\Q (.int (f i j)) H
theorem Nz:PIp X .Add (ipI fun i j=>i+j):=by
 intro af s σ H x y v u Q I r1 r2 h;obtain⟨i,j,e1,e2,q⟩:=h;subst e1;subst e2;obtain⟨t,rfl⟩:=r1;obtain⟨t',rfl⟩:=r2;exact iadd_int ⟨.int _,H,I.tok _,⟨_,rfl⟩,q⟩
def FW(c:TT)(tb:TS):TS:=fun D σ H=>∃W:Nat->St->Hp->Prop,(∃m,W m σ H)/\∀m σ H,W m σ H->
 c σ H fun b H1=>if b=true then ∃N:St->Hp->Prop,(∀σ' H',N σ' H'->∃m',m'<m/\W m' σ' H')/\tb { D with nx:=N,ct:=N,bk:=D.nx } σ H1 else D.nx σ H1
theorem xT(hp:PassesOwn (model X.prog X.w) X.A X.env X.xe)(hc:PT X c tc)(hb:AK X body tb):PS X (.While c body [] pos) (FW tc tb):=by
 intro af s σ H D I h;obtain⟨W,⟨m0,w0⟩,FX⟩:=h;refine wpAny_While (codeAny_whileLoop (fun n s'=>∃σ' H',aS X af σ' H' s'/\W n σ' H') ?_ m0 ⟨σ,H,I,w0⟩);rintro n s1 ⟨σ1,H1,I1,w1⟩;refine my hp (dF (hc af s1 σ1 H1 _ I1 (FX n σ1 H1 w1)) fun b s2 ⟨H2,I2,q2⟩=>?_);cases b with
 |true=>
  obtain⟨N,hN,q2⟩:=q2;rw[ao rfl];refine my hp (dF (hb af s2 σ1 H2 _ I2 q2) fun f s3 q3=>?_);cases f with
  |next=>
   obtain⟨σ3,H3,I3,n3⟩:=q3;obtain⟨m',hm,w3⟩:=hN σ3 H3 n3;exact⟨m',hm,σ3,H3,I3,w3⟩
  |cont=>
   obtain⟨σ3,H3,I3,n3⟩:=q3;obtain⟨m',hm,w3⟩:=hN σ3 H3 n3;exact⟨m',hm,σ3,H3,I3,w3⟩
  |brk=>exact q3
  |ret v=>exact q3
 |false=>
  rw[ak cw];exact v9 ⟨σ1,H2,I2,q2⟩
end
structure It where
 go:Nat->Hp->Prop
 Mf:Nat->Hp->V->Hp->Prop
 stop:Nat->Hp->Prop
def gh(X:Cx)(af:List (Addr×Obj))(H:Hp)(b:Addr):Prop:=
 H b=none/\b≠X.env.locals/\b∉X.fs/\(b∈X.ex\/X.s₀.heap.objs.size<=b)/\(∀x c,X.env.cells.lookup x=some c->c≠b)/\∀p∈X.pn++af,p.1≠b
theorem aS.wo(I:aS X af σ H s)(hb:s.heap.objs.size<=b)(hn:H' b=none):gh X af H' b:=by
 refine⟨hn,fw (bi I.lt hb),I.WK hb,.inr (aX I.sz hb),fun x c e z=>?_,fun p hp z=>?_⟩
 .obtain⟨v,q⟩:=I.cell x c e;exact absurd (bi q.lt (by rw[z];exact hb)) (iz _)
 .exact absurd (bi (aP (I.pin p hp).1) (by rw[z];exact hb)) (iz _)
structure wq(P:Program)(w:World)(K:PySem.W.Frag)(tg:Expr)(J:It)(fp:List Addr)(it:Addr)(tn:Nat->Heap->Prop):Prop where
 mem:it∈fp
 obj:∀i h,tn i h->∀b∈fp,∃o,h.get? b=some o/\∀v,o.data≠.cell v
 keep:∀i h h',tn i h->(∀b∈fp,∀o,h.get? b=some o->h'.get? b=some o)->tn i h'
 item:∀ (X:Cx),X.prog=P->X.w=w->X.K=K->X.calm=true->∀ (i:Nat) (af:List (Addr×Obj)) (s:Shared) (σ:St) (H:Hp) (E:Value->Shared->Prop),aS X af σ H s->(∀b∈fp,gh X af H b)->tn i s.heap->J.go i H->
  wpAny (model P w) X.A (pyNext (.ref it)) (fun r s1=>∃u,r=some u/\
   wpAny (model P w) X.A (letOwnedTupleGo tg (.ref it) u) (fun _ s2=>∃x H',aS X af σ H' s2/\bH x u/\J.Mf i H x H'/\tn (i+1) s2.heap/\∀b∈fp,H' b=none) E s1) E s
 done:∀ (X:Cx),X.prog=P->X.w=w->X.K=K->X.calm=true->∀ (i:Nat) (af:List (Addr×Obj)) (s:Shared) (σ:St) (H:Hp) (E:Value->Shared->Prop),aS X af σ H s->(∀b∈fp,gh X af H b)->tn i s.heap->J.stop i H->
  wpAny (model P w) X.A (pyNext (.ref it)) (fun r s1=>r=none/\aS X af σ H s1) E s
 self:∀ (A:Around) (i:Nat) (s:Shared) (Q:Value->Shared->Prop) (E:Value->Shared->Prop),tn i s.heap->Q (.ref it) s->wpAny (model P w) A (pyIter (.ref it)) Q E s
abbrev TI:=St->Hp->(It->Hp->Prop)->Prop
def PIE(X:Cx)(af:List (Addr×Obj))(σ:St)(tg:Expr)(R:It->Hp->Prop)(VM:Value)(s2:Shared):Prop:=
 ∃ (it:Addr) (fp:List Addr) (tn:Nat->Heap->Prop) (J:It) (H':Hp),VM=.ref it/\aS X af σ H' s2/\wq X.prog X.w X.K tg J fp it tn/\tn 0 s2.heap/\(∀b∈fp,gh X af H' b)/\R J H'
def PI(X:Cx)(tg kj:Expr)(wi:TI):Prop:=
 ∀ (af:List (Addr×Obj)) (s:Shared) (σ:St) (H:Hp) (R:It->Hp->Prop),aS X af σ H s->wi σ H R->
  wpAny (model X.prog X.w) X.A (eval kj X.env) (fun v s1=>wpAny (model X.prog X.w) X.A (pyIter v) (PIE X af σ tg R) X.xe s1) X.xe s
theorem FY(ho:s.heap.get? it=some o)(hc:o.cls=.type n)(hd:o.data=.fields vs)(hn:["enumerate","zip","dict_itemiterator","dict_reverseitemiterator","odict_iterator","itertools.zip_longest","itertools.pairwise"].contains n=false)(hQ:Q () s):wpAny M A (letOwnedTupleGo tg (.ref it) u) Q E s:=by
 unfold letOwnedTupleGo;cases tg <;> first
  |exact wpAny_pure hQ
  |(cases u <;> first
    |exact wpAny_pure hQ
    |(refine aw (wpAny_load ho ?_);rw[hc,hd];show wpAny M A (if (["enumerate","zip","dict_itemiterator","dict_reverseitemiterator","odict_iterator","itertools.zip_longest","itertools.pairwise"].contains n&&vs[0]?==some (rawInt _))=true then _ else _) Q E s;rw[ak (by intro h;rw[hn,Bool.false_and] at h;cases h)];exact wpAny_pure hQ))
def FZ(K:PySem.W.Frag)(a:Addr):It:=
 ⟨fun i H=>∃xs x,aW K H a xs/\xs[i]?=some x,fun i H x H'=>H'=H/\∀xs,aW K H a xs->xs[i]?=some x,fun i H=>∃xs,aW K H a xs/\xs.length<=i⟩
def WX(K:PySem.W.Frag)(a:Addr):It:=
 ⟨fun i H=>∃xs x,bP K H a xs/\xs[i]?=some x,fun i H x H'=>H'=H/\∀xs,bP K H a xs->xs[i]?=some x,fun i H=>∃xs,bP K H a xs/\xs.length<=i⟩
def Fl(lo:Int)(n:Nat):It:=⟨fun i _=>i<n,fun i H x H'=>H'=H/\x=.int (lo+i),fun i _=>n<=i⟩
theorem DX{P:Program}{w:World}{K:PySem.W.Frag}{tg:Expr}(a it:Addr):wq P w K tg (FZ K a) [it] it (fun i h=>h.IsListIter it a i) where
 mem:=by simp
 obj:=fun i h st b hb=>by
  have e:b=it:=by simpa using hb
  subst e;obtain⟨o,e,c,d⟩:=st;exact⟨o,e,fun v z=>by rw[d] at z;cases z⟩
 keep:=fun i h h' st k=>st.at fun o e=>k it (by simp) o e
 item:=by
  intro X hP hw hK hc i af s σ H E I hf st hg;subst hP hw hK;obtain⟨xs,x,hq,hx⟩:=hg;obtain⟨its,rv,p,hz⟩:=I.list hq;obtain⟨u,hu,ru⟩:=rv.get hx;obtain⟨f0,f1,f2,f3,f4,f5⟩:=hf it (by simp);refine Af st p.isList (x:=u) (by simpa using hu) fun h' aE sb=>?_;have I1:aS X af σ H { s with heap:=h' }:=I.turned (t':=s.toks) (fun b o hb e=>(sb.2 b hb).trans e) f0 f1 f3 f4 f5;obtain⟨o,e,c,d⟩:=id aE;exact⟨u,rfl,FY (s:={ s with heap:=h' }) e c d (by decide) ⟨x,H,I1,ru,⟨rfl,fun ys hy=>by rw[I.xS hy hq];exact hx⟩,aE,fun b hb=>(hf b hb).1⟩⟩
 done:=by
  intro X hP hw hK hc i af s σ H E I hf st hg;subst hP hw hK;obtain⟨xs,hq,hx⟩:=hg;obtain⟨its,rv,p,hz⟩:=I.list hq;obtain⟨f0,f1,f2,f3,f4,f5⟩:=hf it (by simp);have hl:=rv.length;exact Aj (I.ok.hd hc) st p.isList (by simp;lia) fun h' eb=>⟨rfl,I.turned (t':=s.toks) (fun b o hb e=>eb b o hb e) f0 f1 f3 f4 f5⟩
 self:=fun _ _ _ _ _ st h=>wpAny_pyIter_listiter st h
theorem AN{P:Program}{w:World}{K:PySem.W.Frag}{tg:Expr}(a it:Addr):wq P w K tg (WX K a) [it] it (fun i h=>h.IsTupleIter it a i) where
 mem:=by simp
 obj:=fun i h st b hb=>by
  have e:b=it:=by simpa using hb
  subst e;obtain⟨o,e,c,d⟩:=st;exact⟨o,e,fun v z=>by rw[d] at z;cases z⟩
 keep:=fun i h h' st k=>st.at fun o e=>k it (by simp) o e
 item:=by
  intro X hP hw hK hc i af s σ H E I hf st hg;subst hP hw hK;obtain⟨xs,x,hq,hx⟩:=hg;obtain⟨its,rv,p,hz⟩:=I.tuple hq;obtain⟨u,hu,ru⟩:=rv.get hx;obtain⟨f0,f1,f2,f3,f4,f5⟩:=hf it (by simp);refine wpAny_pyNext_tuple_item st (show s.heap.IsTuple a its.toArray from p) (x:=u) (by simpa using hu) fun h' aE sb=>?_;have I1:aS X af σ H { s with heap:=h' }:=I.turned (t':=s.toks) (fun b o hb e=>(sb.2 b hb).trans e) f0 f1 f3 f4 f5;obtain⟨o,e,c,d⟩:=id aE;exact⟨u,rfl,FY (s:={ s with heap:=h' }) e c d (by decide) ⟨x,H,I1,ru,⟨rfl,fun ys hy=>by rw[I.gG hy hq];exact hx⟩,aE,fun b hb=>(hf b hb).1⟩⟩
 done:=by
  intro X hP hw hK hc i af s σ H E I hf st hg;subst hP hw hK;obtain⟨xs,hq,hx⟩:=hg;obtain⟨its,rv,p,hz⟩:=I.tuple hq;obtain⟨f0,f1,f2,f3,f4,f5⟩:=hf it (by simp);have hl:=rv.length;exact wpAny_pyNext_tuple_end (I.ok.hd hc) st (show s.heap.IsTuple a its.toArray from p) (by simp;lia) fun h' eb=>⟨rfl,I.turned (t':=s.toks) (fun b o hb e=>eb b o hb e) f0 f1 f3 f4 f5⟩
 self:=fun _ _ _ _ _ st h=>wpAny_pyIter_tupleiter st h
theorem AO{P:Program}{w:World}{K:PySem.W.Frag}{tg:Expr}(it:Addr)(lo:Int)(n:Nat):wq P w K tg (Fl lo n) [it] it (fun i h=>IsRangeIter h it (lo+(i:Nat)*1) ((n:Int)-(i:Nat)) 1) where
 mem:=by simp
 obj:=fun i h st b hb=>by
  have e:b=it:=by simpa using hb
  subst e;exact⟨_,st,fun v z=>by
   have z':Data.fields _=Data.cell v:=z;cases z'⟩
 keep:=fun i h h' st k=>k it (by simp) _ st
 item:=by
  intro X hP hw hK hc i af s σ H E I hf st hg;subst hP hw hK;obtain⟨f0,f1,f2,f3,f4,f5⟩:=hf it (by simp);have W:=Walks.range (prog:=X.prog) (w:=X.w) (I.ok.hd hc) it lo 1 n;refine W.item i s _ _ hg st fun v h' tk hv aE kk=>?_;obtain⟨t,rfl⟩:=hv;have I1:aS X af σ H { s with heap:=h',toks:=tk }:=I.turned (fun b o hb e=>kk b o (by simpa using hb) e) f0 f1 f3 f4 f5;refine⟨_,rfl,FY (s:={ s with heap:=h',toks:=tk }) (n:="range_iterator") aE rfl rfl (by decide) ⟨.int (lo+i),H,I1,⟨t,?_⟩,⟨rfl,rfl⟩,aE,fun b hb=>(hf b hb).1⟩⟩;rw[Int.mul_one]
 done:=by
  intro X hP hw hK hc i af s σ H E I hf st hg;subst hP hw hK;obtain⟨f0,f1,f2,f3,f4,f5⟩:=hf it (by simp);exact wpAny_pyNext_range_end (I.ok.hd hc) st (by have:n<=i:=hg;lia) fun h' eb=>⟨rfl,I.turned (t':=s.toks) (fun b o hb e=>eb b o hb e) f0 f1 f3 f4 f5⟩
 self:=fun _ _ _ _ _ st h=>wpAny_pyIter_rangeiter st h
section
variable {X:Cx} {tg:Expr}
def Mg(K:PySem.W.Frag)(tl:TE):TI:=fun σ H R=>tl σ H fun x H1=>∃a,x=.ref a/\(∃xs,aW K H1 a xs)/\R (FZ K a) H1
def WY(K:PySem.W.Frag)(tl:TE):TI:=fun σ H R=>tl σ H fun x H1=>∃a,x=.ref a/\(∃xs,bP K H1 a xs)/\R (WX K a) H1
theorem bT{l:Expr}{tl:TE}(hl:PE X l tl):PI X tg l (Mg X.K tl):=by
 intro af s σ H R I h;refine dF (hl af s σ H _ I h) fun v s1 ⟨x,H1,I1,r1,q1⟩=>?_;obtain⟨a,e,⟨xs,hq⟩,q⟩:=q1;subst e;cases r1;obtain⟨its,rv,p,hz⟩:=I1.list hq;refine rY p.isList ?_;refine⟨s1.heap.objs.size,[s1.heap.objs.size],_,_,H1,rfl,I1.kept (t':=s1.toks) fun b o e=>bw _ e,DX a _,⟨_,b_ _ rfl,rfl,rfl⟩,fun b hb=>?_,q⟩;have e:b=s1.heap.objs.size:=by simpa using hb
 subst e;exact I1.wo (aK _) (I1.ce.fresh (aK _))
theorem F3{l:Expr}{tl:TE}(hl:PE X l tl):PI X tg l (WY X.K tl):=by
 intro af s σ H R I h;refine dF (hl af s σ H _ I h) fun v s1 ⟨x,H1,I1,r1,q1⟩=>?_;obtain⟨a,e,⟨xs,hq⟩,q⟩:=q1;subst e;cases r1;obtain⟨its,rv,p,hz⟩:=I1.tuple hq;refine rW (show s1.heap.IsTuple a its.toArray from p) ?_;refine⟨s1.heap.objs.size,[s1.heap.objs.size],_,_,H1,rfl,I1.kept (t':=s1.toks) fun b o e=>bw _ e,AN a _,⟨_,b_ _ rfl,rfl,rfl⟩,fun b hb=>?_,q⟩;have e:b=s1.heap.objs.size:=by simpa using hb
 subst e;exact I1.wo (aK _) (I1.ce.fresh (aK _))
theorem xU{af:List (Addr×Obj)}{σ:St}{H:Hp}{s:Shared}{R:It->Hp->Prop}{E:Value->Shared->Prop}{lo hi:Int}{t u v:Tok}{tk:Nat}(I:aS X af σ H s)(h1:-(2 ^ 62)<=lo)(h2:lo<2 ^ 62)(h3:-(2 ^ 62)<=hi)(h4:hi<2 ^ 62)(q:R (Fl lo (hi-lo).toNat) H):wpAny (model X.prog X.w) X.A (pyIter (.ref s.heap.objs.size)) (PIE X af σ tg R) E { s with heap:=s.heap.push { cls:=.type "range",data:=.fields #[.int lo t,.int hi u,.int 1 v] },toks:=tk }:=by
 refine wpAny_pyIter_range (IsRange.new ..) (small_one h1 h2 h3 h4) ?_;have I1:aS X af σ H { s with heap:=s.heap.push { cls:=.type "range",data:=.fields #[.int lo t,.int hi u,.int 1 v] },toks:=tk }:=I.kept fun b o e=>bw _ e;refine⟨(s.heap.push { cls:=.type "range",data:=.fields #[.int lo t,.int hi u,.int 1 v] }).objs.size,[(s.heap.push { cls:=.type "range",data:=.fields #[.int lo t,.int hi u,.int 1 v] }).objs.size],_,_,H,rfl,
  I1.kept (t':=tk) fun b o e=>bw _ e,AO _ lo (hi-lo).toNat,?_,fun b hb=>?_,q⟩
 .have e1:lo+((0:Nat):Int)*1=lo:=by simp
  have e2:(((hi-lo).toNat:Nat):Int)-((0:Nat):Int)=Builtin.Range.rangeSize lo hi 1:=by rw[rangeSize_one];split <;> lia
  show IsRangeIter _ _ (lo+((0:Nat):Int)*1) ((((hi-lo).toNat:Nat):Int)-((0:Nat):Int)) 1;rw[e1,e2];exact b_ _ rfl
 .have e:b=(s.heap.push { cls:=.type "range",data:=.fields #[.int lo t,.int hi u,.int 1 v] }).objs.size:=by simpa using hb
  subst e;exact I1.wo (aK _) (I1.ce.fresh (aK _))
def RW(ta:TA):TI:=fun σ H R=>ta σ H fun vs H1=>∃j:Int,vs=[.int j]/\-(2 ^ 62)<=j/\j<2 ^ 62/\R (Fl 0 j.toNat) H1
def RX(ta:TA):TI:=fun σ H R=>ta σ H fun vs H1=>∃i j:Int,vs=[.int i,.int j]/\(-(2 ^ 62)<=i/\i<2 ^ 62/\-(2 ^ 62)<=j/\j<2 ^ 62)/\R (Fl i (j-i).toNat) H1
theorem bz{a:Expr}{ta:TA}{p pos:Pos}(hg:Gl X "range")(hm:X.mg "range"=none)(ha:PA X [a] ta)(hs:starEach [a] X.env=[(false,eval a X.env)]:=by rfl):PI X tg (.Call (.Name "range" p) [a] [] pos) (RW ta):=by
 intro af s σ H R I h;refine Call_ (iC I hg hm boot_range (rE (dF (ha pos af s σ H _ I h) fun us s1 ⟨vs,H1,I1,r1,q1⟩=>?_) hs rfl));obtain⟨j,e,q1,q2,q⟩:=q1;subst e;cases r1 with
 |cons r rr=>
  cases rr;obtain⟨t,rfl⟩:=r;exact call_range_1 (xU I1 (by lia) (by lia) q1 q2 (by simpa using q))
theorem pK(hg:Gl X "range")(hm:X.mg "range"=none)(ha:PA X [a,b] ta)(hs:starEach [a,b] X.env=[(false,eval a X.env),(false,eval b X.env)]:=by rfl)(lJ:starEach [b] X.env=[(false,eval b X.env)]:=by rfl):
  PI X tg (.Call (.Name "range" p) [a,b] [] pos) (RX ta):=by
 intro af s σ H R I h;refine Call_ (iC I hg hm boot_range (rE (dF (ha pos af s σ H _ I h) fun us s1 ⟨vs,H1,I1,r1,q1⟩=>?_) (by rw[hs,lJ]) (by rw[lJ];rfl)));obtain⟨i,j,e,⟨q1,q2,q3,q4⟩,q⟩:=q1;subst e;cases r1 with
 |cons r rr=>
  cases rr with
  |cons r' rr=>
   cases rr;obtain⟨t,rfl⟩:=r;obtain⟨t',rfl⟩:=r';exact call_range_2 (xU I1 q1 q2 q3 q4 q)
def WZ(wi:TI)(g:TG)(tb:TS):TS:=fun D σ H=>wi σ H fun J H1=>∃W:Nat->Nat->St->Hp->Prop,(∃m,W 0 m σ H1)/\∀i m σ H,W i m σ H->
 (J.stop i H/\D.nx σ H)\/(J.go i H/\∃N:St->Hp->Prop,(∀σ' H',N σ' H'->∃m',m'<m/\W (i+1) m' σ' H')/\∀x H',J.Mf i H x H'->g x σ H' fun σ2 H2=>tb { D with nx:=N,ct:=N,bk:=D.nx } σ2 H2)
def sI(fp:List Addr)(h:Heap):List (Addr×Obj):=fp.filterMap fun b=>(h.get? b).map fun o=>(b,o)
theorem jU(hb:b∈fp)(e:h.get? b=some o):(b,o)∈sI fp h:=o0.mpr ⟨b,hb,by rw[e];rfl⟩
theorem DY(hp:p∈sI fp h):p.1∈fp/\h.get? p.1=some p.2:=by
 obtain⟨b,hb,e⟩:=o0.mp hp;cases q:h.get? b with
 |none=>rw[q] at e;cases e
 |some o=>
  rw[q] at e;have e':(b,o)=p:=bN e;subst e';exact⟨hb,q⟩
theorem aS.pinned(I:aS X af σ H s)(hf:∀b∈fp,gh X af H b)(ho:∀b∈fp,∃o,s.heap.get? b=some o/\∀v,o.data≠.cell v):aS X (af++sI fp s.heap) σ H s:=
 I.nA fun p hp=>(bX.mp hp).elim (fun z=>I.pin p (dR _ z)) fun z=>by
  obtain⟨hb,e⟩:=DY z;obtain⟨f0,f1,f2,_⟩:=hf p.1 hb;obtain⟨o,e',d⟩:=ho p.1 hb;rw[e] at e';cases e';exact⟨e,f0,f1,f2,d⟩
theorem aS.nB(I:aS X (af++pl) σ H s):aS X af σ H s:=I.nA fun p hp=>I.pin p (dR _ (ft _ hp))
theorem cP(hp:PassesOwn (model X.prog X.w) X.A X.env X.xe)(hc:X.calm=true)(hi:PI X tg kj wi)(hg:PG X tg g)(hb:AK X body tb)(hs:∀x,foldedSetIterable kj X.env x=pure x:=by intro _;rfl):PS X (.For tg kj body [] pos) (WZ wi g tb):=by
 intro af s σ H D I h;refine wpAny_For (dF (hi af s σ H _ I h) fun v s1 h1=>dF h1 fun VM s2 h2=>?_) hs;obtain⟨it,fp,tn,J,H2,e,I2,T,km,f2,W,⟨m0,w0⟩,FX⟩:=h2;subst e;have AQ:∀ {H':Hp},(∀b∈fp,H' b=none)->∀b∈fp,gh X af H' b:=fun hn b hb=>⟨hn b hb,(f2 b hb).2⟩
 refine codeAny_forLoop_any (fun n s'=>∃i σ' H',aS X af σ' H' s'/\tn i s'.heap/\(∀b∈fp,H' b=none)/\W i n σ' H') ?_ m0 ⟨0,σ,H2,I2,km,fun b hb=>(f2 b hb).1,w0⟩;rintro n s3 ⟨i,σ3,H3,I3,iS,Jo,w3⟩;rcases FX i n σ3 H3 w3 with ⟨stop,qn⟩|⟨go,N,hN,step⟩
 .refine my hp (dF (T.done X rfl rfl rfl hc i af s3 σ3 H3 X.xe I3 (AQ Jo) iS stop) fun r s4 ⟨hr,I4⟩=>?_);subst hr;exact v9 ⟨σ3,H3,I4,qn⟩
 .refine my hp (dF (T.item X rfl rfl rfl hc i af s3 σ3 H3 X.xe I3 (AQ Jo) iS go) fun r s4 ⟨u,hr,h4⟩=>?_);subst hr;refine my hp (dF h4 fun _ s5 ⟨x,H5,I5,r5,y5,xJ,NA⟩=>?_);have W0:=I5.pinned (AQ NA) (T.obj _ _ xJ);refine my hp (dF (hg _ s5 σ3 H5 x u _ W0 r5 (step x H5 y5)) fun _ s6 ⟨σ6,H6,I6,q6⟩=>?_);refine my hp (dF (hb _ s6 σ6 H6 _ I6 q6) fun f s7 q7=>?_);have again:∀ {σ7:St} {H7:Hp},aS X (af++sI fp s5.heap) σ7 H7 s7->N σ7 H7->∃m,m<n/\∃i σ' H',aS X af σ' H' s7/\tn i s7.heap/\(∀b∈fp,H' b=none)/\W i m σ' H':=fun {σ7 H7} I7 n7=>by
   obtain⟨m',hm,w7⟩:=hN σ7 H7 n7;refine⟨m',hm,i+1,σ7,H7,I7.nB,T.keep _ _ _ xJ fun b hb o e=>(I7.pin (b,o) (dR _ (dR _ (jU hb e)))).1,fun b hb=>?_,w7⟩;obtain⟨o,e,d⟩:=T.obj _ _ xJ b hb;exact(I7.pin (b,o) (dR _ (dR _ (jU hb e)))).2.1
  cases f with
  |next=>obtain⟨σ7,H7,I7,n7⟩:=q7;exact again I7 n7
  |cont=>obtain⟨σ7,H7,I7,n7⟩:=q7;exact again I7 n7
  |brk=>obtain⟨σ7,H7,I7,q7⟩:=q7;exact⟨σ7,H7,I7.nB,q7⟩
  |ret v=>obtain⟨x7,σ7,H7,I7,r7,q7⟩:=q7;exact⟨x7,σ7,H7,I7.nB,r7,q7⟩
end
theorem fY{K:PySem.W.Frag}{a:Addr}{xs:List V}{g:TG}{tb:TS}{D:wm}{σ:St}{H:Hp}(Pv:Nat->St->Hp->Prop)(h0:Pv 0 σ H)(hl:∀i σ H,i<=xs.length->Pv i σ H->aW K H a xs)(hs:∀i x σ H,xs[i]?=some x->Pv i σ H->g x σ H fun σ2 H2=>tb { D with nx:=Pv (i+1),ct:=Pv (i+1),bk:=D.nx } σ2 H2)(hd:∀σ H,Pv xs.length σ H->D.nx σ H):
  ∃W:Nat->Nat->St->Hp->Prop,(∃m,W 0 m σ H)/\∀i m σ H,W i m σ H->
   ((FZ K a).stop i H/\D.nx σ H)\/((FZ K a).go i H/\∃N:St->Hp->Prop,(∀σ' H',N σ' H'->∃m',m'<m/\W (i+1) m' σ' H')/\∀x H',(FZ K a).Mf i H x H'->g x σ H' fun σ2 H2=>tb { D with nx:=N,ct:=N,bk:=D.nx } σ2 H2):=by
 refine⟨fun i m σ H=>m=xs.length-i/\i<=xs.length/\Pv i σ H,⟨xs.length,by simp,bE _,h0⟩,?_⟩;rintro i m σ H ⟨rfl,hi,p⟩;have q:=hl i σ H hi p;by_cases dZ:i<xs.length
 .refine .inr ⟨⟨xs,xs[i],q,by simp[dZ]⟩,Pv (i+1),fun σ' H' p'=>⟨xs.length-(i+1),by lia,rfl,dZ,p'⟩,fun x H' y=>?_⟩;obtain⟨e,y⟩:=y;subst e;exact hs i x σ _ (y xs q) p
 .have e:i=xs.length:=by lia
  subst e;exact .inl ⟨⟨xs,q,aK _⟩,hd σ H p⟩
theorem dC{lo:Int}{n:Nat}{g:TG}{tb:TS}{D:wm}{σ:St}{H:Hp}(Pv:Nat->St->Hp->Prop)(h0:Pv 0 σ H)(hs:∀i σ H,i<n->Pv i σ H->g (.int (lo+i)) σ H fun σ2 H2=>tb { D with nx:=Pv (i+1),ct:=Pv (i+1),bk:=D.nx } σ2 H2)(hd:∀σ H,Pv n σ H->D.nx σ H):
  ∃W:Nat->Nat->St->Hp->Prop,(∃m,W 0 m σ H)/\∀i m σ H,W i m σ H->
   ((Fl lo n).stop i H/\D.nx σ H)\/((Fl lo n).go i H/\∃N:St->Hp->Prop,(∀σ' H',N σ' H'->∃m',m'<m/\W (i+1) m' σ' H')/\∀x H',(Fl lo n).Mf i H x H'->g x σ H' fun σ2 H2=>tb { D with nx:=N,ct:=N,bk:=D.nx } σ2 H2):=by
 refine⟨fun i m σ H=>m=n-i/\i<=n/\Pv i σ H,⟨n,by simp,bE _,h0⟩,?_⟩;rintro i m σ H ⟨rfl,hi,p⟩;by_cases dZ:i<n
 .refine .inr ⟨dZ,Pv (i+1),fun σ' H' p'=>⟨n-(i+1),by lia,rfl,dZ,p'⟩,fun x H' y=>?_⟩;obtain⟨e,y⟩:=y;subst e y;exact hs i σ _ dZ p
 .have e:i=n:=by lia
  subst e;exact .inl ⟨aK _,hd σ H p⟩
theorem xV(Pv:St->Hp->Prop)(μ:St->Hp->Nat)(h0:Pv σ H)(hs:∀σ H,Pv σ H->c σ H fun b H1=>if b=true then tb { D with nx:=fun σ' H'=>Pv σ' H'/\μ σ' H'<μ σ H,ct:=fun σ' H'=>Pv σ' H'/\μ σ' H'<μ σ H,bk:=D.nx } σ H1 else D.nx σ H1)(mono:∀σ H Q Q',(∀b H1,Q b H1->Q' b H1)->c σ H Q->c σ H Q'):FW c tb D σ H:=by
 refine⟨fun m σ H=>m=μ σ H/\Pv σ H,⟨_,rfl,h0⟩,?_⟩;rintro m σ H ⟨rfl,p⟩;refine mono σ H _ _ (fun b H1 q=>?_) (hs σ H p);cases b with
 |true=>exact⟨_,fun σ' H' ⟨p',l⟩=>⟨_,l,rfl,p'⟩,q⟩
 |false=>exact q
abbrev R2:=V->V->Hp->VK->Prop
def m_(X:Cx)(f:Value->Value->Sem Value)(r:R2):Prop:=
 ∀ (af:List (Addr×Obj)) (s:Shared) (σ:St) (H:Hp) (x y:V) (v u:Value) (Q:VK),aS X af σ H s->bH x v->bH y u->r x y H Q->
  wpAny (model X.prog X.w) X.A (f v u) (EP X af σ Q) X.xe s
def W1(X:Cx)(f:Value->Sem Value)(r:V->Hp->VK->Prop):Prop:=
 ∀ (af:List (Addr×Obj)) (s:Shared) (σ:St) (H:Hp) (x:V) (v:Value) (Q:VK),aS X af σ H s->bH x v->r x H Q->
  wpAny (model X.prog X.w) X.A (f v) (EP X af σ Q) X.xe s
def fh(X:Cx)(f:Value)(r:List V->Hp->VK->Prop):Prop:=
 ∀ (af:List (Addr×Obj)) (s:Shared) (σ:St) (H:Hp) (xs:List V) (us:List Value) (Q:VK),aS X af σ H s->aZ xs us->r xs H Q->
  wpAny (model X.prog X.w) X.A (call f us) (EP X af σ Q) X.xe s
def kr(r:R2)(ta tb:TE):TE:=fun σ H Q=>ta σ H fun x H1=>tb σ H1 fun y H2=>r x y H2 Q
def tUn(r:V->Hp->VK->Prop)(ta:TE):TE:=fun σ H Q=>ta σ H fun x H1=>r x H1 Q
def rI(C:Int->Int->Prop)(g:Int->Int->V):R2:=fun x y H Q=>∃i j,x=.int i/\y=.int j/\C i j/\Q (g i j) H
def zM(g:Int->Int->V):R2:=fun x y H Q=>∃i j,x=.int i/\y=.int j/\Q (g i j) H
def rU(g:Int->V):V->Hp->VK->Prop:=fun x H Q=>∃i,x=.int i/\Q (g i) H
section
variable {X:Cx} {a b c:Expr} {ta tb tc:TE} {pos:Pos}
theorem NC(ha:PE X a ta)(hb:PE X b tb){af:List (Addr×Obj)}{s:Shared}{σ:St}{H:Hp}{R:V->V->Hp->Prop}(I:aS X af σ H s)(h:ta σ H fun x H1=>tb σ H1 fun y H2=>R x y H2){Q:Value->Shared->Prop}{f:Value->Value->Sem Value}(hf:∀v u s2 x y H2,aS X af σ H2 s2->bH x v->bH y u->R x y H2->wpAny (model X.prog X.w) X.A (f v u) Q X.xe s2):
  wpAny (model X.prog X.w) X.A (eval a X.env) (fun v s₁=>wpAny (model X.prog X.w) X.A (eval b X.env) (fun u s₂=>wpAny (model X.prog X.w) X.A (f v u) Q X.xe s₂) X.xe s₁) X.xe s:=by
 refine dF (ha af s σ H _ I h) fun v s1 ⟨x,H1,I1,r1,q1⟩=>?_;refine dF (hb af s1 σ H1 _ I1 q1) fun u s2 ⟨y,H2,I2,r2,q2⟩=>?_;exact hf v u s2 x y H2 I2 r1 r2 q2
theorem aY{op:Operator}{r:R2}(ho:m_ X (binaryOp op) r)(ha:PE X a ta)(hb:PE X b tb):PE X (.BinOp a op b pos) (kr r ta tb):=by
 intro af s σ H Q I h;exact wpAny_BinOp (NC ha hb I h fun v u s2 x y H2 I2 rx ry q=>ho af s2 σ H2 x y v u Q I2 rx ry q)
theorem xW(ho:W1 X (unaryOp op) r)(ha:PE X a ta):PE X (.UnaryOp op a pos) (tUn r ta):=by
 intro af s σ H Q I h;exact UnaryOp_ (dF (ha af s σ H _ I h) fun v s1 ⟨x,H1,I1,r1,q1⟩=>ho af s1 σ H1 x v Q I1 r1 q1)
theorem RY{f:Value->Value->Sem Value}{C:Int->Int->Prop}{g:Int->Int->Int}(rule:∀ (i j:Int) (t u:Tok) (s:Shared) (Q:Value->Shared->Prop) (E:Value->Shared->Prop),C i j->Q (.int (g i j) s.toks) { s with toks:=s.toks+1 }->wpAny (model X.prog X.w) X.A (f (.int i t) (.int j u)) Q E s):
  m_ X f (rI C fun i j=>.int (g i j)):=by
 intro af s σ H x y v u Q I rx ry h;obtain⟨i,j,rfl,rfl,hc,q⟩:=h;obtain⟨t,rfl⟩:=rx;obtain⟨t',rfl⟩:=ry;exact rule i j t t' s _ _ hc ⟨.int (g i j),H,I.tok _,⟨_,rfl⟩,q⟩
theorem RZ{f:Value->Value->Sem Value}{g:Int->Int->Int}(rule:∀ (i j:Int) (t u:Tok) (s:Shared) (Q:Value->Shared->Prop) (E:Value->Shared->Prop),Q (.int (g i j) s.toks) { s with toks:=s.toks+1 }->wpAny (model X.prog X.w) X.A (f (.int i t) (.int j u)) Q E s):
  m_ X f (zM fun i j=>.int (g i j)):=by
 intro af s σ H x y v u Q I rx ry h;obtain⟨i,j,rfl,rfl,q⟩:=h;obtain⟨t,rfl⟩:=rx;obtain⟨t',rfl⟩:=ry;exact rule i j t t' s _ _ ⟨.int (g i j),H,I.tok _,⟨_,rfl⟩,q⟩
theorem JG{f:Value->Value->Sem Value}{g:Int->Int->Bool}(rule:∀ (i j:Int) (t u:Tok) (s:Shared) (Q:Value->Shared->Prop) (E:Value->Shared->Prop),Q (.bool (g i j)) s->wpAny (model X.prog X.w) X.A (f (.int i t) (.int j u)) Q E s):
  m_ X f (zM fun i j=>.bl (g i j)):=by
 intro af s σ H x y v u Q I rx ry h;obtain⟨i,j,rfl,rfl,q⟩:=h;obtain⟨t,rfl⟩:=rx;obtain⟨t',rfl⟩:=ry;exact rule i j t t' s _ _ ⟨.bl (g i j),H,I,rfl,q⟩
def R1(i j:Int):Prop:=0<j/\j<1073741824
def W2(i j:Int):Prop:=0<=j/\j<=1000000/\i.natAbs<2 ^ 64
def JI(i j:Int):Prop:=(-(2 ^ 64)<i/\i<2 ^ 64)\/(-(2 ^ 64)<j/\j<2 ^ 64)
theorem JI.ok(h:JI i j):IntMulOk i j:=by
 rcases h with ⟨h1,h2⟩|⟨h1,h2⟩
 .exact .of_left (intBits_le_64 h1 h2)
 .exact .of_right (intBits_le_64 h1 h2)
theorem cZ:m_ X (binaryOp .Add) (zM fun i j=>.int (i+j)):=RZ fun _ _ _ _ _ _ _ q=>add_int q
theorem jV:m_ X (binaryOp .Sub) (zM fun i j=>.int (i-j)):=RZ fun _ _ _ _ _ _ _ q=>sub_int q
theorem k_:m_ X (binaryOp .Mult) (rI JI fun i j=>.int (i*j)):=RY fun _ _ _ _ _ _ _ hc q=>mul_int q hc.ok
theorem qU:m_ X (binaryOp .FloorDiv) (rI R1 fun i j=>.int (i / j)):=RY fun i j _ _ _ _ _ hc q=>by
 have h1:(0:Int)<j:=hc.1;have h2:j<1073741824:=hc.2;exact floordiv_int (by lia) (by rw[zY i (by lia)];exact q) (.inl (PyProof.noPylong_small (by lia)))
theorem iE:m_ X (binaryOp .Mod) (rI (fun _ j=>0<j) fun i j=>.int (i % j)):=RY fun i j _ _ _ _ _ hc q=>by
 have h1:(0:Int)<j:=hc;exact mod_int' (by lia) (by rw[zX i (by lia)];exact q)
theorem AR:m_ X (binaryOp .Pow) (rI W2 fun i j=>.int (i ^ j.toNat)):=RY fun _ _ _ _ _ _ _ hc q=>pow_int_small hc.1 hc.2.1 hc.2.2 q
theorem unI{f:Value->Sem Value}{g:Int->Int}(rule:∀ (i:Int) (t:Tok) (s:Shared) (Q:Value->Shared->Prop) (E:Value->Shared->Prop),Q (.int (g i) s.toks) { s with toks:=s.toks+1 }->wpAny (model X.prog X.w) X.A (f (.int i t)) Q E s):
  W1 X f (rU fun i=>.int (g i)):=by
 intro af s σ H x v Q I rx h;obtain⟨i,rfl,q⟩:=h;obtain⟨t,rfl⟩:=rx;exact rule i t s _ _ ⟨.int (g i),H,I.tok _,⟨_,rfl⟩,q⟩
theorem sJ:W1 X (unaryOp .USub) (rU fun i=>.int (-i)):=unI fun _ _ _ _ _ q=>neg_int q
end
def ND:V->V->Bool
 |.cB,.cB=>true|.cB,.int _=>true|.int _,.cB=>true|.cB,.bl _=>true|.bl _,.cB=>true|.cB,.str _=>true|.str _,.cB=>true
 |.int _,.int _=>true|.bl _,.bl _=>true|.str _,.str _=>true|.Fj _,.Fj _=>true
 |.int _,.str _=>true|.str _,.int _=>true|.bl _,.str _=>true|.str _,.bl _=>true
 |_,_=>false
def rEq:R2:=fun x y H Q=>ND x y=true/\Q (.bl (decide (x=y))) H
def rNe:R2:=fun x y H Q=>ND x y=true/\Q (.bl (!decide (x=y))) H
theorem Cs:decide (V.int i=V.int j)=(i==j):=by
 rw[kQ];simp
theorem F5:decide (V.bl i=V.bl j)=(i==j):=by
 rw[kQ];simp
theorem Cu:decide (V.str i=V.str j)=(i==j):=by
 rw[kQ];simp
theorem Cv:decide (V.Fj i=V.Fj j)=(i.toList==j.toList):=by
 rw[kQ];cases i;cases j;simp
section
variable {X:Cx} {a b c:Expr} {ta tb tc:TE} {pos:Pos}
theorem bJ(I:aS X af σ H s)(q:Q (.bl k) H)(e:k=k'):EP X af σ Q (.bool k') s:=by
 subst e;exact⟨.bl k,H,I,rfl,q⟩
theorem iF:m_ X (compareOp .Eq) rEq:=by
 intro af s σ H x y v u Q I rx ry h;obtain⟨hs,q⟩:=h;cases x with
 |cB=>
  cases rx;cases y with
  |cB=>cases ry;exact PySem.EqNone.eq_none_none (bJ I q (by simp))
  |bl j=>cases ry;exact PySem.EqNone.eq_none_bool (bJ I q (by simp))
  |int j=>obtain⟨t',rfl⟩:=ry;exact PySem.EqNone.eq_none_int (bJ I q (by simp))
  |str j=>obtain⟨t',rfl⟩:=ry;exact PySem.EqNone.eq_none_str (bJ I q (by simp))
  |_=>exact absurd (show false=true from hs) cw
 |bl i=>
  cases rx;cases y with
  |cB=>cases ry;exact PySem.EqNone.eq_bool_none (bJ I q (by simp))
  |bl j=>cases ry;exact eq_bool (bJ I q F5)
  |str j=>obtain⟨t',rfl⟩:=ry;exact PySem.EqMixed.eq_bool_str (bJ I q (by simp))
  |_=>exact absurd (show false=true from hs) cw
 |int i=>
  obtain⟨t,rfl⟩:=rx;cases y with
  |cB=>cases ry;exact PySem.EqNone.eq_int_none (bJ I q (by simp))
  |int j=>obtain⟨t',rfl⟩:=ry;exact eq_int (bJ I q Cs)
  |str j=>obtain⟨t',rfl⟩:=ry;exact PySem.EqMixed.eq_int_str (bJ I q (by simp))
  |_=>exact absurd (show false=true from hs) cw
 |str i=>
  obtain⟨t,rfl⟩:=rx;cases y with
  |cB=>cases ry;exact PySem.EqNone.eq_str_none (bJ I q (by simp))
  |bl j=>cases ry;exact PySem.EqMixed.eq_str_bool (bJ I q (by simp))
  |int j=>obtain⟨t',rfl⟩:=ry;exact PySem.EqMixed.eq_str_int (bJ I q (by simp))
  |str j=>obtain⟨t',rfl⟩:=ry;exact eq_str (bJ I q Cu)
  |_=>exact absurd (show false=true from hs) cw
 |Fj i=>
  obtain⟨t,rfl⟩:=rx;cases y with
  |Fj j=>obtain⟨t',rfl⟩:=ry;exact PySem.W.eq_bytes (bJ I q Cv)
  |_=>exact absurd (show false=true from hs) cw
 |_=>cases y <;> exact absurd (show false=true from hs) cw
theorem uS:m_ X (compareOp .NotEq) rNe:=by
 intro af s σ H x y v u Q I rx ry h;obtain⟨hs,q⟩:=h;cases x with
 |cB=>
  cases rx;cases y with
  |cB=>cases ry;exact PySem.EqNone.ne_none_none (bJ I q (by simp))
  |bl j=>cases ry;exact PySem.EqNone.ne_none_bool (bJ I q (by simp))
  |int j=>obtain⟨t',rfl⟩:=ry;exact PySem.EqNone.ne_none_int (bJ I q (by simp))
  |str j=>obtain⟨t',rfl⟩:=ry;exact PySem.EqNone.ne_none_str (bJ I q (by simp))
  |_=>exact absurd (show false=true from hs) cw
 |bl i=>
  cases rx;cases y with
  |cB=>cases ry;exact PySem.EqNone.ne_bool_none (bJ I q (by simp))
  |bl j=>cases ry;exact ne_bool (bJ I q (congrArg not F5))
  |str j=>obtain⟨t',rfl⟩:=ry;exact PySem.EqMixed.ne_bool_str (bJ I q (by simp))
  |_=>exact absurd (show false=true from hs) cw
 |int i=>
  obtain⟨t,rfl⟩:=rx;cases y with
  |cB=>cases ry;exact PySem.EqNone.ne_int_none (bJ I q (by simp))
  |int j=>obtain⟨t',rfl⟩:=ry;exact ne_int (bJ I q (congrArg not Cs))
  |str j=>obtain⟨t',rfl⟩:=ry;exact PySem.EqMixed.ne_int_str (bJ I q (by simp))
  |_=>exact absurd (show false=true from hs) cw
 |str i=>
  obtain⟨t,rfl⟩:=rx;cases y with
  |cB=>cases ry;exact PySem.EqNone.ne_str_none (bJ I q (by simp))
  |bl j=>cases ry;exact PySem.EqMixed.ne_str_bool (bJ I q (by simp))
  |int j=>obtain⟨t',rfl⟩:=ry;exact PySem.EqMixed.ne_str_int (bJ I q (by simp))
  |str j=>obtain⟨t',rfl⟩:=ry;exact ne_str (bJ I q (congrArg not Cu))
  |_=>exact absurd (show false=true from hs) cw
 |Fj i=>
  obtain⟨t,rfl⟩:=rx;cases y with
  |Fj j=>obtain⟨t',rfl⟩:=ry;exact PySem.W.ne_bytes (bJ I q (congrArg not Cv))
  |_=>exact absurd (show false=true from hs) cw
 |_=>cases y <;> exact absurd (show false=true from hs) cw
theorem lW:m_ X (compareOp .Lt) (zM fun i j=>.bl (decide (i<j))):=JG fun _ _ _ _ _ _ _ q=>lt_int q
theorem Mh:m_ X (compareOp .LtE) (zM fun i j=>.bl (decide (i<=j))):=JG fun _ _ _ _ _ _ _ q=>le_int q
theorem Mi:m_ X (compareOp .Gt) (zM fun i j=>.bl (decide (j<i))):=JG fun _ _ _ _ _ _ _ q=>gt_int q
theorem Mj:m_ X (compareOp .GtE) (zM fun i j=>.bl (decide (j<=i))):=JG fun _ _ _ _ _ _ _ q=>ge_int q
theorem wr:m_ X (compareOp .Is) (fun x y H Q=>y=.cB/\Q (.bl (decide (x=.cB))) H):=by
 intro af s σ H x y v u Q I rx ry h;obtain⟨rfl,q⟩:=h;cases ry;refine is_none_gen (bJ I q ?_);cases x <;> first
  |(cases rx;rfl)
  |(obtain⟨t,rfl⟩:=rx;rfl)
theorem jW:m_ X (compareOp .IsNot) (fun x y H Q=>y=.cB/\Q (.bl (!decide (x=.cB))) H):=by
 intro af s σ H x y v u Q I rx ry h;obtain⟨rfl,q⟩:=h;cases ry;refine isnot_none_gen (bJ I q ?_);cases x <;> first
  |(cases rx;rfl)
  |(obtain⟨t,rfl⟩:=rx;rfl)
theorem a8(b:Expr)(h:op≠.In:=by decide)(h2:op≠.NotIn:=by decide):behindInMarks op b=false:=by
 have e1:(op==CmpOp.In)=false:=by cases op <;> first|rfl|exact absurd rfl h
 have e2:(op==CmpOp.NotIn)=false:=by cases op <;> first|rfl|exact absurd rfl h2
 cases b <;> simp[behindInMarks,e1,e2]
theorem qV(ho:m_ X (compareOp op) r)(ha:PE X a ta)(hb:PE X b tb)(hm:behindInMarks op b=false):PE X (.Compare a [op] [b] pos) (kr r ta tb):=by
 intro af s σ H Q I h;exact wpAny_Compare1 (NC ha hb I h fun v u s2 x y H2 I2 rx ry q=>ho af s2 σ H2 x y v u Q I2 rx ry q) hm
def sM(t:TE):TT:=fun σ H Q=>t σ H fun x H'=>∃k,x=.bl k/\Q k H'
theorem aQ(ho:m_ X (compareOp op) r)(ha:PE X a ta)(hb:PE X b tb)(hm:behindInMarks op b=false):PT X (.Compare a [op] [b] pos) (sM (kr r ta tb)):=by
 intro af s σ H Q I h;refine wpAny_isTrue_Compare1 (dF (ha af s σ H _ I h) fun v s1 ⟨x,H1,I1,r1,q1⟩=>dF (hb af s1 σ H1 _ I1 q1) fun u s2 ⟨y,H2,I2,r2,q2⟩=>
  dF (ho af s2 σ H2 x y v u _ I2 r1 r2 q2) fun c s3 ⟨z,H3,I3,r3,k,e,q3⟩=>?_) hm
 subst e;cases r3;exact pc ⟨H3,I3,q3⟩
def NF(r r':R2)(ta tb tc:TE):TE:=fun σ H Q=>ta σ H fun x H1=>tb σ H1 fun y H2=>r x y H2 fun z H3=>∃k,z=.bl k/\
 (if k=true then tc σ H3 fun w' H4=>r' y w' H4 Q else Q (.bl false) H3)
theorem F7(ho:m_ X (compareOp op) r)(JE:m_ X (compareOp VN) r')(ha:PE X a ta)(hb:PE X b tb)(hc:PE X c tc)(hm:lastMarks [op,VN] [b,c]=false:=by with_unfolding_all rfl):PE X (.Compare a [op,VN] [b,c] pos) (NF r r' ta tb tc):=by
 intro af s σ H Q I h;refine Compare_chain (dF (ha af s σ H _ I h) fun v s1 ⟨x,H1,I1,r1,q1⟩=>chain_link (dF (hb af s1 σ H1 _ I1 q1) fun u s2 ⟨y,H2,I2,r2,q2⟩=>
  dF (ho af s2 σ H2 x y v u _ I2 r1 r2 q2) fun d s3 ⟨z,H3,I3,r3,k,e,q3⟩=>?_)) hm
 subst e;cases r3;refine pc ?_;cases k with
 |false=>exact ite_ff ⟨.bl false,H3,I3,rfl,q3⟩
 |true=>exact ite_tt (chain_last (dF (hc af s3 σ H3 _ I3 q3) fun w' s4 ⟨z',H4,I4,r4,q4⟩=>JE af s4 σ H4 y z' u w' Q I4 r2 r4 q4))
theorem wu:(sizeLine:Nat)<2 ^ 63:=by rw[ff];decide
theorem Cw(r:aZ [x] us):∃u,us=[u]/\bH x u:=by
 cases r with
 |cons r1 r2=>cases r2;exact⟨_,rfl,r1⟩
theorem F8(r:aZ [x,y] us):∃u w',us=[u,w']/\bH x u/\bH y w':=by
 cases r with
 |cons r1 r2=>
  cases r2 with
  |cons r3 r4=>cases r4;exact⟨_,_,rfl,r1,r3⟩
theorem xX:fh X (.builtin "abs") (fun xs H Q=>∃i,xs=[.int i]/\Q (.int (if i<0 then -i else i)) H):=by
 intro af s σ H xs us Q I r h;obtain⟨i,rfl,q⟩:=h;obtain⟨u,rfl,t,rfl⟩:=Cw r;exact call_abs_int fun u tk=>⟨.int (if i<0 then -i else i),H,I.tok _,⟨_,rfl⟩,q⟩
theorem pL(hc:X.calm=true):fh X (.builtin "max") (fun xs H Q=>∃i j,xs=[.int i,.int j]/\Q (.int (if j > i then j else i)) H):=by
 intro af s σ H xs us Q I r h;obtain⟨i,j,rfl,q⟩:=h;obtain⟨u,w',rfl,⟨t,rfl⟩,⟨t',rfl⟩⟩:=F8 r;refine max_two_ints (I.ok.hd hc) fun h' tk k=>⟨_,H,I.kept k,?_,q⟩
 by_cases hj:j > i
 .rw[ao hj,ao hj];exact⟨_,rfl⟩
 .rw[ak hj,ak hj];exact⟨_,rfl⟩
theorem lK(hc:X.calm=true):fh X (.builtin "min") (fun xs H Q=>∃i j,xs=[.int i,.int j]/\Q (.int (if j<i then j else i)) H):=by
 intro af s σ H xs us Q I r h;obtain⟨i,j,rfl,q⟩:=h;obtain⟨u,w',rfl,⟨t,rfl⟩,⟨t',rfl⟩⟩:=F8 r;refine min_two_ints (I.ok.hd hc) fun h' tk k=>⟨_,H,I.kept k,?_,q⟩
 by_cases hj:j<i
 .rw[ao hj,ao hj];exact⟨_,rfl⟩
 .rw[ak hj,ak hj];exact⟨_,rfl⟩
end
structure AS(h:Heap)(x dx C:Addr)(mA:Str->Option Value):Prop where
 obj:h.get? x=some (PySem.W.instObj C dx)
 ns:h.Ns1 dx mA
 ne:dx≠x
theorem DZ{h:Heap}{dx:Addr}{mA:Str->Option Value}(n:h.Ns1 dx mA):∃od,h.get? dx=some od/\∀name,PySem.W.lookIn name od=some (mA name):=by
 obtain⟨o,es,ep,ho,hd,hk,_,hm⟩:=n;refine⟨o,ho,fun name=>?_⟩;have e:=hm name;unfold nsFind findBy at e;rw[<-Array.find?_toList] at e;unfold PySem.W.lookIn;rw[hd];dsimp only;split
 .rename_i y q;rw[q] at e;exact congrArg some e
 .rename_i q;rw[q] at e;have a:es.toList.any (·.refKey)=false:=by
   rw[rV];intro y hy;obtain⟨z,t,ur⟩:=hk y (Array.mem_toList_iff.mp hy);simp[DictEntry.refKey,ur]
  have a':¬ es.toList.any (·.refKey)=true:=by rw[a];exact cw
  rw[ak a'];exact congrArg some e
theorem AS.look(I:AS h x dx C mA):∃od,PySem.W.InstAt h x (PySem.W.instObj C dx) C (some od)/\∀name,PySem.W.lookIn name od=some (mA name):=
 let ⟨od,ho,hl⟩:=DZ I.ns
 ⟨od,⟨I.obj,rfl,rfl,ho⟩,hl⟩
section
variable {prog:Program} {w:World} {A:Around} {E:Value->Shared->Prop} {s:Shared} {K:PySem.W.Frag} {x dx C f:Addr} {mA:Str->Option Value} {name:Str} {v:Value}
theorem JJ(X:K.In s.heap)(I:AS s.heap x dx C mA)(hg:PySem.W.plainGet K C name=true)(hh:PySem.W.hasDictIn K C=true)(ha:PySem.W.findIn K (.ref C) name=some none)(hv:mA name=some v)(D4:PySem.W.handedIn v=true)(h:Q v { s with toks:=s.toks+1 }):
  wpAny (model prog w) A (getAttr (.ref x) name JK) Q E s:=by
 obtain⟨od,J,hl⟩:=I.look;exact PySem.W.get_value X J (Ag hg).1 (PySem.W.findObj_own hh ha rfl (by rw[hl,hv])) D4 h
theorem F9(X:K.In s.heap)(I:AS s.heap x dx C mA)(hg:PySem.W.plainGet K C name=true)(hf:PySem.W.findIn K (.ref C) name=some (some (.ref f)))(ht:PySem.W.isFn K (.ref f)=true)(hv:mA name=none)(h:Q (.ref f,[.ref x]) s):
  wpAny (model prog w) A (getMethod (.ref x) name pl) Q E s:=by
 obtain⟨od,J,hl⟩:=I.look;exact PySem.W.method_fn X J (Ag hg).1 (Ag hg).2 hf (fj.mp ht) (by show (PySem.W.lookIn name od).map (·.isSome)=some false;rw[hl,hv];rfl) h
theorem JM(X:K.In s.heap)(I:AS s.heap x dx C mA)(hs:PySem.W.findIn K (.ref C) "__setattr__"=some (some (.builtin "object.__setattr__")))(hp:PySem.W.plainOver K C=true)(ht:PySem.W.takerIn K C name=some none)(hh:PySem.W.hasDictIn K C=true)(hw:PySem.Within mA ns)(gZ:ns.length<=sizeLine)(h:∀h',AS h' x dx C (fun y=>if y=name then some v else mA y)->Heap.SameBut dx s.heap h'->Q () { s with heap:=h',toks:=s.toks+2 }):
  wpAny (model prog w) A (setAttr (.ref x) name v) Q E s:=by
 obtain⟨od,J,hl⟩:=I.look;refine PySem.W.set_plain X J hs (PySem.W.osa_open (s:={ s with toks:=s.toks+1 }) (r:=none) X J hp ht fun b=>?_);obtain⟨cd,hc,JF⟩:=PySem.W.any_some hh;have hx:s.heap.get? x=some ⟨.ref C,some dx,.plain,#[]⟩:=I.obj;refine aw (wpAny_pure (aw (aw (wpAny_loadPart hx (aw (PySem.W.Looks.here (s:={ s with toks:=s.toks+1 }) (PySem.W.looks_clsIn X hc) ?_))))));rw[JF];refine wpAny_pure (a:=some dx) (aw (wpAny_pure (aw ?_)));refine wpAny_nsSet1 (s:={ s with toks:=s.toks+1 }) I.ns fun h' QO lJ=>?_;obtain⟨oD,esD,epD,hoD,R4,JN⟩:=QO.count (PySem.Within.cons name v hw);refine aw (wpAny_lookBehind hoD (by rw[R4];exact pastItsLine_dict (aX JN (by rw[eF];lia))) ?_);exact wpAny_pure (h _ ⟨(lJ.2 _ (dv I.ne)).trans I.obj,QO,I.ne⟩ lJ)
theorem F_(X:K.In s.heap)(hm:PySem.W.makesIn K C=true)(hi:PySem.W.findIn K (.ref C) "__init__"=some (some (.ref f)))(hf:PySem.W.typeIn K (.ref f)=some (.type "function"))(h:codeAny (model prog w) (A.under (.builtin "type.__call__" ⟨.ref C::vs,kw⟩)) (.call (.ref f) ⟨.ref (s.heap.objs.size+1)::vs,kw⟩) (PySem.W.InitBack (s.heap.objs.size+1) R)
   { s with heap:=(s.heap.push PySem.W.emptyDict).push (PySem.W.instObj C s.heap.objs.size) }):
  codeAny (model prog w) A (.call (.ref C) ⟨vs,kw⟩) R s:=by
 obtain⟨hh,g,d,t,os⟩:=s;exact PySem.W.make_core (Au X hm) (PySem.W.looks_findIn X hi) (fun self=>PySem.W.bind_fn X self hf) (.inl rfl) h
theorem D5(X:K.In s.heap)(hm:PySem.W.makesIn K C=true)(hi:PySem.W.findIn K (.ref C) "__init__"=some (some (.builtin "object.__init__")))(hb:∀self,PySem.W.Looks (model prog w) s.heap (bindSpecial (.builtin "object.__init__") self) (.builtin "object.__init__",[self]))(h:codeAny (model prog w) (A.under (.builtin "type.__call__" ⟨[.ref C],[]⟩)) (.call (.builtin "object.__init__") ⟨[.ref (s.heap.objs.size+1)],[]⟩) (PySem.W.InitBack (s.heap.objs.size+1) R)
   { s with heap:=(s.heap.push PySem.W.emptyDict).push (PySem.W.instObj C s.heap.objs.size) }):
  codeAny (model prog w) A (.call (.ref C) ⟨[],[]⟩) R s:=by
 obtain⟨hh,g,d,t,os⟩:=s;exact PySem.W.make_core (Au X hm) (PySem.W.looks_findIn X hi) hb (.inr ⟨rfl,rfl⟩) h
end
def d_(f:Str)(v:V):List (Str×V)->List (Str×V)
 |[]=>[(f,v)]
 |(g,x)::r=>if g=f then (g,v)::r else (g,x)::d_ f v r
theorem bu(f g:Str)(v:V):∀fs:List (Str×V),(d_ f v fs).lookup g=if g=f then some v else fs.lookup g
 |[]=>by
  show List.lookup g [(f,v)]=_;by_cases h:g=f
  .have hb:(g==f)=true:=fj.mpr h;simp only[List.lookup,hb,ao h]
  .have hb:(g==f)=false:=nq.mpr h;simp only[List.lookup,hb,ak h]
 |(k,x)::r=>by
  have ih:=bu f g v r;rw[show d_ f v ((k,x)::r)=(if k=f then (k,v)::r else (k,x)::d_ f v r) from rfl];by_cases hk:k=f
  .rw[ao hk];by_cases h:g=k
   .have hb:(g==k)=true:=fj.mpr h;simp only[List.lookup,hb,ao (h.trans hk)]
   .have hb:(g==k)=false:=nq.mpr h;simp only[List.lookup,hb,ak (fun e:g=f=>h (e.trans hk.symm))]
  .rw[ak hk];by_cases h:g=k
   .have hb:(g==k)=true:=fj.mpr h;simp only[List.lookup,hb,ak (fun e:g=f=>hk (h.symm.trans e))]
   .have hb:(g==k)=false:=nq.mpr h;simp only[List.lookup,hb];exact ih
theorem pM(f:Str)(v:V):∀fs:List (Str×V),f∈(d_ f v fs).map (·.1)/\∀g,g∈fs.map (·.1)->g∈(d_ f v fs).map (·.1)
 |[]=>⟨by simp[d_],fun g h=>by simp at h⟩
 |(k,x)::r=>by
  obtain⟨i1,i2⟩:=pM f v r;rw[show d_ f v ((k,x)::r)=(if k=f then (k,v)::r else (k,x)::d_ f v r) from rfl];by_cases hk:k=f
  .rw[ao hk];subst hk;exact⟨by simp,fun g h=>by simpa using h⟩
  .rw[ak hk];refine⟨?_,fun g h=>?_⟩
   .rw[fv];exact cD _ i1
   .rw[fv] at h |-;rcases bb.mp h with e|e
    .exact bb.mpr (.inl e)
    .exact cD _ (i2 g e)
theorem eO(f:Str)(v:V):∀fs:List (Str×V),(d_ f v fs).length<=fs.length+1
 |[]=>by simp[d_]
 |(k,x)::r=>by
  have ih:=eO f v r;rw[show d_ f v ((k,x)::r)=(if k=f then (k,v)::r else (k,x)::d_ f v r) from rfl];by_cases hk:k=f
  .rw[ao hk,eF,eF];lia
  .rw[ak hk,eF,eF];lia
theorem nr.some_of(r:nr (some v) o):∃u,o=some u/\bH v u:=by
 cases o with
 |none=>exact(show False from r).elim
 |some u=>exact⟨u,rfl,r⟩
theorem nr.none_of(r:nr none o):o=none:=by
 cases o with
 |none=>rfl
 |some u=>exact(show False from r).elim
theorem D6(r:bH v u):PySem.W.handedIn u=true:=by
 cases v with
 |cB=>cases (show u=Value.none from r);rfl
 |bl b=>cases (show u=Value.bool b from r);rfl
 |int i=>obtain⟨t,e⟩:=(show ∃t,u=Value.int i t from r);cases e;rfl
 |str x=>obtain⟨t,e⟩:=(show ∃t,u=Value.str x t from r);cases e;rfl
 |Fj b=>obtain⟨t,e⟩:=(show ∃t,u=Value.bytes b t from r);cases e;rfl
 |Nj b=>obtain⟨t,e⟩:=(show ∃t,u=Value.float b t from r);cases e;rfl
 |ref a=>cases (show u=Value.ref a from r);rfl
 |ty n=>cases (show u=Value.type n from r);rfl
section
variable {P:Program} {w:World} {H H':Hp} {h h':Heap} {a C dx:Addr} {fs fs':List (Str×V)}
theorem qW(ce:mE P w H h)(e:H a=some (.ins C dx fs)):∃mA,AS h a dx C mA/\(∀f,nr (fs.lookup f) (mA f))/\PySem.Within mA (fs.map (·.1))/\fs.length<=1000/\H dx=some (.own a):=by
 obtain⟨d,z,ne,ob,mA,n,r,q⟩:=(show cI P w H h a (.ins C dx fs) from ce a _ e)
 exact⟨mA,⟨ob,n,ne⟩,r,q,z,d⟩
end
structure Fm(K:PySem.W.Frag)(C:Addr):Prop where
 pg:PySem.W.plainGet K C Str.empty=true
 hd:PySem.W.hasDictIn K C=true
 po:PySem.W.plainOver K C=true
 sa:PySem.W.findIn K (.ref C) "__setattr__"=some (some (.builtin "object.__setattr__"))
theorem Fm.get{K:PySem.W.Frag}{C:Addr}(c:Fm K C)(f:Str):PySem.W.plainGet K C f=true:=c.pg
def iG(K:PySem.W.Frag)(C:Addr)(f:Str):Prop:=PySem.W.findIn K (.ref C) f=some none
theorem iG.R7{K:PySem.W.Frag}{C:Addr}{f:Str}(n:iG K C f):PySem.W.takerIn K C f=some none:=by
 unfold PySem.W.takerIn;rw[show PySem.W.findIn K (.ref C) f=some none from n];rfl
structure NG(K:PySem.W.Frag)(C:Addr)(m:Str)(f:Addr):Prop where
 at_:PySem.W.findIn K (.ref C) m=some (some (.ref f))
 fn:PySem.W.isFn K (.ref f)=true
 kp:PySem.W.keepIn K (.ref f)=true
section
variable {X:Cx} {af:List (Addr×Obj)} {σ:St} {H:Hp} {s:Shared} {a C dx:Addr} {fs:List (Str×V)} {f:Str} {v:V} {A:Around} {E:Value->Shared->Prop}
theorem AT(I:aS X af σ H s)(e:H a=some (.ins C dx fs))(c:Fm X.K C)(n:iG X.K C f)(l:fs.lookup f=some v)(h:∀u s',aS X af σ H s'->bH v u->Q u s'):wpAny (model X.prog X.w) A (getAttr (.ref a) f b) Q E s:=by
 obtain⟨mA,O,r,_,_,_⟩:=qW I.ce e;obtain⟨u,hu,ru⟩:=nr.some_of (v:=v) (o:=mA f) (by rw[<-l];exact r f);exact JJ I.ny O (c.get f) c.hd n hu (D6 ru) (h u _ (I.tok _) ru)
theorem AU(I:aS X af σ H s)(e:H a=some (.ins C dx fs))(c:Fm X.K C)(k:NG X.K C m g)(l:fs.lookup m=none)(h:Q (.ref g,[.ref a]) s):wpAny (model X.prog X.w) A (getMethod (.ref a) m pl) Q E s:=by
 obtain⟨mA,O,r,_,_,_⟩:=qW I.ce e;have hn:mA m=none:=nr.none_of (by rw[<-l];exact r m);exact F9 I.ny O (c.get m) k.at_ k.fn hn h
theorem AV(I:aS X af σ H s)(e:H a=some (.ins C dx fs))(c:Fm X.K C)(n:iG X.K C f)(hl:fs.length<1000)(ry:bH y u)(h:∀s',aS X af σ (upd H a (.ins C dx (d_ f y fs))) s'->Q () s'):wpAny (model X.prog X.w) A (setAttr (.ref a) f u) Q E s:=by
 obtain⟨mA,O,r,wi,_,ho⟩:=qW I.ce e;have hz:(fs.map (·.1)).length<=sizeLine:=by rw[aT,ff];lia
 refine JM I.ny O c.sa c.po n.R7 c.hd wi hz fun h' O' sb=>h _ ?_;have hd:∃o,h'.get? dx=some o:=let ⟨o,_,_,e',_⟩:=O'.ns;⟨o,e'⟩;refine I.write (x:=a) (e:=dx) (by rw[e];exact True.intro) (.inr ho) (fun b q hb z=>(sb.2 b hb).trans z) hd ?_;refine⟨by rw[ap O.ne];exact ho,?_,O.ne,O'.obj,_,O'.ns,fun g=>?_,fun g hg=>?_⟩
 .have:=eO f y fs;lia
 .show nr ((d_ f y fs).lookup g) (if g=f then some u else mA g);rw[bu];by_cases q:g=f
  .rw[ao q,ao q];exact ry
  .rw[ak q,ak q];exact r g
 .by_cases q:g=f
  .rw[q];exact(pM f y fs).1
  .refine(pM f y fs).2 g (wi g fun z=>hg ?_);show (if g=f then some u else mA g)=none;rw[ak q];exact z
theorem aS.made(I:aS X af σ H s):aS X af σ (upd (upd H s.heap.objs.size (.own (s.heap.objs.size+1))) (s.heap.objs.size+1) (.ins C s.heap.objs.size []))
  { s with heap:=(s.heap.push PySem.W.emptyDict).push (PySem.W.instObj C s.heap.objs.size) }:=by
 have e1:(s.heap.push PySem.W.emptyDict).get? s.heap.objs.size=some PySem.W.emptyDict:=b_ s.heap rfl;have e2:((s.heap.push PySem.W.emptyDict).push (PySem.W.instObj C s.heap.objs.size)).get? (s.heap.objs.size+1)=some (PySem.W.instObj C s.heap.objs.size):=by
  have:=b_ (s.heap.push PySem.W.emptyDict) (o:=PySem.W.instObj C s.heap.objs.size) rfl;rwa [iy] at this
 have e3:(s.heap.push PySem.W.emptyDict).Ns s.heap.objs.size (fun _=>none):=⟨PySem.W.emptyDict,#[],_,e1,rfl,(fun e he=>absurd he (by simp)),fun _=>rfl⟩
 have I1:=I.laid (a:=s.heap.objs.size) (o:=.own (s.heap.objs.size+1)) (h':=s.heap.push PySem.W.emptyDict) (t':=s.toks) (fun b u q=>bw _ q) (aK _) ⟨_,e1⟩;refine I1.laid (a:=s.heap.objs.size+1) (o:=.ins C s.heap.objs.size []) (t':=s.toks) (fun b u q=>bw _ q) (pB (iy _ _)) ?_;have ne:s.heap.objs.size≠s.heap.objs.size+1:=ba (kH _);refine⟨by rw[ap ne,ae],bE _,ne,e2,fun _=>none,(Heap.Ns1.of_empty e3).at fun o q=>bw _ q,fun _=>True.intro,fun y hy=>absurd rfl hy⟩
theorem JO(hb:attributeBase e f env (eval e env)=eval e env)(h:wpAny (model prog w) A (eval e env) (fun o s₁=>wpAny (model prog w) A (getAttr o f true) Q E s₁) E s):wpAny (model prog w) A (eval (.Attribute e f pos) env) Q E s:=
 Attribute_any_ h (by rw[arm_eval_Attribute,hb])
end
def JP(K:PySem.W.Frag)(ta:TE)(f:Str):TE:=fun σ H Q=>ta σ H fun x H1=>∃a C dx fs v,x=.ref a/\H1 a=some (.ins C dx fs)/\Fm K C/\iG K C f/\fs.lookup f=some v/\Q v H1
def W3(K:PySem.W.Frag)(ta tv:TE)(f:Str):TS:=fun D σ H=>tv σ H fun y H1=>ta σ H1 fun x H2=>∃a C dx fs,x=.ref a/\H2 a=some (.ins C dx fs)/\Fm K C/\iG K C f/\fs.length<1000/\
 D.nx σ (upd H2 a (.ins C dx (d_ f y fs)))
section
variable {X:Cx} {o e value:Expr} {f:Str} {pos DW Ga:Pos} {ta tv:TE}
theorem jX(he:PE X e ta)(hb:attributeBase e f X.env (eval e X.env)=eval e X.env):PE X (.Attribute e f pos) (JP X.K ta f):=by
 intro af s σ H Q I h;refine JO hb (dF (he af s σ H _ I h) fun u s1 ⟨x,H1,I1,rx,a,C,dx,fs,v,ex,ea,c,n,l,q⟩=>?_);subst ex;obtain rfl:u=Value.ref a:=rx;exact AT I1 ea c n l fun u' s2 I2 ru=>⟨v,H1,I2,ru,q⟩
theorem sO(ha:PE X o ta)(hv:PE X value tv)(hs:swapsWith value (some (.Attribute o f DW)) pos.line X.env=pure false):PS X (.Assign [.Attribute o f DW] value pos) (W3 X.K ta tv f):=by
 intro af s σ H D I h;refine plainObj_wpAny_Assign_Attribute (dF (hv af s σ H _ I h) fun u s1 ⟨y,H1,I1,ry,q⟩=>dF (ha af s1 σ H1 _ I1 q) fun ov s2 ⟨x,H2,I2,rx,a,C,dx,fs,ex,ea,c,n,l,q2⟩=>?_) hs;subst ex;obtain rfl:ov=Value.ref a:=rx;exact AV I2 ea c n l ry fun s3 I3=>⟨σ,_,I3,q2⟩
end
section
variable {X:Cx} {af:List (Addr×Obj)} {σ:St} {H:Hp} {s:Shared} {A:Around} {E:Value->Shared->Prop} {Q:Value->Shared->Prop} {c:Value} {b:Bool}
inductive pN (K:PySem.W.Frag) (H:Hp):V->Value->Prop where
 |cB:pN K H .cB (.type "NoneType")
 |bl (x:Bool):pN K H (.bl x) (.type "bool")
 |int (i:Int):pN K H (.int i) (.type "int")
 |str (x:Str):pN K H (.str x) (.type "str")
 |Nj (x:UInt64):pN K H (.Nj x) (.type "float")
 |lst {a:Addr} {xs:List V} (e:H a=some (.lst xs)):pN K H (.ref a) (.type "list")
 |xI {a:Addr} {o:Obj} {xs:List V} (e:H a=some (.xI o (.lst xs))):pN K H (.ref a) (.type "list")
 |tup {a:Addr} {xs:List V} (e:H a=some (.tup xs)):pN K H (.ref a) (.type "tuple")
 |dK {a:Addr} {dq:List (io×V)} (e:H a=some (.dK dq)):pN K H (.ref a) (.type "dict")
 |dT {a:Addr} {dq:List (List io×V)} (e:H a=some (.dT dq)):pN K H (.ref a) (.type "dict")
 |ins {a C dx:Addr} {fs:List (Str×V)} (e:H a=some (.ins C dx fs)) (cl:Fm K C) (ha:PySem.W.findIn K (.ref C) "__class__"=some (some (.builtin "object.__class__")))
   (hn:PySem.W.specialIn K (.builtin "object.__class__") "__get__"=some (some (.builtin "getset_descriptor.__get__"))) (R8:PySem.W.takesIn K (.builtin "object.__class__")=some true)
   (hm:PySem.W.mroIn K C (.type "object")=some true):pN K H (.ref a) (.ref C)
theorem uT(I:aS X af σ H s)(rx:bH x u)(ty:pN X.K H x t)(e:PySem.W.kitOne X.K t c=some b)(h:∀tk,Q (.bool b) { s with toks:=tk }):
  wpAny (model X.prog X.w) A (call (.builtin "isinstance") [u,c]) Q E s:=by
 cases ty with
 |cB=>cases (show u=Value.none from rx);exact jq PySem.W.kitx_none I.ny True.intro e (fun z=>nomatch z) h
 |bl y=>cases (show u=Value.bool y from rx);exact jq PySem.W.kitx_bool I.ny True.intro e (fun z=>nomatch z) h
 |int i=>obtain⟨t,q⟩:=(show ∃t,u=Value.int i t from rx);cases q;exact jq PySem.W.kitx_int I.ny True.intro e (fun z=>nomatch z) h
 |str y=>obtain⟨t,q⟩:=(show ∃t,u=Value.str y t from rx);cases q;exact jq PySem.W.kitx_str I.ny True.intro e (fun z=>nomatch z) h
 |Nj y=>obtain⟨t,q⟩:=(show ∃t,u=Value.float y t from rx);cases q;exact jq PySem.W.kitx_float I.ny True.intro e (fun z=>nomatch z) h
 |@lst a xs ea=>
  cases (show u=Value.ref a from rx);obtain⟨_,_,n,_,h1⟩:=(show cI X.prog X.w H s.heap a (.lst xs) from I.ce a _ ea)
  exact jq PySem.W.kitx_list I.ny ⟨_,h1,rfl⟩ e (fun z=>nomatch z) h
 |@xI a ob xs ea=>
  cases (show u=Value.ref a from rx);obtain⟨_,_,_,n,_,h1⟩:=(show cI X.prog X.w H s.heap a (.xI ob (.lst xs)) from I.ce a _ ea)
  exact jq PySem.W.kitx_list I.ny ⟨_,h1,rfl⟩ e (fun z=>nomatch z) h
 |@tup a xs ea=>
  cases (show u=Value.ref a from rx);obtain⟨_,_,_,p⟩:=(show cI X.prog X.w H s.heap a (.tup xs) from I.ce a _ ea)
  obtain⟨o,h1,h2,_⟩:=p;exact jq PySem.W.kitx_tuple I.ny ⟨o,h1,h2⟩ e (fun z=>nomatch z) h
 |@dK a dq ea=>
  cases (show u=Value.ref a from rx);obtain⟨_,_,vs,_,p⟩:=(show cI X.prog X.w H s.heap a (.dK dq) from I.ce a _ ea)
  obtain⟨o,es,ep,h1,h2,_⟩:=p;exact jq PySem.W.kitx_dict I.ny ⟨o,h1,h2.1⟩ e (fun z=>nomatch z) h
 |@dT a dq ea=>
  cases (show u=Value.ref a from rx);obtain⟨_,_,xs,_,o,es,ep,h1,h2,_⟩:=(show cI X.prog X.w H s.heap a (.dT dq) from I.ce a _ ea)
  exact jq PySem.W.kitx_dict I.ny ⟨o,h1,h2.1⟩ e (fun z=>nomatch z) h
 |@ins a C dx fs ea cl ha hn R8 hm=>
  cases (show u=Value.ref a from rx);obtain⟨mA,O,_⟩:=qW I.ce ea;obtain⟨od,J,_⟩:=O.look;exact jq (PySem.W.kitx_own (cl.get _) cl.hd ha hn R8 hm) I.ny J e (fun z=>nomatch z) h
end
structure cg(k:Nat)(A:Around):Prop where
 hd:A.handled=none
 dp:A.depth+3*k+5<recursionLimit
 un:A.units+16*k+200<cLine
 gd:A.guards=some []
theorem cg.mono(r:cg k A)(h:j<=k):cg j A:=⟨r.hd,by have:=r.dp;lia,by have:=r.un;lia,r.gd⟩
theorem cg.deeper(r:cg (k+1) A)(env:Env):cg k (A.deeper env):=
 ⟨r.hd,by have:=r.dp;show A.depth+1+3*k+5<_;lia,by have:=r.un;show A.units+3+16*k+200<_;lia,r.gd⟩
theorem cg.in1(r:cg (k+1) A):cg k A.in1:=
 ⟨r.hd,by have:=r.dp;show A.depth+3*k+5<_;lia,by have:=r.un;show A.units+1+16*k+200<_;lia,r.gd⟩
theorem AW{A:Around}{C:Addr}{us:List Value}{kw:List (Str×Value)}:(A.under (.builtin "type.__call__" ⟨.ref C::us,kw⟩)).depth=A.depth+1:=by
 first|rfl|simp[Around.under,Code.weight,Code.isCreation,Code.isGuard,Code.isCaller,Code.frames,Code.isFrame,guardIds]
theorem AX{A:Around}{C:Addr}{us:List Value}{kw:List (Str×Value)}:(A.under (.builtin "type.__call__" ⟨.ref C::us,kw⟩)).units=A.units+1:=by
 first|rfl|simp[Around.under,Code.cUnits,Code.frames,Code.isFrame]
theorem cg.make(r:cg (k+1) A)(C:Addr)(us:List Value)(kw:List (Str×Value)):cg k (A.under (.builtin "type.__call__" ⟨.ref C::us,kw⟩)):=
 ⟨r.hd,by have:=r.dp;rw[AW];lia,by have:=r.un;rw[AX];lia,r.gd⟩
theorem cg.depth(r:cg k A):A.depth<recursionLimit:=by have:=r.dp;lia
theorem cg.u(r:cg k A)(h:n<=200:=by decide):A.units+n<cLine:=by have:=r.un;lia
def gI:TA:=fun _ H Q=>Q [] H
def bo(ta:TE)(tr:TA):TA:=fun σ H Q=>ta σ H fun x H1=>tr σ H1 fun xs H2=>Q (x::xs) H2
section
variable {X:Cx} {e:Expr} {es:List Expr} {te:TE} {t:TA} {pos:Pos}
theorem ag:PA X [] gI:=fun _ _ _ _ H Q I h=>Calls.spliced_nil ⟨[],H,I,.nil,h⟩
theorem aa(ha:PE X e te)(hr:PA X es t)(hs:starEach (e::es) X.env=(false,eval e X.env)::starEach es X.env:=by rfl):PA X (e::es) (bo te t):=by
 intro pos af s σ H Q I h;rw[hs];show wpAny _ _ (spliced ((false,eval e X.env)::backTo pos (starEach es X.env))) _ _ s;refine Calls.spliced_cons (dF (ha af s σ H _ I h) fun u s1 ⟨x,H1,I1,r1,q1⟩=>?_);exact dF (hr pos af s1 σ H1 _ I1 q1) fun us s2 ⟨xs,H2,I2,r2,q2⟩=>⟨x::xs,H2,I2,.cons r1 r2,q2⟩
def sQ(t:TA):TE:=fun σ H Q=>t σ H fun xs H1=>xs.length<=sizeLine/\∀p,H1 p=none->Q (.ref p) (upd H1 p (.tup xs))
def W4(t:TA):TE:=fun σ H Q=>t σ H fun xs H1=>xs.length<=sizeLine/\∀p,H1 p=none->Q (.ref p) (upd H1 p (.lst xs))
theorem cQ{x1}(h:PA X es t):PE X (.Tuple es x1 pos) (sQ t):=by
 intro af s σ H Q I hq;refine wpAny_Tuple_spliced (dF (h pos af s σ H _ I hq) fun us s1 ⟨xs,H1,I1,r,z,q⟩=>⟨by rw[<-r.length];exact z,?_⟩);have hf:H1 s1.heap.objs.size=none:=I1.ce.fresh (aK _);refine⟨.ref s1.heap.objs.size,upd H1 s1.heap.objs.size (.tup xs),I1.laid (t':=s1.toks) (fun b u e=>bw _ e) (aK _) ?_,rfl,q _ hf⟩;exact⟨z,us,r,⟨_,b_ _ rfl,rfl,_,rfl,rfl⟩⟩
theorem cS(h:PA X es t):PE X (.List es pos) (W4 t):=by
 intro af s σ H Q I hq;refine wpAny_List_spliced (dF (h pos af s σ H _ I hq) fun us s1 ⟨xs,H1,I1,r,z,q⟩=>⟨by rw[<-r.length];exact z,?_⟩);have hf:H1 s1.heap.objs.size=none:=I1.ce.fresh (aK _);refine⟨.ref s1.heap.objs.size,upd H1 s1.heap.objs.size (.lst xs),I1.laid (t':=s1.toks) (fun b u e=>bw _ e) (aK _) ?_,rfl,q _ hf⟩;exact⟨z,us,0,r,b_ _ rfl⟩
end
abbrev Sp:=List V->Hp->VK->XK->Prop
abbrev zN:=List Env->Hp->Shared->XK->Value->Shared->Prop
structure AY(P:Program)(w:World)(K:PySem.W.Frag)(mg:Str->Option Value)(base:Heap)(A:Around)(outer:List Env)(s:Shared)(H:Hp):Prop where
 frames:A.frames=some outer
 mod:Mod K mg base
 bs:∀b o,base.get? b=some o->s.heap.get? b=some o/\H b=none
 FT:base.objs.size<=s.heap.objs.size
 qC:s.heap.FunFrames base outer
 Nl:∀b∈Fk outer,H b=none
 ce:mE P w H s.heap
 bare:AllBare s.gens
def CE(outer:List Env)(P:Program)(w:World)(H:Hp)(s:Shared)(Q:VK)(u:Value)(s':Shared):Prop:=
 ∃v H',s'.os=s.os/\AllBare s'.gens/\Un (Fk outer) [] H H' s.heap s'.heap/\mE P w H' s'.heap/\bH v u/\Q v H'
def CR(CX:zN)(outer:List Env)(P:Program)(w:World)(H:Hp)(s:Shared)(Q:VK)(E:XK)(r:Result)(s':Shared):Prop:=
 match r with
 |.ok (.ret u)=>CE outer P w H s Q u s'
 |.ok _=>False
 |.error e=>CX outer H s E e s'
structure bA(P:Program)(w:World)(K:PySem.W.Frag)(mg:Str->Option Value)(base:Heap)(CX:zN)(k:Nat)(f:Addr)(fd:FuncData)(ps:List Str)(sp:Sp):Prop where
 len:∀vs H Q E,sp vs H Q E->vs.length=ps.length
 run:∀ (A:Around) (outer:List Env) (s:Shared) (H:Hp) (args:Args) (us:List Value) (vs:List V) (Q:VK) (E:XK),cg k A->AY P w K mg base A outer s H->BindsTo s fd args (ps.zip us)->aZ vs us->sp vs H Q E->
  codeAny (model P w) A (.call (.ref f) args) (CR CX outer P w H s Q E) s
theorem AY.make{P:Program}{w:World}{K:PySem.W.Frag}{mg:Str->Option Value}{base:Heap}{A:Around}{outer:List Env}{s:Shared}{H:Hp}(e:AY P w K mg base A outer s H)(C:Addr)(us:List Value)(kw:List (Str×Value)):
  AY P w K mg base (A.under (.builtin "type.__call__" ⟨.ref C::us,kw⟩)) outer s H:=⟨by first|exact e.frames|(simpa [Around.under,Code.envs,Code.isFrame,pushEnvs] using e.frames),e.mod,e.bs,e.FT,e.qC,e.Nl,e.ce,e.bare⟩
section
variable {X:Cx} {af:List (Addr×Obj)} {σ:St} {H:Hp} {s s':Shared}
theorem aS.R9(I:aS X af σ H s):AY X.prog X.w X.K X.mg X.base X.A X.stack s H:=
 ⟨I.ok.frames,I.ok.mod,I.bs,aX I.ok.FT I.sz,I.stack,I.wg,I.ce,I.bare⟩
theorem aS.after(I:aS X af σ H s)(h:CE X.stack X.prog X.w H s Q u s'):EP X af σ Q u s':=by
 obtain⟨v,H',os,bare,un,ce,r,q⟩:=h;obtain⟨hh,g,d,t,os'⟩:=s';obtain rfl:os'=s.os:=os;exact⟨v,H',I.call (h':=hh) (g':=g) (d':=d) (t':=t) (ch:=[]) un ce bare (fun b z=>absurd z (by simp)),r,q⟩
end
def nC(sp:Sp)(ut:List V)(E:XK)(t:TA):TE:=fun σ H Q=>t σ H fun vs H1=>sp (vs++ut) H1 Q E
def Cy(C:Addr)(m:Str)(sp:Sp)(ut:List V)(E:XK)(ta:TE)(t:TA):TE:=fun σ H Q=>ta σ H fun x H1=>∃a dx fs,x=.ref a/\H1 a=some (.ins C dx fs)/\fs.lookup m=none/\
 t σ H1 fun vs H2=>sp (x::(vs++ut)) H2 Q E
def R_(C:Addr)(sp:Sp)(ut:List V)(E:XK)(t:TA):TE:=fun σ H Q=>t σ H fun vs H1=>∀x dx,H1 x=none->H1 dx=none->dx≠x->
 sp (.ref x::(vs++ut)) (upd (upd H1 dx (.own x)) x (.ins C dx [])) (fun v H2=>v=.cB/\Q (.ref x) H2) E
def j_(K:PySem.W.Frag)(fd:FuncData)(ps:List Str)(ds:List Value):Prop:=
 ∀ (s:Shared) (us:List Value),K.In s.heap->(us++ds).length=ps.length->BindsTo s fd ⟨us,[]⟩ (ps.zip (us++ds))
theorem j_.all{K:PySem.W.Frag}{fd:FuncData}{ps:List Str}(h:∀us:List Value,us.length=ps.length->bindArgs fd ⟨us,[]⟩=pure (ps.zip us)):j_ K fd ps []:=fun s us _ hl=>by
 rw[ja] at hl |-;exact .of_eq (h us hl)
def mI(CX:zN)(X:Cx)(E:XK):Prop:=∀ (af:List (Addr×Obj)) (σ:St) (H:Hp) (s:Shared) (e:Value) (s':Shared),aS X af σ H s->CX X.stack H s E e s'->X.xe e s'
section
variable {X:Cx} {CX:zN} {k:Nat} {f C:Addr} {fd:FuncData} {ps:List Str} {sp:Sp} {ut:List V} {ds:List Value} {E:XK} {x m:Str} {p pos wv:Pos} {e o:Expr} {es:List Expr} {ta:TE} {t:TA}
theorem Gb(F:bA X.prog X.w X.K X.mg X.base CX k f fd ps sp)(hr:cg k X.A)(hb:j_ X.K fd ps ds)(hd:aZ ut ds)(hx:mI CX X E)(I:aS X af σ H s)(r:aZ vs us)(h:sp (vs++ut) H Q E):wpAny (model X.prog X.w) X.A (call (.ref f) us) (EP X af σ Q) X.xe s:=by
 have r2:aZ (vs++ut) (us++ds):=r.append hd;have hl:(us++ds).length=ps.length:=by rw[<-r2.length];exact F.len _ _ _ _ h
 refine pF (pE (F.run X.A X.stack s H ⟨us,[]⟩ (us++ds) (vs++ut) Q E hr I.R9 (hb s us I.ny hl) r2 h) fun r s' hq=>?_);cases r with
 |error e=>exact hx af σ H s e s' I hq
 |ok fl=>
  cases fl with
  |ret u=>exact I.after hq
  |next=>exact False.elim hq
  |brk=>exact False.elim hq
  |cont=>exact False.elim hq
theorem JQ(F:bA X.prog X.w X.K X.mg X.base CX k f fd ps sp)(hr:cg k X.A)(hg:Gl X x)(hm:X.mg x=some (.ref f))(hk:PySem.W.keepIn X.K (.ref f)=true)(hb:j_ X.K fd ps ds)(hd:aZ ut ds)(hx:mI CX X E)(ha:PA X (e::es) t)(D7:(x==("__debug__":Str))=false:=by decide)(he:starEach (e::es) X.env=(false,eval e X.env)::starEach es X.env:=by rfl)(Fn:(backTo pos (starEach es X.env)).any (·.1)=false:=by rfl):
  PE X (.Call (.Name x p) (e::es) [] pos) (nC sp ut E t):=by
 intro af s σ H Q I h;refine mm (qS I hg hm ?_ D7);refine Ak (h₀:=X.base) I.ok.mod.Ru hk (dF (ha pos af s σ H _ I h) fun us s1 ⟨vs,H1,I1,r,q⟩=>⟨I1.ny,?_⟩) he Fn;exact Gb F hr hb hd hx I1 r q
theorem dG(he:PE X o ta)(c:Fm X.K C)(hm:NG X.K C m f)(F:bA X.prog X.w X.K X.mg X.base CX k f fd ps sp)(hr:cg k X.A)(hb:j_ X.K fd ps ds)(hd:aZ ut ds)(hx:mI CX X E)(ha:PA X (e::es) t)(oC:starEach (e::es) X.env=(false,eval e X.env)::starEach es X.env:=by rfl)(Fn:(backTo pos (starEach es X.env)).any (·.1)=false:=by rfl)(ht:eval (.Call (.Attribute o m wv) (e::es) [] pos) X.env=(do
   let ov <- eval o X.env
   standAt wv.atName
   let (f,first) <- holding [ov] (getMethod ov m pl)
   callWith pos f first (backTo pos (starEach (e::es) X.env)) (backToKw pos (keywordEach [] X.env))):=by rfl):
  PE X (.Call (.Attribute o m wv) (e::es) [] pos) (Cy C m sp ut E ta t):=by
 intro af s σ H Q I h;refine PySem.W.methodCall_KW (pl:=pl) (dF (he af s σ H _ I h) fun u s1 ⟨x,H1,I1,rx,a,dx,fs,ex,ea,l,q⟩=>?_) ht;subst ex;obtain rfl:u=Value.ref a:=rx;refine AU I1 ea c hm l ?_;refine Ak (first:=[.ref a]) (h₀:=X.base) I.ok.mod.Ru hm.kp (dF (ha pos af s1 σ H1 _ I1 q) fun us s2 ⟨vs,H2,I2,r,q2⟩=>⟨I2.ny,?_⟩) oC Fn;exact Gb (us:=.ref a::us) (vs:=.ref a::vs) F hr hb hd hx I2 (.cons rfl r) q2
structure Mk(K:PySem.W.Frag)(C f:Addr):Prop where
 makes:PySem.W.makesIn K C=true
 init:PySem.W.findIn K (.ref C) "__init__"=some (some (.ref f))
 fn:PySem.W.isFn K (.ref f)=true
 kp:PySem.W.keepIn K (.ref C)=true
theorem Gc(M:Mk X.K C f)(F:bA X.prog X.w X.K X.mg X.base CX k f fd ps sp)(hr:cg (k+1) X.A)(hb:j_ X.K fd ps ds)(hd:aZ ut ds)(hx:mI CX X E)(I:aS X af σ H s)(r:aZ vs us)(h:∀x dx,H x=none->H dx=none->dx≠x->sp (.ref x::(vs++ut)) (upd (upd H dx (.own x)) x (.ins C dx [])) (fun v H2=>v=.cB/\Q (.ref x) H2) E):
  wpAny (model X.prog X.w) X.A (call (.ref C) us) (EP X af σ Q) X.xe s:=by
 have hq:=h (s.heap.objs.size+1) s.heap.objs.size (I.ce.fresh (sr _)) (I.ce.fresh (aK _)) (ba (kH _));have I2:=aS.made (C:=C) I;have r2:aZ (V.ref (s.heap.objs.size+1)::(vs++ut)) (Value.ref (s.heap.objs.size+1)::(us++ds)):=.cons rfl (r.append hd);have hl:(Value.ref (s.heap.objs.size+1)::us++ds).length=ps.length:=by
  have e:=r2.length;rw[F.len _ _ _ _ hq] at e;exact e.symm
 refine pF (F_ (f:=f) I.ny M.makes M.init (fj.mp M.fn) (pE (F.run _ X.stack _ _ ⟨Value.ref (s.heap.objs.size+1)::us,[]⟩ (Value.ref (s.heap.objs.size+1)::(us++ds)) _ _ E (hr.make C us [])
  (I2.R9.make C us []) (hb _ (Value.ref (s.heap.objs.size+1)::us) I2.ny hl) r2 hq) fun r s' JR=>?_))
 cases r with
 |error e=>exact hx af σ _ _ e s' I2 JR
 |ok fl=>
  cases fl with
  |ret u=>
   obtain⟨v,H',I3,rv,ev,q3⟩:=I2.after JR;subst ev;exact⟨rv,⟨V.ref (s.heap.objs.size+1),H',I3,rfl,q3⟩⟩
  |next=>exact False.elim JR
  |brk=>exact False.elim JR
  |cont=>exact False.elim JR
theorem Cz(M:Mk X.K C f)(F:bA X.prog X.w X.K X.mg X.base CX k f fd ps sp)(hr:cg (k+1) X.A)(hg:Gl X x)(hm:X.mg x=some (.ref C))(hb:j_ X.K fd ps ds)(hd:aZ ut ds)(hx:mI CX X E)(ha:PA X (e::es) t)(D7:(x==("__debug__":Str))=false:=by decide)(he:starEach (e::es) X.env=(false,eval e X.env)::starEach es X.env:=by rfl)(Fn:(backTo pos (starEach es X.env)).any (·.1)=false:=by rfl):
  PE X (.Call (.Name x p) (e::es) [] pos) (R_ C sp ut E t):=by
 intro af s σ H Q I h;refine mm (qS I hg hm ?_ D7);refine Ak (h₀:=X.base) I.ok.mod.Ru M.kp (dF (ha pos af s σ H _ I h) fun us s1 ⟨vs,H1,I1,r,q⟩=>⟨I1.ny,?_⟩) he Fn;exact Gc M F hr hb hd hx I1 r q
end
def PK(X:Cx)(Gd:List Keyword)(t:TA):Prop:=
 ∀ (pos:Pos) (af:List (Addr×Obj)) (s:Shared) (σ:St) (H:Hp) (Q:List V->Hp->Prop),aS X af σ H s->t σ H Q->wpAny (model X.prog X.w) X.A (evalAll ((backToKw pos (keywordEach Gd X.env)).map (·.2))) (AP X af σ Q) X.xe s
section
variable {X:Cx} {CX:zN} {k:Nat} {f C:Addr} {fd:FuncData} {ps ks:List Str} {sp:Sp} {E:XK} {x m:Str} {p pos wv W5:Pos} {e o:Expr} {es:List Expr} {Gd:List Keyword} {te ta:TE} {t tk:TA} {nm:Option Str}
theorem sU:PK X [] gI:=fun _ _ _ _ H Q I h=>wpAny_evalAll_nil ⟨[],H,I,.nil,h⟩
theorem nE(ha:PE X e te)(hr:PK X Gd t):PK X (⟨nm,e,W5⟩::Gd) (bo te t):=by
 intro pos af s σ H Q I h;show wpAny _ _ (evalAll ((do let v <- eval e X.env;standAt pos;pure v)::(backToKw pos (keywordEach Gd X.env)).map (·.2))) _ _ s;refine wpAny_evalAll_cons (aw (dF (ha af s σ H _ I h) fun u s1 ⟨x,H1,I1,r1,q1⟩=>aw (pC (wpAny_pure ?_))));exact dF (hr pos af s1 σ H1 _ I1 q1) fun us s2 ⟨xs,H2,I2,r2,q2⟩=>⟨x::xs,H2,I2,.cons r1 r2,q2⟩
variable {g:List Value->List Value->List Value} {gV:List V->List V->List V}
end
structure aR(N P:List Str)(sc:Scope):Prop where
 kind:sc.kind=.function
 co:sc.isCoroutine=false
 gen:sc.isGenerator=false
 nd:N.Nodup
 pre:N.take P.length=P
 par:∀x∈P,sc.names.lookup x=some .local\/sc.names.lookup x=some .cell
 NH:∀y∈sc.names,y.2≠.free
theorem uU{kindOf:Str->Option NameKind}{x:Str}:∀ {binds:List (Str×Value)} {m:Str->Option Value},(∀v,(x,v)∉binds)->bindL kindOf binds m x=m x
 |[],_,_=>rfl
 |(n,v)::r,m,h=>by
  unfold bindL;rw[uU fun w hw=>h w (cD _ hw)];split
  .have:x≠n:=by rintro rfl;exact h v bR
   simp[this]
  .rfl
theorem uV{kindOf:Str->Option NameKind}{x:Str}:∀ {binds:List (Str×Value)} {m:Str->Option Value},(∀v,(x,v)∉binds)->bindC kindOf binds m x=m x
 |[],_,_=>rfl
 |(n,v)::r,m,h=>by
  unfold bindC;rw[uV fun w hw=>h w (cD _ hw)];split
  .rfl
  .have:x≠n:=by rintro rfl;exact h v bR
   simp[this]
theorem uW{kindOf:Str->Option NameKind}{x:Str}{v:Value}:∀ {P:List Str} {vs:List Value} {i:Nat} {m:Str->Option Value},P.Nodup->P[i]?=some x->vs[i]?=some v->kindOf x=some .local->
  bindL kindOf (P.zip vs) m x=some v
 |[],_,_,_,_,h,_,_=>by simp at h
 |_::_,[],_,_,_,_,h,_=>by simp at h
 |p::P,w::vs,0,m,nd,h1,h2,hk=>by
  simp at h1 h2;subst h1;subst h2;show bindL kindOf ((p,w)::P.zip vs) m p=_;unfold bindL;rw[uU fun v hv=>(fL.mp nd).1 (mx hv).1,ao hk];simp
 |p::P,w::vs,i+1,m,nd,h1,h2,hk=>by
  show bindL kindOf ((p,w)::P.zip vs) m x=_;unfold bindL;exact uW (i:=i) (fL.mp nd).2 (by simpa using h1) (by simpa using h2) hk
theorem uX{kindOf:Str->Option NameKind}{x:Str}{v:Value}:∀ {P:List Str} {vs:List Value} {i:Nat} {m:Str->Option Value},P.Nodup->P[i]?=some x->vs[i]?=some v->kindOf x≠some .local->
  bindC kindOf (P.zip vs) m x=some v
 |[],_,_,_,_,h,_,_=>by simp at h
 |_::_,[],_,_,_,_,h,_=>by simp at h
 |p::P,w::vs,0,m,nd,h1,h2,hk=>by
  simp at h1 h2;subst h1;subst h2;show bindC kindOf ((p,w)::P.zip vs) m p=_;unfold bindC;rw[uV fun v hv=>(fL.mp nd).1 (mx hv).1,ak hk];simp
 |p::P,w::vs,i+1,m,nd,h1,h2,hk=>by
  show bindC kindOf ((p,w)::P.zip vs) m x=_;unfold bindC;exact uX (i:=i) (fL.mp nd).2 (by simpa using h1) (by simpa using h2) hk
def start(N:List Str)(vs:List V):St:=vs.map some++List.replicate (N.length-vs.length) none
def lc(CX:zN)(P:Program)(w:World)(K:PySem.W.Frag)(mg:Str->Option Value)(base:Heap)(N:List Str)(qual:Str)(scope:Scope)(f:Addr)(cd:Value)(A:Around)(outer:List Env)(s:Shared)(H:Hp)(E:XK):Cx where
 prog:=P
 w:=w
 K:=K
 mg:=mg
 base:=base
 A:=A.deeper (envOfC qual scope s.heap.objs.size f cd)
 N:=N
 s₀:=s
 H₀:=H
 env:=envOfC qual scope s.heap.objs.size f cd
 outer:=outer
 stack:=envOfC qual scope s.heap.objs.size f cd::outer
 ex:=[]
 calm:=true
 fn:=fun _=>true
 pn:=[]
 xe:=fun e s'=>wpAny (model P w) (A.deeper (envOfC qual scope s.heap.objs.size f cd)) (leaving (envOfC qual scope s.heap.objs.size f cd) e) (fun _ Jp=>CX outer H s E e Jp) (fun e' Jp=>CX outer H s E e' Jp) s'
theorem xY{sc:Scope}{n:Nat}{x:Str}(h:sc.names.lookup x=some .cell):∃c,(cellsFrom n sc.names []).lookup x=some c:=by
 have q:=PySem.W.cellsFrom_some sc.names n [] (.inl h);exact vK.mp q
theorem D8{CX:zN}{P:Program}{w:World}{K:PySem.W.Frag}{mg:Str->Option Value}{base:Heap}{N ps:List Str}{qual:Str}{scope:Scope}{f:Addr}{cd:Value}{A:Around}{outer:List Env}{s s1:Shared}{H:Hp}{E:XK}{us:List Value}{vs:List V}(S:aR N ps scope)(hd:A.handled=none)(e0:AY P w K mg base A outer s H)(hl:vs.length=ps.length)(r:aZ vs us)(x:InCallC s s.heap.objs.size (bindL (envOfC qual scope s.heap.objs.size f cd).kindOf (ps.zip us) fun _=>none) (cellsFrom (s.heap.objs.size+1) scope.names []) (bindC (envOfC qual scope s.heap.objs.size f cd).kindOf (ps.zip us) fun _=>none) s1):
  aS (lc CX P w K mg base N qual scope f cd A outer s H E) [] (start N vs) H s1:=by
 have Fn:ps.length<=N.length:=by have:=congrArg List.length S.pre;rw[mv] at this;lia
 obtain⟨h1,tk,rfl,hk⟩:=x.done;have QP:∀b:Addr,b∉(lc CX P w K mg base N qual scope f cd A outer s H E).ex:=fun b z=>absurd (show b∈([]:List Addr) from z) (by simp);refine⟨⟨e0.mod,S.kind,rfl,rfl,aK _,fun y z c h1 h2=>?_,fun y hy=>?_,fun y c _ h=>?_,fun _=>hd,Around.frames_deeper e0.frames,.inr ⟨rfl,rfl⟩,fun b z=>absurd z (QP b),e0.bs,e0.FT,fun b _ _=>QP b,fun b z=>absurd z (QP b),e0.qC,e0.Nl⟩,
  rfl,e0.bare,Un.kept hk,⟨_,x.toInCall.ns,fun i y v h1 h2 h3=>?_⟩,fun y c h=>⟨_,x.cell y c h⟩,e0.ce.fresh (aK _),fun y c h=>?_,fun p hp=>absurd (show p∈([]:List (Addr×Obj)) from hp) (by simp),e0.ce.kept hk,?_⟩
 .exact name_of_addr x.apart (kD h1) (kD h2)
 .have hy:scope.names.lookup y=some .cell\/scope.names.lookup y=some .free:=hy;rcases hy with hy|hy
  .exact xY hy
  .exact absurd rfl (S.NH _ (kD hy))
 .exact jO (x.above y c (kD h))
 .have hi:i<vs.length:=by
   unfold start at h2;by_cases hi:i<vs.length
   .exact hi
   .rw[qi (by simpa using hi)] at h2;rw[rH] at h2;split at h2 <;> cases h2
  have ha:vs[i]?=some v:=by
   unfold start at h2;rw[jk (by simpa using hi),bU] at h2;cases e:vs[i]? with
   |none=>rw[e] at h2;cases h2
   |some a=>rw[e] at h2;cases h2;rfl
  obtain⟨u,hu,rv⟩:=r.get ha;have hp:ps[i]?=some y:=by
   rw[<-S.pre,z8 (by lia)];exact h1
  have ndP:ps.Nodup:=by rw[<-S.pre];exact S.nd.sublist (List.take_sublist _ _)
  refine⟨u,rv,?_⟩;rcases S.par y (cU hp) with k|k
  .exact .inl ⟨k,uW ndP hp hu k⟩
  .obtain⟨c,e⟩:=xY (n:=s.heap.objs.size+1) k;refine .inr ⟨.inl k,c,e,?_⟩;have q:=x.cell y c e;rw[uX ndP hp hu (by show scope.names.lookup y≠_;rw[k];decide)] at q;exact q
 .exact e0.ce.fresh (jO (x.above y c (kD h)))
 .unfold start;show _=N.length;rw[dh,aT,gm];lia
theorem Ml{CX:zN}{P:Program}{w:World}{K:PySem.W.Frag}{mg:Str->Option Value}{base:Heap}{k:Nat}{f:Addr}{name qual:Str}{params:Arguments}{body:List Stmt}{scope:Scope}{dV kV nF pm eY ct oc:Value}{an od:Option Addr}{zO:Array (Option Value)}{N ps:List Str}{sp:Sp}(lk:K.lookup f=some ⟨oc,od,.func (PySem.W.fnOf name qual params body scope dV kV nF pm an eY ct),zO⟩)(uR:PySem.W.codeIn K eY qual=true)(S:aR N ps scope)(len:∀vs H Q E,sp vs H Q E->vs.length=ps.length)(xZ:∀ (A:Around) (outer:List Env) (s:Shared) (H:Hp) (vs:List V) (Q:VK) (E:XK),cg k (A.deeper (envOfC qual scope s.heap.objs.size f eY))->sp vs H Q E->
   ∃t,AK (lc CX P w K mg base N qual scope f eY A outer s H E) body t/\t { nx:=fun _ H'=>Q .cB H',rt:=Q } (start N vs) H):
  bA P w K mg base CX (k+1) f (PySem.W.fnOf name qual params body scope dV kV nF pm an eY ct) ps sp:=by
 refine⟨len,fun A outer s H args us vs Q E hr e0 hb r Jq=>?_⟩;have hl:=len _ _ _ _ Jq;have KX:K.In s.heap:=e0.mod.Ru.keeps fun b o e=>(e0.bs b o e).1;have lim:s.heap.NoLimit:=e0.mod.nolimit.keeps fun b o e=>(e0.bs b o e).1;have Sa:∀y∈ps.zip us,scope.names.lookup y.1=some .local\/(scope.names.lookup y.1=some .cell/\((cellsFrom (s.heap.objs.size+1) scope.names []).lookup y.1).isSome=true):=fun ⟨n,v⟩ hy=>by
  rcases S.par n (mx hy).1 with q|q
  .exact .inl q
  .exact .inr ⟨q,PySem.W.cellsFrom_some _ _ _ (.inl q)⟩
 refine codeAny_call_function hr.depth (KX _ _ lk) rfl S.co S.gen rfl (PySem.W.codeRec_of KX uR) (hb _ _ _ _ ?_);refine wpAny_newFunctionEnv_cells S.kind Sa fun env he s1 x=>?_;subst he;refine⟨lim.keeps x.toInCall.keep,codeAny_func ?_⟩;obtain⟨t,ht,hq⟩:=xZ A outer s H vs Q E (hr.deeper _) Jq;have I:aS (lc CX P w K mg base N qual scope f eY A outer s H E) [] (start N vs) H s1:=D8 S hr.hd e0 hl r x;refine jd (ht [] s1 (start N vs) H _ I hq) (fun fl s' hs=>?_) fun e s' hs=>hs;have dQ:∀ {σ':St} {H':Hp} {v:V} {u:Value},aS (lc CX P w K mg base N qual scope f eY A outer s H E) [] σ' H' s'->bH v u->Q v H'->CE outer P w H s Q u s':=
  fun {σ' H' v u} J rv q=>⟨v,H',J.os,J.bare,J.base,J.ce,rv,q⟩
 cases fl with
 |ret u=>
  obtain⟨v,σ',H',J,rv,q⟩:=hs;exact dQ J rv q
 |next=>
  obtain⟨σ',H',J,q⟩:=hs;exact dQ (v:=V.cB) (u:=Value.none) J rfl q
 |brk=>
  obtain⟨_,_,_,q⟩:=hs;exact False.elim q
 |cont=>
  obtain⟨_,_,_,q⟩:=hs;exact False.elim q
section
variable {X:Cx} {x:Str} {p pos:Pos} {e:Expr} {es:List Expr} {t:TA} {id T:String} {r:List V->Hp->VK->Prop}
def VO(r:List V->Hp->VK->Prop)(t:TA):TE:=fun σ H Q=>t σ H fun vs H1=>r vs H1 Q
theorem aD(hc:fh X (.builtin id) r)(hg:Gl X x)(hm:X.mg x=none)(hv:bootBuiltins x=some (.builtin id))(ha:PA X (e::es) t)(hn:x≠"__name__":=by decide)(D7:(x==("__debug__":Str))=false:=by decide)(he:starEach (e::es) X.env=(false,eval e X.env)::starEach es X.env:=by rfl)(Fn:(backTo pos (starEach es X.env)).any (·.1)=false:=by rfl):PE X (.Call (.Name x p) (e::es) [] pos) (VO r t):=by
 intro af s σ H Q I h;refine mm (iC I hg hm hv ?_ hn D7);exact PyProof.Rows.callWith_builtin1 (dF (ha pos af s σ H _ I h) fun us s1 ⟨vs,H1,I1,r1,q1⟩=>hc af s1 σ H1 vs us Q I1 r1 q1) he Fn
theorem cJ(hc:fh X (.type T) r)(hg:Gl X x)(hm:X.mg x=none)(hv:bootBuiltins x=some (.type T))(ha:PA X (e::es) t)(hn:x≠"__name__":=by decide)(D7:(x==("__debug__":Str))=false:=by decide)(he:starEach (e::es) X.env=(false,eval e X.env)::starEach es X.env:=by rfl)(Fn:(backTo pos (starEach es X.env)).any (·.1)=false:=by rfl):PE X (.Call (.Name x p) (e::es) [] pos) (VO r t):=by
 intro af s σ H Q I h;refine mm (iC I hg hm hv ?_ hn D7);exact rE (dF (ha pos af s σ H _ I h) fun us s1 ⟨vs,H1,I1,r1,q1⟩=>hc af s1 σ H1 vs us Q I1 r1 q1) he Fn
end
end L2
namespace HT
open PySem PyProof.Rows
section
open PySem.SeqAt
open PySem.AutoSeq1 (wpAny_loadPart')
open PySem.MeetsSeq PySem.MeetsSeq2 PySem.MeetsSeq3
end
section
variable {prog:Program} {w:World} {A:Around} {E:Value->Shared->Prop} {s:Shared}
def uv(n d:Nat):Option Int->Nat
 |none=>d
 |some v=>if v<0 then (v+(n:Int)).toNat else min v.toNat n
end
end HT
namespace L2
open PySem PySem.Spec PyProof.Rows
abbrev TO:=St->Hp->(Option Int->Hp->Prop)->Prop
def PO(X:Cx)(e:Option Expr)(t:TO):Prop:=
 ∀ (af:List (Addr×Obj)) (s:Shared) (σ:St) (H:Hp) (Q:Option Int->Hp->Prop),aS X af σ H s->t σ H Q->
  wpAny (model X.prog X.w) X.A (evalPart e X.env) (fun u s'=>∃o H',aS X af σ H' s'/\IsPart u o/\Q o H') X.xe s
def JS:TO:=fun _ H Q=>Q none H
def Sb(t:TE):TO:=fun σ H Q=>t σ H fun x H1=>∃i,x=.int i/\Q (some i) H1
section
variable {X:Cx} {e:Expr} {te:TE} {lo hi:Option Expr} {tl th:TO} {pos p2:Pos}
theorem qX:PO X none JS:=by
 intro af s σ H Q I h;rw[evalPart_none];exact wpAny_pure ⟨none,H,I,.none,h⟩
theorem qY(h:PE X e te):PO X (some e) (Sb te):=by
 intro af s σ H Q I hw;rw[evalPart_some];refine dF (h af s σ H _ I hw) fun u s1 ⟨x,H1,I1,r1,q1⟩=>?_;obtain⟨i,rfl,q⟩:=q1;obtain⟨t,rfl⟩:=r1;exact⟨some i,H1,I1,.int i t,q⟩
def SlR(X:Cx)(r:V->Option Int->Option Int->Hp->VK->Prop):Prop:=
 ∀ (af:List (Addr×Obj)) (s:Shared) (σ:St) (H:Hp) (x:V) (v vl vu:Value) (lo hi:Option Int) (sl:Addr) (Q:VK),aS X af σ H s->bH x v->s.heap.IsSliceOf sl vl vu .none->IsPart vl lo->IsPart vu hi->r x lo hi H Q->
  ∃T id,typeLookup (.type T) "__getitem__"=pure (some (.builtin id))/\s.TypeIs v T/\wpAny (model X.prog X.w) X.A (getItem v (.ref sl)) (EP X af σ Q) X.xe s
def tSl(r:V->Option Int->Option Int->Hp->VK->Prop)(te:TE)(tl th:TO):TE:=fun σ H Q=>te σ H fun x H1=>tl σ H1 fun l H2=>th σ H2 fun u H3=>r x l u H3 Q
theorem nG(hr:SlR X r)(he:PE X e te)(hl:PO X lo tl)(hu:PO X hi th):PE X (.Subscript e (.Slice lo hi none p2) pos) (tSl r te tl th):=by
 intro af s σ H Q I h;refine Subscript_ (dF (he af s σ H _ I h) fun v s1 ⟨x,H1,I1,r1,q1⟩=>?_);refine wpAny_Slice (dF (hl af s1 σ H1 _ I1 q1) fun vl s2 ⟨l,H2,I2,pl,q2⟩=>dF (hu af s2 σ H2 _ I2 q2) fun vu s3 ⟨u,H3,I3,pu,q3⟩=>?_);rw[evalPart_none];refine wpAny_pure ?_;have I4:aS X af σ H3 { s3 with heap:=s3.heap.push { cls:=.type "slice",data:=.fields #[vl,vu,.none] } }:=I3.kept (t':=s3.toks) fun b ob q=>bw _ q;obtain⟨T,id,hT,ht,hg⟩:=hr af { s3 with heap:=s3.heap.push { cls:=.type "slice",data:=.fields #[vl,vu,.none] } } σ H3 x v vl vu l u s3.heap.objs.size Q I4 r1 (Heap.IsSliceOf.new ..) pl pu q3;show wpAny (model X.prog X.w) X.A (subscriptTail e (.Slice lo hi none p2) v (.ref s3.heap.objs.size)) (EP X af σ Q) X.xe { s3 with heap:=s3.heap.push { cls:=.type "slice",data:=.fields #[vl,vu,.none] } };exact tail_any (ops:=[.ref s3.heap.objs.size,v]) ht hT hg (by with_unfolding_all rfl)
def jt(xs:List V)(lo hi:Option Int):List V:=(xs.drop (HT.uv xs.length 0 lo)).take (HT.uv xs.length xs.length hi-HT.uv xs.length 0 lo)
theorem x_(xs:List V)(lo hi:Option Int):(jt xs lo hi).length<=xs.length:=by
 unfold jt;rw[mv,mw];lia
end
def Ge(n:Nat)(i:Int):Option Nat:=if 0<=i then (if i<n then some i.toNat else none) else if -(n:Int)<=i then some (i+n).toNat else none
def ya{α:Type}(xs:List α)(i:Int):Option α:=(Ge xs.length i).bind fun j=>xs[j]?
theorem ww(h:Ge n i=some j):seqIndex? i n=some j/\j<n/\-(n:Int)<=i/\i<n:=by
 unfold Ge at h;by_cases h0:0<=i
 .rw[ao h0] at h;by_cases h1:i<n
  .rw[ao h1] at h;have e:i.toNat=j:=bN h;exact⟨by rw[seqIndex_of h0 h1,e],by lia,by lia,h1⟩
  .rw[ak h1] at h;cases h
 .rw[ak h0] at h;by_cases h1:-(n:Int)<=i
  .rw[ao h1] at h;have e:(i+n).toNat=j:=bN h;exact⟨by rw[seqIndex_neg (by lia) h1,e],by lia,h1,by lia⟩
  .rw[ak h1] at h;cases h
theorem CC(h:ya xs i=some v):∃j,seqIndex? i xs.length=some j/\xs[j]?=some v/\j<xs.length/\-(xs.length:Int)<=i/\i<xs.length:=by
 unfold ya at h;cases e:Ge xs.length i with
 |none=>rw[e] at h;cases h
 |some j=>
  rw[e] at h;obtain⟨h1,h2,h3,h4⟩:=ww e;exact⟨j,h1,h,h2,h3,h4⟩
theorem aB{α:Type}{xs:List α}{j:Nat}{v:α}(h:xs[j]?=some v):ya xs (j:Int)=some v:=by
 have hj:j<xs.length:=(b9.mp h).1;have e:Ge xs.length (j:Int)=some j:=by
  unfold Ge;rw[ao (by lia),ao (by lia)];simp
 unfold ya;rw[e];exact h
theorem yb(xs:List α)(v:α):ya (xs++[v]) (-1)=some v:=by
 have hl:(xs++[v]).length=xs.length+1:=by simp
 have e:Ge (xs++[v]).length (-1)=some xs.length:=by
  unfold Ge;rw[hl,ak (by decide),ao (by lia)];congr 1;lia
 unfold ya;rw[e];show (xs++[v])[xs.length]?=some v;simp
def JT(b:Expr):Prop:=∀o i,subscripted b false o i=operate [o,i] (getItem o i)
def W6(X:Cx)(r:R2):Prop:=
 ∀ (value slice:Expr) (af:List (Addr×Obj)) (s:Shared) (σ:St) (H:Hp) (x y:V) (v u:Value) (Q:VK),aS X af σ H s->bH x v->bH y u->r x y H Q->
  subscripted slice false v u=operate [v,u] (getItem v u)->wpAny (model X.prog X.w) X.A (subscriptTail value slice v u) (EP X af σ Q) X.xe s
def MtR(X:Cx)(id:String)(r:V->List V->Hp->VK->Prop):Prop:=
 ∀ (af:List (Addr×Obj)) (s:Shared) (σ:St) (H:Hp) (x:V) (xs:List V) (v:Value) (us:List Value) (Q:VK),aS X af σ H s->bH x v->aZ xs us->r x xs H Q->
  wpAny (model X.prog X.w) X.A (call (.builtin id) (v::us)) (EP X af σ Q) X.xe s
section
variable {X:Cx} {a b:Expr} {ta tb:TE} {pos:Pos}
theorem aV(hr:W6 X r)(ha:PE X a ta)(hb:PE X b tb)(hs:JT b):PE X (.Subscript a b pos) (kr r ta tb):=by
 intro af s σ H Q I h;exact Subscript_ (NC ha hb I h fun v u s2 x y H2 I2 rx ry q=>hr a b af s2 σ H2 x y v u Q I2 rx ry q (hs _ _))
def yc(K:PySem.W.Frag):R2:=fun x y H Q=>∃p xs i v,x=.ref p/\y=.int i/\aW K H p xs/\ya xs i=some v/\Q v H
def yd(K:PySem.W.Frag):R2:=fun x y H Q=>∃p xs i v,x=.ref p/\y=.int i/\bP K H p xs/\ya xs i=some v/\Q v H
theorem aL:W6 X (yc X.K):=by
 intro value slice af s σ H x y v u Q I rx ry h hs;obtain⟨p,xs,i,z,rfl,rfl,hq,he,q⟩:=h;cases rx;obtain⟨t,rfl⟩:=ry;obtain⟨its,r,pl,hz⟩:=I.list hq;obtain⟨j,h1,h2,h3,h4,h5⟩:=CC he;obtain⟨w,ew,wn⟩:=r.get h2;have hl:=r.length;have hn:=wu;have dQ:EP X af σ Q w s:=⟨z,H,I,wn,q⟩
 by_cases h0:0<=i
 .have hj:i.toNat=j:=by
   rw[seqIndex_of h0 h5] at h1;exact bN h1
  exact item_listR pl.isList h0 (by lia) (by rw[hj];simpa using ew) dQ hs
 .have hj:(i+(its.toArray.size:Int)).toNat=j:=by
   rw[seqIndex_neg (by lia) h4] at h1;rw[cz,<-hl];exact bN h1
  exact subscriptTail_builtinR (x:=w) pl.isList.typeIs slot_list_getitem.lookup
   (wpAny_getItem_list_neg (Q:=fun r s'=>r=w/\EP X af σ Q r s') pl.isList (by lia) (by rw[cz] <;> lia) (by lia) (by rw[hj];simpa using ew) ⟨rfl,dQ⟩) hs
theorem eE:W6 X (yd X.K):=by
 intro value slice af s σ H x y v u Q I rx ry h hs;obtain⟨p,xs,i,z,rfl,rfl,hq,he,q⟩:=h;cases rx;obtain⟨t,rfl⟩:=ry;obtain⟨its,r,pl,hz⟩:=I.tuple hq;obtain⟨j,h1,h2,h3,h4,h5⟩:=CC he;obtain⟨w,ew,wn⟩:=r.get h2;have hl:=r.length;have hn:=wu;have dQ:EP X af σ Q w s:=⟨z,H,I,wn,q⟩
 exact subscriptTail_builtinR (x:=w) pl.typeIs slot_tuple_getitem.lookup
  (getItem_tuple (j:=j) (Q:=fun r s'=>r=w/\EP X af σ Q r s') pl (by lia) (by lia) (by rw[cz,<-hl];exact h1) (by simpa using ew) ⟨rfl,dQ⟩) hs
theorem AZ(its:List Value)(n j:Nat)(u:Value):Obj.mapSeq (·.setIfInBounds j u) { cls:=.type "list",data:=.seq its.toArray n }={ cls:=.type "list",data:=.seq (its.set j u).toArray n }:=by
 simp[Obj.mapSeq]
theorem aS.lst(I:aS X af σ H s)(h:H p=some (.lst xs)):
  ∃ (its:List Value) (n:Nat),aZ xs its/\s.heap.get? p=some { cls:=.type "list",data:=.seq its.toArray n }/\xs.length<=sizeLine:=by
 obtain⟨z,its,n,r,e⟩:=I.ce p _ h;exact⟨its,n,r,e,z⟩
theorem aS.NI{af:List (Addr×Obj)}{σ:St}{H:Hp}{s:Shared}{p:Addr}{xs ys:List V}{its its':List Value}{n n':Nat}{f:Obj->Obj}(I:aS X af σ H s)(h:H p=some (.lst xs))(ho:s.heap.get? p=some { cls:=.type "list",data:=.seq its.toArray n })(hf:f { cls:=.type "list",data:=.seq its.toArray n }={ cls:=.type "list",data:=.seq its'.toArray n' })(r:aZ ys its')(hz:ys.length<=sizeLine)(t:Nat):
  aS X af σ (upd H p (.lst ys)) { s with heap:=s.heap.update p f,toks:=t }:=by
 have e:(s.heap.update p f).get? p=some { cls:=.type "list",data:=.seq its'.toArray n' }:=by
  rw[mi f ho (by rw[hf] <;> rfl),hf]
 refine I.write (x:=p) (e:=p) (by rw[h];trivial) (.inl rfl) (fun b u hb q=>(me _ _ (dv hb)).trans q) ⟨_,e⟩ ?_;exact⟨hz,its',n',r,e⟩
def Sd:V->V->V->Hp->(Hp->Prop)->Prop:=fun o i v H Q=>∃p xs k j,o=.ref p/\i=.int k/\H p=some (.lst xs)/\Ge xs.length k=some j/\Q (upd H p (.lst (xs.set j v)))
theorem dH:RU X Sd:=by
 intro af s σ H o i v ov iv u Q I ro ri rv h;obtain⟨p,xs,k,j,rfl,rfl,hp,hj,q⟩:=h;cases ro;obtain⟨t,rfl⟩:=ri;obtain⟨its,n,r,ho,hz⟩:=I.lst hp;obtain⟨h1,h2,h3,h4⟩:=ww hj;have hl:=r.length;have hn:=wu;have I':aS X af σ (upd H p (.lst (xs.set j v))) { s with heap:=s.heap.update p (Obj.mapSeq (·.setIfInBounds j u)) }:=
  I.NI hp ho (AZ its n j u) (r.set rv j) (by rw[gy];exact hz) s.toks
 by_cases h0:0<=k
 .have hk:k.toNat=j:=by
   rw[seqIndex_of h0 h4] at h1;exact bN h1
  exact PySem.W.ki_setAt ho h0 (by lia) (by rw[cz,<-hl];exact h4) (by rw[hk];exact⟨_,I',q⟩)
 .have hk:(k+(its.toArray.size:Int)).toNat=j:=by
   rw[seqIndex_neg (by lia) h3] at h1;rw[cz,<-hl];exact bN h1
  exact PySem.W.ki_setBack ho (by lia) (by rw[cz,<-hl];exact h3) (by lia) (by rw[hk];exact⟨_,I',q⟩)
theorem wx(lo hi:Option Int)(n:Nat):(sliceBounds lo hi none n).1=((HT.uv n 0 lo:Nat):Int)/\(sliceBounds lo hi none n).2.1=((HT.uv n n hi:Nat):Int)/\(sliceBounds lo hi none n).2.2=1:=by
 refine⟨?_,?_,rfl⟩
 .cases lo with
  |none=>simp[sliceBounds,HT.uv]
  |some i=>
   simp only[sliceBounds,HT.uv,Option.getD_none,show (1:Int) > 0 by decide,jQ];by_cases h:i<0
   .simp only[h,jQ] <;> lia
   .simp only[h,dY] <;> lia
 .cases hi with
  |none=>simp[sliceBounds,HT.uv]
  |some i=>
   simp only[sliceBounds,HT.uv,Option.getD_none,show (1:Int) > 0 by decide,jQ];by_cases h:i<0
   .simp only[h,jQ] <;> lia
   .simp only[h,dY] <;> lia
theorem uw(its:List Value)(lo hi:Option Int):slicePick its.toArray lo hi none=((its.drop (HT.uv its.length 0 lo)).take (HT.uv its.length its.length hi-HT.uv its.length 0 lo)).toArray:=by
 obtain⟨h1,h2,h3⟩:=wx lo hi its.toArray.size;unfold slicePick;rw[h1,h2,h3];simp only[sliceRange_one,pick_run,cz] <;> rfl
def W7(K:PySem.W.Frag):V->Option Int->Option Int->Hp->VK->Prop:=fun x lo hi H Q=>∃a xs,x=.ref a/\aW K H a xs/\∀p,H p=none->Q (.ref p) (upd H p (.lst (jt xs lo hi)))
theorem qZ:SlR X (W7 X.K):=by
 intro af s σ H x v vl vu lo hi sl Q I rx hs pl pu h;obtain⟨a,xs,rfl,hx,q⟩:=h;cases rx;obtain⟨its,r,ht,hz⟩:=I.list hx;have eJ:=r.length;refine⟨"list",_,slot_list_getitem.lookup,ht.isList.typeIs,?_⟩;refine wpAny_getItem_list_slice ht.isList hs pl pu .none (by simp) ?_ (by rw[cz] <;> lia);rw[uw,<-eJ];refine⟨.ref s.heap.objs.size,_,I.laid (t':=s.toks) (o:=.lst (jt xs lo hi)) (fun b ob q=>bw _ q) (aK _) ?_,rfl,q _ (I.ce.fresh (aK _))⟩;exact⟨aX (x_ xs lo hi) hz,_,0,(r.drop (HT.uv xs.length 0 lo)).take (HT.uv xs.length xs.length hi-HT.uv xs.length 0 lo),b_ _ rfl⟩
def fN:V->Bool
 |.cB=>true
 |.bl _=>true
 |.int _=>true
 |.str _=>true
 |_=>false
def sV:V->V->Bool
 |.cB,.cB=>true
 |.bl a,.bl b=>a==b
 |.bl a,.int b=>(if a then 1 else 0)==b
 |.int a,.bl b=>a==(if b then 1 else 0)
 |.int a,.int b=>a==b
 |.str a,.str b=>a==b
 |_,_=>false
theorem A0(ry:bH y u)(rx:bH x v)(fy:fN y=true)(fx:fN x=true):SeqAt.EqAt A s u v (sV y x):=by
 cases y with
 |cB=>
  cases ry;cases x with
  |cB=>cases rx;exact SeqAt.EqAt.same _
  |bl b=>cases rx;exact SeqAt.EqAt.none_bool b
  |int b=>obtain⟨t,rfl⟩:=rx;exact SeqAt.EqAt.none_int b t
  |str b=>obtain⟨t,rfl⟩:=rx;exact SeqAt.EqAt.none_str b t
  |_=>exact absurd (show false=true from fx) cw
 |bl a=>
  cases ry;cases x with
  |cB=>cases rx;exact SeqAt.EqAt.bool_none a
  |bl b=>cases rx;exact SeqAt.EqAt.bool_bool a b
  |int b=>obtain⟨t,rfl⟩:=rx;exact SeqAt.EqAt.bool_int a b t
  |str b=>obtain⟨t,rfl⟩:=rx;exact SeqAt.EqAt.bool_str a b t
  |_=>exact absurd (show false=true from fx) cw
 |int a=>
  obtain⟨t',rfl⟩:=ry;cases x with
  |cB=>cases rx;exact SeqAt.EqAt.int_none a t'
  |bl b=>cases rx;exact SeqAt.EqAt.int_bool a t' b
  |int b=>obtain⟨t,rfl⟩:=rx;exact SeqAt.EqAt.int_int a t' b t
  |str b=>obtain⟨t,rfl⟩:=rx;exact SeqAt.EqAt.int_str a t' b t
  |_=>exact absurd (show false=true from fx) cw
 |str a=>
  obtain⟨t',rfl⟩:=ry;cases x with
  |cB=>cases rx;exact SeqAt.EqAt.str_none a t'
  |bl b=>cases rx;exact SeqAt.EqAt.str_bool a t' b
  |int b=>obtain⟨t,rfl⟩:=rx;exact SeqAt.EqAt.str_int a t' b t
  |str b=>obtain⟨t,rfl⟩:=rx;exact SeqAt.EqAt.str_str a t' b t
  |_=>exact absurd (show false=true from fx) cw
 |_=>exact absurd (show false=true from fy) cw
def wz(x:V)(u:Value):Bool:=match u with
 |.none=>sV .cB x
 |.bool b=>sV (.bl b) x
 |.int i _=>sV (.int i) x
 |.str z _=>sV (.str z) x
 |_=>false
theorem Gf(r:bH y u)(f:fN y=true):wz x u=sV y x:=by
 cases y with
 |cB=>cases r;rfl
 |bl b=>cases r;rfl
 |int i=>obtain⟨t,rfl⟩:=r;rfl
 |str z=>obtain⟨t,rfl⟩:=r;rfl
 |_=>exact absurd (show false=true from f) cw
theorem lL:∀ {xs:List V} {us:List Value},aZ xs us->xs.all fN=true->us.any (wz x)=xs.any fun y=>sV y x
 |_,_,.nil,_=>rfl
 |y::xs,u::us,.cons r t,f=>by
  rw[kU,fU] at f;rw[jM,jM,Gf r f.1,lL t f.2]
theorem ju(rx:bH x v)(fx:fN x=true):∀ {xs:List V} {us:List Value},aZ xs us->xs.all fN=true->∀u∈us,SeqAt.EqAt A s u v (wz x u)
 |_,_,.nil,_=>fun u hu=>by cases hu
 |y::xs,u::us,.cons r t,f=>fun u' hu=>by
  rw[kU,fU] at f;rcases bb.mp hu with rfl|hu
  .rw[Gf r f.1];exact A0 r rx f.1 fx
  .exact ju rx fx t f.2 u' hu
def CD(x:V)(xs:List V):Bool:=xs.any fun y=>sV y x
def VP(K:PySem.W.Frag)(Se:Bool):R2:=fun x y H Q=>∃p xs,y=.ref p/\(aW K H p xs\/bP K H p xs)/\fN x=true/\xs.all fN=true/\Q (.bl (if Se then !CD x xs else CD x xs)) H
theorem uY:m_ X (compareOp .In) (VP X.K false):=by
 intro af s σ H x y v u Q I rx ry h;obtain⟨p,xs,rfl,hq,fx,fs,q⟩:=h;cases ry;rcases hq with hq|hq
 .obtain⟨its,r,pl,hz⟩:=I.list hq;refine SeqAt.in_listAt (wz x) pl.isList (fun w hw=>ju rx fx r fs w (by simpa using hw)) ⟨.bl _,H,I,rfl,?_⟩;rw[show its.toArray.any (wz x)=its.any (wz x) by simp,lL r fs];exact q
 .obtain⟨its,r,pl,hz⟩:=I.tuple hq;refine SeqAt.in_tupleAt (wz x) pl (fun w hw=>ju rx fx r fs w (by simpa using hw)) ⟨.bl _,H,I,rfl,?_⟩;rw[show its.toArray.any (wz x)=its.any (wz x) by simp,lL r fs];exact q
theorem nI:m_ X (compareOp .NotIn) (VP X.K true):=by
 intro af s σ H x y v u Q I rx ry h;obtain⟨p,xs,rfl,hq,fx,fs,q⟩:=h;cases ry;rcases hq with hq|hq
 .obtain⟨its,r,pl,hz⟩:=I.list hq;refine SeqAt.notIn_listAt (wz x) pl.isList (fun w hw=>ju rx fx r fs w (by simpa using hw)) ⟨.bl _,H,I,rfl,?_⟩;rw[show its.toArray.any (wz x)=its.any (wz x) by simp,lL r fs];exact q
 .obtain⟨its,r,pl,hz⟩:=I.tuple hq;refine SeqAt.notIn_tupleAt (wz x) pl (fun w hw=>ju rx fx r fs w (by simpa using hw)) ⟨.bl _,H,I,rfl,?_⟩;rw[show its.toArray.any (wz x)=its.any (wz x) by simp,lL r fs];exact q
theorem aM:fh X (.builtin "len") (fun xs H Q=>∃p ys,xs=[.ref p]/\(aW X.K H p ys\/bP X.K H p ys)/\Q (.int ys.length) H):=by
 intro af s σ H xs us Q I r h;obtain⟨p,ys,rfl,hq,q⟩:=h;obtain⟨u,rfl,rx⟩:=Cw r;cases rx;have hn:=wu;rcases hq with hq|hq
 .obtain⟨its,r',pl,hz⟩:=I.list hq;have eJ:=r'.length;exact Calls.call_len_list pl.isList (by simp only[cz] <;> lia) ⟨.int ys.length,H,I.tok _,⟨s.toks+1,by rw[cz,eJ]⟩,q⟩
 .obtain⟨its,r',pl,hz⟩:=I.tuple hq;have eJ:=r'.length;exact len_tuple pl (by simp only[cz] <;> lia) ⟨.int ys.length,H,I.tok _,⟨s.toks+1,by rw[cz,eJ]⟩,q⟩
theorem wA:fh X (.type "list") (fun xs H Q=>∃p ys,xs=[.ref p]/\(aW X.K H p ys\/bP X.K H p ys)/\∀l,H l=none->Q (.ref l) (upd H l (.lst ys))):=by
 intro af s σ H xs us Q I r h;obtain⟨p,ys,rfl,hq,q⟩:=h;obtain⟨u,rfl,rx⟩:=Cw r;cases rx;have dQ:∀ (its:List Value),aZ ys its->ys.length<=sizeLine->∀ (h':Heap) (c':Nat),(∀b o',s.heap.get? b=some o'->h'.get? b=some o')->
   h'.get? s.heap.objs.size=some { cls:=.type "list",dict:=none,data:=.seq its.toArray c',slots:=#[] }->EP X af σ Q (.ref s.heap.objs.size) { s with heap:=h' }:=fun its r' hz h' c' kp e=>
  ⟨.ref s.heap.objs.size,_,I.laid (t':=s.toks) kp (aK _) (show cI X.prog X.w _ h' _ (.lst ys) from ⟨hz,its,c',r',e⟩),rfl,q _ (I.ce.fresh (aK _))⟩
 rcases hq with hq|hq
 .obtain⟨its,r',pl,hz⟩:=I.list hq;have eJ:=r'.length;obtain⟨o,ho,hc,n,hd⟩:=pl.isList;exact call_list_seq p (.inl rfl) ho hc hd (fun h' c' kp e=>dQ its r' hz h' c' kp e) (by simp only[cz] <;> lia)
 .obtain⟨its,r',pl,hz⟩:=I.tuple hq;have eJ:=r'.length;obtain⟨o,ho,hc,n,hd⟩:=pl;exact call_list_seq p (.inr rfl) ho hc hd (fun h' c' kp e=>dQ its r' hz h' c' kp e) (by simp only[cz] <;> lia)
theorem gR:fh X (.type "tuple") (fun xs H Q=>∃p ys,xs=[.ref p]/\((aW X.K H p ys/\∀l,H l=none->Q (.ref l) (upd H l (.tup ys)))\/(bP X.K H p ys/\Q (.ref p) H))):=by
 intro af s σ H xs us Q I r h;obtain⟨p,ys,rfl,h⟩:=h;obtain⟨u,rfl,rx⟩:=Cw r;cases rx;rcases h with ⟨hq,q⟩|⟨hq,q⟩
 .obtain⟨its,r',pl,hz⟩:=I.list hq;have eJ:=r'.length;refine call_tuple_list pl.isList (fun h' kp=>?_) (by simp only[cz] <;> lia);have I1:aS X af σ H { s with heap:=h' }:=I.kept (t':=s.toks) kp;have I2:aS X af σ (upd H h'.objs.size (.tup ys)) { s with heap:=h'.push { cls:=.type "tuple",data:=.seq its.toArray } }:=
   I1.laid (t':=s.toks) (fun b o e=>bw _ e) (aK _) (show cI X.prog X.w _ _ _ (.tup ys) from ⟨hz,its,r',pH.new _ _⟩)
  exact⟨.ref h'.objs.size,_,I2,rfl,q _ (I1.ce.fresh (aK _))⟩
 .obtain⟨its,r',pl,hz⟩:=I.tuple hq;exact call_tuple_same pl ⟨.ref p,H,I,rfl,q⟩
def tyV(K:PySem.W.Frag)(T:String)(x:V)(H:Hp):Prop:=match x with
 |.str _=>T="str"
 |.int _=>T="int"
 |.ref p=>(T="list"/\∃xs,aW K H p xs)\/(T="tuple"/\∃o,K.lookup p=some o/\o.cls=.type "tuple"/\o.dict=none)\/
   (T="dict"/\((∃dq,H p=some (.dK dq))\/∃dq,H p=some (.dT dq)))\/(T="set"/\∃S n,H p=some (.set S n))
 |_=>False
theorem NJ(I:aS X af σ H s)(r:bH x v)(ty:tyV X.K T x H):
  s.TypeIs v T/\∀a,v=.ref a->∃ob,s.heap.get? a=some ob/\ob.dict=none:=by
 cases x with
 |str z=>
  obtain⟨t,rfl⟩:=r;cases (show T="str" from ty);exact⟨typeIs_str s z t,fun _ e=>nomatch e⟩
 |int i=>
  obtain⟨t,rfl⟩:=r;cases (show T="int" from ty);exact⟨typeIs_int s i t,fun _ e=>nomatch e⟩
 |ref p=>
  cases r;rcases ty with ⟨rfl,xs,hq⟩|⟨rfl,o,hk,hc,hd⟩|⟨rfl,hk⟩|⟨rfl,S,n,hk⟩
  .obtain⟨its,_,pl,_⟩:=I.list hq;refine⟨pl.isList.typeIs,fun a e=>?_⟩;cases e;obtain⟨o,n,e,c,hd,_⟩:=pl;exact⟨o,e,hd⟩
  .refine⟨⟨o,I.ny p o hk,hc⟩,fun a e=>?_⟩;cases e;exact⟨o,I.ny _ o hk,hd⟩
  .have z:∃o,s.heap.get? p=some o/\o.ExactDict:=by
    rcases hk with ⟨dq,hk⟩|⟨dq,hk⟩
    .obtain⟨_,_,_,_,o,_,_,e,ex,_⟩:=I.ce p _ hk;exact⟨o,e,ex⟩
    .obtain⟨_,_,_,_,o,_,_,e,ex,_⟩:=I.ce p _ hk;exact⟨o,e,ex⟩
   obtain⟨o,e,ex⟩:=z;refine⟨⟨o,e,ex.1⟩,fun a e2=>?_⟩;cases e2;exact⟨o,e,ex.2.1⟩
  .obtain⟨o,_,_,_,e,ex,_⟩:=I.ce p _ hk;refine⟨⟨o,e,ex.1⟩,fun a e2=>?_⟩;cases e2;exact⟨o,e,ex.2.1⟩
 |_=>exact False.elim ty
def tBM(K:PySem.W.Frag)(T:String)(r:V->List V->Hp->VK->Prop)(to:TE)(t:TA):TE:=fun σ H Q=>to σ H fun x H1=>tyV K T x H1/\t σ H1 fun xs H2=>r x xs H2 Q
variable {o e:Expr} {es:List Expr} {to:TE} {t:TA} {name:Str} {wv wB:Pos} {T id:String} {r:V->List V->Hp->VK->Prop}
theorem gE(pa:PlainAttrs T)(slot:Slot T name id)(hty:typeOf (.builtin id)=pure (.type "method_descriptor"))(hm:MtR X id r)(ho:PE X o to)(ha:PA X (e::es) t)(Sf:attributeBase o name X.env (eval o X.env)=eval o X.env:=by rfl)(W8:((backTo wB (starEach (e::es) X.env)).all (fun x=>!x.1)&&(backToKw wB (keywordEach [] X.env)).all (fun x=>x.1.isSome)
   && decide ((e::es).length+([]:List Keyword).length+(if ([]:List Keyword).isEmpty then 0 else 1)<30))=true:=by rfl)(Sg:(wv.endLine==wB.line)=true:=by rfl)(hs:starEach (e::es) X.env=(false,eval e X.env)::starEach es X.env:=by rfl)(A1:(backTo wB (starEach es X.env)).any (·.1)=false:=by rfl):
  PE X (.Call (.Attribute o name wv) (e::es) [] wB) (tBM X.K T r to t):=by
 intro af s σ H Q I h;refine wpAny_Call_method_late Sf W8 Sg rfl (dF (ho af s σ H _ I h) fun v s1 ⟨x,H1,I1,r1,ty,q1⟩=>?_);obtain⟨h1,h2⟩:=NJ I1 r1 ty;refine⟨T,id,pa,slot,hty,h1,h2,?_⟩;have hA:=ha wB af s1 σ H1 _ I1 q1;rw[hs] at hA |-;refine Calls.callWith_builtin (by show (false||(backTo wB (starEach es X.env)).any (·.1))=false;rw[A1] <;> rfl) (Calls.evalArgs_plain ?_);exact dF hA fun us s2 ⟨vs,H2,I2,r2,q2⟩=>hm af s2 σ H2 x vs v us Q I2 r1 r2 q2
end
def VQ(X:Cx)(id:String)(r:V->List V->Hp->VK->Prop):Prop:=
 ∀ (af:List (Addr×Obj)) (s:Shared) (σ:St) (H:Hp) (x:V) (xs:List V) (v:Value) (us:List Value) (Q:VK),aS X af σ H s->bH x v->aZ xs us->r x xs H Q->
  wpAny (model X.prog X.w) X.A (call (.builtin id) (v::us)) (EP X af σ Q) X.xe s
theorem aZ.one{x:V}{us:List Value}(h:aZ [x] us):∃u,us=[u]/\bH x u:=by
 cases h with
 |cons r h=>cases h;exact⟨_,rfl,r⟩
theorem aZ.two{x y:V}{us:List Value}(h:aZ [x,y] us):∃u v,us=[u,v]/\bH x u/\bH y v:=by
 cases h with
 |cons r h=>
  cases h with
  |cons q h=>cases h;exact⟨_,_,rfl,r,q⟩
theorem aZ.eraseIdx:∀ {xs:List V} {us:List Value} (i:Nat),aZ xs us->aZ (xs.eraseIdx i) (us.eraseIdx i)
 |_,_,_,.nil=>.nil
 |_,_,0,.cons _ t=>t
 |_,_,i+1,.cons r t=>.cons r (aZ.eraseIdx i t)
theorem aZ.rep(h:aZ xs us):∀k:Nat,aZ (List.replicate k xs).flatten (List.replicate k us).flatten
 |0=>.nil
 |k+1=>by
  rw[mj,mj,rT,rT];exact aZ.append h (aZ.rep h k)
theorem uZ:∀ (l:List α) (i:Nat),(l.eraseIdx i).length<=l.length
 |[],_=>aK _
 |_::_,0=>sr _
 |_::r,i+1=>Av (uZ r i)
theorem u7(its:List Value):∀ (k:Nat) (c_:List Value),
  List.foldl (fun x1 x2=>x1++x2) c_.toArray (List.replicate k its.toArray)=(c_++(List.replicate k its).flatten).toArray
 |0,c_=>by simp
 |k+1,c_=>by
  have e:c_.toArray++its.toArray=(c_++its).toArray:=by simp
  have e2:(c_++its)++(List.replicate k its).flatten=c_++(List.replicate (k+1) its).flatten:=by
   rw[mj,rT,di]
  rw[<-e2,<-u7 its k (c_++its),<-e,mj,gY]
section
variable {X:Cx} {af:List (Addr×Obj)} {σ:St} {H:Hp} {s:Shared} {l b:Addr} {xs ys zs:List V}
theorem aS.NK{its its':List Value}{n:Nat}{f:Array Value->Array Value}{t':Nat}(I:aS X af σ H s)(hH:H l=some (.lst xs))(e:s.heap.get? l=some { cls:=.type "list",data:=.seq its.toArray n })(hf:f its.toArray=its'.toArray)(hv:aZ ys its')(hz:ys.length<=sizeLine):
  aS X af σ (upd H l (.lst ys)) { s with heap:=s.heap.update l (Obj.mapSeq f),toks:=t' }:=by
 have q:=PySem.IsL.update e f;rw[hf] at q;refine I.write (x:=l) (e:=l) (by rw[hH];exact trivial) (.inl rfl) (fun b' u hb hu=>(me s.heap (Obj.mapSeq f) (dv hb)).trans hu) ⟨_,q⟩ ?_;exact⟨hz,its',_,hv,q⟩
theorem aS.NL(I:aS X af σ H s)(hv:aZ ys its)(hz:ys.length<=sizeLine):
  aS X af σ (upd H s.heap.objs.size (.lst ys)) { s with heap:=s.heap.push { cls:=.type "list",data:=.seq its.toArray },toks:=t' }:=
 I.laid (fun _ _ q=>bw _ q) (aK _) ⟨hz,its,0,hv,b_ _ rfl⟩
theorem aS.fresh(I:aS X af σ H s):H s.heap.objs.size=none:=I.ce.fresh (aK _)
theorem aS.ux(I:aS X af σ H s)(hH:H l=some (.lst xs)):xs.length<=sizeLine/\∃ (its:List Value) (n:Nat),aZ xs its/\xs.length=its.length/\s.heap.get? l=some { cls:=.type "list",data:=.seq its.toArray n }:=by
 obtain⟨z,its,n,r,e⟩:=I.ce l _ hH;exact⟨z,its,n,r,r.length,e⟩
theorem ye(h:n<=sizeLine):Builtin.List.listTooLong n=false:=by
 unfold Builtin.List.listTooLong;exact gw (by lia)
end
section
variable {X:Cx}
def JU:V->List V->Hp->VK->Prop:=fun x vs H Q=>∃l xs y,x=.ref l/\vs=[y]/\H l=some (.lst xs)/\xs.length<sizeLine/\Q .cB (upd H l (.lst (xs++[y])))
theorem cK:VQ X "list.append" JU:=by
 intro af s σ H x vs v us Q I rx rv h;obtain⟨l,xs,y,rfl,rfl,hH,hz,q⟩:=h;cases rx;obtain⟨u,rfl,ru⟩:=rv.one;obtain⟨z,its,n,r,hl,e⟩:=I.ux hH;refine mD F.slot_list_append ⟨_,e,rfl⟩ F.entry_list_append (F.args_list_append_2 _ _) (PySem.list_append l its.toArray n u (by rw[cz];lia)) ⟨e,?_⟩;refine⟨.cB,_,I.NK (its':=its++[u]) hH e (by simp) (r.append (.cons ru .nil)) ?_,rfl,q⟩;rw[dh,md];lia
def JV:V->List V->Hp->VK->Prop:=fun x vs H Q=>∃l b xs zs,x=.ref l/\vs=[.ref b]/\H l=some (.lst xs)/\H b=some (.lst zs)/\xs.length+zs.length<=sizeLine/\Q .cB (upd H l (.lst (xs++zs)))
theorem D9:VQ X "list.extend" JV:=by
 intro af s σ H x vs v us Q I rx rv h;obtain⟨l,b,xs,zs,rfl,rfl,hH,hB,hz,q⟩:=h;cases rx;obtain⟨u,rfl,ru⟩:=rv.one;cases ru;obtain⟨z,its,n,r,hl,e⟩:=I.ux hH;obtain⟨z2,sW,n2,r2,Fp,e2⟩:=I.ux hB;have gZ:its.toArray.size+sW.toArray.size<=sizeLine:=by rw[cz,cz];lia
 have Gg:¬ (!its.toArray.isEmpty&&Builtin.List.listTooLong (its.toArray.size+sW.toArray.size))=true:=by
  rw[ye gZ,Bool.and_false];exact cw
 refine mD F.slot_list_extend ⟨_,e,rfl⟩ F.entry_list_extend (F.args_list_extend_2 _ _)
  (AutoSeq1.list_extend_list_list_0 l its.toArray n b sW.toArray n2 Gg (by rw[cz];lia) (by lia)) ⟨e,e2,?_⟩
 refine⟨.cB,_,I.NK (its':=its++sW) hH e (by simp) (r.append r2) ?_,rfl,q⟩;rw[dh];lia
def Gh:V->List V->Hp->VK->Prop:=fun x vs H Q=>∃l xs i k y,x=.ref l/\vs=[.int i]/\H l=some (.lst xs)/\-(2 ^ 63)<=i/\i<2 ^ 63/\seqIndex? i xs.length=some k/\xs[k]?=some y/\Q y (upd H l (.lst (xs.eraseIdx k)))
theorem yf:VQ X "list.pop" Gh:=by
 intro af s σ H x vs v us Q I rx rv h;obtain⟨l,xs,i,k,y,rfl,rfl,hH,h1,h2,hk,hy,q⟩:=h;cases rx;obtain⟨u,rfl,ru⟩:=rv.one;obtain⟨t,rfl⟩:=ru;obtain⟨z,its,n,r,hl,e⟩:=I.ux hH;obtain⟨w,hw,wn⟩:=r.get hy;refine mD F.slot_list_pop ⟨_,e,rfl⟩ F.entry_list_pop (F.args_list_pop_2 _ _)
  (MeetsSeq.list_pop_at l its.toArray n i t k w (fitsIndex_both h1 h2) (by rw[cz,<-hl];exact hk) (by rw[<-mf];exact hw) (by rw[cz];lia)) ⟨e,?_⟩
 refine⟨y,_,I.NK (its':=its.eraseIdx k) hH e ?_ (r.eraseIdx k) ?_,wn,q⟩
 .show its.toArray.eraseIdxIfInBounds k=(its.eraseIdx k).toArray;rw[List.eraseIdxIfInBounds_toArray]
 .have:=uZ xs k;lia
def Sh:R2:=fun x y H Q=>∃l b xs zs,x=.ref l/\y=.ref b/\H l=some (.lst xs)/\H b=some (.lst zs)/\xs.length+zs.length<=sizeLine/\∀p,H p=none->Q (.ref p) (upd H p (.lst (xs++zs)))
theorem wC:m_ X (binaryOp .Add) Sh:=by
 intro af s σ H x y v u Q I rx ry h;obtain⟨l,b,xs,zs,rfl,rfl,hH,hB,hz,q⟩:=h;cases rx;cases ry;obtain⟨z,its,n,r,hl,e⟩:=I.ux hH;obtain⟨z2,sW,n2,r2,Fp,e2⟩:=I.ux hB;refine PySem.P.add_list e e2 ?_ (by rw[cz,cz];lia);have ea:its.toArray++sW.toArray=(its++sW).toArray:=by simp
 rw[ea];exact⟨.ref _,_,I.NL (t':=s.toks) (r.append r2) (by rw[dh];lia),rfl,q _ I.fresh⟩
def W9:R2:=fun x y H Q=>∃l k xs,x=.ref l/\y=.int k/\H l=some (.lst xs)/\-(2 ^ 63)<=k/\k<2 ^ 63/\xs.length*k.toNat<=sizeLine/\
 ∀p,H p=none->Q (.ref p) (upd H p (.lst (List.replicate k.toNat xs).flatten))
theorem JW(xs:List α)(k:Nat):(List.replicate k xs).flatten.length=k*xs.length:=by
 induction k with
 |zero=>simp
 |succ k ih=>rw[mj,rT,dh,ih,Nat.succ_mul,Nat.add_comm]
theorem A2:m_ X (binaryOp .Mult) W9:=by
 intro af s σ H x y v u Q I rx ry h;obtain⟨l,k,xs,rfl,rfl,hH,h1,h2,hz,q⟩:=h;cases rx;obtain⟨t,rfl⟩:=ry;obtain⟨z,its,n,r,hl,e⟩:=I.ux hH;have eJ:its.toArray.size*k.toNat<=sizeLine:=by rw[cz,<-hl];exact hz
 have W_:¬ its.toArray.size*k.toNat > (2 ^ 63-1) / 8:=by
  have:(sizeLine:Nat)<=(2 ^ 63-1) / 8:=by decide
  lia
 have Xa:¬ (!Builtin.List.listFitsIndex k)=true:=by
  rw[fitsIndex_both h1 h2];exact cw
 have Gg:¬ Builtin.List.listTooLong (its.toArray.size*k.toNat)=true:=by
  rw[ye eJ];exact cw
 have sX:List.foldl (fun x1 x2=>x1++x2) #[] (List.replicate (if its.toArray.isEmpty=true then 0 else k.toNat) its.toArray)=(List.replicate k.toNat its).flatten.toArray:=by
  have f0:∀m:Nat,List.foldl (fun x1 x2=>x1++x2) #[] (List.replicate m its.toArray)=(List.replicate m its).flatten.toArray:=fun m=>by
   have:=u7 its m [];rw[AC] at this;exact this
  rw[f0];cases its with
  |nil=>simp
  |cons a r'=>rw[ak (by simp)]
 refine wpAny_binaryOp_repeat_ref (T:="list") (U:="int") (by decide) ⟨_,e,rfl⟩ (fun s'=>typeIs_int s' k t) noFill_list_mul F.fills_int_mul F.slot_int_rmul repeat_list F.slot_int_index.lookup
  (mD F.slot_int_rmul (typeIs_int s k t) F.entry_int_rmul (F.args_int_rmul_2 _ _) (int___rmul___int_list k t l its.toArray n)
   ⟨e,rfl,⟨_,e,rfl⟩,mD F.slot_list_mul ⟨_,e,rfl⟩ F.entry_list_mul (F.args_list_mul_2 _ _) (AutoListH.list___mul___list_int_3 l its.toArray n k t Xa W_ Gg) ⟨e,?_⟩⟩)
 rw[sX];exact⟨.ref _,_,I.NL (t':=s.toks) (r.rep k.toNat) (by rw[JW,Nat.mul_comm];exact hz),rfl,q _ I.fresh⟩
end
section
variable {prog:Program} {w:World} {A:Around} {E:Value->Shared->Prop} {s:Shared}
end
section
variable {X:Cx}
end
end L2
namespace Att
open PySem PySem.W PySem.Calls PyProof.Rows
theorem qD:∀ (ns:List Int) (vs:List Value),WellAll P h vs (ns.map WData.int)->IntsAre vs ns:=by
 intro ns;induction ns with
 |nil=>
  intro vs w;rw[List.map_nil] at w;cases w;exact .nil
 |cons n ns ih=>
  intro vs w;rw[fv] at w;cases w with
  |cons a b=>
   cases a;exact .cons _ _ (ih _ b)
theorem D_{l:OpenLaw}{n:Nat}(hn:l.most=some n){P:Params}{h:Heap}{args:List WData}{Gi:List Value}(JX:l.row.toRowW.claim.pre args=true)(Xb:WellAll P h Gi args):
  ∃a vs ns,Gi=[Value.ref a]/\args=[WData.list (ns.map WData.int)]/\h.get? a=some { cls:=.type "list",data:=.seq vs.toArray }/\IntsAre vs ns/\ns.length<=n:=by
 have hsh:WShape.hasAll [] args [.list .int]=true:=(pre_splitW JX).1;have hc:l.pre.holds [] { args:=args }=true:=(pre_splitW JX).2;obtain⟨d,r,rfl,h1,h2⟩:=hasAllW_cons hsh;obtain rfl:=hasAllW_nil h2;obtain⟨xs,rfl,h3⟩:=hasW_list h1;obtain⟨ns,rfl⟩:=items_int h3;have eJ:ns.length<=n:=by
  unfold OpenLaw.pre at hc;have h4:(WTm.not (.lt (.lit (.int (n:Int))) (.len (.arg 0)))).holds [] { args:=[.list (ns.map .int)] }=true:=by
   have h4:=(holds_andW hc).1;rw[hn] at h4;exact h4
  have h5:=condW_of h4 (w_not (w_lt w_lit (w_len_list (w_arg rfl))));rw[aT] at h5;refine Nat.le_of_not_lt fun q=>?_;have q':(n:Int)<((ns.length:Nat):Int):=by lia
  first
   |(rw[ie q'] at h5;exact absurd h5 (by decide))
   |(simp at h5;lia)
 cases Xb with
 |cons w1 w2=>
  cases w2;cases w1 with
  |list ho uy=>exact⟨_,_,ns,rfl,rfl,ho,qD ns _ uy,eJ⟩
theorem Ea(l:OpenLaw)(args:List WData):l.row.toRowW.claim.post args (.bool true) args=true:=
 postW_of (r:=l.row.toRowW) (X:=(true==true))
  (show WShape.has [] (.bool true) .bool=true by first|rfl|decide|simp[WShape.has,WShape.arms,WShape.armsAll])
  (show (WTm.eq .res (.lit (.bool true))).value [] { args:=args,res:=some (.bool true),after:=args }=some (.bool (true==true)) from w_eq_bool (w_res rfl) w_lit) rfl
theorem yg{l:OpenLaw}{n:Nat}{q:Program}{u9:List Str}{XP:(Str->Option Value)->Heap->Prop}{YP:World->Heap->Prop}{d:DefRec}(hn:l.most=some n)(Si:d.params.defaults=[])(call:∀ (w:World) (s₀ s₁:Shared) (mg mb:Str->Option Value) (fa:Addr) (o:Obj) (pm cd nF:Value) (a:Addr) (vs:List Value) (ns:List Int),
   Ground q u9 [] XP w s₀ mg mb s₁.heap->YP w s₁.heap->
   s₁.heap.get? fa=some o->o.data=.func (docDef d.name d.params d.body d.scope pm cd nF)->s₁.heap.CodeRec cd d.name->mg d.name=some (.ref fa)->
   s₁.heap.get? a=some { cls:=.type "list",data:=.seq vs.toArray }->IntsAre vs ns->ns.length<=n->s₁.gens=#[]->
   codeAny (model l.prog w) callerA (.call (.ref fa) ⟨[.ref a],[]⟩) (fun r s'=>r=.ok (.ret (.bool true))/\OldK s₁.heap s'.heap/\s'.os=s₁.os/\AllBare s'.gens) s₁):
  WalkO q u9 XP YP l.row.toRowW d [] (fun f vs=>PySem.call f vs):=by
 intro w s₀ s₁ mg mb G Y fa o pm cd nF dV kV ho hd uR hD Sj hg args Gi as JX abm hrd Xb QQ;obtain rfl:dV=.none:=Dflts.none hD Si;obtain rfl:kV=.none:=Dflts.noKw hD;obtain⟨a,vs,ns,rfl,rfl,NM,Gj,eJ⟩:=D_ hn JX Xb;refine enter_call (pE (call w s₀ s₁ mg mb fa o pm cd nF a vs ns G Y ho (fd_plain hd) uR Sj NM Gj eJ hg) fun r s' hq=>?_);obtain⟨rfl,h2,h3,h4⟩:=hq;exact⟨.inl ⟨.bool true,.bool true,[],rfl,fun _=>rfl,.bool true,Ea l _,fun _=>⟨List.Pairwise.nil,fun _ hm=>(nomatch hm)⟩⟩,h2,h3,h4⟩
section
variable {prog:Program} {w:World} {A:Around} {E:Value->Shared->Prop} {s:Shared} {K:Frag}
end
end Att
namespace L2
open PySem PySem.Spec PyProof.Rows
theorem u_:∀ {vs:List Value} {ns:List Int},IntsAre vs ns->aZ (ns.map V.int) vs
 |_,_,.nil=>.nil
 |_,_,.cons n t h=>.cons ⟨t,rfl⟩ (u_ h)
def fA(s:Stmt)(j:Nat):Stmt:=match s with
 |.ClassDef _ _ _ body _ _ _ _ _ _ _=>body.getD j (.Pass ⟨0,0,0,0⟩)
 |_=>.Pass ⟨0,0,0,0⟩
def dI(s:Stmt):Arguments:=match s with
 |.FunctionDef _ a _ _ _ _ _ _ _ _=>a
 |_=>{ posonlyargs:=[],args:=[],vararg:=none,kwonlyargs:=[],kw_defaults:=[],kwarg:=none,defaults:=[] }
def bZ(s:Stmt):List Stmt:=match s with
 |.FunctionDef _ _ b _ _ _ _ _ _ _=>b
 |_=>[]
def av(s:Stmt):Scope:=match s with
 |.FunctionDef _ _ _ _ _ _ sc _ _ _=>sc
 |_=>{ kind:=.function,names:=[],isGenerator:=false,isCoroutine:=false }
abbrev bg:zN:=fun _ _ _ _ _ _=>False
abbrev E0:XK:=fun _ _ _=>False
theorem aN:mI bg X E0:=fun _ _ _ _ _ _ _ h=>h.elim
structure ig(K:PySem.W.Frag)(x qual:Str)(st:Stmt)(f:Addr)(fd:FuncData):Prop where
 ex:∃ (oc:Value) (od:Option Addr) (kV nF pm:Value) (an:Option Addr) (eY ct:Value) (zO:Array (Option Value)),
  fd=PySem.W.fnOf x qual (dI st) (bZ st) (av st) .none kV nF pm an eY ct/\K.lookup f=some ⟨oc,od,.func fd,zO⟩/\PySem.W.codeIn K eY qual=true
 kp:PySem.W.keepIn K (.ref f)=true
section
variable {P:Program} {w:World} {K:PySem.W.Frag} {mg:Str->Option Value} {base:Heap}
theorem ig.ok{x qual:Str}{st:Stmt}{f:Addr}{fd:FuncData}{N ps:List Str}{k:Nat}{sp:Sp}(F:ig K x qual st f fd)(S:aR N ps (av st))(len:∀vs H Q E,sp vs H Q E->vs.length=ps.length)(xZ:∀ (eY:Value) (A:Around) (outer:List Env) (s:Shared) (H:Hp) (vs:List V) (Q:VK) (E:XK),cg k (A.deeper (envOfC qual (av st) s.heap.objs.size f eY))->sp vs H Q E->
   ∃t,AK (lc bg P w K mg base N qual (av st) f eY A outer s H E).zL (bZ st) t/\t { nx:=fun _ H'=>Q .cB H',rt:=Q } (start N vs) H):bA P w K mg base bg (k+1) f fd ps sp:=by
 obtain⟨oc,od,kV,nF,pm,an,eY,ct,zO,rfl,lk,uR⟩:=F.ex;refine Ml lk uR S len fun A outer s H vs Q E hr Jq=>?_;obtain⟨t,h,q⟩:=xZ eY A outer s H vs Q E hr Jq;exact⟨t,h.zL,q⟩
theorem ig.binds{x qual:Str}{st:Stmt}{f:Addr}{fd:FuncData}{ps:List Str}(F:ig K x qual st f fd)(h:∀ (kV nF pm:Value) (an:Option Addr) (eY ct:Value) (us:List Value),us.length=ps.length->bindArgs (PySem.W.fnOf x qual (dI st) (bZ st) (av st) .none kV nF pm an eY ct) ⟨us,[]⟩=pure (ps.zip us)):j_ K fd ps []:=by
 obtain⟨oc,od,kV,nF,pm,an,eY,ct,zO,rfl,lk,uR⟩:=F.ex;exact .all (h kV nF pm an eY ct)
theorem sY{x qual:Str}{st:Stmt}{f:Addr}{oc:Value}{od an:Option Addr}{zO:Array (Option Value)}{kV nF pm eY ct:Value}(l:K.lookup f=some ⟨oc,od,.func (PySem.W.fnOf x qual (dI st) (bZ st) (av st) .none kV nF pm an eY ct),zO⟩)(c:PySem.W.codeIn K eY qual=true)(k:PySem.W.keepIn K (.ref f)=true):ig K x qual st f (PySem.W.fnOf x qual (dI st) (bZ st) (av st) .none kV nF pm an eY ct):=⟨⟨oc,od,kV,nF,pm,an,eY,ct,zO,rfl,l,c⟩,k⟩
end
section
variable {X:Cx}
theorem pv(i:Nat)(hN:X.N[i]?=some x:=by rfl)(hv:QM X.env.scope x:=by first|exact Or.inl rfl|exact Or.inr (Or.inl rfl)|exact Or.inr (Or.inr rfl))(hd:(x==("__debug__":Str))=false:=by decide)(uR:(x==("__classdict__":Str))=false:=by decide):PE X (.Name x pos) (a9 i):=Nn hN hv hd uR
end
theorem iH{A B:Prop}(h:B):if false=true then A else B:=by
 rw[ak cw];exact h
theorem yh{A B:Prop}(h:A):if true=true then A else B:=by
 rw[ao rfl];exact h
theorem fZ{c A B:Prop}[Decidable c](h1:c->A)(h2:¬ c->B):if c then A else B:=by
 by_cases h:c
 .rw[ao h];exact h1 h
 .rw[ak h];exact h2 h
def aO(H H':Hp):Prop:=∀b o,H b=some o->H' b=some o
theorem aO.refl(H:Hp):aO H H:=fun _ _ h=>h
theorem aO.trans(a:aO H H1)(b:aO H1 H2):aO H H2:=fun c o h=>b c o (a c o h)
theorem aO.free(e:aO H H')(h:H' l=Option.none):H l=Option.none:=by
 cases q:H l with
 |none=>rfl
 |some o=>
  rw[e l o q] at h;cases h
def zP(src:List (Option Nat))(σ:St):St:=src.map fun o=>match o with|some j=>σ.getD j none|none=>none
theorem CG{src:List (Option Nat)}{σ:St}{i:Nat}{v:V}(h:(zP src σ)[i]?=some (some v)):∃j,src[i]?=some (some j)/\σ[j]?=some (some v):=by
 unfold zP at h;rw[bU] at h;cases e:src[i]? with
 |none=>rw[e] at h;cases h
 |some o=>
  rw[e] at h;cases o with
  |none=>cases h
  |some j=>
   refine⟨j,rfl,?_⟩;have h':σ.getD j none=some v:=bN h;rw[bW] at h';cases e2:σ[j]? with
   |none=>rw[e2] at h';cases h'
   |some o=>rw[e2] at h';rw[show o=some v from h']
structure g7(NB:List Str)(src:List (Option Nat))(scope:Scope)(X:Cx):Prop where
 kind:scope.kind=.function
 nd:NB.Nodup
 len:src.length=NB.length
 cells:∀y∈scope.names,y.2=.cell->scope.names.lookup y.1=some .cell
 names:∀y∈scope.names,y.2=.local->scope.names.lookup y.1=some .local
 free:∀y∈scope.names,y.2=.free->X.env.scope.names.lookup y.1=some .cell\/X.env.scope.names.lookup y.1=some .free
 src:∀ (i:Nat) (x:Str) (j:Nat),NB[i]?=some x->src[i]?=some (some j)->X.N[j]?=some x/\scope.names.lookup x=some .free
def wD(scope:Scope)(x:Str):Bool:=match scope.names.lookup x with
 |some .cell=>true
 |_=>false
theorem yi:wD scope x=true↔scope.names.lookup x=some .cell:=by
 unfold wD;split
 .rename_i h;exact⟨fun _=>h,fun _=>rfl⟩
 .rename_i h;exact⟨fun z=>(by cases z),fun z=>absurd z h⟩
def CH(X:Cx)(NB:List Str)(scope:Scope)(cl:List (Str×Addr))(C:Addr)(s₃:Shared)(H₃:Hp)(fp:List Addr):Cx:=
 { X with N:=NB,s₀:=s₃,H₀:=H₃,env:=compEnvC scope cl C X.env,outer:=X.stack,stack:=X.stack,ex:=fp,fn:=wD scope,pn:=[],xe:=fun _ _=>False }
theorem mJ:∀ (names:List (Str×NameKind)) (c_:List (Str×Addr)),(∀y∈names,y.2=NameKind.free->∃c,env.cells.lookup y.1=some c)->(∀x c,c_.lookup x=some c->env.cells.lookup x=some c)->
  ∃cl,(forIn names c_ fun x r=>(if (x.2==NameKind.free)=true then (do let a <- cellOf env x.1;pure (ForInStep.yield ((x.1,a)::r))) else pure (ForInStep.yield r):Sem (ForInStep (List (Str×Addr)))))=(pure cl:Sem (List (Str×Addr)))/\
   (∀x c,cl.lookup x=some c->env.cells.lookup x=some c)/\(∀x c,c_.lookup x=some c->∃c',cl.lookup x=some c')/\∀x,(x,NameKind.free)∈names->∃c,cl.lookup x=some c
 |[],c_,_,ha=>⟨c_,by rw[pq],ha,fun x c h=>⟨c,h⟩,fun x h=>nomatch h⟩
 |(n,k)::r,c_,hf,ha=>by
  by_cases hk:k=NameKind.free
  .subst hk;obtain⟨c,hc⟩:=hf (n,NameKind.free) bR rfl;have NN:∀x c',((n,c)::c_).lookup x=some c'->env.cells.lookup x=some c':=fun x c' h=>by
    rw[fT] at h;cases hx:x==n with
    |true=>
     rw[hx] at h;cases h;have:x=n:=by simpa using hx
     rw[this];exact hc
    |false=>rw[hx] at h;exact ha x c' h
   obtain⟨cl,e1,e2,e3,e4⟩:=mJ r ((n,c)::c_) (fun y hy=>hf y (cD _ hy)) NN;refine⟨cl,?_,e2,fun x c' h=>?_,fun x h=>?_⟩
   .rw[ph];have ec:cellOf env n=pure c:=by unfold cellOf;rw[hc]
    have e0:(if ((n,NameKind.free).2==NameKind.free)=true then (do let a <- cellOf env (n,NameKind.free).1;pure (ForInStep.yield (((n,NameKind.free).1,a)::c_))) else pure (ForInStep.yield c_):Sem (ForInStep (List (Str×Addr))))=pure (ForInStep.yield ((n,c)::c_)):=by
     rw[ao (show (NameKind.free==NameKind.free)=true by decide)];show cellOf env n >>= _=_;rw[ec];rfl
    rw[e0];exact e1
   .cases hx:x==n with
    |true=>exact e3 x c (by rw[fT,hx])
    |false=>exact e3 x c' (by rw[fT,hx];exact h)
   .rcases bb.mp h with h|h
    .cases h;exact e3 n c (by rw[fT];simp)
    .exact e4 x h
  .obtain⟨cl,e1,e2,e3,e4⟩:=mJ r c_ (fun y hy=>hf y (cD _ hy)) ha;refine⟨cl,?_,e2,e3,fun x h=>?_⟩
   .rw[ph];have hb:(k==NameKind.free)=false:=by simpa using hk
    have e0:(if ((n,k).2==NameKind.free)=true then (do let a <- cellOf env (n,k).1;pure (ForInStep.yield (((n,k).1,a)::c_))) else pure (ForInStep.yield c_):Sem (ForInStep (List (Str×Addr))))=pure (ForInStep.yield c_):=by
     rw[ak (by show ¬ (k==NameKind.free)=true;rw[hb];decide)]
    rw[e0];exact e1
   .rcases bb.mp h with h|h
    .cases h;exact absurd rfl hk
    .exact e4 x h
theorem mK(ok:X.Ok)(S:g7 NB src scope X):
  ∃cl,closureFor scope X.env=pure cl/\(∀x c,cl.lookup x=some c->X.env.cells.lookup x=some c)/\∀x,(x,NameKind.free)∈scope.names->∃c,cl.lookup x=some c:=by
 obtain⟨cl,e1,e2,_,e4⟩:=mJ (env:=X.env) scope.names [] (fun y hy hk=>ok.has y.1 (S.free y hy hk)) (fun x c h=>nomatch h);refine⟨cl,?_,e2,e4⟩;unfold closureFor;simp only[bind_pure];exact e1
theorem wE(h:scope.names.lookup x=some .free):(relabel scope env).names.lookup x=some .cell\/(relabel scope env).names.lookup x=some .free:=by
 have go:∀names:List (Str×NameKind),names.lookup x=some .free->
   (names.map fun (n,k)=>if (k==NameKind.free&&env.scope.kind==.function&&env.kindOf n==some .cell) then (n,NameKind.cell) else (n,k)).lookup x=some .cell\/
   (names.map fun (n,k)=>if (k==NameKind.free&&env.scope.kind==.function&&env.kindOf n==some .cell) then (n,NameKind.cell) else (n,k)).lookup x=some .free:=by
  intro names;induction names with
  |nil=>intro h;simp at h
  |cons y r ih=>
   intro h;obtain⟨n,k⟩:=y;rw[fT] at h;rw[fv];cases hx:x==n with
   |true=>
    rw[hx] at h;cases h;by_cases hc:(NameKind.free==NameKind.free&&env.scope.kind==.function&&env.kindOf n==some .cell)=true
    .left;show List.lookup x ((if _ then _ else _)::_)=_;rw[ao hc,fT,hx]
    .right;show List.lookup x ((if _ then _ else _)::_)=_;rw[ak hc,fT,hx]
   |false=>
    rw[hx] at h;by_cases hc:(k==NameKind.free&&env.scope.kind==.function&&env.kindOf n==some .cell)=true
    .show List.lookup x ((if _ then _ else _)::_)=_\/List.lookup x ((if _ then _ else _)::_)=_;rw[ao hc,fT,hx];exact ih h
    .show List.lookup x ((if _ then _ else _)::_)=_\/List.lookup x ((if _ then _ else _)::_)=_;rw[ak hc,fT,hx];exact ih h
 exact go scope.names h
theorem nJ(h:(relabel scope env).names.lookup x=some k)(hk:k=.cell\/k=.free):(x,NameKind.free)∈scope.names\/(x,NameKind.cell)∈scope.names:=by
 have m:=kD h;obtain⟨⟨n,k'⟩,hm,e⟩:=bj.mp m;by_cases q:(k'==NameKind.free&&env.scope.kind==.function&&env.kindOf n==some .cell)=true
 .have e':(n,NameKind.cell)=(x,k):=by simpa [q] using e
  have k1:k'=NameKind.free:=by
   simp only[fU,fj] at q;exact q.1.1
  cases e';left;rw[<-k1];exact hm
 .have e':(n,k')=(x,k):=by simpa [q] using e
  cases e';rcases hk with z|z
  .subst z;exact .inr hm
  .subst z;exact .inl hm
theorem pO:∀ (names:List (Str×NameKind)) (h:Heap) (c_:List (Str×Addr)) (x:Str) (c:Addr),(cellsFrom h.objs.size names c_).lookup x=some c->c_.lookup x=some c\/(h.objs.size<=c/\(pushCells h names).IsCell c none)
 |[],_,_,_,_,e=>.inl e
 |(name,kind)::r,h,c_,x,c,e=>by
  unfold cellsFrom at e;unfold pushCells;split at e
  .rename_i hk;rw[ao hk];have gZ:(h.push { cls:=.type "cell",data:=.cell none }).objs.size=h.objs.size+1:=iy ..;rw[<-gZ] at e;rcases pO r _ _ x c e with z|⟨z1,z2⟩
   .rw[fT] at z;cases hx:x==name with
    |true=>
     rw[hx] at z;cases z;exact .inr ⟨aK _,_,pushCells_keeps r _ _ _ (b_ _ rfl),rfl⟩
    |false=>rw[hx] at z;exact .inl z
   .exact .inr ⟨by lia,z2⟩
  .rename_i hk;rw[ak hk];exact pO r h c_ x c e
theorem va:∀ (names:List (Str×NameKind)) (n:Nat) (c_:List (Str×Addr)) (x:Str),(x,NameKind.cell)∈names->∃c,n<=c/\(cellsFrom n names c_).lookup x=some c:=by
 have up:∀ (names:List (Str×NameKind)) (n m:Nat) (c_:List (Str×Addr)) (x:Str) (c:Addr),c_.lookup x=some c->m<=c->m<=n->∃c',m<=c'/\(cellsFrom n names c_).lookup x=some c':=by
  intro names;induction names with
  |nil=>intro n m c_ x c e h _;exact⟨c,h,e⟩
  |cons y r ih=>
   intro n m c_ x c e h hm;obtain⟨name,kind⟩:=y;unfold cellsFrom;split
   .cases hx:x==name with
    |true=>exact ih (n+1) m _ x n (by rw[fT,hx]) hm (by lia)
    |false=>exact ih (n+1) m _ x c (by rw[fT,hx];exact e) h (by lia)
   .exact ih n m c_ x c e h hm
 intro names;induction names with
 |nil=>intro n c_ x h;cases h
 |cons y r ih=>
  intro n c_ x h;obtain⟨name,kind⟩:=y;unfold cellsFrom;rcases bb.mp h with z|z
  .cases z;rw[ao (by decide)];exact up r (n+1) n _ x n (by rw[fT];simp) (aK _) (by lia)
  .split
   .obtain⟨c,h1,h2⟩:=ih (n+1) ((name,n)::c_) x z;exact⟨c,by lia,h2⟩
   .exact ih n c_ x z
theorem lM:∀ (names:List (Str×NameKind)) (n:Nat) (c_:List (Str×Addr)) (x:Str) (c:Addr),c_.lookup x=some c->(x,NameKind.cell)∉names->(cellsFrom n names c_).lookup x=some c
 |[],_,_,_,_,e,_=>e
 |(name,kind)::r,n,c_,x,c,e,h=>by
  have hr:(x,NameKind.cell)∉r:=fun z=>h (cD _ z);unfold cellsFrom;split
  .rename_i hk;have lS:(x==name)=false:=by
    cases hx:x==name with
    |false=>rfl
    |true=>
     have e1:x=name:=by simpa using hx
     have e2:kind=.cell:=by simpa using hk
     exact absurd (by rw[e1,e2];exact bR) h
   exact lM r (n+1) _ x c (by rw[fT,lS];exact e) hr
  .exact lM r n c_ x c e hr
theorem pP:∀ (names:List (Str×NameKind)) (n:Nat) (c_:List (Str×Addr)),(∀x y c,c_.lookup x=some c->c_.lookup y=some c->x=y)->(∀x c,c_.lookup x=some c->c<n)->∀x y c,(cellsFrom n names c_).lookup x=some c->(cellsFrom n names c_).lookup y=some c->x=y
 |[],_,_,hi,_=>hi
 |(name,kind)::r,n,c_,hi,hl=>by
  unfold cellsFrom;split
  .refine pP r (n+1) _ (fun x y c h1 h2=>?_) (fun x c h=>?_)
   .rw[fT] at h1 h2;cases hx:x==name <;> cases hy:y==name <;> rw[hx] at h1 <;> rw[hy] at h2
    .exact hi x y c h1 h2
    .cases h2;exact absurd (hl x _ h1) (iz _)
    .cases h1;exact absurd (hl y _ h2) (iz _)
    .have e1:x=name:=by simpa using hx
     have e2:y=name:=by simpa using hy
     rw[e1,e2]
   .rw[fT] at h;cases hx:x==name <;> rw[hx] at h
    .exact cV (hl x c h)
    .cases h;exact kH _
  .exact pP r n c_ hi hl
section
variable {X:Cx} {af:List (Addr×Obj)} {σ:St} {H:Hp} {s:Shared} {NB:List Str} {src:List (Option Nat)} {scope:Scope} {cl:List (Str×Addr)} {fp:List Addr} {h₁:Heap} {t₁:Nat}
theorem JY(I:aS X af σ H s)(S:g7 NB src scope X)(c1:∀x c,cl.lookup x=some c->X.env.cells.lookup x=some c)(c2:∀x,(x,NameKind.free)∈scope.names->∃c,cl.lookup x=some c)(hf:∀b∈fp,gh X af H b)(NO:∀b∈fp,b<s.heap.objs.size){m:Str->Option Value}(hn:h₁.Ns s.heap.objs.size m)(hk:∀b o,s.heap.get? b=some o->h₁.get? b=some o)(sX:∀x c,(cellsFrom (s.heap.objs.size+1) scope.names cl).lookup x=some c->cl.lookup x=some c\/(s.heap.objs.size<c/\h₁.IsCell c none)):
  aS (CH X NB scope (cellsFrom (s.heap.objs.size+1) scope.names cl) s.heap.objs.size s H fp) [] (zP src σ) H { s with heap:=h₁,toks:=t₁ }:=by
 have QN:∀b∈Fk X.stack,b∈X.env.locals::X.fs:=I.wf;have wF:∀x c,cl.lookup x=some c->∃v,s.heap.IsCell c v:=fun x c e=>I.cell x c (c1 x c e);have Xc:∀x c,cl.lookup x=some c->c<s.heap.objs.size:=fun x c e=>by obtain⟨v,o,ho,_⟩:=wF x c e;exact aP ho
 refine⟨⟨I.ok.mod,S.kind,I.ok.glob,I.ok.blt,aK _,pP _ _ _ (fun x y c e1 e2=>I.ok.inj x y c (c1 x c e1) (c1 y c e2)) (fun x c e=>cV (Xc x c e)),fun x hx=>?_,fun x c z e=>?_,I.ok.hd,I.ok.frames,.inl rfl,fun b hb=>⟨?_,fun x c e=>?_⟩,I.bs,aX I.ok.FT I.sz,fun b o e hb=>?_,fun b hb=>?_,I.stack,I.wg⟩,
  rfl,I.bare,Un.kept hk,⟨m,hn,fun i x v e1 e2 e3=>?_⟩,fun x c e=>?_,I.ce.fresh (aK _),fun x c e=>?_,fun p hp=>absurd (show p∈([]:List (Addr×Obj)) from hp) (by simp),I.ce.kept hk,?_⟩
 .have A3:(x,NameKind.free)∈scope.names\/(x,NameKind.cell)∈scope.names:=by
   rcases hx with hx|hx
   .exact nJ hx (.inl rfl)
   .exact nJ hx (.inr rfl)
  by_cases hc:(x,NameKind.cell)∈scope.names
  .obtain⟨c,_,e⟩:=va scope.names (s.heap.objs.size+1) cl x hc;exact⟨c,e⟩
  .rcases A3 with z|z
   .obtain⟨c,e⟩:=c2 x z;exact⟨c,lM _ _ _ _ _ e hc⟩
   .exact absurd z hc
 .have hm:=kD (yi.mp z);obtain⟨c',h1,h2⟩:=va scope.names (s.heap.objs.size+1) cl x hm;have e':(cellsFrom (s.heap.objs.size+1) scope.names cl).lookup x=some c:=e;rw[h2] at e';cases e';exact Nat.le_of_succ_le h1
 .exact ba (NO b hb)
 .rcases sX x c e with z|⟨z,_⟩
  .exact(hf b hb).2.2.2.2.1 x c (c1 x c z)
  .exact fw (pA (NO b hb) z)
 .rcases(hf b hb).2.2.2.1 with z|z
  .exact I.ok.FU b o e z
  .exact absurd (bi (aP e) (aX I.ok.FT z)) (iz _)
 .intro z;rcases bb.mp (QN b z) with e|e
  .exact(hf b hb).2.1 e
  .exact(hf b hb).2.2.1 e
 .obtain⟨j,hj,hv⟩:=CG e2;obtain⟨hN,hF⟩:=S.src i x j e1 hj;obtain⟨m0,Fq,NP⟩:=I.loc;have A4:=kD hF;have kx:=S.free _ A4 rfl;have RV:QM X.env.scope x:=by
   rcases kx with z|z
   .exact .inr (.inl z)
   .exact .inr (.inr z)
  obtain⟨u,r,l⟩:=NP j x v hN hv RV;refine⟨u,r,.inr ⟨wE hF,?_⟩⟩;obtain⟨c,hc⟩:=c2 x A4;have hnc:(x,NameKind.cell)∉scope.names:=fun z=>by
   have:=S.cells _ z rfl;rw[hF] at this;cases this
  refine⟨c,lM _ _ _ _ _ hc hnc,?_⟩;rcases l with ⟨Jr,_⟩|⟨_,c',e,z⟩
  .have Gk:X.env.scope.names.lookup x=some .local:=Jr;rcases kx with z|z <;> (rw[z] at Gk;cases Gk)
  .rw[c1 x c hc] at e;cases e;obtain⟨o,ho,hd⟩:=z;exact⟨o,hk _ _ ho,hd⟩
 .rcases sX x c e with z|⟨_,z⟩
  .obtain⟨v,o,ho,hd⟩:=wF x c z;exact⟨v,o,hk _ _ ho,hd⟩
  .exact⟨none,z⟩
 .rcases sX x c e with z|⟨z,_⟩
  .exact I.kZ x c (c1 x c z)
  .exact I.ce.fresh (jO z)
 .show (zP src σ).length=NB.length;unfold zP;rw[aT];exact S.len
theorem aS.Sk(I:aS X af σ H s)(J:aS (CH X NB scope cl C s H fp) [] σB H' s')(hf:∀b∈fp,gh X af H b):aS X af σ H' s':=by
 refine I.Md (ch:=fp) J.os J.base J.ce J.bare fun b hb=>?_;obtain⟨_,f1,_,f3,f4,f5⟩:=hf b hb;exact⟨f3,f1,f4,f5⟩
end
def QR(X:Cx)(CJ:List Expr)(t:TT):Prop:=
 ∀ (af:List (Addr×Obj)) (s:Shared) (σ:St) (H:Hp) (Q:Bool->Hp->Prop),aS X af σ H s->t σ H Q->
  wpAny (model X.prog X.w) X.A (forIn CJ true fun c r=>if r=true then do let ok <- isTrue c X.env (eval c X.env);pure (ForInStep.yield ok) else pure (ForInStep.yield r)) (TP X af σ Q) X.xe s
def NQ:TT:=fun _ H Q=>Q true H
theorem dz:QR X [] NQ:=fun _ _ _ H _ I h=>wpAny_tests_nil ⟨H,I,h⟩
theorem gU(h:PT X c t):QR X [c] t:=fun af s σ H Q I q=>wpAny_tests_one (h af s σ H Q I q)
def ii(J:It)(g:TG)(tt:TT)(te:TE)(D:Addr)(dQ:Hp->Prop)(σB:St)(H1:Hp):Prop:=
 ∃W:Nat->Nat->St->Hp->Prop,(∃m,W 0 m σB H1)/\∀i m σ H,W i m σ H->(J.stop i H/\dQ H)\/(J.go i H/\∀x H',J.Mf i H x H'->g x σ H' fun σ2 H2=>tt σ2 H2 fun b H3=>
  if b=true then te σ2 H3 fun v H4=>∃ys,H4 D=some (.lst ys)/\ys.length<sizeLine/\∃m',m'<m/\W (i+1) m' σ2 (upd H4 D (.lst (ys++[v]))) else ∃m',m'<m/\W (i+1) m' σ2 H3)
theorem Eb(hx:B.xe=fun _ _=>False)(hc:B.calm=true)(T:wq B.prog B.w B.K tg J fp it tn)(hg:PG B tg g)(ht:QR B CJ tt)(he:PE B Fs te)(I:aS B [] σB H1 s)(st:tn 0 s.heap)(hf:∀b∈fp,gh B [] H1 b)(hw:ii J g tt te D dQ σB H1)(hR:∀σ' H' s',aS B [] σ' H' s'->dQ H'->R (.ok .next) s'):
  codeAny (model B.prog B.w) B.A (.compLoop (.ListComp Fs [⟨tg,kj,CJ,0⟩] scope pos) 0 (.ref it) (.ref D) B.env) R s:=by
 obtain⟨W,⟨m0,w0⟩,FX⟩:=hw;have AQ:∀ {H':Hp},(∀b∈fp,H' b=none)->∀b∈fp,gh B [] H' b:=fun hn b hb=>⟨hn b hb,(hf b hb).2⟩
 refine codeAny_loop rfl (fun n s'=>∃i σ' H',aS B [] σ' H' s'/\tn i s'.heap/\(∀b∈fp,H' b=none)/\W i n σ' H') ?_ m0 ⟨0,σB,H1,I,st,fun b hb=>(hf b hb).1,w0⟩;rintro n s3 ⟨i,σ3,H3,I3,iS,Jo,w3⟩;show wpAny _ B.A ((compTurn (.ListComp Fs [⟨tg,kj,CJ,0⟩] scope pos) 0 (.ref it) (.ref D) B.env).onRaise (fun x=>do noteFrame x B.env;theTreesLotGoes x)) _ _ s3;refine wpAny_noted ?_;rw[compTurn_list];have nx:∀ {α:Type} {t:Sem α} {Q:α->Shared->Prop} {E':Value->Shared->Prop} {s:Shared},wpAny (model B.prog B.w) B.A t Q B.xe s->wpAny (model B.prog B.w) B.A t Q E' s:=fun h=>
  jd h (fun _ _ q=>q) fun _ _ z=>by rw[hx] at z;exact z.elim
 rcases FX i n σ3 H3 w3 with ⟨stop,qn⟩|⟨go,step⟩
 .refine aw (pC (aw (dF (T.done B rfl rfl rfl hc i [] s3 σ3 H3 _ I3 (AQ Jo) iS stop) fun r s4 ⟨hr,I4⟩=>?_)));subst hr;exact wpAny_pure (hR σ3 H3 s4 I4 qn)
 .refine aw (pC (aw (dF (T.item B rfl rfl rfl hc i [] s3 σ3 H3 _ I3 (AQ Jo) iS go) fun r s4 ⟨u,hr,h4⟩=>?_)));subst hr;refine aw (dF h4 fun _ s5 ⟨x,H5,I5,r5,y5,xJ,NA⟩=>?_);have W0:=I5.pinned (AQ NA) (T.obj _ _ xJ);refine aw (nx (dF (hg _ s5 σ3 H5 x u _ W0 r5 (step x H5 y5)) fun _ s6 ⟨σ6,H6,I6,q6⟩=>?_));have back:∀ {σ7:St} {H7:Hp} {s7:Shared} {m':Nat},aS B ([]++sI fp s5.heap) σ7 H7 s7->m'<n->W (i+1) m' σ7 H7->∃m,m<n/\∃i σ' H',aS B [] σ' H' s7/\tn i s7.heap/\(∀b∈fp,H' b=none)/\W i m σ' H':=fun {σ7 H7 s7 m'} I7 hm w7=>by
   refine⟨m',hm,i+1,σ7,H7,I7.nB,T.keep _ _ _ xJ fun b hb o e=>(I7.pin (b,o) (dR _ (dR _ (jU hb e)))).1,fun b hb=>?_,w7⟩;obtain⟨o,e,d⟩:=T.obj _ _ xJ b hb;exact(I7.pin (b,o) (dR _ (dR _ (jU hb e)))).2.1
  refine aw (nx (dF (ht _ s6 σ6 H6 _ I6 q6) fun ok s7 ⟨H7,I7,q7⟩=>?_));cases ok with
  |false=>
   rw[ak cw] at q7;obtain⟨m',hm,w7⟩:=q7;exact wpAny_pure ⟨rfl,back I7 hm w7⟩
  |true=>
   rw[ao rfl] at q7;refine aw (aw (nx (dF (he _ s7 σ6 H7 _ I7 q7) fun v s8 ⟨y,H8,I8,r8,ys,hD,hl,m',hm,w8⟩=>?_)));refine aw (nx (dF (cK _ s8 σ6 H8 (.ref D) [y] (.ref D) [v] (fun _ H9=>H9=upd H8 D (.lst (ys++[y]))) I8 rfl (.cons r8 .nil) ⟨D,ys,y,rfl,rfl,hD,hl,rfl⟩) fun _ s9 ⟨_,H9,I9,_,e9⟩=>?_));subst e9;exact wpAny_pure (wpAny_pure ⟨rfl,back I9 hm w8⟩)
theorem wG(hQ:Q { scope:=scope,locals:=s.heap.objs.size,globals:=globals,cells:=cellsFrom (s.heap.objs.size+1) scope.names cl,qual:=qual,func:=none,code:=outer.code,frame:=outer.frame,builtins:=outer.builtins }
   { s with heap:=pushCells (s.heap.push { cls:=.type "dict",data:=.dict #[] }) scope.names }):
  wpAny M A (newFunctionEnv scope globals cl [] qual none .none (some outer)) Q E s:=by
 simp only[newFunctionEnv,Option.isSome_some,jQ];refine aw (wpAny_alloc ?_);refine aw (wpAny_layCells _ (fun name kind cells=>by cases hkc:kind==NameKind.cell <;> simp[hkc]) _ _ _ _ ?_);rw[show ({ s with heap:=s.heap.push { cls:=.type "dict",data:=.dict #[] } }:Shared).heap.objs.size=s.heap.objs.size+1 from iy ..];refine aw ?_;rw[pq];exact wpAny_pure (wpAny_pure hQ)
section
variable {X:Cx} {Fs tg kj:Expr} {CJ:List Expr} {scope:Scope} {pos:Pos} {wi:TI} {g:TG} {tt:TT} {te:TE} {NB:List Str} {src:List (Option Nat)}
def Gm(src:List (Option Nat))(wi:TI)(g:TG)(tt:TT)(te:TE):TE:=fun σ H Q=>wi σ H fun J H1=>∀D,H1 D=none->ii J g tt te D (fun H'=>Q (.ref D) H') (zP src σ) (upd H1 D (.lst []))
theorem sZ{af:List (Addr×Obj)}{σ:St}{H2:Hp}{s2:Shared}{J:It}{fp:List Addr}{it:Addr}{tn:Nat->Heap->Prop}{cl:List (Str×Addr)}{dQ:Addr->Hp->Prop}{E':Value->Shared->Prop}{RR:Value->Addr->Result->Shared->Prop}(S:g7 NB src scope X)(hc:X.calm=true)(c1:∀x c,cl.lookup x=some c->X.env.cells.lookup x=some c)(c2:∀x,(x,NameKind.free)∈scope.names->∃c,cl.lookup x=some c)(hg:∀cl C s₃ H₃ fp,PG (CH X NB scope cl C s₃ H₃ fp) tg g)(ht:∀cl C s₃ H₃ fp,QR (CH X NB scope cl C s₃ H₃ fp) CJ tt)(he:∀cl C s₃ H₃ fp,PE (CH X NB scope cl C s₃ H₃ fp) Fs te)(I2:aS X af σ H2 s2)(T:wq X.prog X.w X.K tg J fp it tn)(km:tn 0 s2.heap)(f2:∀b∈fp,gh X af H2 b)(hw:∀D,H2 D=none->ii J g tt te D (dQ D) (zP src σ) (upd H2 D (.lst [])))(hR:∀D C H' s',gh X af H' C->aS X af σ H' s'->(∃m,s'.heap.Ns C m)->dQ D H'->RR (.ref D) C (.ok .next) s'):
  wpAny (model X.prog X.w) X.A (newList []) (fun c_ s₃=>wpAny (model X.prog X.w) X.A (newFunctionEnv scope X.env.globals cl [] X.env.qual none .none (some X.env)) (fun Sl s₄=>
   codeAny (model X.prog X.w) X.A (.compStart (.ListComp Fs [⟨tg,kj,CJ,0⟩] scope pos) 0 (.ref it) c_ { Sl with scope:=relabel scope X.env }) (RR c_ Sl.locals) s₄) E' s₃) E' s2:=by
 refine v5 (wG ?_);have I3:=I2.NL (ys:=[]) (its:=[]) (t':=s2.toks) .nil (bE _);have hD:H2 s2.heap.objs.size=none:=I2.fresh;have fo:∀b∈fp,b<s2.heap.objs.size:=fun b hb=>by obtain⟨o,e,_⟩:=T.obj _ _ km b hb;exact aP e
 have up:∀ {b:Addr},b∈fp->upd H2 s2.heap.objs.size (.lst []) b=H2 b:=fun {b} hb=>ap (ba (fo b hb));have f3:∀b∈fp,gh X af (upd H2 s2.heap.objs.size (.lst [])) b:=fun b hb=>⟨by rw[up hb];exact(f2 b hb).1,(f2 b hb).2⟩
 have gZ:(s2.heap.push { cls:=.type "list",data:=.seq ([]:List Value).toArray }).objs.size=s2.heap.objs.size+1:=by rw[iy]
 generalize Xd:({ s2 with heap:=s2.heap.push { cls:=.type "list",data:=.seq ([]:List Value).toArray } }:Shared)=s3 at I3 |-;have hh3:s3.heap=s2.heap.push { cls:=.type "list",data:=.seq ([]:List Value).toArray }:=by rw[<-Xd]
 have fo3:∀b∈fp,b<s3.heap.objs.size:=fun b hb=>by rw[hh3,gZ];exact cV (fo b hb)
 have Sm:(s3.heap.push { cls:=.type "dict",data:=.dict #[] }).objs.size=s3.heap.objs.size+1:=iy ..;have sX:∀x c,(cellsFrom (s3.heap.objs.size+1) scope.names cl).lookup x=some c->cl.lookup x=some c\/(s3.heap.objs.size<c/\(pushCells (s3.heap.push { cls:=.type "dict",data:=.dict #[] }) scope.names).IsCell c none):=fun x c e=>by
  rw[<-Sm] at e;rcases pO _ _ _ _ _ e with z|⟨z1,z2⟩
  .exact .inl z
  .exact .inr ⟨by rw[Sm] at z1;exact z1,z2⟩
 have Sn:=(Heap.Ns.new s3.heap (.type "dict")).keeps (pushCells_keeps scope.names _);have keep:∀b o,s3.heap.get? b=some o->(pushCells (s3.heap.push { cls:=.type "dict",data:=.dict #[] }) scope.names).get? b=some o:=fun b o e=>pushCells_keeps _ _ b o (bw _ e);generalize hh1:pushCells (s3.heap.push { cls:=.type "dict",data:=.dict #[] }) scope.names=h₁ at sX Sn keep |-;have IB:aS (CH X NB scope (cellsFrom (s3.heap.objs.size+1) scope.names cl) s3.heap.objs.size s3 (upd H2 s2.heap.objs.size (.lst [])) fp) [] (zP src σ) (upd H2 s2.heap.objs.size (.lst [])) { s3 with heap:=h₁,toks:=s3.toks }:=
  JY I3 S c1 c2 f3 fo3 Sn keep sX
 have stB:tn 0 h₁:=T.keep 0 s2.heap h₁ km fun b hb o e=>keep b o (by rw[hh3];exact bw _ e);have fB:∀b∈fp,gh (CH X NB scope (cellsFrom (s3.heap.objs.size+1) scope.names cl) s3.heap.objs.size s3 (upd H2 s2.heap.objs.size (.lst [])) fp) [] (upd H2 s2.heap.objs.size (.lst [])) b:=fun b hb=>by
  refine⟨(f3 b hb).1,ba (fo3 b hb),fun z=>?_,.inl hb,fun x c e=>(IB.ok.WI b hb).2 x c e,fun p hp=>absurd (show p∈([]:List (Addr×Obj)) from hp) (by simp)⟩;rcases bb.mp (I3.wf b z) with e|e
  .exact(f3 b hb).2.1 e
  .exact(f3 b hb).2.2.1 e
 have loop:codeAny (model X.prog X.w) X.A (.compLoop (.ListComp Fs [⟨tg,kj,CJ,0⟩] scope pos) 0 (.ref it) (.ref s2.heap.objs.size) (compEnvC scope (cellsFrom (s3.heap.objs.size+1) scope.names cl) s3.heap.objs.size X.env)) (RR (.ref s2.heap.objs.size) s3.heap.objs.size)
   { s3 with heap:=h₁,toks:=s3.toks }:=by
  refine Eb (B:=CH X NB scope (cellsFrom (s3.heap.objs.size+1) scope.names cl) s3.heap.objs.size s3 (upd H2 s2.heap.objs.size (.lst [])) fp) rfl hc T (hg _ _ _ _ _) (ht _ _ _ _ _) (he _ _ _ _ _) IB stB fB (hw _ hD) fun σ' H' s' J' q=>?_;obtain⟨m,hm,_⟩:=J'.loc;exact hR _ _ H' s' (I3.wo (aK _) J'.free) (I3.Sk J' f3) ⟨m,hm⟩ q
 exact codeAny_compStart_list loop (T.self _ 0 _ _ _ stB loop)
theorem cL(S:g7 NB src scope X)(hc:X.calm=true)(hi:PI X tg kj wi)(hg:∀cl C s₃ H₃ fp,PG (CH X NB scope cl C s₃ H₃ fp) tg g)(ht:∀cl C s₃ H₃ fp,QR (CH X NB scope cl C s₃ H₃ fp) CJ tt)(he:∀cl C s₃ H₃ fp,PE (CH X NB scope cl C s₃ H₃ fp) Fs te)(hs:∀x,foldedSetIterable kj X.env x=pure x:=by intro _;rfl):PE X (.ListComp Fs [⟨tg,kj,CJ,0⟩] scope pos) (Gm src wi g tt te):=by
 intro af s σ H Q I h;obtain⟨cl,Ft,c1,c2⟩:=mK I.ok S;rw[eval_ListComp];refine wpAny_comprehension_free (use:=none) (cl:=cl) rfl hs Ft S.kind S.names (dF (hi af s σ H _ I h) fun v s1 h1=>dF h1 fun VM s2 h2=>?_);obtain⟨it,fp,tn,J,H2,e,I2,T,km,f2,hw⟩:=h2;subst e;refine sZ (RR:=fun c_ C=>compPost (model X.prog X.w) X.A X.xe none (EP X af σ Q) c_ C) S hc c1 c2 hg ht he I2 T km f2 hw fun D C H' s' fC I' hm q=>?_;obtain⟨m,hm⟩:=hm;refine⟨m,hm,fun h' sb=>⟨.ref D,H',?_,rfl,q⟩⟩;obtain⟨g0,g1,_,g3,g4,g5⟩:=fC;exact I'.turned (t':=s'.toks) (fun b o hb e=>(sb.2 b hb).trans e) g0 g1 g3 g4 g5
theorem eQ{i:Nat}{y:Str}{py Sq:Pos}(S:g7 NB src scope X)(hc:X.calm=true)(hi:PI X tg kj wi)(hg:∀cl C s₃ H₃ fp,PG (CH X NB scope cl C s₃ H₃ fp) tg g)(ht:∀cl C s₃ H₃ fp,QR (CH X NB scope cl C s₃ H₃ fp) CJ tt)(he:∀cl C s₃ H₃ fp,PE (CH X NB scope cl C s₃ H₃ fp) Fs te)(hN:X.N.Nodup)(hix:X.N[i]?=some y)(hy:X.env.scope.names.lookup y=some .local)(hsw:swapsWith (.ListComp Fs [⟨tg,kj,CJ,0⟩] scope pos) (some (.Name y py)) Sq.line X.env=pure true)(hs:∀x,foldedSetIterable kj X.env x=pure x:=by intro _;rfl):
  PS X (.Assign [.Name y py] (.ListComp Fs [⟨tg,kj,CJ,0⟩] scope pos) Sq) (Nv (Gm src wi g tt te) (bv i)):=by
 intro af s σ H D0 I h;obtain⟨cl,Ft,c1,c2⟩:=mK I.ok S;rw[exec_Assign_Name_used _ _ _ _ hsw];refine aw (pC (aw ?_));show wpAny _ X.A (do let _ <- comprehension (.ListComp Fs [⟨tg,kj,CJ,0⟩] scope pos) scope X.env _ (newList []) false (eval kj X.env) (some (assign (.Name y py) X.env))) _ _ s;refine aw (jd (wpAny_comprehension_free (use:=some (assign (.Name y py) X.env)) (Q:=fun _ s'=>SP X af D0 .next s') (cl:=cl) rfl hs Ft S.kind S.names
  (dF (hi af s σ H _ I h) fun v s1 h1=>dF h1 fun VM s2 h2=>?_)) (fun _ s' hq=>wpAny_pure (wpAny_pure hq)) fun _ _ e=>e)
 obtain⟨it,fp,tn,J,H2,e,I2,T,km,f2,hw⟩:=h2;subst e;refine sZ (RR:=fun c_ C=>compPost (model X.prog X.w) X.A X.xe (some (assign (.Name y py) X.env)) (fun _ s'=>SP X af D0 .next s') c_ C) S hc c1 c2 hg ht he I2 T km f2 hw fun D C H' s' fC I' hm q=>?_;obtain⟨m,hm⟩:=hm;obtain⟨g0,g1,_,g3,g4,g5⟩:=fC;show wpAny _ X.A (assign (.Name y py) X.env (.ref D)) _ _ _;refine wpAny_assign_Name (uP I' hN hix (.inl hy) (v:=.ref D) rfl (fun Jp I'' sb=>?_) (.inr hy));obtain⟨a,sb,ha⟩:=sb;have lS:C≠a:=by
  rcases ha with z|z
  .rw[z];exact g1
  .exact fun z'=>g4 y a z z'.symm
 refine⟨m,hm.sameBut sb lS,fun h' sb'=>⟨_,H',I''.turned (t':=Jp.toks) (fun b o hb e=>(sb'.2 b hb).trans e) g0 g1 g3 g4 g5,q⟩⟩
end
section
variable {P:Program} {w:World} {K:PySem.W.Frag} {mg:Str->Option Value} {base:Heap} {N:List Str} {qual:Str} {scope:Scope} {f:Addr} {cd:Value} {A:Around} {outer:List Env} {s:Shared} {H:Hp} {E:XK}
end
open PySem PySem.Spec PyProof.Rows PySem.W
abbrev bmV:List Value:=[.type "ValueError",.type "Exception",.type "BaseException",.type "object"]
structure Ec(K:PySem.W.Frag)(C:Addr):Prop where
 ex:PySem.W.excIn K C bmV "ValueError.__new__"=true
 kp:PySem.W.keepIn K (.ref C)=true
 ga:PySem.W.findIn K (.ref C) "__getattribute__"=some (some (.builtin "BaseException.__getattribute__"))
 gt:PySem.W.findIn K (.ref C) "__getattr__"=some none
 cl:PySem.W.findIn K (.ref C) "__class__"=some (some (.builtin "object.__class__"))
 mo:PySem.W.mroIn K C (.type "object")=some true
 mb:PySem.W.mroIn K C (.type "BaseException")=some true
 ty:(PySem.W.clsIn K C).isSome=true
def VR(p:Addr)(C:Value)(h:Heap):Prop:=∃o,h.get? p=some o/\o.cls=C
abbrev Xe(p:Addr)(C:Value):HO:=.ext (VR p C)
theorem cI.get(x:cI P w H h a o):∃u,h.get? a=some u:=by
 cases o with
 |lst xs=>obtain⟨_,_,_,_,e⟩:=x;exact⟨_,e⟩
 |tup xs=>obtain⟨_,_,_,ob,e,_⟩:=x;exact⟨_,e⟩
 |dK dq=>obtain⟨_,_,_,_,o,_,_,e,_⟩:=x;exact⟨_,e⟩
 |dT dq=>obtain⟨_,_,_,_,o,_,_,e,_⟩:=x;exact⟨_,e⟩
 |set S n=>obtain⟨o,_,_,_,e,_⟩:=x;exact⟨_,e⟩
 |ins C dx fs=>obtain⟨_,_,_,e,_⟩:=x;exact⟨_,e⟩
 |own y=>exact x
 |xd fs=>obtain⟨_,⟨_,_,_,e,_⟩,_⟩:=x;exact⟨_,e⟩
 |Co lo hi=>obtain⟨_,_,_,e⟩:=x;exact⟨_,e⟩
 |xI ob u=>obtain⟨e,_⟩:=x;exact⟨_,e⟩
 |iR ps=>exact⟨_,(show h.get? a=some _ from x)⟩
 |met f y=>exact⟨_,(show h.get? a=some _ from x)⟩
 |ext φ=>exact x.2.1
theorem mE.s_(x:mE P w H h)(e:h.get? a=none):H a=none:=by
 cases q:H a with
 |none=>rfl
 |some u=>obtain⟨o,z⟩:=(x a u q).get;rw[e] at z;cases z
theorem aS.yj(I:aS X af σ H s)(k:∀b u,s.heap.get? b=some u->h'.get? b=some u)(hp:s.heap.get? a=none)(new:cI X.prog X.w (upd H a o) h' a o):
  aS X af σ (upd H a o) { s with heap:=h',toks:=t' }:=by
 have hn:=I.ce.s_ hp;have ne:∀b u,s.heap.get? b=some u->b≠a:=fun b u e z=>by rw[z,hp] at e;cases e
 refine I.un ⟨fun b u e _ _ _=>k b u e,fun b u e _ _ _=>⟨u.slots,k b u e⟩,fun b u e n _=>by rw[ap (ne b u e)];exact n,fun b u e _=>⟨u,k b u e⟩,fun b xs e=>by rw[ap (am e hn)];exact e,fun b u v e=>by rw[ap (am e hn)];exact e,fun b ps e=>⟨#[],by rw[ap (am e hn),e];simp⟩⟩ fun b u e=>?_;by_cases hb:b=a
 .subst hb;rw[ae] at e;cases e;exact new
 .rw[ap hb] at e;exact(I.ce b u e).jf (fun c v _ q=>k c v q) (fun c q=>by rw[ap (am q hn)];exact q) fun c xs q=>by rw[ap (am q hn)];exact q
section
variable {prog:Program} {w:World} {A:Around} {E:Value->Shared->Prop} {s:Shared} {K:PySem.W.Frag} {x C:Addr} {ox:Obj}
theorem CK(hx:h.get? x=some ox)(hc:ox.cls=.ref C):PySem.W.Looks M h (typeOf (.ref x)) (.ref C):=hc ▸ (PySem.W.Looks.ld hx).andThen .now
open Builtin Builtin.ObjectAttr Builtin.Getset_descriptor in
theorem A5(X:K.In s.heap)(hx:s.heap.get? x=some ox)(hc:ox.cls=.ref C)(hm:PySem.W.mroIn K C (.type "object")=some true)(h:R (.ok (.ret (.ref C))) s):codeAny (model prog w) A (.call (.builtin "getset_descriptor.__get__") ⟨[.builtin "object.__class__",.ref x,tp],[]⟩) R s:=by
 obtain⟨hh,g,dr,t,os⟩:=s;have L0:=CK (M:=model prog w) hx hc;have L1:=looks_mroIn (M:=model prog w) X hm;refine vW KF.slot_gs.plain KF.entry_gs (KF.slot_gs.check _ _ _ _ _ _ _ _ KF.type_class (KF.args_gs _ _ _) ?_);unfold Builtin.«getset_descriptor.__get__» descrGet;rw[dga_obj];refine aw (wpAny_pure ?_);unfold descrGetter descrCheckInstance descrNameAndClass isInstance;simp only[KF.owner_class];repeat lk
 refine⟨Code.quiet_builtin _ (by decide +kernel),kR KF.entry_class ?_⟩;unfold Builtin.«object.__class__» shownTypeOf;repeat lk
 exact h
theorem Ed{g d t os}(T:Ec K C)(X:K.In h)(hx:h.get? x=some ox)(hc:ox.cls=.ref C)(hq:Q (.done (.ret (.ref C))) ⟨h,g,d,t,os⟩):
  wpAny (model prog w) A (Builtin.«object.__getattribute__» ⟨[.ref x,.str "__class__" tk],[]⟩) Q E ⟨h,g,d,t,os⟩:=by
 have f5:=F.typeOf_bexc_args;have hT5:(⟨h,g,d,t,os⟩:Shared).TypeIs (.builtin "object.__class__") "getset_descriptor":=FJ;have f5':=FJ;have f6:=F.slot_gs_get.lookup;have f7:=F.slot_gs_set.lookup;have L1:=looks_findIn (M:=model prog w) X T.cl;repeat (any_goals (first|assumption|(with_reducible refine AF hx ?_;rw[hc])|with_reducible refine L1.at ?_|wp_step))
 refine A5 (s:=⟨h,g,d,t,os⟩) X hx hc T.mo ?_;repeat (any_goals (first|assumption|wp_step))
theorem Ee{g d t os}(T:Ec K C)(X:K.In h)(hx:h.get? x=some ox)(hc:ox.cls=.ref C)(hq:Q () ⟨h,g,d,t,os⟩):
  wpAny M A (checkBuiltinCall "BaseException.__getattribute__" ⟨[.ref x,Sr],[]⟩) Q E ⟨h,g,d,t,os⟩:=by
 have hk:builtinKind "BaseException.__getattribute__"=some .slot:=by decide +kernel
 have NR:splitId "BaseException.__getattribute__"=some ("BaseException","__getattribute__"):=by decide +kernel
 have ha:=F.args_bexc_ga (.ref x) Sr;have L1:=looks_mroIn (M:=M) X T.mb;simp only[checkBuiltinCall,hk,NR];refine aw ?_
 .unfold isInstance;repeat (first|(with_reducible refine AF hx ?_;rw[hc])|with_reducible refine L1.at ?_|wp_step)
  exact hq
theorem NS{tk:Tok}{fill JK:Bool}{Q:Value->Shared->Prop}{h:Heap}{g d t os}(T:Ec K C)(X:K.In h)(hx:h.get? x=some ox)(hc:ox.cls=.ref C)(hq:Q (.ref C) ⟨h,g,d,t,os⟩):
  wpAny (model prog w) A (getAttrBy (.ref x) (.str "__class__" tk) fill JK) Q E ⟨h,g,d,t,os⟩:=by
 have f3:=F.attr_ValueError.ga.bind (.ref x);have hx0:(JK&&onTheHeap (Value.builtin "BaseException.__getattribute__"))=false:=by cases JK <;> rfl
 have hx2:(Value.builtin "BaseException.__getattribute__"==Value.builtin "object.__getattribute__")=false:=by decide +kernel
 have hx1:(onTheHeap (Value.ref C)&&Value.builtin "BaseException.__getattribute__"==Value.builtin "object.__getattribute__")=false:=by rw[hx2];rfl
 have L1:=looks_findIn (M:=model prog w) X T.ga;have L2:=looks_findIn (M:=model prog w) X T.gt;repeat (any_goals (first|assumption|(with_reducible refine AF hx ?_;rw[hc])|with_reducible refine L1.at ?_|with_reducible refine L2.at ?_|wp_step))
 refine vW F.attr_ValueError.ga.plain F.entry_bexc_ga (Ee T X hx hc (Ed T X hx hc ?_));repeat (any_goals (first|assumption|wp_step))
theorem Go{Q:Option Value->Shared->Prop}{h:Heap}{g d t os}(T:Ec K C)(X:K.In h)(hx:h.get? x=some ox)(hc:ox.cls=.ref C)(hq:Q (some (.ref C)) ⟨h,g,d,t+1,os⟩):
  wpAny (model prog w) A (getAttr? (.ref x) "__class__") Q E ⟨h,g,d,t,os⟩:=by
 unfold getAttr?;repeat (any_goals (first|assumption|with_reducible apply NS T X hx hc|wp_step))
theorem yk(T:Ec K C):PySem.W.KitX K (.ref x) (.ref C) (VR x (.ref C)) where
 ty:=fun _ _ _ ⟨o,e,c⟩=>CK e c
 it:=fun _ _ X _=>by
  obtain⟨cdD,JN⟩:=vK.mp T.ty;unfold clsIn at JN;split at JN
  .rename_i c' d' cd' WL ho;intro A' Q' E' s' k q;unfold isType loadHead;exact aw (wpAny_loadPart (k _ _ (X _ _ ho)) (wpAny_pure q))
  .cases JN
 ne:=fun h tp dd its n sl X htp=>by
  obtain⟨cdD,JN⟩:=vK.mp T.ty;refine As.mpr fun q=>?_;have e:C=tp:=Value.ref.inj (fj.mp q);subst e;unfold clsIn at JN;split at JN
  .rename_i c' d' cd' WL ho;have z:=(X _ _ ho).symm.trans htp;cases z
  .cases JN
 ca:=fun {_ _ _ _ _ s} X ⟨o,e,c⟩ k=>by
  obtain⟨h,g,d,t,os⟩:=s;exact Go T X e c k
end
section
variable {X:Cx}
inductive Mm (K:PySem.W.Frag) (H:Hp):V->Value->Prop where
 |of {v:V} {t:Value} (h:pN K H v t):Mm K H v t
 |exc {p C:Addr} (T:Ec K C) (e:H p=some (Xe p (.ref C))):Mm K H (.ref p) (.ref C)
def Xf(K:PySem.W.Frag):List V->Hp->VK->Prop:=fun xs H Q=>∃x c cv t b,xs=[x,c]/\(c=.ty cv/\PySem.W.kitOne K t (.type cv)=some b)/\Mm K H x t/\Q (.bl b) H
theorem iI:fh X (.builtin "isinstance") (Xf X.K):=by
 intro af s σ H xs us Q I r h;obtain⟨x,c,cv,t,b,rfl,⟨rfl,e⟩,ty,q⟩:=h;obtain⟨u1,u2,rfl,r1,r2⟩:=r.two;obtain rfl:u2=Value.type cv:=r2;cases ty with
 |of ty=>exact uT I r1 ty e fun tk=>⟨.bl b,H,I.tok tk,rfl,q⟩
 |@exc p C T ea=>
  obtain rfl:u1=Value.ref p:=r1;have p1:VR p (.ref C) s.heap:=(I.ce p _ ea).1;exact jq (yk T) I.ny p1 e (fun z=>nomatch z) fun tk=>⟨.bl b,H,I.tok tk,rfl,q⟩
def Ss(K:PySem.W.Frag):List V->Hp->VK->Prop:=fun xs H Q=>∃x c t b,xs=[x,.ref c]/\PySem.W.kitOne K t (.ref c)=some b/\Mm K H x t/\Q (.bl b) H
theorem Ef:fh X (.builtin "isinstance") (Ss X.K):=by
 intro af s σ H xs us Q I r h;obtain⟨x,c,t,b,rfl,e,ty,q⟩:=h;obtain⟨u1,u2,rfl,r1,r2⟩:=r.two;obtain rfl:u2=Value.ref c:=r2;cases ty with
 |of ty=>exact uT I r1 ty e fun tk=>⟨.bl b,H,I.tok tk,rfl,q⟩
 |@exc p C T ea=>
  obtain rfl:u1=Value.ref p:=r1;have p1:VR p (.ref C) s.heap:=(I.ce p _ ea).1;exact jq (yk T) I.ny p1 e (fun z=>nomatch z) fun tk=>⟨.bl b,H,I.tok tk,rfl,q⟩
end
section
variable {X:Cx} {x:Str} {C:Addr} {np wB pos:Pos} {e:Expr} {es:List Expr} {t:TA}
end
section
variable {X:Cx} {CX:zN} {k:Nat} {f C:Addr} {fd:FuncData} {ps:List Str} {sp:Sp} {ut:List V} {ds:List Value} {E:St->XK} {x m:Str} {p pos wv:Pos} {e o:Expr} {es:List Expr} {ta:TE} {t:TA}
end
section
variable {X:Cx} {CX:zN} {k:Nat} {f:Addr} {fd:FuncData} {ps:List Str} {sp:Sp} {ut:List V} {ds:List Value} {E:XK} {x:Str} {p pos:Pos} {e:Expr} {es:List Expr} {t:TA}
end
section
variable {P:Program} {w:World} {K:PySem.W.Frag} {mg:Str->Option Value} {base:Heap}
end
section
variable {X:Cx} {af:List (Addr×Obj)} {σ:St} {H:Hp} {s:Shared}
end
theorem JZ{h:Heap}{a:Addr}{m m':Str->Option Value}(x:h.Ns a m)(y:h.Ns a m'):m=m':=by
 obtain⟨o,es,ep,e,d,_,q⟩:=x;obtain⟨o',zK,Rz,e',d',_,q'⟩:=y;rw[e] at e';cases e';rw[d] at d';cases d';funext z;rw[<-q z,q' z]
theorem aS.Su{X:Cx}{af:List (Addr×Obj)}{σ:St}{H:Hp}{s:Shared}{h':Heap}{m:Str->Option Value}{D:Addr}{o:HO}{t':Nat}(I:aS X af σ H s)(F:Fr X.base X.env.locals s.heap m)(F':Fr X.base X.env.locals h' m)(N':News X.base X.env.locals h' (jR X.base s.heap X.env.locals))(hD:s.heap.get? D=none)(new:cI X.prog X.w (upd H D o) h' D o):aS X af σ (upd H D o) { s with heap:=h',toks:=t' }:=by
 have hn:=I.ce.s_ hD;have ne:∀b u,s.heap.get? b=some u->b≠D:=fun b u e z=>by rw[z,hD] at e;cases e
 have keep:∀b u,b≠X.env.locals->s.heap.get? b=some u->h'.get? b=some u:=fun b u hb e=>by
  cases q:X.base.get? b with
  |some v=>
   have:=I.bk b v q;rw[e] at this;cases this;exact F'.keep b _ q
  |none=>exact(N' (b,u) (kY hb q e)).1
 refine I.step (g':=s.gens) (d':=s.drawn) (ch:=[]) (fun _ z=>absurd z (by simp)) (fun b u hb _ _ e _=>keep b u hb e) (fun b u hb _ _ e _=>⟨u.slots,keep b u hb e⟩) (fun b u _ e n=>by rw[ap (ne b u e)];exact n) (fun b u _ e=>?_)
  (fun b xs e=>by rw[ap (am e hn)];exact e) (fun b u v e=>by rw[ap (am e hn)];exact e) (fun b ps e=>⟨#[],by rw[ap (am e hn),e];simp⟩) (fun m1 hm=>by rw[JZ hm F.ns];exact F'.ns) (fun b u e=>?_) I.bare
 .by_cases hb:b=X.env.locals
  .obtain⟨o',_,_,q,_⟩:=F'.ns;exact⟨o',by rw[hb];exact q⟩
  .exact⟨u,keep b u hb e⟩
 .by_cases hb:b=D
  .subst hb;rw[ae] at e;cases e;exact new
  .rw[ap hb] at e;refine(I.ce b u e).jf (fun c v hc q=>keep c v ?_ q) (fun c q=>by rw[ap (am q hn)];exact q) fun c xs q=>by rw[ap (am q hn)];exact q
   rintro rfl;rcases hc with z|hc
   .have f:=I.free;rw[z,e] at f;cases f
   .rw[I.free] at hc;cases hc
theorem uz(I:aS X af σ H s)(N:News X.base X.env.locals h' ((D,o)::jR X.base s.heap X.env.locals))(dZ:∀q∈jR X.base s.heap X.env.locals,q.1<D):s.heap.get? D=none:=by
 cases e:s.heap.get? D with
 |none=>rfl
 |some u=>
  obtain⟨_,n1,n2⟩:=N (D,o) bR;exact absurd (dZ (D,u) (kY n1 n2 e)) (iz _)
def Gp(K:PySem.W.Frag)(H:Hp)(a:Addr)(y:Int×Int):Prop:=bP K H a [.int y.1,.int y.2]
section
variable {X:Cx}
theorem A6(I:aS X af σ H s)(h:Gp X.K H a y):∃o n t u,s.heap.get? a=some o/\o.cls=.type "tuple"/\o.data=.seq #[.int y.1 t,.int y.2 u] n:=by
 obtain⟨its,r,p,_⟩:=I.tuple h;obtain⟨u1,u2,rfl,r1,r2⟩:=r.two;obtain⟨t,rfl⟩:=r1;obtain⟨t',rfl⟩:=r2;obtain⟨o,e,c,n,d⟩:=p;exact⟨o,n,t,t',e,c,d⟩
end
def NU(hs:Array Int)(i:Nat):Int:=(hs[i]?).getD 0
def gW(hs:Array Int)(t:SetTable)(h:Int):Option (Array Int×SetTable):=
 if t.gaveWay then none else
 match t.probe (NU hs) h (t.probeStart h) with
 |some (.empty j none)=>
  let q:=t.put j
  let Eg:=SetTable.insertAt hs q.2 h
  if q.1.fits Eg.size&&decide (Eg.size<=4096) then
   if q.1.tooFull then
    (match q.1.relaid Eg (SetTable.grown (hs.size+1)) with
    |some (t2,order)=>
     let lJ:=order.filterMap (Eg[·]?)
     if lJ.size==Eg.size&&t2.fits lJ.size&&decide (SetTable.sizeAbove (SetTable.grown (hs.size+1))<=4096) then some (lJ,t2) else none
    |none=>none)
   else some (Eg,q.1)
  else none
 |_=>none
def wH(led:Bool):List Int->Option (Array Int×SetTable):=fun l=>l.foldlM (fun q h=>gW q.1 q.2 h) (#[],SetTable.fresh 0 0 led)
def lf(h:Heap)(S:Addr)(hs:Array Int)(t:SetTable):Prop:=∃o es ep,h.get? S=some o/\o.cls=.type "set"/\(o.dict=none/\o.slots=#[])/\o.data=.set es ep t/\es.map (·.1)=hs/\t.fits es.size=true
section
variable {prog:Program} {w:World} {A:Around} {E:Value->Shared->Prop} {s:Shared} {S:Addr}
theorem NW(es:Array (Int×Value)):(fun i=>(es[i]?.map (·.1)).getD 0)=NU (es.map (·.1)):=by
 funext i;unfold NU;rw[Array.getElem?_map]
theorem nK(es:Array (Int×Value))(p:Nat)(x:Int×Value):(SetTable.insertAt es p x).map (·.1)=SetTable.insertAt (es.map (·.1)) p x.1:=by
 unfold SetTable.insertAt;simp
theorem pQ(es:Array (Int×Value))(order:Array Nat):(order.filterMap (es[·]?)).map (·.1)=order.filterMap ((es.map (·.1))[·]?):=by
 apply Array.ext';rw[jI,vM,vM,List.map_filterMap];congr 1;funext i;rw[Array.getElem?_map]
theorem A7(hS:lf s.heap S hs t)(hg:t.gaveWay=false)(hp:t.probe (NU hs) h (t.probeStart h)=some (.empty j none))(q:Q (.free j false) s):
  wpAny (model prog w) A (setSearch S x h true) Q E s:=by
 obtain⟨o,es,ep,ho,hc,hdi,hd,hm,hf⟩:=hS;unfold setSearch setSearchFrom;refine aw (v3 ho hd hf ?_);dsimp only;rw[hg,ak cw];have QS:t.probe (fun i=>(es[i]?.map (·.1)).getD 0) h (t.probeStart h)=some (.empty j none):=by rw[NW,hm];exact hp
 refine aw (wpAny_pure ?_);erw[QS];exact wpAny_pure q
theorem Eh(ho:s.heap.get? a=some o)(hc:o.cls=.type "tuple")(hd:o.data=.seq #[.int x t,.int y u] n)(q:Q true s):
  wpAny (model prog w) A (hashByValue 8 (.ref a)) Q E s:=by
 have hT:s.TypeIs (.ref a) "tuple":=⟨_,ho,hc⟩
 unfold hashByValue;refine aw (wpAny_specialOf hT PySem.F.slot_tuple_hash.lookup ?_);refine aw (hX ho hd ?_);refine aw ?_;show wpAny _ _ (forIn #[Value.int x t,Value.int y u] _ _) _ _ s;rw[<-rQ];refine wpAny_forIn_list _ (fun rest r s'=>r.1=none/\s'=s/\∀v∈rest,∃z k,v=Value.int z k) _ ?_ ?_ _ _ ⟨rfl,rfl,fun v hv=>?_⟩
 .rintro v rest r s' ⟨hr,rfl,uy⟩;obtain⟨z,k,rfl⟩:=uy v bR;refine aw (wpAny_pure ?_);exact wpAny_pure ⟨rfl,rfl,fun u' qE=>uy u' (cD _ qE)⟩
 .rintro⟨r1,r2⟩ s' ⟨hr,rfl,_⟩;have Fu:r1=none:=hr;subst Fu;exact wpAny_pure q
 .rcases bb.mp hv with z|z
  .exact⟨_,_,z⟩
  .rcases bb.mp z with z|z
   .exact⟨_,_,z⟩
   .cases z
theorem CL(hS:lf s.heap S hs t)(hf:t'.fits zK.size=true)(hz:zK.size<=4096)(q:∀h',Heap.SameBut S s.heap h'->lf h' S (zK.map (·.1)) t'->Q () { s with heap:=h' }):wpAny (model prog w) A (storeSet S zK t') Q E s:=by
 obtain⟨o,es,ep,ho,hc,hdi,hd,hm,_⟩:=hS;refine wpAny_storeSet_of ho hd (q _ (o4 s.heap S (Obj.putSet zK t')) ?_) (aX hz (by decide));have g:=mi (Obj.putSet zK t') ho (by rw[putSet_of zK t' hd];rfl);rw[putSet_of zK t' hd] at g;exact⟨_,zK,ep+1,g,hc,hdi,rfl,rfl,hf⟩
theorem J0(hu:A.units<cLine)(hS:lf s.heap S hs t)(ho:s.heap.get? a=some o)(hc:o.cls=.type "tuple")(hd:o.data=.seq #[.int x tx,.int y ty] n)(lS:a≠S)(oC:gW hs t (tupleKeyHash (intKind prog w) [x,y])=some (hs',t'))(q:∀h' tk,Heap.SameBut S s.heap h'->lf h' S hs' t'->Q true { s with heap:=h',toks:=tk }):wpAny (model prog w) A (setAdd S (.ref a)) Q E s:=by
 have hk:IsTupleKey (intKind prog w) s.heap [x,y] a:=⟨o,_,n,ho,hc,hd,.cons (intKind_is _ _ _ _) (.cons (intKind_is _ _ _ _) .nil)⟩
 unfold setAdd;refine gC (aw (wpAny_pyHash_tuple hu hk ?_));generalize R8:s.toks+([x,y].length+1)=tk;generalize hh:tupleKeyHash (intKind prog w) [x,y]=h at oC |-;have hS0:=hS;obtain⟨ob,es,ep,hb,Xg,hbd,Jl,hm,hf⟩:=hS;unfold setAddHashed setAddHashedIn;refine gC (aw (v3 (s:={ s with toks:=tk }) hb Jl hf ?_));dsimp only;have Mn:byScan (.ref a) es=false:=by unfold byScan;rfl
 rw[Mn,ak cw];unfold gW at oC;cases hg:t.gaveWay with
 |true=>rw[hg,ao rfl] at oC;cases oC
 |false=>
  rw[hg,ak cw] at oC;split at oC
  .rename_i j hp;dsimp only at oC;split at oC
   .rename_i VS;rw[fU,rR] at VS;refine aw (A7 (s:={ s with toks:=tk }) hS0 hg hp ?_);dsimp only;refine aw (v3 (s:={ s with toks:=tk }) hb Jl hf ?_);dsimp only;have byv:∀ {kk:Bool->Sem Bool},wpAny (model prog w) A (kk true) Q E { s with toks:=tk }->wpAny (model prog w) A (if (t.put j).1.plain=true then hashByValue 8 (.ref a) >>= kk else pure true >>= kk) Q E { s with toks:=tk }:=fun {kk} hP=>by
     split
     .exact aw (Eh (s:={ s with toks:=tk }) ho hc hd hP)
     .exact aw (wpAny_pure hP)
    refine byv ?_;simp only[jQ];have gZ:(SetTable.insertAt es (t.put j).2 (h,Value.ref a)).size=(SetTable.insertAt hs (t.put j).2 h).size:=by
     rw[<-hm,<-nK es (t.put j).2 (h,Value.ref a),js]
    refine aw (CL (s:={ s with toks:=tk }) hS0 (by rw[gZ];exact VS.1) (by rw[gZ];exact VS.2) fun h1 qF S1=>?_);rw[nK,hm] at S1;split at oC
    .rename_i Xh;rw[show (!false&&(t.put j).1.tooFull)=true by rw[Xh];rfl,ao rfl];split at oC
     .rename_i t2 order hr;split at oC
      .rename_i hq;rw[fU,fU,rR,fj] at hq;obtain⟨⟨Mo,Mp⟩,hq3⟩:=hq;cases oC;have Xi:es.size=hs.size:=by rw[<-hm,js]
       refine aw ?_;unfold setRelay;obtain⟨o1,J4,ep1,g1,g2,g3,g4,g5,g6⟩:=id S1;refine aw (v3 (s:={ s with heap:=h1,toks:=tk }) g1 g4 g6 ?_);dsimp only;rw[Xi];rw[ak (by (have h4:(4096:Nat)<=sizeLine:=by decide);lia)];refine aw ?_;rw[g5,hr];have A8:(order.filterMap (J4[·]?)).size=J4.size:=by
        have e1:=congrArg Array.size (pQ J4 order);rw[js,g5] at e1;rw[e1,Mo,<-g5,js]
       refine wpAny_of_eq (show _=(pure (order.filterMap (J4[·]?),t'):Sem (Array (Int×Value)×SetTable)) from ?_) ?_
       .show (do
         let zK:=order.filterMap (J4[·]?)
         if zK.size != J4.size then unsupported "internal:set-table-lost-an-element"
         pure (zK,t'):Sem (Array (Int×Value)×SetTable))=_
        simp[A8]
       dsimp only;have QT:J4.size<=4096:=by
        have e1:=congrArg Array.size g5;rw[js] at e1;rw[e1];exact VS.2
       have hfm:(order.filterMap (J4[·]?)).size=(order.filterMap ((SetTable.insertAt hs (t.put j).2 h)[·]?)).size:=by
        have e1:=congrArg Array.size (pQ J4 order);rw[js,g5] at e1;exact e1
       refine CL (s:={ s with heap:=h1,toks:=tk }) S1 (by rw[hfm];exact Mp) (by rw[A8];exact QT) fun h2 pR S2=>?_;rw[pQ,g5] at S2;exact wpAny_pure (q h2 tk (qF.trans pR) S2)
      .cases oC
     .cases oC
    .rename_i Xh;cases oC;have Xj:(t.put j).1.tooFull=false:=by simpa using Xh
     rw[show (!false&&(t.put j).1.tooFull)=false by rw[Xj];rfl,ak cw];exact wpAny_pure (q h1 tk qF S1)
   .cases oC
  .cases oC
end
section
variable {prog:Program} {w:World} {A:Around} {E:Value->Shared->Prop} {s:Shared} {S Ia l:Addr} {R:Result->Shared->Prop}
def jY(h:Heap)(vs:List Value)(ys:List (Int×Int)):Prop:=vs.length=ys.length/\∀i v,vs[i]?=some v->∃a o n t u,v=.ref a/\h.get? a=some o/\o.cls=.type "tuple"/\o.data=.seq #[.int (ys.getD i (0,0)).1 t,.int (ys.getD i (0,0)).2 u] n
theorem jY.keeps(p:jY h vs ys)(k:∀b o,(∃xs n,o.data=.seq xs n)->h.get? b=some o->h'.get? b=some o):jY h' vs ys:=
 ⟨p.1,fun i v e=>let ⟨a,o,n,t,u,e1,e2,c,d⟩:=p.2 i v e;⟨a,o,n,t,u,e1,k a o ⟨_,_,d⟩ e2,c,d⟩⟩
def f8(prog:Program)(w:World)(y:Int×Int):Int:=tupleKeyHash (intKind prog w) [y.1,y.2]
theorem Gq(hh:A.handled=none)(hu:A.units+1<cLine)(hlS:l≠S)(Xk:l≠Ia)(Xl:S≠Ia):
  ∀ (k i:Nat) (s:Shared) (hs:Array Int) (t:SetTable),vs.length-i=k->i<=vs.length->s.heap.IsListIter Ia l i->s.heap.IsList l vs.toArray->jY s.heap vs ys->lf s.heap S hs t->
   ((ys.drop i).map (f8 prog w)).foldlM (fun q h=>gW q.1 q.2 h) (hs,t)=some (hsN,tN)->
   (∀h' tk,(∀b o,b≠S->b≠Ia->s.heap.get? b=some o->h'.get? b=some o)->lf h' S hsN tN->R (.ok (.ret .none)) { s with heap:=h',toks:=tk })->
   codeAny (model prog w) A (.builtin "set.update.loop" ⟨[.ref S,.ref Ia],[]⟩) R s:=by
 intro k;induction k with
 |zero=>
  intro i s hs t hk hi xK hl hp hS hf hR;have e:i=vs.length:=by lia
  refine kR FH ?_;rw[oZ zW _];show wpAny _ A.in1 (pyNext (.ref Ia) >>= _) _ _ s;refine aw (Aj (show A.in1.handled=none from hh) xK hl (by simp;lia) fun h' eb=>?_);show wpAny _ A.in1 (ret Value.none) _ _ _;have hd:ys.drop i=[]:=by rw[List.drop_eq_nil_iff];have:=hp.1;lia
  rw[hd] at hf;cases hf;obtain⟨o,es,ep,q1,q2⟩:=hS;exact wpAny_pure (hR h' s.toks (fun b o hb J5 e=>eb b o J5 e) ⟨o,es,ep,eb S o Xl q1,q2⟩)
 |succ k ih=>
  intro i s hs t hk hi xK hl hp hS hf hR;have dZ:i<vs.length:=by lia
  refine kR FH ?_;rw[oZ zW _];show wpAny _ A.in1 (pyNext (.ref Ia) >>= _) _ _ s;have hv:vs[i]?=some vs[i]:=bQ dZ;refine aw (Af xK hl (x:=vs[i]) (by simpa using hv) fun h1 NX qF=>?_);obtain⟨a,o,n,tx,ty,ea,eo,ec,ed⟩:=hp.2 i _ hv;rw[ea];have VT:∀b ob,(∃xs n,ob.data=.seq xs n)->s.heap.get? b=some ob->b≠Ia:=fun b ob ⟨xs,m,z⟩ e z'=>by
   obtain⟨oi,e1,_,d1⟩:=xK;rw[z',e1] at e;cases e;rw[d1] at z;cases z
  have ng:jY h1 vs ys:=hp.keeps fun b ob hb e=>(qF.2 b (VT b ob hb e)).trans e;have Sv:lf h1 S hs t:=by
   obtain⟨oS,es,ep,q1,q2⟩:=hS;exact⟨oS,es,ep,(qF.2 S Xl).trans q1,q2⟩
  have Ei:h1.IsList l vs.toArray:=by
   obtain⟨ol,q1,q2⟩:=hl;exact⟨ol,(qF.2 l Xk).trans q1,q2⟩
  have Sw:h1.get? a=some o:=(qF.2 a (VT a o ⟨_,_,ed⟩ eo)).trans eo;have neS:∀b ob,(∃xs n,ob.data=.seq xs n)->h1.get? b=some ob->b≠S:=fun b ob ⟨xs,m,z⟩ e z'=>by
   obtain⟨oS,es,ep,q1,_,_,q4,_⟩:=Sv;rw[z',q1] at e;cases e;rw[q4] at z;cases z
  have vc:i<ys.length:=by have:=hp.1;lia
  have Xm:ys.drop i=ys[i]::ys.drop (i+1):=oJ vc;have hgy:ys.getD i (0,0)=ys[i]:=by rw[bW,bQ vc];rfl
  rw[Xm,fv,List.foldlM_cons] at hf;cases oC:gW hs t (f8 prog w ys[i]) with
  |none=>rw[oC] at hf;cases hf
  |some q=>
   obtain⟨lJ,t2⟩:=q;rw[oC] at hf;have hf2:((ys.drop (i+1)).map (f8 prog w)).foldlM (fun q h=>gW q.1 q.2 h) (lJ,t2)=some (hsN,tN):=hf;show wpAny _ A.in1 (holding [Value.ref a] (setAdd S (.ref a)) >>= _) _ _ _;refine aw (gC (J0 (s:={ s with heap:=h1 }) (by show A.units+1<cLine;exact hu) Sv Sw ec ed (neS a o ⟨_,_,ed⟩ Sw) (hs':=lJ) (t':=t2) (by rw[hgy];exact oC) fun h2 tk pR S2=>?_));refine wpAny_pure ⟨sn zW _,?_⟩;refine ih (i+1) { s with heap:=h2,toks:=tk } lJ t2 (by lia) dZ ?_ ?_ (ng.keeps fun b ob hb e=>(pR.2 b (neS b ob hb e)).trans e) S2 hf2 fun h3 Xn k3 S3=>?_
   .obtain⟨oi,q1,q2⟩:=NX;exact⟨oi,(pR.2 Ia (dv Xl)).trans q1,q2⟩
   .obtain⟨ol,q1,q2⟩:=Ei;exact⟨ol,(pR.2 l hlS).trans q1,q2⟩
   .exact hR h3 Xn (fun b ob hb J5 e=>k3 b ob hb J5 ((pR.2 b hb).trans ((qF.2 b J5).trans e))) S3
theorem Gr{vs:List Value}{ys:List (Int×Int)}{hsN:Bool->Array Int}{tN:Bool->SetTable}{Q:Value->Shared->Prop}(hh:A.handled=none)(hu:A.units+8<cLine)(hl:s.heap.IsList l vs.toArray)(hp:jY s.heap vs ys)(Ej:∀led,wH led (ys.map (f8 prog w))=some (hsN led,tN led))(h:∀ (led:Bool) (h':Heap) (tk:Nat),lf h' s.heap.objs.size (hsN led) (tN led)->(∀b o,b<s.heap.objs.size->s.heap.get? b=some o->h'.get? b=some o)->Q (.ref s.heap.objs.size) { s with heap:=h',toks:=tk }):
  wpAny (model prog w) A (call (.type "set") [.ref l]) Q E s:=by
 obtain⟨c,tl,abn⟩:=kK.mro;have c1:=kK.made;have c2:=kK.sub;refine pF (codeAny_of_tree ?_);show wpAny _ _ (callAny (.type "set") _) _ _ _;refine wpAny_pure ⟨Code.quiet_builtin _ (by decide +kernel),kR PySem.F.entry_type_call ?_⟩;rw[Around.under_plain (weight_type_call_type "set" [.ref l] []) rfl];have c3:=kK.notType;have c4:=kK.canCreate;have c5:=PySem.F.typeCall_set_1 (.ref l);repeat (any_goals (first|assumption|wp_step))
 refine pE (code_set_new_1 (.ref l) (E:=E) (Q₁:=fun obj s₁=>∃led:Bool,obj=.ref s.heap.objs.size/\s₁={ s with heap:=s.heap.push { cls:=.type "set",dict:=none,data:=.set #[] 0 (.fresh 0 0 led) } }) fun led=>⟨led,rfl,rfl⟩) fun r s₁ hr=>?_;cases r with
 |error e=>exact hr
 |ok fl=>
  cases fl with
  |next=>exact hr.elim
  |brk=>exact hr.elim
  |cont=>exact hr.elim
  |ret obj=>
   obtain⟨led,rfl,rfl⟩:=hr;generalize Xo:s.heap.push { cls:=.type "set",dict:=none,data:=.set #[] 0 (.fresh 0 0 led) }=hS;have gZ:hS.objs.size=s.heap.objs.size+1:=by rw[<-Xo,iy]
   have gS:hS.get? s.heap.objs.size=some { cls:=.type "set",dict:=none,data:=.set #[] 0 (.fresh 0 0 led) }:=by rw[<-Xo];exact b_ _ rfl
   have up:∀b o,s.heap.get? b=some o->hS.get? b=some o:=fun b o e=>by rw[<-Xo];exact bw _ e
   have hT:Shared.TypeIs { s with heap:=hS } (.ref s.heap.objs.size) "set":=⟨_,gS,rfl⟩
   have c6:=kK.init.lookup;have c7:=kK.init.bind (.ref s.heap.objs.size);repeat (any_goals (first|assumption|wp_step))
   refine pE (vW (R:=wants (fun r s₂=>r=.none/\∃h' tk,s₂={ s with heap:=h',toks:=tk }/\lf h' s.heap.objs.size (hsN led) (tN led)/\
     (∀b o,b<s.heap.objs.size->s.heap.get? b=some o->h'.get? b=some o)) E) kK.init.plain PySem.F.entry_set_init (check_set_init_1 hT ?_)) fun r₂ s₂ Sx=>?_
   .obtain⟨ol,Fv,Ft,nl,VU⟩:=hl;obtain⟨abo,abi,abj,Xp⟩:=ol;simp only at Ft VU;subst Ft;subst VU;have Xq:=up _ _ Fv;have c8:=PySem.F.sub_list_set;have c9:=PySem.F.sub_list_frozenset;have c10:(Value.type "list"==Value.type "dict")=false:=by decide
    have Ei:hS.IsList l vs.toArray:=⟨_,Xq,rfl,nl,rfl⟩
    unfold Builtin.«set.__init__» noKeywords Builtin.Frozenset.updateFrom;generalize hPI:pyIter=PI
    wp_walk
    subst hPI;refine rY Ei ?_;refine aw (wpAny_runValue ?_);have dZ:l<s.heap.objs.size:=aP Fv;refine Gq (l:=l) (vs:=vs) (ys:=ys) (hsN:=hsN led) (tN:=tN led) (by simp[hh]) (by simp;lia) (ba dZ) (by rw[gZ];exact ba (cV dZ)) (by rw[gZ];exact ba (kH _))
     (vs.length-0) 0 _ #[] (.fresh 0 0 led) rfl (bE _) ⟨_,b_ _ rfl,rfl,rfl⟩ (Ei.push _) (hp.keeps fun b o _ e=>bw _ (up b o e)) ⟨_,#[],0,bw _ gS,rfl,⟨rfl,rfl⟩,rfl,by simp,rfl⟩ (Ej led) fun h' tk k S'=>?_
    show wpAny _ _ _ _ _ _;refine wpAny_pure ?_;show wpAny _ _ (ret Value.none) _ _ _;refine wpAny_pure ⟨rfl,h',tk,rfl,S',fun b o hb e=>?_⟩;exact k b o (ba hb) (by rw[gZ];exact ba (cV hb)) (bw _ (up b o e))
   .cases r₂ with
    |error e=>exact Sx
    |ok fl₂=>
     cases fl₂ with
     |next=>exact Sx.elim
     |brk=>exact Sx.elim
     |cont=>exact Sx.elim
     |ret r=>
      obtain⟨rfl,h',tk,rfl,S',k⟩:=Sx;repeat (any_goals (first|assumption|wp_step))
      exact h led h' tk S' k
end
open PySem
def Gs(l:List Nat):Nat:=l.foldl (fun a x=>a ||| (1 <<< x)) 0
theorem Ek(l:List Nat)(a j:Nat):(l.foldl (fun a x=>a ||| (1 <<< x)) a).testBit j=(a.testBit j||l.contains j):=by
 induction l generalizing a with
 |nil=>simp
 |cons x xs ih=>
  rw[gY,ih,Nat.testBit_or,List.contains_cons];have:(1 <<< x).testBit j=(j==x):=by
   rw[Nat.one_shiftLeft,Nat.testBit_two_pow];by_cases h:x=j
   .simp[h]
   .have h':¬ j=x:=fun e=>h e.symm;simp[h,h']
  rw[this,Bool.or_assoc]
theorem qk(h:Gs l=2 ^ n-1)(hj:j<n):j∈l:=by
 have e:=Ek l 0 j;have h':l.foldl (fun a x=>a ||| (1 <<< x)) 0=2 ^ n-1:=h;rw[h',Nat.testBit_two_pow_sub_one] at e;simp[hj] at e;exact e
def Gu(M:Nat):Nat->Nat->Nat
 |0,i=>i
 |n+1,i=>Gu M n ((i*5+1) % M)
theorem q0(M a:Nat):∀b i,Gu M (b+a) i=Gu M a (Gu M b i)
 |0,i=>by rw[jb];rfl
 |b+1,i=>by
  rw[show b+1+a=(b+a)+1 by lia];show Gu M (b+a) _=Gu M a (Gu M b _);exact q0 M a b _
def NY(M:Nat):Nat->Nat->List Nat
 |0,_=>[]
 |n+1,i=>i::NY M n ((i*5+1) % M)
theorem tf:∀ {n i},j∈NY M n i->∃k,k<n/\Gu M k i=j
 |0,_,h=>by cases h
 |n+1,i,h=>by
  rcases bb.mp h with z|z
  .exact⟨0,by lia,z.symm⟩
  .obtain⟨k,a,b⟩:=tf z;exact⟨k+1,by lia,b⟩
structure El(M:Nat):Prop where
 all:Gs (NY M M 0)=2 ^ M-1
 back:Gu M M 0=0
theorem Xr:El 8:=⟨by decide +kernel,by decide +kernel⟩
theorem Mq:El 32:=⟨by decide +kernel,by decide +kernel⟩
theorem Gv:El 128:=⟨by decide +kernel,by decide +kernel⟩
theorem Gw:El 512:=⟨by decide +kernel,by decide +kernel⟩
theorem El.cover(R:El M)(hi:i<M)(hj:j<M):∃n,n<M/\Gu M n i=j:=by
 obtain⟨a,ha,ea⟩:=tf (qk R.all hi);obtain⟨b,hb,eb⟩:=tf (qk R.all hj);by_cases h:a<=b
 .refine⟨b-a,by lia,?_⟩;rw[<-ea,<-q0,show a+(b-a)=b by lia,eb]
 .refine⟨M+b-a,by lia,?_⟩;rw[<-ea,<-q0,show a+(M+b-a)=M+b by lia,q0,R.back,eb]
def ij(mask:Nat):Nat->Nat×Nat->Nat×Nat
 |0,q=>q
 |n+1,q=>ij mask n (SetTable.leap mask q.1 q.2)
theorem vd(m a:Nat):∀b q,ij m (b+a) q=ij m a (ij m b q)
 |0,q=>by rw[jb];rfl
 |b+1,q=>by
  rw[show b+1+a=(b+a)+1 by lia];exact vd m a b _
theorem yl:∀ {n:Nat} {q:Nat×Nat},q.1<m+1->(ij m n q).1<m+1
 |0,_,h=>h
 |n+1,q,h=>yl (n:=n) (kW _ (Nat.succ_pos _))
theorem CM:∀ {n:Nat} {q:Nat×Nat},(ij m n q).2=q.2 / 32 ^ n
 |0,_=>by simp[ij]
 |n+1,q=>by
  show (ij m n _).2=_;rw[CM];show q.2 / 32 / 32 ^ n=_;rw[Aa,Nat.pow_succ,Nat.mul_comm]
theorem ve:∀ {n i:Nat},ij m n (i,0)=(Gu (m+1) n i,0)
 |0,_=>rfl
 |n+1,i=>by
  show ij m n (SetTable.leap m i 0)=_;unfold SetTable.leap;simp only[Nat.zero_div,Nat.add_zero];exact ve
theorem ql(R:El (m+1))(hi:i<m+1)(hp:p<2 ^ 64)(hj:j<m+1):∃n,n<m+14/\(ij m n (i,p)).1=j:=by
 have h1:=yl (m:=m) (n:=13) (q:=(i,p)) hi;have h2:(ij m 13 (i,p)).2=0:=by
  rw[CM];exact Nat.div_eq_of_lt (bi hp (by decide))
 obtain⟨n,hn,e⟩:=R.cover h1 hj;refine⟨13+n,by lia,?_⟩;rw[vd];have:ij m 13 (i,p)=((ij m 13 (i,p)).1,0):=iB rfl h2;rw[this,ve];exact e
theorem CO(h:Int):SetTable.bits h<2 ^ 64:=by
 unfold SetTable.bits;have a:=r6 h (show (2 ^ 64:Int)≠0 by decide);have b:=rP h (show (0:Int)<2 ^ 64 by decide);lia
theorem Sy{M:Nat}{l:List Nat}(h:l.length<M):∃j,j<M/\j∉l:=by
 have key:∀ (a b:List Nat),a.Nodup->(∀x∈a,x∈b)->a.length<=b.length:=by
  intro a;induction a with
  |nil=>intro b _ _;exact bE _
  |cons x xs ih=>
   intro b hn hs;obtain⟨h1,h2⟩:=fL.mp hn;have hx:x∈b:=hs x bR;have:=ih (b.erase x) h2 fun y hy=>(Ab (fun (e:y=x)=>h1 (e ▸ hy))).mpr (hs y (cD _ hy));rw[z7 hx] at this;have:0<b.length:=rJ hx;rw[eF];lia
 apply rG;intro NZ;have:=key (List.range M) l i9 fun x hx=>rG fun sE=>NZ ⟨x,bD.mp hx,sE⟩;rw[cG] at this;lia
def A9(mask i p:Nat):SetTable.Probe:={ j:=i,more:=SetTable.runEnd mask i-i,i:=i,perturb:=p,dummy:=none }
theorem N0(mask i:Nat):SetTable.runEnd mask i-i<=9:=by unfold SetTable.runEnd;split <;> lia
theorem wI{t:SetTable}(hd:t.dummies=#[])(j:Nat):t.slot j=.empty\/∃i,t.slot j=.live i/\t.place[i]?=some j:=by
 unfold SetTable.slot;dsimp only;split
 .rename_i h;exact .inr ⟨_,rfl,by simpa using h⟩
 .left;rw[hd];rfl
theorem A_{t:SetTable}(hd:t.dummies=#[]){j:Nat}(h:j∉t.place.toList):t.slot j=.empty:=by
 rcases wI hd j with e|⟨i,_,e2⟩
 .exact e
 .exact absurd (by rw[<-mf] at e2;exact cU e2) h
section
variable {t:SetTable} {hashAt:Nat->Int} {h:Int}
theorem Gx(hd:t.dummies=#[])(hh:∀i,i<t.place.size->hashAt i≠h)(i p:Nat):∀ (r:Nat) (j g8:Nat),
  (∃j',SetTable.probe.go t hashAt h (g8+r+1) { j:=j,more:=r,i:=i,perturb:=p,dummy:=none }=some (.empty j' none))\/
  SetTable.probe.go t hashAt h (g8+r+1) { j:=j,more:=r,i:=i,perturb:=p,dummy:=none }=SetTable.probe.go t hashAt h g8 (A9 t.mask (SetTable.leap t.mask i p).1 (SetTable.leap t.mask i p).2)
 |0,j,g8=>by
  rcases wI hd j with e|⟨k,e,e2⟩
  .exact .inl ⟨j,by unfold SetTable.probe.go;rw[e]⟩
  .right;have hk:k<t.place.size:=(FM.mp e2).1;conv=>lhs;unfold SetTable.probe.go
   rw[e];simp only[fj,hh k hk,dY];rfl
 |r+1,j,g8=>by
  rcases wI hd j with e|⟨k,e,e2⟩
  .exact .inl ⟨j,by rw[show g8+(r+1)+1=(g8+r+1)+1 by lia];unfold SetTable.probe.go;rw[e]⟩
  .have hk:k<t.place.size:=(FM.mp e2).1;have st:SetTable.probe.go t hashAt h (g8+(r+1)+1) { j:=j,more:=r+1,i:=i,perturb:=p,dummy:=none }=SetTable.probe.go t hashAt h (g8+r+1) { j:=j+1,more:=r,i:=i,perturb:=p,dummy:=none }:=by
    rw[show g8+(r+1)+1=(g8+r+1)+1 by lia];conv=>lhs;unfold SetTable.probe.go
    rw[e];simp only[fj,hh k hk,dY];rfl
   rw[st];exact Gx hd hh i p r (j+1) g8
theorem CP(hd:t.dummies=#[])(hh:∀i,i<t.place.size->hashAt i≠h):∀ (m:Nat) (i p g8:Nat),10*(m+1)<=g8->t.slot (ij t.mask m (i,p)).1=.empty->
  ∃j',SetTable.probe.go t hashAt h g8 (A9 t.mask i p)=some (.empty j' none)
 |0,i,p,g8,hf,e=>by
  obtain⟨f,rfl⟩:∃f,g8=f+1:=⟨g8-1,by lia⟩
  refine⟨i,?_⟩;have e':t.slot i=.empty:=e;unfold SetTable.probe.go A9;dsimp only;rw[e']
 |m+1,i,p,g8,hf,e=>by
  have hr:=N0 t.mask i;obtain⟨f,ym⟩:∃f,g8=f+(SetTable.runEnd t.mask i-i)+1:=⟨g8-(SetTable.runEnd t.mask i-i)-1,by lia⟩
  rcases Gx (hashAt:=hashAt) (h:=h) hd hh i p (SetTable.runEnd t.mask i-i) i f with z|z
  .rw[ym];exact z
  .rw[ym];show ∃j',SetTable.probe.go t hashAt h _ { j:=i,more:=_,i:=i,perturb:=p,dummy:=none }=_;rw[z];exact CP hd hh m _ _ f (by lia) e
theorem Ba(R:El (t.mask+1))(hd:t.dummies=#[])(hs:t.place.size<=t.mask)(hh:∀i,i<t.place.size->hashAt i≠h):∃j,t.probe hashAt h (t.probeStart h)=some (.empty j none):=by
 obtain⟨j,hj,hn⟩:=Sy (M:=t.mask+1) (l:=t.place.toList) (by simpa using Nat.lt_succ_of_le hs);obtain⟨m,hm,e⟩:=ql R (kW (SetTable.bits h) (Nat.succ_pos t.mask)) (CO h) hj;refine CP hd hh m _ _ _ ?_ (by rw[e];exact A_ hd hn);unfold SetTable.turns;lia
end
theorem pS{α β:Type}{f:α->Option β}:∀ {l:List α},(∀q∈l,(f q).isSome=true)->(l.filterMap f).length=l.length
 |[],_=>rfl
 |q::l,h=>by
  have hq:=h q bR;cases e:f q with
  |none=>rw[e] at hq;cases hq
  |some b=>rw[FQ e,eF,eF,pS fun x hx=>h x (cD _ hx)]
theorem vf:∀ (m g8 i p:Nat),m<g8->owner.getD (ij mask m (i,p)).1 (some 0)=none->∃j,SetTable.layClean.free mask owner g8 i p=some j/\owner.getD j (some 0)=none
 |m,0,_,_,h,_=>by lia
 |m,g8+1,i,p,h,e=>by
  unfold SetTable.layClean.free;cases hf:(List.range (SetTable.runEnd mask i+1-i)).find? fun k=>(owner.getD (i+k) (some 0)).isNone with
  |some k=>
   refine⟨i+k,rfl,?_⟩;have:=AD hf;simpa using this
  |none=>
   cases m with
   |zero=>
    have h0:(0:Nat)∈List.range (SetTable.runEnd mask i+1-i):=bD.mpr (by unfold SetTable.runEnd;split <;> lia);have:=An.mp hf 0 h0;have e':owner.getD i (some 0)=none:=e;rw[Nat.add_zero,e'] at this;exact absurd rfl this
   |succ m=>
    exact vf m g8 _ _ (by lia) e
structure yn(M:Nat)(owner:Array (Option Nat))(k:Nat):Prop where
 size:owner.size=M
 cnt:owner.toList.countP Option.isSome=k
 lt:∀x,some x∈owner.toList->x<k
theorem Bb{l:List (Option Nat)}{j:Nat}{x:Nat}(hj:l[j]?=some none):(l.set j (some x)).countP Option.isSome=l.countP Option.isSome+1:=by
 induction l generalizing j with
 |nil=>cases hj
 |cons a l ih=>
  cases j with
  |zero=>
   obtain rfl:a=none:=by simpa using hj
   simp
  |succ j=>
   rw[List.set_cons_succ,o_,o_,ih (by simpa using hj)];lia
theorem yn.one{mask:Nat}{owner:Array (Option Nat)}{k:Nat}(L:yn (mask+1) owner k)(R:El (mask+1))(hk:k<mask+1)(h:Int):
  ∃j,SetTable.layClean.free mask owner (SetTable.turns mask) (SetTable.bits h % (mask+1)) (SetTable.bits h)=some j/\yn (mask+1) (owner.setIfInBounds j (some k)) (k+1):=by
 have NZ:∃j,j<mask+1/\owner.toList[j]?=some none:=by
  apply rG;intro NZ;have uy:∀x∈owner.toList,x.isSome=true:=by
   intro x hx;obtain⟨j,hj,e⟩:=mh.mp hx;cases x with
   |some _=>rfl
   |none=>
    refine absurd ⟨j,?_,?_⟩ NZ
    .rw[<-L.size];simpa using hj
    .rw[bQ hj,e]
  have:=List.countP_eq_length.mpr uy;rw[L.cnt,lU,L.size] at this;lia
 obtain⟨j0,hj0,e0⟩:=NZ;obtain⟨m,hm,em⟩:=ql R (kW (SetTable.bits h) (Nat.succ_pos mask)) (CO h) hj0;obtain⟨j,ej,en⟩:=vf (mask:=mask) (owner:=owner) m (SetTable.turns mask) (SetTable.bits h % (mask+1)) (SetTable.bits h) (by unfold SetTable.turns;lia)
  (by rw[em,vI,<-mf,e0];rfl)
 refine⟨j,ej,?_⟩;have hjn:owner.toList[j]?=some none:=by
  rw[vI,<-mf] at en;cases hq:owner.toList[j]? with
  |none=>rw[hq] at en;cases en
  |some v=>rw[hq] at en;rw[show v=none from en]
 have Sz:(owner.setIfInBounds j (some k)).toList=owner.toList.set j (some k):=by simp
 refine⟨by simp[L.size],by rw[Sz,Bb hjn,L.cnt],fun x hx=>?_⟩;rw[Sz] at hx;rcases List.mem_or_eq_of_mem_set hx with z|z
 .exact cV (L.lt x z)
 .cases z;exact kH _
theorem CQ(R:El (mask+1)):∀ (l:List Int) (owner:Array (Option Nat)) (k:Nat),yn (mask+1) owner k->k+l.length<=mask->
  ∃Gz,l.foldl (fun c_ h=>do
   let (owner,k) <- c_
   let j <- SetTable.layClean.free mask owner (SetTable.turns mask) (SetTable.bits h % (mask+1)) (SetTable.bits h)
   pure (owner.setIfInBounds j (some k),k+1)) (some (owner,k))=some (Gz,k+l.length)/\yn (mask+1) Gz (k+l.length)
 |[],owner,k,L,_=>⟨owner,rfl,L⟩
 |h::l,owner,k,L,hl=>by
  rw[eF] at hl;obtain⟨j,ej,L'⟩:=L.one R (by lia) h;obtain⟨o',e,L2⟩:=CQ R l _ _ L' (by lia);refine⟨o',?_,by rw[eF,show k+(l.length+1)=k+1+l.length by lia];exact L2⟩;rw[gY];have:(do
   let (owner,k) <- some (owner,k)
   let j <- SetTable.layClean.free mask owner (SetTable.turns mask) (SetTable.bits h % (mask+1)) (SetTable.bits h)
   pure (owner.setIfInBounds j (some k),k+1):Option (Array (Option Nat)×Nat))=some (owner.setIfInBounds j (some k),k+1):=by
   show (SetTable.layClean.free mask owner (SetTable.turns mask) (SetTable.bits h % (mask+1)) (SetTable.bits h)).bind _=_;rw[ej];rfl
  rw[this,e,eF,show k+(l.length+1)=k+1+l.length by lia]
theorem yo(R:El (mask+1))(hs:Array Int)(h:hs.size<=mask):∃owner,SetTable.layClean mask hs=some owner/\yn (mask+1) owner hs.size:=by
 have L0:yn (mask+1) (Array.replicate (mask+1) none) 0:=⟨by simp,by simp[List.countP_replicate],fun x hx=>by simp at hx⟩
 obtain⟨o,e,L⟩:=CQ R hs.toList _ 0 L0 (by simpa using h);refine⟨o,?_,by simpa using L⟩;unfold SetTable.layClean;rw[<-Array.foldl_toList];have e':=congrArg (Option.map (·.1)) e;exact e'
theorem Bc(L:yn M owner n):
  ((List.range M).filterMap fun j=>(owner.getD j none).map (j,·)).length=n/\∀q∈(List.range M).filterMap (fun j=>(owner.getD j none).map (j,·)),q.2<n:=by
 constructor
 .rw[<-L.cnt];have e:owner.toList=(List.range M).map fun j=>owner.getD j none:=by
   apply Ay
   .simp[L.size]
   .intro i h1 h2;simp only[rX,Am,Array.getElem_toList];rw[vI,z6 (by simpa using h1)];rfl
  conv=>rhs;rw[e]
  rw[List.countP_map];generalize List.range M=l;induction l with
  |nil=>rfl
  |cons a l ih=>
   rw[o_,<-ih];cases hq:owner.getD a none with
   |none=>rw[List.filterMap_cons_none (by rw[hq];rfl),show (Option.isSome ∘ fun j=>owner.getD j none) a=false by show (owner.getD a none).isSome=false;rw[hq];rfl];simp
   |some x=>rw[FQ (b:=(a,x)) (by rw[hq];rfl),show (Option.isSome ∘ fun j=>owner.getD j none) a=true by show (owner.getD a none).isSome=true;rw[hq];rfl];simp
 .intro q hq;obtain⟨j,_,e⟩:=o0.mp hq;cases hx:owner.getD j none with
  |none=>rw[hx] at e;cases e
  |some x=>
   rw[hx] at e;cases e;refine L.lt x ?_;rw[vI,<-mf] at hx;cases hy:owner.toList[j]? with
   |none=>rw[hy] at hx;cases hx
   |some v=>rw[hy] at hx;obtain rfl:v=some x:=hx;exact cU hy
structure yp(hs:Array Int)(t:SetTable):Prop where
 dm:t.dummies=#[]
 sz:t.place.size=hs.size
 ms:(t.mask=7/\hs.size<=4)\/(t.mask=31/\hs.size<=18)\/(t.mask=127/\hs.size<=76)\/(t.mask=511/\hs.size<=306)
theorem yp.rnd(T:yp hs t):El (t.mask+1):=by
 rcases T.ms with ⟨e,_⟩|⟨e,_⟩|⟨e,_⟩|⟨e,_⟩ <;> rw[e]
 .exact Xr
 .exact Mq
 .exact Gv
 .exact Gw
theorem lX(xs:Array α)(p:Nat)(x:α):(SetTable.insertAt xs p x).size=xs.size+1:=by
 unfold SetTable.insertAt;simp;lia
theorem nL(h:y∈(SetTable.insertAt xs p x).toList):y=x\/y∈xs.toList:=by
 unfold SetTable.insertAt at h;rw[fK,mr,Ae,Ae] at h;rcases bX.mp h with z|z
 .rcases bX.mp z with z|z
  .right;rw[List.extract_eq_drop_take] at z;exact vS (oU z)
  .left;simpa using z
 .right;rw[List.extract_eq_drop_take] at z;exact vS (oU z)
theorem Bd{hs:Array Int}{t:SetTable}{h:Int}(T:yp hs t)(hn:h∉hs.toList)(hl:hs.size<300):∃hs' t',gW hs t h=some (hs',t')/\yp hs' t'/\hs'.size=hs.size+1/\∀x∈hs'.toList,x=h\/x∈hs.toList:=by
 have QT:t.place.size<=t.mask:=by rw[T.sz];rcases T.ms with ⟨e,z⟩|⟨e,z⟩|⟨e,z⟩|⟨e,z⟩ <;> lia
 have hh:∀i,i<t.place.size->NU hs i≠h:=by
  intro i hi e;rw[T.sz] at hi;unfold NU at e;rw[z6 hi] at e;exact hn (by rw[<-e];simp)
 obtain⟨j,hp⟩:=Ba (hashAt:=NU hs) (h:=h) T.rnd T.dm QT hh;have hg:t.gaveWay=false:=by
  unfold SetTable.gaveWay;rcases T.ms with ⟨e,_⟩|⟨e,_⟩|⟨e,_⟩|⟨e,_⟩ <;> rw[e] <;> rfl
 have q1:(t.put j).1.place=SetTable.insertAt t.place (SetTable.below t.place j) j:=rfl;have q2:(t.put j).1.dummies=#[]:=by
  show (if SetTable.has t.dummies j=true then _ else t.dummies)=_;rw[T.dm];rfl
 have q3:(t.put j).1.mask=t.mask:=rfl;have s1:(SetTable.insertAt hs (t.put j).2 h).size=hs.size+1:=lX _ _ _;have s2:(t.put j).1.place.size=hs.size+1:=by rw[q1,lX,T.sz]
 have fl:(t.put j).1.fill=hs.size+1:=by unfold SetTable.fill;rw[s2,q2];rfl
 have fit:(t.put j).1.fits (SetTable.insertAt hs (t.put j).2 h).size=true:=by
  unfold SetTable.fits;rw[s1,s2,fl,q3];simp;rcases T.ms with ⟨e,z⟩|⟨e,z⟩|⟨e,z⟩|⟨e,z⟩ <;> lia
 unfold gW;rw[hg,ak cw,hp];dsimp only;rw[ao (by rw[fit,s1];simp;lia)];by_cases hf:(t.put j).1.tooFull=true
 .rw[ao hf];have ym:=hf;unfold SetTable.tooFull at ym;rw[fl,q3] at ym;have hf2:(hs.size+1)*5>=t.mask*3:=by simpa using ym
  have gr:SetTable.grown (hs.size+1)=(hs.size+1)*4:=by unfold SetTable.grown;rw[ak (by lia)]
  obtain⟨m2,em2,N4,R2⟩:∃m2,SetTable.sizeAbove (SetTable.grown (hs.size+1))=m2+1/\((m2=31/\hs.size+1<=18)\/(m2=127/\hs.size+1<=76)\/(m2=511/\hs.size+1<=306))/\El (m2+1):=by
   rw[gr];rcases T.ms with ⟨e,z⟩|⟨e,z⟩|⟨e,z⟩|⟨e,z⟩
   .have:hs.size=4:=by lia
    exact⟨31,by rw[this];rfl,.inl ⟨rfl,by lia⟩,Mq⟩
   .have:hs.size=18:=by lia
    exact⟨127,by rw[this];rfl,.inr (.inl ⟨rfl,by lia⟩),Gv⟩
   .have:hs.size=76:=by lia
    exact⟨511,by rw[this];rfl,.inr (.inr ⟨rfl,by lia⟩),Gw⟩
   .lia
  have hm3:(SetTable.insertAt hs (t.put j).2 h).size<=m2:=by rw[s1];rcases N4 with ⟨e,z⟩|⟨e,z⟩|⟨e,z⟩ <;> lia
  obtain⟨owner,eo,L⟩:=yo R2 (SetTable.insertAt hs (t.put j).2 h) hm3;obtain⟨SA,Xs⟩:=Bc L;rw[s1] at SA Xs;generalize SB:(List.range (m2+1)).filterMap (fun j=>(owner.getD j none).map (j,·))=live at SA Xs;have er:(t.put j).1.relaid (SetTable.insertAt hs (t.put j).2 h) (SetTable.grown (hs.size+1))=some ({ mask:=m2,place:=(live.map (·.1)).toArray,dummies:=#[],finger:=(t.put j).1.finger,led:=(t.put j).1.led,moves:=(t.put j).1.movedTo m2,plain:=(t.put j).1.plain },(live.map (·.2)).toArray):=by
   unfold SetTable.relaid SetTable.laid;rw[em2];simp only[Nat.add_sub_cancel];rw[eo];show some _=some _;rw[<-SB]
  rw[er];dsimp only;have A8:((live.map (·.2)).toArray.filterMap ((SetTable.insertAt hs (t.put j).2 h)[·]?)).size=hs.size+1:=by
   rw[<-lU,vM];show ((live.map (·.2)).filterMap _).length=_;rw[<-SA,List.filterMap_map];refine pS fun q hq=>?_;show ((SetTable.insertAt hs (t.put j).2 h)[q.2]?).isSome=true;rw[z6 (by rw[s1];exact Xs q hq)];rfl
  have emf:∀x,({ mask:=m2,place:=(live.map (·.1)).toArray,dummies:=#[],finger:=(t.put j).1.finger,led:=(t.put j).1.led,moves:=(t.put j).1.movedTo m2,plain:=(t.put j).1.plain }:SetTable).fits x=(decide (hs.size+1=x)&&decide (hs.size+1<=m2)):=by
   intro x;unfold SetTable.fits SetTable.fill;simp[SA];rw[kQ];simp
  rw[ao (by
   rw[A8,s1,emf,em2];have:hs.size+1<=m2:=by rw[<-s1];exact hm3
   simp[this];rcases N4 with ⟨e,z⟩|⟨e,z⟩|⟨e,z⟩ <;> lia)]
  refine⟨_,_,rfl,⟨rfl,?_,?_⟩,A8,fun x hx=>?_⟩
  .rw[A8];simp[SA]
  .rw[A8];exact .inr N4
  .rw[vM] at hx;obtain⟨k,_,ek⟩:=o0.mp hx;refine nL (p:=(t.put j).2) ?_;rw[<-mf] at ek;exact cU ek
 .rw[ak hf];refine⟨_,_,rfl,⟨q2,by rw[s2,s1],?_⟩,s1,fun x hx=>nL hx⟩;have ym:¬ (hs.size+1)*5>=t.mask*3:=by
   intro z;refine hf ?_;unfold SetTable.tooFull;rw[fl,q3];simpa using z
  rw[s1,q3];rcases T.ms with ⟨e,z⟩|⟨e,z⟩|⟨e,z⟩|⟨e,z⟩ <;> lia
theorem qm:∀ (l:List Int) (hs:Array Int) (t:SetTable),yp hs t->(∀x∈l,x∉hs.toList)->l.Nodup->hs.size+l.length<=300->∃hs' t',l.foldlM (fun q h=>gW q.1 q.2 h) (hs,t)=some (hs',t')/\hs'.size=hs.size+l.length
 |[],hs,t,_,_,_,_=>⟨hs,t,rfl,rfl⟩
 |h::l,hs,t,T,hn,nd,hl=>by
  rw[eF] at hl;obtain⟨n1,n2⟩:=fL.mp nd;obtain⟨Eg,t1,e1,T1,z1,m1⟩:=Bd T (hn h bR) (by lia);obtain⟨lJ,t2,e2,z2⟩:=qm l Eg t1 T1 (fun x hx hy=>by
   rcases m1 x hy with e|e
   .exact n1 (e ▸ hx)
   .exact hn x (cD _ hx) e) n2 (by lia)
  refine⟨lJ,t2,?_,by rw[z2,z1,eF];lia⟩;rw[List.foldlM_cons];show (gW hs t h).bind _=_;rw[e1];exact e2
theorem Em(led:Bool)(nd:l.Nodup)(hl:l.length<=300):∃hs t,wH led l=some (hs,t)/\hs.size=l.length:=by
 obtain⟨hs,t,e,z⟩:=qm l #[] (SetTable.fresh 0 0 led) ⟨rfl,rfl,.inl ⟨rfl,by decide⟩⟩ (fun x _ h=>by simp at h) nd (by simpa using hl);exact⟨hs,t,e,by simpa using z⟩
def CS:List Nat->Nat->Bool
 |[],_=>true
 |x::xs,c_=>bif Nat.testBit c_ x then false else CS xs (c_ ||| (1 <<< x))
theorem yq:∀ (l:List Nat) (c_:Nat),CS l c_=true->l.Nodup/\∀x∈l,c_.testBit x=false
 |[],_,_=>⟨jK,fun x h=>(nomatch h)⟩
 |x::xs,c_,h=>by
  unfold CS at h;cases hb:c_.testBit x with
  |true=>rw[hb] at h;cases h
  |false=>
   rw[hb] at h;obtain⟨nd,hx⟩:=yq xs _ h;have hor:∀y∈xs,c_.testBit y=false/\y≠x:=by
    intro y hy;have:=hx y hy;rw[Nat.testBit_or,Nat.one_shiftLeft,Nat.testBit_two_pow] at this;rw[Bool.or_eq_false_iff] at this;exact⟨this.1,fun e=>by have:=this.2;simp[e] at this⟩
   refine⟨fL.mpr ⟨fun hm=>(hor x hm).2 rfl,nd⟩,fun y hy=>?_⟩;rcases bb.mp hy with z|z
   .rw[z];exact hb
   .exact(hor y z).1
def tj:List (Int×Int):=(List.range 32).flatMap fun a=>(List.range 32).map fun b=>(Int.ofNat a,Int.ofNat b)
def Mr(h:Int):Nat:=(h % 6554).toNat
theorem En(P:Program)(w:World):CS (tj.map fun y=>Mr (f8 P w y)) 0=true:=by kernel_rfl
theorem CU(h1:0<=y.1/\y.1<32)(h2:0<=y.2/\y.2<32):y∈tj:=by
 unfold tj;refine Ax.mpr ⟨y.1.toNat,bD.mpr (by lia),bj.mpr ⟨y.2.toNat,bD.mpr (by lia),iB ?_ ?_⟩⟩
 .show ((y.1.toNat:Nat):Int)=y.1;lia
 .show ((y.2.toNat:Nat):Int)=y.2;lia
theorem lY:∀ {l:List α},(l.map f).Nodup->∀x∈l,∀y∈l,f x=f y->x=y
 |[],_,_,h,_,_,_=>by cases h
 |a::l,h,x,hx,y,hy,e=>by
  rw[fv] at h;obtain⟨h1,h2⟩:=fL.mp h;rcases bb.mp hx with z|z <;> rcases bb.mp hy with z'|z'
  .rw[z,z']
  .exact absurd (bj.mpr ⟨y,z',by rw[<-e,z]⟩) h1
  .exact absurd (bj.mpr ⟨x,z,by rw[e,z']⟩) h1
  .exact lY h2 x z y z' e
theorem wJ(hx:(0<=x.1/\x.1<32)/\(0<=x.2/\x.2<32))(hy:(0<=y.1/\y.1<32)/\(0<=y.2/\y.2<32))(e:f8 P w x=f8 P w y):x=y:=
 lY (yq _ _ (En P w)).1 x (CU hx.1 hx.2) y (CU hy.1 hy.2) (congrArg Mr e)
theorem pT:∀ {l:List α},l.Nodup->(∀x∈l,∀y∈l,f x=f y->x=y)->(l.map f).Nodup
 |[],_,_=>jK
 |a::l,h,hf=>by
  obtain⟨h1,h2⟩:=fL.mp h;rw[fv];refine fL.mpr ⟨fun z=>?_,pT h2 fun x hx y hy=>hf x (cD _ hx) y (cD _ hy)⟩;obtain⟨y,hy,e⟩:=bj.mp z;have:=hf y (cD _ hy) a bR e;exact h1 (this ▸ hy)
theorem yr{P:Program}{w:World}(led:Bool){ys:List (Int×Int)}(nd:ys.Nodup)(hr:∀y∈ys,(0<=y.1/\y.1<32)/\(0<=y.2/\y.2<32))(hl:ys.length<=300):
  ∃hs t,wH led (ys.map (f8 P w))=some (hs,t)/\hs.size=ys.length:=by
 obtain⟨hs,t,e,z⟩:=Em led (pT nd fun x hx y hy e=>wJ (P:=P) (w:=w) (hr x hx) (hr y hy) e) (by rw[aT];exact hl);exact⟨hs,t,e,by rw[z,aT]⟩
theorem wK:∀ {as:List Addr} {its:List Value},aZ (as.map V.ref) its->its=as.map Value.ref
 |[],_,r=>by cases r;rfl
 |a::as,_,r=>by
  cases r with
  |cons r rr=>
   obtain rfl:=(show _=Value.ref a from r)
   rw[wK rr];rfl
def J6(D:Addr)(n:Nat):HO:=.ext fun h=>∃hs t,lf h D hs t/\hs.size=n
section
variable {X:Cx}
def SC(K:PySem.W.Frag):List V->Hp->VK->Prop:=fun xs H Q=>∃ (l:Addr) (as:List Addr) (ys:List (Int×Int)),xs=[.ref l]/\aW K H l (as.map V.ref)/\as.length=ys.length/\
 (∀i,i<ys.length->Gp K H (as.getD i 0) (ys.getD i (0,0)))/\ys.Nodup/\(∀y∈ys,(0<=y.1/\y.1<32)/\(0<=y.2/\y.2<32))/\ys.length<=300/\∀D,H D=none->Q (.ref D) (upd H D (J6 D ys.length))
theorem Eo(hc:X.calm=true)(hu:X.A.units+8<cLine):fh X (.type "set") (SC X.K):=by
 intro af s σ H xs us Q I r h;obtain⟨l,as,ys,rfl,hl,eJ,hp,nd,rg,h3,q⟩:=h;obtain⟨u1,rfl,r1⟩:=r.one;obtain rfl:u1=Value.ref l:=r1;obtain⟨its,rv,pl,hz⟩:=I.list hl;have e:=wK rv;subst e;have hpi:jY s.heap (as.map Value.ref) ys:=⟨by rw[aT,eJ],fun i v hv=>by
  rw[bU] at hv;cases ea:as[i]? with
  |none=>rw[ea] at hv;cases hv
  |some a=>
   rw[ea] at hv;obtain rfl:Value.ref a=v:=bN hv;have hi:i<as.length:=(b9.mp ea).1;obtain⟨o,n,t,u,e1,c,d⟩:=A6 I (hp i (by lia));have eg:as.getD i 0=a:=by rw[bW,ea];rfl
   rw[eg] at e1;exact⟨a,o,n,t,u,rfl,e1,c,d⟩⟩
 have Ej:∀led,∃q:Array Int×SetTable,wH led (ys.map (f8 X.prog X.w))=some q/\q.1.size=ys.length:=fun led=>
  let ⟨hs,t,e,z⟩:=yr (P:=X.prog) (w:=X.w) led nd rg h3;⟨(hs,t),e,z⟩
 refine Gr (I.ok.hd hc) hu pl.isList hpi (hsN:=fun led=>(Ej led).choose.1) (tN:=fun led=>(Ej led).choose.2) (fun led=>(Ej led).choose_spec.1) fun led h' tk S' k=>?_;refine⟨.ref s.heap.objs.size,_,I.yj (t':=tk) (o:=J6 s.heap.objs.size ys.length) (fun b u e=>k b u (aP e) e) (oY (aK _)) ⟨⟨_,_,S',(Ej led).choose_spec.2⟩,?_,fun h1 h2 ⟨hs,t,⟨o,es,ep,q1,q2⟩,z⟩ kk=>⟨hs,t,⟨o,es,ep,kk o q1,q2⟩,z⟩⟩,rfl,q _ I.fresh⟩;obtain⟨o,_,_,q1,_⟩:=S';exact⟨o,q1⟩
theorem yt:fh X (.builtin "len") (fun xs H Q=>∃D n,xs=[.ref D]/\H D=some (J6 D n)/\n<=4096/\Q (.int n) H):=by
 intro af s σ H xs us Q I r h;obtain⟨D,n,rfl,e,hn,q⟩:=h;obtain⟨u1,rfl,r1⟩:=r.one;obtain rfl:u1=Value.ref D:=r1;obtain⟨⟨hs,t,⟨o,es,ep,q1,q2,q3,q4,q5,q6⟩,z⟩,_⟩:=(show cI X.prog X.w H s.heap D (J6 D n) from I.ce D _ e)
 have gZ:es.size=n:=by rw[<-z,<-q5,js]
 exact call_len_set q1 ⟨q2,q3.1,q3.2⟩ q4 q6 (by rw[gZ];lia) ⟨.int n,H,I.tok _,⟨_,by rw[gZ]⟩,q⟩
theorem lh:fh X (.type "range") (fun xs H Q=>∃n,xs=[.int n]/\∀p,H p=none->Q (.ref p) (upd H p (.Co 0 n))):=by
 intro af s σ H xs us Q I r h;obtain⟨n,rfl,q⟩:=h;obtain⟨u1,rfl,t,rfl⟩:=r.one;refine call_range_1 ⟨.ref s.heap.objs.size,_,I.laid (o:=.Co 0 n) (fun b u e=>bw _ e) (aK _) ⟨_,_,_,b_ _ rfl⟩,rfl,q _ I.fresh⟩
theorem mL(hc:X.calm=true):fh X (.type "list") (fun xs H Q=>∃ (p:Addr) (n:Nat),xs=[.ref p]/\H p=some (.Co 0 n)/\n<=1000/\∀l,H l=none->Q (.ref l) (upd H l (.lst ((List.range n).map fun (i:Nat)=>V.int i)))):=by
 intro af s σ H xs us Q I r h;obtain⟨p,n,rfl,e,hn,q⟩:=h;obtain⟨u1,rfl,r1⟩:=r.one;obtain rfl:u1=Value.ref p:=r1;obtain⟨t,u,v,hp⟩:=(show cI X.prog X.w H s.heap p (.Co 0 n) from I.ce p _ e)
 refine call_list_range (n:=n) (I.ok.hd hc) (show IsRange s.heap p 0 n 1 t u v from hp) (small_one (by lia) (by lia) (by lia) (by lia)) (by rw[rangeSize_one];split <;> lia) (by lia) fun h' tk c_ c k g it=>?_;obtain⟨i1,i2⟩:=it;refine⟨.ref s.heap.objs.size,_,I.yj (t':=tk) (o:=.lst ((List.range n).map fun (i:Nat)=>V.int i)) (fun b u e=>k b u e) (oY (aK _)) ⟨?_,c_.toList,c,?_,by simpa using g⟩,rfl,q _ I.fresh⟩
 .rw[aT,cG];exact aX hn (by decide)
 .have go:∀ (m:Nat) (l:List Value),l.length=m->(∀ (j:Nat) v,l[j]?=some v->∃t,v=Value.int (0+(j:Int)*1) t)->aZ ((List.range m).map fun (i:Nat)=>V.int i) l:=by
   intro m;induction m with
   |zero=>intro l hl _;cases l with
    |nil=>exact .nil
    |cons _ _=>cases hl
   |succ m ih=>
    intro l hl hv;have lS:l≠[]:=by intro z;rw[z] at hl;cases hl
    have el:l=l.dropLast++[l.getLast lS]:=(List.dropLast_concat_getLast lS).symm;rw[jr,cW,el];have VU:l.dropLast.length=m:=by rw[List.length_dropLast,hl];rfl
    refine aZ.append (ih _ VU fun j v hj=>hv j v ?_) (.cons ?_ .nil)
    .rw[el];have SE:j<l.dropLast.length:=(b9.mp hj).1;rw[jk SE];exact hj
    .obtain⟨t,ht⟩:=hv m (l.getLast lS) (by
      rw[List.getLast_eq_getElem,bQ (by lia:m<l.length)];simp[hl])
     exact⟨t,by rw[ht];simp⟩
  exact go n c_.toList (by simpa using i1) fun j v hj=>i2 j v (by simpa using hj)
end
def qo(e:V->V->Bool):List V->List V->Bool
 |[],[]=>true
 |x::xs,y::ys=>e x y&&qo e xs ys
 |_,_=>false
theorem qp:∀ {xs ys:List V},xs.length=ys.length->qo e xs ys=(List.range xs.length).all fun i=>e (xs.getD i .cB) (ys.getD i .cB)
 |[],[],_=>rfl
 |x::xs,y::ys,h=>by
  have h':xs.length=ys.length:=by simpa using h
  rw[qo,qp h',eF,oP,kU,List.all_map];rfl
 |[],_::_,h=>by simp at h
 |_::_,[],h=>by simp at h
section
variable {X:Cx}
theorem Ep(hc:X.calm=true):fh X (.builtin "any") (fun xs H Q=>∃ (p:Addr) (bs:List Bool),xs=[.ref p]/\aW X.K H p (bs.map V.bl)/\Q (.bl (bs.any id)) H):=by
 intro af s σ H xs us Q I r h;obtain⟨p,bs,rfl,hp,q⟩:=h;obtain⟨u1,rfl,r1⟩:=r.one;obtain rfl:u1=Value.ref p:=r1;obtain⟨its,rv,pl,hz⟩:=I.list hp;have wL:its=bs.map Value.bool:=by
  have go:∀ (bs:List Bool) (its:List Value),aZ (bs.map V.bl) its->its=bs.map Value.bool:=by
   intro bs;induction bs with
   |nil=>intro its r;cases r;rfl
   |cons b bs ih=>
    intro its r;cases r with
    |cons r rr=>
     obtain rfl:=(show _=Value.bool b from r)
     rw[ih _ rr];rfl
  exact go bs its rv
 subst wL;obtain⟨ob,Xt,_⟩:=id pl.isList;have dZ:p<s.heap.objs.size:=aP Xt;refine call_any_walk (rY pl.isList ⟨s.heap.objs.size,_,_,_,_,_,fun i=>bs.getD i false,rfl,Walks.list (show X.A.in1.handled=none from I.ok.hd hc) _ p (ba dZ) _,⟨⟨_,b_ _ rfl,rfl,rfl⟩,pl.isList.push _⟩,fun i v s1 Q' E' hv hq=>?_,fun h' tk k=>?_⟩)
 .have D4:(bs.map Value.bool)[i]?=some v:=by simpa using hv
  rw[bU] at D4;cases eb:bs[i]? with
  |none=>rw[eb] at D4;cases D4
  |some b=>
   rw[eb] at D4;obtain rfl:Value.bool b=v:=bN D4;have:bs.getD i false=b:=by rw[bW,eb];rfl
   have JR:Q' b s1:=by rw[<-this];exact hq
   exact wpAny_pure JR
 .have keep:∀b o,s.heap.get? b=some o->h'.get? b=some o:=fun b o e=>k b o (by simpa using ba (aP e)) (bw _ e);refine⟨.bl (bs.any id),H,I.kept (t':=tk) keep,?_,q⟩;show Value.bool _=Value.bool _;congr 1;have go:∀ (bs:List Bool),((List.range bs.length).any fun i=>bs.getD i false)=bs.any id:=by
   intro bs;induction bs with
   |nil=>rfl
   |cons b bs ih=>
    rw[eF,oP,jM,List.any_map,jM,<-ih];rfl
  rw[<-go bs];simp
end
def nM(c:Addr)(qual:Str):HO:=.ext fun h=>h.CodeRec (.ref c) qual
theorem GA(x:h.CodeRec (.ref c) qual):cI P w H h c (nM c qual):=by
 refine⟨x,?_,?_⟩
 .obtain⟨c',o,vs,t,e,ho,_⟩:=x;cases e;exact⟨o,ho⟩
 .rintro h1 h2 ⟨c',o,vs,t,e,ho,r⟩ k;cases e;exact⟨c,o,vs,t,rfl,k o ho,r⟩
def Ms(f:Addr)(qual:Str)(params:Arguments)(body:Expr)(scope:Scope)(cells:List (Str×Addr))(c:Addr)(h:Heap):Prop:=
 ∃ (cX:List (Str×Addr)) (pm yu:Value),(∀x a,cX.lookup x=some a->cells.lookup x=some a)/\(∀x,(x,NameKind.free)∈scope.names->∃a,cX.lookup x=some a)/\
  h.get? f=some (PySem.W.kla_obj "<lambda>" qual params body scope cX pm c yu)
def uA(f:Addr)(qual:Str)(params:Arguments)(body:Expr)(scope:Scope)(cells:List (Str×Addr))(c:Addr):HO:=.ext (Ms f qual params body scope cells c)
theorem CV(x:Ms f qual params body scope cells c h):
  cI P w H h f (uA f qual params body scope cells c):=by
 refine⟨x,?_,?_⟩
 .obtain⟨_,_,_,_,_,e⟩:=x;exact⟨_,e⟩
 .rintro h1 h2 ⟨cX,pm,yu,a,b,e⟩ k;exact⟨cX,pm,yu,a,b,k _ e⟩
def dt(lp:Pos)(qual:Str)(P:Addr)(H:Hp):Prop:=H P=some (.iR #[])\/∃c,H P=some (.iR #[rawInt lp.line,rawInt lp.col,.ref c])/\H c=some (nM c qual)
structure J7(X:Cx)(c P:Addr):Prop where
 code:X.env.code=.ref c
 hd:PySem.W.CodeHd X.base c P
 bm:∃bm o,X.mg "__builtins__"=some (.ref bm)/\bm≠builtinsNs/\bm≠mainGlobals/\X.base.get? bm=some o/\o.cls=.type "module"/\o.dict=some builtinsNs/\o.data=.plain
def Xu(lp:Pos)(qual:Str)(P:Addr)(params:Arguments)(body:Expr)(scope:Scope)(cells:List (Str×Addr)):TE:=fun _ H Q=>dt lp qual P H/\
 ∀ (f c:Addr) (H2:Hp),dt lp qual P H2->(∀b o,H b=some o->b≠P->H2 b=some o)->H2 c=some (nM c qual)->H2 f=some (uA f qual params body scope cells c)->Q (.ref f) H2
theorem yv{lp:Pos}{c:Addr}:TriplesOk (#[rawInt lp.line,rawInt lp.col,.ref c]:Array Value).toList:=trivial
theorem Er:codeAmong lp (#[rawInt lp.line,rawInt lp.col,.ref c]:Array Value).toList=some (.ref c):=by
 show (if ((lp.line:Int)==(lp.line:Int)&&(lp.col:Int)==(lp.col:Int))=true then some (Value.ref c) else _)=_;simp
section
variable {X:Cx} {c P:Addr} {params:Arguments} {body:Expr} {scope:Scope} {lp:Pos} {NB:List Str} {src:List (Option Nat)}
theorem J7.at(C:J7 X c P)(I:aS X af σ H s)(hP:H P=some (.iR ps)):s.heap.BuiltinsAt X.mg P:=by
 obtain⟨bm,o,b1,b2,b3,b4,b5,b6,b7⟩:=C.bm;refine⟨bm,o,b1,b2,b3,fun z=>?_,I.bk _ _ b4,b5,b6,b7⟩;have:=(I.bs _ _ b4).2;rw[z,hP] at this;cases this
theorem aS.Mt(I:aS X af σ H s):s.heap.Ns mainGlobals X.mg:=I.mod.glob.keeps I.bk
theorem tm(C:J7 X c P)(S:g7 NB src scope X)(Xv:defaultsOf params X.env=([],[]):=by rfl):PE X (.Lambda params body scope lp) (Xu lp (X.env.qual++"<lambda>") P params body scope X.env.cells):=by
 intro af s σ H Q I h;obtain⟨tab,h⟩:=h;obtain⟨cX,ecl,c1,c2⟩:=mK I.ok S;refine PySem.W.kla_eval Xv ?_;have gZ:∀b o,s.heap.get? b=some o->b<s.heap.objs.size:=fun b o e=>aP e;rcases tab with hP|⟨c',hP,xR⟩
 .-- the first time
  have SF:s.heap.get? P=some (PySem.W.tabObj #[]):=I.ce P _ hP;have hPL:X.env.locals≠P:=fun z=>by have f:=I.free;rw[z,hP] at f;cases f
  have hPg:mainGlobals≠P:=fun z=>by
   obtain⟨o,es,ep,e,d,_⟩:=I.mod.glob;have:=(I.bs _ _ e).2;rw[z,hP] at this;cases this
  refine PySem.W.kla_makeFunction (mg:=X.mg) ecl I.ok.glob I.Mt C.code (C.hd.keeps I.bk) SF (by trivial) rfl hPg (C.at I hP) fun c' yu h' tk hx J8 dZ Xw VV=>?_;have J9:∀b o,b≠P->s.heap.get? b=some o->(h'.push (PySem.W.kla_obj "<lambda>" (X.env.qual++"<lambda>") params body scope cX ((X.mg "__name__").getD .none) c' yu)).get? b=some o:=fun b o hb e=>bw _ (hx b o hb e);have hcP:c'≠P:=fw (bi (gZ _ _ SF) J8);have hfP:h'.objs.size≠P:=fw (bi (gZ _ _ SF) (aX J8 (jO dZ)));have hfc:h'.objs.size≠c':=fw dZ;have nf:H h'.objs.size=none:=I.ce.fresh (by lia);have nc:H c'=none:=I.ce.fresh J8
  let H2:Hp:=upd (upd (upd H P (.iR #[rawInt lp.line,rawInt lp.col,.ref c'])) c' (nM c' (X.env.qual++"<lambda>"))) h'.objs.size (uA h'.objs.size (X.env.qual++"<lambda>") params body scope X.env.cells c')
  have eP:H2 P=some (.iR #[rawInt lp.line,rawInt lp.col,.ref c']):=by
   show upd _ _ _ _=_;rw[ap hfP.symm,ap hcP.symm,ae]
  have ec:H2 c'=some (nM c' (X.env.qual++"<lambda>")):=by
   show upd _ _ _ _=_;rw[ap hfc.symm,ae]
  have ef:H2 h'.objs.size=some (uA h'.objs.size (X.env.qual++"<lambda>") params body scope X.env.cells c'):=ae;have eo:∀b,b≠P->b≠c'->b≠h'.objs.size->H2 b=H b:=fun b h1 h2 h3=>by
   show upd _ _ _ _=_;rw[ap h3,ap h2,ap h1]
  have fP:∀b o,H b=some o->b≠P->H2 b=some o:=fun b o e hb=>by
   rw[eo b hb (am e nc) (am e nf)];exact e
  have I2:aS X af σ H2 { s with heap:=h'.push (PySem.W.kla_obj "<lambda>" (X.env.qual++"<lambda>") params body scope cX ((X.mg "__name__").getD .none) c' yu),toks:=tk }:=by
   refine I.step (g':=s.gens) (d':=s.drawn) (ch:=[]) (fun _ z=>absurd z (by simp)) (fun b o _ _ _ e n=>J9 b o (fun z=>by rw[z,hP] at n;cases n) e) (fun b o _ _ _ e n=>⟨o.slots,J9 b o (fun z=>by rw[z,hP] at n;cases n) e⟩)
    (fun b o _ e n=>?_) (fun b o _ e=>?_) (fun b xs e=>fP b _ e fun z=>by rw[z,hP] at e;cases e) (fun b o u e=>fP b _ e fun z=>by rw[z,hP] at e;cases e) (fun b ps e=>?_) (fun m hm=>?_) (fun b o e=>?_) I.bare
   .rw[eo b (fun z=>by rw[z,hP] at n;cases n) (ba (bi (gZ b o e) J8)) (ba (bi (gZ b o e) (aX J8 (jO dZ))))];exact n
   .by_cases hb:b=P
    .exact⟨_,by rw[hb];exact bw _ VV⟩
    .exact⟨o,J9 b o hb e⟩
   .by_cases hb:b=P
    .rw[hb] at e |-;rw[hP] at e;cases e;exact⟨#[rawInt lp.line,rawInt lp.col,.ref c'],by rw[eP];simp⟩
    .exact⟨#[],by rw[fP b _ e hb];simp⟩
   .exact(hm.extBut hx hPL).push _
   .by_cases hbf:b=h'.objs.size
    .subst hbf;rw[ef] at e;cases e;exact CV ⟨cX,_,yu,c1,c2,b_ _ rfl⟩
    .by_cases Xg:b=c'
     .subst Xg;rw[ec] at e;cases e;refine GA ?_;obtain⟨c₂,oc,vs,t,e2,VI,r⟩:=Xw;exact⟨c₂,oc,vs,t,e2,bw _ VI,r⟩
     .by_cases Xx:b=P
      .subst Xx;rw[eP] at e;cases e;exact bw _ VV
      .rw[eo b Xx Xg hbf] at e;refine(I.ce b o e).jf (fun d u hd q=>J9 d u ?_ q) (fun d q=>fP d _ q fun z=>by rw[z,hP] at q;cases q) fun d xs q=>fP d _ q fun z=>by rw[z,hP] at q;cases q
       rintro rfl;rcases hd with z|z
       .exact Xx z.symm
       .rw[hP] at z;cases z
  exact⟨.ref h'.objs.size,H2,I2,rfl,h _ c' H2 (.inr ⟨c',eP,ec⟩) fP ec ef⟩
 .-- again
  have SF:s.heap.get? P=some (PySem.W.tabObj #[rawInt lp.line,rawInt lp.col,.ref c']):=I.ce P _ hP;refine PySem.W.kla_makeFunctionHit (mg:=X.mg) ecl I.ok.glob I.Mt C.code (C.hd.keeps I.bk) SF yv Er (C.at I hP) fun yu h' tk hk J8=>?_;have nf:H h'.objs.size=none:=I.ce.fresh J8
  let H2:Hp:=upd H h'.objs.size (uA h'.objs.size (X.env.qual++"<lambda>") params body scope X.env.cells c')
  have ef:H2 h'.objs.size=some (uA h'.objs.size (X.env.qual++"<lambda>") params body scope X.env.cells c'):=ae;have fP:∀b o,H b=some o->H2 b=some o:=fun b o e=>by
   show upd _ _ _ _=_;rw[ap (am e nf)];exact e
  have J9:∀b o,s.heap.get? b=some o->(h'.push (PySem.W.kla_obj "<lambda>" (X.env.qual++"<lambda>") params body scope cX ((X.mg "__name__").getD .none) c' yu)).get? b=some o:=fun b o e=>bw _ (hk b o e);have I2:aS X af σ H2 { s with heap:=h'.push (PySem.W.kla_obj "<lambda>" (X.env.qual++"<lambda>") params body scope cX ((X.mg "__name__").getD .none) c' yu),toks:=tk }:=by
   refine I.step (g':=s.gens) (d':=s.drawn) (ch:=[]) (fun _ z=>absurd z (by simp)) (fun b o _ _ _ e n=>J9 b o e) (fun b o _ _ _ e n=>⟨o.slots,J9 b o e⟩)
    (fun b o _ e n=>?_) (fun b o _ e=>⟨o,J9 b o e⟩) (fun b xs e=>fP b _ e) (fun b o u e=>fP b _ e) (fun b ps e=>⟨#[],by rw[fP b _ e];simp⟩) (fun m hm=>(hm.keeps hk).push _) (I.ce.laid J9 J8 (CV ⟨cX,_,yu,c1,c2,b_ _ rfl⟩)) I.bare
   .show upd _ _ _ _=_;rw[ap (ba (bi (gZ b o e) J8))];exact n
  exact⟨.ref h'.objs.size,H2,I2,rfl,h _ c' H2 (.inr ⟨c',fP _ _ hP,fP _ _ xR⟩) (fun b o e _=>fP b o e) (fP _ _ xR) ef⟩
end
def Be(X:Cx)(id:String)(ks:List Str)(r:St->List V->List V->Hp->VK->Prop):Prop:=
 ∀ (af:List (Addr×Obj)) (s:Shared) (σ:St) (H:Hp) (vs zs:List V) (us ws:List Value) (Q:VK),aS X af σ H s->aZ vs us->aZ zs ws->r σ vs zs H Q->
  wpAny (model X.prog X.w) X.A (call (.builtin id) us (ks.zip ws)) (EP X af σ Q) X.xe s
def Xy(r:St->List V->List V->Hp->VK->Prop)(t tk:TA):TE:=fun σ H Q=>t σ H fun vs H1=>tk σ H1 fun zs H2=>r σ vs zs H2 Q
section
variable {X:Cx} {x:Str} {p pos:Pos} {e:Expr} {es:List Expr} {Gd:List Keyword} {t tk:TA} {id:String} {ks:List Str} {r:St->List V->List V->Hp->VK->Prop}
theorem jv(hc:Be X id ks r)(hg:Gl X x)(hm:X.mg x=none)(hv:bootBuiltins x=some (.builtin id))(ha:PA X (e::es) t)(hkw:PK X Gd tk)(hn:x≠"__name__":=by decide)(D7:(x==("__debug__":Str))=false:=by decide)(hks:(backToKw pos (keywordEach Gd X.env)).filterMap (·.1)=ks:=by rfl)(he:backTo pos (starEach (e::es) X.env)=(false,eval e X.env)::backTo pos (starEach es X.env):=by rfl)(A1:(backTo pos (starEach (e::es) X.env)).any (·.1)=false:=by rfl)(uy:(backToKw pos (keywordEach Gd X.env)).all (·.1.isSome)=true:=by rfl)(NZ:(backToKw pos (keywordEach Gd X.env)).any (·.1.isNone)=false:=by rfl):PE X (.Call (.Name x p) (e::es) Gd pos) (Xy r t tk):=by
 intro af s σ H Q I h;refine mm (iC I hg hm hv ?_ hn D7);refine PyProof.Rows.callWith_kw (dF (ha pos af s σ H _ I h) fun us s1 ⟨vs,H1,I1,r1,q1⟩=>?_) he A1 uy NZ;refine dF (hkw pos af s1 σ H1 _ I1 q1) fun ws s2 ⟨zs,H2,I2,rz,q2⟩=>?_;rw[hks];exact hc af s2 σ H2 vs zs us ws Q I2 r1 rz q2
end
def N6(za zb:Int)(ns out:List Int):Prop:=∃ps:List (Int×Int),ps.Perm (ns.map fun z=>((z-za) % zb,z))/\out=ps.map (·.2)/\ps.Pairwise fun p q=>p.1<=q.1
def N7(X:Cx)(qual:Str)(params:Arguments)(body:Expr)(scope:Scope)(ia ib:Nat):St->List V->List V->Hp->VK->Prop:=fun σ vs zs H Q=>
 ∃ (l f c:Addr) (ns:List Int) (za zb:Int),vs=[.ref l]/\zs=[.ref f]/\aW X.K H l (ns.map V.int)/\ns.length<64/\H f=some (uA f qual params body scope X.env.cells c)/\H c=some (nM c qual)/\
  σ[ia]?=some (some (.int za))/\σ[ib]?=some (some (.int zb))/\0<zb/\∀ (r:Addr) (out:List Int),H r=none->N6 za zb ns out->Q (.ref r) (upd H r (.lst (out.map V.int)))
theorem vg:∀ {ns:List Int} {vs:List Value},aZ (ns.map V.int) vs->IntsAre vs ns
 |[],_,.nil=>.nil
 |_::_,_,.cons ⟨t,e⟩ r=>by subst e;exact .cons _ t (vg r)
structure SG(X:Cx)(qual:Str)(params:Arguments)(body:Expr)(scope:Scope)(y a b:Str)(ia ib:Nat):Prop where
 bd:∃p1 p2 p3 p4 p5,body=.BinOp (.BinOp (.Name y p1) .Sub (.Name a p2) p3) .Mod (.Name b p4) p5
 bind:∀cX pm c yu v,bindArgs (PySem.W.kla_fn "<lambda>" qual params body scope cX pm (.ref c) yu) ⟨[v],[]⟩=pure [(y,v)]
 na:X.N[ia]?=some a
 nb:X.N[ib]?=some b
 ca:X.env.scope.names.lookup a=some .cell
 cb:X.env.scope.names.lookup b=some .cell
 ly:scope.names.lookup y=some .local
 fa:scope.names.lookup a=some .free
 fb:scope.names.lookup b=some .free
 ma:(a,NameKind.free)∈scope.names
 mb:(b,NameKind.free)∈scope.names
 wM:∀z∈scope.names,z.2≠.cell
 kind:scope.kind=.function
 co:scope.isCoroutine=false
 gen:scope.isGenerator=false
 dy:(y==("__debug__":Str))=false
 da:(a==("__debug__":Str))=false/\(a==("__classdict__":Str))=false
 db:(b==("__debug__":Str))=false/\(b==("__classdict__":Str))=false
theorem Bg(S:SG X qual params body scope y a b ia ib)(hr:cg k X.A):
  Be X "sorted" ["key"] (N7 X qual params body scope ia ib):=by
 intro af s σ H vs zs us ws Q I r rz h;obtain⟨l,f,c,ns,za,zb,rfl,rfl,hl,Js,hf,hc,sa,sb,hb0,q⟩:=h;obtain⟨u1,rfl,r1⟩:=r.one;obtain rfl:u1=Value.ref l:=r1;obtain⟨w1,rfl,Xz⟩:=rz.one;obtain rfl:w1=Value.ref f:=Xz;obtain⟨its,rv,pl,hz⟩:=I.list hl;have hI:=vg rv;obtain⟨m,F⟩:=I.fr;obtain⟨p1,p2,p3,p4,p5,rfl⟩:=S.bd;obtain⟨cX,pm,yu,c1,c2,NO⟩:=(I.ce f _ hf).1;have XA:s.heap.CodeRec (.ref c) qual:=(I.ce c _ hc).1;obtain⟨m',RB,hlk⟩:=I.loc;have SH:∃ca ta,cX.lookup a=some ca/\s.heap.IsCell ca (some (.int za ta)):=by
  obtain⟨u,⟨ta,rfl⟩,lk⟩:=hlk ia a (.int za) S.na sa (.inr (.inl S.ca));obtain⟨ca,e1⟩:=c2 a S.ma;rcases lk with ⟨z,_⟩|⟨_,ca',e2,e3⟩
  .have z':X.env.scope.names.lookup a=some .local:=z;rw[S.ca] at z';cases z'
  .have e4:=c1 a ca e1;rw[e2] at e4;cases e4;exact⟨ca,ta,e1,e3⟩
 have SI:∃cb tb,cX.lookup b=some cb/\s.heap.IsCell cb (some (.int zb tb)):=by
  obtain⟨u,⟨tb,rfl⟩,lk⟩:=hlk ib b (.int zb) S.nb sb (.inr (.inl S.cb));obtain⟨cb,e1⟩:=c2 b S.mb;rcases lk with ⟨z,_⟩|⟨_,cb',e2,e3⟩
  .have z':X.env.scope.names.lookup b=some .local:=z;rw[S.cb] at z';cases z'
  .have e4:=c1 b cb e1;rw[e2] at e4;cases e4;exact⟨cb,tb,e1,e3⟩
 obtain⟨ca,ta,ea,ha⟩:=SH;obtain⟨cb,tb,eb,hb⟩:=SI;have VW:∀b' (o:Obj),s.heap.get? b'=some o->(∀es ep,o.data≠.dict es ep)->b'≠X.env.locals:=fun b' o e d z=>by
  obtain⟨o',es,ep,e',d',_⟩:=F.ns;rw[z,e'] at e;cases e;exact d _ _ d'
 have len:(ns.map fun z=>(z-za) % zb).length=its.length:=by rw[aT,hI.length]
 refine ksk_sorted (b:=false) (f:=.ref f) (kz:=ns.map fun z=>(z-za) % zb) F FS pl.isList len (by rw[hI.length];exact Js) (ksk_s1 _ _) (fun x=>ksk_l1 _ _) (fun x=>ksk_t1 _ _) ?_ ?_
 .-- one key
  intro i v k hv hk h tk own F' N';have at_:∀b' u,b'≠X.env.locals->s.heap.get? b'=some u->h.get? b'=some u:=fun b' u lS e=>by
   cases z:X.base.get? b' with
   |some o=>
    have:=I.bk b' o z;rw[e] at this;cases this;exact F'.keep b' _ z
   |none=>exact(N' (b',u) (ft _ (kY lS z e))).1
  have XB:=at_ f _ (VW f _ NO (by intro es ep z;cases z)) NO;have XC:h.CodeRec (.ref c) qual:=by
   obtain⟨c0,o,vs0,t0,e0,ho,hd,hv0⟩:=XA;refine⟨c0,o,vs0,t0,e0,at_ _ _ (VW _ _ ho (by rw[hd];intro es ep z;cases z)) ho,hd,hv0⟩
  have NN:h.IsCell ca (some (.int za ta)):=by
   obtain⟨o,ho,hd⟩:=ha;exact⟨o,at_ _ _ (VW _ _ ho (by rw[hd];intro es ep z;cases z)) ho,hd⟩
  have q8:h.IsCell cb (some (.int zb tb)):=by
   obtain⟨o,ho,hd⟩:=hb;exact⟨o,at_ _ _ (VW _ _ ho (by rw[hd];intro es ep z;cases z)) ho,hd⟩
  obtain⟨z,tz,rfl,rfl⟩:∃z tz,v=.int z tz/\k=(z-za) % zb:=by
   obtain⟨n,t,e⟩:=hI.all v (cU hv);refine⟨n,t,e,?_⟩;rw[bU] at hk;have hn:=hI.nums;have e1:(its.map numOf)[i]?=some n:=by rw[bU,hv,e];rfl
   rw[hn] at e1;rw[e1] at hk;exact(bN hk).symm
  have GB:X.A.in1.in1.depth<recursionLimit:=by
   have:=hr.dp;show X.A.depth<_;lia
  refine pF (PySem.W.kla_callFunE GB XB rfl S.co S.gen rfl XC ?_);rw[S.bind];refine wpAny_pure (wpAny_newFunctionEnv S.wM (fun x hx=>by rw[cu.mp hx];exact S.ly) (fun h₁ yw SJ=>⟨((I.ok.mod.nolimit).keeps F'.keep).fresh _ SJ,?_⟩) S.kind);have N8:∀b o,h.get? b=some o->h₁.get? b=some o:=fun b o e=>SJ.extBut b o (ba (aP e)) (bw _ e);have ha₁:=NN.keeps N8;have hb₁:=q8.keeps N8;refine PySem.W.kla_codeExpr ?_;refine wpAny_BinOp (wpAny_BinOp ?_);refine pG (Ao S.kind S.ly yw (v:=.int z tz) (by simp) ?_) S.dy;refine pG (At S.kind S.fa ea ha₁ ?_ S.da.2) S.da.1;refine sub_int ?_;refine pG (At S.kind S.fb eb hb₁ ?_ S.db.2) S.db.1;refine mod_int' (by lia) ?_;rw[zX _ (by lia)];refine KskEnd.intro (news':=jR X.base s.heap X.env.locals++own) ⟨F'.ns.keeps N8,fun b o e=>N8 b o (F'.keep b o e),F'.above⟩ (fun p hp=>⟨N8 _ _ (N' p hp).1,(N' p hp).2⟩) fun p hp=>hp
 .-- the list
  intro D h' tk out cc F' N' dZ XD;have hD:=uz I N' dZ;obtain⟨ps,hp,ho,hs⟩:=XD;have A4:∀p∈ps,∃n t,p.2=.int n t:=fun p QS=>by
   have:=hp.mem_iff.mp QS;exact hI.all _ (mx this).2
  have hz':((ns.map fun z=>(z-za) % zb).zip its).map (fun p=>(p.1,numOf p.2))=ns.map fun z=>((z-za) % zb,z):=by
   have hn:=hI.nums;rw[<-hn];have go:∀ (l:List Value),((((l.map numOf).map fun z=>(z-za) % zb).zip l).map fun p=>(p.1,numOf p.2))=(l.map numOf).map fun z=>((z-za) % zb,z):=by
    intro l;induction l with
    |nil=>rfl
    |cons x l ih=>simp only[fv,List.zip_cons_cons,ih]
   exact go its
  have Gi:aZ ((ps.map fun p=>(p.1,numOf p.2)).map (fun p=>V.int p.2)) (ps.map Prod.snd):=by
   have go:∀ (l:List (Int×Value)),(∀p∈l,∃n t,p.2=.int n t)->aZ ((l.map fun p=>(p.1,numOf p.2)).map (fun p=>V.int p.2)) (l.map Prod.snd):=by
    intro l;induction l with
    |nil=>intro _;exact .nil
    |cons x l ih=>
     intro hx;refine .cons ?_ (ih fun p hp=>hx p (cD _ hp));obtain⟨n,t,e⟩:=hx x bR;show ∃t,x.2=Value.int (numOf x.2) t;rw[e];exact⟨t,rfl⟩
   exact go ps A4
  have yx:N6 za zb ns ((ps.map fun p=>(p.1,numOf p.2)).map (·.2)):=by
   refine⟨ps.map fun p=>(p.1,numOf p.2),?_,rfl,?_⟩
   .rw[<-hz'];exact hp.map _
   .refine fu.mpr (hs.imp fun {p q} z=>?_);simpa using z
  have hDo:h'.get? D=some (seqObj "list" out cc):=(N' _ bR).1;have I2:aS X af σ (upd H D (.lst (((ps.map fun p=>(p.1,numOf p.2)).map (·.2)).map V.int))) { s with heap:=h',toks:=tk }:=by
   refine I.Su F F' (fun p hp=>N' p (cD _ hp)) hD ⟨?_,ps.map Prod.snd,cc,?_,?_⟩
   .have h1:=hp.length_eq;rw[pf,len,sj] at h1;simp only[aT];rw[h1,hI.length];exact aX (jO Js) (by decide)
   .have ev:=Gi;simp only[dk] at ev |-;exact ev
   .rw[hDo,<-ho]
  exact⟨.ref D,_,I2,rfl,q D _ (I.ce.s_ hD) yx⟩
def pU(mg:Str->Option Value)(base:Heap):Prop:=∃bm o,mg "__builtins__"=some (.ref bm)/\bm≠builtinsNs/\bm≠mainGlobals/\base.get? bm=some o/\o.cls=.type "module"/\o.dict=some builtinsNs/\o.data=.plain
def CW(ts:List Addr)(H:Hp):Prop:=(∀P∈ts,H P=some (.iR #[]))/\∀b,H b=none\/(b∈ts/\H b=some (.iR #[]))\/∃o xs,H b=some (.xI o (.lst xs))
theorem Es{P:Program}{w:World}{K:PySem.W.Frag}{mg mb:Str->Option Value}{CX:zN}{k:Nat}{fa a:Addr}{fd:FuncData}{x:Str}{sp:Sp}{s₁:Shared}{vs:List Value}{ns:List Int}{ts:List Addr}(KX:K.In s₁.heap)(yw:s₁.heap.Ns mainGlobals mg)(hb:s₁.heap.Ns builtinsNs mb)(hbb:∀x:Str,x≠"__name__"->mb x=bootBuiltins x)(XE:s₁.heap.NoLimit)(hg:s₁.gens=#[])(hbm:pU mg s₁.heap)(SL:∀P∈ts,s₁.heap.get? P=some (PySem.W.tabObj #[]))(uR:∀P∈ts,∃c,PySem.W.codeHdIn K c P=true)(XF:∀P∈ts,K.lookup P=none)(ha:s₁.heap.get? a=some { cls:=.type "list",data:=.seq vs.toArray })(hi:IntsAre vs ns)(hl:ns.length<=sizeLine)(hr:cg k callerA)(F:∀base:Heap,K.In base->base.Ns mainGlobals mg->pU mg base->bA P w K mg base CX k fa fd [x] sp)(SN:∀ (s:Shared) (u:Value),BindsTo s fd ⟨[u],[]⟩ [(x,u)])(Jq:∀H:Hp,CW ts H->aW K H a (ns.map V.int)->sp [.ref a] H (fun v _=>v=.bl true) fun _ _ _=>False)(XG:∀H e s',CX [] H s₁ (fun _ _ _=>False) e s'->False):
  codeAny (model P w) callerA (.call (.ref fa) ⟨[.ref a],[]⟩) (fun r s'=>r=.ok (.ret (.bool true))/\OldK s₁.heap s'.heap/\s'.os=s₁.os/\AllBare s'.gens) s₁:=by
 have rv:=u_ hi;have XH:=hi.length;have hat:a∉ts:=fun z=>by
  have:=SL a z;rw[ha] at this;cases this
 have SO:∀H:Hp,CW ts H->aW K H a (ns.map V.int)->mE P w H s₁.heap->(∀b,H b≠none->b=a\/b∈ts)->(H a≠none->K.lookup a=none)->
   codeAny (model P w) callerA (.call (.ref fa) ⟨[.ref a],[]⟩) (fun r s'=>r=.ok (.ret (.bool true))/\OldK s₁.heap s'.heap/\s'.os=s₁.os/\AllBare s'.gens) s₁:=by
  intro H hO hS ce hA hK;have wN:∀ {b:Addr} {o:Obj},s₁.heap.get? b=some o->H b=none->(uk s₁.heap H).get? b=some o:=fun e n=>FR e n;have QP:∀ {b:Addr} {o:Obj},s₁.heap.get? b=some o->(∀v n,o.data≠.seq v n)->(∀v,o.data≠.fields v)->H b=none:=fun {b o} e d1 d2=>by
   cases q:H b with
   |none=>rfl
   |some u=>
    rcases hA b (by rw[q];simp) with e'|e'
    .subst e';rw[ha] at e;cases e;exact absurd rfl (d1 _ _)
    .rw[SL b e'] at e;cases e;exact absurd rfl (d2 _)
  have VX:∀ {b:Addr} {m:Str->Option Value},s₁.heap.Ns b m->(uk s₁.heap H).Ns b m:=fun {b m} ⟨o,es,ep,e,d,r⟩=>⟨o,es,ep,wN e (QP e (by rw[d];intro v n z;cases z) (by rw[d];intro v z;cases z)),d,r⟩
  have hKb:K.In (uk s₁.heap H):=fun b o e=>wN (KX b o e) (by
   cases q:H b with
   |none=>rfl
   |some u=>
    rcases hA b (by rw[q];simp) with e'|e'
    .subst e';rw[hK (by rw[q];simp)] at e;cases e
    .rw[XF b e'] at e;cases e)
  have hB:pU mg (uk s₁.heap H):=by
   obtain⟨bm,o,b1,b2,b3,b4,b5,b6,b7⟩:=hbm;exact⟨bm,o,b1,b2,b3,wN b4 (QP b4 (by rw[b7];intro v n z;cases z) (by rw[b7];intro v z;cases z)),b5,b6,b7⟩
  have hM:Mod K mg (uk s₁.heap H):=⟨hKb,VX yw,⟨mb,VX hb,hbb⟩,let ⟨mc,h1,h2⟩:=XE;⟨mc,VX h1,h2⟩⟩
  have e0:AY P w K mg (uk s₁.heap H) callerA [] s₁ H:=⟨rfl,hM,fun b o e=>JC e,pB (DV _ _),trivial,fun b hb=>absurd (show b∈([]:List Addr) from hb) (by simp),ce,.of_eq hg⟩
  refine pE ((F _ hKb (VX yw) hB).run callerA [] s₁ H ⟨[.ref a],[]⟩ [.ref a] [.ref a] _ _ hr e0 (SN s₁ (.ref a)) (.cons rfl .nil) (Jq H hO hS)) fun r s' h=>?_;cases r with
  |error e=>exact(XG H e s' h).elim
  |ok fl=>
   cases fl with
   |next=>exact False.elim h
   |brk=>exact False.elim h
   |cont=>exact False.elim h
   |ret u=>
    obtain⟨v,H',os,bare,un,SS,r',q⟩:=h;have q':v=.bl true:=q;subst q';obtain rfl:u=Value.bool true:=r';refine⟨rfl,⟨fun b o e=>?_,fun b o e=>un.there b o e (by simp)⟩,os,bare⟩;cases q:H b with
    |none=>exact .inl (un.keep b o e q (by intro z;exact absurd (show b∈([]:List Addr) from z) (by simp)) (by simp))
    |some u=>
     rcases hO.2 b with z|⟨zt,z⟩|⟨ob,xs,z⟩
     .rw[q] at z;cases z
     .obtain⟨more,z2⟩:=un.we b _ z;have e1:=SL b zt;rw[e] at e1;cases e1;have e2:s'.heap.get? b=some { cls:=.none,data:=.fields (#[]++more) }:=SS b _ z2;obtain⟨c,hc⟩:=uR b zt;obtain⟨oc,vsc,_,_,_,_,_,_,_,g1,g2,g3,g4,_⟩:=PySem.W.codeHd_of_K KX hc;exact .inr (.inl ⟨⟨c,oc,vsc,g1,g2,g3,g4⟩,rfl,#[],more,rfl,e2⟩)
     .have z2:=un.wd b ob _ z;obtain⟨e1,_⟩:=ce b _ z;obtain⟨e2,_⟩:=SS b _ z2;rw[e] at e1;cases e1;exact .inl e2
 have abk:∀ (H:Hp),(∀P∈ts,H P=some (.iR #[]))->True:=fun _ _=>trivial
 classical
 cases hk:K.lookup a with
 |some o=>
  have e:=KX a o hk;rw[ha] at e;cases e;refine SO (fun b=>if b∈ts then some (.iR #[]) else none) ⟨fun P hP=>ao hP,fun b=>?_⟩ (.inr ⟨_,vs.toArray,_,hk,rfl,rfl,rfl,by rw[cz,XH];exact hl,by simpa using rv⟩) (fun b u z=>?_) (fun b z=>?_) fun z=>absurd (ak hat) z
  .by_cases hb:b∈ts
   .exact .inr (.inl ⟨hb,ao hb⟩)
   .exact .inl (ak hb)
  .by_cases hb:b∈ts
   .have z':=(ao hb).symm.trans z;cases z';exact SL b hb
   .have z':=(ak hb).symm.trans z;cases z'
  .by_cases hb:b∈ts
   .exact .inr hb
   .exact absurd (ak hb) z
 |none=>
  refine SO (fun b=>if b=a then some (.xI { cls:=.type "list",data:=.seq vs.toArray } (.lst (ns.map V.int))) else if b∈ts then some (.iR #[]) else none) ⟨fun P hP=>?_,fun b=>?_⟩ (.inl (.inr ⟨{ cls:=.type "list",data:=.seq vs.toArray },ao rfl⟩)) (fun b u z=>?_) (fun b z=>?_) fun _=>hk
  .have:P≠a:=fun z=>hat (z ▸ hP);show (if P=a then _ else if P∈ts then _ else _)=_;rw[ak this,ao hP]
  .by_cases hb:b=a
   .exact .inr (.inr ⟨_,_,ao hb⟩)
   .by_cases ht:b∈ts
    .exact .inr (.inl ⟨ht,by show (if b=a then _ else if b∈ts then _ else _)=_;rw[ak hb,ao ht]⟩)
    .exact .inl (by show (if b=a then _ else if b∈ts then _ else _)=_;rw[ak hb,ak ht])
  .by_cases hb:b=a
   .have z':=(ao hb).symm.trans z;cases z';subst hb;exact⟨ha,by rw[aT];exact hl,vs,_,rv,ha⟩
   .have z1:(if b∈ts then some (HO.iR #[]) else none)=some u:=(ak hb).symm.trans z;by_cases ht:b∈ts
    .rw[ao ht] at z1;cases z1;exact SL b ht
    .rw[ak ht] at z1;cases z1
  .by_cases hb:b=a
   .exact .inl hb
   .by_cases ht:b∈ts
    .exact .inr ht
    .exact absurd (by show (if b=a then _ else if b∈ts then _ else _)=_;rw[ak hb,ak ht]) z
theorem GD{l:PySem.W.OpenLaw}{n k:Nat}{q:Program}{u9:List Str}{XP:(Str->Option Value)->Heap->Prop}{YP:World->Heap->Prop}{d:DefRec}{K:Params->PySem.W.Frag}{CX:World->zN}{sp:World->Sp}{x:Str}{ts:List Addr}(hn:l.most=some n)(QO:n<=sizeLine)(Si:d.params.defaults=[])(hr:cg k callerA)(hY:∀ (w:World) (h:Heap),YP w h->(K w.params).In h)(hT:∀ (w:World) (h:Heap),YP w h->∀P∈ts,h.get? P=some (PySem.W.tabObj #[]))(uR:∀ (w:World),∀P∈ts,∃c,PySem.W.codeHdIn (K w.params) c P=true)(XF:∀ (w:World),∀P∈ts,(K w.params).lookup P=none)(F:∀ (w:World) (mg:Str->Option Value) (fa:Addr) (h:Heap),(K w.params).In h->h.Ns mainGlobals mg->mg d.name=some (.ref fa)->
   ∃fd:FuncData,(∀ (s:Shared) (u:Value),BindsTo s fd ⟨[u],[]⟩ [(x,u)])/\
    ∀base:Heap,(K w.params).In base->base.Ns mainGlobals mg->pU mg base->bA l.prog w (K w.params) mg base (CX w) k fa fd [x] (sp w))(Jq:∀ (w:World) (H:Hp) (a:Addr) (ns:List Int),ns.length<=n->CW ts H->aW (K w.params) H a (ns.map V.int)->sp w [.ref a] H (fun v _=>v=.bl true) fun _ _ _=>False)(XG:∀ (w:World) (H:Hp) (s:Shared) (e:Value) (s':Shared),CX w [] H s (fun _ _ _=>False) e s'->False):
  PySem.W.WalkO q u9 XP YP l.row.toRowW d [] (fun f vs=>PySem.call f vs):=by
 refine Att.yg hn Si fun w s₀ s₁ mg mb fa o pm cd nF a vs ns G Y ho hd abp Sj NM Gj eJ hg=>?_;have KX:=hY w _ Y;obtain⟨fd,hb,hF⟩:=F w mg fa _ KX G.T.g Sj;have hB:pU mg s₁.heap:=by
  obtain⟨bm,ob,b1,b2,b3,b4,b5,b6⟩:=G.T.bmain;refine⟨bm,ob,b1,b2,fun z=>?_,b3,b4,b5,b6⟩;obtain⟨o',es,ep,e,JF,_⟩:=G.T.g;rw[z,e] at b3;cases b3;rw[JF] at b6;cases b6
 exact Es KX G.T.g G.T.b G.T.builtins G.T.nolimit hg hB (hT w _ Y) (uR w) (XF w) NM Gj (aX eJ QO) hr hF hb (fun H hO hS=>Jq w H a ns eJ hO hS) fun H e s'=>XG w H s₁ e s'
structure qG(K:PySem.W.Frag)(x qual:Str)(st:Stmt)(f:Addr)(fd:FuncData)(c:Addr):Prop where
 ex:∃ (oc:Value) (od:Option Addr) (kV nF pm:Value) (an:Option Addr) (ct:Value) (zO:Array (Option Value)),
  fd=PySem.W.fnOf x qual (dI st) (bZ st) (av st) .none kV nF pm an (.ref c) ct/\K.lookup f=some ⟨oc,od,.func fd,zO⟩/\PySem.W.codeIn K (.ref c) qual=true
 kp:PySem.W.keepIn K (.ref f)=true
theorem qG.fun{K:PySem.W.Frag}{x qual:Str}{st:Stmt}{f:Addr}{fd:FuncData}{c:Addr}(F:qG K x qual st f fd c):ig K x qual st f fd:=by
 obtain⟨oc,od,kV,nF,pm,an,ct,zO,e,lk,uR⟩:=F.ex;exact⟨⟨oc,od,kV,nF,pm,an,_,ct,zO,e,lk,uR⟩,F.kp⟩
section
variable {P:Program} {w:World} {K:PySem.W.Frag} {mg:Str->Option Value} {base:Heap}
theorem qG.ok{x qual:Str}{st:Stmt}{f:Addr}{fd:FuncData}{c:Addr}{N ps:List Str}{k:Nat}{sp:Sp}(F:qG K x qual st f fd c)(S:aR N ps (av st))(len:∀vs H Q E,sp vs H Q E->vs.length=ps.length)(xZ:∀ (A:Around) (outer:List Env) (s:Shared) (H:Hp) (vs:List V) (Q:VK) (E:XK),cg k (A.deeper (envOfC qual (av st) s.heap.objs.size f (.ref c)))->sp vs H Q E->
   ∃t,AK (lc bg P w K mg base N qual (av st) f (.ref c) A outer s H E).zL (bZ st) t/\t { nx:=fun _ H'=>Q .cB H',rt:=Q } (start N vs) H):bA P w K mg base bg (k+1) f fd ps sp:=by
 obtain⟨oc,od,kV,nF,pm,an,ct,zO,rfl,lk,uR⟩:=F.ex;refine Ml lk uR S len fun A outer s H vs Q E hr Jq=>?_;obtain⟨t,h,q⟩:=xZ A outer s H vs Q E hr Jq;exact⟨t,h.zL,q⟩
theorem CY{x qual:Str}{st:Stmt}{f c:Addr}{oc:Value}{od an:Option Addr}{zO:Array (Option Value)}{kV nF pm ct:Value}(l:K.lookup f=some ⟨oc,od,.func (PySem.W.fnOf x qual (dI st) (bZ st) (av st) .none kV nF pm an (.ref c) ct),zO⟩)(uR:PySem.W.codeIn K (.ref c) qual=true)(kp:PySem.W.keepIn K (.ref f)=true):qG K x qual st f (PySem.W.fnOf x qual (dI st) (bZ st) (av st) .none kV nF pm an (.ref c) ct) c:=⟨⟨oc,od,kV,nF,pm,an,ct,zO,rfl,l,uR⟩,kp⟩
theorem nN(kb:K.In base)(hb:pU mg base)(hc:PySem.W.codeHdIn K c P'=true):
  J7 (lc CX P w K mg base N qual scope f (.ref c) A outer s H E).zL c P':=⟨rfl,PySem.W.codeHd_of_K kb hc,hb⟩
end
def q9(sc XI:Scope)(y:Str×NameKind):Bool:=match y.2 with
 |.cell=>(match sc.names.lookup y.1 with|some .cell=>true|_=>false)
 |.local=>(match sc.names.lookup y.1 with|some .local=>true|_=>false)
 |.free=>(match XI.names.lookup y.1 with|some .cell=>true|some .free=>true|_=>false)
 |_=>true
def GE(NB:List Str)(src:List (Option Nat))(sc:Scope)(N:List Str)(i:Nat):Bool:=match NB[i]?,src[i]? with
 |some x,some (some j)=>(N[j]?==some x)&&(match sc.names.lookup x with|some .free=>true|_=>false)
 |_,_=>true
def CZ(sc:Scope):Bool:=match sc.kind with|.function=>true|_=>false
def GJ(NB:List Str)(src:List (Option Nat))(sc XI:Scope)(N:List Str):Bool:=
 CZ sc&&decide NB.Nodup&&(src.length==NB.length)&&(sc.names.all (q9 sc XI))&&(List.range NB.length).all (GE NB src sc N)
theorem bp(h:GJ NB src sc X.env.scope X.N=true):g7 NB src sc X:=by
 unfold GJ at h;simp only[fU,rR,fj,i_] at h;obtain⟨⟨⟨⟨h1,h2⟩,h3⟩,h4⟩,h5⟩:=h;refine⟨?_,h2,h3,fun y hy z=>?_,fun y hy z=>?_,fun y hy z=>?_,fun i x j e1 e2=>?_⟩
 .unfold CZ at h1;split at h1
  .assumption
  .cases h1
 .have:=h4 y hy;obtain⟨n,k⟩:=y;obtain rfl:k=.cell:=z;dsimp only[q9] at this |-;split at this
  .assumption
  .cases this
 .have:=h4 y hy;obtain⟨n,k⟩:=y;obtain rfl:k=.local:=z;dsimp only[q9] at this |-;split at this
  .assumption
  .cases this
 .have:=h4 y hy;obtain⟨n,k⟩:=y;obtain rfl:k=.free:=z;dsimp only[q9] at this |-;split at this
  .exact .inl (by assumption)
  .exact .inr (by assumption)
  .cases this
 .have hi:i<NB.length:=(b9.mp e1).1;have:=h5 i (bD.mpr hi);unfold GE at this;rw[e1,e2] at this;simp only[fU,fj] at this;refine⟨this.1,?_⟩;have t2:=this.2;split at t2
  .assumption
  .cases t2
theorem eZ{K:PySem.W.Frag}{a D:Addr}{xs:List V}{g:TG}{tt:TT}{te:TE}{dQ:Hp->Prop}{σB:St}{H0:Hp}(Pv:Nat->List V->St->Hp->Prop)(h0:Pv 0 [] σB H0)(hl:∀i ys σ H,i<=xs.length->Pv i ys σ H->aW K H a xs)(hs:∀i x ys σ H (Kt:V->St->Hp->Prop) (Kf:St->Hp->Prop),xs[i]?=some x->Pv i ys σ H->
   (∀v σ2 H4,H4 D=some (.lst ys)->ys.length<sizeLine->Pv (i+1) (ys++[v]) σ2 (upd H4 D (.lst (ys++[v])))->Kt v σ2 H4)->(∀σ2 H3,Pv (i+1) ys σ2 H3->Kf σ2 H3)->
   g x σ H fun σ2 H2=>tt σ2 H2 fun b H3=>if b=true then te σ2 H3 fun v H4=>Kt v σ2 H4 else Kf σ2 H3)(hd:∀ys σ H,Pv xs.length ys σ H->dQ H):ii (FZ K a) g tt te D dQ σB H0:=by
 refine⟨fun i m σ H=>m=xs.length-i/\i<=xs.length/\∃ys,Pv i ys σ H,⟨xs.length,by simp,bE _,[],h0⟩,?_⟩;rintro i m σ H ⟨rfl,hi,ys,p⟩;have q:=hl i ys σ H hi p;by_cases dZ:i<xs.length
 .refine .inr ⟨⟨xs,xs[i],q,by simp[dZ]⟩,?_⟩;rintro x H' ⟨rfl,y⟩;exact hs i x ys σ _ (fun v σ2 H4=>∃ys,H4 D=some (.lst ys)/\ys.length<sizeLine/\∃m',m'<xs.length-i/\m'=xs.length-(i+1)/\i+1<=xs.length/\∃uB,Pv (i+1) uB σ2 (upd H4 D (.lst (ys++[v]))))
   (fun σ2 H3=>∃m',m'<xs.length-i/\m'=xs.length-(i+1)/\i+1<=xs.length/\∃uB,Pv (i+1) uB σ2 H3) (y xs q) p
   (fun v σ2 H4 z1 z2 z3=>⟨ys,z1,z2,_,by lia,rfl,dZ,_,z3⟩) (fun σ2 H3 z=>⟨_,by lia,rfl,dZ,_,z⟩)
 .have e:i=xs.length:=by lia
  subst e;exact .inl ⟨⟨xs,q,aK _⟩,hd ys σ H p⟩
theorem eR{lo:Int}{n:Nat}{D:Addr}{g:TG}{tt:TT}{te:TE}{dQ:Hp->Prop}{σB:St}{H0:Hp}(Pv:Nat->List V->St->Hp->Prop)(h0:Pv 0 [] σB H0)(hs:∀i ys σ H (Kt:V->St->Hp->Prop) (Kf:St->Hp->Prop),i<n->Pv i ys σ H->
   (∀v σ2 H4,H4 D=some (.lst ys)->ys.length<sizeLine->Pv (i+1) (ys++[v]) σ2 (upd H4 D (.lst (ys++[v])))->Kt v σ2 H4)->(∀σ2 H3,Pv (i+1) ys σ2 H3->Kf σ2 H3)->
   g (.int (lo+i)) σ H fun σ2 H2=>tt σ2 H2 fun b H3=>if b=true then te σ2 H3 fun v H4=>Kt v σ2 H4 else Kf σ2 H3)(hd:∀ys σ H,Pv n ys σ H->dQ H):ii (Fl lo n) g tt te D dQ σB H0:=by
 refine⟨fun i m σ H=>m=n-i/\i<=n/\∃ys,Pv i ys σ H,⟨n,by simp,bE _,[],h0⟩,?_⟩;rintro i m σ H ⟨rfl,hi,ys,p⟩;by_cases dZ:i<n
 .refine .inr ⟨dZ,?_⟩;rintro x H' ⟨rfl,rfl⟩;exact hs i ys σ _ (fun v σ2 H4=>∃ys,H4 D=some (.lst ys)/\ys.length<sizeLine/\∃m',m'<n-i/\m'=n-(i+1)/\i+1<=n/\∃uB,Pv (i+1) uB σ2 (upd H4 D (.lst (ys++[v]))))
   (fun σ2 H3=>∃m',m'<n-i/\m'=n-(i+1)/\i+1<=n/\∃uB,Pv (i+1) uB σ2 H3) dZ p
   (fun v σ2 H4 z1 z2 z3=>⟨ys,z1,z2,_,by lia,rfl,dZ,_,z3⟩) (fun σ2 H3 z=>⟨_,by lia,rfl,dZ,_,z⟩)
 .have e:i=n:=by lia
  subst e;exact .inl ⟨aK _,hd ys σ H p⟩
section
variable {κ:Type} [DecidableEq κ]
def ip(dq:List (κ×V))(k:κ):Option V:=(dq.find? fun kv=>decide (kv.1=k)).map (·.2)
def tw(dq:List (κ×V))(k:κ)(v:V):List (κ×V):=
 if (dq.any fun kv=>decide (kv.1=k))=true then dq.map (fun kv=>if kv.1=k then (kv.1,v) else kv) else dq++[(k,v)]
theorem eS{p:κ×V}{r:List (κ×V)}{k:κ}(e:p.1=k):ip (p::r) k=some p.2:=by simp[ip,kO,e]
theorem eT{p:κ×V}{r:List (κ×V)}{k:κ}(e:¬ p.1=k):ip (p::r) k=ip r k:=by simp[ip,kO,e]
theorem nQ(k:κ):∀dq:List (κ×V),(dq.any fun kv=>decide (kv.1=k))=(ip dq k).isSome
 |[]=>rfl
 |p::r=>by
  rw[jM];by_cases e:p.1=k
  .simp only[eS e,ie e,Bool.true_or,Option.isSome_some]
  .rw[eT e,gw e,Bool.false_or];exact nQ k r
theorem yy(k j:κ)(y:V):∀dq:List (κ×V),ip (dq.map fun kv=>if kv.1=k then (kv.1,y) else kv) j=(ip dq j).map fun x=>if j=k then y else x
 |[]=>rfl
 |p::r=>by
  have ih:=yy k j y r;rw[fv];by_cases h:p.1=k
  .rw[ao h];by_cases e:p.1=j
   .rw[eS (p:=(p.1,y)) e,eS e,rZ,ao (e.symm.trans h)]
   .rw[eT (p:=(p.1,y)) e,eT e,ih]
  .rw[ak h];by_cases e:p.1=j
   .rw[eS (p:=p) e,eS e,rZ,ak (fun z=>h (e.trans z))]
   .rw[eT (p:=p) e,eT e,ih]
theorem vh(k j:κ)(y:V):∀dq:List (κ×V),ip dq k=none->ip (dq++[(k,y)]) j=if j=k then some y else ip dq j
 |[],_=>by
  by_cases e:k=j
  .rw[ao e.symm];exact eS (p:=(k,y)) e
  .rw[ak (fun z=>e z.symm)];exact eT (p:=(k,y)) e
 |p::r,hn=>by
  rw[List.cons_append];have hk:¬ p.1=k:=fun z=>by rw[eS z] at hn;cases hn
  rw[eT hk] at hn;have ih:=vh k j y r hn;by_cases e:p.1=j
  .rw[eS e,eS e,ak (fun z=>hk (e.trans z))]
  .rw[eT e,eT e,ih]
theorem GK(dq:List (κ×V))(k j:κ)(y:V):ip (tw dq k y) j=if j=k then some y else ip dq j:=by
 unfold tw;by_cases a:(dq.any fun kv=>decide (kv.1=k))=true
 .rw[ao a,yy];rw[nQ] at a;by_cases e:j=k
  .obtain⟨x,hx⟩:=vK.mp a;rw[ao e,e,hx,rZ,ao rfl]
  .rw[ak e];cases ip dq j with
   |none=>rfl
   |some x=>rw[rZ,ak e]
 .rw[ak a];refine vh k j y dq ?_;rw[nQ] at a;cases q:ip dq k with
  |none=>rfl
  |some x=>rw[q] at a;exact(a rfl).elim
theorem yz(dq:List (κ×V))(k:κ)(v:V):(tw dq k v).length<=dq.length+1:=by
 unfold tw;split
 .rw[aT];lia
 .rw[dh,eF,List.length_nil];lia
theorem nr.pV(r:nr o u):o.isSome=u.isSome:=by
 cases o with
 |none=>cases u with
  |none=>rfl
  |some _=>exact(show False from r).elim
 |some _=>cases u with
  |none=>exact(show False from r).elim
  |some _=>rfl
theorem KV.val{dq:List (κ×V)}{vs:List (κ×Value)}(r:KV dq vs)(k:κ):nr (ip dq k) (valueAt vs k):=by
 unfold KV at r;induction r with
 |nil=>exact True.intro
 |@cons p q ps qs h t ih=>
  obtain⟨h1,h2⟩:=h;by_cases e:p.1=k
  .have e':q.1=k:=h1.symm.trans e;have b:valueAt (q::qs) k=some q.2:=by simp[valueAt,kO,e']
   rw[eS e,b];exact h2
  .have e':¬ q.1=k:=fun z=>e (h1.trans z);have b:valueAt (q::qs) k=valueAt qs k:=by simp[valueAt,kO,e']
   rw[eT e,b];exact ih
end
theorem Mu(r:bH (kV k) u):(cp P w).is k u=true:=by
 cases k with
 |inl i=>obtain⟨t,e⟩:=(show ∃t,u=Value.int i t from r);subst e;exact xO P w i t
 |inr x=>obtain⟨t,e⟩:=(show ∃t,u=Value.str x t from r);subst e;exact xP P w x t
theorem vi:∀ {ks:List io} {us:List Value},aZ (ks.map kV) us->ItemsAre (cp P w) ks us
 |[],_,r=>by rw[List.map_nil] at r;cases r;exact .nil
 |k::ks,_,r=>by
  rw[fv] at r;cases r with
  |cons h t=>exact .cons (Mu h) (vi t)
abbrev KT(H:Hp):List (List io×V)->List (List io×Addr×Value)->Prop:=Paired fun p q=>p.1=q.1/\H q.2.1=some (.tup (p.1.map kV))/\bH p.2 q.2.2
theorem KT.val{H:Hp}{dq:List (List io×V)}{xs:List (List io×Addr×Value)}(r:KT H dq xs)(k:List io):nr (ip dq k) ((atKey xs k).map (·.2)):=by
 induction r with
 |nil=>exact True.intro
 |@cons p q ps qs h t ih=>
  obtain⟨h1,_,h2⟩:=h;by_cases e:p.1=k
  .have e':q.1=k:=h1.symm.trans e;have b:atKey (q::qs) k=some q.2:=by simp[atKey,kO,e']
   rw[eS e,b];exact h2
  .have e':¬ q.1=k:=fun z=>e (h1.trans z);have b:atKey (q::qs) k=atKey qs k:=by simp[atKey,kO,e']
   rw[eT e,b];exact ih
theorem KT.XJ(r:KT H dq xs)(k:List io)(ry:bH y u):
  KT H (dq.map fun kv=>if kv.1=k then (kv.1,y) else kv) (xs.map (putAt k u)):=by
 induction r with
 |nil=>exact .nil
 |@cons p q ps qs h t ih=>
  rw[fv,fv];refine .cons ?_ ih;obtain⟨h1,h2,h3⟩:=h;unfold putAt;by_cases e:p.1=k
  .rw[ao e,ao (h1.symm.trans e)];exact⟨h1,h2,ry⟩
  .rw[ak e,ak (fun z=>e (h1.trans z))];exact⟨h1,h2,h3⟩
theorem KT.put(r:KT H dq xs)(k:List io)(hb:H b=some (.tup (k.map kV)))(ry:bH y u):
  KT H (tw dq k y) (storedH xs k b u):=by
 have e:(dq.any fun kv=>decide (kv.1=k))=(atKey xs k).isSome:=by
  rw[nQ,(r.val k).pV,Option.isSome_map]
 unfold tw storedH;rw[e];by_cases q:(atKey xs k).isSome=true
 .rw[ao q,ao q];exact r.XJ k ry
 .rw[ak q,ak q];exact Paired.snoc r ⟨rfl,hb,ry⟩
theorem KT.keeps(r:KT H dq xs)(ht:∀b ys,H b=some (.tup ys)->H' b=some (.tup ys)):KT H' dq xs:=
 Paired.Nk r fun _ _ z=>⟨z.1,ht _ _ z.2.1,z.2.2⟩
section
variable {P:Program} {w:World} {H:Hp} {h:Heap} {a:Addr}
theorem Mv(ok:mE P w H h)(e:Rd H a u):cI P w H h a u:=e.ok ok
theorem SU(ok:mE P w H h)(e:Rd H a (.dK dq)):dq.length<=sizeLine/\(a==sysModules)=false/\∃vs,KV dq vs/\h.DictOf (cp P w) a vs:=
 show cI P w H h a (.dK dq) from Mv ok e
theorem pW(ok:mE P w H h)(e:H a=some (.tup (ks.map kV))):(tupleKind (cp P w)).is h ks a:=by
 obtain⟨_,its,r,o,h1,h2,n,h3,_⟩:=(show cI P w H h a (.tup (ks.map kV)) from ok a _ e)
 exact⟨o,its.toArray,n,h1,h2,h3,by simpa using vi r⟩
theorem SV(ok:mE P w H h)(e:Rd H a (.dT dq)):dq.length<=sizeLine/\(a==sysModules)=false/\
  ∃xs,KT H dq xs/\h.DictOfH (tupleKind (cp P w)) a xs:=by
 obtain⟨z,y,xs,r,o,es,ep,h1,h2,h3,h4,h5⟩:=(show cI P w H h a (.dT dq) from Mv ok e)
 refine⟨z,y,xs,r,o,es,ep,h1,h2,h3,h4,fun x hx=>?_,h5⟩;have all:∀ {l:List (List io×V)} {m:List (List io×Addr×Value)},KT H l m->∀x∈m,(tupleKind (cp P w)).is h x.1 x.2.1:=by
  intro l m q;induction q with
  |nil=>intro x hx;exact nomatch hx
  |@cons p q ps qs hq t ih=>
   intro x hx;rcases bb.mp hx with e|hx
   .subst e;exact pW ok (by rw[<-hq.1];exact hq.2.1)
   .exact ih x hx
 exact all r x hx
end
def GN(H:Hp)(a:Addr)(y:V)(r:Option V):Prop:=
 (∃dq k,Rd H a (.dK dq)/\y=kV k/\r=ip dq k)\/∃dq k b,Rd H a (.dT dq)/\y=.ref b/\H b=some (.tup (k.map kV))/\r=ip dq k
theorem GN.t(e:H a=some (.dT dq))(eb:H b=some (.tup (k.map kV))):GN H a (.ref b) (ip dq k):=.inr ⟨dq,k,b,.inl e,rfl,eb,rfl⟩
section
variable {X:Cx} {af:List (Addr×Obj)} {σ:St} {H:Hp} {s:Shared} {a:Addr} {y v:V} {u r:Value} {o:Option V} {A:Around} {E:Value->Shared->Prop}
theorem XM(hu:A.units+1<cLine)(I:aS X af σ H s)(g:GN H a y o)(ry:bH y u)(h:∀s',aS X af σ H s'->Q (.bool o.isSome) s'):
  wpAny (model X.prog X.w) A (compareOp .In u (.ref a)) Q E s:=by
 rcases g with ⟨dq,k,e,ey,l⟩|⟨dq,k,b,e,ey,eb,l⟩
 .subst ey;obtain⟨z,hd,vs,SW,dd⟩:=SU I.ce e;refine wpAny_in_of (Mu ry) hd dd.mapOf ?_;rw[<-(SW.val k).pV,<-l];exact h _ (I.tok _)
 .subst ey;cases (show u=Value.ref b from ry);obtain⟨z,hd,xs,SW,dd⟩:=SV I.ce e;refine wpAny_in_heap (tupleKind_room_in1 hu) (pW I.ce eb) hd dd ?_;have q:=(SW.val k).pV;rw[Option.isSome_map] at q;rw[<-q,<-l];exact h _ (I.tok _)
end
section
variable {X:Cx} {af:List (Addr×Obj)} {σ:St} {H:Hp} {s:Shared} {a:Addr} {dq:List (io×V)} {k:io} {u:Value} {A:Around} {E:Value->Shared->Prop}
end
def SX(ty td:TE):TE:=fun σ H Q=>ty σ H fun y H1=>td σ H1 fun x H2=>∃a o,x=.ref a/\GN H2 a y o/\Q (.bl o.isSome) H2
section
variable {X:Cx} {o i e value:Expr} {pos DW Ga:Pos} {td ty tv:TE}
theorem N9(hu:X.A.units+1<cLine)(hi:PE X i ty)(ho:PE X o td):PC X .In i o (SX ty td):=by
 intro af s σ H Q I h;refine dF (hi af s σ H _ I h) fun iv s1 ⟨y,H1,I1,ry,q1⟩=>dF (ho af s1 σ H1 _ I1 q1) fun u s2 ⟨x,H2,I2,rx,a,ov,ex,g,q2⟩=>?_;subst ex;obtain rfl:u=Value.ref a:=rx;exact XM hu I2 g ry fun s3 I3=>⟨.bl ov.isSome,H2,I3,rfl,q2⟩
end
section
variable {X:Cx} {pos:Pos}
end
section
variable {X:Cx} {af:List (Addr×Obj)} {σ:St} {H:Hp} {s:Shared} {a:Addr} {y d:V} {u r:Value} {o:Option V} {A:Around} {E:Value->Shared->Prop}
end
section
variable {X:Cx} {o e f:Expr} {wv wB:Pos} {td ty tx:TE}
end
section
variable {X:Cx} {af:List (Addr×Obj)} {σ:St} {H:Hp} {s:Shared} {a:Addr} {dq:List (io×V)} {A:Around} {E:Value->Shared->Prop}
end
section
variable {X:Cx} {af:List (Addr×Obj)} {σ:St} {H:Hp} {s:Shared} {a:Addr} {y:V} {u:Value} {A:Around} {E:Value->Shared->Prop}
end
section
variable {X:Cx}
end
section
variable {κ:Type} [DecidableEq κ]
end
section
variable {X:Cx}
theorem tD:∀ {xs:List V} {its:List Value},aZ xs its->xs.all fN=true->its.countP (wz x)=xs.countP (fun z=>sV z x)
 |[],_,.nil,_=>rfl
 |y::xs,_,.cons (b:=u) r rr,f=>by
  have fy:fN y=true:=by rw[kU,fU] at f;exact f.1
  have fx:xs.all fN=true:=by rw[kU,fU] at f;exact f.2
  have h1:[u].any (wz x)=[y].any (fun z=>sV z x):=lL (.cons r .nil) (by simp[fy]);have h2:wz x u=sV y x:=by simpa using h1
  rw[o_,o_,tD rr fx,h2]
def N_:V->List V->Hp->VK->Prop:=fun x vs H Q=>∃ (l:Addr) (xs:List V) (y:V),x=.ref l/\vs=[y]/\H l=some (.lst xs)/\fN y=true/\xs.all fN=true/\Q (.int (xs.countP fun z=>sV z y)) H
theorem yA:VQ X "list.count" N_:=by
 intro af s σ H x vs v us Q I rx rv h;obtain⟨l,xs,y,rfl,rfl,hH,fy,fs,q⟩:=h;cases rx;obtain⟨u,rfl,ru⟩:=rv.one;obtain⟨z,its,n,r,hl,e⟩:=I.ux hH;refine mD F.slot_list_count ⟨_,e,rfl⟩ F.entry_list_count (F.args_list_count_2 _ _) (SeqAt.list_countAt l its.toArray n none #[] u (wz y)) ⟨e,fun w hw=>ju ru fy r fs w (by simpa using hw),?_⟩;refine⟨.int _,H,I.tok _,⟨s.toks,?_⟩,q⟩;rw[show its.toArray.toList=its by simp,tD r fs]
end
def SY(K:PySem.W.Frag)(a:Addr):It:=
 ⟨fun i H=>∃xs x,aW K H a xs/\xs[i]?=some x,fun i H x H'=>∃p v,x=.ref p/\H p=none/\H'=upd H p (.tup [.int i,v])/\∀xs,aW K H a xs->xs[i]?=some v,fun i H=>∃xs,aW K H a xs/\xs.length<=i⟩
theorem aS.C0(I:aS X af σ H s)(fe:gh X af H e)(fi:gh X af H it)(k:∀b o,b≠e->b≠it->s.heap.get? b=some o->h'.get? b=some o)(ke:∃o,h'.get? e=some o)(ki:∃o,h'.get? it=some o)(hp:s.heap.objs.size<=p)(hl:xs.length<=sizeLine)(r:aZ xs its)(ht:h'.get? p=some { cls:=.type "tuple",data:=.seq its.toArray }):aS X af σ (upd H p (.tup xs)) { s with heap:=h',toks:=t' }:=by
 have hn:=I.ce.fresh hp;obtain⟨e0,e1,e2,e3,e4,e5⟩:=fe;obtain⟨i0,i1,i2,i3,i4,i5⟩:=fi;have ne:∀b o,s.heap.get? b=some o->b≠p:=fun b o q=>ba (bi (aP q) hp);have C1:∀b o,H b=some o->b≠e/\b≠it:=fun b o q=>⟨(fun z=>by rw[z,e0] at q;cases q),(fun z=>by rw[z,i0] at q;cases q)⟩
 refine I.step (g':=s.gens) (d':=s.drawn) (ch:=[e,it]) (fun b hb=>?_) (fun b o _ _ hb q _=>?_) (fun b o _ _ hb q _=>⟨o.slots,?_⟩) (fun b o hb q n=>by rw[ap (ne b o q)];exact n) (fun b o hb q=>⟨o,?_⟩)
  (fun b ys q=>by rw[ap (am q hn)];exact q) (fun b o u q=>by rw[ap (am q hn)];exact q) (fun b ps q=>⟨#[],by rw[ap (am q hn),q];simp⟩) (fun m hm=>?_) (fun b o q=>?_) I.bare
 .rcases bb.mp hb with rfl|hb
  .exact⟨e3,e1,e4,e5⟩
  .rw[cu.mp hb];exact⟨i3,i1,i4,i5⟩
 .exact k b o (fun z=>hb (z ▸ bR)) (fun z=>hb (z ▸ cD _ bR)) q
 .exact k b o (fun z=>hb (z ▸ bR)) (fun z=>hb (z ▸ cD _ bR)) q
 .exact k b o (fun z=>hb (z ▸ bR)) (fun z=>hb (z ▸ cD _ bR)) q
 .obtain⟨o,es,ep,q,d,r'⟩:=hm;exact⟨o,es,ep,k _ _ e1.symm i1.symm q,d,r'⟩
 .by_cases hb:b=p
  .subst hb;rw[ae] at q;cases q;exact⟨hl,its,r,_,ht,rfl,_,rfl,rfl⟩
  .rw[ap hb] at q;refine(I.ce b o q).jf (fun c u hc z=>k c u ?_ ?_ z) (fun c z=>by rw[ap (am z hn)];exact z) fun c ys z=>by rw[ap (am z hn)];exact z
   .rcases hc with rfl|hc
    .exact(C1 _ _ q).1
    .exact(C1 _ _ hc).1
   .rcases hc with rfl|hc
    .exact(C1 _ _ q).2
    .exact(C1 _ _ hc).2
theorem Et{P:Program}{w:World}{K:PySem.W.Frag}{es:List Expr}{x1:Nat}{pos:Pos}(a e it:Addr)(lS:e≠it):
  wq P w K (.Tuple es x1 pos) (SY K a) [e,it] e (fun i h=>(∃fP,IsEnum h e it (i:Int) fP)/\h.IsListIter it a i) where
 mem:=by simp
 obj:=fun i h st b hb=>by
  obtain⟨⟨fP,he⟩,⟨o,q,c,d⟩⟩:=st;rcases bb.mp hb with rfl|hb
  .exact⟨_,he,fun v z=>by
    have z':Data.fields _=Data.cell v:=z;cases z'⟩
  .rw[cu.mp hb];exact⟨o,q,fun v z=>by rw[d] at z;cases z⟩
 keep:=fun i h h' st k=>by
  obtain⟨⟨fP,he⟩,hi⟩:=st;exact⟨⟨fP,k e (by simp) _ he⟩,hi.at fun o q=>k it (by simp) o q⟩
 item:=by
  intro X hP hw hK hc i af s σ H E I hf st hg;subst hP hw hK;obtain⟨xs,x,hq,hx⟩:=hg;obtain⟨its,rv,p,hz⟩:=I.list hq;obtain⟨u,hu,ru⟩:=rv.get hx;obtain⟨⟨fP,he⟩,hi⟩:=st;refine wpAny_pyNext_enum_item he hi p.isList (x:=u) (by simpa using hu) lS fun h' ho q_ ht gZ k=>?_;refine⟨_,rfl,wpAny_letOwnedTupleGo_enum ho fun h2 Mw lJ=>?_⟩;have SZ:s.heap.objs.size≠e:=fw (aP he);have vc:h2.IsListIter it a (i+1):=q_.extBut lJ.extBut lS.symm;have fe:=hf e (by simp);have fi:=hf it (by simp);have I2:aS X af σ (upd H s.heap.objs.size (.tup [.int i,x])) { s with heap:=h2,toks:=s.toks+1 }:=by
   refine I.C0 (its:=[.int i s.toks,u]) fe fi (fun b o h1 h3 q=>(lJ.2 b h1).trans (k b o h1 h3 q)) ⟨_,Mw⟩ ?_ (aK _) (by show 2<=sizeLine;decide) (.cons ⟨_,rfl⟩ (.cons ru .nil)) ((lJ.2 _ SZ).trans ht);obtain⟨o,q,_⟩:=vc;exact⟨o,q⟩
  refine⟨.ref s.heap.objs.size,_,I2,rfl,⟨_,x,rfl,I.ce.fresh (aK _),rfl,fun ys hy=>by rw[I.xS hy hq];exact hx⟩,⟨⟨u,Mw⟩,vc⟩,fun b hb=>?_⟩;have f0:=(hf b hb).1;rw[ap]
  .exact f0
  .rcases bb.mp hb with rfl|hb
   .exact SZ.symm
   .rw[cu.mp hb];obtain⟨o,q,_⟩:=hi;exact ba (aP q)
 done:=by
  intro X hP hw hK hc i af s σ H E I hf st hg;subst hP hw hK;obtain⟨xs,hq,hx⟩:=hg;obtain⟨its,rv,p,hz⟩:=I.list hq;obtain⟨f0,f1,f2,f3,f4,f5⟩:=hf it (by simp);obtain⟨⟨fP,he⟩,hi⟩:=st;have hl:=rv.length;exact wpAny_pyNext_enum_end (I.ok.hd hc) he hi p.isList (by simp;lia) fun h' eb=>⟨rfl,I.turned (t':=s.toks) (fun b o hb e=>eb b o hb e) f0 f1 f3 f4 f5⟩
 self:=fun _ _ _ _ _ st h=>by
  obtain⟨⟨fP,he⟩,_⟩:=st;exact v4 he h
section
variable {X:Cx}
def S0(K:PySem.W.Frag)(ta:TA):TI:=fun σ H R=>ta σ H fun vs H1=>∃a xs,vs=[.ref a]/\H1 a=some (.lst xs)/\R (SY K a) H1
theorem J_(hg:Gl X "enumerate")(hm:X.mg "enumerate"=none)(ha:PA X [a] ta)(hs:starEach [a] X.env=[(false,eval a X.env)]:=by rfl):
  PI X (.Tuple es x1 Ga) (.Call (.Name "enumerate" p) [a] [] pos) (S0 X.K ta):=by
 intro af s σ H R I h;refine Call_ (iC I hg hm (by decide +kernel:bootBuiltins "enumerate"=some (.type "enumerate")) (rE (dF (ha pos af s σ H _ I h) fun us s1 ⟨vs,H1,I1,r1,q1⟩=>?_) hs rfl));obtain⟨l,xs,rfl,hl,q⟩:=q1;obtain⟨u1,rfl,Oa⟩:=r1.one;obtain rfl:u1=Value.ref l:=Oa;obtain⟨z,its,n,r,_,e⟩:=I1.ux hl;refine call_enumerate_1 e fun h' he hi gZ k=>?_;have lS:s1.heap.objs.size+1≠s1.heap.objs.size:=Nat.succ_ne_self _;refine v4 he ?_;have I2:aS X af σ H1 { s1 with heap:=h' }:=I1.kept (t':=s1.toks) k;refine⟨s1.heap.objs.size+1,[s1.heap.objs.size+1,s1.heap.objs.size],_,_,H1,rfl,I2,Et l _ _ lS,⟨⟨_,he⟩,hi⟩,fun b hb=>?_,q⟩;have q8:s1.heap.objs.size<=b:=by
  rcases bb.mp hb with rfl|hb
  .exact sr _
  .rw[cu.mp hb];exact aK _
 exact I1.wo q8 (I1.ce.fresh q8)
theorem GQ{K:PySem.W.Frag}{a:Addr}{xs:List V}{g:TG}{tb:TS}{D:wm}{σ:St}{H:Hp}(Pv:Nat->St->Hp->Prop)(h0:Pv 0 σ H)(hl:∀i σ H,i<=xs.length->Pv i σ H->aW K H a xs)(hs:∀i x p σ H,xs[i]?=some x->Pv i σ H->H p=none->g (.ref p) σ (upd H p (.tup [.int i,x])) fun σ2 H2=>tb { D with nx:=Pv (i+1),ct:=Pv (i+1),bk:=D.nx } σ2 H2)(hd:∀σ H,Pv xs.length σ H->D.nx σ H):
  ∃W:Nat->Nat->St->Hp->Prop,(∃m,W 0 m σ H)/\∀i m σ H,W i m σ H->
   ((SY K a).stop i H/\D.nx σ H)\/((SY K a).go i H/\∃N:St->Hp->Prop,(∀σ' H',N σ' H'->∃m',m'<m/\W (i+1) m' σ' H')/\∀x H',(SY K a).Mf i H x H'->g x σ H' fun σ2 H2=>tb { D with nx:=N,ct:=N,bk:=D.nx } σ2 H2):=by
 refine⟨fun i m σ H=>m=xs.length-i/\i<=xs.length/\Pv i σ H,⟨xs.length,by simp,bE _,h0⟩,?_⟩;rintro i m σ H ⟨rfl,hi,p⟩;have q:=hl i σ H hi p;by_cases dZ:i<xs.length
 .refine .inr ⟨⟨xs,xs[i],q,by simp[dZ]⟩,Pv (i+1),fun σ' H' p'=>⟨xs.length-(i+1),by lia,rfl,dZ,p'⟩,fun x H' y=>?_⟩;obtain⟨pp,v,rfl,hn,rfl,hv⟩:=y;exact hs i v pp σ _ (hv xs q) p hn
 .have e:i=xs.length:=by lia
  subst e;exact .inl ⟨⟨xs,q,aK _⟩,hd σ H p⟩
end
section
variable {prog:Program} {w:World} {A:Around} {E:Value->Shared->Prop} {s:Shared}
theorem mN(xK:s.heap.IsTupleIter it t i)(ht:s.heap.IsTuple t xs)(hx:xs[i]?=some x)(q:∀h',h'.IsTupleIter it t (i+1)->Heap.SameBut it s.heap h'->Q x { s with heap:=h' }):wpAny (model prog w) A (Builtin.SmallTypes.nextOf (.ref it)) Q E s:=by
 obtain⟨o,h1,h2,h3⟩:=id xK;obtain⟨p,k1,_,n,k3⟩:=ht;unfold Builtin.SmallTypes.nextOf;refine aw (l9 (name:=Str.ofString "__next__") xK.typeIs F.slot_tuple_iterator_next (jJ F.slot_tuple_iterator_next xK.typeIs F.entry_tuple_iterator_next ?_ (F.args_tuple_iterator_next_1 _)));change wpAny _ _ (field (.ref it) 0 >>= _) _ _ s;refine aw (fV h1 h3 (x:=.ref t) rfl ?_);change wpAny _ _ (if (Value.ref t==Value.none)=true then _ else _) _ _ s;rw[ak (by exact cw)];change wpAny _ _ (field (.ref it) 1 >>= _) _ _ s;refine aw (fV h1 h3 (x:=.int i 0) rfl ?_);change wpAny _ _ (seqItems? (.ref t) >>= _) _ _ s;refine aw (hX k1 k3 ?_);simp only[gu,hx];refine aw (wpAny_setField h1 h3 (by simp) (wpAny_pure ⟨x,rfl,wpAny_pure (q _ ?_ (o4 ..))⟩));refine⟨_,mi _ h1 (Obj.isFreed_of_fields (Obj.data_mapFields h3 _)),(Obj.cls_mapFields ..).trans h2,?_⟩;rw[Obj.data_mapFields h3];simp[rawInt]
theorem pX(hh:A.handled=none)(xK:s.heap.IsTupleIter it t i)(ht:s.heap.IsTuple t xs)(hx:xs[i]?=none)(q:∀h' e,Heap.ExtBut it s.heap h'->(∃o,h'.get? e=some o/\o.cls=.type "StopIteration")->E (.ref e) { s with heap:=h' }):wpAny (model prog w) A (Builtin.SmallTypes.nextOf (.ref it)) Q E s:=by
 obtain⟨o,h1,h2,h3⟩:=id xK;obtain⟨p,k1,_,n,k3⟩:=ht;unfold Builtin.SmallTypes.nextOf;refine aw (l9 (name:=Str.ofString "__next__") xK.typeIs F.slot_tuple_iterator_next (jJ F.slot_tuple_iterator_next xK.typeIs F.entry_tuple_iterator_next ?_ (F.args_tuple_iterator_next_1 _)));change wpAny _ _ (field (.ref it) 0 >>= _) _ _ s;refine aw (fV h1 h3 (x:=.ref t) rfl ?_);change wpAny _ _ (if (Value.ref t==Value.none)=true then _ else _) _ _ s;rw[ak (by exact cw)];change wpAny _ _ (field (.ref it) 1 >>= _) _ _ s;refine aw (fV h1 h3 (x:=.int i 0) rfl ?_);change wpAny _ _ (seqItems? (.ref t) >>= _) _ _ s;refine aw (hX k1 k3 ?_);simp only[gu,hx];refine aw (fE (aw (wpAny_setField h1 h3 (by simp) ?stop)));case stop=>
  change wpAny _ _ (newExc (.type "StopIteration") [] >>= _) _ _ _;refine aw ?_;simp only[newExc,newTuple];refine aw (v5 (aw (m:=firstArgMember _ _) (wpAny_of_eq (a:=Value.none) (by simp only[firstArgMember];rfl) (v5 ?_ (by size_fits)))) (by size_fits));simp only[raiseNew];refine aw (wpAny_handled ?_);rw[show A.in1.handled=none from hh];exact aw (wpAny_pure (wpAny_throw (q _ _ (fun b u hb z=>bw _ (bw _ ((me _ _ (dv hb)).trans z))) ⟨_,b_ _ rfl,rfl⟩)))
theorem yB(hh:A.handled=none)(it t:Addr)(lS:t≠it)(xs:Array Value):Draws prog w A it [it,t] xs.size (fun i v=>xs[i]?=some v) (fun i h=>h.IsTupleIter it t i/\h.IsTuple t xs) where
 live:=fun _ _ st=>let ⟨o,ho,_⟩:=st.1;⟨o,ho⟩
 frame:=fun _ _ _ st hk=>⟨st.1.at fun o e=>hk it (by simp) o e,let ⟨o,e,r⟩:=st.2;⟨o,hk t (by simp) o e,r⟩⟩
 item:=fun i s Q E hi st q=>by
  refine mN st.1 st.2 (x:=xs[i]) (by simp[hi]) fun h' a b=>?_;obtain⟨o,e,r⟩:=st.2;exact q _ h' s.toks (by simp[hi]) ⟨a,o,(b.2 t lS).trans e,r⟩ b
 done:=fun s Q E st q=>pX hh st.1 st.2 (by simp) q
end
theorem Eu(t:Addr)(xs:Array Value):
  Meets (Builtin.«enumerate.__new__» ⟨[.type "enumerate",.ref t],[]⟩) (fun _ R s=>s.heap.IsTuple t xs/\
   R (.ok (.ret (.ref (s.heap.push { cls:=.type "tuple_iterator",data:=.fields #[.ref t,.int 0 0] }).objs.size)))
    { s with heap:=(s.heap.push { cls:=.type "tuple_iterator",data:=.fields #[.ref t,.int 0 0] }).push { cls:=.type "enumerate",data:=.fields #[.none,.bool false,.ref s.heap.objs.size,rawInt 0,.none,.none] } }):=
 .of_wp fun prog w A R s h=>by
  obtain⟨hp,g,d,tk,os⟩:=s;obtain⟨hT,h⟩:=h;have hs:=sub_enumerate
  wp_walk
  refine wpAny_stack_any fun st=>wpAny_pure ?_;split
  .rename_i c _ _ _ _ _;cases (c==Value.type "enumerate") <;> (wp_walk using rW hT;exact⟨_,rfl,h⟩)
  .wp_walk using rW hT
   exact⟨_,rfl,h⟩
theorem Bh(ht:s.heap.IsTuple t xs)(h:∀h',IsEnum h' (s.heap.objs.size+1) s.heap.objs.size 0 .none->h'.IsTupleIter s.heap.objs.size t 0->(∀b o,s.heap.get? b=some o->h'.get? b=some o)->Q (.ref (s.heap.objs.size+1)) { s with heap:=h' }):
  wpAny (model prog w) A (call (.type "enumerate") [.ref t]) Q E s:=by
 refine callType_new F.called_enumerate (by decide) (F.typeCall_enumerate_1 _) (F.newCall_enumerate_1 _) (fun obj=>F.args_object_init_2 obj _) F.entry_enumerate_new (Eu t xs) ⟨ht,?_⟩;have hz:(s.heap.push { cls:=.type "tuple_iterator",data:=.fields #[.ref t,.int 0 0] }).objs.size=s.heap.objs.size+1:=iy ..;have he:IsEnum ((s.heap.push { cls:=.type "tuple_iterator",data:=.fields #[.ref t,.int 0 0] }).push
   { cls:=.type "enumerate",data:=.fields #[.none,.bool false,.ref s.heap.objs.size,rawInt 0,.none,.none] }) (s.heap.objs.size+1) s.heap.objs.size 0 .none:=by
  have q:=b_ (s.heap.push { cls:=.type "tuple_iterator",data:=.fields #[.ref t,.int 0 0] }) (o:={ cls:=.type "enumerate",data:=.fields #[.none,.bool false,.ref s.heap.objs.size,rawInt 0,.none,.none] }) rfl;rw[hz] at q;exact q
 show _/\_;rw[hz];exact⟨⟨_,he,rfl⟩,h _ he ⟨_,bw _ (b_ _ rfl),rfl,rfl⟩ fun b o x=>bw _ (bw _ x)⟩
def Ev(K:PySem.W.Frag)(a:Addr):It:=
 ⟨fun i H=>∃xs x,bP K H a xs/\xs[i]?=some x,fun i H x H'=>∃p v,x=.ref p/\H p=none/\H'=upd H p (.tup [.int i,v])/\∀xs,bP K H a xs->xs[i]?=some v,fun i H=>∃xs,bP K H a xs/\xs.length<=i⟩
theorem Bi{P:Program}{w:World}{K:PySem.W.Frag}{es:List Expr}{x1:Nat}{pos:Pos}(a e it:Addr)(lS:e≠it)(hae:a≠e)(hai:a≠it):
  wq P w K (.Tuple es x1 pos) (Ev K a) [e,it] e (fun i h=>(∃fP,IsEnum h e it (i:Int) fP)/\h.IsTupleIter it a i) where
 mem:=by simp
 obj:=fun i h st b hb=>by
  obtain⟨⟨fP,he⟩,⟨o,q,c,d⟩⟩:=st;rcases bb.mp hb with rfl|hb
  .exact⟨_,he,fun v z=>by
    have z':Data.fields _=Data.cell v:=z;cases z'⟩
  .rw[cu.mp hb];exact⟨o,q,fun v z=>by rw[d] at z;cases z⟩
 keep:=fun i h h' st k=>by
  obtain⟨⟨fP,he⟩,hi⟩:=st;exact⟨⟨fP,k e (by simp) _ he⟩,hi.at fun o q=>k it (by simp) o q⟩
 item:=by
  intro X hP hw hK hc i af s σ H E I hf st hg;subst hP hw hK;obtain⟨xs,x,hq,hx⟩:=hg;obtain⟨its,rv,p,hz⟩:=I.tuple hq;obtain⟨u,hu,ru⟩:=rv.get hx;obtain⟨⟨fP,he⟩,hi⟩:=st;have dZ:i<its.toArray.size:=by
   have:=(b9.mp hu).1;simpa using this
  have D:=yB (prog:=X.prog) (w:=X.w) (A:=X.A.in1) (I.ok.hd hc) it a hai its.toArray;refine wpAny_pyNext_enum_itemD D he ⟨hi,p⟩ dZ lS (by simp[lS,hae.symm]) fun u' h' tk qE ho oC ht gZ k=>?_;have eu:u'=u:=by
   have h1:its.toArray[i]?=some u:=by simpa using hu
   rw[h1] at qE;exact(bN qE).symm
  subst eu;refine⟨_,rfl,wpAny_letOwnedTupleGo_enum ho fun h2 Mw lJ=>?_⟩;have SZ:s.heap.objs.size≠e:=fw (aP he);have vc:h2.IsTupleIter it a (i+1):=oC.1.at fun o q=>(lJ.2 it lS.symm).trans q;have fe:=hf e (by simp);have fi:=hf it (by simp);have I2:aS X af σ (upd H s.heap.objs.size (.tup [.int i,x])) { s with heap:=h2,toks:=tk+1 }:=by
   refine I.C0 (its:=[.int i tk,u']) fe fi (fun b o h1 h3 q=>(lJ.2 b h1).trans (k b o h1 h3 q)) ⟨_,Mw⟩ ?_ (aK _) (by show 2<=sizeLine;decide) (.cons ⟨_,rfl⟩ (.cons ru .nil)) ((lJ.2 _ SZ).trans ht);obtain⟨o,q,_⟩:=vc;exact⟨o,q⟩
  refine⟨.ref s.heap.objs.size,_,I2,rfl,⟨_,x,rfl,I.ce.fresh (aK _),rfl,fun ys hy=>by rw[I.gG hy hq];exact hx⟩,⟨⟨u',Mw⟩,vc⟩,fun b hb=>?_⟩;have f0:=(hf b hb).1;rw[ap]
  .exact f0
  .rcases bb.mp hb with rfl|hb
   .exact SZ.symm
   .rw[cu.mp hb];obtain⟨o,q,_⟩:=hi;exact ba (aP q)
 done:=by
  intro X hP hw hK hc i af s σ H E I hf st hg;subst hP hw hK;obtain⟨xs,hq,hx⟩:=hg;obtain⟨its,rv,p,hz⟩:=I.tuple hq;obtain⟨f0,f1,f2,f3,f4,f5⟩:=hf it (by simp);obtain⟨⟨fP,he⟩,hi⟩:=st;have hl:=rv.length;unfold pyNext;have hT:s.TypeIs (.ref e) "enumerate":=⟨_,he,rfl⟩
  refine aw (jN (l9 (name:=Str.ofString "__next__") hT F.slot_enumerate_next (jJ F.slot_enumerate_next hT F.entry_enumerate_next ?_ (F.args_enumerate_next_1 _))));change wpAny _ _ (field (.ref e) 2 >>= _) _ _ _;refine aw (fV he rfl (x:=.ref it) rfl (aw (pX (I.ok.hd hc) hi p (by simp;lia) fun h' x eb sE=>?_)));obtain⟨o,ho,Ft⟩:=sE;exact aw (AJ (T:="StopIteration") (b:=true) ⟨o,ho,Ft⟩ isSubtype_stop (wpAny_pure ⟨rfl,I.turned (t':=s.toks) (fun b o hb e=>eb b o hb e) f0 f1 f3 f4 f5⟩))
 self:=fun _ _ _ _ _ st h=>by
  obtain⟨⟨fP,he⟩,_⟩:=st;exact v4 he h
section
variable {X:Cx}
def Ob(K:PySem.W.Frag)(ta:TA):TI:=fun σ H R=>ta σ H fun vs H1=>∃a xs,vs=[.ref a]/\bP K H1 a xs/\R (Ev K a) H1
theorem tE(hg:Gl X "enumerate")(hm:X.mg "enumerate"=none)(ha:PA X [a] ta)(hs:starEach [a] X.env=[(false,eval a X.env)]:=by rfl):
  PI X (.Tuple es x1 Ga) (.Call (.Name "enumerate" p) [a] [] pos) (Ob X.K ta):=by
 intro af s σ H R I h;refine Call_ (iC I hg hm (by decide +kernel:bootBuiltins "enumerate"=some (.type "enumerate")) (rE (dF (ha pos af s σ H _ I h) fun us s1 ⟨vs,H1,I1,r1,q1⟩=>?_) hs rfl));obtain⟨l,xs,rfl,hl,q⟩:=q1;obtain⟨u1,rfl,Oa⟩:=r1.one;obtain rfl:u1=Value.ref l:=Oa;obtain⟨its,rv,pt,hz⟩:=I1.tuple hl;have dZ:l<s1.heap.objs.size:=by obtain⟨o,e,_⟩:=pt;exact aP e
 refine Bh (show s1.heap.IsTuple l its.toArray from pt) fun h' he hi k=>?_;have lS:s1.heap.objs.size+1≠s1.heap.objs.size:=Nat.succ_ne_self _;refine v4 he ?_;have I2:aS X af σ H1 { s1 with heap:=h' }:=I1.kept (t':=s1.toks) k;refine⟨s1.heap.objs.size+1,[s1.heap.objs.size+1,s1.heap.objs.size],_,_,H1,rfl,I2,Bi l _ _ lS (ba (cV dZ)) (ba dZ),⟨⟨_,he⟩,hi⟩,fun b hb=>?_,q⟩;have q8:s1.heap.objs.size<=b:=by
  rcases bb.mp hb with rfl|hb
  .exact sr _
  .rw[cu.mp hb];exact aK _
 exact I1.wo q8 (I1.ce.fresh q8)
theorem vj{K:PySem.W.Frag}{a:Addr}{xs:List V}{g:TG}{tb:TS}{D:wm}{σ:St}{H:Hp}(Pv:Nat->St->Hp->Prop)(h0:Pv 0 σ H)(hl:∀i σ H,i<=xs.length->Pv i σ H->bP K H a xs)(hs:∀i x p σ H,xs[i]?=some x->Pv i σ H->H p=none->g (.ref p) σ (upd H p (.tup [.int i,x])) fun σ2 H2=>tb { D with nx:=Pv (i+1),ct:=Pv (i+1),bk:=D.nx } σ2 H2)(hd:∀σ H,Pv xs.length σ H->D.nx σ H):
  ∃W:Nat->Nat->St->Hp->Prop,(∃m,W 0 m σ H)/\∀i m σ H,W i m σ H->
   ((Ev K a).stop i H/\D.nx σ H)\/((Ev K a).go i H/\∃N:St->Hp->Prop,(∀σ' H',N σ' H'->∃m',m'<m/\W (i+1) m' σ' H')/\∀x H',(Ev K a).Mf i H x H'->g x σ H' fun σ2 H2=>tb { D with nx:=N,ct:=N,bk:=D.nx } σ2 H2):=by
 refine⟨fun i m σ H=>m=xs.length-i/\i<=xs.length/\Pv i σ H,⟨xs.length,by simp,bE _,h0⟩,?_⟩;rintro i m σ H ⟨rfl,hi,p⟩;have q:=hl i σ H hi p;by_cases dZ:i<xs.length
 .refine .inr ⟨⟨xs,xs[i],q,by simp[dZ]⟩,Pv (i+1),fun σ' H' p'=>⟨xs.length-(i+1),by lia,rfl,dZ,p'⟩,fun x H' y=>?_⟩;obtain⟨pp,v,rfl,hn,rfl,hv⟩:=y;exact hs i v pp σ _ (hv xs q) p hn
 .have e:i=xs.length:=by lia
  subst e;exact .inl ⟨⟨xs,q,aK _⟩,hd σ H p⟩
theorem Bj{K:PySem.W.Frag}{a D:Addr}{xs:List V}{g:TG}{tt:TT}{te:TE}{dQ:Hp->Prop}{σB:St}{H0:Hp}(Pv:Nat->List V->St->Hp->Prop)(h0:Pv 0 [] σB H0)(hl:∀i ys σ H,i<=xs.length->Pv i ys σ H->bP K H a xs)(hs:∀i x p ys σ H (Kt:V->St->Hp->Prop) (Kf:St->Hp->Prop),xs[i]?=some x->Pv i ys σ H->H p=none->
   (∀v σ2 H4,H4 D=some (.lst ys)->ys.length<sizeLine->Pv (i+1) (ys++[v]) σ2 (upd H4 D (.lst (ys++[v])))->Kt v σ2 H4)->(∀σ2 H3,Pv (i+1) ys σ2 H3->Kf σ2 H3)->
   g (.ref p) σ (upd H p (.tup [.int i,x])) fun σ2 H2=>tt σ2 H2 fun b H3=>if b=true then te σ2 H3 fun v H4=>Kt v σ2 H4 else Kf σ2 H3)(hd:∀ys σ H,Pv xs.length ys σ H->dQ H):ii (Ev K a) g tt te D dQ σB H0:=by
 refine⟨fun i m σ H=>m=xs.length-i/\i<=xs.length/\∃ys,Pv i ys σ H,⟨xs.length,by simp,bE _,[],h0⟩,?_⟩;rintro i m σ H ⟨rfl,hi,ys,p⟩;have q:=hl i ys σ H hi p;by_cases dZ:i<xs.length
 .refine .inr ⟨⟨xs,xs[i],q,by simp[dZ]⟩,?_⟩;rintro x H' ⟨pp,v,rfl,hn,rfl,hv⟩;exact hs i v pp ys σ _ (fun v σ2 H4=>∃ys,H4 D=some (.lst ys)/\ys.length<sizeLine/\∃m',m'<xs.length-i/\m'=xs.length-(i+1)/\i+1<=xs.length/\∃uB,Pv (i+1) uB σ2 (upd H4 D (.lst (ys++[v]))))
   (fun σ2 H3=>∃m',m'<xs.length-i/\m'=xs.length-(i+1)/\i+1<=xs.length/\∃uB,Pv (i+1) uB σ2 H3) (hv xs q) p hn
   (fun v σ2 H4 z1 z2 z3=>⟨ys,z1,z2,_,by lia,rfl,dZ,_,z3⟩) (fun σ2 H3 z=>⟨_,by lia,rfl,dZ,_,z⟩)
 .have e:i=xs.length:=by lia
  subst e;exact .inl ⟨⟨xs,q,aK _⟩,hd ys σ H p⟩
end
section
variable {X:Cx} {tg:Expr}
end
theorem wO:typeLookup (.type "list") "keys"=pure none:=by rw[v_,vT];kernel_rfl
theorem qH:typeLookup (.type "list") "__getattr__"=pure none:=by rw[v_,vT];kernel_rfl
theorem tG(l:Addr)(u:Tok)(items:Array Value)(n:Nat):
  Meets (Builtin.«object.__getattribute__» ⟨[.ref l,.str "keys" u],[]⟩) (fun A R s=>s.heap.get? l=some { cls:=.type "list",data:=.seq items n }/\raisesAttr (.ref l) "keys" A R s):=
 Meets.of_wp fun prog w A R s hs=>by
  obtain⟨hp,g,d,tk,os⟩:=s;obtain⟨hl,hs⟩:=hs;have hT:(⟨hp,g,d,tk,os⟩:Shared).TypeIs (.ref l) "list":=⟨_,hl,rfl⟩
  have f1:=wO;unfold Builtin.«object.__getattribute__»;repeat (any_goals (first|assumption|wp_step))
  exact wpAny_raiseAttrError hs.1 hs.2 (attrMsg_fits (by decide +kernel) (by decide +kernel))
theorem Oc(hA:A.handled=none)(hl:s.heap.get? l=some { cls:=.type "list",data:=.seq items n })(h:∀h' tk,(∀b o,s.heap.get? b=some o->h'.get? b=some o)->Q none { s with heap:=h',toks:=tk }):wpAny (model prog w) A (getAttr? (.ref l) "keys") Q E s:=by
 obtain⟨hp,g,d,tk,os⟩:=s;have hT:∀tk,(⟨hp,g,d,tk,os⟩:Shared).TypeIs (.ref l) "list":=fun _=>⟨_,hl,rfl⟩
 have f1:=sub_AttributeError;have f3:=F.slot_list_getattribute.lookup;have f4:=F.slot_list_getattribute.bind (.ref l);have f5:=qH;unfold getAttr? getAttrBy?;refine aw (wpAny_mkText ?_);refine aw (jN ?_);unfold getAttrBy;repeat (any_goals (first|assumption|((with_reducible show wpAny _ _ (call (Value.builtin "list.__getattribute__") _ _) _ _ _);refine mD F.slot_list_getattribute (hT _) F.entry_list_ga (F.args_list_getattribute_2 _ _) (tG l _ items n) ⟨hl,hA,fun h' tk' e hx=>?_⟩)|wp_step))
 obtain⟨t',u',he⟩:=hx.there;show wpAny _ _ (getattributeRaised _ _ _ _ _ _ _) _ _ _;unfold getattributeRaised;repeat (any_goals (first|assumption|wp_step))
 exact h _ _ hx.keeps
theorem qq:entryFor table "dict.update.loop"=some Builtin.«dict.update.loop»:=entryFor_of_tree (by kernel_rfl)
theorem iV:plainId "dict.update.loop"=true:=by decide +kernel
section
variable {prog:Program} {w:World} {A:Around} {E:Value->Shared->Prop} {s:Shared} {R:Result->Shared->Prop} {l d Ia:Addr}
end
section
variable {prog:Program} {w:World} {A:Around} {E:Value->Shared->Prop} {s:Shared} {l:Addr}
end
section
variable {X:Cx}
theorem Ew(hc:X.calm=true):fh X (.builtin "all") (fun xs H Q=>∃ (p:Addr) (bs:List Bool),xs=[.ref p]/\aW X.K H p (bs.map V.bl)/\Q (.bl (bs.all id)) H):=by
 intro af s σ H xs us Q I r h;obtain⟨p,bs,rfl,hp,q⟩:=h;obtain⟨u1,rfl,r1⟩:=r.one;obtain rfl:u1=Value.ref p:=r1;obtain⟨its,rv,pl,hz⟩:=I.list hp;have wL:its=bs.map Value.bool:=by
  have go:∀ (bs:List Bool) (its:List Value),aZ (bs.map V.bl) its->its=bs.map Value.bool:=by
   intro bs;induction bs with
   |nil=>intro its r;cases r;rfl
   |cons b bs ih=>
    intro its r;cases r with
    |cons r rr=>
     obtain rfl:=(show _=Value.bool b from r)
     rw[ih _ rr];rfl
  exact go bs its rv
 subst wL;obtain⟨ob,Xt,_⟩:=id pl.isList;have dZ:p<s.heap.objs.size:=aP Xt;refine call_all_walk (rY pl.isList ⟨s.heap.objs.size,_,_,_,_,_,fun i=>bs.getD i true,rfl,Walks.list (show X.A.in1.handled=none from I.ok.hd hc) _ p (ba dZ) _,⟨⟨_,b_ _ rfl,rfl,rfl⟩,pl.isList.push _⟩,fun i v s1 Q' E' hv hq=>?_,fun h' tk k=>?_⟩)
 .have D4:(bs.map Value.bool)[i]?=some v:=by simpa using hv
  rw[bU] at D4;cases eb:bs[i]? with
  |none=>rw[eb] at D4;cases D4
  |some b=>
   rw[eb] at D4;obtain rfl:Value.bool b=v:=bN D4;have:bs.getD i true=b:=by rw[bW,eb];rfl
   have JR:Q' b s1:=by rw[<-this];exact hq
   exact wpAny_pure JR
 .have keep:∀b o,s.heap.get? b=some o->h'.get? b=some o:=fun b o e=>k b o (by simpa using ba (aP e)) (bw _ e);refine⟨.bl (bs.all id),H,I.kept (t':=tk) keep,?_,q⟩;show Value.bool _=Value.bool _;congr 1;have go:∀ (bs:List Bool),((List.range bs.length).all fun i=>bs.getD i true)=bs.all id:=by
   intro bs;induction bs with
   |nil=>rfl
   |cons b bs ih=>
    rw[eF,oP,kU,List.all_map,kU,<-ih];rfl
  rw[<-go bs];simp
end
structure dL(P:Program)(w:World)(K:PySem.W.Frag)(mg:Str->Option Value)(base:Heap)(CX:zN)(k:Nat)(x:Str)(ps:List Str)(sp:Sp):Prop where
 ex:∃f fd,mg x=some (.ref f)/\PySem.W.keepIn K (.ref f)=true/\j_ K fd ps []/\bA P w K mg base CX k f fd ps sp
theorem aH(C:dL X.prog X.w X.K X.mg X.base CX k x ps sp)(hr:cg k X.A)(hx:mI CX X E)(ha:PA X (e::es) t)(hg:Gl X x:=by rfl)(D7:(x==("__debug__":Str))=false:=by decide)(he:starEach (e::es) X.env=(false,eval e X.env)::starEach es X.env:=by rfl)(Fn:(backTo pos (starEach es X.env)).any (·.1)=false:=by rfl):
  PE X (.Call (.Name x p) (e::es) [] pos) (nC sp [] E t):=by
 obtain⟨f,fd,a,b,c,d⟩:=C.ex;exact JQ d hr hg a b c .nil hx ha D7 he Fn
theorem ai(h:H D=none):aO H (upd H D o):=fun b u e=>by rw[ap (am e h)];exact e
def aI(p:Addr)(H H':Hp):Prop:=∀b o,H b=some o->b≠p->H' b=some o
theorem aI.refl:aI p H H:=fun _ _ h _=>h
theorem aI.trans(a:aI p H H1)(b:aI p H1 H2):aI p H H2:=fun c o h n=>b c o (a c o h n) n
theorem aI.upd:aI p H (upd H p o):=fun b u h n=>by rw[ap n];exact h
theorem aI.of(s:aO H H'):aI p H H':=fun b o h _=>s b o h
theorem aI.free(s:aI p H H')(hp:H' p≠none)(h:H' q=none):H q=none:=by
 cases z:H q with
 |none=>rfl
 |some o=>
  by_cases e:q=p
  .subst e;exact absurd h hp
  .rw[s q o z e] at h;cases h
theorem eh(h:j<n):Ge n (j:Int)=some j:=by
 unfold Ge;rw[ao (by lia),ao (by lia)];simp
theorem Ex(h:as.length=n):(as++[t]).getD j 0=if j=n then t else as.getD j 0:=by
 rw[bW,bW];by_cases hj:j=n
 .subst hj;subst h;rw[ao rfl,qi (aK _),si];rfl
 .rw[ak hj];by_cases dZ:j<as.length
  .rw[jk dZ]
  .rw[qi (by lia),fJ (by simp;lia),fJ (by lia)]
def Holds(H:Hp)(as:List Addr)(n:Nat)(o:Nat->HO):Prop:=as.length=n/\∀j,j<n->H (as.getD j 0)=some (o j)
theorem Holds.nil:Holds H [] 0 o:=⟨rfl,fun j hj=>absurd hj (by lia)⟩
theorem Holds.snoc(h:Holds H as n o)(ht:H t=some (o n)):Holds H (as++[t]) (n+1) o:=by
 refine⟨by rw[dh,h.1];rfl,fun j hj=>?_⟩;rw[Ex h.1];by_cases e:j=n
 .rw[ao e,e];exact ht
 .rw[ak e];exact h.2 j (by lia)
theorem Holds.mono(h:Holds H as n o)(e:∀j,j<n->H (as.getD j 0)=some (o j)->H' (as.getD j 0)=some (o j)):Holds H' as n o:=⟨h.1,fun j hj=>e j hj (h.2 j hj)⟩
end L2
namespace PyProof.Rows
open PySem
def iW:Bool->Keyed->Array Keyed->Nat->Nat->Nat->StateT SortSt Sem (Option Nat):=sortPriv% PySem.Builtin.gallop
def tH:Array Keyed->Array Keyed->StateT SortSt Sem (Array Keyed):=sortPriv% PySem.Builtin.mergeLo
def tI:Array Keyed->Array Keyed->StateT SortSt Sem (Array Keyed):=sortPriv% PySem.Builtin.mergeHi
def jg:Nat->StateT SortSt Sem Unit:=sortPriv% PySem.Builtin.setMinGallop
def Jt(prog:Program)(w:World)(A:Around)(s:Shared)(κ:SortKind)(a₀:Array Keyed)(key:Keyed->Int):Prop:=
 ∀x y,x∈a₀.toList->y∈a₀.toList->∀ (Q:Bool->Shared->Prop) (E:Value->Shared->Prop),Q (decide (key x<key y)) s->wpAny (model prog w) A (keyLt' κ x.1 y.1) Q E s
structure SQ(κ:SortKind)(a₀:Array Keyed)(pd:Array (Nat×Nat×Nat))(st:SortSt):Prop where
 perm:(arrOf st).Perm a₀
 kind:kindOf st=κ
 failed:failedOf st=none
 pend:pendingOf st=pd
def kk(key:Keyed->Int)(a:Array Keyed)(i:Nat):Int:=(a[i]?.map key).getD 0
def So(key:Keyed->Int)(a:Array Keyed)(lo hi:Nat):Prop:=∀i j,lo<=i->i<=j->j<hi->kk key a i<=kk key a j
theorem lj(h:i<a.size):kk key a i=key a[i]:=by unfold kk;rw[dX a i h];rfl
theorem yC(h:a[i]?=b[j]?):kk key a i=kk key b j:=by unfold kk;rw[h]
section
variable {prog:Program} {w:World} {A:Around} {E:Value->Shared->Prop} {s:Shared} {κ:SortKind} {a₀:Array Keyed} {pd:Array (Nat×Nat×Nat)} {key:Keyed->Int}
theorem SQ.size{st:SortSt}(h:SQ κ a₀ pd st):(arrOf st).size=a₀.size:=h.perm.size_eq
theorem SQ.setArr{st:SortSt}(h:SQ κ a₀ pd st){xs:Array Keyed}(hp:xs.Perm (arrOf st)):SQ κ a₀ pd (setArr st xs):=⟨hp.trans h.perm,h.kind,h.failed,h.pend⟩
theorem SQ.at{st:SortSt}(h:SQ κ a₀ pd st){i:Nat}(hi:i<a₀.size):∃p,(arrOf st)[i]?=some p/\p∈a₀.toList:=by
 have q_:i<(arrOf st).size:=by rw[h.size];exact hi
 exact⟨(arrOf st)[i],dX _ i q_,(jj.mp h.perm).mem_iff.mp (by simp)⟩
theorem Od{st:SortSt}{x y:Keyed}{Q:Option Bool->SortSt->Prop}(hC:Jt prog w A s κ a₀ key)(hk:kindOf st=κ)(hx:x∈a₀.toList)(hy:y∈a₀.toList)(h:Q (some (decide (key x<key y))) st):wpS (model prog w) A E s (lt' x y) Q st:=by
 rw[lt'_eq];refine aF (eM ?_);rw[hk];refine aF (je (jN (hC x y hx hy _ _ ⟨rfl,?_⟩)));exact aJ h
theorem bn{st:SortSt}{arr:Array Keyed}{i:Nat}{p:Keyed}{Q:Keyed->SortSt->Prop}(hi:arr[i]?=some p)(h:Q p st):wpS (model prog w) A E s (elem' arr i) Q st:=by
 rw[elem'_eq,hi];exact aJ h
theorem nU{st:SortSt}{i j:Nat}{Q:Option Bool->SortSt->Prop}(hC:Jt prog w A s κ a₀ key)(hB:SQ κ a₀ pd st)(hi:i<a₀.size)(hj:j<a₀.size)(h:∀b,b=decide (kk key (arrOf st) i<kk key (arrOf st) j)->Q (some b) st):wpS (model prog w) A E s (ltAt' i j) Q st:=by
 obtain⟨p,e1,m1⟩:=hB.at hi;obtain⟨q,e2,m2⟩:=hB.at hj;rw[ltAt'_eq];refine aF (eM ?_);refine aF (bn e1 (aF (bn e2 (Od hC hB.kind m1 m2 (h _ ?_)))));unfold kk;rw[e1,e2];rfl
theorem rc{st:SortSt}{i j:Nat}{Q:Unit->SortSt->Prop}(hB:SQ κ a₀ pd st)(hj:j<=a₀.size)(h:∀aE,SQ κ a₀ pd aE->(∀k,(arrOf aE)[k]?=if i<=k/\k<j then (arrOf st)[i+j-1-k]? else (arrOf st)[k]?)->Q () aE):wpS (model prog w) A E s (reverseSlice' i j) Q st:=by
 rw[reverseSlice'_eq];exact fm (h _ (hB.setArr (mirror_perm _ _ _ _)) (getElem?_mirror_all (by rw[hB.size];exact hj)))
theorem GR{st:SortSt}{i j:Nat}{Q:Unit->SortSt->Prop}(hB:SQ κ a₀ pd st)(hi:i<a₀.size)(hj:j<=i)(h:∀aE,SQ κ a₀ pd aE->(∀k,(arrOf aE)[k]?=if k=j then (arrOf st)[i]? else if j<k/\k<=i then (arrOf st)[k-1]? else (arrOf st)[k]?)->Q () aE):wpS (model prog w) A E s (moveDown' i j) Q st:=by
 rw[moveDown'_eq];refine fm (h _ (hB.setArr (bubble_perm _ _ _)) fun k=>?_);have:=getElem?_bubble (xs:=arrOf st) (src:=i) (by rw[hB.size];exact hi) (i-j) (by lia) k;rw[show i-(i-j)=j by lia] at this;exact this
end
def Oe(lo cH n:Nat):StateT SortSt Sem (Option Nat):=do
 reverseSlice' lo (lo+n)
 let mut n:=n
 for _ in [n:cH] do
  let some jZ <- ltAt' (lo+n) (lo+n-1)|return none
  if jZ then break
  n:=n+1
 return some n
def Of(lo cH n:Nat):StateT SortSt Sem (Option Nat):=do
 rule "list.sort.descending-run"
 let mut n:=n+1
 let mut neq:=0
 for _ in [n:cH] do
  let some jZ <- ltAt' (lo+n) (lo+n-1)|return none
  if jZ then
   if neq > 0 then reverseSlice' (lo+n-(neq+1)) (lo+n)
   neq:=0
  else
   let some Og <- ltAt' (lo+n-1) (lo+n)|return none
   if Og then break
   neq:=neq+1
  n:=n+1
 if neq > 0 then reverseSlice' (lo+n-(neq+1)) (lo+n)
 Oe lo cH n
theorem uC(lo cH:Nat):countRun' lo cH=(do
 let mut n:=1
 for _ in [1:cH] do
  let some jZ <- ltAt' (lo+n) (lo+n-1)|return none
  if jZ then break
  n:=n+1
 if n==cH then return some n
 if n > 1 then
  let some XN <- ltAt' lo (lo+n-1)|return none
  if XN then return some n
  reverseSlice' lo (lo+n)
 Of lo cH n):=rfl
section
variable {prog:Program} {w:World} {A:Around} {E:Value->Shared->Prop} {s:Shared} {κ:SortKind} {a₀:Array Keyed} {pd:Array (Nat×Nat×Nat)} {key:Keyed->Int} {ar:Array Keyed}
theorem fq(h:∀k,b[k]?=if i<=k/\k<j then a[i+j-1-k]? else a[k]?)(k:Nat):kk key b k=if i<=k/\k<j then kk key a (i+j-1-k) else kk key a k:=by
 unfold kk;rw[h k];split <;> rfl
end
section
variable {prog:Program} {w:World} {A:Around} {E:Value->Shared->Prop} {s:Shared} {κ:SortKind} {a₀:Array Keyed} {pd:Array (Nat×Nat×Nat)} {ck nu:Keyed->Int}
structure Nu(nu:Keyed->Int)(a₀:Array Keyed):Prop where
 up:∀i j,i<j->j<a₀.size->kk nu a₀ i<kk nu a₀ j
 bd:∀x∈a₀.toList,0<=nu x/\nu x<64
structure SK(κ:SortKind)(a₀:Array Keyed)(pd:Array (Nat×Nat×Nat))(nu:Keyed->Int)(k:Nat)(st:SortSt):Prop where
 q:SQ κ a₀ pd st
 rest:∀j,k<=j->(arrOf st)[j]?=a₀[j]?
 nu:∀i j,i<k->k<=j->j<a₀.size->kk nu (arrOf st) i<kk nu (arrOf st) j
theorem SK.bd{k:Nat}{st:SortSt}(N:Nu nu a₀)(h:SK κ a₀ pd nu k st){i:Nat}(hi:i<a₀.size):0<=kk nu (arrOf st) i/\kk nu (arrOf st) i<64:=by
 obtain⟨p,e,m⟩:=h.q.at hi;unfold kk;rw[e];exact N.bd p m
theorem SK.later{k:Nat}{st:SortSt}(N:Nu nu a₀)(h:SK κ a₀ pd nu k st){i j:Nat}(hi:k<=i)(AM:i<j)(hj:j<a₀.size):kk nu (arrOf st) i<kk nu (arrOf st) j:=by
 rw[yC (h.rest i hi),yC (h.rest j (by lia))];exact N.up i j AM hj
theorem SK.up{k:Nat}{st:SortSt}(N:Nu nu a₀)(h:SK κ a₀ pd nu k st){m:Nat}(hm:k<=m):SK κ a₀ pd nu m st:=
 ⟨h.q,fun j hj=>h.rest j (by lia),fun i j hi hj hz=>by
  by_cases c:i<k
  .exact h.nu i j c (by lia) hz
  .exact h.later N (by lia) (by lia) hz⟩
theorem SK.lt{k:Nat}{st:SortSt}(N:Nu nu a₀)(h:SK κ a₀ pd nu k st){i j:Nat}(hi:i<j)(hk:k<=j)(hj:j<a₀.size):kk nu (arrOf st) i<kk nu (arrOf st) j:=by
 by_cases c:i<k
 .exact h.nu i j c hk hj
 .exact h.later N (by lia) hi hj
def xL(ck nu:Keyed->Int)(a:Array Keyed)(hi:Nat):Prop:=∀i j,i<=j->j<hi->64*kk ck a i+kk nu a i<=64*kk ck a j+kk nu a j
def Fw(ck nu:Keyed->Int)(a:Array Keyed)(hi:Nat):Prop:=∀i j,i<=j->j<hi->64*kk ck a j+kk nu a j<=64*kk ck a i+kk nu a i
theorem GS{st:SortSt}{n ok:Nat}{Q:Bool->SortSt->Prop}(hC:Jt prog w A s κ a₀ ck)(N:Nu nu a₀)(hn:n<=a₀.size)(h1:1<=ok)(ce:ok<=n)(hB:SK κ a₀ pd nu ok st)(hs:xL ck nu (arrOf st) ok)(h:∀aE,SK κ a₀ pd nu n aE->xL ck nu (arrOf aE) n->Q true aE):wpS (model prog w) A E s (binarySort' 0 n ok) Q st:=by
 rw[binarySort'_eq];simp only[jb];rw[show max ok 1=ok by lia];refine aF (cY (eG (I:=fun k c aE=>c=(none,())/\SK κ a₀ pd nu k aE/\xL ck nu (arrOf aE) k) (Q:=fun c aE=>c=(none,())/\SK κ a₀ pd nu n aE/\xL ck nu (arrOf aE) n) ?_ (fun c aE hh=>?_) ⟨rfl,hB,hs⟩) ?_)
 .rintro k c aE hk1 My ⟨rfl,yD,so⟩;refine aF (cY (eG (I:=fun x c pY=>(∃l r,c=(none,l,r)/\l<=r/\r<=k/\r<=l+(k-x)/\(∀i,i<l->64*kk ck (arrOf aE) i+kk nu (arrOf aE) i<=64*kk ck (arrOf aE) k+kk nu (arrOf aE) k)/\(∀i,r<=i->i<k->64*kk ck (arrOf aE) k+kk nu (arrOf aE) k<=64*kk ck (arrOf aE) i+kk nu (arrOf aE) i))/\pY=aE)
   (Q:=fun c pY=>(∃l r,c=(none,l,r)/\l<=k/\(∀i,i<l->64*kk ck (arrOf aE) i+kk nu (arrOf aE) i<=64*kk ck (arrOf aE) k+kk nu (arrOf aE) k)/\(∀i,l<=i->i<k->64*kk ck (arrOf aE) k+kk nu (arrOf aE) k<=64*kk ck (arrOf aE) i+kk nu (arrOf aE) i))/\pY=aE) ?_ ?_ ⟨⟨_,_,rfl,bE _,aK _,by lia,fun i h=>by lia,fun i h h'=>by lia⟩,rfl⟩) ?_)
  .rintro x c km _ hx ⟨⟨l,r,rfl,XO,hr,XQ,f1,f2⟩,rfl⟩;dsimp only;by_cases yE:l>=r
   .rw[ao yE];exact aJ ⟨⟨_,_,rfl,by lia,f1,fun i hi q_=>f2 i (by lia) q_⟩,rfl⟩
   .rw[ak yE];refine aF (nU hC yD.q (by lia) (by lia) fun b eb=>?_);have nn:=yD.lt N (i:=(l+r) / 2) (j:=k) (by lia) (aK _) (by lia);have b1:=yD.bd N (i:=(l+r) / 2) (by lia);have b2:=yD.bd N (i:=k) (by lia);cases b
    .have e:=rO eb.symm;refine aJ ⟨⟨_,_,rfl,by lia,hr,by lia,fun i hi=>?_,f2⟩,rfl⟩;have:=so i ((l+r) / 2) (by lia) (by lia);lia
    .have e:=fc eb.symm;refine aJ ⟨⟨_,_,rfl,by lia,by lia,by lia,f1,fun i hi q_=>?_⟩,rfl⟩;have:=so ((l+r) / 2) i (by lia) (by lia);lia
  .rintro c km ⟨⟨l,r,rfl,XO,hr,XQ,f1,f2⟩,rfl⟩;exact⟨⟨_,_,rfl,by lia,f1,fun i hi q_=>f2 i (by lia) q_⟩,rfl⟩
  .rintro c km ⟨⟨l,r,rfl,hl,f1,f2⟩,rfl⟩;dsimp only;refine aF (GR yD.q (by lia) (by lia) fun iS iu hg=>aJ ?_);have ee:∀ (key:Keyed->Int) i,kk key (arrOf iS) i=if i=l then kk key (arrOf km) k else if l<i/\i<=k then kk key (arrOf km) (i-1) else kk key (arrOf km) i:=fun key i=>by
    unfold kk;rw[hg i];split
    .rfl
    .split <;> rfl
   refine⟨rfl,⟨iu,fun j hj=>?_,fun i j hi hj hz=>?_⟩,fun i j h2 h3=>?_⟩
   .rw[hg j,ak (by lia),ak (by lia)];exact yD.rest j (by lia)
   .rw[ee nu j,ak (by lia),ak (by lia),ee nu i];split
    .exact yD.lt N (by lia) (by lia) hz
    .split
     .exact yD.lt N (by lia) (by lia) hz
     .exact yD.lt N (by lia) (by lia) hz
   .rw[ee ck,ee ck,ee nu,ee nu];by_cases c1:i=l
    .rw[ao c1,ao c1];by_cases c2:j=l
     .rw[ao c2,ao c2];exact mB _
     .have c4:l<j/\j<=k:=by lia
      rw[ak c2,ak c2,ao c4,ao c4];exact f2 (j-1) (by lia) (by lia)
    .rw[ak c1,ak c1];by_cases c3:l<i/\i<=k
     .have c2:¬ j=l:=by lia
      have c4:l<j/\j<=k:=by lia
      rw[ao c3,ao c3,ak c2,ak c2,ao c4,ao c4];exact so _ _ (by lia) (by lia)
     .rw[ak c3,ak c3];by_cases c2:j=l
      .rw[ao c2,ao c2];exact f1 i (by lia)
      .rw[ak c2,ak c2];by_cases c4:l<j/\j<=k
       .rw[ao c4,ao c4];exact so _ _ (by lia) (by lia)
       .rw[ak c4,ak c4];exact so _ _ (by lia) (by lia)
 .obtain⟨h2,h3,h4⟩:=hh;have e:max ok n=n:=by lia
  rw[e] at h3 h4;exact⟨h2,h3,h4⟩
 .rintro c aE ⟨rfl,yD,so⟩;exact aJ (h aE yD so)
theorem yF{st:SortSt}{cH n:Nat}{Q:Option (Option Nat)×Nat->SortSt->Prop}(hC:Jt prog w A s κ a₀ ck)(N:Nu nu a₀)(hn:cH<=a₀.size)(h1:1<=n)(h2:n<=cH)(hB:SK κ a₀ pd nu n st)(so:xL ck nu (arrOf st) n)(h:∀m,n<=m->m<=cH->xL ck nu (arrOf st) m->(m=cH\/kk ck (arrOf st) m<kk ck (arrOf st) (m-1))->Q (none,m) st):
  wpS (model prog w) A E s (forIn [n:cH] ((none:Option (Option Nat)),n) fun _ r=>do
   let some jZ <- ltAt' r.2 (r.2-1)|pure (ForInStep.done (some none,r.2))
   if jZ then pure (ForInStep.done (none,r.2)) else pure (ForInStep.yield (none,r.2+1))) Q st:=by
 refine cY (eG (I:=fun i c aE=>aE=st/\c=(none,i)/\xL ck nu (arrOf st) i) (Q:=fun c aE=>aE=st/\∃m,c=(none,m)/\n<=m/\m<=cH/\xL ck nu (arrOf st) m/\(m=cH\/kk ck (arrOf st) m<kk ck (arrOf st) (m-1))) ?_ ?_ ⟨rfl,rfl,so⟩) ?_
 .rintro i c zQ Mz vc ⟨rfl,rfl,MA⟩;dsimp only;have nn:=hB.lt N (i:=i-1) (j:=i) (by lia) (by lia) (by lia);refine aF (nU hC hB.q (by lia) (by lia) fun b eb=>?_);cases b
  .have e:=rO eb.symm;refine aJ ⟨rfl,rfl,fun x y vk hy=>?_⟩;by_cases c1:y<i
   .exact MA x y vk c1
   .have:y=i:=by lia
    subst this;by_cases c2:x=y
    .rw[c2];exact mB _
    .have:=MA x (y-1) (by lia) (by lia);lia
  .exact aJ ⟨rfl,_,rfl,by lia,by lia,MA,.inr (fc eb.symm)⟩
 .rintro c zQ ⟨rfl,rfl,MA⟩;have:max n cH=cH:=by lia
  rw[this] at MA |-;exact⟨rfl,_,rfl,by lia,by lia,MA,.inl rfl⟩
 .rintro c zQ ⟨rfl,m,rfl,m1,m2,MA,e⟩;exact h m m1 m2 MA e
theorem SK.rev{st aE:SortSt}{b i:Nat}(N:Nu nu a₀)(hB:SK κ a₀ pd nu b st)(hb:b<=i)(hi:i<=a₀.size)(hq:SQ κ a₀ pd aE)(hg:∀k,(arrOf aE)[k]?=if b<=k/\k<i then (arrOf st)[b+i-1-k]? else (arrOf st)[k]?):SK κ a₀ pd nu i aE:=
 ⟨hq,fun j hj=>by rw[hg j,ak (by lia)];exact hB.rest j (by lia),fun x j hx hj hz=>by
  rw[fq hg,fq hg,ak (by lia:¬ (b<=j/\j<i))];split
  .exact hB.lt N (by lia) (by lia) hz
  .exact hB.lt N (by lia) (by lia) hz⟩
theorem Fw.rev{st aE:SortSt}{b i:Nat}(N:Nu nu a₀)(hB:SK κ a₀ pd nu b st)(hb:b<=i)(hi:i<=a₀.size)(hg:∀k,(arrOf aE)[k]?=if b<=k/\k<i then (arrOf st)[b+i-1-k]? else (arrOf st)[k]?)(de:Fw ck nu (arrOf st) b)(d1:∀x y,x<b->b<=y->y<i->kk ck (arrOf st) y<kk ck (arrOf st) x)(d2:∀x,b<=x->x<i->kk ck (arrOf st) x=kk ck (arrOf st) (i-1)):Fw ck nu (arrOf aE) i:=fun x y vk hy=>by
 rw[fq hg,fq hg,fq hg,fq hg];by_cases cy:b<=y
 .rw[ao (by lia:b<=y/\y<i),ao (by lia:b<=y/\y<i)];have by1:=hB.bd N (i:=b+i-1-y) (by lia);by_cases cx:b<=x
  .rw[ao (by lia:b<=x/\x<i),ao (by lia:b<=x/\x<i)];have e1:=d2 (b+i-1-x) (by lia) (by lia);have e2:=d2 (b+i-1-y) (by lia) (by lia);by_cases c:x=y
   .rw[c];exact mB _
   .have:=hB.later N (i:=b+i-1-y) (j:=b+i-1-x) (by lia) (by lia) (by lia);lia
  .rw[ak (by lia:¬ (b<=x/\x<i)),ak (by lia:¬ (b<=x/\x<i))];have:=d1 x (b+i-1-y) (by lia) (by lia) (by lia);have bx:=hB.bd N (i:=x) (by lia);lia
 .rw[ak (by lia:¬ (b<=y/\y<i)),ak (by lia:¬ (b<=y/\y<i)),ak (by lia:¬ (b<=x/\x<i)),ak (by lia:¬ (b<=x/\x<i))];exact de x y vk (by lia)
theorem wP{a:Array Keyed}{b:Nat}:∀k,a[k]?=if b<=k/\k<b+1 then a[b+(b+1)-1-k]? else a[k]?:=fun k=>by
 split
 .rename_i c;rw[show b+(b+1)-1-k=k by lia]
 .rfl
theorem yG{st:SortSt}{cH n:Nat}{Q:Option Nat->SortSt->Prop}(hC:Jt prog w A s κ a₀ ck)(N:Nu nu a₀)(hn:cH<=a₀.size)(h1:1<=n)(h2:n<=cH)(hB:SK κ a₀ pd nu n st)(de:Fw ck nu (arrOf st) n)(h:∀n aE,SK κ a₀ pd nu n aE->1<=n->n<=cH->xL ck nu (arrOf aE) n->Q (some n) aE):wpS (model prog w) A E s (Oe 0 cH n) Q st:=by
 unfold Oe;simp only[jb];refine aF (rc hB.q (by lia) fun km Mp hg=>?_);have oG:SK κ a₀ pd nu n km:=⟨Mp,fun j hj=>by rw[hg j,ak (by lia)];exact hB.rest j hj,fun i j hi hj hz=>by
  rw[fq hg,fq hg,ak (by lia:¬ (0<=j/\j<n))];split
  .exact hB.nu _ _ (by lia) hj hz
  .exact hB.nu _ _ hi hj hz⟩
 refine aF (yF hC N hn h1 h2 oG (fun i j AM hj=>?_) fun m m1 m2 so _=>?_)
 .rw[fq hg,fq hg,fq hg,fq hg,ao (by lia),ao (by lia),ao (by lia),ao (by lia)];exact de _ _ (by lia) (by lia)
 .exact aJ (h m km (oG.up N m1) (by lia) m2 so)
theorem yH{st:SortSt}{cH n:Nat}{Q:Option Nat->SortSt->Prop}(hC:Jt prog w A s κ a₀ ck)(N:Nu nu a₀)(hn:cH<=a₀.size)(h1:1<=n)(h2:n<cH)(hB:SK κ a₀ pd nu n st)(de:Fw ck nu (arrOf st) n)(d1:∀x,x<n->kk ck (arrOf st) n<kk ck (arrOf st) x)(h:∀n aE,SK κ a₀ pd nu n aE->1<=n->n<=cH->xL ck nu (arrOf aE) n->Q (some n) aE):wpS (model prog w) A E s (Of 0 cH n) Q st:=by
 unfold Of;simp only[jb];refine aF (je (fE ⟨rfl,?_⟩));refine aF (cY (eG (I:=fun i c aE=>∃q b,c=(none,i,q)/\i=b+(q+1)/\SK κ a₀ pd nu b aE/\Fw ck nu (arrOf aE) b/\(∀x y,x<b->b<=y->y<i->kk ck (arrOf aE) y<kk ck (arrOf aE) x)/\∀x,b<=x->x<i->kk ck (arrOf aE) x=kk ck (arrOf aE) (i-1))
  (Q:=fun c aE=>∃i q b,c=(none,i,q)/\i<=cH/\i=b+(q+1)/\SK κ a₀ pd nu b aE/\Fw ck nu (arrOf aE) b/\(∀x y,x<b->b<=y->y<i->kk ck (arrOf aE) y<kk ck (arrOf aE) x)/\∀x,b<=x->x<i->kk ck (arrOf aE) x=kk ck (arrOf aE) (i-1)) ?_ ?_ ⟨0,n,rfl,rfl,hB,de,fun x y hx hy VY=>by rw[show y=n by lia];exact d1 x hx,fun x hx sE=>by rw[show x=n by lia];rfl⟩) ?_)
 .rintro i c iS Mz vc ⟨q,b,rfl,rfl,iu,MB,d3,e3⟩;dsimp only;have step:∀aE,SQ κ a₀ pd aE->(∀k,(arrOf aE)[k]?=if b<=k/\k<b+(q+1) then (arrOf iS)[b+(b+(q+1))-1-k]? else (arrOf iS)[k]?)->kk ck (arrOf iS) (b+(q+1))<kk ck (arrOf iS) (b+(q+1)-1)->
    SK κ a₀ pd nu (b+(q+1)) aE/\Fw ck nu (arrOf aE) (b+(q+1))/\(∀x y,x<b+(q+1)->b+(q+1)<=y->y<b+(q+1)+1->kk ck (arrOf aE) y<kk ck (arrOf aE) x):=fun aE hq hg lt=>by
   refine⟨iu.rev N (by lia) (by lia) hq hg,Fw.rev N iu (by lia) (by lia) hg MB d3 e3,fun x y hx hy VY=>?_⟩;rw[show y=b+(q+1) by lia,fq hg,fq hg,ak (by lia)];split
   .rw[e3 (b+(b+(q+1))-1-x) (by lia) (by lia)];exact lt
   .have:=d3 x (b+(q+1)-1) (by lia) (by lia) (by lia);lia
  refine aF (nU hC iu.q (by lia) (by lia) fun b3 eb3=>?_);cases b3
  .have XR:=rO eb3.symm;dsimp only;rw[ak (by decide)];refine aF (nU hC iu.q (by lia) (by lia) fun b4 eb4=>?_);cases b4
   .have e4':=rO eb4.symm;have eq:kk ck (arrOf iS) (b+(q+1))=kk ck (arrOf iS) (b+(q+1)-1):=by lia
    refine aJ ⟨q+1,b,rfl,rfl,iu,MB,fun x y hx hy VY=>?_,fun x hx sE=>?_⟩
    .by_cases c:y<b+(q+1)
     .exact d3 x y hx hy c
     .rw[show y=b+(q+1) by lia,eq];exact d3 x _ hx (by lia) (by lia)
    .rw[show b+(q+1)+1-1=b+(q+1) by lia];by_cases c:x<b+(q+1)
     .rw[e3 x hx c,eq]
     .rw[show x=b+(q+1) by lia]
   .exact aJ ⟨_,_,_,rfl,by lia,rfl,iu,MB,d3,e3⟩
  .have XR:=fc eb3.symm;dsimp only;rw[ao rfl];split
   .rename_i cq;rw[show b+(q+1)-(q+1)=b by lia];refine aF (rc iu.q (by lia) fun qI XS hg=>aJ ?_);obtain⟨s1,s2,s3⟩:=step qI XS hg XR;exact⟨0,b+(q+1),rfl,rfl,s1,s2,s3,fun x hx sE=>by rw[show x=b+(q+1) by lia];rfl⟩
   .rename_i cq;have cq:q=0:=by lia
    subst cq;obtain⟨s1,s2,s3⟩:=step iS iu.q wP XR;exact aJ ⟨0,b+(0+1),rfl,rfl,s1,s2,s3,fun x hx sE=>by rw[show x=b+(0+1) by lia];rfl⟩
 .rintro c iS ⟨q,b,rfl,e,iu,MB,d3,e3⟩;have:max (n+1) cH=cH:=by lia
  rw[this] at e d3 e3 |-;exact⟨_,_,_,rfl,by lia,e,iu,MB,d3,e3⟩
 .rintro c iS ⟨i,q,b,rfl,hi,rfl,iu,MB,d3,e3⟩;dsimp only;split
  .rename_i cq;rw[show b+(q+1)-(q+1)=b by lia];refine aF (rc iu.q (by lia) fun qI XS hg=>?_);exact yG hC N hn (by lia) hi (iu.rev N (by lia) (by lia) XS hg) (Fw.rev N iu (by lia) (by lia) hg MB d3 e3) h
  .rename_i cq;have cq:q=0:=by lia
   subst cq;exact yG hC N hn (by lia) hi (iu.rev N (by lia) (by lia) iu.q wP) (Fw.rev N iu (by lia) (by lia) wP MB d3 e3) h
theorem Bk{st:SortSt}{cH:Nat}{Q:Option Nat->SortSt->Prop}(hC:Jt prog w A s κ a₀ ck)(N:Nu nu a₀)(hn:cH<=a₀.size)(h1:1<=cH)(hB:SK κ a₀ pd nu 0 st)(h:∀n aE,SK κ a₀ pd nu n aE->1<=n->n<=cH->xL ck nu (arrOf aE) n->Q (some n) aE):wpS (model prog w) A E s (countRun' 0 cH) Q st:=by
 rw[uC];simp only[jb];refine aF (yF hC N hn (aK 1) h1 (hB.up N (bE 1)) (fun i j AM hj=>by rw[show i=j by lia];exact mB _) fun n n1 n2 so e=>?_);dsimp only;by_cases e1:(n==cH)=true
 .rw[ao e1];exact aJ (h n st (hB.up N (by lia)) n1 n2 so)
 rw[ak e1];have g1:¬ (n=cH):=by simpa using e1
 have dZ:kk ck (arrOf st) n<kk ck (arrOf st) (n-1):=e.resolve_left g1;by_cases e2:n > 1
 .rw[ao e2];refine aF (nU hC hB.q (by lia) (by lia) fun b2 eb=>?_);cases b2
  .have e3:=rO eb.symm;dsimp only;rw[ak (by decide)];have eq:∀k,0<=k->k<n->kk ck (arrOf st) k=kk ck (arrOf st) (n-1):=fun k _ My=>by
    have a1:=so 0 k (by lia) My;have a2:=so k (n-1) (by lia) (by lia);have c0:=hB.bd N (i:=0) (by lia);have c1:=hB.bd N (i:=k) (by lia);have c2:=hB.bd N (i:=n-1) (by lia);lia
   refine aF (rc hB.q (by lia) fun km Mp hg=>?_);have VZ:∀k,(arrOf km)[k]?=if 0<=k/\k<n then (arrOf st)[0+n-1-k]? else (arrOf st)[k]?:=hg
   refine yH hC N hn n1 (by lia) (hB.rev N (by lia) (by lia) Mp VZ) (Fw.rev N hB (by lia) (by lia) VZ (fun i j AM hj=>by lia) (fun x y hx _ _=>by lia) eq) (fun x hx=>?_) h;rw[fq VZ,fq VZ,ak (by lia:¬ (0<=n/\n<n)),ao (by lia:0<=x/\x<n),eq (0+n-1-x) (by lia) (by lia)];exact dZ
  .exact aJ (h n st (hB.up N (by lia)) n1 n2 so)
 .rw[ak e2];have:n=1:=by lia
  subst this;refine yH hC N hn n1 (by lia) (hB.up N (by lia)) (fun i j AM hj=>by rw[show i=j by lia];exact mB _) (fun x hx=>?_) h;rw[show x=1-1 by lia];exact dZ
theorem tJ{st:SortSt}{Q:Unit->SortSt->Prop}(hC:Jt prog w A s κ a₀ ck)(N:Nu nu a₀)(ha:arrOf st=a₀)(hk:kindOf st=κ)(hf:failedOf st=none)(Oh:pendingOf st=#[])(h2:2<=a₀.size)(Js:a₀.size<64)(h:∀aE,(arrOf aE).Perm a₀->failedOf aE=none->xL ck nu (arrOf aE) a₀.size->Q () aE):wpS (model prog w) A E s sortRuns' Q st:=by
 rw[sortRuns'_eq];refine aF (eM ?_);dsimp only;have hmr:minRun' a₀.size a₀.size 0=a₀.size:=by
  obtain⟨f,hf⟩:∃f,a₀.size=f+1:=⟨a₀.size-1,by lia⟩
  have:minRun' (f+1) a₀.size 0=a₀.size:=by rw[minRun'_succ,ao Js];rfl
  rwa [<-hf] at this
 rw[ha];simp only[hmr];have hB:SK κ a₀ #[] nu 0 st:=⟨⟨by rw[ha],hk,hf,Oh⟩,fun j _=>by rw[ha],fun i j hi _ _=>absurd hi (v6 _)⟩
 refine aF (cY (eG
  (I:=fun x c aE=>(x=0/\c=(none,0)/\SK κ a₀ #[] nu 0 aE)\/(1<=x/\c=(none,a₀.size)/\SQ κ a₀ #[(0,a₀.size,0)] aE/\xL ck nu (arrOf aE) a₀.size))
  (Q:=fun c aE=>c=(none,a₀.size)/\SQ κ a₀ #[(0,a₀.size,0)] aE/\xL ck nu (arrOf aE) a₀.size) ?step ?dQ (.inl ⟨rfl,rfl,hB⟩)) ?post)
 case dQ=>
  rintro c aE (⟨hx,_,_⟩|⟨_,hc,hD⟩)
  .lia
  .exact⟨hc,hD⟩
 case step=>
  rintro x c aE _ hx (⟨rfl,rfl,yD⟩|⟨hx1,rfl,hD⟩)
  .dsimp only;rw[ak (by lia)];simp only[wa,sj,jb];have dQ:∀ {iS:SortSt},SK κ a₀ #[] nu a₀.size iS->xL ck nu (arrOf iS) a₀.size->SQ κ a₀ #[(0,a₀.size,0)] (setPending iS ((pendingOf iS).push (0,a₀.size,0)))/\xL ck nu (arrOf (setPending iS ((pendingOf iS).push (0,a₀.size,0)))) a₀.size:=fun {iS} k so=>⟨⟨k.q.perm,k.q.kind,k.q.failed,by show (pendingOf iS).push _=_;rw[k.q.pend];rfl⟩,so⟩
   refine aF (Bk hC N (aK _) (by lia) yD fun m km oG hm1 N4 lJ=>?_);dsimp only;by_cases dZ:m<a₀.size
   .rw[ao dZ];refine aF (je (fE ⟨rfl,?_⟩));refine aF (GS hC N (aK _) hm1 N4 oG lJ fun iS iu Xd=>?_);simp only[sf,ic,dY];refine aF (eM ?_);have hb:(pendingOf iS).back?=none:=by rw[iu.q.pend];rfl
    rw[hb];dsimp only;exact aF (fm (aJ (.inr ⟨by lia,rfl,dQ iu Xd⟩)))
   .rw[ak dZ];have hm:m=a₀.size:=by lia
    subst hm;refine aF (eM ?_);have hb:(pendingOf km).back?=none:=by rw[oG.q.pend];rfl
    rw[hb];dsimp only;exact aF (fm (aJ (.inr ⟨by lia,rfl,dQ oG lJ⟩)))
  .dsimp only;rw[ao (aK _)];exact aJ ⟨rfl,hD⟩
 case post=>
  rintro c aE ⟨rfl,hD⟩;dsimp only;refine aF (cY (eG (I:=fun _ c pY=>pY=aE/\c=(none,())) (Q:=fun c pY=>pY=aE/\c=(none,())) ?_ (fun _ _ hh=>hh) ⟨rfl,rfl⟩) ?_)
  .rintro x c pY _ _ ⟨rfl,rfl⟩;refine aF (eM ?_);rw[ao (by rw[hD.1.pend];exact aK 1)];exact aJ ⟨rfl,rfl⟩
  .rintro c pY ⟨rfl,rfl⟩;exact aJ (h _ hD.1.perm hD.1.failed hD.2)
end
def lm(prog:Program)(w:World)(A:Around)(s:Shared)(κ:SortKind)(a₀:Array Keyed):Prop:=
 ∀x y,x∈a₀.toList->y∈a₀.toList->∀ (Q:Bool->Shared->Prop) (E:Value->Shared->Prop),(∀b,Q b s)->wpAny (model prog w) A (keyLt' κ x.1 y.1) Q E s
section
variable {prog:Program} {w:World} {A:Around} {E:Value->Shared->Prop} {s:Shared} {κ:SortKind} {a₀:Array Keyed} {pd:Array (Nat×Nat×Nat)}
theorem nV{st:SortSt}{x y:Keyed}{Q:Option Bool->SortSt->Prop}(hC:lm prog w A s κ a₀)(hk:kindOf st=κ)(hx:x∈a₀.toList)(hy:y∈a₀.toList)(h:∀b,Q (some b) st):wpS (model prog w) A E s (lt' x y) Q st:=by
 rw[lt'_eq];refine aF (eM ?_);rw[hk];refine aF (je (jN (hC x y hx hy _ _ fun b=>⟨rfl,?_⟩)));exact aJ (h b)
theorem eU{st:SortSt}{i j:Nat}{Q:Option Bool->SortSt->Prop}(hC:lm prog w A s κ a₀)(hB:SQ κ a₀ pd st)(hi:i<a₀.size)(hj:j<a₀.size)(h:∀b,Q (some b) st):wpS (model prog w) A E s (ltAt' i j) Q st:=by
 obtain⟨p,e1,m1⟩:=hB.at hi;obtain⟨q,e2,m2⟩:=hB.at hj;rw[ltAt'_eq];refine aF (eM ?_);exact aF (bn e1 (aF (bn e2 (nV hC hB.kind m1 m2 h))))
theorem f9{st:SortSt}{i j:Nat}{Q:Unit->SortSt->Prop}(hB:SQ κ a₀ pd st)(h:∀aE,SQ κ a₀ pd aE->Q () aE):wpS (model prog w) A E s (reverseSlice' i j) Q st:=by
 rw[reverseSlice'_eq];exact fm (h _ (hB.setArr (mirror_perm _ _ _ _)))
theorem Ey{st:SortSt}{i j:Nat}{Q:Unit->SortSt->Prop}(hB:SQ κ a₀ pd st)(h:∀aE,SQ κ a₀ pd aE->Q () aE):wpS (model prog w) A E s (moveDown' i j) Q st:=by
 rw[moveDown'_eq];exact fm (h _ (hB.setArr (bubble_perm _ _ _)))
theorem GT{st:SortSt}{lo n ok:Nat}{Q:Bool->SortSt->Prop}(hC:lm prog w A s κ a₀)(hn:lo+n<=a₀.size)(hB:SQ κ a₀ pd st)(h:∀aE,SQ κ a₀ pd aE->Q true aE):wpS (model prog w) A E s (binarySort' lo n ok) Q st:=by
 rw[binarySort'_eq];refine aF (cY (eG (I:=fun _ c aE=>c=(none,())/\SQ κ a₀ pd aE) (Q:=fun c aE=>c=(none,())/\SQ κ a₀ pd aE) ?_ (fun c aE hh=>hh) ⟨rfl,hB⟩) ?_)
 .rintro k c aE hk1 My ⟨rfl,yD⟩;dsimp only;refine aF (cY (eG (I:=fun _ c pY=>(∃l r,c=(none,l,r)/\r<=k)/\SQ κ a₀ pd pY) (Q:=fun c pY=>(∃l r,c=(none,l,r)/\r<=k)/\SQ κ a₀ pd pY) ?_ (fun c aE hh=>hh) ⟨⟨_,_,rfl,aK _⟩,yD⟩) ?_)
  .rintro x c km _ _ ⟨⟨l,r,rfl,hr⟩,oG⟩;dsimp only;by_cases yE:l>=r
   .rw[ao yE];exact aJ ⟨⟨_,_,rfl,hr⟩,oG⟩
   .rw[ak yE];refine aF (eU hC oG (by lia) (by lia) fun b=>?_);cases b
    .exact aJ ⟨⟨_,_,rfl,hr⟩,oG⟩
    .exact aJ ⟨⟨_,_,rfl,by lia⟩,oG⟩
  .rintro c km ⟨⟨l,r,rfl,hr⟩,oG⟩;dsimp only;exact aF (Ey oG fun iS iu=>aJ ⟨rfl,iu⟩)
 .rintro c aE ⟨rfl,yD⟩;exact aJ (h aE yD)
end
theorem Bm(left:Bool)(key:Keyed)(arr:Array Keyed)(base n mP:Nat):iW left key arr base n mP=(do
 let wQ (i:Nat):StateT SortSt Sem (Option Bool):=do
  let x <- elem' arr (base+i)
  if left then lt' x key else return (<-lt' key x).map (!·)
 let mut lastofs:=0
 let mut ofs:=1
 let mut lo:=0
 let mut hi:=0
 let some right <- wQ mP|return none
 if right then
  let tK:=n-mP
  for _ in [0:n] do
   if ofs>=tK then break
   let some more <- wQ (mP+ofs)|return none
   if !more then break
   lastofs:=ofs
   ofs:=2*ofs+1
  lo:=mP+lastofs+1
  hi:=mP+min ofs tK
 else
  let tK:=mP+1
  for _ in [0:n] do
   if ofs>=tK then break
   let some GU <- wQ (mP-ofs)|return none
   if GU then break
   lastofs:=ofs
   ofs:=2*ofs+1
  lo:=mP+1-min ofs tK
  hi:=mP-lastofs
 for _ in [0:n] do
  if lo>=hi then break
  let m:=lo+(hi-lo) / 2
  let some more <- wQ m|return none
  if more then lo:=m+1 else hi:=m
 return some hi):=rfl
section
variable {prog:Program} {w:World} {A:Around} {E:Value->Shared->Prop} {s:Shared} {κ:SortKind} {a₀:Array Keyed} {pd:Array (Nat×Nat×Nat)}
theorem iJ{st:SortSt}{left:Bool}{key:Keyed}{arr:Array Keyed}{j:Nat}{Q:Option Bool->SortSt->Prop}(hC:lm prog w A s κ a₀)(hk:kindOf st=κ)(ur:key∈a₀.toList)(vo:∀x∈arr.toList,x∈a₀.toList)(hj:j<arr.size)(h:∀b,Q (some b) st):
  wpS (model prog w) A E s (do
  let x <- elem' arr j
  if left then lt' x key else return (<-lt' key x).map (!·)) Q st:=by
 have hm:arr[j]∈a₀.toList:=vo _ (by simp);refine aF (bn (dX arr j hj) ?_);cases left
 .rw[ak (by decide)];exact aF (nV hC hk ur hm fun b=>aJ (h (!b)))
 .rw[ao rfl];exact nV hC hk hm ur h
theorem gJ{st:SortSt}{left:Bool}{key:Keyed}{arr:Array Keyed}{base n mP:Nat}{Q:Option Nat->SortSt->Prop}(hC:lm prog w A s κ a₀)(hk:kindOf st=κ)(ur:key∈a₀.toList)(vo:∀x∈arr.toList,x∈a₀.toList)(hn:base+n<=arr.size)(hh:mP<n)(h:∀k,k<=n->Q (some k) st):wpS (model prog w) A E s (iW left key arr base n mP) Q st:=by
 rw[Bm];refine aF (iJ hC hk ur vo (by lia) fun right=>?_);cases right
 .dsimp only;rw[ak (by decide)];refine aF (cY (eG (I:=fun _ c aE=>(∃l o,c=(none,l,o))/\st=aE) (Q:=fun c aE=>(∃l o,c=(none,l,o))/\st=aE) ?_ (fun c aE hh=>hh) ⟨⟨_,_,rfl⟩,rfl⟩) ?_)
  .rintro x c aE _ _ ⟨⟨l,o,rfl⟩,rfl⟩;dsimp only;by_cases yE:o>=mP+1
   .rw[ao yE];exact aJ ⟨⟨_,_,rfl⟩,rfl⟩
   .rw[ak yE];refine aF (iJ hC hk ur vo (by lia) fun GU=>?_);cases GU
    .exact aJ ⟨⟨_,_,rfl⟩,rfl⟩
    .exact aJ ⟨⟨_,_,rfl⟩,rfl⟩
  .rintro c aE ⟨⟨l,o,rfl⟩,rfl⟩;dsimp only;refine aF (cY (eG (I:=fun _ c aE=>(∃l u,c=(none,l,u)/\u<=n)/\st=aE) (Q:=fun c aE=>(∃l u,c=(none,l,u)/\u<=n)/\st=aE) ?_ (fun c aE hh=>hh) ⟨⟨_,_,rfl,by lia⟩,rfl⟩) ?_)
   .rintro x c aE _ _ ⟨⟨l,u,rfl,hu⟩,rfl⟩;dsimp only;by_cases yE:l>=u
    .rw[ao yE];exact aJ ⟨⟨_,_,rfl,hu⟩,rfl⟩
    .rw[ak yE];refine aF (iJ hC hk ur vo (by lia) fun more=>?_);cases more
     .exact aJ ⟨⟨_,_,rfl,by lia⟩,rfl⟩
     .exact aJ ⟨⟨_,_,rfl,hu⟩,rfl⟩
   .rintro c aE ⟨⟨l,u,rfl,hu⟩,rfl⟩;exact aJ (h u hu)
 .dsimp only;rw[ao rfl];refine aF (cY (eG (I:=fun _ c aE=>(∃l o,c=(none,l,o))/\st=aE) (Q:=fun c aE=>(∃l o,c=(none,l,o))/\st=aE) ?_ (fun c aE hh=>hh) ⟨⟨_,_,rfl⟩,rfl⟩) ?_)
  .rintro x c aE _ _ ⟨⟨l,o,rfl⟩,rfl⟩;dsimp only;by_cases yE:o>=n-mP
   .rw[ao yE];exact aJ ⟨⟨_,_,rfl⟩,rfl⟩
   .rw[ak yE];refine aF (iJ hC hk ur vo (by lia) fun more=>?_);cases more
    .exact aJ ⟨⟨_,_,rfl⟩,rfl⟩
    .exact aJ ⟨⟨_,_,rfl⟩,rfl⟩
  .rintro c aE ⟨⟨l,o,rfl⟩,rfl⟩;dsimp only;refine aF (cY (eG (I:=fun _ c aE=>(∃l u,c=(none,l,u)/\u<=n)/\st=aE) (Q:=fun c aE=>(∃l u,c=(none,l,u)/\u<=n)/\st=aE) ?_ (fun c aE hh=>hh) ⟨⟨_,_,rfl,by lia⟩,rfl⟩) ?_)
   .rintro x c aE _ _ ⟨⟨l,u,rfl,hu⟩,rfl⟩;dsimp only;by_cases yE:l>=u
    .rw[ao yE];exact aJ ⟨⟨_,_,rfl,hu⟩,rfl⟩
    .rw[ak yE];refine aF (iJ hC hk ur vo (by lia) fun more=>?_);cases more
     .exact aJ ⟨⟨_,_,rfl,by lia⟩,rfl⟩
     .exact aJ ⟨⟨_,_,rfl,hu⟩,rfl⟩
   .rintro c aE ⟨⟨l,u,rfl,hu⟩,rfl⟩;exact aJ (h u hu)
end
structure SM(κ:SortKind)(ar:Array Keyed)(pd:Array (Nat×Nat×Nat))(st:SortSt):Prop where
 arr:arrOf st=ar
 kind:kindOf st=κ
 failed:failedOf st=none
 pend:pendingOf st=pd
abbrev qJ:=Option (Array Keyed)
abbrev vp:=StateT SortSt Sem
def yI{τ:Type}(c:Bool)(d:Prop)[Decidable d](r:Array Keyed)(t:τ):vp (ForInStep (qJ×τ)):=if c then pure (.done (some r,t)) else if d then pure (.done (none,t)) else pure (.yield (none,t))
def mgO{α β γ:Type}(N:Nat)(f:Nat->qJ×α×β×γ×Nat×Nat->vp (ForInStep (qJ×α×β×γ×Nat×Nat)))(g:qJ×α×β×γ×Nat×Nat×Nat->vp (ForInStep (qJ×α×β×γ×Nat×Nat×Nat)))(s:qJ×α×β×γ×Nat):vp (ForInStep (qJ×α×β×γ×Nat)):=do
 let t <- forIn [0:N] ((none,s.2.1,s.2.2.1,s.2.2.2.1,0,0):qJ×α×β×γ×Nat×Nat) fun _ t=>f s.2.2.2.2 t
 match t.1 with
 |some r=>pure (.done (some r,t.2.1,t.2.2.1,t.2.2.2.1,s.2.2.2.2))
 |none=>do
  liftM (rule "list.sort.gallop")
  let u <- forIn [0:N] ((none,t.2.1,t.2.2.1,t.2.2.2.1,s.2.2.2.2+1,t.2.2.2.2.1,t.2.2.2.2.2):qJ×α×β×γ×Nat×Nat×Nat) fun _ u=>g u
  match u.1 with
  |some r=>pure (.done (some r,u.2.1,u.2.2.1,u.2.2.2.1,u.2.2.2.2.1))
  |none=>do
   jg (u.2.2.2.2.1+1)
   pure (.yield (none,u.2.1,u.2.2.1,u.2.2.2.1,u.2.2.2.2.1+1))
def V0{α β γ:Type}(N:Nat)(f:Nat->qJ×α×β×γ×Nat×Nat->vp (ForInStep (qJ×α×β×γ×Nat×Nat)))(g:qJ×α×β×γ×Nat×Nat×Nat->vp (ForInStep (qJ×α×β×γ×Nat×Nat×Nat)))(x:α)(y:β)(z:γ):vp (Array Keyed):=do
 let st <- get
 let s <- forIn [0:N] ((none,x,y,z,gallopOf st):qJ×α×β×γ×Nat) fun _ s=>mgO N f g s
 match s.1 with
 |some r=>pure r
 |none=>liftM (unsupported "internal:list.sort.merge-bound")
section
variable {prog:Program} {w:World} {A:Around} {E:Value->Shared->Prop} {s:Shared} {κ:SortKind} {a₀:Array Keyed} {pd:Array (Nat×Nat×Nat)} {ar:Array Keyed} {F:Array Keyed->Prop}
def GP{τ:Type}(κ:SortKind)(ar:Array Keyed)(pd:Array (Nat×Nat×Nat))(F:Array Keyed->Prop)(D J:τ->Prop)(r:ForInStep (qJ×τ))(st:SortSt):Prop:=SM κ ar pd st/\
 ((∃x t,r=.done (some x,t)/\F x)\/(∃t,r=.done (none,t)/\D t)\/∃t,r=.yield (none,t)/\J t)
theorem f_{τ:Type}{D J:τ->Prop}{st:SortSt}{x:Array Keyed}{t:τ}(m:SM κ ar pd st)(h:F x):wpS (model prog w) A E s (pure (.done (some x,t))) (GP κ ar pd F D J) st:=aJ ⟨m,.inl ⟨_,_,rfl,h⟩⟩
theorem jw{τ:Type}{D J:τ->Prop}{c:Bool}{d:Prop}[Decidable d]{r:Array Keyed}{t:τ}{st:SortSt}(m:SM κ ar pd st)(h1:c=true->F r)(h2:c=false->D t/\J t):wpS (model prog w) A E s (yI c d r t) (GP κ ar pd F D J) st:=by
 unfold yI;cases c
 .rw[ak cw];split
  .exact aJ ⟨m,.inr (.inl ⟨_,rfl,(h2 rfl).1⟩)⟩
  .exact aJ ⟨m,.inr (.inr ⟨_,rfl,(h2 rfl).2⟩)⟩
 .rw[ao rfl];exact f_ m (h1 rfl)
theorem pZ{τ:Type}{D:τ->Prop}{J:Nat->τ->Prop}{N:Nat}{f:qJ×τ->vp (ForInStep (qJ×τ))}{t:τ}{st:SortSt}{Q:qJ×τ->SortSt->Prop}(m:SM κ ar pd st)(hJ:J 0 t)(up:∀t,J N t->D t)(b:∀t st,SM κ ar pd st->∀i,J i t->wpS (model prog w) A E s (f (none,t)) (GP κ ar pd F D (J (i+1))) st)(h1:∀x t aE,SM κ ar pd aE->F x->Q (some x,t) aE)(h2:∀t aE,SM κ ar pd aE->D t->Q (none,t) aE):wpS (model prog w) A E s (forIn [0:N] ((none,t):qJ×τ) fun _ c=>f c) Q st:=by
 refine eG (I:=fun i c aE=>c.1=none/\SM κ ar pd aE/\J i c.2) ?_ ?_ ⟨rfl,m,hJ⟩
 .rintro i ⟨_,t⟩ aE _ _ ⟨rfl,m',j⟩;refine cY (b t aE m' i j) ?_;rintro r km ⟨m2,⟨x,t,rfl,h⟩|⟨t,rfl,h⟩|⟨t,rfl,h⟩⟩
  .exact h1 _ _ _ m2 h
  .exact h2 _ _ m2 h
  .exact⟨rfl,m2,h⟩
 .rintro⟨_,t⟩ aE ⟨rfl,m',j⟩;rw[Nat.max_eq_right (bE _)] at j;exact h2 _ _ m' (up _ j)
theorem C2{α β γ:Type}{N:Nat}{f:Nat->qJ×α×β×γ×Nat×Nat->vp (ForInStep (qJ×α×β×γ×Nat×Nat))}{g:qJ×α×β×γ×Nat×Nat×Nat->vp (ForInStep (qJ×α×β×γ×Nat×Nat×Nat))}{x:α}{y:β}{z:γ}{J:Nat->α->β->γ->Prop}{st:SortSt}{Q:Array Keyed->SortSt->Prop}(m:SM κ ar pd st)(h0:J 0 x y z)(dn:∀i k x y z,J (i+k) x y z->J i x y z)(no:∀x y z,¬ J N x y z)(N1:1<=N)(hf:∀mg n k x y z p st,SM κ ar pd st->J (n+k) x y z->wpS (model prog w) A E s (f mg (none,x,y,z,p)) (GP κ ar pd F (fun t=>J (n+1) t.1 t.2.1 t.2.2.1) fun t=>J (n+(k+1)) t.1 t.2.1 t.2.2.1) st)(hg:∀n x y z p st,SM κ ar pd st->J n x y z->wpS (model prog w) A E s (g (none,x,y,z,p)) (GP κ ar pd F (fun t=>J n t.1 t.2.1 t.2.2.1) fun t=>J n t.1 t.2.1 t.2.2.1) st)(h:∀x aE,F x->SM κ ar pd aE->Q x aE):wpS (model prog w) A E s (V0 N f g x y z) Q st:=by
 unfold V0;refine aF (eM ?_);refine aF (pZ (F:=F) (D:=fun _=>False) (J:=fun n (t:α×β×γ×Nat)=>J n t.1 t.2.1 t.2.2.1) m h0 (fun t h=>no _ _ _ h) ?_ (fun x t st m hx=>aJ (h _ _ hx m)) fun t st m j=>j.elim);intro t st m i j;unfold mgO;refine aF (pZ (F:=F) (D:=fun t=>J (i+1) t.1 t.2.1 t.2.2.1) (J:=fun n (t:α×β×γ×Nat×Nat)=>J (i+n) t.1 t.2.1 t.2.2.1) m j (fun t h=>dn _ (N-1) _ _ _ (by rw[show i+1+(N-1)=i+N by lia];exact h)) (fun t st m n j=>hf _ _ _ _ _ _ _ _ m j) (fun x t st m hx=>f_ m hx) ?_);intro t st m j;refine aF (je (fE ⟨rfl,?_⟩));refine aF (pZ (F:=F) (D:=fun t=>J (i+1) t.1 t.2.1 t.2.2.1) (J:=fun n (t:α×β×γ×Nat×Nat×Nat)=>J (i+1) t.1 t.2.1 t.2.2.1) m j (fun _ h=>h) (fun t st m n j=>hg _ _ _ _ _ _ m j) (fun x t st m hx=>f_ m hx) ?_);intro t st m j;refine aF (fm ?_);exact aJ ⟨⟨m.arr,m.kind,m.failed,m.pend⟩,.inr (.inr ⟨_,rfl,j⟩)⟩
end
abbrev ln(a b out:Array Keyed)(ia ib:Nat):=out++a.extract ia a.size++b.extract ib b.size
abbrev wR(a b out:Array Keyed)(ia ib:Nat):=out++b.extract ib b.size++a.extract ia a.size
abbrev ME ρ:=qJ×Array Keyed×Nat×Nat×ρ
def loW(a b:Array Keyed)(mg:Nat)(t:ME (Nat×Nat)):vp (ForInStep (ME (Nat×Nat))):=do
 let x <- elem' b t.2.2.2.1
 let y <- elem' a t.2.2.1
 let some w <- lt' x y|pure (.done (some (ln a b t.2.1 t.2.2.1 t.2.2.2.1),t.2.1,t.2.2.1,t.2.2.2.1,t.2.2.2.2.1,t.2.2.2.2.2))
 if w then do
  let x <- elem' b t.2.2.2.1
  yI (t.2.2.2.1+1==b.size) (t.2.2.2.2.2+1>=mg) (ln a b (t.2.1.push x) t.2.2.1 (t.2.2.2.1+1)) (t.2.1.push x,t.2.2.1,t.2.2.2.1+1,0,t.2.2.2.2.2+1)
 else do
  let x <- elem' a t.2.2.1
  yI (t.2.2.1+1+1==a.size) (t.2.2.2.2.1+1>=mg) (wR a b (t.2.1.push x) (t.2.2.1+1) t.2.2.2.1) (t.2.1.push x,t.2.2.1+1,t.2.2.2.1,t.2.2.2.2.1+1,0)
def XT(a b out:Array Keyed)(ia ib mg ac bc:Nat):vp (ForInStep (ME (Nat×Nat×Nat))):=do
 let x <- elem' a ia
 yI (ia+1+1==a.size) ((ac<7&&bc<7)=true) (wR a b (out.push x) (ia+1) ib) (out.push x,ia+1,ib,mg,ac,bc)
def XU(a b out:Array Keyed)(ia ib mg ac bc:Nat):vp (ForInStep (ME (Nat×Nat×Nat))):=do
 let x <- elem' b ib
 if ib+1==b.size then pure (.done (some (ln a b (out.push x) ia (ib+1)),out.push x,ia,ib+1,mg,ac,bc))
 else do
  let y <- elem' a ia
  let some k <- iW true y b (ib+1) (b.size-(ib+1)) 0|pure (.done (some (ln a b (out.push x) ia (ib+1)),out.push x,ia,ib+1,mg,ac,bc))
  if k > 0 then
   if ib+1+k==b.size then pure (.done (some (ln a b (out.push x++b.extract (ib+1) (ib+1+k)) ia (ib+1+k)),out.push x++b.extract (ib+1) (ib+1+k),ia,ib+1+k,mg,ac,k))
   else XT a b (out.push x++b.extract (ib+1) (ib+1+k)) ia (ib+1+k) mg ac k
  else XT a b (out.push x) ia (ib+1) mg ac k
def XV(a b out:Array Keyed)(ia ib mg ac bc:Nat):vp (ForInStep (ME (Nat×Nat×Nat))):=do
 jg mg
 let y <- elem' b ib
 let some k <- iW false y a ia (a.size-ia) 0|pure (.done (some (ln a b out ia ib),out,ia,ib,mg,ac,bc))
 if k > 0 then
  if ia+k+1==a.size then pure (.done (some (wR a b (out++a.extract ia (ia+k)) (ia+k) ib),out++a.extract ia (ia+k),ia+k,ib,mg,k,bc))
  else if ia+k==a.size then pure (.done (some (ln a b (out++a.extract ia (ia+k)) (ia+k) ib),out++a.extract ia (ia+k),ia+k,ib,mg,k,bc))
  else XU a b (out++a.extract ia (ia+k)) (ia+k) ib mg k bc
 else XU a b out ia ib mg k bc
def loG(a b:Array Keyed)(t:ME (Nat×Nat×Nat)):vp (ForInStep (ME (Nat×Nat×Nat))):=
 if t.2.2.2.2.1 > 1 then XV a b t.2.1 t.2.2.1 t.2.2.2.1 (t.2.2.2.2.1-1) t.2.2.2.2.2.1 t.2.2.2.2.2.2 else XV a b t.2.1 t.2.2.1 t.2.2.2.1 t.2.2.2.2.1 t.2.2.2.2.2.1 t.2.2.2.2.2.2
theorem yJ(a b:Array Keyed):tH a b=(do
 liftM (rule "list.sort.merge-lo")
 let x <- elem' b 0
 if 1==b.size then pure (ln a b #[x] 0 1) else if 0+1==a.size then pure (wR a b #[x] 0 1) else V0 (a.size+b.size) (loW a b) (loG a b) #[x] 0 1):=by kernel_rfl
def PI(a b out:Array Keyed)(ia ib:Nat):Prop:=out.toList.Perm (a.toList.take ia++b.toList.take ib)
theorem yK{l:List Keyed}{i:Nat}(h:i<l.length):l.take (i+1)=l.take i++[l[i]]:=by rw[gX,bQ h];rfl
theorem PI.vq{a b out:Array Keyed}{ia ib:Nat}(h:PI a b out ia ib)(hi:ia<a.size):PI a b (out.push a[ia]) (ia+1) ib:=by
 unfold PI at h |-;rw[mr,yK (by simpa using hi),di];refine(h.append_right _).trans ?_;rw[di];refine kC _ ?_;have:a.toList[ia]'(by simpa using hi)=a[ia]:=by simp
 rw[this];exact jn
theorem PI.vt{a b out:Array Keyed}{ia ib:Nat}(h:PI a b out ia ib)(hi:ib<b.size):PI a b (out.push b[ib]) ia (ib+1):=by
 unfold PI at h |-;rw[mr,yK (by simpa using hi),<-di];have:b.toList[ib]'(by simpa using hi)=b[ib]:=by simp
 rw[this];exact h.append_right _
theorem eV{a:Array Keyed}{i j:Nat}:(a.extract i j).toList=(a.toList.drop i).take (j-i):=by
 rw[Ae,List.extract_eq_take_drop]
theorem PI.Ez{a b out:Array Keyed}{ia ib:Nat}(h:PI a b out ia ib)(k:Nat):PI a b (out++a.extract ia (ia+k)) (ia+k) ib:=by
 unfold PI at h |-;rw[fK,eV,Nat.add_sub_cancel_left,List.take_add,di];refine(h.append_right _).trans ?_;rw[di];exact kC _ jn
theorem PI.EA{a b out:Array Keyed}{ia ib:Nat}(h:PI a b out ia ib)(k:Nat):PI a b (out++b.extract ib (ib+k)) ia (ib+k):=by
 unfold PI at h |-;rw[fK,eV,Nat.add_sub_cancel_left,List.take_add,<-di];exact h.append_right _
theorem PI.done{a b out:Array Keyed}{ia ib:Nat}(h:PI a b out ia ib):(out++a.extract ia a.size++b.extract ib b.size).Perm (a++b):=by
 rw[jj];unfold PI at h;rw[fK,fK,fK,eV,eV];have e1:(a.toList.drop ia).take (a.size-ia)=a.toList.drop ia:=oO (by simp);have e2:(b.toList.drop ib).take (b.size-ib)=b.toList.drop ib:=oO (by simp);rw[e1,e2];refine((h.append_right _).append_right _).trans ?_;conv=>rhs;rw[<-l_ ia a.toList,<-l_ ib b.toList]
 rw[di,di,di];refine kC _ ?_;rw[<-di,<-di];exact vL _ jn
theorem PI.last{a b out:Array Keyed}{ia ib:Nat}(h:PI a b out ia ib):(out++b.extract ib b.size++a.extract ia a.size).Perm (a++b):=by
 refine Array.Perm.trans ?_ h.done;rw[jj];rw[fK,fK,fK,fK,di,di];exact kC _ jn
section
variable {prog:Program} {w:World} {A:Around} {E:Value->Shared->Prop} {s:Shared} {κ:SortKind} {a₀:Array Keyed} {pd:Array (Nat×Nat×Nat)} {ar:Array Keyed} {a b out:Array Keyed} {ia ib mg ac bc n:Nat} {st:SortSt}
def JL(a b:Array Keyed)(n:Nat)(out:Array Keyed)(ia ib:Nat):Prop:=PI a b out ia ib/\ia+1<a.size/\ib<b.size/\n<=ia+ib
abbrev GL{ρ:Type}(κ:SortKind)(ar:Array Keyed)(pd:Array (Nat×Nat×Nat))(a b:Array Keyed)(n m:Nat):ForInStep (ME ρ)->SortSt->Prop:=GP κ ar pd (fun x=>x.Perm (a++b)) (fun t=>JL a b n t.1 t.2.1 t.2.2.1) fun t=>JL a b m t.1 t.2.1 t.2.2.1
theorem C3(hB:SM κ ar pd st)(h:JL a b n out ia ib):wpS (model prog w) A E s (XT a b out ia ib mg ac bc) (GL κ ar pd a b n n) st:=by
 obtain⟨p,la,lb,li⟩:=h;refine aF (bn (dX a ia (by lia)) ?_);have p:=p.vq (show ia<a.size by lia);refine jw hB (fun _=>p.last) fun f=>?_;have g:=pe f;have j:JL a b n (out.push a[ia]) (ia+1) ib:=⟨p,by lia,lb,by lia⟩
 exact⟨j,j⟩
theorem C4(hC:lm prog w A s κ a₀)(ha:∀x∈a.toList,x∈a₀.toList)(hb:∀x∈b.toList,x∈a₀.toList)(hB:SM κ ar pd st)(h:JL a b n out ia ib):wpS (model prog w) A E s (XU a b out ia ib mg ac bc) (GL κ ar pd a b n n) st:=by
 obtain⟨p,la,lb,li⟩:=h;refine aF (bn (dX b ib lb) ?_);have p:=p.vt lb;split
 .exact f_ hB p.done
 next f=>
 have g:ib+1≠b.size:=by simpa using f
 refine aF (bn (dX a ia (by lia)) ?_);refine aF (gJ hC hB.kind (ha _ (by simp)) hb (by lia) (by lia) fun k hk=>?_);dsimp only;split
 .split
  .exact f_ hB (p.EA k).done
  next f=>
  have g:ib+1+k≠b.size:=by simpa using f
  exact C3 hB ⟨p.EA k,la,by lia,by lia⟩
 .exact C3 hB ⟨p,la,by lia,by lia⟩
theorem Ka(hC:lm prog w A s κ a₀)(ha:∀x∈a.toList,x∈a₀.toList)(hb:∀x∈b.toList,x∈a₀.toList)(hB:SM κ ar pd st)(h:JL a b n out ia ib):wpS (model prog w) A E s (XV a b out ia ib mg ac bc) (GL κ ar pd a b n n) st:=by
 obtain⟨p,la,lb,li⟩:=h;refine aF (fm ?_);refine aF (bn (dX b ib lb) ?_);have oG:SM κ ar pd (SortSt.mk' (kindOf st) (arrOf st) (pendingOf st) mg (failedOf st)):=⟨hB.arr,hB.kind,hB.failed,hB.pend⟩
 refine aF (gJ hC oG.kind (hb _ (by simp)) ha (by lia) (by lia) fun k hk=>?_);dsimp only;split
 .split
  .exact f_ oG (p.Ez k).last
  next f=>
  split
  .exact f_ oG (p.Ez k).done
  next f'=>
  have g:ia+k+1≠a.size:=by simpa using f
  have g':ia+k≠a.size:=by simpa using f'
  exact C4 hC ha hb oG ⟨p.Ez k,by lia,lb,by lia⟩
 .exact C4 hC ha hb oG ⟨p,la,lb,li⟩
theorem Kb{k:Nat}(hC:lm prog w A s κ a₀)(ha:∀x∈a.toList,x∈a₀.toList)(hb:∀x∈b.toList,x∈a₀.toList)(hB:SM κ ar pd st)(h:JL a b (n+k) out ia ib){q:Nat×Nat}:wpS (model prog w) A E s (loW a b mg (none,out,ia,ib,q)) (GL κ ar pd a b (n+1) (n+(k+1))) st:=by
 obtain⟨p,la,lb,li⟩:=h;refine aF (bn (dX b ib lb) (aF (bn (dX a ia (by lia)) (aF (nV hC hB.kind (hb _ (by simp)) (ha _ (by simp)) fun w=>?_)))));cases w
 .refine aF (bn (dX a ia (by lia)) ?_);have p:=p.vq (show ia<a.size by lia);refine jw hB (fun _=>p.last) fun f=>?_;have g:=pe f;exact⟨⟨p,by dsimp only;lia,lb,by dsimp only;lia⟩,p,by dsimp only;lia,lb,by dsimp only;lia⟩
 .refine aF (bn (dX b ib lb) ?_);have p:=p.vt lb;refine jw hB (fun _=>p.done) fun f=>?_;have g:=pe f;exact⟨⟨p,la,by dsimp only at g |-;lia,by dsimp only;lia⟩,p,la,by dsimp only at g |-;lia,by dsimp only;lia⟩
theorem yL{Q:Array Keyed->SortSt->Prop}(hC:lm prog w A s κ a₀)(hB:SM κ ar pd st)(ha:∀x∈a.toList,x∈a₀.toList)(hb:∀x∈b.toList,x∈a₀.toList)(a1:1<=a.size)(b1:1<=b.size)(h:∀out aE,out.Perm (a++b)->SM κ ar pd aE->Q out aE):wpS (model prog w) A E s (tH a b) Q st:=by
 rw[yJ];refine aF (je (fE ⟨rfl,?_⟩));refine aF (bn (dX b 0 (by lia)) ?_);have p0:PI a b #[b[0]] 0 1:=by
  have:PI a b #[] 0 0:=by unfold PI;simp
  exact this.vt (by lia)
 split
 .exact aJ (h _ _ p0.done hB)
 next f=>
 split
 .exact aJ (h _ _ p0.last hB)
 next f'=>
 have g:1≠b.size:=by simpa using f
 have g':0+1≠a.size:=by simpa using f'
 refine C2 (J:=JL a b) hB ⟨p0,by lia,by lia,by lia⟩ (fun i k x y z h=>⟨h.1,h.2.1,h.2.2.1,by have:=h.2.2.2;lia⟩) (fun x y z h=>by have:=h.2;lia) (by lia) (fun mg n k x y z p st m j=>Kb hC ha hb m j) (fun n x y z p st m j=>?_) h;unfold loG;split <;> exact Ka hC ha hb m j
end
abbrev lq(a b out:Array Keyed)(na nb:Nat):=a.extract 0 na++b.extract 0 nb++out.reverse
abbrev re(a b out:Array Keyed)(na nb:Nat):=b.extract 0 nb++a.extract 0 na++out.reverse
abbrev MH ρ:=qJ×Nat×Nat×Array Keyed×ρ
def hiW(a b:Array Keyed)(mg:Nat)(t:MH (Nat×Nat)):vp (ForInStep (MH (Nat×Nat))):=do
 let x <- elem' b (t.2.2.1-1)
 let y <- elem' a (t.2.1-1)
 let some w <- lt' x y|pure (.done (some (lq a b t.2.2.2.1 t.2.1 t.2.2.1),t.2.1,t.2.2.1,t.2.2.2.1,t.2.2.2.2.1,t.2.2.2.2.2))
 if w then do
  let x <- elem' a (t.2.1-1)
  yI (t.2.1-1==0) (t.2.2.2.2.1+1>=mg) (lq a b (t.2.2.2.1.push x) (t.2.1-1) t.2.2.1) (t.2.1-1,t.2.2.1,t.2.2.2.1.push x,t.2.2.2.2.1+1,0)
 else do
  let x <- elem' b (t.2.2.1-1)
  yI (t.2.2.1-1==1) (t.2.2.2.2.2+1>=mg) (re a b (t.2.2.2.1.push x) t.2.1 (t.2.2.1-1)) (t.2.1,t.2.2.1-1,t.2.2.2.1.push x,0,t.2.2.2.2.2+1)
def XW(a b:Array Keyed)(na nb:Nat)(out:Array Keyed)(mg ac bc:Nat):vp (ForInStep (MH (Nat×Nat×Nat))):=do
 let x <- elem' a (na-1)
 yI (na-1==0) ((ac<7&&bc<7)=true) (lq a b (out.push x) (na-1) nb) (na-1,nb,out.push x,mg,ac,bc)
def XX(a b:Array Keyed)(na nb:Nat)(out:Array Keyed)(mg ac bc:Nat):vp (ForInStep (MH (Nat×Nat×Nat))):=do
 let x <- elem' b (nb-1)
 if nb-1==1 then pure (.done (some (re a b (out.push x) na (nb-1)),na,nb-1,out.push x,mg,ac,bc))
 else do
  let y <- elem' a (na-1)
  let some k <- iW true y b 0 (nb-1) (nb-1-1)|pure (.done (some (lq a b (out.push x) na (nb-1)),na,nb-1,out.push x,mg,ac,bc))
  if nb-1-k > 0 then
   if k==1 then pure (.done (some (re a b (out.push x++(b.extract k (nb-1)).reverse) na k),na,k,out.push x++(b.extract k (nb-1)).reverse,mg,ac,nb-1-k))
   else if k==0 then pure (.done (some (lq a b (out.push x++(b.extract k (nb-1)).reverse) na k),na,k,out.push x++(b.extract k (nb-1)).reverse,mg,ac,nb-1-k))
   else XW a b na k (out.push x++(b.extract k (nb-1)).reverse) mg ac (nb-1-k)
  else XW a b na (nb-1) (out.push x) mg ac (nb-1-k)
def XY(a b:Array Keyed)(na nb:Nat)(out:Array Keyed)(mg ac bc:Nat):vp (ForInStep (MH (Nat×Nat×Nat))):=do
 jg mg
 let y <- elem' b (nb-1)
 let some k <- iW false y a 0 na (na-1)|pure (.done (some (lq a b out na nb),na,nb,out,mg,ac,bc))
 if na-k > 0 then
  if k==0 then pure (.done (some (lq a b (out++(a.extract k na).reverse) k nb),k,nb,out++(a.extract k na).reverse,mg,na-k,bc))
  else XX a b k nb (out++(a.extract k na).reverse) mg (na-k) bc
 else XX a b na nb out mg (na-k) bc
def hiG(a b:Array Keyed)(t:MH (Nat×Nat×Nat)):vp (ForInStep (MH (Nat×Nat×Nat))):=
 if t.2.2.2.2.1 > 1 then XY a b t.2.1 t.2.2.1 t.2.2.2.1 (t.2.2.2.2.1-1) t.2.2.2.2.2.1 t.2.2.2.2.2.2 else XY a b t.2.1 t.2.2.1 t.2.2.2.1 t.2.2.2.2.1 t.2.2.2.2.2.1 t.2.2.2.2.2.2
theorem yM(a b:Array Keyed):tI a b=(do
 liftM (rule "list.sort.merge-hi")
 let x <- elem' a (a.size-1)
 if a.size-1==0 then pure (lq a b #[x] (a.size-1) b.size) else if b.size==1 then pure (re a b #[x] (a.size-1) b.size) else V0 (a.size+b.size) (hiW a b) (hiG a b) (a.size-1) b.size #[x]):=by kernel_rfl
def PH(a b out:Array Keyed)(na nb:Nat):Prop:=out.toList.Perm (a.toList.drop na++b.toList.drop nb)
theorem PH.vq{a b out:Array Keyed}{na nb:Nat}(h:PH a b out na nb)(h1:1<=na)(hi:na-1<a.size):PH a b (out.push a[na-1]) (na-1) nb:=by
 unfold PH at h |-;have e:a.toList.drop (na-1)=a[na-1]::a.toList.drop na:=by
  have:=oJ (l:=a.toList) (i:=na-1) (by simpa using hi);rw[this,Nat.sub_add_cancel h1];simp
 rw[mr,e];refine(h.append_right _).trans ?_;exact jn
theorem PH.vt{a b out:Array Keyed}{na nb:Nat}(h:PH a b out na nb)(h1:1<=nb)(hi:nb-1<b.size):PH a b (out.push b[nb-1]) na (nb-1):=by
 unfold PH at h |-;have e:b.toList.drop (nb-1)=b[nb-1]::b.toList.drop nb:=by
  have:=oJ (l:=b.toList) (i:=nb-1) (by simpa using hi);rw[this,Nat.sub_add_cancel h1];simp
 rw[mr,e];refine(h.append_right _).trans ?_;rw[di];exact kC _ jn
theorem nW{l:List Keyed}{i j:Nat}(h:i<=j):l.drop i=(l.drop i).take (j-i)++l.drop j:=by
 have:=(l_ (j-i) (l.drop i)).symm;rw[List.drop_drop,show i+(j-i)=j by lia] at this;exact this
theorem PH.Ez{a b out:Array Keyed}{na nb:Nat}(h:PH a b out na nb){k:Nat}(hk:k<=na):PH a b (out++(a.extract k na).reverse) k nb:=by
 unfold PH at h |-;rw[fK,Ad,eV];conv=>rhs;rw[nW hk]
 refine((h.append_left _).trans ?_ |> fun z=>(List.Perm.trans jn ((Ap _).append_right _)).trans z);rw[di]
theorem PH.EA{a b out:Array Keyed}{na nb:Nat}(h:PH a b out na nb){k:Nat}(hk:k<=nb):PH a b (out++(b.extract k nb).reverse) na k:=by
 unfold PH at h |-;rw[fK,Ad,eV];conv=>rhs;rw[nW hk]
 refine(h.append_right _).trans ?_;rw[di];refine kC _ ?_;exact jn.trans ((Ap _).append_right _)
theorem S4{a:Array Keyed}{j:Nat}:(a.extract 0 j).toList=a.toList.take j:=by rw[eV,List.drop_zero,wa]
theorem PH.done{a b out:Array Keyed}{na nb:Nat}(h:PH a b out na nb):(a.extract 0 na++b.extract 0 nb++out.reverse).Perm (a++b):=by
 rw[jj];unfold PH at h;rw[fK,fK,fK,Ad,S4,S4];conv=>rhs;rw[<-l_ na a.toList,<-l_ nb b.toList]
 refine(kC _ ((Ap _).trans h)).trans ?_;rw[di,di];refine kC _ ?_;rw[<-di,<-di];exact vL _ jn
theorem PH.first{a b out:Array Keyed}{na nb:Nat}(h:PH a b out na nb):(b.extract 0 nb++a.extract 0 na++out.reverse).Perm (a++b):=by
 refine Array.Perm.trans ?_ h.done;rw[jj];rw[fK,fK,fK,fK];exact vL _ jn
section
variable {prog:Program} {w:World} {A:Around} {E:Value->Shared->Prop} {s:Shared} {κ:SortKind} {a₀:Array Keyed} {pd:Array (Nat×Nat×Nat)} {ar:Array Keyed} {a b out:Array Keyed} {na nb mg ac bc n:Nat} {st:SortSt}
def JH(a b:Array Keyed)(n na nb:Nat)(out:Array Keyed):Prop:=PH a b out na nb/\1<=na/\2<=nb/\na<=a.size/\nb<=b.size/\n+na+nb<=a.size+b.size
abbrev GH{ρ:Type}(κ:SortKind)(ar:Array Keyed)(pd:Array (Nat×Nat×Nat))(a b:Array Keyed)(n m:Nat):ForInStep (MH ρ)->SortSt->Prop:=GP κ ar pd (fun x=>x.Perm (a++b)) (fun t=>JH a b n t.1 t.2.1 t.2.2.1) fun t=>JH a b m t.1 t.2.1 t.2.2.1
theorem C5(hB:SM κ ar pd st)(p:PH a b out na nb)(la:1<=na)(lb:2<=nb)(ma:na<=a.size)(mb:nb<=b.size)(li:n+na+nb<=a.size+b.size+1):wpS (model prog w) A E s (XW a b na nb out mg ac bc) (GH κ ar pd a b n n) st:=by
 refine aF (bn (dX a (na-1) (by lia)) ?_);have p:=p.vq la (show na-1<a.size by lia);refine jw hB (fun _=>p.done) fun f=>?_;have g:=pe f;have j:JH a b n (na-1) nb (out.push a[na-1]):=⟨p,by lia,lb,by lia,mb,by lia⟩
 exact⟨j,j⟩
theorem C6(hC:lm prog w A s κ a₀)(ha:∀x∈a.toList,x∈a₀.toList)(hb:∀x∈b.toList,x∈a₀.toList)(hB:SM κ ar pd st)(h:JH a b n na nb out):wpS (model prog w) A E s (XX a b na nb out mg ac bc) (GH κ ar pd a b n n) st:=by
 obtain⟨p,la,lb,ma,mb,li⟩:=h;refine aF (bn (dX b (nb-1) (by lia)) ?_);have p:=p.vt (show 1<=nb by lia) (show nb-1<b.size by lia);split
 .exact f_ hB p.first
 next f=>
 have g:nb-1≠1:=by simpa using f
 refine aF (bn (dX a (na-1) (by lia)) ?_);refine aF (gJ hC hB.kind (ha _ (by simp)) hb (by lia) (by lia) fun k hk=>?_);dsimp only;split
 .split
  .exact f_ hB (p.EA hk).first
  next f=>
  split
  .exact f_ hB (p.EA hk).done
  next f'=>
  have g:k≠1:=by simpa using f
  have g':k≠0:=by simpa using f'
  exact C5 hB (p.EA hk) la (by lia) ma (by lia) (by lia)
 .exact C5 hB p la (by lia) ma (by lia) (by lia)
theorem Kc(hC:lm prog w A s κ a₀)(ha:∀x∈a.toList,x∈a₀.toList)(hb:∀x∈b.toList,x∈a₀.toList)(hB:SM κ ar pd st)(h:JH a b n na nb out):wpS (model prog w) A E s (XY a b na nb out mg ac bc) (GH κ ar pd a b n n) st:=by
 obtain⟨p,la,lb,ma,mb,li⟩:=h;refine aF (fm ?_);refine aF (bn (dX b (nb-1) (by lia)) ?_);have oG:SM κ ar pd (SortSt.mk' (kindOf st) (arrOf st) (pendingOf st) mg (failedOf st)):=⟨hB.arr,hB.kind,hB.failed,hB.pend⟩
 refine aF (gJ hC oG.kind (hb _ (by simp)) ha (by lia) (by lia) fun k hk=>?_);dsimp only;split
 .split
  .exact f_ oG (p.Ez hk).done
  next f=>
  have g:k≠0:=by simpa using f
  exact C6 hC ha hb oG ⟨p.Ez hk,by lia,lb,by lia,mb,by lia⟩
 .exact C6 hC ha hb oG ⟨p,la,lb,ma,mb,li⟩
theorem Kd{k:Nat}(hC:lm prog w A s κ a₀)(ha:∀x∈a.toList,x∈a₀.toList)(hb:∀x∈b.toList,x∈a₀.toList)(hB:SM κ ar pd st)(h:JH a b (n+k) na nb out){q:Nat×Nat}:wpS (model prog w) A E s (hiW a b mg (none,na,nb,out,q)) (GH κ ar pd a b (n+1) (n+(k+1))) st:=by
 obtain⟨p,la,lb,ma,mb,li⟩:=h;refine aF (bn (dX b (nb-1) (by lia)) (aF (bn (dX a (na-1) (by lia)) (aF (nV hC hB.kind (hb _ (by simp)) (ha _ (by simp)) fun w=>?_)))));cases w
 .refine aF (bn (dX b (nb-1) (by lia)) ?_);have p:=p.vt (show 1<=nb by lia) (show nb-1<b.size by lia);refine jw hB (fun _=>p.first) fun f=>?_;have g:nb-1≠1:=pe f;have j:JH a b (n+(k+1)) na (nb-1) (out.push b[nb-1]):=⟨p,la,by lia,ma,by lia,by lia⟩
  exact⟨⟨p,la,j.2.2.1,ma,j.2.2.2.2.1,by have:=j.2.2.2.2.2;dsimp only;lia⟩,j⟩
 .refine aF (bn (dX a (na-1) (by lia)) ?_);have p:=p.vq la (show na-1<a.size by lia);refine jw hB (fun _=>p.done) fun f=>?_;have g:na-1≠0:=pe f;have j:JH a b (n+(k+1)) (na-1) nb (out.push a[na-1]):=⟨p,by lia,lb,by lia,mb,by lia⟩
  exact⟨⟨p,j.2.1,lb,j.2.2.2.1,mb,by have:=j.2.2.2.2.2;dsimp only;lia⟩,j⟩
theorem yN{Q:Array Keyed->SortSt->Prop}(hC:lm prog w A s κ a₀)(hB:SM κ ar pd st)(ha:∀x∈a.toList,x∈a₀.toList)(hb:∀x∈b.toList,x∈a₀.toList)(a1:1<=a.size)(b1:1<=b.size)(h:∀out aE,out.Perm (a++b)->SM κ ar pd aE->Q out aE):wpS (model prog w) A E s (tI a b) Q st:=by
 rw[yM];refine aF (je (fE ⟨rfl,?_⟩));refine aF (bn (dX a (a.size-1) (by lia)) ?_);have p0:PH a b #[a[a.size-1]] (a.size-1) b.size:=by
  have:PH a b #[] a.size b.size:=by unfold PH;simp
  exact this.vq a1 (by lia)
 split
 .exact aJ (h _ _ p0.done hB)
 next f=>
 split
 .exact aJ (h _ _ p0.first hB)
 next f'=>
 have g:a.size-1≠0:=by simpa using f
 have g':b.size≠1:=by simpa using f'
 refine C2 (J:=JH a b) hB ⟨p0,by lia,by lia,by lia,by lia,by lia⟩ (fun i k x y z h=>⟨h.1,h.2.1,h.2.2.1,h.2.2.2.1,h.2.2.2.2.1,by have:=h.2.2.2.2.2;lia⟩) (fun x y z h=>by have:=h.2;lia) (by lia) (fun mg n k x y z p st m j=>Kd hC ha hb m j) (fun n x y z p st m j=>?_) h;unfold hiG;split <;> exact Kc hC ha hb m j
end
section
variable {prog:Program} {w:World} {A:Around} {E:Value->Shared->Prop} {s:Shared} {κ:SortKind} {a₀:Array Keyed} {pd:Array (Nat×Nat×Nat)}
theorem Bn{st:SortSt}{lo cH:Nat}{Q:Option Nat->SortSt->Prop}(hC:lm prog w A s κ a₀)(hn:lo+cH<=a₀.size)(h1:1<=cH)(hB:SQ κ a₀ pd st)(h:∀n aE,SQ κ a₀ pd aE->1<=n->n<=cH->Q (some n) aE):wpS (model prog w) A E s (countRun' lo cH) Q st:=by
 rw[countRun'_eq];refine aF (cY (eG (I:=fun i c aE=>SQ κ a₀ pd aE/\∃m,c=(none,m)/\m=i) (Q:=fun c aE=>SQ κ a₀ pd aE/\∃m,c=(none,m)/\1<=m/\m<=cH) ?_ ?_ ⟨hB,_,rfl,rfl⟩) ?_)
 .rintro i c zQ Mz vc ⟨GV,m,rfl,rfl⟩;dsimp only;refine aF (eU hC GV (by lia) (by lia) fun b1=>?_);cases b1
  .exact aJ ⟨GV,_,rfl,rfl⟩
  .exact aJ ⟨GV,_,rfl,by lia,by lia⟩
 .rintro c zQ ⟨GV,m,rfl,rfl⟩;exact⟨GV,_,rfl,by lia,by lia⟩
 .rintro c zQ ⟨GV,n,rfl,n1,n2⟩;dsimp only;by_cases e1:(n==cH)=true
  .rw[ao e1];exact aJ (h n zQ GV n1 n2)
  rw[ak e1];have g1:¬ (n=cH):=by simpa using e1
  by_cases e2:n > 1
  .rw[ao e2];refine aF (eU hC GV (by lia) (by lia) fun b2=>?_);cases b2
   .dsimp only;rw[ak (by decide)];refine aF (f9 GV fun km oG=>?_);refine aF (je (fE ⟨rfl,?_⟩));refine aF (cY (eG (I:=fun i c aE=>SQ κ a₀ pd aE/\∃m q,c=(none,m,q)/\m=i) (Q:=fun c aE=>SQ κ a₀ pd aE/\∃m q,c=(none,m,q)/\1<=m/\m<=cH) ?_ ?_ ⟨oG,_,_,rfl,rfl⟩) ?_)
    .rintro i c iS Mz vc ⟨iu,m,q,rfl,rfl⟩;dsimp only;refine aF (eU hC iu (by lia) (by lia) fun b3=>?_);cases b3
     .dsimp only;rw[ak (by decide)];refine aF (eU hC iu (by lia) (by lia) fun b4=>?_);cases b4
      .exact aJ ⟨iu,_,_,rfl,rfl⟩
      .exact aJ ⟨iu,_,_,rfl,by lia,by lia⟩
     .dsimp only;rw[ao rfl];split
      .exact aF (f9 iu fun qI Oi=>aJ ⟨Oi,_,_,rfl,rfl⟩)
      .exact aJ ⟨iu,_,_,rfl,rfl⟩
    .rintro c iS ⟨iu,m,q,rfl,rfl⟩;exact⟨iu,_,_,rfl,by lia,by lia⟩
    .rintro c iS ⟨iu,m,q,rfl,m1,m2⟩;dsimp only;split
     .refine aF (f9 iu fun qI Oi=>?_);refine aF (f9 Oi fun xJ Oj=>?_);refine aF (cY (eG (I:=fun i c aE=>SQ κ a₀ pd aE/\∃m,c=(none,m)/\m=i) (Q:=fun c aE=>SQ κ a₀ pd aE/\∃m,c=(none,m)/\1<=m/\m<=cH) ?_ ?_ ⟨Oj,_,rfl,rfl⟩) ?_)
      .rintro i c uD Mz vc ⟨mQ,m,rfl,rfl⟩;dsimp only;refine aF (eU hC mQ (by lia) (by lia) fun b6=>?_);cases b6
       .exact aJ ⟨mQ,_,rfl,rfl⟩
       .exact aJ ⟨mQ,_,rfl,by lia,by lia⟩
      .rintro c uD ⟨mQ,m,rfl,rfl⟩;exact⟨mQ,_,rfl,by lia,by lia⟩
      .rintro c uD ⟨mQ,m,rfl,h1,h2⟩;exact aJ (h m uD mQ h1 h2)
     .refine aF (f9 iu fun xJ Oj=>?_);refine aF (cY (eG (I:=fun i c aE=>SQ κ a₀ pd aE/\∃m,c=(none,m)/\m=i) (Q:=fun c aE=>SQ κ a₀ pd aE/\∃m,c=(none,m)/\1<=m/\m<=cH) ?_ ?_ ⟨Oj,_,rfl,rfl⟩) ?_)
      .rintro i c uD Mz vc ⟨mQ,m,rfl,rfl⟩;dsimp only;refine aF (eU hC mQ (by lia) (by lia) fun b6=>?_);cases b6
       .exact aJ ⟨mQ,_,rfl,rfl⟩
       .exact aJ ⟨mQ,_,rfl,by lia,by lia⟩
      .rintro c uD ⟨mQ,m,rfl,rfl⟩;exact⟨mQ,_,rfl,by lia,by lia⟩
      .rintro c uD ⟨mQ,m,rfl,h1,h2⟩;exact aJ (h m uD mQ h1 h2)
   .exact aJ (h n zQ GV n1 n2)
  .rw[ak e2];have oG:=GV;refine aF (je (fE ⟨rfl,?_⟩));refine aF (cY (eG (I:=fun i c aE=>SQ κ a₀ pd aE/\∃m q,c=(none,m,q)/\m=i) (Q:=fun c aE=>SQ κ a₀ pd aE/\∃m q,c=(none,m,q)/\1<=m/\m<=cH) ?_ ?_ ⟨oG,_,_,rfl,rfl⟩) ?_)
   .rintro i c iS Mz vc ⟨iu,m,q,rfl,rfl⟩;dsimp only;refine aF (eU hC iu (by lia) (by lia) fun b3=>?_);cases b3
    .dsimp only;rw[ak (by decide)];refine aF (eU hC iu (by lia) (by lia) fun b4=>?_);cases b4
     .exact aJ ⟨iu,_,_,rfl,rfl⟩
     .exact aJ ⟨iu,_,_,rfl,by lia,by lia⟩
    .dsimp only;rw[ao rfl];split
     .exact aF (f9 iu fun qI Oi=>aJ ⟨Oi,_,_,rfl,rfl⟩)
     .exact aJ ⟨iu,_,_,rfl,rfl⟩
   .rintro c iS ⟨iu,m,q,rfl,rfl⟩;exact⟨iu,_,_,rfl,by lia,by lia⟩
   .rintro c iS ⟨iu,m,q,rfl,m1,m2⟩;dsimp only;split
    .refine aF (f9 iu fun qI Oi=>?_);refine aF (f9 Oi fun xJ Oj=>?_);refine aF (cY (eG (I:=fun i c aE=>SQ κ a₀ pd aE/\∃m,c=(none,m)/\m=i) (Q:=fun c aE=>SQ κ a₀ pd aE/\∃m,c=(none,m)/\1<=m/\m<=cH) ?_ ?_ ⟨Oj,_,rfl,rfl⟩) ?_)
     .rintro i c uD Mz vc ⟨mQ,m,rfl,rfl⟩;dsimp only;refine aF (eU hC mQ (by lia) (by lia) fun b6=>?_);cases b6
      .exact aJ ⟨mQ,_,rfl,rfl⟩
      .exact aJ ⟨mQ,_,rfl,by lia,by lia⟩
     .rintro c uD ⟨mQ,m,rfl,rfl⟩;exact⟨mQ,_,rfl,by lia,by lia⟩
     .rintro c uD ⟨mQ,m,rfl,h1,h2⟩;exact aJ (h m uD mQ h1 h2)
    .refine aF (f9 iu fun xJ Oj=>?_);refine aF (cY (eG (I:=fun i c aE=>SQ κ a₀ pd aE/\∃m,c=(none,m)/\m=i) (Q:=fun c aE=>SQ κ a₀ pd aE/\∃m,c=(none,m)/\1<=m/\m<=cH) ?_ ?_ ⟨Oj,_,rfl,rfl⟩) ?_)
     .rintro i c uD Mz vc ⟨mQ,m,rfl,rfl⟩;dsimp only;refine aF (eU hC mQ (by lia) (by lia) fun b6=>?_);cases b6
      .exact aJ ⟨mQ,_,rfl,rfl⟩
      .exact aJ ⟨mQ,_,rfl,by lia,by lia⟩
     .rintro c uD ⟨mQ,m,rfl,rfl⟩;exact⟨mQ,_,rfl,by lia,by lia⟩
     .rintro c uD ⟨mQ,m,rfl,h1,h2⟩;exact aJ (h m uD mQ h1 h2)
end
abbrev QU:=Nat×Nat×Nat
def jx:List QU->Nat->Nat->Prop
 |[],s,e=>s=e
 |r::rs,s,e=>r.1=s/\1<=r.2.1/\jx rs (s+r.2.1) e
theorem jx.le:∀ {l:List QU} {s e:Nat},jx l s e->s<=e
 |[],_,_,h=>pB h
 |r::rs,s,e,⟨_,h2,h3⟩=>by have:=h3.le;lia
theorem jx.two:∀ {l:List QU} {s e i:Nat} {x y:QU},jx l s e->l[i]?=some x->l[i+1]?=some y->
  x.1+x.2.1=y.1/\y.1+y.2.1<=e/\1<=x.2.1/\1<=y.2.1/\∀p,jx ((l.set i (x.1,x.2.1+y.2.1,p)).eraseIdx (i+1)) s e
 |r::q::rs,s,e,0,x,y,⟨h1,h2,h3,h4,h5⟩,hx,hy=>by
  obtain rfl:=bN hx;obtain rfl:=bN hy;have:=h5.le;refine⟨by lia,by lia,h2,h4,fun p=>⟨h1,by show 1<=r.2.1+q.2.1;lia,?_⟩⟩;show jx rs (s+(r.2.1+q.2.1)) e;rw[<-Nat.add_assoc];exact h5
 |r::rs,s,e,i+1,x,y,⟨h1,h2,h3⟩,hx,hy=>by
  obtain⟨a1,a2,a3,a4,a5⟩:=jx.two (i:=i) h3 hx hy;exact⟨a1,a2,a3,a4,fun p=>⟨h1,h2,a5 p⟩⟩
theorem jx.push:∀ {l:List QU} {s e n p:Nat},jx l s e->1<=n->jx (l++[(e,n,p)]) s (e+n)
 |[],s,e,n,p,h,hn=>⟨h.symm,hn,by rw[h];rfl⟩
 |r::rs,s,e,n,p,⟨h1,h2,h3⟩,hn=>⟨h1,h2,jx.push h3 hn⟩
theorem jx.pw:∀ {l:List QU} {s e:Nat} (i p:Nat),jx l s e->jx (l.modify i fun r=>(r.1,r.2.1,p)) s e
 |[],s,e,i,p,h=>by cases i <;> exact h
 |r::rs,s,e,0,p,⟨h1,h2,h3⟩=>⟨h1,h2,h3⟩
 |r::rs,s,e,i+1,p,⟨h1,h2,h3⟩=>⟨h1,h2,jx.pw i p h3⟩
theorem Ke{M:Model}{A:Around}{E:Value->Shared->Prop}{s:Shared}{σ:Type}{x:σ}{Q:PUnit->σ->Prop}{st:σ}(h:Q ⟨⟩ x):wpS M A E s (set x:StateT σ Sem PUnit) Q st:=by
 unfold wpS;rw[StateT.run_set];exact wpAny_pure ⟨rfl,h⟩
theorem yO(i:Nat):mergeAt' i=(do
 let s <- get
 let (some (sa,na,S7),some (sb,nb,_)):=((pendingOf s)[i]?,(pendingOf s)[i+1]?)|unsupported "internal:list.sort.pending"
 set (setPending s (((pendingOf s).setIfInBounds i (sa,na+nb,S7)).eraseIdxIfInBounds (i+1)))
 let some k <- iW false (<-elem' (arrOf s) sb) (arrOf s) sa na 0|return false
 let (sa,na):=(sa+k,na-k)
 if na==0 then return true
 let some nb <- iW true (<-elem' (arrOf s) (sa+na-1)) (arrOf s) sb nb (nb-1)|return false
 if nb==0 then return true
 let x:=(arrOf s).extract sa sb
 let y:=(arrOf s).extract sb (sb+nb)
 let merged <- if na<=nb then tH x y else tI x y
 modify fun s=>setArr s (merged.toList.zipIdx.foldl (fun a (p,j)=>a.setIfInBounds (sa+j) p) (arrOf s))
 return (failedOf (<-get)).isNone):=rfl
theorem tL{sa:Nat}:∀ (l:List Keyed) (k:Nat) (arr:Array Keyed),sa+k+l.length<=arr.size->
  ((l.zipIdx k).foldl (fun (a:Array Keyed) (x:Keyed×Nat)=>a.setIfInBounds (sa+x.2) x.1) arr).toList=arr.toList.take (sa+k)++l++arr.toList.drop (sa+k+l.length)
 |[],k,arr,_=>by simp
 |x::l,k,arr,h=>by
  rw[eF] at h;have hs:sa+k<arr.toList.length:=by rw[lU];lia
  rw[Aw,gY,tL l (k+1) _ (by rw[Array.size_setIfInBounds];lia),FL];dsimp only;have e1:(arr.toList.set (sa+k) x).take (sa+(k+1))=arr.toList.take (sa+k)++[x]:=by
   rw[<-Nat.add_assoc,gX,oQ hs,List.take_set_of_le (aK _)];rfl
  have e2:(arr.toList.set (sa+k) x).drop (sa+(k+1)+l.length)=arr.toList.drop (sa+k+(x::l).length):=by
   rw[List.drop_set_of_lt (by lia),eF];congr 1;lia
  rw[e1,e2,di,di,di];rfl
section
variable {prog:Program} {w:World} {A:Around} {E:Value->Shared->Prop} {s:Shared} {κ:SortKind} {a₀:Array Keyed}
def SR(κ:SortKind)(a₀:Array Keyed)(lo:Nat)(st:SortSt):Prop:=∃pd,SQ κ a₀ pd st/\jx pd.toList 0 lo/\lo<=a₀.size
theorem lr{st:SortSt}{i lo:Nat}{Q:Bool->SortSt->Prop}(hC:lm prog w A s κ a₀)(hB:SR κ a₀ lo st)(hi:i+1<(pendingOf st).size)(h:∀aE,SR κ a₀ lo aE->Q true aE):wpS (model prog w) A E s (mergeAt' i) Q st:=by
 obtain⟨pd,hq,hr,QQ⟩:=hB;rw[hq.pend] at hi;rw[yO];refine aF (eM ?_);have e1:pd[i]?=some pd[i]:=dX pd i (by lia);have e2:pd[i+1]?=some pd[i+1]:=dX pd (i+1) hi;obtain⟨a1,a2,a3,a4,a5⟩:=hr.two (i:=i) (x:=pd[i]) (y:=pd[i+1]) (by simpa using e1) (by simpa using e2);rw[hq.pend,e1,e2];revert a1 a2 a3 a4 a5;generalize pd[i]=x;generalize pd[i+1]=y;obtain⟨sa,na,pw⟩:=x;obtain⟨sb,nb,pw2⟩:=y;intro a1 a2 a3 a4 a5;dsimp only at a1 a2 a3 a4 a5 |-;obtain⟨Kg,S9⟩:∃Kg,Kg=(pd.setIfInBounds i (sa,na+nb,pw)).eraseIdxIfInBounds (i+1):=⟨_,rfl⟩
 have Fu:jx Kg.toList 0 lo:=by
  rw[S9,Array.toList_eraseIdxIfInBounds,FL];exact a5 pw
 refine aF (Ke ?_);rw[<-S9];have Mo:SM κ (arrOf st) Kg (setPending st Kg):=⟨rfl,hq.kind,hq.failed,rfl⟩
 have gZ:=hq.size;have vo:∀x∈(arrOf st).toList,x∈a₀.toList:=fun x hx=>(jj.mp hq.perm).mem_iff.mp hx;have dQ:∀aE,SM κ (arrOf st) Kg aE->SR κ a₀ lo aE:=fun aE m=>⟨Kg,⟨by rw[m.arr];exact hq.perm,m.kind,m.failed,m.pend⟩,Fu,QQ⟩
 refine aF (bn (dX (arrOf st) sb (by lia)) ?_);refine aF (gJ hC Mo.kind (vo _ (by simp)) vo (by lia) (by lia) fun k hk=>?_);dsimp only;by_cases f1:(na-k==0)=true
 .rw[ao f1];exact aJ (h _ (dQ _ Mo))
 rw[ak f1];have g1:¬ (na-k=0):=by simpa using f1
 refine aF (bn (dX (arrOf st) (sa+k+(na-k)-1) (by lia)) ?_);refine aF (gJ hC Mo.kind (vo _ (by simp)) vo (by lia) (by lia) fun k2 My=>?_);dsimp only;by_cases f2:(k2==0)=true
 .rw[ao f2];exact aJ (h _ (dQ _ Mo))
 rw[ak f2];have g2:¬ (k2=0):=by simpa using f2
 have hx:∀x∈((arrOf st).extract (sa+k) sb).toList,x∈a₀.toList:=fun x hx=>vo x (by rw[eV] at hx;exact vS (oU hx));have hy:∀x∈((arrOf st).extract sb (sb+k2)).toList,x∈a₀.toList:=fun x hx=>vo x (by rw[eV] at hx;exact vS (oU hx));have sx:((arrOf st).extract (sa+k) sb).size=sb-(sa+k):=by rw[Array.size_extract];lia
 have sy:((arrOf st).extract sb (sb+k2)).size=k2:=by rw[Array.size_extract];lia
 have last:∀ (out:Array Keyed) (aE:SortSt),out.Perm ((arrOf st).extract (sa+k) sb++(arrOf st).extract sb (sb+k2))->SM κ (arrOf st) Kg aE->wpS (model prog w) A E s (do
   modify fun s=>setArr s (out.toList.zipIdx.foldl (fun a (p,j)=>a.setIfInBounds (sa+k+j) p) (arrOf s))
   return (failedOf (<-get)).isNone) Q aE:=by
  intro out aE hp m;refine aF (fm ?_);refine aF (eM (aJ ?_));have osz:out.toList.length=sb-(sa+k)+k2:=by
   rw[lU,hp.size_eq,Array.size_append,sx,sy]
  have wl:=tL (sa:=sa+k) out.toList 0 (arrOf aE) (by rw[m.arr,osz];lia);have pm:(out.toList.zipIdx.foldl (fun a (p,j)=>a.setIfInBounds (sa+k+j) p) (arrOf aE)).Perm (arrOf st):=by
   rw[jj];refine(kP wl).trans ?_;rw[m.arr,osz,Nat.add_zero];have QS:=jj.mp hp;rw[fK,eV,eV] at QS;refine((QS.append_left _).append_right _).trans ?_;have e1:(arrOf st).toList.drop (sa+k)=((arrOf st).toList.drop (sa+k)).take (sb-(sa+k))++(arrOf st).toList.drop sb:=nW (by lia);have e2:(arrOf st).toList.drop sb=((arrOf st).toList.drop sb).take (sb+k2-sb)++(arrOf st).toList.drop (sb+k2):=nW (by lia);have e3:sa+k+(sb-(sa+k)+k2)=sb+k2:=by lia
   rw[e3];refine kP ?_;conv=>rhs;rw[<-l_ (sa+k) (arrOf st).toList,e1,e2]
   simp only[di]
  have hf:(failedOf aE).isNone=true:=by rw[m.failed];rfl
  show Q (failedOf aE).isNone _;rw[hf];exact h _ ⟨Kg,⟨pm.trans hq.perm,m.kind,m.failed,m.pend⟩,Fu,QQ⟩
 by_cases f3:na-k<=k2
 .rw[ao f3];exact aF (yL hC Mo hx hy (by lia) (by lia) fun out aE hp m=>last out aE hp m)
 .rw[ak f3];exact aF (yN hC Mo hx hy (by lia) (by lia) fun out aE hp m=>last out aE hp m)
theorem yP{c:Prop}[Decidable c]{x:Nat}:(if c then x-1 else x)<=x:=by split <;> lia
theorem SR.pw{lo:Nat}{st:SortSt}(h:SR κ a₀ lo st)(i p:Nat):SR κ a₀ lo (setPending st ((pendingOf st).modify i fun r=>(r.1,r.2.1,p))):=by
 obtain⟨pd,hq,hr,hl⟩:=h;refine⟨_,⟨hq.perm,hq.kind,hq.failed,rfl⟩,?_,hl⟩;show jx ((pendingOf st).modify i fun r=>(r.1,r.2.1,p)).toList 0 lo;rw[hq.pend,Array.toList_modify];exact hr.pw i p
theorem SR.push{lo n:Nat}{st:SortSt}(h:SR κ a₀ lo st)(h1:1<=n)(hn:lo+n<=a₀.size):SR κ a₀ (lo+n) (setPending st ((pendingOf st).push (lo,n,0))):=by
 obtain⟨pd,hq,hr,hl⟩:=h;refine⟨_,⟨hq.perm,hq.kind,hq.failed,rfl⟩,?_,hn⟩;show jx ((pendingOf st).push (lo,n,0)).toList 0 (lo+n);rw[hq.pend,mr];exact hr.push h1
theorem EB{st:SortSt}{Q:Unit->SortSt->Prop}(hC:lm prog w A s κ a₀)(hp:(arrOf st).Perm a₀)(hk:kindOf st=κ)(hf:failedOf st=none)(Oh:pendingOf st=#[])(h:∀aE,(arrOf aE).Perm a₀->failedOf aE=none->Q () aE):wpS (model prog w) A E s sortRuns' Q st:=by
 have h0:SR κ a₀ 0 st:=⟨#[],⟨hp,hk,hf,Oh⟩,rfl,bE _⟩
 have gZ:(arrOf st).size=a₀.size:=hp.size_eq;rw[sortRuns'_eq];refine aF (eM ?_);dsimp only;rw[gZ];refine aF (cY (eG (I:=fun _ c aE=>∃lo,c=(none,lo)/\SR κ a₀ lo aE) (Q:=fun c aE=>∃lo,c=(none,lo)/\SR κ a₀ lo aE) ?_ (fun c aE hh=>hh) ⟨0,rfl,h0⟩) ?_)
 .rintro i c zQ _ _ ⟨lo,rfl,hR⟩;dsimp only;by_cases e1:lo>=a₀.size
  .rw[ao e1];exact aJ ⟨lo,rfl,hR⟩
  rw[ak e1];have QQ:lo<a₀.size:=by lia
  obtain⟨pd,hq,hr,hl⟩:=hR;refine aF (Bn hC (by lia) (by lia) hq fun n km Mp n1 n2=>?_);dsimp only;by_cases hm:n<minRun' a₀.size a₀.size 0
  .rw[ao hm];refine aF (je (fE ⟨rfl,?_⟩));refine aF (GT hC (by lia) Mp fun iS hq3=>?_);simp only[sf,ic,dY];have zR:SR κ a₀ lo iS:=⟨pd,hq3,hr,hl⟩
   refine aF (eM ?_);cases hb:(pendingOf iS).back? with
   |none=>
    dsimp only;exact aF (fm (aJ ⟨_,rfl,zR.push (by lia) (by lia)⟩))
   |some r=>
    obtain⟨s1,n1',pw1⟩:=r;dsimp only;refine aF (cY (eG (I:=fun _ c aE=>c=(none,())/\SR κ a₀ lo aE) (Q:=fun c aE=>c=(none,())/\SR κ a₀ lo aE) ?_ (fun c aE hh=>hh) ⟨rfl,zR⟩) ?_)
    .rintro x c qI _ _ ⟨rfl,rf⟩;refine aF (eM ?_);by_cases hs:(pendingOf qI).size > 1
     .rw[ao hs,dX (pendingOf qI) ((pendingOf qI).size-2) (by lia)];generalize (pendingOf qI)[(pendingOf qI).size-2]=r4;obtain⟨_,_,S_⟩:=r4;dsimp only;split
      .exact aJ ⟨rfl,rf⟩
      .refine aF (lr hC rf (by lia) fun xJ Ol=>?_);simp only[sf,ic,dY];exact aJ ⟨rfl,Ol⟩
     .rw[ak hs];exact aJ ⟨rfl,rf⟩
    .rintro c qI ⟨rfl,rf⟩;dsimp only;exact aF (fm (aF (fm (aJ ⟨_,rfl,(rf.pw _ _).push (by lia) (by lia)⟩))))
  .rw[ak hm];have zR:SR κ a₀ lo km:=⟨pd,Mp,hr,hl⟩
   refine aF (eM ?_);cases hb:(pendingOf km).back? with
   |none=>
    dsimp only;exact aF (fm (aJ ⟨_,rfl,zR.push (by lia) (by lia)⟩))
   |some r=>
    obtain⟨s1,n1',pw1⟩:=r;dsimp only;refine aF (cY (eG (I:=fun _ c aE=>c=(none,())/\SR κ a₀ lo aE) (Q:=fun c aE=>c=(none,())/\SR κ a₀ lo aE) ?_ (fun c aE hh=>hh) ⟨rfl,zR⟩) ?_)
    .rintro x c qI _ _ ⟨rfl,rf⟩;refine aF (eM ?_);by_cases hs:(pendingOf qI).size > 1
     .rw[ao hs,dX (pendingOf qI) ((pendingOf qI).size-2) (by lia)];generalize (pendingOf qI)[(pendingOf qI).size-2]=r4;obtain⟨_,_,S_⟩:=r4;dsimp only;split
      .exact aJ ⟨rfl,rf⟩
      .refine aF (lr hC rf (by lia) fun xJ Ol=>?_);simp only[sf,ic,dY];exact aJ ⟨rfl,Ol⟩
     .rw[ak hs];exact aJ ⟨rfl,rf⟩
    .rintro c qI ⟨rfl,rf⟩;dsimp only;exact aF (fm (aF (fm (aJ ⟨_,rfl,(rf.pw _ _).push (by lia) (by lia)⟩))))
 .rintro c zQ ⟨lo,rfl,hR⟩;dsimp only;refine aF (cY (eG (I:=fun _ c aE=>c=(none,())/\SR κ a₀ lo aE) (Q:=fun c aE=>c=(none,())/\SR κ a₀ lo aE) ?_ (fun c aE hh=>hh) ⟨rfl,hR⟩) ?_)
  .rintro x c qI _ _ ⟨rfl,rf⟩;refine aF (eM ?_);by_cases hs:(pendingOf qI).size<=1
   .rw[ao hs];exact aJ ⟨rfl,rf⟩
   rw[ak hs];refine aF (lr hC rf ?_ fun xJ Ol=>?_)
   .exact eK (Av yP) (show (pendingOf qI).size-2+1<(pendingOf qI).size by lia)
   .simp only[sf,ic,dY];exact aJ ⟨rfl,Ol⟩
  .rintro c qI ⟨rfl,pd,hq,_⟩;exact aJ (h _ hq.perm hq.failed)
end
end PyProof.Rows
namespace L2
open PySem PySem.Spec PyProof.Rows PySem.W
def j3(h:Heap)(vs:List Value):Prop:=∀v∈vs,∃a o n x t y u,v=Value.ref a/\h.get? a=some o/\o.cls=.type "tuple"/\o.data=.seq #[.int x t,.int y u] n
theorem j3.nw{h:Heap}:∀ {vs:List Value},j3 h vs->∃fs,KatTups h vs fs/\fs.length=vs.length/\∀v∈fs,∃n t,v=Value.int n t
 |[],_=>⟨[],trivial,rfl,fun v hv=>nomatch hv⟩
 |v::vs,hp=>by
  obtain⟨fs,k1,k2,k3⟩:=j3.nw (vs:=vs) fun b hb=>hp b (cD _ hb);obtain⟨a,o,n,x,t,y,u,rfl,e,c,d⟩:=hp v bR;refine⟨.int x t::fs,KatTups.cons e c d rfl k1,by simp[k2],fun v hv=>?_⟩;rcases bb.mp hv with z|z
  .exact⟨x,t,z⟩
  .exact k3 v z
section
variable {prog:Program} {w:World} {A:Around} {E:Value->Shared->Prop} {s:Shared}
theorem EC{vs:List Value}(hp:j3 s.heap vs):lm prog w A s (tuples' true) (vs.toArray.zip vs.toArray):=by
 have mem:∀x∈(vs.toArray.zip vs.toArray).toList,x.1∈vs:=by
  intro x hx;rw[pb] at hx;exact(mx hx).1
 intro x y hx hy Q E' q;obtain⟨a,o,n,x1,t1,x2,t2,e1,eo,_,ed⟩:=hp x.1 (mem x hx);obtain⟨b,o',n',y1,u1,y2,u2,e2,XZ,_,X0⟩:=hp y.1 (mem y hy);rw[e1,e2];refine kat_lt eo ed XZ X0 (kat_cons (r_ ?_));by_cases h1:x1=y1
 .rw[fj.mpr h1];refine kat_yes (kat_cons (r_ ?_));by_cases h2:x2=y2
  .rw[fj.mpr h2];exact kat_yes (kat_nil (q _))
  .rw[nq.mpr h2];exact kat_no (kat_one _ _ (lt_int (q _)))
 .rw[nq.mpr h1];exact kat_no (oneLt_int (q _))
theorem Kh{vs:List Value}:((vs.toArray.zip vs.toArray).map (·.2)).toList=vs:=by
 rw[jI,pb];show (vs.zip vs).map (·.2)=vs;rw[<-List.unzip_snd,List.unzip_zip_right (aK _)]
theorem qK{a:Addr}{vs:List Value}{n:Nat}{P:PySem.Fin->Shared->Prop}(ho:s.heap.get? a=some (seqObj "list" vs.toArray n))(hp:j3 s.heap vs)(hz:vs.length<=4096)(h:∀ (out:Array Value),out.toList.Perm vs->P (.done (.ret .none)) { s with heap:=sortedHeap s.heap a vs out }):
  wpAny (model prog w) A (Builtin.«list.sort» ⟨[.ref a],[]⟩) P E s:=by
 rw[list_sort_plain];have ha:a<s.heap.objs.size:=aP ho;have Ki:vs.toArray.size<=sizeLine:=by rw[cz,ff];lia
 refine aw (listItems_at ho rfl ?_);refine aw (jc ho rfl ?_ Ki (bE _));obtain⟨e1,Fx⟩:∃e1,(s.heap.update a (Obj.mapSeq fun _=>#[])).get? a=some (seqObj "list" #[] e1):=⟨_,jL ho (fun _=>#[])⟩
 refine aw (kX Fx rfl ?_);refine aw (sg ?_ (by show vs.length<=_;rw[ff];lia));refine aw (pD ?_ (bE _));refine gC ?_;have ED:(((s.heap.update a (Obj.mapSeq fun _=>#[])).push (seqObj "tuple" vs.toArray 0)).push (seqObj "list" #[] 0)).get? a=some (seqObj "list" #[] e1):=by
  rw[d8 _ _ _ (by rw[eL,d9];exact ba (cV ha)),d8 _ _ _ (by rw[d9];exact ba ha)];exact Fx
 have wS:j3 (((s.heap.update a (Obj.mapSeq fun _=>#[])).push (seqObj "tuple" vs.toArray 0)).push (seqObj "list" #[] 0)) vs:=by
  intro v hv;obtain⟨b,o,n,x,t,y,u,ev,e,c,d⟩:=hp v hv;have hb:b<s.heap.objs.size:=aP e;have lS:b≠a:=by
   rintro rfl;rw[ho] at e;cases e;exact absurd (Value.type.inj c) (by decide)
  refine⟨b,o,n,x,t,y,u,ev,?_,c,d⟩;rw[d8 _ _ _ (by rw[eL,d9];exact ba (cV hb)),d8 _ _ _ (by rw[d9];exact ba hb),kG _ _ _ _ lS];exact e
 show wpAny (model prog w) A _ P E { s with heap:=((s.heap.update a (Obj.mapSeq fun _=>#[])).push (seqObj "tuple" vs.toArray 0)).push (seqObj "list" #[] 0) };dsimp only;have dQ:∀aE:SortSt,(arrOf aE).Perm (vs.toArray.zip vs.toArray)->P (.done (.ret .none)) { s with heap:=sortedHeap s.heap a vs ((arrOf aE).map (·.2)) }:=by
  intro aE GW;refine h _ ?_;have:=(jj.mp GW).map (·.2);rw[<-jI,<-jI,Kh] at this;exact this
 have MI:(vs.toArray.zip vs.toArray).size=vs.length:=by simp
 by_cases h2:vs.toArray.size<2
 .rw[ao h2,ao h2];refine aw (wpAny_pure ?_);rw[AA];refine aw (wpAny_pure ?_);dsimp only;refine aw (kX ED rfl ?_);refine aw (jc ED rfl ?_ (bE _) (by show ((vs.toArray.zip vs.toArray).map (·.2)).size<=_;rw[js,MI,ff];lia));simp only[rS,ic,dY];exact wpAny_pure (dQ (SortSt.mk' general' (vs.toArray.zip vs.toArray) #[] 7 none) (v7 _))
 .rw[ak h2,ak h2];have eJ:2<=vs.length:=by rw[cz] at h2;lia
  obtain⟨fs,k1,k2,k3⟩:=wS.nw;refine aw (kat_kind (T:=.type "int") k1 (by lia) (fun v hv=>?_) rfl ?_)
  .obtain⟨m,t,rfl⟩:=k3 v hv;exact .now
  refine aw (jd (EB (a₀:=vs.toArray.zip vs.toArray) (κ:=tuples' true) (st:=SortSt.mk' (tuples' true) (vs.toArray.zip vs.toArray) #[] 7 none)
   (Q:=fun _ aE=>(arrOf aE).Perm (vs.toArray.zip vs.toArray)/\failedOf aE=none) (EC wS) (v7 _) rfl rfl rfl fun aE b1 b2=>⟨b1,b2⟩) ?_ fun _ _ e=>e)
  rintro⟨⟨⟩,aE⟩ s' ⟨rfl,GW,hf⟩;dsimp only;refine aw (kX ED rfl ?_);refine aw (jc ED rfl ?_ (bE _) (by refine aX (pB ((js ..).trans (GW.size_eq.trans MI))) ?_;rw[ff];lia));rw[hf];simp only[rS,ic,dY];exact wpAny_pure (dQ aE GW)
theorem wT{l:Addr}{vs:List Value}{Q:Value->Shared->Prop}(hl:s.heap.IsList l vs.toArray)(hp:j3 s.heap vs)(hz:vs.length<=4096)(h:∀ (out:Array Value),out.toList.Perm vs->Q (.ref (s.heap.objs.size+1)) { s with heap:=sortedAll s.heap vs out }):
  wpAny (model prog w) A (call (.builtin "sorted") [.ref l]) Q E s:=by
 have Ki:vs.length<=sizeLine:=by rw[ff];lia
 refine Calls.call_function_entry kind_sorted plain_sorted entry_sorted (args_sorted1 _) ?_;unfold Builtin.«sorted»;refine aw (m:=checkCount "sorted" 1 1 _) (wpAny_pure ?_);refine aw (collect_list hl ?_ Ki);refine aw (pD ?_ Ki);have gZ:((s.heap.push (seqObj "list" #[] 0)).update s.heap.objs.size (Obj.mapSeq (·++vs.toArray))).objs.size=s.heap.objs.size+1:=by
  rw[d9,eL]
 have uQ:(((s.heap.push (seqObj "list" #[] 0)).update s.heap.objs.size (Obj.mapSeq (·++vs.toArray))).push (seqObj "list" vs.toArray 0)).get? (s.heap.objs.size+1)=some (seqObj "list" vs.toArray 0):=by
  rw[<-gZ];exact b_ _ rfl
 have wU:j3 (((s.heap.push (seqObj "list" #[] 0)).update s.heap.objs.size (Obj.mapSeq (·++vs.toArray))).push (seqObj "list" vs.toArray 0)) vs:=by
  intro v hv;obtain⟨b,o,n,x,t,y,u,ev,e,c,d⟩:=hp v hv;have hb:b<s.heap.objs.size:=aP e;refine⟨b,o,n,x,t,y,u,ev,?_,c,d⟩;rw[d8 _ _ _ (by rw[gZ];exact ba (cV hb)),kG _ _ _ _ (ba hb),d8 _ _ _ (ba hb)];exact e
 show wpAny _ _ _ _ _ { s with heap:=((s.heap.push (seqObj "list" #[] 0)).update s.heap.objs.size (Obj.mapSeq (·++vs.toArray))).push (seqObj "list" vs.toArray 0) };rw[gZ];refine aw (gC (jJ slot_list_sort ⟨_,uQ,rfl⟩ entry_list_sort (qK uQ wU hz fun out a1=>⟨_,rfl,?_⟩) (args_list_sort _)));exact wpAny_pure ⟨_,rfl,h out a1⟩
end
theorem lu:∀ {as:List Addr} {its:List Value},aZ (as.map V.ref) its->its=as.map Value.ref
 |[],_,r=>by cases r;rfl
 |a::as,_,r=>by
  cases r with
  |cons r rr=>
   obtain rfl:=(show _=Value.ref a from r)
   rw[lu rr];rfl
theorem p6:∀ {as:List Addr},aZ (as.map V.ref) (as.map Value.ref)
 |[]=>.nil
 |_::_=>.cons rfl p6
theorem vv{as:List Addr}{vs:List Value}(h:vs.Perm (as.map Value.ref)):∃lZ:List Addr,vs=lZ.map Value.ref/\lZ.Perm as:=by
 let un:Value->Addr:=fun v=>match v with|.ref a=>a|_=>0
 refine⟨vs.map un,?_,?_⟩
 .rw[dk];have:∀v∈vs,(Value.ref ∘ un) v=v:=by
   intro v hv;obtain⟨a,_,rfl⟩:=bj.mp (h.mem_iff.mp hv);rfl
  conv=>lhs;rw[<-jP vs]
  exact jo fun v hv=>(this v hv).symm
 .have:=h.map un;rw[dk] at this;have e:as.map (un ∘ Value.ref)=as:=by
   conv=>rhs;rw[<-jP as]
   exact jo fun a _=>rfl
  rw[e] at this;exact this
def GX(K:PySem.W.Frag):List V->Hp->VK->Prop:=fun xs H Q=>∃ (l:Addr) (as:List Addr),xs=[.ref l]/\aW K H l (as.map V.ref)/\(∀a∈as,∃x y:Int,bP K H a [.int x,.int y])/\as.length<=4096/\
 ∀ (D:Addr) (lZ:List Addr),H D=none->lZ.Perm as->Q (.ref D) (upd H D (.lst (lZ.map V.ref)))
theorem Bo{X:Cx}:fh X (.builtin "sorted") (GX X.K):=by
 intro af s σ H xs us Q I r h;obtain⟨l,as,rfl,hl,hp,hz,q⟩:=h;obtain⟨u1,rfl,r1⟩:=r.one;obtain rfl:u1=Value.ref l:=r1;obtain⟨its,rv,pl,_⟩:=I.list hl;have wL:=lu rv;subst wL;have X1:j3 s.heap (as.map Value.ref):=by
  intro v hv;obtain⟨a,ha,rfl⟩:=bj.mp hv;obtain⟨x,y,vk⟩:=hp a ha;obtain⟨its,r,⟨o,e,c,n,d⟩,_⟩:=I.tuple vk;obtain⟨u1,u2,rfl,r1,r2⟩:=r.two;obtain⟨t,rfl⟩:=r1;obtain⟨t',rfl⟩:=r2;exact⟨a,o,n,x,t,y,t',rfl,e,c,d⟩
 refine wT pl.isList X1 (by rw[aT];exact hz) fun out GY=>?_;obtain⟨lZ,eo,pa⟩:=vv GY;have yx:out=(lZ.map Value.ref).toArray:=by rw[<-eo]
 subst yx;have Om:((s.heap.push (seqObj "list" #[] 0)).update s.heap.objs.size (Obj.mapSeq (·++(as.map Value.ref).toArray))).objs.size=s.heap.objs.size+1:=by rw[d9,eL]
 have k1:∀b u,s.heap.get? b=some u->(((s.heap.push (seqObj "list" #[] 0)).update s.heap.objs.size (Obj.mapSeq (·++(as.map Value.ref).toArray))).push (seqObj "list" (as.map Value.ref).toArray 0)).get? b=some u:=fun b u e=>by
  have hb:b<s.heap.objs.size:=aP e;rw[d8 _ _ _ (by rw[Om];exact ba (cV hb)),kG _ _ _ _ (ba hb),d8 _ _ _ (ba hb)];exact e
 have uQ:(((s.heap.push (seqObj "list" #[] 0)).update s.heap.objs.size (Obj.mapSeq (·++(as.map Value.ref).toArray))).push (seqObj "list" (as.map Value.ref).toArray 0)).get? (s.heap.objs.size+1)=some (seqObj "list" (as.map Value.ref).toArray 0):=by
  rw[<-Om];exact b_ _ rfl
 have EE:(((s.heap.push (seqObj "list" #[] 0)).update s.heap.objs.size (Obj.mapSeq (·++(as.map Value.ref).toArray))).push (seqObj "list" (as.map Value.ref).toArray 0)).objs.size=s.heap.objs.size+2:=by rw[eL,Om]
 show EP X af σ Q (.ref (s.heap.objs.size+1)) { s with heap:=sortedHeap (((s.heap.push (seqObj "list" #[] 0)).update s.heap.objs.size (Obj.mapSeq (·++(as.map Value.ref).toArray))).push (seqObj "list" (as.map Value.ref).toArray 0)) (s.heap.objs.size+1) (as.map Value.ref) (lZ.map Value.ref).toArray };revert k1 uQ EE;generalize ((s.heap.push (seqObj "list" #[] 0)).update s.heap.objs.size (Obj.mapSeq (·++(as.map Value.ref).toArray))).push (seqObj "list" (as.map Value.ref).toArray 0)=h1;intro k1 uQ EE;obtain⟨e1,Fx⟩:∃e1,(h1.update (s.heap.objs.size+1) (Obj.mapSeq fun _=>(#[]:Array Value))).get? (s.heap.objs.size+1)=some (seqObj "list" #[] e1):=⟨_,jL uQ (fun _=>#[])⟩
 have ED:(((h1.update (s.heap.objs.size+1) (Obj.mapSeq fun _=>(#[]:Array Value))).push (seqObj "tuple" (as.map Value.ref).toArray 0)).push (seqObj "list" #[] 0)).get? (s.heap.objs.size+1)=some (seqObj "list" #[] e1):=by
  rw[d8 _ _ _ (by rw[eL,d9,EE];exact ba (cV (kH _))),d8 _ _ _ (by rw[d9,EE];exact ba (kH _))];exact Fx
 obtain⟨e2,X2⟩:∃e2,(sortedHeap h1 (s.heap.objs.size+1) (as.map Value.ref) (lZ.map Value.ref).toArray).get? (s.heap.objs.size+1)=some (seqObj "list" (lZ.map Value.ref).toArray e2):=⟨_,jL ED (fun _=>(lZ.map Value.ref).toArray)⟩
 have keep:∀b u,s.heap.get? b=some u->(sortedHeap h1 (s.heap.objs.size+1) (as.map Value.ref) (lZ.map Value.ref).toArray).get? b=some u:=fun b u e=>by
  have hb:b<s.heap.objs.size:=aP e;unfold sortedHeap;rw[kG _ _ _ _ (ba (cV hb)),d8 _ _ _ (by rw[eL,d9,EE];exact ba (cV (cV (cV hb)))),d8 _ _ _ (by rw[d9,EE];exact ba (cV (cV hb))),kG _ _ _ _ (ba (cV hb))];exact k1 b u e
 have tP:s.heap.get? (s.heap.objs.size+1)=none:=oY (by lia);refine⟨.ref (s.heap.objs.size+1),_,I.yj (t':=s.toks) (o:=.lst (lZ.map V.ref)) keep tP ⟨?_,lZ.map Value.ref,e2,p6,X2⟩,rfl,q _ lZ (I.ce.s_ tP) pa⟩;rw[aT,pa.length_eq];exact aX hz (by decide)
def jh(h:Heap)(g:Addr->Int×Int)(vs:List Value):Prop:=∀v∈vs,∃a o n t u,v=Value.ref a/\h.get? a=some o/\o.cls=.type "tuple"/\o.data=.seq #[.int (g a).1 t,.int (g a).2 u] n/\0<=(g a).2/\(g a).2<64
def pk(u:Int×Int):Int:=64*u.1+u.2
def kv(g:Addr->Int×Int)(v:Value):Int:=match v with
 |.ref a=>pk (g a)
 |_=>0
theorem jh.nw{h:Heap}{g:Addr->Int×Int}:∀ {vs:List Value},jh h g vs->∃fs,KatTups h vs fs/\fs.length=vs.length/\∀v∈fs,∃n t,v=Value.int n t
 |[],_=>⟨[],trivial,rfl,fun v hv=>nomatch hv⟩
 |v::vs,hp=>by
  obtain⟨fs,k1,k2,k3⟩:=jh.nw (vs:=vs) fun b hb=>hp b (cD _ hb);obtain⟨a,o,n,t,u,rfl,e,c,d,_⟩:=hp v bR;refine⟨.int (g a).1 t::fs,KatTups.cons e c d rfl k1,by simp[k2],fun v hv=>?_⟩;rcases bb.mp hv with z|z
  .exact⟨_,t,z⟩
  .exact k3 v z
section
variable {prog:Program} {w:World} {A:Around} {E:Value->Shared->Prop} {s:Shared} {g:Addr->Int×Int}
theorem Bp{vs:List Value}(hp:jh s.heap g vs):Jt prog w A s (tuples' true) (vs.toArray.zip vs.toArray) (fun x=>kv g x.1):=by
 have mem:∀x∈(vs.toArray.zip vs.toArray).toList,x.1∈vs:=by
  intro x hx;rw[pb] at hx;exact(mx hx).1
 intro x y hx hy Q E' q;obtain⟨a,o,n,t1,t2,e1,eo,_,ed,a1,a2⟩:=hp x.1 (mem x hx);obtain⟨b,o',n',u1,u2,e2,XZ,_,X0,b1,b2⟩:=hp y.1 (mem y hy);replace q:∀c,c=decide (kv g x.1<kv g y.1)->Q c s:=fun c e=>e ▸ q;rw[e1,e2] at q;rw[e1,e2];replace q:∀c,c=decide (64*(g a).1+(g a).2<64*(g b).1+(g b).2)->Q c s:=q;generalize (g a).1=x1 at *;generalize (g a).2=x2 at *;generalize (g b).1=y1 at *;generalize (g b).2=y2 at *;refine kat_lt eo ed XZ X0 (kat_cons (r_ ?_));by_cases h1:x1=y1
 .rw[fj.mpr h1];refine kat_yes (kat_cons (r_ ?_));by_cases h2:x2=y2
  .rw[fj.mpr h2];exact kat_yes (kat_nil (q _ (by
    have e:decide (64*x1+x2<64*y1+y2)=false:=gw (by lia);rw[e];rfl)))
  .rw[nq.mpr h2];exact kat_no (kat_one _ _ (lt_int (q _ (by congr 1;rw[eq_iff_iff];lia))))
 .rw[nq.mpr h1];exact kat_no (oneLt_int (q _ (by congr 1;rw[eq_iff_iff];lia)))
theorem GZ{vs:List Value}:((vs.toArray.zip vs.toArray).map (·.2)).toList=vs:=by
 rw[jI,pb];show (vs.zip vs).map (·.2)=vs;rw[<-List.unzip_snd,List.unzip_zip_right (aK _)]
theorem EF{l:List Value}{p:Value×Value}:p∈l.zip l->p.2=p.1:=by
 induction l with
 |nil=>intro h;cases h
 |cons x l ih=>
  intro h;rw[List.zip_cons_cons] at h;rcases bb.mp h with z|z
  .rw[z]
  .exact ih z
def C7(g:Addr->Int×Int)(v:Value):Int:=match v with
 |.ref a=>(g a).2
 |_=>0
theorem nuS{h:Heap}{g:Addr->Int×Int}{vs:List Value}(hp:jh h g vs)(up:vs.Pairwise fun u v=>C7 g u<C7 g v):Nu (fun x:Keyed=>C7 g x.1) (vs.toArray.zip vs.toArray):=by
 have e:∀i (hi:i<vs.length),kk (fun x:Keyed=>C7 g x.1) (vs.toArray.zip vs.toArray) i=C7 g vs[i]:=fun i hi=>by
  rw[lj (by simpa using hi)];simp
 refine⟨fun i j AM hj=>?_,fun x hx=>?_⟩
 .have hj:j<vs.length:=by simpa using hj
  rw[e i (by lia),e j hj];exact oH.mp up i j (by lia) hj AM
 .rw[pb] at hx;obtain⟨a,o,n,t,u,ev,_,_,_,b1,b2⟩:=hp x.1 (mx hx).1;show 0<=C7 g x.1/\C7 g x.1<64;rw[ev];exact⟨b1,b2⟩
theorem p7{a:Addr}{vs:List Value}{n:Nat}{P:PySem.Fin->Shared->Prop}(ho:s.heap.get? a=some (seqObj "list" vs.toArray n))(hp:jh s.heap g vs)(hz:vs.length<64)(up:vs.Pairwise fun u v=>C7 g u<C7 g v)(h:∀ (out:Array Value),out.toList.Perm vs->out.toList.Pairwise (fun u v=>kv g u<=kv g v)->P (.done (.ret .none)) { s with heap:=sortedHeap s.heap a vs out }):
  wpAny (model prog w) A (Builtin.«list.sort» ⟨[.ref a],[]⟩) P E s:=by
 rw[list_sort_plain];have ha:a<s.heap.objs.size:=aP ho;have Ki:vs.toArray.size<=sizeLine:=by rw[cz,ff];lia
 refine aw (listItems_at ho rfl ?_);refine aw (jc ho rfl ?_ Ki (bE _));obtain⟨e1,Fx⟩:∃e1,(s.heap.update a (Obj.mapSeq fun _=>#[])).get? a=some (seqObj "list" #[] e1):=⟨_,jL ho (fun _=>#[])⟩
 refine aw (kX Fx rfl ?_);refine aw (sg ?_ (by show vs.length<=_;rw[ff];lia));refine aw (pD ?_ (bE _));refine gC ?_;have ED:(((s.heap.update a (Obj.mapSeq fun _=>#[])).push (seqObj "tuple" vs.toArray 0)).push (seqObj "list" #[] 0)).get? a=some (seqObj "list" #[] e1):=by
  rw[d8 _ _ _ (by rw[eL,d9];exact ba (cV ha)),d8 _ _ _ (by rw[d9];exact ba ha)];exact Fx
 have wS:jh (((s.heap.update a (Obj.mapSeq fun _=>#[])).push (seqObj "tuple" vs.toArray 0)).push (seqObj "list" #[] 0)) g vs:=by
  intro v hv;obtain⟨b,o,n,t,u,ev,e,c,d⟩:=hp v hv;have hb:b<s.heap.objs.size:=aP e;have lS:b≠a:=by
   rintro rfl;rw[ho] at e;cases e;exact absurd (Value.type.inj c) (by decide)
  refine⟨b,o,n,t,u,ev,?_,c,d⟩;rw[d8 _ _ _ (by rw[eL,d9];exact ba (cV hb)),d8 _ _ _ (by rw[d9];exact ba hb),kG _ _ _ _ lS];exact e
 show wpAny (model prog w) A _ P E { s with heap:=((s.heap.update a (Obj.mapSeq fun _=>#[])).push (seqObj "tuple" vs.toArray 0)).push (seqObj "list" #[] 0) };dsimp only;have dQ:∀aE:SortSt,(arrOf aE).Perm (vs.toArray.zip vs.toArray)->So (fun x=>kv g x.1) (arrOf aE) 0 (arrOf aE).size->P (.done (.ret .none)) { s with heap:=sortedHeap s.heap a vs ((arrOf aE).map (·.2)) }:=by
  intro aE GW so;refine h _ ?_ ?_
  .have:=(jj.mp GW).map (·.2);rw[<-jI,<-jI,GZ] at this;exact this
  .have same:∀p∈(arrOf aE).toList,p.2=p.1:=by
    intro p hp;have:=(jj.mp GW).mem_iff.mp hp;rw[pb] at this;exact EF this
   rw[jI,fu];refine oH.mpr fun i j hi hj AM=>?_;rw[same _ (gv hi),same _ (gv hj)];have:=so i j (by lia) (by lia) (by simpa using hj);rw[lj (by simpa using hi),lj (by simpa using hj)] at this;simpa using this
 have MI:(vs.toArray.zip vs.toArray).size=vs.length:=by simp
 by_cases h2:vs.toArray.size<2
 .rw[ao h2,ao h2];refine aw (wpAny_pure ?_);rw[AA];refine aw (wpAny_pure ?_);dsimp only;refine aw (kX ED rfl ?_);refine aw (jc ED rfl ?_ (bE _) (by show ((vs.toArray.zip vs.toArray).map (·.2)).size<=_;rw[js,MI,ff];lia));simp only[rS,ic,dY];exact wpAny_pure (dQ (SortSt.mk' general' (vs.toArray.zip vs.toArray) #[] 7 none) (v7 _) fun i j _ h3 h4=>by
   have h4:j<(vs.toArray.zip vs.toArray).size:=h4;rw[MI] at h4;rw[cz] at h2;rw[show i=j by lia];exact mB _)
 .rw[ak h2,ak h2];have eJ:2<=vs.length:=by rw[cz] at h2;lia
  obtain⟨fs,k1,k2,k3⟩:=wS.nw;refine aw (kat_kind (T:=.type "int") k1 (by lia) (fun v hv=>?_) rfl ?_)
  .obtain⟨m,t,rfl⟩:=k3 v hv;exact .now
  refine aw (jd (tJ (a₀:=vs.toArray.zip vs.toArray) (κ:=tuples' true) (ck:=fun x=>kv g x.1) (nu:=fun x=>C7 g x.1) (st:=SortSt.mk' (tuples' true) (vs.toArray.zip vs.toArray) #[] 7 none)
   (Q:=fun _ aE=>(arrOf aE).Perm (vs.toArray.zip vs.toArray)/\failedOf aE=none/\So (fun x=>kv g x.1) (arrOf aE) 0 (vs.toArray.zip vs.toArray).size) (Bp wS) (nuS wS up) rfl rfl rfl rfl (by rw[MI];exact eJ) (by rw[MI];exact hz) fun aE b1 b2 b3=>⟨b1,b2,fun i j _ h2 h3=>?_⟩) ?_ fun _ _ e=>e)
  .have q:=b3 i j h2 h3;have bd:∀k,k<(vs.toArray.zip vs.toArray).size->0<=kk (fun x:Keyed=>C7 g x.1) (arrOf aE) k/\kk (fun x:Keyed=>C7 g x.1) (arrOf aE) k<64:=fun k hk=>by
    have Jr:k<(arrOf aE).size:=by rw[b1.size_eq];exact hk
    rw[lj Jr];exact(nuS wS up).bd _ ((jj.mp b1).mem_iff.mp (by simp))
   have:=bd i (by lia);have:=bd j h3;lia
  rintro⟨⟨⟩,aE⟩ s' ⟨rfl,GW,hf,so⟩;dsimp only;refine aw (kX ED rfl ?_);refine aw (jc ED rfl ?_ (bE _) (by refine aX (pB ((js ..).trans (GW.size_eq.trans MI))) ?_;rw[ff];lia));rw[hf];simp only[rS,ic,dY];exact wpAny_pure (dQ aE GW (by rw[GW.size_eq];exact so))
theorem uE{l:Addr}{vs:List Value}{Q:Value->Shared->Prop}(hl:s.heap.IsList l vs.toArray)(hp:jh s.heap g vs)(hz:vs.length<64)(up:vs.Pairwise fun u v=>C7 g u<C7 g v)(h:∀ (out:Array Value),out.toList.Perm vs->out.toList.Pairwise (fun u v=>kv g u<=kv g v)->Q (.ref (s.heap.objs.size+1)) { s with heap:=sortedAll s.heap vs out }):
  wpAny (model prog w) A (call (.builtin "sorted") [.ref l]) Q E s:=by
 have Ki:vs.length<=sizeLine:=by rw[ff];lia
 refine Calls.call_function_entry kind_sorted plain_sorted entry_sorted (args_sorted1 _) ?_;unfold Builtin.«sorted»;refine aw (m:=checkCount "sorted" 1 1 _) (wpAny_pure ?_);refine aw (collect_list hl ?_ Ki);refine aw (pD ?_ Ki);have gZ:((s.heap.push (seqObj "list" #[] 0)).update s.heap.objs.size (Obj.mapSeq (·++vs.toArray))).objs.size=s.heap.objs.size+1:=by
  rw[d9,eL]
 have uQ:(((s.heap.push (seqObj "list" #[] 0)).update s.heap.objs.size (Obj.mapSeq (·++vs.toArray))).push (seqObj "list" vs.toArray 0)).get? (s.heap.objs.size+1)=some (seqObj "list" vs.toArray 0):=by
  rw[<-gZ];exact b_ _ rfl
 have wU:jh (((s.heap.push (seqObj "list" #[] 0)).update s.heap.objs.size (Obj.mapSeq (·++vs.toArray))).push (seqObj "list" vs.toArray 0)) g vs:=by
  intro v hv;obtain⟨b,o,n,t,u,ev,e,c,d⟩:=hp v hv;have hb:b<s.heap.objs.size:=aP e;refine⟨b,o,n,t,u,ev,?_,c,d⟩;rw[d8 _ _ _ (by rw[gZ];exact ba (cV hb)),kG _ _ _ _ (ba hb),d8 _ _ _ (ba hb)];exact e
 show wpAny _ _ _ _ _ { s with heap:=((s.heap.push (seqObj "list" #[] 0)).update s.heap.objs.size (Obj.mapSeq (·++vs.toArray))).push (seqObj "list" vs.toArray 0) };rw[gZ];refine aw (gC (jJ slot_list_sort ⟨_,uQ,rfl⟩ entry_list_sort (p7 uQ wU hz up fun out a1 a2=>⟨_,rfl,?_⟩) (args_list_sort _)));exact wpAny_pure ⟨_,rfl,h out a1 a2⟩
end
def G0(K:PySem.W.Frag):List V->Hp->VK->Prop:=fun xs H Q=>∃ (l:Addr) (as:List Addr) (g:Addr->Int×Int),xs=[.ref l]/\aW K H l (as.map V.ref)/\(∀a∈as,bP K H a [.int (g a).1,.int (g a).2]/\0<=(g a).2/\(g a).2<64)/\as.length<64/\as.Pairwise (fun a b=>(g a).2<(g b).2)/\
 ∀ (D:Addr) (lZ:List Addr),H D=none->lZ.Perm as->lZ.Pairwise (fun a b=>pk (g a)<=pk (g b))->Q (.ref D) (upd H D (.lst (lZ.map V.ref)))
theorem Bq{X:Cx}:fh X (.builtin "sorted") (G0 X.K):=by
 intro af s σ H xs us Q I r h;obtain⟨l,as,g,rfl,hl,hp,hz,up,q⟩:=h;obtain⟨u1,rfl,r1⟩:=r.one;obtain rfl:u1=Value.ref l:=r1;obtain⟨its,rv,pl,_⟩:=I.list hl;have wL:=lu rv;subst wL;have X1:jh s.heap g (as.map Value.ref):=by
  intro v hv;obtain⟨a,ha,rfl⟩:=bj.mp hv;obtain⟨vk,b1,b2⟩:=hp a ha;obtain⟨its,r,⟨o,e,c,n,d⟩,_⟩:=I.tuple vk;obtain⟨u1,u2,rfl,r1,r2⟩:=r.two;obtain⟨t,rfl⟩:=r1;obtain⟨t',rfl⟩:=r2;exact⟨a,o,n,t,t',rfl,e,c,d,b1,b2⟩
 refine uE pl.isList X1 (by rw[aT];exact hz) (fu.mpr up) fun out GY Ta=>?_;obtain⟨lZ,eo,pa⟩:=vv GY;have yx:out=(lZ.map Value.ref).toArray:=by rw[<-eo]
 subst yx;have ho:lZ.Pairwise (fun a b=>pk (g a)<=pk (g b)):=by
  rw[eo,fu] at Ta;exact Ta
 have Om:((s.heap.push (seqObj "list" #[] 0)).update s.heap.objs.size (Obj.mapSeq (·++(as.map Value.ref).toArray))).objs.size=s.heap.objs.size+1:=by rw[d9,eL]
 have k1:∀b u,s.heap.get? b=some u->(((s.heap.push (seqObj "list" #[] 0)).update s.heap.objs.size (Obj.mapSeq (·++(as.map Value.ref).toArray))).push (seqObj "list" (as.map Value.ref).toArray 0)).get? b=some u:=fun b u e=>by
  have hb:b<s.heap.objs.size:=aP e;rw[d8 _ _ _ (by rw[Om];exact ba (cV hb)),kG _ _ _ _ (ba hb),d8 _ _ _ (ba hb)];exact e
 have uQ:(((s.heap.push (seqObj "list" #[] 0)).update s.heap.objs.size (Obj.mapSeq (·++(as.map Value.ref).toArray))).push (seqObj "list" (as.map Value.ref).toArray 0)).get? (s.heap.objs.size+1)=some (seqObj "list" (as.map Value.ref).toArray 0):=by
  rw[<-Om];exact b_ _ rfl
 have EE:(((s.heap.push (seqObj "list" #[] 0)).update s.heap.objs.size (Obj.mapSeq (·++(as.map Value.ref).toArray))).push (seqObj "list" (as.map Value.ref).toArray 0)).objs.size=s.heap.objs.size+2:=by rw[eL,Om]
 show EP X af σ Q (.ref (s.heap.objs.size+1)) { s with heap:=sortedHeap (((s.heap.push (seqObj "list" #[] 0)).update s.heap.objs.size (Obj.mapSeq (·++(as.map Value.ref).toArray))).push (seqObj "list" (as.map Value.ref).toArray 0)) (s.heap.objs.size+1) (as.map Value.ref) (lZ.map Value.ref).toArray };revert k1 uQ EE;generalize ((s.heap.push (seqObj "list" #[] 0)).update s.heap.objs.size (Obj.mapSeq (·++(as.map Value.ref).toArray))).push (seqObj "list" (as.map Value.ref).toArray 0)=h1;intro k1 uQ EE;obtain⟨e1,Fx⟩:∃e1,(h1.update (s.heap.objs.size+1) (Obj.mapSeq fun _=>(#[]:Array Value))).get? (s.heap.objs.size+1)=some (seqObj "list" #[] e1):=⟨_,jL uQ (fun _=>#[])⟩
 have ED:(((h1.update (s.heap.objs.size+1) (Obj.mapSeq fun _=>(#[]:Array Value))).push (seqObj "tuple" (as.map Value.ref).toArray 0)).push (seqObj "list" #[] 0)).get? (s.heap.objs.size+1)=some (seqObj "list" #[] e1):=by
  rw[d8 _ _ _ (by rw[eL,d9,EE];exact ba (cV (kH _))),d8 _ _ _ (by rw[d9,EE];exact ba (kH _))];exact Fx
 obtain⟨e2,X2⟩:∃e2,(sortedHeap h1 (s.heap.objs.size+1) (as.map Value.ref) (lZ.map Value.ref).toArray).get? (s.heap.objs.size+1)=some (seqObj "list" (lZ.map Value.ref).toArray e2):=⟨_,jL ED (fun _=>(lZ.map Value.ref).toArray)⟩
 have keep:∀b u,s.heap.get? b=some u->(sortedHeap h1 (s.heap.objs.size+1) (as.map Value.ref) (lZ.map Value.ref).toArray).get? b=some u:=fun b u e=>by
  have hb:b<s.heap.objs.size:=aP e;unfold sortedHeap;rw[kG _ _ _ _ (ba (cV hb)),d8 _ _ _ (by rw[eL,d9,EE];exact ba (cV (cV (cV hb)))),d8 _ _ _ (by rw[d9,EE];exact ba (cV (cV hb))),kG _ _ _ _ (ba (cV hb))];exact k1 b u e
 have tP:s.heap.get? (s.heap.objs.size+1)=none:=oY (by lia);refine⟨.ref (s.heap.objs.size+1),_,I.yj (t':=s.toks) (o:=.lst (lZ.map V.ref)) keep tP ⟨?_,lZ.map Value.ref,e2,p6,X2⟩,rfl,q _ lZ (I.ce.s_ tP) pa ho⟩;rw[aT,pa.length_eq];exact aX (jO hz) (by decide)
open PySem PySem.Spec PyProof.Rows
theorem df(sb:Heap.SameBut c h h')(n:b≠c)(e:h.get? b=some o):h'.get? b=some o:=(sb.2 b n).trans e
theorem gc(r:h.IsTupleIter it t k)(sb:Heap.SameBut c h h')(n:it≠c):h'.IsTupleIter it t k:=r.at fun o e=>df sb n e
theorem tQ(r:h.IsTuple t xs)(sb:Heap.SameBut c h h')(n:t≠c):h'.IsTuple t xs:=let ⟨o,e,z⟩:=r;⟨o,df sb n e,z⟩
section
variable {prog:Program} {w:World} {A:Around} {E:Value->Shared->Prop} {s:Shared}
theorem EG{z ti tq i1 i2 t1 t2:Addr}{k:Nat}{xs ys:Array Value}{x y a b:Value}{Q:Value->Shared->Prop}(dj:ZipApart z ti tq i1 i2 t1 t2)(gz:IsZip s.heap z ti tq .none)(gi:IsPair s.heap ti (.ref i1) (.ref i2))(gq:IsPair s.heap tq a b)(r1:s.heap.IsTupleIter i1 t1 k)(r2:s.heap.IsTupleIter i2 t2 k)(g1:s.heap.IsTuple t1 xs)(g2:s.heap.IsTuple t2 ys)(ex:xs[k]?=some x)(ey:ys[k]?=some y)(q:∀h',IsZip h' z ti tq (rawInt s.heap.objs.size)->IsPair h' tq x y->h'.IsTupleIter i1 t1 (k+1)->h'.IsTupleIter i2 t2 (k+1)->IsPair h' s.heap.objs.size x y->(∀c o,c≠z->c≠tq->c≠i1->c≠i2->s.heap.get? c=some o->h'.get? c=some o)->Q (.ref s.heap.objs.size) { s with heap:=h' }):
  wpAny (model prog w) A (Builtin.«zip.__next__» ⟨[.ref z],[]⟩) (fun dQ s'=>∃v,dQ=.done (.ret v)/\Q v s') E s:=by
 change wpAny _ _ (field (.ref z) 2 >>= _) _ _ _;refine aw (fV gz rfl (x:=.bool false) rfl ?_);change wpAny _ _ (field (.ref z) 3 >>= _) _ _ _;refine aw (fV gz rfl (x:=.ref ti) rfl (aw (hX gi rfl ?_)));change wpAny _ _ (Builtin.SmallTypes.ownedTupleIsFree (.ref z) >>= _) _ _ _;refine aw ?_;unfold Builtin.SmallTypes.ownedTupleIsFree;refine aw (fV gz rfl (x:=.none) rfl (wpAny_pure ?_));simp only[jQ];refine aw (fE (aw (fV gz rfl (x:=.ref tq) rfl ?_)));refine aw (o5 gz (by simp) fun m1 Kj qF=>?_);replace Kj:IsZip m1 z ti tq .ellipsis:=Kj;refine aw ?_;simp only[Aw,List.zipIdx_nil,ph,pq];refine aw (aw (wpAny_onRaise ?_));change wpAny _ _ (Builtin.SmallTypes.nextOf (.ref i1) >>= _) _ _ _;refine aw (mN (gc r1 qF dj.i1z) (tQ g1 qF dj.l1z) ex fun m2 r12 pR=>wpAny_pure ?_);have gq2:IsPair m2 tq a b:=df pR dj.TOi1 (df qF dj.TOz gq);refine aw (hX gq2 rfl (aw (wpAny_updateSeq_pair gq2 fun m3 X3 Kk=>?_)));replace X3:IsPair m3 tq x b:=X3;refine aw (wpAny_letGo (wpAny_pure ?_));refine aw (aw (wpAny_onRaise ?_));change wpAny _ _ (Builtin.SmallTypes.nextOf (.ref i2) >>= _) _ _ _;refine aw (mN (gc (gc (gc r2 qF dj.i2z) pR dj.i12.symm) Kk dj.TOi2.symm) (tQ (tQ (tQ g2 qF dj.l2z) pR dj.l2i1) Kk dj.l2TO) ey fun m4 r24 Tb=>wpAny_pure ?_);have gq4:IsPair m4 tq x b:=df Tb dj.TOi2 X3;refine aw (hX gq4 rfl (aw (wpAny_updateSeq_pair gq4 fun m5 V1 Tc=>?_)));replace V1:IsPair m5 tq x y:=V1;refine aw (wpAny_letGo (wpAny_pure (wpAny_pure ?_)));refine aw (hX V1 rfl (aw (sg ?_)));have sz:m5.objs.size=s.heap.objs.size:=by rw[Tc.1,Tb.1,Kk.1,pR.1,qF.1]
 have gz5:IsZip m5 z ti tq .ellipsis:=df Tc dj.TOz.symm (df Tb dj.i2z.symm (df Kk dj.TOz.symm (df pR dj.i1z.symm Kj)));have kp5:∀c o,c≠z->c≠tq->c≠i1->c≠i2->s.heap.get? c=some o->m5.get? c=some o:=fun c o c1 c2 c3 c4 e=>
  df Tc c2 (df Tb c4 (df Kk c2 (df pR c3 (df qF c1 e))))
 have r15:m5.IsTupleIter i1 t1 (k+1):=gc (gc (gc r12 Kk dj.TOi1.symm) Tb dj.i12) Tc dj.TOi1.symm;have r25:m5.IsTupleIter i2 t2 (k+1):=gc r24 Tc dj.TOi2.symm;have zl:z<m5.objs.size:=aP gz5;change wpAny _ _ (Builtin.SmallTypes.ownedTupleHandOut (.ref z) (.ref m5.objs.size) >>= _) _ _ _;refine aw ?_;unfold Builtin.SmallTypes.ownedTupleHandOut;have gz6:IsZip (m5.push { cls:=.type "tuple",data:=.seq #[x,y] }) z ti tq .ellipsis:=bw _ gz5;refine aw (o5 gz6 (by simp) fun m7 X4 sb7=>?_);replace X4:IsZip m7 z ti tq (rawInt m5.objs.size):=X4;refine o5 X4 (by simp) fun m8 V2 sb8=>?_;replace V2:IsZip m8 z ti tq (rawInt m5.objs.size):=V2;have up:∀c o,c≠z->m5.get? c=some o->m8.get? c=some o:=fun c o c1 e=>df sb8 c1 (df sb7 c1 (bw _ e));have gp8:IsPair m8 m5.objs.size x y:=df sb8 (fw zl) (df sb7 (fw zl) (b_ _ rfl));rw[sz] at V2 gp8;refine wpAny_pure ⟨_,rfl,?_⟩;change Q (.ref m5.objs.size) _;rw[sz];exact q m8 V2 (up _ _ dj.TOz V1) (r15.at fun o e=>up _ o dj.i1z e) (r25.at fun o e=>up _ o dj.i2z e) gp8 fun c o c1 c2 c3 c4 e=>up c o c1 (kp5 c o c1 c2 c3 c4 e)
theorem G7(hh:A.handled=none)(dj:ZipApart z ti tq i1 i2 t1 t2)(gz:IsZip s.heap z ti tq .none)(gi:IsPair s.heap ti (.ref i1) (.ref i2))(r1:s.heap.IsTupleIter i1 t1 k)(g1:s.heap.IsTuple t1 xs)(ex:xs[k]?=none)(q:∀h' e,(∀c o,c≠z->c≠i1->s.heap.get? c=some o->h'.get? c=some o)->(∃o,h'.get? e=some o/\o.cls=.type "StopIteration")->E (.ref e) { s with heap:=h' }):
  wpAny (model prog w) A (Builtin.«zip.__next__» ⟨[.ref z],[]⟩) Q E s:=by
 change wpAny _ _ (field (.ref z) 2 >>= _) _ _ _;refine aw (fV gz rfl (x:=.bool false) rfl ?_);change wpAny _ _ (field (.ref z) 3 >>= _) _ _ _;refine aw (fV gz rfl (x:=.ref ti) rfl (aw (hX gi rfl ?_)));change wpAny _ _ (Builtin.SmallTypes.ownedTupleIsFree (.ref z) >>= _) _ _ _;refine aw ?_;unfold Builtin.SmallTypes.ownedTupleIsFree;refine aw (fV gz rfl (x:=.none) rfl (wpAny_pure ?_));simp only[jQ];refine aw (fE (aw (fV gz rfl (x:=.ref tq) rfl ?_)));refine aw (o5 gz (by simp) fun m1 Kj qF=>?_);replace Kj:IsZip m1 z ti tq .ellipsis:=Kj;refine aw ?_;simp only[Aw,List.zipIdx_nil,ph,pq];refine aw (aw (wpAny_onRaise ?_));change wpAny _ _ (Builtin.SmallTypes.nextOf (.ref i1) >>= _) _ _ _;refine aw (pX hh (gc r1 qF dj.i1z) (tQ g1 qF dj.l1z) ex fun m2 e pR he=>?_);obtain⟨oe,X5,hce⟩:=he;have V3:IsZip m2 z ti tq .ellipsis:=pR _ _ dj.i1z.symm Kj;have nez:e≠z:=fun y=>by subst y;rw[V3] at X5;cases X5;simp at hce
 exact o5 V3 (by simp) fun m3 _ Kk=>q m3 e (fun c o c1 c3 y=>df Kk c1 (pR _ _ c3 (df qF c1 y))) ⟨oe,df Kk nez X5,hce⟩
theorem Br(dj:ZipApart z ti tq i1 i2 t1 t2)(gz:IsZip s.heap z ti tq .none)(gi:IsPair s.heap ti (.ref i1) (.ref i2))(gq:IsPair s.heap tq a b)(r1:s.heap.IsTupleIter i1 t1 k)(r2:s.heap.IsTupleIter i2 t2 k)(g1:s.heap.IsTuple t1 xs)(g2:s.heap.IsTuple t2 ys)(ex:xs[k]?=some x)(ey:ys[k]?=some y)(q:∀h',IsZip h' z ti tq (rawInt s.heap.objs.size)->IsPair h' tq x y->h'.IsTupleIter i1 t1 (k+1)->h'.IsTupleIter i2 t2 (k+1)->IsPair h' s.heap.objs.size x y->(∀c o,c≠z->c≠tq->c≠i1->c≠i2->s.heap.get? c=some o->h'.get? c=some o)->Q (some (.ref s.heap.objs.size)) { s with heap:=h' }):
  wpAny (model prog w) A (pyNext (.ref z)) Q E s:=by
 have ty:s.TypeIs (.ref z) "zip":=⟨_,gz,rfl⟩
 unfold pyNext;refine aw (jN (l9 (name:=Str.ofString "__next__") ty F.slot_zip_next (jJ F.slot_zip_next ty F.entry_zip_next ?_ (F.args_zip_next_1 _))));exact EG dj gz gi gq r1 r2 g1 g2 ex ey fun h' a1 a2 a3 a4 a5 a6=>wpAny_pure (q h' a1 a2 a3 a4 a5 a6)
theorem Bs(hh:A.handled=none)(dj:ZipApart z ti tq i1 i2 t1 t2)(gz:IsZip s.heap z ti tq .none)(gi:IsPair s.heap ti (.ref i1) (.ref i2))(r1:s.heap.IsTupleIter i1 t1 k)(g1:s.heap.IsTuple t1 xs)(ex:xs[k]?=none)(q:∀h',(∀c o,c≠z->c≠i1->s.heap.get? c=some o->h'.get? c=some o)->Q none { s with heap:=h' }):wpAny (model prog w) A (pyNext (.ref z)) Q E s:=by
 have ty:s.TypeIs (.ref z) "zip":=⟨_,gz,rfl⟩
 unfold pyNext;refine aw (jN (l9 (name:=Str.ofString "__next__") ty F.slot_zip_next (jJ F.slot_zip_next ty F.entry_zip_next (G7 hh dj gz gi r1 g1 ex fun h' e hk he=>?_) (F.args_zip_next_1 _))));obtain⟨o,ho,hc⟩:=he;exact aw (AJ (T:="StopIteration") (b:=true) ⟨o,ho,hc⟩ isSubtype_stop (wpAny_pure (q _ hk)))
abbrev zT(t:Addr):Obj:={ cls:=.type "tuple_iterator",data:=.fields #[.ref t,.int 0 0] }
abbrev V4(h:Heap)(t1 t2:Addr):Heap:=((h.push (zT t1)).push (zT t2)).push { cls:=.type "tuple",data:=.seq #[.ref h.objs.size,.ref (h.push (zT t1)).objs.size] }
abbrev V5(h:Heap)(t1 t2:Addr):Heap:=(V4 h t1 t2).push { cls:=.type "tuple",data:=.seq #[.none,.none] }
abbrev QV(h:Heap)(t1 t2:Addr):Heap:=(V5 h t1 t2).push { cls:=.type "zip",data:=.fields #[.none,.bool false,.bool false,.ref ((h.push (zT t1)).push (zT t2)).objs.size,.ref (V4 h t1 t2).objs.size] }
theorem G8(t1 t2:Addr)(xs ys:Array Value):
  Meets (Builtin.«zip.__new__» ⟨[.type "zip",.ref t1,.ref t2],[]⟩) (fun _ R s=>s.heap.IsTuple t1 xs/\s.heap.IsTuple t2 ys/\R (.ok (.ret (.ref (V5 s.heap t1 t2).objs.size))) { s with heap:=QV s.heap t1 t2 }):=
 .of_wp fun prog w A R s h=>by
  obtain⟨hp,g,d,tk,os⟩:=s;obtain⟨g1,g2,h⟩:=h;have abq:=sub_zip;have gA:Heap.IsTuple (Shared.heap ⟨hp,g,d,tk,os⟩) t1 xs:=g1;have gB:Heap.IsTuple (Shared.heap ⟨hp.push (zT t1),g,d,tk,os⟩) t2 ys:=let ⟨o,e,z⟩:=g2;⟨o,bw _ e,z⟩
  wp_walk using rW gA,rW gB
  exact⟨_,rfl,h⟩
theorem EH(g1:s.heap.IsTuple t1 xs)(g2:s.heap.IsTuple t2 ys)(q:∀h',IsZip h' (s.heap.objs.size+4) (s.heap.objs.size+2) (s.heap.objs.size+3) .none->IsPair h' (s.heap.objs.size+2) (.ref s.heap.objs.size) (.ref (s.heap.objs.size+1))->IsPair h' (s.heap.objs.size+3) .none .none->
   h'.IsTupleIter s.heap.objs.size t1 0->h'.IsTupleIter (s.heap.objs.size+1) t2 0->(∀c o,s.heap.get? c=some o->h'.get? c=some o)->Q (.ref (s.heap.objs.size+4)) { s with heap:=h' }):
  wpAny (model prog w) A (call (.type "zip") [.ref t1,.ref t2]) Q E s:=by
 refine callType_new F.called_zip (by decide) (F.typeCall_zip_2 _ _) (F.newCall_zip_2 _ _) (fun obj=>F.args_object_init_3 obj _ _) F.entry_zip_new (G8 t1 t2 xs ys) ⟨g1,g2,?_⟩;have n1:(s.heap.push (zT t1)).objs.size=s.heap.objs.size+1:=iy ..;have n2:((s.heap.push (zT t1)).push (zT t2)).objs.size=s.heap.objs.size+2:=by rw[iy,n1]
 have n3:(V4 s.heap t1 t2).objs.size=s.heap.objs.size+3:=by rw[iy,n2]
 have n4:(V5 s.heap t1 t2).objs.size=s.heap.objs.size+4:=by rw[iy,n3]
 have e5:(QV s.heap t1 t2).get? (V5 s.heap t1 t2).objs.size=some _:=b_ _ rfl;have e4:(QV s.heap t1 t2).get? (V4 s.heap t1 t2).objs.size=some _:=bw _ (b_ _ rfl);have e3:(QV s.heap t1 t2).get? ((s.heap.push (zT t1)).push (zT t2)).objs.size=some _:=bw _ (bw _ (b_ _ rfl));have e2:(QV s.heap t1 t2).get? (s.heap.push (zT t1)).objs.size=some _:=bw _ (bw _ (bw _ (b_ _ rfl)));have e1:(QV s.heap t1 t2).get? s.heap.objs.size=some _:=bw _ (bw _ (bw _ (bw _ (b_ _ rfl))));change _/\_;rw[n2,n3,n4] at e5;rw[n1,n2] at e3;rw[n3] at e4;rw[n1] at e2;rw[n4];exact⟨⟨_,e5,rfl⟩,q _ e5 e3 e4 ⟨_,e1,rfl,rfl⟩ ⟨_,e2,rfl,rfl⟩ fun c o y=>
  bw _ (bw _ (bw _ (bw _ (bw _ y))))⟩
end
theorem aS.Kl{X:Cx}{af:List (Addr×Obj)}{σ:St}{H:Hp}{s:Shared}{h':Heap}{t':Nat}{ch:List Addr}(I:aS X af σ H s)(fe:∀e∈ch,gh X af H e)(k:∀b o,b∉ch->s.heap.get? b=some o->h'.get? b=some o):aS X af σ H { s with heap:=h',toks:=t' }:=by
 have Mb:∀b u,H b=some u->b∉ch:=fun b u e z=>by rw[(fe b z).1] at e;cases e
 refine I.step (g':=s.gens) (d':=s.drawn) (ch:=ch) (fun b hb=>?_) (fun b o _ _ hc e _=>k b o hc e) (fun b o _ _ hc e _=>⟨o.slots,k b o hc e⟩) (fun _ _ _ _ n=>n) (fun b o hc e=>⟨o,k b o hc e⟩) (fun _ _ e=>e) (fun _ _ _ e=>e) (fun b ps e=>⟨#[],by rw[e];simp⟩) (fun m hm=>?_) (fun b u e=>?_) I.bare
 .obtain⟨_,f1,_,f3,f4,f5⟩:=fe b hb;exact⟨f3,f1,f4,f5⟩
 .obtain⟨o,es,ep,ho,r⟩:=hm;exact⟨o,es,ep,k _ o (fun z=>(fe _ z).2.1 rfl) ho,r⟩
 .refine(I.ce b u e).jf (fun c v hc q=>k c v ?_ q) (fun _ q=>q) fun _ _ q=>q;rcases hc with z|z
  .rw[z];exact Mb b u e
  .exact Mb c _ z
theorem aS.Km{X:Cx}{af:List (Addr×Obj)}{σ:St}{H:Hp}{s:Shared}{h':Heap}{p:Addr}{t':Nat}{ch:List Addr}{xs:List V}{its:List Value}(I:aS X af σ H s)(fe:∀e∈ch,gh X af H e)(k:∀b o,b∉ch->s.heap.get? b=some o->h'.get? b=some o)(hp:s.heap.objs.size<=p)(hl:xs.length<=sizeLine)(r:aZ xs its)(ht:h'.get? p=some { cls:=.type "tuple",data:=.seq its.toArray }):aS X af σ (upd H p (.tup xs)) { s with heap:=h',toks:=t' }:=by
 have hn:=I.ce.fresh hp;have ne:∀b o,s.heap.get? b=some o->b≠p:=fun b o q=>ba (bi (aP q) hp);have Mb:∀b u,H b=some u->b∉ch:=fun b u e z=>by rw[(fe b z).1] at e;cases e
 refine I.step (g':=s.gens) (d':=s.drawn) (ch:=ch) (fun b hb=>?_) (fun b o _ _ hb q _=>k b o hb q) (fun b o _ _ hb q _=>⟨o.slots,k b o hb q⟩) (fun b o hb q n=>by rw[ap (ne b o q)];exact n) (fun b o hb q=>⟨o,k b o hb q⟩)
  (fun b ys q=>by rw[ap (am q hn)];exact q) (fun b o u q=>by rw[ap (am q hn)];exact q) (fun b ps q=>⟨#[],by rw[ap (am q hn),q];simp⟩) (fun m hm=>?_) (fun b o q=>?_) I.bare
 .obtain⟨_,f1,_,f3,f4,f5⟩:=fe b hb;exact⟨f3,f1,f4,f5⟩
 .obtain⟨o,es,ep,q,d,r'⟩:=hm;exact⟨o,es,ep,k _ _ (fun z=>(fe _ z).2.1 rfl) q,d,r'⟩
 .by_cases hb:b=p
  .subst hb;rw[ae] at q;cases q;exact⟨hl,its,r,_,ht,rfl,_,rfl,rfl⟩
  .rw[ap hb] at q;refine(I.ce b o q).jf (fun c u hc z=>k c u ?_ z) (fun c z=>by rw[ap (am z hn)];exact z) fun c ys z=>by rw[ap (am z hn)];exact z
   rcases hc with rfl|hc
   .exact Mb _ _ q
   .exact Mb _ _ hc
def Td(K:PySem.W.Frag)(a b:Addr):It:=
 ⟨fun i H=>∃xs ys x y,bP K H a xs/\bP K H b ys/\xs[i]?=some x/\ys[i]?=some y,fun i H v H'=>∃p x y,v=.ref p/\H p=none/\H'=upd H p (.tup [x,y])/\(∀xs,bP K H a xs->xs[i]?=some x)/\∀ys,bP K H b ys->ys[i]?=some y,fun i H=>∃xs,bP K H a xs/\xs.length<=i⟩
theorem G9{P:Program}{w:World}{K:PySem.W.Frag}{es:List Expr}{x1:Nat}{pos:Pos}(a b z ti tq i1 i2:Addr)(dj:ZipApart z ti tq i1 i2 a b):
  wq P w K (.Tuple es x1 pos) (Td K a b) [z,ti,tq,i1,i2] z (fun i h=>IsZip h z ti tq .none/\IsPair h ti (.ref i1) (.ref i2)/\(∃u v,IsPair h tq u v)/\h.IsTupleIter i1 a i/\h.IsTupleIter i2 b i) where
 mem:=by simp
 obj:=fun i h st c hc=>by
  obtain⟨gz,gi,⟨u,v,gq⟩,⟨o1,q1,c1,d1⟩,⟨o2,q2,c2,d2⟩⟩:=st;simp only[bb,kJ,iA] at hc;rcases hc with rfl|rfl|rfl|rfl|rfl
  .exact⟨_,gz,fun v z=>by have z':Data.fields _=Data.cell v:=z;cases z'⟩
  .exact⟨_,gi,fun v z=>by have z':Data.seq _ _=Data.cell v:=z;cases z'⟩
  .exact⟨_,gq,fun v z=>by have z':Data.seq _ _=Data.cell v:=z;cases z'⟩
  .exact⟨o1,q1,fun v z=>by rw[d1] at z;cases z⟩
  .exact⟨o2,q2,fun v z=>by rw[d2] at z;cases z⟩
 keep:=fun i h h' st k=>by
  obtain⟨gz,gi,⟨u,v,gq⟩,r1,r2⟩:=st;exact⟨k z (by simp) _ gz,k ti (by simp) _ gi,⟨u,v,k tq (by simp) _ gq⟩,r1.at fun o q=>k i1 (by simp) o q,r2.at fun o q=>k i2 (by simp) o q⟩
 item:=by
  intro X hP hw hK hc i af s σ H E I hf st hg;subst hP hw hK;obtain⟨xs,ys,x,y,hx,hy,ex,ey⟩:=hg;obtain⟨us,rx,px,_⟩:=I.tuple hx;obtain⟨vs,ry,py,_⟩:=I.tuple hy;obtain⟨u,hu,ru⟩:=rx.get ex;obtain⟨v,hv,rv⟩:=ry.get ey;obtain⟨gz,gi,⟨u0,v0,gq⟩,r1,r2⟩:=st;refine Br dj gz gi gq r1 r2 (show s.heap.IsTuple a us.toArray from px) (show s.heap.IsTuple b vs.toArray from py) (x:=u) (y:=v) (by simpa using hu) (by simpa using hv) fun h1 Kj gq1 r11 r21 gp1 kp=>?_;refine⟨_,rfl,wpAny_letOwnedTupleGo_zip Kj fun h2 V3 pR=>?_⟩;have zl:z<s.heap.objs.size:=aP gz;have nz:s.heap.objs.size≠z:=fw zl;have kp2:∀c o,c∉[z,tq,i1,i2]->s.heap.get? c=some o->h2.get? c=some o:=fun c o hc e=>by
   simp only[bb,kJ,iA,not_or] at hc;exact df pR hc.1 (kp c o hc.1 hc.2.1 hc.2.2.1 hc.2.2.2 e)
  have gi2:IsPair h2 ti (.ref i1) (.ref i2):=kp2 _ _ (by simp only[bb,kJ,iA,not_or];exact⟨dj.TIz,dj.TITO,dj.TIi1,dj.TIi2⟩) gi;have fe:∀e∈[z,tq,i1,i2],gh X af H e:=fun e he=>hf e (by simp only[bb,kJ,iA] at he |-;rcases he with h|h|h|h <;> simp[h]);have I2:aS X af σ (upd H s.heap.objs.size (.tup [x,y])) { s with heap:=h2,toks:=s.toks }:=
   I.Km (its:=[u,v]) fe kp2 (aK _) (by show 2<=sizeLine;decide) (.cons ru (.cons rv .nil)) (df pR nz gp1)
  refine⟨.ref s.heap.objs.size,_,I2,rfl,⟨_,x,y,rfl,I.ce.fresh (aK _),rfl,fun zs hz=>by rw[I.gG hz hx];exact ex,fun zs hz=>by rw[I.gG hz hy];exact ey⟩,⟨V3,gi2,⟨u,v,df pR dj.TOz gq1⟩,gc r11 pR dj.i1z,gc r21 pR dj.i2z⟩,fun c hc=>?_⟩;have f0:=(hf c hc).1;have cl:c<s.heap.objs.size:=by
   simp only[bb,kJ,iA] at hc;rcases hc with rfl|rfl|rfl|rfl|rfl
   .exact zl
   .exact aP gi
   .exact aP gq
   .obtain⟨o,q,_⟩:=r1;exact aP q
   .obtain⟨o,q,_⟩:=r2;exact aP q
  rw[ap (ba cl)];exact f0
 done:=by
  intro X hP hw hK hc i af s σ H E I hf st hg;subst hP hw hK;obtain⟨xs,hx,hi⟩:=hg;obtain⟨us,rx,px,_⟩:=I.tuple hx;obtain⟨gz,gi,⟨u0,v0,gq⟩,r1,r2⟩:=st;have hl:=rx.length;refine Bs (I.ok.hd hc) dj gz gi r1 (show s.heap.IsTuple a us.toArray from px) (by simp;lia) fun h' kp=>⟨rfl,?_⟩
  have fe:∀e∈[z,i1],gh X af H e:=fun e he=>hf e (by simp only[bb,kJ,iA] at he |-;rcases he with h|h <;> simp[h]);refine I.Kl (t':=s.toks) fe fun c o hc e=>?_;simp only[bb,kJ,iA,not_or] at hc;exact kp c o hc.1 hc.2 e
 self:=fun _ _ _ _ _ st h=>AI st.1 h
section
variable {X:Cx}
def Te(K:PySem.W.Frag)(ta:TA):TI:=fun σ H R=>ta σ H fun vs H1=>∃a b xs ys,vs=[.ref a,.ref b]/\bP K H1 a xs/\bP K H1 b ys/\xs.length=ys.length/\R (Td K a b) H1
theorem Ko{es:List Expr}{x1:Nat}{Ga:Pos}{a b:Expr}{ta:TA}{p pos:Pos}(hg:Gl X "zip")(hm:X.mg "zip"=none)(ha:PA X [a,b] ta)(hs:starEach [a,b] X.env=[(false,eval a X.env),(false,eval b X.env)]:=by rfl)(lJ:starEach [b] X.env=[(false,eval b X.env)]:=by rfl):
  PI X (.Tuple es x1 Ga) (.Call (.Name "zip" p) [a,b] [] pos) (Te X.K ta):=by
 intro af s σ H R I h;refine Call_ (iC I hg hm PyProof.Rows.boot_zip (rE (dF (ha pos af s σ H _ I h) fun us s1 ⟨vs,H1,I1,r1,q1⟩=>?_) (by rw[hs,lJ]) (by rw[lJ];rfl)));obtain⟨l,m,xs,ys,rfl,hl,X6,vk,q⟩:=q1;obtain⟨u1,u2,rfl,Oa,X7⟩:=r1.two;obtain rfl:u1=Value.ref l:=Oa;obtain rfl:u2=Value.ref m:=X7;obtain⟨its,rv,pt,_⟩:=I1.tuple hl;obtain⟨sW,X8,Jn,_⟩:=I1.tuple X6;have dZ:l<s1.heap.objs.size:=by obtain⟨o,e,_⟩:=pt;exact aP e
 have G_:m<s1.heap.objs.size:=by obtain⟨o,e,_⟩:=Jn;exact aP e
 refine EH (show s1.heap.IsTuple l its.toArray from pt) (show s1.heap.IsTuple m sW.toArray from Jn) fun h' gz gi gq r1 r2 k=>?_;refine AI gz ?_;have I2:aS X af σ H1 { s1 with heap:=h' }:=I1.kept (t':=s1.toks) k;refine⟨s1.heap.objs.size+4,[s1.heap.objs.size+4,s1.heap.objs.size+2,s1.heap.objs.size+3,s1.heap.objs.size,s1.heap.objs.size+1],_,_,H1,rfl,I2,G9 l m _ _ _ _ _ (zipApart_new dZ G_),⟨gz,gi,⟨_,_,gq⟩,r1,r2⟩,fun b hb=>?_,q⟩;have q8:s1.heap.objs.size<=b:=by
  simp only[bb,kJ,iA] at hb;rcases hb with rfl|rfl|rfl|rfl|rfl
  .exact v1 _ _
  .exact v1 _ _
  .exact v1 _ _
  .exact aK _
  .exact v1 _ _
 exact I1.wo q8 (I1.ce.fresh q8)
theorem Bt(rx:aZ xs us)(ry:aZ ys vs)(fx:xs.all fN=true)(fy:ys.all fN=true):
  ∀j (h1:j<us.toArray.size) (h2:j<vs.toArray.size),SeqAt.EqAt A s us.toArray[j] vs.toArray[j] (sV (xs.getD j .cB) (ys.getD j .cB)):=by
 intro j h1 h2;have j1:j<xs.length:=by rw[rx.length];simpa using h1
 have j2:j<ys.length:=by rw[ry.length];simpa using h2
 have e1:xs[j]?=some (xs.getD j .cB):=by rw[bW,bQ j1];rfl
 have e2:ys[j]?=some (ys.getD j .cB):=by rw[bW,bQ j2];rfl
 obtain⟨u,X9,ru⟩:=rx.get e1;obtain⟨v,Tf,rv⟩:=ry.get e2;have eu:us.toArray[j]=u:=by
  have:us[j]?=some us.toArray[j]:=by simp at h1 |-
  rw[X9] at this;exact(bN this).symm
 have ev:vs.toArray[j]=v:=by
  have:vs[j]?=some vs.toArray[j]:=by simp at h2 |-
  rw[Tf] at this;exact(bN this).symm
 rw[eu,ev];exact A0 ru rv (i_.mp fx _ (cU e1)) (i_.mp fy _ (cU e2))
theorem Hg(I:aS X af σ H s)(hu:A.units+1<cLine)(ha:bP X.K H a xs)(hb:bP X.K H b ys)(hl:xs.length=ys.length)(fx:xs.all fN=true)(fy:ys.all fN=true):
  SeqAt.EqAt A s (.ref a) (.ref b) (qo sV xs ys):=by
 by_cases qr:a=b
 .subst qr;have e1:=I.gG ha hb;subst e1;have e2:qo sV xs xs=true:=by
   clear ha hb hl fy;induction xs with
   |nil=>rfl
   |cons x xs ih=>
    rw[kU,fU] at fx;rw[qo,ih fx.2,Bool.and_true];cases x <;> first|rfl|(show (_==_)=true;simp)|exact absurd (show false=true from fx.1) cw
  rw[e2];exact SeqAt.EqAt.same _
 .obtain⟨us,r1,p1,_⟩:=I.tuple ha;obtain⟨vs,r2,p2,_⟩:=I.tuple hb;have h:=SeqAt.RcAt.tuples (A:=A) (s:=s) (l:=a) (b:=b) (e:=fun i=>sV (xs.getD i .cB) (ys.getD i .cB)) (show s.heap.IsTuple a us.toArray from p1) (show s.heap.IsTuple b vs.toArray from p2) (by lia)
   (Bt r1 r2 fx fy)
  refine SeqAt.EqAt.of_refs qr ?_;have er:((List.range (min us.toArray.size vs.toArray.size)).all (fun i=>sV (xs.getD i .cB) (ys.getD i .cB))&&us.toArray.size==vs.toArray.size)=qo sV xs ys:=by
   rw[cz,cz,<-r1.length,<-r2.length,<-hl,sj,beq_self_eq_true,Bool.and_true,qp hl]
  rw[er] at h;exact h
theorem Bu{p q:Int×Int}:qo sV [.int p.1,.int p.2] [.int q.1,.int q.2]=decide (p=q):=by
 obtain⟨a,b⟩:=p;obtain⟨c,d⟩:=q;show ((a==c)&&((b==d)&&true))=decide ((a,b)=(c,d));by_cases h1:a=c <;> by_cases h2:b=d <;> simp[h1,h2]
def On(K:PySem.W.Frag)(Se:Bool):R2:=fun x y H Q=>∃ (p l:Addr) (u:Int×Int) (as:List Addr) (ps:List (Int×Int)),x=.ref p/\y=.ref l/\bP K H p [.int u.1,.int u.2]/\aW K H l (as.map V.ref)/\as.length=ps.length/\(∀i,i<ps.length->bP K H (as.getD i 0) [.int (ps.getD i (0,0)).1,.int (ps.getD i (0,0)).2])/\
 Q (.bl (if Se then !decide (u∈ps) else decide (u∈ps))) H
open Classical in
theorem wV(I:aS X af σ H s):∀ {as:List Addr} {ps:List (Int×Int)},as.length=ps.length->(∀i,i<ps.length->bP X.K H (as.getD i 0) [.int (ps.getD i (0,0)).1,.int (ps.getD i (0,0)).2])->
  ((as.map Value.ref).any fun v=>decide (∃a,v=Value.ref a/\bP X.K H a [.int u.1,.int u.2]))=decide (u∈ps)
 |[],[],_,_=>by simp
 |a::as,p::ps,hl,h=>by
  have ih:=wV I (u:=u) (as:=as) (ps:=ps) (by simpa using hl) (fun i hi=>h (i+1) (by simpa using hi));have h0:bP X.K H a [.int p.1,.int p.2]:=h 0 (by simp);rw[fv,jM,ih];have e:decide (∃b,Value.ref a=Value.ref b/\bP X.K H b [.int u.1,.int u.2])=decide (u=p):=by
   rw[kQ,vV,vV];constructor
   .rintro⟨b,e,hb⟩;cases e;have:=I.gG h0 hb;have e1:p.1=u.1:=V.int.inj (mz this).1;have e2:p.2=u.2:=V.int.inj (mz (mz this).2).1;exact iB e1.symm e2.symm
   .rintro rfl;exact⟨a,rfl,h0⟩
  rw[e];by_cases z:u=p
  .simp[z]
  .simp[z]
open Classical in
theorem yQ{af:List (Addr×Obj)}{σ:St}{H:Hp}{s:Shared}{A:Around}(I:aS X af σ H s)(hu:A.units+1<cLine){p:Addr}{u:Int×Int}(hp:bP X.K H p [.int u.1,.int u.2]){as:List Addr}{ps:List (Int×Int)}(hl:as.length=ps.length)(h:∀i,i<ps.length->bP X.K H (as.getD i 0) [.int (ps.getD i (0,0)).1,.int (ps.getD i (0,0)).2]):∀v∈as.map Value.ref,SeqAt.EqAt A s v (.ref p) (decide (∃a,v=Value.ref a/\bP X.K H a [.int u.1,.int u.2])):=by
 intro v hv;obtain⟨a,ha,rfl⟩:=bj.mp hv;obtain⟨i,hi,e⟩:=mh.mp ha;have hq:=h i (by lia);have ea:as.getD i 0=a:=by rw[bW,bQ hi];exact e
 rw[ea] at hq;have z:=Hg (A:=A) I hu hq hp rfl rfl rfl;rw[Bu] at z;have e:decide (∃b,Value.ref a=Value.ref b/\bP X.K H b [.int u.1,.int u.2])=decide (ps.getD i (0,0)=u):=by
  rw[kQ,vV,vV];constructor
  .rintro⟨b,e,hb⟩;cases e;have:=I.gG hq hb;exact iB (V.int.inj (mz this).1) (V.int.inj (mz (mz this).2).1)
  .intro e;rw[<-e];exact⟨a,rfl,hq⟩
 rw[e];exact z
open Classical in
theorem Oo(hu:X.A.units+2<cLine):m_ X (compareOp .In) (On X.K false):=by
 intro af s σ H x y v u Q I rx ry h;obtain⟨p,l,w,as,ps,rfl,rfl,hp,hl,eJ,Tg,q⟩:=h;obtain rfl:v=Value.ref p:=rx;obtain rfl:u=Value.ref l:=ry;obtain⟨its,r,pl,_⟩:=I.list hl;have e:=lu r;subst e;refine SeqAt.in_listAt (fun v=>decide (∃a,v=Value.ref a/\bP X.K H a [.int w.1,.int w.2])) pl.isList (fun y hy=>yQ I (by show X.A.units+1+1<cLine;lia) hp eJ Tg y (by simpa using hy)) ⟨.bl _,H,I,rfl,?_⟩;rw[show (as.map Value.ref).toArray.any (fun v=>decide (∃a,v=Value.ref a/\bP X.K H a [.int w.1,.int w.2]))=(as.map Value.ref).any (fun v=>decide (∃a,v=Value.ref a/\bP X.K H a [.int w.1,.int w.2])) by simp,wV I eJ Tg];exact q
open Classical in
theorem p8(hu:X.A.units+2<cLine):m_ X (compareOp .NotIn) (On X.K true):=by
 intro af s σ H x y v u Q I rx ry h;obtain⟨p,l,w,as,ps,rfl,rfl,hp,hl,eJ,Tg,q⟩:=h;obtain rfl:v=Value.ref p:=rx;obtain rfl:u=Value.ref l:=ry;obtain⟨its,r,pl,_⟩:=I.list hl;have e:=lu r;subst e;refine SeqAt.notIn_listAt (fun v=>decide (∃a,v=Value.ref a/\bP X.K H a [.int w.1,.int w.2])) pl.isList (fun y hy=>yQ I (by show X.A.units+1+1<cLine;lia) hp eJ Tg y (by simpa using hy)) ⟨.bl _,H,I,rfl,?_⟩;rw[show (as.map Value.ref).toArray.any (fun v=>decide (∃a,v=Value.ref a/\bP X.K H a [.int w.1,.int w.2]))=(as.map Value.ref).any (fun v=>decide (∃a,v=Value.ref a/\bP X.K H a [.int w.1,.int w.2])) by simp,wV I eJ Tg];exact q
end
end L2
namespace jy
abbrev Ts:=List (Int×Int)
def T(ts:Ts)(a b:Nat):Prop:=(((a:Nat):Int),((b:Nat):Int))∈ts
instance (ts:Ts) (a b:Nat):Decidable (T ts a b):=inferInstanceAs (Decidable (_∈_))
def dN(ts:Ts):Nat->Nat->Nat->Prop
 |0,a,b=>a=b
 |k+1,a,b=>∃c,dN ts k a c/\T ts c b
theorem dN.trans(h:dN ts k a b):∀ {l:Nat} {c:Nat},dN ts l b c->dN ts (k+l) a c
 |0,_,e=>by cases e;exact h
 |l+1,_,⟨d,w,t⟩=>⟨d,h.trans w,t⟩
theorem dN.one(h:T ts a b):dN ts 1 a b:=⟨a,rfl,h⟩
theorem dN.cons(h:T ts a b)(w:dN ts k b c):dN ts (k+1) a c:=by
 have:=(dN.one h).trans w;rwa [Nat.add_comm] at this
theorem dN.Hh{ts:Ts}:∀ {k:Nat} {a c:Nat},dN ts (k+1) a c->∃b,T ts a b/\dN ts k b c
 |0,a,c,⟨d,e,t⟩=>by cases e;exact⟨c,t,rfl⟩
 |k+1,a,c,⟨d,w,t⟩=>by
  obtain⟨b,t',w'⟩:=dN.Hh w;exact⟨b,t',d,w',t⟩
def nX(ts:Ts)(a b d:Nat):Prop:=dN ts d a b/\∀k,dN ts k a b->d<=k
theorem nX.uniq(h:nX ts a b d)(g:nX ts a b e):d=e:=Nat.le_antisymm (h.2 _ g.1) (g.2 _ h.1)
theorem Op{ts:Ts}{a b:Nat}:∀k,dN ts k a b->∃d,nX ts a b d:=by
 intro k;induction k using Nat.strongRecOn with
 |ind k ih=>
  intro w;by_cases h:∃j,j<k/\dN ts j a b
  .obtain⟨j,hj,wj⟩:=h;exact ih j hj wj
  .exact⟨k,w,fun j wj=>rG fun z=>h ⟨j,by lia,wj⟩⟩
open Classical in
noncomputable def far(ts:Ts)(a b:Nat):Nat:=if h:∃d,nX ts a b d then h.choose else 0
theorem Hi(h:nX ts a b d):far ts a b=d:=by
 unfold far;have hx:∃d,nX ts a b d:=⟨d,h⟩
 rw[dif_pos hx];exact hx.choose_spec.uniq h
theorem Oq{ts:Ts}{a b k:Nat}(w:dN ts k a b):nX ts a b (far ts a b):=by
 obtain⟨d,h⟩:=Op k w;rw[Hi h];exact h
structure bK(n:Nat)(ts:Ts):Prop where
 n1:2<=n
 n2:n<=32
 nd:ts.Nodup
 rg:∀t∈ts,(0<=t.1/\t.1<n)/\(0<=t.2/\t.2<n)
 ne:∀t∈ts,t.1≠t.2
 EI:∀h:Int,(ts.filter fun t=>decide (t.1=h)).length=(ts.filter fun t=>decide (t.2=h)).length
 most:∀h:Int,(ts.filter fun t=>decide (t.1=h)).length<=8
 con:∀a b,a<n->b<n->∃k,dN ts k a b
theorem EJ(f:α->Int):∀ (l:List α) (n:Nat),(∀x∈l,0<=f x/\f x<n)->(∀h:Int,(l.filter fun t=>decide (f t=h)).length<=8)->l.length<=8*n:=by
 intro l n;induction n generalizing l with
 |zero=>
  intro h _;cases l with
  |nil=>simp
  |cons x xs=>have:=h x bR;lia
 |succ n ih=>
  intro h h8;have e:l.length=(l.filter fun t=>decide (f t=(n:Int))).length+(l.filter fun t=>!decide (f t=(n:Int))).length:=by
   induction l with
   |nil=>rfl
   |cons x xs ih2=>
    have:=ih2 (fun y hy=>h y (cD _ hy)) (fun hh=>aX (by rw[dS];split <;> simp) (h8 hh));by_cases q:f x=(n:Int) <;> simp[dS,q] <;> lia
  have i2:=ih (l.filter fun t=>!decide (f t=(n:Int))) (fun x hx=>by
   have a:=h x (et.mp hx |>.1);have b:=(et.mp hx).2;simp at b;lia) (fun hh=>by
   refine aX ?_ (h8 hh);exact(Ah.filter _).length_le)
  have:=h8 (n:Int);lia
theorem bK.len(F:bK n ts):ts.length<=256:=by
 have:=EJ (·.1) ts n (fun t ht=>(F.rg t ht).1) F.most;have:=F.n2;lia
theorem bK.X_(F:bK n ts)(h:T ts a b):a<n/\b<n/\a≠b:=by
 have q:=F.rg _ h;have q2:=F.ne _ h;refine⟨by have:=q.1;simp at this;lia,by have:=q.2;simp at this;lia,fun e=>q2 (by rw[e])⟩
theorem bK.Th{n:Nat}{ts:Ts}(F:bK n ts){a b:Nat}(ha:a<n)(hb:b<n):nX ts a b (far ts a b):=
 let ⟨_,w⟩:=F.con a b ha hb;Oq w
def bq(n:Nat)(ts:Ts)(h:Nat):List Nat:=((List.range n).map fun s=>(h+s) % n).filter fun o=>decide (T ts h o)
theorem g9(F:bK n ts)(hh:h<n):o∈bq n ts h↔T ts h o:=by
 unfold bq;rw[et,rR];refine⟨fun z=>z.2,fun z=>⟨?_,z⟩⟩;obtain⟨_,h2,_⟩:=F.X_ z;refine bj.mpr ⟨if h<=o then o-h else o+n-h,bD.mpr (by split <;> lia),?_⟩;split
 .rw[show h+(o-h)=o by lia,i8 h2]
 .rw[show h+(o+n-h)=o+n by lia,Nat.add_mod_right,i8 h2]
theorem rh(F:bK n ts)(hh:h<n)(ho:o∈bq n ts h):o<n:=(F.X_ ((g9 F hh).mp ho)).2.1
def key(n h o:Nat):Int:=((o:Int)-(h:Int)) % (n:Int)
theorem pW(hh:h<n)(hs:s<n):key n h ((h+s) % n)=(s:Int):=by
 unfold key;by_cases c:h+s<n
 .rw[i8 c,show (((h+s:Nat):Int)-(h:Int))=(s:Int) by lia];exact Int.emod_eq_of_lt (by lia) (by lia)
 .have e:(h+s) % n=h+s-n:=by
   rw[Nat.mod_eq_sub_mod (by lia),i8 (by lia)]
  rw[e,show ((((h+s-n:Nat)):Int)-(h:Int))=(s:Int)-(n:Int) by lia,Int.sub_emod_right];exact Int.emod_eq_of_lt (by lia) (by lia)
theorem qt(hh:h<n):(bq n ts h).Pairwise fun a b=>key n h a<key n h b:=by
 unfold bq;refine Ac _ ?_;refine fu.mpr ?_;refine List.Pairwise.imp_of_mem ?_ (List.pairwise_lt_range (n:=n));intro a b ha hb qr;rw[pW hh (bD.mp ha),pW hh (bD.mp hb)];lia
theorem qu{α:Type}{k:α->Int}:∀ {a b:List α},a.Pairwise (fun x y=>k x<k y)->b.Pairwise (fun x y=>k x<k y)->(∀x,x∈a↔x∈b)->a=b
 |[],[],_,_,_=>rfl
 |[],y::ys,_,_,h=>absurd ((h y).mpr bR) (by simp)
 |x::xs,[],_,_,h=>absurd ((h x).mp bR) (by simp)
 |x::xs,y::ys,ha,hb,h=>by
  obtain⟨a1,a2⟩:=vX.mp ha;obtain⟨b1,b2⟩:=vX.mp hb;have e:x=y:=by
   rcases bb.mp ((h x).mp bR) with z|z
   .exact z
   .rcases bb.mp ((h y).mpr bR) with z'|z'
    .exact z'.symm
    .have q1:=b1 x z;have q2:=a1 y z';lia
  subst e;refine congrArg (x::·) (qu a2 b2 fun z=>⟨fun hz=>?_,fun hz=>?_⟩)
  .rcases bb.mp ((h z).mp (cD _ hz)) with q|q
   .subst q;exact absurd (a1 _ hz) (by lia)
   .exact q
  .rcases bb.mp ((h z).mpr (cD _ hz)) with q|q
   .subst q;exact absurd (b1 _ hz) (by lia)
   .exact q
structure zS(n:Nat)(ts:Ts)(s i:Nat)(R:List Nat)(f:Nat->Nat):Prop where
 nd:R.Nodup
 lt:∀x∈R,x<n
 st:s∈R
 z:f s=0
 wk:∀x∈R,dN ts (f x) s x
 up:R.Pairwise fun a b=>f a<=f b
 bd:∀u,R[i]?=some u->∀x∈R,f x<=f u+1
 cl:∀j u,j<i->R[j]?=some u->∀v,T ts u v->v∈R/\f v<=f u+1
theorem zS.start(hs:s<n):zS n ts s 0 [s] (fun _=>0):=
 ⟨by simp,fun x hx=>by simp at hx;lia,by simp,rfl,fun x hx=>by simp at hx;subst hx;rfl,by simp,fun u _ x _=>by lia,fun j u h=>absurd h (by lia)⟩
def put(f:Nat->Nat)(v k:Nat):Nat->Nat:=fun y=>if y=v then k else f y
theorem jz:put f v k v=k:=by simp[put]
theorem ge(h:x≠v):put f v k x=f x:=by simp[put,h]
theorem zS.add(B:zS n ts s i R f)(hu:R[i]?=some u)(hv:v<n)(t:T ts u v)(hn:v∉R):zS n ts s i (R++[v]) (put f v (f u+1)):=by
 have hur:u∈R:=cU hu;have nv:∀x∈R,x≠v:=fun x hx e=>hn (e ▸ hx);have hi:i<R.length:=(b9.mp hu).1;refine⟨?_,fun x hx=>?_,ft _ B.st,by rw[ge (nv s B.st)];exact B.z,fun x hx=>?_,?_,fun w hw x hx=>?_,fun j w hj hw x hx=>?_⟩
 .rw[jp];exact⟨B.nd,by simp,fun a ha b hb e=>by simp at hb;subst hb;exact hn (e ▸ ha)⟩
 .rcases bX.mp hx with z|z
  .exact B.lt x z
  .simp at z;lia
 .rcases bX.mp hx with z|z
  .rw[ge (nv x z)];exact B.wk x z
  .simp at z;subst z;rw[jz];exact⟨u,B.wk u hur,t⟩
 .rw[List.pairwise_append];refine⟨B.up.imp_of_mem fun {a b} ha hb h=>by rw[ge (nv a ha),ge (nv b hb)];exact h,by simp,fun a ha b hb=>?_⟩;simp at hb;subst hb;rw[ge (nv a ha),jz];exact B.bd u hu a ha
 .have hw':w=u:=by
   rw[jk hi,hu] at hw;exact(bN hw).symm
  subst hw';rw[ge (nv w hur)];rcases bX.mp hx with z|z
  .rw[ge (nv x z)];exact B.bd w hu x z
  .simp at z;subst z;rw[jz];exact aK _
 .rw[jk (by lia)] at hw;obtain⟨a,b⟩:=B.cl j w hj hw x hx;refine⟨ft _ a,?_⟩;rw[ge (nv x a),ge (nv w (cU hw))];exact b
theorem zS.next(B:zS n ts s i R f)(hu:R[i]?=some u)(h:∀v,T ts u v->v∈R/\f v<=f u+1):zS n ts s (i+1) R f:=by
 refine⟨B.nd,B.lt,B.st,B.z,B.wk,B.up,fun w hw x hx=>?_,fun j w hj hw v hv=>?_⟩
 .have h1:=B.bd u hu x hx;have h2:f u<=f w:=by
   have hi:i<R.length:=(b9.mp hu).1;have q_:i+1<R.length:=(b9.mp hw).1;have:=oH.mp B.up i (i+1) hi q_ (by lia);rw[bQ hi] at hu;rw[bQ q_] at hw;rw[bN hu,bN hw] at this;exact this
  lia
 .by_cases e:j=i
  .subst e;rw[hu] at hw;cases hw;exact h v hv
  .exact B.cl j w (by lia) hw v hv
theorem e8:∀ {n:Nat} {R:List Nat},R.Nodup->(∀x∈R,x<n)->R.length<=n:=by
 intro n R hn hl;have key:∀ (a b:List Nat),a.Nodup->(∀x∈a,x∈b)->a.length<=b.length:=by
  intro a;induction a with
  |nil=>intro b _ _;exact bE _
  |cons x xs ih=>
   intro b hn hs;obtain⟨h1,h2⟩:=fL.mp hn;have hx:x∈b:=hs x bR;have:=ih (b.erase x) h2 fun y hy=>(Ab (fun (e:y=x)=>h1 (e ▸ hy))).mpr (hs y (cD _ hy));rw[z7 hx] at this;have:0<b.length:=rJ hx;rw[eF];lia
 have:=key R (List.range n) hn fun x hx=>bD.mpr (hl x hx);rwa [cG] at this
theorem zS.done(B:zS n ts s i R f)(F:bK n ts)(hi:R.length<=i)(hx:x<n):x∈R/\f x=far ts s x:=by
 have cl:∀u∈R,∀v,T ts u v->v∈R/\f v<=f u+1:=fun u hu v hv=>by
  obtain⟨j,hj,e⟩:=mh.mp hu;exact B.cl j u (by lia) (by rw[bQ hj,e]) v hv
 have walk:∀k x,dN ts k s x->x∈R/\f x<=k:=by
  intro k;induction k with
  |zero=>intro x e;cases e;exact⟨B.st,by rw[B.z];exact aK _⟩
  |succ k ih=>
   rintro x ⟨c,w,t⟩;obtain⟨c1,c2⟩:=ih c w;obtain⟨d1,d2⟩:=cl c c1 x t;exact⟨d1,by lia⟩
 obtain⟨k,w⟩:=F.con s x (B.lt s B.st) hx;obtain⟨m,_⟩:=walk k x w;exact⟨m,(Hi ⟨B.wk x m,fun k w=>(walk k x w).2⟩).symm⟩
theorem dN.mono(h:∀t∈ts,t∈Ya):∀ {k a b:Nat},dN ts k a b->dN Ya k a b
 |0,_,_,e=>e
 |_+1,_,_,⟨c,w,t⟩=>⟨c,w.mono h,h _ t⟩
structure zU(n:Nat)(ts:Ts):Prop where
 nd:ts.Nodup
 rg:∀t∈ts,(0<=t.1/\t.1<n)/\(0<=t.2/\t.2<n)
 ne:∀t∈ts,t.1≠t.2
 EI:∀h:Int,(ts.filter fun t=>decide (t.1=h)).length=(ts.filter fun t=>decide (t.2=h)).length
 most:∀h:Int,(ts.filter fun t=>decide (t.1=h)).length<=8
theorem bK.pre(F:bK n ts):zU n ts:=⟨F.nd,F.rg,F.ne,F.EI,F.most⟩
theorem zU.j4(P:zU n ts)(n1:2<=n)(n2:n<=32)(c:∀a b,a<n->b<n->∃k,dN ts k a b):bK n ts:=⟨n1,n2,P.nd,P.rg,P.ne,P.EI,P.most,c⟩
theorem bK.perm(F:bK n ts)(p:Ya.Perm ts):bK n Ya:=
  ⟨F.n1,F.n2,p.nodup_iff.mpr F.nd,fun t ht=>F.rg t (p.mem_iff.mp ht),fun t ht=>F.ne t (p.mem_iff.mp ht),fun h=>by rw[(p.filter _).length_eq,(p.filter _).length_eq];exact F.EI h,
   fun h=>by rw[(p.filter _).length_eq];exact F.most h,fun a b ha hb=>let ⟨k,w⟩:=F.con a b ha hb;⟨k,w.mono fun t ht=>p.mem_iff.mpr ht⟩⟩
theorem bK.app(F:bK n ts)(P:zU n (ts++us)):bK n (ts++us):=
 P.j4 F.n1 F.n2 fun a b ha hb=>let ⟨k,w⟩:=F.con a b ha hb;⟨k,w.mono fun t ht=>ft _ ht⟩
def pk(c k:Nat):Nat:=if k=0 then c-1 else k-1
abbrev ci(x:Nat):Int:=(x:Int)
def uF(xs:List Nat):Ts:=(List.range xs.length).map fun k=>(ci (xs.getD (pk xs.length k) 0),ci (xs.getD k 0))
theorem cE{xs:List Nat}{k:Nat}(h:k<xs.length):xs.getD k 0=xs[k]:=by rw[bW,bQ h];rfl
theorem C8(xs:List Nat):(uF xs).map (·.2)=xs.map ci:=by
 unfold uF;rw[dk];apply Ay
 .simp
 .intro i h1 h2;simp only[rX,Am,Function.comp];rw[cE (by simpa using h2)]
theorem C9(xs:List Nat):((uF xs).map (·.1)).Perm (xs.map ci):=by
 cases hx:xs with
 |nil=>exact hW _
 |cons y ys=>
  rw[<-hx];have hl:xs.length=ys.length+1:=by rw[hx];rfl
  have e:(uF xs).map (·.1)=ci (xs.getD (xs.length-1) 0)::(xs.take (xs.length-1)).map ci:=by
   unfold uF;rw[dk];apply Ay
   .simp;lia
   .intro i h1 h2;simp only[rX,Am,Function.comp];cases i with
    |zero=>rfl
    |succ i=>
     have hi:i+1<xs.length:=by simpa using h1
     simp only[List.getElem_cons_succ,rX,List.getElem_take];unfold pk;rw[ak (by lia),show i+1-1=i by lia,cE (by lia)]
  rw[e];have:xs.map ci=(xs.take (xs.length-1)).map ci++[ci (xs.getD (xs.length-1) 0)]:=by
   conv=>lhs;rw[<-l_ (xs.length-1) xs]
   rw[cW];congr 1;rw[oJ (by lia),List.drop_eq_nil_of_le (by lia),cE (by lia)];rfl
  rw[this];exact(List.perm_append_singleton _ _).symm
theorem gK(ts:Ts)(h:Int):(ts.filter fun t=>decide (t.1=h)).length=(ts.map (·.1)).count h:=by
 induction ts with
 |nil=>rfl
 |cons t ts ih=>by_cases e:t.1=h <;> simp[dS,AE,e,ih]
theorem p9(ts:Ts)(h:Int):(ts.filter fun t=>decide (t.2=h)).length=(ts.map (·.2)).count h:=by
 induction ts with
 |nil=>rfl
 |cons t ts ih=>by_cases e:t.2=h <;> simp[dS,AE,e,ih]
theorem tR{xs:List Nat}(h:xs.Nodup):(xs.map ci).Nodup:=by
 refine fu.mpr (h.imp fun {a b} qr e=>qr ?_);exact du e
theorem nY:∀ {l:List α},(l.map f).Nodup->l.Nodup
 |[],_=>jK
 |a::l,h=>by
  rw[fv] at h;obtain⟨h1,h2⟩:=fL.mp h;exact fL.mpr ⟨fun z=>h1 (bj.mpr ⟨a,z,rfl⟩),nY h2⟩
theorem nZ(h:t∈uF xs):∃k,k<xs.length/\t=(ci (xs.getD (pk xs.length k) 0),ci (xs.getD k 0)):=by
 obtain⟨k,hk,rfl⟩:=bj.mp h;exact⟨k,bD.mp hk,rfl⟩
theorem vw(h:k<c):pk c k<c:=by unfold pk;split <;> lia
theorem lN{xs:List Nat}{k:Nat}(h:k<xs.length):xs.getD k 0∈xs:=by rw[cE h];exact gv h
theorem jA{xs:List Nat}(nd:xs.Nodup){i j:Nat}(hi:i<xs.length)(hj:j<xs.length)(e:xs[i]=xs[j]):i=j:=by
 have pw:=oH.mp nd;rcases Nat.lt_trichotomy i j with z|z|z
 .exact absurd e (pw i j hi hj z)
 .exact z
 .exact absurd e.symm (pw j i hj hi z)
theorem wW{n:Nat}{xs:List Nat}(nd:xs.Nodup)(lt:∀x∈xs,x<n)(c2:2<=xs.length):zU n (uF xs)/\∀h:Int,((uF xs).filter fun t=>decide (t.1=h)).length<=1:=by
 have Yb:((uF xs).map (·.2)).Nodup:=by rw[C8];exact tR nd
 have one:∀h:Int,((uF xs).filter fun t=>decide (t.1=h)).length<=1:=fun h=>by
  rw[gK,(C9 xs).count_eq];exact List.nodup_iff_count.mp (tR nd) h
 refine⟨⟨nY Yb,fun t ht=>?_,fun t ht=>?_,fun h=>?_,fun h=>aX (one h) (by decide)⟩,one⟩
 .obtain⟨k,hk,rfl⟩:=nZ ht;have h1:=lt _ (lN (vw hk));have h2:=lt _ (lN hk);simp only[ci];lia
 .obtain⟨k,hk,rfl⟩:=nZ ht;intro e;have e':xs.getD (pk xs.length k) 0=xs.getD k 0:=du e;rw[cE (vw hk),cE hk] at e';have:=jA nd (vw hk) hk e';unfold pk at this;split at this <;> lia
 .rw[gK,p9,(C9 xs).count_eq,C8]
theorem rj(P:zU n ts)(Q:zU n us)(hd:∀t∈us,t∉ts)(hm:∀h:Int,(ts.filter fun t=>decide (t.1=h)).length+(us.filter fun t=>decide (t.1=h)).length<=8):zU n (ts++us):=by
 refine⟨jp.mpr ⟨P.nd,Q.nd,fun a ha b hb e=>hd b hb (e ▸ ha)⟩,fun t ht=>?_,fun t ht=>?_,fun h=>?_,fun h=>?_⟩
 .rcases bX.mp ht with z|z
  .exact P.rg t z
  .exact Q.rg t z
 .rcases bX.mp ht with z|z
  .exact P.ne t z
  .exact Q.ne t z
 .rw[gn,gn,dh,dh,P.EI,Q.EI]
 .rw[gn,dh];exact hm h
theorem EK(P:zU n ts)(nd:xs.Nodup)(lt:∀x∈xs,x<n)(c2:2<=xs.length)(hf:∀t∈uF xs,(ts.filter fun u=>decide (u.1=t.1)).length<=7)(hn:∀t∈uF xs,t∉ts):zU n (ts++uF xs):=by
 obtain⟨Q,one⟩:=wW nd lt c2;refine rj P Q hn fun h=>?_;by_cases z:(uF xs).filter (fun t=>decide (t.1=h))=[]
 .rw[z];simpa using P.most h
 .obtain⟨t,ht⟩:=List.exists_mem_of_ne_nil _ z;obtain⟨h1,h2⟩:=et.mp ht;have e:t.1=h:=by simpa using h2
  have a:=hf t h1;rw[e] at a;have:=one h;lia
theorem MJ(hk:k<xs.length):T (uF xs) (xs.getD (pk xs.length k) 0) (xs.getD k 0):=bj.mpr ⟨k,bD.mpr hk,rfl⟩
theorem Bv(i:Nat):∀ (d:Nat),i+d<xs.length->dN (uF xs) d (xs.getD i 0) (xs.getD (i+d) 0)
 |0,_=>rfl
 |d+1,h=>by
  refine⟨_,Bv i d (by lia),?_⟩;have:=MJ (xs:=xs) (k:=i+(d+1)) h;unfold pk at this;rw[ak (by lia)] at this;exact this
theorem vx{n:Nat}{xs:List Nat}(n1:2<=n)(n2:n<=32)(pm:xs.Perm (List.range n)):bK n (uF xs):=by
 have hl:xs.length=n:=by rw[pm.length_eq,cG]
 have nd:xs.Nodup:=pm.nodup_iff.mpr i9;have lt:∀x∈xs,x<n:=fun x hx=>bD.mp (pm.mem_iff.mp hx);refine(wW nd lt (by lia)).1.j4 n1 n2 fun a b ha hb=>?_;obtain⟨i,hi,ei⟩:=mh.mp (pm.mem_iff.mpr (bD.mpr ha));obtain⟨j,hj,ej⟩:=mh.mp (pm.mem_iff.mpr (bD.mpr hb));have w1:=Bv (xs:=xs) i (xs.length-1-i) (by lia);have t0:=MJ (xs:=xs) (k:=0) (by lia);have w3:=Bv (xs:=xs) 0 j (by lia);rw[show i+(xs.length-1-i)=xs.length-1 by lia] at w1;rw[show pk xs.length 0=xs.length-1 from rfl] at t0;rw[jb] at w3;have w:=w1.trans (dN.cons t0 w3);rw[cE hi,cE hj,ei,ej] at w;exact⟨_,w⟩
structure tS(n:Nat)(os:List Nat)(k:Nat)(ts:Ts):Prop where
 pre:zU n ts
 ends:∀t∈ts,∃a b,a∈os.take k/\b∈os.take k/\t=(ci a,ci b)
 con:∀a b,a∈os.take k->b∈os.take k->∃j,dN ts j a b
 len:ts.length+2=2*k
theorem tS.start(h:0<os.length):tS n os 1 []:=by
 refine⟨⟨jK,(fun t h=>nomatch h),(fun t h=>nomatch h),fun h=>rfl,fun h=>by simp⟩,(fun t h=>nomatch h),fun a b ha hb=>?_,rfl⟩;cases os with
 |nil=>simp at h
 |cons o os=>
  simp at ha hb;exact⟨0,by rw[ha,hb];rfl⟩
theorem tS.add(Tr:tS n os k ts)(nd:os.Nodup)(lt:∀x∈os,x<n)(hv:os[k]?=some v)(hs:s∈os.take k)(hd:(ts.filter fun t=>decide (t.1=ci s)).length<8):tS n os (k+1) (ts++[(ci s,ci v),(ci v,ci s)]):=by
 have tk:os.take (k+1)=os.take k++[v]:=by rw[gX,hv];rfl
 have nd1:(os.take k++[v]).Nodup:=by rw[<-tk];exact nd.sublist (List.take_sublist _ _)
 have vn:v∉os.take k:=fun z=>(jp.mp nd1).2.2 v z v (by simp) rfl;have sv:s≠v:=fun e=>vn (e ▸ hs);have vm:v∈os:=cU hv;have sl:=lt s (oU hs);have vl:=lt v vm;have Yc:∀t∈ts,t.1≠ci v/\t.2≠ci v:=fun t ht=>by
  obtain⟨a,b,ha,hb,rfl⟩:=Tr.ends t ht;exact⟨fun e=>vn (du e ▸ ha),fun e=>vn (du e ▸ hb)⟩
 have Q:zU n [(ci s,ci v),(ci v,ci s)]:=by
  have Ti:ci s≠ci v:=fun e=>sv (du e);refine⟨?_,fun t ht=>?_,fun t ht=>?_,fun h=>?_,fun h=>aX (ix _ _) (by simp)⟩
  .simp[Ti]
  .simp at ht;rcases ht with rfl|rfl <;> (simp only[ci];lia)
  .simp at ht;rcases ht with rfl|rfl
   .exact Ti
   .exact Ti.symm
  .by_cases a:ci s=h <;> by_cases b:ci v=h <;> simp[dS,a,b]
 have P2:zU n (ts++[(ci s,ci v),(ci v,ci s)]):=by
  refine rj Tr.pre Q (fun t ht z=>?_) fun h=>?_
  .simp at ht;rcases ht with rfl|rfl
   .exact(Yc _ z).2 rfl
   .exact(Yc _ z).1 rfl
  .have Ti:ci s≠ci v:=fun e=>sv (du e);by_cases a:ci s=h
   .subst a;have b:¬ ci v=ci s:=Ti.symm;simp only[dS,decide_true,jQ,gw b];simp;lia
   .by_cases b:ci v=h
    .subst b;have z:ts.filter (fun t=>decide (t.1=ci v))=[]:=rK.mpr fun t ht=>by simpa using (Yc t ht).1
     rw[z];exact aX (Nat.add_le_add_left (ix _ _) _) (by simp)
    .have:=Tr.pre.most h;simp[dS,a,b];exact this
 have up:∀t∈ts,t∈ts++[(ci s,ci v),(ci v,ci s)]:=fun t ht=>ft _ ht;have t1:T (ts++[(ci s,ci v),(ci v,ci s)]) s v:=dR _ (by simp);have t2:T (ts++[(ci s,ci v),(ci v,ci s)]) v s:=dR _ (by simp);have toS:∀a,a∈os.take k++[v]->∃j,dN (ts++[(ci s,ci v),(ci v,ci s)]) j a s:=fun a ha=>by
  rcases bX.mp ha with z|z
  .obtain⟨j,w⟩:=Tr.con a s z hs;exact⟨j,w.mono up⟩
  .simp at z;subst z;exact⟨1,dN.one t2⟩
 have ofS:∀b,b∈os.take k++[v]->∃j,dN (ts++[(ci s,ci v),(ci v,ci s)]) j s b:=fun b hb=>by
  rcases bX.mp hb with z|z
  .obtain⟨j,w⟩:=Tr.con s b hs z;exact⟨j,w.mono up⟩
  .simp at z;subst z;exact⟨1,dN.one t1⟩
 refine⟨P2,fun t ht=>?_,fun a b ha hb=>?_,?_⟩
 .rw[tk];rcases bX.mp ht with z|z
  .obtain⟨a,b,ha,hb,e⟩:=Tr.ends t z;exact⟨a,b,ft _ ha,ft _ hb,e⟩
  .simp at z;rcases z with rfl|rfl
   .exact⟨s,v,ft _ hs,by simp,rfl⟩
   .exact⟨v,s,by simp,ft _ hs,rfl⟩
 .rw[tk] at ha hb;obtain⟨i,w1⟩:=toS a ha;obtain⟨j,w2⟩:=ofS b hb;exact⟨i+j,w1.trans w2⟩
 .have:=Tr.len;rw[dh];simp;lia
theorem tS.j4(Tr:tS n os n ts)(n1:2<=n)(n2:n<=32)(pm:os.Perm (List.range n)):bK n ts:=by
 have hl:os.length=n:=by rw[pm.length_eq,cG]
 refine Tr.pre.j4 n1 n2 fun a b ha hb=>Tr.con a b ?_ ?_
 .rw[oO (by lia)];exact pm.mem_iff.mpr (bD.mpr ha)
 .rw[oO (by lia)];exact pm.mem_iff.mpr (bD.mpr hb)
theorem bK.Os{n:Nat}{ts:Ts}(F:bK n ts){a b k:Nat}(ha:a<n)(hb:b<n)(w:dN ts k a b):far ts a b<=k:=(F.Th ha hb).2 k w
theorem Bw(hh:h<n):(bq n ts h).Nodup:=(qt hh).imp fun {a b} qr e=>by subst e;lia
end jy
namespace L2
open PySem PySem.Spec PyProof.Rows
section
variable {X:Cx}
theorem yR:∀ {ns:List Int} {its:List Value},aZ (ns.map V.int) its->∃xs:List (Int×Tok),its=xs.map (fun p=>Value.int p.1 p.2)/\xs.map (·.1)=ns
 |[],_,r=>by cases r;exact⟨[],rfl,rfl⟩
 |n::ns,_,r=>by
  cases r with
  |cons r rr=>
   obtain⟨t,rfl⟩:=(show ∃t,_=Value.int n t from r)
   obtain⟨xs,rfl,e⟩:=yR rr;exact⟨(n,t)::xs,rfl,by rw[fv,e]⟩
def Tj(K:PySem.W.Frag):List V->Hp->VK->Prop:=fun xs H Q=>∃ (l:Addr) (ns:List Int),xs=[.ref l]/\aW K H l (ns.map V.int)/\ns≠[]/\∀M,M∈ns->(∀a∈ns,a<=M)->Q (.int M) H
theorem EL(hc:X.calm=true):fh X (.builtin "max") (Tj X.K):=by
 intro af s σ H xs us Q I r h;obtain⟨l,ns,rfl,hl,lS,q⟩:=h;obtain⟨u1,rfl,r1⟩:=r.one;obtain rfl:u1=Value.ref l:=r1;obtain⟨its,rv,pl,_⟩:=I.list hl;obtain⟨ps,rfl,rfl⟩:=yR rv;have hi:intItems ps.toArray=(ps.map (fun p=>Value.int p.1 p.2)).toArray:=by unfold intItems;simp
 have gZ:0<ps.toArray.size:=by
  cases ps with
  |nil=>exact absurd rfl lS
  |cons p ps=>simp
 refine max_intList (I.ok.hd hc) (xs:=ps.toArray) (by rw[hi];exact pl.isList) gZ fun v h' tk hv hk=>?_;obtain⟨t,rfl⟩:=intItems_at hv;obtain⟨h1,h2⟩:=argBest_gt (numAt ps.toArray) (ps.toArray.size-1);have num:∀j,j<ps.length->numAt ps.toArray j∈ps.map (·.1)/\numAt ps.toArray j=(ps.map (·.1)).getD j 0:=fun j hj=>by
  have e:numAt ps.toArray j=ps[j].1:=by unfold numAt;simp[bQ hj]
  refine⟨by rw[e];exact bj.mpr ⟨_,gv hj,rfl⟩,?_⟩;rw[e,bW,bU,bQ hj];rfl
 have hb:argBest (fun i j=>decide (numAt ps.toArray i > numAt ps.toArray j)) (ps.toArray.size-1)<ps.length:=by
  have:ps.toArray.size=ps.length:=by simp
  lia
 refine⟨.int _,H,I.kept (t':=tk) hk,⟨t,rfl⟩,q _ (num _ hb).1 fun a ha=>?_⟩;obtain⟨j,hj,e⟩:=mh.mp ha;rw[aT] at hj;have:=h2 j (by (have:ps.toArray.size=ps.length:=by simp);lia);rw[(num j hj).2,bW,bQ (by rw[aT];exact hj)] at this;rw[<-e];exact this
end
end L2
namespace jy
abbrev uG(u:Int×Int):Int×Int:=(u.2,u.1)
def dD(ps:Ts):Ts:=ps.flatMap fun u=>[u,uG u]
theorem mR:dD (ps++qs)=dD ps++dD qs:=List.flatMap_append
theorem iK:∀ {ps:Ts},(dD ps).Perm (ps++ps.map uG)
 |[]=>hW _
 |u::ps=>by
  have ih:=iK (ps:=ps);show (u::uG u::dD ps).Perm (u::(ps++uG u::ps.map uG));refine List.Perm.cons _ ?_;exact(ih.cons _).trans List.perm_middle.symm
theorem rm:∀ {ps:Ts},(dD ps).length=2*ps.length
 |[]=>rfl
 |u::ps=>by
  have ih:=rm (ps:=ps);show (dD ps).length+2=2*(ps.length+1);lia
theorem C_(h:u∈dD ps):uG u∈dD ps:=by
 obtain⟨v,hv,hu⟩:=Ax.mp h;refine Ax.mpr ⟨v,hv,?_⟩;rcases bb.mp hu with e|e
 .rw[e];exact cD _ (cu.mpr rfl)
 .rw[cu.mp e];exact bR
theorem n0:u∈dD ps↔u∈ps\/uG u∈ps:=by
 rw[(iK (ps:=ps)).mem_iff,bX];refine or_congr Iff.rfl ⟨fun h=>?_,fun h=>bj.mpr ⟨_,h,rfl⟩⟩;obtain⟨v,hv,rfl⟩:=bj.mp h;exact hv
theorem Da:((dD ps).map uG).Perm (dD ps):=by
 refine((iK (ps:=ps)).map uG).trans (List.Perm.trans ?_ (iK (ps:=ps)).symm);rw[cW,dk];have e:ps.map (uG ∘ uG)=ps:=(jo fun u _=>rfl).trans (jP ps);rw[e];exact jn
def EM(x:Nat):List Nat->Bool
 |[]=>false
 |y::ys=>Nat.beq x y||EM x ys
theorem tT:∀ {ys:List Nat},EM x ys=true↔x∈ys
 |[]=>by simp[EM]
 |y::ys=>by
  unfold EM;rw[r9,tT (ys:=ys),bb];exact or_congr ⟨fun h=>vP h,fun h=>by rw[h];exact wb y⟩ Iff.rfl
def V6:List Nat->Bool
 |[]=>true
 |x::xs=>!EM x xs&&V6 xs
theorem Hj:∀ {xs:List Nat},V6 xs=true->xs.Nodup
 |[],_=>jK
 |x::xs,h=>by
  unfold V6 at h;rw[fU] at h;refine fL.mpr ⟨fun z=>?_,Hj h.2⟩;rw[tT.mpr z] at h;exact absurd h.1 (by decide)
def V7:List Nat->Bool
 |x::y::r=>Nat.ble x y&&V7 (y::r)
 |_=>true
theorem Hk:∀ {xs:List Nat},V7 xs=true->xs.Pairwise (·<=·)
 |[],_=>List.Pairwise.nil
 |[x],_=>List.pairwise_singleton _ _
 |x::y::r,h=>by
  unfold V7 at h;rw[fU] at h;have ih:=Hk h.2;refine vX.mpr ⟨fun z hz=>?_,ih⟩;have h1:=rL h.1;rcases bb.mp hz with e|e
  .rw[e];exact h1
  .exact aX h1 ((vX.mp ih).1 z e)
abbrev iQ(q:Nat×Nat):Int×Int:=((q.1:Int),(q.2:Int))
def Tk(qs:List (Nat×Nat)):List Nat:=qs.flatMap fun q=>[64*q.1+q.2,64*q.2+q.1]
def Kp(c:Nat):Int×Int:=(((c / 64:Nat):Int),((c % 64:Nat):Int))
theorem Bx(h:b<64):Kp (64*a+b)=((a:Int),(b:Int)):=by
 unfold Kp;rw[show (64*a+b) / 64=a by lia,show (64*a+b) % 64=b by lia]
theorem rn:∀ {qs:List (Nat×Nat)},(∀q∈qs,q.1<64/\q.2<64)->(Tk qs).map Kp=dD (qs.map iQ)
 |[],_=>rfl
 |q::qs,h=>by
  have ih:=rn (qs:=qs) fun x hx=>h x (cD _ hx);obtain⟨h1,h2⟩:=h q bR;show Kp (64*q.1+q.2)::Kp (64*q.2+q.1)::(Tk qs).map Kp=iQ q::uG (iQ q)::dD (qs.map iQ);rw[ih,Bx h2,Bx h1]
def b1(b:Bool):Nat:=cond b 1 0
def lT(h:Nat):List (Nat×Nat)->Nat
 |[]=>0
 |q::qs=>b1 (Nat.beq q.1 h)+(b1 (Nat.beq q.2 h)+lT h qs)
theorem wX{h:Nat}:∀ {qs:List (Nat×Nat)},((dD (qs.map iQ)).filter fun t=>decide (t.1=(h:Int))).length=lT h qs
 |[]=>rfl
 |q::qs=>by
  have ih:=wX (h:=h) (qs:=qs);have e:∀a:Nat,(if decide ((a:Int)=(h:Int))=true then 1 else 0)=b1 (Nat.beq a h):=fun a=>by
   by_cases c:a=h
   .subst c;rw[ao (by simp),wb];rfl
   .rw[ak (by simp;lia),show Nat.beq a h=false from As.mpr fun z=>c (vP z)];rfl
  show ((iQ q::uG (iQ q)::dD (qs.map iQ)).filter _).length=b1 (Nat.beq q.1 h)+(b1 (Nat.beq q.2 h)+lT h qs);rw[<-ih,<-e q.1,<-e q.2,dS,dS];split <;> split <;> simp <;> lia
def Hl(n:Nat)(qs:List (Nat×Nat)):Bool:=Nat.ble 2 n&&(Nat.ble n 32&&(V6 (Tk qs)&&(qs.all (fun q=>Nat.blt q.1 n&&(Nat.blt q.2 n&&!Nat.beq q.1 q.2))&&((List.range n).all (fun h=>Nat.ble (lT h qs) 8) &&
 (List.range n).all (fun v=>Nat.beq v 0||(List.range v).reverse.any (fun u=>EM (64*u+v) (Tk qs)))))))
theorem mS(h:Nat.blt a b=true):a<b:=rL h
theorem Hm(h:Hl n qs=true):bK n (dD (qs.map iQ))/\∀q∈qs,q.1<64/\q.2<64:=by
 unfold Hl at h;simp only[fU,i_,bD,r9,Az,List.mem_reverse] at h;obtain⟨h1,h2,h3,h4,h5,h6⟩:=h;have h1:=rL h1;have h2:=rL h2;have Tl:∀q∈qs,q.1<64/\q.2<64:=fun q hq=>⟨by have:=mS (h4 q hq).1;lia,by have:=mS (h4 q hq).2.1;lia⟩
 have mem:∀t∈dD (qs.map iQ),∃q∈qs,t=iQ q\/t=uG (iQ q):=fun t ht=>by
  rcases n0.mp ht with z|z
  .obtain⟨q,hq,e⟩:=bj.mp z;exact⟨q,hq,.inl e.symm⟩
  .obtain⟨q,hq,e⟩:=bj.mp z;exact⟨q,hq,.inr (by rw[e])⟩
 have rg:∀t∈dD (qs.map iQ),((0<=t.1/\t.1<n)/\(0<=t.2/\t.2<n))/\t.1≠t.2:=fun t ht=>by
  obtain⟨q,hq,e⟩:=mem t ht;have a:=mS (h4 q hq).1;have b:=mS (h4 q hq).2.1;have c:q.1≠q.2:=fun z=>by have:=(h4 q hq).2.2;rw[z,wb] at this;exact absurd this (by decide)
  rcases e with rfl|rfl
  .exact⟨⟨⟨by show (0:Int)<=(q.1:Int);lia,by show (q.1:Int)<n;lia⟩,by show (0:Int)<=(q.2:Int);lia,by show (q.2:Int)<n;lia⟩,by show ((q.1:Nat):Int)≠(q.2:Nat);lia⟩
  .exact⟨⟨⟨by show (0:Int)<=(q.2:Int);lia,by show (q.2:Int)<n;lia⟩,by show (0:Int)<=(q.1:Int);lia,by show (q.1:Int)<n;lia⟩,by show ((q.2:Nat):Int)≠(q.1:Nat);lia⟩
 have EI:∀h:Int,((dD (qs.map iQ)).filter fun t=>decide (t.1=h)).length=((dD (qs.map iQ)).filter fun t=>decide (t.2=h)).length:=fun h=>by
  rw[<-(Da (ps:=qs.map iQ)).filter (fun t=>decide (t.1=h)) |>.length_eq,pi,aT];rfl
 have nd:(dD (qs.map iQ)).Nodup:=by
  rw[<-rn Tl];refine List.Pairwise.map _ (fun a b qr e=>qr ?_) (rF.mp (Hj h3));have e1:a / 64=b / 64:=du (congrArg Prod.fst e);have e2:a % 64=b % 64:=du (congrArg Prod.snd e);lia
 refine⟨⟨h1,h2,nd,fun t ht=>(rg t ht).1,fun t ht=>(rg t ht).2,EI,fun h=>?_,fun a b ha hb=>?_⟩,Tl⟩
 .by_cases c:0<=h/\h<n
  .have:=rL (h5 h.toNat (by lia));rw[<-wX,oX c.1] at this;exact this
  .have e:(dD (qs.map iQ)).filter (fun t=>decide (t.1=h))=[]:=rK.mpr fun t ht e=>c ((show t.1=h from fc e) ▸ (rg t ht).1.1);rw[e];exact bE _
 .have A3:∀v,v<n->(∃k,dN (dD (qs.map iQ)) k 0 v)/\∃k,dN (dD (qs.map iQ)) k v 0:=by
   intro v;induction v using Nat.strongRecOn with
   |ind v ih=>
    intro hv;rcases h6 v hv with e|⟨u,hu,t1⟩
    .have e:=vP e;subst e;exact⟨⟨0,rfl⟩,0,rfl⟩
    .obtain⟨⟨k,w⟩,l,w'⟩:=ih u hu (by lia);have t:T (dD (qs.map iQ)) u v:=by
      have:=bj.mpr ⟨_,tT.mp t1,Bx (a:=u) (b:=v) (by lia)⟩;rw[rn Tl] at this;exact this
     have t':T (dD (qs.map iQ)) v u:=C_ t;exact⟨⟨k+1,u,w,t⟩,l+1,dN.cons t' w'⟩
  obtain⟨_,k,w⟩:=A3 a ha;obtain⟨⟨l,w'⟩,_⟩:=A3 b hb;exact⟨_,w.trans w'⟩
def tU(f b:Nat):List (Nat×Nat):=(List.range f).flatMap fun at_=>(List.range (b ^ f)).flatMap fun h=>(List.range (b-h / b ^ at_ % b-1)).map fun k=>(h,h+(k+1)*b ^ at_)
def To(f b h:Nat):List Nat:=(List.range f).map fun k=>h / b ^ k % b
def unl(f b o p:Nat):Nat:=((List.range f).filter fun k=>!Nat.beq ((To f b o).getD k 0) ((To f b p).getD k 0)).length
def By(f b:Nat):List Nat:=(List.range (b ^ f)).flatMap fun o=>((List.range (b ^ f)).filter fun p=>Nat.beq (unl f b o p) 1).map fun p=>64*o+p
def Bz(f b:Nat):Ts:=(By f b).map Kp
def Db(f b:Nat):Bool:=Hl (b ^ f) (tU f b)&&((Tk (tU f b)).isPerm (By f b)&&V7 (By f b))
theorem BA:(List.range 6).all (fun f=>(List.range 6).all fun b=>Nat.blt f 1||(Nat.blt b 2||(Nat.blt 32 (b ^ f)||Db f b)))=true:=by decide +kernel
theorem BB(f1:1<=f)(f2:f<=5)(b1:2<=b)(b2:b<=5)(hm:b ^ f<=32):bK (b ^ f) (dD ((tU f b).map iQ))/\(dD ((tU f b).map iQ)).Perm (Bz f b)/\(Bz f b).Pairwise (fun u v=>64*u.1+u.2<=64*v.1+v.2):=by
 have:=i_.mp (i_.mp BA f (bD.mpr (by lia))) b (bD.mpr (by lia));rw[r9,r9,r9] at this;rcases this with z|z|z|z
 .have:=mS z;lia
 .have:=mS z;lia
 .have:=mS z;lia
 .unfold Db at z;rw[fU,fU] at z;obtain⟨h1,h2,h3⟩:=z;obtain⟨F,Tl⟩:=Hm h1;refine⟨F,?_,?_⟩
  .rw[<-rn Tl];exact(List.isPerm_iff.mp h2).map Kp
  .unfold Bz;rw[fu];refine(Hk h3).imp fun {a b} h=>?_;unfold Kp;show 64*((a / 64:Nat):Int)+((a % 64:Nat):Int)<=64*((b / 64:Nat):Int)+((b % 64:Nat):Int);lia
def pr:List Nat->Nat
 |[]=>1
 |n::ns=>n*pr ns
def Dc(m st n:Nat):List (Nat×Nat):=((List.range m).filter fun h=>decide (h / st % n+1<n)).map fun h=>(h,h+st)
def bx(m:Nat):Nat->List Nat->List (Nat×Nat)
 |_,[]=>[]
 |st,n::ns=>Dc m st n++bx m (st*n) ns
def n9(ns:List Nat):List (Nat×Nat):=bx (pr ns) 1 ns
def Kq:Nat->List Nat->Nat->Nat->Prop
 |_,[],_,_=>False
 |st,n::ns,a,b=>(a / st % n+1<n/\b=a+st)\/Kq (st*n) ns a b
theorem Dd:q∈Dc m st n↔q.1<m/\q.1 / st % n+1<n/\q.2=q.1+st:=by
 unfold Dc;rw[bj];constructor
 .rintro⟨h,hh,rfl⟩;obtain⟨h1,h2⟩:=et.mp hh;exact⟨bD.mp h1,fc h2,rfl⟩
 .rintro⟨h1,h2,h3⟩;exact⟨q.1,et.mpr ⟨bD.mpr h1,ie h2⟩,iB rfl h3.symm⟩
theorem wY:∀ {ns:List Nat} {st:Nat},q∈bx m st ns↔q.1<m/\Kq st ns q.1 q.2
 |[],st=>⟨fun h=>(nomatch h),fun h=>h.2.elim⟩
 |n::ns,st=>by
  unfold bx Kq;rw[bX,Dd,wY (ns:=ns)];constructor
  .rintro(⟨a,b,c⟩|⟨a,b⟩)
   .exact⟨a,.inl ⟨b,c⟩⟩
   .exact⟨a,.inr b⟩
  .rintro⟨a,⟨b,c⟩|b⟩
   .exact .inl ⟨a,b,c⟩
   .exact .inr ⟨a,b⟩
abbrev U(ns:List Nat):Nat->Nat->Prop:=Kq 1 ns
theorem wZ:∀ {ns:List Nat} {st a b:Nat},0<st->(∀n∈ns,0<n)->(Kq st ns a b↔a % st=b % st/\U ns (a / st) (b / st))
 |[],st,a,b,h,_=>⟨fun z=>z.elim,fun z=>z.2.elim⟩
 |n::ns,st,a,b,h,hn=>by
  have Fq:=hn n bR;have yw:∀n∈ns,0<n:=fun x hx=>hn x (cD _ hx);show (_\/Kq (st*n) ns a b)↔a % st=b % st/\(_\/Kq (1*n) ns (a / st) (b / st))
  rw[Nat.one_mul,wZ (sq h Fq) yw,wZ Fq yw,Nat.div_one,Aa a st n,Aa b st n,Nat.mod_mul,Nat.mod_mul];have e1:=kM a st;have e2:=kM b st;constructor
  .rintro(⟨c,rfl⟩|⟨c,d⟩)
   .refine⟨by rw[Nat.add_mod_right],.inl ⟨c,by rw[Nat.add_div_right _ h]⟩⟩
   .have m1:a % st=b % st:=by
     have:=congrArg (· % st) c;simp only[Nat.add_mul_mod_self_left,Nat.mod_mod] at this;exact this
    refine⟨m1,.inr ⟨?_,d⟩⟩;rw[m1] at c;exact Nat.eq_of_mul_eq_mul_left h (Nat.add_left_cancel c)
  .rintro⟨m1,⟨c,d⟩|⟨c,d⟩⟩
   .refine .inl ⟨c,?_⟩;rw[<-e2,d,<-m1,Nat.mul_add,wc,Nat.add_right_comm,e1]
   .exact .inr ⟨by rw[m1,c],d⟩
theorem BC(h:∀x∈n::ns,0<x):U (n::ns) a b↔(a % n+1<n/\b=a+1)\/(a % n=b % n/\U ns (a / n) (b / n)):=by
 show (_\/Kq (1*n) ns a b)↔_;rw[Nat.one_mul,wZ (h n bR) fun x hx=>h x (cD _ hx),Nat.div_one]
theorem BF(h:a % n+1<n):(a+1) / n=a / n/\(a+1) % n=a % n+1:=by
 have e:=kM a n;have e2:a+1=n*(a / n)+(a % n+1):=by lia
 have hn:0<n:=by lia
 rw[e2,Nat.mul_add_div hn,Nat.mul_add_mod,Nat.div_eq_of_lt h,i8 h];exact⟨rfl,rfl⟩
theorem Tp:∀ {ns:List Nat} {a b:Nat},(∀x∈ns,0<x)->U ns a b->a<pr ns->a<b/\b<pr ns
 |[],a,b,_,h,_=>h.elim
 |n::ns,a,b,hn,h,ha=>by
  have Fq:=hn n bR;have yw:∀n∈ns,0<n:=fun x hx=>hn x (cD _ hx);have NN:a<n*pr ns:=ha;have hq:a / n<pr ns:=Nat.div_lt_of_lt_mul NN;show a<b/\b<n*pr ns;rcases(BC hn).mp h with ⟨c,rfl⟩|⟨c,d⟩
  .refine⟨by lia,?_⟩;have e:=kM a n;have:=rM n hq;rw[Nat.succ_eq_add_one,Nat.mul_add,wc] at this;lia
  .obtain⟨i1,i2⟩:=Tp yw d hq;refine⟨?_,?_⟩
   .have e1:=kM a n;have e2:=kM b n;have:=FK i1 Fq;lia
   .have e2:=kM b n;have hm:=kW b Fq;have:=rM n i2;rw[Nat.succ_eq_add_one,Nat.mul_add,wc] at this;lia
theorem Hn:∀ {ns:List Nat} {v:Nat},(∀x∈ns,0<x)->0<v->v<pr ns->∃u,u<v/\U ns u v
 |[],v,_,h1,h2=>by have h2:v<1:=h2;lia
 |n::ns,v,hn,h1,h2=>by
  have Fq:=hn n bR;have yw:∀n∈ns,0<n:=fun x hx=>hn x (cD _ hx);have lv:=kW v Fq;have ev:=kM v n;by_cases c:v % n=0
  .have hq:0<v / n:=by
    rcases Nat.eq_zero_or_pos (v / n) with z|z
    .rw[z,c] at ev;simp at ev;lia
    .exact z
   obtain⟨u,hu,uu⟩:=Hn (v:=v / n) yw hq (Nat.div_lt_of_lt_mul h2);refine⟨n*u,?_,(BC hn).mpr (.inr ⟨by rw[Nat.mul_mod_right,c],by rw[Nat.mul_div_cancel_left _ Fq];exact uu⟩)⟩;have:=FK hu Fq;lia
  .have hv:v-1=n*(v / n)+(v % n-1):=by lia
   have hm:(v-1) % n=v % n-1:=by rw[hv,Nat.mul_add_mod,i8 (by lia)]
   exact⟨v-1,by lia,(BC hn).mpr (.inl ⟨by lia,by lia⟩)⟩
theorem De:∀ {ns:List Nat} {st a b:Nat},(∀x∈ns,0<x)->Kq st ns a b->a+st<=b
 |[],st,a,b,_,h=>h.elim
 |n::ns,st,a,b,hn,h=>by
  rcases h with ⟨_,rfl⟩|h
  .exact aK _
  .have:=De (fun x hx=>hn x (cD _ hx)) h;have h1:=Nat.le_mul_of_pos_right st (hn n bR);lia
theorem EN:(Dc m st n).Nodup:=by
 unfold Dc;refine rF.mpr (fu.mpr ?_);exact(rF.mp (i9.sublist Ah)).imp fun {a b} h e=>h (congrArg Prod.fst e)
theorem yS:∀ {ns:List Nat} {st:Nat},0<st->(∀x∈ns,2<=x)->(bx m st ns).Nodup
 |[],_,_,_=>jK
 |n::ns,st,h,hn=>by
  have QO:=hn n bR;have yw:∀x∈ns,2<=x:=fun x hx=>hn x (cD _ hx);refine jp.mpr ⟨EN,yS (sq h (by lia)) yw,fun x hx y hy e=>?_⟩;subst e;have h1:=(Dd.mp hx).2.2;have h2:=De (fun x hx=>by have:=yw x hx;lia) (wY.mp hy).2;have h3:=rM st QO;lia
theorem EO(nd:ps.Nodup)(h:∀u∈ps,u.1<u.2):(dD ps).Nodup:=by
 refine(iK (ps:=ps)).nodup_iff.mpr (jp.mpr ⟨nd,?_,fun x hx y hy e=>?_⟩)
 .refine rF.mpr (fu.mpr ((rF.mp nd).imp fun {a b} qr e=>qr ?_));exact iB (congrArg Prod.snd e) (congrArg Prod.fst e)
 .subst e;obtain⟨u,hu,rfl⟩:=bj.mp hy;have h1:=h _ hx;have h2:=h u hu;have h1:u.2<u.1:=h1;lia
theorem EQ{qs:List (Nat×Nat)}(h:qs.Nodup):(qs.map iQ).Nodup:=by
 refine rF.mpr (fu.mpr ((rF.mp h).imp fun {a b} qr e=>qr ?_));exact iB (du (congrArg Prod.fst e)) (du (congrArg Prod.snd e))
theorem qv:∀ {a b:List (Nat×Nat)},lT h (a++b)=lT h a+lT h b
 |[],b=>by show lT h b=0+_;lia
 |q::a,b=>by
  have:=qv (h:=h) (a:=a) (b:=b);show b1 _+(b1 _+lT h (a++b))=b1 _+(b1 _+lT h a)+lT h b;lia
theorem ML:b1 (Nat.beq a b)=if a=b then 1 else 0:=by
 by_cases c:a=b
 .subst c;rw[ao rfl,wb];rfl
 .rw[ak c,show Nat.beq a b=false from As.mpr fun z=>c (vP z)];rfl
theorem Df:∀ {L:List Nat},L.Nodup->lT h (L.map fun x=>(x,x+st))<=(if h∈L then 1 else 0)+(if st<=h/\h-st∈L then 1 else 0)
 |[],_=>bE _
 |x::L,nd=>by
  obtain⟨n1,n2⟩:=fL.mp nd;have ih:=Df (h:=h) (st:=st) n2;show b1 (Nat.beq x h)+(b1 (Nat.beq (x+st) h)+lT h (L.map fun x=>(x,x+st)))<=_;rw[ML,ML];have e1:(if h∈x::L then 1 else 0)=(if x=h then 1 else 0)+(if h∈L then 1 else 0):=by
   by_cases c:x=h
   .subst c;rw[ao bR,ao rfl,ak n1]
   .rw[ak c];by_cases d:h∈L
    .rw[ao (cD _ d),ao d]
    .rw[ak d,ak (fun z=>(bb.mp z).elim (fun z=>c z.symm) d)]
  have e2:(if st<=h/\h-st∈x::L then 1 else 0)=(if x+st=h then 1 else 0)+(if st<=h/\h-st∈L then 1 else 0):=by
   by_cases c:x+st=h
   .have e:h-st=x:=by lia
    rw[ao c,e,ao ⟨by lia,bR⟩,ak (fun z=>n1 z.2)]
   .rw[ak c];by_cases d:st<=h/\h-st∈L
    .rw[ao d,ao ⟨d.1,cD _ d.2⟩]
    .rw[ak d,ak];rintro⟨z1,z2⟩;rcases bb.mp z2 with z|z
     .lia
     .exact d ⟨z1,z⟩
  rw[e1,e2];lia
def wt:List Nat->Nat
 |[]=>0
 |n::ns=>(if n=2 then 1 else 2)+wt ns
theorem Kr(hs:0<st):lT h (Dc m st n)<=if n=2 then 1 else 2:=by
 have c:=Df (h:=h) (st:=st) (L:=(List.range m).filter fun h=>decide (h / st % n+1<n)) (i9.sublist Ah);refine aX c ?_;by_cases e:n=2
 .rw[ao e];by_cases c1:h∈(List.range m).filter fun h=>decide (h / st % n+1<n)
  .rw[ao c1,ak]
   .lia
   .rintro⟨z1,z2⟩;have d1:h / st % n+1<n:=fc (et.mp c1).2;have d2:(h-st) / st % n+1<n:=fc (et.mp z2).2;have d3:h / st=(h-st) / st+1:=by
     have:=Nat.add_div_right (h-st) hs;rw[show h-st+st=h by lia] at this;exact this
    obtain⟨_,d4⟩:=BF d2;rw[<-d3] at d4;lia
  .rw[ak c1];split <;> lia
 .rw[ak e];split <;> split <;> lia
theorem Ho:∀ {ns:List Nat} {st:Nat},0<st->(∀x∈ns,0<x)->lT h (bx m st ns)<=wt ns
 |[],_,_,_=>aK _
 |n::ns,st,hs,hn=>by
  show lT h (Dc m st n++bx m (st*n) ns)<=_+wt ns;rw[qv];have h1:=Kr (m:=m) (n:=n) (h:=h) hs;have h2:=Ho (m:=m) (h:=h) (ns:=ns) (st:=st*n) (sq hs (hn n bR)) fun x hx=>hn x (cD _ hx);lia
theorem Hq:∀ {ns:List Nat},(∀x∈ns,2<=x)->3 ^ wt ns<=pr ns*pr ns
 |[],_=>aK _
 |n::ns,hn=>by
  have ih:=Hq (ns:=ns) fun x hx=>hn x (cD _ hx);have h2:=hn n bR;show 3 ^ ((if n=2 then 1 else 2)+wt ns)<=n*pr ns*(n*pr ns);rw[Nat.pow_add,Nat.mul_mul_mul_comm];refine AG ?_ ih;by_cases c:n=2
  .rw[ao c,c];decide
  .rw[ak c];have:3<=n:=by lia
   exact AG this this
theorem Tq(hn:∀x∈ns,2<=x)(hp:pr ns<=32):wt ns<=8:=by
 refine rG fun z=>?_;have h1:3 ^ 9<=3 ^ wt ns:=Nat.pow_le_pow_right (by decide) (by lia);have h2:=Hq hn;have h3:pr ns*pr ns<=32*32:=AG hp hp;have h4:(3:Nat) ^ 9=19683:=by decide
 lia
theorem Hr{ns:List Nat}(hn:∀x∈ns,2<=x)(h0:ns≠[])(hp:pr ns<=32):bK (pr ns) (dD ((n9 ns).map iQ)):=by
 have Ot:∀x∈ns,0<x:=fun x hx=>by have:=hn x hx;lia
 have q:∀q∈n9 ns,q.1<q.2/\q.2<pr ns:=fun q hq=>by
  obtain⟨a,b⟩:=wY.mp hq;exact Tp Ot b a
 have n1:2<=pr ns:=by
  cases ns with
  |nil=>exact absurd rfl h0
  |cons n ns=>
   have h2:=hn n bR;have:∀ {l:List Nat},(∀x∈l,2<=x)->1<=pr l:=fun {l}=>by
    induction l with
    |nil=>intro _;exact aK _
    |cons x l ih=>intro hl;exact sq (by have:=hl x bR;lia) (ih fun y hy=>hl y (cD _ hy))
   have h3:=this (l:=ns) fun x hx=>hn x (cD _ hx);show 2<=n*pr ns;exact aX h2 (Nat.le_mul_of_pos_right n h3)
 have mem:∀t∈dD ((n9 ns).map iQ),∃q∈n9 ns,t=iQ q\/t=uG (iQ q):=fun t ht=>by
  rcases n0.mp ht with z|z
  .obtain⟨q,hq,e⟩:=bj.mp z;exact⟨q,hq,.inl e.symm⟩
  .obtain⟨q,hq,e⟩:=bj.mp z;exact⟨q,hq,.inr (by rw[e])⟩
 have rg:∀t∈dD ((n9 ns).map iQ),((0<=t.1/\t.1<pr ns)/\(0<=t.2/\t.2<pr ns))/\t.1≠t.2:=fun t ht=>by
  obtain⟨p,hq,e⟩:=mem t ht;obtain⟨a,b⟩:=q p hq;rcases e with rfl|rfl
  .exact⟨⟨⟨by show (0:Int)<=(p.1:Int);lia,by show (p.1:Int)<(pr ns:Int);lia⟩,by show (0:Int)<=(p.2:Int);lia,by show (p.2:Int)<(pr ns:Int);lia⟩,by show ((p.1:Nat):Int)≠(p.2:Nat);lia⟩
  .exact⟨⟨⟨by show (0:Int)<=(p.2:Int);lia,by show (p.2:Int)<(pr ns:Int);lia⟩,by show (0:Int)<=(p.1:Int);lia,by show (p.1:Int)<(pr ns:Int);lia⟩,by show ((p.2:Nat):Int)≠(p.1:Nat);lia⟩
 have nd:(dD ((n9 ns).map iQ)).Nodup:=EO (EQ (yS (by decide) hn)) fun u hu=>by
  obtain⟨p,hq,rfl⟩:=bj.mp hu;have:=(q p hq).1;show (p.1:Int)<(p.2:Int);lia
 refine⟨n1,hp,nd,fun t ht=>(rg t ht).1,fun t ht=>(rg t ht).2,fun h=>?_,fun h=>?_,fun a b ha hb=>?_⟩
 .rw[<-(Da (ps:=(n9 ns).map iQ)).filter (fun t=>decide (t.1=h)) |>.length_eq,pi,aT];rfl
 .by_cases c:0<=h/\h<pr ns
  .have:=Ho (m:=pr ns) (h:=h.toNat) (ns:=ns) (st:=1) (by decide) Ot;have e:=wX (h:=h.toNat) (qs:=n9 ns);rw[oX c.1] at e;rw[e];exact aX this (Tq hn hp)
  .have e:(dD ((n9 ns).map iQ)).filter (fun t=>decide (t.1=h))=[]:=rK.mpr fun t ht e=>c ((show t.1=h from fc e) ▸ (rg t ht).1.1);rw[e];exact bE _
 .have A3:∀v,v<pr ns->(∃k,dN (dD ((n9 ns).map iQ)) k 0 v)/\∃k,dN (dD ((n9 ns).map iQ)) k v 0:=by
   intro v;induction v using Nat.strongRecOn with
   |ind v ih=>
    intro hv;rcases Nat.eq_zero_or_pos v with e|e
    .subst e;exact⟨⟨0,rfl⟩,0,rfl⟩
    .obtain⟨u,hu,uu⟩:=Hn Ot e hv;obtain⟨⟨k,w⟩,l,w'⟩:=ih u hu (by lia);have t:T (dD ((n9 ns).map iQ)) u v:=n0.mpr (.inl (bj.mpr ⟨(u,v),wY.mpr ⟨by show u<pr ns;lia,uu⟩,rfl⟩));have t':T (dD ((n9 ns).map iQ)) v u:=C_ t;exact⟨⟨k+1,u,w,t⟩,l+1,dN.cons t' w'⟩
  obtain⟨_,k,w⟩:=A3 a ha;obtain⟨⟨l,w'⟩,_⟩:=A3 b hb;exact⟨_,w.trans w'⟩
end jy
namespace L2
open PySem PySem.Spec PyProof.Rows
def BG(scope:Scope)(cX:List (Str×Addr))(qual:Str)(f c L:Addr):Env:=
 { scope:=scope,locals:=L,globals:=mainGlobals,cells:=cX,qual:=qual++".<locals>.",func:=some f,code:=.ref c,frame:=some L,builtins:=builtinsNs }
def qw(X:Cx)(NB:List Str)(scope:Scope)(cX:List (Str×Addr))(qual:Str)(f c:Addr)(s:Shared)(H:Hp):Cx:=
 { X with A:=X.A.in1.in1.deeper (BG scope cX qual f c s.heap.objs.size),N:=NB,s₀:=s,H₀:=H,env:=BG scope cX qual f c s.heap.objs.size,outer:=X.stack,stack:=BG scope cX qual f c s.heap.objs.size::X.stack,ex:=[],fn:=fun _=>false,pn:=[],xe:=fun _ _=>False }
structure yT(X:Cx)(NB:List Str)(src:List (Option Nat))(scope:Scope)(qual:Str)(params:Arguments)(body:Expr)(y:Str):Prop where
 bs:g7 NB src scope X
 bind:∀cX pm c yu v,bindArgs (PySem.W.kla_fn "<lambda>" qual params body scope cX pm (.ref c) yu) ⟨[v],[]⟩=pure [(y,v)]
 y0:NB[0]?=some y
 s0:src[0]?=some none
 ly:scope.names.lookup y=some .local
 wM:∀z∈scope.names,z.2≠.cell
 co:scope.isCoroutine=false
 gen:scope.isGenerator=false
section
variable {X:Cx} {af:List (Addr×Obj)} {σ:St} {H:Hp} {s:Shared} {NB:List Str} {src:List (Option Nat)} {scope:Scope} {qual:Str} {params:Arguments} {body:Expr} {y:Str} {cX:List (Str×Addr)} {f c:Addr} {h₁:Heap} {t₁:Nat} {v:V} {u:Value}
theorem Ks(I:aS X af σ H s)(S:yT X NB src scope qual params body y)(hd:X.A.handled=none)(c1:∀x c,cX.lookup x=some c->X.env.cells.lookup x=some c)(c2:∀x,(x,NameKind.free)∈scope.names->∃c,cX.lookup x=some c)(hn:h₁.Ns s.heap.objs.size (fun x=>[(y,u)].lookup x))(hk:∀b o,s.heap.get? b=some o->h₁.get? b=some o)(rv:bH v u):
  aS (qw X NB scope cX qual f c s H) [] ((zP src σ).set 0 (some v)) H { s with heap:=h₁,toks:=t₁ }:=by
 have wF:∀x c,cX.lookup x=some c->∃v,s.heap.IsCell c v:=fun x c e=>I.cell x c (c1 x c e);have B:=S.bs;refine⟨⟨I.ok.mod,B.kind,rfl,rfl,aK _,fun x y c e1 e2=>I.ok.inj x y c (c1 x c e1) (c1 y c e2),fun x hx=>?_,(fun x c z e=>by cases z),fun _=>hd,Around.frames_deeper I.ok.frames,.inr ⟨rfl,rfl⟩,(fun b hb=>by cases hb),I.bs,aX I.ok.FT I.sz,(fun b o e hb=>by cases hb),(fun b hb=>by cases hb),I.stack,I.wg⟩,
  rfl,I.bare,Un.kept hk,⟨_,hn,fun i x w e1 e2 e3=>?_⟩,fun x c e=>?_,I.ce.fresh (aK _),fun x c e=>I.kZ x c (c1 x c e),fun p hp=>absurd (show p∈([]:List (Addr×Obj)) from hp) (by simp),I.ce.kept hk,?_⟩
 .have hx:scope.names.lookup x=some .cell\/scope.names.lookup x=some .free:=hx;rcases hx with z|z
  .exact absurd rfl (S.wM _ (kD z))
  .exact c2 x (kD z)
 .have e1:NB[i]?=some x:=e1;cases i with
  |zero=>
   rw[S.y0] at e1;cases e1;have hl:0<(zP src σ).length:=by
    unfold zP;rw[aT];exact(b9.mp S.s0).1
   rw[oQ hl] at e2;cases e2;exact⟨u,rv,.inl ⟨S.ly,by simp⟩⟩
  |succ i=>
   rw[oW (by lia)] at e2;obtain⟨j,hj,hv⟩:=CG e2;obtain⟨hN,hF⟩:=B.src (i+1) x j e1 hj;obtain⟨m0,Fq,NP⟩:=I.loc;have A4:=kD hF;have kx:=B.free _ A4 rfl;have RV:QM X.env.scope x:=by
    rcases kx with z|z
    .exact .inr (.inl z)
    .exact .inr (.inr z)
   obtain⟨u',r,l⟩:=NP j x w hN hv RV;obtain⟨c',hc⟩:=c2 x A4;refine⟨u',r,.inr ⟨.inr hF,c',hc,?_⟩⟩;rcases l with ⟨Jr,_⟩|⟨_,c'',e,z⟩
   .have Gk:X.env.scope.names.lookup x=some .local:=Jr;rcases kx with z|z <;> (rw[z] at Gk;cases Gk)
   .rw[c1 x c' hc] at e;cases e;obtain⟨o,ho,JF⟩:=z;exact⟨o,hk _ _ ho,JF⟩
 .obtain⟨v,o,ho,JF⟩:=wF x c e;exact⟨v,o,hk _ _ ho,JF⟩
 .show ((zP src σ).set 0 (some v)).length=NB.length;unfold zP;rw[gy,aT];exact B.len
theorem Ht(hr:cg k X.A)(S:yT X NB src scope qual params body y)(I:aS X af σ H s)(hf:H f=some (uA f qual params body scope X.env.cells c))(hc:H c=some (nM c qual))(rv:bH v u)(hb:∀cX s H,PE (qw X NB scope cX qual f c s H) body te)(h:te ((zP src σ).set 0 (some v)) H Q):
  wpAny (model X.prog X.w) X.A.in1.in1 (call (.ref f) [u]) (EP X af σ Q) (fun _ _=>False) s:=by
 obtain⟨cX,pm,yu,c1,c2,NO⟩:=(I.ce f _ hf).1;have XA:s.heap.CodeRec (.ref c) qual:=(I.ce c _ hc).1;have GB:X.A.in1.in1.depth<recursionLimit:=by
  have:=hr.dp;show X.A.depth<_;lia
 refine pF (PySem.W.kla_callFunE GB NO rfl S.co S.gen rfl XA ?_);rw[S.bind];refine wpAny_pure (wpAny_newFunctionEnv S.wM (fun x hx=>by rw[cu.mp hx];exact S.ly) (fun h₁ yw SJ=>⟨I.nolimit.fresh _ SJ,?_⟩) S.bs.kind);have N8:∀b o,s.heap.get? b=some o->h₁.get? b=some o:=fun b o e=>SJ.extBut b o (ba (aP e)) (bw _ e);refine PySem.W.kla_codeExpr ?_;have J:=Ks (f:=f) (c:=c) (t₁:=s.toks+1) I S hr.hd c1 c2 yw N8 rv;refine jd (hb cX s H [] _ _ H Q J h) (fun w s' ⟨v',H',J',r',q'⟩=>?_) fun _ _ z=>z.elim;exact⟨v',H',I.Md (ch:=[]) J'.os J'.base J'.ce J'.bare (fun b hb=>by cases hb),r',q'⟩
end
def xM(kz:Nat->Int)(a b:Nat):Prop:=64*kz a+a<=64*kz b+b
structure Fy(ns:List Nat)(kz:Nat->Int)(ps:List Keyed):Prop where
 len:ps.length=ns.length
 at_:∀ (i n:Nat),ns[i]?=some n->∃t u,ps[i]?=some (Value.int (kz n) t,Value.int (n:Int) u)
theorem Fy.mem(P:Fy ns kz ps)(h:p∈ps):∃n∈ns,∃t u,p=(Value.int (kz n) t,Value.int (n:Int) u):=by
 obtain⟨i,hi,e⟩:=rN h;have hn:i<ns.length:=by rw[<-P.len];exact hi
 obtain⟨t,u,e2⟩:=P.at_ i ns[i] (bQ hn);rw[bQ hi] at e2;exact⟨_,gv hn,t,u,by rw[<-e];exact bN e2⟩
theorem Fy.map(P:Fy ns kz ps):ps.map (fun p=>(numOf p.2).toNat)=ns:=by
 refine lV fun i=>?_;rw[bU];cases e:ns[i]? with
 |none=>
  have:ns.length<=i:=List.getElem?_eq_none_iff.mp e;rw[fJ (by rw[P.len];exact this)];rfl
 |some n=>
  obtain⟨t,u,e2⟩:=P.at_ i n e;rw[e2];rfl
def V8(p:Keyed):Int:=numOf p.1
def Tt(p:Keyed):Int:=numOf p.2
theorem Fy.nu(P:Fy ns kz a.toList)(Ou:ns.Pairwise (·<·))(Ku:∀n∈ns,n<64):Nu Tt a:=by
 have g:∀ (i n:Nat),ns[i]?=some n->kk Tt a i=(n:Int):=fun i n e=>by
  obtain⟨t,u,e2⟩:=P.at_ i n e;unfold kk;rw[<-mf,e2];rfl
 refine⟨fun i j AM hj=>?_,fun x hx=>?_⟩
 .have hj:j<ns.length:=by rw[<-P.len];simpa using hj
  rw[g i _ (bQ (show i<ns.length by lia)),g j _ (bQ hj)];have:=oH.mp Ou i j (by lia) hj AM;lia
 .obtain⟨n,hn,t,u,rfl⟩:=P.mem hx;have:=Ku n hn;show 0<=(n:Int)/\(n:Int)<64;lia
theorem Fy.cmp(P:Fy ns kz a.toList):Jt prog w A s oneType' a V8:=fun x y hx hy Q E h=>by
 obtain⟨n,_,t,u,rfl⟩:=P.mem hx;obtain⟨m,_,t',u',rfl⟩:=P.mem hy;rw[keyLt'_oneType];exact oneLt_int h
theorem Fy.out{ns:List Nat}{kz:Nat->Int}{a b:Array Keyed}(P:Fy ns kz a.toList)(hp:b.Perm a)(so:xL V8 Tt b a.size):
  ∃out:List Nat,out.Perm ns/\out.Pairwise (xM kz)/\aZ (out.map fun (x:Nat)=>V.int (x:Int)) (b.map (·.2)).toList:=by
 have hl:b.toList.Perm a.toList:=jj.mp hp;have mem:∀p∈b.toList,∃n∈ns,∃t u,p=(Value.int (kz n) t,Value.int (n:Int) u):=fun p h=>P.mem (hl.mem_iff.mp h);refine⟨b.toList.map fun p=>(numOf p.2).toNat,by rw[<-P.map];exact hl.map _,?_,?_⟩
 .refine fu.mpr ?_;rw[oH];intro i j hi hj AM;have q_:i<b.size:=by simpa using hi
  have SE:j<b.size:=by simpa using hj
  have q:=so i j (jO AM) (by rw[<-hp.size_eq];exact SE);rw[lj q_,lj q_,lj SE,lj SE] at q;obtain⟨n,_,t,u,e⟩:=mem b[i] (by simp);obtain⟨m,_,t',u',e'⟩:=mem b[j] (by simp);have e1:b.toList[i]=b[i]:=by simp
  have e2:b.toList[j]=b[j]:=by simp
  rw[e1,e2];rw[e,e'] at q;rw[e,e'];exact q
 .rw[jI,dk];have go:∀l:List Keyed,(∀p∈l,∃n∈ns,∃t u,p=(Value.int (kz n) t,Value.int (n:Int) u))->aZ (l.map ((fun (x:Nat)=>V.int (x:Int)) ∘ fun p=>(numOf p.2).toNat)) (l.map (·.2)):=fun l=>by
   induction l with
   |nil=>intro _;exact .nil
   |cons x l ih=>
    intro h;obtain⟨n,_,t,u,rfl⟩:=h x bR;exact .cons ⟨u,rfl⟩ (ih fun p hp=>h p (cD _ hp))
  exact go _ mem
section
variable {X:Cx} {af:List (Addr×Obj)} {σ:St} {H:Hp} {s:Shared}
theorem aS.Tu(I:aS X af σ H s)(f:gh X af H a)(new:cI X.prog X.w (upd H a o) s.heap a o):aS X af σ (upd H a o) s:=by
 have ne:∀ {b u},H b=some u->b≠a:=fun {b u} e z=>by rw[z,f.1] at e;cases e
 obtain⟨h,g,d,t,os⟩:=s;refine I.step (g':=g) (d':=d) (t':=t) (h':=h) (ch:=[a]) (fun b hb=>?_) (fun b o _ _ _ e _=>e) (fun b o _ _ _ e _=>⟨o.slots,e⟩) (fun b o hc _ n=>by rw[ap (fun z=>hc (by simp[z]))];exact n)
  (fun b o _ e=>⟨o,e⟩) (fun b xs e=>by rw[ap (ne e)];exact e) (fun b o u e=>by rw[ap (ne e)];exact e) (fun b ps e=>⟨#[],by rw[ap (ne e),e];simp⟩) (fun m hm=>hm) (fun b u e=>?_) I.bare
 .have e:b=a:=by simpa using hb
  subst e;exact⟨f.2.2.2.1,f.2.1,f.2.2.2.2.1,f.2.2.2.2.2⟩
 .by_cases hb:b=a
  .subst hb;rw[ae] at e;cases e;exact new
  .rw[ap hb] at e;exact(I.ce b u e).jf (fun _ _ _ q=>q) (fun d q=>by rw[ap (ne q)];exact q) fun d xs q=>by rw[ap (ne q)];exact q
variable {NB:List Str} {src:List (Option Nat)} {scope:Scope} {qual:Str} {params:Arguments} {body:Expr} {y:Str} {f c:Addr} {te:TE} {k:Nat} {ns:List Nat} {kz:Nat->Int} {its:List Value} {a kS:Addr} {e1:Nat}
theorem yU{st:SortSt}{keys:Array Value}{e:Nat}{E:Value->Shared->Prop}{A:Around}(I:aS X af σ H s)(fa:gh X af H a)(fk:gh X af H kS)(Ov:kS≠a)(oa:s.heap.get? a=some (seqObj "list" #[] e1))(ok:s.heap.get? kS=some (seqObj "list" keys e))(hk:keys.size<64)(Js:(arrOf st).size<64)(hfl:failedOf st=none){out:List Nat}(hv:aZ (out.map fun (x:Nat)=>V.int (x:Int)) ((arrOf st).map (·.2)).toList){P:PySem.Fin->Shared->Prop}(h:∀s',aS X af σ (upd H a (.lst (out.map fun (x:Nat)=>V.int (x:Int)))) s'->P (.done (.ret .none)) s'):
  wpAny (model X.prog X.w) A (ksk_tail a false e1 (.ref kS) st) P E s:=by
 have s1:=o4 s.heap kS (Obj.mapSeq fun _=>(#[]:Array Value));have Yd:(s.heap.update kS (Obj.mapSeq fun _=>(#[]:Array Value))).get? a=some (seqObj "list" #[] e1):=(s1.2 a Ov.symm).trans oa;have s2:=o4 (s.heap.update kS (Obj.mapSeq fun _=>(#[]:Array Value))) a (Obj.mapSeq fun _=>(arrOf st).map (·.2));obtain⟨c2,Tv⟩:∃c2,((s.heap.update kS (Obj.mapSeq fun _=>(#[]:Array Value))).update a (Obj.mapSeq fun _=>(arrOf st).map (·.2))).get? a=some (seqObj "list" ((arrOf st).map (·.2)) c2):=⟨_,jL Yd fun _=>(arrOf st).map (·.2)⟩
 have J1:=I.turned (t':=s.toks) (h':=s.heap.update kS (Obj.mapSeq fun _=>(#[]:Array Value))) (it:=kS) (fun b o hb q=>(s1.2 b hb).trans q) fk.1 fk.2.1 fk.2.2.2.1 fk.2.2.2.2.1 fk.2.2.2.2.2;have J2:=J1.turned (t':=s.toks) (h':=(s.heap.update kS (Obj.mapSeq fun _=>(#[]:Array Value))).update a (Obj.mapSeq fun _=>(arrOf st).map (·.2))) (it:=a) (fun b o hb q=>(s2.2 b hb).trans q) fa.1 fa.2.1 fa.2.2.2.1 fa.2.2.2.2.1 fa.2.2.2.2.2;have J3:=J2.Tu fa (o:=.lst (out.map fun (x:Nat)=>V.int (x:Int))) ⟨?_,((arrOf st).map (·.2)).toList,c2,hv,by rw[Tv]⟩
 .unfold ksk_tail;try dsimp only
  refine aw (jc ok rfl ?_ (by rw[ff];lia) (bE _));refine aw (wpAny_letGo ?_);refine aw (kX Yd rfl ?_);simp only[ic,dY];refine aw (jc Yd rfl ?_ (bE _) (by rw[js,ff];lia));rw[hfl];simp only[rS,ic,dY];exact wpAny_pure (h _ J3)
 .have:=hv.length;rw[this,lU,js,ff];lia
theorem Kv{keys:Array Value}{e:Nat}{E:Value->Shared->Prop}{A:Around}(I:aS X af σ H s)(fa:gh X af H a)(fk:gh X af H kS)(Ov:kS≠a)(oa:s.heap.get? a=some (seqObj "list" #[] e1))(ok:s.heap.get? kS=some (seqObj "list" keys e))(hk:IntsAre keys.toList (ns.map kz))(hP:Fy ns kz (keys.zip its.toArray).toList)(hl:its.length=ns.length)(Js:ns.length<64)(Ou:ns.Pairwise (·<·))(Ku:∀n∈ns,n<64){P:PySem.Fin->Shared->Prop}(h:∀s' (out:List Nat),out.Perm ns->out.Pairwise (xM kz)->aS X af σ (upd H a (.lst (out.map fun (x:Nat)=>V.int (x:Int)))) s'->P (.done (.ret .none)) s'):
  wpAny (model X.prog X.w) A (ksk_end a false its.toArray e1 (.ref kS) keys) P E s:=by
 have gZ:keys.size=ns.length:=by
  have h1:=hk.length;rw[lU,aT] at h1;exact h1
 have hzs:(keys.zip its.toArray).size=ns.length:=by rw[Array.size_zip,gZ,cz,hl,sj]
 unfold ksk_end;simp only[ic,dY];by_cases h2:its.toArray.size<2
 .rw[ao h2,ao h2];refine aw (wpAny_pure ?_);rw[AA];refine aw (wpAny_pure ?_);try dsimp only
  rw[cz,hl] at h2;obtain⟨out,o1,o2,o3⟩:=hP.out (b:=keys.zip its.toArray) (v7 _) (fun i j AM hj=>by rw[hzs] at hj;rw[show i=j by lia];exact mB _);exact yU (st:=SortSt.mk' general' (keys.zip its.toArray) #[] 7 none) I fa fk Ov oa ok (by lia) (by show (keys.zip its.toArray).size<64;lia) rfl o3 fun s' J=>h s' out o1 o2 J
 .rw[ak h2,ak h2];rw[cz,hl] at h2;rw[ksk_kind hk (by lia)];refine aw (wpAny_pure ?_);refine aw (jd (tJ (st:=SortSt.mk' oneType' (keys.zip its.toArray) #[] 7 none) (a₀:=keys.zip its.toArray) (ck:=V8) (nu:=Tt)
   (Q:=fun _ aE=>(arrOf aE).Perm (keys.zip its.toArray)/\failedOf aE=none/\xL V8 Tt (arrOf aE) (keys.zip its.toArray).size)
   hP.cmp (hP.nu Ou Ku) rfl rfl rfl rfl (by lia) (by lia) fun aE a1 a2 a3=>⟨a1,a2,a3⟩) ?_ fun _ _ e=>e)
  rintro⟨⟨⟩,aE⟩ s' ⟨rfl,hp,hf,hs⟩;try dsimp only
  obtain⟨out,o1,o2,o3⟩:=hP.out hp hs;exact yU I fa fk Ov oa ok (by lia) (by rw[hp.size_eq];lia) hf o3 fun s' J=>h s' out o1 o2 J
theorem Hu(hr:cg k X.A)(S:yT X NB src scope qual params body y)(hb:∀cX s H,PE (qw X NB scope cX qual f c s H) body te)(I:aS X af σ H s)(hf:H f=some (uA f qual params body scope X.env.cells c))(hc:H c=some (nM c qual))(hv:aZ (ns.map fun (x:Nat)=>V.int (x:Int)) its)(Js:ns.length<64)(Ou:ns.Pairwise (·<·))(Ku:∀n∈ns,n<64)(fa:gh X af H a)(fk:gh X af H kS)(Ov:kS≠a)(oa:s.heap.get? a=some (seqObj "list" #[] e1))(ok:s.heap.get? kS=some (seqObj "list" #[] 0))(Ye:∀n∈ns,∀H',aO H H'->te ((zP src σ).set 0 (some (.int (n:Nat)))) H' fun v Tw=>v=.int (kz n)/\aO H' Tw)(h:∀H' s' (out:List Nat),aO H H'->H' a=none->out.Perm ns->out.Pairwise (xM kz)->aS X af σ (upd H' a (.lst (out.map fun (x:Nat)=>V.int (x:Int)))) s'->P (.done (.ret .none)) s'):
  wpAny (model X.prog X.w) X.A.in1.in1 (ksk_rest a (.ref f) false its.toArray e1 (.ref kS)) P E s:=by
 have hl:its.length=ns.length:=by have:=hv.length;rw[aT] at this;exact this.symm
 unfold ksk_rest;refine aw (fE ?_);first
  |rw[List.forIn_toArray]
  |(rw[<-rQ];simp only[List.toList_toArray])
  |rw[<-rQ]
 have Tx:∀ {p:Addr×Obj} {b:Addr} {o:Obj} {H':Hp} {s':Shared},gh X af H b->H' b=none->s'.heap.get? b=some o->(∀v,o.data≠.cell v)->p=(b,o)->s'.heap.get? p.1=some p.2/\H' p.1=none/\p.1≠X.env.locals/\p.1∉X.fs/\∀v,p.2.data≠.cell v:=fun {p b o H' s'} F n e d z=>by
  subst z;exact⟨e,n,F.2.1,F.2.2.1,d⟩
 have two:∀ {H':Hp} {s':Shared} {oK:Obj} {Yf:List (Addr×Obj)},aS X Yf σ H' s'->(∀p∈af,p∈Yf)->H' a=none->H' kS=none->s'.heap.get? a=some (seqObj "list" #[] e1)->s'.heap.get? kS=some oK->(∀v,oK.data≠.cell v)->aS X (af++[(kS,oK),(a,seqObj "list" #[] e1)]) σ H' s':=fun {H' s' oK Yf} J sub na nk ea ek d=>J.nA fun p hp=>by
  rcases bX.mp hp with z|z
  .exact J.pin p (dR _ (sub p z))
  .rcases bb.mp z with z|z
   .exact Tx fk nk ek d z
   .exact Tx fa na ea (fun v z=>by cases z) (cu.mp z)
 refine aw (ksk_fold (fun i s'=>∃H' kA e,aO H H'/\aS X (af++[(kS,seqObj "list" kA e),(a,seqObj "list" #[] e1)]) σ H' s'/\IntsAre kA.toList ((ns.take i).map kz)) its 0 s
  ⟨H,#[],0,aO.refl _,two I (fun p z=>z) fa.1 fk.1 oa ok (fun v z=>by cases z),by simpa using IntsAre.nil⟩ ?step ?done)
 case step=>
  rintro j x s' hx ⟨H',kA,e,sm,J,hk⟩;simp only[jb] at hk |-;have hj:j<ns.length:=by rw[<-hl];exact(b9.mp hx).1
  have hnj:ns[j]?=some ns[j]:=bQ hj;obtain⟨u,hu,ru⟩:=hv.get (i:=j) (x:=V.int ((ns[j]:Nat):Int)) (by rw[bU,hnj];rfl);rw[hx] at hu;cases hu;refine aw (jN (jd (Ht hr S J (sm _ _ hf) (sm _ _ hc) ru hb (Ye ns[j] (gv hj) H' sm)) (fun w Jp he=>?_) fun _ _ hF=>hF.elim));obtain⟨v,Tw,J2,⟨wn,SW⟩⟩:=he;obtain⟨rfl,MM⟩:=SW;obtain⟨t2,rfl⟩:∃t,w=Value.int (kz ns[j]) t:=wn;try dsimp only
  have nk:=J2.pin (kS,seqObj "list" kA e) (dR _ (dR _ (.head _)));have na:=J2.pin (a,seqObj "list" #[] e1) (dR _ (dR _ (.tail _ (.head _))));have s1:=o4 Jp.heap kS (Obj.mapSeq (·.push (.int (kz ns[j]) t2)));obtain⟨c2,Tv⟩:∃c2,(Jp.heap.update kS (Obj.mapSeq (·.push (.int (kz ns[j]) t2)))).get? kS=some (seqObj "list" (kA.push (.int (kz ns[j]) t2)) c2):=⟨_,jL nk.1 (·.push (.int (kz ns[j]) t2))⟩
  have hz:kA.size<=64:=by
   have h1:=hk.length;rw[lU,aT,mv] at h1;lia
  have J3:=(J2.nA (pins':=af) fun p hp=>J2.pin p (dR _ (ft _ hp))).turned (t':=Jp.toks) (h':=Jp.heap.update kS (Obj.mapSeq (·.push (.int (kz ns[j]) t2)))) (it:=kS) (fun b o hb q=>(s1.2 b hb).trans q) nk.2.1 fk.2.1 fk.2.2.2.1 fk.2.2.2.2.1 fk.2.2.2.2.2;refine aw (jc nk.1 rfl ?_ (by rw[ff];lia) (aX (pB (Array.size_push ..)) (by rw[ff];lia)));refine wpAny_pure ⟨rfl,Tw,_,c2,sm.trans MM,two J3 (fun p z=>z) na.2.1 nk.2.1 ((s1.2 a Ov.symm).trans na.1) Tv (fun v z=>by cases z),?_⟩;have ek:(ns.take (j+1)).map kz=(ns.take j).map kz++[kz ns[j]]:=by rw[gX,hnj,Al,cW];rfl
  have ea:(kA.push (Value.int (kz ns[j]) t2)).toList=kA.toList++[Value.int (kz ns[j]) t2]:=by simp
  rw[ea,ek];exact ksk_snoc hk
 case done=>
  rintro s' ⟨H',kA,e,sm,J,hk⟩;have Jr:IntsAre kA.toList (ns.map kz):=by
   have e3:ns.take (0+its.length)=ns:=oO (by lia);rw[e3] at hk;exact hk
  have nk:=J.pin (kS,seqObj "list" kA e) (dR _ (dR _ (.head _)));have na:=J.pin (a,seqObj "list" #[] e1) (dR _ (dR _ (.tail _ (.head _))));try dsimp only
  refine aw (listItems_at nk.1 rfl ?_);have hP:Fy ns kz (kA.zip its.toArray).toList:=by
   rw[ksk_zip];have l1:=Jr.length;rw[aT] at l1;refine⟨by rw[pf,l1,hl,sj],fun i n hn=>?_⟩;have hi:i<ns.length:=(b9.mp hn).1;obtain⟨u,hu,t',rfl⟩:=hv.get (i:=i) (x:=V.int ((n:Nat):Int)) (by rw[bU,hn];rfl);have hki:i<kA.toList.length:=by rw[l1];exact hi
   obtain⟨m,t,em,en⟩:=Jr.at i kA.toList[i] (bQ hki);rw[bU,hn] at en;cases en;refine⟨t,t',?_⟩;rw[vJ];exact⟨by rw[bQ hki,em],hu⟩
  exact Kv (J.nA (pins':=af) fun p hp=>J.pin p (dR _ (ft _ hp))) ⟨na.2.1,fa.2⟩ ⟨nk.2.1,fk.2⟩ Ov na.1 nk.1 Jr hP hl Js Ou Ku fun s2 out o1 o2 J2=>h H' s2 out sm na.2.1 o1 o2 J2
end
def Ow(X:Cx)(NB:List Str)(src:List (Option Nat))(qual:Str)(params:Arguments)(body:Expr)(scope:Scope)(te:TE):St->List V->List V->Hp->VK->Prop:=fun σ vs zs H Q=>
 ∃ (l f c:Addr) (ns:List Nat) (kz:Nat->Int),vs=[.ref l]/\zs=[.ref f]/\aW X.K H l (ns.map fun (x:Nat)=>V.int (x:Int))/\ns.length<64/\ns.Pairwise (·<·)/\(∀n∈ns,n<64)/\H f=some (uA f qual params body scope X.env.cells c)/\H c=some (nM c qual)/\
  (∀n∈ns,∀H',aO H H'->te ((zP src σ).set 0 (some (.int (n:Nat)))) H' fun v Tw=>v=.int (kz n)/\aO H' Tw)/\
  ∀ (r:Addr) (H':Hp) (out:List Nat),aO H H'->H' r=none->out.Perm ns->out.Pairwise (xM kz)->Q (.ref r) (upd H' r (.lst (out.map fun (x:Nat)=>V.int (x:Int))))
theorem j5(hr:cg k X.A)(S:yT X NB src scope qual params body y)(hb:∀f c cX s H,PE (qw X NB scope cX qual f c s H) body te):
  Be X "sorted" ["key"] (Ow X NB src qual params body scope te):=by
 intro af s σ H vs zs us ws Q I r rz h;obtain⟨l,f,c,ns,kz,rfl,rfl,hl,Js,Ou,Ku,hf,hc,Ye,q⟩:=h;obtain⟨u1,rfl,r1⟩:=r.one;obtain rfl:u1=Value.ref l:=r1;obtain⟨w1,rfl,Xz⟩:=rz.one;obtain rfl:w1=Value.ref f:=Xz;obtain⟨its,rv,pl,hz⟩:=I.list hl;have hln:its.length=ns.length:=by have:=rv.length;rw[aT] at this;exact this.symm
 show wpAny (model X.prog X.w) X.A (call (.builtin "sorted") [.ref l] [(Str.ofString "key",.ref f)]) _ _ s;refine call_function_entry_kw kind_sorted plain_sorted entry_sorted (ksk_s1 _ _) ?_;unfold Builtin.«sorted»;refine aw (m:=checkCount "sorted" 1 1 _) (wpAny_pure ?_);refine aw (collect_list pl.isList ?_ (by rw[ff];lia));refine aw (pD ?_ (by rw[ff];lia));have gZ:((s.heap.push (seqObj "list" #[] 0)).update s.heap.objs.size (Obj.mapSeq (·++its.toArray))).objs.size=s.heap.objs.size+1:=by
  rw[d9,eL]
 have uQ:(((s.heap.push (seqObj "list" #[] 0)).update s.heap.objs.size (Obj.mapSeq (·++its.toArray))).push (seqObj "list" its.toArray 0)).get? (s.heap.objs.size+1)=some (seqObj "list" its.toArray 0):=by
  rw[<-gZ];exact b_ _ rfl
 have keep:∀b o,s.heap.get? b=some o->(((s.heap.push (seqObj "list" #[] 0)).update s.heap.objs.size (Obj.mapSeq (·++its.toArray))).push (seqObj "list" its.toArray 0)).get? b=some o:=fun b o q=>by
  have dZ:b<s.heap.objs.size:=aP q;rw[d8 _ _ _ (by rw[gZ];exact ba (cV dZ)),kG _ _ _ _ (ba dZ),d8 _ _ _ (ba dZ)];exact q
 show wpAny _ _ _ _ _ { s with heap:=((s.heap.push (seqObj "list" #[] 0)).update s.heap.objs.size (Obj.mapSeq (·++its.toArray))).push (seqObj "list" its.toArray 0) };rw[gZ];have Eg:(((s.heap.push (seqObj "list" #[] 0)).update s.heap.objs.size (Obj.mapSeq (·++its.toArray))).push (seqObj "list" its.toArray 0)).objs.size=s.heap.objs.size+2:=by rw[eL,gZ]
 generalize (((s.heap.push (seqObj "list" #[] 0)).update s.heap.objs.size (Obj.mapSeq (·++its.toArray))).push (seqObj "list" its.toArray 0))=h1 at *;refine aw (gC (wpAny_call_entry_kw slot_list_sort ⟨_,uQ,rfl⟩ entry_list_sort ?body (ksk_l1 _ _)));case body=>
  have ht':=ksk_t1 f (s.heap.objs.size+1);show wpAny (model X.prog X.w) X.A.in1.in1 (Builtin.«list.sort» ⟨[.ref (s.heap.objs.size+1)],[(Str.ofString "key",.ref f)]⟩) _ _ _;rw[ht'];have s1:=o4 h1 (s.heap.objs.size+1) (Obj.mapSeq fun _=>(#[]:Array Value));obtain⟨e1,Fx⟩:∃e1,(h1.update (s.heap.objs.size+1) (Obj.mapSeq fun _=>(#[]:Array Value))).get? (s.heap.objs.size+1)=some (seqObj "list" #[] e1):=⟨_,jL uQ fun _=>#[]⟩
  have hkS:((h1.update (s.heap.objs.size+1) (Obj.mapSeq fun _=>(#[]:Array Value))).push (seqObj "tuple" its.toArray 0)).objs.size=s.heap.objs.size+3:=by rw[eL,d9,Eg]
  unfold ksk_tree;refine aw (listItems_at uQ rfl ?_);refine aw (jc uQ rfl ?_ (by rw[cz,ff];lia) (bE _));refine aw (kX Fx rfl ?_);refine aw (sg ?_ (by show its.length<=_;rw[ff];lia));refine aw (pD ?_ (bE _));refine gC ?_;have Tz:∀b o,s.heap.get? b=some o->(((h1.update (s.heap.objs.size+1) (Obj.mapSeq fun _=>(#[]:Array Value))).push (seqObj "tuple" its.toArray 0)).push (seqObj "list" #[] 0)).get? b=some o:=fun b o e=>
   bw _ (bw _ ((s1.2 b (ba (cV (aP e)))).trans (keep b o e)))
  have I2:aS X af σ H { s with heap:=((h1.update (s.heap.objs.size+1) (Obj.mapSeq fun _=>(#[]:Array Value))).push (seqObj "tuple" its.toArray 0)).push (seqObj "list" #[] 0) }:=I.kept (t':=s.toks) Tz;refine Hu hr S (hb f c) I2 hf hc rv Js Ou Ku (I.wo (by lia) (I.ce.fresh (by lia))) (I.wo (b:=((h1.update (s.heap.objs.size+1) (Obj.mapSeq fun _=>(#[]:Array Value))).push (seqObj "tuple" its.toArray 0)).objs.size) (by lia) (I.ce.fresh (by lia))) (by lia) (bw _ (bw _ Fx)) (b_ _ rfl) Ye fun H' s' out sm na o1 o2 J=>⟨_,rfl,?_⟩
  exact wpAny_pure ⟨_,rfl,.ref (s.heap.objs.size+1),_,J,rfl,q _ H' out sm na o1 o2⟩
end L2
namespace qx
open PySem L2
def top(i:Nat):Stmt:=PySem.Challenge.pw_neverwait_k36_whole_the_first_comes_near.main.body.getD i (.Pass ⟨0,0,0,0⟩)
abbrev BH:Stmt:=top 7
abbrev w5:Stmt:=top 8
abbrev BI:Stmt:=top 9
abbrev Ox:Stmt:=top 11
structure Bl(mg:Str->Option Value):Prop where
 MN:mg "isinstance"=none
 int:mg "int"=none
 bool:mg "bool"=none
 tup:mg "tuple"=none
 lst:mg "list"=none
 str:mg "str"=none
 set:mg "set"=none
 len:mg "len"=none
 range:mg "range"=none
 sorted:mg "sorted"=none
 any:mg "any"=none
 max:mg "max"=none
 min:mg "min"=none
 abr:mg "ValueError"=none
 all:mg "all"=none
def Hv(K:PySem.W.Frag)(H:Hp)(x:V):Prop:=∃t,Mm K H x t/\(PySem.W.kitOne K t (.type "int")=some false\/(PySem.W.kitOne K t (.type "int")=some true/\PySem.W.kitOne K t (.type "bool")=some true))
theorem yV:PySem.W.kitOne K (.type "int") (.type "int")=some true:=by kernel_rfl
theorem n_:PySem.W.kitOne K (.type "int") (.type "bool")=some false:=by kernel_rfl
inductive Wh (K:PySem.W.Frag) (H:Hp):V->Option Int->Prop where
 |int (i:Int):Wh K H (.int i) (some i)
 |no {x:V} (h:Hv K H x):Wh K H x none
def og(K:PySem.W.Frag):Sp:=fun vs H Q _=>∃x o,vs=[x]/\Wh K H x o/\Q (.bl o.isSome) H
section
variable {P:Program} {w:World} {K:PySem.W.Frag} {mg:Str->Option Value} {base:Heap}
theorem Kw:aR ["thing"] ["thing"] (av BH):=⟨rfl,rfl,rfl,by decide +kernel,rfl,by decide +kernel,by decide +kernel⟩
theorem Hw(F:ig K "is_whole" "is_whole" BH f fd)(B:Bl mg):bA P w K mg base bg 1 f fd ["thing"] (og K):=by
 refine F.ok Kw (fun vs H Q E h=>?_) (fun eY A outer s H vs Q E hr h=>?_)
 .obtain⟨x,o,rfl,_⟩:=h;rfl
 .obtain⟨x,o,rfl,W,k⟩:=h;refine⟨_,au (a_ (pJ (aD iI (by rfl) B.MN qh (aa (pv 0) (aa (jS (v:=.ty "int") rfl B.int PyProof.Rows.boot_int rfl) ag)))
   (sC (Np (aD iI (by rfl) B.MN qh (aa (pv 0) (aa (jS (v:=.ty "bool") rfl B.bool PyProof.Rows.boot_bool rfl) ag))))))),?_⟩
  cases W with
  |int i=>
   refine⟨_,rfl,_,_,_,.type "int",true,rfl,⟨rfl,yV⟩,.of (.int _),true,rfl,?_⟩;exact⟨_,rfl,_,_,_,.type "int",false,rfl,⟨rfl,n_⟩,.of (.int _),false,rfl,k⟩
  |no h=>
   obtain⟨t,ty,h|⟨h1,h2⟩⟩:=h
   .exact⟨_,rfl,_,_,_,t,false,rfl,⟨rfl,h⟩,ty,false,rfl,k⟩
   .refine⟨_,rfl,_,_,_,t,true,rfl,⟨rfl,h1⟩,ty,true,rfl,?_⟩;exact⟨_,rfl,_,_,_,t,true,rfl,⟨rfl,h2⟩,ty,true,rfl,k⟩
def ji(o:Option Int)(lo hi:Int):Bool:=match o with
 |some i=>decide (lo<=i)&&decide (i<=hi)
 |none=>false
def oh(K:PySem.W.Frag):Sp:=fun vs H Q _=>∃x o lo hi,vs=[x,.int lo,.int hi]/\Wh K H x o/\Q (.bl (ji o lo hi)) H
theorem Hy:aR ["thing","least","most"] ["thing","least","most"] (av w5):=⟨rfl,rfl,rfl,by decide +kernel,rfl,by decide +kernel,by decide +kernel⟩
theorem ER(F:ig K "is_whole_within" "is_whole_within" w5 f fd)(W:dL P w K mg base bg 1 "is_whole" ["thing"] (og K)):bA P w K mg base bg 2 f fd ["thing","least","most"] (oh K):=by
 refine F.ok Hy (fun vs H Q E h=>?_) (fun eY A outer s H vs Q E hr h=>?_)
 .obtain⟨x,o,lo,hi,rfl,_⟩:=h;rfl
 .obtain⟨x,o,lo,hi,rfl,wh,k⟩:=h;refine⟨_,au (a_ (pJ (aH W hr aN (aa (pv 0) ag)) (sC (F7 Mh Mh (pv 1) (pv 0) (pv 2))))),?_⟩;refine⟨_,rfl,x,o,rfl,wh,?_⟩;cases wh with
  |no h=>exact⟨false,rfl,k⟩
  |int i=>
   refine⟨true,rfl,_,rfl,_,rfl,_,_,rfl,rfl,_,rfl,?_⟩;show if decide (lo<=i)=true then _ else _
   have k':Q (.bl (decide (lo<=i)&&decide (i<=hi))) H:=k;by_cases h:lo<=i
   .rw[ie h] at k' |-;exact⟨_,rfl,_,_,rfl,rfl,k'⟩
   .rw[gw h] at k' |-;exact k'
def rp(K:PySem.W.Frag):Sp:=fun vs H Q _=>∃x o n,vs=[.int n,x]/\Wh K H x o/\Q (.bl (ji o 0 (n-1))) H
theorem Kx:aR ["many","thing"] ["many","thing"] (av BI):=⟨rfl,rfl,rfl,by decide +kernel,rfl,by decide +kernel,by decide +kernel⟩
theorem Hz(F:ig K "is_house" "is_house" BI f fd)(W:dL P w K mg base bg 2 "is_whole_within" ["thing","least","most"] (oh K)):bA P w K mg base bg 3 f fd ["many","thing"] (rp K):=by
 refine F.ok Kx (fun vs H Q E h=>?_) (fun eY A outer s H vs Q E hr h=>?_)
 .obtain⟨x,o,n,rfl,_⟩:=h;rfl
 .obtain⟨x,o,n,rfl,wh,k⟩:=h;refine⟨_,au (a_ (aH W hr aN (aa (pv 1) (aa az (aa (aY jV (pv 0) az) ag))))),?_⟩;exact⟨_,rfl,_,rfl,_,_,rfl,rfl,x,o,0,n-1,rfl,wh,k⟩
inductive Rw (K:PySem.W.Frag) (H:Hp):V->Option (List V)->Prop where
 |tup {p:Addr} {xs:List V} (h:H p=some (.tup xs)):Rw K H (.ref p) (some xs)
 |no {x:V} {t:Value} (ty:Mm K H x t) (h:PySem.W.kitOne K t (.type "tuple")=some false):Rw K H x none
def TB(o:Option (List V))(m:Int):Bool:=match o with
 |some xs=>decide ((xs.length:Int)=m)
 |none=>false
theorem w9:PySem.W.kitOne K (.type "tuple") (.type "tuple")=some true:=by kernel_rfl
def HB(K:PySem.W.Frag):Sp:=fun vs H Q _=>∃x o m,vs=[x,.int m]/\Rw K H x o/\Q (.bl (TB o m)) H
theorem TC:aR ["thing","length"] ["thing","length"] (av Ox):=⟨rfl,rfl,rfl,by decide +kernel,rfl,by decide +kernel,by decide +kernel⟩
theorem Oy(F:ig K "is_row" "is_row" Ox f fd)(B:Bl mg):bA P w K mg base bg 1 f fd ["thing","length"] (HB K):=by
 refine F.ok TC (fun vs H Q E h=>?_) (fun eY A outer s H vs Q E hr h=>?_)
 .obtain⟨x,o,m,rfl,_⟩:=h;rfl
 .obtain⟨x,o,m,rfl,W,k⟩:=h;refine⟨_,au (a_ (pJ (aD iI (by rfl) B.MN qh (aa (pv 0) (aa (jS (v:=.ty "tuple") rfl B.tup l8 rfl) ag)))
   (sC (qV iF (aD aM (by rfl) B.len dW (aa (pv 0) ag)) (pv 1) (a8 _))))),?_⟩
  cases W with
  |@tup p xs h=>
   refine⟨_,rfl,_,_,_,.type "tuple",true,rfl,⟨rfl,w9⟩,.of (.tup h),true,rfl,?_⟩;refine⟨_,rfl,_,_,rfl,.inr (bP.of h),_,rfl,rfl,?_⟩;have e:decide (V.int ((xs.length:Nat):Int)=V.int m)=decide (((xs.length:Nat):Int)=m):=by simp
   rw[e];exact k
  |no ty h=>exact⟨_,rfl,_,_,_,_,false,rfl,⟨rfl,h⟩,ty,false,rfl,k⟩
end
theorem br(s:aO H H')(hD:H D=none):aO H (upd H' D o):=fun b u e=>by rw[ap (am e hD)];exact s b u e
abbrev IV(ns:List Int):List V:=ns.map V.int
abbrev NV(ns:List Nat):List V:=ns.map fun (x:Nat)=>V.int (x:Int)
theorem Yg(Gy Gn:Hp->Prop)(hy:∀H,Gy H->t D σ H)(hn:∀H,Gn H->u D σ H)(ht:∀Y N:Hp->Prop,(∀H,Gy H->Y H)->(∀H,Gn H->N H)->c σ H fun b H1=>if b=true then Y H1 else N H1):RM c t u D σ H:=ht _ _ hy hn
theorem vy(G:St->Hp->Prop)(hr:∀σ H,G σ H->u D σ H)(ht:∀N:St->Hp->Prop,(∀σ H,G σ H->N σ H)->t { D with nx:=N } σ H):RH t u D σ H:=ht _ hr
abbrev Zs:=List (Addr×(Int×Int))
abbrev oj(u:Int×Int):HO:=.tup [.int u.1,.int u.2]
def zr(zs:Zs):List V:=zs.map fun z=>V.ref z.1
def zp(zs:Zs):List (Int×Int):=zs.map (·.2)
def PO(H:Hp)(zs:Zs):Prop:=∀z∈zs,H z.1=some (oj z.2)
theorem eC:zr (a++b)=zr a++zr b:=cW
theorem eD:zp (a++b)=zp a++zp b:=cW
theorem dB:(zr a).length=a.length:=aT _
theorem bB:(zp a).length=a.length:=aT _
theorem iq:zr a=(a.map (·.1)).map V.ref:=by unfold zr;rw[dk];rfl
theorem tV{zs:Zs}{i:Nat}{x:V}(h:(zr zs)[i]?=some x):∃z,zs[i]?=some z/\x=.ref z.1:=by
 unfold zr at h;rw[bU] at h;cases e:zs[i]? with
 |none=>rw[e] at h;cases h
 |some z=>rw[e] at h;exact⟨z,rfl,(bN h).symm⟩
theorem PO.nil:PO H []:=fun z hz=>(nomatch hz)
theorem PO.same(h:PO H zs)(s:aO H H'):PO H' zs:=fun z hz=>s _ _ (h z hz)
theorem PO.putL(h:PO H zs)(e:H D=some (.lst xs)):PO (upd H D o) zs:=fun z hz=>by
 have:=h z hz;rw[ap (by rintro rfl;rw[e] at this;cases this)];exact this
theorem PO.putN(h:PO H zs)(e:H D=none):PO (upd H D o) zs:=h.same (ai e)
theorem PO.append(h:PO H a)(h':PO H b):PO H (a++b):=fun z hz=>(bX.mp hz).elim (h z) (h' z)
theorem PO.one(h:H p=some (oj u)):PO H [(p,u)]:=fun z hz=>by rw[cu.mp hz];exact h
theorem yW{zs:Zs}{i:Nat}(h:i<zs.length):(zs.map (·.1)).getD i 0=zs[i].1:=by
 rw[bW,bU,bQ h];rfl
theorem Dg(h:i<zs.length):(zp zs).getD i (0,0)=zs[i].2:=by
 unfold zp;rw[bW,bU,bQ h];rfl
theorem ES{H:Hp}{zs:Zs}(ho:PO H zs){as:List Addr}(h:as.Perm (zs.map (·.1))):∃jG:Zs,jG.Perm zs/\as=jG.map (·.1):=by
 classical
 let f:Addr->Int×Int:=fun a=>match H a with
  |some (.tup [.int x,.int y])=>(x,y)
  |_=>(0,0)
 have e:(zs.map (·.1)).map (fun a=>(a,f a))=zs:=by
  rw[dk];conv=>rhs;rw[<-jP zs]
  refine jo fun z hz=>?_;have:=ho z hz;show (z.1,f z.1)=z;have e2:f z.1=z.2:=by
   show (match H z.1 with|some (.tup [.int x,.int y])=>(x,y)|_=>(0,0))=z.2;rw[this]
  rw[e2]
 refine⟨as.map fun a=>(a,f a),?_,?_⟩
 .have:=h.map (fun a=>(a,f a));rw[e] at this;exact this
 .rw[dk];exact(jP as).symm
abbrev Ord(us:List (Int×Int)):Prop:=us=us
theorem Ky{K:PySem.W.Frag}{H:Hp}{l:Addr}{zs:Zs}{Q:VK}(hl:H l=some (.lst (zr zs)))(ho:PO H zs)(hz:zs.length<=4096)(hb:∀u∈zp zs,0<=u.2/\u.2<64)(q:∀ (D:Addr) (jG:Zs),H D=none->jG.Perm zs->Ord (zp jG)->Q (.ref D) (upd H D (.lst (zr jG)))):GX K [.ref l] H Q:=by
 refine⟨l,zs.map (·.1),rfl,aW.of (by rw[<-iq];exact hl),fun a ha=>?_,by rw[aT];exact hz,fun D lZ hD hp=>?_⟩
 .obtain⟨z,hz,rfl⟩:=bj.mp ha;exact⟨_,_,bP.of (ho z hz)⟩
 .obtain⟨jG,h1,rfl⟩:=ES ho hp;rw[<-iq];exact q D jG hD h1 rfl
theorem yX(F:Nat->Int×Int)(cA:St->Prop)(hD:H0 D=none)(hn:n<=100000)(h0:cA σB)(hs:∀i σ H (R:V->St->Hp->Prop) (Kf:St->Hp->Prop),i<n->cA σ->aO H0 H->(∀σ2 p,cA σ2->H p=none->R (.ref p) σ2 (upd H p (oj (F i))))->g (.int (lo+i)) σ H fun σ2 H2=>tt σ2 H2 fun b H3=>if b=true then te σ2 H3 fun v H4=>R v σ2 H4 else Kf σ2 H3)(hd:∀zs H,aO H0 H->H D=some (.lst (zr zs))->PO H zs->zp zs=(List.range n).map F->(∀z∈zs,H0 z.1=none)->dQ H):ii (Fl lo n) g tt te D dQ σB (upd H0 D (.lst [])):=by
 refine eR (fun i ys σ H=>cA σ/\aO H0 H/\H D=some (.lst ys)/\∃zs:Zs,ys=zr zs/\PO H zs/\zp zs=(List.range i).map F/\∀z∈zs,H0 z.1=none) ⟨h0,ai hD,ae,[],rfl,PO.nil,rfl,fun z hz=>nomatch hz⟩ ?_ ?_
 .rintro i ys σ H Kt Kf hi ⟨sh,sm,jB,zs,rfl,po,ep,fr⟩ kt kf;have hl:zs.length=i:=by rw[<-bB,ep,aT,cG]
  refine hs i σ H Kt Kf hi sh sm (fun σ2 p w_ hp=>?_)
  .have nD:D≠p:=am jB hp;refine kt _ _ _ (by rw[ap nD];exact jB) (by rw[dB,hl];exact bi hi (aX hn (by decide))) ⟨w_,br (sm.trans (ai hp)) hD,ae,zs++[(p,F i)],?_,?_,?_,?_⟩
   .rw[eC];rfl
   .refine PO.putL (xs:=zr zs) ?_ (by rw[ap nD];exact jB);exact(po.putN hp).append (PO.one ae)
   .rw[eD,ep,jr,cW];rfl
   .intro z hz;rcases bX.mp hz with z'|z'
    .exact fr z z'
    .rw[cu.mp z'];exact sm.free hp
 .rintro ys σ H ⟨_,sm,jB,zs,rfl,po,ep,fr⟩;exact hd zs H sm jB po ep fr
theorem tW{K:PySem.W.Frag}{a D:Addr}{BJ:Zs}{g:TG}{tt:TT}{te:TE}{dQ:Hp->Prop}{σB:St}{H0:Hp}(F:Int×Int->Int×Int)(cA:St->Prop)(ha:H0 a=some (.lst (zr BJ)))(QW:PO H0 BJ)(hD:H0 D=none)(hn:BJ.length<=100000)(h0:cA σB)(hs:∀z σ H (R:V->St->Hp->Prop) (Kf:St->Hp->Prop),z∈BJ->cA σ->aO H0 H->H z.1=some (oj z.2)->(∀σ2 p,cA σ2->H p=none->R (.ref p) σ2 (upd H p (oj (F z.2))))->g (.ref z.1) σ H fun σ2 H2=>tt σ2 H2 fun b H3=>if b=true then te σ2 H3 fun v H4=>R v σ2 H4 else Kf σ2 H3)(hd:∀zs H,aO H0 H->H D=some (.lst (zr zs))->PO H zs->zp zs=(zp BJ).map F->(∀z∈zs,H0 z.1=none)->dQ H):ii (FZ K a) g tt te D dQ σB (upd H0 D (.lst [])):=by
 refine eZ (xs:=zr BJ) (fun i ys σ H=>cA σ/\aO H0 H/\H D=some (.lst ys)/\∃zs:Zs,ys=zr zs/\PO H zs/\zp zs=((zp BJ).take i).map F/\∀z∈zs,H0 z.1=none) ⟨h0,ai hD,ae,[],rfl,PO.nil,rfl,fun z hz=>nomatch hz⟩ (fun i ys σ H _ z=>aW.of (z.2.1 _ _ ha)) ?_ ?_
 .rintro i x ys σ H Kt Kf hx ⟨sh,sm,jB,zs,rfl,po,ep,fr⟩ kt kf;obtain⟨z,hz,rfl⟩:=tV hx;have hi:i<BJ.length:=(b9.mp hz).1;have MP:z∈BJ:=cU hz;have hl:zs.length=i:=by rw[<-bB,ep,aT,mv,bB];lia
  refine hs z σ H Kt Kf MP sh sm (sm _ _ (QW z MP)) (fun σ2 p w_ hp=>?_)
  .have nD:D≠p:=am jB hp;refine kt _ _ _ (by rw[ap nD];exact jB) (by rw[dB,hl];exact bi hi (aX hn (by decide))) ⟨w_,br (sm.trans (ai hp)) hD,ae,zs++[(p,F z.2)],?_,?_,?_,?_⟩
   .rw[eC];rfl
   .refine PO.putL (xs:=zr zs) ?_ (by rw[ap nD];exact jB);exact(po.putN hp).append (PO.one ae)
   .have e2:(zp BJ)[i]?=some z.2:=by unfold zp;rw[bU,hz];rfl
    rw[eD,ep,gX,e2,Al,cW];rfl
   .intro z hz;rcases bX.mp hz with z'|z'
    .exact fr z z'
    .rw[cu.mp z'];exact sm.free hp
 .rintro ys σ H ⟨_,sm,jB,zs,rfl,po,ep,fr⟩;rw[dB,<-bB,j9] at ep;exact hd zs H sm jB po ep fr
theorem BK{H:Hp}{zs:Zs}(ho:PO H zs):∃g:Addr->Int×Int,(∀z∈zs,g z.1=z.2)/\∀ {as:List Addr},as.Perm (zs.map (·.1))->∃jG:Zs,jG.Perm zs/\as=jG.map (·.1):=by
 classical
 let f:Addr->Int×Int:=fun a=>match H a with
  |some (.tup [.int x,.int y])=>(x,y)
  |_=>(0,0)
 have e2:∀z∈zs,f z.1=z.2:=fun z hz=>by
  show (match H z.1 with|some (.tup [.int x,.int y])=>(x,y)|_=>(0,0))=z.2;rw[ho z hz]
 have e:(zs.map (·.1)).map (fun a=>(a,f a))=zs:=by
  rw[dk];conv=>rhs;rw[<-jP zs]
  refine jo fun z hz=>?_;show (z.1,f z.1)=z;rw[e2 z hz]
 refine⟨f,e2,fun {as} h=>⟨as.map fun a=>(a,f a),?_,?_⟩⟩
 .have:=h.map (fun a=>(a,f a));rw[e] at this;exact this
 .rw[dk];exact(jP as).symm
abbrev Oz(us:List (Int×Int)):Prop:=us.Pairwise fun u v=>pk u<=pk v
theorem HC{K:PySem.W.Frag}{H:Hp}{l:Addr}{zs:Zs}{Q:VK}(hl:H l=some (.lst (zr zs)))(ho:PO H zs)(hz:zs.length<64)(hb:∀u∈zp zs,0<=u.2/\u.2<64)(up:(zp zs).Pairwise fun u v=>u.2<v.2)(q:∀ (D:Addr) (jG:Zs),H D=none->jG.Perm zs->Oz (zp jG)->Q (.ref D) (upd H D (.lst (zr jG)))):G0 K [.ref l] H Q:=by
 obtain⟨g,hg,Yh⟩:=BK ho;refine⟨l,zs.map (·.1),g,rfl,aW.of (by rw[<-iq];exact hl),fun a ha=>?_,by rw[aT];exact hz,?_,fun D lZ hD hp so=>?_⟩
 .obtain⟨z,hz,rfl⟩:=bj.mp ha;rw[hg z hz];exact⟨bP.of (ho z hz),hb _ (bj.mpr ⟨z,hz,rfl⟩)⟩
 .refine fu.mpr ((fu.mp up).imp_of_mem fun {a b} ha hb h=>?_);rw[hg a ha,hg b hb];exact h
 .obtain⟨jG,h1,rfl⟩:=Yh hp;rw[<-iq];refine q D jG hD h1 ?_;unfold zp Oz;rw[fu] at so |-;refine so.imp_of_mem fun {a b} ha hb h=>?_;rw[hg a (h1.mem_iff.mp ha),hg b (h1.mem_iff.mp hb)] at h;exact h
open jy
abbrev Dh:Stmt:=fA (top 31) 0
abbrev OA:Stmt:=fA (top 31) 3
abbrev OB:Stmt:=fA (top 31) 4
abbrev HD:Stmt:=fA (top 31) 6
abbrev BL:Stmt:=fA (top 31) 8
theorem n12:¬ (("house_count":Str)="tie_list"):=by decide +kernel
theorem n13:¬ (("house_count":Str)="out_lists"):=by decide +kernel
theorem n14:¬ (("house_count":Str)="distances"):=by decide +kernel
theorem n34:¬ (("out_lists":Str)="distances"):=by decide +kernel
def p_(n:Int)(tl ol ds:Addr):List (Str×V):=d_ "distances" (.ref ds) (d_ "out_lists" (.ref ol) (d_ "tie_list" (.ref tl) (d_ "house_count" (.int n) [])))
theorem Kz(n:Int)(tl ol ds:Addr):(p_ n tl ol ds).lookup ("house_count":Str)=some (.int n):=by
 unfold p_;rw[bu,ak n14,bu,ak n13,bu,ak n12,bu,ao rfl]
theorem rA(n:Int)(tl ol ds:Addr){m:Str}(h1:¬ m="house_count")(h2:¬ m="tie_list")(h3:¬ m="out_lists")(h4:¬ m="distances"):(p_ n tl ol ds).lookup m=none:=by
 unfold p_;rw[bu,ak h4,bu,ak h3,bu,ak h2,bu,ak h1];all_goals rfl
theorem Di(n:Int)(tl ol ds:Addr):(p_ n tl ol ds).lookup ("out_lists":Str)=some (.ref ol):=by
 unfold p_;rw[bu,ak n34,bu,ao rfl]
theorem Dj(n:Int)(tl ol ds:Addr):(p_ n tl ol ds).lookup ("distances":Str)=some (.ref ds):=by
 unfold p_;rw[bu,ao rfl]
def bV(H:Hp)(L:Addr->Prop)(l:Addr)(n:Nat)(r:Nat->List Nat):Prop:=∃bs:List Addr,H l=some (.lst (bs.map V.ref))/\(∀b∈bs,L b)/\Holds H bs n (fun h=>.lst (NV (r h)))
theorem bV.keep(R:bV H L l n r)(hl:L l)(k:∀b o,L b->H b=some o->H' b=some o):bV H' L l n r:=
 let ⟨bs,a,b,c⟩:=R
 ⟨bs,k _ _ hl a,b,c.mono fun j hj e=>k _ _ (b _ (by rw[bW,bQ (by rw[c.1];exact hj)];exact gv _)) e⟩
theorem bV.row(R:bV H L l n r)(hh:h<n):∃ (bs:List Addr) (b:Addr),H l=some (.lst (bs.map V.ref))/\(bs.map V.ref)[h]?=some (V.ref b)/\H b=some (.lst (NV (r h)))/\L b:=by
 obtain⟨bs,a,b,c⟩:=R;have hl:h<bs.length:=by rw[c.1];exact hh
 refine⟨bs,bs[h],a,by rw[bU,bQ hl];rfl,?_,b _ (gv _)⟩;have:=c.2 h hh;rw[bW,bQ hl] at this;exact this
def KA(H:Hp)(L:Addr->Prop)(tl:Addr)(ts:Ts):Prop:=L tl/\∃zs:Zs,H tl=some (.lst (zr zs))/\PO H zs/\(∀z∈zs,L z.1)/\(zp zs).Perm ts/\Ord (zp zs)
theorem KA.keep(h:KA H L tl ts)(k:∀b o,L b->H b=some o->H' b=some o):KA H' L tl ts:=
 let ⟨a,zs,b,c,d,e⟩:=h;⟨a,zs,k _ _ a b,fun z hz=>k _ _ (d z hz) (c z hz),d,e⟩
structure dw(C:Addr)(H:Hp)(L:Addr->Prop)(p:Addr)(n:Nat)(ts:Ts):Prop where
 j4:bK n ts
 ob:∃dx tl ol ds,H p=some (.ins C dx (p_ n tl ol ds))/\L ol/\L ds/\bV H L ol n (bq n ts)/\bV H L ds n (fun h=>(List.range n).map (far ts h))/\KA H L tl ts
theorem dw.keep(N:dw C H L p n ts)(k:∀b o,L b->H b=some o->H' b=some o)(kp:∀o,H p=some o->H' p=some o):dw C H' L p n ts:=
 let ⟨dx,tl,ol,ds,a,l1,l2,b,c,d⟩:=N.ob
 ⟨N.j4,dx,tl,ol,ds,kp _ a,l1,l2,b.keep l1 k,c.keep l2 k,d.keep k⟩
theorem dw.same(N:dw C H L p n ts)(s:aO H H'):dw C H' L p n ts:=N.keep (fun b o _ e=>s b o e) (fun o e=>s _ o e)
structure NT(K:PySem.W.Frag)(mg:Str->Option Value)(C:Addr):Prop where
 cl:Fm K C
 nH:iG K C "house_count"
 nT:iG K C "tie_list"
 nO:iG K C "out_lists"
 nD:iG K C "distances"
 Ju:mg "Net"=some (.ref C)
structure iL(P:Program)(w:World)(K:PySem.W.Frag)(mg:Str->Option Value)(base:Heap)(CX:zN)(k:Nat)(C:Addr)(x:Str)(ps:List Str)(sp:Sp):Prop where
 ex:∃f fd,NG K C x f/\j_ K fd ps []/\bA P w K mg base CX k f fd ps sp
section
variable {P:Program} {w:World} {K:PySem.W.Frag} {mg:Str->Option Value} {base:Heap}
theorem KB:aR ["self","thing"] ["self","thing"] (av BL):=⟨rfl,rfl,rfl,by decide +kernel,rfl,by decide +kernel,by decide +kernel⟩
theorem ET{i n:Nat}(h:i<n):ji (some (i:Int)) 0 ((n:Int)-1)=true:=by unfold ji;simp;lia
def om(C:Addr):Sp:=fun vs H Q _=>∃ (L:Addr->Prop) (p:Addr) (n:Nat) (ts:Ts) (i:Nat),vs=[.ref p,.int i]/\dw C H L p n ts/\i<n/\Q .cB H
theorem EU{f C:Addr}{fd:FuncData}(F:ig K "check_house" "Net.check_house" BL f fd)(T:NT K mg C)(HH:dL P w K mg base bg 3 "is_house" ["many","thing"] (rp K)):
  bA P w K mg base bg 4 f fd ["self","thing"] (om C):=by
 refine F.ok KB (fun vs H Q E h=>?_) (fun eY A outer s H vs Q E hr h=>?_)
 .obtain⟨L,p,n,ts,i,rfl,_⟩:=h;rfl
 .obtain⟨L,p,n,ts,i,rfl,N,hi,k⟩:=h;obtain⟨dx,tl,ol,ds,h1,_⟩:=N.ob;refine⟨_,au (cC (k6 (iD (aH HH hr aN (aa (jX (pv 0) rfl) (aa (pv 1) ag))))) eA bh),?_⟩;refine⟨_,rfl,p,C,dx,_,_,rfl,h1,T.cl,T.nH,Kz _ _ _ _,_,rfl,_,some (i:Int),n,rfl,.int _,_,rfl,?_⟩;rw[ET hi];exact iH k
theorem OC(n:Int)(tl ol ds:Addr):(p_ n tl ol ds).lookup ("check_house":Str)=none:=rA n tl ol ds (by decide +kernel) (by decide +kernel) (by decide +kernel) (by decide +kernel)
theorem OE(n:Int)(tl ol ds:Addr):(p_ n tl ol ds).lookup ("far":Str)=none:=rA n tl ol ds (by decide +kernel) (by decide +kernel) (by decide +kernel) (by decide +kernel)
theorem be:(NV xs).length=xs.length:=aT _
theorem TD:aR ["self","house"] ["self","house"] (av OA):=⟨rfl,rfl,rfl,by decide +kernel,rfl,by decide +kernel,by decide +kernel⟩
def xa(C:Addr):Sp:=fun vs H Q _=>∃ (L:Addr->Prop) (p:Addr) (n:Nat) (ts:Ts) (i:Nat),vs=[.ref p,.int i]/\dw C H L p n ts/\i<n/\∀r H',aO H H'->H r=none->H' r=some (.lst (NV (bq n ts i)))->Q (.ref r) H'
theorem KC(F:ig K "out" "Net.out" OA f fd)(T:NT K mg C)(B:Bl mg)(M:iL P w K mg base bg 4 C "check_house" ["self","thing"] (om C)):
  bA P w K mg base bg 5 f fd ["self","house"] (xa C):=by
 obtain⟨fM,fdM,mM,bM,GM⟩:=M.ex;refine F.ok TD (fun vs H Q E h=>?_) (fun eY A outer s H vs Q E hr h=>?_)
 .obtain⟨L,p,n,ts,i,rfl,_⟩:=h;rfl
 .obtain⟨L,p,n,ts,i,rfl,N,hi,k2⟩:=h;obtain⟨dx,tl,ol,ds,h1,_,_,R,_⟩:=N.ob;refine⟨_,aj (bY (dG (pv 0) T.cl mM GM hr bM .nil aN (aa (pv 1) ag)))
   (au (a_ (cJ wA (by rfl) B.lst oM (aa (aV aL (jX (pv 0) rfl) (pv 1) (fun _ _=>rfl)) ag)))),?_⟩
  refine⟨_,rfl,p,dx,_,rfl,h1,OC _ _ _ _,_,rfl,L,p,n,ts,i,rfl,N,hi,?_⟩;obtain⟨bs,b,r1,r2,r3,_⟩:=R.row hi;exact⟨_,rfl,p,C,dx,_,_,rfl,h1,T.cl,T.nO,Di _ _ _ _,_,rfl,ol,_,_,_,rfl,rfl,aW.of r1,aB r2,b,_,rfl,.inl (aW.of r3),fun l hl=>k2 l _ (ai hl) hl ae⟩
theorem TF:aR ["self","one","other"] ["self","one","other"] (av OB):=⟨rfl,rfl,rfl,by decide +kernel,rfl,by decide +kernel,by decide +kernel⟩
def mT(C:Addr):Sp:=fun vs H Q _=>∃ (L:Addr->Prop) (p:Addr) (n:Nat) (ts:Ts) (i j:Nat),vs=[.ref p,.int i,.int j]/\dw C H L p n ts/\i<n/\j<n/\Q (.int (far ts i j:Nat)) H
theorem KD(F:ig K "far" "Net.far" OB f fd)(T:NT K mg C)(M:iL P w K mg base bg 4 C "check_house" ["self","thing"] (om C)):
  bA P w K mg base bg 5 f fd ["self","one","other"] (mT C):=by
 obtain⟨fM,fdM,mM,bM,GM⟩:=M.ex;refine F.ok TF (fun vs H Q E h=>?_) (fun eY A outer s H vs Q E hr h=>?_)
 .obtain⟨L,p,n,ts,i,j,rfl,_⟩:=h;rfl
 .obtain⟨L,p,n,ts,i,j,rfl,N,hi,hj,k⟩:=h;obtain⟨dx,tl,ol,ds,h1,_,_,_,R,_⟩:=N.ob;refine⟨_,aj (bY (dG (pv 0) T.cl mM GM hr bM .nil aN (aa (pv 1) ag)))
   (aj (bY (dG (pv 0) T.cl mM GM hr bM .nil aN (aa (pv 2) ag)))
   (au (a_ (aV aL (aV aL (jX (pv 0) rfl) (pv 1) (fun _ _=>rfl)) (pv 2) (fun _ _=>rfl))))),?_⟩
  refine⟨_,rfl,p,dx,_,rfl,h1,OC _ _ _ _,_,rfl,L,p,n,ts,i,rfl,N,hi,?_⟩;refine⟨_,rfl,p,dx,_,rfl,h1,OC _ _ _ _,_,rfl,L,p,n,ts,j,rfl,N,hj,?_⟩;obtain⟨bs,b,r1,r2,r3,_⟩:=R.row hi;have hg:(NV ((List.range n).map (far ts i)))[j]?=some (.int (far ts i j:Nat)):=by
   rw[bU,bU,fQ hj];rfl
  exact⟨_,rfl,p,C,dx,_,_,rfl,h1,T.cl,T.nD,Dj _ _ _ _,_,rfl,ds,_,_,_,rfl,rfl,aW.of r1,aB r2,_,rfl,b,_,_,_,rfl,rfl,aW.of r3,aB hg,k⟩
end
open PySem L2 jy
abbrev BM:Stmt:=top 32
abbrev OF:Stmt:=top 33
abbrev OG:Stmt:=top 34
section
variable {P:Program} {w:World} {K:PySem.W.Frag} {mg:Str->Option Value} {base:Heap}
abbrev OH:Stmt:=top 10
theorem TH:aR ["many","one","other"] ["many","one","other"] (av OH):=⟨rfl,rfl,rfl,by decide +kernel,rfl,by decide +kernel,by decide +kernel⟩
def HF:Sp:=fun vs H Q _=>∃ (n a b:Int),vs=[.int n,.int a,.int b]/\0<=a/\a<n/\0<=b/\b<n/\a≠b/\Q (.bl true) H
theorem OI(F:ig K "are_unlike_houses" "are_unlike_houses" OH f fd)(HH:dL P w K mg base bg 3 "is_house" ["many","thing"] (rp K)):
  bA P w K mg base bg 4 f fd ["many","one","other"] HF:=by
 refine F.ok TH (fun vs H Q E h=>?_) (fun eY A outer s H vs Q E hr h=>?_)
 .obtain⟨n,a,b,rfl,_⟩:=h;rfl
 .obtain⟨n,a,b,rfl,a1,a2,b1,b2,lS,k⟩:=h;refine⟨_,au (a_ (pJ (aH HH hr aN (aa (pv 0) (aa (pv 1) ag))) (pJ (aH HH hr aN (aa (pv 0) (aa (pv 2) ag))) (sC (qV uS (pv 1) (pv 2) (a8 _)))))),?_⟩;refine⟨_,rfl,_,rfl,_,_,n,rfl,.int a,_,rfl,?_⟩;rw[ao (show ji (some a) 0 (n-1)=true by unfold ji;simp;lia)];refine⟨_,rfl,_,rfl,_,_,n,rfl,.int b,_,rfl,?_⟩;rw[ao (show ji (some b) 0 (n-1)=true by unfold ji;simp;lia)];refine⟨_,rfl,_,rfl,rfl,?_⟩;have e:(!decide (V.int a=V.int b))=true:=by simp[lS]
  rw[e];exact k
theorem TJ:aR ["many","thing"] ["many","thing"] (av OF):=⟨rfl,rfl,rfl,by decide +kernel,rfl,by decide +kernel,by decide +kernel⟩
def HG:Sp:=fun vs H Q _=>∃ (n:Int) (p:Addr) (a b:Int),vs=[.int n,.ref p]/\H p=some (.tup [.int a,.int b])/\0<=a/\a<n/\0<=b/\b<n/\a≠b/\Q (.bl true) H
theorem OJ(F:ig K "is_tie" "is_tie" OF f fd)(R:dL P w K mg base bg 1 "is_row" ["thing","length"] (HB K))(U:dL P w K mg base bg 4 "are_unlike_houses" ["many","one","other"] HF):
  bA P w K mg base bg 5 f fd ["many","thing"] HG:=by
 refine F.ok TJ (fun vs H Q E h=>?_) (fun eY A outer s H vs Q E hr h=>?_)
 .obtain⟨n,p,a,b,rfl,_⟩:=h;rfl
 .obtain⟨n,p,a,b,rfl,hp,a1,a2,b1,b2,lS,k⟩:=h;refine⟨_,au (a_ (pJ (aH R (hr.mono (by decide)) aN (aa (pv 1) (aa az ag)))
   (sC (aH U hr aN (aa (pv 0) (aa (aV eE (pv 1) az (fun _ _=>rfl)) (aa (aV eE (pv 1) az (fun _ _=>rfl)) ag))))))),?_⟩
  refine⟨_,rfl,_,_,_,rfl,.tup hp,true,rfl,?_⟩;exact⟨_,rfl,_,rfl,p,_,_,_,rfl,rfl,bP.of hp,aB (j:=0) rfl,_,rfl,p,_,_,_,rfl,rfl,bP.of hp,aB (j:=1) rfl,n,a,b,rfl,a1,a2,b1,b2,lS,k⟩
theorem Dk:aR ["many","ties","tie"] ["many","ties"] (av BM):=⟨rfl,rfl,rfl,by decide +kernel,rfl,by decide +kernel,by decide +kernel⟩
theorem HI:PySem.W.kitOne K (.type "list") (.type "list")=some true:=by kernel_rfl
structure h_(H:Hp)(l:Addr)(n:Nat)(zs:Zs):Prop where
 j4:bK n (zp zs)
 at_:H l=some (.lst (zr zs))
 po:PO H zs
theorem h_.same(h:h_ H l n zs)(s:aO H H'):h_ H' l n zs:=⟨h.j4,s _ _ h.at_,h.po.same s⟩
def lO:Sp:=fun vs H Q _=>∃ (n:Nat) (l:Addr) (zs:Zs),vs=[.int n,.ref l]/\h_ H l n zs/\∀H',aO H H'->Q .cB H'
theorem HJ(F:ig K "check_ties" "check_ties" BM f fd)(B:Bl mg)(gF:∃t,mg "FEWEST_HOUSES"=some (.int 2 t))(gM:∃t,mg "MOST_HOUSES"=some (.int 32 t))(W:dL P w K mg base bg 2 "is_whole_within" ["thing","least","most"] (oh K))(T:dL P w K mg base bg 5 "is_tie" ["many","thing"] HG):
  bA P w K mg base bg 6 f fd ["many","ties"] lO:=by
 obtain⟨tF,gF⟩:=gF;obtain⟨tM,gM⟩:=gM;refine F.ok Dk (fun vs H Q E h=>?_) (fun eY A outer s H vs Q E hr h=>?_)
 .obtain⟨n,l,zs,rfl,_⟩:=h;rfl
 .refine⟨_,aj (cC (k6 (iD (aH W (hr.mono (by decide)) aN (aa (pv 0) (aa (qT (v:=.int 2) rfl gF ⟨_,rfl⟩) (aa (qT (v:=.int 32) rfl gM ⟨_,rfl⟩) ag)))))) eA bh)
   (aj (cC (k6 (iD (aD iI (by rfl) B.MN qh (aa (pv 1) (aa (jS (v:=.ty "list") rfl B.lst oM rfl) ag))))) eA bh)
   (aj (cP dU rfl (bT (pv 1)) (aA (i:=2) Dk.nd rfl (Or.inl rfl)) (au (cC (k6 (iD (aH T hr aN (aa (pv 0) (aa (pv 2) ag))))) eA bh)))
   (au (cC (aQ uS (aD yt (by rfl) B.len dW (aa (cJ (Eo rfl (by have:=hr.un;show (A.deeper _).units+8<_;lia)) (by rfl) B.set PyProof.Rows.boot_set (aa (pv 1) ag)) ag)) (aD aM (by rfl) B.len dW (aa (pv 1) ag)) (a8 _)) eA bh)))),?_⟩
  obtain⟨n,l,zs,rfl,tt,k⟩:=h;obtain⟨fi,hl,po⟩:=id tt;have n1:=fi.n1;have n2:=fi.n2;refine⟨_,rfl,_,_,2,32,rfl,.int n,_,rfl,?_⟩;rw[show ji (some (n:Int)) 2 32=true by unfold ji;simp;lia];refine iH ?_;refine⟨_,rfl,_,_,_,.type "list",true,rfl,⟨rfl,HI⟩,.of (.lst hl),_,rfl,iH ?_⟩;refine⟨_,rfl,l,rfl,⟨_,aW.of hl⟩,fY (K:=K) (a:=l) (xs:=zr zs) (fun i σ H2=>H2=H/\∃v,σ=[some (.int n),some (.ref l),v]) ⟨rfl,none,rfl⟩ (fun i σ H2 _ ⟨e,_⟩=>by rw[e];exact aW.of hl) ?_ ?_⟩
  .rintro i x σ H2 hx ⟨rfl,v,rfl⟩;obtain⟨z,hz,rfl⟩:=tV hx;have MP:z∈zs:=cU hz;have hzp:z.2∈zp zs:=bj.mpr ⟨z,MP,rfl⟩;have r:=fi.rg _ hzp;exact⟨_,rfl,_,rfl,n,_,_,_,rfl,po z MP,r.1.1,r.1.2,r.2.1,r.2.2,fi.ne _ hzp,_,rfl,iH ⟨rfl,_,rfl⟩⟩
  .rintro σ H2 ⟨rfl,v,rfl⟩;have eJ:(zp zs).length<=256:=fi.len;refine⟨_,rfl,l,zs.map (·.1),zp zs,rfl,aW.of (by rw[<-iq];exact hl),by rw[aT,bB],fun i hi=>?_,fi.nd,fun y hy=>?_,by lia,fun D hD=>?_⟩
   .rw[bB] at hi;rw[yW hi,Dg hi];exact bP.of (po _ (gv hi))
   .have r:=fi.rg _ hy;lia
   .have nl:l≠D:=am hl hD;refine⟨D,_,rfl,ae,by lia,_,rfl,l,zr zs,rfl,.inl (aW.of (by rw[ap nl];exact hl)),rfl,_,rfl,?_⟩;have ez:(!decide (V.int (((zp zs).length:Nat):Int)=V.int (((zr zs).length:Nat):Int)))=false:=by rw[bB,dB];simp
    rw[ez];exact iH (k _ (ai hD))
end
abbrev yY:Stmt:=top 35
section
variable {P:Program} {w:World} {K:PySem.W.Frag} {mg:Str->Option Value} {base:Heap}
theorem qa(S:St->Prop)(p q:Int×Int->Int)(h:Int)(hD:H D=none)(hl:H l=some (.lst (zr zs)))(po:PO H zs)(hn:zs.length<=1000)(s0:S σB)(hg:∀z σ H2 (Kt:V->St->Hp->Prop) (Kf:St->Hp->Prop),z∈zs->S σ->H2 z.1=some (oj z.2)->(∀σ2,S σ2->p z.2=h->Kt (.int (q z.2)) σ2 H2)->(∀σ2,S σ2->p z.2≠h->Kf σ2 H2)->
   g (.ref z.1) σ H2 fun σ2 H2=>tt σ2 H2 fun b H3=>if b=true then te σ2 H3 fun v H4=>Kt v σ2 H4 else Kf σ2 H3)(hd:dQ (upd H D (.lst (IV (((zp zs).filter fun y=>decide (p y=h)).map q))))):ii (FZ K l) g tt te D dQ σB (upd H D (.lst [])):=by
 have nl:l≠D:=am hl hD;have tk:∀ {i:Nat} {z:Addr×(Int×Int)},zs[i]?=some z->(zp zs).take (i+1)=(zp zs).take i++[z.2]:=fun {i z} hz=>by
  rw[gX,show (zp zs)[i]?=some z.2 by unfold zp;rw[bU,hz];rfl];rfl
 refine eZ (xs:=zr zs) (fun i ys σ H2=>S σ/\ys=IV ((((zp zs).take i).filter fun y=>decide (p y=h)).map q)/\H2=upd H D (.lst ys)) ⟨s0,by simp,rfl⟩ (fun i ys σ H2 _ ⟨_,_,e⟩=>by rw[e];exact aW.of (by rw[ap nl];exact hl)) ?_ ?_
 .rintro i x ys σ H2 Kt Kf hx ⟨hS,ey,rfl⟩ kt kf;obtain⟨z,hz,rfl⟩:=tV hx;have MP:z∈zs:=cU hz;have hp:=po z MP;have na:z.1≠D:=am hp hD;have hi:i<zs.length:=(b9.mp hz).1;refine hg z σ _ Kt Kf MP hS (by rw[ap na];exact hp) (fun σ2 s2 e=>?_) (fun σ2 s2 e=>?_)
  .refine kt _ _ _ ae ?_ ⟨s2,?_,?_⟩
   .rw[ey,aT,aT];exact eK (ix _ _) (eK (vU _ _) (bi (show i<1000 by lia) (by decide)))
   .rw[ey,tk hz,gn,cW];have:decide (p z.2=h)=true:=by simp[e]
    simp[dS,this]
   .rw[lI]
  .refine kf _ _ ⟨s2,?_,rfl⟩;have:decide (p z.2=h)=false:=by simp[e]
   rw[ey,tk hz,gn];simp[dS,this]
 .rintro ys σ H2 ⟨_,ey,rfl⟩;rw[dB,<-bB,j9] at ey;rw[ey];exact hd
theorem QX:(["one","other","house"]:List Str).Nodup:=by decide +kernel
theorem Dl:aR ["many","ties","house","leading_out","leading_in"] ["many","ties"] (av OG):=⟨rfl,rfl,rfl,by decide +kernel,rfl,by decide +kernel,by decide +kernel⟩
theorem OK(F:ig K "check_balance" "check_balance" OG f fd)(B:Bl mg)(gM:∃t,mg "MOST_TIES_OUT"=some (.int 8 t)):
  bA P w K mg base bg 1 f fd ["many","ties"] lO:=by
 obtain⟨tM,gM⟩:=gM;refine F.ok Dl (fun vs H Q E h=>?_) (fun eY A outer s H vs Q E hr h=>?_)
 .obtain⟨n,l,zs,rfl,_⟩:=h;rfl
 .obtain⟨n,l,zs,rfl,T,k⟩:=h;have fi:=T.j4;have n1:=fi.n1;have n2:=fi.n2;have eJ:zs.length<=256:=by have:=fi.len;rw[bB] at this;exact this
  refine'⟨_,au (cP dU rfl (bz rfl B.range (aa (pv 0) ag)) (aA (i:=2) Dl.nd rfl (Or.inr rfl))
   (aj (aU (i:=3) Dl.nd rfl (Or.inl rfl) (aD aM (by rfl) B.len dW (aa ?c1 ag)))
   (aj (aU (i:=4) Dl.nd rfl (Or.inl rfl) (aD aM (by rfl) B.len dW (aa ?c2 ag)))
   (aj (cC (aQ uS (pv 3) (pv 4) (a8 _)) eA bh)
   (au (cC (aQ Mi (pv 3) (qT (v:=.int 8) rfl gM ⟨_,rfl⟩) (a8 _)) eA bh)))))),?_⟩
  case c1=>
   refine' cL (g:=uq K 2 (fW (bv 0) (fW (bv 1) um))) (NB:=["one","other","house"]) (src:=[none,none,some 2]) (bp (by kernel_rfl)) rfl (bT (pv 1)) ?g ?t ?e;case g=>exact fun cl C s₃ H₃ fp=>dA (n:=2) rfl (aG (aA (i:=0) QX rfl (Or.inl rfl) (Or.inr rfl)) (aG (aA (i:=1) QX rfl (Or.inl rfl) (Or.inr rfl)) cr))
   case t=>exact fun cl C s₃ H₃ fp=>gU (aQ iF (pv 0) (pv 2) (a8 _))
   case e=>exact fun cl C s₃ H₃ fp=>pv 0
  case c2=>
   refine' cL (g:=uq K 2 (fW (bv 0) (fW (bv 1) um))) (NB:=["one","other","house"]) (src:=[none,none,some 2]) (bp (by kernel_rfl)) rfl (bT (pv 1)) ?g ?t ?e;case g=>exact fun cl C s₃ H₃ fp=>dA (n:=2) rfl (aG (aA (i:=0) QX rfl (Or.inl rfl) (Or.inr rfl)) (aG (aA (i:=1) QX rfl (Or.inl rfl) (Or.inr rfl)) cr))
   case t=>exact fun cl C s₃ H₃ fp=>gU (aQ iF (pv 1) (pv 2) (a8 _))
   case e=>exact fun cl C s₃ H₃ fp=>pv 1
  refine⟨_,rfl,n,rfl,by lia,by lia,dC (n:=n) (lo:=0) (fun i σ H2=>aO H H2/\∃a b c,σ=[some (.int n),some (.ref l),a,b,c]) ⟨aO.refl _,none,none,none,rfl⟩ ?_ ?_⟩
  .rintro i σ H2 hi ⟨sm,a,b,c,rfl⟩;have T2:=T.same sm;refine⟨_,rfl,l,rfl,⟨_,aW.of T2.at_⟩,fun D hD=>qa (fun σ=>∃a b,σ=[a,b,some (.int (0+(i:Int)))]) (·.1) (·.1) (0+(i:Int)) hD T2.at_ T2.po (by lia) ⟨_,_,rfl⟩ ?_ ?_⟩
   .rintro z σ H3 Kt Kf hj ⟨x,y,rfl⟩ ha kt kf;refine⟨z.1,_,rfl,bP.of ha,rfl,_,_,rfl,_,_,rfl,rfl,?_⟩;refine⟨_,rfl,_,rfl,rfl,_,rfl,?_⟩;refine fZ (fun e=>?_) (fun e=>?_)
    .exact⟨_,rfl,kt _ ⟨_,_,rfl⟩ (by simpa using e)⟩
    .exact kf _ ⟨_,_,rfl⟩ (by simpa using e)
   .refine⟨D,_,rfl,.inl (aW.of ae),?_⟩;have MM:=br (o:=.lst (IV (((zp zs).filter fun y=>decide (y.1=0+(i:Int))).map (·.1)))) (sm.trans (aO.refl _)) (H:=H) (by cases z:H D with|none=>rfl|some o=>rw[sm _ _ z] at hD;cases hD);have T3:=T.same MM;refine⟨_,rfl,l,rfl,⟨_,aW.of T3.at_⟩,fun D' hD'=>qa (fun σ=>∃a b,σ=[a,b,some (.int (0+(i:Int)))]) (·.2) (·.2) (0+(i:Int)) hD' T3.at_ T3.po (by lia) ⟨_,_,rfl⟩ ?_ ?_⟩
    .rintro z σ H3 Kt Kf hj ⟨x,y,rfl⟩ ha kt kf;refine⟨z.1,_,rfl,bP.of ha,rfl,_,_,rfl,_,_,rfl,rfl,?_⟩;refine⟨_,rfl,_,rfl,rfl,_,rfl,?_⟩;refine fZ (fun e=>?_) (fun e=>?_)
     .exact⟨_,rfl,kt _ ⟨_,_,rfl⟩ (by simpa using e)⟩
     .exact kf _ ⟨_,_,rfl⟩ (by simpa using e)
    .refine⟨D',_,rfl,.inl (aW.of ae),?_⟩;rw[hZ] at *;have q1:(IV (((zp zs).filter fun y=>decide (y.1=(i:Int))).map (·.1))).length=(IV (((zp zs).filter fun y=>decide (y.2=(i:Int))).map (·.2))).length:=by
      rw[aT,aT,aT,aT];exact fi.EI i
     have q2:(IV (((zp zs).filter fun y=>decide (y.1=(i:Int))).map (·.1))).length<=8:=by
      rw[aT,aT];exact fi.most i
     refine⟨_,rfl,_,rfl,rfl,_,rfl,?_⟩;rw[<-q1];rw[show (!decide (V.int (((IV (((zp zs).filter fun y=>decide (y.1=(i:Int))).map (·.1))).length:Nat):Int)=V.int (((IV (((zp zs).filter fun y=>decide (y.1=(i:Int))).map (·.1))).length:Nat):Int)))=false by simp];refine iH ?_;refine⟨_,rfl,_,_,rfl,rfl,_,rfl,?_⟩;rw[show decide ((((IV (((zp zs).filter fun y=>decide (y.1=(i:Int))).map (·.1))).length:Nat):Int) > 8)=false by rw[z9];lia];exact iH ⟨MM.trans (ai hD'),_,_,_,rfl⟩
  .rintro σ H2 ⟨sm,a,b,c,rfl⟩;exact k H2 sm
end
def KE:Expr:=match (bZ yY).getD 1 (.Pass ⟨0,0,0,0⟩) with
 |.Return (some (.Call _ _ (k::_) _)) _=>k.value
 |_=>.Name "x" ⟨0,0,0,0⟩
def KG:Arguments:=match KE with
 |.Lambda a _ _ _=>a
 |_=>{ posonlyargs:=[],args:=[],vararg:=none,kwonlyargs:=[],kw_defaults:=[],kwarg:=none,defaults:=[] }
def KH:Expr:=match KE with
 |.Lambda _ b _ _=>b
 |e=>e
def TL:Scope:=match KE with
 |.Lambda _ _ s _=>s
 |_=>{ kind:=.function,names:=[],isGenerator:=false,isCoroutine:=false }
def OL:Pos:=match KE with
 |.Lambda _ _ _ p=>p
 |_=>⟨0,0,0,0⟩
def MQ:Str:=("houses_out":Str)++".<locals>."++"<lambda>"
abbrev nh(Pt:Addr)(H:Hp):Prop:=dt OL MQ Pt H
def lw(Pt:Addr)(H H':Hp):Prop:=∀b o,H b=some o->b≠Pt->H' b=some o
theorem lw.of(a:aO H H'):lw Pt H H':=fun c o h _=>a c o h
theorem nh.not(t:nh Pt H)(h:H b=some o)(n:∀ps,o≠.iR ps):b≠Pt:=by
 rintro rfl;rcases t with z|⟨c,z,_⟩ <;> · rw[h] at z;exact n _ (bN z)
theorem nh.same(t:nh Pt H)(e:aO H H'):nh Pt H':=by
 rcases t with z|⟨c,z,y⟩
 .exact .inl (e _ _ z)
 .exact .inr ⟨c,e _ _ z,e _ _ y⟩
theorem KI{n a b h:Int}(hn:0<n)(a0:0<=a)(a1:a<n)(b0:0<=b)(b1:b<n)(e:(a-h) % n=(b-h) % n):a=b:=by
 have h1:=Int.emod_emod_of_dvd (a-h) (Int.dvd_refl n);have q:(a-b) % n=0:=by
  have:a-b=(a-h)-(b-h):=by lia
  rw[this,Int.sub_emod,e,Int.sub_self,Int.zero_emod]
 obtain⟨c,hc⟩:=Int.dvd_of_emod_eq_zero q;have c0:c=0:=by
  rcases Int.lt_trichotomy c 0 with z|z|z
  .have:n*c<=n*(-1):=FI (by lia) (by lia);lia
  .exact z
  .have:n*1<=n*c:=FI (by lia) (by lia);lia
 rw[c0] at hc;lia
theorem uH{ts:Ts}{h:Int}(nd:ts.Nodup):((ts.filter fun y=>decide (y.1=h)).map (·.2)).Nodup:=by
 refine L2.pT (nd.filter _) fun x hx y hy e=>?_;have a:=(et.mp hx).2;have b:=(et.mp hy).2;simp at a b;exact iB (a.trans b.symm) e
theorem EV{n:Nat}{ts:Ts}{h:Nat}(F:bK n ts)(hh:h<n){out:List Int}(ko:N6 (h:Int) (n:Int) ((ts.filter fun y=>decide (y.1=(h:Int))).map (·.2)) out):out.map V.int=NV (bq n ts h):=by
 obtain⟨ps,hp,rfl,hs⟩:=ko;have yx:(ps.map (·.2)).Perm ((ts.filter fun y=>decide (y.1=(h:Int))).map (·.2)):=by
  have:=hp.map (·.2);rw[dk] at this;refine this.trans (kP ?_);conv=>rhs;rw[<-jP ((ts.filter fun y=>decide (y.1=(h:Int))).map (·.2))]
  rfl
 have mem:∀z,z∈ps.map (·.2)↔((h:Int),z)∈ts:=fun z=>by
  rw[yx.mem_iff,bj];constructor
  .rintro⟨y,hy,rfl⟩;obtain⟨y1,y2⟩:=et.mp hy;have:y.1=(h:Int):=by simpa using y2
   rw[<-this];exact y1
  .intro hz;exact⟨_,et.mpr ⟨hz,by simp⟩,rfl⟩
 have nd:(ps.map (·.2)).Nodup:=yx.nodup_iff.mpr (uH F.nd);have key:∀q∈ps,q.1=(q.2-(h:Int)) % (n:Int):=fun q hq=>by
  obtain⟨z,_,e⟩:=bj.mp (hp.mem_iff.mp hq);rw[<-e]
 have hn:(0:Int)<n:=by have:=F.n1;lia
 have sorted:(ps.map (·.2)).Pairwise fun x y=>(x-(h:Int)) % (n:Int)<(y-(h:Int)) % (n:Int):=by
  refine fu.mpr ?_;have Yb:=fu.mp nd;refine(hs.and Yb).imp_of_mem fun {x y} hx hy vk=>?_;have l1:=vk.1;rw[key x hx,key y hy] at l1;have ax:=F.rg _ ((mem x.2).mp (bj.mpr ⟨x,hx,rfl⟩));have ay:=F.rg _ ((mem y.2).mp (bj.mpr ⟨y,hy,rfl⟩));have ne:(x.2-(h:Int)) % (n:Int)≠(y.2-(h:Int)) % (n:Int):=fun z=>vk.2 (KI hn ax.2.1 ax.2.2 ay.2.1 ay.2.2 z);lia
 have e:ps.map (·.2)=(bq n ts h).map fun (o:Nat)=>(o:Int):=by
  refine qu (k:=fun z=>(z-(h:Int)) % (n:Int)) sorted ?_ fun z=>?_
  .refine fu.mpr ?_;exact qt hh
  .rw[mem,bj];constructor
   .intro hz;have r:=F.rg _ hz;refine⟨z.toNat,(g9 F hh).mpr ?_,by lia⟩;show (((h:Nat):Int),((z.toNat:Nat):Int))∈ts;rw[show ((z.toNat:Nat):Int)=z by lia];exact hz
   .rintro⟨o,ho,rfl⟩;exact(g9 F hh).mp ho
 rw[e,dk];rfl
section
variable {P:Program} {w:World} {K:PySem.W.Frag} {mg:Str->Option Value} {base:Heap}
theorem HK:aR ["many","ties","house","others"] ["many","ties","house"] (av yY):=⟨rfl,rfl,rfl,by decide +kernel,rfl,by decide +kernel,by decide +kernel⟩
def xb(Pt:Addr):Sp:=fun vs H Q _=>∃ (n:Nat) (l:Addr) (h:Nat) (zs:Zs),vs=[.int n,.ref l,.int h]/\h<n/\h_ H l n zs/\nh Pt H/\
 ∀ (r:Addr) (H':Hp),nh Pt H'->lw Pt H H'->H r=none->H' r=some (.lst (NV (bq n (zp zs) h)))->Q (.ref r) H'
theorem KJ(F:qG K "houses_out" "houses_out" yY f fd c)(B:Bl mg)(kb:K.In base)(hb:pU mg base)(hc:PySem.W.codeHdIn K c Pt=true):
  bA P w K mg base bg 1 f fd ["many","ties","house"] (xb Pt):=by
 refine F.ok HK (fun vs H Q E h=>?_) (fun A outer s H vs Q E hr h=>?_)
 .obtain⟨n,l,h,zs,rfl,_⟩:=h;rfl
 .obtain⟨n,l,h,zs,rfl,hh,T,tb,k⟩:=h;have fi:=T.j4;have n1:=fi.n1;have eJ:zs.length<=256:=by have:=fi.len;rw[bB] at this;exact this
  have LS:SG (lc bg P w K mg base ["many","ties","house","others"] "houses_out" (av yY) f (.ref c) A outer s H E).zL MQ KG KH TL "other" "house" "many" 2 0:=
   ⟨⟨_,_,_,_,_,rfl⟩,fun _ _ _ _ _=>rfl,rfl,rfl,rfl,rfl,rfl,rfl,rfl,by decide +kernel,by decide +kernel,by decide +kernel,rfl,rfl,rfl,by decide,⟨by decide,by decide⟩,⟨by decide,by decide⟩⟩
  refine'⟨_,aj (eQ (i:=3) (g:=uq K 2 (fW (bv 0) (fW (bv 1) um))) (NB:=["one","other","house"]) (src:=[none,none,some 2]) (bp (by kernel_rfl)) rfl (bT (pv 1)) ?g ?t ?e HK.nd rfl rfl rfl)
   (au (a_ (jv (Bg LS hr) rfl B.sorted l7 (aa (pv 3) ag) (nE (tm (NB:=["other","house","many"]) (src:=[none,some 2,some 0]) (nN kb hb hc) (bp (by kernel_rfl))) sU)))),?_⟩
  case g=>exact fun cl C s₃ H₃ fp=>dA (n:=2) rfl (aG (aA (i:=0) QX rfl (Or.inl rfl) (Or.inr rfl)) (aG (aA (i:=1) QX rfl (Or.inl rfl) (Or.inr rfl)) cr))
  case t=>exact fun cl C s₃ H₃ fp=>gU (aQ iF (pv 0) (pv 2) (a8 _))
  case e=>exact fun cl C s₃ H₃ fp=>pv 1
  refine⟨_,rfl,l,rfl,⟨_,aW.of T.at_⟩,fun D hD=>qa (fun σ=>∃a b,σ=[a,b,some (.int (h:Int))]) (·.1) (·.2) (h:Int) hD T.at_ T.po (by lia) ⟨_,_,rfl⟩ ?_ ?_⟩
  .rintro z σ H3 Kt Kf hj ⟨x,y,rfl⟩ ha kt kf;refine⟨z.1,_,rfl,bP.of ha,rfl,_,_,rfl,_,_,rfl,rfl,?_⟩;refine⟨_,rfl,_,rfl,rfl,_,rfl,?_⟩;refine fZ (fun e=>?_) (fun e=>?_)
   .exact⟨_,rfl,kt _ ⟨_,_,rfl⟩ (by simpa using e)⟩
   .exact kf _ ⟨_,_,rfl⟩ (by simpa using e)
  .generalize hos:((zp zs).filter fun y=>decide (y.1=(h:Int))).map (·.2)=os;have Fv:os.length<=8:=by rw[<-hos,aT];exact fi.most h
   have sm:aO H (upd H D (.lst (IV os))):=ai hD;refine⟨_,rfl,tb.same sm,fun f' c' H2 t2' fP xR ym=>?_⟩;have t2:nh Pt H2:=t2';have jH:H2 D=some (.lst (IV os)):=fP _ _ ae ((tb.same sm).not ae (by intro ps z;cases z));refine⟨D,f',c',os,h,n,rfl,rfl,aW.of jH,(by lia),ym,xR,rfl,rfl,by lia,fun r out Fu ko=>?_⟩;rw[<-hos] at ko;rw[EV fi hh ko];have MM:aO H2 (upd H2 r (.lst (NV (bq n (zp zs) h)))):=ai Fu;refine k r _ (t2.same MM) (fun b o e hb=>MM _ _ (fP b o (sm _ _ e) hb)) ?_ ae;cases z:H r with
   |none=>rfl
   |some o=>
    by_cases hP:r=Pt
    .rcases t2 with q|⟨_,q,_⟩ <;> · rw[<-hP,Fu] at q;cases q
    .rw[fP r o (sm _ _ z) hP] at Fu;cases Fu
end
abbrev HL:Stmt:=top 36
abbrev BN:Stmt:=top 37
def g_(n:Nat)(R:List Nat)(f:Nat->Nat):List V:=(List.range n).map fun x=>if x∈R then V.int ((f x:Nat):Int) else .cB
theorem jC:(g_ n R f).length=n:=by unfold g_;rw[aT,cG]
theorem iM(h:x<n):(g_ n R f)[x]?=some (if x∈R then V.int ((f x:Nat):Int) else .cB):=by
 unfold g_;rw[bU,fQ h];rfl
theorem tX(hs:s<n):(List.replicate n V.cB).set s (V.int 0)=g_ n [s] (fun _=>0):=by
 apply lV;intro x;by_cases hx:x<n
 .rw[iM hx];by_cases e:x=s
  .subst e;rw[oQ (by rw[gm];exact hx),ao (by simp)];rfl
  .rw[oW (fun z=>e z.symm),rH,ao hx,ak (by simp[e])]
 .rw[fJ (by rw[gy,gm];lia),fJ (by rw[jC];lia)]
theorem yZ(hv:v<n):(g_ n R f).set v (V.int ((k:Nat):Int))=g_ n (R++[v]) (put f v k):=by
 apply lV;intro x;by_cases hx:x<n
 .rw[iM hx];by_cases e:x=v
  .subst e;rw[oQ (by rw[jC];exact hx),ao (by simp),jz]
  .rw[oW (fun z=>e z.symm),iM hx,ge e];by_cases h:x∈R
   .rw[ao h,ao (ft _ h)]
   .rw[ak h,ak (fun z=>(bX.mp z).elim h fun z=>e (by simpa using z))]
 .rw[fJ (by rw[gy,jC];lia),fJ (by rw[jC];lia)]
def TM(σ:St):Nat:=match σ[4]? with
 |some (some (V.int z))=>z.toNat
 |_=>0
theorem nbO:(["others"]:List Str).Nodup:=by decide +kernel
def tY(H:Hp)(ol:Addr)(n:Nat)(ts:Ts):Prop:=∃bs:List Addr,H ol=some (.lst (bs.map V.ref))/\Holds H bs n (fun h=>.lst (NV (bq n ts h)))
theorem tY.same(x:tY H ol n ts)(e:aO H H'):tY H' ol n ts:=let ⟨bs,a,b⟩:=x;⟨bs,e _ _ a,b.mono fun _ _ z=>e _ _ z⟩
theorem MR{as:List Addr}{i:Nat}{x:V}(h:(as.map V.ref)[i]?=some x):i<as.length/\x=.ref (as.getD i 0):=by
 rw[bU] at h;cases e:as[i]? with
 |none=>rw[e] at h;cases h
 |some a=>
  rw[e] at h;refine⟨(b9.mp e).1,?_⟩;rw[bW,e];exact(bN h).symm
section
variable {P:Program} {w:World} {K:PySem.W.Frag} {mg:Str->Option Value} {base:Heap}
theorem mU:aR ["out_lists","start","distances","reached","at","house","other"] ["out_lists","start"] (av HL):=⟨rfl,rfl,rfl,by decide +kernel,rfl,by decide +kernel,by decide +kernel⟩
def xc:Sp:=fun vs H Q _=>∃ (ol:Addr) (n s:Nat) (ts:Ts),vs=[.ref ol,.int s]/\bK n ts/\s<n/\tY H ol n ts/\
 ∀ (r:Addr) (H':Hp),aO H H'->H r=none->H' r=some (.lst (NV ((List.range n).map (far ts s))))->Q (.ref r) H'
theorem KL{f:Addr}{fd:FuncData}(F:ig K "distances_from" "distances_from" HL f fd)(B:Bl mg):bA P w K mg base bg 1 f fd ["out_lists","start"] xc:=by
 refine F.ok mU (fun vs H Q E h=>?_) (fun eY A outer s H vs Q E hr h=>?_)
 .obtain⟨ol,n,s,ts,rfl,_⟩:=h;rfl
 .obtain⟨ol,n,st,ts,rfl,fi,hs,O,k⟩:=h;have n1:=fi.n1;have n2:=fi.n2;refine'⟨_,aj (eQ (i:=2) (g:=bv 0) (NB:=["others"]) (src:=[none]) (bp (by kernel_rfl)) rfl (bT (pv 0)) ?g ?t ?e mU.nd rfl rfl rfl)
   (aj (dM az (fX (pv 2) (pv 1) dH))
   (aj (aU (i:=3) mU.nd rfl (Or.inl rfl) (cS (aa (pv 1) ag)))
   (aj (aU (i:=4) mU.nd rfl (Or.inl rfl) az)
   (aj (xT dU (aQ lW (pv 4) (aD aM (by rfl) B.len dW (aa (pv 3) ag)) (a8 _))
    (aj (aU (i:=5) mU.nd rfl (Or.inl rfl) (aV aL (pv 3) (pv 4) (fun _ _=>rfl)))
    (aj (cP dU rfl (bT (aV aL (pv 0) (pv 5) (fun _ _=>rfl))) (aA (i:=6) mU.nd rfl (Or.inl rfl))
     (au (cC (aQ wr (aV aL (pv 2) (pv 6) (fun _ _=>rfl)) eN (a8 _))
      (aj (dM (aY cZ (aV aL (pv 2) (pv 5) (fun _ _=>rfl)) az) (fX (pv 2) (pv 6) dH))
      (au (bY (gE gk jm jl cK (pv 3) (aa (pv 6) ag))))) bh)))
    (au (Ny (i:=4) mU.nd rfl (Or.inl rfl) az Nz)))))
   (au (a_ (pv 2))))))),?_⟩
  case g=>exact fun cl C s₃ H₃ fp=>aA (i:=0) nbO rfl (Or.inl rfl) (Or.inr rfl)
  case t=>exact fun cl C s₃ H₃ fp=>dz
  case e=>exact fun cl C s₃ H₃ fp=>eN
  obtain⟨bs,Fv,MS,Mn⟩:=id O;refine⟨_,rfl,ol,rfl,⟨_,aW.of Fv⟩,fun D hD=>?_⟩;have nol:ol≠D:=am Fv hD;refine eZ (xs:=bs.map V.ref) (fun i ys σ H2=>(∃a,σ=[a])/\ys=List.replicate i V.cB/\H2=upd H D (.lst ys)) ⟨⟨_,rfl⟩,rfl,rfl⟩ (fun i ys σ H2 _ ⟨_,_,e⟩=>by rw[e];exact aW.of (by rw[ap nol];exact Fv)) ?_ ?_
  .rintro i x ys σ H2 Kt Kf hx ⟨⟨a,rfl⟩,rfl,rfl⟩ kt kf;have hi:=(MR hx).1;refine kt _ _ _ ae ?_ ⟨⟨_,rfl⟩,?_,by rw[lI]⟩
   .rw[gm];exact bi hi (by rw[MS];exact aX n2 (by decide))
   .rw[vR]
  .rintro ys σ H2 ⟨_,rfl,rfl⟩;rw[aT,MS];refine⟨_,rfl,_,rfl,D,_,st,st,rfl,rfl,ae,by rw[gm];exact eh hs,?_⟩;rw[lI,tX hs];refine⟨_,rfl,by show 1<=sizeLine;decide,fun R hR=>?_⟩;have Fz:D≠R:=am (H:=upd H D (.lst (g_ n [st] (fun _=>0)))) ae hR;have KM:H R=none:=by rw[ap Fz.symm] at hR;exact hR
   refine xV (fun σ H2=>∃ (i:Nat) (Rs:List Nat) (f:Nat->Nat),i<=Rs.length/\zS n ts st i Rs f/\(∃a b,σ=[some (.ref ol),some (.int st),some (.ref D),some (.ref R),some (.int (i:Int)),a,b])/\aO H H2/\H2 D=some (.lst (g_ n Rs f))/\H2 R=some (.lst (NV Rs)))
    (fun σ _=>n-TM σ) ⟨0,[st],fun _=>0,bE _,zS.start hs,⟨none,none,rfl⟩,br (ai hD) KM,?_,ae⟩ ?_ ?_
   .rw[ap Fz,ae]
   .rintro σ H2 ⟨i,Rs,f,hi,Bf,⟨a,b,rfl⟩,sm,jH,uI⟩;have hRn:Rs.length<=n:=e8 Bf.nd Bf.lt;refine⟨_,rfl,_,rfl,R,_,rfl,.inl (aW.of uI),_,_,rfl,rfl,_,rfl,?_⟩;rw[be];by_cases vo:i<Rs.length
    .rw[show decide ((i:Int)<((Rs.length:Nat):Int))=true by simp;lia];refine yh ?_;have hu:Rs[i]?=some Rs[i]:=bQ vo;generalize Rs[i]=u at hu;have y_:u<n:=Bf.lt u (cU hu);have Yi:(NV Rs)[i]?=some (.int (u:Int)):=by rw[bU,hu];rfl
     refine⟨_,rfl,_,rfl,R,_,_,_,rfl,rfl,aW.of uI,aB Yi,?_⟩;have Yj:(bs.map V.ref)[u]?=some (.ref (bs.getD u 0)):=by
      rw[bU,bW,bQ (by rw[MS];exact y_)];rfl
     have Yk:=sm _ _ (Mn _ y_);refine⟨_,rfl,_,rfl,ol,_,_,_,rfl,rfl,aW.of (sm _ _ Fv),aB Yj,_,rfl,⟨_,aW.of Yk⟩,?_⟩;have nbD:bs.getD u 0≠D:=am (Mn _ y_) hD;have nbR:bs.getD u 0≠R:=am (Mn _ y_) KM;refine fY (K:=K) (xs:=NV (bq n ts u)) (fun j σ H3=>∃ (ir:List Nat) (f':Nat->Nat),zS n ts st i ir f'/\ir[i]?=some u/\(∀v∈(bq n ts u).take j,v∈ir/\f' v<=f' u+1)/\
      (∃b,σ=[some (.ref ol),some (.int st),some (.ref D),some (.ref R),some (.int (i:Int)),some (.int (u:Int)),b])/\aO H H3/\H3 D=some (.lst (g_ n ir f'))/\H3 R=some (.lst (NV ir)))
      ⟨Rs,f,Bf,hu,fun v hv=>by simp at hv,⟨_,rfl⟩,sm,jH,uI⟩ (fun j σ H3 _ ⟨_,_,_,_,_,_,EW,_⟩=>aW.of (EW _ _ (Mn _ y_))) ?_ ?_
     .rintro j x σ H3 hx ⟨ir,f',xf,qE,dn,⟨b',rfl⟩,EW,on,zR⟩;rw[bU] at hx;cases hv:(bq n ts u)[j]? with
      |none=>rw[hv] at hx;cases hx
      |some v=>
       rw[hv] at hx;obtain rfl:V.int ((v:Nat):Int)=x:=bN hx;have OM:v∈bq n ts u:=cU hv;have HM:v<n:=rh fi y_ OM;have Yl:T ts u v:=(g9 fi y_).mp OM;have tk:(bq n ts u).take (j+1)=(bq n ts u).take j++[v]:=by rw[gX,hv];rfl
       have HN:u∈ir:=cU qE;refine⟨_,rfl,_,rfl,D,_,_,_,rfl,rfl,aW.of on,aB (iM HM),rfl,_,rfl,?_⟩;by_cases BO:v∈ir
       .rw[ao BO];refine iH ⟨ir,f',xf,qE,fun x hx=>?_,⟨_,rfl⟩,EW,on,zR⟩;rw[tk] at hx;rcases bX.mp hx with z|z
        .exact dn x z
        .simp at z;subst z;exact⟨BO,xf.bd u qE _ BO⟩
       .rw[ak BO];refine yh ?_;have HP:(g_ n ir f')[u]?=some (.int ((f' u:Nat):Int)):=by rw[iM y_,ao HN]
        refine⟨_,rfl,_,rfl,D,_,_,_,rfl,rfl,aW.of on,aB HP,_,_,rfl,rfl,_,rfl,_,rfl,D,_,_,_,rfl,rfl,on,by rw[jC];exact eh HM,?_⟩;have e1:(g_ n ir f').set v (.int (((f' u:Nat):Int)+1))=g_ n (ir++[v]) (put f' v (f' u+1)):=by
         rw[show ((f' u:Nat):Int)+1=((f' u+1:Nat):Int) by lia,yZ HM]
        rw[e1];have rf:(upd H3 D (.lst (g_ n (ir++[v]) (put f' v (f' u+1))))) R=some (.lst (NV ir)):=by rw[ap Fz.symm];exact zR
        have HQ:ir.length<=n:=e8 xf.nd xf.lt;refine⟨_,rfl,.inl ⟨rfl,_,aW.of rf⟩,_,rfl,R,_,_,rfl,rfl,rf,by rw[be];exact bi (show ir.length<33 by lia) (by decide),?_⟩;have q_:i<ir.length:=(b9.mp qE).1;have Ym:u≠v:=fun z=>BO (z ▸ HN);refine⟨ir++[v],put f' v (f' u+1),xf.add qE HM Yl BO,by rw[jk q_];exact qE,fun x hx=>?_,⟨_,rfl⟩,br (br EW hD) KM,?_,?_⟩
        .rw[ge Ym];rw[tk] at hx;rcases bX.mp hx with z|z
         .obtain⟨q1,q2⟩:=dn x z;exact⟨ft _ q1,by rw[ge (fun (z:x=v)=>BO (z ▸ q1))];exact q2⟩
         .simp at z;subst z;exact⟨by simp,by rw[jz];exact aK _⟩
        .rw[ap Fz,ae]
        .rw[ae];show _=some (HO.lst (NV (ir++[v])));rw[show NV (ir++[v])=NV ir++[.int (v:Int)] by unfold NV;rw[cW];rfl]
     .rintro σ H3 ⟨ir,f',xf,qE,dn,⟨b',rfl⟩,EW,on,zR⟩;rw[be,j9] at dn;have q_:i<ir.length:=(b9.mp qE).1;have HQ:ir.length<=n:=e8 xf.nd xf.lt;refine⟨_,rfl,_,_,rfl,rfl,⟨⟨i+1,ir,f',q_,xf.next qE (fun v t=>dn v ((g9 fi y_).mpr t)),⟨_,_,rfl⟩,EW,on,zR⟩,?_⟩⟩;show n-((i:Int)+1).toNat<n-(i:Int).toNat;lia
    .rw[show decide ((i:Int)<((Rs.length:Nat):Int))=false by rw[z9];lia];have e:g_ n Rs f=NV ((List.range n).map (far ts st)):=by
      unfold g_ NV;rw[dk];refine jo fun x hx=>?_;obtain⟨q1,q2⟩:=Bf.done fi (by lia) (bD.mp hx);rw[ao q1,q2];rfl
     rw[e] at jH;refine iH ⟨_,rfl,k D H2 sm hD jH⟩
   .rintro σ H2 Q1 Q2 imp ⟨v,e1,v2,e2,p,ys,e3,e4,i1,i2,e5,e6,kk,e7,q⟩;exact⟨v,e1,v2,e2,p,ys,e3,e4,i1,i2,e5,e6,kk,e7,imp _ _ q⟩
end
theorem TN:(["row"]:List Str).Nodup:=by decide +kernel
section
variable {P:Program} {w:World} {K:PySem.W.Frag} {mg:Str->Option Value} {base:Heap}
theorem KO:aR ["distances"] ["distances"] (av BN):=⟨rfl,rfl,rfl,by decide +kernel,rfl,by decide +kernel,by decide +kernel⟩
def xg:Sp:=fun vs H Q _=>∃ (l:Addr) (ds:List Addr) (n:Nat) (o:Nat->List V),vs=[.ref l]/\H l=some (.lst (ds.map V.ref))/\n<=32/\Holds H ds n (fun j=>.lst (o j))/\(∀j,j<n->∀x∈o j,∃i,x=.int i)/\∀H',aO H H'->Q .cB H'
theorem HR(F:ig K "check_reached" "check_reached" BN f fd)(B:Bl mg):bA P w K mg base bg 1 f fd ["distances"] xg:=by
 refine F.ok KO (fun vs H Q E h=>?_) (fun eY A outer s H vs Q E hr h=>?_)
 .obtain⟨l,ds,n,o,rfl,_⟩:=h;rfl
 .obtain⟨l,ds,n,o,rfl,hl,n2,hh,hx,k⟩:=h;refine'⟨_,au (cC (iD (aD (Ep rfl) (by rfl) B.any PyProof.Rows.boot_any (aa ?c ag))) eA bh),?_⟩;case c=>
   refine' cL (g:=bv 0) (te:=kr (VP K false) (tC .cB) (a9 0)) (NB:=["row"]) (src:=[none]) (bp (by kernel_rfl)) rfl (bT (pv 0)) ?g ?t ?e;case g=>exact fun cl C s₃ H₃ fp=>aA (i:=0) TN rfl (Or.inl rfl) (Or.inr rfl)
   case t=>exact fun cl C s₃ H₃ fp=>dz
   case e=>exact fun cl C s₃ H₃ fp=>qV uY eN (pv 0) rfl
  refine⟨_,rfl,l,rfl,⟨_,aW.of hl⟩,fun D hD=>?_⟩;have nl:l≠D:=am hl hD;refine eZ (xs:=ds.map V.ref) (fun i ys σ H2=>(∃a,σ=[a])/\ys=(List.replicate i false).map V.bl/\H2=upd H D (.lst ys)) ⟨⟨_,rfl⟩,rfl,rfl⟩ (fun i ys σ H2 _ ⟨_,_,e⟩=>by rw[e];exact aW.of (by rw[ap nl];exact hl)) ?_ ?_
  .rintro i x ys σ H2 Kt Kf hxi ⟨⟨a,rfl⟩,rfl,rfl⟩ kt kf;obtain⟨hi,rfl⟩:=MR hxi;rw[hh.1] at hi;have hd:=hh.2 i hi;have nd:ds.getD i 0≠D:=am hd hD;have q1:(o i).all fN=true:=i_.mpr fun x sE=>by obtain⟨z,rfl⟩:=hx i hi x sE;rfl
   have q2:CD .cB (o i)=false:=by
    unfold CD;rw[rV];intro x sE;obtain⟨z,rfl⟩:=hx i hi x sE;exact fun z=>by cases z
   refine⟨_,rfl,_,_,rfl,.inl (aW.of (by rw[ap nd];exact hd)),rfl,q1,?_⟩;refine kt _ _ _ ae ?_ ⟨⟨_,rfl⟩,?_,by rw[lI]⟩
   .rw[aT,gm];exact bi hi (aX n2 (by decide))
   .rw[vR,cW,q2];rfl
  .rintro ys σ H2 ⟨_,rfl,rfl⟩;refine⟨D,_,rfl,aW.of ae,_,rfl,?_⟩;have e:(List.replicate (ds.map V.ref).length false).any id=false:=by
    rw[rV];intro x sE;rw[(List.mem_replicate.mp sE).2];decide
   rw[e];exact iH (k _ (ai hD))
end
theorem nb2:(["one","other"]:List Str).Nodup:=by decide +kernel
theorem TQ:(["house","many","ties"]:List Str).Nodup:=by decide +kernel
theorem Yn:(["house","self"]:List Str).Nodup:=by decide +kernel
def oo(p Pt:Addr)(H H':Hp):Prop:=∀b o,H b=some o->b≠p->b≠Pt->H' b=some o
theorem h_.mono(h:h_ H l n zs)(e:oo p Pt H H')(hp:H p=some (.ins C dx fs))(tb:nh Pt H):h_ H' l n zs:=
 ⟨h.j4,e _ _ h.at_ (gD h.at_ hp (by intro z;cases z)) (tb.not h.at_ (by intro ps z;cases z)),fun z hz=>e _ _ (h.po z hz) (gD (h.po z hz) hp (by intro z;cases z)) (tb.not (h.po z hz) (by intro ps z;cases z))⟩
theorem nh.mono(t:nh Pt H)(e:∀b o,H b=some o->b≠p->H' b=some o)(hp:H p=some (.ins C dx fs)):nh Pt H':=by
 rcases t with z|⟨c,z,y⟩
 .exact .inl (e _ _ z (gD z hp (by intro q;cases q)))
 .exact .inr ⟨c,e _ _ z (gD z hp (by intro q;cases q)),e _ _ y (gD y hp (by intro q;cases q))⟩
theorem nh.full(t:nh Pt H):H Pt≠none:=by
 rcases t with z|⟨c,z,y⟩ <;> rw[z] <;> intro q <;> cases q
theorem oo.free(s:oo p Pt H H')(hp:H' p≠none)(tb:nh Pt H')(h:H' r=none):H r=none:=by
 cases z:H r with
 |none=>rfl
 |some o=>
  by_cases e1:r=p
  .subst e1;exact absurd h hp
  .by_cases e2:r=Pt
   .subst e2;exact absurd h tb.full
   .rw[s r o z e1 e2] at h;cases h
theorem MT(h:k [] H):gI σ H k:=h
theorem lP{H:Hp}{p:Addr}{o:HO}(h:H p=some o):H p≠none:=by rw[h];intro z;cases z
section
variable {P:Program} {w:World} {K:PySem.W.Frag} {mg:Str->Option Value} {base:Heap}
theorem ON:aR ["self","many","ties"] ["self","many","ties"] (av Dh):=⟨rfl,rfl,rfl,by decide +kernel,rfl,by decide +kernel,by decide +kernel⟩
def BP(C Pt:Addr):Sp:=fun vs H Q E=>∃ (p dx:Addr) (n:Nat) (l:Addr) (zs:Zs),vs=[.ref p,.int n,.ref l]/\H p=some (.ins C dx [])/\h_ H l n zs/\nh Pt H/\
  ∀H',dw C H' (fun a=>H a=none) p n (zp zs)->nh Pt H'->oo p Pt H H'->Q .cB H'
theorem KR{f C Pt:Addr}{fd:FuncData}(F:ig K "__init__" "Net.__init__" Dh f fd)(T:NT K mg C)(B:Bl mg)(CT:dL P w K mg base bg 6 "check_ties" ["many","ties"] lO)(CB:dL P w K mg base bg 1 "check_balance" ["many","ties"] lO)(HO':dL P w K mg base bg 1 "houses_out" ["many","ties","house"] (xb Pt))(DF:dL P w K mg base bg 1 "distances_from" ["out_lists","start"] xc)(CR:dL P w K mg base bg 1 "check_reached" ["distances"] xg):
  bA P w K mg base bg 7 f fd ["self","many","ties"] (BP C Pt):=by
 refine F.ok ON (fun vs H Q E h=>?_) (fun eY A outer s H vs Q E hr h=>?_)
 .obtain⟨p,dx,n,l,zs,rfl,_⟩:=h;rfl
 .have Jv:cg 1 _:=hr.mono (by decide);refine'⟨_,aj (bY (aH CT hr aN (aa (pv 1) (aa (pv 2) ag))))
   (aj (bY (aH CB Jv aN (aa (pv 1) (aa (pv 2) ag))))
   (aj (sO (pv 0) (pv 1) rfl)
   (aj (sO (pv 0) (aD Bo (by rfl) B.sorted l7 (aa ?c1 ag)) rfl)
   (aj (sO (pv 0) ?c2 rfl)
   (aj (sO (pv 0) ?c3 rfl)
   (au (bY (aH CR Jv aN (aa (jX (pv 0) rfl) ag))))))))),?_⟩
  case c1=>
   refine' cL (g:=uq K 2 (fW (bv 0) (fW (bv 1) um))) (te:=sQ (bo (a9 0) (bo (a9 1) gI))) (NB:=["one","other"]) (src:=[none,none]) (bp (by kernel_rfl)) rfl (bT (pv 2)) ?g ?t ?e;case g=>exact fun cl C s₃ H₃ fp=>dA (n:=2) rfl (aG (aA (i:=0) nb2 rfl (Or.inl rfl) (Or.inr rfl)) (aG (aA (i:=1) nb2 rfl (Or.inl rfl) (Or.inr rfl)) cr))
   case t=>exact fun cl C s₃ H₃ fp=>dz
   case e=>exact fun cl C s₃ H₃ fp=>cQ (aa (pv 0) (aa (pv 1) ag))
  case c2=>
   refine' cL (g:=bv 0) (te:=nC (xb Pt) [] E0 (bo (a9 1) (bo (a9 2) (bo (a9 0) gI)))) (NB:=["house","many","ties"]) (src:=[none,some 1,some 2]) (bp (by kernel_rfl)) rfl (bz rfl B.range (aa (pv 1) ag)) ?g ?t ?e;case g=>exact fun cl C s₃ H₃ fp=>aA (i:=0) TQ rfl (Or.inl rfl) (Or.inr rfl)
   case t=>exact fun cl C s₃ H₃ fp=>dz
   case e=>exact fun cl C s₃ H₃ fp=>aH HO' Jv aN (aa (pv 1) (aa (pv 2) (aa (pv 0) ag)))
  case c3=>
   refine' cL (g:=bv 0) (te:=nC xc [] E0 (bo (JP K (a9 1) "out_lists") (bo (a9 0) gI))) (NB:=["house","self"]) (src:=[none,some 0]) (bp (by kernel_rfl)) rfl (bz rfl B.range (aa (pv 1) ag)) ?g ?t ?e;case g=>exact fun cl C s₃ H₃ fp=>aA (i:=0) Yn rfl (Or.inl rfl) (Or.inr rfl)
   case t=>exact fun cl C s₃ H₃ fp=>dz
   case e=>exact fun cl C s₃ H₃ fp=>aH DF Jv aN (aa (jX (pv 1) rfl) (aa (pv 0) ag))
  obtain⟨p,dx,n,l,zs,rfl,hp,TT,tb,k⟩:=h;have fi:=TT.j4;have n1:=fi.n1;have n2:=fi.n2;have eJ:zs.length<=256:=by have:=fi.len;rw[bB] at this;exact this
  refine⟨_,rfl,_,rfl,n,l,zs,rfl,TT,fun H1 s1=>?_⟩;refine⟨_,rfl,_,rfl,n,l,zs,rfl,TT.same s1,fun H2 s2=>?_⟩;have Yo:aO H H2:=s1.trans s2;refine⟨_,rfl,_,rfl,p,C,dx,[],rfl,Yo _ _ hp,T.cl,T.nH,(by show 0<1000;decide),?_⟩
  let G1:Hp:=upd H2 p (.ins C dx (d_ "house_count" (.int n) []))
  have d1:oo p Pt H G1:=fun b o e h1 _=>by show upd _ _ _ _=_;rw[ap h1];exact Yo _ _ e
  have V9:G1 p=some (.ins C dx (d_ "house_count" (.int n) [])):=ae;have Yp:h_ G1 l n zs:=TT.mono d1 hp tb;have Yq:nh Pt G1:=tb.mono (fun b o e h1=>by show upd _ _ _ _=_;rw[ap h1];exact Yo _ _ e) hp;refine⟨_,rfl,l,rfl,⟨_,aW.of Yp.at_⟩,fun D hD=>?_⟩;refine tW (fun y=>y) (fun σ=>∃a b,σ=[a,b]) Yp.at_ Yp.po hD (by lia) ⟨_,_,rfl⟩ ?_ ?_
  .rintro z σ H3 R Kf hz ⟨a,b,rfl⟩ _ ha kk;refine⟨_,_,rfl,bP.of ha,rfl,_,_,rfl,_,_,rfl,rfl,?_⟩;exact⟨_,rfl,_,rfl,by show 2<=sizeLine;decide,fun t ht=>kk _ _ ⟨_,_,rfl⟩ ht⟩
  .intro xN H3 sm on KS ez fr2;rw[List.map_id'] at ez;have Fp:xN.length=zs.length:=by rw[<-bB,ez,bB]
   refine MT ?_;refine Ky on KS (by lia) (fun u hu=>by have:=(fi.rg u (ez ▸ hu)).2;lia) fun tl MU Yr pm gj=>?_;have Ys:H tl=none:=d1.free (lP V9) Yq (sm.free Yr);have Jo:∀z∈MU,H z.1=none:=fun z hz=>d1.free (lP V9) Yq (fr2 z (pm.mem_iff.mp hz));have Yt:H3 p=some (.ins C dx (d_ "house_count" (.int n) [])):=sm _ _ V9;have OO:p≠tl:=am Yt Yr;refine⟨_,rfl,p,C,dx,_,rfl,by rw[ap OO];exact Yt,T.cl,T.nT,by show 1<1000;decide,?_⟩
   let G2:Hp:=upd (upd H3 tl (.lst (zr MU))) p (.ins C dx (d_ "tie_list" (.ref tl) (d_ "house_count" (.int n) [])))
   have q2:∀b o,H3 b=some o->b≠p->G2 b=some o:=fun b o e h1=>by
    show upd _ _ _ _=_;rw[ap h1,ap (am e Yr)];exact e
   have d2:oo p Pt H G2:=fun b o e h1 h2=>q2 _ _ (sm _ _ (d1 _ _ e h1 h2)) h1;have g2t:G2 tl=some (.lst (zr MU)):=by show upd _ _ _ _=_;rw[ap OO.symm,ae]
   have Yu:PO G2 MU:=fun z hz=>q2 _ _ (KS z (pm.mem_iff.mp hz)) (gD (KS z (pm.mem_iff.mp hz)) Yt (by intro z;cases z));have OP:G2 p=some (.ins C dx (d_ "tie_list" (.ref tl) (d_ "house_count" (.int n) []))):=ae;have TT2:h_ G2 l n zs:=TT.mono d2 hp tb;have OQ:nh Pt G2:=Yq.mono (fun b o e h1=>q2 _ _ (sm _ _ e) h1) V9;refine⟨_,rfl,n,rfl,by lia,by lia,fun D2 jH=>?_⟩;refine eR (n:=n) (lo:=0) (fun i ys σ H4=>(∃a,σ=[a,some (.int n),some (.ref l)])/\∃bs:List Addr,ys=bs.map V.ref/\(∀b∈bs,H b=none)/\Holds H4 bs i (fun h=>.lst (NV (bq n (zp zs) h)))/\lw Pt G2 H4/\nh Pt H4/\H4 D2=some (.lst ys)/\∀b∈bs,b≠D2)
    ⟨⟨_,rfl⟩,[],rfl,(fun _ h=>nomatch h),Holds.nil,lw.of (ai jH),OQ.same (ai jH),ae,(fun _ h=>nomatch h)⟩ ?_ ?_
   .rintro i ys σ H4 Kt Kf hi ⟨⟨a,rfl⟩,bs,rfl,Yv,hb,xh,QY,FB,Yw⟩ kt kf;have TT4:h_ H4 l n zs:=TT2.mono (p:=p) (fun b o e _ h2=>xh _ _ e h2) OP OQ;have QZ:=xh _ _ OP (OQ.not OP (by intro ps z;cases z));refine⟨_,rfl,_,rfl,_,rfl,n,l,i,zs,by rw[hZ];rfl,hi,TT4,QY,fun r H5 t5 xJ zc hr5=>?_⟩;have Yx:H r=none:=oo.free (fun b o e h1 h2=>xh _ _ (d2 _ _ e h1 h2) h2) (lP QZ) QY zc;have V_:H5 D2=some (.lst (bs.map V.ref)):=xJ _ _ FB (QY.not FB (by intro ps z;cases z));have TR:r≠D2:=by rintro rfl;rw[FB] at zc;cases zc
    have l0:∀b o uB,H5 b=some o->b≠D2->(upd H5 D2 uB) b=some o:=fun b o uB e h=>by rw[ap h];exact e
    refine kt _ _ _ V_ (by rw[aT,hb.1];exact bi hi (aX n2 (by decide))) ⟨⟨_,rfl⟩,bs++[r],by rw[cW];rfl,?_,?_,?_,?_,ae,?_⟩
    .intro b q8;rcases bX.mp q8 with z|z
     .exact Yv b z
     .rw[cu.mp z];exact Yx
    .refine Holds.snoc (hb.mono fun j hj e=>?_) (l0 _ _ _ hr5 TR);refine l0 _ _ _ (xJ _ _ e (QY.not e (by intro ps z;cases z))) (Yw _ ?_);rw[bW,bQ (by rw[hb.1];exact hj)];exact gv _
    .intro b o e h;exact l0 _ _ _ (xJ _ _ (xh _ _ e h) h) (am e jH)
    .rcases t5 with z|⟨c,z,y⟩
     .exact .inl (l0 _ _ _ z (gD z V_ (by intro q;cases q)))
     .exact .inr ⟨c,l0 _ _ _ z (gD z V_ (by intro q;cases q)),l0 _ _ _ y (gD y V_ (by intro q;cases q))⟩
    .intro b q8;rcases bX.mp q8 with z|z
     .exact Yw b z
     .rw[cu.mp z];exact TR
   .rintro ys σ H4 ⟨_,bs,rfl,Yv,hb,xh,QY,FB,Yw⟩;have QZ:H4 p=some (.ins C dx (d_ "tie_list" (.ref tl) (d_ "house_count" (.int n) []))):=xh _ _ OP (OQ.not OP (by intro ps z;cases z));have Yy:H D2=none:=d2.free (lP OP) OQ jH;refine⟨_,rfl,p,C,dx,_,rfl,QZ,T.cl,T.nO,by have h1:=eO "tie_list" (V.ref tl) (d_ "house_count" (V.int n) []);have h2:=eO "house_count" (V.int n) [];simp at h2;lia,?_⟩
    let G3:Hp:=upd H4 p (.ins C dx (d_ "out_lists" (.ref D2) (d_ "tie_list" (.ref tl) (d_ "house_count" (.int n) []))))
    have q3:∀b o,H4 b=some o->b≠p->G3 b=some o:=fun b o e h1=>by show upd _ _ _ _=_;rw[ap h1];exact e
    have OR:G3 p=some (.ins C dx (d_ "out_lists" (.ref D2) (d_ "tie_list" (.ref tl) (d_ "house_count" (.int n) [])))):=ae;have d3:oo p Pt H G3:=fun b o e h1 h2=>q3 _ _ (xh _ _ (d2 _ _ e h1 h2) h2) h1;have Yz:nh Pt G3:=QY.mono q3 QZ;have hb3:Holds G3 bs n (fun h=>.lst (NV (bq n (zp zs) h))):=hb.mono fun j hj e=>q3 _ _ e (gD e QZ (by intro z;cases z));have YA:G3 D2=some (.lst (bs.map V.ref)):=q3 _ _ FB (gD FB QZ (by intro z;cases z));have O3:tY G3 D2 n (zp zs):=⟨bs,YA,hb3⟩
    refine⟨_,rfl,n,rfl,by lia,by lia,fun D3 OS=>?_⟩;refine eR (n:=n) (lo:=0) (fun i ys σ H6=>(∃a,σ=[a,some (.ref p)])/\∃ds:List Addr,ys=ds.map V.ref/\(∀b∈ds,H b=none)/\Holds H6 ds i (fun s=>.lst (NV ((List.range n).map (far (zp zs) s))))/\aO G3 H6/\H6 D3=some (.lst ys)/\∀b∈ds,b≠D3)
     ⟨⟨_,rfl⟩,[],rfl,(fun _ h=>nomatch h),Holds.nil,ai OS,ae,(fun _ h=>nomatch h)⟩ ?_ ?_
    .rintro i ys σ H6 Kt Kf hi ⟨⟨a,rfl⟩,ds,rfl,YB,hd,KU,OT,R4⟩ kt kf;refine⟨_,rfl,p,C,dx,_,_,rfl,KU _ _ OR,T.cl,T.nO,by rw[bu,ao rfl],_,rfl,D2,n,i,zp zs,by rw[hZ];rfl,fi,hi,O3.same KU,fun r H7 YC OV hr7=>?_⟩;have e7D:H7 D3=some (.lst (ds.map V.ref)):=YC _ _ OT;have TR:r≠D3:=by rintro rfl;rw[OT] at OV;cases OV
     have Yx:H r=none:=oo.free (fun b o e h1 h2=>KU _ _ (d3 _ _ e h1 h2)) (lP (KU _ _ OR)) (Yz.same KU) OV;have l0:∀b o uB,H7 b=some o->b≠D3->(upd H7 D3 uB) b=some o:=fun b o uB e h=>by rw[ap h];exact e
     refine kt _ _ _ e7D (by rw[aT,hd.1];exact bi hi (aX n2 (by decide))) ⟨⟨_,rfl⟩,ds++[r],by rw[cW];rfl,?_,?_,?_,ae,?_⟩
     .intro b q8;rcases bX.mp q8 with z|z
      .exact YB b z
      .rw[cu.mp z];exact Yx
     .refine Holds.snoc (hd.mono fun j hj e=>?_) (l0 _ _ _ hr7 TR);refine l0 _ _ _ (YC _ _ e) (R4 _ ?_);rw[bW,bQ (by rw[hd.1];exact hj)];exact gv _
     .intro b o e;exact l0 _ _ _ (YC _ _ (KU _ _ e)) (am e OS)
     .intro b q8;rcases bX.mp q8 with z|z
      .exact R4 b z
      .rw[cu.mp z];exact TR
    .rintro ys σ H6 ⟨_,ds,rfl,YB,hd,KU,OT,R4⟩;have TU:=KU _ _ OR;refine⟨_,rfl,p,C,dx,_,rfl,TU,T.cl,T.nD,by have h1:=eO "tie_list" (V.ref tl) (d_ "house_count" (V.int n) []);have h2:=eO "house_count" (V.int n) [];have h3:=eO "out_lists" (V.ref D2) (d_ "tie_list" (V.ref tl) (d_ "house_count" (V.int n) []));simp at h2;lia,?_⟩;have q4:∀b o u,H6 b=some o->b≠p->(upd H6 p u) b=some o:=fun b o u e h1=>by rw[ap h1];exact e
     refine⟨_,rfl,p,C,dx,_,_,rfl,ae,T.cl,T.nD,by rw[bu,ao rfl],D3,ds,n,fun s=>NV ((List.range n).map (far (zp zs) s)),rfl,q4 _ _ _ OT (gD OT TU (by intro z;cases z)),n2,hd.mono fun j hj e=>q4 _ _ _ e (gD e TU (by intro z;cases z)),fun j hj x hx=>?_,fun H8 s8=>?_⟩
     .obtain⟨y,hy,rfl⟩:=bj.mp hx;exact⟨_,rfl⟩
     .have up:∀b o,G3 b=some o->b≠p->H8 b=some o:=fun b o e h1=>s8 _ _ (q4 _ _ _ (KU _ _ e) h1);have YD:H D3=none:=d3.free (lP OR) Yz OS;have upT:∀b o,G2 b=some o->b≠p->b≠Pt->H8 b=some o:=fun b o e h1 h2=>up _ _ (q3 _ _ (xh _ _ e h2) h1) h1;refine k H8 ⟨fi,dx,tl,D2,D3,s8 _ _ ae,Yy,YD,⟨bs,up _ _ YA (gD YA OR (by intro z;cases z)),Yv,hb3.mono fun j hj e=>up _ _ e (gD e OR (by intro z;cases z))⟩,
       ⟨ds,s8 _ _ (q4 _ _ _ OT (gD OT TU (by intro z;cases z))),YB,hd.mono fun j hj e=>s8 _ _ (q4 _ _ _ e (gD e TU (by intro z;cases z)))⟩,
       ⟨Ys,MU,upT _ _ g2t OO.symm (OQ.not g2t (by intro ps z;cases z)),fun z hz=>upT _ _ (Yu z hz) (gD (Yu z hz) OP (by intro z;cases z)) (OQ.not (Yu z hz) (by intro ps z;cases z)),Jo,((show (zp MU).Perm (zp xN) from pm.map _).trans (kP ez)),gj⟩⟩ ?_ fun b o e h1 h2=>up _ _ (d3 _ _ e h1 h2) h1
      exact Yz.mono up OR
end
theorem iX:NV xs++[.int (x:Int)]=NV (xs++[x]):=by unfold NV;rw[cW];rfl
theorem qy{xs:List Nat}{i:Nat}{x:V}(h:(NV xs)[i]?=some x):∃y,xs[i]?=some y/\x=.int (y:Int):=by
 unfold NV at h;rw[bU] at h;cases e:xs[i]? with
 |none=>rw[e] at h;cases h
 |some z=>rw[e] at h;exact⟨z,rfl,(bN h).symm⟩
end qx
namespace L2
open PySem PySem.Spec PyProof.Rows
section
variable {X:Cx}
def Wa(X:Cx)(H:Hp)(d:Nat)(x y:V):Prop:=∀ (af:List (Addr×Obj)) (s:Shared) (σ:St) (A:Around) (u v:Value),aS X af σ H s->A.units+d<cLine->bH x u->bH y v->SeqAt.EqAt A s u v true
theorem KW:Wa X H 0 (.int i) (.int i):=by
 intro af s σ A u v I hu rx ry;have h:=A0 (A:=A) (s:=s) rx ry rfl rfl;rw[show sV (.int i) (.int i)=true by show decide (i=i)=true;simp] at h;exact h
theorem EX(I:aS X af σ H s)(hu:A.units+d<cLine)(rx:aZ xs us)(ry:aZ ys vs)(he:∀i,i<xs.length->i<ys.length->Wa X H d (xs.getD i .cB) (ys.getD i .cB)):∀j (h1:j<us.toArray.size) (h2:j<vs.toArray.size),SeqAt.EqAt A s us.toArray[j] vs.toArray[j] true:=by
 intro j h1 h2;have j1:j<xs.length:=by rw[rx.length];simpa using h1
 have j2:j<ys.length:=by rw[ry.length];simpa using h2
 have e1:xs[j]?=some (xs.getD j .cB):=by rw[bW,bQ j1];rfl
 have e2:ys[j]?=some (ys.getD j .cB):=by rw[bW,bQ j2];rfl
 obtain⟨u,X9,ru⟩:=rx.get e1;obtain⟨v,Tf,rv⟩:=ry.get e2;have eu:us.toArray[j]=u:=by
  have:us[j]?=some us.toArray[j]:=by simp at h1 |-
  rw[X9] at this;exact(bN this).symm
 have ev:vs.toArray[j]=v:=by
  have:vs[j]?=some vs.toArray[j]:=by simp at h2 |-
  rw[Tf] at this;exact(bN this).symm
 rw[eu,ev];exact he j j1 j2 af s σ A u v I hu ru rv
theorem HS:(List.range n).all (fun _=>true)=true:=i_.mpr fun _ _=>rfl
def TV(X:Cx)(Se:Bool)(d:Nat):R2:=fun x y H Q=>∃p q xs ys,x=.ref p/\y=.ref q/\aW X.K H p xs/\aW X.K H q ys/\xs.length=ys.length/\(∀i,i<xs.length->i<ys.length->Wa X H d (xs.getD i .cB) (ys.getD i .cB))/\Q (.bl (!Se)) H
theorem KY{d:Nat}(hu:X.A.units+(d+1)<cLine):m_ X (compareOp .NotEq) (TV X true d):=by
 intro af s σ H x y v u Q I rx ry h;obtain⟨p,q,xs,ys,rfl,rfl,hp,hq,hl,he,k⟩:=h;obtain rfl:v=Value.ref p:=rx;obtain rfl:u=Value.ref q:=ry;obtain⟨us,r1,p1,_⟩:=I.list hp;obtain⟨vs,r2,p2,_⟩:=I.list hq;refine SeqAt.RcNeAt.lists (e:=fun _=>true) p1.isList p2.isList (by simp only[cz];rw[<-r1.length,<-r2.length];exact hl) (by lia) (EX I (by show X.A.units+1+d<cLine;lia) r1 r2 he) _ _ _ _ ⟨.bl _,H,I,rfl,?_⟩;rw[HS];exact k
end
end L2
namespace qx
open PySem L2 jy
section
variable {P:Program} {w:World} {K:PySem.W.Frag} {mg:Str->Option Value} {base:Heap}
end
end qx
namespace L2
open PySem PySem.Spec PyProof.Rows
def tZ(P:Program)(w:World)(h:Heap)(vs:List Value)(ps:List (List io×Addr×Value)):Prop:=vs.length=ps.length/\∀ (i:Nat) (v:Value),vs[i]?=some v->∃ (a:Addr) (o:Obj) (n:Nat) (b:Addr) (k:List io) (x:Value),v=Value.ref a/\h.get? a=some o/\o.cls=.type "tuple"/\o.data=.seq #[.ref b,x] n/\(tupleKind (cp P w)).is h k b/\ps[i]?=some (k,b,x)
theorem zd(x:(tupleKind (cp P w)).is h k b)(q:∀b o,(∃xs n,o.data=.seq xs n)->h.get? b=some o->h'.get? b=some o):(tupleKind (cp P w)).is h' k b:=by
 obtain⟨o,its,n,h1,h2,h3,h4⟩:=x;exact⟨o,its,n,q _ _ ⟨_,_,h3⟩ h1,h2,h3,h4⟩
theorem tZ.keeps(x:tZ P w h vs ps)(k:∀b o,(∃xs n,o.data=.seq xs n)->h.get? b=some o->h'.get? b=some o):tZ P w h' vs ps:=
 ⟨x.1,fun i v hv=>let ⟨a,o,n,b,kk,y,e1,e2,e3,e4,e5,e6⟩:=x.2 i v hv;⟨a,o,n,b,kk,y,e1,k a o ⟨_,_,e4⟩ e2,e3,e4,zd e5 k,e6⟩⟩
theorem t7{P:Program}{w:World}{h h':Heap}{d:Addr}{xs:List (List io×Addr×Value)}(x:h.DictOfH (tupleKind (cp P w)) d xs)(kd:∀o,h.get? d=some o->h'.get? d=some o)(q:∀b o,(∃xs n,o.data=.seq xs n)->h.get? b=some o->h'.get? b=some o):h'.DictOfH (tupleKind (cp P w)) d xs:=by
 obtain⟨o,es,ep,h1,h2,h3,h4,h5,h6⟩:=x;exact⟨o,es,ep,kd _ h1,h2,h3,h4,fun y hy=>zd (h5 y hy) q,h6⟩
section
variable {prog:Program} {w:World} {A:Around} {E:Value->Shared->Prop} {s:Shared} {R:Result->Shared->Prop} {l d Ia:Addr}
theorem BQ{vs:List Value}{ps:List (List io×Addr×Value)}(hh:A.handled=none)(hu:A.units+4<cLine)(hlD:l≠d)(Xk:l≠Ia)(YE:d≠Ia):
  ∀ (k i:Nat) (j:Int) (t:Tok) (s:Shared) (dq:List (List io×Addr×Value)),vs.length-i=k->i<=vs.length->s.heap.IsListIter Ia l i->s.heap.IsList l vs.toArray->tZ prog w s.heap vs ps->s.heap.DictOfH (tupleKind (cp prog w)) d dq->dq.length+k<=4096->
   (∀h' tk,(∀b o,b≠d->b≠Ia->s.heap.get? b=some o->h'.get? b=some o)->h'.DictOfH (tupleKind (cp prog w)) d ((ps.drop i).foldl (fun m p=>storedH m p.1 p.2.1 p.2.2) dq)->R (.ok (.ret .none)) { s with heap:=h',toks:=tk })->
   codeAny (model prog w) A (.builtin "dict.update.loop" ⟨[.ref d,.ref Ia,.int j t,.none],[]⟩) R s:=by
 intro k;induction k with
 |zero=>
  intro i j t s dq hk hi xK hl hp hD hz hR;refine kR qq ?_;rw[oZ iV _];show wpAny _ A.in1 (pyNext (.ref Ia) >>= _) _ _ s;refine aw (Aj (show A.in1.handled=none from hh) xK hl (by simp;lia) fun h' eb=>?_);have hd:ps.drop i=[]:=by rw[List.drop_eq_nil_iff];have:=hp.1;lia
  have hR':=hR h' s.toks (fun b o hb J5 e=>eb b o J5 e);rw[hd] at hR';refine aw (wpAny_pure (wpAny_pure (hR' ?_)));refine t7 hD (fun o e=>eb d o YE e) fun b o hb e=>eb b o (fun z=>?_) e;obtain⟨oi,e1,_,d1⟩:=xK;obtain⟨xs,m,hb⟩:=hb;rw[z,e1] at e;cases e;rw[d1] at hb;cases hb
 |succ k ih=>
  intro i j t s dq hk hi xK hl hp hD hz hR;have dZ:i<vs.length:=by lia
  refine kR qq ?_;rw[oZ iV _];show wpAny _ A.in1 (pyNext (.ref Ia) >>= _) _ _ s;have hv:vs[i]?=some vs[i]:=bQ dZ;refine aw (Af xK hl (x:=vs[i]) (by simpa using hv) fun h1 NX qF=>?_);have VT:∀b ob,(∃xs n,ob.data=.seq xs n)->s.heap.get? b=some ob->b≠Ia:=fun b ob ⟨xs,m,z⟩ e z'=>by
   obtain⟨oi,e1,_,d1⟩:=xK;rw[z',e1] at e;cases e;rw[d1] at z;cases z
  have k1:∀b ob,(∃xs n,ob.data=.seq xs n)->s.heap.get? b=some ob->h1.get? b=some ob:=fun b ob hb e=>(qF.2 b (VT b ob hb e)).trans e;have ng:tZ prog w h1 vs ps:=hp.keeps k1;have BR:h1.DictOfH (tupleKind (cp prog w)) d dq:=t7 hD (fun o e=>(qF.2 d YE).trans e) k1;have Ei:h1.IsList l vs.toArray:=by
   obtain⟨ol,q1,q2⟩:=hl;exact⟨ol,(qF.2 l Xk).trans q1,q2⟩
  obtain⟨a,o,n,b,kk,x,ea,Sw,ec,ed,ek,ep⟩:=ng.2 i _ hv;rw[ea];have neD:∀b ob,(∃xs n,ob.data=.seq xs n)->h1.get? b=some ob->b≠d:=fun b ob ⟨xs,m,z⟩ e z'=>by
   obtain⟨oS,es,Rz,q1,_,q4,_⟩:=BR;rw[z',q1] at e;cases e;rw[q4] at z;cases z
  have hT:Shared.TypeIs { s with heap:=h1 } (.ref a) "tuple":=⟨o,Sw,ec⟩
  refine aw (gC ?_);show wpAny _ A.in1 (Sem.tryCatch (Builtin.Dict.pairItems (.ref a)) _ >>= _) _ _ _;refine aw (wpAny_tryCatch ?_);unfold Builtin.Dict.pairItems;refine aw (wpAny_typeOf hT ?_);rw[ao (by decide)];refine aw (hX Sw ed (wpAny_pure ?_));show wpAny _ A.in1 (holding [.ref b,x] (dictSet d (.ref b) x)) _ _ _;refine gC (wpAny_dictSet_heap (s:={ s with heap:=h1 }) (show A.in1.units<cLine from by show A.units+1<cLine;lia) ek BR (fun h2 jH pR=>?_) (aX (by lia:dq.length<=4096) (by decide)));refine wpAny_pure ⟨sn iV _,?_⟩;have vc:i<ps.length:=by have:=hp.1;lia
  have Xm:ps.drop i=(kk,b,x)::ps.drop (i+1):=by
   rw[oJ vc];have:ps[i]?=some ps[i]:=bQ vc;rw[this] at ep;rw[bN ep]
  have eJ:(storedH dq kk b x).length<=dq.length+1:=by
   unfold storedH;split
   .rw[aT];lia
   .rw[dh];simp
  have k2:∀b ob,(∃xs n,ob.data=.seq xs n)->h1.get? b=some ob->h2.get? b=some ob:=fun b ob hb e=>(pR.2 b (neD b ob hb e)).trans e;refine ih (i+1) _ _ { s with heap:=h2,toks:=_ } (storedH dq kk b x) (by lia) dZ ?_ ?_ (ng.keeps k2) jH (by lia) fun h3 Xn k3 D3=>?_
  .obtain⟨oi,q1,q2⟩:=NX;exact⟨oi,(pR.2 Ia (dv YE)).trans q1,q2⟩
  .obtain⟨ol,q1,q2⟩:=Ei;exact⟨ol,(pR.2 l hlD).trans q1,q2⟩
  .refine hR h3 Xn (fun b ob hb J5 e=>k3 b ob hb J5 ((pR.2 b hb).trans ((qF.2 b J5).trans e))) ?_;rw[Xm];exact D3
end
section
variable {prog:Program} {w:World} {A:Around} {E:Value->Shared->Prop} {s:Shared} {l:Addr}
theorem OX(h:Heap):(h.push { cls:=.type "dict",data:=.dict #[] }).DictOfH (tupleKind (cp P w)) h.objs.size []:=
 ⟨_,#[],0,b_ _ rfl,⟨rfl,rfl,rfl⟩,rfl,rfl,(fun x hx=>nomatch hx),jK⟩
theorem BS(hh:A.handled=none)(hu:A.units+8<cLine)(hl:s.heap.get? l=some { cls:=.type "list",data:=.seq vs.toArray n })(hp:tZ prog w s.heap vs ps)(hz:vs.length<=4096)(h:∀h' tk,h'.DictOfH (tupleKind (cp prog w)) s.heap.objs.size (ps.foldl (fun m p=>storedH m p.1 p.2.1 p.2.2) [])->(∀b o,s.heap.get? b=some o->h'.get? b=some o)->Q (.ref s.heap.objs.size) { s with heap:=h',toks:=tk }):
  wpAny (model prog w) A (call (.type "dict") [.ref l]) Q E s:=by
 refine callType_codes (Q₁:=fun obj s₁=>obj=.ref s.heap.objs.size/\s₁={ s with heap:=s.heap.push { cls:=.type "dict",data:=.dict #[] } }) F.kt_called_dict (F.kt_typeCall_dict_1 _) F.entry_dict_init (kt_code_dict_new _ ⟨rfl,rfl⟩) ?_;rintro obj s₁ ⟨rfl,rfl⟩;have MV:(s.heap.push { cls:=.type "dict",data:=.dict #[] }).DictOf (cp prog w) s.heap.objs.size []:=Heap.DictOf.new s.heap;have sX:(s.heap.push { cls:=.type "dict",data:=.dict #[] }).DictOfH (tupleKind (cp prog w)) s.heap.objs.size []:=OX s.heap;have gZ:(s.heap.push { cls:=.type "dict",data:=.dict #[] }).objs.size=s.heap.objs.size+1:=iy ..;have up:∀b o,s.heap.get? b=some o->(s.heap.push { cls:=.type "dict",data:=.dict #[] }).get? b=some o:=fun b o e=>bw _ e;have dZ:l<s.heap.objs.size:=aP hl;refine⟨MV.typeIs,F.args_dict_init_2 _ _,?_⟩;generalize (s.heap.push { cls:=.type "dict",data:=.dict #[] })=hD at *;have hT:Shared.TypeIs { s with heap:=hD } (.ref l) "list":=⟨_,up _ _ hl,rfl⟩
 unfold Builtin.«dict.__init__»;refine aw ?_;unfold Builtin.Dict.selfAndRest;refine aw (wpAny_notOrdered_dict MV.typeIs (wpAny_pure ?_));show wpAny _ _ (Builtin.Dict.updateFrom "dict.__init__" s.heap.objs.size (.ref l) [] .none) _ _ _;unfold Builtin.Dict.updateFrom;refine aw (wpAny_typeOf hT ?_);rw[ao (by decide)];refine aw (Oc (s:={ s with heap:=hD }) (show A.in1.handled=none from hh) (up _ _ hl) fun h1 tk1 k1=>?_);have Ei:h1.get? l=some { cls:=.type "list",data:=.seq vs.toArray n }:=k1 _ _ (up _ _ hl);have t_:h1.IsList l vs.toArray:=⟨_,Ei,rfl,n,rfl⟩
 rw[ao (by rfl)];refine aw (fE ?_);refine aw (rY (s:={ s with heap:=h1,toks:=tk1 }) t_ ?_);have YF:s.heap.objs.size<h1.objs.size:=by
  obtain⟨o,es,ep,q1,q2⟩:=sX;exact aP (k1 _ _ q1)
 refine wpAny_pure ⟨sn iV _,?_⟩;refine BQ (l:=l) (vs:=vs) (ps:=ps) (Ia:=h1.objs.size) (show A.in1.handled=none from hh) (show A.units+1+4<cLine by lia) (ba dZ) (ba (pA dZ YF)) (ba YF) vs.length 0 0 0 _ [] (by simp) (bE _) ⟨_,b_ _ rfl,rfl,rfl⟩ ?_ ?_ ?_ (by simpa using hz) fun h2 BU k2 D2=>?_
 .exact⟨_,bw _ Ei,rfl,n,rfl⟩
 .exact hp.keeps fun b o _ e=>bw _ (k1 _ _ (up _ _ e))
 .exact t7 sX (fun o e=>bw _ (k1 _ _ e)) fun b o _ e=>bw _ (k1 _ _ e)
 .refine⟨rfl,h h2 BU D2 fun b o e=>k2 b o (ba (aP e)) (ba (pA (aP e) YF)) (bw _ (k1 _ _ (up _ _ e)))⟩
end
abbrev TK:=List io×Addr×V
def dJ(m:List (List io×V))(ps:List TK):List (List io×V):=ps.foldl (fun m p=>tw m p.1 p.2.2) m
inductive KP (H:Hp):List TK->List (List io×Addr×Value)->Prop where
 |nil:KP H [] []
 |cons {k:List io} {b:Addr} {v:V} {u:Value} {ps:List TK} {us:List (List io×Addr×Value)} (hb:H b=some (.tup (k.map kV))) (r:bH v u) (t:KP H ps us):KP H ((k,b,v)::ps) ((k,b,u)::us)
theorem KP.fold:∀ {ps:List TK} {us:List (List io×Addr×Value)} {m:List (List io×V)} {m':List (List io×Addr×Value)},KP H ps us->KT H m m'->KT H (dJ m ps) (us.foldl (fun m p=>storedH m p.1 p.2.1 p.2.2) m')
 |[],_,_,_,.nil,r=>r
 |(k,b,v)::ps,_,m,m',.cons (us:=us) hb rv t,r=>by
  have:=KP.fold (ps:=ps) (us:=us) t (r.put k hb rv);exact this
theorem qz:∀ (ps:List TK) (m:List (List io×V)),(dJ m ps).length<=m.length+ps.length
 |[],m=>by show m.length<=_;simp
 |p::ps,m=>by
  have h1:=qz ps (tw m p.1 p.2.2);have h2:=yz m p.1 p.2.2;show (dJ (tw m p.1 p.2.2) ps).length<=_;rw[eF];lia
theorem ze(ok:mE P w H h):∀ (ts:List Addr) (ps:List TK),ts.length=ps.length->(∀i,i<ps.length->∃k b v,ps[i]?=some (k,b,v)/\H (ts.getD i 0)=some (.tup [.ref b,v])/\H b=some (.tup (k.map kV)))->
  ∃us:List (List io×Addr×Value),KP H ps us/\tZ P w h (ts.map Value.ref) us
 |[],[],_,_=>⟨[],.nil,rfl,fun i v hv=>by simp at hv⟩
 |[],_::_,e,_=>by simp at e
 |_::_,[],e,_=>by simp at e
 |t::ts,(k,b,v)::ps,e,hs=>by
  obtain⟨us,r,T⟩:=ze ok ts ps (by simpa using e) fun i hi=>by
   obtain⟨k',b',v',h1,h2,h3⟩:=hs (i+1) (by simp;lia);exact⟨k',b',v',by simpa using h1,by simpa using h2,h3⟩
  obtain⟨k0,b0,v0,g1,g2,g3⟩:=hs 0 (by simp);have g1':(k,b,v)=(k0,b0,v0):=by simpa using g1
  cases g1';have g2':H t=some (.tup [.ref b,v]):=by simpa using g2
  obtain⟨_,its,rv,o,q1,q2,n,q3⟩:=ok t _ g2';cases rv with
  |cons ra rr=>
   cases rr with
   |cons rb rr2=>
    cases rr2;rename_i ka vb;obtain rfl:ka=Value.ref b:=ra;refine⟨(k,b,vb)::us,.cons g3 rb r,by simp[T.1],fun i x hx=>?_⟩;cases i with
    |zero=>
     have sE:Value.ref t=x:=by simpa using hx
     exact⟨t,o,n,b,k,vb,sE.symm,q1,q2,q3.1,pW ok g3,rfl⟩
    |succ i=>exact T.2 i x (by simpa using hx)
section
variable {X:Cx}
def OY:List V->Hp->VK->Prop:=fun xs H Q=>∃ (l:Addr) (ts:List Addr) (ps:List TK),xs=[.ref l]/\H l=some (.lst (ts.map V.ref))/\ts.length=ps.length/\(∀i,i<ps.length->∃k b v,ps[i]?=some (k,b,v)/\H (ts.getD i 0)=some (.tup [.ref b,v])/\H b=some (.tup (k.map kV)))/\ps.length<=4096/\
 ∀D,H D=none->Q (.ref D) (upd H D (.dT (dJ [] ps)))
theorem BV(hc:X.calm=true)(hu:X.A.units+8<cLine):fh X (.type "dict") OY:=by
 intro af s σ H xs us Q I r h;obtain⟨l,ts,ps,rfl,hl,eJ,ht,hz,q⟩:=h;obtain⟨u1,rfl,r1⟩:=r.one;obtain rfl:u1=Value.ref l:=r1;obtain⟨z,its,n,rv,_,e⟩:=I.ux hl;have wL:its=ts.map Value.ref:=wK rv;subst wL;obtain⟨vs,kv,T⟩:=ze I.ce ts ps eJ ht;refine BS (I.ok.hd hc) hu e T (by rw[aT,eJ];exact hz) fun h' tk D k=>?_;have hs:sysModules<s.heap.objs.size:=pA (by decide:sysModules<mainGlobals) (I.mod.glob.keeps I.bk).lt;have nf:=I.ce.fresh (aK s.heap.objs.size);have I2:aS X af σ (upd H s.heap.objs.size (.dT (dJ [] ps))) { s with heap:=h',toks:=tk }:=by
  obtain⟨o,es,ep,h1,h2,h3,h4,_,h6⟩:=D;refine I.yj (t':=tk) k (oY (aK _)) ⟨?_,?_,_,KT.keeps (KP.fold kv .nil) fun b ys eb=>?_,o,es,ep,h1,h2,h3,h4,h6⟩
  .have:=qz ps [];exact aX this (aX (by simpa using hz) (by decide:4096<=sizeLine))
  .rw[nq];exact fw hs
  .rw[ap (am eb nf)];exact eb
 exact⟨.ref s.heap.objs.size,_,I2,rfl,q _ nf⟩
end
structure Q0(K:PySem.W.Frag)(C:Addr):Prop where
 makes:PySem.W.makesIn K C=true
 init:PySem.W.findIn K (.ref C) "__init__"=some (some (.builtin "object.__init__"))
 keep:PySem.W.keepIn K (.ref C)=true
section
variable {X:Cx} {C:Addr} {x:Str} {p pos:Pos}
def YG(C:Addr):TE:=fun _ H Q=>∀y dx,H y=none->H dx=none->dx≠y->Q (.ref y) (upd (upd H dx (.own y)) y (.ins C dx []))
theorem ua(M:Q0 X.K C)(hg:Gl X x)(hm:X.mg x=some (.ref C))(D7:(x==("__debug__":Str))=false:=by decide):PE X (.Call (.Name x p) [] [] pos) (YG C):=by
 intro af s σ H Q I h;refine mm (qS I hg hm ?_ D7);have I2:=aS.made (C:=C) I;have dQ:wpAny (model X.prog X.w) X.A (call (.ref C) []) (EP X af σ Q) X.xe s:=by
  refine pF ?_;refine D5 I.ny M.makes M.init (fun self=>PySem.W.Looks.of_pure (PySem.W.oi_bind self)) ?_;have Y:=Au (M:=model X.prog X.w) I.ny M.makes;have t1:PySem.W.Looks (model X.prog X.w) ((s.heap.push PySem.W.emptyDict).push (PySem.W.instObj C s.heap.objs.size)) (typeOf (.ref (s.heap.objs.size+1))) (.ref C):=(PySem.W.Looks.ld (by heap_get)).andThen .now;have t2:PySem.W.Looks (model X.prog X.w) ((s.heap.push PySem.W.emptyDict).push (PySem.W.instObj C s.heap.objs.size)) (isInstance (.ref (s.heap.objs.size+1)) (.type "object")) true:=t1.andThen (Y.top.keeps fun b o e=>bw _ (bw _ e));refine vW PySem.W.oi_plain PySem.W.entry_oi (@PySem.W.check_slot (model X.prog X.w) _ _ _ "object.__init__" "object" "__init__" (.ref (s.heap.objs.size+1)) [] [] _ PySem.W.oi_kind PySem.W.oi_split t2 (PySem.W.oi_args (.ref (s.heap.objs.size+1))) ?_);rw[PySem.W.oi_run];refine wpAny_pure (And.intro rfl ?_);exact⟨.ref (s.heap.objs.size+1),_,I2,rfl,h _ _ (I.ce.fresh (sr _)) (I.ce.fresh (aK _)) (ba (kH _))⟩
 exact PySem.W.callWith_K0 I.ny M.keep dQ
end
section
variable {X:Cx}
end
end L2
namespace jy
abbrev fz(ts:Ts)(h:Int):Nat:=(ts.filter fun t=>decide (t.1=h)).length
theorem Dm:fz (ts++us) h=fz ts h+fz us h:=by unfold fz;rw[gn,dh]
theorem xi:fz [(a,b),(b,a)] h=(if a=h then 1 else 0)+(if b=h then 1 else 0):=by
 unfold fz;by_cases c1:a=h <;> by_cases c2:b=h <;> simp[c1,c2]
theorem Dn:fz (dD (ps++[(a,b)])) h=fz (dD ps) h+((if a=h then 1 else 0)+(if b=h then 1 else 0)):=by
 rw[mR,Dm];exact congrArg _ xi
theorem KZ:dD [(a,b)]=[(a,b),(b,a)]:=rfl
theorem K0(ha:a<n)(hb:b<n)(qr:a≠b):zU n [(ci a,ci b),(ci b,ci a)]:=by
 have ne:ci a≠ci b:=fun e=>qr (du e);refine⟨?_,?_,?_,?_,?_⟩
 .rw[fL];refine⟨fun h=>?_,by simp⟩;have:=cu.mp h;exact ne (congrArg Prod.fst this)
 .intro t ht;rcases bb.mp ht with rfl|ht
  .exact⟨⟨by lia,by lia⟩,⟨by lia,by lia⟩⟩
  .rw[cu.mp ht];exact⟨⟨by lia,by lia⟩,⟨by lia,by lia⟩⟩
 .intro t ht;rcases bb.mp ht with rfl|ht
  .exact ne
  .rw[cu.mp ht];exact fun e=>ne e.symm
 .intro h;by_cases c1:ci a=h <;> by_cases c2:ci b=h <;> simp[c1,c2]
 .intro h;have:=xi (a:=ci a) (b:=ci b) (h:=h);show fz [(ci a,ci b),(ci b,ci a)] h<=8;rw[this];split <;> split <;> lia
theorem bK.pair(F:bK n (dD ps))(ha:a<n)(hb:b<n)(qr:a≠b)(h1:(ci a,ci b)∉ps)(h2:(ci b,ci a)∉ps)(d1:fz (dD ps) (ci a)<=7)(d2:fz (dD ps) (ci b)<=7):bK n (dD (ps++[(ci a,ci b)])):=by
 rw[mR,KZ];have ne:ci a≠ci b:=fun e=>qr (du e);refine F.app (rj F.pre (K0 ha hb qr) (fun t ht=>?_) fun h=>?_)
 .rcases bb.mp ht with rfl|ht
  .exact fun z=>(n0.mp z).elim h1 h2
  .rw[cu.mp ht];exact fun z=>(n0.mp z).elim h2 h1
 .show fz (dD ps) h+fz [(ci a,ci b),(ci b,ci a)] h<=8;rw[xi];have m:=F.most h;by_cases c1:ci a=h
  .subst c1;rw[ao rfl,ak (fun e=>ne e.symm)];lia
  .by_cases c2:ci b=h
   .subst c2;rw[ak c1,ao rfl];lia
   .rw[ak c1,ak c2];exact m
theorem K1(P:zU n ts):zU n (ts.map uG):=by
 have fl:∀h:Int,((ts.map uG).filter fun t=>decide (t.1=h)).length=(ts.filter fun t=>decide (t.2=h)).length:=fun h=>by
  rw[pi,aT];rfl
 have fl2:∀h:Int,((ts.map uG).filter fun t=>decide (t.2=h)).length=(ts.filter fun t=>decide (t.1=h)).length:=fun h=>by
  rw[pi,aT];rfl
 refine⟨?_,fun t ht=>?_,fun t ht=>?_,fun h=>?_,fun h=>?_⟩
 .refine fu.mpr (P.nd.imp fun {x y} vk e=>vk ?_);have e1:=congrArg Prod.fst e;have e2:=congrArg Prod.snd e;exact iB e2 e1
 .obtain⟨u,hu,rfl⟩:=bj.mp ht;exact⟨(P.rg u hu).2,(P.rg u hu).1⟩
 .obtain⟨u,hu,rfl⟩:=bj.mp ht;exact fun e=>P.ne u hu e.symm
 .rw[fl,fl2,P.EI]
 .rw[fl,<-P.EI];exact P.most h
theorem OZ(h:3<=m)(hk:k<m):pk m (pk m k)≠k:=by
 unfold pk;split <;> split <;> lia
theorem zf(n1:3<=n)(n2:n<=32)(pm:xs.Perm (List.range n)):bK n (dD (uF xs)):=by
 have F:=vx (by lia) n2 pm;have nd:xs.Nodup:=pm.nodup_iff.mpr i9;have hl:xs.length=n:=by rw[pm.length_eq,cG]
 have lt:∀x∈xs,x<n:=fun x hx=>bD.mp (pm.mem_iff.mp hx);obtain⟨P,one⟩:=wW nd lt (by lia);have Q:=K1 P;refine bK.perm ?_ iK;refine F.app (rj P Q (fun t ht hm=>?_) fun h=>?_)
 .obtain⟨u,hu,rfl⟩:=bj.mp ht;obtain⟨k,hk,rfl⟩:=nZ hu;obtain⟨j,hj,e⟩:=nZ hm;have e1:xs.getD k 0=xs.getD (pk xs.length j) 0:=du (congrArg Prod.fst e);have e2:xs.getD (pk xs.length k) 0=xs.getD j 0:=du (congrArg Prod.snd e);have pj:=vw hj;have pk':=vw hk;rw[cE hk,cE pj] at e1;rw[cE pk',cE hj] at e2;have i1:=jA nd hk pj e1;have i2:=jA nd pk' hj e2;rw[<-i2] at i1;exact OZ (by lia) hk i1.symm
 .have o1:=one h;have e:((uF xs).map uG).filter (fun t=>decide (t.1=h))=((uF xs).filter fun t=>decide (t.2=h)).map uG:=by rw[pi];rfl
  rw[e,aT,<-P.EI];lia
def mV(xs:List Nat):Ts:=(List.range xs.length).map fun k=>(ci (xs.getD k 0),ci (xs.getD ((k+1) % xs.length) 0))
theorem HU:((List.range m).map fun k=>(k+1) % m).Perm (List.range m):=by
 cases m with
 |zero=>exact hW _
 |succ m=>
  rw[jr,cW,List.map_singleton,Nat.mod_self];have e:(List.range m).map (fun k=>(k+1) % (m+1))=(List.range m).map (·+1):=jo fun k hk=>i8 (by have:=bD.mp hk;lia);rw[e];refine jn.trans ?_;rw[<-jr,oP];exact hW _
theorem lQ:(mV xs).Perm (uF xs):=by
 have h:=(HU (m:=xs.length)).map fun k=>(ci (xs.getD (pk xs.length k) 0),ci (xs.getD k 0))
 rw[dk] at h;refine List.Perm.trans (kP ?_) h;unfold mV;refine jo fun k hk=>?_;have Jr:=bD.mp hk;have:pk xs.length ((k+1) % xs.length)=k:=by
  by_cases c:k+1=xs.length
  .rw[c,Nat.mod_self];unfold pk;rw[ao rfl];lia
  .rw[i8 (by lia)];unfold pk;rw[ak (by lia)];lia
 show _=(ci (xs.getD (pk xs.length ((k+1) % xs.length)) 0),ci (xs.getD ((k+1) % xs.length) 0));rw[this]
theorem bK.round(F:bK n ts)(nd:xs.Nodup)(lt:∀x∈xs,x<n)(c2:2<=xs.length)(hf:∀x∈xs,fz ts (ci x)<=7)(hn:∀t∈mV xs,t∉ts):bK n (ts++mV xs):=by
 have P:=EK F.pre nd lt c2 (fun t ht=>?_) (fun t ht=>hn t (lQ.mem_iff.mpr ht))
 .exact(F.app P).perm (kC _ lQ)
 .obtain⟨k,hk,rfl⟩:=nZ ht;exact hf _ (lN (vw hk))
end jy
namespace qx
open PySem L2 jy
abbrev O0:Stmt:=top 39
abbrev HV:Stmt:=top 40
abbrev HW:Stmt:=top 52
structure Q3(mg:Str->Option Value):Prop where
 abs:mg "abs"=none
 divmod:mg "divmod"=none
 dict:mg "dict"=none
 zip:mg "zip"=none
 repr:mg "repr"=none
def bf(H:Hp)(p:Addr):Prop:=∃a b:Int,H p=some (.lst [.int a,.int b])/\0<=a/\0<=b/\b<4294967296
theorem bf.same(h:bf H p)(s:aO H H'):bf H' p:=let ⟨a,b,e,r⟩:=h;⟨a,b,s _ _ e,r⟩
theorem bf.full(h:bf H p):H p≠none:=by obtain⟨a,b,e,_⟩:=h;rw[e];intro z;cases z
theorem bf.ne(h:bf H p)(e:H q=none):q≠p:=by rintro rfl;exact h.full e
theorem bf.put(h:bf H p)(n:p≠q):bf (upd H q o) p:=let ⟨a,b,e,r⟩:=h;⟨a,b,by rw[ap n];exact e,r⟩
theorem bf.neT(h:bf H p)(e:H q=some (.tup xs)):q≠p:=by rintro rfl;obtain⟨a,b,z,_⟩:=h;rw[e] at z;cases z
theorem PO.qA(h:PO H zs)(s:aI p H H')(hp:bf H p):PO H' zs:=fun z hz=>s _ _ (h z hz) (hp.neT (h z hz))
theorem TW{j:Int}(h1:0<j)(h2:j<2 ^ 200):Nat.log2 j.natAbs<200:=(Nat.log2_lt (by lia)).mpr (by lia)
theorem HX{X:Cx}:m_ X (binaryOp .FloorDiv) (rI (fun _ j=>0<j/\j<2 ^ 200) fun i j=>.int (i / j)):=RY fun i j _ _ _ _ _ hc q=>by
 have h1:(0:Int)<j:=hc.1;have h2:j<2 ^ 200:=hc.2;refine PyProof.Rows.floordiv_int (by lia) (by rw[zY i (by lia)];exact q) (.inl (FP ?_));exact pA (TW h1 h2) (by decide)
theorem xj{X:Cx}:fh X (.builtin "divmod") (fun xs H Q=>∃i j,xs=[.int i,.int j]/\(0<j/\j<2 ^ 200)/\∀p,H p=none->Q (.ref p) (upd H p (.tup [.int (i / j),.int (i % j)]))):=by
 intro af s σ H xs us Q I r h;obtain⟨i,j,rfl,⟨h1,h2⟩,q⟩:=h;obtain⟨u,w',rfl,⟨t,rfl⟩,⟨t',rfl⟩⟩:=F8 r;refine PyProof.Rows.divmod_int (by lia) ?_ (.inl (FP (pA (TW h1 h2) (by decide))));rw[zY i (by lia),zX i (by lia)];have hn:H s.heap.objs.size=none:=I.ce.fresh (aK _);refine⟨.ref s.heap.objs.size,_,?_,rfl,q _ hn⟩;refine I.laid (fun b o e=>bw _ e) (aK _) ⟨by simp only[eF,List.length_nil];rw[ff];decide,[.int (i / j) s.toks,.int (i % j) (s.toks+1)],.cons ⟨_,rfl⟩ (.cons ⟨_,rfl⟩ .nil),?_⟩;exact⟨_,b_ s.heap rfl,rfl,0,rfl,rfl⟩
section
variable {P:Program} {w:World} {K:PySem.W.Frag} {mg:Str->Option Value} {base:Heap}
theorem MW:aR ["_law_script","_law_k","_law_cell"] ["_law_script","_law_k"] (av O0):=⟨rfl,rfl,rfl,by decide +kernel,rfl,by decide +kernel,by decide +kernel⟩
def HY(K:PySem.W.Frag):Sp:=fun vs H Q _=>∃ (a:Addr) (ns:List Int) (k:Nat),vs=[.ref a,.int k]/\aW K H a (ns.map V.int)/\k<64/\∀ (r:Addr) (H':Hp),aO H H'->H r=none->bf H' r->Q (.ref r) H'
theorem O1(F:ig K "_law_pot" "_law_pot" O0 f fd)(B:Bl mg)(B2:Q3 mg):bA P w K mg base bg 1 f fd ["_law_script","_law_k"] (HY K):=by
 refine F.ok MW (fun vs H Q E h=>?_) (fun eY A outer s H vs Q E hr h=>?_)
 .obtain⟨a,ns,k,rfl,_⟩:=h;rfl
 .obtain⟨a,ns,k,rfl,hS,hk,q⟩:=h;refine⟨_,(aj (aU (i:=2) MW.nd rfl (Or.inl rfl) (FV (aQ lW (pv 1) (aD aM (by rfl) B.len dW (aa (pv 0) ag)) (a8 _)) (aV aL (pv 0) (pv 1) (fun _ _=>rfl)) az))
   (au (a_ (cS (aa (aD (pL rfl) (by rfl) B.max vO (aa az (aa (aY jV (aD xX (by rfl) B2.abs PyProof.Rows.boot_abs (aa (pv 2) ag)) (aY AR az az)) ag))) (aa (aY cZ (aY cZ (aY iE (aD xX (by rfl) B2.abs PyProof.Rows.boot_abs (aa (pv 2) ag)) az) (aY k_ az (pv 1))) az) ag)))))),?_⟩
  dsimp only;refine vy (fun σ Hc=>Hc=H/\∃c:Int,σ=[some (.ref a),some (.int k),some (.int c)]) ?_ ?_
  .rintro σ Hc ⟨rfl,c,rfl⟩;obtain⟨z,hz,z0⟩:∃z:Int,z=(if c<0 then -c else c)/\0<=z:=⟨_,rfl,by split <;> lia⟩
   have m0:0<=z % 2147483629:=r6 _ (by decide);have m1:z % 2147483629<2147483629:=rP _ (by decide);refine⟨_,rfl,c,rfl,?_⟩;rw[<-hz];refine⟨_,_,rfl,rfl,⟨by decide,by decide,by decide⟩,_,_,rfl,rfl,0,_,rfl,_,rfl,c,rfl,?_⟩;rw[<-hz];refine⟨_,_,rfl,rfl,(by show (0:Int)<2147483629;decide),_,rfl,_,_,rfl,rfl,.inl ⟨by decide,by decide⟩,_,_,rfl,rfl,_,_,rfl,rfl,by show 2<=sizeLine;decide,fun r Fu=>?_⟩;exact q r _ (ai Fu) Fu ⟨_,_,ae,by split <;> lia,by lia,by lia⟩
  .intro N hN;refine⟨_,rfl,_,rfl,a,_,rfl,.inl hS,_,_,rfl,rfl,_,rfl,fZ (fun e=>?_) (fun e=>hN _ _ ⟨rfl,0,rfl⟩)⟩;have My:k<ns.length:=by have:=fc e;rw[aT] at this;lia
   exact⟨_,rfl,_,rfl,a,_,_,.int ns[k],rfl,rfl,hS,aB (by rw[bU,bQ My];rfl),hN _ _ ⟨rfl,_,rfl⟩⟩
theorem HZ:aR ["_law_pot_here","_law_many","_law_digit"] ["_law_pot_here","_law_many"] (av HV):=⟨rfl,rfl,rfl,by decide +kernel,rfl,by decide +kernel,by decide +kernel⟩
def gO:Sp:=fun vs H Q _=>∃ (p:Addr) (m:Nat),vs=[.ref p,.int m]/\0<m/\m<2 ^ 200/\bf H p/\∀ (d:Nat) (H':Hp),d<m->aI p H H'->bf H' p->Q (.int d) H'
theorem K2(F:ig K "_law_take" "_law_take" HV f fd)(B2:Q3 mg):bA P w K mg base bg 1 f fd ["_law_pot_here","_law_many"] gO:=by
 refine F.ok HZ (fun vs H Q E h=>?_) (fun eY A outer s H vs Q E hr h=>?_)
 .obtain⟨p,m,rfl,_⟩:=h;rfl
 .obtain⟨p,m',rfl,m0',m1',⟨a,b,hp,a0,b0,b1⟩,q'⟩:=h;generalize hm:((m':Nat):Int)=m;have m0:0<m:=by lia
  have m1:m<2 ^ 200:=by lia
  have q:∀ (d a b:Int) (H':Hp),0<=d->d<m->0<=a->0<=b->b<4294967296->aI p H H'->H' p=some (.lst [.int a,.int b])->Q (.int d) H':=fun d a b H' h1 h2 h3 h4 h5 h6 h7=>by
   have:=q' d.toNat H' (by lia) h6 ⟨a,b,h7,h3,h4,h5⟩;rw[oX h1] at this;exact this
  refine⟨_,(aj (cC (aQ Mi (aV aL (pv 0) az (fun _ _=>rfl)) az (a8 _)) (aj (dM (aD xj (by rfl) B2.divmod PyProof.Rows.boot_divmod (aa (aV aL (pv 0) az (fun _ _=>rfl)) (aa (pv 1) ag))) (dA (n:=2) rfl (aG (fX (pv 0) az dH) (aG (aA (i:=2) HZ.nd rfl (Or.inl rfl)) cr))))
    (au (a_ (pv 2)))) bh)
   (aj (dM (aY iE (aY cZ (aY k_ (aV aL (pv 0) az (fun _ _=>rfl)) az) az) az) (fX (pv 0) az dH))
   (au (a_ (aY iE (aY HX (aY iE (aY k_ (aV aL (pv 0) az (fun _ _=>rfl)) (aV aL (pv 0) az (fun _ _=>rfl))) az) az) (pv 1)))))),?_⟩
  have g0:ya [V.int a,V.int b] 0=some (.int a):=aB (j:=0) rfl;have g1:ya [V.int a,V.int b] 1=some (.int b):=aB (j:=1) rfl;refine⟨_,rfl,p,_,_,_,rfl,rfl,aW.of hp,g0,_,_,rfl,rfl,_,rfl,?_⟩;refine fZ (fun e=>?_) (fun e=>?_)
  .refine⟨_,rfl,p,_,_,_,rfl,rfl,aW.of hp,g0,_,rfl,_,_,rfl,⟨m0,by lia⟩,fun t ht=>?_⟩;have npt:p≠t:=am hp ht;refine⟨t,_,rfl,bP.of ae,rfl,_,_,rfl,?_⟩;refine⟨_,rfl,p,_,0,0,rfl,rfl,by rw[ap npt];exact hp,eh (j:=0) (by show 0<2;decide),_,_,rfl,rfl,_,rfl,?_⟩;exact q _ _ _ _ (r6 _ (by lia)) (rP _ m0) (Int.ediv_nonneg a0 (by lia)) b0 b1 (fun c o e n=>by rw[ap n,ap (am e ht)];exact e) ae
  .refine⟨_,rfl,p,_,_,_,rfl,rfl,aW.of hp,g1,_,_,rfl,rfl,.inl ⟨by lia,by lia⟩,_,_,rfl,rfl,_,_,rfl,rfl,(by show (0:Int)<2147483647;decide),?_⟩;refine⟨_,rfl,p,_,1,1,rfl,rfl,hp,eh (j:=1) (by show 1<2;decide),?_⟩;have c0:0<=(b*48271+12345) % 2147483647:=r6 _ (by decide);have c1:(b*48271+12345) % 2147483647<2147483647:=rP _ (by decide);refine⟨_,rfl,p,_,_,_,rfl,rfl,aW.of ae,aB (j:=1) rfl,_,rfl,p,_,_,_,rfl,rfl,aW.of ae,aB (j:=1) rfl,_,_,rfl,rfl,.inl ⟨by lia,by lia⟩,_,_,rfl,rfl,(by show (0:Int)<2147483629;decide),_,_,rfl,rfl,⟨by decide,by decide⟩,_,rfl,_,_,rfl,rfl,m0,?_⟩;exact q _ _ _ _ (r6 _ (by lia)) (rP _ m0) a0 c0 (by lia) aI.upd ae
theorem zg:∀ {xs:List Nat} {k:Nat},(NV xs).eraseIdx k=NV (xs.eraseIdx k)
 |[],_=>rfl
 |x::xs,0=>rfl
 |x::xs,k+1=>congrArg (V.int (x:Nat)::·) (zg (xs:=xs) (k:=k))
theorem ub:∀ {ls:List Nat} {k:Nat} (hk:k<ls.length),(ls[k]::ls.eraseIdx k).Perm ls
 |x::xs,0,_=>hW _
 |x::xs,k+1,h=>(List.Perm.swap x _ _).trans ((ub (ls:=xs) (k:=k) (by simpa using h)).cons x)
theorem H_{xs ls:List Nat}{k v:Nat}{r:List Nat}(p:(xs++ls).Perm r)(h:ls[k]?=some v):(xs++[v]++ls.eraseIdx k).Perm r:=by
 refine List.Perm.trans ?_ p;rw[di];refine kC _ ?_;obtain⟨hk,e⟩:=b9.mp h;subst e;exact ub hk
theorem O2:aR ["_law_pot_here"] ["_law_pot_here"] (av HW):=⟨rfl,rfl,rfl,by decide +kernel,rfl,by decide +kernel,by decide +kernel⟩
def BW:Sp:=fun vs H Q _=>∃ (p:Addr),vs=[.ref p]/\bf H p/\∀ (d:Nat) (H':Hp),d<10 ^ 18->aI p H H'->bf H' p->Q (.int d) H'
theorem K3(F:ig K "_law_beat" "_law_beat" HW f fd)(D:dL P w K mg base bg 1 "_law_take" ["_law_pot_here","_law_many"] gO):bA P w K mg base bg 2 f fd ["_law_pot_here"] BW:=by
 refine F.ok O2 (fun vs H Q E h=>?_) (fun eY A outer s H vs Q E hr h=>?_)
 .obtain⟨p,rfl,_⟩:=h;rfl
 .obtain⟨p,rfl,hp,q⟩:=h;refine⟨_,(au (a_ (aV aL (cS (aa (aH D hr aN (aa (pv 0) (aa az ag))) (aa (aH D hr aN (aa (pv 0) (aa (aY AR az az) ag))) ag))) (aH D hr aN (aa (pv 0) (aa az ag))) (fun _ _=>rfl)))),?_⟩;refine⟨_,rfl,p,40,rfl,by decide,by decide,hp,fun d1 H1 hd1 s1 ng=>⟨_,rfl,_,_,rfl,rfl,⟨by decide,by decide,by decide⟩,p,10 ^ 18,rfl,by decide,by decide,ng,fun d2 H2 Wb s2 wU=>⟨by show 2<=sizeLine;decide,fun l hl=>?_⟩⟩⟩;have sl:=ai (o:=.lst [.int (d1:Int),.int (d2:Int)]) hl;refine⟨_,rfl,p,2,rfl,by decide,by decide,wU.same sl,fun d3 H3 hd3 s3 ni=>?_⟩;have s4:=((s1.trans s2).trans (aI.of sl)).trans s3;have hl3:=s3 _ _ (ae (H:=H2) (a:=l) (o:=.lst [.int (d1:Int),.int (d2:Int)])) (wU.ne hl);rcases(show d3=0\/d3=1 by lia) with rfl|rfl
  .exact⟨l,_,_,_,rfl,rfl,aW.of hl3,aB (j:=0) rfl,q d1 H3 (by lia) s4 ni⟩
  .exact⟨l,_,_,_,rfl,rfl,aW.of hl3,aB (j:=1) rfl,q d2 H3 Wb s4 ni⟩
end
end qx
namespace jy
theorem tS.zero(Tr:tS n (List.range n) k ts)(hk:k<=n)(h:k<=x):fz ts (ci x)=0:=by
 unfold fz;rw[rK.mpr];· rfl
 intro t ht z;obtain⟨a,b,ha,hb,rfl⟩:=Tr.ends t ht;rw[List.take_range,AB hk] at ha;have:=bD.mp ha;have:=du (fc z);lia
def ren(xs:List Nat)(t:Int×Int):Int×Int:=(ci (xs.getD t.1.toNat 0),ci (xs.getD t.2.toNat 0))
theorem uc{n:Nat}{xs:List Nat}(pm:xs.Perm (List.range n)){a b:Nat}(ha:a<n)(hb:b<n)(e:xs.getD a 0=xs.getD b 0):a=b:=by
 have xl:xs.length=n:=by have:=pm.length_eq;rwa [cG] at this
 rw[cE (by lia),cE (by lia)] at e;exact jA (pm.nodup_iff.mpr i9) (by lia) (by lia) e
theorem MX{n:Nat}{xs:List Nat}(pm:xs.Perm (List.range n)){a:Nat}(ha:a<n):xs.getD a 0<n:=by
 have xl:xs.length=n:=by have:=pm.length_eq;rwa [cG] at this
 exact bD.mp (pm.mem_iff.mp (lN (by lia)))
theorem Ib{n:Nat}{xs:List Nat}(pm:xs.Perm (List.range n)){b:Nat}(hb:b<n):∃a,a<n/\xs.getD a 0=b:=by
 have xl:xs.length=n:=by have:=pm.length_eq;rwa [cG] at this
 obtain⟨a,ha,e⟩:=mh.mp (pm.mem_iff.mpr (bD.mpr hb));exact⟨a,by lia,by rw[cE ha];exact e⟩
theorem TX(h:T ts a b):T (ts.map (ren xs)) (xs.getD a 0) (xs.getD b 0):=bj.mpr ⟨_,h,rfl⟩
theorem zh:∀ {k b:Nat},dN ts k a b->dN (ts.map (ren xs)) k (xs.getD a 0) (xs.getD b 0)
 |0,b,h=>congrArg (fun x=>xs.getD x 0) (show a=b from h)
 |k+1,b,⟨c,w,t⟩=>⟨_,zh w,TX t⟩
theorem eX:∀ {l:List α},(∀x∈l,c (f x)=d x)->((l.map f).filter c).length=(l.filter d).length
 |[],_=>rfl
 |x::l,h=>by
  rw[fv,dS,dS,h x bR];have ih:=eX (l:=l) fun y hy=>h y (cD _ hy);split <;> simp[ih]
theorem bK.ren{n:Nat}{ts:Ts}{xs:List Nat}(F:bK n ts)(pm:xs.Perm (List.range n)):bK n (ts.map (ren xs)):=by
 have MY:∀t∈ts,∃a b:Nat,a<n/\b<n/\t=(ci a,ci b):=fun t ht=>by
  obtain⟨⟨a0,a1⟩,⟨b0,b1⟩⟩:=F.rg t ht;exact⟨t.1.toNat,t.2.toNat,by lia,by lia,iB (oX a0).symm (oX b0).symm⟩
 have c1:∀h:Int,(∃a,a<n/\h=ci (xs.getD a 0))\/∀a,a<n->ci (xs.getD a 0)≠h:=fun h=>by
  by_cases z:∃a,a<n/\h=ci (xs.getD a 0)
  .exact .inl z
  .exact .inr fun a ha e=>z ⟨a,ha,e.symm⟩
 have cf:∀h:Int,((ts.map (jy.ren xs)).filter fun t=>decide (t.1=h)).length=((ts.map (jy.ren xs)).filter fun t=>decide (t.2=h)).length/\((ts.map (jy.ren xs)).filter fun t=>decide (t.1=h)).length<=8:=fun h=>by
  rcases c1 h with ⟨a,ha,rfl⟩|no
  .rw[eX (d:=fun t=>decide (t.1=ci a)) fun t ht=>?_,eX (d:=fun t=>decide (t.2=ci a)) fun t ht=>?_]
   .exact⟨F.EI _,F.most _⟩
   .obtain⟨x,y,hx,hy,rfl⟩:=MY t ht;exact vZ.mpr ⟨fun e=>congrArg ci (uc pm hy ha (du e)),fun e=>by have:=du e;show ci (xs.getD y 0)=_;rw[this]⟩
   .obtain⟨x,y,hx,hy,rfl⟩:=MY t ht;exact vZ.mpr ⟨fun e=>congrArg ci (uc pm hx ha (du e)),fun e=>by have:=du e;show ci (xs.getD x 0)=_;rw[this]⟩
  .rw[eX (d:=fun _=>false) fun t ht=>?_,eX (d:=fun _=>false) fun t ht=>?_]
   .have z:ts.filter (fun _=>false)=[]:=rK.mpr fun x _ q=>nomatch q;rw[z];exact⟨rfl,bE _⟩
   .obtain⟨x,y,hx,hy,rfl⟩:=MY t ht;exact gw (no y hy)
   .obtain⟨x,y,hx,hy,rfl⟩:=MY t ht;exact gw (no x hx)
 refine⟨F.n1,F.n2,?_,fun t ht=>?_,fun t ht=>?_,fun h=>(cf h).1,fun h=>(cf h).2,fun a b ha hb=>?_⟩
 .refine(fu.mpr (F.nd.imp_of_mem fun {t u} ht hu ne e=>ne ?_));obtain⟨x,y,hx,hy,rfl⟩:=MY t ht;obtain⟨x',y',sE,VY,rfl⟩:=MY u hu;have e1:x=x':=uc pm hx sE (du (congrArg Prod.fst e));have e2:y=y':=uc pm hy VY (du (congrArg Prod.snd e));rw[e1,e2]
 .obtain⟨u,hu,rfl⟩:=bj.mp ht;obtain⟨x,y,hx,hy,rfl⟩:=MY u hu;have:=MX pm hx;have:=MX pm hy;exact⟨⟨by show (0:Int)<=ci _;lia,by show ci (xs.getD x 0)<_;lia⟩,⟨by show (0:Int)<=ci _;lia,by show ci (xs.getD y 0)<_;lia⟩⟩
 .obtain⟨u,hu,rfl⟩:=bj.mp ht;have:=F.ne u hu;obtain⟨x,y,hx,hy,rfl⟩:=MY u hu;intro e;exact this (congrArg ci (uc pm hx hy (du e)))
 .obtain⟨a',NN,rfl⟩:=Ib pm ha;obtain⟨b',q8,rfl⟩:=Ib pm hb;obtain⟨k,w⟩:=F.con a' b' NN q8;exact⟨k,zh w⟩
theorem Ic:∀ {xs:List α},(xs.flatMap fun x=>f x++g x).Perm (xs.flatMap f++xs.flatMap g)
 |[]=>.refl _
 |x::xs=>by
  rw[mq,mq,mq,di,di];refine kC _ (((Ic (xs:=xs)).append_left _).trans ?_);rw[<-di,<-di];exact vL _ jn
theorem xk{α β γ:Type}{f:α->β->List γ}{ys:List β}:∀ {xs:List α},(xs.flatMap fun x=>ys.flatMap (f x)).Perm (ys.flatMap fun y=>xs.flatMap fun x=>f x y)
 |[]=>by
  rw[List.flatMap_nil,List.flatMap_eq_nil_iff.mpr fun y _=>List.flatMap_nil]
 |x::xs=>by
  rw[mq];refine((xk (xs:=xs)).append_left _).trans ?_;refine(Ic (xs:=ys)).symm.trans (kP ?_);exact congrArg (fun g=>ys.flatMap g) (funext fun y=>(mq (f:=fun x=>f x y)).symm)
theorem vz:∀ {l:List α},(l.filter c).map f=l.flatMap fun x=>if c x=true then [f x] else []
 |[]=>rfl
 |x::l=>by
  rw[dS,mq,<-vz (l:=l)];by_cases h:c x=true
  .rw[ao h,ao h];rfl
  .rw[ak h,ak h];rfl
def zj(ns:List Nat)(i h:Nat):List (Nat×Nat):=(List.range i).flatMap fun j=>if h / pr (ns.take j) % ns.getD j 0+1<ns.getD j 0 then [(h,h+pr (ns.take j))] else []
theorem Ie{m:Nat}{ns:List Nat}:((List.range m).flatMap (zj ns ns.length)).Perm ((List.range ns.length).flatMap fun j=>Dc m (pr (ns.take j)) (ns.getD j 0)):=by
 refine(xk (f:=fun h j=>if h / pr (ns.take j) % ns.getD j 0+1<ns.getD j 0 then [(h,h+pr (ns.take j))] else [])).trans (kP ?_);refine congrArg (fun f=>(List.range ns.length).flatMap f) (funext fun j=>?_);unfold Dc;rw[vz];refine congrArg (fun f=>(List.range m).flatMap f) (funext fun h=>?_);simp
def K4(b i h:Nat):List (Nat×Nat):=(List.range (b-h / b ^ i % b-1)).map fun k=>(h,h+(k+1)*b ^ i)
def EY(b i h:Nat):List (Nat×Nat):=(List.range i).flatMap fun j=>K4 b j h
theorem Ig{f b:Nat}:((List.range (b ^ f)).flatMap (EY b f)).Perm (tU f b):=xk (f:=fun h j=>K4 b j h)
theorem lx(h:ps.Perm qs):(dD ps).Perm (dD qs):=by
 unfold dD;exact List.Perm.flatMap_right _ h
theorem EZ(n1:3<=n)(n2:n<=32):bK n (dD (mV (List.range n))):=(zf n1 n2 (hW _)).perm (lx lQ)
end jy
namespace qx
open PySem L2 jy
theorem oq:∀ {k:Nat},(List.replicate k [x]).flatten=List.replicate k x
 |0=>rfl
 |k+1=>by rw[mj,rT,oq,mj];rfl
theorem l4{A B:Prop}{b:Bool}(hb:b=true)(h:A):if b=true then A else B:=by rw[ao hb];exact h
theorem hU{A B:Prop}{b:Bool}(hb:b=false)(h:B):if b=true then A else B:=by rw[ak (by rw[hb];decide)];exact h
def ot(H:Hp)(D:Addr)(ts:Ts)(H2:Hp):Prop:=aO H H2/\∃zs:Zs,H2 D=some (.lst (zr zs))/\PO H2 zs/\zp zs=ts
theorem K5(c:Nat->Bool)(cA:St->Prop)(hD:H0 D=none)(hn:n<=1000)(h0:cA σB)(hs:∀x σ H (Kt:V->St->Hp->Prop) (Kf:St->Hp->Prop),x<n->cA σ->aO H0 H->(∀σ2 H2,cA σ2->aO H H2->c x=true->Kt (.int (lo+(x:Nat))) σ2 H2)->(∀σ2 H2,cA σ2->aO H H2->c x=false->Kf σ2 H2)->
   g (.int (lo+(x:Nat))) σ H fun σ2 H2=>tt σ2 H2 fun b H3=>if b=true then te σ2 H3 fun v H4=>Kt v σ2 H4 else Kf σ2 H3)(hd:∀H,aO H0 H->H D=some (.lst (((List.range n).filter c).map fun (x:Nat)=>V.int (lo+(x:Int))))->dQ H):ii (Fl lo n) g tt te D dQ σB (upd H0 D (.lst [])):=by
 refine eR (fun i ys σ H=>cA σ/\aO H0 H/\H D=some (.lst ys)/\ys=((List.range i).filter c).map fun (x:Nat)=>V.int (lo+(x:Int))) ⟨h0,ai hD,ae,rfl⟩ ?_ ?_
 .rintro i ys σ H Kt Kf hi ⟨sh,sm,jB,rfl⟩ kt kf;refine hs i σ H Kt Kf hi sh sm (fun σ2 H2 w_ s2 e=>?_) (fun σ2 H2 w_ s2 e=>?_)
  .refine kt _ _ _ (s2 _ _ jB) ?_ ⟨w_,br (sm.trans s2) hD,ae,?_⟩
   .rw[aT];refine eK (ix _ _) ?_;rw[cG];exact bi (show i<1000 by lia) (by decide)
   .rw[jr,gn,cW];simp[dS,e]
  .refine kf _ _ ⟨w_,sm.trans s2,s2 _ _ jB,?_⟩;rw[jr,gn];simp[dS,e]
 .rintro ys σ H ⟨_,sm,jB,rfl⟩;exact hd H sm jB
theorem qb:∀ {xs:List Nat} {j x:Nat},(NV xs).set j (.int (x:Int))=NV (xs.set j x)
 |[],_,_=>rfl
 |y::ys,0,x=>rfl
 |y::ys,j+1,x=>congrArg (V.int (y:Int)::·) (qb (xs:=ys) (j:=j) (x:=x))
theorem ik(h:j<xs.length):(NV xs)[j]?=some (.int ((xs.getD j 0:Nat):Int)):=by
 unfold NV;rw[bU,bW,bQ h];rfl
def d7(n:Nat)(ps:Ts):List Nat:=(List.range n).map fun (h:Nat)=>fz (dD ps) (ci h)
theorem hV:(d7 n ps).length=n:=by unfold d7;rw[aT,cG]
theorem jD(hh:h<n):(d7 n ps).getD h 0=fz (dD ps) (ci h):=by
 unfold d7;rw[bW,bU,fQ hh];rfl
theorem zk(ha:a<n)(hb:b<n)(qr:a≠b):((d7 n ps).set a (fz (dD ps) (ci a)+1)).set b (fz (dD ps) (ci b)+1)=d7 n (ps++[(ci a,ci b)]):=by
 have ne:∀x y:Nat,ci x=ci y->x=y:=fun x y e=>du e;refine lV fun i=>?_;by_cases hi:i<n
 .have g:∀qs:Ts,(d7 n qs)[i]?=some (fz (dD qs) (ci i)):=fun qs=>by unfold d7;rw[bU,fQ hi];rfl
  rw[g,Dn,vY,vY,g,gy,hV];by_cases c1:b=i
  .subst c1;rw[ao rfl,ao hb,ak (fun z=>qr (ne _ _ z)),ao rfl,jb]
  .rw[ak c1,ak (fun z=>c1 (ne _ _ z))];by_cases c2:a=i
   .subst c2;rw[ao rfl,ao ha,ao rfl]
   .rw[ak c2,ak (fun z=>c2 (ne _ _ z))];rfl
 .rw[fJ (by rw[gy,gy,hV];lia),fJ (by rw[hV];lia)]
theorem Ih:List.replicate n (V.int 0)=NV (d7 n []):=by
 refine lV fun i=>?_;unfold NV d7;rw[dk,rH,bU];by_cases hi:i<n
 .rw[ao hi,fQ hi];rfl
 .rw[ak hi,fJ (by rw[cG];lia)];rfl
theorem zm(Pv:Nat->List V->St->Hp->Prop)(h0:Pv 0 [] σB H0)(hl:∀i ys σ H,i<=xs.length->Pv i ys σ H->bP K H a xs)(hs:∀i x ys σ H (Kt:V->St->Hp->Prop) (Kf:St->Hp->Prop),xs[i]?=some x->Pv i ys σ H->
   (∀v σ2 H4,H4 D=some (.lst ys)->ys.length<sizeLine->Pv (i+1) (ys++[v]) σ2 (upd H4 D (.lst (ys++[v])))->Kt v σ2 H4)->(∀σ2 H3,Pv (i+1) ys σ2 H3->Kf σ2 H3)->
   g x σ H fun σ2 H2=>tt σ2 H2 fun b H3=>if b=true then te σ2 H3 fun v H4=>Kt v σ2 H4 else Kf σ2 H3)(hd:∀ys σ H,Pv xs.length ys σ H->dQ H):ii (WX K a) g tt te D dQ σB H0:=by
 refine⟨fun i m σ H=>m=xs.length-i/\i<=xs.length/\∃ys,Pv i ys σ H,⟨xs.length,by simp,bE _,[],h0⟩,?_⟩;rintro i m σ H ⟨rfl,hi,ys,p⟩;have q:=hl i ys σ H hi p;by_cases dZ:i<xs.length
 .refine .inr ⟨⟨xs,xs[i],q,by simp[dZ]⟩,?_⟩;rintro x H' ⟨rfl,y⟩;exact hs i x ys σ _ (fun v σ2 H4=>∃ys,H4 D=some (.lst ys)/\ys.length<sizeLine/\∃m',m'<xs.length-i/\m'=xs.length-(i+1)/\i+1<=xs.length/\∃uB,Pv (i+1) uB σ2 (upd H4 D (.lst (ys++[v]))))
   (fun σ2 H3=>∃m',m'<xs.length-i/\m'=xs.length-(i+1)/\i+1<=xs.length/\∃uB,Pv (i+1) uB σ2 H3) (y xs q) p
   (fun v σ2 H4 z1 z2 z3=>⟨ys,z1,z2,_,by lia,rfl,dZ,_,z3⟩) (fun σ2 H3 z=>⟨_,by lia,rfl,dZ,_,z⟩)
 .have e:i=xs.length:=by lia
  subst e;exact .inl ⟨⟨xs,q,aK _⟩,hd ys σ H p⟩
theorem K6(c:Int×Int->Bool)(cA:St->Prop)(ha:H0 a=some (.lst (zr zs)))(hD:H0 D=none)(hn:zs.length<=1000)(h0:cA σB)(hs:∀z σ H (Kt:V->St->Hp->Prop) (Kf:St->Hp->Prop),z∈zs->cA σ->aO H0 H->(∀σ2 H2,cA σ2->aO H H2->c z.2=true->Kt (.ref z.1) σ2 H2)->(∀σ2 H2,cA σ2->aO H H2->c z.2=false->Kf σ2 H2)->
   g (.ref z.1) σ H fun σ2 H2=>tt σ2 H2 fun b H3=>if b=true then te σ2 H3 fun v H4=>Kt v σ2 H4 else Kf σ2 H3)(hd:∀H,aO H0 H->H D=some (.lst (zr (zs.filter fun z=>c z.2)))->dQ H):ii (FZ K a) g tt te D dQ σB (upd H0 D (.lst [])):=by
 refine eZ (xs:=zr zs) (fun i ys σ H=>cA σ/\aO H0 H/\H D=some (.lst ys)/\ys=zr ((zs.take i).filter fun z=>c z.2)) ⟨h0,ai hD,ae,rfl⟩ (fun i ys σ H _ z=>aW.of (z.2.1 _ _ ha)) ?_ ?_
 .rintro i x ys σ H Kt Kf hx ⟨sh,sm,jB,rfl⟩ kt kf;obtain⟨z,hz,rfl⟩:=tV hx;have hi:i<zs.length:=(b9.mp hz).1;have tk:zs.take (i+1)=zs.take i++[z]:=by rw[gX,hz];rfl
  refine hs z σ H Kt Kf (cU hz) sh sm (fun σ2 H2 w_ s2 e=>?_) (fun σ2 H2 w_ s2 e=>?_)
  .refine kt _ _ _ (s2 _ _ jB) ?_ ⟨w_,br (sm.trans s2) hD,ae,?_⟩
   .rw[dB];exact eK (ix _ _) (eK (vU _ _) (bi (show i<1000 by lia) (by decide)))
   .rw[tk,gn,eC];simp[dS,e,zr]
  .refine kf _ _ ⟨w_,sm.trans s2,s2 _ _ jB,?_⟩;rw[tk,gn];simp[dS,e]
 .rintro ys σ H ⟨_,sm,jB,rfl⟩;rw[dB,j9] at jB;exact hd H sm jB
theorem E4:zp (zs.filter fun z=>c z.2)=(zp zs).filter c:=by
 unfold zp;rw[pi];rfl
theorem uJ:(zr (zs.filter fun z=>c z.2)).length=((zp zs).filter c).length:=by rw[dB,<-bB,E4]
section
variable {K:PySem.W.Frag}
theorem Do(po:PO H zs):zs.length=(zp zs).length/\∀i,i<(zp zs).length->bP K H ((zs.map (·.1)).getD i 0) [.int ((zp zs).getD i (0,0)).1,.int ((zp zs).getD i (0,0)).2]:=by
 refine⟨bB.symm,fun i hi=>?_⟩;rw[bB] at hi;rw[yW hi,Dg hi];exact bP.of (po _ (gv hi))
end
theorem dO:(List.range (n+1)).flatMap f=(List.range n).flatMap f++f n:=by
 rw[jr,List.flatMap_append];simp
theorem rB:∀ {ns:List Nat} {x:Nat},pr (ns++[x])=pr ns*x
 |[],x=>by show x*1=1*x;lia
 |n::ns,x=>by show n*pr (ns++[x])=n*pr ns*x;rw[rB,Nat.mul_assoc]
theorem Ii:∀ {ns:List Nat} {st:Nat},bx m st ns=(List.range ns.length).flatMap fun j=>Dc m (st*pr (ns.take j)) (ns.getD j 0)
 |[],st=>rfl
 |n::ns,st=>by
  show Dc m st n++bx m (st*n) ns=_;rw[eF,oP,mq,Ii (ns:=ns)];congr 1
  .show Dc m st n=Dc m (st*1) n;rw[wc]
  .rw[List.flatMap_map];congr 1;funext j;show _=Dc m (st*(n*pr (ns.take j))) (ns.getD j 0);rw[Nat.mul_assoc]
theorem pS{α:Type}{g:Nat->List α}{M:Nat}(hg:∀x,(g x).length<=M):∀ {m:Nat},((List.range m).flatMap g).length<=m*M
 |0=>bE _
 |m+1=>by rw[dO,dh,Nat.succ_mul];have:=hg m;have:=pS hg (m:=m);lia
theorem iN:∀ {ns:List Nat} {i:Nat},(∀x∈ns,1<=x)->pr (ns.take i)<=pr ns
 |[],i,_=>by rw[List.take_nil];exact aK _
 |n::ns,0,h=>by
  show 1<=n*pr ns;have:∀ {l:List Nat},(∀x∈l,1<=x)->1<=pr l:=fun {l}=>by
   induction l with
   |nil=>intro _;exact aK _
   |cons x l ih=>intro hl;exact sq (hl x bR) (ih fun y hy=>hl y (cD _ hy))
  exact this (l:=n::ns) h
 |n::ns,i+1,h=>by
  show n*pr (ns.take i)<=n*pr ns;exact rM n (iN fun x hx=>h x (cD _ hx))
theorem ot.ext(hD:H D=none)(sm:aO H H2)(h1:H2 D=some (.lst (zr xN)))(xm:PO H2 xN)(ez:zp xN=ts)(s3:aO H2 H3)(po:PO H3 zs)(e:zp zs=us):ot H D (ts++us) (upd H3 D (.lst (zr xN++zr zs))):=
 ⟨br (sm.trans s3) hD,xN++zs,by rw[ae,eC],PO.putL (xs:=zr xN) ((xm.same s3).append po) (s3 _ _ h1),by rw[eD,ez,e]⟩
theorem BY{xs:List V}{k:Nat}:jt xs none (some (k:Int))=xs.take k:=by
 have h1:HT.uv xs.length 0 none=0:=rfl;have h2:HT.uv xs.length xs.length (some (k:Int))=min k xs.length:=by
  unfold HT.uv;simp;try lia
 unfold jt;rw[h1,h2,List.drop_zero,wa,List.take_eq_take_iff];simp;try lia
theorem zn{xs:List V}{k:Nat}:jt xs (some (k:Int)) none=xs.drop k:=by
 have h1:HT.uv xs.length 0 (some (k:Int))=min k xs.length:=by
  unfold HT.uv;simp;try lia
 have h2:HT.uv xs.length xs.length none=xs.length:=rfl;unfold jt;rw[h1,h2];by_cases c:k<=xs.length
 .rw[AB c];exact oO (by rw[mw];exact aK _)
 .rw[Nat.min_eq_right (by lia),List.drop_of_length_le (aK _),List.drop_of_length_le (by lia),List.take_nil]
theorem Dp(ms:List β)(e G:β->V)(cA:St->Prop)(ha:H0 a=some (.lst (ms.map e)))(hD:H0 D=none)(hn:ms.length<=1000)(h0:cA σB)(hs:∀m σ H (R:V->St->Hp->Prop) (Kf:St->Hp->Prop),m∈ms->cA σ->aO H0 H->(∀σ2 H2,cA σ2->aO H H2->R (G m) σ2 H2)->
   g (e m) σ H fun σ2 H2=>tt σ2 H2 fun b H3=>if b=true then te σ2 H3 fun v H4=>R v σ2 H4 else Kf σ2 H3)(hd:∀H,aO H0 H->H D=some (.lst (ms.map G))->dQ H):ii (FZ K a) g tt te D dQ σB (upd H0 D (.lst [])):=by
 refine eZ (xs:=ms.map e) (fun i ys σ H=>cA σ/\aO H0 H/\H D=some (.lst ys)/\ys=(ms.take i).map G) ⟨h0,ai hD,ae,rfl⟩ (fun i ys σ H _ z=>aW.of (z.2.1 _ _ ha)) ?_ ?_
 .rintro i x ys σ H Kt Kf hx ⟨sh,sm,jB,rfl⟩ kt kf;rw[bU] at hx;cases hz:ms[i]? with
  |none=>rw[hz] at hx;cases hx
  |some m=>
   rw[hz] at hx;obtain rfl:e m=x:=bN hx;refine hs m σ H Kt Kf (cU hz) sh sm (fun σ2 H2 w_ s2=>?_);refine kt _ _ _ (s2 _ _ jB) ?_ ⟨w_,br (sm.trans s2) hD,ae,?_⟩
   .rw[aT];exact eK (List.length_take_le' _ _) (eK hn (by decide))
   .rw[gX,hz,Al,cW];rfl
 .rintro ys σ H ⟨_,sm,jB,rfl⟩;rw[aT,j9] at jB;exact hd H sm jB
abbrev Ij:Stmt:=top 41
abbrev Ik:Stmt:=top 44
theorem E5:(["_law_k","_law_many"]:List Str).Nodup:=by decide +kernel
theorem qc:(["_law_house","_law_degrees"]:List Str).Nodup:=by decide +kernel
section
variable {P:Program} {w:World} {K:PySem.W.Frag} {mg:Str->Option Value} {base:Heap}
theorem O4:aR ["_law_many"] ["_law_many"] (av Ij):=⟨rfl,rfl,rfl,by decide +kernel,rfl,by decide +kernel,by decide +kernel⟩
def xn:Sp:=fun vs H Q _=>∃n:Nat,vs=[.int n]/\2<=n/\n<=32/\∀ (r:Addr) (zs:Zs) (H':Hp),aO H H'->H r=none->H' r=some (.lst (zr zs))->PO H' zs->zp zs=mV (List.range n)->Q (.ref r) H'
theorem K7(F:ig K "_law_ring" "_law_ring" Ij f fd)(B:Bl mg):bA P w K mg base bg 1 f fd ["_law_many"] xn:=by
 refine F.ok O4 (fun vs H Q E h=>?_) (fun eY A outer s H vs Q E hr h=>?_)
 .obtain⟨n,rfl,_⟩:=h;rfl
 .obtain⟨n,rfl,n1,n2,q⟩:=h;refine'⟨_,(au (a_ ?c1)),?_⟩;case c1=>
   refine' cL (g:=(bv 0)) (te:=(sQ (bo (a9 0) (bo (kr (rI (fun _ j=>0<j) fun i j=>.int (i % j)) (kr (zM fun i j=>.int (i+j)) (a9 0) (tC (.int 1))) (a9 1)) gI)))) (NB:=["_law_k","_law_many"]) (src:=[none,some 0]) (bp (by kernel_rfl)) rfl (bz rfl B.range (aa (pv 0) ag)) ?g ?t ?e;case g=>exact fun cl C s₃ H₃ fp=>(aA (i:=0) E5 rfl (Or.inl rfl) (Or.inr rfl))
   case t=>exact fun cl C s₃ H₃ fp=>dz
   case e=>exact fun cl C s₃ H₃ fp=>(cQ (aa (pv 0) (aa (aY iE (aY cZ (pv 0) az) (pv 1)) ag)))
  refine⟨_,rfl,(n:Int),rfl,by lia,by lia,fun T0 O5=>?_⟩;refine yX (lo:=0) (n:=n) (fun k=>(ci k,ci ((k+1) % n))) (fun σ=>∃x,σ=[x,some (.int n)]) O5 (by lia) ⟨_,rfl⟩ ?_ ?_
  .rintro k σ H2 R Kf hk ⟨x,rfl⟩ MM kt;rw[hZ];exact⟨_,rfl,_,rfl,_,_,rfl,rfl,_,rfl,_,_,rfl,rfl,(by show (0:Int)<(n:Int);lia),by show 2<=sizeLine;decide,fun t ht=>kt _ _ ⟨_,rfl⟩ ht⟩
  intro zs H2 s2 hT2 xm K8 _;refine q T0 zs H2 s2 O5 hT2 xm ?_;rw[K8];unfold mV;rw[cG];refine jo fun k hk=>?_;have hk:=bD.mp hk;have My:(k+1) % n<n:=kW _ (by lia);rw[bW,fQ hk,bW,fQ My];rfl
theorem lz:aR ["_law_pot_here","_law_many","_law_more","_law_found","_law_degrees","_law_k","_law_some","_law_one","_law_other"] ["_law_pot_here","_law_many","_law_more"] (av Ik):=⟨rfl,rfl,rfl,by decide +kernel,rfl,by decide +kernel,by decide +kernel⟩
def BZ:Sp:=fun vs H Q _=>∃ (p:Addr) (n m:Nat),vs=[.ref p,.int n,.int m]/\2<=n/\n<=32/\m<=64/\bf H p/\∀ (r:Addr) (zs:Zs) (H':Hp),aI p H H'->bf H' p->H r=none->H' r=some (.lst (zr zs))->PO H' zs->bK n (dD (zp zs))->Q (.ref r) H'
theorem K9(F:ig K "_law_some_pairs" "_law_some_pairs" Ik f fd)(B:Bl mg)(D:dL P w K mg base bg 1 "_law_take" ["_law_pot_here","_law_many"] gO):bA P w K mg base bg 2 f fd ["_law_pot_here","_law_many","_law_more"] BZ:=by
 refine F.ok lz (fun vs H Q E h=>?_) (fun eY A outer s H vs Q E hr h=>?_)
 .obtain⟨p,n,m,rfl,_⟩:=h;rfl
 .obtain⟨p,n,m,rfl,n1,n2,m1,hp,q⟩:=h;refine'⟨_,(aj (dM (cQ (aa (cS ag) (aa (aY A2 (cS (aa az ag)) (pv 1)) ag))) (dA (n:=2) rfl (aG (aA (i:=3) lz.nd rfl (Or.inl rfl)) (aG (aA (i:=4) lz.nd rfl (Or.inr rfl)) cr))))
   (aj (cP dU rfl (pK rfl B.range (aa az (aa (pv 1) ag))) (aA (i:=5) lz.nd rfl (Or.inl rfl))
    (aj (eQ (i:=6) (g:=(bv 0)) (tt:=(sM (kr (zM fun i j=>.bl (decide (i<j))) (kr (yc K) (a9 1) (a9 0)) (tC (.int 7))))) (te:=(a9 0)) (NB:=["_law_house","_law_degrees"]) (src:=[none,some 4]) (bp (by kernel_rfl)) rfl (bz rfl B.range (aa (pv 5) ag)) ?g1 ?t1 ?e1 lz.nd rfl rfl rfl)
    (aj (aU (i:=7) lz.nd rfl (Or.inl rfl) (aV aL (pv 6) (aH D hr aN (aa (pv 0) (aa (aD aM (by rfl) B.len dW (aa (pv 6) ag)) ag))) (fun _ _=>rfl)))
    (aj (bY (gE gk jm jl cK (pv 3) (aa (cQ (aa (pv 7) (aa (pv 5) ag))) ag)))
    (au (dM (cQ (aa (aY cZ (aV aL (pv 4) (pv 7) (fun _ _=>rfl)) az) (aa az ag))) (dA (n:=2) rfl (aG (fX (pv 4) (pv 7) dH) (aG (fX (pv 4) (pv 5) dH) cr)))))))))
   (aj (cP dU rfl (bz rfl B.range (aa (pv 2) ag)) (aA (i:=5) lz.nd rfl (Or.inl rfl))
    (aj (AL (i:=7) (j:=8) rfl lz.nd rfl rfl (by decide) rfl rfl (aa (aH D hr aN (aa (pv 0) (aa (pv 1) ag))) (aa (aH D hr aN (aa (pv 0) (aa (pv 1) ag))) ag)) (by rfl))
    (au (cC (PW.pt (mH (aQ uS (pv 7) (pv 8) (a8 _)) (jT (aQ lW (aD (pL rfl) (by rfl) B.max vO (aa (aV aL (pv 4) (pv 7) (fun _ _=>rfl)) (aa (aV aL (pv 4) (pv 8) (fun _ _=>rfl)) ag))) az (a8 _))))) (au (cC (PW.pt (mH (aQ (p8 hr.u) (cQ (aa (pv 7) (aa (pv 8) ag))) (pv 3) rfl) (jT (aQ (p8 hr.u) (cQ (aa (pv 8) (aa (pv 7) ag))) (pv 3) rfl)))) (aj (bY (gE gk jm jl cK (pv 3) (aa (cQ (aa (pv 7) (aa (pv 8) ag))) ag)))
      (aj (dM (aY cZ (aV aL (pv 4) (pv 7) (fun _ _=>rfl)) az) (fX (pv 4) (pv 7) dH))
      (au (dM (aY cZ (aV aL (pv 4) (pv 8) (fun _ _=>rfl)) az) (fX (pv 4) (pv 8) dH))))) bh)) bh))))
   (au (a_ (pv 3)))))),?_⟩
  case g1=>exact fun cl C s₃ H₃ fp=>(aA (i:=0) qc rfl (Or.inl rfl) (Or.inr rfl))
  case t1=>exact fun cl C s₃ H₃ fp=>gU (aQ lW (aV aL (pv 1) (pv 0) (fun _ _=>rfl)) az (a8 _))
  case e1=>exact fun cl C s₃ H₃ fp=>(pv 0)
  refine⟨by show 0<=sizeLine;decide,fun Pr TY=>⟨by show 1<=sizeLine;decide,fun L1 t_=>⟨_,rfl,L1,_,_,rfl,rfl,ae,by lia,by lia,by rw[gu,md];exact aX (show 1*n<=32 by lia) (by decide),fun M hM=>?_⟩⟩⟩;rw[gu,oq,Ih];refine⟨by show 2<=sizeLine;decide,fun T0 O5=>⟨T0,_,rfl,bP.of ae,rfl,_,_,rfl,_,_,rfl,rfl,?_⟩⟩;have sP:=ai (o:=.lst []) TY;have s1:=sP.trans (ai (o:=.lst [.int 0]) t_);have s3:=ai (o:=.tup [.ref Pr,.ref M]) O5;have s2:=(s1.trans (ai (o:=.lst (NV (d7 n []))) hM)).trans s3;have gP:=s3 _ _ (ai (o:=.lst (NV (d7 n []))) hM _ _ (ai (o:=.lst [.int 0]) t_ _ _ (ae (H:=H) (a:=Pr) (o:=.lst (zr [])))));have gM:=s3 _ _ (ae (H:=upd (upd H Pr (.lst [])) L1 (.lst [.int 0])) (a:=M) (o:=.lst (NV (d7 n []))));have Wc:Pr≠M:=am (ai t_ _ _ ae) hM;have Q4:H M=none:=s1.free hM;have TZ:Pr≠p:=hp.ne TY;have Jw:M≠p:=hp.ne Q4;generalize upd (upd (upd (upd H Pr _) L1 _) M _) T0 _=H0 at *;refine⟨_,rfl,1,(n:Int),rfl,⟨by decide,by decide,by lia,by lia⟩,?_⟩;rw[show ((n:Int)-1).toNat=n-1 by lia];refine dC (lo:=1) (n:=n-1) (fun i σ Hc=>∃zs:Zs,(∃a b c d,σ=[some (.ref p),some (.int n),some (.int m),some (.ref Pr),some (.ref M),a,b,c,d])/\aI p H Hc/\bf Hc p/\Hc Pr=some (.lst (zr zs))/\PO Hc zs/\Hc M=some (.lst (NV (d7 n (zp zs))))/\tS n (List.range n) (i+1) (dD (zp zs))/\fz (dD (zp zs)) (ci i)<=1)
   ⟨[],⟨none,none,none,none,rfl⟩,aI.of s2,hp.same s2,gP,PO.nil,gM,tS.start (by rw[cG];lia),bE _⟩ ?_ ?_
  .rintro i σ Hc hi ⟨zs,⟨a,b,c,d',rfl⟩,sc,mW,K_,po,B0,Tr,dg⟩;have e1:(1:Int)+(i:Int)=((i+1:Nat):Int):=by lia
   rw[e1];have Wd:zs.length=i:=by have:=Tr.len;rw[rm,bB] at this;lia
   refine⟨_,rfl,((i+1:Nat):Int),rfl,by lia,by lia,fun D1 BR=>?_⟩;rw[show (((i+1:Nat):Int)).toNat=i+1 from rfl];refine K5 (lo:=0) (n:=i+1) (fun x=>decide (fz (dD (zp zs)) (ci x)<7)) (fun σ=>∃a,σ=[a,some (.ref M)]) BR (by lia) ⟨_,rfl⟩ ?_ ?_
   .rintro x σ H4 Kt Kf hx ⟨a',rfl⟩ xh kt kf;rw[hZ] at kt |-;have sE:x<(d7 n (zp zs)).length:=by rw[hV];lia
    refine⟨_,rfl,_,rfl,M,_,_,_,rfl,rfl,aW.of (xh _ _ B0),aB (ik sE),_,_,rfl,rfl,_,rfl,?_⟩;have ed:=jD (ps:=zp zs) (show x<n by lia);refine fZ (fun e=>?_) (fun e=>?_)
    .exact⟨_,rfl,kt _ _ ⟨_,rfl⟩ (aO.refl _) (ie (by have:=fc e;lia))⟩
    .exact kf _ _ ⟨_,rfl⟩ (aO.refl _) (gw (fun z=>e (ie (by lia))))
   .intro H4 xh FB;have e0:((((List.range (i+1)).filter fun x=>decide (fz (dD (zp zs)) (ci x)<7)).map fun (x:Nat)=>V.int (0+(x:Int))))=NV ((List.range (i+1)).filter fun x=>decide (fz (dD (zp zs)) (ci x)<7)):=jo fun x _=>by rw[hZ]
    rw[e0] at FB;have ne:0<((List.range (i+1)).filter fun x=>decide (fz (dD (zp zs)) (ci x)<7)).length:=rJ (et.mpr ⟨bD.mpr (kH i),ie (show fz (dD (zp zs)) (ci i)<7 by lia)⟩);have le:((List.range (i+1)).filter fun x=>decide (fz (dD (zp zs)) (ci x)<7)).length<=i+1:=aX (ix _ _) (by rw[cG];exact aK _);generalize hfs:(List.range (i+1)).filter (fun x=>decide (fz (dD (zp zs)) (ci x)<7))=fs at *;have qd:=mW.same xh;refine⟨_,rfl,_,rfl,_,rfl,D1,_,rfl,.inl (aW.of FB),p,_,rfl,by rw[be];exact ne,by rw[be];lia,qd,fun d H5 hd s5 ui=>?_⟩;rw[be] at hd;have nD1:D1≠p:=mW.ne BR;have hv:fs[d]?=some fs[d]:=bQ hd;refine⟨D1,_,_,_,rfl,rfl,aW.of (s5 _ _ FB nD1),aB (ik hd),?_⟩;have hsm:fs.getD d 0∈fs:=by rw[bW,hv];exact gv _
    generalize fs.getD d 0=sv at *;rw[<-hfs] at hsm;obtain⟨Eg,lJ⟩:=et.mp hsm;have hsv:sv<i+1:=bD.mp Eg;have hsd:fz (dD (zp zs)) (ci sv)<7:=fc lJ;have MZ:=s5 _ _ (xh _ _ K_) TZ;have Q5:=s5 _ _ (xh _ _ B0) Jw;have M0:PO H5 zs:=(po.same xh).qA s5 qd;refine⟨_,rfl,.inl ⟨rfl,_,aW.of MZ⟩,_,rfl,_,rfl,by show 2<=sizeLine;decide,fun t ht=>?_⟩;have st:=ai (o:=oj (ci sv,ci (i+1))) ht;refine⟨Pr,_,_,rfl,rfl,st _ _ MZ,by rw[dB,Wd];exact bi (show i<33 by lia) (by decide),?_⟩;have M1:(upd (upd H5 t (oj (ci sv,ci (i+1)))) Pr (.lst (zr zs++[.ref t]))) M=some (.lst (NV (d7 n (zp zs)))):=by rw[ap Wc.symm];exact st _ _ Q5
    have T4:sv<(d7 n (zp zs)).length:=by rw[hV];lia
    refine⟨_,rfl,_,rfl,M,_,_,_,rfl,rfl,aW.of M1,aB (ik T4),_,_,rfl,rfl,by show 2<=sizeLine;decide,fun T hT=>?_⟩;have T5:(upd (upd H5 t (oj (ci sv,ci (i+1)))) Pr (.lst (zr zs++[.ref t]))) Pr=some (.lst (zr zs++[.ref t])):=ae;have o6:∀b,b≠Pr->(upd (upd H5 t (oj (ci sv,ci (i+1)))) Pr (.lst (zr zs++[.ref t]))) b=(upd H5 t (oj (ci sv,ci (i+1)))) b:=fun b n=>ap n;have M2:PO (upd (upd H5 t (oj (ci sv,ci (i+1)))) Pr (.lst (zr zs++[.ref t]))) (zs++[(t,(ci sv,ci (i+1)))]):=PO.putL (xs:=zr zs) ((M0.same st).append (PO.one ae)) (st _ _ MZ);generalize upd (upd H5 t (oj (ci sv,ci (i+1)))) Pr _=H6 at *;have sT:=ai (o:=.tup [.int ((((d7 n (zp zs)).getD sv 0:Nat):Int)+1),.int 1]) hT;refine⟨T,_,rfl,bP.of ae,rfl,_,_,rfl,?_⟩;refine⟨_,rfl,_,rfl,M,_,(sv:Int),sv,rfl,rfl,sT _ _ M1,eh (by rw[be];exact T4),?_⟩;have e2:(NV (d7 n (zp zs))).set sv (V.int ((((d7 n (zp zs)).getD sv 0:Nat):Int)+1))=NV ((d7 n (zp zs)).set sv (fz (dD (zp zs)) (ci sv)+1)):=by
     rw[jD (by lia)];exact qb (x:=fz (dD (zp zs)) (ci sv)+1)
    have Q6:i+1<((d7 n (zp zs)).set sv (fz (dD (zp zs)) (ci sv)+1)).length:=by rw[gy,hV];lia
    have z0:fz (dD (zp zs)) (ci (i+1))=0:=Tr.zero (by lia) (aK _);generalize hH7:upd _ M _=H7;have gM7:H7 M=some (.lst (NV ((d7 n (zp zs)).set sv (fz (dD (zp zs)) (ci sv)+1)))):=by rw[<-hH7,ae];exact congrArg (fun l=>some (HO.lst l)) e2
    have o7:∀b,b≠M->∀o,H6 b=some o->H7 b=some o:=fun b n o e=>by rw[<-hH7,ap n];exact sT _ _ e
    refine⟨_,_,rfl,_,rfl,_,rfl,M,_,((i+1:Nat):Int),i+1,rfl,rfl,gM7,eh (by rw[be];exact Q6),rfl,?_⟩;generalize T6:upd H7 M _=H8;have e3:(NV ((d7 n (zp zs)).set sv (fz (dD (zp zs)) (ci sv)+1))).set (i+1) (V.int 1)=NV (d7 n (zp zs++[(ci sv,ci (i+1))])):=by
     rw[<-zk (by lia) (by lia) (by lia),z0];exact qb (x:=1)
    have We:H8 M=some (.lst (NV (d7 n (zp zs++[(ci sv,ci (i+1))])))):=by rw[<-T6,ae];exact congrArg (fun l=>some (HO.lst l)) e3
    have o8:∀b,b≠M->∀o,H6 b=some o->H8 b=some o:=fun b n o e=>by rw[<-T6,ap n];exact o7 b n o e
    have ez:zp (zs++[(t,(ci sv,ci (i+1)))])=zp zs++[(ci sv,ci (i+1))]:=by rw[eD];rfl
    refine⟨zs++[(t,(ci sv,ci (i+1)))],⟨_,_,_,_,rfl⟩,fun b o e n=>?_,?_,?_,fun z hz=>?_,by rw[ez];exact We,?_,?_⟩
    .refine o8 _ (am e Q4) _ ?_;rw[o6 _ (am e TY)];exact st _ _ (s5 _ _ (xh _ _ (sc _ _ e n)) n)
    .obtain⟨x,y,e,r⟩:=ui.same st;exact⟨x,y,o8 _ Jw.symm _ (by rw[o6 _ TZ.symm];exact e),r⟩
    .refine o8 _ Wc _ ?_;rw[T5,eC];rfl
    .have g:=M2 z hz;exact o8 _ (by rintro e;rw[e,M1] at g;cases g) _ g
    .rw[ez,mR];exact Tr.add i9 (fun x hx=>bD.mp hx) (fQ (by lia)) (by rw[List.take_range,AB (by lia)];exact Eg) (by show fz _ _<8;lia)
    .rw[ez,Dn,z0,ak (fun z=>by have:=du z;lia),ao rfl];lia
  rintro σ Hc ⟨zs,⟨a,b,c,d',rfl⟩,sc,mW,K_,po,B0,Tr,dg⟩;rw[show n-1+1=n by lia] at Tr;have F0:=Tr.j4 n1 n2 (hW _);refine⟨_,rfl,(m:Int),rfl,by lia,by lia,?_⟩;refine dC (lo:=0) (n:=m) (fun i σ Hc=>∃zs:Zs,(∃a b c d,σ=[some (.ref p),some (.int n),some (.int m),some (.ref Pr),some (.ref M),a,b,c,d])/\aI p H Hc/\bf Hc p/\Hc Pr=some (.lst (zr zs))/\PO Hc zs/\Hc M=some (.lst (NV (d7 n (zp zs))))/\bK n (dD (zp zs)))
   ⟨zs,⟨_,_,_,_,rfl⟩,sc,mW,K_,po,B0,F0⟩ ?_ ?_
  .clear F0 Tr dg po K_ B0 mW sc zs;rintro i σ Hc hi ⟨zs,⟨a',b',c',d',rfl⟩,sc,mW,K_,po,B0,Fi⟩;have Wd:zs.length<=256:=by have:=Fi.len;rw[rm,bB] at this;lia
   refine⟨_,rfl,_,rfl,p,n,rfl,by lia,by lia,mW,fun a H4 ha s4 qd=>⟨_,rfl,_,rfl,p,n,rfl,by lia,by lia,qd,fun b H5 hb s5 ui=>⟨_,_,rfl,?_⟩⟩⟩;have O6:=(sc.trans s4).trans s5;have MZ:=s5 _ _ (s4 _ _ K_ TZ) TZ;have Q5:=s5 _ _ (s4 _ _ B0 Jw) Jw;have M0:=(po.qA s4 mW).qA s5 qd;clear s4 s5 qd K_ B0 po mW sc;dsimp only;have jf:∀Hd:Hp,aO H5 Hd->∃zs:Zs,(∃x1 x2 x3 x4,[some (V.ref p),some (.int n),some (.int m),some (.ref Pr),some (.ref M),some (.int (0+(i:Int))),b',some (.int (a:Nat)),some (.int (b:Nat))]=[some (.ref p),some (.int n),some (.int m),some (.ref Pr),some (.ref M),x1,x2,x3,x4])/\aI p H Hd/\bf Hd p/\Hd Pr=some (.lst (zr zs))/\PO Hd zs/\Hd M=some (.lst (NV (d7 n (zp zs))))/\bK n (dD (zp zs)):=fun Hd sd=>⟨zs,⟨_,_,_,_,rfl⟩,O6.trans (aI.of sd),ui.same sd,sd _ _ MZ,M0.same sd,sd _ _ Q5,Fi⟩
   have YH:a<(d7 n (zp zs)).length:=by rw[hV];exact ha
   have hbn:b<(d7 n (zp zs)).length:=by rw[hV];exact hb
   refine⟨_,rfl,_,rfl,rfl,_,rfl,?_⟩;by_cases qr:a=b
   .exact hU (by subst qr;simp) (iH (jf _ (aO.refl _)))
   refine l4 (by simp;lia) ⟨_,rfl,_,rfl,M,_,_,_,rfl,rfl,aW.of Q5,aB (ik YH),_,rfl,_,rfl,M,_,_,_,rfl,rfl,aW.of Q5,aB (ik hbn),_,_,rfl,_,_,rfl,rfl,_,rfl,?_⟩;rw[jD ha,jD hb];refine fZ (fun cm=>?_) (fun cm=>jf _ (aO.refl _));have cm:=fc cm;have da:fz (dD (zp zs)) (ci a)<=7:=by split at cm <;> lia
   have db:fz (dD (zp zs)) (ci b)<=7:=by split at cm <;> lia
   refine⟨_,rfl,_,rfl,by show 2<=sizeLine;decide,fun t1 YI=>?_⟩;have zQ:=ai (o:=oj (ci a,ci b)) YI;obtain⟨l1,l2⟩:=Do (K:=K) (M0.same zQ);refine⟨_,rfl,t1,Pr,(ci a,ci b),zs.map (fun z:Addr×Int×Int=>z.1),zp zs,rfl,rfl,bP.of ae,by rw[<-iq];exact aW.of (zQ _ _ MZ),by rw[aT];exact l1,l2,_,rfl,?_⟩;by_cases in1:(ci a,ci b)∈zp zs
   .exact hU (by simp[in1]) (iH (jf _ zQ))
   refine l4 (by simp[in1]) ⟨_,rfl,_,rfl,by show 2<=sizeLine;decide,fun t2 T7=>?_⟩;have km:=zQ.trans (ai (o:=oj (ci b,ci a)) T7);obtain⟨l1,l2⟩:=Do (K:=K) (M0.same km);refine⟨_,rfl,t2,Pr,(ci b,ci a),zs.map (fun z:Addr×Int×Int=>z.1),zp zs,rfl,rfl,bP.of ae,by rw[<-iq];exact aW.of (km _ _ MZ),by rw[aT];exact l1,l2,_,rfl,?_⟩;by_cases YJ:(ci b,ci a)∈zp zs
   .exact hU (by simp[YJ]) (jf _ km)
   have T5:=km _ _ MZ;have M1:=km _ _ Q5;refine l4 (by simp[YJ]) ⟨_,rfl,.inl ⟨rfl,_,aW.of T5⟩,_,rfl,_,rfl,by show 2<=sizeLine;decide,fun t ht=>?_⟩;have iS:=ai (o:=oj (ci a,ci b)) ht;refine⟨Pr,_,_,rfl,rfl,iS _ _ T5,by rw[dB];exact eK Wd (by decide),?_⟩;have O7:=PO.putL (xs:=zr zs) ((M0.same (km.trans iS)).append (PO.one ae)) (iS _ _ T5) (o:=.lst (zr zs++[.ref t]));have Wf:∀x o,H x=some o->x≠p->x≠Pr->(upd (upd (upd (upd H5 t1 (oj (ci a,ci b))) t2 (oj (ci b,ci a))) t (oj (ci a,ci b))) Pr (.lst (zr zs++[.ref t]))) x=some o:=fun x o e n n2=>by
    rw[ap n2];exact iS _ _ (km _ _ (O6 _ _ e n))
   have Il:=((ui.same km).same iS).put (o:=.lst (zr zs++[.ref t])) TZ.symm;have Q7:=(ap (H:=upd (upd (upd H5 t1 (oj (ci a,ci b))) t2 (oj (ci b,ci a))) t (oj (ci a,ci b))) (o:=.lst (zr zs++[.ref t])) Wc.symm).trans (iS _ _ M1);have hP7:=ae (H:=upd (upd (upd H5 t1 (oj (ci a,ci b))) t2 (oj (ci b,ci a))) t (oj (ci a,ci b))) (a:=Pr) (o:=.lst (zr zs++[.ref t]));generalize upd (upd (upd (upd H5 _ _) _ _) _ _) Pr _=H7 at *;refine⟨_,rfl,_,rfl,M,_,_,_,rfl,rfl,aW.of Q7,aB (ik YH),_,_,rfl,rfl,_,rfl,_,rfl,M,_,(a:Int),a,rfl,rfl,Q7,eh (by rw[be];exact YH),?_⟩;have e2:(NV (d7 n (zp zs))).set a (V.int ((((d7 n (zp zs)).getD a 0:Nat):Int)+1))=NV ((d7 n (zp zs)).set a (fz (dD (zp zs)) (ci a)+1)):=by
    rw[jD ha];exact qb (x:=fz (dD (zp zs)) (ci a)+1)
   have Q6:b<((d7 n (zp zs)).set a (fz (dD (zp zs)) (ci a)+1)).length:=by rw[gy];exact hbn
   have ek:((d7 n (zp zs)).set a (fz (dD (zp zs)) (ci a)+1)).getD b 0=fz (dD (zp zs)) (ci b):=by
    rw[bW,oW qr,<-bW,jD hb]
   generalize T6:upd H7 M _=H8;have We:H8 M=some (.lst (NV ((d7 n (zp zs)).set a (fz (dD (zp zs)) (ci a)+1)))):=by rw[<-T6,ae];exact congrArg (fun l=>some (HO.lst l)) e2
   have o8:∀b,b≠M->H8 b=H7 b:=fun b n=>by rw[<-T6,ap n]
   refine⟨_,rfl,_,rfl,M,_,_,_,rfl,rfl,aW.of We,aB (ik Q6),_,_,rfl,rfl,_,rfl,_,rfl,M,_,(b:Int),b,rfl,rfl,We,eh (by rw[be];exact Q6),?_⟩;generalize hH9:upd H8 M _=H9;have e3:(NV ((d7 n (zp zs)).set a (fz (dD (zp zs)) (ci a)+1))).set b (V.int (((((d7 n (zp zs)).set a (fz (dD (zp zs)) (ci a)+1)).getD b 0:Nat):Int)+1))=NV (d7 n (zp zs++[(ci a,ci b)])):=by
    rw[ek,<-zk ha hb qr];exact qb (x:=fz (dD (zp zs)) (ci b)+1)
   have gM9:H9 M=some (.lst (NV (d7 n (zp zs++[(ci a,ci b)])))):=by rw[<-hH9,ae];exact congrArg (fun l=>some (HO.lst l)) e3
   have o9:∀b,b≠M->H9 b=H7 b:=fun b n=>by rw[<-hH9,ap n];exact o8 b n
   have ez:zp (zs++[(t,(ci a,ci b))])=zp zs++[(ci a,ci b)]:=by rw[eD];rfl
   refine⟨zs++[(t,(ci a,ci b))],⟨_,_,_,_,rfl⟩,fun b o e n=>?_,?_,?_,fun z hz=>?_,by rw[ez];exact gM9,?_⟩
   .rw[o9 _ (am e Q4)];exact Wf _ _ e n (am e TY)
   .obtain⟨x,y,e,r⟩:=Il;exact⟨x,y,by rw[o9 _ Jw.symm];exact e,r⟩
   .rw[o9 _ Wc,hP7,eC];rfl
   .have g:=O7 z hz;rw[o9 _ (by rintro e;rw[e,Q7] at g;cases g)];exact g
   .rw[ez];exact Fi.pair ha hb qr in1 YJ da db
  .rintro σ Hc ⟨zs,⟨a',b',c',d',rfl⟩,sc,mW,K_,po,B0,Fi⟩;exact⟨_,rfl,q Pr zs Hc sc mW TY K_ po Fi⟩
end
end qx
namespace L2
open PySem PySem.Spec PyProof.Rows
def Dq:List Nat->TA
 |[]=>gI
 |n::ns=>bo (tC (.int (n:Nat))) (Dq ns)
def Im:List (List Nat)->TA
 |[]=>gI
 |c::cs=>bo (sQ (Dq c)) (Im cs)
def YK:Expr->Option Nat
 |.Constant (.int (.ofNat n)) _ _=>some n
 |_=>none
def La:List Expr->Option (List Nat)
 |[]=>some []
 |e::es=>(YK e).bind fun n=>(La es).map (n::·)
def Lb:List Expr->Option (List (List Nat))
 |[]=>some []
 |.Tuple es _ _::r=>(La es).bind fun c=>(Lb r).map (c::·)
 |_=>none
theorem O8(h:YK e=some n):∃j pos,e=.Constant (.int (n:Nat)) j pos:=by
 unfold YK at h;split at h
 .cases h;exact⟨_,_,rfl⟩
 .cases h
theorem Dr:∀ {es:List Expr} {ns:List Nat},La es=some ns->PA X es (Dq ns)
 |[],ns,h=>by cases h;exact ag
 |e::es,ns,h=>by
  unfold La at h;obtain⟨n,h1,h2⟩:=Option.bind_eq_some_iff.mp h;obtain⟨ms,h3,rfl⟩:=Option.map_eq_some_iff.mp h2;obtain⟨j,pos,rfl⟩:=O8 h1;exact aa az (Dr h3)
theorem Ds:∀ {es:List Expr} {cs:List (List Nat)},Lb es=some cs->PA X es (Im cs)
 |[],cs,h=>by cases h;exact ag
 |e::r,cs,h=>by
  unfold Lb at h;split at h
  .cases h;contradiction
  .rename_i es _ _ r' e';cases e';obtain⟨n,h1,h2⟩:=Option.bind_eq_some_iff.mp h;obtain⟨ms,h3,rfl⟩:=Option.map_eq_some_iff.mp h2;exact aa (cQ (Dr h1)) (Ds h3)
  .cases h
end L2
namespace qx
open PySem L2 jy
abbrev O9:Stmt:=top 42
abbrev ud:Stmt:=top 43
theorem iT:(["_law_more","_law_house","_law_figure","_law_step"]:List Str).Nodup:=by decide +kernel
theorem Io:∀ {ns:List Nat} {σ:St} {H:Hp} {Q:List V->Hp->Prop},Q (NV ns) H->Dq ns σ H Q
 |[],σ,H,Q,h=>h
 |n::ns,σ,H,Q,h=>Io (ns:=ns) (Q:=fun xs H2=>Q (.int (n:Nat)::xs) H2) h
theorem Ip:∀ {cs:List (List Nat)} {σ:St} {H:Hp} {Q:List V->Hp->Prop},(∀c∈cs,c.length<=5)->(∀ (as:List Addr) (H':Hp),aO H H'->as.length=cs.length->(∀i,i<cs.length->H' (as.getD i 0)=some (.tup (NV (cs.getD i []))))->Q (as.map V.ref) H')->Im cs σ H Q
 |[],σ,H,Q,_,h=>h [] H (aO.refl _) rfl fun i hi=>nomatch hi
 |c::cs,σ,H,Q,hc,h=>by
  refine Io (ns:=c) ⟨?_,fun t ht=>?_⟩
  .rw[be];exact aX (hc c bR) (by decide)
  refine Ip (cs:=cs) (fun c xR=>hc c (cD _ xR)) fun as H' s l e=>?_;refine h (t::as) H' ((ai ht).trans s) (congrArg (·+1) l) fun i hi=>?_;cases i with
  |zero=>exact s _ _ ae
  |succ i=>exact e i (Nat.lt_of_succ_lt_succ hi)
theorem xo:∀ {i:Nat},(zj ns i h).length<=i
 |0=>bE _
 |i+1=>by
  have e:zj ns (i+1) h=zj ns i h++if h / pr (ns.take i) % ns.getD i 0+1<ns.getD i 0 then [(h,h+pr (ns.take i))] else []:=by unfold zj;rw[dO]
  rw[e,dh];have:=xo (ns:=ns) (h:=h) (i:=i);split <;> simp <;> lia
theorem xp(hb:b<=5):∀ {i:Nat},(EY b i h).length<=5*i
 |0=>bE _
 |i+1=>by
  have e:EY b (i+1) h=EY b i h++K4 b i h:=by unfold EY;rw[dO]
  rw[e,dh];have:=xp (b:=b) (h:=h) hb (i:=i);have:(K4 b i h).length<=5:=by unfold K4;rw[aT,cG];lia
  lia
theorem B1:∃es q1 q2 q3 cs r,bZ ud=.Assign [.Name "_law_sizes" q1] (.List es q2) q3::r/\r=(bZ ud).drop 1/\Lb es=some cs/\cs=[[1,3,3],[1,4,4],[1,5,5],[2,3,9],[2,4,16],[2,5,25],[3,3,27],[3,2,8],[5,2,32]]:=
 ⟨_,_,_,_,[[1,3,3],[1,4,4],[1,5,5],[2,3,9],[2,4,16],[2,5,25],[3,3,27],[3,2,8],[5,2,32]],_,rfl,rfl,by decide +kernel,rfl⟩
def Lc(p:Addr)(H:Hp)(Q:V->Hp->Prop):Prop:=∀ (t r:Addr) (n:Nat) (zs:Zs) (H':Hp),aI p H H'->bf H' p->H t=none->H r=none->H' t=some (.tup [.int n,.ref r])->H' r=some (.lst (zr zs))->PO H' zs->bK n (dD (zp zs))->Q (.ref t) H'
section
variable {P:Program} {w:World} {K:PySem.W.Frag} {mg:Str->Option Value} {base:Heap}
theorem ow:aR ["_law_pot_here","_law_sides","_law_whole","_law_k","_law_found","_law_house","_law_step","_law_side"] ["_law_pot_here"] (av O9):=⟨rfl,rfl,rfl,by decide +kernel,rfl,by decide +kernel,by decide +kernel⟩
def vA:Sp:=fun vs H Q _=>∃p:Addr,vs=[.ref p]/\bf H p/\Lc p H Q
theorem O_(F:ig K "_law_box" "_law_box" O9 f fd)(B:Bl mg)(D:dL P w K mg base bg 1 "_law_take" ["_law_pot_here","_law_many"] gO):bA P w K mg base bg 2 f fd ["_law_pot_here"] vA:=by
 refine F.ok ow (fun vs H Q E h=>?_) (fun eY A outer s H vs Q E hr h=>?_)
 .obtain⟨p,rfl,_⟩:=h;rfl
 .obtain⟨p,rfl,hp,q⟩:=h;refine⟨_,(aj (AL (i:=1) (j:=2) rfl ow.nd rfl rfl (by decide) rfl rfl (aa (cS ag) (aa az ag)) (by rfl))
   (aj (cP dU rfl (bz rfl B.range (aa (aY cZ az (aH D hr aN (aa (pv 0) (aa az ag)))) ag)) (aA (i:=3) ow.nd rfl (Or.inl rfl))
    (au (cC (aQ lW (pv 2) az (a8 _)) (aj (bY (gE gk jm jl cK (pv 1) (aa (aY cZ az (aH D hr aN (aa (pv 0) (aa (aD (lK rfl) (by rfl) B.min vN (aa az (aa (aY jV (aY qU az (pv 2)) az) ag))) ag)))) ag)))
     (au (aU (i:=2) ow.nd rfl (Or.inl rfl) (aY k_ (pv 2) (aV aL (pv 1) (xW sJ az) (fun _ _=>rfl)))))) bh)))
   (aj (aU (i:=4) ow.nd rfl (Or.inl rfl) (cS ag))
   (aj (cP dU rfl (bz rfl B.range (aa (pv 2) ag)) (aA (i:=5) ow.nd rfl (Or.inl rfl))
    (aj (aU (i:=6) ow.nd rfl (Or.inl rfl) az)
    (au (cP dU rfl (bT (pv 1)) (aA (i:=7) ow.nd rfl (Or.inl rfl))
     (aj (cC (aQ lW (aY iE (aY qU (pv 5) (pv 6)) (pv 7)) (aY jV (pv 7) az) (a8 _)) (au (bY (gE gk jm jl cK (pv 4) (aa (cQ (aa (pv 5) (aa (aY cZ (pv 5) (pv 6)) ag))) ag)))) bh)
     (au (aU (i:=6) ow.nd rfl (Or.inl rfl) (aY k_ (pv 6) (pv 7)))))))))
   (au (a_ (cQ (aa (pv 2) (aa (pv 4) ag))))))))),?_⟩
  refine⟨by show 0<=sizeLine;decide,fun S hS=>⟨_,_,rfl,?_⟩⟩;have sS:=ai (o:=.lst []) hS;have Jx:S≠p:=hp.ne hS;dsimp only;refine⟨_,rfl,p,5,rfl,by decide,by decide,hp.same sS,fun d H1 hd s1 ng=>⟨_,_,rfl,rfl,(1+(d:Int)),rfl,by lia,by lia,?_⟩⟩;rw[show (1+(d:Int)).toNat=1+d by lia];refine dC (lo:=0) (n:=1+d) (fun i σ Hc=>∃ns:List Nat,(∃a,σ=[some (.ref p),some (.ref S),some (.int ((pr ns:Nat):Int)),a,none,none,none,none])/\aI p H Hc/\bf Hc p/\Hc S=some (.lst (NV ns))/\ns.length<=i/\(∀x∈ns,2<=x/\x<=8)/\pr ns<=32/\(0<i->ns≠[]))
   ⟨[],⟨_,rfl⟩,(aI.of sS).trans s1,ng,s1 _ _ ae Jx,aK _,fun x hx=>(nomatch hx),by decide,fun z=>absurd z (iz _)⟩ ?_ ?_
  .rintro i σ Hc hi ⟨ns,⟨a,rfl⟩,sc,mW,vB,nl,nb,np,nn⟩;have p1:1<=pr ns:=iN (ns:=ns) (i:=0) fun x hx=>by have:=nb x hx;lia
   refine⟨_,rfl,_,_,rfl,rfl,_,rfl,fZ (fun c=>?_) (fun c=>?_)⟩
   .have c:=fc c;have hq:(32:Int) / ((pr ns:Nat):Int)=((32 / pr ns:Nat):Int):=rfl;have q2:2<=32 / pr ns:=(Nat.le_div_iff_mul_le (by lia)).mpr (by lia);have em:(if (32:Int) / ((pr ns:Nat):Int)-1<7 then (32:Int) / ((pr ns:Nat):Int)-1 else 7)=((min 7 (32 / pr ns-1):Nat):Int):=by rw[hq];split <;> lia
    refine⟨_,rfl,.inl ⟨rfl,_,aW.of vB⟩,_,rfl,_,rfl,_,_,rfl,rfl,⟨by lia,by lia⟩,_,_,rfl,rfl,7,_,rfl,p,min 7 (32 / pr ns-1),by rw[em];rfl,by lia,by lia,mW,fun e H2 he s2 wU=>⟨_,_,rfl,rfl,S,_,_,rfl,rfl,s2 _ _ vB Jx,by rw[be];exact eK (show ns.length<=6 by lia) (by decide),?_⟩⟩;have e2:NV ns++[V.int (2+(e:Int))]=NV (ns++[2+e]):=by rw[<-iX];congr 2
    rw[e2];refine⟨_,rfl,_,rfl,_,rfl,S,_,_,_,rfl,rfl,aW.of ae,by rw[<-iX];exact yb _ _,_,_,rfl,rfl,.inr ⟨by lia,by lia⟩,?_⟩;have QT:pr ns*(2+e)<=32:=aX (rM _ (show 2+e<=32 / pr ns by lia)) (Nat.mul_div_le _ _);refine⟨ns++[2+e],⟨some (.int (0+(i:Int))),?_⟩,fun b o g n=>?_,wU.put Jx.symm,ae,by rw[dh,md];lia,fun x hx=>?_,by rw[rB];exact QT,fun _=>by simp⟩
    .rw[rB,Int.natCast_mul];rfl
    .rw[ap (am g hS)];exact s2 _ _ (sc _ _ g n) n
    .rcases bX.mp hx with z|z
     .exact nb x z
     .rw[cu.mp z];lia
   .have c:¬ pr ns<17:=fun z=>c (ie (by lia));exact⟨ns,⟨_,rfl⟩,sc,mW,vB,by lia,nb,np,fun _ z=>by rw[z] at c;exact c (by decide)⟩
  rintro σ Hc ⟨ns,⟨a,rfl⟩,sc,mW,vB,nl,nb,np,nn⟩;have nn:=nn (by lia);have p1:1<=pr ns:=iN (ns:=ns) (i:=0) fun x hx=>by have:=nb x hx;lia
  have hn1:∀x∈ns,1<=x:=fun x hx=>by have:=nb x hx;lia
  refine⟨by show 0<=sizeLine;decide,fun R hR=>?_⟩;have sR:=ai (o:=.lst []) hR;refine⟨_,rfl,((pr ns:Nat):Int),rfl,by lia,by lia,?_⟩;rw[gu];have fl:∀i,i<=32->∀j,j<=5->(((List.range i).flatMap (zj ns ns.length))++zj ns j i).length<=200:=fun i hi j hj=>by
   rw[dh];have:=pS (m:=i) (g:=zj ns ns.length) (M:=5) fun x=>aX xo (by lia);have:=xo (ns:=ns) (h:=i) (i:=j);lia
  refine dC (lo:=0) (n:=pr ns) (fun i σ Hd=>(∃x a b c,σ=[some (.ref p),some (.ref S),some (.int ((pr ns:Nat):Int)),x,some (.ref R),a,b,c])/\ot Hc R (((List.range i).flatMap (zj ns ns.length)).map iQ) Hd) ⟨⟨_,_,_,_,rfl⟩,sR,[],ae,PO.nil,rfl⟩ ?_ ?_
  .rintro i σ Hd hi ⟨⟨x3,x5,x6,x7,rfl⟩,Pi⟩;rw[hZ];refine⟨_,rfl,S,rfl,⟨_,aW.of (Pi.1 _ _ vB)⟩,fY (K:=K) (xs:=NV ns) (fun j σ He=>(∃x c,σ=[some (.ref p),some (.ref S),some (.int ((pr ns:Nat):Int)),x,some (.ref R),some (.int (i:Int)),some (.int ((pr (ns.take j):Nat):Int)),c])/\ot Hc R ((((List.range i).flatMap (zj ns ns.length))++zj ns j i).map iQ) He) ⟨⟨_,_,rfl⟩,by simpa [zj] using Pi⟩ (fun j σ He _ z=>aW.of (z.2.1 _ _ vB)) ?_ ?_⟩
   .rintro j x σ He hx ⟨⟨y3,y7,rfl⟩,Pj⟩;obtain⟨n,hv,rfl⟩:=qy hx;have hj:j<ns.length:=(b9.mp hv).1;have hnn:=nb n (cU hv);have oC:=iN (ns:=ns) (i:=j) hn1;have abt:1<=pr (ns.take j):=iN (ns:=ns.take j) (i:=0) fun x hx=>hn1 x (oU hx);have gd:ns.getD j 0=n:=by rw[bW,hv];rfl
    have tk:ns.take (j+1)=ns.take j++[n]:=by rw[gX,hv];rfl
    have eB:zj ns (j+1) i=zj ns j i++if i / pr (ns.take j) % n+1<n then [(i,i+pr (ns.take j))] else []:=by unfold zj;rw[dO,gd]
    rw[tk,rB,eB];have fl':=fl i (by lia) j (by lia);generalize pr (ns.take j)=st at *;dsimp only;refine vy (fun σ He=>σ=[some (.ref p),some (.ref S),some (.int ((pr ns:Nat):Int)),y3,some (.ref R),some (.int (i:Int)),some (.int (st:Int)),some (.int (n:Int))]/\ot Hc R ((((List.range i).flatMap (zj ns ns.length))++(zj ns j i++if i / st % n+1<n then [(i,i+st)] else [])).map iQ) He) ?_ ?_
    .rintro σ He ⟨rfl,Pe⟩;exact⟨_,rfl,_,rfl,_,_,rfl,rfl,.inr ⟨by lia,by lia⟩,⟨_,_,rfl⟩,Pe⟩
    .intro N hN;have YL:(i:Int) / (st:Int) % (n:Int)=((i / st % n:Nat):Int):=rfl;refine⟨_,rfl,_,rfl,_,_,rfl,rfl,⟨by lia,by lia⟩,_,rfl,_,_,rfl,rfl,(by show (0:Int)<(n:Int);lia),_,rfl,_,_,rfl,rfl,_,_,rfl,rfl,_,rfl,?_⟩;rw[YL];obtain⟨sm,xN,uI,xm,K8⟩:=Pj;refine fZ (fun c=>?_) (fun c=>?_)
     .have c:=fc c;refine⟨_,rfl,.inl ⟨rfl,_,aW.of uI⟩,_,rfl,_,rfl,_,rfl,_,_,rfl,rfl,by show 2<=sizeLine;decide,fun t ht=>?_⟩;have aE:=ai (o:=oj (iQ (i,i+st))) ht;refine⟨R,_,_,rfl,rfl,aE _ _ uI,?_,?_⟩
      .rw[dB,<-bB,K8,aT];exact eK fl' (by decide)
      .refine hN _ _ ⟨rfl,?_⟩;rw[ao (by lia),<-di,cW];exact ot.ext (zs:=[(t,iQ (i,i+st))]) hR sm uI xm K8 aE (PO.one ae) rfl
     .refine hN _ _ ⟨rfl,?_⟩;rw[ak (fun z=>c (ie (by lia))),ja];exact⟨sm,xN,uI,xm,K8⟩
   .rintro σ He ⟨⟨y3,y7,rfl⟩,Pe⟩;refine⟨⟨_,_,_,_,rfl⟩,?_⟩;rw[be] at Pe;rw[dO];exact Pe
  .rintro σ Hd ⟨⟨x3,x5,x6,x7,rfl⟩,sm,xN,uI,xm,K8⟩;refine⟨_,rfl,_,rfl,by show 2<=sizeLine;decide,fun t ht=>?_⟩;have st:=ai (o:=.tup [.int ((pr ns:Nat):Int),.ref R]) ht;have fr:∀ {a:Addr},Hc a=none->H a=none:=fun h=>sc.free mW.full h;refine q t R (pr ns) xN _ (sc.trans (aI.of (sm.trans st))) ((mW.same sm).same st) (fr (sm.free ht)) (fr hR) ae (st _ _ uI) (xm.same st) ?_;rw[K8];refine(Hr (fun x hx=>(nb x hx).1) nn np).perm (lx (List.Perm.map _ ?_));refine Ie.trans (kP ?_);unfold n9;rw[Ii];simp only[Nat.one_mul]
theorem gf:aR ["_law_pot_here","_law_sizes","_law_figures","_law_base","_law_many","_law_found","_law_house","_law_step","_law_k","_law_figure"] ["_law_pot_here"] (av ud):=⟨rfl,rfl,rfl,by decide +kernel,rfl,by decide +kernel,by decide +kernel⟩
theorem Iq(F:ig K "_law_words" "_law_words" ud f fd)(B:Bl mg)(D:dL P w K mg base bg 1 "_law_take" ["_law_pot_here","_law_many"] gO):bA P w K mg base bg 2 f fd ["_law_pot_here"] vA:=by
 refine F.ok gf (fun vs H Q E h=>?_) (fun eY A outer s H vs Q E hr h=>?_)
 .obtain⟨p,rfl,_⟩:=h;rfl
 .obtain⟨p,rfl,hp,q⟩:=h;obtain⟨es,q1,q2,q3,cs,r,eb,er,Xi,ec⟩:=B1;rw[eb,er];refine'⟨_,(aj (aU (i:=1) gf.nd rfl (Or.inl rfl) (cS (Ds Xi)))
   (aj (dM (aV aL (pv 1) (aH D hr aN (aa (pv 0) (aa az ag))) (fun _ _=>rfl)) (dA (n:=3) rfl (aG (aA (i:=2) gf.nd rfl (Or.inl rfl)) (aG (aA (i:=3) gf.nd rfl (Or.inl rfl)) (aG (aA (i:=4) gf.nd rfl (Or.inl rfl)) cr)))))
   (aj (aU (i:=5) gf.nd rfl (Or.inl rfl) (cS ag))
   (aj (cP dU rfl (bz rfl B.range (aa (pv 4) ag)) (aA (i:=6) gf.nd rfl (Or.inr rfl))
    (aj (aU (i:=7) gf.nd rfl (Or.inr rfl) az)
    (au (cP dU rfl (bz rfl B.range (aa (pv 2) ag)) (aA (i:=8) gf.nd rfl (Or.inl rfl))
     (aj (aU (i:=9) gf.nd rfl (Or.inr rfl) (aY iE (aY qU (pv 6) (pv 7)) (pv 3)))
     (aj (bY (gE gk PySem.F.slot_list_extend PySem.F.type_list_extend D9 (pv 5) (aa ?c1 ag)))
     (au (aU (i:=7) gf.nd rfl (Or.inr rfl) (aY k_ (pv 7) (pv 3))))))))))
   (au (a_ (cQ (aa (pv 4) (aa (pv 5) ag))))))))),?_⟩
  case c1=>
   refine' cL (g:=(bv 0)) (te:=(sQ (bo (a9 1) (bo (kr (zM fun i j=>.int (i+j)) (a9 1) (kr (rI JI fun i j=>.int (i*j)) (kr (zM fun i j=>.int (i-j)) (a9 0) (a9 2)) (a9 3))) gI)))) (NB:=["_law_more","_law_house","_law_figure","_law_step"]) (src:=[none,some 6,some 9,some 7]) (bp (by kernel_rfl)) rfl (pK rfl B.range (aa (aY cZ (pv 9) az) (aa (pv 3) ag))) ?g ?t ?e;case g=>exact fun cl C s₃ H₃ fp=>(aA (i:=0) iT rfl (Or.inl rfl) (Or.inr rfl))
   case t=>exact fun cl C s₃ H₃ fp=>dz
   case e=>exact fun cl C s₃ H₃ fp=>(cQ (aa (pv 1) (aa (aY cZ (pv 1) (aY k_ (aY jV (pv 0) (pv 2)) (pv 3))) ag)))
  refine Ip (cs:=cs) (by rw[ec];decide) fun as H4 s4 la ea=>⟨?_,fun S hS=>?_⟩
  .rw[aT,la,ec];show 9<=sizeLine;decide
  have sS:=ai (o:=.lst (as.map V.ref)) hS;refine⟨_,rfl,_,rfl,p,9,rfl,by decide,by decide,(hp.same s4).same sS,fun d H5 hd s5 ui=>?_⟩;have had:as[d]?=some (as.getD d 0):=by rw[bW,bQ (by rw[la,ec];exact hd)];rfl
  have nS:S≠p:=(hp.same s4).ne hS;have ga:=ea d (by rw[ec];exact hd);have YM:=s5 _ _ (sS _ _ ga) ((hp.same s4).neT ga);have sd:∀d,d<9->∃f b:Nat,([[1,3,3],[1,4,4],[1,5,5],[2,3,9],[2,4,16],[2,5,25],[3,3,27],[3,2,8],[5,2,32]]:List (List Nat)).getD d []=[f,b,b ^ f]/\1<=f/\f<=5/\2<=b/\b<=5/\b ^ f<=32:=fun d hd=>
   ⟨(([[1,3,3],[1,4,4],[1,5,5],[2,3,9],[2,4,16],[2,5,25],[3,3,27],[3,2,8],[5,2,32]]:List (List Nat)).getD d []).getD 0 0,(([[1,3,3],[1,4,4],[1,5,5],[2,3,9],[2,4,16],[2,5,25],[3,3,27],[3,2,8],[5,2,32]]:List (List Nat)).getD d []).getD 1 0,by revert d;decide⟩
  obtain⟨fg,b,e9,f1,f2,b1,b2,hm⟩:=sd d hd;rw[ec,e9] at YM;refine⟨S,_,_,_,rfl,rfl,aW.of (s5 _ _ ae nS),aB (by rw[bU,had];rfl),_,_,rfl,bP.of YM,rfl,_,_,rfl,_,_,rfl,_,_,rfl,rfl,?_⟩;have O6:aI p H H5:=(aI.of (s4.trans sS)).trans s5;clear sd YM ga had ea la e9 hd s5;have hpw:∀i,i<=fg->b ^ i<=32:=fun i hi=>aX (Nat.pow_le_pow_right (by lia) hi) hm;refine⟨by show 0<=sizeLine;decide,fun R hR=>?_⟩;have sR:=ai (o:=.lst []) hR;refine⟨_,rfl,((b ^ fg:Nat):Int),rfl,by lia,by lia,?_⟩;rw[gu];refine dC (lo:=0) (n:=b ^ fg) (fun i σ Hd=>(∃u v c e,σ=[some (.ref p),some (.ref S),some (.int (fg:Int)),some (.int (b:Int)),some (.int ((b ^ fg:Nat):Int)),some (.ref R),u,v,c,e])/\ot H5 R (((List.range i).flatMap (EY b fg)).map iQ) Hd) ⟨⟨_,_,_,_,rfl⟩,sR,[],ae,PO.nil,rfl⟩ ?_ ?_
  .rintro i σ Hd hi ⟨⟨x3,x5,x6,x7,rfl⟩,Pi⟩;rw[hZ];refine⟨_,rfl,(fg:Int),rfl,by lia,by lia,?_⟩;rw[gu];refine dC (lo:=0) (n:=fg) (fun j σ He=>(∃c e,σ=[some (.ref p),some (.ref S),some (.int (fg:Int)),some (.int (b:Int)),some (.int ((b ^ fg:Nat):Int)),some (.ref R),some (.int (i:Int)),some (.int ((b ^ j:Nat):Int)),c,e])/\ot H5 R ((((List.range i).flatMap (EY b fg))++EY b j i).map iQ) He) ⟨⟨_,_,rfl⟩,by simpa [EY] using Pi⟩ ?_ ?_
   .rintro j σ He hj ⟨⟨y8,y9,rfl⟩,xh,zs4,YN,po4,ez4⟩;have hbi:=hpw j (by lia);have hbp:0<b ^ j:=Nat.pow_pos (by lia);have YL:(i:Int) / ((b ^ j:Nat):Int) % (b:Int)=((i / b ^ j % b:Nat):Int):=rfl;have dZ:i / b ^ j % b<b:=kW _ (by lia);have zl:zs4.length<=1000:=by
     have e:=congrArg List.length ez4;rw[bB,aT,dh] at e;have z3:=pS (m:=i) (g:=EY b fg) (M:=25) fun x=>aX (xp b2) (by lia);have z5:=xp (b:=b) (h:=i) b2 (i:=j);lia
    refine⟨_,rfl,_,rfl,_,_,rfl,rfl,⟨by lia,by lia⟩,_,rfl,_,_,rfl,rfl,(by show (0:Int)<(b:Int);lia),?_⟩;change bv 9 (V.int ((i:Int) / ((b ^ j:Nat):Int) % (b:Int))) _ _ _;rw[YL];refine⟨_,rfl,.inl ⟨rfl,_,aW.of YN⟩,_,rfl,_,_,rfl,rfl,_,rfl,_,_,rfl,⟨by lia,by lia,by lia,by lia⟩,fun L hL=>?_⟩;have hn:((b:Int)-(((i / b ^ j % b:Nat):Int)+1)).toNat=b-i / b ^ j % b-1:=by lia
    rw[hn];refine yX (lo:=((i / b ^ j % b:Nat):Int)+1) (fun c=>iQ (i,i+(c+1)*b ^ j)) (fun σ=>∃x,σ=[x,some (.int (i:Int)),some (.int ((i / b ^ j % b:Nat):Int)),some (.int ((b ^ j:Nat):Int))]) hL (by lia) ⟨_,rfl⟩ ?_ ?_
    .rintro c σ H7 R' Kf hc ⟨x,rfl⟩ sm7 kt;have hq:(((i / b ^ j % b:Nat):Int)+1+(c:Int)-((i / b ^ j % b:Nat):Int))*((b ^ j:Nat):Int)=(((c+1)*b ^ j:Nat):Int):=by rw[show ((i / b ^ j % b:Nat):Int)+1+(c:Int)-((i / b ^ j % b:Nat):Int)=((c+1:Nat):Int) by lia];exact(Int.natCast_mul _ _).symm
     refine⟨_,rfl,_,rfl,_,rfl,_,rfl,_,_,rfl,rfl,_,rfl,_,_,rfl,rfl,.inr ⟨by lia,by lia⟩,_,_,rfl,rfl,by show 2<=sizeLine;decide,fun t ht=>?_⟩;rw[hq];exact kt _ _ ⟨_,rfl⟩ ht
    .intro zs H7 s7 hL7 O7 ez7 _;have e5:zp zs=(K4 b j i).map iQ:=by rw[ez7];unfold K4;rw[dk];rfl
     have l5:zs.length<=5:=by rw[<-bB,e5,aT];unfold K4;rw[aT,cG];lia
     refine⟨R,L,_,_,rfl,rfl,s7 _ _ YN,hL7,by rw[dB,dB];exact aX (show _<=1005 by lia) (by decide),?_⟩;refine⟨_,rfl,_,rfl,_,_,rfl,rfl,.inr ⟨by lia,by lia⟩,⟨some (.int (0+(j:Int))),some (.int ((i / b ^ j % b:Nat):Int)),?_⟩,?_⟩
     .rw[Nat.pow_succ];rfl
     .have eW:EY b (j+1) i=EY b j i++K4 b j i:=by unfold EY;rw[dO]
      rw[eW,<-di,cW];exact ot.ext hR xh YN po4 ez4 s7 O7 e5
   .rintro σ He ⟨⟨y8,y9,rfl⟩,Pe⟩;refine⟨⟨_,_,_,_,rfl⟩,?_⟩;rw[dO];exact Pe
  .rintro σ Hd ⟨⟨x3,x5,x6,x7,rfl⟩,sm,xN,uI,xm,K8⟩;refine⟨_,rfl,_,rfl,by show 2<=sizeLine;decide,fun t ht=>?_⟩;have st:=ai (o:=.tup [.int ((b ^ fg:Nat):Int),.ref R]) ht;have fr:∀ {a:Addr},H5 a=none->H a=none:=fun h=>O6.free ui.full h;refine q t R (b ^ fg) xN _ (O6.trans (aI.of (sm.trans st))) ((ui.same sm).same st) (fr (sm.free ht)) (fr hR) ae (st _ _ uI) (xm.same st) ?_;rw[K8];exact(BB f1 f2 b1 b2 hm).1.perm (lx (List.Perm.map _ Ig))
end
end qx
namespace L2
open PySem PySem.Spec PyProof.Rows
abbrev mX(h:Heap)(z TI TO a:Addr)(f:Bool):Prop:=
 h.get? z=some { cls:=.type "zip",dict:=none,data:=.fields #[rawInt a,.bool f,.bool false,.ref TI,.ref TO],slots:=#[] }
theorem B3:typeLookup (.type "zip") "__len__"=pure none:=by rw[v_,vT];kernel_rfl
theorem zo:typeLookup (.type "zip") "__length_hint__"=pure none:=by rw[v_,vT];kernel_rfl
section
variable {prog:Program} {w:World} {A:Around} {E:Value->Shared->Prop} {s:Shared}
theorem vC{z TI TO a:Addr}{f:Bool}{oa:Obj}{Q:Bool->Shared->Prop}(hz:mX s.heap z TI TO a f)(ha:s.heap.get? a=some oa)(hQ:∀h',mX h' z TI TO a true->Heap.SameBut z s.heap h'->Q false { s with heap:=h' }):wpAny (model prog w) A (Builtin.SmallTypes.ownedTupleIsFree (.ref z)) Q E s:=by
 unfold Builtin.SmallTypes.ownedTupleIsFree;refine aw (fV hz rfl (x:=rawInt a) rfl ?_);show wpAny _ _ (loadIfAlive ((a:Int).toNat) >>= _) _ _ _;rw[gu];refine aw (PySem.W.kdx_alive ha ?_);simp only[Option.isNone_some,ic,dY];refine aw (fV hz rfl (x:=.bool f) rfl ?_);cases f with
 |true=>
  rw[ak (show ¬ ((Value.bool true != Value.bool true)=true) from cw)];exact wpAny_pure (hQ s.heap hz (Heap.SameBut.refl _ _))
 |false=>
  rw[ao (show (Value.bool false != Value.bool true)=true from rfl)];refine aw (o5 hz (by simp) fun h₃ he₃ Q8=>?_);exact wpAny_pure (hQ h₃ he₃ Q8)
theorem E6{z TI TO i1 i2 l1 l2 a:Addr}{f:Bool}{oa:Obj}{k1 k2:Nat}{xs ys:Array Value}{x y:Value}{Q:Option Value->Shared->Prop}(D:ZipApart z TI TO i1 i2 l1 l2)(hz:mX s.heap z TI TO a f)(ha:s.heap.get? a=some oa)(YO:IsPair s.heap TI (.ref i1) (.ref i2))(h1:s.heap.IsListIter i1 l1 k1)(h2:s.heap.IsListIter i2 l2 k2)(Ei:s.heap.IsList l1 xs)(Fp:s.heap.IsList l2 ys)(hx:xs[k1]?=some x)(hy:ys[k2]?=some y)(hQ:∀h',mX h' z TI TO a true->h'.IsListIter i1 l1 (k1+1)->h'.IsListIter i2 l2 (k2+1)->IsPair h' s.heap.objs.size x y->h'.objs.size=s.heap.objs.size+1->
   (∀c o,c≠z->c≠i1->c≠i2->s.heap.get? c=some o->h'.get? c=some o)->Q (some (.ref s.heap.objs.size)) { s with heap:=h' }):
  wpAny (model prog w) A (pyNext (.ref z)) Q E s:=by
 have hT:s.TypeIs (.ref z) "zip":=⟨_,hz,rfl⟩
 unfold pyNext;refine aw (jN (l9 (name:=Str.ofString "__next__") hT F.slot_zip_next
  (jJ F.slot_zip_next hT F.entry_zip_next ?_ (F.args_zip_next_1 _))))
 show wpAny _ _ (field (.ref z) 2 >>= _) _ _ _;refine aw (fV hz rfl (x:=.bool false) rfl ?_);show wpAny _ _ (field (.ref z) 3 >>= _) _ _ _;refine aw (fV hz rfl (x:=.ref TI) rfl ?_);refine aw (hX YO rfl ?_);show wpAny _ _ (Builtin.SmallTypes.ownedTupleIsFree (.ref z) >>= _) _ _ _;refine aw (vC hz ha fun h₁ hz₁ Jy=>?_);simp only[ic,dY];refine aw ?_;show wpAny _ _ (forIn #[Value.ref i1,Value.ref i2] _ _) _ _ _;rw[<-rQ];simp only[ph,pq];refine aw (aw (gC ?_));show wpAny _ _ (Builtin.SmallTypes.nextOf (.ref i1) >>= _) _ _ _;refine aw (wpAny_nextOf_list_item (h1.extBut Jy.extBut D.i1z) (Ei.extBut Jy.extBut D.l1z) hx fun h₂ h1₂ Pa=>wpAny_pure ?_);refine wpAny_pure ?_;refine aw (aw (gC ?_));show wpAny _ _ (Builtin.SmallTypes.nextOf (.ref i2) >>= _) _ _ _;refine aw (wpAny_nextOf_list_item ((h2.extBut Jy.extBut D.i2z).extBut Pa.extBut D.i12.symm) ((Fp.extBut Jy.extBut D.l2z).extBut Pa.extBut D.l2i1) hy fun h₃ h2₃ Q8=>wpAny_pure ?_);refine wpAny_pure (wpAny_pure ?_);dsimp only;refine aw (sg ?_ (by show 2<=sizeLine;decide));have gZ:h₃.objs.size=s.heap.objs.size:=by rw[Q8.1,Pa.1,Jy.1]
 refine wpAny_pure ⟨_,rfl,?_⟩;refine wpAny_pure ?_;show Q (some (.ref h₃.objs.size)) _;rw[gZ];have up:∀c o,h₃.get? c=some o->(h₃.push { cls:=.type "tuple",data:=.seq #[x,y] }).get? c=some o:=fun c o e=>bw _ e;refine hQ _ (up _ _ (Q8.extBut _ _ D.i2z.symm (Pa.extBut _ _ D.i1z.symm hz₁))) ((h1₂.extBut Q8.extBut D.i12).at fun o e=>up _ o e) (h2₃.at fun o e=>up _ o e) ?_ (by rw[iy,gZ]) fun c o c1 c3 c4 e=>up c o (Q8.extBut _ _ c4 (Pa.extBut _ _ c3 (Jy.extBut _ _ c1 e)));rw[<-gZ];exact b_ _ rfl
theorem Ir{z TI TO i1 i2 l1 l2 a:Addr}{f:Bool}{oa:Obj}{k1:Nat}{xs:Array Value}{Q:Option Value->Shared->Prop}(hh:A.handled=none)(D:ZipApart z TI TO i1 i2 l1 l2)(hz:mX s.heap z TI TO a f)(ha:s.heap.get? a=some oa)(YO:IsPair s.heap TI (.ref i1) (.ref i2))(h1:s.heap.IsListIter i1 l1 k1)(Ei:s.heap.IsList l1 xs)(hx:xs[k1]?=none)(hQ:∀h',(∀c o,c≠z->c≠TO->c≠i1->c≠i2->s.heap.get? c=some o->h'.get? c=some o)->Q none { s with heap:=h' }):
  wpAny (model prog w) A (pyNext (.ref z)) Q E s:=by
 have hT:s.TypeIs (.ref z) "zip":=⟨_,hz,rfl⟩
 unfold pyNext;refine aw (jN (l9 (name:=Str.ofString "__next__") hT F.slot_zip_next
  (jJ F.slot_zip_next hT F.entry_zip_next ?_ (F.args_zip_next_1 _))))
 show wpAny _ _ (field (.ref z) 2 >>= _) _ _ _;refine aw (fV hz rfl (x:=.bool false) rfl ?_);show wpAny _ _ (field (.ref z) 3 >>= _) _ _ _;refine aw (fV hz rfl (x:=.ref TI) rfl ?_);refine aw (hX YO rfl ?_);show wpAny _ _ (Builtin.SmallTypes.ownedTupleIsFree (.ref z) >>= _) _ _ _;refine aw (vC hz ha fun h₁ hz₁ Jy=>?_);simp only[ic,dY];refine aw ?_;show wpAny _ _ (forIn #[Value.ref i1,Value.ref i2] _ _) _ _ _;rw[<-rQ];simp only[ph,pq];refine aw (aw (gC ?_));show wpAny _ _ (Builtin.SmallTypes.nextOf (.ref i1) >>= _) _ _ _;refine aw (wpAny_nextOf_list_end hh (h1.extBut Jy.extBut D.i1z) (Ei.extBut Jy.extBut D.l1z) hx fun h₂ e Pa he=>?_);obtain⟨o,ho,hc⟩:=he;refine aw (AJ (T:="StopIteration") (b:=true) ⟨o,ho,hc⟩ isSubtype_stop ?_);exact wpAny_pure (hQ _ fun c o c1 _ c3 _ x=>Pa _ _ c3 (Jy.extBut _ _ c1 x))
structure Pb(h:Heap)(z TI TO i1 i2 l1 l2:Addr)(i:Nat)(xs ys:Array Value)(as:List Addr):Prop where
 hz:(as=[]/\IsZip h z TI TO .none)\/∃a r f,as=a::r/\mX h z TI TO a f
 ti:IsPair h TI (.ref i1) (.ref i2)
 to:∃u v,IsPair h TO u v
 r1:h.IsListIter i1 l1 i
 r2:h.IsListIter i2 l2 i
 x:h.IsList l1 xs
 y:h.IsList l2 ys
 len:as.length=i
 pr:∀ (j:Nat) a,as[j]?=some a->∃x y,xs[j]?=some x/\ys[j]?=some y/\IsPair h a x y
theorem Pb.keep{h h':Heap}{z TI TO i1 i2 l1 l2 S:Addr}{i:Nat}{xs ys:Array Value}{as:List Addr}(t:Pb h z TI TO i1 i2 l1 l2 i xs ys as)(k:∀b o,b≠S->h.get? b=some o->h'.get? b=some o)(n1:z≠S)(n2:TI≠S)(n3:TO≠S)(n4:i1≠S)(n5:i2≠S)(n6:l1≠S)(n7:l2≠S)(n8:∀a∈as,a≠S):Pb h' z TI TO i1 i2 l1 l2 i xs ys as:=by
 obtain⟨hz,ti,⟨u,v,to⟩,r1,r2,x,y,len,pr⟩:=t;refine⟨?_,k _ _ n2 ti,⟨u,v,k _ _ n3 to⟩,r1.at fun o e=>k _ _ n4 e,r2.at fun o e=>k _ _ n5 e,?_,?_,len,fun j a hj=>?_⟩
 .rcases hz with ⟨e,q⟩|⟨a,r,f,e,q⟩
  .exact .inl ⟨e,k _ _ n1 q⟩
  .exact .inr ⟨a,r,f,e,k _ _ n1 q⟩
 .obtain⟨o,e,q⟩:=x;exact⟨o,k _ _ n6 e,q⟩
 .obtain⟨o,e,q⟩:=y;exact⟨o,k _ _ n7 e,q⟩
 .obtain⟨u,v,e1,e2,e3⟩:=pr j a hj;exact⟨u,v,e1,e2,k _ _ (n8 a (cU hj)) e3⟩
theorem Iu{S z TI TO i1 i2 l1 l2 lo:Addr}{xs ys:Array Value}{R:Result->Shared->Prop}(hh:A.handled=none)(D:ZipApart z TI TO i1 i2 l1 l2)(hn:xs.size<=1000)(vk:xs.size=ys.size)(res:Value){h₁:Heap}(n1:z≠S)(n2:TI≠S)(n3:TO≠S)(n4:i1≠S)(n5:i2≠S)(n6:l1≠S)(n7:l2≠S)(QQ:S<lo/\z<lo/\TO<lo/\i1<lo/\i2<lo)(hR:∀ (h':Heap) (tk:Nat) (c_:Array Value) (c:Nat) (as:List Addr),(∀b o,b≠S->b≠z->b≠TO->b≠i1->b≠i2->h₁.get? b=some o->h'.get? b=some o)->h'.get? S=some { cls:=.type "list",dict:=none,data:=.seq c_ c,slots:=#[] }->as.length=xs.size->as.Nodup->(∀a∈as,lo<=a)->
   (∀ (j:Nat) a,as[j]?=some a->∃x y,xs[j]?=some x/\ys[j]?=some y/\IsPair h' a x y)->c_.toList=as.map Value.ref->R (.ok (.ret res)) { s with heap:=h',toks:=tk }):
  ∀ (k i:Nat) (h:Heap) (tk c:Nat) (c_:Array Value) (as:List Addr),xs.size-i=k->i<=xs.size->Pb h z TI TO i1 i2 l1 l2 i xs ys as->lo<=h.objs.size->(∀b o,b≠S->b≠z->b≠TO->b≠i1->b≠i2->h₁.get? b=some o->h.get? b=some o)->
   h.get? S=some { cls:=.type "list",dict:=none,data:=.seq c_ c,slots:=#[] }->c_.toList=as.map Value.ref->as.Nodup->(∀a∈as,lo<=a)->
   codeAny (model prog w) A (.builtin "list.extend.loop" ⟨[.ref S,.ref z,res],[]⟩) R { s with heap:=h,toks:=tk }:=by
 obtain⟨m1,m2,m3,m4,m5⟩:=QQ;intro k;induction k with
 |zero=>
  intro i h tk c c_ as hk hi st hl Iv hS zq nd ab;have vo:i=xs.size:=by lia
  have dQ:∀h',(∀c o,c≠z->c≠TO->c≠i1->c≠i2->h.get? c=some o->h'.get? c=some o)->R (.ok (.ret res)) { s with heap:=h',toks:=tk }:=fun h' kp=>by
   refine hR h' tk c_ c as (fun b o h1 h2 h3 h4 h5 e=>kp b o h2 h3 h4 h5 (Iv b o h1 h2 h3 h4 h5 e)) (kp S _ n1.symm n3.symm n4.symm n5.symm hS) (by rw[st.len,vo]) nd ab (fun j a hj=>?_) zq;obtain⟨u,v,e1,e2,e3⟩:=st.pr j a hj;have:=ab a (cU hj);exact⟨u,v,e1,e2,kp a _ (fw (by lia)) (fw (by lia)) (fw (by lia)) (fw (by lia)) e3⟩
  refine kR FN ?_;rw[oZ zZ _];show wpAny _ A.in1 (pyNext (.ref z) >>= _) _ _ _;obtain⟨u,v,Jz⟩:=st.to;rcases st.hz with ⟨e,q⟩|⟨a,r,f,e,q⟩
  .exact aw (wpAny_pyNext_zip_end (s:={ s with heap:=h,toks:=tk }) (A:=A.in1) hh D q st.ti Jz st.r1 st.r2 st.x st.y (.inl (by simp;lia)) fun h' kp=>wpAny_pure (dQ h' kp))
  .obtain⟨u',v',_,_,ga⟩:=st.pr 0 a (by rw[e];rfl);exact aw (Ir (s:={ s with heap:=h,toks:=tk }) (A:=A.in1) hh D q ga st.ti st.r1 st.x (by simp;lia) fun h' kp=>wpAny_pure (dQ h' kp))
 |succ k ih=>
  intro i h tk c c_ as hk hi st hl Iv hS zq nd ab;have dZ:i<xs.size:=by lia
  have gZ:c_.size=i:=by rw[<-lU,zq,aT,st.len]
  have hx:xs[i]?=some xs[i]:=by simp[dZ]
  have hy:ys[i]?=some (ys[i]'(by lia)):=by simp
  have YQ:∀a∈as,a<h.objs.size:=fun a ha=>by
   obtain⟨j,hj⟩:=vQ.mp ha;obtain⟨_,_,_,_,e⟩:=st.pr j a hj;exact aP e
  have go:∀h' f,(∃u v,IsPair h' TO u v)->mX h' z TI TO (as.headD h.objs.size) f->h'.IsListIter i1 l1 (i+1)->h'.IsListIter i2 l2 (i+1)->IsPair h' h.objs.size xs[i] (ys[i]'(by lia))->h'.objs.size=h.objs.size+1->(∀c o,c≠z->c≠TO->c≠i1->c≠i2->h.get? c=some o->h'.get? c=some o)->
    wpAny (model prog w) A.in1 (updateSeq S (·.push (Value.ref h.objs.size)) >>= fun _=>again (.builtin "list.extend.loop" ⟨[.ref S,.ref z,res],[]⟩)) (fun dQ s'=>match dQ with|.done f=>R (.ok f) s'|.again c'=>c'.quiet=true/\codeAny (model prog w) A c' R s') (fun e s'=>R (.error e) s') { s with heap:=h',toks:=tk }:=fun h' f ⟨u,v,Jz⟩ gz g1 g2 gp gs kp=>by
   have Wg:=kp S _ n1.symm n3.symm n4.symm n5.symm hS;have up:∀b o,b≠S->h'.get? b=some o->(h'.update S (Obj.mapSeq (·.push (Value.ref h.objs.size)))).get? b=some o:=fun b o hb e=>(me _ _ (dv hb)).trans e;have E7:=mi (Obj.mapSeq (·.push (Value.ref h.objs.size))) Wg rfl;have RB:∀a∈as++[h.objs.size],lo<=a:=fun a ha=>by
    rcases bX.mp ha with q|q
    .exact ab a q
    .rw[cu.mp q];exact hl
   have hnS:∀a∈as++[h.objs.size],a≠S:=fun a ha=>fw (bi m1 (RB a ha));refine aw (v8 Wg rfl (wpAny_pure ⟨sn zZ _,ih (i+1) _ tk _ (c_.push (Value.ref h.objs.size)) (as++[h.objs.size]) (by lia) dZ ?_ ?_ (fun b o h1 h2 h3 h4 h5 e=>up b o h1 (kp b o h2 h3 h4 h5 (Iv b o h1 h2 h3 h4 h5 e))) E7 (by rw[mr,zq,cW];rfl) ?_ RB⟩) (by rw[gZ];exact aX (show i<=1000 by lia) (by decide)) (by show (c_.push (Value.ref h.objs.size)).size<=sizeLine+1;rw[Array.size_push,gZ];exact aX (show i+1<=1001 by lia) (by decide)))
   .refine Pb.keep (h:=h') ⟨.inr ?_,kp _ _ D.TIz D.TITO D.TIi1 D.TIi2 st.ti,⟨u,v,Jz⟩,g1,g2,?_,?_,by rw[dh,st.len];rfl,fun j b hj=>?_⟩ up n1 n2 n3 n4 n5 n6 n7 hnS
    .cases as with
     |nil=>exact⟨_,[],f,rfl,gz⟩
     |cons a r=>exact⟨a,r++[h.objs.size],f,rfl,gz⟩
    .obtain⟨o,e,q⟩:=st.x;exact⟨o,kp _ _ D.l1z D.l1TO D.l1i1 D.l1i2 e,q⟩
    .obtain⟨o,e,q⟩:=st.y;exact⟨o,kp _ _ D.l2z D.l2TO D.l2i1 D.l2i2 e,q⟩
    .rcases Nat.lt_trichotomy j as.length with h1|h1|h1
     .rw[jk h1] at hj;obtain⟨u',v',e1,e2,e3⟩:=st.pr j b hj;have:=ab b (cU hj);exact⟨u',v',e1,e2,kp b _ (fw (by lia)) (fw (by lia)) (fw (by lia)) (fw (by lia)) e3⟩
     .subst h1;have hb:h.objs.size=b:=by simpa using hj
      subst hb;rw[st.len];exact⟨_,_,hx,hy,gp⟩
     .have tP:(as++[h.objs.size])[j]?=none:=fJ (by rw[dh,md];lia);rw[tP] at hj;cases hj
   .rw[d9,gs];lia
   .exact jp.mpr ⟨nd,by simp,fun a ha b hb=>by rw[cu.mp hb];exact ba (YQ a ha)⟩
  refine kR FN ?_;rw[oZ zZ _];show wpAny _ A.in1 (pyNext (.ref z) >>= _) _ _ _;obtain⟨u,v,Jz⟩:=st.to;rcases st.hz with ⟨e,q⟩|⟨a,r,f,e,q⟩
  .refine aw (wpAny_pyNext_zip_item (s:={ s with heap:=h,toks:=tk }) D q st.ti Jz st.r1 st.r2 st.x st.y hx hy fun h' a1 a2 a3 a4 a5 a6 a7=>?_);exact go h' false ⟨_,_,a2⟩ (by rw[e];exact a1) a3 a4 a5 a6 a7
  .obtain⟨u',v',_,_,ga⟩:=st.pr 0 a (by rw[e];rfl);refine aw (E6 (s:={ s with heap:=h,toks:=tk }) D q ga st.ti st.r1 st.r2 st.x st.y hx hy fun h' a1 a3 a4 a5 a6 a7=>?_);exact go h' true ⟨u,v,a7 TO _ D.TOz D.TOi1 D.TOi2 Jz⟩ (by rw[e];exact a1) a3 a4 a5 a6 fun c o c1 _ c3 c4 e=>a7 c o c1 c3 c4 e
theorem B4{z TI TO i1 i2 l1 l2:Addr}{xs ys:Array Value}{R:Result->Shared->Prop}(hh:A.handled=none)(D:ZipApart z TI TO i1 i2 l1 l2)(hn:xs.size<=1000)(vk:xs.size=ys.size)(S:Addr)(c₀:Nat)(hS:s.heap.get? S=some { cls:=.type "list",data:=.seq #[] c₀ })(n1:z≠S)(n2:TI≠S)(n3:TO≠S)(n4:i1≠S)(n5:i2≠S)(n6:l1≠S)(n7:l2≠S)(st:Pb s.heap z TI TO i1 i2 l1 l2 0 xs ys [])(hR:∀ (h':Heap) (tk:Nat) (c_:Array Value) (c:Nat) (as:List Addr),(∀b o,b≠S->b≠z->b≠TO->b≠i1->b≠i2->s.heap.get? b=some o->h'.get? b=some o)->h'.get? S=some { cls:=.type "list",dict:=none,data:=.seq c_ c,slots:=#[] }->as.length=xs.size->as.Nodup->(∀a∈as,s.heap.objs.size<=a)->
   (∀ (j:Nat) a,as[j]?=some a->∃x y,xs[j]?=some x/\ys[j]?=some y/\IsPair h' a x y)->c_.toList=as.map Value.ref->R (.ok (.ret .none)) { s with heap:=h',toks:=tk }):
  wpAny (model prog w) A.in1 (Builtin.List.listExtendWith (.ref S) (.ref z) .none)
   (fun dQ s'=>match dQ with|.done f=>R (.ok f) s'|.again c'=>c'.quiet=true/\codeAny (model prog w) A c' R s') (fun e s'=>R (.error e) s') s:=by
 have gz:IsZip s.heap z TI TO .none:=by
  rcases st.hz with ⟨_,q⟩|⟨a,r,f,e,q⟩
  .exact q
  .cases e
 have hT:s.TypeIs (.ref z) "zip":=⟨_,gz,rfl⟩
 unfold Builtin.List.listExtendWith;refine aw (wpAny_typeOf hT ?_);have h1:Builtin.List.listSameRef (.ref S) (.ref z)=false:=by simp[Builtin.List.listSameRef,n1.symm]
 have h2:(Value.type "zip"==Value.type "list")=false:=by decide
 have h3:(Value.type "zip"==Value.type "tuple")=false:=by decide
 simp only[h1,h2,h3,Bool.or_false,ic,dY];refine aw (AI gz ?_);refine aw (gC ?_);unfold Builtin.List.listLengthHint;refine aw (wpAny_specialOf hT B3 ?_);show wpAny _ A.in1 (specialOf (Value.ref z) (Str.ofString "__length_hint__") >>= _) _ _ _;refine aw (wpAny_specialOf hT zo ?_);refine wpAny_pure ?_;show wpAny _ A.in1 (rule "list.extend.makes-room" >>= fun _=>Builtin.List.listTouch (.ref S) >>= fun _=>
  again (.builtin "list.extend.loop" ⟨[.ref S,.ref z,.none],[]⟩)) _ _ _
 refine aw (fE ?_);refine aw ?_;show wpAny _ A.in1 (updateSeq S (·.push .none) >>= fun _=>updateSeq S (·.pop)) _ _ _;refine aw (v8 hS rfl ?_);have Wi:=mi (Obj.mapSeq (·.push Value.none)) hS rfl;refine v8 (hz:=by seq_fits) Wi rfl ?_;have hS₃:=mi (Obj.mapSeq (·.pop)) Wi rfl;have T8:∀b o,b≠S->s.heap.get? b=some o->((s.heap.update S (Obj.mapSeq (·.push Value.none))).update S (Obj.mapSeq (·.pop))).get? b=some o:=
  fun b o hb e=>(me _ _ (dv hb)).trans ((me _ _ (dv hb)).trans e)
 have T9:∀ {a k x},s.heap.IsListIter a k x->a<s.heap.objs.size:=fun h=>let ⟨o,e,_⟩:=h;aP e;obtain⟨u,v,Jz⟩:=st.to;refine wpAny_pure ⟨sn F.plain_extend_loop _,Iu (s:=s) (h₁:=s.heap) (lo:=s.heap.objs.size) hh D hn vk .none n1 n2 n3 n4 n5 n6 n7 ⟨aP hS,aP gz,aP Jz,T9 st.r1,T9 st.r2⟩ hR xs.size 0 _ s.toks _ #[] [] (wa _) (bE _)
  (st.keep T8 n1 n2 n3 n4 n5 n6 n7 fun a ha=>(nomatch ha)) (by rw[d9,d9];exact aK _) (fun b o hb _ _ _ _ e=>T8 b o hb e) hS₃ rfl jK fun a ha=>(nomatch ha)⟩
theorem uK{z TI TO i1 i2 l1 l2:Addr}{xs ys:Array Value}{Q:Value->Shared->Prop}(hh:A.handled=none)(D:ZipApart z TI TO i1 i2 l1 l2)(hn:xs.size<=1000)(vk:xs.size=ys.size)(st:Pb s.heap z TI TO i1 i2 l1 l2 0 xs ys [])(hQ:∀ (h':Heap) (tk:Nat) (c_:Array Value) (c:Nat) (as:List Addr),(∀b o,b≠z->b≠TO->b≠i1->b≠i2->s.heap.get? b=some o->h'.get? b=some o)->h'.get? s.heap.objs.size=some { cls:=.type "list",dict:=none,data:=.seq c_ c,slots:=#[] }->as.length=xs.size->as.Nodup->(∀a∈as,s.heap.objs.size<a)->
   (∀ (j:Nat) a,as[j]?=some a->∃x y,xs[j]?=some x/\ys[j]?=some y/\IsPair h' a x y)->c_.toList=as.map Value.ref->Q (.ref s.heap.objs.size) { s with heap:=h',toks:=tk }):
  wpAny (model prog w) A (call (.type "list") [.ref z]) Q E s:=by
 refine callType_codes (Q₁:=fun obj s₁=>obj=.ref s.heap.objs.size/\s₁={ s with heap:=s.heap.push { cls:=.type "list",data:=.seq #[] } }) PySem.F.called_list (PySem.F.typeCall_list_1 _) PySem.F.entry_list_init
  (code_list_new _ ⟨rfl,rfl⟩) fun obj s₁ h₁=>?_
 obtain⟨rfl,rfl⟩:=h₁;have hS:(s.heap.push { cls:=.type "list",data:=.seq #[] }).get? s.heap.objs.size=some { cls:=.type "list",data:=.seq #[] }:=b_ _ rfl;have gz:IsZip s.heap z TI TO .none:=by
  rcases st.hz with ⟨_,q⟩|⟨a,r,f,e,q⟩
  .exact q
  .cases e
 obtain⟨u,v,Jz⟩:=st.to;have T9:∀ {a k x},s.heap.IsListIter a k x->a≠s.heap.objs.size:=fun h=>let ⟨o,e,_⟩:=h;ba (aP e);have l2':∀ {a x},s.heap.IsList a x->a≠s.heap.objs.size:=fun h=>let ⟨o,e,_⟩:=h;ba (aP e);have n1:=ba (aP gz);have n2:=ba (aP st.ti);have n3:=ba (aP Jz);have n4:=T9 st.r1;have n5:=T9 st.r2;have n6:=l2' st.x;have n7:=l2' st.y;have zQ:=st.keep (h':=s.heap.push { cls:=.type "list",data:=.seq #[] }) (S:=s.heap.objs.size) (fun b o _ e=>bw _ e) n1 n2 n3 n4 n5 n6 n7 fun a ha=>(nomatch ha)
 refine⟨⟨_,hS,rfl⟩,PySem.F.args_list_init_2 _ _,?_⟩;show wpAny _ A.in1.in1 (do let fP <- Builtin.List.listItems (.ref s.heap.objs.size);Builtin.List.listUpdate (.ref s.heap.objs.size) (fun _=>#[]);letGo fP.toList.reverse;Builtin.List.listExtendWith (.ref s.heap.objs.size) (.ref z) .none) _ _ _;refine aw ?_;unfold Builtin.List.listItems;refine aw (hX hS rfl (wpAny_pure ?_));show wpAny _ A.in1.in1 (updateSeq s.heap.objs.size (fun _=>#[]) >>= fun _=>letGo (#[]:Array Value).toList.reverse >>= fun _=>Builtin.List.listExtendWith (.ref s.heap.objs.size) (.ref z) .none) _ _ _;refine aw (v8 hS rfl ?_);have Wi:=mi (Obj.mapSeq (fun _=>(#[]:Array Value))) hS rfl;have T8:∀b o,b≠s.heap.objs.size->(s.heap.push { cls:=.type "list",data:=.seq #[] }).get? b=some o->((s.heap.push { cls:=.type "list",data:=.seq #[] }).update s.heap.objs.size (Obj.mapSeq (fun _=>(#[]:Array Value)))).get? b=some o:=
  fun b o hb e=>(me _ _ (dv hb)).trans e
 refine aw (wpAny_letGo ?_);refine B4 (A:=A.in1) hh D hn vk _ _ Wi n1 n2 n3 n4 n5 n6 n7 (zQ.keep T8 n1 n2 n3 n4 n5 n6 n7 fun a ha=>(nomatch ha)) fun h' tk c_ c as hk Wg hl hnd qr hpr zq=>⟨rfl,?_⟩
 refine hQ h' tk c_ c as (fun b o b1 b2 b3 b4 e=>hk b o (ba (aP e)) b1 b2 b3 b4 (T8 _ _ (ba (aP e)) (bw _ e))) Wg hl hnd (fun a ha=>?_) hpr zq;have:=qr a ha;rw[d9,iy] at this;exact this
end
theorem aS.many(I:aS X af σ H s)(k:∀b u,s.heap.get? b=some u->h'.get? b=some u)(fP:∀b,b<s.heap.objs.size->H' b=H b)(new:∀b o,s.heap.objs.size<=b->H' b=some o->cI X.prog X.w H' h' b o):aS X af σ H' { s with heap:=h',toks:=t' }:=by
 have sm:∀b o,H b=some o->H' b=some o:=fun b o e=>by rw[fP b (I.ce b o e).lt];exact e
 refine I.un ⟨fun b u q _ _ _=>k b u q,fun b u q _ _ _=>⟨u.slots,k b u q⟩,fun b u q n _=>by rw[fP b (aP q)];exact n,fun b u q _=>⟨u,k b u q⟩,fun b xs q=>sm b _ q,fun b u xs q=>sm b _ q,fun b ps q=>⟨#[],by rw[sm b _ q];simp⟩⟩ fun b o e=>?_;by_cases hb:b<s.heap.objs.size
 .rw[fP b hb] at e;exact(I.ce b o e).jf (fun d u _ q=>k d u q) (fun d q=>sm d _ q) fun d xs q=>sm d _ q
 .exact new b o (Nat.not_lt.mp hb) e
open qx in
def zu(H:Hp)(S:Addr)(zs:Zs):Hp:=fun b=>if b=S then some (.lst (zr zs)) else match zs.find? (fun z=>decide (z.1=b)) with
 |some z=>some (oj z.2)
 |none=>H b
open qx in
theorem Dt:∀ {zs:Zs} {z:Addr×Int×Int},(zs.map (·.1)).Nodup->z∈zs->zs.find? (fun y=>decide (y.1=z.1))=some z
 |y::zs,z,nd,hz=>by
  obtain⟨n1,n2⟩:=fL.mp nd;rw[kO];rcases bb.mp hz with rfl|q
  .simp
  .have:y.1≠z.1:=fun e=>n1 (bj.mpr ⟨z,q,e.symm⟩);rw[gw this];exact Dt n2 q
section
open qx
variable {X:Cx}
def tLZ(K:PySem.W.Frag)(ta:TA):TE:=fun σ H Q=>ta σ H fun vs H1=>∃ (a b:Addr) (ns ms:List Int),vs=[.ref a,.ref b]/\aW K H1 a (ns.map V.int)/\aW K H1 b (ms.map V.int)/\ns.length=ms.length/\ns.length<=1000/\
 ∀ (l:Addr) (zs:Zs) (H':Hp),aO H1 H'->H1 l=none->H' l=some (.lst (zr zs))->qx.PO H' zs->zp zs=ns.zip ms->Q (.ref l) H'
theorem ue:∀ {ns:List Int} {us:List Value} {j:Nat} {x:Value},aZ (ns.map V.int) us->us[j]?=some x->∃n t,ns[j]?=some n/\x=.int n t
 |[],_,j,x,.nil,h=>by cases h
 |n::ns,_,0,x,.cons ⟨t,e⟩ r,h=>by subst e;cases h;exact⟨n,t,rfl,rfl⟩
 |n::ns,_,j+1,x,.cons _ r,h=>ue (ns:=ns) r h
theorem Du:∀ {zs:Zs},aZ (zr zs) (zs.map fun z=>Value.ref z.1)
 |[]=>.nil
 |z::zs=>.cons rfl (Du (zs:=zs))
theorem T_{a b:Expr}{ta:TA}{p p2 pos Ua:Pos}(hc:X.calm=true)(hg:Gl X "zip")(hm:X.mg "zip"=none)(HP:Gl X "list")(N4:X.mg "list"=none)(ha:PA X [a,b] ta)(hs:starEach [a,b] X.env=[(false,eval a X.env),(false,eval b X.env)]:=by rfl)(lJ:starEach [b] X.env=[(false,eval b X.env)]:=by rfl)(he:starEach [.Call (.Name "zip" p) [a,b] [] pos] X.env=[(false,eval (.Call (.Name "zip" p) [a,b] [] pos) X.env)]:=by rfl)(Mw:starEach [] X.env=[]:=by rfl):
  PE X (.Call (.Name "list" p2) [.Call (.Name "zip" p) [a,b] [] pos] [] Ua) (tLZ X.K ta):=by
 intro af s σ H Q I h;refine mm (iC I HP N4 oM ?_);refine callWith_type1 ?_ (by rw[he,Mw]) (by rw[Mw];rfl);rw[he];show wpAny _ _ (spliced ((false,eval (.Call (.Name "zip" p) [a,b] [] pos) X.env)::backTo Ua [])) _ _ s;refine Calls.spliced_cons ?_;refine Call_ (iC I hg hm PyProof.Rows.boot_zip (rE (dF (ha pos af s σ H _ I h) fun us s1 ⟨vs,H1,I1,r1,q1⟩=>?_) (by rw[hs,lJ]) (by rw[lJ];rfl)));obtain⟨l,m,ns,ms,rfl,hl,X6,vk,QT,q⟩:=q1;obtain⟨u1,u2,rfl,Oa,X7⟩:=r1.two;obtain rfl:u1=Value.ref l:=Oa;obtain rfl:u2=Value.ref m:=X7;obtain⟨its,rv,pt,_⟩:=I1.list hl;obtain⟨sW,X8,Jn,_⟩:=I1.list X6;have il:its.length=ns.length:=by rw[<-rv.length,aT]
 have il2:sW.length=ms.length:=by rw[<-X8.length,aT]
 have dZ:l<s1.heap.objs.size:=by obtain⟨o,e,_⟩:=pt.isList;exact aP e
 have G_:m<s1.heap.objs.size:=by obtain⟨o,e,_⟩:=Jn.isList;exact aP e
 refine call_zip_2 pt.isList Jn.isList fun h' gz gi gq r1 r2 gs k=>?_;refine Calls.spliced_nil ?_;have kl:∀ {a x},s1.heap.IsList a x->h'.IsList a x:=fun z=>let ⟨o,e,r⟩:=z;⟨o,k _ _ e,r⟩;refine uK (s:={ s1 with heap:=h' }) (I1.ok.hd hc) (zipApart_new dZ G_) (by simp;lia) (by simp;lia) ⟨.inl ⟨rfl,gz⟩,gi,⟨_,_,gq⟩,r1,r2,kl pt.isList,kl Jn.isList,rfl,fun j a hj=>by simp at hj⟩ fun h2 tk c_ c as k2 hS YQ nd ab pr zq=>?_;have kk:∀b u,s1.heap.get? b=some u->h2.get? b=some u:=fun b u e=>by
  have:=aP e;exact k2 b u (ba (by lia)) (ba (by lia)) (ba (by lia)) (ba (by lia)) (k b u e)
 have gs':h'.objs.size=s1.heap.objs.size+5:=gs;have abu:as.length=ns.length:=by rw[YQ];simp;exact il
 let zs:Zs:=as.zip (ns.zip ms)
 have z1:zs.map (·.1)=as:=List.map_fst_zip (by rw[pf];lia);have z2:zp zs=ns.zip ms:=List.map_snd_zip (by rw[pf];lia);have YR:(zs.map (·.1)).Nodup:=by rw[z1];exact nd
 have YS:∀z∈zs,h'.objs.size<z.1/\∃t u,IsPair h2 z.1 (.int z.2.1 t) (.int z.2.2 u):=fun z hz=>by
  obtain⟨j,hj⟩:=vQ.mp hz;obtain⟨e1,e2⟩:=vJ.mp hj;obtain⟨e3,e4⟩:=vJ.mp e2;obtain⟨x,y,f1,f2,f3⟩:=pr j z.1 e1;obtain⟨n,t,g1,rfl⟩:=ue rv (by simpa using f1);obtain⟨n',u,g2,rfl⟩:=ue X8 (by simpa using f2);rw[e3] at g1;rw[e4] at g2;cases g1;cases g2;exact⟨ab _ (cU e1),t,u,f3⟩
 have fS:∀z∈zs,z.1≠h'.objs.size:=fun z hz=>fw (YS z hz).1;have po:qx.PO (zu H1 h'.objs.size zs) zs:=fun z hz=>by
  unfold zu;rw[ak (fS z hz),Dt YR hz]
 have Iw:(zu H1 h'.objs.size zs) h'.objs.size=some (.lst (zr zs)):=by unfold zu;rw[ao rfl]
 have fP:∀b,b<s1.heap.objs.size->(zu H1 h'.objs.size zs) b=H1 b:=fun b hb=>by
  unfold zu;rw[ak (ba (by lia)),An.mpr fun z hz q=>?_];have:=(YS z hz).1;have:=fc q;lia
 have XQ:c_.toList=zs.map fun z=>Value.ref z.1:=by rw[zq,<-z1,dk];rfl
 have I2:aS X af σ (zu H1 h'.objs.size zs) { s1 with heap:=h2,toks:=tk }:=I1.many (t':=tk) kk fP fun b o hb e=>by
  unfold zu at e;by_cases eb:b=h'.objs.size
  .subst eb;rw[ao rfl] at e;cases e;refine⟨?_,c_.toList,c,?_,by simpa using hS⟩
   .rw[dB,<-bB,z2,pf];exact aX (show _<=1000 by lia) (by decide)
   .rw[XQ];exact Du
  .rw[ak eb] at e;cases f:zs.find? (fun z=>decide (z.1=b)) with
   |none=>
    rw[f] at e;have:H1 b=some o:=e;exact absurd (I1.ce b o this).lt (by lia)
   |some z=>
    rw[f] at e;cases e;have hz:=FO f;obtain rfl:z.1=b:=fc (AD (p:=fun z:Addr×Int×Int=>decide (z.1=b)) f);obtain⟨_,t,u,gp⟩:=YS z hz;exact⟨by show 2<=sizeLine;decide,[.int z.2.1 t,.int z.2.2 u],.cons ⟨_,rfl⟩ (.cons ⟨_,rfl⟩ .nil),_,gp,rfl,_,rfl,rfl⟩
 exact⟨.ref h'.objs.size,_,I2,rfl,q _ zs _ (fun b o e=>by rw[fP b (I1.ce b o e).lt];exact e) (I1.ce.fresh (by lia)) Iw po z2⟩
end
end L2
namespace qx
open PySem L2 jy
abbrev Pc:Stmt:=top 45
abbrev Pd:Stmt:=top 46
theorem ku:(["_law_turn","_law_left","_law_pot_here"]:List Str).Nodup:=by decide +kernel
theorem xq:(["_law_tie","_law_found"]:List Str).Nodup:=by decide +kernel
theorem qL:(["_law_house","_law_counts"]:List Str).Nodup:=by decide +kernel
theorem mY:(["_law_k","_law_left","_law_pot_here"]:List Str).Nodup:=by decide +kernel
theorem iO:(["_law_one","_law_other","_law_names"]:List Str).Nodup:=by decide +kernel
abbrev Pf(K:PySem.W.Frag):TE:=(tBM K "list" Gh (a9 1) (bo (nC gO [] E0 (bo (a9 2) (bo (VO (fun xs H Q=>∃p ys,xs=[V.ref p]/\(aW K H p ys\/bP K H p ys)/\Q (.int ys.length) H) (bo (a9 1) gI)) gI))) gI))
def qM(n:Nat)(ts:Ts):List Nat:=(List.range n).map fun (h:Nat)=>fz ts (ci h)
theorem Ix:(qM n ts).length=n:=by unfold qM;rw[aT,cG]
theorem Iy(hh:h<n):(qM n ts).getD h 0=fz ts (ci h):=by
 unfold qM;rw[bW,bU,fQ hh];rfl
theorem Iz:(mV xs).map (·.1)=xs.map ci:=by
 unfold mV;rw[dk];refine lV fun k=>?_;rw[bU,bU];by_cases h:k<xs.length
 .rw[fQ h,bQ h];exact congrArg (fun x=>some (ci x)) (cE h)
 .rw[fJ (by rw[cG];lia),fJ (by lia)];rfl
theorem zw(nd:xs.Nodup):fz (mV xs) (ci h)=if h∈xs then 1 else 0:=by
 unfold fz;rw[gK,Iz];have YR:=tR nd;have e:ci h∈xs.map ci↔h∈xs:=by
  rw[bj];exact⟨fun ⟨a,ha,e⟩=>du e ▸ ha,fun hh=>⟨h,hh,rfl⟩⟩
 by_cases hh:h∈xs
 .rw[ao hh];exact Nat.le_antisymm (List.nodup_iff_count.mp YR _) (List.count_pos_iff.mpr (e.mpr hh))
 .rw[ak hh];exact List.count_eq_zero.mpr fun z=>hh (e.mp z)
theorem E8:List.replicate n (V.int 1)=NV (qM n (mV (List.range n))):=by
 refine lV fun i=>?_;unfold NV qM;rw[dk,rH,bU];by_cases hi:i<n
 .rw[ao hi,fQ hi];show some (V.int 1)=some (V.int ((fz (mV (List.range n)) (ci i):Nat):Int));rw[zw i9,ao (bD.mpr hi)];rfl
 .rw[ak hi,fJ (by rw[cG];lia)];rfl
theorem Ub(h:0<zs.length):zr zs≠NV ns:=fun e=>by
 cases zs with
 |nil=>exact absurd h (iz _)
 |cons z zs=>
  cases ns with
  |nil=>cases e
  |cons n ns=>exact absurd (mz e).1 (by intro z;cases z)
theorem _root_.jy.bK.pos(F:bK n ts):0<ts.length:=by
 obtain⟨k,w⟩:=F.con 0 1 (by have:=F.n1;lia) (by have:=F.n1;lia);cases k with
 |zero=>cases w
 |succ k=>obtain⟨c,_,t⟩:=w;exact rJ t
theorem E9:(cs.map ci).zip ((cs.drop 1++cs.take 1).map ci)=mV cs:=by
 refine lV fun k=>?_;unfold mV;rw[bU];by_cases h:k<cs.length
 .rw[fQ h];refine vJ.mpr ⟨?_,?_⟩
  .show _=some (ci (cs.getD k 0));rw[bU,bQ h,cE h];rfl
  .show _=some (ci (cs.getD ((k+1) % cs.length) 0));rw[bU];by_cases h2:k+1<cs.length
   .rw[jk (by rw[mw];lia),List.getElem?_drop,Nat.add_comm 1 k,bQ h2,i8 h2,cE h2];rfl
   .rw[qi (by rw[mw];lia),mw,show k-(cs.length-1)=0 by lia,show k+1=cs.length by lia,Nat.mod_self,z8 (by lia),bQ (by lia),cE (by lia)];rfl
 .rw[fJ (by rw[pf,aT,aT,dh,mw,mv];lia),fJ (by rw[cG];lia)];rfl
theorem zx(hp:bf H p)(hL:H L=some (.lst (NV (List.range m))))(npL:L≠p)(hD:H D'=none)(hr:r<=m)(hm:m<=32)(q:∀ (xs ls:List Nat) (H2:Hp),(∀b o,H b=some o->b≠p->b≠L->H2 b=some o)->bf H2 p->H2 D'=some (.lst (NV xs))->(xs++ls).Perm (List.range m)->xs.length=r->dQ H2):
  ii (Fl 0 r) (bv 0) NQ (Pf K) D' dQ [none,some (.ref L),some (.ref p)] (upd H D' (.lst [])):=by
 have npD:D'≠p:=hp.ne hD;have YT:L≠D':=am hL hD;refine eR (n:=r) (lo:=0) (fun i ys σ H2=>(∃k,σ=[k,some (.ref L),some (.ref p)])/\(∀b o,H b=some o->b≠p->b≠L->H2 b=some o)/\bf H2 p/\∃ls xs:List Nat,H2 L=some (.lst (NV ls))/\H2 D'=some (.lst ys)/\ys=NV xs/\(xs++ls).Perm (List.range m)/\xs.length=i)
  ⟨⟨_,rfl⟩,fun b o e _ _=>ai hD b o e,hp.same (ai hD),List.range m,[],by rw[ap YT];exact hL,ae,rfl,hW _,rfl⟩ ?_ ?_
 .rintro i ys σ H2 Kt Kf hi ⟨⟨k',rfl⟩,sm,wU,ls,xs,Wj,jH,rfl,pm,xl⟩ kt kf;have ll:ls.length=m-i:=by have:=pm.length_eq;rw[dh,cG] at this;lia
  refine⟨_,rfl,.inl ⟨rfl,_,aW.of Wj⟩,_,rfl,_,rfl,L,_,rfl,.inl (aW.of Wj),p,_,rfl,by rw[be];lia,by rw[be];lia,wU,fun d H3 hd s3 ni=>?_⟩;rw[be] at hd;have hv:ls[d]?=some ls[d]:=bQ hd;refine⟨L,_,(d:Int),d,.int (ls[d]:Nat),rfl,rfl,s3 _ _ Wj npL,by lia,by lia,(ww (eh (by rw[be];exact hd))).1,by unfold NV;rw[bU,hv];rfl,?_⟩;refine kt _ _ _ (by rw[ap YT.symm];exact s3 _ _ jH npD) (by rw[be,xl];exact bi (show i<33 by lia) (by decide)) ⟨⟨_,rfl⟩,fun b o e n n2=>?_,?_,ls.eraseIdx d,xs++[ls[d]],by rw[ap YT,ae,zg],ae,by rw[iX],H_ pm hv,by rw[dh,xl];rfl⟩
  .rw[ap (am e hD),ap n2];exact s3 _ _ (sm _ _ e n n2) n
  .exact(ni.put npL.symm).put npD.symm
 .rintro ys σ H2 ⟨_,sm,wU,ls,xs,Wj,jH,rfl,pm,xl⟩;exact q xs ls H2 sm wU jH pm xl
section
variable {P:Program} {w:World} {K:PySem.W.Frag} {mg:Str->Option Value} {base:Heap}
theorem Dv:aR ["_law_pot_here","_law_many","_law_ties","_law_names","_law_left"] ["_law_pot_here","_law_many","_law_ties"] (av Pd):=⟨rfl,rfl,rfl,by decide +kernel,rfl,by decide +kernel,by decide +kernel⟩
def Dw:Sp:=fun vs H Q _=>∃ (p l:Addr) (n:Nat) (zs:Zs),vs=[.ref p,.int n,.ref l]/\bf H p/\H l=some (.lst (zr zs))/\PO H zs/\l≠p/\bK n (zp zs)/\∀ (r:Addr) (jG:Zs) (H':Hp),aI p H H'->bf H' p->H r=none->H' r=some (.lst (zr jG))->PO H' jG->bK n (zp jG)->Q (.ref r) H'
theorem Pg(F:ig K "_law_renamed" "_law_renamed" Pd f fd)(B:Bl mg)(D:dL P w K mg base bg 1 "_law_take" ["_law_pot_here","_law_many"] gO):bA P w K mg base bg 2 f fd ["_law_pot_here","_law_many","_law_ties"] Dw:=by
 refine F.ok Dv (fun vs H Q E h=>?_) (fun eY A outer s H vs Q E hr h=>?_)
 .obtain⟨p,l,n,zs,rfl,_⟩:=h;rfl
 .obtain⟨p,l,n,zs,rfl,hp,hl,po,nlp,Fi,q⟩:=h;have n2:=Fi.n2;have zl:zs.length<=256:=by have:=Fi.len;rwa [bB] at this
  refine'⟨_,(aj (aU (i:=3) Dv.nd rfl (Or.inr rfl) (cJ (mL rfl) (by rfl) B.lst oM (aa (cJ lh (by rfl) B.range z_ (aa (pv 1) ag)) ag)))
   (aj (cC (aQ iF (aH D hr aN (aa (pv 0) (aa az ag))) az (a8 _)) (aj (aU (i:=4) Dv.nd rfl (Or.inr rfl) (cJ (mL rfl) (by rfl) B.lst oM (aa (cJ lh (by rfl) B.range z_ (aa (pv 1) ag)) ag)))
    (au (aU (i:=3) Dv.nd rfl (Or.inr rfl) ?c1))) bh)
   (au (a_ ?c2)))),?_⟩
  case c1=>
   refine' cL (g:=(bv 0)) (te:=(Pf K)) (NB:=["_law_k","_law_left","_law_pot_here"]) (src:=[none,some 4,some 0]) (bp (by kernel_rfl)) rfl (bz rfl B.range (aa (pv 1) ag)) ?g ?t ?e;case g=>exact fun cl C s₃ H₃ fp=>(aA (i:=0) mY rfl (Or.inl rfl) (Or.inr rfl))
   case t=>exact fun cl C s₃ H₃ fp=>dz
   case e=>exact fun cl C s₃ H₃ fp=>(gE gk PySem.F.slot_list_pop PySem.F.type_list_pop yf (pv 1) (aa (aH D hr aN (aa (pv 2) (aa (aD aM (by rfl) B.len dW (aa (pv 1) ag)) ag))) ag))
  case c2=>
   refine' cL (g:=(uq K 2 (fW (bv 0) (fW (bv 1) um)))) (te:=(sQ (bo (kr (yc K) (a9 2) (a9 0)) (bo (kr (yc K) (a9 2) (a9 1)) gI)))) (NB:=["_law_one","_law_other","_law_names"]) (src:=[none,none,some 3]) (bp (by kernel_rfl)) rfl (bT (pv 2)) ?g ?t ?e;case g=>exact fun cl C s₃ H₃ fp=>(dA (n:=2) rfl (aG (aA (i:=0) iO rfl (Or.inl rfl) (Or.inr rfl)) (aG (aA (i:=1) iO rfl (Or.inl rfl) (Or.inr rfl)) cr)))
   case t=>exact fun cl C s₃ H₃ fp=>dz
   case e=>exact fun cl C s₃ H₃ fp=>(cQ (aa (aV aL (pv 2) (pv 0) (fun _ _=>rfl)) (aa (aV aL (pv 2) (pv 1) (fun _ _=>rfl)) ag)))
  refine⟨_,rfl,n,rfl,fun R hR=>⟨R,n,rfl,ae,by lia,fun N hN=>?_⟩⟩;have s0:aO H (upd (upd H R (.Co 0 n)) N (.lst (NV (List.range n)))):=(ai hR).trans (ai hN);have gN:=ae (H:=upd H R (.Co 0 n)) (a:=N) (o:=.lst (NV (List.range n)));have YU:H N=none:=(ai hR).free hN;generalize upd (upd H R _) N _=H0 at *;dsimp only;refine vy (fun σ Hc=>∃N xs v,σ=[some (.ref p),some (.int n),some (.ref l),some (.ref N),v]/\aI p H Hc/\bf Hc p/\Hc N=some (.lst (NV xs))/\xs.Perm (List.range n)) ?_ ?_
  .rintro σ Hc ⟨N,xs,v,rfl,sc,mW,hNc,pm⟩;have xl:xs.length=n:=by have:=pm.length_eq;rwa [cG] at this
   have hlc:=sc _ _ hl nlp;have poc:=po.qA sc hp;refine⟨_,rfl,l,rfl,⟨_,aW.of hlc⟩,fun D1 BR=>?_⟩;refine tW (ren xs) (fun σ=>∃a b,σ=[a,b,some (.ref N)]) hlc poc BR (by lia) ⟨_,_,rfl⟩ ?_ ?_
   .rintro z σ H3 Rr Kf hz ⟨a,b,rfl⟩ s3 ha kt;obtain⟨⟨a0,a1⟩,⟨b0,b1⟩⟩:=Fi.rg z.2 (bj.mpr ⟨z,hz,rfl⟩);have gt:∀x:Int,0<=x->x<n->ya (NV xs) x=some (.int (ci (xs.getD x.toNat 0))):=fun x h0 h1=>by
     have:=aB (xs:=NV xs) (ik (xs:=xs) (j:=x.toNat) (by lia));rwa [oX h0] at this
    refine⟨z.1,_,rfl,bP.of ha,rfl,_,_,rfl,_,_,rfl,rfl,?_⟩;exact⟨_,rfl,_,rfl,N,_,_,_,rfl,rfl,aW.of (s3 _ _ hNc),gt _ a0 a1,_,rfl,_,rfl,N,_,_,_,rfl,rfl,aW.of (s3 _ _ hNc),gt _ b0 b1,by show 2<=sizeLine;decide,fun t ht=>kt _ _ ⟨_,_,rfl⟩ ht⟩
   .intro jG H3 s3 h3 KS e3 _;exact q D1 jG H3 (sc.trans (aI.of s3)) (mW.same s3) (sc.free mW.full BR) h3 KS (by rw[e3];exact Fi.ren pm)
  .intro Nx hNx;refine⟨_,rfl,p,2,rfl,by decide,by decide,hp.same s0,fun d H1 hd s1 ng=>⟨rfl,_,rfl,?_⟩⟩;have M3:aI p H H1:=(aI.of s0).trans s1;refine fZ (fun c=>?_) (fun c=>hNx _ _ ⟨N,_,_,rfl,M3,ng,s1 _ _ gN (hp.ne YU),hW _⟩);refine⟨_,rfl,n,rfl,fun R2 uI=>⟨R2,n,rfl,ae,by lia,fun L hL=>?_⟩⟩;have sL:aO H1 (upd (upd H1 R2 (.Co 0 n)) L (.lst (NV (List.range n)))):=(ai uI).trans (ai hL);have gL:=ae (H:=upd H1 R2 (.Co 0 n)) (a:=L) (o:=.lst (NV (List.range n)));have t_:H1 L=none:=(ai uI).free hL;generalize upd (upd H1 R2 _) L _=H2 at *;refine⟨_,rfl,(n:Int),rfl,by lia,by lia,fun D1 BR=>?_⟩;rw[gu];refine zx (ng.same sL) gL (ng.ne t_) BR (aK _) n2 fun xs ls H3 s3 ni h3 pm xl=>?_;obtain rfl:ls=[]:=List.length_eq_zero_iff.mp (by have:=pm.length_eq;rw[dh,cG] at this;lia);rw[ja] at pm;refine hNx _ _ ⟨D1,xs,_,rfl,fun b o e m=>s3 _ _ (sL _ _ (M3 _ _ e m)) m ?_,ni,h3,pm⟩;rintro rfl;rw[M3 _ _ e m] at t_;cases t_
theorem lA:aR ["_law_pot_here","_law_many","_law_found","_law_counts","_law_k","_law_left","_law_size","_law_some","_law_ties","_law_new","_law_house"] ["_law_pot_here","_law_many"] (av Pc):=⟨rfl,rfl,rfl,by decide +kernel,rfl,by decide +kernel,by decide +kernel⟩
def IA:Sp:=fun vs H Q _=>∃ (p:Addr) (n:Nat),vs=[.ref p,.int n]/\2<=n/\n<=32/\bf H p/\∀ (r:Addr) (zs:Zs) (H':Hp),aI p H H'->bf H' p->H r=none->H' r=some (.lst (zr zs))->PO H' zs->bK n (zp zs)->Q (.ref r) H'
theorem Ph(F:ig K "_law_one_way" "_law_one_way" Pc f fd)(B:Bl mg)(B2:Q3 mg)(D:dL P w K mg base bg 1 "_law_take" ["_law_pot_here","_law_many"] gO)(RG:dL P w K mg base bg 1 "_law_ring" ["_law_many"] xn):bA P w K mg base bg 2 f fd ["_law_pot_here","_law_many"] IA:=by
 refine F.ok lA (fun vs H Q E h=>?_) (fun eY A outer s H vs Q E hr h=>?_)
 .obtain⟨p,n,rfl,_⟩:=h;rfl
 .obtain⟨p,n,rfl,n1,n2,hp,q⟩:=h;refine'⟨_,(aj (dM (cQ (aa (aH RG hr aN (aa (pv 1) ag)) (aa (aY A2 (cS (aa az ag)) (pv 1)) ag))) (dA (n:=2) rfl (aG (aA (i:=2) lA.nd rfl (Or.inr rfl)) (aG (aA (i:=3) lA.nd rfl (Or.inr rfl)) cr))))
   (aj (cP dU rfl (bz rfl B.range (aa (aH D hr aN (aa (pv 0) (aa (aY cZ (pv 1) az) ag))) ag)) (aA (i:=4) lA.nd rfl (Or.inl rfl))
    (aj (aU (i:=5) lA.nd rfl (Or.inr rfl) (cJ (mL rfl) (by rfl) B.lst oM (aa (cJ lh (by rfl) B.range z_ (aa (pv 1) ag)) ag)))
    (aj (aU (i:=6) lA.nd rfl (Or.inl rfl) (aY cZ az (aH D hr aN (aa (pv 0) (aa (aD (lK rfl) (by rfl) B.min vN (aa az (aa (aY jV (pv 1) az) ag))) ag)))))
    (aj (eQ (i:=7) (g:=(bv 0)) (te:=(Pf K)) (NB:=["_law_turn","_law_left","_law_pot_here"]) (src:=[none,some 5,some 0]) (bp (by kernel_rfl)) rfl (bz rfl B.range (aa (pv 6) ag)) ?g1 ?t1 ?e1 lA.nd rfl rfl rfl)
    (aj (aU (i:=8) lA.nd rfl (Or.inl rfl) (T_ rfl rfl B2.zip rfl B.lst (aa (pv 7) (aa (aY wC (nG qZ (pv 7) (qY az) qX) (nG qZ (pv 7) qX (qY az))) ag))))
    (aj (eQ (i:=9) (g:=(bv 0)) (tt:=(sM (kr (On K true) (a9 0) (a9 1)))) (te:=(a9 0)) (NB:=["_law_tie","_law_found"]) (src:=[none,some 2]) (bp (by kernel_rfl)) rfl (bT (pv 8)) ?g2 ?t2 ?e2 lA.nd rfl rfl rfl)
    (au (cC (PW.pt (mH (aQ iF (aD aM (by rfl) B.len dW (aa (pv 9) ag)) (aD aM (by rfl) B.len dW (aa (pv 8) ag)) (a8 _)) (jT (aQ lW (aD (EL rfl) (by rfl) B.max vO (aa ?c3 ag)) az (a8 _))))) (aj (aU (i:=2) lA.nd rfl (Or.inr rfl) (aY wC (pv 2) (pv 8)))
     (au (cP dU rfl (bT (pv 7)) (aA (i:=10) lA.nd rfl (Or.inl rfl))
      (au (dM (aY cZ (aV aL (pv 3) (pv 10) (fun _ _=>rfl)) az) (fX (pv 3) (pv 10) dH)))))) bh))))))))
   (au (a_ (pv 2))))),?_⟩
  case g1=>exact fun cl C s₃ H₃ fp=>(aA (i:=0) ku rfl (Or.inl rfl) (Or.inr rfl))
  case t1=>exact fun cl C s₃ H₃ fp=>dz
  case e1=>exact fun cl C s₃ H₃ fp=>(gE gk PySem.F.slot_list_pop PySem.F.type_list_pop yf (pv 1) (aa (aH D hr aN (aa (pv 2) (aa (aD aM (by rfl) B.len dW (aa (pv 1) ag)) ag))) ag))
  case g2=>exact fun cl C s₃ H₃ fp=>(aA (i:=0) xq rfl (Or.inl rfl) (Or.inr rfl))
  case t2=>exact fun cl C s₃ H₃ fp=>gU (aQ (p8 hr.u) (pv 0) (pv 1) rfl)
  case e2=>exact fun cl C s₃ H₃ fp=>(pv 0)
  case c3=>
   refine' cL (g:=(bv 0)) (te:=(kr (yc K) (a9 1) (a9 0))) (NB:=["_law_house","_law_counts"]) (src:=[none,some 3]) (bp (by kernel_rfl)) rfl (bT (pv 7)) ?g ?t ?e;case g=>exact fun cl C s₃ H₃ fp=>(aA (i:=0) qL rfl (Or.inl rfl) (Or.inr rfl))
   case t=>exact fun cl C s₃ H₃ fp=>dz
   case e=>exact fun cl C s₃ H₃ fp=>(aV aL (pv 1) (pv 0) (fun _ _=>rfl))
  refine⟨_,rfl,n,rfl,n1,n2,fun T0 BJ H1 s1 O5 hT1 M4 ez1=>⟨by show 1<=sizeLine;decide,fun L1 t_=>⟨_,rfl,L1,_,_,rfl,rfl,ae,by lia,by lia,by rw[gu,md];exact aX (show 1*n<=32 by lia) (by decide),fun M hM=>?_⟩⟩⟩;rw[gu,oq,E8];refine⟨by show 2<=sizeLine;decide,fun T1 YV=>⟨T1,_,rfl,bP.of ae,rfl,_,_,rfl,_,_,rfl,rfl,?_⟩⟩;have F0:bK n (zp BJ):=by rw[ez1];exact(vx n1 n2 (hW _)).perm lQ
  rw[<-ez1] at *;have s3:=ai (o:=.tup [.ref T0,.ref M]) YV;have sL:=ai (o:=.lst [.int 1]) t_;have s2:=(sL.trans (ai (o:=.lst (NV (qM n (zp BJ)))) hM)).trans s3;have gT:=s2 _ _ hT1;have gM:=s3 _ _ (ae (H:=upd H1 L1 (.lst [.int 1])) (a:=M) (o:=.lst (NV (qM n (zp BJ)))));have xm:=M4.same s2;have Q4:H M=none:=s1.free (sL.free hM);have Jw:M≠p:=hp.ne Q4;have sH:=s1.trans s2;generalize upd (upd (upd H1 L1 _) M _) T1 _=H2 at *;clear s3 sL s2 hT1 M4;refine⟨_,rfl,_,rfl,_,_,rfl,rfl,p,n+1,rfl,by lia,by lia,hp.same sH,fun d H3 hd s3 ni=>⟨(d:Int),rfl,by lia,by lia,?_⟩⟩;rw[gu];refine dC (lo:=0) (n:=d) (fun i σ Hc=>∃ (T:Addr) (zs:Zs),(∃a b c e f g h,σ=[some (.ref p),some (.int n),some (.ref T),some (.ref M),a,b,c,e,f,g,h])/\aI p H Hc/\bf Hc p/\H T=none/\Hc T=some (.lst (zr zs))/\PO Hc zs/\Hc M=some (.lst (NV (qM n (zp zs))))/\bK n (zp zs)) ⟨T0,BJ,⟨_,_,_,_,_,_,_,rfl⟩,(aI.of sH).trans s3,ni,O5,s3 _ _ gT (hp.ne O5),xm.qA s3 (hp.same sH),s3 _ _ gM Jw,F0⟩ ?_ ?_
  .clear gT gM xm F0 s3 ni sH;rintro i σ Hc hi ⟨T,zs,⟨x4,x5,x6,x7,x8,x9,Q9,rfl⟩,sc,mW,hT,Wk,po,B0,Fi⟩;have nTp:T≠p:=hp.ne hT;have Wd:zs.length<=256:=by have:=Fi.len;rwa [bB] at this
   have nTM:T≠M:=by rintro rfl;rw[Wk] at B0;have:=HO.lst.inj (bN B0);exact Ub (by rw[bB.symm];exact Fi.pos) this
   refine⟨_,rfl,n,rfl,fun R hR=>⟨R,n,rfl,ae,by lia,fun L hL=>?_⟩⟩;have sL:aO Hc (upd (upd Hc R (.Co 0 n)) L (.lst (NV (List.range n)))):=(ai hR).trans (ai hL);have gL:=ae (H:=upd Hc R (.Co 0 n)) (a:=L) (o:=.lst (NV (List.range n)));have hLc:Hc L=none:=(ai hR).free hL;have nLp:=mW.ne hLc;generalize upd (upd Hc R _) L _=H4 at *;have em:(if (n:Int)-1<4 then (n:Int)-1 else 4)=((min 4 (n-1):Nat):Int):=by split <;> lia
   refine⟨_,rfl,_,rfl,_,_,rfl,rfl,4,_,rfl,p,min 4 (n-1),by rw[em];rfl,by lia,by lia,mW.same sL,fun d2 H5 Wb s5 ui=>⟨_,_,rfl,rfl,?_⟩⟩;have e3:(2:Int)+(d2:Int)=((2+d2:Nat):Int):=by lia
   refine⟨_,rfl,((2+d2:Nat):Int),congrArg (fun v=>[V.int v]) e3,by lia,by lia,fun S hS=>?_⟩;rw[gu];refine zx ui (s5 _ _ gL nLp) nLp hS (by lia) n2 fun cs ls H6 s6 wS Uc pm cl=>?_;have uD:∀b o,Hc b=some o->b≠p->H6 b=some o:=fun b o e m=>s6 _ _ (s5 _ _ (sL _ _ e) m) m (am e hLc);have YW:cs.Nodup:=(jp.mp (pm.nodup_iff.mpr i9)).1;have Wl:∀x∈cs,x<n:=fun x hx=>bD.mp (pm.mem_iff.mp (ft _ hx));have hT6:=uD _ _ Wk nTp;have M1:=uD _ _ B0 Jw;have M2:PO H6 zs:=fun z hz=>uD _ _ (po z hz) (mW.neT (po z hz));have Ud:aI p H H6:=fun b o e m=>uD _ _ (sc _ _ e m) m;have nSM:S≠M:=(am (s5 _ _ (sL _ _ B0) Jw) hS).symm;clear s6 s5 ui gL sL uD hS pm;refine⟨_,rfl,_,rfl,_,rfl,S,_,rfl,aW.of Uc,fun S1 Sv=>?_⟩;have YX:=ai (o:=.lst (jt (NV cs) (some 1) none)) Sv;refine⟨_,rfl,_,rfl,S,_,rfl,aW.of (YX _ _ Uc),fun S2 E7=>?_⟩;have YY:=ai (o:=.lst (jt (NV cs) none (some 1))) E7;refine⟨S1,S2,_,_,rfl,rfl,YY _ _ ae,ae,?_,fun S3 hS3=>?_⟩
   .rw[show (1:Int)=((1:Nat):Int) from rfl,zn,BY,mw,mv,be];exact aX (show _<=12 by lia) (by decide)
   have sS3:=ai (o:=.lst (jt (NV cs) (some 1) none++jt (NV cs) none (some 1))) hS3;have sS:=(YX.trans YY).trans sS3;have gS3:=ae (H:=upd (upd H6 S1 (.lst (jt (NV cs) (some 1) none))) S2 (.lst (jt (NV cs) none (some 1)))) (a:=S3) (o:=.lst (jt (NV cs) (some 1) none++jt (NV cs) none (some 1)));have e4:jt (NV cs) (some 1) none++jt (NV cs) none (some 1)=((cs.drop 1++cs.take 1).map ci).map V.int:=by
    rw[show (1:Int)=((1:Nat):Int) from rfl,zn,BY];unfold NV;rw[<-List.map_drop,<-List.map_take,dk,<-cW];rfl
   have e5:NV cs=(cs.map ci).map V.int:=by unfold NV;rw[dk];rfl
   refine⟨S,S3,cs.map ci,(cs.drop 1++cs.take 1).map ci,rfl,by rw[<-e5];exact aW.of (sS _ _ Uc),by rw[<-e4];exact aW.of gS3,by simp;lia,by rw[aT];lia,fun Tn ms H7 s7 hTn Wm YZ Ue=>?_⟩;rw[E9] at Ue;have JA:=sS.trans s7;have hS7:=JA _ _ Uc;have Pk:=JA _ _ hT6;have Q7:=JA _ _ M1;have O7:=M2.same JA;have Il:=wS.same JA;have Wf:aI p H H7:=Ud.trans (aI.of JA);have abv:H Tn=none:=Ud.free wS.full (sS.free hTn);clear JA s7 sS YX YY sS3 gS3 M2 M1 hT6 Uc Ud wS e4 Sv E7 hS3;have ml:ms.length=cs.length:=by rw[<-bB,Ue];unfold mV;rw[aT,cG]
   refine⟨_,rfl,Tn,rfl,⟨_,aW.of Wm⟩,fun Nw hNw=>?_⟩;refine K6 (fun u=>!decide (u∈zp zs)) (fun σ=>∃x,σ=[x,some (.ref T)]) Wm hNw (by lia) ⟨_,rfl⟩ ?_ ?_
   .rintro z σ H8 Kt Kf hz ⟨x,rfl⟩ Y0 kt kf;obtain⟨l1,l2⟩:=Do (K:=K) (O7.same Y0);refine⟨_,rfl,_,rfl,z.1,T,z.2,zs.map (fun z:Addr×Int×Int=>z.1),zp zs,rfl,rfl,bP.of (Y0 _ _ (YZ z hz)),by rw[<-iq];exact aW.of (Y0 _ _ Pk),by rw[aT];exact l1,l2,_,rfl,?_⟩;exact fZ (fun c=>⟨_,rfl,kt _ _ ⟨_,rfl⟩ (aO.refl _) c⟩) (fun c=>kf _ _ ⟨_,rfl⟩ (aO.refl _) (by simpa using c))
   intro H8 s8 hN8;have Y1:=s8 _ _ hS7;have Uf:=s8 _ _ Wm;have hT8:=s8 _ _ Pk;have Wn:=s8 _ _ Q7;have po8:=O7.same s8;have Y2:=YZ.same s8;have Y3:=Il.same s8;have Y4:aI p H H8:=Wf.trans (aI.of s8);clear hS7 Wm Pk Q7 O7 YZ Il Wf s8;refine⟨_,rfl,Nw,_,rfl,.inl (aW.of hN8),_,rfl,Tn,_,rfl,.inl (aW.of Uf),rfl,_,rfl,?_⟩;have jf:∀Hd:Hp,aO H8 Hd->∃ (T':Addr) (jG:Zs),(∃a b c e f g h,[some (V.ref p),some (.int n),some (.ref T),some (.ref M),some (.int (0+(i:Int))),some (.ref L),some (.int (2+(d2:Int))),some (.ref S),some (.ref Tn),some (.ref Nw),Q9]=[some (.ref p),some (.int n),some (.ref T'),some (.ref M),a,b,c,e,f,g,h])/\aI p H Hd/\bf Hd p/\H T'=none/\Hd T'=some (.lst (zr jG))/\PO Hd jG/\Hd M=some (.lst (NV (qM n (zp jG))))/\bK n (zp jG):=fun Hd sd=>⟨T,zs,⟨_,_,_,_,_,_,_,rfl⟩,Y4.trans (aI.of sd),Y3.same sd,hT,sd _ _ hT8,po8.same sd,sd _ _ Wn,Fi⟩
   refine fZ (fun c1=>?_) (fun c1=>iH (jf _ (aO.refl _)));have c2:(zr (ms.filter fun z=>!decide (z.2∈zp zs))).length=(zr ms).length:=du (by simpa using c1);rw[uJ (c:=fun u=>!decide (u∈zp zs)),dB,<-bB] at c2;have Y5:∀t∈zp ms,t∉zp zs:=fun t ht=>by simpa using List.length_filter_eq_length_iff.mp c2 t ht
   refine⟨_,rfl,S,rfl,⟨_,aW.of Y1⟩,fun Ct hC=>?_⟩;refine Dp cs (fun (x:Nat)=>V.int (x:Int)) (fun (x:Nat)=>V.int ((fz (zp zs) (ci x):Nat):Int)) (fun σ=>∃x,σ=[x,some (.ref M)]) Y1 hC (by lia) ⟨_,rfl⟩ ?_ ?_
   .rintro x σ Ug R' Kf hx ⟨x',rfl⟩ Y6 kt;refine⟨_,rfl,_,rfl,M,_,_,_,rfl,rfl,aW.of (Y6 _ _ Wn),aB (ik (by rw[Ix];exact Wl x hx)),?_⟩;rw[Iy (Wl x hx)];exact kt _ _ ⟨_,rfl⟩ (aO.refl _)
   intro Ug FE Y7;have Uh:Ug Ct=some (.lst ((cs.map fun (x:Nat)=>((fz (zp zs) (ci x):Nat):Int)).map V.int)):=by rw[Y7,dk];rfl
   refine⟨Ct,_,rfl,aW.of Uh,fun z=>?_,fun Mx hMx uy=>⟨_,_,rfl,rfl,_,rfl,?_⟩⟩
   .have:=congrArg List.length z;rw[aT,cl] at this;simp at this
   refine fZ (fun c3=>?_) (fun c3=>jf _ FE);have Y8:=FE _ _ hT8;have Ui:=FE _ _ Uf;refine⟨_,rfl,_,rfl,T,Tn,_,_,rfl,rfl,Y8,Ui,by rw[dB,dB];exact aX (show _<=300 by lia) (by decide),fun N hN=>?_⟩;have sN:=ai (o:=.lst (zr zs++zr ms)) hN;have YU:H N=none:=(Y4.trans (aI.of FE)).free (Y3.same FE).full hN;have F2:bK n (zp (zs++ms)):=by
    rw[eD,Ue];refine Fi.round YW Wl (by lia) (fun x hx=>?_) (fun t ht=>Y5 t (by rw[Ue];exact ht));have h7:((fz (zp zs) (ci x):Nat):Int)<=Mx:=uy _ (bj.mpr ⟨x,hx,rfl⟩);have h8:Mx<8:=fc c3;lia
   have sA:=FE.trans sN;have hMA:=sA _ _ Wn;have hSA:=sA _ _ Y1;have hNA:=ae (H:=Ug) (a:=N) (o:=.lst (zr zs++zr ms));have poA:=(po8.append Y2).same sA;have hpA:=Y3.same sA;have sHA:aI p H _:=Y4.trans (aI.of sA);have nNM:N≠M:=(am (FE _ _ Wn) hN).symm;generalize upd Ug N _=HA at *;refine⟨_,rfl,S,rfl,⟨_,aW.of hSA⟩,fY (K:=K) (xs:=NV cs) (fun j σ He=>(∃a b c e f g h,σ=[some (.ref p),some (.int n),some (.ref N),some (.ref M),a,b,c,e,f,g,h])/\(∀b o,HA b=some o->b≠M->He b=some o)/\He M=some (.lst (NV ((List.range n).map fun (h:Nat)=>fz (zp zs) (ci h)+if h∈cs.take j then 1 else 0)))) ⟨⟨_,_,_,_,_,_,_,rfl⟩,fun b o e _=>e,?_⟩ (fun j σ He _ z=>aW.of (z.2.1 _ _ hSA nSM)) ?_ ?_⟩
   .rw[hMA];simp[qM]
   .rintro j x σ He hx ⟨⟨y4,y5,y6,y7,y8,y9,Uj,rfl⟩,sk,Wo⟩;obtain⟨c,hv,rfl⟩:=qy hx;have hc:c<n:=Wl c (cU hv);have hj:j<cs.length:=(b9.mp hv).1;have Ft:c<((List.range n).map fun (h:Nat)=>fz (zp zs) (ci h)+if h∈cs.take j then 1 else 0).length:=by rw[aT,cG];exact hc
    have cn:c∉cs.take j:=fun z=>by
     obtain⟨k,hk⟩:=vQ.mp z;have hkl:k<j:=by have:=(b9.mp hk).1;rw[mv] at this;lia
     rw[z8 hkl] at hk;obtain⟨k1,e1⟩:=b9.mp hk;obtain⟨k2,e2⟩:=b9.mp hv;have:=jA YW k1 k2 (e1.trans e2.symm);lia
    refine⟨_,rfl,_,rfl,M,_,_,_,rfl,rfl,aW.of Wo,aB (ik Ft),_,_,rfl,rfl,_,rfl,_,rfl,M,_,(c:Int),c,rfl,rfl,Wo,eh (by rw[be];exact Ft),⟨_,_,_,_,_,_,_,rfl⟩,fun b o e m=>by rw[ap m];exact sk b o e m,?_⟩;rw[ae];have eg:((List.range n).map fun (h:Nat)=>fz (zp zs) (ci h)+if h∈cs.take j then 1 else 0).getD c 0=fz (zp zs) (ci c):=by
     rw[bW,bU,fQ hc];show fz (zp zs) (ci c)+(if c∈cs.take j then 1 else 0)=_;rw[ak cn];rfl
    rw[eg];refine congrArg (fun l=>some (HO.lst l)) ((qb (x:=fz (zp zs) (ci c)+1)).trans ?_);congr 1;refine lV fun k=>?_;rw[vY,bU,bU];have tk:cs.take (j+1)=cs.take j++[c]:=by rw[gX,hv];rfl
    by_cases hk:c=k
    .subst hk;rw[ao rfl,ao Ft,fQ hc];show _=some (fz (zp zs) (ci c)+if c∈cs.take (j+1) then 1 else 0);rw[ao (by rw[tk];simp)]
    .rw[ak hk];by_cases Q6:k<n
     .rw[fQ Q6];show some (fz (zp zs) (ci k)+if k∈cs.take j then 1 else 0)=some (fz (zp zs) (ci k)+if k∈cs.take (j+1) then 1 else 0);have:(k∈cs.take (j+1))↔k∈cs.take j:=by rw[tk,bX,cu];exact⟨fun z=>z.resolve_right (fun e=>hk e.symm),.inl⟩
      simp only[this]
     .rw[fJ (by rw[cG];lia)];rfl
   .rintro σ He ⟨⟨y4,y5,y6,y7,y8,y9,Uj,rfl⟩,sk,Wo⟩;have st:∀b o,HA b=some o->b≠M->He b=some o:=sk;refine⟨N,zs++ms,⟨_,_,_,_,_,_,_,rfl⟩,fun b o e m=>sk _ _ (sHA _ _ e m) (am e Q4),?_,YU,?_,fun z hz=>?_,?_,F2⟩
    .obtain⟨x,y,e,r⟩:=hpA;exact⟨x,y,sk _ _ e Jw.symm,r⟩
    .rw[eC];exact sk _ _ hNA nNM
    .have g:=poA z hz;exact sk _ _ g (by rintro e;rw[e,hMA] at g;cases g)
    .rw[Wo,be,j9];refine congrArg (fun l=>some (HO.lst (NV l))) ?_;unfold qM;refine jo fun h _=>?_;rw[eD,Ue,Dm,zw YW]
  .rintro σ Hc ⟨T,zs,⟨x4,x5,x6,x7,x8,x9,Q9,rfl⟩,sc,mW,hT,Wk,po,B0,Fi⟩;exact⟨_,rfl,q T zs Hc sc mW hT Wk po Fi⟩
end
abbrev IC:Stmt:=top 49
theorem Dx{bs:List Addr}{h:Nat}(hh:h<bs.length):(bs.map V.ref)[h]?=some (.ref (bs.getD h 0)):=by
 rw[bU,bW,bQ hh];rfl
theorem Pl{cs:List Addr}{j:Nat}(h:j<cs.length):cs.getD j 0∈cs:=by rw[bW,bQ h];exact gv _
def Uk(σ:St):Nat:=match σ[5]? with
 |some (some (V.int i))=>i.toNat
 |_=>0
section
variable {P:Program} {w:World} {K:PySem.W.Frag} {mg:Str->Option Value} {base:Heap}
theorem lB:aR ["_law_outs_here","_law_found","_law_begin","_law_far_here","_law_waiting","_law_at","_law_other"] ["_law_outs_here"] (av IC):=⟨rfl,rfl,rfl,by decide +kernel,rfl,by decide +kernel,by decide +kernel⟩
def B5:Sp:=fun vs H Q _=>∃ (L:Addr->Prop) (o:Addr) (n:Nat) (ts:Ts),vs=[.ref o]/\bK n ts/\bV H L o n (bq n ts)/\∀ (r:Addr) (H':Hp),aO H H'->H r=none->bV H' (fun b=>H b=none) r n (fun h=>(List.range n).map (far ts h))->Q (.ref r) H'
theorem Ld{f:Addr}{fd:FuncData}(F:ig K "_law_far" "_law_far" IC f fd)(B:Bl mg):bA P w K mg base bg 1 f fd ["_law_outs_here"] B5:=by
 refine F.ok lB (fun vs H Q E h=>?_) (fun eY A outer s H vs Q E hr h=>?_)
 .obtain⟨L,o,n,ts,rfl,_⟩:=h;rfl
 .obtain⟨L,o,n,ts,rfl,fi,O,q⟩:=h;have n1:=fi.n1;have n2:=fi.n2;refine⟨_,(aj (aU (i:=1) lB.nd rfl (Or.inl rfl) (cS ag))
   (aj (cP dU rfl (bz rfl B.range (aa (aD aM (by rfl) B.len dW (aa (pv 0) ag)) ag)) (aA (i:=2) lB.nd rfl (Or.inl rfl))
    (aj (aU (i:=3) lB.nd rfl (Or.inl rfl) (aY A2 (cS (aa eN ag)) (aD aM (by rfl) B.len dW (aa (pv 0) ag))))
    (aj (dM az (fX (pv 3) (pv 2) dH))
    (aj (aU (i:=4) lB.nd rfl (Or.inl rfl) (cS (aa (pv 2) ag)))
    (aj (aU (i:=5) lB.nd rfl (Or.inl rfl) az)
    (aj (xT dU (aQ lW (pv 5) (aD aM (by rfl) B.len dW (aa (pv 4) ag)) (a8 _)) (aj (cP dU rfl (bT (aV aL (pv 0) (aV aL (pv 4) (pv 5) (fun _ _=>rfl)) (fun _ _=>rfl))) (aA (i:=6) lB.nd rfl (Or.inl rfl))
      (au (cC (aQ wr (aV aL (pv 3) (pv 6) (fun _ _=>rfl)) eN (a8 _)) (aj (dM (aY cZ (aV aL (pv 3) (aV aL (pv 4) (pv 5) (fun _ _=>rfl)) (fun _ _=>rfl)) az) (fX (pv 3) (pv 6) dH))
       (au (bY (gE gk jm jl cK (pv 4) (aa (pv 6) ag))))) bh)))
     (au (aU (i:=5) lB.nd rfl (Or.inl rfl) (aY cZ (pv 5) az)))))
    (au (bY (gE gk jm jl cK (pv 1) (aa (pv 3) ag))))))))))
   (au (a_ (pv 1))))),?_⟩
  obtain⟨bs,Fv,hbL,MS,Mn⟩:=O;refine⟨by show 0<=sizeLine;decide,fun F hF=>?_⟩;have sF:=ai (o:=.lst []) hF;have el:(((bs.map V.ref).length:Nat):Int)=(n:Int):=by rw[aT,MS]
  refine⟨_,rfl,o,_,rfl,.inl (aW.of (sF _ _ Fv)),(n:Int),congrArg (fun z=>[V.int z]) el,by lia,by lia,dC (n:=n) (lo:=0) (fun i σ Hc=>(∃a b c d e,σ=[some (.ref o),some (.ref F),a,b,c,d,e])/\aO H Hc/\∃ds:List Addr,Hc F=some (.lst (ds.map V.ref))/\(∀b∈ds,H b=none/\b≠F)/\ds.length=i/\∀j,j<i->Hc (ds.getD j 0)=some (.lst (NV ((List.range n).map (far ts j))))) ⟨⟨_,_,_,_,_,rfl⟩,sF,[],ae,fun b hb=>(nomatch hb),rfl,fun j hj=>absurd hj (v6 _)⟩ ?_ ?_⟩
  rotate_left
  .rintro σ Hc ⟨⟨a,b,c,d,e,rfl⟩,sc,ds,E_,Wp,dl,Wq⟩;exact⟨_,rfl,q F Hc sc hF ⟨ds,E_,fun b hb=>(Wp b hb).1,dl,Wq⟩⟩
  .rintro b σ Hc hb ⟨⟨_,_,_,_,_,rfl⟩,sc,ds,E_,Wp,dl,Wq⟩;rw[hZ];refine⟨by show 1<=sizeLine;decide,fun L1 t_=>⟨_,rfl,o,_,rfl,.inl (aW.of (ai t_ _ _ (sc _ _ Fv))),L1,_,_,rfl,rfl,ae,by rw[el];lia,by rw[el];lia,by rw[gu,md,aT,MS];exact aX (show 1*n<=32 by lia) (by decide),fun D hD=>?_⟩⟩;rw[gu,oq,aT,MS];have s1:=sc.trans (ai (o:=.lst [.cB]) t_);have hFD:F≠D:=am ((ai (o:=.lst [.cB]) t_) _ _ E_) hD;have fD:=s1.free hD;have dsD:∀c∈ds,c≠D:=fun c hc=>by
    rintro rfl;exact absurd hD (by
     obtain⟨j,hj,e⟩:=rN hc;have:(upd Hc L1 (.lst [.cB])) c=some (.lst (NV ((List.range n).map (far ts j)))):=(ai t_) _ _ (by have:=Wq j (by lia);rw[bW,bQ hj,kL,e] at this;exact this);rw[this];exact fun z=>by cases z)
   have Pm:=(ai (o:=.lst [.cB]) t_) _ _ E_;have Ul:∀j,j<b->(upd Hc L1 (.lst [.cB])) (ds.getD j 0)=some (.lst (NV ((List.range n).map (far ts j)))):=fun j hj=>(ai t_) _ _ (Wq j hj);generalize upd Hc L1 _=H1 at *;refine⟨_,rfl,_,rfl,D,_,b,b,rfl,rfl,ae,by rw[gm];exact eh hb,?_⟩;rw[lI,tX hb];refine⟨_,rfl,by show 1<=sizeLine;decide,fun R hR=>?_⟩;have Fz:D≠R:=am (H:=upd H1 D (.lst (g_ n [b] (fun _=>0)))) ae hR;have KM:H1 R=none:=by rw[ap Fz.symm] at hR;exact hR
   have fR:=s1.free KM;have hFR:F≠R:=am Pm KM;have dsR:∀c∈ds,c≠R:=fun c hc=>by
    rintro rfl;obtain⟨j,hj,e⟩:=rN hc;have:=Ul j (by lia);rw[bW,bQ hj,kL,e,KM] at this;cases this
   have sm0:aO H1 (upd (upd H1 D (.lst (g_ n [b] (fun _=>0)))) R (.lst [.int (b:Int)])):=br (ai hD) KM;have Y9:=s1 _ _ Fv;have Um:∀u,u<n->H1 (bs.getD u 0)=some (.lst (NV (bq n ts u))):=fun u hu=>s1 _ _ (Mn u hu);refine xV (fun σ H2=>∃ (i:Nat) (Rs:List Nat) (f:Nat->Nat),i<=Rs.length/\zS n ts b i Rs f/\(∃v,σ=[some (.ref o),some (.ref F),some (.int (b:Int)),some (.ref D),some (.ref R),some (.int (i:Int)),v])/\aO H1 H2/\H2 D=some (.lst (g_ n Rs f))/\H2 R=some (.lst (NV Rs)))
    (fun σ _=>n-Uk σ) ⟨0,[b],fun _=>0,bE _,zS.start hb,⟨_,rfl⟩,sm0,?_,ae⟩ ?_ ?_
   .rw[ap Fz,ae]
   .rintro σ H2 ⟨i,Rs,f,hi,Bf,⟨v',rfl⟩,sm,jH,uI⟩;have hRn:Rs.length<=n:=e8 Bf.nd Bf.lt;refine⟨_,rfl,_,rfl,R,_,rfl,.inl (aW.of uI),_,_,rfl,rfl,_,rfl,?_⟩;rw[be];by_cases vo:i<Rs.length
    .rw[show decide ((i:Int)<((Rs.length:Nat):Int))=true by simp;lia];refine yh ?_;have hu:Rs[i]?=some Rs[i]:=bQ vo;generalize Rs[i]=u at hu;have y_:u<n:=Bf.lt u (cU hu);have Yi:(NV Rs)[i]?=some (.int (u:Int)):=by rw[bU,hu];rfl
     have Yj:=Dx (bs:=bs) (h:=u) (by rw[MS];exact y_);have Yk:=sm _ _ (Um _ y_);refine⟨_,rfl,_,rfl,_,rfl,R,_,_,_,rfl,rfl,aW.of uI,aB Yi,o,_,_,_,rfl,rfl,aW.of (sm _ _ Y9),aB Yj,_,rfl,⟨_,aW.of Yk⟩,?_⟩;refine fY (K:=K) (xs:=NV (bq n ts u)) (fun j σ H3=>∃ (ir:List Nat) (f':Nat->Nat),zS n ts b i ir f'/\ir[i]?=some u/\(∀v∈(bq n ts u).take j,v∈ir/\f' v<=f' u+1)/\
      (∃c,σ=[some (.ref o),some (.ref F),some (.int (b:Int)),some (.ref D),some (.ref R),some (.int (i:Int)),c])/\aO H1 H3/\H3 D=some (.lst (g_ n ir f'))/\H3 R=some (.lst (NV ir)))
      ⟨Rs,f,Bf,hu,fun v hv=>by simp at hv,⟨_,rfl⟩,sm,jH,uI⟩ (fun j σ H3 _ ⟨_,_,_,_,_,_,EW,_⟩=>aW.of (EW _ _ (Um _ y_))) ?_ ?_
     .rintro j x σ H3 hx ⟨ir,f',xf,qE,dn,⟨b',rfl⟩,EW,on,zR⟩;obtain⟨v,hv,rfl⟩:=qy hx;have OM:v∈bq n ts u:=cU hv;have HM:v<n:=rh fi y_ OM;have Yl:T ts u v:=(g9 fi y_).mp OM;have tk:(bq n ts u).take (j+1)=(bq n ts u).take j++[v]:=by rw[gX,hv];rfl
      have HN:u∈ir:=cU qE;have HQ:ir.length<=n:=e8 xf.nd xf.lt;refine⟨_,rfl,_,rfl,D,_,_,_,rfl,rfl,aW.of on,aB (iM HM),rfl,_,rfl,?_⟩;by_cases BO:v∈ir
      .rw[ao BO];refine iH ⟨ir,f',xf,qE,fun x hx=>?_,⟨_,rfl⟩,EW,on,zR⟩;rw[tk] at hx;rcases bX.mp hx with z|z
       .exact dn x z
       .simp at z;subst z;exact⟨BO,xf.bd u qE _ BO⟩
      .rw[ak BO];refine yh ?_;have HP:(g_ n ir f')[u]?=some (.int ((f' u:Nat):Int)):=by rw[iM y_,ao HN]
       refine⟨_,rfl,_,rfl,_,rfl,R,_,_,_,rfl,rfl,aW.of zR,aB (show (NV ir)[i]?=some (.int (u:Int)) by rw[bU,qE];rfl),D,_,_,_,rfl,rfl,aW.of on,aB HP,_,_,rfl,rfl,_,rfl,_,rfl,D,_,_,_,rfl,rfl,on,by rw[jC];exact eh HM,?_⟩;have e1:(g_ n ir f').set v (.int (((f' u:Nat):Int)+1))=g_ n (ir++[v]) (put f' v (f' u+1)):=by
        rw[show ((f' u:Nat):Int)+1=((f' u+1:Nat):Int) by lia,yZ HM]
       rw[e1];have rf:(upd H3 D (.lst (g_ n (ir++[v]) (put f' v (f' u+1))))) R=some (.lst (NV ir)):=by rw[ap Fz.symm];exact zR
       refine⟨_,rfl,.inl ⟨rfl,_,aW.of rf⟩,_,rfl,R,_,_,rfl,rfl,rf,by rw[be];exact bi (show ir.length<33 by lia) (by decide),?_⟩;have q_:i<ir.length:=(b9.mp qE).1;have Ym:u≠v:=fun z=>BO (z ▸ HN);refine⟨ir++[v],put f' v (f' u+1),xf.add qE HM Yl BO,by rw[jk q_];exact qE,fun x hx=>?_,⟨_,rfl⟩,br (br EW hD) KM,?_,?_⟩
       .rw[ge Ym];rw[tk] at hx;rcases bX.mp hx with z|z
        .obtain⟨q1,q2⟩:=dn x z;exact⟨ft _ q1,by rw[ge (fun (z:x=v)=>BO (z ▸ q1))];exact q2⟩
        .simp at z;subst z;exact⟨by simp,by rw[jz];exact aK _⟩
       .rw[ap Fz,ae]
       .rw[ae,iX]
     .rintro σ H3 ⟨ir,f',xf,qE,dn,⟨b',rfl⟩,EW,on,zR⟩;rw[be,j9] at dn;have q_:i<ir.length:=(b9.mp qE).1;have HQ:ir.length<=n:=e8 xf.nd xf.lt;refine⟨_,rfl,_,_,rfl,rfl,⟨⟨i+1,ir,f',q_,xf.next qE (fun v t=>dn v ((g9 fi y_).mpr t)),⟨_,rfl⟩,EW,on,zR⟩,?_⟩⟩;show n-((i:Int)+1).toNat<n-(i:Int).toNat;lia
    .rw[show decide ((i:Int)<((Rs.length:Nat):Int))=false by rw[z9];lia];have e:g_ n Rs f=NV ((List.range n).map (far ts b)):=by
      unfold g_ NV;rw[dk];refine jo fun x hx=>?_;obtain⟨q1,q2⟩:=Bf.done fi (by lia) (bD.mp hx);rw[ao q1,q2];rfl
     rw[e] at jH;have Q_:=sm _ _ Pm;refine iH ⟨_,rfl,.inl ⟨rfl,_,aW.of Q_⟩,_,rfl,F,_,_,rfl,rfl,Q_,by rw[aT,dl];exact bi (show b<33 by lia) (by decide),?_⟩;refine⟨⟨_,_,_,_,_,rfl⟩,fun c ob ec=>?_,ds++[D],by rw[ae,cW];rfl,fun c hc=>?_,by rw[dh,dl];rfl,fun j hj=>?_⟩
     .rw[ap (am ec hF)];exact sm _ _ (s1 _ _ ec)
     .rcases bX.mp hc with z|z
      .exact Wp c z
      .rw[cu.mp z];exact⟨fD,hFD.symm⟩
     .by_cases c:j<b
      .have m:=Pl (cs:=ds) (j:=j) (by lia);have e:(ds++[D]).getD j 0=ds.getD j 0:=by rw[bW,bW,jk (by lia)]
       rw[e,ap (Wp _ m).2];exact sm _ _ (Ul j c)
      .obtain rfl:j=b:=by lia
       have e:(ds++[D]).getD j 0=D:=by rw[bW,qi (by lia),dl,si];rfl
       rw[e,ap hFD.symm];exact jH
   .rintro σ H2 Q1 Q2 imp ⟨v,e1,v2,e2,p,ys,e3,e4,i1,i2,e5,e6,kk,e7,q⟩;exact⟨v,e1,v2,e2,p,ys,e3,e4,i1,i2,e5,e6,kk,e7,imp _ _ q⟩
end
end qx
namespace L2
open PySem PySem.Spec PyProof.Rows
theorem Fa:fh X (.type "int") (fun xs H Q=>∃b,xs=[.bl b]/\Q (.int (if b then 1 else 0)) H):=by
 intro af s σ H xs us Q I r h;obtain⟨b,rfl,q⟩:=h;obtain⟨u1,rfl,r1⟩:=r.one;obtain rfl:u1=Value.bool b:=r1;exact call_int_bool ⟨.int _,H,I.tok _,⟨_,rfl⟩,q⟩
end L2
namespace qx
open PySem L2 jy
abbrev Pn:Stmt:=top 47
theorem oy:(["_law_one","_law_other"]:List Str).Nodup:=by decide +kernel
def ID(p:Addr)(H:Hp)(Q:V->Hp->Prop):Prop:=∀ (t r:Addr) (n:Nat) (zs:Zs) (H':Hp),aI p H H'->bf H' p->H t=none->H' t=some (.tup [.int n,.ref r])->H r=none->H' r=some (.lst (zr zs))->PO H' zs->bK n (zp zs)->Q (.ref t) H'
def IE:Sp:=fun vs H Q _=>∃ (p:Addr),vs=[.ref p]/\bf H p/\ID p H Q
theorem ID.go(k:ID p H Q)(s:aI p H H2)(hp:bf H2 p)(hr:H r=none)(hr2:H2 r=some (.lst (zr zs)))(po:PO H2 zs)(F:bK n (zp zs))(ht:H2 t=none):Q (.ref t) (upd H2 t (.tup [.int n,.ref r])):=
 k t r n zs _ (s.trans (aI.of (ai ht))) (hp.same (ai ht)) (s.free hp.full ht) ae hr (ai ht _ _ hr2) (po.putN ht) F
section
variable {P:Program} {w:World} {K:PySem.W.Frag} {mg:Str->Option Value} {base:Heap}
theorem l6:aR ["_law_pot_here","_law_way","_law_many","_law_pairs"] ["_law_pot_here"] (av Pn):=⟨rfl,rfl,rfl,by decide +kernel,rfl,by decide +kernel,by decide +kernel⟩
theorem Po(F:ig K "_law_net" "_law_net" Pn f fd)(B:Bl mg)(D:dL P w K mg base bg 1 "_law_take" ["_law_pot_here","_law_many"] gO)(RG:dL P w K mg base bg 1 "_law_ring" ["_law_many"] xn)(BX:dL P w K mg base bg 2 "_law_box" ["_law_pot_here"] vA)(WO:dL P w K mg base bg 2 "_law_words" ["_law_pot_here"] vA)(SP:dL P w K mg base bg 2 "_law_some_pairs" ["_law_pot_here","_law_many","_law_more"] BZ)(OW:dL P w K mg base bg 2 "_law_one_way" ["_law_pot_here","_law_many"] IA)(RN:dL P w K mg base bg 2 "_law_renamed" ["_law_pot_here","_law_many","_law_ties"] Dw):bA P w K mg base bg 3 f fd ["_law_pot_here"] IE:=by
 refine F.ok l6 (fun vs H Q E h=>?_) (fun eY A outer s H vs Q E h2 h=>?_)
 .obtain⟨p,rfl,_⟩:=h;rfl
 .obtain⟨p,rfl,hp,q⟩:=h;have h1:cg 1 _:=h2.mono (by decide);refine'⟨_,(aj (aU (i:=1) l6.nd rfl (Or.inl rfl) (aH D h1 aN (aa (pv 0) (aa az ag))))
   (aj (aU (i:=2) l6.nd rfl (Or.inl rfl) (aY cZ az (aH D h1 aN (aa (pv 0) (aa (aV aL (cS (aa az (aa az (aa az ag)))) (aH D h1 aN (aa (pv 0) (aa az ag))) (fun _ _=>rfl)) ag)))))
   (aj (cC (aQ iF (pv 1) az (a8 _)) (au (a_ (cQ (aa (pv 2) (aa (aH RN h2 aN (aa (pv 0) (aa (pv 2) (aa (aH OW h2 aN (aa (pv 0) (aa (pv 2) ag))) ag)))) ag))))) bh)
   (aj (cC (aQ iF (pv 1) az (a8 _)) (au (aU (i:=3) l6.nd rfl (Or.inl rfl) (aH RG h1 aN (aa (pv 2) ag)))) (au (cC (aQ iF (pv 1) az (a8 _)) (au (dM (aH BX h2 aN (aa (pv 0) ag)) (dA (n:=2) rfl (aG (aA (i:=2) l6.nd rfl (Or.inl rfl)) (aG (aA (i:=3) l6.nd rfl (Or.inl rfl)) cr))))) (au (cC (aQ iF (pv 1) az (a8 _)) (au (dM (aH WO h2 aN (aa (pv 0) ag)) (dA (n:=2) rfl (aG (aA (i:=2) l6.nd rfl (Or.inl rfl)) (aG (aA (i:=3) l6.nd rfl (Or.inl rfl)) cr))))) (aj (aU (i:=2) l6.nd rfl (Or.inl rfl) (aY jV (pv 2) (cJ Fa (by rfl) B.int PyProof.Rows.boot_int (aa (qV iF (pv 1) az (a8 _)) ag))))
      (au (aU (i:=3) l6.nd rfl (Or.inl rfl) (aH SP h2 aN (aa (pv 0) (aa (pv 2) (aa (aV aL (cS (aa az (aa az (aa (pv 2) ag)))) (aY jV (pv 1) az) (fun _ _=>rfl)) ag))))))))))))
   (au (a_ (cQ (aa (pv 2) (aa (aH RN h2 aN (aa (pv 0) (aa (pv 2) (aa (aY wC (pv 3) ?c1) ag)))) ag))))))))),?_⟩
  case c1=>
   refine' cL (g:=(uq K 2 (fW (bv 0) (fW (bv 1) um)))) (te:=(sQ (bo (a9 1) (bo (a9 0) gI)))) (NB:=["_law_one","_law_other"]) (src:=[none,none]) (bp (by kernel_rfl)) rfl (bT (pv 3)) ?g ?t ?e;case g=>exact fun cl C s₃ H₃ fp=>(dA (n:=2) rfl (aG (aA (i:=0) oy rfl (Or.inl rfl) (Or.inr rfl)) (aG (aA (i:=1) oy rfl (Or.inl rfl) (Or.inr rfl)) cr)))
   case t=>exact fun cl C s₃ H₃ fp=>dz
   case e=>exact fun cl C s₃ H₃ fp=>(cQ (aa (pv 1) (aa (pv 0) ag)))
  refine⟨_,rfl,p,7,rfl,by decide,by decide,hp,fun wy H1 hw s1 ng=>?_⟩;refine⟨_,rfl,by show 3<=sizeLine;decide,fun l hl=>⟨_,rfl,p,3,rfl,by decide,by decide,ng.same (ai hl),fun d H2 hd s2 wU=>?_⟩⟩;have gl:=s2 _ _ (ae (H:=H1) (a:=l) (o:=.lst [.int 4,.int 10,.int 30])) (ng.ne hl);obtain⟨m,hm,m1,m2⟩:∃m:Nat,ya [V.int 4,.int 10,.int 30] (d:Int)=some (.int m)/\4<=m/\m<=30:=by
   rcases(show d=0\/d=1\/d=2 by lia) with rfl|rfl|rfl
   .exact⟨4,aB (j:=0) rfl,by decide,by decide⟩
   .exact⟨10,aB (j:=1) rfl,by decide,by decide⟩
   .exact⟨30,aB (j:=2) rfl,by decide,by decide⟩
  refine⟨l,_,_,_,rfl,rfl,aW.of gl,hm,p,m,rfl,by lia,by lia,wU,fun d2 H3 Wb s3 ni=>⟨_,_,rfl,rfl,?_⟩⟩;have sH:aI p H H3:=((s1.trans (aI.of (ai hl))).trans s2).trans s3;obtain⟨n,hn⟩:∃n:Nat,n=3+d2:=⟨_,rfl⟩
  have en:(3:Int)+(d2:Int)=((n:Nat):Int):=by lia
  change bv 2 (V.int ((3:Int)+(d2:Int))) _ _ _;rw[en];have n1:3<=n:=by lia
  have n2:n<=32:=by lia
  clear gl hm s1 s2 s3 ng wU hl hd en;have dQ:∀ (m:Nat) (r:Addr) (zs:Zs) (H4:Hp),aI p H H4->bf H4 p->H r=none->H4 r=some (.lst (zr zs))->PO H4 zs->bK m (dD (zp zs))->RJ (sQ (bo (a9 2) (bo (nC Dw [] E0 (bo (a9 0) (bo (a9 2) (bo (kr Sh (a9 3) (Gm [none,none] (Mg K (a9 3)) (uq K 2 (fW (bv 0) (fW (bv 1) um))) NQ (sQ (bo (a9 1) (bo (a9 0) gI))))) gI)))) gI))) { nx:=fun _ H'=>Q .cB H',rt:=Q } [some (.ref p),some (.int (wy:Nat)),some (.int (m:Nat)),some (.ref r)] H4:=fun m r zs H4 sH qd hr zc po Fi=>by
   have zl:zs.length<=256:=by have:=Fi.len;rw[rm,bB] at this;lia
   refine⟨_,rfl,_,rfl,_,rfl,_,rfl,_,rfl,r,rfl,⟨_,aW.of zc⟩,fun D1 BR=>?_⟩;refine tW uG (fun σ=>∃a b,σ=[a,b]) zc po BR (by lia) ⟨_,_,rfl⟩ ?_ ?_
   .rintro z σ H5 R Kf hz ⟨a,b,rfl⟩ _ ha kt;exact⟨z.1,_,rfl,bP.of ha,rfl,_,_,rfl,_,_,rfl,rfl,_,rfl,_,rfl,by show 2<=sizeLine;decide,fun t ht=>kt _ _ ⟨_,_,rfl⟩ ht⟩
   intro xN H5 s5 Wr M0 e5 _;refine⟨r,D1,_,_,rfl,rfl,s5 _ _ zc,Wr,by rw[dB,dB,<-bB,<-bB,e5,aT,bB];exact aX (show _<=512 by lia) (by decide),fun L hL=>?_⟩;have sL:=ai (o:=.lst (zr zs++zr xN)) hL;have F2:bK m (zp (zs++xN)):=by rw[eD,e5];exact Fi.perm iK.symm
   refine⟨p,L,m,zs++xN,rfl,(qd.same s5).same sL,by rw[ae,eC],((po.same s5).append M0).same sL,(qd.same s5).ne hL,F2,fun r3 MU H6 s6 wS OV Pp M2 F6=>⟨by show 2<=sizeLine;decide,fun t ht=>?_⟩⟩;have sA:aI p H H6:=(sH.trans (aI.of (s5.trans sL))).trans s6;exact q.go sA wS ((sH.trans (aI.of s5)).free (qd.same s5).full (sL.free OV)) Pp M2 F6 ht
  refine⟨_,rfl,rfl,_,rfl,fZ (fun c=>?_) (fun c6=>?_)⟩
  .refine⟨_,rfl,_,rfl,_,rfl,_,rfl,_,rfl,p,n,rfl,by lia,n2,ni,fun r zs H4 s4 qd hr zc po F4=>?_⟩;refine⟨p,r,n,zs,rfl,qd,zc,po,ni.ne hr,F4,fun r3 MU H6 s6 wS OV Pp M2 F6=>⟨by show 2<=sizeLine;decide,fun t ht=>?_⟩⟩;exact q.go ((sH.trans s4).trans s6) wS ((sH.trans s4).free qd.full OV) Pp M2 F6 ht
  unfold Me;dsimp only;refine vy (fun σ Hc=>∃ (m:Nat) (r:Addr) (zs:Zs),σ=[some (.ref p),some (.int (wy:Nat)),some (.int (m:Nat)),some (.ref r)]/\aI p H Hc/\bf Hc p/\H r=none/\Hc r=some (.lst (zr zs))/\PO Hc zs/\bK m (dD (zp zs))) ?_ ?_
  .rintro σ Hc ⟨m,r,zs,rfl,a1,a2,a3,a4,a5,a6⟩;exact dQ m r zs Hc a1 a2 a3 a4 a5 a6
  clear dQ;intro N hN;have fr:∀ {a:Addr},H3 a=none->H a=none:=fun h=>sH.free ni.full h;refine⟨_,rfl,rfl,_,rfl,fZ (fun c=>?_) (fun c0=>?_)⟩
  .exact⟨_,rfl,n,rfl,by lia,n2,fun r zs H4 s4 hr zc po ez=>hN _ _ ⟨n,r,zs,rfl,sH.trans (aI.of s4),ni.same s4,fr hr,zc,po,by rw[ez];exact EZ n1 n2⟩⟩
  refine⟨_,rfl,rfl,_,rfl,fZ (fun c=>?_) (fun c1=>?_)⟩
  .exact⟨_,rfl,p,rfl,ni,fun t r m zs H4 s4 qd ht hr Y_ zc po F4=>⟨t,_,rfl,bP.of Y_,rfl,_,_,rfl,_,_,rfl,rfl,hN _ _ ⟨m,r,zs,rfl,sH.trans s4,qd,fr hr,zc,po,F4⟩⟩⟩
  refine⟨_,rfl,rfl,_,rfl,fZ (fun c=>?_) (fun c2=>?_)⟩
  .exact⟨_,rfl,p,rfl,ni,fun t r m zs H4 s4 qd ht hr Y_ zc po F4=>⟨t,_,rfl,bP.of Y_,rfl,_,_,rfl,_,_,rfl,rfl,hN _ _ ⟨m,r,zs,rfl,sH.trans s4,qd,fr hr,zc,po,F4⟩⟩⟩
  have hw3:3<=wy/\wy<=5:=by
   have a0:wy≠0:=fun z=>c0 (by rw[z];rfl);have a1:wy≠1:=fun z=>c1 (by rw[z];rfl);have a2:wy≠2:=fun z=>c2 (by rw[z];rfl);have a6:wy≠6:=fun z=>c6 (by rw[z];rfl);lia
  obtain⟨k,hk,k1,k2⟩:∃k:Nat,(n:Int)-(if decide (V.int (wy:Int)=V.int 3)=true then 1 else 0)=(k:Int)/\2<=k/\k<=32:=by
   by_cases e:wy=3
   .exact⟨n-1,by rw[ao (by rw[e];rfl)];lia,by lia,by lia⟩
   .exact⟨n,by rw[ak (by simp;lia)];lia,by lia,by lia⟩
  refine⟨_,rfl,_,rfl,rfl,_,rfl,_,_,rfl,rfl,?_⟩;change bv 2 (V.int ((n:Int)-(if decide (V.int (wy:Int)=V.int 3)=true then 1 else 0))) _ _ _;rw[hk];refine⟨_,rfl,_,rfl,_,rfl,by show 3<=sizeLine;decide,fun l hl=>⟨_,rfl,_,_,rfl,rfl,?_⟩⟩;have sl:=ai (o:=.lst [.int 0,.int 3,.int (k:Int)]) hl;obtain⟨g,hg,g1⟩:∃g:Nat,ya [V.int 0,.int 3,.int (k:Int)] ((wy:Int)-3)=some (.int g)/\g<=64:=by
   rcases(show wy=3\/wy=4\/wy=5 by lia) with e|e|e <;> rw[e]
   .exact⟨0,aB (j:=0) rfl,by decide⟩
   .exact⟨3,aB (j:=1) rfl,by decide⟩
   .exact⟨k,aB (j:=2) rfl,by lia⟩
  refine⟨l,_,_,_,rfl,rfl,aW.of ae,hg,p,k,g,rfl,k1,k2,g1,ni.same sl,fun r zs H4 s4 qd hr zc po F4=>?_⟩;exact hN _ _ ⟨k,r,zs,rfl,(sH.trans (aI.of sl)).trans s4,qd,fr (sl.free hr),zc,po,F4⟩
end
abbrev B6:Stmt:=top 48
theorem qN:(["_law_k","_law_house","_law_many"]:List Str).Nodup:=by decide +kernel
theorem lC:(["_law_other","_law_house","_law_there"]:List Str).Nodup:=by decide +kernel
theorem Le(G:Nat->V)(cA:St->Prop)(hD:H0 D=none)(hn:n<=1000)(h0:cA σB)(hs:∀x σ H (R:V->St->Hp->Prop) (Kf:St->Hp->Prop),x<n->cA σ->aO H0 H->(∀σ2 H2,cA σ2->aO H H2->R (G x) σ2 H2)->g (.int (lo+(x:Nat))) σ H fun σ2 H2=>tt σ2 H2 fun b H3=>if b=true then te σ2 H3 fun v H4=>R v σ2 H4 else Kf σ2 H3)(hd:∀H,aO H0 H->H D=some (.lst ((List.range n).map G))->dQ H):ii (Fl lo n) g tt te D dQ σB (upd H0 D (.lst [])):=by
 refine eR (fun i ys σ H=>cA σ/\aO H0 H/\H D=some (.lst ys)/\ys=(List.range i).map G) ⟨h0,ai hD,ae,rfl⟩ ?_ ?_
 .rintro i ys σ H Kt Kf hi ⟨sh,sm,jB,rfl⟩ kt kf;refine hs i σ H Kt Kf hi sh sm (fun σ2 H2 w_ s2=>?_);refine kt _ _ _ (s2 _ _ jB) ?_ ⟨w_,br (sm.trans s2) hD,ae,by rw[jr,cW];rfl⟩;rw[aT,cG];exact bi (show i<1000 by lia) (by decide)
 .rintro ys σ H ⟨_,sm,jB,rfl⟩;exact hd H sm jB
theorem Dy(ms:List β)(e:β->V)(c:β->Bool)(cA:St->Prop)(ha:H0 a=some (.lst (ms.map e)))(hD:H0 D=none)(hn:ms.length<=1000)(h0:cA σB)(hs:∀m σ H (Kt:V->St->Hp->Prop) (Kf:St->Hp->Prop),m∈ms->cA σ->aO H0 H->(∀σ2 H2,cA σ2->aO H H2->c m=true->Kt (e m) σ2 H2)->(∀σ2 H2,cA σ2->aO H H2->c m=false->Kf σ2 H2)->
   g (e m) σ H fun σ2 H2=>tt σ2 H2 fun b H3=>if b=true then te σ2 H3 fun v H4=>Kt v σ2 H4 else Kf σ2 H3)(hd:∀H,aO H0 H->H D=some (.lst ((ms.filter c).map e))->dQ H):ii (FZ K a) g tt te D dQ σB (upd H0 D (.lst [])):=by
 refine eZ (xs:=ms.map e) (fun i ys σ H=>cA σ/\aO H0 H/\H D=some (.lst ys)/\ys=((ms.take i).filter c).map e) ⟨h0,ai hD,ae,rfl⟩ (fun i ys σ H _ z=>aW.of (z.2.1 _ _ ha)) ?_ ?_
 .rintro i x ys σ H Kt Kf hx ⟨sh,sm,jB,rfl⟩ kt kf;rw[bU] at hx;cases hz:ms[i]? with
  |none=>rw[hz] at hx;cases hx
  |some m=>
   rw[hz] at hx;obtain rfl:e m=x:=bN hx;have tk:ms.take (i+1)=ms.take i++[m]:=by rw[gX,hz];rfl
   refine hs m σ H Kt Kf (cU hz) sh sm (fun σ2 H2 w_ s2 hc=>?_) (fun σ2 H2 w_ s2 hc=>?_)
   .refine kt _ _ _ (s2 _ _ jB) ?_ ⟨w_,br (sm.trans s2) hD,ae,by rw[tk,gn];simp[dS,hc]⟩;rw[aT];exact eK (aX (ix _ _) (List.length_take_le' _ _)) (eK hn (by decide))
   .exact kf _ _ ⟨w_,sm.trans s2,s2 _ _ jB,by rw[tk,gn];simp[dS,hc]⟩
 .rintro ys σ H ⟨_,sm,jB,rfl⟩;rw[aT,j9] at jB;exact hd H sm jB
def BU(u:Int×Int):List io:=[.inl u.1,.inl u.2]
theorem zy:∀ {ps:List TK} {m:List (List io×V)},(ip (dJ m ps) k).isSome=true↔(ip m k).isSome=true\/k∈ps.map fun p:TK=>p.1
 |[],m=>by unfold dJ;simp
 |p::ps,m=>by
  have ih:=zy (k:=k) (ps:=ps) (m:=tw m p.1 p.2.2);rw[show dJ m (p::ps)=dJ (tw m p.1 p.2.2) ps from rfl,ih,GK];by_cases c:k=p.1
  .rw[ao c];simp[c]
  .rw[ak c,fv];simp[c]
theorem Lf{u:Int×Int}{ts:Ts}:BU u∈ts.map BU↔u∈ts:=by
 constructor
 .intro h;obtain⟨v,hv,e⟩:=bj.mp h;unfold BU at e;injection e with e1 e2;injection e2 with e2 _;rw[show u=v from iB (Sum.inl.inj e1).symm (Sum.inl.inj e2).symm];exact hv
 .exact fun h=>bj.mpr ⟨u,h,rfl⟩
theorem Lg(F:bK n ts)(hh:h<n):((List.range (n-1)).map fun s=>(h+(s+1)) % n).filter (fun o=>decide ((ci h,ci o)∈ts))=bq n ts h:=by
 unfold bq;obtain⟨m,rfl⟩:∃m,n=m+1:=⟨n-1,by lia⟩
 have e0:(h+0) % (m+1)=h:=i8 hh;rw[oP,fv,dS,dk,e0];have nt:¬ T ts h h:=fun z=>F.ne _ z rfl;rw[ak (fun z=>nt (fc z)),show m+1-1=m from rfl];exact List.filter_congr fun o _=>vZ.mpr Iff.rfl
theorem Pq:(["_law_tie"]:List Str).Nodup:=by decide +kernel
section
variable {P:Program} {w:World} {K:PySem.W.Frag} {mg:Str->Option Value} {base:Heap}
theorem oz:aR ["_law_many","_law_ties","_law_there","_law_found","_law_house","_law_around"] ["_law_many","_law_ties"] (av B6):=⟨rfl,rfl,rfl,by decide +kernel,rfl,by decide +kernel,by decide +kernel⟩
def xr:Sp:=fun vs H Q _=>∃ (n:Nat) (l:Addr) (zs:Zs),vs=[.int n,.ref l]/\H l=some (.lst (zr zs))/\PO H zs/\bK n (zp zs)/\∀ (r:Addr) (H':Hp),aO H H'->H r=none->bV H' (fun a=>H a=none) r n (bq n (zp zs))->Q (.ref r) H'
theorem IF{f:Addr}{fd:FuncData}(F:ig K "_law_outs" "_law_outs" B6 f fd)(B:Bl mg)(B2:Q3 mg):bA P w K mg base bg 1 f fd ["_law_many","_law_ties"] xr:=by
 refine F.ok oz (fun vs H Q E h=>?_) (fun eY A outer s H vs Q E hr h=>?_)
 .obtain⟨n,l,zs,rfl,_⟩:=h;rfl
 .obtain⟨n,l,zs,rfl,hl,po,Fi,q⟩:=h;have n1:=Fi.n1;have n2:=Fi.n2;have zl:zs.length<=256:=by have:=Fi.len;rwa [bB] at this
  refine'⟨_,(aj (aU (i:=2) oz.nd rfl (Or.inr rfl) (cJ (BV rfl hr.u) (by rfl) B2.dict PyProof.Rows.boot_dict (aa ?c1 ag)))
   (aj (aU (i:=3) oz.nd rfl (Or.inl rfl) (cS ag))
   (aj (cP dU rfl (bz rfl B.range (aa (pv 0) ag)) (aA (i:=4) oz.nd rfl (Or.inr rfl))
    (aj (eQ (i:=5) (g:=(bv 0)) (te:=(kr (rI (fun _ j=>0<j) fun i j=>.int (i % j)) (kr (zM fun i j=>.int (i+j)) (a9 1) (a9 0)) (a9 2))) (NB:=["_law_k","_law_house","_law_many"]) (src:=[none,some 4,some 0]) (bp (by kernel_rfl)) rfl (pK rfl B.range (aa az (aa (pv 0) ag))) ?g2 ?t2 ?e2 oz.nd rfl rfl rfl)
    (au (bY (gE gk jm jl cK (pv 3) (aa ?c3 ag))))))
   (au (a_ (pv 3)))))),?_⟩
  case c1=>
   refine' cL (g:=(bv 0)) (te:=(sQ (bo (a9 0) (bo (tC (.bl true)) gI)))) (NB:=["_law_tie"]) (src:=[none]) (bp (by kernel_rfl)) rfl (bT (pv 1)) ?g ?t ?e;case g=>exact fun cl C s₃ H₃ fp=>(aA (i:=0) Pq rfl (Or.inl rfl) (Or.inr rfl))
   case t=>exact fun cl C s₃ H₃ fp=>dz
   case e=>exact fun cl C s₃ H₃ fp=>(cQ (aa (pv 0) (aa qj ag)))
  case g2=>exact fun cl C s₃ H₃ fp=>(aA (i:=0) qN rfl (Or.inl rfl) (Or.inr rfl))
  case t2=>exact fun cl C s₃ H₃ fp=>dz
  case e2=>exact fun cl C s₃ H₃ fp=>(aY iE (aY cZ (pv 1) (pv 0)) (pv 2))
  case c3=>
   refine' cL (g:=(bv 0)) (tt:=(tB (SX (sQ (bo (a9 1) (bo (a9 0) gI))) (a9 2)))) (te:=(a9 0)) (NB:=["_law_other","_law_house","_law_there"]) (src:=[none,some 4,some 2]) (bp (by kernel_rfl)) rfl (bT (pv 5)) ?g ?t ?e;case g=>exact fun cl C s₃ H₃ fp=>(aA (i:=0) lC rfl (Or.inl rfl) (Or.inr rfl))
   case t=>exact fun cl C s₃ H₃ fp=>gU (No (N9 hr.u (cQ (aa (pv 1) (aa (pv 0) ag))) (pv 2)))
   case e=>exact fun cl C s₃ H₃ fp=>(pv 0)
  refine⟨_,rfl,l,rfl,⟨_,aW.of hl⟩,fun D1 BR=>?_⟩;refine eZ (xs:=zr zs) (fun i ys σ H2=>(∃x,σ=[x])/\aO H H2/\H2 D1=some (.lst ys)/\∃as:List Addr,ys=as.map V.ref/\as.length=i/\∀j,j<i->∃z,zs[j]?=some z/\H2 (as.getD j 0)=some (.tup [.ref z.1,.bl true])) ⟨⟨_,rfl⟩,ai BR,ae,[],rfl,rfl,fun j hj=>absurd hj (v6 _)⟩ (fun i ys σ H2 _ z=>aW.of (z.2.1 _ _ hl)) ?_ ?_
  .rintro i x ys σ H2 Kt Kf hx ⟨⟨x',rfl⟩,sm,jB,as,rfl,al,ah⟩ kt kf;obtain⟨z,hz,rfl⟩:=tV hx;have hi:i<zs.length:=(b9.mp hz).1;refine⟨_,rfl,by show 2<=sizeLine;decide,fun t ht=>?_⟩;have st:=ai (o:=.tup [.ref z.1,.bl true]) ht;have nD:D1≠t:=am jB ht;refine kt _ _ _ (st _ _ jB) (by rw[aT,al];exact bi (show i<1000 by lia) (by decide)) ⟨⟨_,rfl⟩,br (sm.trans st) BR,ae,as++[t],by rw[cW];rfl,by rw[dh,al];rfl,fun j hj=>?_⟩;by_cases c:j<i
   .obtain⟨z',e1,e2⟩:=ah j c;refine⟨z',e1,?_⟩;have e3:=st _ _ e2;rw[bW,jk (by lia),<-bW,ap (by rintro e;rw[e,st _ _ jB] at e3;cases e3)];exact e3
   .obtain rfl:j=i:=by lia
    refine⟨z,hz,?_⟩;rw[bW,qi (by lia),al,si];show (upd _ D1 _) t=_;rw[ap nD.symm];exact ae
  rintro ys σ H2 ⟨_,s2,jH,as,rfl,al,ah⟩;rw[dB] at al ah;refine⟨D1,as,zs.map fun z=>(BU z.2,z.1,V.bl true),rfl,jH,by rw[aT];exact al,fun i hi=>?_,by rw[aT];lia,fun Kn hK=>?_⟩
  .rw[aT] at hi;obtain⟨z,e1,e2⟩:=ah i hi;exact⟨BU z.2,z.1,.bl true,by rw[bU,e1];rfl,e2,s2 _ _ (po z (cU e1))⟩
  have Uo:∀u:Int×Int,(ip (dJ [] (zs.map fun z=>(BU z.2,z.1,V.bl true))) (BU u)).isSome=decide (u∈zp zs):=fun u=>by
   rw[kQ,zy,dk,rR];have e:((fun p:TK=>p.1) ∘ fun z:Addr×Int×Int=>(BU z.2,z.1,V.bl true))=BU ∘ fun z:Addr×Int×Int=>z.2:=rfl;rw[e,<-dk];have:=Lf (u:=u) (ts:=zp zs);unfold zp at this |-;rw[this];simp[ip]
  have sK:=ai (o:=.dT (dJ [] (zs.map fun z=>(BU z.2,z.1,V.bl true)))) hK;have hKK:(upd H2 Kn (.dT (dJ [] (zs.map fun z=>(BU z.2,z.1,V.bl true))))) Kn=some (.dT (dJ [] (zs.map fun z=>(BU z.2,z.1,V.bl true)))):=ae;generalize dJ [] _=kd at *;refine⟨by show 0<=sizeLine;decide,fun R hR=>?_⟩;have s3:aO H _:=s2.trans sK;have hK3:=ai (o:=.lst []) hR _ _ hKK;have hRH:=s3.free hR;have s4:=s3.trans (ai (o:=.lst []) hR);refine⟨_,rfl,(n:Int),rfl,by lia,by lia,dC (n:=n) (lo:=0) (fun i σ Hc=>(∃a b,σ=[some (.int n),some (.ref l),some (.ref Kn),some (.ref R),a,b])/\aO H Hc/\Hc Kn=some (.dT kd)/\∃bs:List Addr,Hc R=some (.lst (bs.map V.ref))/\(∀b∈bs,H b=none/\b≠R)/\Holds Hc bs i fun h=>.lst (NV (bq n (zp zs) h))) ⟨⟨_,_,rfl⟩,s4,hK3,[],ae,fun b hb=>(nomatch hb),Holds.nil⟩ ?_ ?_⟩
  .rintro i σ Hc hi ⟨⟨x4,x5,rfl⟩,sc,Ws,bs,Up,fr,hb⟩;have nKR:Kn≠R:=by rintro rfl;rw[Ws] at Up;cases Up
   rw[hZ];refine⟨_,rfl,1,(n:Int),rfl,⟨by decide,by decide,by lia,by lia⟩,fun D2 jH=>?_⟩;rw[show ((n:Int)-1).toNat=n-1 by lia];refine Le (lo:=1) (n:=n-1) (fun s=>V.int (((i+(s+1)) % n:Nat):Int)) (fun σ=>∃x,σ=[x,some (.int (i:Nat)),some (.int n)]) jH (by lia) ⟨_,rfl⟩ ?_ ?_
   .rintro x σ H4 R' Kf hx ⟨x',rfl⟩ xh kt;have e:((i:Int)+(1+(x:Int))) % (n:Int)=(((i+(x+1)) % n:Nat):Int):=by lia
    refine⟨_,rfl,_,rfl,_,_,rfl,rfl,_,rfl,_,_,rfl,rfl,(by show (0:Int)<(n:Int);lia),?_⟩;have:=kt [some (.int (1+(x:Int))),some (.int (i:Nat)),some (.int n)] H4 ⟨_,rfl⟩ (aO.refl _);rw[<-e] at this;exact this
   intro H4 s4 FB;have Uq:H4 D2=some (.lst (((List.range (n-1)).map fun s=>(i+(s+1)) % n).map fun (x:Nat)=>V.int (x:Int))):=by rw[FB,dk];rfl
   have rf:=s4 _ _ Up;refine⟨_,rfl,.inl ⟨rfl,_,aW.of rf⟩,_,rfl,D2,rfl,⟨_,aW.of Uq⟩,fun D3 on=>?_⟩;refine Dy ((List.range (n-1)).map fun s=>(i+(s+1)) % n) (fun (x:Nat)=>V.int (x:Int)) (fun o=>decide ((ci i,ci o)∈zp zs)) (fun σ=>∃x,σ=[x,some (.int (i:Nat)),some (.ref Kn)]) Uq on (by rw[aT,cG];lia) ⟨_,rfl⟩ ?_ ?_
   .rintro m σ H5 Kt Kf hm ⟨x',rfl⟩ sm5 kt kf;refine⟨_,rfl,_,rfl,by show 2<=sizeLine;decide,fun t ht=>?_⟩;have st:=ai (o:=.tup [.int (i:Int),.int (m:Int)]) ht;have hK5:=st _ _ (sm5 _ _ (s4 _ _ Ws));refine⟨_,rfl,Kn,_,rfl,GN.t (k:=BU (ci i,ci m)) hK5 ae,_,rfl,?_⟩;rw[Uo];refine fZ (fun c=>?_) (fun c=>?_)
    .exact⟨_,rfl,kt _ _ ⟨_,rfl⟩ st c⟩
    .exact kf _ _ ⟨_,rfl⟩ st (by simpa using c)
   intro H5 s5 Wr;rw[Lg Fi hi] at Wr;have Ol:=s5 _ _ rf;have bl:bs.length=i:=hb.1;have Fz:D3≠R:=by rintro rfl;rw[rf] at on;cases on
   refine⟨R,_,_,rfl,rfl,Ol,by rw[aT,bl];exact bi (show i<33 by lia) (by decide),⟨_,_,rfl⟩,br ((sc.trans s4).trans s5) hRH,?_,bs++[D3],by rw[ae,cW];rfl,fun b q8=>?_,?_⟩
   .rw[ap nKR];exact s5 _ _ (s4 _ _ Ws)
   .rcases bX.mp q8 with z|z
    .exact fr b z
    .rw[cu.mp z];exact⟨(sc.trans s4).free on,Fz⟩
   .refine Holds.snoc (hb.mono fun j hj e=>?_) (by rw[ap Fz];exact Wr);have e5:=s5 _ _ (s4 _ _ e);have hm:bs.getD j 0∈bs:=by rw[bW,bQ (by lia)];exact gv _
    rw[ap (fr _ hm).2];exact e5
  .rintro σ Hc ⟨⟨x4,x5,rfl⟩,sc,Ws,bs,Up,fr,hb⟩;exact⟨_,rfl,q R Hc sc hRH ⟨bs,Up,fun b q8=>(fr b q8).1,hb⟩⟩
end
abbrev B7:Stmt:=top 50
def oV:Option Nat->V
 |none=>.cB
 |some y=>.int (y:Nat)
theorem IG{y:Nat}:∀ {st:List (Option Nat)},(st.map oV).countP (fun z=>sV z (.int (y:Int)))=st.count (some y)
 |[]=>rfl
 |o::st=>by
  rw[fv,o_,IG,AE];cases o with
  |none=>rfl
  |some x=>
   congr 1;show (if decide ((x:Int)=(y:Int))=true then 1 else 0)=_;by_cases h:x=y
   .subst h;simp
   .rw[ak (by simp;lia),ak (by simp[h])]
theorem lD:∀ {st:List (Option Nat)},(st.map oV).all fN=true
 |[]=>rfl
 |none::st=>lD (st:=st)
 |some _::st=>lD (st:=st)
structure lE(n:Nat)(ts:Ts)(homes:List Nat)(st:List (Option Nat)):Prop where
 len:homes.length=st.length
 hs:∀x∈homes,x<n
 ss:∀i y:Nat,st[i]?=some (some y)->y<n/\homes[i]?≠some y
 cap:∀y,y<n->st.count (some y)<=(bq n ts y).length
theorem lE.snoc(S:lE n ts homes st)(hh:h<n)(ho:∀y,o=some y->y<n/\y≠h/\st.count (some y)<(bq n ts y).length):lE n ts (homes++[h]) (st++[o]):=by
 refine⟨by rw[dh,dh,S.len];rfl,fun x hx=>?_,fun i y e=>?_,fun y hy=>?_⟩
 .rcases bX.mp hx with z|z
  .exact S.hs x z
  .rw[cu.mp z];exact hh
 .by_cases c:i<st.length
  .rw[jk c] at e;rw[jk (by rw[S.len];exact c)];exact S.ss i y e
  .rw[qi (by lia)] at e;have hi:i=st.length:=by
    have:=(b9.mp e).1;rw[md] at this;lia
   subst hi;rw[si] at e;have:=ho y (bN e);refine⟨this.1,?_⟩;rw[<-S.len,qi (aK _),si];exact fun z=>this.2.1 (bN z).symm
 .rw[List.count_append,List.count_singleton];by_cases e:o=some y
  .rw[ao (by rw[e];simp)];exact(ho y e).2.2
  .rw[ak (by simpa using e)];exact S.cap y hy
section
variable {P:Program} {w:World} {K:PySem.W.Frag} {mg:Str->Option Value} {base:Heap}
theorem iY:aR ["_law_pot_here","_law_outs_here","_law_many","_law_crowd","_law_homes","_law_stand","_law_k","_law_house"] ["_law_pot_here","_law_outs_here"] (av B7):=⟨rfl,rfl,rfl,by decide +kernel,rfl,by decide +kernel,by decide +kernel⟩
def xt:Sp:=fun vs H Q _=>∃ (p r:Addr) (n:Nat) (ts:Ts) (L:Addr->Prop),vs=[.ref p,.ref r]/\2<=n/\n<=32/\bf H p/\bV H L r n (bq n ts)/\L r/\¬ L p/\
 ∀ (t a b:Addr) (homes:List Nat) (st:List (Option Nat)) (H':Hp),aI p H H'->bf H' p->H' t=some (.tup [.ref a,.ref b])->H' a=some (.tup (NV homes))->H' b=some (.tup (st.map oV))->st.length<=16->lE n ts homes st->Q (.ref t) H'
theorem IH(F:ig K "_law_start" "_law_start" B7 f fd)(B:Bl mg)(D:dL P w K mg base bg 1 "_law_take" ["_law_pot_here","_law_many"] gO):bA P w K mg base bg 2 f fd ["_law_pot_here","_law_outs_here"] xt:=by
 refine F.ok iY (fun vs H Q E h=>?_) (fun eY A outer s H vs Q E hr h=>?_)
 .obtain⟨p,r,n,ts,L,rfl,_⟩:=h;rfl
 .obtain⟨p,r,n,ts,L,rfl,n1,n2,hp,R0,hLr,hLp,q⟩:=h;refine⟨_,(aj (aU (i:=2) iY.nd rfl (Or.inl rfl) (aD aM (by rfl) B.len dW (aa (pv 1) ag)))
   (aj (aU (i:=3) iY.nd rfl (Or.inl rfl) (aV aL (cS (aa (pv 2) (aa (pv 2) (aa az (aa az ag))))) (aH D hr aN (aa (pv 0) (aa az ag))) (fun _ _=>rfl)))
   (aj (AL (i:=4) (j:=5) rfl iY.nd rfl rfl (by decide) rfl rfl (aa (cS ag) (aa (cS ag) ag)) (by rfl))
   (aj (cP dU rfl (bz rfl B.range (aa (aH D hr aN (aa (pv 0) (aa az ag))) ag)) (aA (i:=6) iY.nd rfl (Or.inl rfl))
    (aj (bY (gE gk jm jl cK (pv 4) (aa (aH D hr aN (aa (pv 0) (aa (pv 2) ag))) ag)))
    (aj (aU (i:=7) iY.nd rfl (Or.inl rfl) (aH D hr aN (aa (pv 0) (aa (aD (lK rfl) (by rfl) B.min vN (aa (pv 3) (aa (pv 2) ag))) ag))))
    (aj (cC (PW.pt (sw (aQ iF (aH D hr aN (aa (pv 0) (aa az ag))) az (a8 _)) (sw (aQ iF (pv 7) (aV aL (pv 4) (xW sJ az) (fun _ _=>rfl)) (a8 _)) (pI (aQ Mj (gE gk PySem.F.slot_list_count PySem.F.type_list_count yA (pv 5) (aa (pv 7) ag)) (aD aM (by rfl) B.len dW (aa (aV aL (pv 1) (pv 7) (fun _ _=>rfl)) ag)) (a8 _)))))) (au (aU (i:=7) iY.nd rfl (Or.inl rfl) (aY iE (aY cZ (aY cZ (pv 7) az) (aH D hr aN (aa (pv 0) (aa (pv 2) ag)))) (pv 2)))) bh)
    (aj (cC (PW.pt (sw (aQ iF (pv 7) (aV aL (pv 4) (xW sJ az) (fun _ _=>rfl)) (a8 _)) (pI (aQ Mj (gE gk PySem.F.slot_list_count PySem.F.type_list_count yA (pv 5) (aa (pv 7) ag)) (aD aM (by rfl) B.len dW (aa (aV aL (pv 1) (pv 7) (fun _ _=>rfl)) ag)) (a8 _))))) (au (aU (i:=7) iY.nd rfl (Or.inl rfl) eN)) bh)
    (au (bY (gE gk jm jl cK (pv 5) (aa (pv 7) ag)))))))))
   (au (a_ (cQ (aa (cJ gR (by rfl) B.tup l8 (aa (pv 4) ag)) (aa (cJ gR (by rfl) B.tup l8 (aa (pv 5) ag)) ag))))))))),?_⟩
  obtain⟨bs0,g1,g2,g3⟩:=id R0;have el:(((bs0.map V.ref).length:Nat):Int)=(n:Int):=by rw[aT,g3.1]
  refine⟨_,rfl,r,_,rfl,.inl (aW.of g1),?_⟩;rw[el];refine⟨_,rfl,_,rfl,by show 4<=sizeLine;decide,fun l hl=>⟨_,rfl,p,4,rfl,by decide,by decide,hp.same (ai hl),fun d1 H1 hd1 s1 ng=>?_⟩⟩;have gl:=s1 _ _ (ae (H:=H) (a:=l) (o:=.lst [.int (n:Int),.int (n:Int),.int 2,.int 1])) (hp.ne hl);obtain⟨c,hc,c1,c2⟩:∃c:Nat,ya [V.int (n:Int),.int (n:Int),.int 2,.int 1] (d1:Int)=some (.int c)/\1<=c/\c<=32:=by
   rcases(show d1=0\/d1=1\/d1=2\/d1=3 by lia) with rfl|rfl|rfl|rfl
   .exact⟨n,aB (j:=0) rfl,by lia,by lia⟩
   .exact⟨n,aB (j:=1) rfl,by lia,by lia⟩
   .exact⟨2,aB (j:=2) rfl,by decide,by decide⟩
   .exact⟨1,aB (j:=3) rfl,by decide,by decide⟩
  have M3:aI p H H1:=(aI.of (ai hl)).trans s1;refine⟨l,_,_,_,rfl,rfl,aW.of gl,hc,by show 0<=sizeLine;decide,fun Hs hHs=>⟨by show 0<=sizeLine;decide,fun St Za=>⟨_,_,rfl,?_⟩⟩⟩;have sA:=ai (o:=.lst []) hHs;have sB:=ai (o:=.lst []) Za;have gH:=sB _ _ (ae (H:=H1) (a:=Hs) (o:=.lst (NV [])));have gS:(upd (upd H1 Hs (.lst [])) St (.lst [])) St=some (.lst (List.map oV [])):=ae;have fH:H Hs=none:=M3.free ng.full hHs;have fS:H St=none:=M3.free ng.full (sA.free Za);have Ra:Hs≠p:=hp.ne fH;have Jx:St≠p:=hp.ne fS;have nHS:Hs≠St:=am ae Za;have Zb:=sA.trans sB;generalize upd (upd H1 Hs _) St _=H2 at *;refine⟨_,rfl,p,17,rfl,by decide,by decide,ng.same Zb,fun d2 H3 Wb s3 ni=>⟨(d2:Int),rfl,by lia,by lia,?_⟩⟩;rw[gu];refine dC (lo:=0) (n:=d2) (fun i σ Hc=>∃ (homes:List Nat) (st:List (Option Nat)),(∃a b,σ=[some (.ref p),some (.ref r),some (.int (n:Int)),some (.int (c:Int)),some (.ref Hs),some (.ref St),a,b])/\aI p H Hc/\bf Hc p/\Hc Hs=some (.lst (NV homes))/\Hc St=some (.lst (st.map oV))/\st.length=i/\lE n ts homes st)
   ⟨[],[],⟨_,_,rfl⟩,(M3.trans (aI.of Zb)).trans s3,ni,s3 _ _ gH Ra,s3 _ _ gS Jx,rfl,rfl,fun x hx=>(nomatch hx),fun i y e=>by simp at e,fun y _=>bE _⟩ ?_ ?_
  .clear gH gS s3 ni Zb sA sB gl M3 s1 ng;rintro i σ Hc hi ⟨homes,st,⟨x6,x7,rfl⟩,sc,mW,Lh,vB,sl,SD⟩;refine⟨_,rfl,.inl ⟨rfl,_,aW.of Lh⟩,_,rfl,_,rfl,p,n,rfl,by lia,by lia,mW,fun home H4 hh s4 qd=>⟨Hs,_,_,rfl,rfl,s4 _ _ Lh Ra,by rw[be,SD.len,sl];exact bi (show i<33 by lia) (by decide),?_⟩⟩;rw[iX];have O6:aI p H (upd H4 Hs (.lst (NV (homes++[home])))):=fun b o e m=>by rw[ap (am e fH)];exact s4 _ _ (sc _ _ e m) m
   have ui:=qd.put (o:=.lst (NV (homes++[home]))) Ra.symm;have hS5:(upd H4 Hs (.lst (NV (homes++[home])))) St=some (.lst (st.map oV)):=by rw[ap nHS.symm];exact s4 _ _ vB Jx
   have hH5:=ae (H:=H4) (a:=Hs) (o:=.lst (NV (homes++[home])));generalize upd H4 Hs _=H5 at *;clear s4 qd Lh vB mW sc;have em:(if (n:Int)<(c:Int) then (n:Int) else (c:Int))=((min c n:Nat):Int):=by split <;> lia
   refine⟨_,rfl,_,rfl,_,rfl,_,_,rfl,p,min c n,by rw[em];rfl,by lia,by lia,ui,fun y0 H6 hy0 s6 wS=>?_⟩;have hgl:ya (NV (homes++[home])) (-1)=some (.int (home:Int)):=by rw[<-iX];exact yb _ _
   dsimp only;refine vy (fun σ Hd=>∃y:Nat,y<n/\σ=[some (.ref p),some (.ref r),some (.int (n:Int)),some (.int (c:Int)),some (.ref Hs),some (.ref St),some (.int (0+(i:Int))),some (.int (y:Int))]/\aI p H Hd/\bf Hd p/\Hd Hs=some (.lst (NV (homes++[home])))/\Hd St=some (.lst (st.map oV))) ?_ ?_
   .rintro σ Hd ⟨y,hy,rfl,sd,Oh,hH,hS⟩;refine vy (fun σ He=>He=Hd/\∃o:Option Nat,σ=[some (.ref p),some (.ref r),some (.int (n:Int)),some (.int (c:Int)),some (.ref Hs),some (.ref St),some (.int (0+(i:Int))),some (oV o)]/\∀y,o=some y->y<n/\y≠home/\st.count (some y)<(bq n ts y).length) ?_ ?_
    .rintro σ He ⟨rfl,o,rfl,ho⟩;refine⟨_,rfl,.inl ⟨rfl,_,aW.of hS⟩,_,rfl,St,_,_,rfl,rfl,hS,by rw[aT,sl];exact bi (show i<33 by lia) (by decide),?_⟩;exact⟨homes++[home],st++[o],⟨_,_,rfl⟩,fun b o' e m=>by rw[ap (am e fS)];exact sd _ _ e m,Oh.put Jx.symm,by rw[ap nHS];exact hH,by rw[ae,cW];rfl,by rw[dh,sl];rfl,SD.snoc hh ho⟩
    .intro N hN;have Rd:=R0.keep hLr fun b o l e=>sd b o e fun z=>hLp (z ▸ l);obtain⟨bs,b1,b2,b3⟩:=Rd;have no:N _ Hd:=hN _ _ ⟨rfl,none,rfl,fun y e=>by cases e⟩;refine⟨_,rfl,_,rfl,_,rfl,Hs,_,_,_,rfl,rfl,aW.of hH,hgl,rfl,_,rfl,fZ (fun e1=>yh ?_) (fun e1=>?_)⟩
     .exact no
     refine⟨_,rfl,.inl ⟨rfl,_,aW.of hS⟩,_,rfl,St,_,_,rfl,rfl,hS,rfl,lD,_,rfl,_,rfl,r,_,_,_,rfl,rfl,aW.of b1,aB (Dx (by rw[b3.1];exact hy)),_,_,rfl,.inl (aW.of (b3.2 y hy)),_,_,rfl,rfl,_,rfl,?_⟩;refine fZ (fun e2=>no) (fun e2=>hN _ _ ⟨rfl,some y,rfl,fun y' e=>?_⟩);cases e;refine⟨hy,fun z=>e1 (by rw[z];simp),?_⟩;have e2:=mt ie e2;rw[IG,be] at e2;lia
   .intro N hN;have Ud:=O6.trans s6;have hH:=s6 _ _ hH5 Ra;have hS:=s6 _ _ hS5 Jx;have hy:y0<n:=by lia
    have Rd:∀ {Hd},aI p H Hd->bV Hd L r n (bq n ts):=fun sd=>R0.keep hLr fun b o l e=>sd b o e fun z=>hLp (z ▸ l);refine Yg (fun Hd=>aI p H Hd/\bf Hd p/\Hd Hs=some (.lst (NV (homes++[home])))/\Hd St=some (.lst (st.map oV))) (fun Hd=>aI p H Hd/\bf Hd p/\Hd Hs=some (.lst (NV (homes++[home])))/\Hd St=some (.lst (st.map oV))) ?_ (fun Hd ⟨a1,a2,a3,a4⟩=>hN _ _ ⟨y0,hy,rfl,a1,a2,a3,a4⟩) ?_
    .rintro Hd ⟨sd,Oh,hHd,hSd⟩;refine⟨_,rfl,_,_,rfl,rfl,_,rfl,_,rfl,p,n,rfl,by lia,by lia,Oh,fun d3 H7 hd3 s7 Il=>⟨_,_,rfl,rfl,_,rfl,_,_,rfl,rfl,(by show (0:Int)<(n:Int);lia),?_⟩⟩;have ey:((y0:Int)+1+(d3:Int)) % (n:Int)=(((y0+1+d3) % n:Nat):Int):=by simp
     change bv 7 (V.int (((y0:Int)+1+(d3:Int)) % (n:Int))) _ _ _;rw[ey];exact hN _ _ ⟨_,kW _ (by lia),rfl,sd.trans s7,Il,s7 _ _ hHd Ra,s7 _ _ hSd Jx⟩
    .intro Y N' hY hN';refine⟨_,rfl,p,7,rfl,by decide,by decide,wS,fun d3 H7 hd3 s7 Il=>⟨rfl,_,rfl,?_⟩⟩;have k7:=Ud.trans s7;have hS:=s7 _ _ hS Jx;have hH:=s7 _ _ hH Ra;refine fZ (fun e0=>yh (hY _ ⟨k7,Il,hH,hS⟩)) (fun e0=>?_);refine⟨_,rfl,_,rfl,_,rfl,Hs,_,_,_,rfl,rfl,aW.of hH,hgl,rfl,_,rfl,fZ (fun e1=>yh (hY _ ⟨k7,Il,hH,hS⟩)) (fun e1=>?_)⟩;obtain⟨bs,b1,b2,b3⟩:=Rd k7;refine⟨_,rfl,.inl ⟨rfl,_,aW.of hS⟩,_,rfl,St,_,_,rfl,rfl,hS,rfl,lD,_,rfl,_,rfl,r,_,_,_,rfl,rfl,aW.of b1,aB (Dx (by rw[b3.1];exact hy)),_,_,rfl,.inl (aW.of (b3.2 y0 hy)),_,_,rfl,rfl,_,rfl,?_⟩;exact fZ (fun e2=>hY _ ⟨k7,Il,hH,hS⟩) (fun e2=>hN' _ ⟨k7,Il,hH,hS⟩)
  .rintro σ Hc ⟨homes,st,⟨x6,x7,rfl⟩,sc,mW,Lh,vB,sl,SD⟩;refine⟨_,rfl,Hs,_,rfl,.inl ⟨aW.of Lh,fun ta hta=>⟨_,rfl,St,_,rfl,.inl ⟨aW.of (ai hta _ _ vB),fun tb VV=>⟨by show 2<=sizeLine;decide,fun t ht=>?_⟩⟩⟩⟩⟩;have u1:=ai (o:=.tup (NV homes)) hta;have u2:=ai (o:=.tup (st.map oV)) VV;have u3:=ai (o:=.tup [.ref ta,.ref tb]) ht;exact q t ta tb homes st _ (sc.trans (aI.of ((u1.trans u2).trans u3))) (((mW.same u1).same u2).same u3) ae (u3 _ _ (u2 _ _ ae)) (u3 _ _ ae) (by lia) SD
end
abbrev Zc:Stmt:=top 13
abbrev Dz:Stmt:=fA (top 15) 1
abbrev Zd:Stmt:=top 26
abbrev Ze:Stmt:=top 25
abbrev II:Stmt:=top 23
theorem kg:(["letter","house"]:List Str).Nodup:=by decide +kernel
theorem iP:(["ahead","goes","stand","letter"]:List Str).Nodup:=by decide +kernel
theorem Li:(["home"]:List Str).Nodup:=by decide +kernel
noncomputable def dP(n:Nat)(ts:Ts)(i j:Nat):List Nat:=(bq n ts i).filter fun o=>decide (far ts o j<far ts i j)
theorem nbG:(["other","self","home","own"]:List Str).Nodup:=by decide +kernel
def mZ(st:List (Option Nat))(i:Nat):List Nat:=(List.range i).filter fun j=>(st.getD j none).isSome
theorem oA:mZ st (i+1)=mZ st i++if (st.getD i none).isSome then [i] else []:=by
 unfold mZ;rw[jr,gn,dS];rfl
theorem j6:(mZ st i).length<=i:=aX (ix _ _) (by rw[cG];exact aK _)
def Ur:R2:=fun x y H Q=>y=.cB/\Q (.bl (!decide (x=.cB))) H
theorem IJ{st:List (Option Nat)}{i:Nat}{x:V}(h:(st.map oV)[i]?=some x):i<st.length/\x=oV (st.getD i none):=by
 have hi:=(b9.mp h).1;rw[aT] at hi;refine⟨hi,?_⟩;rw[bU,bQ hi] at h;rw[bW,bQ hi];exact(bN h).symm
theorem DA:(!decide (oV o=.cB))=o.isSome:=by cases o <;> simp[oV]
theorem xu{α:Type}{l:List α}{i:Nat}{d:α}(h:i<l.length):l[i]?=some (l.getD i d):=by rw[bW,bQ h];rfl
theorem iZ(h:j∈mZ st i):j<i/\st.getD j none=some ((st.getD j none).getD 0):=by
 obtain⟨a,b⟩:=et.mp h;refine⟨bD.mp a,?_⟩;cases e:st.getD j none with
 |none=>rw[e] at b;cases b
 |some y=>rfl
def ky(st gs:List (Option Nat))(l:Nat)(os:List Nat):Option Nat:=os.find? fun h=>!((List.range st.length).any fun a=>decide (st.getD a none=st.getD l none)&&decide (gs.getD a none=some h))
noncomputable def B8(n:Nat)(ts:Ts)(homes:List Nat)(st gs:List (Option Nat))(l:Nat):List (Option Nat):=gs.set l (ky st gs l (dP n ts ((st.getD l none).getD 0) (homes.getD l 0)++bq n ts ((st.getD l none).getD 0)))
theorem jE{st:List (Option Nat)}{i:Nat}(h:i<st.length):(st.map oV)[i]?=some (oV (st.getD i none)):=by
 rw[bU,bW,bQ h];rfl
theorem Us:decide (oV a=oV b)=decide (a=b):=by
 cases a <;> cases b <;> simp[oV];exact⟨fun h=>du h,fun h=>by rw[h]⟩
theorem Lj:ND (oV a) (oV b)=true:=by cases a <;> cases b <;> rfl
theorem M5{h:Nat}:∀ {xs:List (Option Nat)},CD (.int (h:Int)) (xs.map oV)=xs.any fun o=>decide (o=some h)
 |[]=>rfl
 |o::xs=>by
  have ih:=M5 (h:=h) (xs:=xs);unfold CD at *;rw[fv,jM,jM,ih];cases o with
  |none=>rfl
  |some x=>
   congr 1;show decide ((x:Int)=(h:Int))=_;by_cases e:x=h
   .subst e;simp
   .rw[gw (by lia),gw (by simp[e])]
theorem dw.own(N:dw C H L p n ts):dw C H (fun b=>H b≠none) p n ts:=by
 obtain⟨dx,tl,ol,ds,a,l1,l2,b,c,d⟩:=N.ob;have ne:∀ {b o},H b=some o->H b≠none:=fun e z=>by rw[e] at z;cases z
 have wn:∀ {l r},bV H L l n r->bV H (fun b=>H b≠none) l n r/\H l≠none:=fun ⟨bs,a,b,c⟩=>⟨⟨bs,a,fun x hx=>by
  obtain⟨j,hj,e⟩:=rN hx;have:=c.2 j (by rw[<-c.1];exact hj);rw[bW,bQ hj,kL,e] at this;exact ne this,c⟩,ne a⟩
 obtain⟨t1,zs,t2,t3,t4,t5⟩:=d;exact⟨N.j4,dx,tl,ol,ds,a,(wn b).2,(wn c).2,(wn b).1,(wn c).1,ne t2,zs,t2,t3,fun z hz=>ne (t3 z hz),t5⟩
section
variable {P:Program} {w:World} {K:PySem.W.Frag} {mg:Str->Option Value} {base:Heap}
theorem IK:aR ["self","house","home","own"] ["self","house","home"] (av HD):=⟨rfl,rfl,rfl,by decide +kernel,rfl,by decide +kernel,by decide +kernel⟩
def rC(C:Addr):Sp:=fun vs H Q _=>∃ (L:Addr->Prop) (p:Addr) (n:Nat) (ts:Ts) (i j:Nat),vs=[.ref p,.int i,.int j]/\dw C H L p n ts/\i<n/\j<n/\∀r H',aO H H'->H r=none->H' r=some (.lst (NV (dP n ts i j)))->Q (.ref r) H'
theorem IL(F:ig K "good" "Net.good" HD f fd)(T:NT K mg C)(M:iL P w K mg base bg 5 C "far" ["self","one","other"] (mT C)):
  bA P w K mg base bg 6 f fd ["self","house","home"] (rC C):=by
 obtain⟨fM,fdM,mM,bM,GM⟩:=M.ex;refine F.ok IK (fun vs H Q E h=>?_) (fun eY A outer s H vs Q E hr h=>?_)
 .obtain⟨L,p,n,ts,i,j,rfl,_⟩:=h;rfl
 .obtain⟨L,p,n,ts,i,j,rfl,N,hi,hj,k2⟩:=h;obtain⟨dx,tl,ol,ds,h1,_,_,RO,R,_⟩:=N.ob;have fi:=N.j4;have n2:=fi.n2;refine'⟨_,aj (aU (i:=3) IK.nd rfl (Or.inr rfl) (dG (pv 0) T.cl mM GM hr bM .nil aN (aa (pv 1) (aa (pv 2) ag))))
   (au (a_ ?c)),?_⟩
  case c=>
   refine' cL (g:=bv 0) (tt:=sM (kr (zM fun i j=>.bl (decide (i<j))) (kr (yc K) (kr (yc K) (JP K (a9 1) "distances") (a9 0)) (a9 2)) (a9 3))) (te:=a9 0) (NB:=["other","self","home","own"]) (src:=[none,some 0,some 2,some 3]) (bp (by kernel_rfl)) rfl (bT (aV aL (jX (pv 0) rfl) (pv 1) (fun _ _=>rfl))) ?g ?t ?e;case g=>exact fun cl C s₃ H₃ fp=>aA (i:=0) nbG rfl (Or.inl rfl) (Or.inr rfl)
   case t=>exact fun cl C s₃ H₃ fp=>gU (aQ lW (aV aL (aV aL (jX (pv 1) rfl) (pv 0) (fun _ _=>rfl)) (pv 2) (fun _ _=>rfl)) (pv 3) (a8 _))
   case e=>exact fun cl C s₃ H₃ fp=>pv 0
  refine⟨_,rfl,p,dx,_,rfl,h1,OE _ _ _ _,_,rfl,_,rfl,L,p,n,ts,i,j,rfl,N,hi,hj,?_⟩;obtain⟨bs,b,r1,r2,r3,_⟩:=RO.row hi;refine⟨_,rfl,p,C,dx,_,_,rfl,h1,T.cl,T.nO,Di _ _ _ _,_,rfl,ol,_,_,_,rfl,rfl,aW.of r1,aB r2,b,rfl,⟨_,aW.of r3⟩,fun D hD=>?_⟩;have nb:b≠D:=am r3 hD;refine eZ (xs:=NV (bq n ts i)) (fun m ys σ H2=>(∃a,σ=[a,some (.ref p),some (.int (j:Int)),some (.int ((far ts i j:Nat):Int))])/\ys=NV (((bq n ts i).take m).filter fun o=>decide (far ts o j<far ts i j))/\H2=upd H D (.lst ys)) ⟨⟨_,rfl⟩,by simp,rfl⟩ (fun m ys σ H2 _ ⟨_,_,e⟩=>by rw[e];exact aW.of (by rw[ap nb];exact r3)) ?_ ?_
  .rintro m x ys σ H2 Kt Kf hx ⟨⟨a,rfl⟩,ey,rfl⟩ kt kf;obtain⟨v,hv,rfl⟩:=qy hx;have OM:v∈bq n ts i:=cU hv;have HM:v<n:=rh fi hi OM;have sm:aO H (upd H D (.lst ys)):=ai hD;obtain⟨bs2,b2,q1,q2,q3,_⟩:=R.row HM;have hg:(NV ((List.range n).map (far ts v)))[j]?=some (.int (far ts v j:Nat)):=by
    rw[bU,bU,fQ hj];rfl
   have tk:(bq n ts i).take (m+1)=(bq n ts i).take m++[v]:=by rw[gX,hv];rfl
   have hm:m<(bq n ts i).length:=(b9.mp hv).1;refine⟨_,rfl,p,C,dx,_,_,rfl,sm _ _ h1,T.cl,T.nD,Dj _ _ _ _,_,rfl,ds,_,_,_,rfl,rfl,aW.of (sm _ _ q1),aB q2,_,rfl,b2,_,_,_,rfl,rfl,aW.of (sm _ _ q3),aB hg,_,rfl,_,_,rfl,rfl,_,rfl,?_⟩;refine fZ (fun e=>?_) (fun e=>?_)
   .refine⟨_,rfl,kt _ _ _ ae ?_ ⟨⟨_,rfl⟩,?_,by rw[lI]⟩⟩
    .rw[ey,be];refine eK (ix _ _) (eK (vU _ _) (bi (show m<33 from ?_) (by decide)));have:(bq n ts i).length<=n:=aX (ix _ _) (by simp);lia
    .have:decide (far ts v j<far ts i j)=true:=by simp at e |-;lia
     rw[ey,tk,gn,iX];simp[dS,this]
   .refine kf _ _ ⟨⟨_,rfl⟩,?_,rfl⟩;have:decide (far ts v j<far ts i j)=false:=by simp at e |-;lia
    rw[ey,tk,gn];simp[dS,this]
  .rintro ys σ H2 ⟨_,ey,rfl⟩;rw[be,j9] at ey;refine k2 D _ (ai hD) hD ?_;rw[ae,ey];rfl
theorem Zf:aR ["stand"] ["stand"] (av Zc):=⟨rfl,rfl,rfl,by decide +kernel,rfl,by decide +kernel,by decide +kernel⟩
def B9:Sp:=fun vs H Q _=>∃ (sa:Addr) (st:List (Option Nat)),vs=[.ref sa]/\H sa=some (.tup (st.map oV))/\st.length<=16/\∀ (r:Addr) (H':Hp),aO H H'->H r=none->H' r=some (.lst (NV (mZ st st.length)))->Q (.ref r) H'
theorem Ut{f:Addr}{fd:FuncData}(F:ig K "under_way" "under_way" Zc f fd)(hE:mg "enumerate"=none):bA P w K mg base bg 1 f fd ["stand"] B9:=by
 refine F.ok Zf (fun vs H Q E h=>?_) (fun eY A outer s H vs Q E hr h=>?_)
 .obtain⟨sa,st,rfl,_⟩:=h;rfl
 .obtain⟨sa,st,rfl,hS,hl,q⟩:=h;refine'⟨_,(au (a_ ?c1)),?_⟩;case c1=>
   refine' cL (g:=(uq K 2 (fW (bv 0) (fW (bv 1) um)))) (tt:=(sM (kr Ur (a9 1) (tC .cB)))) (te:=(a9 0)) (NB:=["letter","house"]) (src:=[none,none]) (bp (by kernel_rfl)) rfl (tE rfl hE (aa (pv 0) ag)) ?g ?t ?e;case g=>exact fun cl C s₃ H₃ fp=>(dA (n:=2) rfl (aG (aA (i:=0) kg rfl (Or.inl rfl) (Or.inr rfl)) (aG (aA (i:=1) kg rfl (Or.inl rfl) (Or.inr rfl)) cr)))
   case t=>exact fun cl C s₃ H₃ fp=>gU (aQ jW (pv 1) eN (a8 _))
   case e=>exact fun cl C s₃ H₃ fp=>(pv 0)
  refine⟨_,rfl,sa,_,rfl,bP.of hS,fun D hD=>?_⟩;refine Bj (K:=K) (a:=sa) (xs:=st.map oV) (fun i ys σ H3=>(∃u v,σ=[u,v])/\ys=NV (mZ st i)/\aO H H3/\H3 D=some (.lst ys)) ⟨⟨_,_,rfl⟩,rfl,ai hD,ae⟩ (fun i ys σ H3 _ z=>bP.of (z.2.2.1 _ _ hS)) ?_ ?_
  .rintro i x t ys σ H3 Kt Kf hx ⟨⟨u,v,rfl⟩,rfl,sm,on⟩ ht kt kf;obtain⟨hi,rfl⟩:=IJ hx;have aE:=ai (o:=.tup [.int (i:Int),oV (st.getD i none)]) ht;refine⟨_,_,rfl,bP.of ae,rfl,_,_,rfl,_,_,rfl,rfl,?_⟩;refine⟨_,rfl,rfl,_,rfl,?_⟩;rw[DA];refine fZ (fun e=>?_) (fun e=>?_)
   .refine⟨_,rfl,kt _ _ _ (aE _ _ on) (by rw[be];exact eK j6 (bi (show i<17 by lia) (by decide))) ⟨⟨_,_,rfl⟩,?_,br (sm.trans aE) hD,ae⟩⟩;rw[oA,ao e,iX]
   .refine kf _ _ ⟨⟨_,_,rfl⟩,?_,sm.trans aE,aE _ _ on⟩;rw[oA,ak e,ja]
  .rintro ys σ H3 ⟨_,rfl,sm,on⟩;rw[aT] at on;exact q D H3 sm hD on
theorem Ps:aR ["self","net","homes","stand","beat"] ["self","net","homes","stand","beat"] (av Dz):=⟨rfl,rfl,rfl,by decide +kernel,rfl,by decide +kernel,by decide +kernel⟩
def uf:Sp:=fun vs H Q _=>∃ (x0 x1 x2 x4:V) (sa:Addr) (st:List (Option Nat)),vs=[x0,x1,x2,.ref sa,x4]/\H sa=some (.tup (st.map oV))/\st.length<=16/\∀ (r:Addr) (H':Hp),aO H H'->H r=none->H' r=some (.lst (NV (mZ st st.length)))->Q (.ref r) H'
theorem DB(F:ig K "order" "Rule.order" Dz f fd)(UW:dL P w K mg base bg 1 "under_way" ["stand"] B9):bA P w K mg base bg 2 f fd ["self","net","homes","stand","beat"] uf:=by
 refine F.ok Ps (fun vs H Q E h=>?_) (fun eY A outer s H vs Q E hr h=>?_)
 .obtain⟨x0,x1,x2,x4,sa,st,rfl,_⟩:=h;rfl
 .obtain⟨x0,x1,x2,x4,sa,st,rfl,hS,hl,q⟩:=h;refine⟨_,(au (a_ (aH UW hr aN (aa (pv 3) ag)))),?_⟩;exact⟨_,rfl,sa,st,rfl,hS,hl,q⟩
theorem Pu:aR ["others","stand","goes","letter","taken","house"] ["others","stand","goes","letter"] (av Zd):=⟨rfl,rfl,rfl,by decide +kernel,rfl,by decide +kernel,by decide +kernel⟩
def Lk:Sp:=fun vs H Q _=>∃ (oa sa ga:Addr) (os:List Nat) (st gs:List (Option Nat)) (l:Nat),vs=[.ref oa,.ref sa,.ref ga,.int l]/\H oa=some (.lst (NV os))/\H sa=some (.tup (st.map oV))/\H ga=some (.lst (gs.map oV))/\gs.length=st.length/\st.length<=16/\l<st.length/\∀H',aO H H'->Q (oV (ky st gs l os)) H'
theorem Uu{f:Addr}{fd:FuncData}(F:ig K "first_free" "first_free" Zd f fd)(B:Bl mg):bA P w K mg base bg 1 f fd ["others","stand","goes","letter"] Lk:=by
 refine F.ok Pu (fun vs H Q E h=>?_) (fun eY A outer s H vs Q E hr h=>?_)
 .obtain⟨oa,sa,ga,os,st,gs,l,rfl,_⟩:=h;rfl
 .obtain⟨oa,sa,ga,os,st,gs,l,rfl,hO,hS,hG,gl,sl,hl,q⟩:=h;refine'⟨_,(aj (eQ (i:=4) (g:=(bv 0)) (tt:=(sM (kr (rEq) (kr (yd K) (a9 2) (a9 0)) (kr (yd K) (a9 2) (a9 3))))) (te:=(kr (yc K) (a9 1) (a9 0))) (NB:=["ahead","goes","stand","letter"]) (src:=[none,some 2,some 1,some 3]) (bp (by kernel_rfl)) rfl (bz rfl B.range (aa (aD aM (by rfl) B.len dW (aa (pv 1) ag)) ag)) ?g1 ?t1 ?e1 Pu.nd rfl rfl rfl)
   (aj (cP dU rfl (bT (pv 0)) (aA (i:=5) Pu.nd rfl (Or.inl rfl))
    (au (cC (aQ nI (pv 5) (pv 4) rfl) (au (a_ (pv 5))) bh)))
   (au (a_ eN)))),?_⟩
  case g1=>exact fun cl C s₃ H₃ fp=>(aA (i:=0) iP rfl (Or.inl rfl) (Or.inr rfl))
  case t1=>exact fun cl C s₃ H₃ fp=>gU (aQ iF (aV eE (pv 2) (pv 0) (fun _ _=>rfl)) (aV eE (pv 2) (pv 3) (fun _ _=>rfl)) (a8 _))
  case e1=>exact fun cl C s₃ H₃ fp=>(aV aL (pv 1) (pv 0) (fun _ _=>rfl))
  refine⟨_,rfl,sa,_,rfl,.inr (bP.of hS),(((st.map oV).length:Nat):Int),rfl,by lia,by rw[aT];lia,fun D hD=>?_⟩;rw[gu,aT];refine eR (fun i ys σ H2=>(∃x,σ=[x,some (.ref ga),some (.ref sa),some (.int (l:Int))])/\aO H H2/\H2 D=some (.lst ys)/\ys=(((List.range i).filter fun a=>decide (st.getD a none=st.getD l none)).map fun a=>gs.getD a none).map oV) ⟨⟨_,rfl⟩,ai hD,ae,rfl⟩ ?_ ?_
  .rintro i ys σ H2 Kt Kf hi ⟨⟨x,rfl⟩,sm,jH,rfl⟩ kt kf;rw[hZ];refine⟨_,rfl,_,rfl,sa,_,_,_,rfl,rfl,bP.of (sm _ _ hS),aB (jE hi),_,rfl,_,rfl,sa,_,_,_,rfl,rfl,bP.of (sm _ _ hS),aB (jE hl),Lj,_,rfl,?_⟩;rw[Us];refine fZ (fun c=>?_) (fun c=>?_)
   .refine⟨_,rfl,_,rfl,ga,_,_,_,rfl,rfl,aW.of (sm _ _ hG),aB (jE (by lia)),?_⟩;refine kt _ _ _ jH ?_ ⟨⟨_,rfl⟩,br sm hD,ae,?_⟩
    .rw[aT,aT];refine eK (ix _ _) ?_;rw[cG];exact bi (show i<17 by lia) (by decide)
    .rw[jr,gn,cW,cW,dS,ao c];rfl
   .refine kf _ _ ⟨⟨_,rfl⟩,sm,jH,?_⟩;rw[jr,gn,dS,ak c,List.filter_nil,ja]
  rintro ys σ H2 ⟨_,sm,jH,rfl⟩;have ein:∀h:Nat,CD (.int (h:Int)) ((((List.range st.length).filter fun a=>decide (st.getD a none=st.getD l none)).map fun a=>gs.getD a none).map oV)=(List.range st.length).any fun a=>decide (st.getD a none=st.getD l none)&&decide (gs.getD a none=some h):=fun h=>by
   rw[M5,List.any_map,List.any_filter];rfl
  generalize hw:(((List.range st.length).filter fun a=>decide (st.getD a none=st.getD l none)).map fun a=>gs.getD a none)=ws at *;refine⟨_,rfl,oa,rfl,⟨_,aW.of (sm _ _ hO)⟩,fY (K:=K) (xs:=NV os) (fun j σ H3=>(∃x,σ=[some (.ref oa),some (.ref sa),some (.ref ga),some (.int (l:Int)),some (.ref D),x])/\H3=H2/\ky st gs l os=ky st gs l (os.drop j)) ⟨⟨_,rfl⟩,rfl,rfl⟩ (fun j σ H3 _ z=>by rw[z.2.1];exact aW.of (sm _ _ hO)) ?_ ?_⟩
  .rintro j x σ H3 hx ⟨⟨x5,rfl⟩,rfl,ef⟩;obtain⟨h,hv,rfl⟩:=qy hx;have hj:j<os.length:=(b9.mp hv).1;have ed:os.drop j=h::os.drop (j+1):=by
    rw[oJ hj];congr 1;exact(b9.mp hv).2
   refine⟨_,rfl,_,rfl,D,_,rfl,.inl (aW.of jH),rfl,lD,_,rfl,?_⟩;have ef2:ky st gs l (h::os.drop (j+1))=if (!CD (.int (h:Int)) (ws.map oV))=true then some h else ky st gs l (os.drop (j+1)):=by
    rw[ein];unfold ky;rw[kO];cases (!((List.range st.length).any fun a=>decide (st.getD a none=st.getD l none)&&decide (gs.getD a none=some h))) <;> rfl
   rw[ed,ef2] at ef;refine fZ (fun c=>?_) (fun c=>?_)
   .have c:(!CD (.int (h:Int)) (ws.map oV))=true:=c;rw[ao c] at ef;refine⟨_,rfl,?_⟩;have:=q H3 sm;rw[ef] at this;exact this
   .have c:¬ (!CD (.int (h:Int)) (ws.map oV))=true:=c;rw[ak c] at ef;exact⟨⟨_,rfl⟩,rfl,ef⟩
  .rintro σ H3 ⟨⟨x5,rfl⟩,rfl,ef⟩;have:=q H3 sm;rw[ef,be,List.drop_length] at this;exact this
end
structure im(n:Nat)(homes:List Nat)(st:List (Option Nat)):Prop where
 le:st.length<=16
 len:homes.length=st.length
 hs:∀x∈homes,x<n
 ss:∀y,some y∈st->y<n
theorem im.at(S:im n homes st)(h:l∈mZ st st.length):l<st.length/\∃y,st.getD l none=some y/\y<n/\homes.getD l 0<n:=by
 obtain⟨a,b⟩:=iZ h;refine⟨a,_,b,S.ss _ ?_,S.hs _ ?_⟩
 .rw[<-b,bW,bQ a];exact gv _
 .rw[cE (by rw[S.len];exact a)];exact gv _
theorem Uv(n:Int)(tl ol ds:Addr):(p_ n tl ol ds).lookup ("good":Str)=none:=rA n tl ol ds (by decide +kernel) (by decide +kernel) (by decide +kernel) (by decide +kernel)
theorem Zg(n:Int)(tl ol ds:Addr):(p_ n tl ol ds).lookup ("out":Str)=none:=rA n tl ol ds (by decide +kernel) (by decide +kernel) (by decide +kernel) (by decide +kernel)
theorem rD:(bq n ts h).length<=n:=aX (ix _ _) (by simp)
theorem dw.Fb(N:dw C H L p n ts):∃dx fs,H p=some (.ins C dx fs)/\fs.lookup ("good":Str)=none/\fs.lookup ("out":Str)=none:=by
 obtain⟨dx,tl,ol,ds,a,_⟩:=N.ob;exact⟨dx,_,a,Uv _ _ _ _,Zg _ _ _ _⟩
abbrev IM:Stmt:=top 51
theorem dw.weak(N:dw C H L p n ts)(k:∀b,L b->L' b):dw C H L' p n ts:=by
 obtain⟨F',dx',tl,ol,ds,q1,q2,q3,⟨b1,c1,d1,e1⟩,⟨b2,c2,d2,e2⟩,⟨a3,zs,b3,c3,d3,e3⟩⟩:=N;exact⟨F',dx',tl,ol,ds,q1,k _ q2,k _ q3,⟨b1,c1,fun b hb=>k b (d1 b hb),e1⟩,⟨b2,c2,fun b hb=>k b (d2 b hb),e2⟩,⟨k _ a3,zs,b3,c3,fun z hz=>k _ (d3 z hz),e3⟩⟩
theorem nh.lF(t:nh Pt H)(s:aI p H H')(hp:bf H p):nh Pt H':=by
 obtain⟨a,b,e,_⟩:=hp;rcases t with z|⟨c,z,y⟩
 .exact .inl (s _ _ z (by rintro rfl;rw[z] at e;cases e))
 .exact .inr ⟨c,s _ _ z (by rintro rfl;rw[z] at e;cases e),s _ _ y (by rintro rfl;rw[y] at e;cases e)⟩
theorem bV.weak(R:bV H L l n r)(k:∀b,L b->L' b):bV H L' l n r:=let ⟨bs,a,b,c⟩:=R;⟨bs,a,fun x hx=>k x (b x hx),c⟩
def DC(Pt p:Addr)(H H':Hp):Prop:=∀b o,H b=some o->b≠Pt->b≠p->H' b=some o
structure qe(C:Addr)(H0 H:Hp)(t px oa fa ha sa:Addr)(n:Nat)(ts:Ts)(homes:List Nat)(st:List (Option Nat)):Prop where
 tu:H t=some (.tup [.ref px,.ref oa,.ref fa,.ref ha,.ref sa])
 net:dw C H (fun b=>H0 b=none) px n ts
 px:H0 px=none
 out:bV H (fun b=>H0 b=none) oa n (bq n ts)
 oa:H0 oa=none
 far:bV H (fun b=>H0 b=none) fa n (fun h=>(List.range n).map (far ts h))
 fa:H0 fa=none
 ha:H ha=some (.tup (NV homes))
 sa:H sa=some (.tup (st.map oV))
 le:st.length<=16
 sd:lE n ts homes st
section
variable {P:Program} {w:World} {K:PySem.W.Frag} {mg:Str->Option Value} {base:Heap}
theorem qf:aR ["_law_pot_here","_law_many","_law_ties","_law_outs_here","_law_homes","_law_stand"] ["_law_pot_here"] (av IM):=⟨rfl,rfl,rfl,by decide +kernel,rfl,by decide +kernel,by decide +kernel⟩
def B_(C Pt:Addr):Sp:=fun vs H Q _=>∃p:Addr,vs=[.ref p]/\bf H p/\nh Pt H/\
 ∀ (t px oa fa ha sa:Addr) (n:Nat) (ts:Ts) (homes:List Nat) (st:List (Option Nat)) (H':Hp),DC Pt p H H'->bf H' p->nh Pt H'->qe C H H' t px oa fa ha sa n ts homes st->Q (.ref t) H'
theorem Ll(F:ig K "_law_case" "_law_case" IM f fd)(T:NT K mg C)(M:Mk K C fI)(bI:j_ K fdI ["self","many","ties"] [])(GI:bA P w K mg base bg 7 fI fdI ["self","many","ties"] (BP C Pt))(NE:dL P w K mg base bg 3 "_law_net" ["_law_pot_here"] IE)(OU:dL P w K mg base bg 1 "_law_outs" ["_law_many","_law_ties"] xr)(ST:dL P w K mg base bg 2 "_law_start" ["_law_pot_here","_law_outs_here"] xt)(FA:dL P w K mg base bg 1 "_law_far" ["_law_outs_here"] B5):
  bA P w K mg base bg 9 f fd ["_law_pot_here"] (B_ C Pt):=by
 refine F.ok qf (fun vs H Q E h=>?_) (fun eY A outer s H vs Q E hr h=>?_)
 .obtain⟨p,rfl,_⟩:=h;rfl
 .obtain⟨p,rfl,hp,tb,q⟩:=h;have h1:cg 1 _:=hr.mono (by decide);have h2:cg 2 _:=hr.mono (by decide);have h3:cg 3 _:=hr.mono (by decide);refine⟨_,(aj (dM (aH NE h3 aN (aa (pv 0) ag)) (dA (n:=2) rfl (aG (aA (i:=1) qf.nd rfl (Or.inl rfl)) (aG (aA (i:=2) qf.nd rfl (Or.inl rfl)) cr))))
   (aj (aU (i:=3) qf.nd rfl (Or.inl rfl) (aH OU h1 aN (aa (pv 1) (aa (pv 2) ag))))
   (aj (dM (aH ST h2 aN (aa (pv 0) (aa (pv 3) ag))) (dA (n:=2) rfl (aG (aA (i:=4) qf.nd rfl (Or.inl rfl)) (aG (aA (i:=5) qf.nd rfl (Or.inl rfl)) cr))))
   (au (a_ (cQ (aa (Cz M GI hr rfl T.Ju bI .nil aN (aa (pv 1) (aa (pv 2) ag))) (aa (pv 3) (aa (aH FA h1 aN (aa (pv 3) ag)) (aa (pv 4) (aa (pv 5) ag))))))))))),?_⟩
  refine⟨_,rfl,p,rfl,hp,fun t0 r n zs H1 s1 ng ht0 YI Fc Jv M4 F1=>⟨t0,_,rfl,bP.of YI,rfl,_,_,rfl,_,_,rfl,rfl,?_⟩⟩;refine⟨_,rfl,_,rfl,n,r,zs,rfl,Jv,M4,F1,fun oa H2 s2 Wt R2=>?_⟩;have Zh:∀ {b:Addr},H1 b=none->H b=none:=fun h=>s1.free ng.full h;refine⟨_,rfl,_,rfl,p,oa,n,zp zs,_,rfl,F1.n1,F1.n2,ng.same s2,R2,Wt,fun z=>ng.full z,fun t3 ha sa homes st H3 s3 ni ht3 Zi Wu sl SD=>⟨t3,_,rfl,bP.of ht3,rfl,_,_,rfl,_,_,rfl,rfl,?_⟩⟩;have R3:=R2.keep Wt fun b o l e=>s3 b o e fun z=>ng.full (z ▸ l);have nrp:r≠p:=hp.ne Fc;have zz:=s3 _ _ (s2 _ _ Jv) nrp;have KS:=(M4.same s2).qA s3 (ng.same s2);have Rb:aI p H H3:=(s1.trans (aI.of s2)).trans s3;have t3':=tb.lF Rb hp;refine⟨_,rfl,_,rfl,fun px dx nx ndx Wv=>?_⟩;have sN:aO H3 (upd (upd H3 dx (.own px)) px (.ins C dx [])):=(ai (o:=.own px) ndx).trans (ai (D:=px) (o:=.ins C dx []) (by rw[ap Wv.symm];exact nx));refine⟨px,dx,n,r,zs,rfl,ae,⟨F1,sN _ _ zz,KS.same sN⟩,t3'.same sN,fun H5 N5 t5 s5=>⟨rfl,?_⟩⟩;have Uw:∀b o,H3 b=some o->(∀ps,o≠.iR ps)->H5 b=some o:=fun b o e nt=>s5 b o (sN _ _ e) (am e nx) ((t3'.same sN).not (sN _ _ e) nt);have Jo:∀ {b:Addr},H3 b=none->H b=none:=fun h=>Rb.free ni.full h;have Zj:∀ {b:Addr},(upd (upd H3 dx (.own px)) px (.ins C dx [])) b=none->H b=none:=fun h=>Jo (sN.free h);have nl:∀ {xs:List V} (ps),HO.lst xs≠.iR ps:=fun ps z=>by cases z
  have nt:∀ {xs:List V} (ps),HO.tup xs≠.iR ps:=fun ps z=>by cases z
  obtain⟨bs,b1,b2,b3⟩:=R3;have R5:bV H5 (fun a=>H1 a=none) oa n (bq n (zp zs)):=⟨bs,Uw _ _ b1 nl,b2,b3.mono fun j hj e=>Uw _ _ e nl⟩
  have ui:bf H5 p:=by obtain⟨x,y,e,r⟩:=ni;exact⟨x,y,Uw _ _ e nl,r⟩
  have kp:DC Pt p H H5:=fun b o e n m=>s5 b o (sN _ _ (Rb _ _ e m)) (am (Rb _ _ e m) nx) n;refine⟨_,rfl,_,rfl,_,oa,n,zp zs,rfl,F1,R5,fun fa H6 s6 Rc R6=>⟨_,rfl,_,rfl,by show 5<=sizeLine;decide,fun t ht=>?_⟩⟩;have sT:=ai (o:=.tup [.ref px,.ref oa,.ref fa,.ref ha,.ref sa]) ht;have Pw:=s6.trans sT;have NA:∀ {b:Addr},H5 b=none->H b=none:=fun {b} h=>by
   cases e:H b with
   |none=>rfl
   |some o=>
    by_cases m:b=p
    .subst m;exact absurd h ui.full
    .by_cases z:b=Pt
     .subst z;rcases t5 with y|⟨c,y,_⟩ <;> (rw[h] at y;cases y)
     .rw[s5 b o (sN _ _ (Rb _ _ e m)) (am (Rb _ _ e m) nx) z] at h;cases h
  refine q t px oa fa ha sa n (zp zs) homes st _ (fun b o e n m=>Pw _ _ (kp b o e n m)) (ui.same Pw) (t5.same Pw) ⟨ae,(N5.same Pw).weak fun b hb=>Zj hb,Jo nx,(R5.weak fun b hb=>Zh hb).keep (Zh Wt) (fun b o _ e=>Pw _ _ e),Zh Wt,(R6.weak fun b hb=>NA hb).keep (NA Rc) (fun b o _ e=>sT _ _ e),NA Rc,Pw _ _ (Uw _ _ Zi nt),Pw _ _ (Uw _ _ Wu nt),sl,SD⟩
end
theorem lE.let(S:lE n ts homes st)(le:st.length<=16):im n homes st:=⟨le,S.len,S.hs,fun y hy=>by obtain⟨i,hi⟩:=vQ.mp hy;exact(S.ss i y hi).1⟩
def Re(o:HO):Prop:=∀ps,o≠.iR ps
theorem dw.Ww(N:dw C H L p n ts):dw C H (fun b=>L b/\∃o,H b=some o/\Re o) p n ts:=by
 obtain⟨dx,tl,ol,ds,a,l1,l2,b,c,d⟩:=N.ob;have ne:∀ {b xs},L b->H b=some (.lst xs)->L b/\∃o,H b=some o/\Re o:=fun l e=>⟨l,_,e,fun ps z=>by cases z⟩
 have ne':∀ {b xs},L b->H b=some (.tup xs)->L b/\∃o,H b=some o/\Re o:=fun l e=>⟨l,_,e,fun ps z=>by cases z⟩
 have wn:∀ {l r},L l->bV H L l n r->bV H (fun b=>L b/\∃o,H b=some o/\Re o) l n r/\(L l/\∃o,H l=some o/\Re o):=fun hl ⟨bs,a,b,c⟩=>⟨⟨bs,a,fun x hx=>by
  obtain⟨j,hj,e⟩:=rN hx;have:=c.2 j (by rw[<-c.1];exact hj);rw[bW,bQ hj,kL,e] at this;exact ne (b x hx) this,c⟩,ne hl a⟩
 obtain⟨t1,zs,t2,t3,t4,t5⟩:=d;exact⟨N.j4,dx,tl,ol,ds,a,(wn l1 b).2,(wn l2 c).2,(wn l1 b).1,(wn l2 c).1,ne t1 t2,zs,t2,t3,fun z hz=>ne' (t4 z hz) (t3 z hz),t5⟩
theorem _root_.L2.dt.not(t:dt lp q Pt H)(h:H b=some o)(n:∀ps,o≠.iR ps):b≠Pt:=by
 rintro rfl;rcases t with z|⟨c,z,_⟩ <;> · rw[h] at z;exact n _ (bN z)
theorem _root_.L2.dt.same(t:dt lp q Pt H)(e:aO H H'):dt lp q Pt H':=by
 rcases t with z|⟨c,z,y⟩
 .exact .inl (e _ _ z)
 .exact .inr ⟨c,e _ _ z,e _ _ y⟩
def xv(st:Stmt)(i:Nat):Expr:=match (bZ st).getD i (.Pass ⟨0,0,0,0⟩) with
 |.Return (some (.Call _ _ (k::_) _)) _=>k.value
 |_=>.Name "x" ⟨0,0,0,0⟩
def Wx:Expr->Arguments
 |.Lambda a _ _ _=>a
 |_=>{ posonlyargs:=[],args:=[],vararg:=none,kwonlyargs:=[],kw_defaults:=[],kwarg:=none,defaults:=[] }
def M6:Expr->Expr
 |.Lambda _ b _ _=>b
 |e=>e
def M7:Expr->Scope
 |.Lambda _ _ s _=>s
 |_=>{ kind:=.function,names:=[],isGenerator:=false,isCoroutine:=false }
def Wy:Expr->Pos
 |.Lambda _ _ _ p=>p
 |_=>⟨0,0,0,0⟩
theorem cg.lam(r:cg (k+3) A)(env:Env):cg k (A.in1.in1.deeper env):=r.in1.in1.deeper env
theorem lR:(mZ st i).Pairwise (·<·):=Ac _ List.pairwise_lt_range
noncomputable def i6(ts:Ts)(homes:List Nat)(st:List (Option Nat))(l:Nat):Int:=((far ts ((st.getD l none).getD 0) (homes.getD l 0):Nat):Int)
theorem oB(s1:aO H H1)(t2:dt lp q PN H2)(fP:∀b o,H1 b=some o->b≠PN->H2 b=some o)(s3:aO H2 H3)(zz:H3 r=none):H r=none:=by
 have h2:H2 r=none:=s3.free zz;cases z:H r with
 |none=>rfl
 |some o=>
  by_cases e:r=PN
  .subst e;rcases t2 with q|⟨_,q,_⟩ <;> (rw[h2] at q;cases q)
  .rw[fP r o (s1 _ _ z) e] at h2;cases h2
def xw(CR:Addr)(H:Hp)(rx:Addr)(ranks:List Int):Prop:=∃rd ra,H rx=some (.ins CR rd [("ranks",.ref ra)])/\H ra=some (.tup (ranks.map V.int))
theorem xw.same{CR:Addr}{H H':Hp}{rx:Addr}{ranks:List Int}(h:xw CR H rx ranks)(s:aO H H'):xw CR H' rx ranks:=let ⟨rd,ra,a,b⟩:=h;⟨rd,ra,s _ _ a,s _ _ b⟩
structure Wz(K:PySem.W.Frag)(mg:Str->Option Value)(CR:Addr):Prop where
 cl:Fm K CR
 nR:iG K CR "ranks"
 Ju:mg "Ranked"=some (.ref CR)
theorem Ux:([("ranks",v)]:List (Str×V)).lookup ("check_letters":Str)=none:=by
 rw[fT];rw[show (("check_letters":Str)==("ranks":Str))=false by decide +kernel];rfl
theorem M8:([("ranks",v)]:List (Str×V)).lookup ("ranks":Str)=some v:=by
 rw[fT];rw[show (("ranks":Str)==("ranks":Str))=true by decide +kernel]
abbrev xx:Stmt:=fA (top 21) 0
abbrev IN:Stmt:=fA (top 21) 1
theorem Lm:(["rank"]:List Str).Nodup:=by decide +kernel
abbrev vD:Stmt:=fA (top 18) 0
def Rf:Expr:=xv vD 0
def Zk:Str:=("Nearest.order":Str)++".<locals>."++"<lambda>"
abbrev xy(PN:Addr)(H:Hp):Prop:=dt (Wy Rf) Zk PN H
abbrev vE:Stmt:=fA (top 19) 0
def Rg:Expr:=xv vE 0
def Zl:Str:=("Farthest.order":Str)++".<locals>."++"<lambda>"
abbrev xz(PN:Addr)(H:Hp):Prop:=dt (Wy Rg) Zl PN H
abbrev vF:Stmt:=fA (top 20) 0
def Rh:Expr:=xv vF 0
def Zm:Str:=("Turns.order":Str)++".<locals>."++"<lambda>"
abbrev xA(PN:Addr)(H:Hp):Prop:=dt (Wy Rh) Zm PN H
abbrev vG:Stmt:=fA (top 21) 2
def Ri:Expr:=xv vG 1
def Zn:Str:=("Ranked.order":Str)++".<locals>."++"<lambda>"
abbrev xB(PN:Addr)(H:Hp):Prop:=dt (Wy Ri) Zn PN H
section
variable {P:Program} {w:World} {K:PySem.W.Frag} {mg:Str->Option Value} {base:Heap}
theorem Px:aR ["self","net","homes","stand","beat"] ["self","net","homes","stand","beat"] (av vD):=⟨rfl,rfl,rfl,by decide +kernel,rfl,by decide +kernel,by decide +kernel⟩
def Ca(C PN:Addr):Sp:=fun vs H Q _=>∃ (L:Addr->Prop) (x0 x4:V) (px ha sa:Addr) (n:Nat) (ts:Ts) (homes:List Nat) (st:List (Option Nat)),vs=[x0,.ref px,.ref ha,.ref sa,x4]/\dw C H L px n ts/\H ha=some (.tup (NV homes))/\H sa=some (.tup (st.map oV))/\im n homes st/\xy PN H/\
 ∀ (r:Addr) (H':Hp) (out:List Nat),xy PN H'->lw PN H H'->H r=none->out.Perm (mZ st st.length)->out.Pairwise (xM (i6 ts homes st))->H' r=some (.lst (NV out))->Q (.ref r) H'
theorem Uy(F:qG K "order" "Nearest.order" vD f fd c)(B:Bl mg)(kb:K.In base)(hb:pU mg base)(hc:PySem.W.codeHdIn K c PN=true)(T:NT K mg C)(MF:iL P w K mg base bg 5 C "far" ["self","one","other"] (mT C))(UW:dL P w K mg base bg 1 "under_way" ["stand"] B9):
  bA P w K mg base bg 9 f fd ["self","net","homes","stand","beat"] (Ca C PN):=by
 obtain⟨fF,fdF,mF,bF,GF⟩:=MF.ex;refine F.ok Px (fun vs H Q E h=>?_) (fun A outer s H vs Q E hr h=>?_)
 .obtain⟨L,x0,x4,px,ha,sa,n,ts,homes,st,rfl,_⟩:=h;rfl
 .obtain⟨L,x0,x4,px,ha,sa,n,ts,homes,st,rfl,N,hH,hS,LO,tb,q⟩:=h;have h1:cg 1 _:=hr.mono (by decide);have LF:yT (lc bg P w K mg base ["self","net","homes","stand","beat"] "Nearest.order" (av vD) f (.ref c) A outer s H E).zL ["letter","net","stand","homes"] [none,some 1,some 3,some 2] (M7 Rf) Zk (Wx Rf) (M6 Rf) "letter":=
   ⟨bp (by kernel_rfl),fun _ _ _ _ _=>rfl,rfl,rfl,rfl,by decide +kernel,rfl,rfl⟩
  have PB:∀f' c' cX s' H',PE (qw (lc bg P w K mg base ["self","net","homes","stand","beat"] "Nearest.order" (av vD) f (.ref c) A outer s H E).zL ["letter","net","stand","homes"] (M7 Rf) cX Zk f' c' s' H') (M6 Rf) (Cy C "far" (mT C) [] E0 (a9 1) (bo (kr (yd K) (a9 2) (a9 0)) (bo (kr (yd K) (a9 3) (a9 0)) gI))):=fun f' c' cX s' H'=>
   dG (pv 1) T.cl mF GF (cg.lam hr _) bF .nil aN (aa (aV eE (pv 2) (pv 0) (fun _ _=>rfl)) (aa (aV eE (pv 3) (pv 0) (fun _ _=>rfl)) ag))
  refine⟨_,(au (a_ (jv (j5 hr LF PB) rfl B.sorted l7 (aa (aH UW h1 aN (aa (pv 3) ag)) ag) (nE (tm (NB:=["letter","net","stand","homes"]) (src:=[none,some 1,some 3,some 2]) (nN kb hb hc) (bp (by kernel_rfl))) sU)))),?_⟩;refine⟨_,rfl,sa,st,rfl,hS,LO.le,fun l H1 s1 NP hl=>?_⟩;have t1:=tb.same s1;refine⟨t1,fun f' c' H2 t2 fP xR ym=>?_⟩;have uL:∀ {b o},H1 b=some o->(∀ps,o≠.iR ps)->H2 b=some o:=fun e n=>fP _ _ e (t1.not e n);have Fp:=uL hl (by intro ps z;cases z);have Rj:=uL (s1 _ _ hH) (by intro ps z;cases z);have E7:=uL (s1 _ _ hS) (by intro ps z;cases z);obtain⟨dx0,fs0,i0⟩:∃dx fs,H1 px=some (.ins C dx fs):=by obtain⟨dx,tl,ol,ds,a,_⟩:=(N.same s1).ob;exact⟨dx,_,a⟩
  have N2:=(N.same s1).Ww.keep (H':=H2) (fun b o l e=>by obtain⟨_,o',e',n⟩:=l;rw[e] at e';cases e';exact uL e n) (fun o e=>uL e (by rw[i0] at e;cases e;intro ps z;cases z));refine⟨l,f',c',mZ st st.length,(i6 ts homes st),rfl,rfl,aW.of Fp,eK j6 (by have:=LO.le;lia),lR,fun n hn=>by have:=(iZ hn).1;have:=LO.le;lia,ym,xR,fun m hm H3 s3=>?_,fun r H3 out s3 zz op pw=>?_⟩
  .obtain⟨Iw,y,ey,hy,FG⟩:=LO.at hm;have N3:=N2.same s3;obtain⟨dx,tl,ol,ds,i1,_⟩:=N3.ob;refine⟨_,rfl,px,dx,_,rfl,i1,OE _ _ _ _,_,rfl,_,rfl,sa,_,_,_,rfl,rfl,bP.of (s3 _ _ E7),aB (jE Iw),_,rfl,_,rfl,ha,_,_,_,rfl,rfl,bP.of (s3 _ _ Rj),aB (ik (by rw[LO.len];exact Iw)),?_⟩;rw[ey];refine⟨_,px,n,ts,y,homes.getD m 0,rfl,N3,hy,FG,?_,aO.refl _⟩;unfold i6;rw[ey];rfl
  .have sm:=ai (o:=.lst (NV out)) zz;exact q r _ out ((dt.same t2 s3).same sm) (fun b o e n=>sm _ _ (s3 _ _ (fP _ _ (s1 _ _ e) n))) (oB s1 t2 fP s3 zz) op pw ae
theorem Py:aR ["self","net","homes","stand","beat"] ["self","net","homes","stand","beat"] (av vE):=⟨rfl,rfl,rfl,by decide +kernel,rfl,by decide +kernel,by decide +kernel⟩
def Cb(C PN:Addr):Sp:=fun vs H Q _=>∃ (L:Addr->Prop) (x0 x4:V) (px ha sa:Addr) (n:Nat) (ts:Ts) (homes:List Nat) (st:List (Option Nat)),vs=[x0,.ref px,.ref ha,.ref sa,x4]/\dw C H L px n ts/\H ha=some (.tup (NV homes))/\H sa=some (.tup (st.map oV))/\im n homes st/\xz PN H/\
 ∀ (r:Addr) (H':Hp) (out:List Nat),xz PN H'->lw PN H H'->H r=none->out.Perm (mZ st st.length)->out.Pairwise (xM (fun l=>-i6 ts homes st l))->H' r=some (.lst (NV out))->Q (.ref r) H'
theorem Uz(F:qG K "order" "Farthest.order" vE f fd c)(B:Bl mg)(kb:K.In base)(hb:pU mg base)(hc:PySem.W.codeHdIn K c PN=true)(T:NT K mg C)(MF:iL P w K mg base bg 5 C "far" ["self","one","other"] (mT C))(UW:dL P w K mg base bg 1 "under_way" ["stand"] B9):
  bA P w K mg base bg 9 f fd ["self","net","homes","stand","beat"] (Cb C PN):=by
 obtain⟨fF,fdF,mF,bF,GF⟩:=MF.ex;refine F.ok Py (fun vs H Q E h=>?_) (fun A outer s H vs Q E hr h=>?_)
 .obtain⟨L,x0,x4,px,ha,sa,n,ts,homes,st,rfl,_⟩:=h;rfl
 .obtain⟨L,x0,x4,px,ha,sa,n,ts,homes,st,rfl,N,hH,hS,LO,tb,q⟩:=h;have h1:cg 1 _:=hr.mono (by decide);have LF:yT (lc bg P w K mg base ["self","net","homes","stand","beat"] "Farthest.order" (av vE) f (.ref c) A outer s H E).zL ["letter","net","stand","homes"] [none,some 1,some 3,some 2] (M7 Rg) Zl (Wx Rg) (M6 Rg) "letter":=
   ⟨bp (by kernel_rfl),fun _ _ _ _ _=>rfl,rfl,rfl,rfl,by decide +kernel,rfl,rfl⟩
  have PB:∀f' c' cX s' H',PE (qw (lc bg P w K mg base ["self","net","homes","stand","beat"] "Farthest.order" (av vE) f (.ref c) A outer s H E).zL ["letter","net","stand","homes"] (M7 Rg) cX Zl f' c' s' H') (M6 Rg) (tUn (rU fun i=>.int (-i)) (Cy C "far" (mT C) [] E0 (a9 1) (bo (kr (yd K) (a9 2) (a9 0)) (bo (kr (yd K) (a9 3) (a9 0)) gI)))):=fun f' c' cX s' H'=>
   xW sJ (dG (pv 1) T.cl mF GF (cg.lam hr _) bF .nil aN (aa (aV eE (pv 2) (pv 0) (fun _ _=>rfl)) (aa (aV eE (pv 3) (pv 0) (fun _ _=>rfl)) ag)))
  refine⟨_,(au (a_ (jv (j5 hr LF PB) rfl B.sorted l7 (aa (aH UW h1 aN (aa (pv 3) ag)) ag) (nE (tm (NB:=["letter","net","stand","homes"]) (src:=[none,some 1,some 3,some 2]) (nN kb hb hc) (bp (by kernel_rfl))) sU)))),?_⟩;refine⟨_,rfl,sa,st,rfl,hS,LO.le,fun l H1 s1 NP hl=>?_⟩;have t1:=tb.same s1;refine⟨t1,fun f' c' H2 t2 fP xR ym=>?_⟩;have uL:∀ {b o},H1 b=some o->(∀ps,o≠.iR ps)->H2 b=some o:=fun e n=>fP _ _ e (t1.not e n);have Fp:=uL hl (by intro ps z;cases z);have Rj:=uL (s1 _ _ hH) (by intro ps z;cases z);have E7:=uL (s1 _ _ hS) (by intro ps z;cases z);obtain⟨dx0,fs0,i0⟩:∃dx fs,H1 px=some (.ins C dx fs):=by obtain⟨dx,tl,ol,ds,a,_⟩:=(N.same s1).ob;exact⟨dx,_,a⟩
  have N2:=(N.same s1).Ww.keep (H':=H2) (fun b o l e=>by obtain⟨_,o',e',n⟩:=l;rw[e] at e';cases e';exact uL e n) (fun o e=>uL e (by rw[i0] at e;cases e;intro ps z;cases z));refine⟨l,f',c',mZ st st.length,(fun l=>-i6 ts homes st l),rfl,rfl,aW.of Fp,eK j6 (by have:=LO.le;lia),lR,fun n hn=>by have:=(iZ hn).1;have:=LO.le;lia,ym,xR,fun m hm H3 s3=>?_,fun r H3 out s3 zz op pw=>?_⟩
  .obtain⟨Iw,y,ey,hy,FG⟩:=LO.at hm;have N3:=N2.same s3;obtain⟨dx,tl,ol,ds,i1,_⟩:=N3.ob;refine⟨_,rfl,px,dx,_,rfl,i1,OE _ _ _ _,_,rfl,_,rfl,sa,_,_,_,rfl,rfl,bP.of (s3 _ _ E7),aB (jE Iw),_,rfl,_,rfl,ha,_,_,_,rfl,rfl,bP.of (s3 _ _ Rj),aB (ik (by rw[LO.len];exact Iw)),?_⟩;rw[ey];refine⟨_,px,n,ts,y,homes.getD m 0,rfl,N3,hy,FG,_,rfl,?_,aO.refl _⟩;unfold i6;dsimp only;rw[ey];rfl
  .have sm:=ai (o:=.lst (NV out)) zz;exact q r _ out ((dt.same t2 s3).same sm) (fun b o e n=>sm _ _ (s3 _ _ (fP _ _ (s1 _ _ e) n))) (oB s1 t2 fP s3 zz) op pw ae
theorem Pz:aR ["self","net","homes","stand","beat"] ["self","net","homes","stand","beat"] (av vF):=⟨rfl,rfl,rfl,by decide +kernel,rfl,by decide +kernel,by decide +kernel⟩
def Cc(PN:Addr):Sp:=fun vs H Q _=>∃ (x0 x1:V) (bt:Int) (ha sa:Addr) (n:Nat) (homes:List Nat) (st:List (Option Nat)),vs=[x0,x1,.ref ha,.ref sa,.int bt]/\0<=bt/\H ha=some (.tup (NV homes))/\H sa=some (.tup (st.map oV))/\im n homes st/\xA PN H/\
 ∀ (r:Addr) (H':Hp) (out:List Nat),xA PN H'->lw PN H H'->H r=none->out.Perm (mZ st st.length)->out.Pairwise (xM (fun l=>((l:Nat)+bt) % ((homes.length:Nat):Int)))->H' r=some (.lst (NV out))->Q (.ref r) H'
theorem UA(F:qG K "order" "Turns.order" vF f fd c)(B:Bl mg)(kb:K.In base)(hb:pU mg base)(hc:PySem.W.codeHdIn K c PN=true)(UW:dL P w K mg base bg 1 "under_way" ["stand"] B9):
  bA P w K mg base bg 9 f fd ["self","net","homes","stand","beat"] (Cc PN):=by
 refine F.ok Pz (fun vs H Q E h=>?_) (fun A outer s H vs Q E hr h=>?_)
 .obtain⟨x0,x1,bt,ha,sa,n,homes,st,rfl,_⟩:=h;rfl
 .obtain⟨x0,x1,bt,ha,sa,n,homes,st,rfl,b0,hH,hS,LO,tb,q⟩:=h;have h1:cg 1 _:=hr.mono (by decide);have LF:yT (lc bg P w K mg base ["self","net","homes","stand","beat"] "Turns.order" (av vF) f (.ref c) A outer s H E).zL ["letter","beat","homes"] [none,some 4,some 2] (M7 Rh) Zm (Wx Rh) (M6 Rh) "letter":=
   ⟨bp (by kernel_rfl),fun _ _ _ _ _=>rfl,rfl,rfl,rfl,by decide +kernel,rfl,rfl⟩
  have PB:∀f' c' cX s' H',PE (qw (lc bg P w K mg base ["self","net","homes","stand","beat"] "Turns.order" (av vF) f (.ref c) A outer s H E).zL ["letter","beat","homes"] (M7 Rh) cX Zm f' c' s' H') (M6 Rh) (kr (rI (fun _ j=>0<j) fun i j=>.int (i % j)) (kr (zM fun i j=>.int (i+j)) (a9 0) (a9 1)) (VO (fun xs H Q=>∃p ys,xs=[V.ref p]/\(aW K H p ys\/bP K H p ys)/\Q (.int ys.length) H) (bo (a9 2) gI))):=fun f' c' cX s' H'=>
   aY iE (aY cZ (pv 0) (pv 1)) (aD aM (by rfl) B.len dW (aa (pv 2) ag))
  refine⟨_,(au (a_ (jv (j5 hr LF PB) rfl B.sorted l7 (aa (aH UW h1 aN (aa (pv 3) ag)) ag) (nE (tm (NB:=["letter","beat","homes"]) (src:=[none,some 4,some 2]) (nN kb hb hc) (bp (by kernel_rfl))) sU)))),?_⟩;refine⟨_,rfl,sa,st,rfl,hS,LO.le,fun l H1 s1 NP hl=>?_⟩;have t1:=tb.same s1;refine⟨t1,fun f' c' H2 t2 fP xR ym=>?_⟩;have uL:∀ {b o},H1 b=some o->(∀ps,o≠.iR ps)->H2 b=some o:=fun e n=>fP _ _ e (t1.not e n);have Fp:=uL hl (by intro ps z;cases z);have Rj:=uL (s1 _ _ hH) (by intro ps z;cases z);have E7:=uL (s1 _ _ hS) (by intro ps z;cases z);refine⟨l,f',c',mZ st st.length,(fun l=>((l:Nat)+bt) % ((homes.length:Nat):Int)),rfl,rfl,aW.of Fp,eK j6 (by have:=LO.le;lia),lR,fun n hn=>by have:=(iZ hn).1;have:=LO.le;lia,ym,xR,fun m hm H3 s3=>?_,fun r H3 out s3 zz op pw=>?_⟩
  .obtain⟨Iw,y,ey,hy,FG⟩:=LO.at hm;refine⟨_,rfl,_,rfl,_,_,rfl,rfl,_,rfl,ha,_,rfl,.inr (bP.of (s3 _ _ Rj)),_,_,rfl,rfl,?_,?_,aO.refl _⟩
   .rw[be,LO.len];lia
   .rw[be]
  .have sm:=ai (o:=.lst (NV out)) zz;exact q r _ out ((dt.same t2 s3).same sm) (fun b o e n=>sm _ _ (s3 _ _ (fP _ _ (s1 _ _ e) n))) (oB s1 t2 fP s3 zz) op pw ae
theorem PD:aR ["self","homes"] ["self","homes"] (av IN):=⟨rfl,rfl,rfl,by decide +kernel,rfl,by decide +kernel,by decide +kernel⟩
def Cd(CR:Addr):Sp:=fun vs H Q _=>∃ (rx ha:Addr) (ranks:List Int) (homes:List Nat),vs=[.ref rx,.ref ha]/\xw CR H rx ranks/\H ha=some (.tup (NV homes))/\ranks.length=homes.length/\Q .cB H
theorem Ln{f CR:Addr}{fd:FuncData}(F:ig K "check_letters" "Ranked.check_letters" IN f fd)(B:Bl mg)(RT:Wz K mg CR):bA P w K mg base bg 1 f fd ["self","homes"] (Cd CR):=by
 refine F.ok PD (fun vs H Q E h=>?_) (fun eY A outer s H vs Q E hr h=>?_)
 .obtain⟨rx,ha,ranks,homes,rfl,_⟩:=h;rfl
 .obtain⟨rx,ha,ranks,homes,rfl,⟨rd,ra,g1,g2⟩,hH,rl,q⟩:=h;refine⟨_,(au (cC (aQ uS (aD aM (by rfl) B.len dW (aa (jX (pv 0) rfl) ag)) (aD aM (by rfl) B.len dW (aa (pv 1) ag)) (a8 _)) eA bh)),?_⟩;exact⟨_,rfl,rx,CR,rd,_,_,rfl,g1,RT.cl,RT.nR,M8,ra,_,rfl,.inr (bP.of g2),_,rfl,ha,_,rfl,.inr (bP.of hH),rfl,_,rfl,hU (by rw[aT,be,rl];simp) q⟩
theorem Lo:aR ["self","ranks"] ["self","ranks"] (av xx):=⟨rfl,rfl,rfl,by decide +kernel,rfl,by decide +kernel,by decide +kernel⟩
def xC(CR:Addr):Sp:=fun vs H Q _=>∃ (p dx ra:Addr) (ranks:List Int),vs=[.ref p,.ref ra]/\H p=some (.ins CR dx [])/\H ra=some (.tup (ranks.map V.int))/\ranks.length<=16/\∀H',xw CR H' p ranks->aI p H H'->Q .cB H'
theorem IP{f CR:Addr}{fd:FuncData}(F:ig K "__init__" "Ranked.__init__" xx f fd)(B:Bl mg)(RT:Wz K mg CR)(WH:dL P w K mg base bg 1 "is_whole" ["thing"] (og K)):bA P w K mg base bg 2 f fd ["self","ranks"] (xC CR):=by
 refine F.ok Lo (fun vs H Q E h=>?_) (fun eY A outer s H vs Q E hr h=>?_)
 .obtain⟨p,dx,ra,ranks,rfl,_⟩:=h;rfl
 .obtain⟨p,dx,ra,ranks,rfl,hp,JB,rl,q⟩:=h;refine'⟨_,(aj (cC (PW.pt (sw (k6 (iD (aD iI (by rfl) B.MN qh (aa (pv 1) (aa (jS (v:=.ty "tuple") rfl B.tup l8 rfl) ag))))) (pI (k6 (iD (aD (Ew rfl) (by rfl) B.all PyProof.Rows.boot_all (aa ?c1 ag))))))) eA bh)
   (au (sO (pv 0) (pv 1) rfl))),?_⟩
  case c1=>
   refine' cL (g:=(bv 0)) (te:=nC (og K) [] E0 (bo (a9 0) gI)) (NB:=["rank"]) (src:=[none]) (bp (by kernel_rfl)) rfl (F3 (pv 1)) ?g ?t ?e;case g=>exact fun cl C s₃ H₃ fp=>(aA (i:=0) Lm rfl (Or.inl rfl) (Or.inr rfl))
   case t=>exact fun cl C s₃ H₃ fp=>dz
   case e=>exact fun cl C s₃ H₃ fp=>aH WH hr aN (aa (pv 0) ag)
  refine⟨_,rfl,_,_,_,.type "tuple",true,rfl,⟨rfl,w9⟩,.of (.tup JB),_,rfl,iH ?_⟩;refine⟨_,rfl,ra,rfl,⟨_,bP.of JB⟩,fun D hD=>?_⟩;refine zm (K:=K) (a:=ra) (xs:=ranks.map V.int) (fun i ys σ H2=>(∃x,σ=[x])/\aO H H2/\H2 D=some (.lst ys)/\ys=(List.replicate i true).map V.bl) ⟨⟨_,rfl⟩,ai hD,ae,rfl⟩ (fun i ys σ H2 _ z=>bP.of (z.2.1 _ _ JB)) ?_ ?_
  .rintro i x ys σ H2 Kt Kf hx ⟨⟨x',rfl⟩,sm,jH,rfl⟩ kt kf;have hi:i<ranks.length:=by have:=(b9.mp hx).1;rwa [aT] at this
   rw[bU,bQ hi] at hx;cases hx;refine⟨_,rfl,_,_,rfl,.int _,?_⟩;exact kt _ _ _ jH (by rw[aT,gm];exact bi (show i<17 by lia) (by decide)) ⟨⟨_,rfl⟩,br sm hD,ae,by rw[vR,cW];rfl⟩
  .rintro ys σ H2 ⟨_,sm,jH,rfl⟩;refine⟨D,_,rfl,aW.of jH,_,rfl,?_⟩;have e:(List.replicate (ranks.map V.int).length true).all id=true:=by
    rw[i_];intro x sE;rw[(List.mem_replicate.mp sE).2];rfl
   rw[e];refine iH ⟨_,rfl,_,rfl,p,CR,dx,[],rfl,sm _ _ hp,RT.cl,RT.nR,(by show 0<1000;decide),?_⟩;have npr:ra≠p:=by rintro rfl;rw[hp] at JB;cases JB
   exact q _ ⟨dx,ra,by rw[ae];rfl,by rw[ap npr];exact sm _ _ JB⟩ (fun b o e n=>by rw[ap n];exact sm _ _ e)
theorem PJ:aR ["self","net","homes","stand","beat"] ["self","net","homes","stand","beat"] (av vG):=⟨rfl,rfl,rfl,by decide +kernel,rfl,by decide +kernel,by decide +kernel⟩
def Ce(CR PN:Addr):Sp:=fun vs H Q _=>∃ (x1 x4:V) (rx ha sa:Addr) (n:Nat) (ranks:List Int) (homes:List Nat) (st:List (Option Nat)),vs=[.ref rx,x1,.ref ha,.ref sa,x4]/\xw CR H rx ranks/\ranks.length=homes.length/\H ha=some (.tup (NV homes))/\H sa=some (.tup (st.map oV))/\im n homes st/\xB PN H/\
 ∀ (r:Addr) (H':Hp) (out:List Nat),xB PN H'->lw PN H H'->H r=none->out.Perm (mZ st st.length)->out.Pairwise (xM (fun l=>ranks.getD l 0))->H' r=some (.lst (NV out))->Q (.ref r) H'
theorem UB{f c CR PN:Addr}{fd:FuncData}(F:qG K "order" "Ranked.order" vG f fd c)(B:Bl mg)(kb:K.In base)(hb:pU mg base)(hc:PySem.W.codeHdIn K c PN=true)(RT:Wz K mg CR)(MC:iL P w K mg base bg 1 CR "check_letters" ["self","homes"] (Cd CR))(UW:dL P w K mg base bg 1 "under_way" ["stand"] B9):
  bA P w K mg base bg 9 f fd ["self","net","homes","stand","beat"] (Ce CR PN):=by
 obtain⟨fC,fdC,mC,bC,GC⟩:=MC.ex;refine F.ok PJ (fun vs H Q E h=>?_) (fun A outer s H vs Q E hr h=>?_)
 .obtain⟨x1,x4,rx,ha,sa,n,ranks,homes,st,rfl,_⟩:=h;rfl
 .obtain⟨x1,x4,rx,ha,sa,n,ranks,homes,st,rfl,RK,rl,hH,hS,LO,tb,q⟩:=h;have h1:cg 1 _:=hr.mono (by decide);have LF:yT (lc bg P w K mg base ["self","net","homes","stand","beat"] "Ranked.order" (av vG) f (.ref c) A outer s H E).zL ["letter","self"] [none,some 0] (M7 Ri) Zn (Wx Ri) (M6 Ri) "letter":=
   ⟨bp (by kernel_rfl),fun _ _ _ _ _=>rfl,rfl,rfl,rfl,by decide +kernel,rfl,rfl⟩
  have PB:∀f' c' cX s' H',PE (qw (lc bg P w K mg base ["self","net","homes","stand","beat"] "Ranked.order" (av vG) f (.ref c) A outer s H E).zL ["letter","self"] (M7 Ri) cX Zn f' c' s' H') (M6 Ri) (kr (yd K) (JP K (a9 1) "ranks") (a9 0)):=fun f' c' cX s' H'=>
   aV eE (jX (pv 1) rfl) (pv 0) (fun _ _=>rfl)
  refine⟨_,(aj (bY (dG (pv 0) RT.cl mC GC h1 bC .nil aN (aa (pv 2) ag))) (au (a_ (jv (j5 hr LF PB) rfl B.sorted l7 (aa (aH UW h1 aN (aa (pv 3) ag)) ag) (nE (tm (NB:=["letter","self"]) (src:=[none,some 0]) (nN kb hb hc) (bp (by kernel_rfl))) sU))))),?_⟩;obtain⟨rd0,ra0,g10,g20⟩:=id RK;refine⟨_,rfl,rx,rd0,_,rfl,g10,Ux,_,rfl,rx,ha,ranks,homes,rfl,RK,hH,rl,?_⟩;refine⟨_,rfl,sa,st,rfl,hS,LO.le,fun l H1 s1 NP hl=>?_⟩;have t1:=tb.same s1;refine⟨t1,fun f' c' H2 t2 fP xR ym=>?_⟩;have uL:∀ {b o},H1 b=some o->(∀ps,o≠.iR ps)->H2 b=some o:=fun e n=>fP _ _ e (t1.not e n);have Fp:=uL hl (by intro ps z;cases z);have Rj:=uL (s1 _ _ hH) (by intro ps z;cases z);have E7:=uL (s1 _ _ hS) (by intro ps z;cases z);obtain⟨rd,ra,g1,g2⟩:=RK.same s1;have g1:=uL g1 (by intro ps z;cases z);have g2:=uL g2 (by intro ps z;cases z);refine⟨l,f',c',mZ st st.length,(fun l=>ranks.getD l 0),rfl,rfl,aW.of Fp,eK j6 (by have:=LO.le;lia),lR,fun n hn=>by have:=(iZ hn).1;have:=LO.le;lia,ym,xR,fun m hm H3 s3=>?_,fun r H3 out s3 zz op pw=>?_⟩
  .obtain⟨Iw,y,ey,hy,FG⟩:=LO.at hm;refine⟨_,rfl,rx,CR,rd,_,_,rfl,s3 _ _ g1,RT.cl,RT.nR,M8,_,rfl,ra,_,_,_,rfl,rfl,bP.of (s3 _ _ g2),aB (by rw[bU,bQ (show m<ranks.length by rw[rl,LO.len];exact Iw)];rfl),?_,aO.refl _⟩;dsimp only;rw[bW,bQ (show m<ranks.length by rw[rl,LO.len];exact Iw)];rfl
  .have sm:=ai (o:=.lst (NV out)) zz;exact q r _ out ((dt.same t2 s3).same sm) (fun b o e n=>sm _ _ (s3 _ _ (fP _ _ (s1 _ _ e) n))) (oB s1 t2 fP s3 zz) op pw ae
end
theorem IQ[DecidableEq α]:∀ {a b:List α},a.Nodup->(∀x∈a,x∈b)->a.length<=b.length
 |[],b,_,_=>bE _
 |x::xs,b,hn,hs=>by
  obtain⟨h1,h2⟩:=fL.mp hn;have hx:x∈b:=hs x bR;have:=IQ (b:=b.erase x) h2 fun y hy=>(Ab (fun (e:y=x)=>h1 (e ▸ hy))).mpr (hs y (cD _ hy));rw[z7 hx] at this;have:0<b.length:=rJ hx;rw[eF];lia
theorem DD(he:∀j,j≠i->P' j=P j)(hi:P i=false):∀ {m:Nat},i<m->(List.range m).countP P'=(List.range m).countP P+(if P' i=true then 1 else 0)
 |0,h=>absurd h (v6 _)
 |m+1,h=>by
  rw[jr,List.countP_append,List.countP_append,List.countP_singleton,List.countP_singleton];by_cases c:i<m
  .rw[DD he hi c,he m (by lia)];lia
  .obtain rfl:i=m:=by lia
   rw[show (List.range i).countP P'=(List.range i).countP P from List.countP_congr fun j hj=>by rw[he j (by have:=bD.mp hj;lia)],hi];simp
theorem IS(h:∀j,P j=true->P' j=true):(List.range m).countP P<=(List.range m).countP P':=List.countP_mono_left fun j _=>h j
theorem PL(h:∀j,P j=true->P' j=true)(hi:P i=false)(q_:P' i=true)(hm:i<m):(List.range m).countP P<(List.range m).countP P':=by
 have a:=DD (P:=P) (P':=fun j=>if j=i then true else P j) (i:=i) (fun j hj=>ak hj) hi hm;have b:=IS (P:=fun j=>if j=i then true else P j) (P':=P') (m:=m) fun j hj=>by
  by_cases c:j=i
  .rw[c];exact q_
  .rw[ak c] at hj;exact h j hj
 rw[ao rfl,ao rfl] at a;lia
theorem PM{st:List (Option Nat)}:st=(List.range st.length).map fun j=>st.getD j none:=by
 apply lV;intro i;by_cases h:i<st.length
 .rw[bU,fQ h];simp[bW,h]
 .rw[fJ (by lia),fJ (by rw[aT,cG];lia)]
theorem Lp{st:List (Option Nat)}{o:Option Nat}:st.count o=(List.range st.length).countP fun j=>decide (st.getD j none=o):=by
 have e:st.count o=((List.range st.length).map fun j=>st.getD j none).count o:=congrArg _ PM;rw[e,List.count_eq_countP,List.countP_map];exact List.countP_congr fun j _=>by simp
theorem qg:(List.replicate m (none:Option Nat)).getD j none=none:=by
 rw[bW,rH];split <;> rfl
theorem lG{fs:List (Option Nat)}{i j:Nat}{o:Option Nat}(hi:i<fs.length):(fs.set i o).getD j none=if j=i then o else fs.getD j none:=by
 rw[bW,vY];by_cases c:i=j
 .subst c;rw[ao rfl,ao hi,ao rfl];rfl
 .rw[ak c,ak (fun z=>c z.symm),bW]
structure Hd(n:Nat)(ts:Ts)(st fs:List (Option Nat)):Prop where
 len:fs.length=st.length
 cB:∀j,st.getD j none=none->fs.getD j none=none
 out:∀j h,st.getD j none=some h->∃y,fs.getD j none=some y/\y∈bq n ts h
 inj:∀j k y,j≠k->fs.getD j none=some y->fs.getD k none=some y->st.getD j none≠st.getD k none
theorem DE{g:List (Option Nat)}{a x:Nat}(h:g.getD a none=some x):a<g.length:=by
 rcases Nat.lt_or_ge a g.length with c|c
 .exact c
 .rw[bW,fJ c] at h;cases h
section
variable {n:Nat} {ts:Ts} {homes:List Nat} {st g g1:List (Option Nat)} {gd ou:Nat->List Nat} {l x y:Nat} {os p:List Nat}
theorem j7(h:ky st g l os=some x):x∈os/\∀a,a<st.length->st.getD a none=st.getD l none->g.getD a none≠some x:=by
 unfold ky at h;refine⟨FO h,fun a ha e z=>?_⟩;have:=AD h;rw[Ar,rV] at this;exact this a (bD.mpr ha) (by rw[ie e,ie z];rfl)
theorem xD(h:ky st g l os=none)(hx:x∈os):∃a,a<st.length/\st.getD a none=st.getD l none/\g.getD a none=some x:=by
 unfold ky at h;have:=An.mp h x hx;rw[Ar,Bool.not_eq_false,Az] at this;obtain⟨a,ha,b⟩:=this;rw[fU] at b;exact⟨a,bD.mp ha,fc b.1,fc b.2⟩
def Rk(st g:List (Option Nat)):Prop:=∀j k y,j≠k->g.getD j none=some y->g.getD k none=some y->st.getD j none≠st.getD k none
theorem Rk.put(I:Rk st g)(gl:g.length=st.length)(hl:l<st.length):Rk st (g.set l (ky st g l os)):=by
 intro j k y n hj hk e;rw[lG (by rw[gl];exact hl)] at hj hk;by_cases cj:j=l
 .rw[ao cj] at hj;rw[ak (fun z=>n (cj.trans z.symm))] at hk;exact(j7 hj).2 k (by rw[<-gl];exact DE hk) (by rw[<-cj];exact e.symm) hk
 .rw[ak cj] at hj;by_cases ck:k=l
  .rw[ao ck] at hk;exact(j7 hk).2 j (by rw[<-gl];exact DE hj) (by rw[<-ck];exact e) hj
  .rw[ak ck] at hk;exact I j k y n hj hk e
structure E1(st g:List (Option Nat))(gd:Nat->List Nat)(p:List Nat):Prop where
 len:g.length=st.length
 inj:Rk st g
 cB:∀l,l∉p->g.getD l none=none
 ok:∀l,l∈p->(∃x,g.getD l none=some x/\x∈gd l)\/(g.getD l none=none/\∀o∈gd l,∃a,st.getD a none=st.getD l none/\g.getD a none=some o)
theorem E1.step(I:E1 st g gd p)(hl:l<st.length)(np:l∉p):E1 st (g.set l (ky st g l (gd l))) gd (p++[l]):=by
 have gs:∀ {j:Nat},(g.set l (ky st g l (gd l))).getD j none=if j=l then ky st g l (gd l) else g.getD j none:=lG (by rw[I.len];exact hl)
 have nl:=I.cB l np;have kp:∀ {a o:Nat},g.getD a none=some o->(g.set l (ky st g l (gd l))).getD a none=some o:=fun {a o} e=>by rw[gs,ak (by rintro rfl;rw[nl] at e;cases e)];exact e
 refine⟨by rw[gy,I.len],I.inj.put I.len hl,fun j hj=>?_,fun j hj=>?_⟩
 .rw[gs,ak (by rintro rfl;exact hj (dR _ bR))];exact I.cB j fun z=>hj (ft _ z)
 .by_cases c:j=l
  .subst c;rw[gs,ao rfl];cases e:ky st g j (gd j) with
   |some x=>exact .inl ⟨x,rfl,(j7 e).1⟩
   |none=>exact .inr ⟨rfl,fun o ho=>let ⟨a,_,e1,e2⟩:=xD e ho;⟨a,e1,by have:=kp e2;rwa [e] at this⟩⟩
  .rw[gs,ak c];have hj:j∈p:=by
    rcases bX.mp hj with z|z
    .exact z
    .exact absurd (cu.mp z) c
   rcases I.ok j hj with z|⟨z,f⟩
   .exact .inl z
   .exact .inr ⟨z,fun o ho=>let ⟨a,e1,e2⟩:=f o ho;⟨a,e1,kp e2⟩⟩
theorem E1.fold:∀ {ls p:List Nat} {g:List (Option Nat)},E1 st g gd p->(∀l∈ls,l<st.length)->(p++ls).Nodup->E1 st (ls.foldl (fun g l=>g.set l (ky st g l (gd l))) g) gd (p++ls)
 |[],p,g,I,_,_=>by rw[ja];exact I
 |l::ls,p,g,I,h,nd=>by
  rw[gY,show p++l::ls=(p++[l])++ls by simp];rw[show p++l::ls=(p++[l])++ls by simp] at nd;refine E1.fold (I.step (h l bR) fun z=>?_) (fun j hj=>h j (cD _ hj)) nd;exact(jp.mp (jp.mp nd).1).2.2 l z l bR rfl
theorem fold_at{f:List (Option Nat)->Nat->Option Nat}{a:Nat}:∀ {ls:List Nat} {g:List (Option Nat)},(∀l∈ls,l<g.length)->a∉ls->(ls.foldl (fun g l=>g.set l (f g l)) g).getD a none=g.getD a none
 |[],g,_,_=>rfl
 |l::ls,g,h,n=>by
  rw[gY,fold_at (fun j hj=>by rw[gy];exact h j (cD _ hj)) fun z=>n (cD _ z),lG (h l bR),ak (by rintro rfl;exact n bR)]
noncomputable def zV(n:Nat)(ts:Ts)(st g:List (Option Nat))(l:Nat):List (Option Nat):=if g.getD l none=none then g.set l (ky st g l (bq n ts ((st.getD l none).getD 0))) else g
noncomputable def zA(n:Nat)(ts:Ts)(homes:List Nat)(st g:List (Option Nat))(l:Nat):List (Option Nat):=g.set l (ky st g l (dP n ts ((st.getD l none).getD 0) (homes.getD l 0)))
noncomputable def IT(n:Nat)(ts:Ts)(homes:List Nat)(st:List (Option Nat))(gj:List Nat):List (Option Nat):=gj.foldl (zV n ts st) (gj.foldl (zA n ts homes st) (List.replicate st.length none))
theorem DG(S:lE n ts homes st)(hl:l<st.length)(ey:st.getD l none=some y)(hy:y<n)(en:g.getD l none=none):∃x,ky st g l (bq n ts y)=some x:=by
 cases e:ky st g l (bq n ts y) with
 |some x=>exact⟨x,rfl⟩
 |none=>
  exfalso;have a:=IQ (b:=((List.range st.length).filter fun j=>decide (st.getD j none=some y)&&(g.getD j none).isSome).map fun j=>(g.getD j none).getD 0) (Bw hy) fun x hx=>by
   obtain⟨a,ha,e1,e2⟩:=xD e hx;exact bj.mpr ⟨a,et.mpr ⟨bD.mpr ha,by rw[e1,ey,e2];simp⟩,by rw[e2];rfl⟩
  rw[aT,<-List.countP_eq_length_filter] at a;have b:=PL (P:=fun j=>decide (st.getD j none=some y)&&(g.getD j none).isSome) (P':=fun j=>decide (st.getD j none=some y)) (i:=l) (fun j h=>(fU _ _ ▸ h:_/\_).1) (by rw[en];simp) (by rw[ey];simp) hl;have c:=S.cap y hy;rw[Lp] at c;lia
structure E2(n:Nat)(ts:Ts)(st g1 g:List (Option Nat))(p:List Nat):Prop where
 len:g.length=st.length
 inj:Rk st g
 keep:∀l x,g1.getD l none=some x->g.getD l none=some x
 cB:∀l,l∉p->g.getD l none=g1.getD l none
 out:∀l,l∈p->∃x,g.getD l none=some x/\(g1.getD l none=some x\/x∈bq n ts ((st.getD l none).getD 0))
theorem E2.step(S:lE n ts homes st)(I:E2 n ts st g1 g p)(hl:l<st.length)(ey:st.getD l none=some y)(hy:y<n)(np:l∉p):E2 n ts st g1 (zV n ts st g l) (p++[l]):=by
 have nl:=I.cB l np;unfold zV;by_cases c:g.getD l none=none
 .rw[ao c,ey];obtain⟨x,ex⟩:=DG S hl ey hy c;have gs:∀ {j:Nat},(g.set l (ky st g l (bq n ts y))).getD j none=if j=l then ky st g l (bq n ts y) else g.getD j none:=lG (by rw[I.len];exact hl)
  refine⟨by rw[gy,I.len],I.inj.put I.len hl,fun j x e=>?_,fun j hj=>?_,fun j hj=>?_⟩
  .show (g.set l (ky st g l (bq n ts y))).getD j none=_;rw[gs,ak (by rintro rfl;rw[<-nl,c] at e;cases e)];exact I.keep j x e
  .show (g.set l (ky st g l (bq n ts y))).getD j none=_;rw[gs,ak (by rintro rfl;exact hj (dR _ bR))];exact I.cB j fun z=>hj (ft _ z)
  .show ∃x,(g.set l (ky st g l (bq n ts y))).getD j none=some x/\_;rw[gs];by_cases d:j=l
   .subst d;rw[ao rfl,ex,ey];exact⟨x,rfl,.inr (j7 ex).1⟩
   .rw[ak d];rcases bX.mp hj with z|z
    .exact I.out j z
    .exact absurd (cu.mp z) d
 .rw[ak c];refine⟨I.len,I.inj,I.keep,fun j hj=>I.cB j fun z=>hj (ft _ z),fun j hj=>?_⟩;rcases bX.mp hj with z|z
  .exact I.out j z
  .rw[cu.mp z];cases e:g.getD l none with
   |none=>exact absurd e c
   |some x=>exact⟨x,rfl,.inl (by rw[<-nl,e])⟩
theorem E2.fold(S:lE n ts homes st):∀ {ls p:List Nat} {g:List (Option Nat)},E2 n ts st g1 g p->(∀l∈ls,∃y,l<st.length/\st.getD l none=some y/\y<n)->(p++ls).Nodup->E2 n ts st g1 (ls.foldl (zV n ts st) g) (p++ls)
 |[],p,g,I,_,_=>by rw[ja];exact I
 |l::ls,p,g,I,h,nd=>by
  rw[gY,show p++l::ls=(p++[l])++ls by simp];rw[show p++l::ls=(p++[l])++ls by simp] at nd;obtain⟨y,a,b,c⟩:=h l bR;refine E2.fold S (I.step S a b c fun z=>?_) (fun j hj=>h j (cD _ hj)) nd;exact(jp.mp (jp.mp nd).1).2.2 l z l bR rfl
structure Eag(n:Nat)(ts:Ts)(homes:List Nat)(st fs:List (Option Nat)):Prop where
 hd:Hd n ts st fs
 eag:∀l y,st.getD l none=some y->(∃x,fs.getD l none=some x/\x∈dP n ts y (homes.getD l 0))\/∀o∈dP n ts y (homes.getD l 0),∃a,st.getD a none=some y/\fs.getD a none=some o/\o∈dP n ts y (homes.getD a 0)
theorem DH{gj:List Nat}(S:lE n ts homes st)(pm:gj.Perm (mZ st st.length)):∀l∈gj,∃y,l<st.length/\st.getD l none=some y/\y<n:=fun l hl=>by
 obtain⟨a,b⟩:=iZ (pm.mem_iff.mp hl);exact⟨_,a,b,(S.ss l _ (by rw[xu (d:=none) a];exact congrArg some b)).1⟩
theorem Cf(h:st.getD l none=some y):l∈mZ st st.length:=et.mpr ⟨bD.mpr (DE h),by rw[h];rfl⟩
theorem IU{gj:List Nat}(pm:gj.Perm (mZ st st.length)):gj.Nodup:=pm.nodup_iff.mpr (Ac _ i9)
theorem PP{gj:List Nat}(S:lE n ts homes st)(pm:gj.Perm (mZ st st.length)):Eag n ts homes st (IT n ts homes st gj):=by
 have al:=DH S pm;have nd:=IU pm;have i1:E1 st (gj.foldl (zA n ts homes st) (List.replicate st.length none)) (fun l=>dP n ts ((st.getD l none).getD 0) (homes.getD l 0)) ([]++gj):=E1.fold (gd:=fun l=>dP n ts ((st.getD l none).getD 0) (homes.getD l 0)) ⟨gm,(fun j k y _ hy=>by rw[qg] at hy;cases hy),fun l _=>qg,fun l hl=>(nomatch hl)⟩ (fun l hl=>let ⟨_,a,_⟩:=al l hl;a) nd;have i2:=E2.fold S (g1:=gj.foldl (zA n ts homes st) (List.replicate st.length none)) (p:=[]) ⟨i1.len,i1.inj,fun _ _ e=>e,fun _ _=>rfl,fun l hl=>(nomatch hl)⟩ al nd;rw[AC] at i1 i2;have Zo:∀ {i j o},o∈dP n ts i j->o∈bq n ts i:=fun h=>(et.mp h).1;have uo:∀ {l y},st.getD l none=some y->l∈gj:=fun h=>pm.mem_iff.mpr (Cf h);have g1k:∀ {l y x},st.getD l none=some y->(gj.foldl (zA n ts homes st) (List.replicate st.length none)).getD l none=some x->x∈dP n ts y (homes.getD l 0):=fun {l y x} h e=>by
  rcases i1.ok l (uo h) with ⟨x',a,b⟩|⟨a,_⟩
  .rw[e] at a;cases a;rw[h] at b;exact b
  .rw[e] at a;cases a
 refine⟨⟨i2.len,fun j hj=>?_,fun j y hj=>?_,i2.inj⟩,fun l y hl=>?_⟩
 .have nj:j∉gj:=fun z=>by obtain⟨y,_,e,_⟩:=al j z;rw[hj] at e;cases e
  exact(i2.cB j nj).trans (i1.cB j nj)
 .obtain⟨x,a,b⟩:=i2.out j (uo hj);rcases b with b|b
  .exact⟨x,a,Zo (g1k hj b)⟩
  .rw[hj] at b;exact⟨x,a,b⟩
 .rcases i1.ok l (uo hl) with ⟨x,a,b⟩|⟨a,f⟩
  .rw[hl] at b;exact .inl ⟨x,i2.keep l x a,b⟩
  .refine .inr fun o ho=>?_;obtain⟨a',e1,e2⟩:=f o (by rw[hl];exact ho);rw[hl] at e1;exact⟨a',e1,i2.keep _ _ e2,g1k e1 e2⟩
end
section
variable {n:Nat} {ts:Ts} {homes:List Nat} {st g:List (Option Nat)} {l x y:Nat} {os p:List Nat}
theorem Lq(F:bK n ts)(hy:y<n)(hx:x<n)(ne:y≠x):∃o os,dP n ts y x=o::os:=by
 obtain⟨w,mn⟩:=F.Th hy hx
 match e:far ts y x,w with
 |0,w=>exact absurd w ne
 |d+1,w=>
  obtain⟨c,t,w'⟩:=w.Hh;have hc:=(F.X_ t).2.1;have m:c∈dP n ts y x:=et.mpr ⟨(g9 F hy).mpr t,ie (by have:=F.Os hc hx w';lia)⟩;cases e:dP n ts y x with
  |nil=>rw[e] at m;cases m
  |cons o os=>exact⟨o,os,rfl⟩
theorem DI(h:∀a,g.getD a none=none):ky st g l (x::os)=some x:=by
 unfold ky;rw[List.find?_cons_of_pos];rw[Ar,rV];intro a _ z;rw[fU,h a] at z;exact absurd (fc z.2) (fun e=>by cases e)
structure E3(n:Nat)(ts:Ts)(st g:List (Option Nat))(p:List Nat):Prop where
 len:g.length=st.length
 inj:Rk st g
 cB:∀l,l∉p->g.getD l none=none
 out:∀l,l∈p->∃x,g.getD l none=some x/\x∈bq n ts ((st.getD l none).getD 0)
theorem E3.step(S:lE n ts homes st)(I:E3 n ts st g p)(hl:l<st.length)(ey:st.getD l none=some y)(hy:y<n)(np:l∉p):E3 n ts st (B8 n ts homes st g l) (p++[l]):=by
 have c:=I.cB l np;obtain⟨x,ex⟩:∃x,ky st g l (dP n ts y (homes.getD l 0)++bq n ts y)=some x:=by
  obtain⟨x,ex⟩:=DG S hl ey hy c;cases e:ky st g l (dP n ts y (homes.getD l 0)++bq n ts y) with
  |some z=>exact⟨z,rfl⟩
  |none=>
   obtain⟨a,b,d,e'⟩:=xD e (dR _ (j7 ex).1);exact absurd e' ((j7 ex).2 a b d)
 unfold B8;rw[ey];have gs:∀ {j:Nat},(g.set l (ky st g l (dP n ts y (homes.getD l 0)++bq n ts y))).getD j none=if j=l then ky st g l (dP n ts y (homes.getD l 0)++bq n ts y) else g.getD j none:=lG (by rw[I.len];exact hl)
 refine⟨by rw[gy,I.len],I.inj.put I.len hl,fun j hj=>?_,fun j hj=>?_⟩
 .show (g.set l (ky st g l (dP n ts y (homes.getD l 0)++bq n ts y))).getD j none=_;rw[gs,ak (by rintro rfl;exact hj (dR _ bR))];exact I.cB j fun z=>hj (ft _ z)
 .show ∃x,(g.set l (ky st g l (dP n ts y (homes.getD l 0)++bq n ts y))).getD j none=some x/\_;rw[gs];by_cases d:j=l
  .subst d;rw[ao rfl,ex,ey];refine⟨x,rfl,?_⟩;rcases bX.mp (j7 ex).1 with z|z
   .exact(et.mp z).1
   .exact z
  .rw[ak d];rcases bX.mp hj with z|z
   .exact I.out j z
   .exact absurd (cu.mp z) d
theorem E3.fold(S:lE n ts homes st):∀ {ls p:List Nat} {g:List (Option Nat)},E3 n ts st g p->(∀l∈ls,∃y,l<st.length/\st.getD l none=some y/\y<n)->(p++ls).Nodup->E3 n ts st (ls.foldl (B8 n ts homes st) g) (p++ls)
 |[],p,g,I,_,_=>by rw[ja];exact I
 |l::ls,p,g,I,h,nd=>by
  rw[gY,show p++l::ls=(p++[l])++ls by simp];rw[show p++l::ls=(p++[l])++ls by simp] at nd;obtain⟨y,a,b,c⟩:=h l bR;refine E3.fold S (I.step S a b c fun z=>?_) (fun j hj=>h j (cD _ hj)) nd;exact(jp.mp (jp.mp nd).1).2.2 l z l bR rfl
noncomputable def ug(n:Nat)(ts:Ts)(homes:List Nat)(st:List (Option Nat))(gj:List Nat)(gg:Nat):List (Option Nat):=if gg=4 then gj.foldl (B8 n ts homes st) (List.replicate st.length none) else IT n ts homes st gj
theorem IW{a:Nat}(h:g.getD a none=some x)(hl:l<g.length):(zV n ts st g l).getD a none=some x:=by
 unfold zV;split
 .rename_i c;rw[lG hl,ak (by rintro rfl;rw[c] at h;cases h)];exact h
 .exact h
theorem IX:(zV n ts st g l).length=g.length:=by unfold zV;split <;> simp
theorem zB{a:Nat}:∀ {ls:List Nat} {g:List (Option Nat)},g.getD a none=some x->(∀l∈ls,l<g.length)->(ls.foldl (zV n ts st) g).getD a none=some x
 |[],g,h,_=>h
 |l::ls,g,h,k=>zB (ls:=ls) (IW h (k l bR)) fun j hj=>by rw[IX];exact k j (cD _ hj)
theorem PQ{gj:List Nat}(gg:Nat)(F:bK n ts)(S:lE n ts homes st)(pm:gj.Perm (mZ st st.length)):Hd n ts st (ug n ts homes st gj gg)/\∀l r,gj=l::r->∃y x,st.getD l none=some y/\(ug n ts homes st gj gg).getD l none=some x/\x∈dP n ts y (homes.getD l 0):=by
 have al:=DH S pm;have nd:=IU pm;have uo:∀ {l y},st.getD l none=some y->l∈gj:=fun h=>pm.mem_iff.mpr (Cf h);have gd:∀l∈gj,∃y o os,st.getD l none=some y/\dP n ts y (homes.getD l 0)=o::os:=fun l hl=>by
  obtain⟨y,a,b,c⟩:=al l hl;have hh:l<homes.length:=by rw[S.len];exact a
  obtain⟨o,os,e⟩:=Lq F c (x:=homes.getD l 0) (by rw[cE hh];exact S.hs _ (gv _)) (fun z=>(S.ss l y (by rw[xu (d:=none) a,b])).2 (by rw[xu (d:=0) hh,z]));exact⟨y,o,os,b,e⟩
 have st0:∀l r,gj=l::r->l∈gj/\l∉r/\(∀j∈r,j<st.length)/\l<st.length:=fun l r e=>by
  subst e;obtain⟨_,a,_⟩:=al l bR;exact⟨bR,(fL.mp nd).1,fun j hj=>let ⟨_,a,_⟩:=al j (cD _ hj);a,a⟩
 by_cases w4:gg=4
 .rw[show ug n ts homes st gj gg=gj.foldl (B8 n ts homes st) (List.replicate st.length none) from ao w4];have i3:=E3.fold S (homes:=homes) (g:=List.replicate st.length none) (p:=[]) ⟨gm,(fun j k y _ hy=>by rw[qg] at hy;cases hy),fun l _=>qg,fun l hl=>(nomatch hl)⟩ al nd;rw[AC] at i3;refine⟨⟨i3.len,fun j hj=>i3.cB j fun z=>(by obtain⟨y,_,e,_⟩:=al j z;rw[hj] at e;cases e),fun j y hj=>?_,i3.inj⟩,fun l r e=>?_⟩
  .obtain⟨x,a,b⟩:=i3.out j (uo hj);rw[hj] at b;exact⟨x,a,b⟩
  .obtain⟨a,b,c,d⟩:=st0 l r e;obtain⟨y,o,os,ey,eg⟩:=gd l a;refine⟨y,o,ey,?_,by rw[eg];exact bR⟩;rw[e,gY];refine(fold_at (f:=fun g l=>ky st g l (dP n ts ((st.getD l none).getD 0) (homes.getD l 0)++bq n ts ((st.getD l none).getD 0))) (fun j hj=>by unfold B8;rw[gy,gm];exact c j hj) b).trans ?_;unfold B8;rw[lG (by rw[gm];exact d),ao rfl,ey,kL,eg,List.cons_append,DI fun a=>qg]
 .rw[show ug n ts homes st gj gg=IT n ts homes st gj from ak w4];refine⟨(PP S pm).hd,fun l r e=>?_⟩;obtain⟨a,b,c,d⟩:=st0 l r e;obtain⟨y,o,os,ey,eg⟩:=gd l a;refine⟨y,o,ey,?_,by rw[eg];exact bR⟩;have gl:∀ {ls:List Nat} {g:List (Option Nat)},(ls.foldl (zA n ts homes st) g).length=g.length:=fun {ls}=>by
   induction ls with
   |nil=>intro g;rfl
   |cons j ls ih=>intro g;rw[gY,ih];unfold zA;rw[gy]
  unfold IT;refine zB ?_ fun j hj=>by rw[gl,gm];obtain⟨_,z,_⟩:=al j hj;exact z
  rw[e,gY];refine(fold_at (f:=fun g l=>ky st g l (dP n ts ((st.getD l none).getD 0) (homes.getD l 0))) (fun j hj=>by unfold zA;rw[gy,gm];exact c j hj) b).trans ?_;unfold zA;rw[lG (by rw[gm];exact d),ao rfl,ey,kL,eg,DI fun a=>qg]
end
abbrev Cg:Stmt:=top 53
abbrev IY:Stmt:=top 54
theorem m9:(["_law_k","_law_pot_here","_law_size"]:List Str).Nodup:=by decide +kernel
theorem lH:(["_law_mark","_law_letter"]:List Str).Nodup:=by decide +kernel
theorem PU{X:Cx}{H:Hp}{os:List Nat}:∀i,i<(NV os).length->i<(NV os).length->Wa X H 0 ((NV os).getD i .cB) ((NV os).getD i .cB):=fun i h _=>by
 rw[bW,bQ h,kL,rX];exact KW
noncomputable def Ch(ts:Ts)(homes:List Nat)(st:List (Option Nat))(bt:Int)(ranks:List Int):Nat->Nat->Int
 |0,_=>0
 |1,l=>i6 ts homes st l
 |2,l=>-i6 ts homes st l
 |3,l=>((l:Nat)+bt) % ((homes.length:Nat):Int)
 |4,_=>0
 |_,l=>ranks.getD l 0
theorem PV{ts:Ts}{homes:List Nat}{st:List (Option Nat)}{bt:Int}{ranks:List Int}{gg l:Nat}(h:gg<6):ya [V.int 0,.int (i6 ts homes st l),.int (-i6 ts homes st l),.int (((l:Nat)+bt) % ((homes.length:Nat):Int)),.int 0,.int (ranks.getD l 0)] (gg:Int)=some (.int (Ch ts homes st bt ranks gg l)):=by
 match gg,h with
 |0,_=>exact aB (j:=0) rfl
 |1,_=>exact aB (j:=1) rfl
 |2,_=>exact aB (j:=2) rfl
 |3,_=>exact aB (j:=3) rfl
 |4,_=>exact aB (j:=4) rfl
 |5,_=>exact aB (j:=5) rfl
theorem Lr{kz:Nat->Int}{us:List Nat}{zs jG:Zs}(e:zp zs=us.map fun l=>(kz l,ci l))(pm:jG.Perm zs)(gj:Oz (zp jG)):∃out:List Nat,(jG.map fun z=>V.int z.2.2)=NV out/\out.Perm us/\out.Pairwise (xM kz):=by
 have pz:(zp jG).Perm (us.map fun l=>(kz l,ci l)):=by rw[<-e];exact pm.map _
 have mem:∀u∈zp jG,∃l∈us,u=(kz l,ci l):=fun u hu=>by
  obtain⟨l,hl,e⟩:=bj.mp (pz.mem_iff.mp hu);exact⟨l,hl,e.symm⟩
 refine⟨(zp jG).map fun u=>u.2.toNat,?_,?_,?_⟩
 .unfold zp NV;rw[dk,dk];refine jo fun z hz=>?_;obtain⟨l,_,el⟩:=mem z.2 (bj.mpr ⟨z,hz,rfl⟩);show V.int z.2.2=V.int ((z.2.2.toNat:Nat):Int);rw[el];rfl
 .have:=pz.map fun u=>u.2.toNat;rw[dk] at this;refine this.trans ?_;rw[show ((fun u:Int×Int=>u.2.toNat) ∘ fun l=>(kz l,ci l))=id from funext fun l=>rfl,jP]
 .refine fu.mpr (gj.imp_of_mem fun {u v} hu hv h=>?_);obtain⟨l,_,rfl⟩:=mem u hu;obtain⟨m,_,rfl⟩:=mem v hv;exact h
theorem PX(b:∀n∈us,n<64):∀ {l1 l2:List Nat},l1.Perm us->l2.Perm us->l1.Pairwise (xM kz)->l2.Pairwise (xM kz)->l1=l2:=fun {l1 l2} p1 p2 s1 s2=>by
 refine List.Perm.eq_of_pairwise (le:=xM kz) (fun x y hx hy h1 h2=>?_) s1 s2 (p1.trans p2.symm);have:=b x (p1.mem_iff.mp hx);have:=b y (p2.mem_iff.mp hy);unfold xM at h1 h2;lia
section
variable {P:Program} {w:World} {K:PySem.W.Frag} {mg:Str->Option Value} {base:Heap}
theorem DJ:aR ["_law_pot_here","_law_many","_law_size"] ["_law_pot_here","_law_many"] (av Cg):=⟨rfl,rfl,rfl,by decide +kernel,rfl,by decide +kernel,by decide +kernel⟩
def xE:Sp:=fun vs H Q _=>∃ (p:Addr) (m:Nat),vs=[.ref p,.int (m:Nat)]/\bf H p/\m<=16/\∀ (t:Addr) (ranks:List Int) (H':Hp),aI p H H'->bf H' p->H' t=some (.tup (ranks.map V.int))->ranks.length=m->Q (.ref t) H'
theorem IZ(F:ig K "_law_ranks" "_law_ranks" Cg f fd)(B:Bl mg)(TK:dL P w K mg base bg 1 "_law_take" ["_law_pot_here","_law_many"] gO):bA P w K mg base bg 2 f fd ["_law_pot_here","_law_many"] xE:=by
 refine F.ok DJ (fun vs H Q E h=>?_) (fun eY A outer s H vs Q E hr h=>?_)
 .obtain⟨p,m,rfl,_⟩:=h;rfl
 .obtain⟨p,m,rfl,hp,m1,q⟩:=h;refine'⟨_,(aj (aU (i:=2) DJ.nd rfl (Or.inr rfl) (aV aL (cS (aa az (aa (aY k_ az (aY AR az az)) ag))) (aH TK hr aN (aa (pv 0) (aa az ag))) (fun _ _=>rfl)))
   (au (a_ (cJ gR (by rfl) B.tup l8 (aa ?c1 ag))))),?_⟩
  case c1=>
   refine' cL (g:=(bv 0)) (te:=(kr (zM fun i j=>.int (i-j)) (nC gO [] E0 (bo (a9 1) (bo (a9 2) gI))) (kr (rI R1 fun i j=>.int (i / j)) (a9 2) (tC (.int 2))))) (NB:=["_law_k","_law_pot_here","_law_size"]) (src:=[none,some 0,some 2]) (bp (by kernel_rfl)) rfl (bz rfl B.range (aa (pv 1) ag)) ?g ?t ?e;case g=>exact fun cl C s₃ H₃ fp=>(aA (i:=0) m9 rfl (Or.inl rfl) (Or.inr rfl))
   case t=>exact fun cl C s₃ H₃ fp=>dz
   case e=>exact fun cl C s₃ H₃ fp=>(aY jV (aH TK hr aN (aa (pv 1) (aa (pv 2) ag))) (aY qU (pv 2) az))
  have e59:((10:Int) ^ Int.toNat 59)=100000000000000000000000000000000000000000000000000000000000:=by decide +kernel
  refine⟨_,_,rfl,rfl,⟨by decide,by decide,by decide⟩,_,_,rfl,rfl,?_,by show 2<=sizeLine;decide,fun l hl=>?_⟩
  .exact .inl ⟨by decide,by decide⟩
  have sl:=ai (o:=.lst [V.int 3,.int (2*10 ^ Int.toNat 59)]) hl;refine⟨_,rfl,p,2,rfl,by decide,by decide,hp.same sl,fun d H1 hd s1 ng=>?_⟩;have gl:=s1 _ _ (ae (H:=H) (a:=l) (o:=.lst [V.int 3,.int (2*10 ^ Int.toNat 59)])) (hp.ne hl);have s01:aI p H H1:=(aI.of sl).trans s1;obtain⟨z,hz,z0,z1⟩:∃z:Nat,ya [V.int 3,.int (2*10 ^ Int.toNat 59)] (d:Int)=some (.int (z:Nat))/\0<z/\z<2 ^ 200:=by
   rcases(show d=0\/d=1 by lia) with rfl|rfl
   .exact⟨3,aB (j:=0) rfl,by decide,by decide⟩
   .refine⟨200000000000000000000000000000000000000000000000000000000000,?_,by decide,by decide⟩;rw[e59];exact aB (j:=1) rfl
  refine⟨l,_,_,_,rfl,rfl,aW.of gl,hz,?_⟩;clear gl hz;refine⟨_,rfl,(m:Nat),rfl,by lia,by lia,fun D hD=>?_⟩;have nD:D≠p:=ng.ne hD;rw[gu];refine eR (fun i ys σ H2=>(∃x,σ=[x,some (.ref p),some (.int (z:Nat))])/\aI p H1 H2/\bf H2 p/\H2 D=some (.lst ys)/\∃rs:List Int,ys=rs.map V.int/\rs.length=i) ⟨⟨_,rfl⟩,aI.of (ai hD),ng.same (ai hD),ae,[],rfl,rfl⟩ ?_ ?_
  .rintro i ys σ H2 Kt Kf hi ⟨⟨x,rfl⟩,s2,wU,jH,rs,rfl,rl⟩ kt kf;refine⟨_,rfl,_,rfl,p,z,rfl,z0,z1,wU,fun e H3 he s3 ni=>⟨_,rfl,_,_,rfl,rfl,⟨by decide,by decide⟩,_,_,rfl,rfl,?_⟩⟩;refine kt _ _ _ (s3 _ _ jH nD) (by rw[aT,rl];exact bi (show i<17 by lia) (by decide)) ⟨⟨_,rfl⟩,fun b o e' n=>?_,?_,ae,rs++[_],by rw[cW];rfl,by rw[dh,rl];rfl⟩
   .rw[ap (am e' hD)];exact s3 _ _ (s2 _ _ e' n) n
   .exact ni.put nD.symm
  .rintro ys σ H2 ⟨_,s2,wU,jH,rs,rfl,rl⟩;refine⟨D,_,rfl,.inl ⟨aW.of jH,fun t ht=>?_⟩⟩;exact q t rs _ ((s01.trans s2).trans (aI.of (ai ht))) (wU.same (ai ht)) ae rl
theorem uh:aR ["_law_way","_law_far_here","_law_homes","_law_stand","_law_beat_here","_law_ranks_here","_law_found","_law_letter","_law_house","_law_left"] ["_law_way","_law_far_here","_law_homes","_law_stand","_law_beat_here","_law_ranks_here"] (av IY):=⟨rfl,rfl,rfl,by decide +kernel,rfl,by decide +kernel,by decide +kernel⟩
def Cj:Sp:=fun vs H Q _=>∃ (gg:Nat) (fa ha sa ra:Addr) (bt:Int) (n:Nat) (ts:Ts) (L:Addr->Prop) (homes:List Nat) (st:List (Option Nat)) (ranks:List Int),vs=[.int (gg:Nat),.ref fa,.ref ha,.ref sa,.int bt,.ref ra]/\gg<6/\bV H L fa n (fun h=>(List.range n).map (far ts h))/\L fa/\H ha=some (.tup (NV homes))/\H sa=some (.tup (st.map oV))/\im n homes st/\H ra=some (.tup (ranks.map V.int))/\ranks.length=homes.length/\
 ∀ (r:Addr) (H':Hp) (out:List Nat),aO H H'->H r=none->H' r=some (.lst (NV out))->out.Perm (mZ st st.length)->out.Pairwise (xM (Ch ts homes st bt ranks gg))->Q (.ref r) H'
theorem Ls{f:Addr}{fd:FuncData}(F:ig K "_law_order" "_law_order" IY f fd)(B:Bl mg)(hE:mg "enumerate"=none):bA P w K mg base bg 1 f fd ["_law_way","_law_far_here","_law_homes","_law_stand","_law_beat_here","_law_ranks_here"] Cj:=by
 refine F.ok uh (fun vs H Q E h=>?_) (fun eY A outer s H vs Q E hr h=>?_)
 .obtain⟨gg,fa,ha,sa,ra,bt,n,ts,L,homes,st,ranks,rfl,_⟩:=h;rfl
 .obtain⟨gg,fa,ha,sa,ra,bt,n,ts,L,homes,st,ranks,rfl,w6,RF,hLf,hH,hS,LO,hR,rl,q⟩:=h;refine'⟨_,(aj (aU (i:=6) uh.nd rfl (Or.inl rfl) (cS ag))
   (aj (cP dU rfl (tE rfl hE (aa (pv 3) ag)) (dA (n:=2) rfl (aG (aA (i:=7) uh.nd rfl (Or.inl rfl)) (aG (aA (i:=8) uh.nd rfl (Or.inl rfl)) cr)))
    (au (cC (aQ jW (pv 8) eN (a8 _)) (aj (aU (i:=9) uh.nd rfl (Or.inl rfl) (aV aL (aV aL (pv 1) (pv 8) (fun _ _=>rfl)) (aV eE (pv 2) (pv 7) (fun _ _=>rfl)) (fun _ _=>rfl)))
     (au (bY (gE gk jm jl cK (pv 6) (aa (cQ (aa (aV aL (cS (aa az (aa (pv 9) (aa (xW sJ (pv 9)) (aa (aY iE (aY cZ (pv 7) (pv 4)) (aD aM (by rfl) B.len dW (aa (pv 2) ag))) (aa az (aa (aV eE (pv 5) (pv 7) (fun _ _=>rfl)) ag))))))) (pv 0) (fun _ _=>rfl)) (aa (pv 7) ag))) ag))))) bh)))
   (au (a_ ?c1)))),?_⟩
  case c1=>
   refine' cL (g:=(uq K 2 (fW (bv 0) (fW (bv 1) um)))) (te:=(a9 1)) (NB:=["_law_mark","_law_letter"]) (src:=[none,none]) (bp (by kernel_rfl)) rfl (bT (aD Bq (by rfl) B.sorted l7 (aa (pv 6) ag))) ?g ?t ?e;case g=>exact fun cl C s₃ H₃ fp=>(dA (n:=2) rfl (aG (aA (i:=0) lH rfl (Or.inl rfl) (Or.inr rfl)) (aG (aA (i:=1) lH rfl (Or.inl rfl) (Or.inr rfl)) cr)))
   case t=>exact fun cl C s₃ H₃ fp=>dz
   case e=>exact fun cl C s₃ H₃ fp=>(pv 1)
  refine⟨by show 0<=sizeLine;decide,fun Fo Rm=>?_⟩;have sF:=ai (o:=.lst []) Rm;have le:=LO.le;refine⟨_,rfl,sa,_,rfl,bP.of (sF _ _ hS),vj (K:=K) (xs:=st.map oV) (fun i σ Hc=>∃zs:Zs,(∃x7 x8 x9,σ=[some (.int (gg:Nat)),some (.ref fa),some (.ref ha),some (.ref sa),some (.int bt),some (.ref ra),some (.ref Fo),x7,x8,x9])/\aO H Hc/\Hc Fo=some (.lst (zr zs))/\PO Hc zs/\zp zs=(mZ st i).map fun l=>(Ch ts homes st bt ranks gg l,ci l)) ⟨[],⟨_,_,_,rfl⟩,sF,ae,PO.nil,rfl⟩ (fun i σ Hc _ ⟨zs,z⟩=>bP.of (z.2.1 _ _ hS)) ?_ ?_⟩
  .rintro i x t σ Hc hx ⟨zs,⟨x7,x8,x9,rfl⟩,sc,E_,po,ez⟩ ht;obtain⟨hi,rfl⟩:=IJ hx;have aE:=ai (o:=.tup [.int (i:Int),oV (st.getD i none)]) ht;refine⟨t,_,rfl,bP.of ae,rfl,_,_,rfl,_,_,rfl,rfl,?_⟩;refine⟨_,rfl,rfl,_,rfl,?_⟩;rw[DA];have s1:=sc.trans aE;have Pm:=aE _ _ E_;have M4:=po.same aE;generalize upd Hc t _=H1 at *;clear ht aE;refine fZ (fun e=>?_) (fun e=>?_)
   .obtain⟨_,y,ey,hy,FG⟩:=LO.at (et.mpr ⟨bD.mpr hi,e⟩);obtain⟨bs,b,r1,r2,r3,_⟩:=(RF.keep hLf (fun b o _ e=>s1 b o e)).row hy;have hg:(NV ((List.range n).map (far ts y)))[homes.getD i 0]?=some (.int (far ts y (homes.getD i 0):Nat)):=by
     rw[bU,bU,fQ FG];rfl
    have en:((far ts y (homes.getD i 0):Nat):Int)=i6 ts homes st i:=by unfold i6;rw[ey];rfl
    rw[ey];refine⟨_,rfl,_,rfl,fa,_,_,_,rfl,rfl,aW.of r1,aB r2,_,rfl,_,rfl,ha,_,_,_,rfl,rfl,bP.of (s1 _ _ hH),aB (ik (by rw[LO.len];exact hi)),b,_,_,_,rfl,rfl,aW.of r3,aB hg,?_⟩;rw[en];refine⟨_,rfl,.inl ⟨rfl,_,aW.of Pm⟩,_,rfl,_,rfl,_,rfl,_,rfl,_,rfl,_,_,rfl,rfl,_,rfl,ha,_,rfl,.inr (bP.of (s1 _ _ hH)),_,_,rfl,rfl,?_,_,rfl,_,rfl,ra,_,_,.int (ranks.getD i 0),rfl,rfl,bP.of (s1 _ _ hR),aB ?_,by show 6<=sizeLine;decide,fun L6 hL6=>?_⟩
    .rw[be,LO.len];lia
    .rw[bU,bW,bQ (show i<ranks.length by rw[rl,LO.len];exact hi)];rfl
    rw[be];have s6:=ai (o:=.lst [V.int 0,.int (i6 ts homes st i),.int (-i6 ts homes st i),.int (((i:Nat)+bt) % ((homes.length:Nat):Int)),.int 0,.int (ranks.getD i 0)]) hL6;refine⟨_,rfl,L6,_,_,_,rfl,rfl,aW.of ae,PV w6,_,rfl,by show 2<=sizeLine;decide,fun t2 T7=>?_⟩;have s7:=s6.trans (ai (o:=oj (Ch ts homes st bt ranks gg i,ci i)) T7);refine⟨Fo,_,_,rfl,rfl,s7 _ _ Pm,?_,zs++[(t2,(Ch ts homes st bt ranks gg i,ci i))],⟨_,_,_,rfl⟩,br (s1.trans s7) Rm,by rw[ae,eC];rfl,PO.putL (xs:=zr zs) ((M4.same s7).append (PO.one ae)) (s7 _ _ Pm),?_⟩
    .rw[dB,<-bB,ez,aT];exact eK j6 (bi (show i<17 by lia) (by decide))
    .rw[eD,ez,oA,ao e,cW];rfl
   .refine⟨zs,⟨_,_,_,rfl⟩,s1,Pm,M4,?_⟩;rw[oA,ak e,ja];exact ez
  .rintro σ Hc ⟨zs,⟨x7,x8,x9,rfl⟩,sc,E_,po,ez⟩;rw[aT] at ez;have zl:zs.length<=16:=by rw[<-bB,ez,aT];exact aX j6 le
   refine⟨_,rfl,MT ?_⟩;refine HC E_ po (by lia) (fun u hu=>?_) (by rw[ez];exact fu.mpr (lR.imp fun {a b} h=>by show (a:Int)<(b:Int);lia)) fun D jG hD pm gj=>⟨D,rfl,⟨_,aW.of ae⟩,fun D2 jH=>?_⟩
   .rw[ez] at hu;obtain⟨l,hl,rfl⟩:=bj.mp hu;have:=(iZ hl).1;show 0<=ci l/\ci l<64;show (0:Int)<=(l:Int)/\(l:Int)<64;lia
   obtain⟨out,eo,op,pw⟩:=Lr ez pm gj;have sD:=ai (o:=.lst (zr jG)) hD;have xm:PO (upd Hc D (.lst (zr jG))) jG:=fun z hz=>sD _ _ (po z (pm.mem_iff.mp hz));refine Dp jG (fun z=>V.ref z.1) (fun z=>V.int z.2.2) (fun σ=>∃a b,σ=[a,b]) ae jH (by rw[pm.length_eq];lia) ⟨_,_,rfl⟩ ?_ ?_
   .rintro z σ H2 R Kf hz ⟨a,b,rfl⟩ sm kk;exact⟨z.1,_,rfl,bP.of (sm _ _ (xm z hz)),rfl,_,_,rfl,_,_,rfl,rfl,_,rfl,kk _ _ ⟨_,_,rfl⟩ (aO.refl _)⟩
   .intro H2 sm on;rw[eo] at on;exact q D2 H2 out (sc.trans (sD.trans sm)) (sc.free (sD.free jH)) on op pw
end
abbrev Rn:List Str:=["self","net","homes","stand","beat"]
theorem zC(a:PE X e t1)(b:PE X e t2):PE X e (fun σ H Q=>t1 σ H Q\/t2 σ H Q):=fun af s σ H Q I h=>h.elim (a af s σ H Q I) (b af s σ H Q I)
structure M9(K:PySem.W.Frag)(mg:Str->Option Value)(nm:Str)(CB Ci:Addr)(bt:Bool):Prop where
 cl:Fm K Ci
 Ju:mg nm=some (.ref Ci)
 ha:PySem.W.findIn K (.ref Ci) "__class__"=some (some (.builtin "object.__class__"))
 hn:PySem.W.specialIn K (.builtin "object.__class__") "__get__"=some (some (.builtin "getset_descriptor.__get__"))
 R8:PySem.W.takesIn K (.builtin "object.__class__")=some true
 hm:PySem.W.mroIn K Ci (.type "object")=some true
 kt:PySem.W.kitOne K (.ref Ci) (.ref CB)=some bt
theorem M9.ty(T:M9 K mg nm CB Ci bt)(e:H a=some (.ins Ci d fs)):Mm K H (.ref a) (.ref Ci):=.of (.ins e T.cl T.ha T.hn T.R8 T.hm)
structure kB(PN PF PT PR:Addr)(H:Hp):Prop where
 n:xy PN H
 f:xz PF H
 t:xA PT H
 r:xB PR H
theorem kB.same{PN PF PT PR:Addr}{H H':Hp}(t:kB PN PF PT PR H)(s:aO H H'):kB PN PF PT PR H':=⟨t.n.same s,t.f.same s,t.t.same s,t.r.same s⟩
def KQ(PN PF PT PR:Addr)(H H':Hp):Prop:=∀b o,H b=some o->b≠PN->b≠PF->b≠PT->b≠PR->H' b=some o
def KN(H H':Hp):Prop:=∀b o,H b=some o->Re o->H' b=some o
theorem KQ.kn{PN PF PT PR:Addr}{H H':Hp}(k:KQ PN PF PT PR H H')(t:kB PN PF PT PR H):KN H H':=fun b o e n=>k b o e (t.n.not e n) (t.f.not e n) (t.t.not e n) (t.r.not e n)
theorem KQ.of{PN PF PT PR:Addr}{H H':Hp}(s:aO H H'):KQ PN PF PT PR H H':=fun b o e _ _ _ _=>s b o e
theorem KQ.trans{PN PF PT PR:Addr}{H H1 H2:Hp}(a:KQ PN PF PT PR H H1)(b:KQ PN PF PT PR H1 H2):KQ PN PF PT PR H H2:=fun c o e n1 n2 n3 n4=>b c o (a c o e n1 n2 n3 n4) n1 n2 n3 n4
theorem _root_.L2.dt.kh(t:dt lp q P H)(s:lw P' H H')(hp:∃ps,H P'=some (.iR ps))(n:P≠P'):dt lp q P H':=by
 obtain⟨ps,hp⟩:=hp;rcases t with z|⟨c,z,y⟩
 .exact .inl (s _ _ z n)
 .exact .inr ⟨c,s _ _ z n,s _ _ y (by rintro rfl;rw[hp] at y;cases y)⟩
theorem _root_.L2.dt.iR(t:dt lp q P H):∃ps,H P=some (.iR ps):=by
 rcases t with z|⟨c,z,y⟩
 .exact⟨_,z⟩
 .exact⟨_,z⟩
def Rl(CE CN CF CT CI CR:Addr)(ranks:List Int)(H:Hp):Nat->Addr->Prop
 |0,a=>∃d,H a=some (.ins CE d [])
 |1,a=>∃d,H a=some (.ins CN d [])
 |2,a=>∃d,H a=some (.ins CF d [])
 |3,a=>∃d,H a=some (.ins CT d [])
 |4,a=>∃d,H a=some (.ins CI d [])
 |_,a=>xw CR H a ranks
theorem Rl.kn{CE CN CF CT CI CR:Addr}{ranks:List Int}{H H':Hp}{gg:Nat}{a:Addr}(h:Rl CE CN CF CT CI CR ranks H gg a)(k:KN H H'):Rl CE CN CF CT CI CR ranks H' gg a:=by
 match gg,h with
 |0,⟨d,e⟩=>exact⟨d,k _ _ e (fun ps z=>by cases z)⟩
 |1,⟨d,e⟩=>exact⟨d,k _ _ e (fun ps z=>by cases z)⟩
 |2,⟨d,e⟩=>exact⟨d,k _ _ e (fun ps z=>by cases z)⟩
 |3,⟨d,e⟩=>exact⟨d,k _ _ e (fun ps z=>by cases z)⟩
 |4,⟨d,e⟩=>exact⟨d,k _ _ e (fun ps z=>by cases z)⟩
 |n+5,⟨d,ra,e,e'⟩=>exact⟨d,ra,k _ _ e (fun ps z=>by cases z),k _ _ e' (fun ps z=>by cases z)⟩
section
variable {K:PySem.W.Frag} {C CE CN CF CT CI CR PN PF PT PR:Addr}
abbrev tO(Ci:Addr)(sp:Sp):TE:=Cy Ci "order" sp [] E0 (a9 0) (bo (a9 1) (bo (a9 2) (bo (a9 3) (bo (a9 4) gI))))
abbrev tOU(C CE CN CF CT CI CR PN PF PT PR:Addr):TE:=fun σ H Q=>tO CE uf σ H Q\/(fun σ H Q=>tO CN (Ca C PN) σ H Q\/(fun σ H Q=>tO CF (Cb C PF) σ H Q\/(fun σ H Q=>tO CT (Cc PT) σ H Q\/(fun σ H Q=>tO CI uf σ H Q\/tO CR (Ce CR PR) σ H Q) σ H Q) σ H Q) σ H Q) σ H Q
theorem PY:([("ranks",v)]:List (Str×V)).lookup ("order":Str)=none:=by
 rw[fT];rw[show (("order":Str)==("ranks":Str))=false by decide +kernel];rfl
theorem DK:(mZ st i).Pairwise (xM fun _=>0):=lR.imp fun {a b} h=>by unfold xM;lia
theorem UC(nd:[PN,PF,PT,PR].Nodup)(tb:kB PN PF PT PR H)(N:dw C H L px n ts)(he:H ha=some (.tup (NV homes)))(se:H sa=some (.tup (st.map oV)))(LO:im n homes st)(b0:0<=bt)(rl:ranks.length=homes.length)(w6:gg<6)(ra:Rl CE CN CF CT CI CR ranks H gg a)(q:∀ (r:Addr) (H':Hp) (out:List Nat),kB PN PF PT PR H'->KQ PN PF PT PR H H'->H r=none->out.Perm (mZ st st.length)->out.Pairwise (xM (Ch ts homes st bt ranks gg))->H' r=some (.lst (NV out))->Q (.ref r) H'):
  tOU C CE CN CF CT CI CR PN PF PT PR [some (.ref a),some (.ref px),some (.ref ha),some (.ref sa),some (.int bt),x5,x6] H Q:=by
 simp only[fL,bb,kJ,not_or,iA,not_false_eq_true,jK,and_true] at nd;obtain⟨⟨n1,n2,n3⟩,⟨n4,n5⟩,n6⟩:=nd;have kq:∀ {P H'},(P=PN\/P=PF\/P=PT\/P=PR)->lw P H H'->KQ PN PF PT PR H H':=fun h s b o e m1 m2 m3 m4=>s b o e (by rcases h with rfl|rfl|rfl|rfl <;> assumption)
 match gg,w6,ra,q with
 |0,_,⟨d,e⟩,q=>exact .inl ⟨_,rfl,a,d,_,rfl,e,rfl,_,rfl,_,rfl,_,rfl,_,rfl,_,_,_,_,sa,st,rfl,se,LO.le,fun r H' s Fc hr=>q r H' _ (tb.same s) (KQ.of s) Fc (hW _) DK hr⟩
 |1,_,⟨d,e⟩,q=>exact .inr (.inl ⟨_,rfl,a,d,_,rfl,e,rfl,_,rfl,_,rfl,_,rfl,_,rfl,_,_,_,px,ha,sa,n,ts,homes,st,rfl,N,he,se,LO,tb.n,fun r H' out t' s Fc op pw hr=>q r H' out ⟨t',tb.f.kh s tb.n.iR (dv n1),tb.t.kh s tb.n.iR (dv n2),tb.r.kh s tb.n.iR (dv n3)⟩ (kq (.inl rfl) s) Fc op pw hr⟩)
 |2,_,⟨d,e⟩,q=>exact .inr (.inr (.inl ⟨_,rfl,a,d,_,rfl,e,rfl,_,rfl,_,rfl,_,rfl,_,rfl,_,_,_,px,ha,sa,n,ts,homes,st,rfl,N,he,se,LO,tb.f,fun r H' out t' s Fc op pw hr=>q r H' out ⟨tb.n.kh s tb.f.iR n1,t',tb.t.kh s tb.f.iR (dv n4),tb.r.kh s tb.f.iR (dv n5)⟩ (kq (.inr (.inl rfl)) s) Fc op pw hr⟩))
 |3,_,⟨d,e⟩,q=>exact .inr (.inr (.inr (.inl ⟨_,rfl,a,d,_,rfl,e,rfl,_,rfl,_,rfl,_,rfl,_,rfl,_,_,bt,ha,sa,n,homes,st,rfl,b0,he,se,LO,tb.t,fun r H' out t' s Fc op pw hr=>q r H' out ⟨tb.n.kh s tb.t.iR n2,tb.f.kh s tb.t.iR n4,t',tb.r.kh s tb.t.iR (dv n6)⟩ (kq (.inr (.inr (.inl rfl))) s) Fc op pw hr⟩)))
 |4,_,⟨d,e⟩,q=>exact .inr (.inr (.inr (.inr (.inl ⟨_,rfl,a,d,_,rfl,e,rfl,_,rfl,_,rfl,_,rfl,_,rfl,_,_,_,_,sa,st,rfl,se,LO.le,fun r H' s Fc hr=>q r H' _ (tb.same s) (KQ.of s) Fc (hW _) DK hr⟩))))
 |5,_,rk,q=>
  have rk:xw CR H a ranks:=rk;obtain⟨d,ra',e,e'⟩:=id rk;exact .inr (.inr (.inr (.inr (.inr ⟨_,rfl,a,d,_,rfl,e,PY,_,rfl,_,rfl,_,rfl,_,rfl,_,_,a,ha,sa,n,ranks,homes,st,rfl,rk,rl,he,se,LO,tb.r,fun r H' out t' s Fc op pw hr=>q r H' out ⟨tb.n.kh s tb.r.iR n3,tb.f.kh s tb.r.iR n5,tb.t.kh s tb.r.iR n6,t'⟩ (kq (.inr (.inr (.inr rfl))) s) Fc op pw hr⟩))))
end
section
variable {P:Program} {w:World} {K:PySem.W.Frag} {mg:Str->Option Value} {base:Heap}
structure UD(P:Program)(w:World)(K:PySem.W.Frag)(mg:Str->Option Value)(base:Heap)(C CE CN CF CT CI CR PN PF PT PR:Addr):Prop where
 e:M9 K mg "Elder" CI CE false
 n:M9 K mg "Nearest" CI CN false
 f:M9 K mg "Farthest" CI CF false
 t:M9 K mg "Turns" CI CT false
 i:M9 K mg "InTurn" CI CI true
 r:M9 K mg "Ranked" CI CR false
 nd:[PN,PF,PT,PR].Nodup
 oE:iL P w K mg base bg 2 CE "order" Rn uf
 oN:iL P w K mg base bg 9 CN "order" Rn (Ca C PN)
 oF:iL P w K mg base bg 9 CF "order" Rn (Cb C PF)
 oT:iL P w K mg base bg 9 CT "order" Rn (Cc PT)
 oI:iL P w K mg base bg 2 CI "order" Rn uf
 oR:iL P w K mg base bg 9 CR "order" Rn (Ce CR PR)
theorem UD.ty{C CE CN CF CT CI CR PN PF PT PR:Addr}(R:UD P w K mg base C CE CN CF CT CI CR PN PF PT PR){H:Hp}{ranks:List Int}{gg a:Nat}(w6:gg<6)(h:Rl CE CN CF CT CI CR ranks H gg a):∃t,PySem.W.kitOne K t (.ref CI)=some (decide (gg=4))/\Mm K H (.ref a) t:=by
 match gg,w6,h with
 |0,_,⟨d,e⟩=>exact⟨_,R.e.kt,R.e.ty e⟩
 |1,_,⟨d,e⟩=>exact⟨_,R.n.kt,R.n.ty e⟩
 |2,_,⟨d,e⟩=>exact⟨_,R.f.kt,R.f.ty e⟩
 |3,_,⟨d,e⟩=>exact⟨_,R.t.kt,R.t.ty e⟩
 |4,_,⟨d,e⟩=>exact⟨_,R.i.kt,R.i.ty e⟩
 |5,_,rk=>
  obtain⟨d,ra',e,e'⟩:=(show xw CR H a ranks from rk)
  exact⟨_,R.r.kt,R.r.ty e⟩
end
abbrev Zp:Stmt:=top 24
section
variable {P:Program} {w:World} {K:PySem.W.Frag} {mg:Str->Option Value} {base:Heap}
theorem PZ:aR ["net","homes","stand","letters","goes","letter"] ["net","homes","stand","letters","goes"] (av Zp):=⟨rfl,rfl,rfl,by decide +kernel,rfl,by decide +kernel,by decide +kernel⟩
def P0(C:Addr):Sp:=fun vs H Q _=>∃ (L:Addr->Prop) (px ha sa la ga:Addr) (n:Nat) (ts:Ts) (homes os:List Nat) (st gs:List (Option Nat)),vs=[.ref px,.ref ha,.ref sa,.ref la,.ref ga]/\dw C H L px n ts/\¬ L ga/\H ha=some (.tup (NV homes))/\H sa=some (.tup (st.map oV))/\im n homes st/\(∀l∈os,l∈mZ st st.length)/\H la=some (.lst (NV os))/\la≠ga/\H ga=some (.lst (gs.map oV))/\gs.length=st.length/\
 ∀H',aI ga H H'->H' ga=some (.lst ((os.foldl (zV n ts st) (os.foldl (zA n ts homes st) gs)).map oV))->Q .cB H'
theorem xF:∀ {ls:List Nat} {gs:List (Option Nat)},(ls.foldl (zA n ts homes st) gs).length=gs.length
 |[],gs=>rfl
 |l::ls,gs=>by rw[gY,xF];unfold zA;rw[gy]
theorem DL:∀ {ls:List Nat} {gs:List (Option Nat)},(ls.foldl (zV n ts st) gs).length=gs.length
 |[],gs=>rfl
 |l::ls,gs=>by rw[gY,DL];unfold zV;split <;> simp
theorem UE(F:ig K "hand_eagerly" "hand_eagerly" Zp f fd)(T:NT K mg C)(MG:iL P w K mg base bg 6 C "good" ["self","house","home"] (rC C))(MO:iL P w K mg base bg 5 C "out" ["self","house"] (xa C))(FF:dL P w K mg base bg 1 "first_free" ["others","stand","goes","letter"] Lk):
  bA P w K mg base bg 7 f fd ["net","homes","stand","letters","goes"] (P0 C):=by
 obtain⟨fG,fdG,mG,bG,GG⟩:=MG.ex;obtain⟨fO,fdO,mO,bO,GO⟩:=MO.ex;refine F.ok PZ (fun vs H Q E h=>?_) (fun eY A outer s H vs Q E hr h=>?_)
 .obtain⟨L,px,ha,sa,la,ga,n,ts,homes,os,st,gs,rfl,_⟩:=h;rfl
 .obtain⟨L,px,ha,sa,la,ga,n,ts,homes,os,st,gs,rfl,N,WA,hH,hS,LO,ho,hL,UF,hG,gl,q⟩:=h;have h1:cg 1 _:=hr.mono (by decide);have h5:cg 5 _:=hr.mono (by decide);refine⟨_,(aj (cP dU rfl (bT (pv 3)) (aA (i:=5) PZ.nd rfl (Or.inl rfl))
    (au (dM (aH FF h1 aN (aa (dG (pv 0) T.cl mG GG hr bG .nil aN (aa (aV eE (pv 2) (pv 5) (fun _ _=>rfl)) (aa (aV eE (pv 1) (pv 5) (fun _ _=>rfl)) ag))) (aa (pv 2) (aa (pv 4) (aa (pv 5) ag))))) (fX (pv 4) (pv 5) dH))))
   (au (cP dU rfl (bT (pv 3)) (aA (i:=5) PZ.nd rfl (Or.inl rfl))
    (au (cC (aQ wr (aV aL (pv 4) (pv 5) (fun _ _=>rfl)) eN (a8 _)) (au (dM (aH FF h1 aN (aa (dG (pv 0) T.cl mO GO h5 bO .nil aN (aa (aV eE (pv 2) (pv 5) (fun _ _=>rfl)) ag)) (aa (pv 2) (aa (pv 4) (aa (pv 5) ag))))) (fX (pv 4) (pv 5) dH))) bh))))),?_⟩
  have n2:=N.j4.n2;have WB:px≠ga:=by obtain⟨dx,fs,a,_⟩:=N.Fb;rintro rfl;rw[a] at hG;cases hG
  have Zq:ha≠ga:=by rintro rfl;rw[hH] at hG;cases hG
  have WC:sa≠ga:=by rintro rfl;rw[hS] at hG;cases hG
  refine⟨_,rfl,la,rfl,⟨_,aW.of hL⟩,fY (K:=K) (xs:=NV os) (fun j σ Hc=>(∃x,σ=[some (.ref px),some (.ref ha),some (.ref sa),some (.ref la),some (.ref ga),x])/\aI ga H Hc/\Hc ga=some (.lst (((os.take j).foldl (zA n ts homes st) gs).map oV))) ⟨⟨_,rfl⟩,aI.refl,hG⟩ (fun j σ Hc _ z=>aW.of (z.2.1 _ _ hL UF)) ?_ ?_⟩
  .rintro j x σ Hc hx ⟨⟨x5,rfl⟩,sc,uj⟩;obtain⟨l,hv,rfl⟩:=qy hx;obtain⟨hl,y,ey,hy,FG⟩:=LO.at (ho l (cU hv));have tk:os.take (j+1)=os.take j++[l]:=by rw[gX,hv];rfl
   rw[tk,Aq,gY,AH];have P1:((os.take j).foldl (zA n ts homes st) gs).length=st.length:=by rw[xF,gl]
   generalize (os.take j).foldl (zA n ts homes st) gs=g at *;have Nc:=N.keep (fun b o l e=>sc b o e (by rintro rfl;exact WA l)) (fun o e=>sc _ _ e WB);have Lh:=sc _ _ hH Zq;have vB:=sc _ _ hS WC;obtain⟨dx,fs,i1,i2,i3⟩:=Nc.Fb;refine⟨_,rfl,px,dx,fs,rfl,i1,i2,_,rfl,_,rfl,sa,_,_,_,rfl,rfl,bP.of vB,aB (jE hl),?_⟩;rw[ey];have lg:(dP n ts y (homes.getD l 0)).length<=n:=aX (ix _ _) rD;refine⟨_,rfl,_,rfl,ha,_,_,_,rfl,rfl,bP.of Lh,aB (ik (by rw[LO.len];exact hl)),L,px,n,ts,y,homes.getD l 0,rfl,Nc,hy,FG,fun r1 H1 s1 Jv g1=>?_⟩;refine⟨_,rfl,_,rfl,_,rfl,r1,sa,ga,dP n ts y (homes.getD l 0),st,g,l,rfl,g1,s1 _ _ vB,s1 _ _ uj,P1,LO.le,hl,fun H4 s4=>?_⟩;have zD:=s1.trans s4;refine⟨_,rfl,_,rfl,ga,_,(l:Int),l,rfl,rfl,zD _ _ uj,eh (by rw[aT,P1];exact hl),⟨_,rfl⟩,fun b o e m=>by rw[ap m];exact zD _ _ (sc _ _ e m),?_⟩;rw[ae];unfold zA;rw[ey,List.map_set];rfl
  .rintro σ Hc ⟨⟨x5,rfl⟩,sc,uj⟩;rw[be,j9] at uj;have P1:(os.foldl (zA n ts homes st) gs).length=st.length:=by rw[xF,gl]
   generalize os.foldl (zA n ts homes st) gs=g0 at *;refine⟨_,rfl,la,rfl,⟨_,aW.of (sc _ _ hL UF)⟩,fY (K:=K) (xs:=NV os) (fun j σ Hc=>(∃x,σ=[some (.ref px),some (.ref ha),some (.ref sa),some (.ref la),some (.ref ga),x])/\aI ga H Hc/\Hc ga=some (.lst (((os.take j).foldl (zV n ts st) g0).map oV))) ⟨⟨_,rfl⟩,sc,uj⟩ (fun j σ Hc _ z=>aW.of (z.2.1 _ _ hL UF)) ?_ ?_⟩
   .clear sc uj;rintro j x σ Hc hx ⟨⟨x5,rfl⟩,sc,uj⟩;obtain⟨l,hv,rfl⟩:=qy hx;obtain⟨hl,y,ey,hy,FG⟩:=LO.at (ho l (cU hv));have tk:os.take (j+1)=os.take j++[l]:=by rw[gX,hv];rfl
    rw[tk,Aq,gY,AH];have Zr:((os.take j).foldl (zV n ts st) g0).length=st.length:=by rw[DL,P1]
    generalize (os.take j).foldl (zV n ts st) g0=g at *;have Nc:=N.keep (fun b o l e=>sc b o e (by rintro rfl;exact WA l)) (fun o e=>sc _ _ e WB);have vB:=sc _ _ hS WC;obtain⟨dx,fs,i1,i2,i3⟩:=Nc.Fb;refine⟨_,rfl,_,rfl,ga,_,_,_,rfl,rfl,aW.of uj,aB (jE (by rw[Zr];exact hl)),rfl,_,rfl,?_⟩;unfold zV;cases eg:g.getD l none with
    |some z=>refine hU rfl ⟨⟨_,rfl⟩,sc,?_⟩;rw[ak (fun z=>by cases z)];exact uj
    |none=>
    rw[ao rfl];refine l4 rfl ⟨_,rfl,px,dx,fs,rfl,i1,i3,_,rfl,_,rfl,sa,_,_,_,rfl,rfl,bP.of vB,aB (jE hl),?_⟩;rw[ey];refine⟨L,px,n,ts,y,rfl,Nc,hy,fun r1 H1 s1 Jv g1=>?_⟩;have lo:=rD (n:=n) (ts:=ts) (h:=y);refine⟨_,rfl,_,rfl,_,rfl,r1,sa,ga,bq n ts y,st,g,l,rfl,g1,s1 _ _ vB,s1 _ _ uj,Zr,LO.le,hl,fun H4 s4=>?_⟩;have zD:=s1.trans s4;refine⟨_,rfl,_,rfl,ga,_,(l:Int),l,rfl,rfl,zD _ _ uj,eh (by rw[aT,Zr];exact hl),⟨_,rfl⟩,fun b o e m=>by rw[ap m];exact zD _ _ (sc _ _ e m),?_⟩;rw[ae,List.map_set];rfl
   .rintro σ Hc ⟨⟨x5,rfl⟩,sc,uj⟩;rw[be,j9] at uj;exact q Hc sc uj
theorem DM{n:Nat}{ts:Ts}{homes:List Nat}{st:List (Option Nat)}:∀ {ls:List Nat} {gs:List (Option Nat)},(ls.foldl (B8 n ts homes st) gs).length=gs.length
 |[],gs=>rfl
 |l::ls,gs=>by rw[gY,DM];unfold B8;rw[gy]
theorem P3:aR ["net","homes","stand","letters","goes","letter","house"] ["net","homes","stand","letters","goes"] (av Ze):=⟨rfl,rfl,rfl,by decide +kernel,rfl,by decide +kernel,by decide +kernel⟩
def P4(C:Addr):Sp:=fun vs H Q _=>∃ (L:Addr->Prop) (px ha sa la ga:Addr) (n:Nat) (ts:Ts) (homes os:List Nat) (st gs:List (Option Nat)),vs=[.ref px,.ref ha,.ref sa,.ref la,.ref ga]/\dw C H L px n ts/\¬ L ga/\H ha=some (.tup (NV homes))/\H sa=some (.tup (st.map oV))/\im n homes st/\(∀l∈os,l∈mZ st st.length)/\H la=some (.lst (NV os))/\la≠ga/\H ga=some (.lst (gs.map oV))/\gs.length=st.length/\
 ∀H',aI ga H H'->H' ga=some (.lst ((os.foldl (B8 n ts homes st) gs).map oV))->Q .cB H'
theorem UG(F:ig K "hand_in_turn" "hand_in_turn" Ze f fd)(T:NT K mg C)(MG:iL P w K mg base bg 6 C "good" ["self","house","home"] (rC C))(MO:iL P w K mg base bg 5 C "out" ["self","house"] (xa C))(FF:dL P w K mg base bg 1 "first_free" ["others","stand","goes","letter"] Lk):
  bA P w K mg base bg 7 f fd ["net","homes","stand","letters","goes"] (P4 C):=by
 obtain⟨fG,fdG,mG,bG,GG⟩:=MG.ex;obtain⟨fO,fdO,mO,bO,GO⟩:=MO.ex;refine F.ok P3 (fun vs H Q E h=>?_) (fun eY A outer s H vs Q E hr h=>?_)
 .obtain⟨L,px,ha,sa,la,ga,n,ts,homes,os,st,gs,rfl,_⟩:=h;rfl
 .obtain⟨L,px,ha,sa,la,ga,n,ts,homes,os,st,gs,rfl,N,WA,hH,hS,LO,ho,hL,UF,hG,gl,q⟩:=h;have h1:cg 1 _:=hr.mono (by decide);have h5:cg 5 _:=hr.mono (by decide);refine⟨_,(au (cP dU rfl (bT (pv 3)) (aA (i:=5) P3.nd rfl (Or.inl rfl))
    (aj (aU (i:=6) P3.nd rfl (Or.inl rfl) (aV eE (pv 2) (pv 5) (fun _ _=>rfl)))
    (au (dM (aH FF h1 aN (aa (aY wC (dG (pv 0) T.cl mG GG hr bG .nil aN (aa (pv 6) (aa (aV eE (pv 1) (pv 5) (fun _ _=>rfl)) ag))) (dG (pv 0) T.cl mO GO h5 bO .nil aN (aa (pv 6) ag))) (aa (pv 2) (aa (pv 4) (aa (pv 5) ag))))) (fX (pv 4) (pv 5) dH)))))),?_⟩
  have n2:=N.j4.n2;have WB:px≠ga:=by obtain⟨dx,fs,a,_⟩:=N.Fb;rintro rfl;rw[a] at hG;cases hG
  have Zq:ha≠ga:=by rintro rfl;rw[hH] at hG;cases hG
  have WC:sa≠ga:=by rintro rfl;rw[hS] at hG;cases hG
  refine⟨_,rfl,la,rfl,⟨_,aW.of hL⟩,fY (K:=K) (xs:=NV os) (fun j σ Hc=>(∃x y,σ=[some (.ref px),some (.ref ha),some (.ref sa),some (.ref la),some (.ref ga),x,y])/\aI ga H Hc/\Hc ga=some (.lst (((os.take j).foldl (B8 n ts homes st) gs).map oV))) ⟨⟨_,_,rfl⟩,aI.refl,hG⟩ (fun j σ Hc _ z=>aW.of (z.2.1 _ _ hL UF)) ?_ ?_⟩
  .rintro j x σ Hc hx ⟨⟨x5,x6,rfl⟩,sc,uj⟩;obtain⟨l,hv,rfl⟩:=qy hx;obtain⟨hl,y,ey,hy,FG⟩:=LO.at (ho l (cU hv));have tk:os.take (j+1)=os.take j++[l]:=by rw[gX,hv];rfl
   rw[tk,Aq,gY,AH];have P1:((os.take j).foldl (B8 n ts homes st) gs).length=st.length:=by rw[DM,gl]
   generalize (os.take j).foldl (B8 n ts homes st) gs=g at *;have Nc:=N.keep (fun b o l e=>sc b o e (by rintro rfl;exact WA l)) (fun o e=>sc _ _ e WB);have Lh:=sc _ _ hH Zq;have vB:=sc _ _ hS WC;obtain⟨dx,fs,i1,i2,i3⟩:=Nc.Fb;refine⟨_,rfl,_,rfl,sa,_,_,_,rfl,rfl,bP.of vB,aB (jE hl),?_⟩;rw[ey];refine⟨_,rfl,px,dx,fs,rfl,i1,i2,_,rfl,_,rfl,_,rfl,ha,_,_,_,rfl,rfl,bP.of Lh,aB (ik (by rw[LO.len];exact hl)),L,px,n,ts,y,homes.getD l 0,rfl,Nc,hy,FG,fun r1 H1 s1 Jv g1=>?_⟩;refine⟨_,rfl,px,dx,fs,rfl,s1 _ _ i1,i3,_,rfl,L,px,n,ts,y,rfl,Nc.same s1,hy,fun r2 H2 s2 hr2 g2=>?_⟩;have lg:(dP n ts y (homes.getD l 0)).length<=n:=aX (ix _ _) rD;have lo:=rD (n:=n) (ts:=ts) (h:=y);refine⟨r1,r2,_,_,rfl,rfl,s2 _ _ g1,g2,by rw[be,be];exact aX (show _<=64 by lia) (by decide),fun r3 zz=>?_⟩;have s3:=ai (o:=.lst (NV (dP n ts y (homes.getD l 0))++NV (bq n ts y))) zz;have P5:=(s1.trans s2).trans s3;refine⟨_,rfl,_,rfl,_,rfl,r3,sa,ga,dP n ts y (homes.getD l 0)++bq n ts y,st,g,l,rfl,by rw[ae];unfold NV;rw[cW],P5 _ _ vB,P5 _ _ uj,P1,LO.le,hl,fun H4 s4=>?_⟩;have zD:=P5.trans s4;refine⟨_,rfl,_,rfl,ga,_,(l:Int),l,rfl,rfl,zD _ _ uj,eh (by rw[aT,P1];exact hl),⟨_,_,rfl⟩,fun b o e m=>by rw[ap m];exact zD _ _ (sc _ _ e m),?_⟩;rw[ae];unfold B8;rw[ey,List.map_set];rfl
  .rintro σ Hc ⟨⟨x5,x6,rfl⟩,sc,uj⟩;rw[be,j9] at uj;exact q Hc sc uj
theorem Ck:aR ["rule","net","homes","stand","beat","letters","goes"] ["rule","net","homes","stand","beat"] (av II):=⟨rfl,rfl,rfl,by decide +kernel,rfl,by decide +kernel,by decide +kernel⟩
def Cm(C CE CN CF CT CI CR PN PF PT PR:Addr):Sp:=fun vs H Q _=>∃ (L:Addr->Prop) (a px ha sa:Addr) (bt:Int) (gg n:Nat) (ts:Ts) (homes:List Nat) (st:List (Option Nat)) (ranks:List Int),vs=[.ref a,.ref px,.ref ha,.ref sa,.int bt]/\gg<6/\Rl CE CN CF CT CI CR ranks H gg a/\dw C H L px n ts/\H ha=some (.tup (NV homes))/\H sa=some (.tup (st.map oV))/\im n homes st/\0<=bt/\ranks.length=homes.length/\kB PN PF PT PR H/\
 ∀ (t:Addr) (H':Hp) (gj:List Nat),kB PN PF PT PR H'->KQ PN PF PT PR H H'->gj.Perm (mZ st st.length)->gj.Pairwise (xM (Ch ts homes st bt ranks gg))->H' t=some (.tup ((ug n ts homes st gj gg).map oV))->Q (.ref t) H'
theorem Lu{f C CE CN CF CT CI CR PN PF PT PR:Addr}{fd:FuncData}(F:ig K "hand" "hand" II f fd)(B:Bl mg)(R:UD P w K mg base C CE CN CF CT CI CR PN PF PT PR)(HT:dL P w K mg base bg 7 "hand_in_turn" ["net","homes","stand","letters","goes"] (P4 C))(HE:dL P w K mg base bg 7 "hand_eagerly" ["net","homes","stand","letters","goes"] (P0 C)):
  bA P w K mg base bg 10 f fd ["rule","net","homes","stand","beat"] (Cm C CE CN CF CT CI CR PN PF PT PR):=by
 obtain⟨f1,d1,m1,b1,G1⟩:=R.oE.ex;obtain⟨f2,d2,m2,b2,G2⟩:=R.oN.ex;obtain⟨f3,d3,m3,b3,G3⟩:=R.oF.ex;obtain⟨f4,d4,m4,b4,G4⟩:=R.oT.ex;obtain⟨f5,d5,m5,b5,G5⟩:=R.oI.ex;obtain⟨f6,d6,m6,b6,G6⟩:=R.oR.ex;refine F.ok Ck (fun vs H Q E h=>?_) (fun eY A outer s H vs Q E hr h=>?_)
 .obtain⟨L,a,px,ha,sa,bt,gg,n,ts,homes,st,ranks,rfl,_⟩:=h;rfl
 .obtain⟨L,a,px,ha,sa,bt,gg,n,ts,homes,st,ranks,rfl,w6,hR,N,hH,hS,LO,b0,UH,tb,q⟩:=h;have h1:cg 1 _:=hr.mono (by decide);have h2:cg 2 _:=hr.mono (by decide);have h7:cg 7 _:=hr.mono (by decide);refine'⟨_,(aj (aU (i:=5) Ck.nd rfl (Or.inl rfl) (zC (dG (pv 0) R.e.cl m1 G1 h2 b1 .nil aN (aa (pv 1) (aa (pv 2) (aa (pv 3) (aa (pv 4) ag))))) (zC (dG (pv 0) R.n.cl m2 G2 hr b2 .nil aN (aa (pv 1) (aa (pv 2) (aa (pv 3) (aa (pv 4) ag))))) (zC (dG (pv 0) R.f.cl m3 G3 hr b3 .nil aN (aa (pv 1) (aa (pv 2) (aa (pv 3) (aa (pv 4) ag))))) (zC (dG (pv 0) R.t.cl m4 G4 hr b4 .nil aN (aa (pv 1) (aa (pv 2) (aa (pv 3) (aa (pv 4) ag))))) (zC (dG (pv 0) R.i.cl m5 G5 h2 b5 .nil aN (aa (pv 1) (aa (pv 2) (aa (pv 3) (aa (pv 4) ag))))) (dG (pv 0) R.r.cl m6 G6 hr b6 .nil aN (aa (pv 1) (aa (pv 2) (aa (pv 3) (aa (pv 4) ag)))))))))))
   (aj (eQ (i:=6) (g:=(bv 0)) (te:=(tC .cB)) (NB:=["home"]) (src:=[none]) (bp (by kernel_rfl)) rfl (F3 (pv 2)) ?g1 ?t1 ?e1 Ck.nd rfl rfl rfl)
   (aj (cC (iD (aD Ef (by rfl) B.MN qh (aa (pv 0) (aa (qT (v:=.ref CI) rfl R.i.Ju rfl) ag)))) (au (bY (aH HT h7 aN (aa (pv 1) (aa (pv 2) (aa (pv 3) (aa (pv 5) (aa (pv 6) ag)))))))) (au (bY (aH HE h7 aN (aa (pv 1) (aa (pv 2) (aa (pv 3) (aa (pv 5) (aa (pv 6) ag)))))))))
   (au (a_ (cJ gR (by rfl) B.tup l8 (aa (pv 6) ag))))))),?_⟩
  case g1=>exact fun cl C s₃ H₃ fp=>(aA (i:=0) Li rfl (Or.inl rfl) (Or.inr rfl))
  case t1=>exact fun cl C s₃ H₃ fp=>dz
  case e1=>exact fun cl C s₃ H₃ fp=>eN
  refine UC (CE:=CE) (CN:=CN) (CF:=CF) (CT:=CT) (CI:=CI) (CR:=CR) (L:=L) R.nd tb N hH hS LO b0 UH w6 hR fun la H1 gj t1 k1 la0 op pw t_=>?_;have kn:=k1.kn tb;have WD:=kn _ _ hH (fun ps z=>by cases z);have ins:∃dx fs,H px=some (.ins C dx fs):=let ⟨dx,fs,a,_⟩:=N.Fb;⟨dx,fs,a⟩;have N1:dw C H1 (fun b=>H1 b≠none) px n ts:=by
   obtain⟨dx,fs,a⟩:=ins;exact(N.Ww.keep (fun b o l e=>by obtain⟨_,o',e',n⟩:=l;rw[e] at e';cases e';exact kn b o e n) fun o e=>kn _ _ e (by rw[a] at e;cases e;exact fun ps z=>by cases z)).own
  refine⟨_,rfl,ha,rfl,⟨_,bP.of WD⟩,fun ga hg=>?_⟩;refine zm (K:=K) (a:=ha) (xs:=NV homes) (fun i ys σ H2=>(∃x,σ=[x])/\aO H1 H2/\H2 ga=some (.lst ys)/\ys=List.replicate i V.cB) ⟨⟨_,rfl⟩,ai hg,ae,rfl⟩ (fun i ys σ H2 _ z=>bP.of (z.2.1 _ _ WD)) ?_ ?_
  .rintro i x ys σ H2 Kt Kf hx ⟨⟨x',rfl⟩,sm,HP,rfl⟩ kt kf;have hi:i<homes.length:=by have:=(b9.mp hx).1;rwa [be] at this
   have:=LO.len;have:=LO.le;exact kt _ _ _ HP (by rw[gm];exact bi (show i<17 by lia) (by decide)) ⟨⟨_,rfl⟩,br sm hg,ae,by rw[vR]⟩
  rintro ys σ H2 ⟨_,sm,HP,rfl⟩;rw[be,LO.len,show V.cB=oV none from rfl,<-List.map_replicate] at HP;have uI:=(hR.kn kn).kn (fun b o e _=>sm b o e);obtain⟨tt,kt,ty⟩:=R.ty w6 uI;have E7:=sm _ _ (kn _ _ hS (fun ps z=>by cases z));refine⟨_,rfl,.ref a,CI,tt,decide (gg=4),rfl,kt,ty,_,rfl,?_⟩;have dQ:∀H3:Hp,aI ga H2 H3->H3 ga=some (.lst ((ug n ts homes st gj gg).map oV))->∀t:Addr,H3 t=none->Q (.ref t) (upd H3 t (.tup ((ug n ts homes st gj gg).map oV))):=fun H3 s3 Ro t ht=>by
   have k3:∀b o,H1 b=some o->(upd H3 t (.tup ((ug n ts homes st gj gg).map oV))) b=some o:=fun b o e=>ai ht _ _ (s3 _ _ (sm _ _ e) (am e hg));exact q t _ gj (t1.same k3) (fun b o e n1 n2 n3 n4=>k3 _ _ (k1 b o e n1 n2 n3 n4)) op pw ae
  by_cases w4:gg=4
  .rw[show ug n ts homes st gj gg=gj.foldl (B8 n ts homes st) (List.replicate st.length none) from ao w4] at dQ;refine l4 (ie w4) ⟨_,rfl,_,rfl,_,rfl,_,rfl,_,rfl,fun b=>H1 b≠none,px,ha,sa,la,ga,n,ts,homes,gj,st,_,rfl,N1.same sm,fun z=>z hg,sm _ _ WD,E7,LO,fun l hl=>op.mem_iff.mp hl,sm _ _ t_,am t_ hg,HP,by rw[gm],fun H3 s3 Ro=>?_⟩;exact⟨_,rfl,ga,_,rfl,.inl ⟨aW.of Ro,dQ H3 s3 Ro⟩⟩
  .rw[show ug n ts homes st gj gg=IT n ts homes st gj from ak w4] at dQ;refine hU (gw w4) ⟨_,rfl,_,rfl,_,rfl,_,rfl,_,rfl,fun b=>H1 b≠none,px,ha,sa,la,ga,n,ts,homes,gj,st,_,rfl,N1.same sm,fun z=>z hg,sm _ _ WD,E7,LO,fun l hl=>op.mem_iff.mp hl,sm _ _ t_,am t_ hg,HP,by rw[gm],fun H3 s3 Ro=>?_⟩;exact⟨_,rfl,ga,_,rfl,.inl ⟨aW.of Ro,dQ H3 s3 Ro⟩⟩
end
end qx
namespace L2
open PySem PySem.Spec PyProof.Rows
theorem Lv{K:PySem.W.Frag}{a b:Addr}{xs ys:List V}{g:TG}{tb:TS}{D:wm}{σ:St}{H:Hp}(vk:xs.length=ys.length)(Pv:Nat->St->Hp->Prop)(h0:Pv 0 σ H)(hl:∀i σ H,i<=xs.length->Pv i σ H->bP K H a xs/\bP K H b ys)(hs:∀i x y p σ H,xs[i]?=some x->ys[i]?=some y->Pv i σ H->H p=none->g (.ref p) σ (upd H p (.tup [x,y])) fun σ2 H2=>tb { D with nx:=Pv (i+1),ct:=Pv (i+1),bk:=D.nx } σ2 H2)(hd:∀σ H,Pv xs.length σ H->D.nx σ H):
  ∃W:Nat->Nat->St->Hp->Prop,(∃m,W 0 m σ H)/\∀i m σ H,W i m σ H->
   ((Td K a b).stop i H/\D.nx σ H)\/((Td K a b).go i H/\∃N:St->Hp->Prop,(∀σ' H',N σ' H'->∃m',m'<m/\W (i+1) m' σ' H')/\∀x H',(Td K a b).Mf i H x H'->g x σ H' fun σ2 H2=>tb { D with nx:=N,ct:=N,bk:=D.nx } σ2 H2):=by
 refine⟨fun i m σ H=>m=xs.length-i/\i<=xs.length/\Pv i σ H,⟨xs.length,by simp,bE _,h0⟩,?_⟩;rintro i m σ H ⟨rfl,hi,p⟩;obtain⟨q1,q2⟩:=hl i σ H hi p;by_cases dZ:i<xs.length
 .have G_:i<ys.length:=by lia
  refine .inr ⟨⟨xs,ys,xs[i],ys[i],q1,q2,by simp[dZ],by simp[G_]⟩,Pv (i+1),fun σ' H' p'=>⟨xs.length-(i+1),by lia,rfl,dZ,p'⟩,?_⟩;rintro v H' ⟨pp,x,y,rfl,hn,rfl,Tf,hv2⟩;exact hs i x y pp σ _ (Tf xs q1) (hv2 ys q2) p hn
 .have e:i=xs.length:=by lia
  subst e;exact .inl ⟨⟨xs,q1,aK _⟩,hd σ H p⟩
end L2
namespace qx
open PySem L2 jy
abbrev Zt:Stmt:=top 55
abbrev Zu:Stmt:=top 56
theorem I0{n:Nat}{ts:Ts}{a b:Nat}(h:b<n):(NV ((List.range n).map (far ts a)))[b]?=some (.int ((far ts a b:Nat):Int)):=by
 unfold NV;rw[bU,bU,fQ h];rfl
noncomputable def M_(ts:Ts)(homes:List Nat)(st fs:List (Option Nat))(i:Nat):Bool:=match st.getD i none with
 |none=>false
 |some h=>decide (far ts ((fs.getD i none).getD 0) (homes.getD i 0)<far ts h (homes.getD i 0))
noncomputable def Na(ts:Ts)(homes:List Nat)(st fs:List (Option Nat))(i:Nat):List Nat:=(List.range i).filter (M_ ts homes st fs)
theorem zE{ts:Ts}{homes:List Nat}{st fs:List (Option Nat)}{i:Nat}:Na ts homes st fs (i+1)=Na ts homes st fs i++if M_ ts homes st fs i=true then [i] else []:=by
 unfold Na;rw[jr,gn,dS];rfl
theorem Lw{ts:Ts}{homes:List Nat}{st fs:List (Option Nat)}{i:Nat}:(Na ts homes st fs i).length<=i:=aX (ix _ _) (by rw[cG];exact aK _)
theorem DN{xs:List Nat}:(NV xs).all fN=true:=by unfold NV;rw[List.all_map];exact i_.mpr fun x _=>rfl
theorem I_{x:Nat}:∀ {xs:List Nat},CD (.int (x:Int)) (NV xs)=decide (x∈xs)
 |[]=>rfl
 |y::ys=>by
  have ih:=I_ (x:=x) (xs:=ys);unfold CD NV at *;rw[fv,jM,ih];by_cases e:y=x
  .subst e;simp[sV]
  .have e':¬ x=y:=fun z=>e z.symm;have e2:¬ (y:Int)=(x:Int):=fun z=>e (du z);have e3:¬ (x:Int)=(y:Int):=fun z=>e' (du z);simp[sV,e',e2,e3]
theorem im.get{n:Nat}{homes:List Nat}{st:List (Option Nat)}{i y:Nat}(S:im n homes st)(h:st.getD i none=some y):i<st.length/\y<n/\homes.getD i 0<n:=by
 obtain⟨a,y',b,c,d⟩:=S.at (Cf h);rw[h] at b;cases b;exact⟨a,c,d⟩
section
variable {P:Program} {w:World} {K:PySem.W.Frag} {mg:Str->Option Value} {base:Heap}
theorem Lx:aR ["_law_outs_here","_law_stand","_law_told","_law_gone","_law_house","_law_other"] ["_law_outs_here","_law_stand","_law_told"] (av Zt):=⟨rfl,rfl,rfl,by decide +kernel,rfl,by decide +kernel,by decide +kernel⟩
def P6:Sp:=fun vs H Q _=>∃ (L:Addr->Prop) (oa sa ta:Addr) (n:Nat) (ts:Ts) (homes:List Nat) (st fs:List (Option Nat)),vs=[.ref oa,.ref sa,.ref ta]/\bV H L oa n (bq n ts)/\H sa=some (.tup (st.map oV))/\H ta=some (.tup (fs.map oV))/\im n homes st/\Hd n ts st fs/\n<=32/\∀H',aO H H'->Q (.bl true) H'
theorem UI{f:Addr}{fd:FuncData}(F:ig K "_law_is_right" "_law_is_right" Zt f fd)(B:Bl mg)(B2:Q3 mg):bA P w K mg base bg 1 f fd ["_law_outs_here","_law_stand","_law_told"] P6:=by
 refine F.ok Lx (fun vs H Q E h=>?_) (fun eY A outer s H vs Q E hr h=>?_)
 .obtain⟨L,oa,sa,ta,n,ts,homes,st,fs,rfl,_⟩:=h;rfl
 .obtain⟨L,oa,sa,ta,n,ts,homes,st,fs,rfl,RO,hS,hT,LO,hd,n2,q⟩:=h;refine⟨_,(aj (cC (PW.pt (sw (k6 (iD (aD iI (by rfl) B.MN qh (aa (pv 2) (aa (jS (v:=.ty "tuple") rfl B.tup l8 rfl) ag))))) (pI (aQ uS (aD aM (by rfl) B.len dW (aa (pv 2) ag)) (aD aM (by rfl) B.len dW (aa (pv 1) ag)) (a8 _))))) (au (a_ qj)) bh)
   (aj (aU (i:=3) Lx.nd rfl (Or.inl rfl) (cS ag))
   (aj (cP dU rfl (Ko rfl B2.zip (aa (pv 1) (aa (pv 2) ag))) (dA (n:=2) rfl (aG (aA (i:=4) Lx.nd rfl (Or.inl rfl)) (aG (aA (i:=5) Lx.nd rfl (Or.inl rfl)) cr)))
    (aj (cC (PW.pt (sw (PW.pt (mH (aQ wr (pv 4) eN (a8 _)) (jT (aQ jW (pv 5) eN (a8 _))))) (pI (PW.pt (mH (aQ jW (pv 4) eN (a8 _)) (jT (aQ nI (pv 5) (aV aL (pv 0) (pv 4) (fun _ _=>rfl)) rfl))))))) (au (a_ qj)) bh)
    (aj (cC (PW.pt (mH (aQ jW (pv 4) eN (a8 _)) (jT (PW.pt (sw (iD (aD iI (by rfl) B.MN qh (aa (pv 5) (aa (jS (v:=.ty "bool") rfl B.bool PyProof.Rows.boot_bool rfl) ag)))) (pI (aQ (Oo hr.u) (cQ (aa (pv 4) (aa (pv 5) ag))) (pv 3) rfl))))))) (au (a_ qj)) bh)
    (au (cC (aQ jW (pv 4) eN (a8 _)) (au (bY (gE gk jm jl cK (pv 3) (aa (cQ (aa (pv 4) (aa (pv 5) ag))) ag)))) bh)))))
   (au (a_ qj))))),?_⟩
  have fl:=hd.len;have le:=LO.le;refine⟨_,rfl,_,_,_,.type "tuple",true,rfl,⟨rfl,w9⟩,.of (.tup hT),true,rfl,iH ⟨_,rfl,ta,_,rfl,.inr (bP.of hT),_,rfl,sa,_,rfl,.inr (bP.of hS),rfl,_,rfl,?_⟩⟩;rw[aT,aT,fl];refine hU (by simp) ⟨by show 0<=sizeLine;decide,fun G hG=>?_⟩;have sG:=ai (o:=.lst []) hG;refine⟨_,rfl,_,rfl,sa,ta,_,_,rfl,bP.of (sG _ _ hS),bP.of (sG _ _ hT),by rw[aT,aT,fl],?_⟩;refine Lv (K:=K) (xs:=st.map oV) (ys:=fs.map oV) (by rw[aT,aT,fl]) (fun i σ Hc=>(∃u v,σ=[some (.ref oa),some (.ref sa),some (.ref ta),some (.ref G),u,v])/\aO H Hc/\∃zs:Zs,Hc G=some (.lst (zr zs))/\PO Hc zs/\zs.length<=i/\∀u∈zp zs,∃j y x:Nat,j<i/\st.getD j none=some y/\fs.getD j none=some x/\u=(ci y,ci x)) ⟨⟨_,_,rfl⟩,sG,[],ae,PO.nil,aK _,fun u hu=>(nomatch hu)⟩ (fun i σ Hc _ z=>⟨bP.of (z.2.1 _ _ hS),bP.of (z.2.1 _ _ hT)⟩) ?_ (fun σ Hc ⟨⟨u,v,e⟩,sc,_⟩=>q Hc sc);rintro i x y pp σ Hc hx hy ⟨⟨u,v,rfl⟩,sc,zs,uj,po,zl,zi⟩ Rp;have hi:i<st.length:=by have:=(b9.mp hx).1;rwa [aT] at this
  rw[jE hi] at hx;rw[jE (by rw[fl];exact hi)] at hy;obtain rfl:=bN hx;obtain rfl:=bN hy;have sp:=ai (o:=.tup [oV (st.getD i none),oV (fs.getD i none)]) Rp;refine⟨pp,_,rfl,bP.of ae,rfl,_,_,rfl,_,_,rfl,rfl,?_⟩;have s2:=sc.trans sp;have Zv:=sp _ _ uj;have xm:=po.same sp;generalize upd Hc pp _=H2 at *;have zi':∀u∈zp zs,∃j y x:Nat,j<i+1/\st.getD j none=some y/\fs.getD j none=some x/\u=(ci y,ci x):=fun u hu=>let ⟨j,y,x,a,b⟩:=zi u hu;⟨j,y,x,by lia,b⟩;cases ho:st.getD i none with
  |none=>
   rw[hd.cB i ho];exact⟨_,rfl,rfl,_,rfl,l4 rfl ⟨_,rfl,rfl,_,rfl,hU rfl ⟨_,rfl,rfl,_,rfl,hU rfl (hU rfl ⟨_,rfl,rfl,_,rfl,hU rfl (hU rfl ⟨_,rfl,rfl,_,rfl,hU rfl ⟨⟨_,_,rfl⟩,s2,zs,Zv,xm,by lia,zi'⟩⟩)⟩)⟩⟩⟩
  |some h=>
   obtain⟨y,ey,hy⟩:=hd.out i h ho;rw[ey];obtain⟨_,hn,_⟩:=LO.get ho;obtain⟨bs,b,r1,r2,r3,_⟩:=RO.row hn;refine⟨_,rfl,rfl,_,rfl,hU rfl ⟨_,rfl,rfl,_,rfl,l4 rfl ⟨_,rfl,_,rfl,_,rfl,oa,_,_,_,rfl,rfl,aW.of (s2 _ _ r1),aB r2,b,_,rfl,.inl (aW.of (s2 _ _ r3)),rfl,DN,_,rfl,hU (by show (if true=true then !CD _ _ else _)=false;rw[ao rfl];show (!CD (V.int (y:Int)) (NV (bq n ts h)))=false;rw[I_,ie hy];rfl) ?_⟩⟩⟩;refine⟨_,rfl,rfl,_,rfl,l4 rfl ⟨_,rfl,_,_,_,.type "int",false,rfl,⟨rfl,n_⟩,.of (.int _),false,rfl,iH ⟨_,rfl,_,rfl,by show 2<=sizeLine;decide,fun t ht=>?_⟩⟩⟩;have aE:=ai (o:=.tup [oV (some h),oV (some y)]) ht;obtain⟨l1,l2⟩:=Do (K:=K) (xm.same aE);refine⟨_,rfl,t,G,(ci h,ci y),List.map (fun z:Addr×Int×Int=>z.1) zs,zp zs,rfl,rfl,bP.of ae,?_,?_,l2,_,rfl,?_⟩
   .rw[<-iq];exact aW.of (aE _ _ Zv)
   .rw[aT];exact l1
   rw[ak cw];have Y5:(ci h,ci y)∉zp zs:=fun z=>by
    obtain⟨j,h',y',a,b,c,e⟩:=zi _ z;have e1:h=h':=du (congrArg Prod.fst e);have e2:y=y':=du (congrArg Prod.snd e);subst e1;subst e2;exact hd.inj j i y (by lia) c ey (by rw[b,ho])
   rw[gw Y5];have s3:=s2.trans aE;have Zw:=aE _ _ Zv;have KS:=xm.same aE;refine iH (⟨_,rfl,rfl,_,rfl,l4 rfl ⟨_,rfl,.inl ⟨rfl,_,aW.of Zw⟩,_,rfl,_,rfl,by show 2<=sizeLine;decide,fun t2 T7=>?_⟩⟩);have s4:=ai (o:=oj (ci h,ci y)) T7;refine⟨G,_,_,rfl,rfl,s4 _ _ Zw,by rw[dB];exact eK zl (bi (show i<16 by lia) (by decide)),⟨_,_,rfl⟩,br (s3.trans s4) hG,zs++[(t2,(ci h,ci y))],by rw[ae,eC];rfl,PO.putL (xs:=zr zs) ((KS.same s4).append (PO.one ae)) (s4 _ _ Zw),by rw[dh];exact Av zl,fun u hu=>?_⟩;rw[eD] at hu;rcases bX.mp hu with z|z
   .exact zi' u z
   .exact⟨i,h,y,by lia,ho,ey,cu.mp z⟩
theorem Ja:aR ["_law_far_here","_law_homes","_law_stand","_law_told","_law_found","_law_k","_law_house","_law_home"] ["_law_far_here","_law_homes","_law_stand","_law_told"] (av Zu):=⟨rfl,rfl,rfl,by decide +kernel,rfl,by decide +kernel,by decide +kernel⟩
def Ly:Sp:=fun vs H Q _=>∃ (L:Addr->Prop) (fr:Addr) (n:Nat) (ts:Ts) (ha:Addr) (homes:List Nat) (sa:Addr) (st:List (Option Nat)) (fa:Addr) (fs:List (Option Nat)),vs=[.ref fr,.ref ha,.ref sa,.ref fa]/\bV H L fr n (fun h=>(List.range n).map (far ts h))/\H ha=some (.tup (NV homes))/\H sa=some (.tup (st.map oV))/\H fa=some (.tup (fs.map oV))/\im n homes st/\Hd n ts st fs/\bK n ts/\∀r H',aO H H'->H r=none->H' r=some (.lst (NV (Na ts homes st fs st.length)))->Q (.ref r) H'
theorem UJ{f:Addr}{fd:FuncData}(F:ig K "_law_nearer" "_law_nearer" Zu f fd)(hE:mg "enumerate"=none):bA P w K mg base bg 1 f fd ["_law_far_here","_law_homes","_law_stand","_law_told"] Ly:=by
 refine F.ok Ja (fun vs H Q E h=>?_) (fun eY A outer s H vs Q E hr h=>?_)
 .obtain⟨L,fr,n,ts,ha,homes,sa,st,fa,fs,rfl,_⟩:=h;rfl
 .obtain⟨L,fr,n,ts,ha,homes,sa,st,fa,fs,rfl,R,Zi,Wu,Rc,LO,hd,fi,q⟩:=h;refine⟨_,(aj (aU (i:=4) Ja.nd rfl (Or.inl rfl) (cS ag))
   (aj (cP dU rfl (tE rfl hE (aa (pv 2) ag)) (dA (n:=2) rfl (aG (aA (i:=5) Ja.nd rfl (Or.inl rfl)) (aG (aA (i:=6) Ja.nd rfl (Or.inl rfl)) cr)))
    (aj (aU (i:=7) Ja.nd rfl (Or.inl rfl) (aV eE (pv 1) (pv 5) (fun _ _=>rfl)))
    (au (cC (PW.pt (mH (aQ jW (pv 6) eN (a8 _)) (jT (aQ lW (aV aL (aV aL (pv 0) (aV eE (pv 3) (pv 5) (fun _ _=>rfl)) (fun _ _=>rfl)) (pv 7) (fun _ _=>rfl)) (aV aL (aV aL (pv 0) (pv 6) (fun _ _=>rfl)) (pv 7) (fun _ _=>rfl)) (a8 _))))) (au (bY (gE gk jm jl cK (pv 4) (aa (pv 5) ag)))) bh))))
   (au (a_ (pv 4))))),?_⟩
  have l1:=LO.len;have l2:=hd.len;have l3:=LO.le;obtain⟨bs,b1,b2,b3⟩:=R;refine⟨by show 0<=sizeLine;decide,fun Fo Rm=>?_⟩;have sF:=ai (o:=.lst []) Rm;refine⟨_,rfl,sa,_,rfl,bP.of (sF _ _ Wu),?_⟩;refine vj (K:=K) (xs:=st.map oV) (fun i σ Hc=>(∃u v x,σ=[some (.ref fr),some (.ref ha),some (.ref sa),some (.ref fa),some (.ref Fo),u,v,x])/\aO H Hc/\Hc Fo=some (.lst (NV (Na ts homes st fs i)))) ⟨⟨_,_,_,rfl⟩,sF,ae⟩ (fun i σ Hc _ z=>bP.of (z.2.1 _ _ Wu)) ?_ ?_
  .rintro i x pp σ Hc hx ⟨⟨u,v,x7,rfl⟩,sc,E_⟩ Rp;have hi:i<st.length:=by have:=(b9.mp hx).1;rwa [aT] at this
   rw[jE hi] at hx;obtain rfl:=bN hx;have sp:=ai (o:=.tup [.int (i:Int),oV (st.getD i none)]) Rp;refine⟨pp,_,rfl,bP.of ae,rfl,_,_,rfl,_,_,rfl,rfl,?_⟩;have s2:=sc.trans sp;have Q_:=sp _ _ E_;generalize upd Hc pp _=H2 at *;refine⟨_,rfl,_,rfl,ha,_,_,_,rfl,rfl,bP.of (s2 _ _ Zi),aB (ik (xs:=homes) (j:=i) (by lia)),?_⟩;have ll:=Lw (ts:=ts) (homes:=homes) (st:=st) (fs:=fs) (i:=i);have nxt:M_ ts homes st fs i=false->H2 Fo=some (.lst (NV (Na ts homes st fs (i+1)))):=fun hb=>by rw[zE,hb,ak (by decide),ja];exact Q_
   cases ho:st.getD i none with
   |none=>exact⟨_,rfl,rfl,_,rfl,hU rfl (hU rfl ⟨⟨_,_,_,rfl⟩,s2,nxt (by unfold M_;rw[ho])⟩)⟩
   |some h=>
    obtain⟨_,hn,hm⟩:=LO.get ho;obtain⟨y,ey,hyo⟩:=hd.out i h ho;have hy:=rh fi hn hyo;have of_:(fs.map oV)[i]?=some (.int (y:Int)):=by rw[jE (by lia),ey];rfl
    have gb:∀k,k<n->(bs.map V.ref)[k]?=some (.ref (bs.getD k 0)):=fun k hk=>Dx (by rw[b3.1];exact hk);refine⟨_,rfl,rfl,_,rfl,l4 rfl ⟨_,rfl,_,rfl,_,rfl,fa,_,_,_,rfl,rfl,bP.of (s2 _ _ Rc),aB of_,fr,_,_,_,rfl,rfl,aW.of (s2 _ _ b1),aB (gb y hy),_,rfl,_,_,_,_,rfl,rfl,aW.of (s2 _ _ (b3.2 y hy)),aB (I0 hm),?_⟩⟩;refine⟨_,rfl,_,rfl,fr,_,_,_,rfl,rfl,aW.of (s2 _ _ b1),aB (gb h hn),_,rfl,_,_,_,_,rfl,rfl,aW.of (s2 _ _ (b3.2 h hn)),aB (I0 hm),_,_,rfl,rfl,_,rfl,?_⟩;have eb:M_ ts homes st fs i=decide (((far ts y (homes.getD i 0):Nat):Int)<((far ts h (homes.getD i 0):Nat):Int)):=by
     unfold M_;rw[ho,ey];exact vZ.mpr (by rw[kL];lia)
    rw[<-eb];cases hk:M_ ts homes st fs i with
    |false=>exact iH ⟨⟨_,_,_,rfl⟩,s2,nxt hk⟩
    |true=>
     refine yh ⟨_,rfl,.inl ⟨rfl,_,aW.of Q_⟩,_,rfl,Fo,_,_,rfl,rfl,Q_,by rw[be];exact bi (show _<33 by lia) (by decide),?_⟩;exact⟨⟨_,_,_,rfl⟩,br s2 Rm,by rw[ae,zE,hk,ao rfl];unfold NV;rw[cW];rfl⟩
  .rintro σ Hc ⟨⟨u,v,x7,rfl⟩,sc,E_⟩;rw[aT] at E_;exact⟨_,rfl,q Fo Hc sc Rm E_⟩
end
abbrev zF:Stmt:=top 57
theorem gQ:(["_law_k","_law_far_here","_law_homes","_law_stand","_law_told"]:List Str).Nodup:=by decide +kernel
theorem qe.qA{C p:Addr}{H0 H H':Hp}{t px oa fa ha sa:Addr}{n:Nat}{ts:Ts}{homes:List Nat}{st:List (Option Nat)}(c:qe C H0 H t px oa fa ha sa n ts homes st)(s:aI p H H')(f:H0 p≠none)(hp:bf H p):qe C H0 H' t px oa fa ha sa n ts homes st:=by
 have ne:∀b,H0 b=none->b≠p:=fun b e z=>f (z ▸ e);exact⟨s _ _ c.tu (hp.neT c.tu),c.net.keep (fun b o l e=>s b o e (ne b l)) (fun o e=>s _ _ e (ne _ c.px)),c.px,c.out.keep c.oa (fun b o l e=>s b o e (ne b l)),c.oa,c.far.keep c.fa (fun b o l e=>s b o e (ne b l)),c.fa,s _ _ c.ha (hp.neT c.ha),s _ _ c.sa (hp.neT c.sa),c.le,c.sd⟩
theorem _root_.L2.dt.lF{lp:Pos}{q:Str}{p Pt:Addr}{H H':Hp}(t:dt lp q Pt H)(s:aI p H H')(hp:bf H p):dt lp q Pt H':=by
 obtain⟨a,b,e,_⟩:=hp;rcases t with z|⟨c,z,y⟩
 .exact .inl (s _ _ z (by rintro rfl;rw[z] at e;cases e))
 .exact .inr ⟨c,s _ _ z (by rintro rfl;rw[z] at e;cases e),s _ _ y (by rintro rfl;rw[y] at e;cases e)⟩
theorem _root_.L2.dt.vH{lp:Pos}{q:Str}{p Pt P:Addr}{H H':Hp}(t:dt lp q P H)(k:DC Pt p H H')(hp:bf H p)(tb:nh Pt H)(n:P≠Pt):dt lp q P H':=by
 obtain⟨a,b,e,_⟩:=hp;obtain⟨ps,hP⟩:=dt.iR tb;rcases t with z|⟨c,z,y⟩
 .exact .inl (k _ _ z n (by rintro rfl;rw[z] at e;cases e))
 .exact .inr ⟨c,k _ _ z n (by rintro rfl;rw[z] at e;cases e),k _ _ y (by rintro rfl;rw[hP] at y;cases y) (by rintro rfl;rw[y] at e;cases e)⟩
theorem kB.lF{PN PF PT PR p:Addr}{H H':Hp}(t:kB PN PF PT PR H)(s:aI p H H')(hp:bf H p):kB PN PF PT PR H':=⟨t.n.lF s hp,t.f.lF s hp,t.t.lF s hp,t.r.lF s hp⟩
theorem kB.vH{PN PF PT PR p Pt:Addr}{H H':Hp}(t:kB PN PF PT PR H)(k:DC Pt p H H')(hp:bf H p)(tb:nh Pt H)(n:Pt∉[PN,PF,PT,PR]):kB PN PF PT PR H':=by
 simp only[bb,kJ,not_or,iA] at n;obtain⟨n1,n2,n3,n4⟩:=n;exact⟨t.n.vH k hp tb (dv n1),t.f.vH k hp tb (dv n2),t.t.vH k hp tb (dv n3),t.r.vH k hp tb (dv n4)⟩
theorem jF{H:Hp}{C x d:Addr}(nx:H x=none)(nd:H d=none)(ne:x≠d):aO H (upd (upd H d (.own x)) x (.ins C d [])):=(ai (o:=.own x) nd).trans (ai (D:=x) (o:=.ins C d []) (by rw[ap ne];exact nx))
theorem _root_.L2.dt.UK{lp:Pos}{q:Str}{PN PF PT PR P:Addr}{H H':Hp}(t:dt lp q P H)(k:KQ PN PF PT PR H H')(tb:kB PN PF PT PR H)(n:P∉[PN,PF,PT,PR]):dt lp q P H':=by
 simp only[bb,kJ,not_or,iA] at n;obtain⟨n1,n2,n3,n4⟩:=n;rcases t with z|⟨c,z,y⟩
 .exact .inl (k _ _ z n1 n2 n3 n4)
 .exact .inr ⟨c,k _ _ z n1 n2 n3 n4,k.kn tb _ _ y (fun ps z=>by cases z)⟩
structure DO(C:Addr)(H:Hp)(t px oa fa ha sa:Addr)(n:Nat)(ts:Ts)(homes:List Nat)(st:List (Option Nat)):Prop where
 tu:H t=some (.tup [.ref px,.ref oa,.ref fa,.ref ha,.ref sa])
 net:dw C H (fun _=>True) px n ts
 out:bV H (fun _=>True) oa n (bq n ts)
 far:bV H (fun _=>True) fa n (fun h=>(List.range n).map (far ts h))
 he:H ha=some (.tup (NV homes))
 se:H sa=some (.tup (st.map oV))
 le:st.length<=16
 sd:lE n ts homes st
theorem bV.kn{H H':Hp}{l n:Nat}{r:Nat->List Nat}(R:bV H (fun _=>True) l n r)(k:KN H H'):bV H' (fun _=>True) l n r:=by
 obtain⟨bs,b1,b2,b3⟩:=R;exact⟨bs,k _ _ b1 (fun ps z=>by cases z),b2,b3.mono fun j hj e=>k _ _ e (fun ps z=>by cases z)⟩
theorem DO.kn{C:Addr}{H H':Hp}{t px oa fa ha sa:Addr}{n:Nat}{ts:Ts}{homes:List Nat}{st:List (Option Nat)}(c:DO C H t px oa fa ha sa n ts homes st)(k:KN H H'):DO C H' t px oa fa ha sa n ts homes st:=by
 obtain⟨dx,tl,ol,ds,a,_⟩:=c.net.ob;exact⟨k _ _ c.tu (fun ps z=>by cases z),(c.net.Ww.keep (fun b o l e=>by obtain⟨_,o',e',n⟩:=l;rw[e] at e';cases e';exact k b o e n) fun o e=>k _ _ e (by rw[a] at e;cases e;exact fun ps z=>by cases z)).weak fun _ _=>trivial,
  c.out.kn k,c.far.kn k,k _ _ c.he (fun ps z=>by cases z),k _ _ c.se (fun ps z=>by cases z),c.le,c.sd⟩
theorem qe.toN{C:Addr}{H0 H:Hp}{t px oa fa ha sa:Addr}{n:Nat}{ts:Ts}{homes:List Nat}{st:List (Option Nat)}(c:qe C H0 H t px oa fa ha sa n ts homes st):DO C H t px oa fa ha sa n ts homes st:=⟨c.tu,c.net.weak fun _ _=>trivial,c.out.weak fun _ _=>trivial,c.far.weak fun _ _=>trivial,c.ha,c.sa,c.le,c.sd⟩
theorem UL{xs:List Nat}:jt (NV xs) none (some 1)=NV (xs.take 1):=by
 show jt (NV xs) none (some ((1:Nat):Int))=_;rw[BY];unfold NV;rw[List.map_take]
theorem UM{xs:List Nat}{c:Nat->Bool}(h:∀l r,xs=l::r->c l=true):(xs.take 1).filter c=xs.take 1:=by
 cases xs with
 |nil=>rfl
 |cons x xs=>rw[List.take_succ_cons,List.take_zero,List.filter_cons_of_pos (h x xs rfl)];rfl
section
variable {P:Program} {w:World} {K:PySem.W.Frag} {mg:Str->Option Value} {base:Heap}
def Nb(K:PySem.W.Frag)(H:Hp)(a:Addr)(xs:List V):Prop:=(∃o,H a=some (.xI o (.lst xs)))\/(∀H':Hp,aW K H' a xs)
theorem Nb.seq{H:Hp}{a:Addr}{xs:List V}(h:Nb K H a xs):aW K H a xs:=by
 rcases h with ⟨o,h⟩|h
 .exact .inl (.inr ⟨o,h⟩)
 .exact h H
theorem Nb.mono{H H':Hp}{a:Addr}{xs:List V}(h:Nb K H a xs)(e:∀o u,H a=some (.xI o u)->H' a=some (.xI o u)):Nb K H' a xs:=by
 rcases h with ⟨o,h⟩|h
 .exact .inl ⟨o,e _ _ h⟩
 .exact .inr h
theorem i7:aR ["_law_script","_law_k","_law_pot_here","_law_beat_here","_law_net_here","_law_outs_here","_law_far_here","_law_homes","_law_stand","_law_ranks_here","_law_way","_law_rule","_law_told","_law_order_here"] ["_law_script"] (av zF):=⟨rfl,rfl,rfl,by decide +kernel,rfl,by decide +kernel,by decide +kernel⟩
def DP(K:PySem.W.Frag)(Pt PN PF PT PR:Addr):Sp:=fun vs H Q _=>∃ (a:Addr) (ns:List Int),vs=[.ref a]/\Nb K H a (ns.map V.int)/\ns.length<=63/\nh Pt H/\kB PN PF PT PR H/\∀H',Q (.bl true) H'
theorem P7{f fRI C CE CN CF CT CI CR Pt PN PF PT PR:Addr}{fd UN:FuncData}(F:ig K "law" "law" zF f fd)(B:Bl mg)(hE:mg "enumerate"=none)(R:UD P w K mg base C CE CN CF CT CI CR PN PF PT PR)(nP:Pt∉[PN,PF,PT,PR])(kE:Q0 K CE)(kN:Q0 K CN)(kF:Q0 K CF)(kT:Q0 K CT)(kI:Q0 K CI)(M:Mk K CR fRI)(bI:j_ K UN ["self","ranks"] [])(GI:bA P w K mg base bg 2 fRI UN ["self","ranks"] (xC CR))(PT':dL P w K mg base bg 1 "_law_pot" ["_law_script","_law_k"] (HY K))(BE:dL P w K mg base bg 2 "_law_beat" ["_law_pot_here"] BW)(CA:dL P w K mg base bg 9 "_law_case" ["_law_pot_here"] (B_ C Pt))(RA:dL P w K mg base bg 2 "_law_ranks" ["_law_pot_here","_law_many"] xE)(OD:dL P w K mg base bg 1 "_law_order" ["_law_way","_law_far_here","_law_homes","_law_stand","_law_beat_here","_law_ranks_here"] Cj)(HA:dL P w K mg base bg 10 "hand" ["rule","net","homes","stand","beat"] (Cm C CE CN CF CT CI CR PN PF PT PR))(IR:dL P w K mg base bg 1 "_law_is_right" ["_law_outs_here","_law_stand","_law_told"] P6)(NE:dL P w K mg base bg 1 "_law_nearer" ["_law_far_here","_law_homes","_law_stand","_law_told"] Ly):bA P w K mg base bg 11 f fd ["_law_script"] (DP K Pt PN PF PT PR):=by
 refine F.ok i7 (fun vs H Q E h=>?_) (fun eY A outer s H vs Q E hr h=>?_)
 .obtain⟨a,ns,rfl,_⟩:=h;rfl
 .obtain⟨a,ns,rfl,hS,yw,tp,tb,q⟩:=h;have h1:cg 1 _:=hr.mono (by decide);have h2:cg 2 _:=hr.mono (by decide);have h3:cg 3 _:=hr.mono (by decide);have h9:cg 9 _:=hr.mono (by decide);have hu:(A.deeper (PyProof.Rows.envOfC "law" (av zF) s.heap.objs.size f eY)).units+(0+1)<cLine:=by have:=hr.un;lia
  refine'⟨_,(aj (cP dU rfl (bz rfl B.range (aa (aD (pL rfl) (by rfl) B.max vO (aa az (aa (aD (lK rfl) (by rfl) B.min vN (aa az (aa (aD aM (by rfl) B.len dW (aa (pv 0) ag)) ag))) ag))) ag)) (aA (i:=1) i7.nd rfl (Or.inl rfl))
    (aj (aU (i:=2) i7.nd rfl (Or.inl rfl) (aH PT' h1 aN (aa (pv 0) (aa (pv 1) ag))))
    (aj (aU (i:=3) i7.nd rfl (Or.inl rfl) (aH BE h2 aN (aa (pv 2) ag)))
    (aj (dM (aH CA h9 aN (aa (pv 2) ag)) (dA (n:=5) rfl (aG (aA (i:=4) i7.nd rfl (Or.inl rfl)) (aG (aA (i:=5) i7.nd rfl (Or.inl rfl)) (aG (aA (i:=6) i7.nd rfl (Or.inr rfl)) (aG (aA (i:=7) i7.nd rfl (Or.inr rfl)) (aG (aA (i:=8) i7.nd rfl (Or.inr rfl)) cr)))))))
    (aj (aU (i:=9) i7.nd rfl (Or.inl rfl) (aH RA h2 aN (aa (pv 2) (aa (aD aM (by rfl) B.len dW (aa (pv 7) ag)) ag))))
    (au (cP dU rfl (J_ rfl hE (aa (cS (aa (ua kE rfl R.e.Ju) (aa (ua kN rfl R.n.Ju) (aa (ua kF rfl R.f.Ju) (aa (ua kT rfl R.t.Ju) (aa (ua kI rfl R.i.Ju) (aa (Cz M GI h3 rfl R.r.Ju bI .nil aN (aa (pv 9) ag)) ag))))))) ag)) (dA (n:=2) rfl (aG (aA (i:=10) i7.nd rfl (Or.inl rfl)) (aG (aA (i:=11) i7.nd rfl (Or.inl rfl)) cr)))
     (aj (aU (i:=12) i7.nd rfl (Or.inr rfl) (aH HA hr aN (aa (pv 11) (aa (pv 4) (aa (pv 7) (aa (pv 8) (aa (pv 3) ag)))))))
     (aj (aU (i:=13) i7.nd rfl (Or.inl rfl) (aH OD h1 aN (aa (pv 10) (aa (pv 6) (aa (pv 7) (aa (pv 8) (aa (pv 3) (aa (pv 9) ag))))))))
     (aj (cC (k6 (iD (aH IR h1 aN (aa (pv 5) (aa (pv 8) (aa (pv 12) ag)))))) (au (a_ qj)) bh)
     (au (cC (aQ (KY (d:=0) hu) (nG qZ (pv 13) qX (qY az)) ?c1 (a8 _)) (au (a_ qj)) bh))))))))))))
   (au (a_ qj))),?_⟩
  case c1=>
   refine' cL (g:=(bv 0)) (tt:=(sM (kr (VP K false) (a9 0) (nC Ly [] E0 (bo (a9 1) (bo (a9 2) (bo (a9 3) (bo (a9 4) gI)))))))) (te:=(a9 0)) (NB:=["_law_k","_law_far_here","_law_homes","_law_stand","_law_told"]) (src:=[none,some 6,some 7,some 8,some 12]) (bp (by kernel_rfl)) rfl (bT (nG qZ (pv 13) qX (qY az))) ?g ?t ?e;case g=>exact fun cl C s₃ H₃ fp=>(aA (i:=0) gQ rfl (Or.inl rfl) (Or.inr rfl))
   case t=>exact fun cl C s₃ H₃ fp=>gU (aQ uY (pv 0) (aH NE h1 aN (aa (pv 1) (aa (pv 2) (aa (pv 3) (aa (pv 4) ag))))) rfl)
   case e=>exact fun cl C s₃ H₃ fp=>(pv 0)
  refine⟨_,rfl,a,_,rfl,.inl hS.seq,2,_,rfl,1,_,rfl,_,rfl,?_⟩;obtain⟨j,hj,j1⟩:∃j:Int,(if (if (((ns.map V.int).length:Nat):Int)<2 then (((ns.map V.int).length:Nat):Int) else 2) > 1 then (if (((ns.map V.int).length:Nat):Int)<2 then (((ns.map V.int).length:Nat):Int) else 2) else 1)=j/\1<=j/\j<=2:=⟨_,rfl,by split <;> split <;> lia⟩
  rw[hj];refine⟨by lia,by lia,dC (n:=j.toNat) (lo:=0) (fun k σ H2=>(∃x1 x2 x3 x4 x5 x6 x7 x8 x9 Q9 Zx Zy Zz,σ=[some (.ref a),x1,x2,x3,x4,x5,x6,x7,x8,x9,Q9,Zx,Zy,Zz])/\Nb K H2 a (ns.map V.int)/\nh Pt H2/\kB PN PF PT PR H2) ⟨⟨_,_,_,_,_,_,_,_,_,_,_,_,_,rfl⟩,hS,tp,tb⟩ ?_ ?_⟩
  rotate_left
  .rintro σ H2 ⟨⟨x1,x2,x3,x4,x5,x6,x7,x8,x9,Q9,Zx,Zy,Zz,rfl⟩,_⟩;exact q H2
  clear hS tp tb;rintro k σ Hc hk ⟨⟨x1,x2,x3,x4,x5,x6,x7,x8,x9,Q9,Zx,Zy,Zz,rfl⟩,Sc,tp,tb⟩;rw[hZ];refine⟨_,rfl,_,rfl,a,ns,k,rfl,Sc.seq,by lia,fun p H3 s3 QW ni=>?_⟩;refine⟨_,rfl,p,rfl,ni,fun bt H4 hbt s4 qd=>?_⟩;have t4:=(tp.same s3).lF s4 ni;have u4:=(tb.same s3).lF s4 ni;refine⟨_,rfl,p,rfl,qd,t4,fun t px oa fa ha sa n ts homes st H5 k5 ui t5 ca=>?_⟩;have u5:=u4.vH k5 qd t4 nP;have S5:=Sc.mono fun o u e=>k5 _ _ (s4 _ _ (s3 _ _ e) (am e QW)) (t4.not (s4 _ _ (s3 _ _ e) (am e QW)) (fun ps z=>by cases z)) (am e QW);have LO:=ca.sd.let ca.le;refine⟨t,_,rfl,bP.of ca.tu,rfl,_,_,rfl,_,_,rfl,_,_,rfl,_,_,rfl,_,_,rfl,rfl,?_⟩;refine⟨_,rfl,_,rfl,ha,_,rfl,.inr (bP.of ca.ha),p,homes.length,by rw[be];rfl,ui,by rw[LO.len];exact LO.le,fun ra ranks H6 s6 wS JB UH=>?_⟩;have caE:=ca.qA s6 qd.full ui;have t6:=t5.lF s6 ui;have u6:=u5.lF s6 ui;have S6:=S5.mono fun o u e=>s6 _ _ e (by obtain⟨_,_,z,_⟩:=ui;rintro rfl;rw[e] at z;cases z);refine fun a0 d0 x0 y0 z0=>?_;have w0:=jF (C:=CE) x0 y0 (dv z0);have g0:=ae (H:=upd H6 d0 (.own a0)) (a:=a0) (o:=.ins CE d0 []);generalize upd (upd H6 d0 _) a0 _=Ha at *;refine fun a1 d1 x1 y1 z1=>?_;have w1:=jF (C:=CN) x1 y1 (dv z1);have g1:=ae (H:=upd Ha d1 (.own a1)) (a:=a1) (o:=.ins CN d1 []);generalize upd (upd Ha d1 _) a1 _=Hb at *;refine fun a2 d2 x2 y2 z2=>?_;have w2:=jF (C:=CF) x2 y2 (dv z2);have g2:=ae (H:=upd Hb d2 (.own a2)) (a:=a2) (o:=.ins CF d2 []);generalize upd (upd Hb d2 _) a2 _=Hd at *;refine fun a3 d3 x3 y3 z3=>?_;have w3:=jF (C:=CT) x3 y3 (dv z3);have g3:=ae (H:=upd Hd d3 (.own a3)) (a:=a3) (o:=.ins CT d3 []);generalize upd (upd Hd d3 _) a3 _=He at *;refine fun a4 d4 x4 y4 z4=>?_;have w4:=jF (C:=CI) x4 y4 (dv z4);have g4:=ae (H:=upd He d4 (.own a4)) (a:=a4) (o:=.ins CI d4 []);generalize upd (upd He d4 _) a4 _=Hf at *;have ZA:=w3.trans w4;have ZB:=w2.trans ZA;have ZC:=w1.trans ZB;have ZD:=w0.trans ZC;refine⟨_,rfl,fun rx rd nx nrd Wv=>?_⟩;have sN:=jF (C:=CR) nx nrd (dv Wv);refine⟨rx,rd,ra,ranks,rfl,ae,sN _ _ (ZD _ _ JB),by rw[UH,LO.len];exact aX LO.le (by decide),fun H7 rk7 se7=>?_⟩;have JA:aO Hf H7:=fun b o e=>se7 _ _ (sN _ _ e) (am e nx);refine⟨rfl,by show 6<=sizeLine;decide,fun RL hRL=>?_⟩;have sL:=ai (o:=.lst [V.ref a0,.ref a1,.ref a2,.ref a3,.ref a4,.ref rx]) hRL;have gL:=ae (H:=H7) (a:=RL) (o:=.lst [V.ref a0,.ref a1,.ref a2,.ref a3,.ref a4,.ref rx]);generalize upd H7 RL _=H8 at *;have P8:=JA.trans sL;have Rq:=ZD.trans P8;have ca8:=caE.toN.kn (fun b o e _=>Rq b o e);have t8:=t6.same Rq;have u8:=u6.same Rq;have S8:=S6.mono fun o u e=>Rq _ _ e;have ZE:=Rq _ _ JB;have r0:Rl CE CN CF CT CI CR ranks H8 0 a0:=⟨d0,P8 _ _ (ZC _ _ g0)⟩
  have r1:Rl CE CN CF CT CI CR ranks H8 1 a1:=⟨d1,P8 _ _ (ZB _ _ g1)⟩
  have r2:Rl CE CN CF CT CI CR ranks H8 2 a2:=⟨d2,P8 _ _ (ZA _ _ g2)⟩
  have r3:Rl CE CN CF CT CI CR ranks H8 3 a3:=⟨d3,P8 _ _ (w4 _ _ g3)⟩
  have r4:Rl CE CN CF CT CI CR ranks H8 4 a4:=⟨d4,P8 _ _ g4⟩
  have r5:Rl CE CN CF CT CI CR ranks H8 5 rx:=rk7.same sL;clear g0 g1 g2 g3 g4 w0 w1 w2 w3 w4 ZA ZB ZC ZD x0 x1 x2 x3 x4 y0 y1 y2 y3 y4 z0 z1 z2 z3 z4 hRL sL se7 rk7 JA Rq P8 sN nx nrd Wv caE ca t6 u6 S6 S5 t5 u5 u4 t4 k5 Sc tp tb s3 s4 s6 QW ni qd ui wS JB;refine⟨RL,_,rfl,gL,GQ (K:=K) (xs:=[.ref a0,.ref a1,.ref a2,.ref a3,.ref a4,.ref rx]) (fun i σ Hc=>(∃Uj ZF ZG ZH,σ=[some (.ref a),some (.int (k:Int)),some (.ref p),some (.int (bt:Nat)),some (.ref px),some (.ref oa),some (.ref fa),some (.ref ha),some (.ref sa),some (.ref ra),Uj,ZF,ZG,ZH])/\kB PN PF PT PR Hc/\KQ PN PF PT PR H8 Hc) ⟨⟨_,_,_,_,rfl⟩,u8,KQ.of (aO.refl _)⟩ (fun i σ Hc _ z=>aW.of (z.2.2.kn u8 _ _ gL (fun ps z=>by cases z))) ?_ ?_⟩
  rotate_left
  .rintro σ Hc ⟨⟨Uj,ZF,ZG,ZH,rfl⟩,tc,kc⟩;exact⟨⟨_,_,_,_,_,_,_,_,_,_,_,_,_,rfl⟩,S8.mono fun o u e=>kc.kn u8 _ _ e (fun ps z=>by cases z),t8.UK kc u8 nP,tc⟩
  rintro gg x pp σ Hc hx ⟨⟨Uj,ZF,ZG,ZH,rfl⟩,tc,kc⟩ Rp;obtain⟨aq,rfl,w6,rq⟩:∃ (aq:Nat),x=.ref aq/\gg<6/\Rl CE CN CF CT CI CR ranks H8 gg aq:=by
   match gg,hx with
   |0,hx=>cases hx;exact⟨a0,rfl,by decide,r0⟩
   |1,hx=>cases hx;exact⟨a1,rfl,by decide,r1⟩
   |2,hx=>cases hx;exact⟨a2,rfl,by decide,r2⟩
   |3,hx=>cases hx;exact⟨a3,rfl,by decide,r3⟩
   |4,hx=>cases hx;exact⟨a4,rfl,by decide,r4⟩
   |5,hx=>cases hx;exact⟨rx,rfl,by decide,r5⟩
   |i+6,hx=>cases hx
  clear r0 r1 r2 r3 r4 r5 hx;have sP:=ai (o:=.tup [.int (gg:Int),.ref aq]) Rp;refine⟨pp,_,rfl,bP.of ae,rfl,_,_,rfl,_,_,rfl,rfl,?_⟩;have td:=tc.same sP;have kd:=kc.trans (KQ.of sP);generalize upd Hc pp _=Hd at *;clear tc kc sP Rp;have ZI:=kd.kn u8;have cd:=ca8.kn ZI;have fi:=cd.net.j4;refine⟨_,rfl,_,rfl,_,rfl,_,rfl,_,rfl,_,aq,px,ha,sa,_,gg,n,ts,homes,st,ranks,rfl,w6,rq.kn ZI,cd.net,cd.he,cd.se,LO,by lia,UH,td,fun tt H9 gj t9 k9 op pw ht9=>?_⟩;have kn9:=k9.kn td;have c9:=cd.kn kn9;obtain⟨hd,hf⟩:=PQ gg fi cd.sd op;generalize ug n ts homes st gj gg=fs at *;refine⟨_,rfl,_,rfl,_,rfl,_,rfl,_,rfl,_,rfl,gg,fa,ha,sa,ra,(bt:Nat),n,ts,_,homes,st,ranks,rfl,w6,c9.far,trivial,c9.he,c9.se,LO,kn9 _ _ (ZI _ _ ZE (fun ps z=>by cases z)) (fun ps z=>by cases z),UH,fun d Ug out FE hd0 ZJ VN pw'=>?_⟩;have Ku:∀m∈mZ st st.length,m<64:=fun m hm=>by have:=(iZ hm).1;have:=LO.le;lia
  obtain rfl:out=gj:=PX Ku VN op pw' pw;refine⟨_,rfl,_,rfl,_,rfl,_,oa,sa,tt,n,ts,homes,st,fs,rfl,c9.out.kn (fun b o e _=>FE b o e),FE _ _ c9.se,FE _ _ ht9,LO,hd,fi.n2,fun Hx sx=>⟨_,rfl,iH ?_⟩⟩;have s11:=FE.trans sx;have hdx:=sx _ _ ZJ;refine⟨_,rfl,_,rfl,d,_,rfl,aW.of hdx,fun c1 hc1=>?_⟩;rw[UL];have sc1:=ai (o:=.lst (NV (out.take 1))) hc1;refine⟨_,rfl,_,rfl,d,_,rfl,aW.of (sc1 _ _ hdx),fun c2 Tv=>?_⟩;rw[UL];have sc2:=ai (o:=.lst (NV (out.take 1))) Tv;have gc2:=ae (H:=upd Hx c1 (.lst (NV (out.take 1)))) (a:=c2) (o:=.lst (NV (out.take 1)));have gc1:=sc2 _ _ (ae (H:=Hx) (a:=c1) (o:=.lst (NV (out.take 1))));have P5:=(s11.trans sc1).trans sc2;generalize upd (upd Hx c1 _) c2 _=H13 at *;refine⟨c2,rfl,⟨_,aW.of gc2⟩,fun D hD=>?_⟩;refine Dy (out.take 1) (fun (x:Nat)=>V.int (x:Int)) (fun l=>decide (l∈Na ts homes st fs st.length)) (fun σ=>∃a,σ=[a,some (.ref fa),some (.ref ha),some (.ref sa),some (.ref tt)]) gc2 hD (aX (vU _ _) (by decide)) ⟨_,rfl⟩ ?_ ?_
  .rintro l σ H14 Kt Kf hl ⟨a,rfl⟩ sm kt kf;have zD:=P5.trans sm;refine⟨_,rfl,_,rfl,_,rfl,_,rfl,_,rfl,_,fa,n,ts,ha,homes,sa,st,tt,fs,rfl,c9.far.kn (fun b o e _=>zD b o e),zD _ _ c9.he,zD _ _ c9.se,zD _ _ ht9,LO,hd,fi,fun Nr H15 s15 Fq hN=>⟨Nr,_,rfl,.inl (aW.of hN),rfl,DN,_,rfl,?_⟩⟩;rw[ak cw,I_];refine fZ (fun e=>?_) (fun e=>?_)
   .exact⟨_,rfl,kt _ _ ⟨_,rfl⟩ s15 e⟩
   .exact kf _ _ ⟨_,rfl⟩ s15 (by simpa using e)
  .intro H14 zD h14;rw[UM (fun l r e=>?_)] at h14
   .refine⟨c1,D,_,_,rfl,rfl,aW.of (zD _ _ gc1),aW.of h14,rfl,PU,_,rfl,iH ⟨⟨_,_,_,_,rfl⟩,t9.same (P5.trans zD),(kd.trans k9).trans (KQ.of (P5.trans zD))⟩⟩
   .obtain⟨y,x,ey,ex,gx⟩:=hf l r e;refine ie (et.mpr ⟨bD.mpr (DE ey),?_⟩);unfold M_;rw[ey,ex];exact(et.mp gx).2
end
def FD(K:PySem.W.Frag)(n:Str)(st:Stmt):Prop:=∃ (f:Addr) (oc:Value) (od an:Option Addr) (sl:Array (Option Value)) (kV dc pm cd ct:Value),PySem.W.nsIn K mainGlobals n=some (some (.ref f))/\K.lookup f=some ⟨oc,od,.func (PySem.W.fnOf n n (dI st) (bZ st) (av st) .none kV dc pm an cd ct),sl⟩/\PySem.W.codeIn K cd n=true/\PySem.W.keepIn K (.ref f)=true
def FC(K:PySem.W.Frag)(n:Str)(st:Stmt)(c:Addr):Prop:=∃ (f:Addr) (oc:Value) (od an:Option Addr) (sl:Array (Option Value)) (kV dc pm ct:Value),PySem.W.nsIn K mainGlobals n=some (some (.ref f))/\K.lookup f=some ⟨oc,od,.func (PySem.W.fnOf n n (dI st) (bZ st) (av st) .none kV dc pm an (.ref c) ct),sl⟩/\PySem.W.codeIn K (.ref c) n=true/\PySem.W.keepIn K (.ref f)=true
def MD(K:PySem.W.Frag)(C:Addr)(n q:Str)(st:Stmt):Prop:=∃ (f:Addr) (oc:Value) (od an:Option Addr) (sl:Array (Option Value)) (kV dc pm cd ct:Value),PySem.W.findIn K (.ref C) n=some (some (.ref f))/\PySem.W.isFn K (.ref f)=true/\K.lookup f=some ⟨oc,od,.func (PySem.W.fnOf n q (dI st) (bZ st) (av st) .none kV dc pm an cd ct),sl⟩/\PySem.W.codeIn K cd q=true/\PySem.W.keepIn K (.ref f)=true
def MC(K:PySem.W.Frag)(C:Addr)(n q:Str)(st:Stmt)(c:Addr):Prop:=∃ (f:Addr) (oc:Value) (od an:Option Addr) (sl:Array (Option Value)) (kV dc pm ct:Value),PySem.W.findIn K (.ref C) n=some (some (.ref f))/\PySem.W.isFn K (.ref f)=true/\K.lookup f=some ⟨oc,od,.func (PySem.W.fnOf n q (dI st) (bZ st) (av st) .none kV dc pm an (.ref c) ct),sl⟩/\PySem.W.codeIn K (.ref c) q=true/\PySem.W.keepIn K (.ref f)=true
section
variable {P:Program} {w:World} {K:PySem.W.Frag} {mg:Str->Option Value} {base h:Heap} {n q:Str} {st:Stmt} {f c C:Addr} {oc kV dc pm cd ct:Value} {od an:Option Addr} {sl:Array (Option Value)} {CX:zN} {k:Nat} {ps:List Str} {sp:Sp}
theorem FD.mk(a:PySem.W.nsIn K mainGlobals n=some (some (.ref f)))(l:K.lookup f=some ⟨oc,od,.func (PySem.W.fnOf n n (dI st) (bZ st) (av st) .none kV dc pm an cd ct),sl⟩)(d:PySem.W.codeIn K cd n=true)(k:PySem.W.keepIn K (.ref f)=true):FD K n st:=⟨f,oc,od,an,sl,kV,dc,pm,cd,ct,a,l,d,k⟩
theorem FC.mk(a:PySem.W.nsIn K mainGlobals n=some (some (.ref f)))(l:K.lookup f=some ⟨oc,od,.func (PySem.W.fnOf n n (dI st) (bZ st) (av st) .none kV dc pm an (.ref c) ct),sl⟩)(d:PySem.W.codeIn K (.ref c) n=true)(k:PySem.W.keepIn K (.ref f)=true):FC K n st c:=⟨f,oc,od,an,sl,kV,dc,pm,ct,a,l,d,k⟩
theorem MD.mk(a:PySem.W.findIn K (.ref C) n=some (some (.ref f)))(i:PySem.W.isFn K (.ref f)=true)(l:K.lookup f=some ⟨oc,od,.func (PySem.W.fnOf n q (dI st) (bZ st) (av st) .none kV dc pm an cd ct),sl⟩)(d:PySem.W.codeIn K cd q=true)(k:PySem.W.keepIn K (.ref f)=true):MD K C n q st:=⟨f,oc,od,an,sl,kV,dc,pm,cd,ct,a,i,l,d,k⟩
theorem MC.mk(a:PySem.W.findIn K (.ref C) n=some (some (.ref f)))(i:PySem.W.isFn K (.ref f)=true)(l:K.lookup f=some ⟨oc,od,.func (PySem.W.fnOf n q (dI st) (bZ st) (av st) .none kV dc pm an (.ref c) ct),sl⟩)(d:PySem.W.codeIn K (.ref c) q=true)(k:PySem.W.keepIn K (.ref f)=true):MC K C n q st c:=⟨f,oc,od,an,sl,kV,dc,pm,ct,a,i,l,d,k⟩
def BD(n q:Str)(st:Stmt)(ps:List Str):Prop:=∀ (kV nF pm:Value) (an:Option Addr) (eY ct:Value) (us:List Value),us.length=ps.length->bindArgs (PySem.W.fnOf n q (dI st) (bZ st) (av st) .none kV nF pm an eY ct) ⟨us,[]⟩=pure (ps.zip us)
theorem FD.iw(X:K.In h)(G:h.Ns mainGlobals mg)(D:FD K n st)(b:BD n n st ps)(o:∀ {f fd},ig K n n st f fd->bA P w K mg base CX k f fd ps sp):dL P w K mg base CX k n ps sp:=by
 obtain⟨f,_,_,_,_,_,_,_,_,_,a,l,d,kp⟩:=D;have F:=sY (x:=n) (qual:=n) (st:=st) l d kp;exact⟨⟨f,_,iU X G a,kp,F.binds b,o F⟩⟩
theorem FC.iw(X:K.In h)(G:h.Ns mainGlobals mg)(D:FC K n st c)(b:BD n n st ps)(o:∀ {f fd},qG K n n st f fd c->bA P w K mg base CX k f fd ps sp):dL P w K mg base CX k n ps sp:=by
 obtain⟨f,_,_,_,_,_,_,_,_,a,l,d,kp⟩:=D;have F:=CY (x:=n) (qual:=n) (st:=st) l d kp;exact⟨⟨f,_,iU X G a,kp,F.fun.binds b,o F⟩⟩
theorem MD.iw(D:MD K C n q st)(b:BD n q st ps)(o:∀ {f fd},ig K n q st f fd->bA P w K mg base CX k f fd ps sp):iL P w K mg base CX k C n ps sp:=by
 obtain⟨f,_,_,_,_,_,_,_,_,_,a,i,l,d,kp⟩:=D;have F:=sY (x:=n) (qual:=q) (st:=st) l d kp;exact⟨⟨f,_,⟨a,i,kp⟩,F.binds b,o F⟩⟩
theorem MC.iw(D:MC K C n q st c)(b:BD n q st ps)(o:∀ {f fd},qG K n q st f fd c->bA P w K mg base CX k f fd ps sp):iL P w K mg base CX k C n ps sp:=by
 obtain⟨f,_,_,_,_,_,_,_,_,a,i,l,d,kp⟩:=D;have F:=CY (x:=n) (qual:=q) (st:=st) l d kp;exact⟨⟨f,_,⟨a,i,kp⟩,F.fun.binds b,o F⟩⟩
end
theorem P9{l:PySem.W.OpenLaw}{w:World}{K:PySem.W.Frag}{h:Heap}{mg:Str->Option Value}{fa:Addr}(X:K.In h)(G:h.Ns mainGlobals mg)(Rc:mg "law"=some (.ref fa)){C cO Pt cN PN cF PF cT PT cR PR eH cM b8 eI bS bL:Addr}{qO uM qP:Tok}(aC:PySem.W.nsIn K mainGlobals "Net"=some (some (.ref C)))(Lz:PySem.W.nsIn K mainGlobals "Elder"=some (some (.ref eH)))(Fd:PySem.W.nsIn K mainGlobals "Nearest"=some (some (.ref cM)))(Cn:PySem.W.nsIn K mainGlobals "Farthest"=some (some (.ref b8)))(LA:PySem.W.nsIn K mainGlobals "Turns"=some (some (.ref eI)))(Jb:PySem.W.nsIn K mainGlobals "InTurn"=some (some (.ref bS)))(zG:PySem.W.nsIn K mainGlobals "Ranked"=some (some (.ref bL)))(LB:FD K "is_whole" BH)(Jc:FD K "is_whole_within" w5)(LC:FD K "is_house" BI)(UO:FD K "is_row" Ox)(UP:FD K "are_unlike_houses" OH)(UQ:FD K "is_tie" OF)(LD:FD K "check_ties" BM)(UR:FD K "check_balance" OG)(P_:FC K "houses_out" yY cO)(Qa:FD K "distances_from" HL)(LG:FD K "check_reached" BN)(ZK:FD K "under_way" Zc)(ZL:FD K "first_free" Zd)(US:FD K "_law_pot" O0)(Qb:FD K "_law_take" HV)(Qc:FD K "_law_beat" HW)(Qd:FD K "_law_ring" Ij)(Qe:FD K "_law_some_pairs" Ik)(UT:FD K "_law_box" O9)(LH:FD K "_law_words" ud)(UU:FD K "_law_one_way" Pc)(UV:FD K "_law_renamed" Pd)(UX:FD K "_law_net" Pn)(LI:FD K "_law_outs" B6)(Qf:FD K "_law_far" IC)(LJ:FD K "_law_start" B7)(Qg:FD K "_law_case" IM)(LK:FD K "_law_ranks" Cg)(ZM:FD K "hand_in_turn" Ze)(ZN:FD K "hand_eagerly" Zp)(Qh:FD K "hand" II)(Qi:FD K "_law_order" IY)(ZO:FD K "_law_is_right" Zt)(ZP:FD K "_law_nearer" Zu)(UY:FD K "law" zF)(Qj:MD K C "__init__" "Net.__init__" Dh)(LL:MD K C "check_house" "Net.check_house" BL)(UZ:MD K C "far" "Net.far" OB)(U0:MD K C "out" "Net.out" OA)(Qk:MD K C "good" "Net.good" HD)(pg:PySem.W.plainGet K C Str.empty=true)(ZQ:PySem.W.hasDictIn K C=true)(po:PySem.W.plainOver K C=true)(sa:PySem.W.findIn K (.ref C) "__setattr__"=some (some (.builtin "object.__setattr__")))(mk:PySem.W.makesIn K C=true)(kc:PySem.W.keepIn K (.ref C)=true)(nH:PySem.W.findIn K (.ref C) "house_count"=some none)(nT:PySem.W.findIn K (.ref C) "tie_list"=some none)(nO:PySem.W.findIn K (.ref C) "out_lists"=some none)(nD:PySem.W.findIn K (.ref C) "distances"=some none)(xG:PySem.W.nsIn K mainGlobals "isinstance"=some none)(U1:PySem.W.nsIn K mainGlobals "int"=some none)(Ql:PySem.W.nsIn K mainGlobals "bool"=some none)(LM:PySem.W.nsIn K mainGlobals "tuple"=some none)(Qm:PySem.W.nsIn K mainGlobals "list"=some none)(U2:PySem.W.nsIn K mainGlobals "str"=some none)(U3:PySem.W.nsIn K mainGlobals "set"=some none)(U4:PySem.W.nsIn K mainGlobals "len"=some none)(LN:PySem.W.nsIn K mainGlobals "range"=some none)(Jd:PySem.W.nsIn K mainGlobals "sorted"=some none)(U5:PySem.W.nsIn K mainGlobals "any"=some none)(U6:PySem.W.nsIn K mainGlobals "max"=some none)(U7:PySem.W.nsIn K mainGlobals "min"=some none)(xH:PySem.W.nsIn K mainGlobals "ValueError"=some none)(U8:PySem.W.nsIn K mainGlobals "all"=some none)(U9:PySem.W.nsIn K mainGlobals "abs"=some none)(Je:PySem.W.nsIn K mainGlobals "divmod"=some none)(Qn:PySem.W.nsIn K mainGlobals "dict"=some none)(U_:PySem.W.nsIn K mainGlobals "zip"=some none)(Qo:PySem.W.nsIn K mainGlobals "repr"=some none)(qB:PySem.W.nsIn K mainGlobals "enumerate"=some none)(qQ:PySem.W.nsIn K mainGlobals "FEWEST_HOUSES"=some (some (.int 2 qO)))(uN:PySem.W.nsIn K mainGlobals "MOST_HOUSES"=some (some (.int 32 uM)))(qR:PySem.W.nsIn K mainGlobals "MOST_TIES_OUT"=some (some (.int 8 qP)))(Fe:PySem.W.specialIn K (.builtin "object.__class__") "__get__"=some (some (.builtin "getset_descriptor.__get__")))(Ff:PySem.W.takesIn K (.builtin "object.__class__")=some true)(ZR:PySem.W.plainGet K eH Str.empty=true)(ZS:PySem.W.hasDictIn K eH=true)(ZT:PySem.W.plainOver K eH=true)(ZU:PySem.W.findIn K (.ref eH) "__setattr__"=some (some (.builtin "object.__setattr__")))(ZV:PySem.W.findIn K (.ref eH) "__class__"=some (some (.builtin "object.__class__")))(ZW:PySem.W.mroIn K eH (.type "object")=some true)(ZX:PySem.W.kitOne K (.ref eH) (.ref bS)=some false)(ZY:PySem.W.makesIn K eH=true)(ZZ:PySem.W.keepIn K (.ref eH)=true)(Z0:PySem.W.findIn K (.ref eH) "__init__"=some (some (.builtin "object.__init__")))(Z1:MD K eH "order" "Rule.order" Dz)(Z2:PySem.W.plainGet K cM Str.empty=true)(Z3:PySem.W.hasDictIn K cM=true)(Z4:PySem.W.plainOver K cM=true)(Z5:PySem.W.findIn K (.ref cM) "__setattr__"=some (some (.builtin "object.__setattr__")))(Z6:PySem.W.findIn K (.ref cM) "__class__"=some (some (.builtin "object.__class__")))(Z7:PySem.W.mroIn K cM (.type "object")=some true)(Z8:PySem.W.kitOne K (.ref cM) (.ref bS)=some false)(Z9:PySem.W.makesIn K cM=true)(Z_:PySem.W.keepIn K (.ref cM)=true)(aaa:PySem.W.findIn K (.ref cM) "__init__"=some (some (.builtin "object.__init__")))(aab:MC K cM "order" "Nearest.order" vD cN)(aac:PySem.W.plainGet K b8 Str.empty=true)(aad:PySem.W.hasDictIn K b8=true)(aae:PySem.W.plainOver K b8=true)(aaf:PySem.W.findIn K (.ref b8) "__setattr__"=some (some (.builtin "object.__setattr__")))(aag:PySem.W.findIn K (.ref b8) "__class__"=some (some (.builtin "object.__class__")))(aah:PySem.W.mroIn K b8 (.type "object")=some true)(aai:PySem.W.kitOne K (.ref b8) (.ref bS)=some false)(aaj:PySem.W.makesIn K b8=true)(aak:PySem.W.keepIn K (.ref b8)=true)(aal:PySem.W.findIn K (.ref b8) "__init__"=some (some (.builtin "object.__init__")))(aam:MC K b8 "order" "Farthest.order" vE cF)(aan:PySem.W.plainGet K eI Str.empty=true)(aao:PySem.W.hasDictIn K eI=true)(aap:PySem.W.plainOver K eI=true)(aaq:PySem.W.findIn K (.ref eI) "__setattr__"=some (some (.builtin "object.__setattr__")))(aar:PySem.W.findIn K (.ref eI) "__class__"=some (some (.builtin "object.__class__")))(aas:PySem.W.mroIn K eI (.type "object")=some true)(aat:PySem.W.kitOne K (.ref eI) (.ref bS)=some false)(aau:PySem.W.makesIn K eI=true)(aav:PySem.W.keepIn K (.ref eI)=true)(aaw:PySem.W.findIn K (.ref eI) "__init__"=some (some (.builtin "object.__init__")))(aax:MC K eI "order" "Turns.order" vF cT)(aay:PySem.W.plainGet K bS Str.empty=true)(aaz:PySem.W.hasDictIn K bS=true)(aaA:PySem.W.plainOver K bS=true)(aaB:PySem.W.findIn K (.ref bS) "__setattr__"=some (some (.builtin "object.__setattr__")))(aaC:PySem.W.findIn K (.ref bS) "__class__"=some (some (.builtin "object.__class__")))(aaD:PySem.W.mroIn K bS (.type "object")=some true)(aaE:PySem.W.kitOne K (.ref bS) (.ref bS)=some true)(aaF:MD K bS "order" "Rule.order" Dz)(Va:PySem.W.plainGet K bL Str.empty=true)(Vb:PySem.W.hasDictIn K bL=true)(Vc:PySem.W.plainOver K bL=true)(Vd:PySem.W.findIn K (.ref bL) "__setattr__"=some (some (.builtin "object.__setattr__")))(aaG:PySem.W.findIn K (.ref bL) "__class__"=some (some (.builtin "object.__class__")))(aaH:PySem.W.mroIn K bL (.type "object")=some true)(aaI:PySem.W.kitOne K (.ref bL) (.ref bS)=some false)(aaJ:PySem.W.makesIn K bL=true)(aaK:PySem.W.keepIn K (.ref bL)=true)(aaL:MC K bL "order" "Ranked.order" vG cR)(aaM:MD K bL "check_letters" "Ranked.check_letters" IN)(Qp:MD K bL "__init__" "Ranked.__init__" xx)(aaN:PySem.W.findIn K (.ref bL) "ranks"=some none)(q_n:PySem.W.codeHdIn K cN PN=true)(q_f:PySem.W.codeHdIn K cF PF=true)(q_t:PySem.W.codeHdIn K cT PT=true)(q_r:PySem.W.codeHdIn K cR PR=true)(ndT:[PN,PF,PT,PR].Nodup)(nPt:Pt∉[PN,PF,PT,PR])(aaO:PySem.W.makesIn K bS=true)(aaP:PySem.W.keepIn K (.ref bS)=true)(aaQ:PySem.W.findIn K (.ref bS) "__init__"=some (some (.builtin "object.__init__")))(Qq:PySem.W.codeHdIn K cO Pt=true):
  ∃fd:FuncData,(∀ (s:Shared) (v:Value),BindsTo s fd ⟨[v],[]⟩ [("_law_script",v)])/\∀base:Heap,K.In base->base.Ns mainGlobals mg->pU mg base->bA l.prog w K mg base bg 11 fa fd ["_law_script"] (DP K Pt PN PF PT PR):=by
 obtain⟨abl,oc,od,an,sl,kV,dc,pm,cd,ct,Ve,Vf,Vg,Vh⟩:=UY;have e:=Rc.symm.trans (iU X G Ve);cases e;have Vi:=sY (x:="law") (qual:="law") (st:=zF) Vf Vg Vh;obtain⟨f_i,oci,odi,ani,sli,kVi,dci,pmi,cdi,cti,a_i,i_i,l_i,d_i,k_i⟩:=Qj;have zH:=sY (x:="__init__") (qual:="Net.__init__") (st:=Dh) l_i d_i k_i;have Jf:=zH.binds (ps:=["self","many","ties"]) fun _ _ _ _ _ _ us hl=>match us,hl with|[_,_,_],_=>rfl
 have MK:Mk K C f_i:=⟨mk,a_i,i_i,kc⟩
 have B:Bl mg:=⟨e_ X G xG,e_ X G U1,e_ X G Ql,e_ X G LM,e_ X G Qm,e_ X G U2,e_ X G U3,e_ X G U4,e_ X G LN,e_ X G Jd,e_ X G U5,e_ X G U6,e_ X G U7,e_ X G xH,e_ X G U8⟩
 have T:NT K mg C:=⟨⟨pg,ZQ,po,sa⟩,nH,nT,nO,nD,iU X G aC⟩
 have B2:Q3 mg:=⟨e_ X G U9,e_ X G Je,e_ X G Qn,e_ X G U_,e_ X G Qo⟩
 have hE:mg "enumerate"=none:=e_ X G qB;have RKT:Wz K mg bL:=⟨⟨Va,Vb,Vc,Vd⟩,aaN,iU X G zG⟩
 obtain⟨Vj,oc9,od9,an9,sl9,kV9,dc9,pm9,cd9,ct9,aaR,aaS,aaT,aaU,aaV⟩:=Qp;have Vk:=sY (x:="__init__") (qual:="Ranked.__init__") (st:=xx) aaT aaU aaV;have aaW:=Vk.binds (ps:=["self","ranks"]) fun _ _ _ _ _ _ us hl=>match us,hl with|[_,_],_=>rfl
 have RMK:Mk K bL Vj:=⟨aaJ,aaR,aaS,aaK⟩
 refine⟨PySem.W.fnOf "law" "law" (dI zF) (bZ zF) (av zF) .none kV dc pm an cd ct,fun s v=>.of_eq rfl,fun base kb nb hb=>?_⟩;have DQ:dL l.prog w K mg base bg 1 "is_whole" ["thing"] (og K):=FD.iw X G LB (fun _ _ _ _ _ _ us hl=>match us,hl with|[_],_=>rfl) fun LP=>Hw LP B;have zI:dL l.prog w K mg base bg 2 "is_whole_within" ["thing","least","most"] (oh K):=FD.iw X G Jc (fun _ _ _ _ _ _ us hl=>match us,hl with|[_,_,_],_=>rfl) fun Jg=>ER Jg DQ;have DR:dL l.prog w K mg base bg 3 "is_house" ["many","thing"] (rp K):=FD.iw X G LC (fun _ _ _ _ _ _ us hl=>match us,hl with|[_,_],_=>rfl) fun LQ=>Hz LQ zI;have Vl:dL l.prog w K mg base bg 1 "is_row" ["thing","length"] (HB K):=FD.iw X G UO (fun _ _ _ _ _ _ us hl=>match us,hl with|[_,_],_=>rfl) fun Vm=>Oy Vm B;have Vn:dL l.prog w K mg base bg 4 "are_unlike_houses" ["many","one","other"] HF:=FD.iw X G UP (fun _ _ _ _ _ _ us hl=>match us,hl with|[_,_,_],_=>rfl) fun Vo=>OI Vo DR;have Vp:dL l.prog w K mg base bg 5 "is_tie" ["many","thing"] HG:=FD.iw X G UQ (fun _ _ _ _ _ _ us hl=>match us,hl with|[_,_],_=>rfl) fun Vq=>OJ Vq Vl Vn;have LR:dL l.prog w K mg base bg 6 "check_ties" ["many","ties"] lO:=FD.iw X G LD (fun _ _ _ _ _ _ us hl=>match us,hl with|[_,_],_=>rfl) fun LU=>HJ LU B ⟨_,iU X G qQ⟩ ⟨_,iU X G uN⟩ zI Vp;have Vr:dL l.prog w K mg base bg 1 "check_balance" ["many","ties"] lO:=FD.iw X G UR (fun _ _ _ _ _ _ us hl=>match us,hl with|[_,_],_=>rfl) fun Vs=>OK Vs B ⟨_,iU X G qR⟩;have Qr:dL l.prog w K mg base bg 1 "houses_out" ["many","ties","house"] (xb Pt):=FC.iw X G P_ (fun _ _ _ _ _ _ us hl=>match us,hl with|[_,_,_],_=>rfl) fun Qs=>KJ Qs B kb hb Qq;have Qt:dL l.prog w K mg base bg 1 "distances_from" ["out_lists","start"] xc:=FD.iw X G Qa (fun _ _ _ _ _ _ us hl=>match us,hl with|[_,_],_=>rfl) fun Qu=>KL Qu B;have LV:dL l.prog w K mg base bg 1 "check_reached" ["distances"] xg:=FD.iw X G LG (fun _ _ _ _ _ _ us hl=>match us,hl with|[_],_=>rfl) fun LW=>HR LW B;have Qv:bA l.prog w K mg base bg 7 f_i _ ["self","many","ties"] (BP C Pt):=KR zH T B LR Vr Qr Qt LV;have DS:iL l.prog w K mg base bg 4 C "check_house" ["self","thing"] (om C):=MD.iw LL (fun _ _ _ _ _ _ us hl=>match us,hl with|[_,_],_=>rfl) fun Fg=>EU Fg T DR;have Jh:iL l.prog w K mg base bg 5 C "far" ["self","one","other"] (mT C):=MD.iw UZ (fun _ _ _ _ _ _ us hl=>match us,hl with|[_,_,_],_=>rfl) fun LX=>KD LX T DS;have Nd:iL l.prog w K mg base bg 5 C "out" ["self","house"] (xa C):=MD.iw U0 (fun _ _ _ _ _ _ us hl=>match us,hl with|[_,_],_=>rfl) fun LY=>KC LY T B DS;have Ji:iL l.prog w K mg base bg 6 C "good" ["self","house","home"] (rC C):=MD.iw Qk (fun _ _ _ _ _ _ us hl=>match us,hl with|[_,_,_],_=>rfl) fun Jj=>IL Jj T Jh;have Fh:dL l.prog w K mg base bg 1 "under_way" ["stand"] B9:=FD.iw X G ZK (fun _ _ _ _ _ _ us hl=>match us,hl with|[_],_=>rfl) fun aaX=>Ut aaX (e_ X G qB);have Vt:dL l.prog w K mg base bg 1 "first_free" ["others","stand","goes","letter"] Lk:=FD.iw X G ZL (fun _ _ _ _ _ _ us hl=>match us,hl with|[_,_,_,_],_=>rfl) fun aaY=>Uu aaY B;have Vu:dL l.prog w K mg base bg 1 "_law_pot" ["_law_script","_law_k"] (HY K):=FD.iw X G US (fun _ _ _ _ _ _ us hl=>match us,hl with|[_,_],_=>rfl) fun Vv=>O1 Vv B B2;have j8:dL l.prog w K mg base bg 1 "_law_take" ["_law_pot_here","_law_many"] gO:=FD.iw X G Qb (fun _ _ _ _ _ _ us hl=>match us,hl with|[_,_],_=>rfl) fun Qw=>K2 Qw B2;have Qx:dL l.prog w K mg base bg 2 "_law_beat" ["_law_pot_here"] BW:=FD.iw X G Qc (fun _ _ _ _ _ _ us hl=>match us,hl with|[_],_=>rfl) fun Qy=>K3 Qy j8;have Jk:dL l.prog w K mg base bg 1 "_law_ring" ["_law_many"] xn:=FD.iw X G Qd (fun _ _ _ _ _ _ us hl=>match us,hl with|[_],_=>rfl) fun Qz=>K7 Qz B;have QA:dL l.prog w K mg base bg 2 "_law_some_pairs" ["_law_pot_here","_law_many","_law_more"] BZ:=FD.iw X G Qe (fun _ _ _ _ _ _ us hl=>match us,hl with|[_,_,_],_=>rfl) fun QB=>K9 QB B j8;have Vw:dL l.prog w K mg base bg 2 "_law_box" ["_law_pot_here"] vA:=FD.iw X G UT (fun _ _ _ _ _ _ us hl=>match us,hl with|[_],_=>rfl) fun Vx=>O_ Vx B j8;have LZ:dL l.prog w K mg base bg 2 "_law_words" ["_law_pot_here"] vA:=FD.iw X G LH (fun _ _ _ _ _ _ us hl=>match us,hl with|[_],_=>rfl) fun L3=>Iq L3 B j8;have Vy:dL l.prog w K mg base bg 2 "_law_one_way" ["_law_pot_here","_law_many"] IA:=FD.iw X G UU (fun _ _ _ _ _ _ us hl=>match us,hl with|[_,_],_=>rfl) fun Vz=>Ph Vz B B2 j8 Jk;have VA:dL l.prog w K mg base bg 2 "_law_renamed" ["_law_pot_here","_law_many","_law_ties"] Dw:=FD.iw X G UV (fun _ _ _ _ _ _ us hl=>match us,hl with|[_,_,_],_=>rfl) fun VB=>Pg VB B j8;have VC:dL l.prog w K mg base bg 3 "_law_net" ["_law_pot_here"] IE:=FD.iw X G UX (fun _ _ _ _ _ _ us hl=>match us,hl with|[_],_=>rfl) fun VD=>Po VD B j8 Jk Vw LZ QA Vy VA;have L4:dL l.prog w K mg base bg 1 "_law_outs" ["_law_many","_law_ties"] xr:=FD.iw X G LI (fun _ _ _ _ _ _ us hl=>match us,hl with|[_,_],_=>rfl) fun L5=>IF L5 B B2;have QC:dL l.prog w K mg base bg 1 "_law_far" ["_law_outs_here"] B5:=FD.iw X G Qf (fun _ _ _ _ _ _ us hl=>match us,hl with|[_],_=>rfl) fun QD=>Ld QD B;have L7:dL l.prog w K mg base bg 2 "_law_start" ["_law_pot_here","_law_outs_here"] xt:=FD.iw X G LJ (fun _ _ _ _ _ _ us hl=>match us,hl with|[_,_],_=>rfl) fun L8=>IH L8 B j8;have QE:dL l.prog w K mg base bg 9 "_law_case" ["_law_pot_here"] (B_ C Pt):=FD.iw X G Qg (fun _ _ _ _ _ _ us hl=>match us,hl with|[_],_=>rfl) fun QF=>Ll QF T MK Jf Qv VC L4 L7 QC;have L9:dL l.prog w K mg base bg 2 "_law_ranks" ["_law_pot_here","_law_many"] xE:=FD.iw X G LK (fun _ _ _ _ _ _ us hl=>match us,hl with|[_,_],_=>rfl) fun L_=>IZ L_ B j8;have aaZ:bA l.prog w K mg base bg 2 Vj _ ["self","ranks"] (xC bL):=IP Vk B RKT DQ;have VE:iL l.prog w K mg base bg 1 bL "check_letters" ["self","homes"] (Cd bL):=MD.iw aaM (fun _ _ _ _ _ _ us hl=>match us,hl with|[_,_],_=>rfl) fun F=>Ln F B RKT;have RS:UD l.prog w K mg base C eH cM b8 eI bS bL PN PF PT PR:=⟨⟨⟨ZR,ZS,ZT,ZU⟩,iU X G Lz,ZV,Fe,Ff,ZW,ZX⟩,⟨⟨Z2,Z3,Z4,Z5⟩,iU X G Fd,Z6,Fe,Ff,Z7,Z8⟩,⟨⟨aac,aad,aae,aaf⟩,iU X G Cn,aag,Fe,Ff,aah,aai⟩,⟨⟨aan,aao,aap,aaq⟩,iU X G LA,aar,Fe,Ff,aas,aat⟩,⟨⟨aay,aaz,aaA,aaB⟩,iU X G Jb,aaC,Fe,Ff,aaD,aaE⟩,⟨⟨Va,Vb,Vc,Vd⟩,iU X G zG,aaG,Fe,Ff,aaH,aaI⟩,ndT,(MD.iw Z1 (fun _ _ _ _ _ _ us hl=>match us,hl with|[_,_,_,_,_],_=>rfl) fun F=>DB F Fh),(MC.iw aab (fun _ _ _ _ _ _ us hl=>match us,hl with|[_,_,_,_,_],_=>rfl) fun F=>Uy F B kb hb q_n T Jh Fh),(MC.iw aam (fun _ _ _ _ _ _ us hl=>match us,hl with|[_,_,_,_,_],_=>rfl) fun F=>Uz F B kb hb q_f T Jh Fh),(MC.iw aax (fun _ _ _ _ _ _ us hl=>match us,hl with|[_,_,_,_,_],_=>rfl) fun F=>UA F B kb hb q_t Fh),(MD.iw aaF (fun _ _ _ _ _ _ us hl=>match us,hl with|[_,_,_,_,_],_=>rfl) fun F=>DB F Fh),(MC.iw aaL (fun _ _ _ _ _ _ us hl=>match us,hl with|[_,_,_,_,_],_=>rfl) fun F=>UB F B kb hb q_r RKT VE Fh)⟩
 have aa0:dL l.prog w K mg base bg 7 "hand_in_turn" ["net","homes","stand","letters","goes"] (P4 C):=FD.iw X G ZM (fun _ _ _ _ _ _ us hl=>match us,hl with|[_,_,_,_,_],_=>rfl) fun aa1=>UG aa1 T Ji Nd Vt;have aa2:dL l.prog w K mg base bg 7 "hand_eagerly" ["net","homes","stand","letters","goes"] (P0 C):=FD.iw X G ZN (fun _ _ _ _ _ _ us hl=>match us,hl with|[_,_,_,_,_],_=>rfl) fun aa3=>UE aa3 T Ji Nd Vt;have QG:dL l.prog w K mg base bg 10 "hand" ["rule","net","homes","stand","beat"] (Cm C eH cM b8 eI bS bL PN PF PT PR):=FD.iw X G Qh (fun _ _ _ _ _ _ us hl=>match us,hl with|[_,_,_,_,_],_=>rfl) fun QH=>Lu QH B RS aa0 aa2;have QI:dL l.prog w K mg base bg 1 "_law_order" ["_law_way","_law_far_here","_law_homes","_law_stand","_law_beat_here","_law_ranks_here"] Cj:=FD.iw X G Qi (fun _ _ _ _ _ _ us hl=>match us,hl with|[_,_,_,_,_,_],_=>rfl) fun QJ=>Ls QJ B hE;have aa4:dL l.prog w K mg base bg 1 "_law_is_right" ["_law_outs_here","_law_stand","_law_told"] P6:=FD.iw X G ZO (fun _ _ _ _ _ _ us hl=>match us,hl with|[_,_,_],_=>rfl) fun aa5=>UI aa5 B B2;have aa6:dL l.prog w K mg base bg 1 "_law_nearer" ["_law_far_here","_law_homes","_law_stand","_law_told"] Ly:=FD.iw X G ZP (fun _ _ _ _ _ _ us hl=>match us,hl with|[_,_,_,_],_=>rfl) fun aa7=>UJ aa7 hE;exact P7 Vi B hE RS nPt ⟨ZY,Z0,ZZ⟩ ⟨Z9,aaa,Z_⟩ ⟨aaj,aal,aak⟩ ⟨aau,aaw,aav⟩ ⟨aaO,aaQ,aaP⟩ RMK aaW aaZ Vu Qx QE L9 QI QG aa4 aa6
theorem zJ(h:((List.range 2000).any fun c=>PySem.W.codeHdIn K c P)=true):∃c,PySem.W.codeHdIn K c P=true:=
 let ⟨c,_,e⟩:=Az.mp h;⟨c,e⟩
theorem QK(hO:CW ts H)(h:aW K H a xs):Nb K H a xs:=by
 rcases h with h|h
 .rcases h with h|⟨o,h⟩
  .rcases hO.2 a with z|⟨_,z⟩|⟨o,ys,z⟩ <;> · rw[h] at z;cases z
  .exact .inl ⟨o,h⟩
 .exact .inr fun H'=>.inr h
theorem walk{l:PySem.W.OpenLaw}{q:Program}{u9:List Str}{XP:(Str->Option Value)->Heap->Prop}{YP:World->Heap->Prop}{d:DefRec}{K:Params->PySem.W.Frag}{Pt PR PT PF PN:Addr}(hn:l.most=some 63)(Si:d.params.defaults=[])(hY:∀ (w:World) (h:Heap),YP w h->(K w.params).In h)(hT:∀ (w:World) (h:Heap),YP w h->∀P∈[Pt,PR,PT,PF,PN],h.get? P=some (PySem.W.tabObj #[]))(aa8:∀ (w:World),((List.range 2000).any fun c=>PySem.W.codeHdIn (K w.params) c Pt)=true)(aa9:∀ (w:World),(K w.params).lookup Pt=none)(aba:∀ (w:World),((List.range 2000).any fun c=>PySem.W.codeHdIn (K w.params) c PR)=true)(abb:∀ (w:World),(K w.params).lookup PR=none)(abc:∀ (w:World),((List.range 2000).any fun c=>PySem.W.codeHdIn (K w.params) c PT)=true)(abd:∀ (w:World),(K w.params).lookup PT=none)(abe:∀ (w:World),((List.range 2000).any fun c=>PySem.W.codeHdIn (K w.params) c PF)=true)(abf:∀ (w:World),(K w.params).lookup PF=none)(abg:∀ (w:World),((List.range 2000).any fun c=>PySem.W.codeHdIn (K w.params) c PN)=true)(abh:∀ (w:World),(K w.params).lookup PN=none)(F:∀ (w:World) (mg:Str->Option Value) (fa:Addr) (h:Heap),(K w.params).In h->h.Ns mainGlobals mg->mg d.name=some (.ref fa)->
   ∃fd:FuncData,(∀ (s:Shared) (u:Value),BindsTo s fd ⟨[u],[]⟩ [("_law_script",u)])/\∀base:Heap,(K w.params).In base->base.Ns mainGlobals mg->pU mg base->bA l.prog w (K w.params) mg base bg 11 fa fd ["_law_script"] (DP (K w.params) Pt PN PF PT PR)):
  PySem.W.WalkO q u9 XP YP l.row.toRowW d [] (fun f vs=>PySem.call f vs):=
 GD (n:=63) (k:=11) (x:="_law_script") (ts:=[Pt,PR,PT,PF,PN]) (K:=K) (CX:=fun _=>bg) (sp:=fun w=>(DP (K w.params) Pt PN PF PT PR)) hn (by decide) Si ⟨rfl,by decide,by decide,rfl⟩ hY hT
  (fun w P=>fun e=>(bb.mp e).elim (fun e=>by rw[e];exact zJ (aa8 w)) (fun e=>(bb.mp e).elim (fun e=>by rw[e];exact zJ (aba w)) (fun e=>(bb.mp e).elim (fun e=>by rw[e];exact zJ (abc w)) (fun e=>(bb.mp e).elim (fun e=>by rw[e];exact zJ (abe w)) (fun e=>by rw[cu.mp e];exact zJ (abg w)))))) (fun w P=>fun e=>(bb.mp e).elim (fun e=>by rw[e];exact aa9 w) (fun e=>(bb.mp e).elim (fun e=>by rw[e];exact abb w) (fun e=>(bb.mp e).elim (fun e=>by rw[e];exact abd w) (fun e=>(bb.mp e).elim (fun e=>by rw[e];exact abf w) (fun e=>by rw[cu.mp e];exact abh w))))) F
  (fun w H a ns hl hO hS=>⟨a,ns,rfl,QK hO hS,hl,.inl (hO.1 _ (by simp)),⟨.inl (hO.1 _ (by simp)),.inl (hO.1 _ (by simp)),.inl (hO.1 _ (by simp)),.inl (hO.1 _ (by simp))⟩,fun _=>rfl⟩) fun _ _ _ _ _ z=>z
end qx
open PySem PySem.W PyProof.Rows
namespace PySem.W.Fast
def tw13268179979559144824:=trivial
def tw12045775159472988087:=trivial
def tw8901682161610058514:=trivial
def tw16801263348048695294:=trivial
def tw7993659434122875025:=trivial
def tw1690984164949135625:=trivial
def tw306776338886105049:=trivial
def tw4829095392964309909:=trivial
def tw2433254869905969132:=trivial
def tw13268381919544681197:=trivial
def tw2633900307753903958:=trivial
def tw12248588819863210034:=trivial
def tw7610433799649157983:=trivial
def tw7047460160095289050:=trivial
def tw17497221295259054114:=trivial
def tw12717700607886772141:=trivial
def tw6279122393146248758:=trivial
def tw11156455012631079519:=trivial
def tw1205951209701050475:=trivial
def tw17831777773308919553:=trivial
def tw1770508094334676155:=trivial
def tw13477108051285786971:=trivial
def tw3194579648634171323:=trivial
def tw4156891050522003779:=trivial
def tw5120007079846999580:=trivial
def tw6829434813612657076:=trivial
def tw4947044765428469352:=trivial
def tw16363030770891377717:=trivial
def tw7290330347801157974:=trivial
def tw3095195611026159059:=trivial
def tw1987795782737326032:=trivial
def tw11273538614902054271:=trivial
def tw2645998582663497892:=trivial
def tw17676211008791102499:=trivial
def tw8891304483387688427:=trivial
def tw7392879253351775612:=trivial
def tw6842373598839424286:=trivial
def tw17544131327053952152:=trivial
def tw4573422208339420572:=trivial
def tw14569244352586370929:=trivial
def tw17515921443746554555:=trivial
def tw2398595134540155921:=trivial
def tw11849584927456304796:=trivial
def tw4696341829953093866:=trivial
def tw8135577663571601387:=trivial
def tw9768025977845981364:=trivial
def tw6389470801351451982:=trivial
def tw14619960585049802323:=trivial
def tw1190765650565697145:=trivial
def tw6771016363194232698:=trivial
def tw6102113661112124909:=trivial
def tw17672440898755025380:=trivial
def tw13620261055704120647:=trivial
def tw1469985767299939187:=trivial
def tw6906644420612243434:=trivial
def tw16906777546759702118:=trivial
def tw3407244671132549915:=trivial
def tw3614817522081942650:=trivial
def tw3559663258058705217:=trivial
def tw7587555517735464257:=trivial
def tw2689079772407720831:=trivial
def tw7813450092815271750:=trivial
def tw14885911733481881682:=trivial
def tw14473520004322136442:=trivial
def tw11811873082321769315:=trivial
def tw8662195246078222948:=trivial
def tw8591842066361891089:=trivial
def tw13346552371540474588:=trivial
def tw8511256789028540859:=trivial
def tw6054822807141955319:=trivial
def tw15411557262371398279:=trivial
def tw14676968907093592447:=trivial
def tw6449657544258154974:=trivial
def tw1775203480319624828:=trivial
def tw6672870632408684776:=trivial
def tw15479075086364966493:=trivial
def tw9145367707737466007:=trivial
def tw9270159058111675521:=trivial
def tw15757465726795711463:=trivial
def tw3342908746897803236:=trivial
def tw14031026240934370697:=trivial
def tw2340553675584030526:=trivial
def tw17263694080756246371:=trivial
def tw6694458256289140077:=trivial
def tw1706009577207276938:=trivial
def tw17310043723770366885:=trivial
def tw9504105690205368005:=trivial
def tw900045059873653978:=trivial
def tw6674476080749027567:=trivial
def tw12672611183263903521:=trivial
def tw9610119389957096818:=trivial
def tw15626704433375930141:=trivial
def tw4249796130650674084:=trivial
def tw879153980735201129:=trivial
def tw3624664981938505802:=trivial
def tw5901302738207053533:=trivial
def tw7176206717015543495:=trivial
def tw13235285076778205242:=trivial
def tw8637440228660329257:=trivial
def tw4534690979351034520:=trivial
def tw13268033787390288292:=trivial
def tw13493499664287797345:=trivial
def tw7451273646065971568:=trivial
def tw9223428747837904883:=trivial
def tw14568879104329029237:=trivial
def tw14074814344589981143:=trivial
def tw8261482565037588023:=trivial
def tw12122305614813021888:=trivial
def tw3631667011283024254:=trivial
def tw1239957381980644973:=trivial
def tw6002310009118938725:=trivial
def tw18218032187654838025:=trivial
def tw11178155424829887057:=trivial
def tw11754393618440743294:=trivial
def tw8448311434326258443:=trivial
def tw1495789624835994959:=trivial
def tw11759812306075035452:=trivial
def tw6840007256865301211:=trivial
def tw6494758610200161007:=trivial
def tw10399264758736455017:=trivial
def tw16129603847575210424:=trivial
def tw11639925335825293559:=trivial
def tw2671970180099609202:=trivial
def tw16482394113524563819:=trivial
def tw8889264559992625324:=trivial
def tw2768485742687008183:=trivial
def tw15276963198033232089:=trivial
def tw15956471639272869516:=trivial
def tw10353208283987517402:=trivial
def tw159173421551580879:=trivial
def tw15225090987005622488:=trivial
def tw12676954598060107604:=trivial
def tw13311023818719465603:=trivial
def tw17903119967992925538:=trivial
def tw16618127323413412818:=trivial
def tw2016707398061113239:=trivial
def tw12939275911045554503:=trivial
def tw2426865382036717924:=trivial
def tw523965383347720483:=trivial
def tw13426037924410374149:=trivial
def tw12753621125917020473:=trivial
def tw17598898804889379419:=trivial
def tw7976465862150692847:=trivial
def tw8714002154394655927:=trivial
def tw13327574470123029023:=trivial
def tw14568531675590409192:=trivial
def tw11107970948048538451:=trivial
def tw8201430947573800958:=trivial
def tw17026164552838610867:=trivial
def tw1055864134718181833:=trivial
def tw17586686855646970610:=trivial
def tw13590018233609398563:=trivial
def tw15452849197294603965:=trivial
def tw14368125862150909859:=trivial
def tw13380368133606086080:=trivial
def tw2684968769706797676:=trivial
def tw17069039469876691480:=trivial
def tw11419311014491484402:=trivial
def tw998519678002805987:=trivial
def tw16659929713926352428:=trivial
def tw14943656183826622715:=trivial
def tw2242638877141478635:=trivial
def tw469132272122818137:=trivial
def tw15868746227455473684:=trivial
def tw3395248909226094754:=trivial
def tw3433324846613003813:=trivial
def tw16804523335010561615:=trivial
def tw3873822178972701897:=trivial
def tw14398804886960372373:=trivial
def tw1316380428472125713:=trivial
def tw15197552732641150612:=trivial
def tw14868236111786415864:=trivial
def tw18166701265712855999:=trivial
def tw11487857288973431814:=trivial
def tw17711490709133957455:=trivial
def tw4476568851403262370:=trivial
def tw14053654113179390633:=trivial
def tw5789460366338746124:=trivial
def tw1368734060493740482:=trivial
def tw11060636479355218838:=trivial
def tw16148856895707225257:=trivial
def tw6103184815653769856:=trivial
def tw12867635620880481436:=trivial
def tw6464076187729782850:=trivial
def tw773724413064796043:=trivial
def tw9772800073368033361:=trivial
def tw9014998306231610794:=trivial
def tw9197570312960179342:=trivial
def tw15253063058326587969:=trivial
def tw12487881977499587445:=trivial
def tw3404597127470274223:=trivial
def tw8742528456870789524:=trivial
def tw6353236220672814619:=trivial
def tw11894841510305066210:=trivial
def tw7102312370604258559:=trivial
def tw14937067636635036067:=trivial
def tw3763208232775440106:=trivial
def tw5459986967289209706:=trivial
def tw6633675143942555011:=trivial
def tw13321516702493733907:=trivial
def tw1353581413027248423:=trivial
def tw8595362845868193867:=trivial
def tw18147053855278889831:=trivial
def tw2025180568417513813:=trivial
def tw5678484559660572812:=trivial
def tw3106773365981550411:=trivial
def tw6643065299072784781:=trivial
def tw9710143338685976611:=trivial
def tw14874149006340729817:=trivial
def tw15105614044722234125:=trivial
def tw13998380830383408490:=trivial
def tw12287549800809454142:=trivial
def tw7846622789927839500:=trivial
def tw10025774912089533472:=trivial
def tw1866861049362441841:=trivial
def tw1065304377667810686:=trivial
def tw16832783477979608868:=trivial
def tw3877961359588026264:=trivial
def tw5473921303894881248:=trivial
def tw5587642530763699482:=trivial
def tw8751400451861548551:=trivial
def tw3228379782418332060:=trivial
def tw7224365035707146082:=trivial
def tw9710896266257646067:=trivial
def tw6319014201136331807:=trivial
def tw10597206996070783559:=trivial
def tw10408104835808131058:=trivial
def tw306132071350676742:=trivial
def tw10554257151098424674:=trivial
def tw16614379833201538943:=trivial
def tw4980612699445114133:=trivial
def tw1276790378184927540:=trivial
def tw11853009278417227899:=trivial
def tw5169865697354345103:=trivial
def tw13954532585620788280:=trivial
def tw7863728097600188147:=trivial
def tw12374154529764870847:=trivial
def tw12528915972207537784:=trivial
def tw10375572201749474038:=trivial
def tw14777189266592531026:=trivial
def tw8942488308846233762:=trivial
def tw9878422419561868439:=trivial
def tw6415614955597966258:=trivial
def tw4910324779530917924:=trivial
def tw11627931365409028397:=trivial
def tw11383680412918874742:=trivial
def tw7859927437540390331:=trivial
def tw3896360830359416755:=trivial
def tw7400791446710740958:=trivial
def tw7039323937097968912:=trivial
def tw991665222576839903:=trivial
def tw18213913641006991608:=trivial
def tw15955665476803285341:=trivial
def tw11690309559627383234:=trivial
def tw13622881557189874988:=trivial
def tw16375385388432292801:=trivial
def tw15572670439104499518:=trivial
def tw11262843305494759204:=trivial
def tw9926904383889305828:=trivial
def tw5555845821113199614:=trivial
def tw7569896284135323090:=trivial
def tw72063347211560321:=trivial
def tw1779476751763775285:=trivial
def tw3330650241347101155:=trivial
def tw9360484144540864370:=trivial
def tw12535272245473959422:=trivial
def tw13474509832636922620:=trivial
def tw2423906890544004711:=trivial
def tw6197487448377194050:=trivial
def tw16711514163662287370:=trivial
def tw17788345715104671819:=trivial
def tw5373081334592465874:=trivial
def tw10734372017421934518:=trivial
def tw12108126438375451632:=trivial
def tw8753201053841330375:=trivial
def tw9383893179633075412:=trivial
def tw13172928456357178196:=trivial
def tw13279705945846132184:=trivial
def tw8541076815350583695:=trivial
def tw8164962656062024767:=trivial
def tw16668827752470571834:=trivial
def tw12233880740811881014:=trivial
def tw7689812110020907757:=trivial
def tw6632689348063265214:=trivial
def tw13904132804383668012:=trivial
def tw16522454289142928276:=trivial
def tw11897165718905556061:=trivial
def tw16775125428678371175:=trivial
def tw14622810465384539399:=trivial
def tw3481128604870196734:=trivial
def tw9362405230574757713:=trivial
def tw15630446257410325060:=trivial
def tw6757205417530868328:=trivial
def tw333091166272198245:=trivial
def tw10066186500791341679:=trivial
def tw18184925495378675175:=trivial
def tw14429092764093311306:=trivial
def tw7400773857632996682:=trivial
def tw2669285228320746474:=trivial
def tw15710147198482854589:=trivial
def tw9961111622710633517:=trivial
def tw14341934607546827909:=trivial
def tw9842812377074023887:=trivial
def tw10813104007986635401:=trivial
def tw10614059977681019662:=trivial
def tw9051890681870381044:=trivial
def tw12382344955246533475:=trivial
def tw12139342299696809263:=trivial
def tw3677349093470222943:=trivial
def tw8762884555826123906:=trivial
def tw1105160959034239436:=trivial
def tw9304390650328663700:=trivial
def tw3158035073730196450:=trivial
def tw2261416115628820110:=trivial
def tw7887429702935084880:=trivial
def tw17633765282622494089:=trivial
def tw1414261625691898586:=trivial
def tw14082815546487174021:=trivial
def tw8297317932256752252:=trivial
def tw8951777067967665331:=trivial
def tw13766450116845730467:=trivial
def tw4200826749624266187:=trivial
def tw886834016982573324:=trivial
def tw2729541437048320701:=trivial
def tw3110900689625354172:=trivial
def tw15792645698255946887:=trivial
def tw8410631023891391106:=trivial
def tw11622738620524515944:=trivial
def tw11218551011390951248:=trivial
def tw4578906197004829122:=trivial
def tw9720709440666590715:=trivial
def tw1933622935307468906:=trivial
def tw17162568553299350509:=trivial
def tw1375404891830122692:=trivial
def tw15258902613985725738:=trivial
def tw18350746690021609983:=trivial
def tw2114240568769536503:=trivial
def tw12879546046933270290:=trivial
def tw346289038897244124:=trivial
def tw432216442921255642:=trivial
def tw10020787246710813348:=trivial
def tw4548203584104415453:=trivial
def tw2390753349859001925:=trivial
def tw5756265072629965059:=trivial
def tw462725730109965388:=trivial
def tw17790842700319355079:=trivial
def tw3976213161950458591:=trivial
def tw4803836381611726116:=trivial
def tw1828162779858122800:=trivial
def tw3241109052337523921:=trivial
def tw9356802614700738247:=trivial
def tw181650478309104526:=trivial
def tw624696192005068386:=trivial
def tw12993135468961037733:=trivial
def tw3318959756628588329:=trivial
def tw5166612388219074342:=trivial
def tw16298435156466778173:=trivial
def tw17191545585330990873:=trivial
def tw16567513086401267572:=trivial
def tw24745551312598099:=trivial
def tw8371776704962477339:=trivial
def tw13657595756962088660:=trivial
def tw11490148444498650332:=trivial
def tw14852268931890191754:=trivial
def tw11922912714320053928:=trivial
def tw9449317168330779059:=trivial
def tw11946221617092465038:=trivial
def tw14803825592267829481:=trivial
def tw11826731660314955457:=trivial
def tw17826881007773868767:=trivial
def tw2694768941503376517:=trivial
def tw2406511570813388612:=trivial
def tw2213305275337654674:=trivial
def tw16260633869451154874:=trivial
def tw9991679675603131508:=trivial
def tw7455619224889176088:=trivial
def tw7495972768941957506:=trivial
def tw9757554528843769837:=trivial
def tw16066504409242723937:=trivial
def tw18071479173009920030:=trivial
def tw4861751596023450590:=trivial
def tw16710902380628054768:=trivial
def tw16994999056588721458:=trivial
def tw10476566467234927366:=trivial
def tw3756055299656679868:=trivial
def tw12700754136875700074:=trivial
def tw12162431640915962089:=trivial
def tw1751785659111979784:=trivial
def tw16438881605173282176:=trivial
def tw2045064868523597941:=trivial
def tw8006997903193658216:=trivial
def tw5964458485183744753:=trivial
def tw15479413467521631678:=trivial
def tw9747889407300680677:=trivial
def tw13499014154648066303:=trivial
def tw11226135234942040002:=trivial
def tw3888952342573001206:=trivial
def tw12597757889216996365:=trivial
def tw8356469309282481130:=trivial
def tw118164560198303571:=trivial
def tw16176402187893769583:=trivial
def tw15315644893495640003:=trivial
def tw1439612301906363203:=trivial
def tw3248367727149669985:=trivial
def tw3286083765314408614:=trivial
def tw412280886302263240:=trivial
def tw4072740125526980769:=trivial
def tw14121255169389471552:=trivial
def tw6266142514526682842:=trivial
def tw9111722093415193824:=trivial
def tw17649530427027305053:=trivial
def tw7682679598322285526:=trivial
def tw6531502491333189345:=trivial
def tw14257193264567963110:=trivial
def tw12604923901398750094:=trivial
def tw11419727079013378224:=trivial
def tw6531904145511167475:=trivial
def tw3501790748804689899:=trivial
def tw15789504638016694382:=trivial
def tw14847639970857176672:=trivial
def tw14796574469009108577:=trivial
def tw6105964917997396947:=trivial
def tw12401417064326476568:=trivial
def tw9307004046367368750:=trivial
def tw8467256755649331498:=trivial
def tw7387460155985923361:=trivial
def tw15910089799189287227:=trivial
def tw16538161303166916248:=trivial
def tw10302531252800453081:=trivial
def tw7928824323338160778:=trivial
def tw1022443324929121183:=trivial
def tw1898800279132113623:=trivial
def tw15680989953366465303:=trivial
def tw9230792876963115864:=trivial
def tw14478657725203295530:=trivial
def tw5833679216746607656:=trivial
def tw8401058052776550008:=trivial
def tw17852873739226807908:=trivial
def tw6105029088504131444:=trivial
def tw10145797096630954675:=trivial
def tw14560242222573724233:=trivial
def tw12042435945036414069:=trivial
def tw2350770420093573354:=trivial
def tw15471662514300037770:=trivial
def tw11600236186082200642:=trivial
def tw4509533915025142283:=trivial
def tw16214364045785786934:=trivial
def tw17455713468290338143:=trivial
def tw5830367746281823985:=trivial
def tw11901359448315060097:=trivial
def tw4677956460152309251:=trivial
def tw368813954567335412:=trivial
def tw3595571992724354581:=trivial
def tw11176866590540407526:=trivial
def tw7178582615087005622:=trivial
def tw8640428237915571945:=trivial
def tw5951168300745107274:=trivial
def tw9441662588452462436:=trivial
def tw1387436866268773168:=trivial
def tw13809608770953470154:=trivial
def tw11958270070321048510:=trivial
def tw15107623113630355455:=trivial
def tw6875150036219989866:=trivial
def tw477795569962934602:=trivial
def tw3458006936478348644:=trivial
def tw1386504116946832394:=trivial
def tw1289561640083139190:=trivial
def tw9983897783008252957:=trivial
def tw3310448917360783696:=trivial
def tw11468891808549493778:=trivial
def tw17242112388531097010:=trivial
def tw8841068130845764587:=trivial
def tw17490871183276414950:=trivial
def tw1818117931041488795:=trivial
def tw3202238371467227241:=trivial
def tw12586431752991417701:=trivial
def tw13947947615611995618:=trivial
def tw17935152370321204227:=trivial
def tw17927784864256787507:=trivial
def tw12609993107511074073:=trivial
def tw753216491392282431:=trivial
def tw1989440916263566137:=trivial
def tw16341287606492675288:=trivial
def tw13983092547884802246:=trivial
def tw4338566818685661601:=trivial
def tw18313722132155744158:=trivial
def tw5045172840461249005:=trivial
def tw18191076218956739360:=trivial
def tw15796085740656255525:=trivial
def tw10871776327763037067:=trivial
def tw5015468452541002889:=trivial
def tw1160960428847654299:=trivial
end PySem.W.Fast
set_option maxRecDepth 100000 in
set_option maxHeartbeats 0 in
theorem PySem.Challenge.cw_neverwait_k36_whole_the_first_comes_near_holds : PySem.Challenge.rw_neverwait_k36_whole_the_first_comes_near.Holds := by
 w_on; o_law; k_head; (case hw=>w_witness2)
 k_fill
 refine qx.walk (l:=PySem.Challenge.rw_neverwait_k36_whole_the_first_comes_near) (Pt:=_) (PR:=_) (PT:=_) (PF:=_) (PN:=_) rfl rfl (fun w h Y=>PySem.W.km_in_of Y) (fun w h Y=>PySem.W.km_tabs_of Y) ?cd0 ?kt0 ?cd1 ?kt1 ?cd2 ?kt2 ?cd3 ?kt3 ?cd4 ?kt4 ?F;case F =>
  intro w mg fa h KX G Sj;refine' qx.P9 (Pt:=_) (PR:=_) (PT:=_) (PF:=_) (PN:=_) KX G Sj ?_ ?_ ?_ ?_ ?_ ?_ ?_ ?_ ?_ ?_ ?_ ?_ ?_ ?_ ?_ ?_ ?_ ?_ ?_ ?_ ?_ ?_ ?_ ?_ ?_ ?_ ?_ ?_ ?_ ?_ ?_ ?_ ?_ ?_ ?_ ?_ ?_ ?_ ?_ ?_ ?_ ?_ ?_ ?_ ?_ ?_ ?_ ?_ ?_ ?_ ?_ ?_ ?_ ?_ ?_ ?_ ?_ ?_ ?_ ?_ ?_ ?_ ?_ ?_ ?_ ?_ ?_ ?_ ?_ ?_ ?_ ?_ ?_ ?_ ?_ ?_ ?_ ?_ ?_ ?_ ?_ ?_ ?_ ?_ ?_ ?_ ?_ ?_ ?_ ?_ ?_ ?_ ?_ ?_ ?_ ?_ ?_ ?_ ?_ ?_ ?_ ?_ ?_ ?_ ?_ ?_ ?_ ?_ ?_ ?_ ?_ ?_ ?_ ?_ ?_ ?_ ?_ ?_ ?_ ?_ ?_ ?_ ?_ ?_ ?_ ?_ ?_ ?_ ?_ ?_ ?_ ?_ ?_ ?_ ?_ ?_ ?_ ?_ ?_ ?_ ?_ ?_ ?_ ?_ ?_ ?_ ?_ ?_ ?_ ?_ ?_ ?_ ?_ ?_ ?_ ?_ ?_ ?_;all_goals first
   | (refine' qx.FD.mk ?a ?l ?d ?k; (case a=>k_is); (case l=>k_is); (case d=>k_is); (case k=>k_is))
   | (refine' qx.FC.mk ?a ?l ?d ?k; (case a=>k_is); (case l=>k_is); (case d=>k_is); (case k=>k_is))
   | (refine' qx.MD.mk ?a ?i ?l ?d ?k; (case a=>k_is); (case i=>k_is); (case l=>k_is); (case d=>k_is); (case k=>k_is))
   | (refine' qx.MC.mk ?a ?i ?l ?d ?k; (case a=>k_is); (case i=>k_is); (case l=>k_is); (case d=>k_is); (case k=>k_is))
   | k_is
   | kernel_rfl
   | decide
   | exact ⟨by kernel_rfl,by k_is,by k_is,by k_is,by k_is,by k_is,by k_is,by kernel_rfl⟩
   | skip
 case kt0=>intro w; kernel_rfl
 case cd0=>intro w; kernel_rfl
 case kt1=>intro w; kernel_rfl
 case cd1=>intro w; kernel_rfl
 case kt2=>intro w; kernel_rfl
 case cd2=>intro w; kernel_rfl
 case kt3=>intro w; kernel_rfl
 case cd3=>intro w; kernel_rfl
 case kt4=>intro w; kernel_rfl
 case cd4=>intro w; kernel_rfl
