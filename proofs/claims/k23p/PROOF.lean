import PyProof.Rows.All
import Wide.All
import OpenK.AllK
import Wide.FinOn
import Lean
import PyProof.EqAt
import PyProof.EqKinds
import PyProof.TupleCall
import PySem.Challenge.RW_neverwait_k23_behind_handings
set_option Elab.async false
set_option linter.all false
set_option maxRecDepth 100000
set_option maxHeartbeats 8000000
def aY:=@List.getD_eq_getElem?_getD
def aP:=@List.length_map
def bB:=@List.getElem?_eq_getElem
def aD:=@PySem.wpAny_bind
def bY:=@PySem.Heap.get?_push_of_some
def cm:=@List.getElem?_map
def cX:=@List.mem_cons_of_mem
def cQ:=@Nat.lt_of_lt_of_le
def bC:=@Nat.le_trans
def bt:=@Nat.le_refl
def cK:=@List.getElem?_eq_some_iff
def ap:=@if_pos
def aq:=@if_neg
def aH:=@PyProof.Rows.wpS_bind
def bJ:=@List.size_toArray
def bW:=@List.mem_cons_self
def bg:=@Nat.ne_of_lt
def bh:=@PySem.Heap.lt_size
def cf:=@List.length_append
def b8:=@List.length_range
def bP:=@Option.some.inj
def bS:=@List.mem_append
def cC:=@List.mem_singleton
def cI:=@PySem.Heap.get?_push_size
def de:=@List.getElem?_eq_none
def cF:=@Bool.false_ne_true
def bQ:=@List.mem_range
def df:=@List.mem_of_getElem?
def bz:=@List.mem_map
def bK:=@List.mem_cons
def cW:=@of_decide_eq_true
def cn:=@PySem.boot_len
def aX:=@PyProof.Rows.wpS_pure
def dw:=@List.append_assoc
def dC:=@Nat.lt_succ_of_lt
def dz:=@List.length_cons
def cL:=@decide_eq_true
def dg:=@List.map_append
def dh:=@PySem.PassesOwn.never
def fV:=@PySem.F.plainAttrs_list
def dH:=@List.getElem_mem
def dD:=@List.mem_filter
def fw:=@List.mem_append_left
def fq:=@Array.toList_append
def dX:=@List.filter_cons
def dO:=@decide_eq_false
def iX:=@PyProof.Rows.boot_isinstance
def ft:=@PySem.W.mg_none_of
def iD:=@List.getElem?_append_left
def fz:=@Nat.lt_of_le_of_lt
def di:=@List.map_map
def cM:=@Nat.zero_le
def fW:=@List.take_add_one
def fA:=@Bool.and_eq_true
def dI:=@getElem?_pos
def fX:=@PySem.Heap.get?_push_ne
def iE:=@List.length_filter_le
def d8:=@Int.ofNat.inj
def jS:=@List.getElem?_append_right
def gZ:=@List.filter_append
def hX:=@List.getElem?_range
def iY:=@List.perm_append_comm
def iZ:=@List.mem_append_right
def fY:=@List.nodup_cons
def eY:=@PySem.W.mg_of
def d9:=@Int.zero_add
def g7:=@List.lookup_cons
def g8:=@List.all_eq_true
def fu:=@List.map_cons
def mx:=@Array.perm_iff_toList_perm
def jT:=@List.length_singleton
def jU:=@List.length_replicate
def hZ:=@PySem.Heap.size_update
def lh:=@PyProof.Rows.boot_tuple
def jF:=@List.map_congr_left
def iF:=@List.take_length
def fZ:=@PySem.wpAny_holding
def i0:=@List.pairwise_map
def i3:=@Int.toNat_natCast
def my:=@PySem.F.type_list_append
def mz:=@PySem.F.slot_list_append
def lj:=@List.Perm.append_left
def lm:=@List.mem_of_mem_take
def pJ:=@Classical.byContradiction
def f8:=@PyProof.Rows.wpS_forRange
def i4:=@PySem.W.kia_one
def t_:=@PyProof.Rows.slot_tuple_getitem
def qN:=@List.nodup_iff_pairwise_ne
def mB:=@List.length_take_le'
def jG:=@Nat.not_lt_zero
def jH:=@List.range_succ
def jI:=@List.length_set
def jJ:=@Bool.eq_iff_iff
def mC:=@List.replicate_succ
def pK:=@List.take_append_drop
def ln:=@List.nodup_range
def lq:=@List.length_take
def qO:=@List.getElem?_replicate
def jK:=@PySem.Heap.size_push
def h9:=@PySem.wpAny_field
def lA:=@List.getElem?_set_self
def jV:=@beq_eq_false_iff_ne
def jW:=@PySem.mem_of_lookup
def nQ:=@List.drop_eq_getElem_cons
def jX:=@PySem.Heap.get?_update_ne
def ff:=@beq_iff_eq
def jY:=@PySem.F.called_set
def je:=@Nat.mod_eq_of_lt
def jg:=@Nat.lt_succ_self
def jZ:=@Bool.false_eq_true
def h_:=@Nat.lt_irrefl
def lB:=@List.mem_iff_getElem
def lC:=@List.getElem?_set_ne
def j3:=@List.ext_getElem?
def lD:=@Array.length_toList
def nR:=@PyProof.Rows.boot_list
def nU:=@List.range_succ_eq_map
def j4:=@PySem.wpAny_newObj_type
def nV:=@PySem.wpAny_callSpecial?_slot
def j5:=@List.not_mem_nil
def j6:=@List.countP_cons
def jh:=@List.nodup_nil
def lE:=@List.mem_filterMap
def ji:=@Array.size_map
def nX:=@Array.getElem?_toList
def j7:=@Nat.div_add_mod
def jj:=@PySem.wpAny_seqItems
def iP:=@Nat.sub_self
def lF:=@List.nodup_append
def nY:=@List.mem_of_mem_drop
def nZ:=@Bool.and_eq_true_iff
def dU:=@PyProof.Rows.wpS_mono
def jm:=@List.all_cons
def lG:=@PySem.wpAny_truthy_bool
def lH:=@decide_eq_decide
def lI:=@List.length_drop
def n0:=@PySem.Heap.get?_none_of_le
def gN:=@PySem.wpAny_rule
def jo:=@Nat.ne_of_gt
def qP:=@List.take_of_length_le
def n5:=@Int.emod_lt_of_pos
def lJ:=@PySem.wpAny_call_entry
def lK:=@Option.map_some
def qQ:=@PyProof.Rows.boot_max
def qR:=@Nat.le_of_ble_eq_true
def gO:=@PyProof.Rows.wpS_modify
def uS:=@PyProof.Rows.callWith_type1
def n6:=@List.getElem?_set
def n8:=@Array.toList_push
def uT:=@Array.getD_eq_getD_getElem?
def qS:=@PySem.wpAny_pyNext_list_item
def n9:=@PySem.wpAny_Call_Name_kw
def lL:=@PySem.wpAny_passesOwn
def gh:=@if_false
def gm:=@Prod.ext
def iQ:=@Nat.mod_lt
def lM:=@List.Perm.refl
def j8:=@Nat.le_of_lt
def n_:=@PySem.wpAny_pyIter_list
def yW:=@PyProof.Rows.F.plain_set_update_loop
def qT:=@List.getElem_of_mem
def ic:=@PyProof.Rows.size_push'
def iR:=@PySem.call_meets
def uU:=@Option.isSome_iff_exists
def oa:=@ne_of_beq_false
def fE:=@Ne.symm
def og:=@List.find?_cons
def oh:=@List.filter_map
def oj:=@Int.emod_nonneg
def qU:=@List.pairwise_cons
def lN:=@PySem.wpAny_standAt
def qV:=@decide_eq_true_eq
def uV:=@Option.map_eq_some_iff
def uW:=@List.length_pos_of_mem
def qW:=@List.flatten_cons
def qX:=@Bool.eq_false_iff
def uX:=@Array.toList_filterMap
def on:=@PySem.codeAny_builtin
def qY:=@PySem.wpAny_setField_rec
def jp:=@PySem.wpAny_mono
def j9:=@PySem.sizeLine_eq
def uY:=@Nat.eq_of_beq_eq_true
def qZ:=@Option.getD_some
def q0:=@List.getElem_map
def oq:=@List.cons.inj
def ot:=@List.any_cons
def q9:=@PySem.wpAny_loadPart_at
def lO:=@PySem.codeAny_mono
def lP:=@List.map_id
def q_:=@List.of_mem_zip
def rc:=@List.Perm.of_eq
def rd:=@Bool.or_eq_true
def uZ:=@PySem.wpAny_pyNext_list_end
def u4:=@PySem.W.hideAll_get
def u5:=@Nat.mul_le_mul_left
def u6:=@List.filter_sublist
def ou:=@Nat.lt_or_ge
def ow:=@Nat.le_of_eq
def u7:=@decide_eq_true_iff
def u8:=@PySem.W.callWith_K
def yX:=@PySem.F.excBase_ValueError
def yY:=@List.findSome?_eq_none_iff
def yZ:=@Int.fmod_eq_emod_of_nonneg
def u9:=@PySem.Around.under_plainId
def re:=@PySem.wpAny_execs_nil
def y0:=@Array.getElem?_eq_getElem
def iS:=@if_true
def u_:=@List.take_sublist
def y3:=@PySem.F.type_list_extend
def y4:=@PySem.F.slot_list_extend
def y6:=@PySem.F.args_tuple_add_2
def y7:=@PyProof.Rows.boot_sorted
def y8:=@List.length_erase_of_mem
def j_:=@or_false
def y9:=@decide_eq_false_iff_not
def y_:=@PySem.F.entry_tuple_add
def zc:=@Option.bind_eq_some_iff
def va:=@Nat.le_add_right
def vc:=@List.getElem_inj
def vd:=@List.any_eq_true
def zd:=@PySem.Calls.Name_function_global
def ve:=@Array.toList_map
def ze:=@PySem.F.slot_tuple_add
def rf:=@Nat.succ_pos
def rh:=@Nat.lt_trans
def zf:=@Nat.div_div_eq_div_mul
def zg:=@List.filter_eq_nil_iff
def zh:=@List.Perm.append_right
def vf:=@PySem.wpAny_setState_of
def rj:=@PyProof.Rows.get?_update_seq
def vg:=@List.forIn_cons
def vh:=@List.foldl_cons
def vi:=@List.append_nil
def zi:=@PySem.F.type_list_pop
def zj:=@PySem.F.slot_list_pop
def ie:=@PyProof.Rows.wpS_get
def rk:=@Nat.mul_pos
def zk:=@List.mem_erase_of_ne
def vj:=@List.forIn_nil
def vk:=@Bool.and_false
def zm:=@Array.toList_reverse
def zn:=@Array.toList_extract
def rl:=@PySem.wpAny_typeOf
def oy:=@PySem.wpAny_Name
def zo:=@PySem.W.plainGet_of
def EK:=@PyProof.Rows.F.entry_set_update_loop
def zq:=@List.length_take_le
def zu:=@List.filterMap_cons
def zw:=@Int.toNat_of_nonneg
def zx:=@PySem.Heap.get?_update_other
def zy:=@PySem.Calls.callWith_builtin
def vo:=@Bool.not_true
def vp:=@Bool.and_true
def zA:=@Option.toList_some
def zB:=@Option.isSome_some
def zC:=@List.map_replicate
def zD:=@List.map_inj_right
def zE:=@List.getElem_range
def zF:=@List.find?_eq_none
def zG:=@PySem.Heap.get?_update_self
def zH:=@PySem.wpAny_loadName_local
def zI:=@PySem.codeAny_call_builtin
def vq:=@Nat.zero_add
def vt:=@Nat.succ_mul
def vv:=@Nat.beq_refl
def vw:=@Nat.add_zero
def zJ:=@List.reverse_perm
def zK:=@List.countP_congr
def zL:=@List.any_eq_false
def vx:=@List.all_map
def zM:=@PySem.Calls.evalArgs_plain
def EL:=@List.eraseIdxIfInBounds_toArray
def zN:=@PySem.wpAny_loadName_free
def zO:=@List.zipIdx_cons
def zP:=@List.mem_flatMap
def zQ:=@List.ext_getElem
def vy:=@PySem.wpAny_onRaise
def vz:=@PySem.wpAny_attempt
def vA:=@Nat.mul_one
def EM:=@Int.mul_le_mul_of_nonneg_left
def zR:=@PySem.wpAny_pyIter_tuple
def rm:=@PySem.wpAny_call
def zS:=@Nat.min_eq_left
def zU:=@List.countP_map
def EN:=@PySem.F.typeOf_object_class
def EO:=@Nat.mul_lt_mul_of_pos_left
def zV:=@Nat.mul_le_mul
def zW:=@List.drop_zero
def EQ:=@Int.fdiv_eq_ediv_of_nonneg
def ER:=@Array.toList_setIfInBounds
def ES:=@Array.getElem?_eq_some_iff
def lQ:=@PyProof.Rows.wpS_lift
def ET:=@List.pairwise_iff_getElem
def zX:=@PySem.wpAny_eqBool_int
def zY:=@PySem.noFill_tuple_add
def EU:=@List.idxOf_lt_length_iff
def EV:=@List.filterMap_cons_some
def EW:=@List.Pairwise.imp_of_mem
def zZ:=@Bool.true_and
namespace L2
open PySem PySem.Spec PyProof.Rows
abbrev g9:=Sum Int Str
def ua:g9->Value->Bool
 |.inl k,v=>Value.isInt k v
 |.inr x,v=>Value.isStrOf x v
def Wd(w:World):g9->Int
 |.inl k=>hashInt k
 |.inr x=>hashStr w x
theorem dk:∀ {k:g9} {v:Value},ua k v=true->(∃i t,k=Sum.inl i/\v=Value.int i t)\/(∃x t,k=Sum.inr x/\v=Value.str x t)
 |.inl i,v,h=>by
  obtain⟨t,e⟩:=Value.isInt_shape (k:=i) (v:=v) h;exact .inl ⟨i,t,rfl,e⟩
 |.inr x,v,h=>by
  obtain⟨t,e⟩:=Value.isStrOf_shape (x:=x) (v:=v) h;exact .inr ⟨x,t,rfl,e⟩
theorem CW(i:Int)(t:Tok):ua (.inl i) (.int i t)=true:=by simp[ua,Value.isInt]
theorem CY(x:Str)(t:Tok):ua (.inr x) (.str x t)=true:=by simp[ua,Value.isStrOf]
theorem M3(a b:Int):decide ((Sum.inl a:g9)=Sum.inl b)=(a==b):=by
 by_cases e:a=b
 .subst e;simp
 .have h:¬ (Sum.inl a:g9)=Sum.inl b:=fun q=>e (Sum.inl.inj q);rw[dO h];exact(jV.mpr e).symm
theorem M4(a b:Str):decide ((Sum.inr a:g9)=Sum.inr b)=decide (a=b):=by
 by_cases e:a=b
 .subst e;simp
 .have h:¬ (Sum.inr a:g9)=Sum.inr b:=fun q=>e (Sum.inr.inj q);rw[dO h,dO e]
theorem M5(a:Int)(b:Str):decide ((Sum.inl a:g9)=Sum.inr b)=false:=dO (fun q=>nomatch q)
theorem M6(a:Str)(b:Int):decide ((Sum.inr a:g9)=Sum.inl b)=false:=dO (fun q=>nomatch q)
def cj(prog:Program)(w:World):PySem.KeyKind prog w g9 where
 is:=ua
 hash:=Wd w
 inj:=fun v a b ha hb=>by
  rcases dk ha with ⟨i,t,rfl,rfl⟩|⟨x,t,rfl,rfl⟩
  .rcases dk hb with ⟨j,u,rfl,e⟩|⟨y,u,rfl,e⟩
   .injection e with e1 _;rw[e1]
   .exact nomatch e
  .rcases dk hb with ⟨j,u,rfl,e⟩|⟨y,u,rfl,e⟩
   .exact nomatch e
   .injection e with e1 _;rw[e1]
 byValue:=fun k v h=>by
  rcases dk h with ⟨i,t,rfl,rfl⟩|⟨x,t,rfl,rfl⟩ <;> rfl
 pyHash:=fun hv h=>by
  rcases dk hv with ⟨i,t,rfl,rfl⟩|⟨x,t,rfl,rfl⟩
  .exact wpAny_pyHash_int h
  .exact wpAny_pyHash_str h
 eqBool:=fun hu hv h=>by
  rcases dk hu with ⟨i,t,rfl,rfl⟩|⟨x,t,rfl,rfl⟩
  .rcases dk hv with ⟨j,u,rfl,rfl⟩|⟨y,u,rfl,rfl⟩
   .rw[M3] at h;exact zX h
   .rw[M5] at h;exact SeqAt.EqAt.int_str i t y u _ _ _ _ h
  .rcases dk hv with ⟨j,u,rfl,rfl⟩|⟨y,u,rfl,rfl⟩
   .rw[M6] at h;exact SeqAt.EqAt.str_int x t j u _ _ _ _ h
   .rw[M4] at h;exact wpAny_eqBool_str h
 «strs»:=fun k x t v h=>by
  rcases dk h with ⟨i,u,rfl,e⟩|⟨y,u,rfl,e⟩
  .exact nomatch e
  .injection e with e1 _
   subst e1
   cases v <;> rfl
theorem xk(prog:Program)(w:World)(i:Int)(t:Tok):(cj prog w).is (.inl i) (.int i t)=true:=CW i t
theorem xm(prog:Program)(w:World)(x:Str)(t:Tok):(cj prog w).is (.inr x) (.str x t)=true:=CY x t
inductive V where
 |bD|bl (b:Bool)|int (i:Int)|str (x:Str)|Ew (b:Array UInt8)|M7 (b:UInt64)|ref (a:Addr)|ty (n:String)
 deriving DecidableEq
def bX:V->Value->Prop
 |.bD,u=>u=Value.none
 |.bl b,u=>u=Value.bool b
 |.int i,u=>∃t,u=Value.int i t
 |.str x,u=>∃t,u=Value.str x t
 |.Ew b,u=>∃t,u=Value.bytes b t
 |.M7 b,u=>∃t,u=Value.float b t
 |.ref a,u=>u=Value.ref a
 |.ty n,u=>u=Value.type n
abbrev ba:List V->List Value->Prop:=Paired bX
theorem ba.length(r:ba xs us):xs.length=us.length:=Paired.length r
theorem ba.get:∀ {xs:List V} {us:List Value} {i:Nat} {x:V},ba xs us->xs[i]?=some x->∃u,us[i]?=some u/\bX x u
 |_,_,_,_,.nil,e=>by simp at e
 |_,_,0,_,.cons r _,e=>by simp at e;subst e;exact⟨_,rfl,r⟩
 |_,_,i+1,x,.cons _ t,e=>by
  obtain⟨u,h1,h2⟩:=ba.get (i:=i) (x:=x) t (by simpa using e);exact⟨u,by simpa using h1,h2⟩
theorem ba.set(r:bX x u):∀ {xs:List V} {us:List Value} (i:Nat),ba xs us->ba (xs.set i x) (us.set i u)
 |_,_,_,.nil=>.nil
 |_,_,0,.cons _ t=>.cons r t
 |_,_,i+1,.cons q t=>.cons q (ba.set r i t)
theorem ba.append:∀ {xs ys:List V} {us ws:List Value},ba xs us->ba ys ws->ba (xs++ys) (us++ws)
 |_,_,_,_,.nil,s=>s
 |_,_,_,_,.cons r t,s=>.cons r (ba.append t s)
theorem ba.take:∀ {xs:List V} {us:List Value} (n:Nat),ba xs us->ba (xs.take n) (us.take n)
 |_,_,0,_=>.nil
 |_,_,_+1,.nil=>.nil
 |_,_,n+1,.cons r t=>.cons r (ba.take n t)
theorem ba.drop:∀ {xs:List V} {us:List Value} (n:Nat),ba xs us->ba (xs.drop n) (us.drop n)
 |_,_,0,r=>r
 |_,_,_+1,.nil=>.nil
 |_,_,n+1,.cons _ t=>ba.drop n t
def mD:Option V->Option Value->Prop
 |some v,some u=>bX v u
 |none,none=>True
 |_,_=>False
def KV{κ:Type}:List (κ×V)->List (κ×Value)->Prop:=Paired fun (p:κ×V) (q:κ×Value)=>p.1=q.1/\bX p.2 q.2
def kV:g9->V
 |.inl i=>.int i
 |.inr x=>.str x
inductive HO where
 |lst (xs:List V)
 |tup (xs:List V)
 |dK (cN:List (g9×V))|dT (cN:List (List g9×V))
 |set (S:Int->Bool) (n:Nat)
 |ins (C dx:Addr) (fs:List (Str×V))
 |own (x:Addr)
 |xd (fs:List (Str×V))
 |met (f x:Addr)
 |Jd (lo hi:Int)
 |tw (o:Obj) (u:HO)
 |qy (ps:Array Value)
 |ext (φ:Heap->Prop)
abbrev Hp:=Addr->Option HO
def upd(H:Hp)(a:Addr)(o:HO):Hp:=fun b=>if b=a then some o else H b
theorem ae:upd H a o a=some o:=by unfold upd;rw[ap rfl]
theorem am(h:b≠a):upd H a o b=H b:=by unfold upd;rw[aq h]
theorem mE:upd (upd H a o) a u=upd H a u:=by
 funext b;unfold upd;split <;> rfl
theorem f9{H:Hp}{a b:Addr}{o u:HO}(h:H a=some o)(h':H b=some u)(d:o≠u):a≠b:=by
 intro e;subst e;rw[h] at h';exact d (bP h')
theorem ao{H:Hp}{a b:Addr}{o:HO}(h:H a=some o)(h':H b=none):a≠b:=by
 intro e;subst e;rw[h] at h';cases h'
section
variable (P:Program) (w:World)
def ke(h:Heap)(a:Addr)(items:Array Value):Prop:=∃o,h.get? a=some o/\o.cls=.type "tuple"/\∃n,o.data=.seq items n/\o.dict=none
theorem ke.tup(p:ke h a items):IsTup h a items:=let ⟨o,e,c,n,d,_⟩:=p;⟨o,e,c,n,d⟩
theorem ke.new(h:Heap)(items:Array Value):ke (h.push { cls:=.type "tuple",data:=.seq items }) h.objs.size items:=⟨_,cI _ rfl,rfl,_,rfl,rfl⟩
def cu(H:Hp)(h:Heap)(a:Addr):HO->Prop
 |.lst xs=>xs.length<=sizeLine/\∃ (its:List Value) (n:Nat),ba xs its/\h.get? a=some { cls:=.type "list",data:=.seq its.toArray n }
 |.tup xs=>xs.length<=sizeLine/\∃its:List Value,ba xs its/\ke h a its.toArray
 |.dK cN=>cN.length<=sizeLine/\(a==sysModules)=false/\∃vs,KV cN vs/\h.DictOf (cj P w) a vs
 |.dT cN=>cN.length<=sizeLine/\(a==sysModules)=false/\∃xs:List (List g9×Addr×Value),
   Paired (fun (p:List g9×V) (q:List g9×Addr×Value)=>p.1=q.1/\H q.2.1=some (.tup (p.1.map kV))/\bX p.2 q.2.2) cN xs/\
   ∃o es ep,h.get? a=some o/\o.ExactDict/\o.data=.dict es ep/\es.toList=xs.map (entryOfKey (tupleKind (cj P w)))/\(xs.map (·.1)).Nodup
 |.set S n=>h.SetOf (intKind P w) a S n
 |.ins C dx fs=>H dx=some (.own a)/\fs.length<=1000/\dx≠a/\h.get? a=some (PySem.W.instObj C dx)/\
   ∃mA,h.Ns1 dx mA/\(∀f,mD (fs.lookup f) (mA f))/\PySem.Within mA (fs.map (·.1))
 |.own _=>∃o,h.get? a=some o
 |.xd fs=>∃mA,h.Ns1 a mA/\∀f,mD (fs.lookup f) (mA f)
 |.Jd lo hi=>∃t u v,h.get? a=some { cls:=.type "range",data:=.fields #[.int lo t,.int hi u,.int 1 v] }
 |.tw o u=>h.get? a=some o/\cu H h a u
 |.qy ps=>h.get? a=some { cls:=.none,data:=.fields ps }
 |.met f x=>h.get? a=some (PySem.W.methodObj (.ref f) (.ref x))
 |.ext φ=>φ h/\(∃o,h.get? a=some o)/\∀h1 h2:Heap,φ h1->(∀o,h1.get? a=some o->h2.get? a=some o)->φ h2
def jR(H:Hp)(h:Heap):Prop:=∀a o,H a=some o->cu P w H h a o
end
section
variable {P:Program} {w:World} {H H':Hp} {h h':Heap} {a:Addr} {o:HO}
theorem cu.lt(x:cu P w H h a o):a<h.objs.size:=by
 cases o with
 |lst xs=>obtain⟨_,_,_,_,e⟩:=x;exact bh e
 |tup xs=>obtain⟨_,_,_,p⟩:=x;exact p.tup.lt
 |dK cN=>obtain⟨_,_,_,_,o,_,_,e,_⟩:=x;exact bh e
 |dT cN=>obtain⟨_,_,_,_,o,_,_,e,_⟩:=x;exact bh e
 |set S n=>obtain⟨o,_,_,_,e,_⟩:=x;exact bh e
 |ins C dx fs=>obtain⟨_,_,_,e,_⟩:=x;exact bh e
 |own y=>obtain⟨_,e⟩:=x;exact bh e
 |xd fs=>obtain⟨_,⟨_,_,_,e,_⟩,_⟩:=x;exact bh e
 |Jd lo hi=>obtain⟨_,_,_,e⟩:=x;exact bh e
 |tw ob u=>obtain⟨e,_⟩:=x;exact bh e
 |qy ps=>exact bh (show h.get? a=some _ from x)
 |met f y=>exact bh (show h.get? a=some _ from x)
 |ext φ=>obtain⟨_,⟨_,e⟩,_⟩:=x;exact bh e
theorem Paired.M8:∀ {l₁:List α} {l₂:List β},Paired F l₁ l₂->(∀a b,F a b->G a b)->Paired G l₁ l₂
 |_,_,.nil,_=>.nil
 |_,_,.cons r t,f=>.cons (f _ _ r) (Paired.M8 t f)
theorem cu.oz(x:cu P w H h a o)(k:∀b u,(b=a\/H b=some (.own a))->h.get? b=some u->h'.get? b=some u)(ho:∀b,H b=some (.own a)->H' b=some (.own a))(ht:∀b xs,H b=some (.tup xs)->H' b=some (.tup xs)):cu P w H' h' a o:=by
 induction o with
 |lst xs=>obtain⟨z,its,n,r,e⟩:=x;exact⟨z,its,n,r,k _ _ (.inl rfl) e⟩
 |tup xs=>obtain⟨z,its,r,ob,e,c⟩:=x;exact⟨z,its,r,ob,k _ _ (.inl rfl) e,c⟩
 |dK cN=>obtain⟨z,y,vs,r,ob,es,ep,e,c⟩:=x;exact⟨z,y,vs,r,ob,es,ep,k _ _ (.inl rfl) e,c⟩
 |dT cN=>
  obtain⟨z,y,xs,r,ob,es,ep,e,c⟩:=x;exact⟨z,y,xs,Paired.M8 r fun p q z=>⟨z.1,ht _ _ z.2.1,z.2.2⟩,ob,es,ep,k _ _ (.inl rfl) e,c⟩
 |set S n=>obtain⟨ob,es,ep,t,e,c⟩:=x;exact⟨ob,es,ep,t,k _ _ (.inl rfl) e,c⟩
 |ins C dx fs=>
  obtain⟨d,z,ne,e,mA,⟨od,es,ep,e2,c⟩,r⟩:=x;exact⟨ho _ d,z,ne,k _ _ (.inl rfl) e,mA,⟨od,es,ep,k _ _ (.inr d) e2,c⟩,r⟩
 |own y=>obtain⟨ob,e⟩:=x;exact⟨ob,k _ _ (.inl rfl) e⟩
 |xd fs=>obtain⟨mA,⟨od,es,ep,e,c⟩,r⟩:=x;exact⟨mA,⟨od,es,ep,k _ _ (.inl rfl) e,c⟩,r⟩
 |Jd lo hi=>obtain⟨t,u,v,e⟩:=x;exact⟨t,u,v,k _ _ (.inl rfl) e⟩
 |tw ob u ih=>obtain⟨e,q⟩:=x;exact⟨k _ _ (.inl rfl) e,ih q⟩
 |qy ps=>
  have e:h.get? a=some { cls:=.none,data:=.fields ps }:=x;show h'.get? a=some { cls:=.none,data:=.fields ps };exact k a _ (.inl rfl) e
 |met f y=>
  have e:h.get? a=some (PySem.W.methodObj (.ref f) (.ref y)):=x;show h'.get? a=some (PySem.W.methodObj (.ref f) (.ref y));exact k a _ (.inl rfl) e
 |ext φ=>obtain⟨p,⟨o,e⟩,st⟩:=x;exact⟨st _ _ p fun o q=>k _ _ (.inl rfl) q,⟨o,k _ _ (.inl rfl) e⟩,st⟩
theorem jR.lt(x:jR P w H h)(e:H a=some o):a<h.objs.size:=(x a o e).lt
theorem jR.fresh(x:jR P w H h)(e:h.objs.size<=a):H a=none:=by
 cases q:H a with
 |none=>rfl
 |some u=>exact absurd (cQ (x.lt q) e) (h_ _)
theorem jR.kept(x:jR P w H h)(k:∀b u,h.get? b=some u->h'.get? b=some u):jR P w H h':=fun a o e=>
 (x a o e).oz (fun b u _ q=>k b u q) (fun _ q=>q) fun _ _ q=>q
theorem jR.laid(x:jR P w H h)(k:∀b u,h.get? b=some u->h'.get? b=some u)(hp:h.objs.size<=a)(new:cu P w (upd H a o) h' a o):jR P w (upd H a o) h':=fun b u e=>by
 have hn:=x.fresh hp;by_cases hb:b=a
 .subst hb;rw[ae] at e;cases e;exact new
 .rw[am hb] at e;exact(x b u e).oz (fun c v _ q=>k c v q) (fun c q=>by rw[am (ao q hn)];exact q) fun c xs q=>by rw[am (ao q hn)];exact q
end
def Rd(H:Hp)(a:Addr)(u:HO):Prop:=H a=some u\/∃o,H a=some (.tw o u)
theorem Rd.ok(r:Rd H a u)(x:jR P w H h):cu P w H h a u:=by
 rcases r with r|⟨o,r⟩
 .exact x a u r
 .obtain⟨_,q⟩:=x a _ r;exact q
def Vo:Option HO->Prop
 |some (.lst _)=>True
 |some (.dK _)=>True
 |some (.dT _)=>True
 |some (.set _ _)=>True
 |some (.ins _ _ _)=>True
 |some (.ext _)=>True
 |_=>False
section
variable {P:Program} {w:World} {H:Hp} {h h':Heap} {x e:Addr} {o':HO}
theorem jR.write(ok:jR P w H h)(mu:Vo (H x))(he:e=x\/H e=some (.own x))(k:∀b u,b≠e->h.get? b=some u->h'.get? b=some u)(Qo:∃u,h'.get? e=some u)(new:cu P w (upd H x o') h' x o'):jR P w (upd H x o') h':=fun b u q=>by
 have QY:∀c y,H c=some (.own y)->c≠x:=fun c y r z=>by subst z;rw[r] at mu;exact mu
 have We:∀c xs,H c=some (.tup xs)->c≠x:=fun c xs r z=>by subst z;rw[r] at mu;exact mu
 by_cases hb:b=x
 .subst hb;rw[ae] at q;cases q;exact new
 .rw[am hb] at q;by_cases IK:b=e
  .have q':H b=some (.own x):=by
    rcases he with z|z
    .exact absurd (IK.trans z) hb
    .rw[IK];exact z
   rw[q] at q';cases q';obtain⟨v,hv⟩:=Qo;exact⟨v,by rw[IK];exact hv⟩
  .refine(ok b u q).oz (fun c v hc r=>k c v ?_ r) (fun c r=>by rw[am (QY c b r)];exact r) fun c xs r=>by rw[am (We c xs r)];exact r
   rcases hc with rfl|hc
   .exact IK
   .rintro rfl;rcases he with z|z
    .exact QY c b hc z
    .rw[hc] at z;cases z;exact hb rfl
end
structure Un(fs ex:List Addr)(H H':Hp)(h h':Heap):Prop where
 keep:∀b o,h.get? b=some o->H b=none->b∉fs->b∉ex->h'.get? b=some o
 slot:∀b o,h.get? b=some o->H b=none->b∈fs->b∉ex->∃sl,h'.get? b=some { o with slots:=sl }
 free:∀b o,h.get? b=some o->H b=none->b∉ex->H' b=none
 there:∀b o,h.get? b=some o->b∉ex->∃o',h'.get? b=some o'
 kg:∀b xs,H b=some (.tup xs)->H' b=some (.tup xs)
 lR:∀b o u,H b=some (.tw o u)->H' b=some (.tw o u)
 mF:∀b ps,H b=some (.qy ps)->∃more,H' b=some (.qy (ps++more))
section
variable {fs Je ex QZ:List Addr} {H H1 H2:Hp} {h h1 h2 h':Heap} {a x e:Addr} {o:HO}
theorem Un.any(u:Un fs ex H H1 h h1)(q:h.get? b=some ob)(n:H b=none)(hx:b∉ex):∃sl,h1.get? b=some { ob with slots:=sl }:=by
 by_cases hb:b∈fs
 .exact u.slot b ob q n hb hx
 .exact⟨ob.slots,u.keep b ob q n hb hx⟩
theorem Un.kept(k:∀b u,h.get? b=some u->h'.get? b=some u):Un fs ex H H h h':=
 ⟨fun b ob q _ _ _=>k b ob q,fun b ob q _ _ _=>⟨ob.slots,k b ob q⟩,fun _ _ _ n _=>n,fun b ob q _=>⟨ob,k b ob q⟩,fun _ _ q=>q,fun _ _ _ q=>q,fun _ ps q=>⟨#[],by rw[q];simp⟩⟩
theorem Un.refl:Un fs ex H H h h:=Un.kept fun _ _ q=>q
theorem Un.laid(k:∀b u,h.get? b=some u->h'.get? b=some u)(hp:h.objs.size<=a)(hn:H a=none):Un fs ex H (upd H a o) h h' where
 keep:=fun b u q _ _ _=>k b u q
 slot:=fun b u q _ _ _=>⟨u.slots,k b u q⟩
 free:=fun b u q n _=>by rw[am (bg (cQ (bh q) hp))];exact n
 there:=fun b u q _=>⟨u,k b u q⟩
 kg:=fun b xs q=>by rw[am (ao q hn)];exact q
 lR:=fun b u xs q=>by rw[am (ao q hn)];exact q
 mF:=fun b ps q=>⟨#[],by rw[am (ao q hn),q];simp⟩
theorem Un.write(mu:Vo (H x))(he:e=x\/H e=some (.own x))(k:∀b u,b≠e->h.get? b=some u->h'.get? b=some u)(Qo:∃u,h'.get? e=some u):Un fs ex H (upd H x o) h h':=by
 have hx:∀b,H b=none->b≠x:=fun b n z=>by subst z;rw[n] at mu;exact mu
 have hb:∀b,H b=none->b≠e:=fun b n z=>by
  subst z;rcases he with r|r
  .exact hx b n r
  .rw[n] at r;cases r
 have hm:∀b u,H b=some u->¬ Vo (some u)->b≠x:=fun b u q nm z=>by subst z;rw[q] at mu;exact nm mu
 refine⟨fun b u q n _ _=>k b u (hb b n) q,fun b u q n _ _=>⟨u.slots,k b u (hb b n) q⟩,fun b u q n _=>by rw[am (hx b n)];exact n,fun b u q _=>?_,
  fun b xs q=>by rw[am (hm b _ q fun z=>z)];exact q,fun b u xs q=>by rw[am (hm b _ q fun z=>z)];exact q,fun b ps q=>⟨#[],by rw[am (hm b _ q fun z=>z),q];simp⟩⟩
 by_cases IK:b=e
 .subst IK;exact Qo
 .exact⟨u,k b u IK q⟩
end
def Vp(h:Heap)(H:Hp):List Addr:=(List.range h.objs.size).filter fun a=>(H a).isSome
def tD(h:Heap)(H:Hp):Heap:=PySem.W.hideAll h (Vp h H)
theorem CZ(h:Heap)(H:Hp):(tD h H).objs.size=h.objs.size:=PySem.W.hideAll_size _ _
theorem EX(e:h.get? b=some o)(n:H b=none):(tD h H).get? b=some o:=
 u4 _ e fun hm=>by
  have q:(H b).isSome=true:=(dD.mp hm).2;rw[n] at q;simp at q
theorem Jf(e:(tD h H).get? b=some o):h.get? b=some o/\H b=none:=by
 have e':h.get? b=some o:=PySem.W.of_hideAll (Vp h H) e;refine⟨e',?_⟩;cases q:H b with
 |none=>rfl
 |some x=>
  have hm:b∈Vp h H:=dD.mpr ⟨bQ.mpr (bh e'),by simp[q]⟩;have z:(tD h H).get? b=none:=PySem.W.hideAll_none (Vp h H) hm;rw[z] at e;cases e
def jq(g h:Heap)(L:Addr):List (Addr×Obj):=(List.range h.objs.size).filterMap fun a=>if a=L\/(g.get? a).isSome=true then none else (h.get? a).map fun o=>(a,o)
theorem ki(h1:a≠L)(h2:g.get? a=none)(h3:h.get? a=some o):(a,o)∈jq g h L:=
 lE.mpr ⟨a,bQ.mpr (bh h3),by simp[h1,h2,h3]⟩
theorem rn(hp:p∈jq g h L):p.1≠L/\g.get? p.1=none/\h.get? p.1=some p.2:=by
 obtain⟨b,_,e⟩:=lE.mp hp;split at e
 .cases e
 .rename_i hn;cases q:h.get? b with
  |none=>rw[q] at e;simp at e
  |some u=>
   rw[q] at e;simp only[lK,Option.some.injEq] at e;subst e;refine⟨fun z=>hn (.inl z),?_,q⟩;show g.get? b=none;cases r:g.get? b with
   |none=>rfl
   |some v=>exact(hn (.inr (by simp[r]))).elim
theorem EY:News g L h (jq g h L):=fun p hp=>let ⟨a,b,c⟩:=rn hp;⟨c,a,b⟩
structure Mod(K:PySem.W.Frag)(mg:Str->Option Value)(base:Heap):Prop where
 L_:K.In base
 glob:base.Ns mainGlobals mg
 blt:∃mb,base.Ns builtinsNs mb/\∀x:Str,x≠"__name__"->mb x=bootBuiltins x
 nolimit:base.NoLimit
structure Cx where
 prog:Program
 w:World
 K:PySem.W.Frag
 mg:Str->Option Value
 base:Heap
 A:Around
 N:List Str
 s₀:Shared
 H₀:Hp
 env:Env
 outer:List Env
 stack:List Env
 ex:List Addr
 fn:Str->Bool
 calm:Bool
 pn:List (Addr×Obj)
 xe:Value->Shared->Prop
def qe(l:List Env):List Addr:=l.filterMap (·.frame)
abbrev Cx.fs(X:Cx):List Addr:=qe X.outer
def Q0(sc:Scope)(x:Str):Prop:=sc.names.lookup x=some .local\/sc.names.lookup x=some .cell\/sc.names.lookup x=some .free
def Q3(sc:Scope)(x:Str):Prop:=sc.names.lookup x=some .local\/sc.names.lookup x=some .cell
def Wf(env:Env)(h:Heap)(m:Str->Option Value)(x:Str)(u:Value):Prop:=
 (env.kindOf x=some .local/\m x=some u)\/((env.kindOf x=some .cell\/env.kindOf x=some .free)/\∃c,env.cells.lookup x=some c/\h.IsCell c (some u))
structure Cx.Ok(X:Cx):Prop where
 mod:Mod X.K X.mg X.base
 kind:X.env.scope.kind=.function
 glob:X.env.globals=mainGlobals
 blt:X.env.builtins=builtinsNs
 above:X.s₀.heap.objs.size<=X.env.locals
 inj:∀x y c,X.env.cells.lookup x=some c->X.env.cells.lookup y=some c->x=y
 has:∀x,(X.env.kindOf x=some .cell\/X.env.kindOf x=some .free)->∃c,X.env.cells.lookup x=some c
 M9:∀x c,X.fn x=true->X.env.cells.lookup x=some c->X.s₀.heap.objs.size<=c
 hd:X.calm=true->X.A.handled=none
 frames:X.A.frames=some X.stack
 EZ:X.stack=X.outer\/(X.stack=X.env::X.outer/\X.env.frame=some X.env.locals)
 Q4:∀b∈X.ex,b≠X.env.locals/\∀x c,X.env.cells.lookup x=some c->c≠b
 bs:∀b o,X.base.get? b=some o->X.s₀.heap.get? b=some o/\X.H₀ b=none
 Ex:X.base.objs.size<=X.s₀.heap.objs.size
 z0:∀b o,X.base.get? b=some o->b∉X.ex
 C0:∀b∈X.ex,b∉X.fs
 lS:X.s₀.heap.FunFrames X.base X.outer
 IL:∀b∈X.fs,X.H₀ b=none
structure aU(X:Cx)(ag:List (Addr×Obj))(σ:List (Option V))(H:Hp)(s:Shared):Prop where
 ok:X.Ok
 os:s.os=X.s₀.os
 bare:AllBare s.gens
 base:Un X.fs X.ex X.H₀ H X.s₀.heap s.heap
 loc:∃m,s.heap.Ns X.env.locals m/\∀ (i:Nat) (x:Str) (v:V),X.N[i]?=some x->σ[i]?=some (some v)->Q0 X.env.scope x->∃u,bX v u/\Wf X.env s.heap m x u
 cell:∀x c,X.env.cells.lookup x=some c->∃v,s.heap.IsCell c v
 free:H X.env.locals=none
 ig:∀x c,X.env.cells.lookup x=some c->H c=none
 pin:∀p∈X.pn++ag,s.heap.get? p.1=some p.2/\H p.1=none/\p.1≠X.env.locals/\p.1∉X.fs/\∀v,p.2.data≠.cell v
 b_:jR X.prog X.w H s.heap
 len:σ.length=X.N.length
section
variable {X:Cx} {ag:List (Addr×Obj)} {σ:List (Option V)} {H H':Hp} {s:Shared} {h':Heap}
theorem Cx.Ok.Wg(ok:X.Ok)(e:X.base.get? b=some o):b∉X.fs:=fun hb=>by
 have:=(ok.lS.mem hb).1;rw[e] at this;cases this
theorem aU.bs(I:aU X ag σ H s):∀b o,X.base.get? b=some o->s.heap.get? b=some o/\H b=none:=fun b o e=>
 ⟨I.base.keep b o (I.ok.bs b o e).1 (I.ok.bs b o e).2 (I.ok.Wg e) (I.ok.z0 b o e),I.base.free b o (I.ok.bs b o e).1 (I.ok.bs b o e).2 (I.ok.z0 b o e)⟩
theorem aU.bk(I:aU X ag σ H s):∀b o,X.base.get? b=some o->s.heap.get? b=some o:=fun b o e=>(I.bs b o e).1
theorem aU.mod(I:aU X ag σ H s):Mod X.K X.mg X.base:=I.ok.mod
theorem aU.mj(I:aU X ag σ H s):X.K.In s.heap:=I.ok.mod.L_.keeps I.bk
theorem aU.fr(I:aU X ag σ H s):∃m,Fr X.base X.env.locals s.heap m:=
 let ⟨m,hn,_⟩:=I.loc
 ⟨m,hn,I.bk,bC I.ok.Ex I.ok.above⟩
theorem aU.lt(I:aU X ag σ H s):X.env.locals<s.heap.objs.size:=let ⟨_,hn,_⟩:=I.loc;hn.lt
theorem aU.sz(I:aU X ag σ H s):X.s₀.heap.objs.size<=s.heap.objs.size:=bC I.ok.above (j8 I.lt)
theorem aU.Wi(I:aU X ag σ H s)(h:s.heap.objs.size<=a):a∉X.fs:=fun hb=>by
 obtain⟨_,o,ho,_⟩:=I.ok.lS.mem hb;exact absurd (cQ (bh ho) (bC I.sz h)) (h_ _)
theorem aU.Jg(I:aU X ag σ H s):∀x c,X.env.cells.lookup x=some c->c≠X.env.locals:=fun x c e z=>by
 obtain⟨v,o,ho,hd⟩:=I.cell x c e;obtain⟨m,⟨o',es,ep,xb,Q5,_⟩,_⟩:=I.loc;rw[z,xb] at ho;cases ho;rw[Q5] at hd;cases hd
theorem aU.lS(I:aU X ag σ H s):s.heap.FunFrames X.base X.outer:=by
 have all:∀ (l:List Env),(∀b∈qe l,b∈X.fs)->X.s₀.heap.FunFrames X.base l->s.heap.FunFrames X.base l:=by
  intro l;induction l with
  |nil=>intro _ _;trivial
  |cons env r ih=>
   intro hs hl;obtain⟨hk,⟨L,o,hf,hn,ho,hd⟩,hr⟩:=hl;have hL:L∈X.fs:=hs L (by unfold qe;rw[zu,hf];exact bW);obtain⟨sl,e⟩:=I.base.slot L o ho (I.ok.IL L hL) hL fun z=>I.ok.C0 L z hL;exact⟨hk,⟨L,_,hf,hn,e,hd⟩,ih (fun b hb=>hs b (by unfold qe;rw[zu,hf];exact cX _ hb)) hr⟩
 exact all X.outer (fun _ hb=>hb) I.ok.lS
theorem aU.stack(I:aU X ag σ H s):s.heap.FunFrames X.base X.stack:=by
 rcases I.ok.EZ with e|⟨e,hf⟩
 .rw[e];exact I.lS
 .rw[e];obtain⟨m,hn,_⟩:=I.loc;refine .cons (by rw[I.ok.kind];decide) hf hn ?_ I.lS;exact n0 (bC I.ok.Ex I.ok.above)
theorem aU.vB(I:aU X ag σ H s):∀b∈qe X.stack,b∈X.env.locals::X.fs:=fun b hb=>by
 rcases I.ok.EZ with e|⟨e,hf⟩
 .rw[e] at hb;exact cX _ hb
 .rw[e] at hb;unfold qe at hb;rw[zu,hf] at hb;exact hb
theorem aU.vC(I:aU X ag σ H s):∀b∈qe X.stack,H b=none:=fun b hb=>by
 rcases bK.mp (I.vB b hb) with e|hb
 .rw[e];exact I.free
 .obtain⟨_,o,ho,_⟩:=I.ok.lS.mem hb;exact I.base.free b o ho (I.ok.IL b hb) fun z=>I.ok.C0 b z hb
theorem aU.step{g':Array GenState}{t':Nat}{d':Drawn}{ch:List Addr}(I:aU X ag σ H s)(IM:∀b∈ch,(b∈X.ex\/X.s₀.heap.objs.size<=b)/\b≠X.env.locals/\(∀x c,X.env.cells.lookup x=some c->c≠b)/\∀p∈X.pn++ag,p.1≠b)(keep:∀b o,b≠X.env.locals->b∉X.fs->b∉ch->s.heap.get? b=some o->H b=none->h'.get? b=some o)(slot:∀b o,b≠X.env.locals->b∈X.fs->b∉ch->s.heap.get? b=some o->H b=none->∃sl,h'.get? b=some { o with slots:=sl })(free:∀b o,b∉ch->s.heap.get? b=some o->H b=none->H' b=none)(there:∀b o,b∉ch->s.heap.get? b=some o->∃o',h'.get? b=some o')(kg:∀b xs,H b=some (.tup xs)->H' b=some (.tup xs))(lR:∀b o u,H b=some (.tw o u)->H' b=some (.tw o u))(mF:∀b ps,H b=some (.qy ps)->∃more,H' b=some (.qy (ps++more)))(ns:∀m,s.heap.Ns X.env.locals m->h'.Ns X.env.locals m)(b_:jR X.prog X.w H' h')(hg:AllBare g'):
  aU X ag σ H' { s with heap:=h',gens:=g',drawn:=d',toks:=t' }:=by
 have ZK:∀b o,X.s₀.heap.get? b=some o->b≠X.env.locals:=fun b o e=>bg (cQ (bh e) I.ok.above);have Vq:∀b o,X.s₀.heap.get? b=some o->b∉X.ex->b∉ch:=fun b o e hx hb=>by
  rcases(IM b hb).1 with z|z
  .exact hx z
  .exact absurd (cQ (bh e) z) (h_ _)
 have Ma:∀x c,X.env.cells.lookup x=some c->∀v,s.heap.IsCell c v->h'.IsCell c v:=fun x c e v ⟨o,ho,hd⟩=>by
  have Q6:c∉ch:=fun z=>(IM c z).2.2.1 x c e rfl;by_cases hc:c∈X.fs
  .obtain⟨sl,q⟩:=slot c o (I.Jg x c e) hc Q6 ho (I.ig x c e);exact⟨_,q,hd⟩
  .exact⟨o,keep c o (I.Jg x c e) hc Q6 ho (I.ig x c e),hd⟩
 refine⟨I.ok,I.os,hg,⟨fun b o e n hb hx=>?_,fun b o e n hb hx=>?_,fun b o e n hx=>?_,fun b o e hx=>?_,fun b xs e=>kg b xs (I.base.kg b xs e),fun b o xs e=>lR b o xs (I.base.lR b o xs e),fun b ps e=>?_⟩,?_,fun x c e=>?_,?_,fun x c e=>?_,fun p hp=>?_,b_,I.len⟩
 .exact keep b o (ZK b o e) hb (Vq b o e hx) (I.base.keep b o e n hb hx) (I.base.free b o e n hx)
 .obtain⟨sl,e1⟩:=I.base.slot b o e n hb hx;obtain⟨Wj,e2⟩:=slot b _ (ZK b o e) hb (Vq b o e hx) e1 (I.base.free b o e n hx);exact⟨Wj,e2⟩
 .obtain⟨o',e1⟩:=I.base.there b o e hx;exact free b o' (Vq b o e hx) e1 (I.base.free b o e n hx)
 .obtain⟨o',e1⟩:=I.base.there b o e hx;exact there b o' (Vq b o e hx) e1
 .obtain⟨m1,e1⟩:=I.base.mF b ps e;obtain⟨m2,e2⟩:=mF b _ e1;exact⟨m1++m2,by rw[e2,Array.append_assoc]⟩
 .obtain⟨m,hn,hl⟩:=I.loc;refine⟨m,ns m hn,fun i x v e1 e2 e3=>?_⟩;obtain⟨u,r,l⟩:=hl i x v e1 e2 e3;refine⟨u,r,?_⟩;rcases l with l|⟨k,c,e,z⟩
  .exact .inl l
  .exact .inr ⟨k,c,e,Ma x c e _ z⟩
 .obtain⟨v,z⟩:=I.cell x c e;exact⟨v,Ma x c e v z⟩
 .obtain⟨m,⟨o,_,_,ho,_⟩,_⟩:=I.loc;exact free _ o (fun z=>(IM _ z).2.1 rfl) ho I.free
 .obtain⟨v,o,ho,hd⟩:=I.cell x c e;exact free c o (fun z=>(IM c z).2.2.1 x c e rfl) ho (I.ig x c e)
 .obtain⟨e,n,ne,nf,d⟩:=I.pin p hp;have Q6:p.1∉ch:=fun z=>(IM p.1 z).2.2.2 p hp rfl;exact⟨keep p.1 p.2 ne nf Q6 e n,free p.1 p.2 Q6 e n,ne,nf,d⟩
theorem aU.un{t':Nat}(I:aU X ag σ H s)(u:Un X.fs [] H H' s.heap h')(b_:jR X.prog X.w H' h'):aU X ag σ H' { s with heap:=h',toks:=t' }:=by
 obtain⟨m,⟨o,es,ep,ho,r⟩,_⟩:=id I.loc;obtain⟨sl,hL⟩:=u.any ho I.free (by simp);exact I.step (g':=s.gens) (d':=s.drawn) (ch:=[]) (fun _ z=>nomatch z) (fun b o _ hb _ e n=>u.keep b o e n hb (by simp)) (fun b o _ hb _ e n=>u.slot b o e n hb (by simp)) (fun b o _ e n=>u.free b o e n (by simp)) (fun b o _ e=>u.there b o e (by simp)) u.kg u.lR u.mF (fun m' hm=>by
  obtain⟨o',yN,Q7,xb,r'⟩:=hm;rw[ho] at xb;cases xb;exact⟨_,yN,Q7,hL,r'⟩) b_ I.bare
theorem aU.call{g':Array GenState}{t':Nat}{d':Drawn}{ch:List Addr}(I:aU X ag σ H s)(u:Un (qe X.stack) ch H H' s.heap h')(b_:jR X.prog X.w H' h')(hg:AllBare g')(IM:∀b∈ch,(b∈X.ex\/X.s₀.heap.objs.size<=b)/\b≠X.env.locals/\(∀x c,X.env.cells.lookup x=some c->c≠b)/\∀p∈X.pn++ag,p.1≠b):
  aU X ag σ H' { s with heap:=h',gens:=g',drawn:=d',toks:=t' }:=by
 obtain⟨m,⟨o,es,ep,ho,r⟩,_⟩:=id I.loc;obtain⟨sl,hL⟩:=u.any ho I.free fun z=>(IM _ z).2.1 rfl;exact I.step (ch:=ch) IM (fun b o hL hb hc e n=>u.keep b o e n (fun z=>(bK.mp (I.vB b z)).elim hL hb) hc) (fun b o _ _ hc e n=>u.any e n hc) (fun b o hc e n=>u.free b o e n hc) (fun b o hc e=>u.there b o e hc) u.kg u.lR u.mF (fun m' hm=>by
  obtain⟨o',yN,Q7,xb,r'⟩:=hm;rw[ho] at xb;cases xb;exact⟨_,yN,Q7,hL,r'⟩) b_ hg
theorem aU.turned{t':Nat}{it:Addr}(I:aU X ag σ H s)(k:∀b o,b≠it->s.heap.get? b=some o->h'.get? b=some o)(hn:H it=none)(hL:it≠X.env.locals)(h1:it∈X.ex\/X.s₀.heap.objs.size<=it)(h2:∀x c,X.env.cells.lookup x=some c->c≠it)(h3:∀p∈X.pn++ag,p.1≠it):aU X ag σ H { s with heap:=h',toks:=t' }:=by
 have Mb:∀b u,H b=some u->b≠it:=fun b u e z=>by rw[z,hn] at e;cases e
 refine I.step (g':=s.gens) (d':=s.drawn) (ch:=[it]) (fun b hb=>?_) (fun b o _ _ hc e _=>k b o (fun z=>hc (by simp[z])) e) (fun b o _ _ hc e _=>⟨o.slots,k b o (fun z=>hc (by simp[z])) e⟩) (fun _ _ _ _ n=>n)
  (fun b o hc e=>⟨o,k b o (fun z=>hc (by simp[z])) e⟩) (fun _ _ e=>e) (fun _ _ _ e=>e) (fun b ps e=>⟨#[],by rw[e];simp⟩) (fun m hm=>?_) (fun b u e=>?_) I.bare
 .have e:b=it:=by simpa using hb
  subst e;exact⟨h1,hL,h2,h3⟩
 .obtain⟨o,es,ep,ho,r⟩:=hm;exact⟨o,es,ep,k _ o (fE hL) ho,r⟩
 .refine(I.b_ b u e).oz (fun c v hc q=>k c v ?_ q) (fun _ q=>q) fun _ _ q=>q;rcases hc with z|z
  .rw[z];exact Mb b u e
  .exact Mb c _ z
theorem aU.tok(I:aU X ag σ H s)(t:Nat):aU X ag σ H { s with toks:=t }:=I.un (h':=s.heap) (t':=t) Un.refl I.b_
theorem aU.kept(I:aU X ag σ H s)(k:∀b u,s.heap.get? b=some u->h'.get? b=some u):aU X ag σ H { s with heap:=h',toks:=t' }:=I.un (Un.kept k) (I.b_.kept k)
theorem aU.laid(I:aU X ag σ H s)(k:∀b u,s.heap.get? b=some u->h'.get? b=some u)(hp:s.heap.objs.size<=a)(new:cu X.prog X.w (upd H a o) h' a o):
  aU X ag σ (upd H a o) { s with heap:=h',toks:=t' }:=I.un (Un.laid k hp (I.b_.fresh hp)) (I.b_.laid k hp new)
theorem aU.write(I:aU X ag σ H s)(mu:Vo (H x))(he:e=x\/H e=some (.own x))(k:∀b u,b≠e->s.heap.get? b=some u->h'.get? b=some u)(Qo:∃u,h'.get? e=some u)(new:cu X.prog X.w (upd H x o) h' x o):aU X ag σ (upd H x o) { s with heap:=h',toks:=t' }:=I.un (Un.write mu he k Qo) (I.b_.write mu he k Qo new)
theorem aU.BB(I:aU X ag σ H s)(h:∀p∈rp,s.heap.get? p.1=some p.2/\H p.1=none/\p.1≠X.env.locals/\p.1∉X.fs/\∀v,p.2.data≠.cell v):aU X rp σ H s:=
 ⟨I.ok,I.os,I.bare,I.base,I.loc,I.cell,I.free,I.ig,fun p hp=>(bS.mp hp).elim (fun z=>I.pin p (fw _ z)) (h p),I.b_,I.len⟩
theorem rq{N:List Str}(hN:N.Nodup){i j:Nat}{x:Str}(a:N[i]?=some x)(b:N[j]?=some x):i=j:=by
 obtain⟨h1,e1⟩:=cK.mp a;obtain⟨h2,e2⟩:=cK.mp b;exact(vc hN).mp (e1.trans e2.symm)
theorem kW{M:Model}{A:Around}{E:Value->Shared->Prop}{i:Nat}{x:Str}{v:V}{u:Value}{Q:Unit->Shared->Prop}(I:aU X ag σ H s)(hN:X.N.Nodup)(hi:X.N[i]?=some x)(hx:Q3 X.env.scope x)(r:bX v u)(h:∀s',aU X ag (σ.set i (some v)) H s'->(∃a,Heap.SameBut a s.heap s'.heap/\(a=X.env.locals\/X.env.cells.lookup x=some a))->Q () s')(hf:X.fn x=true\/X.env.scope.names.lookup x=some .local:=by first|exact .inl rfl|exact .inr rfl|assumption):wpAny M A (storeName X.env x u) Q E s:=by
 obtain⟨m,hn,hl⟩:=id I.loc;have M_:(X.env.scope.kind==.class||(X.env.scope.kind==.module&&X.env.locals != X.env.globals))=false:=by rw[I.ok.kind];rfl
 have hiσ:i<σ.length:=by rw[I.len];exact(cK.mp hi).1
 have Jg:=I.Jg;have BC:∀ {a:Addr} {h':Heap},(∃o,s.heap.get? a=some o/\H a=none)->Heap.SameBut a s.heap h'->jR X.prog X.w H h':=fun {a h'} ha hs b ob e=>by
  obtain⟨_,_,Mc⟩:=ha;refine(I.b_ b ob e).oz (fun c w' hc q=>(hs.2 c ?_).trans q) (fun _ q=>q) fun _ _ q=>q;rintro rfl;rcases hc with rfl|hc
  .rw[Mc] at e;cases e
  .rw[Mc] at hc;cases hc
 rcases hx with hk|hk
 .refine wpAny_storeName_local hk hn (fun h' Vr hs=>?_) M_;obtain⟨oL,_,_,C1,_⟩:=id hn;refine h _ ⟨I.ok,I.os,I.bare,⟨fun b o e n hb hx=>?_,fun b o e n hb hx=>?_,I.base.free,fun b o e hx=>?_,I.base.kg,I.base.lR,I.base.mF⟩,⟨_,Vr,fun j y v' e1 e2 e3=>?_⟩,fun y c e=>?_,I.free,I.ig,fun p hp=>?_,BC ⟨oL,C1,I.free⟩ hs,by simpa using I.len⟩ ⟨_,hs,.inl rfl⟩
  .exact(hs.2 b (bg (cQ (bh e) I.ok.above))).trans (I.base.keep b o e n hb hx)
  .obtain⟨sl,e1⟩:=I.base.slot b o e n hb hx;exact⟨sl,(hs.2 b (bg (cQ (bh e) I.ok.above))).trans e1⟩
  .obtain⟨o',e1⟩:=I.base.there b o e hx;exact⟨o',(hs.2 b (bg (cQ (bh e) I.ok.above))).trans e1⟩
  .by_cases hj:j=i
   .subst hj;rw[hi] at e1;cases e1;rw[lA hiσ] at e2;cases e2;exact⟨u,r,.inl ⟨hk,by simp⟩⟩
   .rw[lC (fE hj)] at e2;obtain⟨u',r',q⟩:=hl j y v' e1 e2 e3;refine⟨u',r',?_⟩;rcases q with ⟨k,e⟩|⟨k,c,e,z⟩
    .refine .inl ⟨k,?_⟩;have:y≠x:=fun e=>hj (rq hN e1 (e ▸ hi));simp[this,e]
    .exact .inr ⟨k,c,e,z.sameBut hs (Jg y c e)⟩
  .obtain⟨w',z⟩:=I.cell y c e;exact⟨w',z.sameBut hs (Jg y c e)⟩
  .obtain⟨e,n,ne,nf,d⟩:=I.pin p hp;exact⟨(hs.2 p.1 ne).trans e,n,ne,nf,d⟩
 .have Wk:X.fn x=true:=by
   rcases hf with z|z
   .exact z
   .rw[z] at hk;cases hk
  obtain⟨c,hc⟩:=I.ok.has x (.inl hk);obtain⟨w',z⟩:=I.cell x c hc;refine wpAny_storeName_cell I.ok.kind hk hc z (fun h' xn hs=>?_);obtain⟨oc,Qp,Wl⟩:=id z;refine h { s with heap:=h' } ⟨I.ok,I.os,I.bare,⟨fun b o e n hb hx=>?_,fun b o e n hb hx=>?_,I.base.free,fun b o e hx=>?_,I.base.kg,I.base.lR,I.base.mF⟩,⟨m,hn.sameBut hs (fE (Jg x c hc)),fun j y v' e1 e2 e3=>?_⟩,fun y c' e=>?_,I.free,I.ig,fun p hp=>?_,BC ⟨oc,Qp,I.ig x c hc⟩ hs,by simpa using I.len⟩ ⟨c,hs,.inr hc⟩
  .exact(hs.2 b (bg (cQ (bh e) (I.ok.M9 x c Wk hc)))).trans (I.base.keep b o e n hb hx)
  .obtain⟨sl,e1⟩:=I.base.slot b o e n hb hx;exact⟨sl,(hs.2 b (bg (cQ (bh e) (I.ok.M9 x c Wk hc)))).trans e1⟩
  .obtain⟨o',e1⟩:=I.base.there b o e hx;exact⟨o',(hs.2 b (bg (cQ (bh e) (I.ok.M9 x c Wk hc)))).trans e1⟩
  .by_cases hj:j=i
   .subst hj;rw[hi] at e1;cases e1;rw[lA hiσ] at e2;cases e2;exact⟨u,r,.inr ⟨.inl hk,c,hc,xn⟩⟩
   .rw[lC (fE hj)] at e2;obtain⟨u',r',q⟩:=hl j y v' e1 e2 e3;refine⟨u',r',?_⟩;rcases q with q|⟨k,c',e,z'⟩
    .exact .inl q
    .refine .inr ⟨k,c',e,z'.sameBut hs ?_⟩;rintro rfl;exact hj (rq hN e1 (I.ok.inj _ _ _ e hc ▸ hi))
  .by_cases ZL:c'=c
   .subst ZL;exact⟨_,xn⟩
   .obtain⟨w2,z2⟩:=I.cell y c' e;exact⟨w2,z2.sameBut hs ZL⟩
  .obtain⟨e,n,ne,nf,d⟩:=I.pin p hp;refine⟨(hs.2 p.1 ?_).trans e,n,ne,nf,d⟩;intro q;rw[q,Qp] at e;have q':oc=p.2:=bP e;exact d w' (by rw[<-q'];exact Wl)
theorem kj(I:aU X ag σ H s)(hN:X.N.Nodup)(hi:X.N[i]?=some x)(hx:Q3 X.env.scope x)(r:bX v u)(h:∀s',aU X ag (σ.set i (some v)) H s'->Q () s')(hf:X.fn x=true\/X.env.scope.names.lookup x=some .local:=by first|exact .inl rfl|exact .inr rfl|assumption):wpAny M A (storeName X.env x u) Q E s:=
 kW I hN hi hx r (fun s' I' _=>h s' I') hf
theorem aU.Md(I:aU X ag σ H s)(ho:s'.os=s.os)(u:Un (qe X.stack) ch H H' s.heap s'.heap)(b_:jR X.prog X.w H' s'.heap)(hg:AllBare s'.gens)(IM:∀b∈ch,(b∈X.ex\/X.s₀.heap.objs.size<=b)/\b≠X.env.locals/\(∀x c,X.env.cells.lookup x=some c->c≠b)/\∀p∈X.pn++ag,p.1≠b):aU X ag σ H' s':=by
 obtain⟨h',g',d',t',o'⟩:=s';have e:o'=s.os:=ho;subst e;exact I.call (g':=g') (t':=t') (d':=d') u b_ hg IM
end
abbrev XK:=Value->Option Addr->Hp->Prop
abbrev St:=List (Option V)
abbrev VK:=V->Hp->Prop
abbrev TE:=St->Hp->VK->Prop
abbrev TT:=St->Hp->(Bool->Hp->Prop)->Prop
abbrev TA:=St->Hp->(List V->Hp->Prop)->Prop
structure xo where
 nx:St->Hp->Prop
 rt:VK
 bk:St->Hp->Prop:=fun _ _=>False
 ct:St->Hp->Prop:=fun _ _=>False
abbrev TS:=xo->St->Hp->Prop
def EP(X:Cx)(ag:List (Addr×Obj))(σ:St)(Q:VK)(u:Value)(s':Shared):Prop:=∃v H',aU X ag σ H' s'/\bX v u/\Q v H'
def TP(X:Cx)(ag:List (Addr×Obj))(σ:St)(Q:Bool->Hp->Prop)(b:Bool)(s':Shared):Prop:=∃H',aU X ag σ H' s'/\Q b H'
def AP(X:Cx)(ag:List (Addr×Obj))(σ:St)(Q:List V->Hp->Prop)(us:List Value)(s':Shared):Prop:=∃vs H',aU X ag σ H' s'/\ba vs us/\Q vs H'
def SP(X:Cx)(ag:List (Addr×Obj))(D:xo)(f:Flow)(s':Shared):Prop:=
 match f with
 |.next=>∃σ' H',aU X ag σ' H' s'/\D.nx σ' H'
 |.brk=>∃σ' H',aU X ag σ' H' s'/\D.bk σ' H'
 |.cont=>∃σ' H',aU X ag σ' H' s'/\D.ct σ' H'
 |.ret u=>∃v σ' H',aU X ag σ' H' s'/\bX v u/\D.rt v H'
def PE(X:Cx)(e:Expr)(t:TE):Prop:=
 ∀ (ag:List (Addr×Obj)) (s:Shared) (σ:St) (H:Hp) (Q:VK),aU X ag σ H s->t σ H Q->wpAny (model X.prog X.w) X.A (eval e X.env) (EP X ag σ Q) X.xe s
def PT(X:Cx)(e:Expr)(t:TT):Prop:=
 ∀ (ag:List (Addr×Obj)) (s:Shared) (σ:St) (H:Hp) (Q:Bool->Hp->Prop),aU X ag σ H s->t σ H Q->wpAny (model X.prog X.w) X.A (isTrue e X.env (eval e X.env)) (TP X ag σ Q) X.xe s
def PW(X:Cx)(e:Expr)(t:TT):Prop:=
 ∀ (BF:Sem Value) (ag:List (Addr×Obj)) (s:Shared) (σ:St) (H:Hp) (Q:Bool->Hp->Prop),aU X ag σ H s->t σ H Q->wpAny (model X.prog X.w) X.A (isTrue e X.env BF) (TP X ag σ Q) X.xe s
theorem PW.pt(h:PW X e t):PT X e t:=h _
def PA(X:Cx)(es:List Expr)(t:TA):Prop:=
 ∀ (pos:Pos) (ag:List (Addr×Obj)) (s:Shared) (σ:St) (H:Hp) (Q:List V->Hp->Prop),aU X ag σ H s->t σ H Q->wpAny (model X.prog X.w) X.A (spliced (backTo pos (starEach es X.env))) (AP X ag σ Q) X.xe s
def PS(X:Cx)(st:Stmt)(t:TS):Prop:=
 ∀ (ag:List (Addr×Obj)) (s:Shared) (σ:St) (H:Hp) (D:xo),aU X ag σ H s->t D σ H->wpAny (model X.prog X.w) X.A (exec st X.env) (SP X ag D) X.xe s
def ub(X:Cx)(st:List Stmt)(t:TS):Prop:=
 ∀ (ag:List (Addr×Obj)) (s:Shared) (σ:St) (H:Hp) (D:xo),aU X ag σ H s->t D σ H->wpAny (model X.prog X.w) X.A (execs st X.env) (SP X ag D) X.xe s
theorem cV(h:wpAny M A t Q E s)(hQ:∀a s,Q a s->Q' a s):wpAny M A t Q' E s:=jp h hQ fun _ _ x=>x
section
variable {X:Cx}
def aW(i:Nat):TE:=fun σ H Q=>∃v,σ[i]?=some (some v)/\Q v H
def tC(v:V):TE:=fun _ H Q=>Q v H
theorem Na(hN:X.N[i]?=some x)(hv:Q0 X.env.scope x)(hd:(x==("__debug__":Str))=false:=by decide)(qz:(x==("__classdict__":Str))=false:=by decide):PE X (.Name x pos) (aW i):=by
 intro ag s σ H Q I h;obtain⟨v,e,h⟩:=h;obtain⟨m,hn,hl⟩:=I.loc;obtain⟨u,r,l⟩:=hl i x v hN e hv;have dG:EP X ag σ Q u s:=⟨v,H,I,r,h⟩
 rcases l with ⟨hk,hm⟩|⟨hk,c,hc,BG⟩
 .exact oy (zH I.ok.kind hk hn hm dG) hd
 .rcases hk with hk|hk
  .exact oy (wpAny_loadName_cell I.ok.kind hk hc BG dG) hd
  .exact oy (zN I.ok.kind hk hc BG dG qz) hd
theorem au{i j pos}:PE X (.Constant (.int i) j pos) (tC (.int i)):=fun _ _ _ H _ I h=>wpAny_Constant_int ⟨.int i,H,I.tok _,⟨_,rfl⟩,h⟩
theorem mG{b j pos}:PE X (.Constant (.bool b) j pos) (tC (.bl b)):=fun _ _ _ H _ I h=>Constant_bool ⟨.bl b,H,I,rfl,h⟩
theorem cp{j pos}:PE X (.Constant .none j pos) (tC .bD):=fun _ _ _ H _ I h=>Constant_none ⟨.bD,H,I,rfl,h⟩
theorem fh{x j pos}:PE X (.Constant (.str x) j pos) (tC (.str x)):=fun _ _ _ H _ I h=>Calls.Constant_str ⟨.str x,H,I.tok _,⟨_,rfl⟩,h⟩
def Gl(X:Cx)(x:Str):Prop:=X.env.kindOf x=some .globalImplicit
theorem mH(I:aU X ag σ H s)(hg:Gl X x)(hm:X.mg x=some u)(h:Q u s)(hd:(x==("__debug__":Str))=false:=by decide):wpAny (model X.prog X.w) X.A (eval (.Name x pos) X.env) Q E s:=
 zd I.ok.kind hg (Calls.loadGlobal_global (by rw[I.ok.glob];exact I.mod.glob.keeps I.bk) hm h) hd
theorem lT(I:aU X ag σ H s)(hg:Gl X x)(hm:X.mg x=none)(hv:bootBuiltins x=some u)(h:Q u s)(hn:x≠"__name__":=by decide)(hd:(x==("__debug__":Str))=false:=by decide):wpAny (model X.prog X.w) X.A (eval (.Name x pos) X.env) Q E s:=by
 obtain⟨mb,h1,h2⟩:=I.mod.blt;exact zd I.ok.kind hg (Calls.loadGlobal_builtin (by rw[I.ok.glob];exact I.mod.glob.keeps I.bk) hm (by rw[I.ok.blt];exact h1.keeps I.bk) ((h2 x hn).trans hv) h) hd
theorem dJ(hg:Gl X x)(hm:X.mg x=some u)(r:bX v u)(hd:(x==("__debug__":Str))=false:=by decide):PE X (.Name x pos) (tC v):=
 fun _ _ _ H _ I h=>mH I hg hm ⟨v,H,I,r,h⟩ hd
theorem gu(hg:Gl X x)(hm:X.mg x=none)(hv:bootBuiltins x=some u)(r:bX v u)(hn:x≠"__name__":=by decide)(hd:(x==("__debug__":Str))=false:=by decide):PE X (.Name x pos) (tC v):=
 fun _ _ _ H _ I h=>lT I hg hm hv ⟨v,H,I,r,h⟩ hn hd
variable {a b:Expr} {ta tb:TE} {pos:Pos}
def PC(X:Cx)(op:CmpOp)(a b:Expr)(t:TE):Prop:=
 ∀ (ag:List (Addr×Obj)) (s:Shared) (σ:St) (H:Hp) (Q:VK),aU X ag σ H s->t σ H Q->
  wpAny (model X.prog X.w) X.A (eval a X.env) (fun v s₁=>wpAny (model X.prog X.w) X.A (eval b X.env) (fun u s₂=>wpAny (model X.prog X.w) X.A (compareOp op v u) (EP X ag σ Q) X.xe s₂) X.xe s₁) X.xe s
def tB(t:TE):TT:=fun σ H Q=>t σ H fun x H1=>∃c,x=.bl c/\Q c H1
theorem Nb(h:PC X op a b t)(h1:behindInMarks op b=false:=by first|exact Q8 _ (by decide) (by decide)|rfl):PT X (.Compare a [op] [b] pos) (tB t):=by
 intro ag s σ H Q I hw;refine wpAny_isTrue_Compare1 (cV (h ag s σ H _ I hw) fun v s1 h1=>cV h1 fun u s2 h2=>cV h2 fun c s3 ⟨x,H1,I1,r1,q1⟩=>?_) h1;obtain⟨d,rfl,q⟩:=q1;cases r1;exact lG ⟨H1,I1,q⟩
theorem cR(h:PE X e t)(he:∀BF,isTrue e X.env BF=(do let v <- BF;standAt e.pos;holding [v] (truthy v)):=by intro _;rfl):PT X e (tB t):=by
 intro ag s σ H Q I hw;refine isTrue_plain (cV (h ag s σ H _ I hw) fun v s1 ⟨x,H1,I1,r1,q1⟩=>?_) (he _);obtain⟨d,rfl,q⟩:=q1;cases r1;exact lG ⟨H1,I1,q⟩
variable {tA Vs:TT} {mI:List Expr}
def C2(t u:TT):TT:=fun σ H Q=>t σ H fun c H1=>if c=true then u σ H1 Q else Q false H1
def tOr(t u:TT):TT:=fun σ H Q=>t σ H fun c H1=>if c=true then Q true H1 else u σ H1 Q
def Nd(t:TT):TT:=fun σ H Q=>t σ H fun c H1=>Q (!c) H1
theorem fG(ha:PT X a tA):PW X (.BoolOp .And [a] pos) tA:=by
 intro wh ag s σ H Q I h;refine isTrue_and (cV (ha ag s σ H Q I h) fun c s1 e=>?_);cases c with
 |true=>exact isTrue_and_nil e
 |false=>exact e
theorem rA(ha:PT X a tA):PW X (.BoolOp .Or [a] pos) tA:=by
 intro wh ag s σ H Q I h;refine isTrue_or (cV (ha ag s σ H Q I h) fun c s1 e=>?_);cases c with
 |false=>exact isTrue_or_nil e
 |true=>exact e
theorem fJ(ha:PT X a tA)(hb:PW X (.BoolOp .And (b::mI) pos) Vs):PW X (.BoolOp .And (a::b::mI) pos) (C2 tA Vs):=by
 intro wh ag s σ H Q I h;refine isTrue_and (cV (ha ag s σ H _ I h) fun c s1 ⟨H1,I1,q1⟩=>?_);cases c with
 |true=>exact hb wh ag s1 σ H1 Q I1 q1
 |false=>exact⟨H1,I1,q1⟩
theorem xp(ha:PT X a tA)(hb:PW X (.BoolOp .Or (b::mI) pos) Vs):PW X (.BoolOp .Or (a::b::mI) pos) (tOr tA Vs):=by
 intro wh ag s σ H Q I h;refine isTrue_or (cV (ha ag s σ H _ I h) fun c s1 ⟨H1,I1,q1⟩=>?_);cases c with
 |true=>exact⟨H1,I1,q1⟩
 |false=>exact hb wh ag s1 σ H1 Q I1 q1
theorem d_(ha:PT X a tA):PT X (.UnaryOp .Not a pos) (Nd tA):=by
 intro ag s σ H Q I h;exact isTrue_not (ha ag s σ H (fun c H1=>Q (!c) H1) I h)
def Q9(ta tb:TE):TE:=fun σ H Q=>ta σ H fun x H1=>∃c,x=.bl c/\if c=true then tb σ H1 Q else Q (.bl false) H1
def Wm(ta tb:TE):TE:=fun σ H Q=>ta σ H fun x H1=>∃c,x=.bl c/\if c=true then Q (.bl true) H1 else tb σ H1 Q
def Q_(ta:TE):TE:=fun σ H Q=>ta σ H fun x H1=>∃c,x=.bl c/\Q (.bl (!c)) H1
theorem oA{op}(h:PE X a t):PE X (.BoolOp op [a] pos) t:=fun ag s σ H Q I hw=>BoolOp_one (h ag s σ H Q I hw)
theorem oB(ha:PE X a ta)(hb:PE X (.BoolOp .And (b::mI) pos) tb):PE X (.BoolOp .And (a::b::mI) pos) (Q9 ta tb):=by
 intro ag s σ H Q I h;refine BoolOp_and (cV (ha ag s σ H _ I h) fun v s1 ⟨x,H1,I1,r1,q1⟩=>?_);obtain⟨c,rfl,q1⟩:=q1;cases r1;refine lG ?_;cases c with
 |true=>exact hb ag s1 σ H1 Q I1 q1
 |false=>exact⟨.bl false,H1,I1,rfl,q1⟩
theorem Ra(ha:PE X a ta)(hb:PE X (.BoolOp .Or (b::mI) pos) tb):PE X (.BoolOp .Or (a::b::mI) pos) (Wm ta tb):=by
 intro ag s σ H Q I h;refine BoolOp_or (cV (ha ag s σ H _ I h) fun v s1 ⟨x,H1,I1,r1,q1⟩=>?_);obtain⟨c,rfl,q1⟩:=q1;cases r1;refine lG ?_;cases c with
 |false=>exact hb ag s1 σ H1 Q I1 q1
 |true=>exact⟨.bl true,H1,I1,rfl,q1⟩
theorem Nf(ha:PE X a ta):PE X (.UnaryOp .Not a pos) (Q_ ta):=by
 intro ag s σ H Q I h;refine UnaryOp_ (cV (ha ag s σ H _ I h) fun v s1 ⟨x,H1,I1,r1,q1⟩=>?_);obtain⟨c,rfl,q1⟩:=q1;cases r1;exact not_of (lG ⟨.bl (!c),H1,I1,rfl,q1⟩)
def Wn(t:TT)(ta tb:TE):TE:=fun σ H Q=>t σ H fun c H1=>if c=true then ta σ H1 Q else tb σ H1 Q
theorem rB(hc:PT X c tA)(ha:PE X a ta)(hb:PE X b tb):PE X (.IfExp c a b pos) (Wn tA ta tb):=by
 intro ag s σ H Q I h;refine wpAny_IfExp (cV (hc ag s σ H _ I h) fun d s1 ⟨H1,I1,q1⟩=>?_);cases d with
 |true=>exact ha ag s1 σ H1 Q I1 q1
 |false=>exact hb ag s1 σ H1 Q I1 q1
end
def aZ(K:PySem.W.Frag)(H:Hp)(a:Addr)(xs:List V):Prop:=
 Rd H a (.lst xs)\/
  ∃ (o:Obj) (its:Array Value) (n:Nat),K.lookup a=some o/\o.cls=.type "list"/\o.dict=none/\o.data=.seq its n/\its.size<=sizeLine/\ba xs its.toList
def bv(K:PySem.W.Frag)(H:Hp)(a:Addr)(xs:List V):Prop:=
 Rd H a (.tup xs)\/
  ∃ (o:Obj) (its:Array Value) (n:Nat),K.lookup a=some o/\o.cls=.type "tuple"/\o.data=.seq its n/\its.size<=sizeLine/\ba xs its.toList
def Wo:Value->Option V
 |.none=>some .bD
 |.bool b=>some (.bl b)
 |.int i _=>some (.int i)
 |.str x _=>some (.str x)
 |.bytes b _=>some (.Ew b)
 |.float b _=>some (.M7 b)
 |.ref a=>some (.ref a)
 |.type n=>some (.ty n)
 |_=>none
theorem bX.abs(r:bX x u):Wo u=some x:=by
 cases x with
 |bD=>cases r;rfl
 |bl _=>cases r;rfl
 |int _=>obtain⟨t,rfl⟩:=r;rfl
 |str _=>obtain⟨t,rfl⟩:=r;rfl
 |Ew _=>obtain⟨t,rfl⟩:=r;rfl
 |M7 _=>obtain⟨t,rfl⟩:=r;rfl
 |ref _=>cases r;rfl
 |ty _=>cases r;rfl
theorem bX.inj(r:bX x u)(q:bX y u):x=y:=bP (r.abs.symm.trans q.abs)
theorem ba.inj:∀ {xs ys:List V} {us:List Value},ba xs us->ba ys us->xs=ys
 |_,_,_,.nil,.nil=>rfl
 |_,_,_,.cons r t,.cons r' t'=>by rw[r.inj r',ba.inj t t']
section
variable {X:Cx} {ag:List (Addr×Obj)} {σ:St} {H:Hp} {s:Shared} {a:Addr} {xs ys:List V}
theorem aZ.of{K:PySem.W.Frag}(h:H a=some (.lst xs)):aZ K H a xs:=.inl (.inl h)
theorem bv.of{K:PySem.W.Frag}(h:H a=some (.tup xs)):bv K H a xs:=.inl (.inl h)
theorem aU.list(I:aU X ag σ H s)(h:aZ X.K H a xs):∃its:List Value,ba xs its/\PlainL s.heap a its.toArray/\xs.length<=sizeLine:=by
 rcases h with h|⟨o,its,n,hk,hc,hd,hs,hz,r⟩
 .obtain⟨z,its,n,r,e⟩:=h.ok I.b_;exact⟨its,r,⟨_,n,e,rfl,rfl,rfl⟩,z⟩
 .refine⟨its.toList,r,⟨o,n,I.mj a o hk,hc,hd,by simpa using hs⟩,?_⟩;have e:=r.length;simp only[lD] at e;lia
theorem aU.tuple(I:aU X ag σ H s)(h:bv X.K H a xs):∃its:List Value,ba xs its/\IsTup s.heap a its.toArray/\xs.length<=sizeLine:=by
 rcases h with h|⟨o,its,n,hk,hc,hs,hz,r⟩
 .obtain⟨z,its,r,p⟩:=h.ok I.b_;exact⟨its,r,p.tup,z⟩
 .refine⟨its.toList,r,⟨o,I.mj a o hk,hc,n,by simpa using hs⟩,?_⟩;have e:=r.length;simp only[lD] at e;lia
theorem aU.E2(I:aU X ag σ H s)(h:aZ X.K H a xs)(h':aZ X.K H a ys):xs=ys:=by
 obtain⟨its,r,⟨o,n,e,_,_,d⟩,_⟩:=I.list h;obtain⟨its',r',⟨o',n',e',_,_,d'⟩,_⟩:=I.list h';rw[e] at e';cases e';rw[d] at d';injection d' with d1 _;have:its=its':=by simpa using congrArg Array.toList d1
 subst this;exact r.inj r'
theorem aU.hW(I:aU X ag σ H s)(h:bv X.K H a xs)(h':bv X.K H a ys):xs=ys:=by
 obtain⟨its,r,⟨o,e,_,n,d⟩,_⟩:=I.tuple h;obtain⟨its',r',⟨o',e',_,n',d'⟩,_⟩:=I.tuple h';rw[e] at e';cases e';rw[d] at d';injection d' with d1 _;have:its=its':=by simpa using congrArg Array.toList d1
 subst this;exact r.inj r'
end
abbrev Cx.tE(X:Cx)(E:Value->Shared->Prop):Cx:={ X with xe:=E }
abbrev Cx.Me(X:Cx):Cx:=X.tE fun _ _=>False
theorem Cx.Ok.tE{X:Cx}(ok:X.Ok)(E:Value->Shared->Prop):(X.tE E).Ok:=
 ⟨ok.mod,ok.kind,ok.glob,ok.blt,ok.above,ok.inj,ok.has,ok.M9,ok.hd,ok.frames,ok.EZ,ok.Q4,ok.bs,ok.Ex,ok.z0,ok.C0,ok.lS,ok.IL⟩
theorem Cx.Ok.kl{X:Cx}{E:Value->Shared->Prop}(ok:(X.tE E).Ok):X.Ok:=
 ⟨ok.mod,ok.kind,ok.glob,ok.blt,ok.above,ok.inj,ok.has,ok.M9,ok.hd,ok.frames,ok.EZ,ok.Q4,ok.bs,ok.Ex,ok.z0,ok.C0,ok.lS,ok.IL⟩
section
variable {X:Cx} {ag:List (Addr×Obj)} {σ:St} {H:Hp} {s:Shared} {E:Value->Shared->Prop}
theorem aU.tE(I:aU X ag σ H s)(E:Value->Shared->Prop):aU (X.tE E) ag σ H s:=⟨I.ok.tE E,I.os,I.bare,I.base,I.loc,I.cell,I.free,I.ig,I.pin,I.b_,I.len⟩
theorem aU.kl(I:aU (X.tE E) ag σ H s):aU X ag σ H s:=⟨I.ok.kl,I.os,I.bare,I.base,I.loc,I.cell,I.free,I.ig,I.pin,I.b_,I.len⟩
theorem SP.kl(h:SP (X.tE E) ag D f s'):SP X ag D f s':=by
 cases f with
 |next=>obtain⟨σ',H',I,q⟩:=h;exact⟨σ',H',I.kl,q⟩
 |brk=>obtain⟨σ',H',I,q⟩:=h;exact⟨σ',H',I.kl,q⟩
 |cont=>obtain⟨σ',H',I,q⟩:=h;exact⟨σ',H',I.kl,q⟩
 |ret u=>obtain⟨v,σ',H',I,r,q⟩:=h;exact⟨v,σ',H',I.kl,r,q⟩
theorem ub.Me{st:List Stmt}{t:TS}(h:ub X.Me st t):ub X st t:=fun ag s σ H D I hw=>
 jp (h ag s σ H D (I.tE _) hw) (fun _ _ q=>q.kl) fun _ _ z=>False.elim z
end
section
variable {X:Cx} {st:Stmt} {mI:List Stmt} {t u:TS} {e:Expr} {te:TE} {pos:Pos}
def BH:TS:=fun D σ H=>D.nx σ H
def Ng(t u:TS):TS:=fun D σ H=>t { D with nx:=u D } σ H
theorem aQ:ub X [] BH:=fun _ _ σ H _ I h=>re ⟨σ,H,I,h⟩
theorem ai(h1:PS X st t)(h2:ub X mI u):ub X (st::mI) (Ng t u):=by
 intro ag s σ H D I h;refine wpAny_execs_cons (cV (h1 ag s σ H { D with nx:=u D } I h) fun f s1 q=>?_);cases f with
 |next=>
  obtain⟨σ',H',I',q⟩:=q;exact h2 ag s1 σ' H' D I' q
 |ret v=>exact q
 |brk=>exact q
 |cont=>exact q
theorem ak(h1:PS X st t):ub X [st] t:=by
 intro ag s σ H D I h;refine wpAny_execs_cons (cV (h1 ag s σ H D I h) fun f s1 q=>?_);cases f with
 |next=>exact re q
 |ret v=>exact q
 |brk=>exact q
 |cont=>exact q
theorem aU.quiet(I:aU X ag σ H s):interactive X.env=false:=by simp[interactive,I.ok.kind]
def Rb(te:TE):TS:=fun D σ H=>te σ H fun _ H1=>D.nx σ H1
theorem cU(he:PE X e te)(hs:swapsWith e none pos.line X.env=pure false:=by rfl):PS X (.Expr e pos) (Rb te):=by
 intro ag s σ H D I h;exact wpAny_Expr_any (cV (he ag s σ H _ I h) fun v s1 ⟨x,H1,I1,r1,q1⟩=>⟨σ,H1,I1,q1⟩) I.quiet hs
def E3(te:TE):TS:=fun D σ H=>te σ H D.rt
theorem aK(he:PE X e te):PS X (.Return (some e) pos) (E3 te):=by
 intro ag s σ H D I h;exact wpAny_Return_some (cV (he ag s σ H _ I h) fun v s1 ⟨x,H1,I1,r1,q1⟩=>⟨x,σ,H1,I1,r1,q1⟩)
def Rc(c:TT)(t u:TS):TS:=fun D σ H=>c σ H fun b H1=>if b=true then t D σ H1 else u D σ H1
theorem br(hc:PT X c tc)(ha:ub X a t)(hb:ub X b u):PS X (.If c a b pos) (Rc tc t u):=by
 intro ag s σ H D I h;refine wpAny_If (cV (hc ag s σ H _ I h) fun d s1 ⟨H1,I1,q1⟩=>?_);cases d with
 |true=>exact ha ag s1 σ H1 D I1 q1
 |false=>exact hb ag s1 σ H1 D I1 q1
def Nh:TS:=fun _ _ _=>False
theorem fv:ub X sts Nh:=fun _ _ _ _ _ _ h=>h.elim
end
abbrev TG:=V->St->Hp->(St->Hp->Prop)->Prop
abbrev Ni:=List V->St->Hp->(St->Hp->Prop)->Prop
def PG(X:Cx)(Nj:Expr)(t:TG):Prop:=
 ∀ (ag:List (Addr×Obj)) (s:Shared) (σ:St) (H:Hp) (v:V) (u:Value) (Q:St->Hp->Prop),aU X ag σ H s->bX v u->t v σ H Q->
  wpAny (model X.prog X.w) X.A (assign Nj X.env u) (fun _ s'=>∃σ' H',aU X ag σ' H' s'/\Q σ' H') X.xe s
def Re(X:Cx)(ts:List Expr)(t:Ni):Prop:=
 ∀ (ag:List (Addr×Obj)) (s:Shared) (σ:St) (H:Hp) (vs:List V) (us:List Value) (Q:St->Hp->Prop),aU X ag σ H s->ba vs us->t vs σ H Q->
  wpAny (model X.prog X.w) X.A (assignInOrder ((assignEach ts X.env).map (·.2)) us) (fun _ s'=>∃σ' H',aU X ag σ' H' s'/\Q σ' H') X.xe s
abbrev Rf:=V->V->V->Hp->(Hp->Prop)->Prop
def Rg(X:Cx)(t:Rf):Prop:=
 ∀ (ag:List (Addr×Obj)) (s:Shared) (σ:St) (H:Hp) (o i v:V) (ov iv u:Value) (Q:Hp->Prop),aU X ag σ H s->bX o ov->bX i iv->bX v u->t o i v H Q->
  wpAny (model X.prog X.w) X.A (setItem ov iv u) (fun _ s'=>∃H',aU X ag σ H' s'/\Q H') X.xe s
abbrev Wp:=V->V->Hp->VK->Prop
def ZM(X:Cx)(op:Operator)(t:Wp):Prop:=
 ∀ (ag:List (Addr×Obj)) (s:Shared) (σ:St) (H:Hp) (x y:V) (v u:Value) (Q:VK),aU X ag σ H s->bX x v->bX y u->t x y H Q->
  wpAny (model X.prog X.w) X.A (inplaceOp op v u) (EP X ag σ Q) X.xe s
section
variable {X:Cx} {pos:Pos}
def bE(i:Nat):TG:=fun v σ H Q=>Q (σ.set i (some v)) H
theorem aw(hN:X.N.Nodup)(hi:X.N[i]?=some x)(hx:Q3 X.env.scope x)(hf:X.fn x=true\/X.env.scope.names.lookup x=some .local:=by first|exact .inl rfl|exact .inr rfl|assumption):PG X (.Name x pos) (bE i):=by
 intro ag s σ H v u Q I r h;exact wpAny_assign_Name (kj I hN hi hx r (fun s' I'=>⟨_,H,I',h⟩) hf)
def z6:Ni:=fun vs σ H Q=>vs=[]/\Q σ H
def i5(t:TG)(u:Ni):Ni:=fun vs σ H Q=>∃v r,vs=v::r/\t v σ H fun σ' H'=>u r σ' H' Q
theorem dq:Re X [] z6:=by
 intro ag s σ H vs us Q I r h;obtain⟨e,h⟩:=h;subst e;cases r;exact assignInOrder_nil ⟨σ,H,I,h⟩
theorem a_(h1:PG X e t)(h2:Re X es u)(hs:(assignEach (e::es) X.env).map (·.2)=assign e X.env::(assignEach es X.env).map (·.2):=by rfl):Re X (e::es) (i5 t u):=by
 intro ag s σ H vs us Q I r h;obtain⟨v,vr,e1,h⟩:=h;subst e1;cases r with
 |cons r rr=>
  rw[hs];refine assignInOrder_cons (cV (h1 ag s σ H _ _ _ I r h) fun _ s1 ⟨σ1,H1,I1,q1⟩=>?_);exact h2 ag s1 σ1 H1 _ _ Q I1 rr q1
def z7(K:PySem.W.Frag)(n:Nat)(t:Ni):TG:=fun v σ H Q=>∃a xs,v=.ref a/\bv K H a xs/\xs.length=n/\t xs σ H Q
theorem eT(hc:X.calm=true)(h:Re X es t)(hn:(assignEach es X.env).length=n:=by rfl)(km:(assignEach es X.env).findIdx? (·.1)=none:=by rfl):PG X (.Tuple es k pos) (z7 X.K n t):=by
 intro ag s σ H v u Q I r hw;obtain⟨a,xs,e1,hq,hl,hw⟩:=hw;subst e1;cases r;obtain⟨its,rv,ht,hz⟩:=I.tuple hq;refine assign_Tuple_tuple (I.ok.hd hc) ht (by simp[hn,<-hl,rv.length]) km fun h' hx=>?_;have I1:aU X ag σ H { s with heap:=h' }:=I.kept (t':=s.toks) fun b o e=>hx b o (bg (bh e)) e;exact h ag _ σ H xs _ Q I1 (by simpa using rv) hw
def Wq(to ti:TE)(t:Rf):TG:=fun v σ H Q=>to σ H fun o H1=>ti σ H1 fun i H2=>t o i v H2 fun H3=>Q σ H3
theorem ii(ho:PE X o to)(hi:PE X i ti)(hs:Rg X t)(ha:∀v,assign (.Subscript o i pos) X.env v=(do
   let ov <- holding [v] (eval o X.env)
   let iv <- holding [v,ov] (eval i X.env)
   standAt pos
   holding [v,ov,iv] (setItem ov iv v)
   release [v,ov,iv] []):=by intro _;rfl):PG X (.Subscript o i pos) (Wq to ti t):=by
 intro ag s σ H v u Q I r h;rw[ha];refine aD (fZ (cV (ho ag s σ H _ I h) fun ov s1 ⟨x,H1,I1,r1,q1⟩=>?_));refine aD (fZ (cV (hi ag s1 σ H1 _ I1 q1) fun iv s2 ⟨y,H2,I2,r2,q2⟩=>?_));refine aD (lN (aD (fZ (cV (hs ag s2 σ H2 x y v ov iv u _ I2 r1 r2 r q2) fun _ s3 ⟨H3,I3,q3⟩=>?_))));exact wpAny_release ⟨σ,H3,I3,q3⟩
def C3(te:TE)(g:TG):TS:=fun D σ H=>te σ H fun x H1=>g x σ H1 D.nx
theorem dL(he:PE X e te)(hg:PG X tg g)(hs:swapsWithSole [tg] e pos.line X.env=pure false:=by rfl)(hw:swappedStores [tg] e X.env=pure none:=by rfl)(h1:(assignEach [tg] X.env).map (·.2)=[assign tg X.env]:=by rfl):PS X (.Assign [tg] e pos) (C3 te g):=by
 intro ag s σ H D I h;refine wpAny_Assign_stores (cV (he ag s σ H _ I h) fun v s1 ⟨x,H1,I1,r1,q1⟩=>?_) hs hw;rw[h1];exact cV (hg ag s1 σ H1 x v _ I1 r1 q1) fun _ s2 q=>q
theorem aJ(hN:X.N.Nodup)(hi:X.N[i]?=some x)(hx:Q3 X.env.scope x)(he:PE X e te)(hs:swapsWith e (some (.Name x C4)) pos.line X.env=pure false:=by rfl)(hf:X.fn x=true\/X.env.scope.names.lookup x=some .local:=by first|exact .inl rfl|exact .inr rfl|assumption):
  PS X (.Assign [.Name x C4] e pos) (C3 te (bE i)):=by
 intro ag s σ H D I h;refine wpAny_Assign_Name (cV (he ag s σ H _ I h) fun v s1 ⟨y,H1,I1,r1,q1⟩=>?_) hs;exact kj I1 hN hi hx r1 (fun s2 I2=>⟨_,H1,I2,q1⟩) hf
def Wr(i j:Nat)(ta:TA):TS:=fun D σ H=>ta σ H fun vs H1=>∃v w,vs=[v,w]/\D.nx ((σ.set i (some v)).set j (some w)) H1
theorem Nk{kt k2 Qq}(hc:X.calm=true)(hN:X.N.Nodup)(hi:X.N[i]?=some x)(hj:X.N[j]?=some y)(hij:i≠j)(hx:X.env.scope.names.lookup x=some .local)(hy:X.env.scope.names.lookup y=some .local)(ha:PA X [a,b] ta)(hw:swappedStores [.Tuple [.Name x px,.Name y py] kt pt] (.Tuple [a,b] k2 Qq) X.env=pure (some [x,y]))(hs:swapsWithSole [.Tuple [.Name x px,.Name y py] kt pt] (.Tuple [a,b] k2 Qq) pos.line X.env=pure false:=by rfl):
  PS X (.Assign [.Tuple [.Name x px,.Name y py] kt pt] (.Tuple [a,b] k2 Qq) pos) (Wr i j ta):=by
 intro ag s σ H D I h;rw[exec_Assign_arm];refine aD (lN ?_);rw[hs];refine aD (wpAny_pure ?_);rw[aq (by decide)];refine aD (Tuple_ (cV (ha _ ag s σ H _ I h) fun us s1 ⟨vs,H1,I1,r1,q1⟩=>?_));obtain⟨v,w,e1,q1⟩:=q1;subst e1;obtain⟨u1,u2,rfl,rv,Nl⟩:∃u1 u2,us=[u1,u2]/\bX v u1/\bX w u2:=by
  cases r1 with
  |cons p q=>
   cases q with
   |cons p' q'=>
    cases q';exact⟨_,_,rfl,p,p'⟩
 refine j4 ?_ (by show 2<=sizeLine;decide);have I2:aU X ag σ H1 { s1 with heap:=s1.heap.push { cls:=.type "tuple",data:=.seq [u1,u2].toArray } }:=I1.kept (t':=s1.toks) fun b o e=>bY _ e;rw[hw];refine aD (wpAny_pure ?_);show wpAny (model X.prog X.w) X.A (do rule "assign.swapped-stores";let items <- unpackItems (.ref s1.heap.objs.size) 2 none;assignInOrder [fun v=>bindName X.env y v,fun v=>bindName X.env x v] items.reverse;pure Flow.next) _ _ _;refine aD (gN (aD (unpackItems_tuple (items:=#[u1,u2]) (I.ok.hd hc) (IsTup.new s1.heap _) fun h' C5=>?_)));have I3:=I2.kept (h':=h') (t':=s1.toks) fun b o e=>C5 b o (bg (bh e)) e;show wpAny _ _ (assignInOrder [fun v=>bindName X.env y v,fun v=>bindName X.env x v] [u2,u1] >>= fun _=>pure Flow.next) _ _ _;refine aD (assignInOrder_cons (wpAny_bindName (kj I3 hN hj (.inl hy) Nl (fun s2 I4=>?_) (.inr hy))));refine assignInOrder_cons (wpAny_bindName (kj I4 hN hi (.inl hx) rv (fun s3 I5=>assignInOrder_nil (wpAny_pure ?_)) (.inr hx)));rw[List.set_comm _ _ (fE hij)] at I5;exact⟨_,H1,I5,q1⟩
def Ws(i:Nat)(te:TE)(ti:Wp):TS:=fun D σ H=>∃x,σ[i]?=some (some x)/\te σ H fun y H1=>ti x y H1 fun z H2=>D.nx (σ.set i (some z)) H2
theorem Nm(hN:X.N.Nodup)(hi:X.N[i]?=some x)(hx:Q3 X.env.scope x)(he:PE X e te)(ho:ZM X op ti)(hf:X.fn x=true\/X.env.scope.names.lookup x=some .local:=by first|exact .inl rfl|exact .inr rfl|assumption):
  PS X (.AugAssign (.Name x C4) op e pos) (Ws i te ti):=by
 intro ag s σ H D I h;obtain⟨v,e1,h⟩:=h;obtain⟨m,hn,hl⟩:=I.loc;have Wt:Q0 X.env.scope x:=by rcases hx with k|k;exact .inl k;exact .inr (.inl k)
 obtain⟨u,r,l⟩:=hl i x v hi e1 Wt;refine wpAny_AugAssign_Name ?_;have go:wpAny (model X.prog X.w) X.A (eval e X.env) (fun w s₂=>wpAny (model X.prog X.w) X.A (inplaceOp op u w) (fun r s₃=>wpAny (model X.prog X.w) X.A (storeName X.env x r) (fun _=>SP X ag D .next) X.xe s₃) X.xe s₂) X.xe s:=by
  refine cV (he ag s σ H _ I h) fun w s1 ⟨y,H1,I1,r1,q1⟩=>?_;refine cV (ho ag s1 σ H1 v y u w _ I1 r r1 q1) fun z s2 ⟨zv,H2,I2,r2,q2⟩=>?_;exact kj I2 hN hi hx r2 (fun s3 I3=>⟨_,H2,I3,q2⟩) hf
 rcases l with ⟨hk,hm⟩|⟨hk,c,hc,BG⟩
 .exact zH I.ok.kind hk hn hm go
 .rcases hk with hk|hk
  .exact wpAny_loadName_cell I.ok.kind hk hc BG go
  .rcases hx with k|k
   .have:X.env.scope.names.lookup x=some .free:=hk;rw[k] at this;cases this
   .have:X.env.scope.names.lookup x=some .free:=hk;rw[k] at this;cases this
def ipI(f:Int->Int->Int):Wp:=fun x y H Q=>∃i j,x=.int i/\y=.int j/\Q (.int (f i j)) H
theorem Nn:ZM X .Add (ipI fun i j=>i+j):=by
 intro ag s σ H x y v u Q I r1 r2 h;obtain⟨i,j,e1,e2,q⟩:=h;subst e1;subst e2;obtain⟨t,rfl⟩:=r1;obtain⟨t',rfl⟩:=r2;exact iadd_int ⟨.int _,H,I.tok _,⟨_,rfl⟩,q⟩
def E4(c:TT)(tb:TS):TS:=fun D σ H=>∃W:Nat->St->Hp->Prop,(∃m,W m σ H)/\∀m σ H,W m σ H->
 c σ H fun b H1=>if b=true then ∃N:St->Hp->Prop,(∀σ' H',N σ' H'->∃m',m'<m/\W m' σ' H')/\tb { D with nx:=N,ct:=N,bk:=D.nx } σ H1 else D.nx σ H1
theorem xq(hp:PassesOwn (model X.prog X.w) X.A X.env X.xe)(hc:PT X c tc)(hb:ub X body tb):PS X (.While c body [] pos) (E4 tc tb):=by
 intro ag s σ H D I h;obtain⟨W,⟨m0,w0⟩,E5⟩:=h;refine wpAny_While (codeAny_whileLoop (fun n s'=>∃σ' H',aU X ag σ' H' s'/\W n σ' H') ?_ m0 ⟨σ,H,I,w0⟩);rintro n s1 ⟨σ1,H1,I1,w1⟩;refine lL hp (cV (hc ag s1 σ1 H1 _ I1 (E5 n σ1 H1 w1)) fun b s2 ⟨H2,I2,q2⟩=>?_);cases b with
 |true=>
  obtain⟨N,hN,q2⟩:=q2;rw[ap rfl];refine lL hp (cV (hb ag s2 σ1 H2 _ I2 q2) fun f s3 q3=>?_);cases f with
  |next=>
   obtain⟨σ3,H3,I3,n3⟩:=q3;obtain⟨m',hm,w3⟩:=hN σ3 H3 n3;exact⟨m',hm,σ3,H3,I3,w3⟩
  |cont=>
   obtain⟨σ3,H3,I3,n3⟩:=q3;obtain⟨m',hm,w3⟩:=hN σ3 H3 n3;exact⟨m',hm,σ3,H3,I3,w3⟩
  |brk=>exact q3
  |ret v=>exact q3
 |false=>
  rw[aq cF];exact re ⟨σ1,H2,I2,q2⟩
end
structure It where
 go:Nat->Hp->Prop
 No:Nat->Hp->V->Hp->Prop
 stop:Nat->Hp->Prop
def jP(X:Cx)(ag:List (Addr×Obj))(H:Hp)(b:Addr):Prop:=
 H b=none/\b≠X.env.locals/\b∉X.fs/\(b∈X.ex\/X.s₀.heap.objs.size<=b)/\(∀x c,X.env.cells.lookup x=some c->c≠b)/\∀p∈X.pn++ag,p.1≠b
theorem aU.E6(I:aU X ag σ H s)(hb:s.heap.objs.size<=b)(hn:H' b=none):jP X ag H' b:=by
 refine⟨hn,jo (cQ I.lt hb),I.Wi hb,.inr (bC I.sz hb),fun x c e z=>?_,fun p hp z=>?_⟩
 .obtain⟨v,q⟩:=I.cell x c e;exact absurd (cQ q.lt (by rw[z];exact hb)) (h_ _)
 .exact absurd (cQ (bh (I.pin p hp).1) (by rw[z];exact hb)) (h_ _)
structure z8(P:Program)(w:World)(K:PySem.W.Frag)(tg:Expr)(J:It)(fp:List Addr)(it:Addr)(tn:Nat->Heap->Prop):Prop where
 mem:it∈fp
 obj:∀i h,tn i h->∀b∈fp,∃o,h.get? b=some o/\∀v,o.data≠.cell v
 keep:∀i h h',tn i h->(∀b∈fp,∀o,h.get? b=some o->h'.get? b=some o)->tn i h'
 item:∀ (X:Cx),X.prog=P->X.w=w->X.K=K->X.calm=true->∀ (i:Nat) (ag:List (Addr×Obj)) (s:Shared) (σ:St) (H:Hp) (E:Value->Shared->Prop),aU X ag σ H s->(∀b∈fp,jP X ag H b)->tn i s.heap->J.go i H->
  wpAny (model P w) X.A (pyNext (.ref it)) (fun r s1=>∃u,r=some u/\
   wpAny (model P w) X.A (letOwnedTupleGo tg (.ref it) u) (fun _ s2=>∃x H',aU X ag σ H' s2/\bX x u/\J.No i H x H'/\tn (i+1) s2.heap/\∀b∈fp,H' b=none) E s1) E s
 done:∀ (X:Cx),X.prog=P->X.w=w->X.K=K->X.calm=true->∀ (i:Nat) (ag:List (Addr×Obj)) (s:Shared) (σ:St) (H:Hp) (E:Value->Shared->Prop),aU X ag σ H s->(∀b∈fp,jP X ag H b)->tn i s.heap->J.stop i H->
  wpAny (model P w) X.A (pyNext (.ref it)) (fun r s1=>r=none/\aU X ag σ H s1) E s
 self:∀ (A:Around) (i:Nat) (s:Shared) (Q:Value->Shared->Prop) (E:Value->Shared->Prop),tn i s.heap->Q (.ref it) s->wpAny (model P w) A (pyIter (.ref it)) Q E s
abbrev TI:=St->Hp->(It->Hp->Prop)->Prop
def ZN(X:Cx)(ag:List (Addr×Obj))(σ:St)(tg:Expr)(R:It->Hp->Prop)(Vt:Value)(s2:Shared):Prop:=
 ∃ (it:Addr) (fp:List Addr) (tn:Nat->Heap->Prop) (J:It) (H':Hp),Vt=.ref it/\aU X ag σ H' s2/\z8 X.prog X.w X.K tg J fp it tn/\tn 0 s2.heap/\(∀b∈fp,jP X ag H' b)/\R J H'
def PI(X:Cx)(tg jQ:Expr)(wi:TI):Prop:=
 ∀ (ag:List (Addr×Obj)) (s:Shared) (σ:St) (H:Hp) (R:It->Hp->Prop),aU X ag σ H s->wi σ H R->
  wpAny (model X.prog X.w) X.A (eval jQ X.env) (fun v s1=>wpAny (model X.prog X.w) X.A (pyIter v) (ZN X ag σ tg R) X.xe s1) X.xe s
theorem E7(ho:s.heap.get? it=some o)(hc:o.cls=.type n)(hd:o.data=.fields vs)(hn:["enumerate","zip","dict_itemiterator","dict_reverseitemiterator","odict_iterator","itertools.zip_longest","itertools.pairwise"].contains n=false)(hQ:Q () s):wpAny M A (letOwnedTupleGo tg (.ref it) u) Q E s:=by
 unfold letOwnedTupleGo;cases tg <;> first
  |exact wpAny_pure hQ
  |(cases u <;> first
    |exact wpAny_pure hQ
    |(refine aD (wpAny_load ho ?_);rw[hc,hd];show wpAny M A (if (["enumerate","zip","dict_itemiterator","dict_reverseitemiterator","odict_iterator","itertools.zip_longest","itertools.pairwise"].contains n&&vs[0]?==some (rawInt _))=true then _ else _) Q E s;rw[aq (by intro h;rw[hn,Bool.false_and] at h;cases h)];exact wpAny_pure hQ))
def Ey(K:PySem.W.Frag)(a:Addr):It:=
 ⟨fun i H=>∃xs x,aZ K H a xs/\xs[i]?=some x,fun i H x H'=>H'=H/\∀xs,aZ K H a xs->xs[i]?=some x,fun i H=>∃xs,aZ K H a xs/\xs.length<=i⟩
def Qr(K:PySem.W.Frag)(a:Addr):It:=
 ⟨fun i H=>∃xs x,bv K H a xs/\xs[i]?=some x,fun i H x H'=>H'=H/\∀xs,bv K H a xs->xs[i]?=some x,fun i H=>∃xs,bv K H a xs/\xs.length<=i⟩
def Ez(lo:Int)(n:Nat):It:=⟨fun i _=>i<n,fun i H x H'=>H'=H/\x=.int (lo+i),fun i _=>n<=i⟩
theorem C6{P:Program}{w:World}{K:PySem.W.Frag}{tg:Expr}(a it:Addr):z8 P w K tg (Ey K a) [it] it (fun i h=>h.IsListIter it a i) where
 mem:=by simp
 obj:=fun i h st b hb=>by
  have e:b=it:=by simpa using hb
  subst e;obtain⟨o,e,c,d⟩:=st;exact⟨o,e,fun v z=>by rw[d] at z;cases z⟩
 keep:=fun i h h' st k=>st.at fun o e=>k it (by simp) o e
 item:=by
  intro X hP hw hK hc i ag s σ H E I hf st hg;subst hP hw hK;obtain⟨xs,x,hq,hx⟩:=hg;obtain⟨its,rv,p,hz⟩:=I.list hq;obtain⟨u,hu,ru⟩:=rv.get hx;obtain⟨f0,f1,f2,f3,f4,f5⟩:=hf it (by simp);refine qS st p.isList (x:=u) (by simpa using hu) fun h' bq sb=>?_;have I1:aU X ag σ H { s with heap:=h' }:=I.turned (t':=s.toks) (fun b o hb e=>(sb.2 b hb).trans e) f0 f1 f3 f4 f5;obtain⟨o,e,c,d⟩:=id bq;exact⟨u,rfl,E7 (s:={ s with heap:=h' }) e c d (by decide) ⟨x,H,I1,ru,⟨rfl,fun ys hy=>by rw[I.E2 hy hq];exact hx⟩,bq,fun b hb=>(hf b hb).1⟩⟩
 done:=by
  intro X hP hw hK hc i ag s σ H E I hf st hg;subst hP hw hK;obtain⟨xs,hq,hx⟩:=hg;obtain⟨its,rv,p,hz⟩:=I.list hq;obtain⟨f0,f1,f2,f3,f4,f5⟩:=hf it (by simp);have hl:=rv.length;exact uZ (I.ok.hd hc) st p.isList (by simp;lia) fun h' eb=>⟨rfl,I.turned (t':=s.toks) (fun b o hb e=>eb b o hb e) f0 f1 f3 f4 f5⟩
 self:=fun _ _ _ _ _ st h=>wpAny_pyIter_listiter st h
theorem z9{P:Program}{w:World}{K:PySem.W.Frag}{tg:Expr}(a it:Addr):z8 P w K tg (Qr K a) [it] it (fun i h=>h.IsTupleIter it a i) where
 mem:=by simp
 obj:=fun i h st b hb=>by
  have e:b=it:=by simpa using hb
  subst e;obtain⟨o,e,c,d⟩:=st;exact⟨o,e,fun v z=>by rw[d] at z;cases z⟩
 keep:=fun i h h' st k=>st.at fun o e=>k it (by simp) o e
 item:=by
  intro X hP hw hK hc i ag s σ H E I hf st hg;subst hP hw hK;obtain⟨xs,x,hq,hx⟩:=hg;obtain⟨its,rv,p,hz⟩:=I.tuple hq;obtain⟨u,hu,ru⟩:=rv.get hx;obtain⟨f0,f1,f2,f3,f4,f5⟩:=hf it (by simp);refine wpAny_pyNext_tuple_item st (show s.heap.IsTuple a its.toArray from p) (x:=u) (by simpa using hu) fun h' bq sb=>?_;have I1:aU X ag σ H { s with heap:=h' }:=I.turned (t':=s.toks) (fun b o hb e=>(sb.2 b hb).trans e) f0 f1 f3 f4 f5;obtain⟨o,e,c,d⟩:=id bq;exact⟨u,rfl,E7 (s:={ s with heap:=h' }) e c d (by decide) ⟨x,H,I1,ru,⟨rfl,fun ys hy=>by rw[I.hW hy hq];exact hx⟩,bq,fun b hb=>(hf b hb).1⟩⟩
 done:=by
  intro X hP hw hK hc i ag s σ H E I hf st hg;subst hP hw hK;obtain⟨xs,hq,hx⟩:=hg;obtain⟨its,rv,p,hz⟩:=I.tuple hq;obtain⟨f0,f1,f2,f3,f4,f5⟩:=hf it (by simp);have hl:=rv.length;exact wpAny_pyNext_tuple_end (I.ok.hd hc) st (show s.heap.IsTuple a its.toArray from p) (by simp;lia) fun h' eb=>⟨rfl,I.turned (t':=s.toks) (fun b o hb e=>eb b o hb e) f0 f1 f3 f4 f5⟩
 self:=fun _ _ _ _ _ st h=>wpAny_pyIter_tupleiter st h
theorem z_{P:Program}{w:World}{K:PySem.W.Frag}{tg:Expr}(it:Addr)(lo:Int)(n:Nat):z8 P w K tg (Ez lo n) [it] it (fun i h=>IsRangeIter h it (lo+(i:Nat)*1) ((n:Int)-(i:Nat)) 1) where
 mem:=by simp
 obj:=fun i h st b hb=>by
  have e:b=it:=by simpa using hb
  subst e;exact⟨_,st,fun v z=>by
   have z':Data.fields _=Data.cell v:=z;cases z'⟩
 keep:=fun i h h' st k=>k it (by simp) _ st
 item:=by
  intro X hP hw hK hc i ag s σ H E I hf st hg;subst hP hw hK;obtain⟨f0,f1,f2,f3,f4,f5⟩:=hf it (by simp);have W:=Walks.range (prog:=X.prog) (w:=X.w) (I.ok.hd hc) it lo 1 n;refine W.item i s _ _ hg st fun v h' tk hv bq kk=>?_;obtain⟨t,rfl⟩:=hv;have I1:aU X ag σ H { s with heap:=h',toks:=tk }:=I.turned (fun b o hb e=>kk b o (by simpa using hb) e) f0 f1 f3 f4 f5;refine⟨_,rfl,E7 (s:={ s with heap:=h',toks:=tk }) (n:="range_iterator") bq rfl rfl (by decide) ⟨.int (lo+i),H,I1,⟨t,?_⟩,⟨rfl,rfl⟩,bq,fun b hb=>(hf b hb).1⟩⟩;rw[Int.mul_one]
 done:=by
  intro X hP hw hK hc i ag s σ H E I hf st hg;subst hP hw hK;obtain⟨f0,f1,f2,f3,f4,f5⟩:=hf it (by simp);exact wpAny_pyNext_range_end (I.ok.hd hc) st (by have:n<=i:=hg;lia) fun h' eb=>⟨rfl,I.turned (t':=s.toks) (fun b o hb e=>eb b o hb e) f0 f1 f3 f4 f5⟩
 self:=fun _ _ _ _ _ st h=>wpAny_pyIter_rangeiter st h
section
variable {X:Cx} {tg:Expr}
def Mf(K:PySem.W.Frag)(tl:TE):TI:=fun σ H R=>tl σ H fun x H1=>∃a,x=.ref a/\(∃xs,aZ K H1 a xs)/\R (Ey K a) H1
def Wu(K:PySem.W.Frag)(tl:TE):TI:=fun σ H R=>tl σ H fun x H1=>∃a,x=.ref a/\(∃xs,bv K H1 a xs)/\R (Qr K a) H1
theorem b9{l:Expr}{tl:TE}(hl:PE X l tl):PI X tg l (Mf X.K tl):=by
 intro ag s σ H R I h;refine cV (hl ag s σ H _ I h) fun v s1 ⟨x,H1,I1,r1,q1⟩=>?_;obtain⟨a,e,⟨xs,hq⟩,q⟩:=q1;subst e;cases r1;obtain⟨its,rv,p,hz⟩:=I1.list hq;refine n_ p.isList ?_;refine⟨s1.heap.objs.size,[s1.heap.objs.size],_,_,H1,rfl,I1.kept (t':=s1.toks) fun b o e=>bY _ e,C6 a _,⟨_,cI _ rfl,rfl,rfl⟩,fun b hb=>?_,q⟩;have e:b=s1.heap.objs.size:=by simpa using hb
 subst e;exact I1.E6 (bt _) (I1.b_.fresh (bt _))
theorem vD{l:Expr}{tl:TE}(hl:PE X l tl):PI X tg l (Wu X.K tl):=by
 intro ag s σ H R I h;refine cV (hl ag s σ H _ I h) fun v s1 ⟨x,H1,I1,r1,q1⟩=>?_;obtain⟨a,e,⟨xs,hq⟩,q⟩:=q1;subst e;cases r1;obtain⟨its,rv,p,hz⟩:=I1.tuple hq;refine zR (show s1.heap.IsTuple a its.toArray from p) ?_;refine⟨s1.heap.objs.size,[s1.heap.objs.size],_,_,H1,rfl,I1.kept (t':=s1.toks) fun b o e=>bY _ e,z9 a _,⟨_,cI _ rfl,rfl,rfl⟩,fun b hb=>?_,q⟩;have e:b=s1.heap.objs.size:=by simpa using hb
 subst e;exact I1.E6 (bt _) (I1.b_.fresh (bt _))
theorem xr{ag:List (Addr×Obj)}{σ:St}{H:Hp}{s:Shared}{R:It->Hp->Prop}{E:Value->Shared->Prop}{lo hi:Int}{t u v:Tok}{tk:Nat}(I:aU X ag σ H s)(h1:-(2 ^ 62)<=lo)(h2:lo<2 ^ 62)(h3:-(2 ^ 62)<=hi)(h4:hi<2 ^ 62)(q:R (Ez lo (hi-lo).toNat) H):wpAny (model X.prog X.w) X.A (pyIter (.ref s.heap.objs.size)) (ZN X ag σ tg R) E { s with heap:=s.heap.push { cls:=.type "range",data:=.fields #[.int lo t,.int hi u,.int 1 v] },toks:=tk }:=by
 refine wpAny_pyIter_range (IsRange.new ..) (small_one h1 h2 h3 h4) ?_;have I1:aU X ag σ H { s with heap:=s.heap.push { cls:=.type "range",data:=.fields #[.int lo t,.int hi u,.int 1 v] },toks:=tk }:=I.kept fun b o e=>bY _ e;refine⟨(s.heap.push { cls:=.type "range",data:=.fields #[.int lo t,.int hi u,.int 1 v] }).objs.size,[(s.heap.push { cls:=.type "range",data:=.fields #[.int lo t,.int hi u,.int 1 v] }).objs.size],_,_,H,rfl,
  I1.kept (t':=tk) fun b o e=>bY _ e,z_ _ lo (hi-lo).toNat,?_,fun b hb=>?_,q⟩
 .have e1:lo+((0:Nat):Int)*1=lo:=by simp
  have e2:(((hi-lo).toNat:Nat):Int)-((0:Nat):Int)=Builtin.Range.rangeSize lo hi 1:=by rw[rangeSize_one];split <;> lia
  show IsRangeIter _ _ (lo+((0:Nat):Int)*1) ((((hi-lo).toNat:Nat):Int)-((0:Nat):Int)) 1;rw[e1,e2];exact cI _ rfl
 .have e:b=(s.heap.push { cls:=.type "range",data:=.fields #[.int lo t,.int hi u,.int 1 v] }).objs.size:=by simpa using hb
  subst e;exact I1.E6 (bt _) (I1.b_.fresh (bt _))
def Rh(ta:TA):TI:=fun σ H R=>ta σ H fun vs H1=>∃j:Int,vs=[.int j]/\-(2 ^ 62)<=j/\j<2 ^ 62/\R (Ez 0 j.toNat) H1
def Ri(ta:TA):TI:=fun σ H R=>ta σ H fun vs H1=>∃i j:Int,vs=[.int i,.int j]/\(-(2 ^ 62)<=i/\i<2 ^ 62/\-(2 ^ 62)<=j/\j<2 ^ 62)/\R (Ez i (j-i).toNat) H1
theorem bi{a:Expr}{ta:TA}{p pos:Pos}(hg:Gl X "range")(hm:X.mg "range"=none)(ha:PA X [a] ta)(hs:starEach [a] X.env=[(false,eval a X.env)]:=by rfl):PI X tg (.Call (.Name "range" p) [a] [] pos) (Rh ta):=by
 intro ag s σ H R I h;refine Call_ (lT I hg hm boot_range (uS (cV (ha pos ag s σ H _ I h) fun us s1 ⟨vs,H1,I1,r1,q1⟩=>?_) hs rfl));obtain⟨j,e,q1,q2,q⟩:=q1;subst e;cases r1 with
 |cons r rr=>
  cases rr;obtain⟨t,rfl⟩:=r;exact call_range_1 (xr I1 (by lia) (by lia) q1 q2 (by simpa using q))
theorem oC(hg:Gl X "range")(hm:X.mg "range"=none)(ha:PA X [a,b] ta)(hs:starEach [a,b] X.env=[(false,eval a X.env),(false,eval b X.env)]:=by rfl)(uc:starEach [b] X.env=[(false,eval b X.env)]:=by rfl):
  PI X tg (.Call (.Name "range" p) [a,b] [] pos) (Ri ta):=by
 intro ag s σ H R I h;refine Call_ (lT I hg hm boot_range (uS (cV (ha pos ag s σ H _ I h) fun us s1 ⟨vs,H1,I1,r1,q1⟩=>?_) (by rw[hs,uc]) (by rw[uc];rfl)));obtain⟨i,j,e,⟨q1,q2,q3,q4⟩,q⟩:=q1;subst e;cases r1 with
 |cons r rr=>
  cases rr with
  |cons r' rr=>
   cases rr;obtain⟨t,rfl⟩:=r;obtain⟨t',rfl⟩:=r';exact call_range_2 (xr I1 q1 q2 q3 q4 q)
def Wv(wi:TI)(g:TG)(tb:TS):TS:=fun D σ H=>wi σ H fun J H1=>∃W:Nat->Nat->St->Hp->Prop,(∃m,W 0 m σ H1)/\∀i m σ H,W i m σ H->
 (J.stop i H/\D.nx σ H)\/(J.go i H/\∃N:St->Hp->Prop,(∀σ' H',N σ' H'->∃m',m'<m/\W (i+1) m' σ' H')/\∀x H',J.No i H x H'->g x σ H' fun σ2 H2=>tb { D with nx:=N,ct:=N,bk:=D.nx } σ2 H2)
def rC(fp:List Addr)(h:Heap):List (Addr×Obj):=fp.filterMap fun b=>(h.get? b).map fun o=>(b,o)
theorem jr(hb:b∈fp)(e:h.get? b=some o):(b,o)∈rC fp h:=lE.mpr ⟨b,hb,by rw[e];rfl⟩
theorem C7(hp:p∈rC fp h):p.1∈fp/\h.get? p.1=some p.2:=by
 obtain⟨b,hb,e⟩:=lE.mp hp;cases q:h.get? b with
 |none=>rw[q] at e;cases e
 |some o=>
  rw[q] at e;have e':(b,o)=p:=bP e;subst e';exact⟨hb,q⟩
theorem aU.pinned(I:aU X ag σ H s)(hf:∀b∈fp,jP X ag H b)(ho:∀b∈fp,∃o,s.heap.get? b=some o/\∀v,o.data≠.cell v):aU X (ag++rC fp s.heap) σ H s:=
 I.BB fun p hp=>(bS.mp hp).elim (fun z=>I.pin p (iZ _ z)) fun z=>by
  obtain⟨hb,e⟩:=C7 z;obtain⟨f0,f1,f2,_⟩:=hf p.1 hb;obtain⟨o,e',d⟩:=ho p.1 hb;rw[e] at e';cases e';exact⟨e,f0,f1,f2,d⟩
theorem aU.mJ(I:aU X (ag++pl) σ H s):aU X ag σ H s:=I.BB fun p hp=>I.pin p (iZ _ (fw _ hp))
theorem cq(hp:PassesOwn (model X.prog X.w) X.A X.env X.xe)(hc:X.calm=true)(hi:PI X tg jQ wi)(hg:PG X tg g)(hb:ub X body tb)(hs:∀x,foldedSetIterable jQ X.env x=pure x:=by intro _;rfl):PS X (.For tg jQ body [] pos) (Wv wi g tb):=by
 intro ag s σ H D I h;refine wpAny_For (cV (hi ag s σ H _ I h) fun v s1 h1=>cV h1 fun Vt s2 h2=>?_) hs;obtain⟨it,fp,tn,J,H2,e,I2,T,tG,f2,W,⟨m0,w0⟩,E5⟩:=h2;subst e;have Aa:∀ {H':Hp},(∀b∈fp,H' b=none)->∀b∈fp,jP X ag H' b:=fun hn b hb=>⟨hn b hb,(f2 b hb).2⟩
 refine codeAny_forLoop_any (fun n s'=>∃i σ' H',aU X ag σ' H' s'/\tn i s'.heap/\(∀b∈fp,H' b=none)/\W i n σ' H') ?_ m0 ⟨0,σ,H2,I2,tG,fun b hb=>(f2 b hb).1,w0⟩;rintro n s3 ⟨i,σ3,H3,I3,Ab,Np,w3⟩;rcases E5 i n σ3 H3 w3 with ⟨stop,qn⟩|⟨go,N,hN,step⟩
 .refine lL hp (cV (T.done X rfl rfl rfl hc i ag s3 σ3 H3 X.xe I3 (Aa Np) Ab stop) fun r s4 ⟨hr,I4⟩=>?_);subst hr;exact re ⟨σ3,H3,I4,qn⟩
 .refine lL hp (cV (T.item X rfl rfl rfl hc i ag s3 σ3 H3 X.xe I3 (Aa Np) Ab go) fun r s4 ⟨u,hr,h4⟩=>?_);subst hr;refine lL hp (cV h4 fun _ s5 ⟨x,H5,I5,r5,y5,xc,Ww⟩=>?_);have Wx:=I5.pinned (Aa Ww) (T.obj _ _ xc);refine lL hp (cV (hg _ s5 σ3 H5 x u _ Wx r5 (step x H5 y5)) fun _ s6 ⟨σ6,H6,I6,q6⟩=>?_);refine lL hp (cV (hb _ s6 σ6 H6 _ I6 q6) fun f s7 q7=>?_);have again:∀ {σ7:St} {H7:Hp},aU X (ag++rC fp s5.heap) σ7 H7 s7->N σ7 H7->∃m,m<n/\∃i σ' H',aU X ag σ' H' s7/\tn i s7.heap/\(∀b∈fp,H' b=none)/\W i m σ' H':=fun {σ7 H7} I7 n7=>by
   obtain⟨m',hm,w7⟩:=hN σ7 H7 n7;refine⟨m',hm,i+1,σ7,H7,I7.mJ,T.keep _ _ _ xc fun b hb o e=>(I7.pin (b,o) (iZ _ (iZ _ (jr hb e)))).1,fun b hb=>?_,w7⟩;obtain⟨o,e,d⟩:=T.obj _ _ xc b hb;exact(I7.pin (b,o) (iZ _ (iZ _ (jr hb e)))).2.1
  cases f with
  |next=>obtain⟨σ7,H7,I7,n7⟩:=q7;exact again I7 n7
  |cont=>obtain⟨σ7,H7,I7,n7⟩:=q7;exact again I7 n7
  |brk=>obtain⟨σ7,H7,I7,q7⟩:=q7;exact⟨σ7,H7,I7.mJ,q7⟩
  |ret v=>obtain⟨x7,σ7,H7,I7,r7,q7⟩:=q7;exact⟨x7,σ7,H7,I7.mJ,r7,q7⟩
end
theorem ij{K:PySem.W.Frag}{a:Addr}{xs:List V}{g:TG}{tb:TS}{D:xo}{σ:St}{H:Hp}(Pv:Nat->St->Hp->Prop)(h0:Pv 0 σ H)(hl:∀i σ H,i<=xs.length->Pv i σ H->aZ K H a xs)(hs:∀i x σ H,xs[i]?=some x->Pv i σ H->g x σ H fun σ2 H2=>tb { D with nx:=Pv (i+1),ct:=Pv (i+1),bk:=D.nx } σ2 H2)(hd:∀σ H,Pv xs.length σ H->D.nx σ H):
  ∃W:Nat->Nat->St->Hp->Prop,(∃m,W 0 m σ H)/\∀i m σ H,W i m σ H->
   ((Ey K a).stop i H/\D.nx σ H)\/((Ey K a).go i H/\∃N:St->Hp->Prop,(∀σ' H',N σ' H'->∃m',m'<m/\W (i+1) m' σ' H')/\∀x H',(Ey K a).No i H x H'->g x σ H' fun σ2 H2=>tb { D with nx:=N,ct:=N,bk:=D.nx } σ2 H2):=by
 refine⟨fun i m σ H=>m=xs.length-i/\i<=xs.length/\Pv i σ H,⟨xs.length,by simp,cM _,h0⟩,?_⟩;rintro i m σ H ⟨rfl,hi,p⟩;have q:=hl i σ H hi p;by_cases eZ:i<xs.length
 .refine .inr ⟨⟨xs,xs[i],q,by simp[eZ]⟩,Pv (i+1),fun σ' H' p'=>⟨xs.length-(i+1),by lia,rfl,eZ,p'⟩,fun x H' y=>?_⟩;obtain⟨e,y⟩:=y;subst e;exact hs i x σ _ (y xs q) p
 .have e:i=xs.length:=by lia
  subst e;exact .inl ⟨⟨xs,q,bt _⟩,hd σ H p⟩
theorem vE{K:PySem.W.Frag}{a:Addr}{xs:List V}{g:TG}{tb:TS}{D:xo}{σ:St}{H:Hp}(Pv:Nat->St->Hp->Prop)(h0:Pv 0 σ H)(hl:∀i σ H,i<=xs.length->Pv i σ H->bv K H a xs)(hs:∀i x σ H,xs[i]?=some x->Pv i σ H->g x σ H fun σ2 H2=>tb { D with nx:=Pv (i+1),ct:=Pv (i+1),bk:=D.nx } σ2 H2)(hd:∀σ H,Pv xs.length σ H->D.nx σ H):
  ∃W:Nat->Nat->St->Hp->Prop,(∃m,W 0 m σ H)/\∀i m σ H,W i m σ H->
   ((Qr K a).stop i H/\D.nx σ H)\/((Qr K a).go i H/\∃N:St->Hp->Prop,(∀σ' H',N σ' H'->∃m',m'<m/\W (i+1) m' σ' H')/\∀x H',(Qr K a).No i H x H'->g x σ H' fun σ2 H2=>tb { D with nx:=N,ct:=N,bk:=D.nx } σ2 H2):=by
 refine⟨fun i m σ H=>m=xs.length-i/\i<=xs.length/\Pv i σ H,⟨xs.length,by simp,cM _,h0⟩,?_⟩;rintro i m σ H ⟨rfl,hi,p⟩;have q:=hl i σ H hi p;by_cases eZ:i<xs.length
 .refine .inr ⟨⟨xs,xs[i],q,by simp[eZ]⟩,Pv (i+1),fun σ' H' p'=>⟨xs.length-(i+1),by lia,rfl,eZ,p'⟩,fun x H' y=>?_⟩;obtain⟨e,y⟩:=y;subst e;exact hs i x σ _ (y xs q) p
 .have e:i=xs.length:=by lia
  subst e;exact .inl ⟨⟨xs,q,bt _⟩,hd σ H p⟩
theorem ce{lo:Int}{n:Nat}{g:TG}{tb:TS}{D:xo}{σ:St}{H:Hp}(Pv:Nat->St->Hp->Prop)(h0:Pv 0 σ H)(hs:∀i σ H,i<n->Pv i σ H->g (.int (lo+i)) σ H fun σ2 H2=>tb { D with nx:=Pv (i+1),ct:=Pv (i+1),bk:=D.nx } σ2 H2)(hd:∀σ H,Pv n σ H->D.nx σ H):
  ∃W:Nat->Nat->St->Hp->Prop,(∃m,W 0 m σ H)/\∀i m σ H,W i m σ H->
   ((Ez lo n).stop i H/\D.nx σ H)\/((Ez lo n).go i H/\∃N:St->Hp->Prop,(∀σ' H',N σ' H'->∃m',m'<m/\W (i+1) m' σ' H')/\∀x H',(Ez lo n).No i H x H'->g x σ H' fun σ2 H2=>tb { D with nx:=N,ct:=N,bk:=D.nx } σ2 H2):=by
 refine⟨fun i m σ H=>m=n-i/\i<=n/\Pv i σ H,⟨n,by simp,cM _,h0⟩,?_⟩;rintro i m σ H ⟨rfl,hi,p⟩;by_cases eZ:i<n
 .refine .inr ⟨eZ,Pv (i+1),fun σ' H' p'=>⟨n-(i+1),by lia,rfl,eZ,p'⟩,fun x H' y=>?_⟩;obtain⟨e,y⟩:=y;subst e y;exact hs i σ _ eZ p
 .have e:i=n:=by lia
  subst e;exact .inl ⟨bt _,hd σ H p⟩
theorem xt(Pv:St->Hp->Prop)(μ:St->Hp->Nat)(h0:Pv σ H)(hs:∀σ H,Pv σ H->c σ H fun b H1=>if b=true then tb { D with nx:=fun σ' H'=>Pv σ' H'/\μ σ' H'<μ σ H,ct:=fun σ' H'=>Pv σ' H'/\μ σ' H'<μ σ H,bk:=D.nx } σ H1 else D.nx σ H1)(mono:∀σ H Q Q',(∀b H1,Q b H1->Q' b H1)->c σ H Q->c σ H Q'):E4 c tb D σ H:=by
 refine⟨fun m σ H=>m=μ σ H/\Pv σ H,⟨_,rfl,h0⟩,?_⟩;rintro m σ H ⟨rfl,p⟩;refine mono σ H _ _ (fun b H1 q=>?_) (hs σ H p);cases b with
 |true=>exact⟨_,fun σ' H' ⟨p',l⟩=>⟨_,l,rfl,p'⟩,q⟩
 |false=>exact q
abbrev R2:=V->V->Hp->VK->Prop
def lU(X:Cx)(f:Value->Value->Sem Value)(r:R2):Prop:=
 ∀ (ag:List (Addr×Obj)) (s:Shared) (σ:St) (H:Hp) (x y:V) (v u:Value) (Q:VK),aU X ag σ H s->bX x v->bX y u->r x y H Q->
  wpAny (model X.prog X.w) X.A (f v u) (EP X ag σ Q) X.xe s
def Wy(X:Cx)(f:Value->Sem Value)(r:V->Hp->VK->Prop):Prop:=
 ∀ (ag:List (Addr×Obj)) (s:Shared) (σ:St) (H:Hp) (x:V) (v:Value) (Q:VK),aU X ag σ H s->bX x v->r x H Q->
  wpAny (model X.prog X.w) X.A (f v) (EP X ag σ Q) X.xe s
def et(X:Cx)(f:Value)(r:List V->Hp->VK->Prop):Prop:=
 ∀ (ag:List (Addr×Obj)) (s:Shared) (σ:St) (H:Hp) (xs:List V) (us:List Value) (Q:VK),aU X ag σ H s->ba xs us->r xs H Q->
  wpAny (model X.prog X.w) X.A (call f us) (EP X ag σ Q) X.xe s
def gE(r:R2)(ta tb:TE):TE:=fun σ H Q=>ta σ H fun x H1=>tb σ H1 fun y H2=>r x y H2 Q
def ZO(r:V->Hp->VK->Prop)(ta:TE):TE:=fun σ H Q=>ta σ H fun x H1=>r x H1 Q
def rI(C:Int->Int->Prop)(g:Int->Int->V):R2:=fun x y H Q=>∃i j,x=.int i/\y=.int j/\C i j/\Q (g i j) H
def vF(g:Int->Int->V):R2:=fun x y H Q=>∃i j,x=.int i/\y=.int j/\Q (g i j) H
def rU(g:Int->V):V->Hp->VK->Prop:=fun x H Q=>∃i,x=.int i/\Q (g i) H
section
variable {X:Cx} {a b c:Expr} {ta tb tc:TE} {pos:Pos}
theorem Nq(ha:PE X a ta)(hb:PE X b tb){ag:List (Addr×Obj)}{s:Shared}{σ:St}{H:Hp}{R:V->V->Hp->Prop}(I:aU X ag σ H s)(h:ta σ H fun x H1=>tb σ H1 fun y H2=>R x y H2){Q:Value->Shared->Prop}{f:Value->Value->Sem Value}(hf:∀v u s2 x y H2,aU X ag σ H2 s2->bX x v->bX y u->R x y H2->wpAny (model X.prog X.w) X.A (f v u) Q X.xe s2):
  wpAny (model X.prog X.w) X.A (eval a X.env) (fun v s₁=>wpAny (model X.prog X.w) X.A (eval b X.env) (fun u s₂=>wpAny (model X.prog X.w) X.A (f v u) Q X.xe s₂) X.xe s₁) X.xe s:=by
 refine cV (ha ag s σ H _ I h) fun v s1 ⟨x,H1,I1,r1,q1⟩=>?_;refine cV (hb ag s1 σ H1 _ I1 q1) fun u s2 ⟨y,H2,I2,r2,q2⟩=>?_;exact hf v u s2 x y H2 I2 r1 r2 q2
theorem bj{op:Operator}{r:R2}(ho:lU X (binaryOp op) r)(ha:PE X a ta)(hb:PE X b tb):PE X (.BinOp a op b pos) (gE r ta tb):=by
 intro ag s σ H Q I h;exact wpAny_BinOp (Nq ha hb I h fun v u s2 x y H2 I2 rx ry q=>ho ag s2 σ H2 x y v u Q I2 rx ry q)
theorem Rj(ho:Wy X (unaryOp op) r)(ha:PE X a ta):PE X (.UnaryOp op a pos) (ZO r ta):=by
 intro ag s σ H Q I h;exact UnaryOp_ (cV (ha ag s σ H _ I h) fun v s1 ⟨x,H1,I1,r1,q1⟩=>ho ag s1 σ H1 x v Q I1 r1 q1)
theorem Vu{f:Value->Value->Sem Value}{C:Int->Int->Prop}{g:Int->Int->Int}(rule:∀ (i j:Int) (t u:Tok) (s:Shared) (Q:Value->Shared->Prop) (E:Value->Shared->Prop),C i j->Q (.int (g i j) s.toks) { s with toks:=s.toks+1 }->wpAny (model X.prog X.w) X.A (f (.int i t) (.int j u)) Q E s):
  lU X f (rI C fun i j=>.int (g i j)):=by
 intro ag s σ H x y v u Q I rx ry h;obtain⟨i,j,rfl,rfl,hc,q⟩:=h;obtain⟨t,rfl⟩:=rx;obtain⟨t',rfl⟩:=ry;exact rule i j t t' s _ _ hc ⟨.int (g i j),H,I.tok _,⟨_,rfl⟩,q⟩
theorem Rk{f:Value->Value->Sem Value}{g:Int->Int->Int}(rule:∀ (i j:Int) (t u:Tok) (s:Shared) (Q:Value->Shared->Prop) (E:Value->Shared->Prop),Q (.int (g i j) s.toks) { s with toks:=s.toks+1 }->wpAny (model X.prog X.w) X.A (f (.int i t) (.int j u)) Q E s):
  lU X f (vF fun i j=>.int (g i j)):=by
 intro ag s σ H x y v u Q I rx ry h;obtain⟨i,j,rfl,rfl,q⟩:=h;obtain⟨t,rfl⟩:=rx;obtain⟨t',rfl⟩:=ry;exact rule i j t t' s _ _ ⟨.int (g i j),H,I.tok _,⟨_,rfl⟩,q⟩
theorem Nr{f:Value->Value->Sem Value}{g:Int->Int->Bool}(rule:∀ (i j:Int) (t u:Tok) (s:Shared) (Q:Value->Shared->Prop) (E:Value->Shared->Prop),Q (.bool (g i j)) s->wpAny (model X.prog X.w) X.A (f (.int i t) (.int j u)) Q E s):
  lU X f (vF fun i j=>.bl (g i j)):=by
 intro ag s σ H x y v u Q I rx ry h;obtain⟨i,j,rfl,rfl,q⟩:=h;obtain⟨t,rfl⟩:=rx;obtain⟨t',rfl⟩:=ry;exact rule i j t t' s _ _ ⟨.bl (g i j),H,I,rfl,q⟩
def Nt(i j:Int):Prop:=0<j/\j<1073741824
def Rl(i j:Int):Prop:=0<=j/\j<=1000000/\i.natAbs<2 ^ 64
def Jh(i j:Int):Prop:=(-(2 ^ 64)<i/\i<2 ^ 64)\/(-(2 ^ 64)<j/\j<2 ^ 64)
theorem Jh.ok(h:Jh i j):IntMulOk i j:=by
 rcases h with ⟨h1,h2⟩|⟨h1,h2⟩
 .exact .of_left (intBits_le_64 h1 h2)
 .exact .of_right (intBits_le_64 h1 h2)
theorem dv:lU X (binaryOp .Add) (vF fun i j=>.int (i+j)):=Rk fun _ _ _ _ _ _ _ q=>add_int q
theorem oE:lU X (binaryOp .Sub) (vF fun i j=>.int (i-j)):=Rk fun _ _ _ _ _ _ _ q=>sub_int q
theorem jt:lU X (binaryOp .Mult) (rI Jh fun i j=>.int (i*j)):=Vu fun _ _ _ _ _ _ _ hc q=>mul_int q hc.ok
theorem vG:lU X (binaryOp .FloorDiv) (rI Nt fun i j=>.int (i / j)):=Vu fun i j _ _ _ _ _ hc q=>by
 have h1:(0:Int)<j:=hc.1;have h2:j<1073741824:=hc.2;exact floordiv_int (by lia) (by rw[EQ i (by lia)];exact q) (.inl (PyProof.noPylong_small (by lia)))
theorem ik:lU X (binaryOp .Mod) (rI (fun _ j=>0<j) fun i j=>.int (i % j)):=Vu fun i j _ _ _ _ _ hc q=>by
 have h1:(0:Int)<j:=hc;exact mod_int' (by lia) (by rw[yZ i (by lia)];exact q)
theorem Ac:lU X (binaryOp .Pow) (rI Rl fun i j=>.int (i ^ j.toNat)):=Vu fun _ _ _ _ _ _ _ hc q=>pow_int_small hc.1 hc.2.1 hc.2.2 q
theorem unI{f:Value->Sem Value}{g:Int->Int}(rule:∀ (i:Int) (t:Tok) (s:Shared) (Q:Value->Shared->Prop) (E:Value->Shared->Prop),Q (.int (g i) s.toks) { s with toks:=s.toks+1 }->wpAny (model X.prog X.w) X.A (f (.int i t)) Q E s):
  Wy X f (rU fun i=>.int (g i)):=by
 intro ag s σ H x v Q I rx h;obtain⟨i,rfl,q⟩:=h;obtain⟨t,rfl⟩:=rx;exact rule i t s _ _ ⟨.int (g i),H,I.tok _,⟨_,rfl⟩,q⟩
theorem Nu:Wy X (unaryOp .USub) (rU fun i=>.int (-i)):=unI fun _ _ _ _ _ q=>neg_int q
end
def Nv:V->V->Bool
 |.bD,.bD=>true|.bD,.int _=>true|.int _,.bD=>true|.bD,.bl _=>true|.bl _,.bD=>true|.bD,.str _=>true|.str _,.bD=>true
 |.int _,.int _=>true|.bl _,.bl _=>true|.str _,.str _=>true|.Ew _,.Ew _=>true
 |.int _,.str _=>true|.str _,.int _=>true|.bl _,.str _=>true|.str _,.bl _=>true
 |_,_=>false
def Rm:R2:=fun x y H Q=>Nv x y=true/\Q (.bl (decide (x=y))) H
def ZP:R2:=fun x y H Q=>Nv x y=true/\Q (.bl (!decide (x=y))) H
theorem BI:decide (V.int i=V.int j)=(i==j):=by
 rw[jJ];simp
theorem E8:decide (V.bl i=V.bl j)=(i==j):=by
 rw[jJ];simp
theorem BJ:decide (V.str i=V.str j)=(i==j):=by
 rw[jJ];simp
theorem BK:decide (V.Ew i=V.Ew j)=(i.toList==j.toList):=by
 rw[jJ];cases i;cases j;simp
section
variable {X:Cx} {a b c:Expr} {ta tb tc:TE} {pos:Pos}
theorem bT(I:aU X ag σ H s)(q:Q (.bl k) H)(e:k=k'):EP X ag σ Q (.bool k') s:=by
 subst e;exact⟨.bl k,H,I,rfl,q⟩
theorem dY:lU X (compareOp .Eq) Rm:=by
 intro ag s σ H x y v u Q I rx ry h;obtain⟨hs,q⟩:=h;cases x with
 |bD=>
  cases rx;cases y with
  |bD=>cases ry;exact PySem.EqNone.eq_none_none (bT I q (by simp))
  |bl j=>cases ry;exact PySem.EqNone.eq_none_bool (bT I q (by simp))
  |int j=>obtain⟨t',rfl⟩:=ry;exact PySem.EqNone.eq_none_int (bT I q (by simp))
  |str j=>obtain⟨t',rfl⟩:=ry;exact PySem.EqNone.eq_none_str (bT I q (by simp))
  |_=>exact absurd (show false=true from hs) cF
 |bl i=>
  cases rx;cases y with
  |bD=>cases ry;exact PySem.EqNone.eq_bool_none (bT I q (by simp))
  |bl j=>cases ry;exact eq_bool (bT I q E8)
  |str j=>obtain⟨t',rfl⟩:=ry;exact PySem.EqMixed.eq_bool_str (bT I q (by simp))
  |_=>exact absurd (show false=true from hs) cF
 |int i=>
  obtain⟨t,rfl⟩:=rx;cases y with
  |bD=>cases ry;exact PySem.EqNone.eq_int_none (bT I q (by simp))
  |int j=>obtain⟨t',rfl⟩:=ry;exact eq_int (bT I q BI)
  |str j=>obtain⟨t',rfl⟩:=ry;exact PySem.EqMixed.eq_int_str (bT I q (by simp))
  |_=>exact absurd (show false=true from hs) cF
 |str i=>
  obtain⟨t,rfl⟩:=rx;cases y with
  |bD=>cases ry;exact PySem.EqNone.eq_str_none (bT I q (by simp))
  |bl j=>cases ry;exact PySem.EqMixed.eq_str_bool (bT I q (by simp))
  |int j=>obtain⟨t',rfl⟩:=ry;exact PySem.EqMixed.eq_str_int (bT I q (by simp))
  |str j=>obtain⟨t',rfl⟩:=ry;exact eq_str (bT I q BJ)
  |_=>exact absurd (show false=true from hs) cF
 |Ew i=>
  obtain⟨t,rfl⟩:=rx;cases y with
  |Ew j=>obtain⟨t',rfl⟩:=ry;exact PySem.W.eq_bytes (bT I q BK)
  |_=>exact absurd (show false=true from hs) cF
 |_=>cases y <;> exact absurd (show false=true from hs) cF
theorem pL:lU X (compareOp .NotEq) ZP:=by
 intro ag s σ H x y v u Q I rx ry h;obtain⟨hs,q⟩:=h;cases x with
 |bD=>
  cases rx;cases y with
  |bD=>cases ry;exact PySem.EqNone.ne_none_none (bT I q (by simp))
  |bl j=>cases ry;exact PySem.EqNone.ne_none_bool (bT I q (by simp))
  |int j=>obtain⟨t',rfl⟩:=ry;exact PySem.EqNone.ne_none_int (bT I q (by simp))
  |str j=>obtain⟨t',rfl⟩:=ry;exact PySem.EqNone.ne_none_str (bT I q (by simp))
  |_=>exact absurd (show false=true from hs) cF
 |bl i=>
  cases rx;cases y with
  |bD=>cases ry;exact PySem.EqNone.ne_bool_none (bT I q (by simp))
  |bl j=>cases ry;exact ne_bool (bT I q (congrArg not E8))
  |str j=>obtain⟨t',rfl⟩:=ry;exact PySem.EqMixed.ne_bool_str (bT I q (by simp))
  |_=>exact absurd (show false=true from hs) cF
 |int i=>
  obtain⟨t,rfl⟩:=rx;cases y with
  |bD=>cases ry;exact PySem.EqNone.ne_int_none (bT I q (by simp))
  |int j=>obtain⟨t',rfl⟩:=ry;exact ne_int (bT I q (congrArg not BI))
  |str j=>obtain⟨t',rfl⟩:=ry;exact PySem.EqMixed.ne_int_str (bT I q (by simp))
  |_=>exact absurd (show false=true from hs) cF
 |str i=>
  obtain⟨t,rfl⟩:=rx;cases y with
  |bD=>cases ry;exact PySem.EqNone.ne_str_none (bT I q (by simp))
  |bl j=>cases ry;exact PySem.EqMixed.ne_str_bool (bT I q (by simp))
  |int j=>obtain⟨t',rfl⟩:=ry;exact PySem.EqMixed.ne_str_int (bT I q (by simp))
  |str j=>obtain⟨t',rfl⟩:=ry;exact ne_str (bT I q (congrArg not BJ))
  |_=>exact absurd (show false=true from hs) cF
 |Ew i=>
  obtain⟨t,rfl⟩:=rx;cases y with
  |Ew j=>obtain⟨t',rfl⟩:=ry;exact PySem.W.ne_bytes (bT I q (congrArg not BK))
  |_=>exact absurd (show false=true from hs) cF
 |_=>cases y <;> exact absurd (show false=true from hs) cF
theorem kn:lU X (compareOp .Lt) (vF fun i j=>.bl (decide (i<j))):=Nr fun _ _ _ _ _ _ _ q=>lt_int q
theorem E9:lU X (compareOp .LtE) (vF fun i j=>.bl (decide (i<=j))):=Nr fun _ _ _ _ _ _ _ q=>le_int q
theorem BL:lU X (compareOp .Gt) (vF fun i j=>.bl (decide (j<i))):=Nr fun _ _ _ _ _ _ _ q=>gt_int q
theorem oF:lU X (compareOp .Is) (fun x y H Q=>y=.bD/\Q (.bl (decide (x=.bD))) H):=by
 intro ag s σ H x y v u Q I rx ry h;obtain⟨rfl,q⟩:=h;cases ry;refine is_none_gen (bT I q ?_);cases x <;> first
  |(cases rx;rfl)
  |(obtain⟨t,rfl⟩:=rx;rfl)
theorem ju:lU X (compareOp .IsNot) (fun x y H Q=>y=.bD/\Q (.bl (!decide (x=.bD))) H):=by
 intro ag s σ H x y v u Q I rx ry h;obtain⟨rfl,q⟩:=h;cases ry;refine isnot_none_gen (bT I q ?_);cases x <;> first
  |(cases rx;rfl)
  |(obtain⟨t,rfl⟩:=rx;rfl)
theorem aN(b:Expr)(h:op≠.In:=by decide)(h2:op≠.NotIn:=by decide):behindInMarks op b=false:=by
 have e1:(op==CmpOp.In)=false:=by cases op <;> first|rfl|exact absurd rfl h
 have e2:(op==CmpOp.NotIn)=false:=by cases op <;> first|rfl|exact absurd rfl h2
 cases b <;> simp[behindInMarks,e1,e2]
theorem iG(ho:lU X (compareOp op) r)(ha:PE X a ta)(hb:PE X b tb)(hm:behindInMarks op b=false):PE X (.Compare a [op] [b] pos) (gE r ta tb):=by
 intro ag s σ H Q I h;exact wpAny_Compare1 (Nq ha hb I h fun v u s2 x y H2 I2 rx ry q=>ho ag s2 σ H2 x y v u Q I2 rx ry q) hm
def i6(t:TE):TT:=fun σ H Q=>t σ H fun x H'=>∃k,x=.bl k/\Q k H'
theorem aI(ho:lU X (compareOp op) r)(ha:PE X a ta)(hb:PE X b tb)(hm:behindInMarks op b=false):PT X (.Compare a [op] [b] pos) (i6 (gE r ta tb)):=by
 intro ag s σ H Q I h;refine wpAny_isTrue_Compare1 (cV (ha ag s σ H _ I h) fun v s1 ⟨x,H1,I1,r1,q1⟩=>cV (hb ag s1 σ H1 _ I1 q1) fun u s2 ⟨y,H2,I2,r2,q2⟩=>
  cV (ho ag s2 σ H2 x y v u _ I2 r1 r2 q2) fun c s3 ⟨z,H3,I3,r3,k,e,q3⟩=>?_) hm
 subst e;cases r3;exact lG ⟨H3,I3,q3⟩
def Nw(r r':R2)(ta tb tc:TE):TE:=fun σ H Q=>ta σ H fun x H1=>tb σ H1 fun y H2=>r x y H2 fun z H3=>∃k,z=.bl k/\
 (if k=true then tc σ H3 fun w' H4=>r' y w' H4 Q else Q (.bl false) H3)
theorem E_(ho:lU X (compareOp op) r)(xb:lU X (compareOp ZQ) r')(ha:PE X a ta)(hb:PE X b tb)(hc:PE X c tc)(hm:lastMarks [op,ZQ] [b,c]=false:=by with_unfolding_all rfl):PE X (.Compare a [op,ZQ] [b,c] pos) (Nw r r' ta tb tc):=by
 intro ag s σ H Q I h;refine Compare_chain (cV (ha ag s σ H _ I h) fun v s1 ⟨x,H1,I1,r1,q1⟩=>chain_link (cV (hb ag s1 σ H1 _ I1 q1) fun u s2 ⟨y,H2,I2,r2,q2⟩=>
  cV (ho ag s2 σ H2 x y v u _ I2 r1 r2 q2) fun d s3 ⟨z,H3,I3,r3,k,e,q3⟩=>?_)) hm
 subst e;cases r3;refine lG ?_;cases k with
 |false=>exact ite_ff ⟨.bl false,H3,I3,rfl,q3⟩
 |true=>exact ite_tt (chain_last (cV (hc ag s3 σ H3 _ I3 q3) fun w' s4 ⟨z',H4,I4,r4,q4⟩=>xb ag s4 σ H4 y z' u w' Q I4 r2 r4 q4))
theorem vH:(sizeLine:Nat)<2 ^ 63:=by rw[j9];decide
theorem BM(r:ba [x] us):∃u,us=[u]/\bX x u:=by
 cases r with
 |cons r1 r2=>cases r2;exact⟨_,rfl,r1⟩
theorem Fa(r:ba [x,y] us):∃u w',us=[u,w']/\bX x u/\bX y w':=by
 cases r with
 |cons r1 r2=>
  cases r2 with
  |cons r3 r4=>cases r4;exact⟨_,_,rfl,r1,r3⟩
theorem Fc:et X (.builtin "abs") (fun xs H Q=>∃i,xs=[.int i]/\Q (.int (if i<0 then -i else i)) H):=by
 intro ag s σ H xs us Q I r h;obtain⟨i,rfl,q⟩:=h;obtain⟨u,rfl,t,rfl⟩:=BM r;exact call_abs_int fun u tk=>⟨.int (if i<0 then -i else i),H,I.tok _,⟨_,rfl⟩,q⟩
theorem oG(hc:X.calm=true):et X (.builtin "max") (fun xs H Q=>∃i j,xs=[.int i,.int j]/\Q (.int (if j > i then j else i)) H):=by
 intro ag s σ H xs us Q I r h;obtain⟨i,j,rfl,q⟩:=h;obtain⟨u,w',rfl,⟨t,rfl⟩,⟨t',rfl⟩⟩:=Fa r;refine max_two_ints (I.ok.hd hc) fun h' tk k=>⟨_,H,I.kept k,?_,q⟩
 by_cases hj:j > i
 .rw[ap hj,ap hj];exact⟨_,rfl⟩
 .rw[aq hj,aq hj];exact⟨_,rfl⟩
theorem ud(hc:X.calm=true):et X (.builtin "min") (fun xs H Q=>∃i j,xs=[.int i,.int j]/\Q (.int (if j<i then j else i)) H):=by
 intro ag s σ H xs us Q I r h;obtain⟨i,j,rfl,q⟩:=h;obtain⟨u,w',rfl,⟨t,rfl⟩,⟨t',rfl⟩⟩:=Fa r;refine min_two_ints (I.ok.hd hc) fun h' tk k=>⟨_,H,I.kept k,?_,q⟩
 by_cases hj:j<i
 .rw[ap hj,ap hj];exact⟨_,rfl⟩
 .rw[aq hj,aq hj];exact⟨_,rfl⟩
theorem xu:et X (.builtin "divmod") (fun xs H Q=>∃i j,xs=[.int i,.int j]/\Nt i j/\∀p,H p=none->Q (.ref p) (upd H p (.tup [.int (i / j),.int (i % j)]))):=by
 intro ag s σ H xs us Q I r h;obtain⟨i,j,rfl,⟨h1,h2⟩,q⟩:=h;obtain⟨u,w',rfl,⟨t,rfl⟩,⟨t',rfl⟩⟩:=Fa r;refine divmod_int (by lia) ?_ (.inl (PyProof.noPylong_small (by lia)));rw[EQ i (by lia),yZ i (by lia)];have hn:H s.heap.objs.size=none:=I.b_.fresh (bt _);refine⟨.ref s.heap.objs.size,_,?_,rfl,q _ hn⟩;refine I.laid (fun b o e=>bY _ e) (bt _) ⟨by simp only[dz,List.length_nil];rw[j9];decide,[.int (i / j) s.toks,.int (i % j) (s.toks+1)],.cons ⟨_,rfl⟩ (.cons ⟨_,rfl⟩ .nil),?_⟩;exact⟨_,cI s.heap rfl,rfl,0,rfl,rfl⟩
end
structure Ad(h:Heap)(x dx C:Addr)(mA:Str->Option Value):Prop where
 obj:h.get? x=some (PySem.W.instObj C dx)
 ns:h.Ns1 dx mA
 ne:dx≠x
theorem C8{h:Heap}{dx:Addr}{mA:Str->Option Value}(n:h.Ns1 dx mA):∃od,h.get? dx=some od/\∀name,PySem.W.lookIn name od=some (mA name):=by
 obtain⟨o,es,ep,ho,hd,hk,_,hm⟩:=n;refine⟨o,ho,fun name=>?_⟩;have e:=hm name;unfold nsFind findBy at e;rw[<-Array.find?_toList] at e;unfold PySem.W.lookIn;rw[hd];dsimp only;split
 .rename_i y q;rw[q] at e;exact congrArg some e
 .rename_i q;rw[q] at e;have a:es.toList.any (·.refKey)=false:=by
   rw[zL];intro y hy;obtain⟨z,t,tH⟩:=hk y (Array.mem_toList_iff.mp hy);simp[DictEntry.refKey,tH]
  have a':¬ es.toList.any (·.refKey)=true:=by rw[a];exact cF
  rw[aq a'];exact congrArg some e
theorem Ad.look(I:Ad h x dx C mA):∃od,PySem.W.InstAt h x (PySem.W.instObj C dx) C (some od)/\∀name,PySem.W.lookIn name od=some (mA name):=
 let ⟨od,ho,hl⟩:=C8 I.ns
 ⟨od,⟨I.obj,rfl,rfl,ho⟩,hl⟩
section
variable {prog:Program} {w:World} {A:Around} {E:Value->Shared->Prop} {s:Shared} {K:PySem.W.Frag} {x dx C f:Addr} {mA:Str->Option Value} {name:Str} {v:Value}
theorem Ji(X:K.In s.heap)(I:Ad s.heap x dx C mA)(hg:PySem.W.plainGet K C name=true)(hh:PySem.W.hasDictIn K C=true)(ha:PySem.W.findIn K (.ref C) name=some none)(hv:mA name=some v)(Ae:PySem.W.handedIn v=true)(h:Q v { s with toks:=s.toks+1 }):
  wpAny (model prog w) A (getAttr (.ref x) name Jj) Q E s:=by
 obtain⟨od,J,hl⟩:=I.look;exact PySem.W.get_value X J (zo hg).1 (PySem.W.findObj_own hh ha rfl (by rw[hl,hv])) Ae h
theorem Fd(X:K.In s.heap)(I:Ad s.heap x dx C mA)(hg:PySem.W.plainGet K C name=true)(hf:PySem.W.findIn K (.ref C) name=some (some (.ref f)))(ht:PySem.W.isFn K (.ref f)=true)(hv:mA name=none)(h:Q (.ref f,[.ref x]) s):
  wpAny (model prog w) A (getMethod (.ref x) name pl) Q E s:=by
 obtain⟨od,J,hl⟩:=I.look;exact PySem.W.method_fn X J (zo hg).1 (zo hg).2 hf (ff.mp ht) (by show (PySem.W.lookIn name od).map (·.isSome)=some false;rw[hl,hv];rfl) h
theorem Jk(X:K.In s.heap)(I:Ad s.heap x dx C mA)(hs:PySem.W.findIn K (.ref C) "__setattr__"=some (some (.builtin "object.__setattr__")))(hp:PySem.W.plainOver K C=true)(ht:PySem.W.takerIn K C name=some none)(hh:PySem.W.hasDictIn K C=true)(hw:PySem.Within mA ns)(lc:ns.length<=sizeLine)(h:∀h',Ad h' x dx C (fun y=>if y=name then some v else mA y)->Heap.SameBut dx s.heap h'->Q () { s with heap:=h',toks:=s.toks+2 }):
  wpAny (model prog w) A (setAttr (.ref x) name v) Q E s:=by
 obtain⟨od,J,hl⟩:=I.look;refine PySem.W.set_plain X J hs (PySem.W.osa_open (s:={ s with toks:=s.toks+1 }) (r:=none) X J hp ht fun b=>?_);obtain⟨cd,hc,Q5⟩:=PySem.W.any_some hh;have hx:s.heap.get? x=some ⟨.ref C,some dx,.plain,#[]⟩:=I.obj;refine aD (wpAny_pure (aD (aD (wpAny_loadPart hx (aD (PySem.W.Looks.here (s:={ s with toks:=s.toks+1 }) (PySem.W.looks_clsIn X hc) ?_))))));rw[Q5];refine wpAny_pure (a:=some dx) (aD (wpAny_pure (aD ?_)));refine wpAny_nsSet1 (s:={ s with toks:=s.toks+1 }) I.ns fun h' Qs uc=>?_;obtain⟨oD,esD,epD,hoD,Rn,Jl⟩:=Qs.count (PySem.Within.cons name v hw);refine aD (wpAny_lookBehind hoD (by rw[Rn];exact pastItsLine_dict (bC Jl (by rw[dz];lia))) ?_);exact wpAny_pure (h _ ⟨(uc.2 _ (fE I.ne)).trans I.obj,Qs,I.ne⟩ uc)
theorem Fe(X:K.In s.heap)(hm:PySem.W.makesIn K C=true)(hi:PySem.W.findIn K (.ref C) "__init__"=some (some (.ref f)))(hf:PySem.W.typeIn K (.ref f)=some (.type "function"))(h:codeAny (model prog w) (A.under (.builtin "type.__call__" ⟨.ref C::vs,kw⟩)) (.call (.ref f) ⟨.ref (s.heap.objs.size+1)::vs,kw⟩) (PySem.W.InitBack (s.heap.objs.size+1) R)
   { s with heap:=(s.heap.push PySem.W.emptyDict).push (PySem.W.instObj C s.heap.objs.size) }):
  codeAny (model prog w) A (.call (.ref C) ⟨vs,kw⟩) R s:=by
 obtain⟨hh,g,d,t,os⟩:=s;exact PySem.W.make_core (PySem.W.makes_of X hm) (PySem.W.looks_findIn X hi) (fun self=>PySem.W.bind_fn X self hf) (.inl rfl) h
end
def dM(f:Str)(v:V):List (Str×V)->List (Str×V)
 |[]=>[(f,v)]
 |(g,x)::r=>if g=f then (g,v)::r else (g,x)::dM f v r
theorem bR(f g:Str)(v:V):∀fs:List (Str×V),(dM f v fs).lookup g=if g=f then some v else fs.lookup g
 |[]=>by
  show List.lookup g [(f,v)]=_;by_cases h:g=f
  .have hb:(g==f)=true:=ff.mpr h;simp only[List.lookup,hb,ap h]
  .have hb:(g==f)=false:=jV.mpr h;simp only[List.lookup,hb,aq h]
 |(k,x)::r=>by
  have ih:=bR f g v r;rw[show dM f v ((k,x)::r)=(if k=f then (k,v)::r else (k,x)::dM f v r) from rfl];by_cases hk:k=f
  .rw[ap hk];by_cases h:g=k
   .have hb:(g==k)=true:=ff.mpr h;simp only[List.lookup,hb,ap (h.trans hk)]
   .have hb:(g==k)=false:=jV.mpr h;simp only[List.lookup,hb,aq (fun e:g=f=>h (e.trans hk.symm))]
  .rw[aq hk];by_cases h:g=k
   .have hb:(g==k)=true:=ff.mpr h;simp only[List.lookup,hb,aq (fun e:g=f=>hk (h.symm.trans e))]
   .have hb:(g==k)=false:=jV.mpr h;simp only[List.lookup,hb];exact ih
theorem oH(f:Str)(v:V):∀fs:List (Str×V),f∈(dM f v fs).map (·.1)/\∀g,g∈fs.map (·.1)->g∈(dM f v fs).map (·.1)
 |[]=>⟨by simp[dM],fun g h=>by simp at h⟩
 |(k,x)::r=>by
  obtain⟨i1,i2⟩:=oH f v r;rw[show dM f v ((k,x)::r)=(if k=f then (k,v)::r else (k,x)::dM f v r) from rfl];by_cases hk:k=f
  .rw[ap hk];subst hk;exact⟨by simp,fun g h=>by simpa using h⟩
  .rw[aq hk];refine⟨?_,fun g h=>?_⟩
   .rw[fu];exact cX _ i1
   .rw[fu] at h |-;rcases bK.mp h with e|e
    .exact bK.mpr (.inl e)
    .exact cX _ (i2 g e)
theorem eA(f:Str)(v:V):∀fs:List (Str×V),(dM f v fs).length<=fs.length+1
 |[]=>by simp[dM]
 |(k,x)::r=>by
  have ih:=eA f v r;rw[show dM f v ((k,x)::r)=(if k=f then (k,v)::r else (k,x)::dM f v r) from rfl];by_cases hk:k=f
  .rw[ap hk,dz,dz];lia
  .rw[aq hk,dz,dz];lia
theorem mD.some_of(r:mD (some v) o):∃u,o=some u/\bX v u:=by
 cases o with
 |none=>exact(show False from r).elim
 |some u=>exact⟨u,rfl,r⟩
theorem mD.none_of(r:mD none o):o=none:=by
 cases o with
 |none=>rfl
 |some u=>exact(show False from r).elim
theorem C9(r:bX v u):PySem.W.handedIn u=true:=by
 cases v with
 |bD=>cases (show u=Value.none from r);rfl
 |bl b=>cases (show u=Value.bool b from r);rfl
 |int i=>obtain⟨t,e⟩:=(show ∃t,u=Value.int i t from r);cases e;rfl
 |str x=>obtain⟨t,e⟩:=(show ∃t,u=Value.str x t from r);cases e;rfl
 |Ew b=>obtain⟨t,e⟩:=(show ∃t,u=Value.bytes b t from r);cases e;rfl
 |M7 b=>obtain⟨t,e⟩:=(show ∃t,u=Value.float b t from r);cases e;rfl
 |ref a=>cases (show u=Value.ref a from r);rfl
 |ty n=>cases (show u=Value.type n from r);rfl
section
variable {P:Program} {w:World} {H H':Hp} {h h':Heap} {a C dx:Addr} {fs Je:List (Str×V)}
theorem qA(b_:jR P w H h)(e:H a=some (.ins C dx fs)):∃mA,Ad h a dx C mA/\(∀f,mD (fs.lookup f) (mA f))/\PySem.Within mA (fs.map (·.1))/\fs.length<=1000/\H dx=some (.own a):=by
 obtain⟨d,z,ne,ob,mA,n,r,q⟩:=(show cu P w H h a (.ins C dx fs) from b_ a _ e)
 exact⟨mA,⟨ob,n,ne⟩,r,q,z,d⟩
end
structure Ff(K:PySem.W.Frag)(C:Addr):Prop where
 pg:PySem.W.plainGet K C Str.empty=true
 hd:PySem.W.hasDictIn K C=true
 po:PySem.W.plainOver K C=true
 sa:PySem.W.findIn K (.ref C) "__setattr__"=some (some (.builtin "object.__setattr__"))
theorem Ff.get{K:PySem.W.Frag}{C:Addr}(c:Ff K C)(f:Str):PySem.W.plainGet K C f=true:=c.pg
def iT(K:PySem.W.Frag)(C:Addr)(f:Str):Prop:=PySem.W.findIn K (.ref C) f=some none
theorem iT.Ro{K:PySem.W.Frag}{C:Addr}{f:Str}(n:iT K C f):PySem.W.takerIn K C f=some none:=by
 unfold PySem.W.takerIn;rw[show PySem.W.findIn K (.ref C) f=some none from n];rfl
structure Jm(K:PySem.W.Frag)(C:Addr)(m:Str)(f:Addr):Prop where
 at_:PySem.W.findIn K (.ref C) m=some (some (.ref f))
 fn:PySem.W.isFn K (.ref f)=true
 kp:PySem.W.keepIn K (.ref f)=true
section
variable {X:Cx} {ag:List (Addr×Obj)} {σ:St} {H:Hp} {s:Shared} {a C dx:Addr} {fs:List (Str×V)} {f:Str} {v:V} {A:Around} {E:Value->Shared->Prop}
theorem Af(I:aU X ag σ H s)(e:H a=some (.ins C dx fs))(c:Ff X.K C)(n:iT X.K C f)(l:fs.lookup f=some v)(h:∀u s',aU X ag σ H s'->bX v u->Q u s'):wpAny (model X.prog X.w) A (getAttr (.ref a) f b) Q E s:=by
 obtain⟨mA,O,r,_,_,_⟩:=qA I.b_ e;obtain⟨u,hu,ru⟩:=mD.some_of (v:=v) (o:=mA f) (by rw[<-l];exact r f);exact Ji I.mj O (c.get f) c.hd n hu (C9 ru) (h u _ (I.tok _) ru)
theorem rD(I:aU X ag σ H s)(e:H a=some (.ins C dx fs))(c:Ff X.K C)(k:Jm X.K C m g)(l:fs.lookup m=none)(h:Q (.ref g,[.ref a]) s):wpAny (model X.prog X.w) A (getMethod (.ref a) m pl) Q E s:=by
 obtain⟨mA,O,r,_,_,_⟩:=qA I.b_ e;have hn:mA m=none:=mD.none_of (by rw[<-l];exact r m);exact Fd I.mj O (c.get m) k.at_ k.fn hn h
theorem Ag(I:aU X ag σ H s)(e:H a=some (.ins C dx fs))(c:Ff X.K C)(n:iT X.K C f)(hl:fs.length<1000)(ry:bX y u)(h:∀s',aU X ag σ (upd H a (.ins C dx (dM f y fs))) s'->Q () s'):wpAny (model X.prog X.w) A (setAttr (.ref a) f u) Q E s:=by
 obtain⟨mA,O,r,wi,_,ho⟩:=qA I.b_ e;have hz:(fs.map (·.1)).length<=sizeLine:=by rw[aP,j9];lia
 refine Jk I.mj O c.sa c.po n.Ro c.hd wi hz fun h' O' sb=>h _ ?_;have hd:∃o,h'.get? dx=some o:=let ⟨o,_,_,e',_⟩:=O'.ns;⟨o,e'⟩;refine I.write (x:=a) (e:=dx) (by rw[e];exact True.intro) (.inr ho) (fun b q hb z=>(sb.2 b hb).trans z) hd ?_;refine⟨by rw[am O.ne];exact ho,?_,O.ne,O'.obj,_,O'.ns,fun g=>?_,fun g hg=>?_⟩
 .have:=eA f y fs;lia
 .show mD ((dM f y fs).lookup g) (if g=f then some u else mA g);rw[bR];by_cases q:g=f
  .rw[ap q,ap q];exact ry
  .rw[aq q,aq q];exact r g
 .by_cases q:g=f
  .rw[q];exact(oH f y fs).1
  .refine(oH f y fs).2 g (wi g fun z=>hg ?_);show (if g=f then some u else mA g)=none;rw[aq q];exact z
theorem aU.made(I:aU X ag σ H s):aU X ag σ (upd (upd H s.heap.objs.size (.own (s.heap.objs.size+1))) (s.heap.objs.size+1) (.ins C s.heap.objs.size []))
  { s with heap:=(s.heap.push PySem.W.emptyDict).push (PySem.W.instObj C s.heap.objs.size) }:=by
 have e1:(s.heap.push PySem.W.emptyDict).get? s.heap.objs.size=some PySem.W.emptyDict:=cI s.heap rfl;have e2:((s.heap.push PySem.W.emptyDict).push (PySem.W.instObj C s.heap.objs.size)).get? (s.heap.objs.size+1)=some (PySem.W.instObj C s.heap.objs.size):=by
  have:=cI (s.heap.push PySem.W.emptyDict) (o:=PySem.W.instObj C s.heap.objs.size) rfl;rwa [jK] at this
 have e3:(s.heap.push PySem.W.emptyDict).Ns s.heap.objs.size (fun _=>none):=⟨PySem.W.emptyDict,#[],_,e1,rfl,(fun e he=>absurd he (by simp)),fun _=>rfl⟩
 have I1:=I.laid (a:=s.heap.objs.size) (o:=.own (s.heap.objs.size+1)) (h':=s.heap.push PySem.W.emptyDict) (t':=s.toks) (fun b u q=>bY _ q) (bt _) ⟨_,e1⟩;refine I1.laid (a:=s.heap.objs.size+1) (o:=.ins C s.heap.objs.size []) (t':=s.toks) (fun b u q=>bY _ q) (ow (jK _ _)) ?_;have ne:s.heap.objs.size≠s.heap.objs.size+1:=bg (jg _);refine⟨by rw[am ne,ae],cM _,ne,e2,fun _=>none,(Heap.Ns1.of_empty e3).at fun o q=>bY _ q,fun _=>True.intro,fun y hy=>absurd rfl hy⟩
theorem Jn(hb:attributeBase e f env (eval e env)=eval e env)(h:wpAny (model prog w) A (eval e env) (fun o s₁=>wpAny (model prog w) A (getAttr o f true) Q E s₁) E s):wpAny (model prog w) A (eval (.Attribute e f pos) env) Q E s:=
 Attribute_any_ h (by rw[arm_eval_Attribute,hb])
end
def Rp(K:PySem.W.Frag)(ta:TE)(f:Str):TE:=fun σ H Q=>ta σ H fun x H1=>∃a C dx fs v,x=.ref a/\H1 a=some (.ins C dx fs)/\Ff K C/\iT K C f/\fs.lookup f=some v/\Q v H1
def Wz(K:PySem.W.Frag)(ta tv:TE)(f:Str):TS:=fun D σ H=>tv σ H fun y H1=>ta σ H1 fun x H2=>∃a C dx fs,x=.ref a/\H2 a=some (.ins C dx fs)/\Ff K C/\iT K C f/\fs.length<1000/\
 D.nx σ (upd H2 a (.ins C dx (dM f y fs)))
section
variable {X:Cx} {o e value:Expr} {f:Str} {pos C4 Nx:Pos} {ta tv:TE}
theorem rE(he:PE X e ta)(hb:attributeBase e f X.env (eval e X.env)=eval e X.env):PE X (.Attribute e f pos) (Rp X.K ta f):=by
 intro ag s σ H Q I h;refine Jn hb (cV (he ag s σ H _ I h) fun u s1 ⟨x,H1,I1,rx,a,C,dx,fs,v,ex,ea,c,n,l,q⟩=>?_);subst ex;obtain rfl:u=Value.ref a:=rx;exact Af I1 ea c n l fun u' s2 I2 ru=>⟨v,H1,I2,ru,q⟩
theorem vI(ha:PE X o ta)(hv:PE X value tv)(hs:swapsWith value (some (.Attribute o f C4)) pos.line X.env=pure false):PS X (.Assign [.Attribute o f C4] value pos) (Wz X.K ta tv f):=by
 intro ag s σ H D I h;refine plainObj_wpAny_Assign_Attribute (cV (hv ag s σ H _ I h) fun u s1 ⟨y,H1,I1,ry,q⟩=>cV (ha ag s1 σ H1 _ I1 q) fun ov s2 ⟨x,H2,I2,rx,a,C,dx,fs,ex,ea,c,n,l,q2⟩=>?_) hs;subst ex;obtain rfl:ov=Value.ref a:=rx;exact Ag I2 ea c n l ry fun s3 I3=>⟨σ,_,I3,q2⟩
end
section
variable {X:Cx} {ag:List (Addr×Obj)} {σ:St} {H:Hp} {s:Shared} {A:Around} {E:Value->Shared->Prop} {Q:Value->Shared->Prop} {c:Value} {b:Bool}
inductive oI (K:PySem.W.Frag) (H:Hp):V->Value->Prop where
 |bD:oI K H .bD (.type "NoneType")
 |bl (x:Bool):oI K H (.bl x) (.type "bool")
 |int (i:Int):oI K H (.int i) (.type "int")
 |str (x:Str):oI K H (.str x) (.type "str")
 |M7 (x:UInt64):oI K H (.M7 x) (.type "float")
 |lst {a:Addr} {xs:List V} (e:H a=some (.lst xs)):oI K H (.ref a) (.type "list")
 |tw {a:Addr} {o:Obj} {xs:List V} (e:H a=some (.tw o (.lst xs))):oI K H (.ref a) (.type "list")
 |tup {a:Addr} {xs:List V} (e:H a=some (.tup xs)):oI K H (.ref a) (.type "tuple")
 |dK {a:Addr} {cN:List (g9×V)} (e:H a=some (.dK cN)):oI K H (.ref a) (.type "dict")
 |dT {a:Addr} {cN:List (List g9×V)} (e:H a=some (.dT cN)):oI K H (.ref a) (.type "dict")
 |ins {a C dx:Addr} {fs:List (Str×V)} (e:H a=some (.ins C dx fs)) (cl:Ff K C) (ha:PySem.W.findIn K (.ref C) "__class__"=some (some (.builtin "object.__class__")))
   (hn:PySem.W.specialIn K (.builtin "object.__class__") "__get__"=some (some (.builtin "getset_descriptor.__get__"))) (WB:PySem.W.takesIn K (.builtin "object.__class__")=some true)
   (hm:PySem.W.mroIn K C (.type "object")=some true):oI K H (.ref a) (.ref C)
theorem ue(I:aU X ag σ H s)(rx:bX x u)(ty:oI X.K H x t)(e:PySem.W.kitOne X.K t c=some b)(h:∀tk,Q (.bool b) { s with toks:=tk }):
  wpAny (model X.prog X.w) A (call (.builtin "isinstance") [u,c]) Q E s:=by
 cases ty with
 |bD=>cases (show u=Value.none from rx);exact i4 PySem.W.kitx_none I.mj True.intro e (fun z=>nomatch z) h
 |bl y=>cases (show u=Value.bool y from rx);exact i4 PySem.W.kitx_bool I.mj True.intro e (fun z=>nomatch z) h
 |int i=>obtain⟨t,q⟩:=(show ∃t,u=Value.int i t from rx);cases q;exact i4 PySem.W.kitx_int I.mj True.intro e (fun z=>nomatch z) h
 |str y=>obtain⟨t,q⟩:=(show ∃t,u=Value.str y t from rx);cases q;exact i4 PySem.W.kitx_str I.mj True.intro e (fun z=>nomatch z) h
 |M7 y=>obtain⟨t,q⟩:=(show ∃t,u=Value.float y t from rx);cases q;exact i4 PySem.W.kitx_float I.mj True.intro e (fun z=>nomatch z) h
 |@lst a xs ea=>
  cases (show u=Value.ref a from rx);obtain⟨_,_,n,_,h1⟩:=(show cu X.prog X.w H s.heap a (.lst xs) from I.b_ a _ ea)
  exact i4 PySem.W.kitx_list I.mj ⟨_,h1,rfl⟩ e (fun z=>nomatch z) h
 |@tw a ob xs ea=>
  cases (show u=Value.ref a from rx);obtain⟨_,_,_,n,_,h1⟩:=(show cu X.prog X.w H s.heap a (.tw ob (.lst xs)) from I.b_ a _ ea)
  exact i4 PySem.W.kitx_list I.mj ⟨_,h1,rfl⟩ e (fun z=>nomatch z) h
 |@tup a xs ea=>
  cases (show u=Value.ref a from rx);obtain⟨_,_,_,p⟩:=(show cu X.prog X.w H s.heap a (.tup xs) from I.b_ a _ ea)
  obtain⟨o,h1,h2,_⟩:=p;exact i4 PySem.W.kitx_tuple I.mj ⟨o,h1,h2⟩ e (fun z=>nomatch z) h
 |@dK a cN ea=>
  cases (show u=Value.ref a from rx);obtain⟨_,_,vs,_,p⟩:=(show cu X.prog X.w H s.heap a (.dK cN) from I.b_ a _ ea)
  obtain⟨o,es,ep,h1,h2,_⟩:=p;exact i4 PySem.W.kitx_dict I.mj ⟨o,h1,h2.1⟩ e (fun z=>nomatch z) h
 |@dT a cN ea=>
  cases (show u=Value.ref a from rx);obtain⟨_,_,xs,_,o,es,ep,h1,h2,_⟩:=(show cu X.prog X.w H s.heap a (.dT cN) from I.b_ a _ ea)
  exact i4 PySem.W.kitx_dict I.mj ⟨o,h1,h2.1⟩ e (fun z=>nomatch z) h
 |@ins a C dx fs ea cl ha hn WB hm=>
  cases (show u=Value.ref a from rx);obtain⟨mA,O,_⟩:=qA I.b_ ea;obtain⟨od,J,_⟩:=O.look;exact i4 (PySem.W.kitx_own (cl.get _) cl.hd ha hn WB hm) I.mj J e (fun z=>nomatch z) h
end
structure cx(k:Nat)(A:Around):Prop where
 hd:A.handled=none
 dp:A.depth+3*k+5<recursionLimit
 un:A.units+16*k+200<cLine
 gd:A.guards=some []
theorem cx.mono(r:cx k A)(h:j<=k):cx j A:=⟨r.hd,by have:=r.dp;lia,by have:=r.un;lia,r.gd⟩
theorem cx.deeper(r:cx (k+1) A)(env:Env):cx k (A.deeper env):=
 ⟨r.hd,by have:=r.dp;show A.depth+1+3*k+5<_;lia,by have:=r.un;show A.units+3+16*k+200<_;lia,r.gd⟩
theorem Ah{A:Around}{C:Addr}{us:List Value}{kw:List (Str×Value)}:(A.under (.builtin "type.__call__" ⟨.ref C::us,kw⟩)).depth=A.depth+1:=by
 first|rfl|simp[Around.under,Code.weight,Code.isCreation,Code.isGuard,Code.isCaller,Code.frames,Code.isFrame,guardIds]
theorem Ai{A:Around}{C:Addr}{us:List Value}{kw:List (Str×Value)}:(A.under (.builtin "type.__call__" ⟨.ref C::us,kw⟩)).units=A.units+1:=by
 first|rfl|simp[Around.under,Code.cUnits,Code.frames,Code.isFrame]
theorem cx.make(r:cx (k+1) A)(C:Addr)(us:List Value)(kw:List (Str×Value)):cx k (A.under (.builtin "type.__call__" ⟨.ref C::us,kw⟩)):=
 ⟨r.hd,by have:=r.dp;rw[Ah];lia,by have:=r.un;rw[Ai];lia,r.gd⟩
theorem cx.depth(r:cx k A):A.depth<recursionLimit:=by have:=r.dp;lia
theorem cx.u(r:cx k A)(h:n<=200:=by decide):A.units+n<cLine:=by have:=r.un;lia
def cY:TA:=fun _ H Q=>Q [] H
def aV(ta:TE)(tr:TA):TA:=fun σ H Q=>ta σ H fun x H1=>tr σ H1 fun xs H2=>Q (x::xs) H2
section
variable {X:Cx} {e:Expr} {es:List Expr} {te:TE} {t:TA} {pos:Pos}
theorem af:PA X [] cY:=fun _ _ _ _ H Q I h=>Calls.spliced_nil ⟨[],H,I,.nil,h⟩
theorem aa(ha:PE X e te)(hr:PA X es t)(hs:starEach (e::es) X.env=(false,eval e X.env)::starEach es X.env:=by rfl):PA X (e::es) (aV te t):=by
 intro pos ag s σ H Q I h;rw[hs];show wpAny _ _ (spliced ((false,eval e X.env)::backTo pos (starEach es X.env))) _ _ s;refine Calls.spliced_cons (cV (ha ag s σ H _ I h) fun u s1 ⟨x,H1,I1,r1,q1⟩=>?_);exact cV (hr pos ag s1 σ H1 _ I1 q1) fun us s2 ⟨xs,H2,I2,r2,q2⟩=>⟨x::xs,H2,I2,.cons r1 r2,q2⟩
def jv(t:TA):TE:=fun σ H Q=>t σ H fun xs H1=>xs.length<=sizeLine/\∀p,H1 p=none->Q (.ref p) (upd H1 p (.tup xs))
def Rq(t:TA):TE:=fun σ H Q=>t σ H fun xs H1=>xs.length<=sizeLine/\∀p,H1 p=none->Q (.ref p) (upd H1 p (.lst xs))
theorem bf{x1}(h:PA X es t):PE X (.Tuple es x1 pos) (jv t):=by
 intro ag s σ H Q I hq;refine wpAny_Tuple_spliced (cV (h pos ag s σ H _ I hq) fun us s1 ⟨xs,H1,I1,r,z,q⟩=>⟨by rw[<-r.length];exact z,?_⟩);have hf:H1 s1.heap.objs.size=none:=I1.b_.fresh (bt _);refine⟨.ref s1.heap.objs.size,upd H1 s1.heap.objs.size (.tup xs),I1.laid (t':=s1.toks) (fun b u e=>bY _ e) (bt _) ?_,rfl,q _ hf⟩;exact⟨z,us,r,⟨_,cI _ rfl,rfl,_,rfl,rfl⟩⟩
theorem bZ(h:PA X es t):PE X (.List es pos) (Rq t):=by
 intro ag s σ H Q I hq;refine wpAny_List_spliced (cV (h pos ag s σ H _ I hq) fun us s1 ⟨xs,H1,I1,r,z,q⟩=>⟨by rw[<-r.length];exact z,?_⟩);have hf:H1 s1.heap.objs.size=none:=I1.b_.fresh (bt _);refine⟨.ref s1.heap.objs.size,upd H1 s1.heap.objs.size (.lst xs),I1.laid (t':=s1.toks) (fun b u e=>bY _ e) (bt _) ?_,rfl,q _ hf⟩;exact⟨z,us,0,r,cI _ rfl⟩
end
abbrev Sp:=List V->Hp->VK->XK->Prop
abbrev vJ:=List Env->Hp->Shared->XK->Value->Shared->Prop
structure Aj(P:Program)(w:World)(K:PySem.W.Frag)(mg:Str->Option Value)(base:Heap)(A:Around)(outer:List Env)(s:Shared)(H:Hp):Prop where
 frames:A.frames=some outer
 mod:Mod K mg base
 bs:∀b o,base.get? b=some o->s.heap.get? b=some o/\H b=none
 Ex:base.objs.size<=s.heap.objs.size
 lS:s.heap.FunFrames base outer
 IL:∀b∈qe outer,H b=none
 b_:jR P w H s.heap
 bare:AllBare s.gens
def CE(outer:List Env)(P:Program)(w:World)(H:Hp)(s:Shared)(Q:VK)(u:Value)(s':Shared):Prop:=
 ∃v H',s'.os=s.os/\AllBare s'.gens/\Un (qe outer) [] H H' s.heap s'.heap/\jR P w H' s'.heap/\bX v u/\Q v H'
def CR(CX:vJ)(outer:List Env)(P:Program)(w:World)(H:Hp)(s:Shared)(Q:VK)(E:XK)(r:Result)(s':Shared):Prop:=
 match r with
 |.ok (.ret u)=>CE outer P w H s Q u s'
 |.ok _=>False
 |.error e=>CX outer H s E e s'
structure bL(P:Program)(w:World)(K:PySem.W.Frag)(mg:Str->Option Value)(base:Heap)(CX:vJ)(k:Nat)(f:Addr)(fd:FuncData)(ps:List Str)(sp:Sp):Prop where
 len:∀vs H Q E,sp vs H Q E->vs.length=ps.length
 run:∀ (A:Around) (outer:List Env) (s:Shared) (H:Hp) (args:Args) (us:List Value) (vs:List V) (Q:VK) (E:XK),cx k A->Aj P w K mg base A outer s H->BindsTo s fd args (ps.zip us)->ba vs us->sp vs H Q E->
  codeAny (model P w) A (.call (.ref f) args) (CR CX outer P w H s Q E) s
theorem Aj.make{P:Program}{w:World}{K:PySem.W.Frag}{mg:Str->Option Value}{base:Heap}{A:Around}{outer:List Env}{s:Shared}{H:Hp}(e:Aj P w K mg base A outer s H)(C:Addr)(us:List Value)(kw:List (Str×Value)):
  Aj P w K mg base (A.under (.builtin "type.__call__" ⟨.ref C::us,kw⟩)) outer s H:=⟨by first|exact e.frames|(simpa [Around.under,Code.envs,Code.isFrame,pushEnvs] using e.frames),e.mod,e.bs,e.Ex,e.lS,e.IL,e.b_,e.bare⟩
section
variable {X:Cx} {ag:List (Addr×Obj)} {σ:St} {H:Hp} {s s':Shared}
theorem aU.Ny(I:aU X ag σ H s):Aj X.prog X.w X.K X.mg X.base X.A X.stack s H:=
 ⟨I.ok.frames,I.ok.mod,I.bs,bC I.ok.Ex I.sz,I.stack,I.vC,I.b_,I.bare⟩
theorem aU.after(I:aU X ag σ H s)(h:CE X.stack X.prog X.w H s Q u s'):EP X ag σ Q u s':=by
 obtain⟨v,H',os,bare,un,b_,r,q⟩:=h;obtain⟨hh,g,d,t,ZR⟩:=s';obtain rfl:ZR=s.os:=os;exact⟨v,H',I.call (h':=hh) (g':=g) (d':=d) (t':=t) (ch:=[]) un b_ bare (fun b z=>absurd z (by simp)),r,q⟩
end
def uf(sp:Sp)(lV:List V)(E:XK)(t:TA):TE:=fun σ H Q=>t σ H fun vs H1=>sp (vs++lV) H1 Q E
def Fg(C:Addr)(m:Str)(sp:Sp)(lV:List V)(E:XK)(ta:TE)(t:TA):TE:=fun σ H Q=>ta σ H fun x H1=>∃a dx fs,x=.ref a/\H1 a=some (.ins C dx fs)/\fs.lookup m=none/\
 t σ H1 fun vs H2=>sp (x::(vs++lV)) H2 Q E
def Rr(C:Addr)(sp:Sp)(lV:List V)(E:XK)(t:TA):TE:=fun σ H Q=>t σ H fun vs H1=>∀x dx,H1 x=none->H1 dx=none->dx≠x->
 sp (.ref x::(vs++lV)) (upd (upd H1 dx (.own x)) x (.ins C dx [])) (fun v H2=>v=.bD/\Q (.ref x) H2) E
def iH(K:PySem.W.Frag)(fd:FuncData)(ps:List Str)(ds:List Value):Prop:=
 ∀ (s:Shared) (us:List Value),K.In s.heap->(us++ds).length=ps.length->BindsTo s fd ⟨us,[]⟩ (ps.zip (us++ds))
theorem iH.all{K:PySem.W.Frag}{fd:FuncData}{ps:List Str}(h:∀us:List Value,us.length=ps.length->bindArgs fd ⟨us,[]⟩=pure (ps.zip us)):iH K fd ps []:=fun s us _ hl=>by
 rw[vi] at hl |-;exact .of_eq (h us hl)
def jw(CX:vJ)(X:Cx)(E:XK):Prop:=∀ (ag:List (Addr×Obj)) (σ:St) (H:Hp) (s:Shared) (e:Value) (s':Shared),aU X ag σ H s->CX X.stack H s E e s'->X.xe e s'
section
variable {X:Cx} {CX:vJ} {k:Nat} {f C:Addr} {fd:FuncData} {ps:List Str} {sp:Sp} {lV:List V} {ds:List Value} {E:XK} {x m:Str} {p pos kq:Pos} {e o:Expr} {es:List Expr} {ta:TE} {t:TA}
theorem Ak(F:bL X.prog X.w X.K X.mg X.base CX k f fd ps sp)(hr:cx k X.A)(hb:iH X.K fd ps ds)(hd:ba lV ds)(hx:jw CX X E)(I:aU X ag σ H s)(r:ba vs us)(h:sp (vs++lV) H Q E):wpAny (model X.prog X.w) X.A (call (.ref f) us) (EP X ag σ Q) X.xe s:=by
 have r2:ba (vs++lV) (us++ds):=r.append hd;have hl:(us++ds).length=ps.length:=by rw[<-r2.length];exact F.len _ _ _ _ h
 refine rm (lO (F.run X.A X.stack s H ⟨us,[]⟩ (us++ds) (vs++lV) Q E hr I.Ny (hb s us I.mj hl) r2 h) fun r s' hq=>?_);cases r with
 |error e=>exact hx ag σ H s e s' I hq
 |ok fl=>
  cases fl with
  |ret u=>exact I.after hq
  |next=>exact False.elim hq
  |brk=>exact False.elim hq
  |cont=>exact False.elim hq
theorem Jo(F:bL X.prog X.w X.K X.mg X.base CX k f fd ps sp)(hr:cx k X.A)(hg:Gl X x)(hm:X.mg x=some (.ref f))(hk:PySem.W.keepIn X.K (.ref f)=true)(hb:iH X.K fd ps ds)(hd:ba lV ds)(hx:jw CX X E)(ha:PA X (e::es) t)(tI:(x==("__debug__":Str))=false:=by decide)(he:starEach (e::es) X.env=(false,eval e X.env)::starEach es X.env:=by rfl)(xf:(backTo pos (starEach es X.env)).any (·.1)=false:=by rfl):
  PE X (.Call (.Name x p) (e::es) [] pos) (uf sp lV E t):=by
 intro ag s σ H Q I h;refine n9 (mH I hg hm ?_ tI);refine u8 (h₀:=X.base) I.ok.mod.L_ hk (cV (ha pos ag s σ H _ I h) fun us s1 ⟨vs,H1,I1,r,q⟩=>⟨I1.mj,?_⟩) he xf;exact Ak F hr hb hd hx I1 r q
theorem vK(he:PE X o ta)(c:Ff X.K C)(hm:Jm X.K C m f)(F:bL X.prog X.w X.K X.mg X.base CX k f fd ps sp)(hr:cx k X.A)(hb:iH X.K fd ps ds)(hd:ba lV ds)(hx:jw CX X E)(ha:PA X (e::es) t)(km:starEach (e::es) X.env=(false,eval e X.env)::starEach es X.env:=by rfl)(xf:(backTo pos (starEach es X.env)).any (·.1)=false:=by rfl)(ht:eval (.Call (.Attribute o m kq) (e::es) [] pos) X.env=(do
   let ov <- eval o X.env
   standAt kq.atName
   let (f,first) <- holding [ov] (getMethod ov m pl)
   callWith pos f first (backTo pos (starEach (e::es) X.env)) (backToKw pos (keywordEach [] X.env))):=by rfl):
  PE X (.Call (.Attribute o m kq) (e::es) [] pos) (Fg C m sp lV E ta t):=by
 intro ag s σ H Q I h;refine PySem.W.methodCall_KW (pl:=pl) (cV (he ag s σ H _ I h) fun u s1 ⟨x,H1,I1,rx,a,dx,fs,ex,ea,l,q⟩=>?_) ht;subst ex;obtain rfl:u=Value.ref a:=rx;refine rD I1 ea c hm l ?_;refine u8 (first:=[.ref a]) (h₀:=X.base) I.ok.mod.L_ hm.kp (cV (ha pos ag s1 σ H1 _ I1 q) fun us s2 ⟨vs,H2,I2,r,q2⟩=>⟨I2.mj,?_⟩) km xf;exact Ak (us:=.ref a::us) (vs:=.ref a::vs) F hr hb hd hx I2 (.cons rfl r) q2
theorem xw{pl:Sem Bool}(he:PE X o ta)(c:Ff X.K C)(hm:Jm X.K C m f)(F:bL X.prog X.w X.K X.mg X.base CX k f fd ps sp)(hr:cx k X.A)(hb:iH X.K fd ps ds)(hd:ba lV ds)(hx:jw CX X E)(ht:eval (.Call (.Attribute o m kq) [] [] pos) X.env=(do
   let ov <- eval o X.env
   standAt kq.atName
   let (f,first) <- holding [ov] (getMethod ov m pl)
   callWith pos f first (backTo pos (starEach [] X.env)) (backToKw pos (keywordEach [] X.env))):=by rfl):
  PE X (.Call (.Attribute o m kq) [] [] pos) (Fg C m sp lV E ta cY):=by
 intro ag s σ H Q I h;refine PySem.W.methodCall_KW (pl:=pl) (cV (he ag s σ H _ I h) fun u s1 ⟨x,H1,I1,rx,a,dx,fs,ex,ea,l,q⟩=>?_) ht;subst ex;obtain rfl:u=Value.ref a:=rx;refine rD I1 ea c hm l ?_;exact PySem.W.callWith_K0 (first:=[.ref a]) I1.mj hm.kp (Ak (us:=[.ref a]) (vs:=[.ref a]) F hr hb hd hx I1 (.cons rfl .nil) q)
structure Mk(K:PySem.W.Frag)(C f:Addr):Prop where
 makes:PySem.W.makesIn K C=true
 init:PySem.W.findIn K (.ref C) "__init__"=some (some (.ref f))
 fn:PySem.W.isFn K (.ref f)=true
 kp:PySem.W.keepIn K (.ref C)=true
theorem Fh(M:Mk X.K C f)(F:bL X.prog X.w X.K X.mg X.base CX k f fd ps sp)(hr:cx (k+1) X.A)(hb:iH X.K fd ps ds)(hd:ba lV ds)(hx:jw CX X E)(I:aU X ag σ H s)(r:ba vs us)(h:∀x dx,H x=none->H dx=none->dx≠x->sp (.ref x::(vs++lV)) (upd (upd H dx (.own x)) x (.ins C dx [])) (fun v H2=>v=.bD/\Q (.ref x) H2) E):
  wpAny (model X.prog X.w) X.A (call (.ref C) us) (EP X ag σ Q) X.xe s:=by
 have hq:=h (s.heap.objs.size+1) s.heap.objs.size (I.b_.fresh (Nat.le_succ _)) (I.b_.fresh (bt _)) (bg (jg _));have I2:=aU.made (C:=C) I;have r2:ba (V.ref (s.heap.objs.size+1)::(vs++lV)) (Value.ref (s.heap.objs.size+1)::(us++ds)):=.cons rfl (r.append hd);have hl:(Value.ref (s.heap.objs.size+1)::us++ds).length=ps.length:=by
  have e:=r2.length;rw[F.len _ _ _ _ hq] at e;exact e.symm
 refine rm (Fe (f:=f) I.mj M.makes M.init (ff.mp M.fn) (lO (F.run _ X.stack _ _ ⟨Value.ref (s.heap.objs.size+1)::us,[]⟩ (Value.ref (s.heap.objs.size+1)::(us++ds)) _ _ E (hr.make C us [])
  (I2.Ny.make C us []) (hb _ (Value.ref (s.heap.objs.size+1)::us) I2.mj hl) r2 hq) fun r s' Jp=>?_))
 cases r with
 |error e=>exact hx ag σ _ _ e s' I2 Jp
 |ok fl=>
  cases fl with
  |ret u=>
   obtain⟨v,H',I3,rv,ev,q3⟩:=I2.after Jp;subst ev;exact⟨rv,⟨V.ref (s.heap.objs.size+1),H',I3,rfl,q3⟩⟩
  |next=>exact False.elim Jp
  |brk=>exact False.elim Jp
  |cont=>exact False.elim Jp
theorem Jq(M:Mk X.K C f)(F:bL X.prog X.w X.K X.mg X.base CX k f fd ps sp)(hr:cx (k+1) X.A)(hg:Gl X x)(hm:X.mg x=some (.ref C))(hb:iH X.K fd ps ds)(hd:ba lV ds)(hx:jw CX X E)(ha:PA X (e::es) t)(tI:(x==("__debug__":Str))=false:=by decide)(he:starEach (e::es) X.env=(false,eval e X.env)::starEach es X.env:=by rfl)(xf:(backTo pos (starEach es X.env)).any (·.1)=false:=by rfl):
  PE X (.Call (.Name x p) (e::es) [] pos) (Rr C sp lV E t):=by
 intro ag s σ H Q I h;refine n9 (mH I hg hm ?_ tI);refine u8 (h₀:=X.base) I.ok.mod.L_ M.kp (cV (ha pos ag s σ H _ I h) fun us s1 ⟨vs,H1,I1,r,q⟩=>⟨I1.mj,?_⟩) he xf;exact Fh M F hr hb hd hx I1 r q
end
def PK(X:Cx)(Fj:List Keyword)(t:TA):Prop:=
 ∀ (pos:Pos) (ag:List (Addr×Obj)) (s:Shared) (σ:St) (H:Hp) (Q:List V->Hp->Prop),aU X ag σ H s->t σ H Q->wpAny (model X.prog X.w) X.A (evalAll ((backToKw pos (keywordEach Fj X.env)).map (·.2))) (AP X ag σ Q) X.xe s
section
variable {X:Cx} {CX:vJ} {k:Nat} {f C:Addr} {fd:FuncData} {ps ks:List Str} {sp:Sp} {E:XK} {x m:Str} {p pos kq WC:Pos} {e o:Expr} {es:List Expr} {Fj:List Keyword} {te ta:TE} {t tk:TA} {nm:Option Str}
theorem Nz:PK X [] cY:=fun _ _ _ _ H Q I h=>wpAny_evalAll_nil ⟨[],H,I,.nil,h⟩
theorem Jr(ha:PE X e te)(hr:PK X Fj t):PK X (⟨nm,e,WC⟩::Fj) (aV te t):=by
 intro pos ag s σ H Q I h;show wpAny _ _ (evalAll ((do let v <- eval e X.env;standAt pos;pure v)::(backToKw pos (keywordEach Fj X.env)).map (·.2))) _ _ s;refine wpAny_evalAll_cons (aD (cV (ha ag s σ H _ I h) fun u s1 ⟨x,H1,I1,r1,q1⟩=>aD (lN (wpAny_pure ?_))));exact cV (hr pos ag s1 σ H1 _ I1 q1) fun us s2 ⟨xs,H2,I2,r2,q2⟩=>⟨x::xs,H2,I2,.cons r1 r2,q2⟩
variable {g:List Value->List Value->List Value} {gV:List V->List V->List V}
end
structure aS(N P:List Str)(sc:Scope):Prop where
 kind:sc.kind=.function
 co:sc.isCoroutine=false
 gen:sc.isGenerator=false
 nd:N.Nodup
 pre:N.take P.length=P
 par:∀x∈P,sc.names.lookup x=some .local\/sc.names.lookup x=some .cell
 NA:∀y∈sc.names,y.2≠.free
theorem cZ{N P:List Str}{sc:Scope}(h:(N.Nodup/\∀x∈P,sc.names.lookup x=some .local\/sc.names.lookup x=some .cell)/\∀y∈sc.names,y.2≠.free)(h1:sc.kind=.function:=by rfl)(h2:sc.isCoroutine=false:=by rfl)(h3:sc.isGenerator=false:=by rfl)(h5:N.take P.length=P:=by rfl):aS N P sc:=⟨h1,h2,h3,h.1.1,h5,h.1.2,h.2⟩
theorem aM{α:Sort u}{a:α}{b:Prop}:a=a\/b:=Or.inl rfl
theorem bU{α:Sort u}{a:α}{b:Prop}:b\/a=a:=Or.inr rfl
theorem ug{kindOf:Str->Option NameKind}{x:Str}:∀ {binds:List (Str×Value)} {m:Str->Option Value},(∀v,(x,v)∉binds)->bindL kindOf binds m x=m x
 |[],_,_=>rfl
 |(n,v)::r,m,h=>by
  unfold bindL;rw[ug fun w hw=>h w (cX _ hw)];split
  .have:x≠n:=by rintro rfl;exact h v bW
   simp[this]
  .rfl
theorem uh{kindOf:Str->Option NameKind}{x:Str}:∀ {binds:List (Str×Value)} {m:Str->Option Value},(∀v,(x,v)∉binds)->bindC kindOf binds m x=m x
 |[],_,_=>rfl
 |(n,v)::r,m,h=>by
  unfold bindC;rw[uh fun w hw=>h w (cX _ hw)];split
  .rfl
  .have:x≠n:=by rintro rfl;exact h v bW
   simp[this]
theorem ui{kindOf:Str->Option NameKind}{x:Str}{v:Value}:∀ {P:List Str} {vs:List Value} {i:Nat} {m:Str->Option Value},P.Nodup->P[i]?=some x->vs[i]?=some v->kindOf x=some .local->
  bindL kindOf (P.zip vs) m x=some v
 |[],_,_,_,_,h,_,_=>by simp at h
 |_::_,[],_,_,_,_,h,_=>by simp at h
 |p::P,w::vs,0,m,nd,h1,h2,hk=>by
  simp at h1 h2;subst h1;subst h2;show bindL kindOf ((p,w)::P.zip vs) m p=_;unfold bindL;rw[ug fun v hv=>(fY.mp nd).1 (q_ hv).1,ap hk];simp
 |p::P,w::vs,i+1,m,nd,h1,h2,hk=>by
  show bindL kindOf ((p,w)::P.zip vs) m x=_;unfold bindL;exact ui (i:=i) (fY.mp nd).2 (by simpa using h1) (by simpa using h2) hk
theorem uj{kindOf:Str->Option NameKind}{x:Str}{v:Value}:∀ {P:List Str} {vs:List Value} {i:Nat} {m:Str->Option Value},P.Nodup->P[i]?=some x->vs[i]?=some v->kindOf x≠some .local->
  bindC kindOf (P.zip vs) m x=some v
 |[],_,_,_,_,h,_,_=>by simp at h
 |_::_,[],_,_,_,_,h,_=>by simp at h
 |p::P,w::vs,0,m,nd,h1,h2,hk=>by
  simp at h1 h2;subst h1;subst h2;show bindC kindOf ((p,w)::P.zip vs) m p=_;unfold bindC;rw[uh fun v hv=>(fY.mp nd).1 (q_ hv).1,aq hk];simp
 |p::P,w::vs,i+1,m,nd,h1,h2,hk=>by
  show bindC kindOf ((p,w)::P.zip vs) m x=_;unfold bindC;exact uj (i:=i) (fY.mp nd).2 (by simpa using h1) (by simpa using h2) hk
def start(N:List Str)(vs:List V):St:=vs.map some++List.replicate (N.length-vs.length) none
def qf(CX:vJ)(P:Program)(w:World)(K:PySem.W.Frag)(mg:Str->Option Value)(base:Heap)(N:List Str)(qual:Str)(scope:Scope)(f:Addr)(cd:Value)(A:Around)(outer:List Env)(s:Shared)(H:Hp)(E:XK):Cx where
 prog:=P
 w:=w
 K:=K
 mg:=mg
 base:=base
 A:=A.deeper (envOfC qual scope s.heap.objs.size f cd)
 N:=N
 s₀:=s
 H₀:=H
 env:=envOfC qual scope s.heap.objs.size f cd
 outer:=outer
 stack:=envOfC qual scope s.heap.objs.size f cd::outer
 ex:=[]
 calm:=true
 fn:=fun _=>true
 pn:=[]
 xe:=fun e s'=>wpAny (model P w) (A.deeper (envOfC qual scope s.heap.objs.size f cd)) (leaving (envOfC qual scope s.heap.objs.size f cd) e) (fun _ Rt=>CX outer H s E e Rt) (fun e' Rt=>CX outer H s E e' Rt) s'
theorem xx{sc:Scope}{n:Nat}{x:Str}(h:sc.names.lookup x=some .cell):∃c,(cellsFrom n sc.names []).lookup x=some c:=by
 have q:=PySem.W.cellsFrom_some sc.names n [] (.inl h);exact uU.mp q
theorem C_{CX:vJ}{P:Program}{w:World}{K:PySem.W.Frag}{mg:Str->Option Value}{base:Heap}{N ps:List Str}{qual:Str}{scope:Scope}{f:Addr}{cd:Value}{A:Around}{outer:List Env}{s s1:Shared}{H:Hp}{E:XK}{us:List Value}{vs:List V}(S:aS N ps scope)(hd:A.handled=none)(e0:Aj P w K mg base A outer s H)(hl:vs.length=ps.length)(r:ba vs us)(x:InCallC s s.heap.objs.size (bindL (envOfC qual scope s.heap.objs.size f cd).kindOf (ps.zip us) fun _=>none) (cellsFrom (s.heap.objs.size+1) scope.names []) (bindC (envOfC qual scope s.heap.objs.size f cd).kindOf (ps.zip us) fun _=>none) s1):
  aU (qf CX P w K mg base N qual scope f cd A outer s H E) [] (start N vs) H s1:=by
 have xf:ps.length<=N.length:=by have:=congrArg List.length S.pre;rw[lq] at this;lia
 obtain⟨h1,tk,rfl,hk⟩:=x.done;have Qt:∀b:Addr,b∉(qf CX P w K mg base N qual scope f cd A outer s H E).ex:=fun b z=>absurd (show b∈([]:List Addr) from z) (by simp);refine⟨⟨e0.mod,S.kind,rfl,rfl,bt _,fun y z c h1 h2=>?_,fun y hy=>?_,fun y c _ h=>?_,fun _=>hd,Around.frames_deeper e0.frames,.inr ⟨rfl,rfl⟩,fun b z=>absurd z (Qt b),e0.bs,e0.Ex,fun b _ _=>Qt b,fun b z=>absurd z (Qt b),e0.lS,e0.IL⟩,
  rfl,e0.bare,Un.kept hk,⟨_,x.toInCall.ns,fun i y v h1 h2 h3=>?_⟩,fun y c h=>⟨_,x.cell y c h⟩,e0.b_.fresh (bt _),fun y c h=>?_,fun p hp=>absurd (show p∈([]:List (Addr×Obj)) from hp) (by simp),e0.b_.kept hk,?_⟩
 .exact name_of_addr x.apart (jW h1) (jW h2)
 .have hy:scope.names.lookup y=some .cell\/scope.names.lookup y=some .free:=hy;rcases hy with hy|hy
  .exact xx hy
  .exact absurd rfl (S.NA _ (jW hy))
 .exact j8 (x.above y c (jW h))
 .have hi:i<vs.length:=by
   unfold start at h2;by_cases hi:i<vs.length
   .exact hi
   .rw[jS (by simpa using hi)] at h2;rw[qO] at h2;split at h2 <;> cases h2
  have ha:vs[i]?=some v:=by
   unfold start at h2;rw[iD (by simpa using hi),cm] at h2;cases e:vs[i]? with
   |none=>rw[e] at h2;cases h2
   |some a=>rw[e] at h2;cases h2;rfl
  obtain⟨u,hu,rv⟩:=r.get ha;have hp:ps[i]?=some y:=by
   rw[<-S.pre,List.getElem?_take_of_lt (by lia)];exact h1
  have ZS:ps.Nodup:=by rw[<-S.pre];exact S.nd.sublist (u_ _ _)
  refine⟨u,rv,?_⟩;rcases S.par y (df hp) with k|k
  .exact .inl ⟨k,ui ZS hp hu k⟩
  .obtain⟨c,e⟩:=xx (n:=s.heap.objs.size+1) k;refine .inr ⟨.inl k,c,e,?_⟩;have q:=x.cell y c e;rw[uj ZS hp hu (by show scope.names.lookup y≠_;rw[k];decide)] at q;exact q
 .exact e0.b_.fresh (j8 (x.above y c (jW h)))
 .unfold start;show _=N.length;rw[cf,aP,jU];lia
theorem Fk{CX:vJ}{P:Program}{w:World}{K:PySem.W.Frag}{mg:Str->Option Value}{base:Heap}{k:Nat}{f:Addr}{name qual:Str}{params:Arguments}{body:List Stmt}{scope:Scope}{dV kV mq pm dW ct oc:Value}{an od:Option Addr}{tJ:Array (Option Value)}{N ps:List Str}{sp:Sp}(lk:K.lookup f=some ⟨oc,od,.func (PySem.W.fnOf name qual params body scope dV kV mq pm an dW ct),tJ⟩)(qz:PySem.W.codeIn K dW qual=true)(S:aS N ps scope)(len:∀vs H Q E,sp vs H Q E->vs.length=ps.length)(rF:∀ (A:Around) (outer:List Env) (s:Shared) (H:Hp) (vs:List V) (Q:VK) (E:XK),cx k (A.deeper (envOfC qual scope s.heap.objs.size f dW))->sp vs H Q E->
   ∃t,ub (qf CX P w K mg base N qual scope f dW A outer s H E) body t/\t { nx:=fun _ H'=>Q .bD H',rt:=Q } (start N vs) H):
  bL P w K mg base CX (k+1) f (PySem.W.fnOf name qual params body scope dV kV mq pm an dW ct) ps sp:=by
 refine⟨len,fun A outer s H args us vs Q E hr e0 hb r EB=>?_⟩;have hl:=len _ _ _ _ EB;have KX:K.In s.heap:=e0.mod.L_.keeps fun b o e=>(e0.bs b o e).1;have lim:s.heap.NoLimit:=e0.mod.nolimit.keeps fun b o e=>(e0.bs b o e).1;have Ru:∀y∈ps.zip us,scope.names.lookup y.1=some .local\/(scope.names.lookup y.1=some .cell/\((cellsFrom (s.heap.objs.size+1) scope.names []).lookup y.1).isSome=true):=fun ⟨n,v⟩ hy=>by
  rcases S.par n (q_ hy).1 with q|q
  .exact .inl q
  .exact .inr ⟨q,PySem.W.cellsFrom_some _ _ _ (.inl q)⟩
 refine codeAny_call_function hr.depth (KX _ _ lk) rfl S.co S.gen rfl (PySem.W.codeRec_of KX qz) (hb _ _ _ _ ?_);refine wpAny_newFunctionEnv_cells S.kind Ru fun env he s1 x=>?_;subst he;refine⟨lim.keeps x.toInCall.keep,codeAny_func ?_⟩;obtain⟨t,ht,hq⟩:=rF A outer s H vs Q E (hr.deeper _) EB;have I:aU (qf CX P w K mg base N qual scope f dW A outer s H E) [] (start N vs) H s1:=C_ S hr.hd e0 hl r x;refine jp (ht [] s1 (start N vs) H _ I hq) (fun fl s' hs=>?_) fun e s' hs=>hs;have dG:∀ {σ':St} {H':Hp} {v:V} {u:Value},aU (qf CX P w K mg base N qual scope f dW A outer s H E) [] σ' H' s'->bX v u->Q v H'->CE outer P w H s Q u s':=
  fun {σ' H' v u} J rv q=>⟨v,H',J.os,J.bare,J.base,J.b_,rv,q⟩
 cases fl with
 |ret u=>
  obtain⟨v,σ',H',J,rv,q⟩:=hs;exact dG J rv q
 |next=>
  obtain⟨σ',H',J,q⟩:=hs;exact dG (v:=V.bD) (u:=Value.none) J rfl q
 |brk=>
  obtain⟨_,_,_,q⟩:=hs;exact False.elim q
 |cont=>
  obtain⟨_,_,_,q⟩:=hs;exact False.elim q
section
variable {X:Cx} {x:Str} {p pos:Pos} {e:Expr} {es:List Expr} {t:TA} {id T:String} {r:List V->Hp->VK->Prop}
def Da(r:List V->Hp->VK->Prop)(t:TA):TE:=fun σ H Q=>t σ H fun vs H1=>r vs H1 Q
theorem aB(hc:et X (.builtin id) r)(hg:Gl X x)(hm:X.mg x=none)(hv:bootBuiltins x=some (.builtin id))(ha:PA X (e::es) t)(hn:x≠"__name__":=by decide)(tI:(x==("__debug__":Str))=false:=by decide)(he:starEach (e::es) X.env=(false,eval e X.env)::starEach es X.env:=by rfl)(xf:(backTo pos (starEach es X.env)).any (·.1)=false:=by rfl):PE X (.Call (.Name x p) (e::es) [] pos) (Da r t):=by
 intro ag s σ H Q I h;refine n9 (lT I hg hm hv ?_ hn tI);exact PyProof.Rows.callWith_builtin1 (cV (ha pos ag s σ H _ I h) fun us s1 ⟨vs,H1,I1,r1,q1⟩=>hc ag s1 σ H1 vs us Q I1 r1 q1) he xf
theorem cG(hc:et X (.type T) r)(hg:Gl X x)(hm:X.mg x=none)(hv:bootBuiltins x=some (.type T))(ha:PA X (e::es) t)(hn:x≠"__name__":=by decide)(tI:(x==("__debug__":Str))=false:=by decide)(he:starEach (e::es) X.env=(false,eval e X.env)::starEach es X.env:=by rfl)(xf:(backTo pos (starEach es X.env)).any (·.1)=false:=by rfl):PE X (.Call (.Name x p) (e::es) [] pos) (Da r t):=by
 intro ag s σ H Q I h;refine n9 (lT I hg hm hv ?_ hn tI);exact uS (cV (ha pos ag s σ H _ I h) fun us s1 ⟨vs,H1,I1,r1,q1⟩=>hc ag s1 σ H1 vs us Q I1 r1 q1) he xf
end
end L2
namespace HT
open PySem PyProof.Rows
section
open PySem.SeqAt
open PySem.AutoSeq1 (wpAny_loadPart')
open PySem.MeetsSeq PySem.MeetsSeq2 PySem.MeetsSeq3
end
section
variable {prog:Program} {w:World} {A:Around} {E:Value->Shared->Prop} {s:Shared}
def eJ(n d:Nat):Option Int->Nat
 |none=>d
 |some v=>if v<0 then (v+(n:Int)).toNat else min v.toNat n
theorem ND(n d:Nat)(hd:d<=n)(o:Option Int):eJ n d o<=n:=by
 cases o with
 |none=>exact hd
 |some v=>
  show (if v<0 then (v+(n:Int)).toNat else min v.toNat n)<=n;by_cases hv:v<0
  .rw[ap hv];lia
  .rw[aq hv];exact Nat.min_le_right _ _
theorem BN(v:Int)(n d:Nat):(if v<0 then max (v+(n:Int)) 0 else min v (n:Int))=((eJ n d (some v):Nat):Int):=by
 show (if v<0 then max (v+(n:Int)) 0 else min v (n:Int))=(((if v<0 then (v+(n:Int)).toNat else min v.toNat n):Nat):Int);by_cases hv:v<0
 .simp only[ap hv];lia
 .simp only[aq hv];lia
theorem Am(lo hi:Option Int)(n:Nat):Builtin.Slice.sliceAdjust lo hi 1 (n:Int)=(((eJ n 0 lo:Nat):Int),((eJ n n hi:Nat):Int)):=by
 have h1:¬ ((1:Int)<0):=by lia
 unfold Builtin.Slice.sliceAdjust;simp only[h1,gh];refine gm ?_ ?_
 .cases lo with
  |none=>rfl
  |some v=>exact BN v n 0
 .cases hi with
  |none=>rfl
  |some v=>exact BN v n n
theorem An(i j:Nat):Builtin.Slice.slicePlaces (i:Int) (j:Int) 1=j-i:=by
 unfold Builtin.Slice.slicePlaces;have h1:(1:Int) > 0:=by lia
 simp only[h1,iS,Int.ediv_one];split <;> lia
theorem rG(p:IsPart v o)(h:Q o s):wpAny (model prog w) A (Builtin.Slice.slicePartIndex v) Q E s:=by
 cases p with
 |none=>exact slicePart_none h
 |int i t=>exact slicePart_int h
theorem i7{sl:Addr}{vl vu:Value}{lo hi:Option Int}{n:Nat}{Q:Int×Int×Nat->Shared->Prop}(hs:s.heap.IsSliceOf sl vl vu .none)(pl:IsPart vl lo)(pu:IsPart vu hi)(h:Q (((eJ n 0 lo:Nat):Int),1,eJ n n hi-eJ n 0 lo) s):wpAny (model prog w) A (Builtin.Slice.sliceApplied (.ref sl) (pure (n:Int))) Q E s:=by
 obtain⟨os,BP,Vv,IN⟩:=id hs;unfold Builtin.Slice.sliceApplied Builtin.Slice.sliceFields;refine aD (aD (h9 BP IN (x:=vl) rfl (aD (h9 BP IN (x:=vu) rfl (aD (h9 BP IN (x:=.none) rfl (wpAny_pure ?_)))))));refine aD (slicePart_none ?_);show wpAny _ _ (if ((1:Int)==0)=true then _ else _) _ _ s;rw[aq (by decide)];refine aD (rG pl (aD (rG pu (aD (wpAny_pure ?_)))));show wpAny _ _ (match Builtin.Slice.sliceAdjust lo hi 1 (n:Int) with|(lo,hi)=>pure (lo,(1:Int),Builtin.Slice.slicePlaces lo hi 1)) _ _ s;rw[Am lo hi n];show wpAny _ _ (pure (((eJ n 0 lo:Nat):Int),(1:Int),Builtin.Slice.slicePlaces ((eJ n 0 lo:Nat):Int) ((eJ n n hi:Nat):Int) 1)) _ _ s;rw[An];exact wpAny_pure h
theorem Fl(xs:Array Value)(i k:Nat):((List.range k).filterMap fun (m:Nat)=>xs[((i:Int)+(m:Int)*1).toNat]?).toArray=((xs.toList.drop i).take k).toArray:=by
 have e:(fun (m:Nat)=>xs[((i:Int)+(m:Int)*1).toNat]?)=fun m=>xs[i+m]?:=by
  funext m;have:((i:Int)+(m:Int)*1).toNat=i+m:=by lia
  rw[this]
 rw[e];have:=pick_run xs i k;rw[List.filterMap_map] at this;have e2:((fun x=>xs[x]?) ∘ fun x=>i+x)=fun m=>xs[i+m]?:=rfl;rw[e2] at this;rw[this]
theorem mK{t sl:Addr}{items:Array Value}{vl vu:Value}{lo hi:Option Int}{Q:Value->Shared->Prop}(ht:IsTup s.heap t items)(hs:s.heap.IsSliceOf sl vl vu .none)(pl:IsPart vl lo)(pu:IsPart vu hi)(hw:¬ (eJ items.size 0 lo=0/\eJ items.size items.size hi=items.size))(h:Q (.ref s.heap.objs.size) { s with heap:=s.heap.push { cls:=.type "tuple",data:=.seq ((items.toList.drop (eJ items.size 0 lo)).take (eJ items.size items.size hi-eJ items.size 0 lo)).toArray } })(lc:items.size<=sizeLine):wpAny (model prog w) A (getItem (.ref t) (.ref sl)) Q E s:=by
 have BQ:sizeOk (.seq ((items.toList.drop (eJ items.size 0 lo)).take (eJ items.size items.size hi-eJ items.size 0 lo)).toArray):=by
  show ((items.toList.drop (eJ items.size 0 lo)).take (eJ items.size items.size hi-eJ items.size 0 lo)).toArray.size<=sizeLine;rw[bJ,lq,lI,lD];lia
 have hj:eJ items.size items.size hi<=items.size:=ND _ _ (bt _) hi;obtain⟨os,BP,Vv,IN⟩:=id hs;have WD:s.TypeIs (.ref sl) "slice":=⟨os,BP,Vv⟩
 unfold getItem;try with_reducible refine fZ ?_
 first|refine aD (wpAny_pure ?_)|skip
 refine aD (wpAny_sequenceKey ht.typeIs (by decide) ?_);refine aD (nV (name:=Str.ofString "__getitem__") ht.typeIs t_
  (lJ t_ ht.typeIs entry_tuple_getitem ?_ (args_tuple_getitem _ _)))
 show wpAny _ _ (Builtin.Tuple.tupleItemsOf (.ref t) >>= _) _ _ s;refine aD (tupleItemsOf_ ht ?_);refine aD (rl WD ?_);rw[ap (by decide)];refine aD (i7 hs pl pu ?_);have Fm:¬ ((((eJ items.size 0 lo:Nat):Int)==0&&(1:Int)==1&&(eJ items.size items.size hi-eJ items.size 0 lo)==items.size)=true):=by
  intro q;rw[fA,fA] at q;have q1:((eJ items.size 0 lo:Nat):Int)=0:=eq_of_beq q.1.1;have q2:eJ items.size items.size hi-eJ items.size 0 lo=items.size:=eq_of_beq q.2;exact hw ⟨by lia,by lia⟩
 show wpAny _ _ (if (((eJ items.size 0 lo:Nat):Int)==0&&(1:Int)==1&&(eJ items.size items.size hi-eJ items.size 0 lo)==items.size)=true then _ else _) _ _ s;rw[aq Fm,Fl];first
  |exact aD (m:=Builtin.Tuple.tupleExact _) (j4 (wpAny_pure ⟨_,rfl,wpAny_pure h⟩) BQ)
  |exact aD (m:=Builtin.Tuple.tupleExact _) (j4 (aD (wpAny_pure (wpAny_pure ⟨_,rfl,wpAny_pure h⟩))) BQ)
  |exact aD (aD (m:=Builtin.Tuple.tupleExact _) (j4 (wpAny_pure (wpAny_pure ⟨_,rfl,wpAny_pure h⟩)) BQ))
  |exact aD (aD (m:=Builtin.Tuple.tupleExact _) (j4 (wpAny_pure ⟨_,rfl,wpAny_pure h⟩) BQ))
end
end HT
namespace L2
open PySem PySem.Spec PyProof.Rows
abbrev TO:=St->Hp->(Option Int->Hp->Prop)->Prop
def PO(X:Cx)(e:Option Expr)(t:TO):Prop:=
 ∀ (ag:List (Addr×Obj)) (s:Shared) (σ:St) (H:Hp) (Q:Option Int->Hp->Prop),aU X ag σ H s->t σ H Q->
  wpAny (model X.prog X.w) X.A (evalPart e X.env) (fun u s'=>∃o H',aU X ag σ H' s'/\IsPart u o/\Q o H') X.xe s
def Js:TO:=fun _ H Q=>Q none H
def Rv(t:TE):TO:=fun σ H Q=>t σ H fun x H1=>∃i,x=.int i/\Q (some i) H1
theorem Ao{ns:List Int}:∀ {us:List Value},ba (ns.map V.int) us->IntsAre us ns:=by
 induction ns with
 |nil=>intro us r;rw[List.map_nil] at r;cases r;exact .nil
 |cons n ns ih=>
  intro us r;rw[fu] at r;cases r with
  |cons r1 r2=>
   obtain⟨t,e⟩:=r1;subst e;exact .cons n t (ih r2)
section
variable {X:Cx} {e:Expr} {te:TE} {lo hi:Option Expr} {tl th:TO} {pos p2:Pos}
theorem kX:PO X none Js:=by
 intro ag s σ H Q I h;rw[evalPart_none];exact wpAny_pure ⟨none,H,I,.none,h⟩
theorem kY(h:PE X e te):PO X (some e) (Rv te):=by
 intro ag s σ H Q I hw;rw[evalPart_some];refine cV (h ag s σ H _ I hw) fun u s1 ⟨x,H1,I1,r1,q1⟩=>?_;obtain⟨i,rfl,q⟩:=q1;obtain⟨t,rfl⟩:=r1;exact⟨some i,H1,I1,.int i t,q⟩
def Vw(X:Cx)(r:V->Option Int->Option Int->Hp->VK->Prop):Prop:=
 ∀ (ag:List (Addr×Obj)) (s:Shared) (σ:St) (H:Hp) (x:V) (v vl vu:Value) (lo hi:Option Int) (sl:Addr) (Q:VK),aU X ag σ H s->bX x v->s.heap.IsSliceOf sl vl vu .none->IsPart vl lo->IsPart vu hi->r x lo hi H Q->
  ∃T id,typeLookup (.type T) "__getitem__"=pure (some (.builtin id))/\s.TypeIs v T/\wpAny (model X.prog X.w) X.A (getItem v (.ref sl)) (EP X ag σ Q) X.xe s
def tSl(r:V->Option Int->Option Int->Hp->VK->Prop)(te:TE)(tl th:TO):TE:=fun σ H Q=>te σ H fun x H1=>tl σ H1 fun l H2=>th σ H2 fun u H3=>r x l u H3 Q
theorem i8(hr:Vw X r)(he:PE X e te)(hl:PO X lo tl)(hu:PO X hi th):PE X (.Subscript e (.Slice lo hi none p2) pos) (tSl r te tl th):=by
 intro ag s σ H Q I h;refine Subscript_ (cV (he ag s σ H _ I h) fun v s1 ⟨x,H1,I1,r1,q1⟩=>?_);refine wpAny_Slice (cV (hl ag s1 σ H1 _ I1 q1) fun vl s2 ⟨l,H2,I2,pl,q2⟩=>cV (hu ag s2 σ H2 _ I2 q2) fun vu s3 ⟨u,H3,I3,pu,q3⟩=>?_);rw[evalPart_none];refine wpAny_pure ?_;have I4:aU X ag σ H3 { s3 with heap:=s3.heap.push { cls:=.type "slice",data:=.fields #[vl,vu,.none] } }:=I3.kept (t':=s3.toks) fun b ob q=>bY _ q;obtain⟨T,id,hT,ht,hg⟩:=hr ag { s3 with heap:=s3.heap.push { cls:=.type "slice",data:=.fields #[vl,vu,.none] } } σ H3 x v vl vu l u s3.heap.objs.size Q I4 r1 (Heap.IsSliceOf.new ..) pl pu q3;show wpAny (model X.prog X.w) X.A (subscriptTail e (.Slice lo hi none p2) v (.ref s3.heap.objs.size)) (EP X ag σ Q) X.xe { s3 with heap:=s3.heap.push { cls:=.type "slice",data:=.fields #[vl,vu,.none] } };exact tail_any (ops:=[.ref s3.heap.objs.size,v]) ht hT hg (by with_unfolding_all rfl)
def mL(xs:List V)(lo hi:Option Int):List V:=(xs.drop (HT.eJ xs.length 0 lo)).take (HT.eJ xs.length xs.length hi-HT.eJ xs.length 0 lo)
theorem pM(xs:List V)(lo hi:Option Int):(mL xs lo hi).length<=xs.length:=by
 unfold mL;rw[lq,lI];lia
def WE(K:PySem.W.Frag):V->Option Int->Option Int->Hp->VK->Prop:=fun x lo hi H Q=>∃a xs,x=.ref a/\bv K H a xs/\
 ¬ (HT.eJ xs.length 0 lo=0/\HT.eJ xs.length xs.length hi=xs.length)/\∀p,H p=none->Q (.ref p) (upd H p (.tup (mL xs lo hi)))
theorem NF:Vw X (WE X.K):=by
 intro ag s σ H x v vl vu lo hi sl Q I rx hs pl pu h;obtain⟨a,xs,rfl,hx,hw,q⟩:=h;cases rx;obtain⟨its,r,ht,hz⟩:=I.tuple hx;have c_:its.toArray.size=xs.length:=by rw[bJ];exact r.length.symm
 refine⟨"tuple",_,t_.lookup,ht.typeIs,?_⟩;refine HT.mK ht hs pl pu (by rw[c_];exact hw) ?_ (by rw[c_];exact hz);rw[c_];refine⟨.ref s.heap.objs.size,_,I.laid (t':=s.toks) (o:=.tup (mL xs lo hi)) (fun b ob q=>bY _ q) (bt _) ?_,rfl,q _ (I.b_.fresh (bt _))⟩;exact⟨bC (pM xs lo hi) hz,_,(r.drop (HT.eJ xs.length 0 lo)).take (HT.eJ xs.length xs.length hi-HT.eJ xs.length 0 lo),ke.new _ _⟩
theorem ba.mP(r:ba xs us):us=[]↔xs=[]:=by
 cases r with
 |nil=>simp
 |cons _ _=>simp
end
def Fn(n:Nat)(i:Int):Option Nat:=if 0<=i then (if i<n then some i.toNat else none) else if -(n:Int)<=i then some (i+n).toNat else none
def Fp{α:Type}(xs:List α)(i:Int):Option α:=(Fn xs.length i).bind fun j=>xs[j]?
theorem mQ(h:Fn n i=some j):seqIndex? i n=some j/\j<n/\-(n:Int)<=i/\i<n:=by
 unfold Fn at h;by_cases h0:0<=i
 .rw[ap h0] at h;by_cases h1:i<n
  .rw[ap h1] at h;have e:i.toNat=j:=bP h;exact⟨by rw[seqIndex_of h0 h1,e],by lia,by lia,h1⟩
  .rw[aq h1] at h;cases h
 .rw[aq h0] at h;by_cases h1:-(n:Int)<=i
  .rw[ap h1] at h;have e:(i+n).toNat=j:=bP h;exact⟨by rw[seqIndex_neg (by lia) h1,e],by lia,h1,by lia⟩
  .rw[aq h1] at h;cases h
theorem BR(h:Fp xs i=some v):∃j,seqIndex? i xs.length=some j/\xs[j]?=some v/\j<xs.length/\-(xs.length:Int)<=i/\i<xs.length:=by
 unfold Fp at h;cases e:Fn xs.length i with
 |none=>rw[e] at h;cases h
 |some j=>
  rw[e] at h;obtain⟨h1,h2,h3,h4⟩:=mQ e;exact⟨j,h1,h,h2,h3,h4⟩
theorem aA{α:Type}{xs:List α}{j:Nat}{v:α}(h:xs[j]?=some v):Fp xs (j:Int)=some v:=by
 have hj:j<xs.length:=(cK.mp h).1;have e:Fn xs.length (j:Int)=some j:=by
  unfold Fn;rw[ap (by lia),ap (by lia)];simp
 unfold Fp;rw[e];exact h
theorem Fq(xs:List α)(v:α):Fp (xs++[v]) (-1)=some v:=by
 have hl:(xs++[v]).length=xs.length+1:=by simp
 have e:Fn (xs++[v]).length (-1)=some xs.length:=by
  unfold Fn;rw[hl,aq (by decide),ap (by lia)];congr 1;lia
 unfold Fp;rw[e];show (xs++[v])[xs.length]?=some v;simp
def Jt(b:Expr):Prop:=∀o i,subscripted b false o i=operate [o,i] (getItem o i)
def WF(X:Cx)(r:R2):Prop:=
 ∀ (value slice:Expr) (ag:List (Addr×Obj)) (s:Shared) (σ:St) (H:Hp) (x y:V) (v u:Value) (Q:VK),aU X ag σ H s->bX x v->bX y u->r x y H Q->
  subscripted slice false v u=operate [v,u] (getItem v u)->wpAny (model X.prog X.w) X.A (subscriptTail value slice v u) (EP X ag σ Q) X.xe s
def WG(X:Cx)(id:String)(r:V->List V->Hp->VK->Prop):Prop:=
 ∀ (ag:List (Addr×Obj)) (s:Shared) (σ:St) (H:Hp) (x:V) (xs:List V) (v:Value) (us:List Value) (Q:VK),aU X ag σ H s->bX x v->ba xs us->r x xs H Q->
  wpAny (model X.prog X.w) X.A (call (.builtin id) (v::us)) (EP X ag σ Q) X.xe s
section
variable {X:Cx} {a b:Expr} {ta tb:TE} {pos:Pos}
theorem aT(hr:WF X r)(ha:PE X a ta)(hb:PE X b tb)(hs:Jt b):PE X (.Subscript a b pos) (gE r ta tb):=by
 intro ag s σ H Q I h;exact Subscript_ (Nq ha hb I h fun v u s2 x y H2 I2 rx ry q=>hr a b ag s2 σ H2 x y v u Q I2 rx ry q (hs _ _))
def oJ(K:PySem.W.Frag):R2:=fun x y H Q=>∃p xs i v,x=.ref p/\y=.int i/\aZ K H p xs/\Fp xs i=some v/\Q v H
def xz(K:PySem.W.Frag):R2:=fun x y H Q=>∃p xs i v,x=.ref p/\y=.int i/\bv K H p xs/\Fp xs i=some v/\Q v H
theorem aO:WF X (oJ X.K):=by
 intro value slice ag s σ H x y v u Q I rx ry h hs;obtain⟨p,xs,i,z,rfl,rfl,hq,he,q⟩:=h;cases rx;obtain⟨t,rfl⟩:=ry;obtain⟨its,r,pl,hz⟩:=I.list hq;obtain⟨j,h1,h2,h3,h4,h5⟩:=BR he;obtain⟨w,ew,Nl⟩:=r.get h2;have hl:=r.length;have hn:=vH;have dG:EP X ag σ Q w s:=⟨z,H,I,Nl,q⟩
 by_cases h0:0<=i
 .have hj:i.toNat=j:=by
   rw[seqIndex_of h0 h5] at h1;exact bP h1
  exact item_listR pl.isList h0 (by lia) (by rw[hj];simpa using ew) dG hs
 .have hj:(i+(its.toArray.size:Int)).toNat=j:=by
   rw[seqIndex_neg (by lia) h4] at h1;rw[bJ,<-hl];exact bP h1
  exact subscriptTail_builtinR (x:=w) pl.isList.typeIs slot_list_getitem.lookup
   (wpAny_getItem_list_neg (Q:=fun r s'=>r=w/\EP X ag σ Q r s') pl.isList (by lia) (by rw[bJ] <;> lia) (by lia) (by rw[hj];simpa using ew) ⟨rfl,dG⟩) hs
theorem cg:WF X (xz X.K):=by
 intro value slice ag s σ H x y v u Q I rx ry h hs;obtain⟨p,xs,i,z,rfl,rfl,hq,he,q⟩:=h;cases rx;obtain⟨t,rfl⟩:=ry;obtain⟨its,r,pl,hz⟩:=I.tuple hq;obtain⟨j,h1,h2,h3,h4,h5⟩:=BR he;obtain⟨w,ew,Nl⟩:=r.get h2;have hl:=r.length;have hn:=vH;have dG:EP X ag σ Q w s:=⟨z,H,I,Nl,q⟩
 exact subscriptTail_builtinR (x:=w) pl.typeIs slot_tuple_getitem.lookup
  (getItem_tuple (j:=j) (Q:=fun r s'=>r=w/\EP X ag σ Q r s') pl (by lia) (by lia) (by rw[bJ,<-hl];exact h1) (by simpa using ew) ⟨rfl,dG⟩) hs
theorem Ap(its:List Value)(n j:Nat)(u:Value):Obj.mapSeq (·.setIfInBounds j u) { cls:=.type "list",data:=.seq its.toArray n }={ cls:=.type "list",data:=.seq (its.set j u).toArray n }:=by
 simp[Obj.mapSeq]
theorem aU.lst(I:aU X ag σ H s)(h:H p=some (.lst xs)):
  ∃ (its:List Value) (n:Nat),ba xs its/\s.heap.get? p=some { cls:=.type "list",data:=.seq its.toArray n }/\xs.length<=sizeLine:=by
 obtain⟨z,its,n,r,e⟩:=I.b_ p _ h;exact⟨its,n,r,e,z⟩
theorem aU.NG{ag:List (Addr×Obj)}{σ:St}{H:Hp}{s:Shared}{p:Addr}{xs ys:List V}{its its':List Value}{n n':Nat}{f:Obj->Obj}(I:aU X ag σ H s)(h:H p=some (.lst xs))(ho:s.heap.get? p=some { cls:=.type "list",data:=.seq its.toArray n })(hf:f { cls:=.type "list",data:=.seq its.toArray n }={ cls:=.type "list",data:=.seq its'.toArray n' })(r:ba ys its')(hz:ys.length<=sizeLine)(t:Nat):
  aU X ag σ (upd H p (.lst ys)) { s with heap:=s.heap.update p f,toks:=t }:=by
 have e:(s.heap.update p f).get? p=some { cls:=.type "list",data:=.seq its'.toArray n' }:=by
  rw[zG f ho (by rw[hf] <;> rfl),hf]
 refine I.write (x:=p) (e:=p) (by rw[h];trivial) (.inl rfl) (fun b u hb q=>(zx _ _ (fE hb)).trans q) ⟨_,e⟩ ?_;exact⟨hz,its',n',r,e⟩
def Ry:V->V->V->Hp->(Hp->Prop)->Prop:=fun o i v H Q=>∃p xs k j,o=.ref p/\i=.int k/\H p=some (.lst xs)/\Fn xs.length k=some j/\Q (upd H p (.lst (xs.set j v)))
theorem eC:Rg X Ry:=by
 intro ag s σ H o i v ov iv u Q I ro ri rv h;obtain⟨p,xs,k,j,rfl,rfl,hp,hj,q⟩:=h;cases ro;obtain⟨t,rfl⟩:=ri;obtain⟨its,n,r,ho,hz⟩:=I.lst hp;obtain⟨h1,h2,h3,h4⟩:=mQ hj;have hl:=r.length;have hn:=vH;have I':aU X ag σ (upd H p (.lst (xs.set j v))) { s with heap:=s.heap.update p (Obj.mapSeq (·.setIfInBounds j u)) }:=
  I.NG hp ho (Ap its n j u) (r.set rv j) (by rw[jI];exact hz) s.toks
 by_cases h0:0<=k
 .have hk:k.toNat=j:=by
   rw[seqIndex_of h0 h4] at h1;exact bP h1
  exact PySem.W.ki_setAt ho h0 (by lia) (by rw[bJ,<-hl];exact h4) (by rw[hk];exact⟨_,I',q⟩)
 .have hk:(k+(its.toArray.size:Int)).toNat=j:=by
   rw[seqIndex_neg (by lia) h3] at h1;rw[bJ,<-hl];exact bP h1
  exact PySem.W.ki_setBack ho (by lia) (by rw[bJ,<-hl];exact h3) (by lia) (by rw[hk];exact⟨_,I',q⟩)
theorem vL(lo hi:Option Int)(n:Nat):(sliceBounds lo hi none n).1=((HT.eJ n 0 lo:Nat):Int)/\(sliceBounds lo hi none n).2.1=((HT.eJ n n hi:Nat):Int)/\(sliceBounds lo hi none n).2.2=1:=by
 refine⟨?_,?_,rfl⟩
 .cases lo with
  |none=>simp[sliceBounds,HT.eJ]
  |some i=>
   simp only[sliceBounds,HT.eJ,Option.getD_none,show (1:Int) > 0 by decide,iS];by_cases h:i<0
   .simp only[h,iS] <;> lia
   .simp only[h,gh] <;> lia
 .cases hi with
  |none=>simp[sliceBounds,HT.eJ]
  |some i=>
   simp only[sliceBounds,HT.eJ,Option.getD_none,show (1:Int) > 0 by decide,iS];by_cases h:i<0
   .simp only[h,iS] <;> lia
   .simp only[h,gh] <;> lia
theorem tK(its:List Value)(lo hi:Option Int):slicePick its.toArray lo hi none=((its.drop (HT.eJ its.length 0 lo)).take (HT.eJ its.length its.length hi-HT.eJ its.length 0 lo)).toArray:=by
 obtain⟨h1,h2,h3⟩:=vL lo hi its.toArray.size;unfold slicePick;rw[h1,h2,h3];simp only[sliceRange_one,pick_run,bJ] <;> rfl
def WH(K:PySem.W.Frag):V->Option Int->Option Int->Hp->VK->Prop:=fun x lo hi H Q=>∃a xs,x=.ref a/\aZ K H a xs/\∀p,H p=none->Q (.ref p) (upd H p (.lst (mL xs lo hi)))
theorem BS:Vw X (WH X.K):=by
 intro ag s σ H x v vl vu lo hi sl Q I rx hs pl pu h;obtain⟨a,xs,rfl,hx,q⟩:=h;cases rx;obtain⟨its,r,ht,hz⟩:=I.list hx;have c_:=r.length;refine⟨"list",_,slot_list_getitem.lookup,ht.isList.typeIs,?_⟩;refine wpAny_getItem_list_slice ht.isList hs pl pu .none (by simp) ?_ (by rw[bJ] <;> lia);rw[tK,<-c_];refine⟨.ref s.heap.objs.size,_,I.laid (t':=s.toks) (o:=.lst (mL xs lo hi)) (fun b ob q=>bY _ q) (bt _) ?_,rfl,q _ (I.b_.fresh (bt _))⟩;exact⟨bC (pM xs lo hi) hz,_,0,(r.drop (HT.eJ xs.length 0 lo)).take (HT.eJ xs.length xs.length hi-HT.eJ xs.length 0 lo),cI _ rfl⟩
def dA:V->Bool
 |.bD=>true
 |.bl _=>true
 |.int _=>true
 |.str _=>true
 |_=>false
def jL:V->V->Bool
 |.bD,.bD=>true
 |.bl a,.bl b=>a==b
 |.bl a,.int b=>(if a then 1 else 0)==b
 |.int a,.bl b=>a==(if b then 1 else 0)
 |.int a,.int b=>a==b
 |.str a,.str b=>a==b
 |_,_=>false
theorem Fs(ry:bX y u)(rx:bX x v)(fy:dA y=true)(fx:dA x=true):SeqAt.EqAt A s u v (jL y x):=by
 cases y with
 |bD=>
  cases ry;cases x with
  |bD=>cases rx;exact SeqAt.EqAt.same _
  |bl b=>cases rx;exact SeqAt.EqAt.none_bool b
  |int b=>obtain⟨t,rfl⟩:=rx;exact SeqAt.EqAt.none_int b t
  |str b=>obtain⟨t,rfl⟩:=rx;exact SeqAt.EqAt.none_str b t
  |_=>exact absurd (show false=true from fx) cF
 |bl a=>
  cases ry;cases x with
  |bD=>cases rx;exact SeqAt.EqAt.bool_none a
  |bl b=>cases rx;exact SeqAt.EqAt.bool_bool a b
  |int b=>obtain⟨t,rfl⟩:=rx;exact SeqAt.EqAt.bool_int a b t
  |str b=>obtain⟨t,rfl⟩:=rx;exact SeqAt.EqAt.bool_str a b t
  |_=>exact absurd (show false=true from fx) cF
 |int a=>
  obtain⟨t',rfl⟩:=ry;cases x with
  |bD=>cases rx;exact SeqAt.EqAt.int_none a t'
  |bl b=>cases rx;exact SeqAt.EqAt.int_bool a t' b
  |int b=>obtain⟨t,rfl⟩:=rx;exact SeqAt.EqAt.int_int a t' b t
  |str b=>obtain⟨t,rfl⟩:=rx;exact SeqAt.EqAt.int_str a t' b t
  |_=>exact absurd (show false=true from fx) cF
 |str a=>
  obtain⟨t',rfl⟩:=ry;cases x with
  |bD=>cases rx;exact SeqAt.EqAt.str_none a t'
  |bl b=>cases rx;exact SeqAt.EqAt.str_bool a t' b
  |int b=>obtain⟨t,rfl⟩:=rx;exact SeqAt.EqAt.str_int a t' b t
  |str b=>obtain⟨t,rfl⟩:=rx;exact SeqAt.EqAt.str_str a t' b t
  |_=>exact absurd (show false=true from fx) cF
 |_=>exact absurd (show false=true from fy) cF
def uk(x:V)(u:Value):Bool:=match u with
 |.none=>jL .bD x
 |.bool b=>jL (.bl b) x
 |.int i _=>jL (.int i) x
 |.str z _=>jL (.str z) x
 |_=>false
theorem Ft(r:bX y u)(f:dA y=true):uk x u=jL y x:=by
 cases y with
 |bD=>cases r;rfl
 |bl b=>cases r;rfl
 |int i=>obtain⟨t,rfl⟩:=r;rfl
 |str z=>obtain⟨t,rfl⟩:=r;rfl
 |_=>exact absurd (show false=true from f) cF
theorem kZ:∀ {xs:List V} {us:List Value},ba xs us->xs.all dA=true->us.any (uk x)=xs.any fun y=>jL y x
 |_,_,.nil,_=>rfl
 |y::xs,u::us,.cons r t,f=>by
  rw[jm,fA] at f;rw[ot,ot,Ft r f.1,kZ t f.2]
theorem il(rx:bX x v)(fx:dA x=true):∀ {xs:List V} {us:List Value},ba xs us->xs.all dA=true->∀u∈us,SeqAt.EqAt A s u v (uk x u)
 |_,_,.nil,_=>fun u hu=>by cases hu
 |y::xs,u::us,.cons r t,f=>fun u' hu=>by
  rw[jm,fA] at f;rcases bK.mp hu with rfl|hu
  .rw[Ft r f.1];exact Fs r rx f.1 fx
  .exact il rx fx t f.2 u' hu
def EC(x:V)(xs:List V):Bool:=xs.any fun y=>jL y x
def Rz(K:PySem.W.Frag)(neg:Bool):R2:=fun x y H Q=>∃p xs,y=.ref p/\(aZ K H p xs\/bv K H p xs)/\dA x=true/\xs.all dA=true/\Q (.bl (if neg then !EC x xs else EC x xs)) H
theorem oK:lU X (compareOp .In) (Rz X.K false):=by
 intro ag s σ H x y v u Q I rx ry h;obtain⟨p,xs,rfl,hq,fx,fs,q⟩:=h;cases ry;rcases hq with hq|hq
 .obtain⟨its,r,pl,hz⟩:=I.list hq;refine SeqAt.in_listAt (uk x) pl.isList (fun w hw=>il rx fx r fs w (by simpa using hw)) ⟨.bl _,H,I,rfl,?_⟩;rw[show its.toArray.any (uk x)=its.any (uk x) by simp,kZ r fs];exact q
 .obtain⟨its,r,pl,hz⟩:=I.tuple hq;refine SeqAt.in_tupleAt (uk x) pl (fun w hw=>il rx fx r fs w (by simpa using hw)) ⟨.bl _,H,I,rfl,?_⟩;rw[show its.toArray.any (uk x)=its.any (uk x) by simp,kZ r fs];exact q
theorem vM:lU X (compareOp .NotIn) (Rz X.K true):=by
 intro ag s σ H x y v u Q I rx ry h;obtain⟨p,xs,rfl,hq,fx,fs,q⟩:=h;cases ry;rcases hq with hq|hq
 .obtain⟨its,r,pl,hz⟩:=I.list hq;refine SeqAt.notIn_listAt (uk x) pl.isList (fun w hw=>il rx fx r fs w (by simpa using hw)) ⟨.bl _,H,I,rfl,?_⟩;rw[show its.toArray.any (uk x)=its.any (uk x) by simp,kZ r fs];exact q
 .obtain⟨its,r,pl,hz⟩:=I.tuple hq;refine SeqAt.notIn_tupleAt (uk x) pl (fun w hw=>il rx fx r fs w (by simpa using hw)) ⟨.bl _,H,I,rfl,?_⟩;rw[show its.toArray.any (uk x)=its.any (uk x) by simp,kZ r fs];exact q
theorem aF:et X (.builtin "len") (fun xs H Q=>∃p ys,xs=[.ref p]/\(aZ X.K H p ys\/bv X.K H p ys)/\Q (.int ys.length) H):=by
 intro ag s σ H xs us Q I r h;obtain⟨p,ys,rfl,hq,q⟩:=h;obtain⟨u,rfl,rx⟩:=BM r;cases rx;have hn:=vH;rcases hq with hq|hq
 .obtain⟨its,r',pl,hz⟩:=I.list hq;have c_:=r'.length;exact Calls.call_len_list pl.isList (by simp only[bJ] <;> lia) ⟨.int ys.length,H,I.tok _,⟨s.toks+1,by rw[bJ,c_]⟩,q⟩
 .obtain⟨its,r',pl,hz⟩:=I.tuple hq;have c_:=r'.length;exact len_tuple pl (by simp only[bJ] <;> lia) ⟨.int ys.length,H,I.tok _,⟨s.toks+1,by rw[bJ,c_]⟩,q⟩
theorem jx:et X (.type "list") (fun xs H Q=>∃p ys,xs=[.ref p]/\(aZ X.K H p ys\/bv X.K H p ys)/\∀l,H l=none->Q (.ref l) (upd H l (.lst ys))):=by
 intro ag s σ H xs us Q I r h;obtain⟨p,ys,rfl,hq,q⟩:=h;obtain⟨u,rfl,rx⟩:=BM r;cases rx;have dG:∀ (its:List Value),ba ys its->ys.length<=sizeLine->∀ (h':Heap) (c':Nat),(∀b o',s.heap.get? b=some o'->h'.get? b=some o')->
   h'.get? s.heap.objs.size=some { cls:=.type "list",dict:=none,data:=.seq its.toArray c',slots:=#[] }->EP X ag σ Q (.ref s.heap.objs.size) { s with heap:=h' }:=fun its r' hz h' c' kp e=>
  ⟨.ref s.heap.objs.size,_,I.laid (t':=s.toks) kp (bt _) (show cu X.prog X.w _ h' _ (.lst ys) from ⟨hz,its,c',r',e⟩),rfl,q _ (I.b_.fresh (bt _))⟩
 rcases hq with hq|hq
 .obtain⟨its,r',pl,hz⟩:=I.list hq;have c_:=r'.length;obtain⟨o,ho,hc,n,hd⟩:=pl.isList;exact call_list_seq p (.inl rfl) ho hc hd (fun h' c' kp e=>dG its r' hz h' c' kp e) (by simp only[bJ] <;> lia)
 .obtain⟨its,r',pl,hz⟩:=I.tuple hq;have c_:=r'.length;obtain⟨o,ho,hc,n,hd⟩:=pl;exact call_list_seq p (.inr rfl) ho hc hd (fun h' c' kp e=>dG its r' hz h' c' kp e) (by simp only[bJ] <;> lia)
theorem dQ:et X (.type "tuple") (fun xs H Q=>∃p ys,xs=[.ref p]/\((aZ X.K H p ys/\∀l,H l=none->Q (.ref l) (upd H l (.tup ys)))\/(bv X.K H p ys/\Q (.ref p) H))):=by
 intro ag s σ H xs us Q I r h;obtain⟨p,ys,rfl,h⟩:=h;obtain⟨u,rfl,rx⟩:=BM r;cases rx;rcases h with ⟨hq,q⟩|⟨hq,q⟩
 .obtain⟨its,r',pl,hz⟩:=I.list hq;have c_:=r'.length;refine call_tuple_list pl.isList (fun h' kp=>?_) (by simp only[bJ] <;> lia);have I1:aU X ag σ H { s with heap:=h' }:=I.kept (t':=s.toks) kp;have I2:aU X ag σ (upd H h'.objs.size (.tup ys)) { s with heap:=h'.push { cls:=.type "tuple",data:=.seq its.toArray } }:=
   I1.laid (t':=s.toks) (fun b o e=>bY _ e) (bt _) (show cu X.prog X.w _ _ _ (.tup ys) from ⟨hz,its,r',ke.new _ _⟩)
  exact⟨.ref h'.objs.size,_,I2,rfl,q _ (I1.b_.fresh (bt _))⟩
 .obtain⟨its,r',pl,hz⟩:=I.tuple hq;exact call_tuple_same pl ⟨.ref p,H,I,rfl,q⟩
def WI(K:PySem.W.Frag)(T:String)(x:V)(H:Hp):Prop:=match x with
 |.str _=>T="str"
 |.int _=>T="int"
 |.ref p=>(T="list"/\∃xs,aZ K H p xs)\/(T="tuple"/\∃o,K.lookup p=some o/\o.cls=.type "tuple"/\o.dict=none)\/
   (T="dict"/\((∃cN,H p=some (.dK cN))\/∃cN,H p=some (.dT cN)))\/(T="set"/\∃S n,H p=some (.set S n))
 |_=>False
theorem Fu(I:aU X ag σ H s)(r:bX x v)(ty:WI X.K T x H):
  s.TypeIs v T/\∀a,v=.ref a->∃ob,s.heap.get? a=some ob/\ob.dict=none:=by
 cases x with
 |str z=>
  obtain⟨t,rfl⟩:=r;cases (show T="str" from ty);exact⟨typeIs_str s z t,fun _ e=>nomatch e⟩
 |int i=>
  obtain⟨t,rfl⟩:=r;cases (show T="int" from ty);exact⟨typeIs_int s i t,fun _ e=>nomatch e⟩
 |ref p=>
  cases r;rcases ty with ⟨rfl,xs,hq⟩|⟨rfl,o,hk,hc,hd⟩|⟨rfl,hk⟩|⟨rfl,S,n,hk⟩
  .obtain⟨its,_,pl,_⟩:=I.list hq;refine⟨pl.isList.typeIs,fun a e=>?_⟩;cases e;obtain⟨o,n,e,c,hd,_⟩:=pl;exact⟨o,e,hd⟩
  .refine⟨⟨o,I.mj p o hk,hc⟩,fun a e=>?_⟩;cases e;exact⟨o,I.mj _ o hk,hd⟩
  .have z:∃o,s.heap.get? p=some o/\o.ExactDict:=by
    rcases hk with ⟨cN,hk⟩|⟨cN,hk⟩
    .obtain⟨_,_,_,_,o,_,_,e,ex,_⟩:=I.b_ p _ hk;exact⟨o,e,ex⟩
    .obtain⟨_,_,_,_,o,_,_,e,ex,_⟩:=I.b_ p _ hk;exact⟨o,e,ex⟩
   obtain⟨o,e,ex⟩:=z;refine⟨⟨o,e,ex.1⟩,fun a e2=>?_⟩;cases e2;exact⟨o,e,ex.2.1⟩
  .obtain⟨o,_,_,_,e,ex,_⟩:=I.b_ p _ hk;refine⟨⟨o,e,ex.1⟩,fun a e2=>?_⟩;cases e2;exact⟨o,e,ex.2.1⟩
 |_=>exact False.elim ty
def WJ(K:PySem.W.Frag)(T:String)(r:V->List V->Hp->VK->Prop)(to:TE):TE:=fun σ H Q=>to σ H fun x H1=>WI K T x H1/\r x [] H1 Q
def WK(K:PySem.W.Frag)(T:String)(r:V->List V->Hp->VK->Prop)(to:TE)(t:TA):TE:=fun σ H Q=>to σ H fun x H1=>WI K T x H1/\t σ H1 fun xs H2=>r x xs H2 Q
variable {o e:Expr} {es:List Expr} {to:TE} {t:TA} {name:Str} {kq iw:Pos} {T id:String} {r:V->List V->Hp->VK->Prop}
theorem NH(pa:PlainAttrs T)(slot:Slot T name id)(RA:typeOf (.builtin id)=pure (.type "method_descriptor"))(hm:WG X id r)(ho:PE X o to)(xA:attributeBase o name X.env (eval o X.env)=eval o X.env:=by rfl)(xB:(kq.endLine==iw.line)=true:=by rfl):PE X (.Call (.Attribute o name kq) [] [] iw) (WJ X.K T r to):=by
 intro ag s σ H Q I h;refine wpAny_Call_method0_late xA xB (cV (ho ag s σ H _ I h) fun v s1 ⟨x,H1,I1,r1,ty,q1⟩=>?_);obtain⟨h1,h2⟩:=Fu I1 r1 ty;exact⟨T,id,pa,slot,RA,h1,h2,zy rfl (PySem.evalArgs_none (hm ag s1 σ H1 x [] v [] Q I1 r1 .nil q1))⟩
theorem gG(pa:PlainAttrs T)(slot:Slot T name id)(RA:typeOf (.builtin id)=pure (.type "method_descriptor"))(hm:WG X id r)(ho:PE X o to)(ha:PA X (e::es) t)(xA:attributeBase o name X.env (eval o X.env)=eval o X.env:=by rfl)(NI:((backTo iw (starEach (e::es) X.env)).all (fun x=>!x.1)&&(backToKw iw (keywordEach [] X.env)).all (fun x=>x.1.isSome)
   && decide ((e::es).length+([]:List Keyword).length+(if ([]:List Keyword).isEmpty then 0 else 1)<30))=true:=by rfl)(xB:(kq.endLine==iw.line)=true:=by rfl)(hs:starEach (e::es) X.env=(false,eval e X.env)::starEach es X.env:=by rfl)(rH:(backTo iw (starEach es X.env)).any (·.1)=false:=by rfl):
  PE X (.Call (.Attribute o name kq) (e::es) [] iw) (WK X.K T r to t):=by
 intro ag s σ H Q I h;refine wpAny_Call_method_late xA NI xB rfl (cV (ho ag s σ H _ I h) fun v s1 ⟨x,H1,I1,r1,ty,q1⟩=>?_);obtain⟨h1,h2⟩:=Fu I1 r1 ty;refine⟨T,id,pa,slot,RA,h1,h2,?_⟩;have hA:=ha iw ag s1 σ H1 _ I1 q1;rw[hs] at hA |-;refine zy (by show (false||(backTo iw (starEach es X.env)).any (·.1))=false;rw[rH] <;> rfl) (zM ?_);exact cV hA fun us s2 ⟨vs,H2,I2,r2,q2⟩=>hm ag s2 σ H2 x vs v us Q I2 r1 r2 q2
end
def NJ(X:Cx)(id:String)(r:V->List V->Hp->VK->Prop):Prop:=
 ∀ (ag:List (Addr×Obj)) (s:Shared) (σ:St) (H:Hp) (x:V) (xs:List V) (v:Value) (us:List Value) (Q:VK),aU X ag σ H s->bX x v->ba xs us->r x xs H Q->
  wpAny (model X.prog X.w) X.A (call (.builtin id) (v::us)) (EP X ag σ Q) X.xe s
theorem ba.one{x:V}{us:List Value}(h:ba [x] us):∃u,us=[u]/\bX x u:=by
 cases h with
 |cons r h=>cases h;exact⟨_,rfl,r⟩
theorem ba.two{x y:V}{us:List Value}(h:ba [x,y] us):∃u v,us=[u,v]/\bX x u/\bX y v:=by
 cases h with
 |cons r h=>
  cases h with
  |cons q h=>cases h;exact⟨_,_,rfl,r,q⟩
theorem ba.zero:∀ {us:List Value},ba [] us->us=[]
 |_,.nil=>rfl
theorem ba.eraseIdx:∀ {xs:List V} {us:List Value} (i:Nat),ba xs us->ba (xs.eraseIdx i) (us.eraseIdx i)
 |_,_,_,.nil=>.nil
 |_,_,0,.cons _ t=>t
 |_,_,i+1,.cons r t=>.cons r (ba.eraseIdx i t)
theorem ba.rep(h:ba xs us):∀k:Nat,ba (List.replicate k xs).flatten (List.replicate k us).flatten
 |0=>.nil
 |k+1=>by
  rw[mC,mC,qW,qW];exact ba.append h (ba.rep h k)
theorem ul:∀ (l:List α) (i:Nat),(l.eraseIdx i).length<=l.length
 |[],_=>bt _
 |_::_,0=>Nat.le_succ _
 |_::r,i+1=>Nat.succ_le_succ (ul r i)
theorem um(its:List Value):∀ (k:Nat) (dR:List Value),
  List.foldl (fun x1 x2=>x1++x2) dR.toArray (List.replicate k its.toArray)=(dR++(List.replicate k its).flatten).toArray
 |0,dR=>by simp
 |k+1,dR=>by
  have e:dR.toArray++its.toArray=(dR++its).toArray:=by simp
  have e2:(dR++its)++(List.replicate k its).flatten=dR++(List.replicate (k+1) its).flatten:=by
   rw[mC,qW,dw]
  rw[<-e2,<-um its k (dR++its),<-e,mC,vh]
section
variable {X:Cx} {ag:List (Addr×Obj)} {σ:St} {H:Hp} {s:Shared} {l b:Addr} {xs ys zs:List V}
theorem aU.Fv{its its':List Value}{n:Nat}{f:Array Value->Array Value}{t':Nat}(I:aU X ag σ H s)(hH:H l=some (.lst xs))(e:s.heap.get? l=some { cls:=.type "list",data:=.seq its.toArray n })(hf:f its.toArray=its'.toArray)(hv:ba ys its')(hz:ys.length<=sizeLine):
  aU X ag σ (upd H l (.lst ys)) { s with heap:=s.heap.update l (Obj.mapSeq f),toks:=t' }:=by
 have q:=PySem.IsL.update e f;rw[hf] at q;refine I.write (x:=l) (e:=l) (by rw[hH];exact trivial) (.inl rfl) (fun b' u hb hu=>(zx s.heap (Obj.mapSeq f) (fE hb)).trans hu) ⟨_,q⟩ ?_;exact⟨hz,its',_,hv,q⟩
theorem aU.NK(I:aU X ag σ H s)(hv:ba ys its)(hz:ys.length<=sizeLine):
  aU X ag σ (upd H s.heap.objs.size (.lst ys)) { s with heap:=s.heap.push { cls:=.type "list",data:=.seq its.toArray },toks:=t' }:=
 I.laid (fun _ _ q=>bY _ q) (bt _) ⟨hz,its,0,hv,cI _ rfl⟩
theorem aU.fresh(I:aU X ag σ H s):H s.heap.objs.size=none:=I.b_.fresh (bt _)
theorem aU.rJ(I:aU X ag σ H s)(hH:H l=some (.lst xs)):xs.length<=sizeLine/\∃ (its:List Value) (n:Nat),ba xs its/\xs.length=its.length/\s.heap.get? l=some { cls:=.type "list",data:=.seq its.toArray n }:=by
 obtain⟨z,its,n,r,e⟩:=I.b_ l _ hH;exact⟨z,its,n,r,r.length,e⟩
theorem xC(h:n<=sizeLine):Builtin.List.listTooLong n=false:=by
 unfold Builtin.List.listTooLong;exact dO (by lia)
end
section
variable {X:Cx}
def Ju:V->List V->Hp->VK->Prop:=fun x vs H Q=>∃l xs y,x=.ref l/\vs=[y]/\H l=some (.lst xs)/\xs.length<sizeLine/\Q .bD (upd H l (.lst (xs++[y])))
theorem dS:NJ X "list.append" Ju:=by
 intro ag s σ H x vs v us Q I rx rv h;obtain⟨l,xs,y,rfl,rfl,hH,hz,q⟩:=h;cases rx;obtain⟨u,rfl,ru⟩:=rv.one;obtain⟨z,its,n,r,hl,e⟩:=I.rJ hH;refine iR F.slot_list_append ⟨_,e,rfl⟩ F.entry_list_append (F.args_list_append_2 _ _) (PySem.list_append l its.toArray n u (by rw[bJ];lia)) ⟨e,?_⟩;refine⟨.bD,_,I.Fv (its':=its++[u]) hH e (by simp) (r.append (.cons ru .nil)) ?_,rfl,q⟩;rw[cf,jT];lia
def Jv:V->List V->Hp->VK->Prop:=fun x vs H Q=>∃l b xs zs,x=.ref l/\vs=[.ref b]/\H l=some (.lst xs)/\H b=some (.lst zs)/\xs.length+zs.length<=sizeLine/\Q .bD (upd H l (.lst (xs++zs)))
theorem oM:NJ X "list.extend" Jv:=by
 intro ag s σ H x vs v us Q I rx rv h;obtain⟨l,b,xs,zs,rfl,rfl,hH,hB,hz,q⟩:=h;cases rx;obtain⟨u,rfl,ru⟩:=rv.one;cases ru;obtain⟨z,its,n,r,hl,e⟩:=I.rJ hH;obtain⟨z2,ku,n2,r2,NL,e2⟩:=I.rJ hB;have lc:its.toArray.size+ku.toArray.size<=sizeLine:=by rw[bJ,bJ];lia
 have Fw:¬ (!its.toArray.isEmpty&&Builtin.List.listTooLong (its.toArray.size+ku.toArray.size))=true:=by
  rw[xC lc,vk];exact cF
 refine iR F.slot_list_extend ⟨_,e,rfl⟩ F.entry_list_extend (F.args_list_extend_2 _ _)
  (AutoSeq1.list_extend_list_list_0 l its.toArray n b ku.toArray n2 Fw (by rw[bJ];lia) (by lia)) ⟨e,e2,?_⟩
 refine⟨.bD,_,I.Fv (its':=its++ku) hH e (by simp) (r.append r2) ?_,rfl,q⟩;rw[cf];lia
def Fx:V->List V->Hp->VK->Prop:=fun x vs H Q=>∃l xs i k y,x=.ref l/\vs=[.int i]/\H l=some (.lst xs)/\-(2 ^ 63)<=i/\i<2 ^ 63/\seqIndex? i xs.length=some k/\xs[k]?=some y/\Q y (upd H l (.lst (xs.eraseIdx k)))
theorem rK:NJ X "list.pop" Fx:=by
 intro ag s σ H x vs v us Q I rx rv h;obtain⟨l,xs,i,k,y,rfl,rfl,hH,h1,h2,hk,hy,q⟩:=h;cases rx;obtain⟨u,rfl,ru⟩:=rv.one;obtain⟨t,rfl⟩:=ru;obtain⟨z,its,n,r,hl,e⟩:=I.rJ hH;obtain⟨w,hw,Nl⟩:=r.get hy;refine iR F.slot_list_pop ⟨_,e,rfl⟩ F.entry_list_pop (F.args_list_pop_2 _ _)
  (MeetsSeq.list_pop_at l its.toArray n i t k w (fitsIndex_both h1 h2) (by rw[bJ,<-hl];exact hk) (by rw[<-nX];exact hw) (by rw[bJ];lia)) ⟨e,?_⟩
 refine⟨y,_,I.Fv (its':=its.eraseIdx k) hH e ?_ (r.eraseIdx k) ?_,Nl,q⟩
 .show its.toArray.eraseIdxIfInBounds k=(its.eraseIdx k).toArray;rw[EL]
 .have:=ul xs k;lia
def NM:V->List V->Hp->VK->Prop:=fun x vs H Q=>∃l xs,x=.ref l/\vs=[]/\H l=some (.lst xs)/\Q .bD (upd H l (.lst []))
theorem Fy:NJ X "list.clear" NM:=by
 intro ag s σ H x vs v us Q I rx rv h;obtain⟨l,xs,rfl,rfl,hH,q⟩:=h;cases rx;have hus:=rv.zero;subst hus;obtain⟨z,its,n,r,hl,e⟩:=I.rJ hH;refine iR F.slot_list_clear ⟨_,e,rfl⟩ F.entry_list_clear (F.args_list_clear_1 _) (AutoSeq1.list_clear_list_0 l its.toArray n (by rw[bJ];lia)) ⟨e,?_⟩;exact⟨.bD,_,I.Fv (its':=[]) (ys:=[]) hH e rfl .nil (cM _),rfl,q⟩
def WM:R2:=fun x y H Q=>∃l b xs zs,x=.ref l/\y=.ref b/\H l=some (.lst xs)/\H b=some (.lst zs)/\xs.length+zs.length<=sizeLine/\∀p,H p=none->Q (.ref p) (upd H p (.lst (xs++zs)))
theorem NN:lU X (binaryOp .Add) WM:=by
 intro ag s σ H x y v u Q I rx ry h;obtain⟨l,b,xs,zs,rfl,rfl,hH,hB,hz,q⟩:=h;cases rx;cases ry;obtain⟨z,its,n,r,hl,e⟩:=I.rJ hH;obtain⟨z2,ku,n2,r2,NL,e2⟩:=I.rJ hB;refine PySem.P.add_list e e2 ?_ (by rw[bJ,bJ];lia);have ea:its.toArray++ku.toArray=(its++ku).toArray:=by simp
 rw[ea];exact⟨.ref _,_,I.NK (t':=s.toks) (r.append r2) (by rw[cf];lia),rfl,q _ I.fresh⟩
def WN:R2:=fun x y H Q=>∃l k xs,x=.ref l/\y=.int k/\H l=some (.lst xs)/\-(2 ^ 63)<=k/\k<2 ^ 63/\xs.length*k.toNat<=sizeLine/\
 ∀p,H p=none->Q (.ref p) (upd H p (.lst (List.replicate k.toNat xs).flatten))
theorem Jw(xs:List α)(k:Nat):(List.replicate k xs).flatten.length=k*xs.length:=by
 induction k with
 |zero=>simp
 |succ k ih=>rw[mC,qW,cf,ih,vt,Nat.add_comm]
theorem vN:lU X (binaryOp .Mult) WN:=by
 intro ag s σ H x y v u Q I rx ry h;obtain⟨l,k,xs,rfl,rfl,hH,h1,h2,hz,q⟩:=h;cases rx;obtain⟨t,rfl⟩:=ry;obtain⟨z,its,n,r,hl,e⟩:=I.rJ hH;have c_:its.toArray.size*k.toNat<=sizeLine:=by rw[bJ,<-hl];exact hz
 have WP:¬ its.toArray.size*k.toNat > (2 ^ 63-1) / 8:=by
  have:(sizeLine:Nat)<=(2 ^ 63-1) / 8:=by decide
  lia
 have WQ:¬ (!Builtin.List.listFitsIndex k)=true:=by
  rw[fitsIndex_both h1 h2];exact cF
 have Fw:¬ Builtin.List.listTooLong (its.toArray.size*k.toNat)=true:=by
  rw[xC c_];exact cF
 have rL:List.foldl (fun x1 x2=>x1++x2) #[] (List.replicate (if its.toArray.isEmpty=true then 0 else k.toNat) its.toArray)=(List.replicate k.toNat its).flatten.toArray:=by
  have f0:∀m:Nat,List.foldl (fun x1 x2=>x1++x2) #[] (List.replicate m its.toArray)=(List.replicate m its).flatten.toArray:=fun m=>by
   have:=um its m [];rw[List.nil_append] at this;exact this
  rw[f0];cases its with
  |nil=>simp
  |cons a r'=>rw[aq (by simp)]
 refine wpAny_binaryOp_repeat_ref (T:="list") (U:="int") (by decide) ⟨_,e,rfl⟩ (fun s'=>typeIs_int s' k t) noFill_list_mul F.fills_int_mul F.slot_int_rmul repeat_list F.slot_int_index.lookup
  (iR F.slot_int_rmul (typeIs_int s k t) F.entry_int_rmul (F.args_int_rmul_2 _ _) (int___rmul___int_list k t l its.toArray n)
   ⟨e,rfl,⟨_,e,rfl⟩,iR F.slot_list_mul ⟨_,e,rfl⟩ F.entry_list_mul (F.args_list_mul_2 _ _) (AutoListH.list___mul___list_int_3 l its.toArray n k t WQ WP Fw) ⟨e,?_⟩⟩)
 rw[rL];exact⟨.ref _,_,I.NK (t':=s.toks) (r.rep k.toNat) (by rw[Jw,Nat.mul_comm];exact hz),rfl,q _ I.fresh⟩
end
section
variable {prog:Program} {w:World} {A:Around} {E:Value->Shared->Prop} {s:Shared}
end
section
variable {X:Cx}
end
end L2
namespace ZT
open PySem PySem.W PySem.Calls PyProof.Rows
theorem qg:∀ (ns:List Int) (vs:List Value),WellAll P h vs (ns.map WData.int)->IntsAre vs ns:=by
 intro ns;induction ns with
 |nil=>
  intro vs w;rw[List.map_nil] at w;cases w;exact .nil
 |cons n ns ih=>
  intro vs w;rw[fu] at w;cases w with
  |cons a b=>
   cases a;exact .cons _ _ (ih _ b)
theorem Db{l:OpenLaw}{n:Nat}(hn:l.most=some n){P:Params}{h:Heap}{args:List WData}{Fz:List Value}(Jx:l.row.toRowW.claim.pre args=true)(WS:WellAll P h Fz args):
  ∃a vs ns,Fz=[Value.ref a]/\args=[WData.list (ns.map WData.int)]/\h.get? a=some { cls:=.type "list",data:=.seq vs.toArray }/\IntsAre vs ns/\ns.length<=n:=by
 have hsh:WShape.hasAll [] args [.list .int]=true:=(pre_splitW Jx).1;have hc:l.pre.holds [] { args:=args }=true:=(pre_splitW Jx).2;obtain⟨d,r,rfl,h1,h2⟩:=hasAllW_cons hsh;obtain rfl:=hasAllW_nil h2;obtain⟨xs,rfl,h3⟩:=hasW_list h1;obtain⟨ns,rfl⟩:=items_int h3;have c_:ns.length<=n:=by
  unfold OpenLaw.pre at hc;have h4:(WTm.not (.lt (.lit (.int (n:Int))) (.len (.arg 0)))).holds [] { args:=[.list (ns.map .int)] }=true:=by
   have h4:=(holds_andW hc).1;rw[hn] at h4;exact h4
  have h5:=condW_of h4 (w_not (w_lt w_lit (w_len_list (w_arg rfl))));rw[aP] at h5;refine Nat.le_of_not_lt fun q=>?_;have q':(n:Int)<((ns.length:Nat):Int):=by lia
  first
   |(rw[cL q'] at h5;exact absurd h5 (by decide))
   |(simp at h5;lia)
 cases WS with
 |cons w1 w2=>
  cases w2;cases w1 with
  |list ho oN=>exact⟨_,_,ns,rfl,rfl,ho,qg ns _ oN,c_⟩
theorem De(l:OpenLaw)(args:List WData):l.row.toRowW.claim.post args (.bool true) args=true:=
 postW_of (r:=l.row.toRowW) (X:=(true==true))
  (show WShape.has [] (.bool true) .bool=true by first|rfl|decide|simp[WShape.has,WShape.arms,WShape.armsAll])
  (show (WTm.eq .res (.lit (.bool true))).value [] { args:=args,res:=some (.bool true),after:=args }=some (.bool (true==true)) from w_eq_bool (w_res rfl) w_lit) rfl
theorem xD{l:OpenLaw}{n:Nat}{q:Program}{uo:List Str}{XP:(Str->Option Value)->Heap->Prop}{YP:World->Heap->Prop}{d:DefRec}(hn:l.most=some n)(RB:d.params.defaults=[])(call:∀ (w:World) (s₀ s₁:Shared) (mg mb:Str->Option Value) (fa:Addr) (o:Obj) (pm cd mq:Value) (a:Addr) (vs:List Value) (ns:List Int),
   Ground q uo [] XP w s₀ mg mb s₁.heap->YP w s₁.heap->
   s₁.heap.get? fa=some o->o.data=.func (docDef d.name d.params d.body d.scope pm cd mq)->s₁.heap.CodeRec cd d.name->mg d.name=some (.ref fa)->
   s₁.heap.get? a=some { cls:=.type "list",data:=.seq vs.toArray }->IntsAre vs ns->ns.length<=n->s₁.gens=#[]->
   codeAny (model l.prog w) callerA (.call (.ref fa) ⟨[.ref a],[]⟩) (fun r s'=>r=.ok (.ret (.bool true))/\OldK s₁.heap s'.heap/\s'.os=s₁.os/\AllBare s'.gens) s₁):
  WalkO q uo XP YP l.row.toRowW d [] (fun f vs=>PySem.call f vs):=by
 intro w s₀ s₁ mg mb G Y fa o pm cd mq dV kV ho hd qz hD RC hg args Fz as Jx aac hrd WS Vx;obtain rfl:dV=.none:=Dflts.none hD RB;obtain rfl:kV=.none:=Dflts.noKw hD;obtain⟨a,vs,ns,rfl,rfl,NO,FA,c_⟩:=Db hn Jx WS;refine enter_call (lO (call w s₀ s₁ mg mb fa o pm cd mq a vs ns G Y ho (fd_plain hd) qz RC NO FA c_ hg) fun r s' hq=>?_);obtain⟨rfl,h2,h3,h4⟩:=hq;exact⟨.inl ⟨.bool true,.bool true,[],rfl,fun _=>rfl,.bool true,De l _,fun _=>⟨List.Pairwise.nil,fun _ hm=>(nomatch hm)⟩⟩,h2,h3,h4⟩
section
variable {prog:Program} {w:World} {A:Around} {E:Value->Shared->Prop} {s:Shared} {K:Frag}
end
end ZT
namespace L2
open PySem PySem.Spec PyProof.Rows
theorem oO:∀ {vs:List Value} {ns:List Int},IntsAre vs ns->ba (ns.map V.int) vs
 |_,_,.nil=>.nil
 |_,_,.cons n t h=>.cons ⟨t,rfl⟩ (oO h)
def qB(s:Stmt)(j:Nat):Stmt:=match s with
 |.ClassDef _ _ _ body _ _ _ _ _ _ _=>body.getD j (.Pass ⟨0,0,0,0⟩)
 |_=>.Pass ⟨0,0,0,0⟩
def dN(s:Stmt):Arguments:=match s with
 |.FunctionDef _ a _ _ _ _ _ _ _ _=>a
 |_=>{ posonlyargs:=[],args:=[],vararg:=none,kwonlyargs:=[],kw_defaults:=[],kwarg:=none,defaults:=[] }
def bV(s:Stmt):List Stmt:=match s with
 |.FunctionDef _ _ b _ _ _ _ _ _ _=>b
 |_=>[]
def av(s:Stmt):Scope:=match s with
 |.FunctionDef _ _ _ _ _ _ sc _ _ _=>sc
 |_=>{ kind:=.function,names:=[],isGenerator:=false,isCoroutine:=false }
abbrev bu:vJ:=fun _ _ _ _ _ _=>False
abbrev E0:XK:=fun _ _ _=>False
theorem aL:jw bu X E0:=fun _ _ _ _ _ _ _ h=>h.elim
structure gv(K:PySem.W.Frag)(x qual:Str)(st:Stmt)(f:Addr)(fd:FuncData):Prop where
 ex:∃ (oc:Value) (od:Option Addr) (kV mq pm:Value) (an:Option Addr) (dW ct:Value) (tJ:Array (Option Value)),
  fd=PySem.W.fnOf x qual (dN st) (bV st) (av st) .none kV mq pm an dW ct/\K.lookup f=some ⟨oc,od,.func fd,tJ⟩/\PySem.W.codeIn K dW qual=true
 kp:PySem.W.keepIn K (.ref f)=true
section
variable {P:Program} {w:World} {K:PySem.W.Frag} {mg:Str->Option Value} {base:Heap}
theorem gv.ok{x qual:Str}{st:Stmt}{f:Addr}{fd:FuncData}{N ps:List Str}{k:Nat}{sp:Sp}(F:gv K x qual st f fd)(S:aS N ps (av st))(len:∀vs H Q E,sp vs H Q E->vs.length=ps.length)(rF:∀ (dW:Value) (A:Around) (outer:List Env) (s:Shared) (H:Hp) (vs:List V) (Q:VK) (E:XK),cx k (A.deeper (envOfC qual (av st) s.heap.objs.size f dW))->sp vs H Q E->
   ∃t,ub (qf bu P w K mg base N qual (av st) f dW A outer s H E).Me (bV st) t/\t { nx:=fun _ H'=>Q .bD H',rt:=Q } (start N vs) H):bL P w K mg base bu (k+1) f fd ps sp:=by
 obtain⟨oc,od,kV,mq,pm,an,dW,ct,tJ,rfl,lk,qz⟩:=F.ex;refine Fk lk qz S len fun A outer s H vs Q E hr EB=>?_;obtain⟨t,h,q⟩:=rF dW A outer s H vs Q E hr EB;exact⟨t,h.Me,q⟩
theorem gv.binds{x qual:Str}{st:Stmt}{f:Addr}{fd:FuncData}{ps:List Str}(F:gv K x qual st f fd)(h:∀ (kV mq pm:Value) (an:Option Addr) (dW ct:Value) (us:List Value),us.length=ps.length->bindArgs (PySem.W.fnOf x qual (dN st) (bV st) (av st) .none kV mq pm an dW ct) ⟨us,[]⟩=pure (ps.zip us)):iH K fd ps []:=by
 obtain⟨oc,od,kV,mq,pm,an,dW,ct,tJ,rfl,lk,qz⟩:=F.ex;exact .all (h kV mq pm an dW ct)
theorem vO{x qual:Str}{st:Stmt}{f:Addr}{oc:Value}{od an:Option Addr}{tJ:Array (Option Value)}{kV mq pm dW ct:Value}(l:K.lookup f=some ⟨oc,od,.func (PySem.W.fnOf x qual (dN st) (bV st) (av st) .none kV mq pm an dW ct),tJ⟩)(c:PySem.W.codeIn K dW qual=true)(k:PySem.W.keepIn K (.ref f)=true):gv K x qual st f (PySem.W.fnOf x qual (dN st) (bV st) (av st) .none kV mq pm an dW ct):=⟨⟨oc,od,kV,mq,pm,an,dW,ct,tJ,rfl,l,c⟩,k⟩
end
section
variable {X:Cx}
theorem pv(i:Nat)(hN:X.N[i]?=some x:=by rfl)(hv:Q0 X.env.scope x:=by first|exact Or.inl rfl|exact Or.inr aM|exact Or.inr bU)(hd:(x==("__debug__":Str))=false:=by decide)(qz:(x==("__classdict__":Str))=false:=by decide):PE X (.Name x pos) (aW i):=Na hN hv hd qz
end
theorem cD{A B:Prop}(h:B):if false=true then A else B:=by
 rw[aq cF];exact h
theorem dP{A B:Prop}(h:A):if true=true then A else B:=by
 rw[ap rfl];exact h
theorem eU{c A B:Prop}[Decidable c](h1:c->A)(h2:¬ c->B):if c then A else B:=by
 by_cases h:c
 .rw[ap h];exact h1 h
 .rw[aq h];exact h2 h
def aE(H H':Hp):Prop:=∀b o,H b=some o->H' b=some o
theorem aE.refl(H:Hp):aE H H:=fun _ _ h=>h
theorem aE.trans(a:aE H H1)(b:aE H1 H2):aE H H2:=fun c o h=>b c o (a c o h)
theorem aE.free(e:aE H H')(h:H' l=Option.none):H l=Option.none:=by
 cases q:H l with
 |none=>rfl
 |some o=>
  rw[e l o q] at h;cases h
def Mg(src:List (Option Nat))(σ:St):St:=src.map fun o=>match o with|some j=>σ.getD j none|none=>none
theorem Jy{src:List (Option Nat)}{σ:St}{i:Nat}{v:V}(h:(Mg src σ)[i]?=some (some v)):∃j,src[i]?=some (some j)/\σ[j]?=some (some v):=by
 unfold Mg at h;rw[cm] at h;cases e:src[i]? with
 |none=>rw[e] at h;cases h
 |some o=>
  rw[e] at h;cases o with
  |none=>cases h
  |some j=>
   refine⟨j,rfl,?_⟩;have h':σ.getD j none=some v:=bP h;rw[aY] at h';cases e2:σ[j]? with
   |none=>rw[e2] at h';cases h'
   |some o=>rw[e2] at h';rw[show o=some v from h']
structure im(NB:List Str)(src:List (Option Nat))(scope:Scope)(X:Cx):Prop where
 kind:scope.kind=.function
 nd:NB.Nodup
 len:src.length=NB.length
 cells:∀y∈scope.names,y.2=.cell->scope.names.lookup y.1=some .cell
 names:∀y∈scope.names,y.2=.local->scope.names.lookup y.1=some .local
 free:∀y∈scope.names,y.2=.free->X.env.scope.names.lookup y.1=some .cell\/X.env.scope.names.lookup y.1=some .free
 src:∀ (i:Nat) (x:Str) (j:Nat),NB[i]?=some x->src[i]?=some (some j)->X.N[j]?=some x/\scope.names.lookup x=some .free
def vP(scope:Scope)(x:Str):Bool:=match scope.names.lookup x with
 |some .cell=>true
 |_=>false
theorem xE:vP scope x=true↔scope.names.lookup x=some .cell:=by
 unfold vP;split
 .rename_i h;exact⟨fun _=>h,fun _=>rfl⟩
 .rename_i h;exact⟨fun z=>(by cases z),fun z=>absurd z h⟩
def BU(X:Cx)(NB:List Str)(scope:Scope)(cl:List (Str×Addr))(C:Addr)(s₃:Shared)(H₃:Hp)(fp:List Addr):Cx:=
 { X with N:=NB,s₀:=s₃,H₀:=H₃,env:=compEnvC scope cl C X.env,outer:=X.stack,stack:=X.stack,ex:=fp,fn:=vP scope,pn:=[],xe:=fun _ _=>False }
theorem lW:∀ (names:List (Str×NameKind)) (dR:List (Str×Addr)),(∀y∈names,y.2=NameKind.free->∃c,env.cells.lookup y.1=some c)->(∀x c,dR.lookup x=some c->env.cells.lookup x=some c)->
  ∃cl,(forIn names dR fun x r=>(if (x.2==NameKind.free)=true then (do let a <- cellOf env x.1;pure (ForInStep.yield ((x.1,a)::r))) else pure (ForInStep.yield r):Sem (ForInStep (List (Str×Addr)))))=(pure cl:Sem (List (Str×Addr)))/\
   (∀x c,cl.lookup x=some c->env.cells.lookup x=some c)/\(∀x c,dR.lookup x=some c->∃c',cl.lookup x=some c')/\∀x,(x,NameKind.free)∈names->∃c,cl.lookup x=some c
 |[],dR,_,ha=>⟨dR,by rw[vj],ha,fun x c h=>⟨c,h⟩,fun x h=>nomatch h⟩
 |(n,k)::r,dR,hf,ha=>by
  by_cases hk:k=NameKind.free
  .subst hk;obtain⟨c,hc⟩:=hf (n,NameKind.free) bW rfl;have RD:∀x c',((n,c)::dR).lookup x=some c'->env.cells.lookup x=some c':=fun x c' h=>by
    rw[g7] at h;cases hx:x==n with
    |true=>
     rw[hx] at h;cases h;have:x=n:=by simpa using hx
     rw[this];exact hc
    |false=>rw[hx] at h;exact ha x c' h
   obtain⟨cl,e1,e2,e3,e4⟩:=lW r ((n,c)::dR) (fun y hy=>hf y (cX _ hy)) RD;refine⟨cl,?_,e2,fun x c' h=>?_,fun x h=>?_⟩
   .rw[vg];have ec:cellOf env n=pure c:=by unfold cellOf;rw[hc]
    have e0:(if ((n,NameKind.free).2==NameKind.free)=true then (do let a <- cellOf env (n,NameKind.free).1;pure (ForInStep.yield (((n,NameKind.free).1,a)::dR))) else pure (ForInStep.yield dR):Sem (ForInStep (List (Str×Addr))))=pure (ForInStep.yield ((n,c)::dR)):=by
     rw[ap (show (NameKind.free==NameKind.free)=true by decide)];show cellOf env n >>= _=_;rw[ec];rfl
    rw[e0];exact e1
   .cases hx:x==n with
    |true=>exact e3 x c (by rw[g7,hx])
    |false=>exact e3 x c' (by rw[g7,hx];exact h)
   .rcases bK.mp h with h|h
    .cases h;exact e3 n c (by rw[g7];simp)
    .exact e4 x h
  .obtain⟨cl,e1,e2,e3,e4⟩:=lW r dR (fun y hy=>hf y (cX _ hy)) ha;refine⟨cl,?_,e2,e3,fun x h=>?_⟩
   .rw[vg];have hb:(k==NameKind.free)=false:=by simpa using hk
    have e0:(if ((n,k).2==NameKind.free)=true then (do let a <- cellOf env (n,k).1;pure (ForInStep.yield (((n,k).1,a)::dR))) else pure (ForInStep.yield dR):Sem (ForInStep (List (Str×Addr))))=pure (ForInStep.yield dR):=by
     rw[aq (by show ¬ (k==NameKind.free)=true;rw[hb];decide)]
    rw[e0];exact e1
   .rcases bK.mp h with h|h
    .cases h;exact absurd rfl hk
    .exact e4 x h
theorem lX(ok:X.Ok)(S:im NB src scope X):
  ∃cl,closureFor scope X.env=pure cl/\(∀x c,cl.lookup x=some c->X.env.cells.lookup x=some c)/\∀x,(x,NameKind.free)∈scope.names->∃c,cl.lookup x=some c:=by
 obtain⟨cl,e1,e2,_,e4⟩:=lW (env:=X.env) scope.names [] (fun y hy hk=>ok.has y.1 (S.free y hy hk)) (fun x c h=>nomatch h);refine⟨cl,?_,e2,e4⟩;unfold closureFor;simp only[bind_pure];exact e1
theorem vQ(h:scope.names.lookup x=some .free):(relabel scope env).names.lookup x=some .cell\/(relabel scope env).names.lookup x=some .free:=by
 have go:∀names:List (Str×NameKind),names.lookup x=some .free->
   (names.map fun (n,k)=>if (k==NameKind.free&&env.scope.kind==.function&&env.kindOf n==some .cell) then (n,NameKind.cell) else (n,k)).lookup x=some .cell\/
   (names.map fun (n,k)=>if (k==NameKind.free&&env.scope.kind==.function&&env.kindOf n==some .cell) then (n,NameKind.cell) else (n,k)).lookup x=some .free:=by
  intro names;induction names with
  |nil=>intro h;simp at h
  |cons y r ih=>
   intro h;obtain⟨n,k⟩:=y;rw[g7] at h;rw[fu];cases hx:x==n with
   |true=>
    rw[hx] at h;cases h;by_cases hc:(NameKind.free==NameKind.free&&env.scope.kind==.function&&env.kindOf n==some .cell)=true
    .left;show List.lookup x ((if _ then _ else _)::_)=_;rw[ap hc,g7,hx]
    .right;show List.lookup x ((if _ then _ else _)::_)=_;rw[aq hc,g7,hx]
   |false=>
    rw[hx] at h;by_cases hc:(k==NameKind.free&&env.scope.kind==.function&&env.kindOf n==some .cell)=true
    .show List.lookup x ((if _ then _ else _)::_)=_\/List.lookup x ((if _ then _ else _)::_)=_;rw[ap hc,g7,hx];exact ih h
    .show List.lookup x ((if _ then _ else _)::_)=_\/List.lookup x ((if _ then _ else _)::_)=_;rw[aq hc,g7,hx];exact ih h
 exact go scope.names h
theorem mR(h:(relabel scope env).names.lookup x=some k)(hk:k=.cell\/k=.free):(x,NameKind.free)∈scope.names\/(x,NameKind.cell)∈scope.names:=by
 have m:=jW h;obtain⟨⟨n,k'⟩,hm,e⟩:=bz.mp m;by_cases q:(k'==NameKind.free&&env.scope.kind==.function&&env.kindOf n==some .cell)=true
 .have e':(n,NameKind.cell)=(x,k):=by simpa [q] using e
  have k1:k'=NameKind.free:=by
   simp only[fA,ff] at q;exact q.1.1
  cases e';left;rw[<-k1];exact hm
 .have e':(n,k')=(x,k):=by simpa [q] using e
  cases e';rcases hk with z|z
  .subst z;exact .inr hm
  .subst z;exact .inl hm
theorem oP:∀ (names:List (Str×NameKind)) (h:Heap) (dR:List (Str×Addr)) (x:Str) (c:Addr),(cellsFrom h.objs.size names dR).lookup x=some c->dR.lookup x=some c\/(h.objs.size<=c/\(pushCells h names).IsCell c none)
 |[],_,_,_,_,e=>.inl e
 |(name,kind)::r,h,dR,x,c,e=>by
  unfold cellsFrom at e;unfold pushCells;split at e
  .rename_i hk;rw[ap hk];have lc:(h.push { cls:=.type "cell",data:=.cell none }).objs.size=h.objs.size+1:=jK ..;rw[<-lc] at e;rcases oP r _ _ x c e with z|⟨z1,z2⟩
   .rw[g7] at z;cases hx:x==name with
    |true=>
     rw[hx] at z;cases z;exact .inr ⟨bt _,_,pushCells_keeps r _ _ _ (cI _ rfl),rfl⟩
    |false=>rw[hx] at z;exact .inl z
   .exact .inr ⟨by lia,z2⟩
  .rename_i hk;rw[aq hk];exact oP r h dR x c e
theorem uq:∀ (names:List (Str×NameKind)) (n:Nat) (dR:List (Str×Addr)) (x:Str),(x,NameKind.cell)∈names->∃c,n<=c/\(cellsFrom n names dR).lookup x=some c:=by
 have up:∀ (names:List (Str×NameKind)) (n m:Nat) (dR:List (Str×Addr)) (x:Str) (c:Addr),dR.lookup x=some c->m<=c->m<=n->∃c',m<=c'/\(cellsFrom n names dR).lookup x=some c':=by
  intro names;induction names with
  |nil=>intro n m dR x c e h _;exact⟨c,h,e⟩
  |cons y r ih=>
   intro n m dR x c e h hm;obtain⟨name,kind⟩:=y;unfold cellsFrom;split
   .cases hx:x==name with
    |true=>exact ih (n+1) m _ x n (by rw[g7,hx]) hm (by lia)
    |false=>exact ih (n+1) m _ x c (by rw[g7,hx];exact e) h (by lia)
   .exact ih n m dR x c e h hm
 intro names;induction names with
 |nil=>intro n dR x h;cases h
 |cons y r ih=>
  intro n dR x h;obtain⟨name,kind⟩:=y;unfold cellsFrom;rcases bK.mp h with z|z
  .cases z;rw[ap (by decide)];exact up r (n+1) n _ x n (by rw[g7];simp) (bt _) (by lia)
  .split
   .obtain⟨c,h1,h2⟩:=ih (n+1) ((name,n)::dR) x z;exact⟨c,by lia,h2⟩
   .exact ih n dR x z
theorem k4:∀ (names:List (Str×NameKind)) (n:Nat) (dR:List (Str×Addr)) (x:Str) (c:Addr),dR.lookup x=some c->(x,NameKind.cell)∉names->(cellsFrom n names dR).lookup x=some c
 |[],_,_,_,_,e,_=>e
 |(name,kind)::r,n,dR,x,c,e,h=>by
  have hr:(x,NameKind.cell)∉r:=fun z=>h (cX _ z);unfold cellsFrom;split
  .rename_i hk;have ur:(x==name)=false:=by
    cases hx:x==name with
    |false=>rfl
    |true=>
     have e1:x=name:=by simpa using hx
     have e2:kind=.cell:=by simpa using hk
     exact absurd (by rw[e1,e2];exact bW) h
   exact k4 r (n+1) _ x c (by rw[g7,ur];exact e) hr
  .exact k4 r n dR x c e hr
theorem oQ:∀ (names:List (Str×NameKind)) (n:Nat) (dR:List (Str×Addr)),(∀x y c,dR.lookup x=some c->dR.lookup y=some c->x=y)->(∀x c,dR.lookup x=some c->c<n)->∀x y c,(cellsFrom n names dR).lookup x=some c->(cellsFrom n names dR).lookup y=some c->x=y
 |[],_,_,hi,_=>hi
 |(name,kind)::r,n,dR,hi,hl=>by
  unfold cellsFrom;split
  .refine oQ r (n+1) _ (fun x y c h1 h2=>?_) (fun x c h=>?_)
   .rw[g7] at h1 h2;cases hx:x==name <;> cases hy:y==name <;> rw[hx] at h1 <;> rw[hy] at h2
    .exact hi x y c h1 h2
    .cases h2;exact absurd (hl x _ h1) (h_ _)
    .cases h1;exact absurd (hl y _ h2) (h_ _)
    .have e1:x=name:=by simpa using hx
     have e2:y=name:=by simpa using hy
     rw[e1,e2]
   .rw[g7] at h;cases hx:x==name <;> rw[hx] at h
    .exact dC (hl x c h)
    .cases h;exact jg _
  .exact oQ r n dR hi hl
section
variable {X:Cx} {ag:List (Addr×Obj)} {σ:St} {H:Hp} {s:Shared} {NB:List Str} {src:List (Option Nat)} {scope:Scope} {cl:List (Str×Addr)} {fp:List Addr} {h₁:Heap} {t₁:Nat}
theorem Jz(I:aU X ag σ H s)(S:im NB src scope X)(c1:∀x c,cl.lookup x=some c->X.env.cells.lookup x=some c)(c2:∀x,(x,NameKind.free)∈scope.names->∃c,cl.lookup x=some c)(hf:∀b∈fp,jP X ag H b)(RE:∀b∈fp,b<s.heap.objs.size){m:Str->Option Value}(hn:h₁.Ns s.heap.objs.size m)(hk:∀b o,s.heap.get? b=some o->h₁.get? b=some o)(rL:∀x c,(cellsFrom (s.heap.objs.size+1) scope.names cl).lookup x=some c->cl.lookup x=some c\/(s.heap.objs.size<c/\h₁.IsCell c none)):
  aU (BU X NB scope (cellsFrom (s.heap.objs.size+1) scope.names cl) s.heap.objs.size s H fp) [] (Mg src σ) H { s with heap:=h₁,toks:=t₁ }:=by
 have EZ:∀b∈qe X.stack,b∈X.env.locals::X.fs:=I.vB;have FB:∀x c,cl.lookup x=some c->∃v,s.heap.IsCell c v:=fun x c e=>I.cell x c (c1 x c e);have WT:∀x c,cl.lookup x=some c->c<s.heap.objs.size:=fun x c e=>by obtain⟨v,o,ho,_⟩:=FB x c e;exact bh ho
 refine⟨⟨I.ok.mod,S.kind,I.ok.glob,I.ok.blt,bt _,oQ _ _ _ (fun x y c e1 e2=>I.ok.inj x y c (c1 x c e1) (c1 y c e2)) (fun x c e=>dC (WT x c e)),fun x hx=>?_,fun x c z e=>?_,I.ok.hd,I.ok.frames,.inl rfl,fun b hb=>⟨?_,fun x c e=>?_⟩,I.bs,bC I.ok.Ex I.sz,fun b o e hb=>?_,fun b hb=>?_,I.stack,I.vC⟩,
  rfl,I.bare,Un.kept hk,⟨m,hn,fun i x v e1 e2 e3=>?_⟩,fun x c e=>?_,I.b_.fresh (bt _),fun x c e=>?_,fun p hp=>absurd (show p∈([]:List (Addr×Obj)) from hp) (by simp),I.b_.kept hk,?_⟩
 .have Aq:(x,NameKind.free)∈scope.names\/(x,NameKind.cell)∈scope.names:=by
   rcases hx with hx|hx
   .exact mR hx (.inl rfl)
   .exact mR hx (.inr rfl)
  by_cases hc:(x,NameKind.cell)∈scope.names
  .obtain⟨c,_,e⟩:=uq scope.names (s.heap.objs.size+1) cl x hc;exact⟨c,e⟩
  .rcases Aq with z|z
   .obtain⟨c,e⟩:=c2 x z;exact⟨c,k4 _ _ _ _ _ e hc⟩
   .exact absurd z hc
 .have hm:=jW (xE.mp z);obtain⟨c',h1,h2⟩:=uq scope.names (s.heap.objs.size+1) cl x hm;have e':(cellsFrom (s.heap.objs.size+1) scope.names cl).lookup x=some c:=e;rw[h2] at e';cases e';exact Nat.le_of_succ_le h1
 .exact bg (RE b hb)
 .rcases rL x c e with z|⟨z,_⟩
  .exact(hf b hb).2.2.2.2.1 x c (c1 x c z)
  .exact jo (rh (RE b hb) z)
 .rcases(hf b hb).2.2.2.1 with z|z
  .exact I.ok.z0 b o e z
  .exact absurd (cQ (bh e) (bC I.ok.Ex z)) (h_ _)
 .intro z;rcases bK.mp (EZ b z) with e|e
  .exact(hf b hb).2.1 e
  .exact(hf b hb).2.2.1 e
 .obtain⟨j,hj,hv⟩:=Jy e2;obtain⟨hN,hF⟩:=S.src i x j e1 hj;obtain⟨m0,IP,ZU⟩:=I.loc;have JA:=jW hF;have kx:=S.free _ JA rfl;have Wt:Q0 X.env.scope x:=by
   rcases kx with z|z
   .exact .inr (.inl z)
   .exact .inr (.inr z)
  obtain⟨u,r,l⟩:=ZU j x v hN hv Wt;refine⟨u,r,.inr ⟨vQ hF,?_⟩⟩;obtain⟨c,hc⟩:=c2 x JA;have hnc:(x,NameKind.cell)∉scope.names:=fun z=>by
   have:=S.cells _ z rfl;rw[hF] at this;cases this
  refine⟨c,k4 _ _ _ _ _ hc hnc,?_⟩;rcases l with ⟨xF,_⟩|⟨_,c',e,z⟩
  .have RG:X.env.scope.names.lookup x=some .local:=xF;rcases kx with z|z <;> (rw[z] at RG;cases RG)
  .rw[c1 x c hc] at e;cases e;obtain⟨o,ho,hd⟩:=z;exact⟨o,hk _ _ ho,hd⟩
 .rcases rL x c e with z|⟨_,z⟩
  .obtain⟨v,o,ho,hd⟩:=FB x c z;exact⟨v,o,hk _ _ ho,hd⟩
  .exact⟨none,z⟩
 .rcases rL x c e with z|⟨z,_⟩
  .exact I.ig x c (c1 x c z)
  .exact I.b_.fresh (j8 z)
 .show (Mg src σ).length=NB.length;unfold Mg;rw[aP];exact S.len
theorem aU.RH(I:aU X ag σ H s)(J:aU (BU X NB scope cl C s H fp) [] σB H' s')(hf:∀b∈fp,jP X ag H b):aU X ag σ H' s':=by
 refine I.Md (ch:=fp) J.os J.base J.b_ J.bare fun b hb=>?_;obtain⟨_,f1,_,f3,f4,f5⟩:=hf b hb;exact⟨f3,f1,f4,f5⟩
end
def Qu(X:Cx)(BV:List Expr)(t:TT):Prop:=
 ∀ (ag:List (Addr×Obj)) (s:Shared) (σ:St) (H:Hp) (Q:Bool->Hp->Prop),aU X ag σ H s->t σ H Q->
  wpAny (model X.prog X.w) X.A (forIn BV true fun c r=>if r=true then do let ok <- isTrue c X.env (eval c X.env);pure (ForInStep.yield ok) else pure (ForInStep.yield r)) (TP X ag σ Q) X.xe s
def WU:TT:=fun _ H Q=>Q true H
theorem cy:Qu X [] WU:=fun _ _ _ H _ I h=>wpAny_tests_nil ⟨H,I,h⟩
theorem fK(h:PT X c t):Qu X [c] t:=fun ag s σ H Q I q=>wpAny_tests_one (h ag s σ H Q I q)
def gI(J:It)(g:TG)(tt:TT)(te:TE)(D:Addr)(dG:Hp->Prop)(σB:St)(H1:Hp):Prop:=
 ∃W:Nat->Nat->St->Hp->Prop,(∃m,W 0 m σB H1)/\∀i m σ H,W i m σ H->(J.stop i H/\dG H)\/(J.go i H/\∀x H',J.No i H x H'->g x σ H' fun σ2 H2=>tt σ2 H2 fun b H3=>
  if b=true then te σ2 H3 fun v H4=>∃ys,H4 D=some (.lst ys)/\ys.length<sizeLine/\∃m',m'<m/\W (i+1) m' σ2 (upd H4 D (.lst (ys++[v]))) else ∃m',m'<m/\W (i+1) m' σ2 H3)
theorem Df(hx:B.xe=fun _ _=>False)(hc:B.calm=true)(T:z8 B.prog B.w B.K tg J fp it tn)(hg:PG B tg g)(ht:Qu B BV tt)(he:PE B ED te)(I:aU B [] σB H1 s)(st:tn 0 s.heap)(hf:∀b∈fp,jP B [] H1 b)(hw:gI J g tt te D dG σB H1)(hR:∀σ' H' s',aU B [] σ' H' s'->dG H'->R (.ok .next) s'):
  codeAny (model B.prog B.w) B.A (.compLoop (.ListComp ED [⟨tg,jQ,BV,0⟩] scope pos) 0 (.ref it) (.ref D) B.env) R s:=by
 obtain⟨W,⟨m0,w0⟩,E5⟩:=hw;have Aa:∀ {H':Hp},(∀b∈fp,H' b=none)->∀b∈fp,jP B [] H' b:=fun hn b hb=>⟨hn b hb,(hf b hb).2⟩
 refine codeAny_loop rfl (fun n s'=>∃i σ' H',aU B [] σ' H' s'/\tn i s'.heap/\(∀b∈fp,H' b=none)/\W i n σ' H') ?_ m0 ⟨0,σB,H1,I,st,fun b hb=>(hf b hb).1,w0⟩;rintro n s3 ⟨i,σ3,H3,I3,Ab,Np,w3⟩;show wpAny _ B.A ((compTurn (.ListComp ED [⟨tg,jQ,BV,0⟩] scope pos) 0 (.ref it) (.ref D) B.env).onRaise (fun x=>do noteFrame x B.env;theTreesLotGoes x)) _ _ s3;refine wpAny_noted ?_;rw[compTurn_list];have nx:∀ {α:Type} {t:Sem α} {Q:α->Shared->Prop} {E':Value->Shared->Prop} {s:Shared},wpAny (model B.prog B.w) B.A t Q B.xe s->wpAny (model B.prog B.w) B.A t Q E' s:=fun h=>
  jp h (fun _ _ q=>q) fun _ _ z=>by rw[hx] at z;exact z.elim
 rcases E5 i n σ3 H3 w3 with ⟨stop,qn⟩|⟨go,step⟩
 .refine aD (lN (aD (cV (T.done B rfl rfl rfl hc i [] s3 σ3 H3 _ I3 (Aa Np) Ab stop) fun r s4 ⟨hr,I4⟩=>?_)));subst hr;exact wpAny_pure (hR σ3 H3 s4 I4 qn)
 .refine aD (lN (aD (cV (T.item B rfl rfl rfl hc i [] s3 σ3 H3 _ I3 (Aa Np) Ab go) fun r s4 ⟨u,hr,h4⟩=>?_)));subst hr;refine aD (cV h4 fun _ s5 ⟨x,H5,I5,r5,y5,xc,Ww⟩=>?_);have Wx:=I5.pinned (Aa Ww) (T.obj _ _ xc);refine aD (nx (cV (hg _ s5 σ3 H5 x u _ Wx r5 (step x H5 y5)) fun _ s6 ⟨σ6,H6,I6,q6⟩=>?_));have back:∀ {σ7:St} {H7:Hp} {s7:Shared} {m':Nat},aU B ([]++rC fp s5.heap) σ7 H7 s7->m'<n->W (i+1) m' σ7 H7->∃m,m<n/\∃i σ' H',aU B [] σ' H' s7/\tn i s7.heap/\(∀b∈fp,H' b=none)/\W i m σ' H':=fun {σ7 H7 s7 m'} I7 hm w7=>by
   refine⟨m',hm,i+1,σ7,H7,I7.mJ,T.keep _ _ _ xc fun b hb o e=>(I7.pin (b,o) (iZ _ (iZ _ (jr hb e)))).1,fun b hb=>?_,w7⟩;obtain⟨o,e,d⟩:=T.obj _ _ xc b hb;exact(I7.pin (b,o) (iZ _ (iZ _ (jr hb e)))).2.1
  refine aD (nx (cV (ht _ s6 σ6 H6 _ I6 q6) fun ok s7 ⟨H7,I7,q7⟩=>?_));cases ok with
  |false=>
   rw[aq cF] at q7;obtain⟨m',hm,w7⟩:=q7;exact wpAny_pure ⟨rfl,back I7 hm w7⟩
  |true=>
   rw[ap rfl] at q7;refine aD (aD (nx (cV (he _ s7 σ6 H7 _ I7 q7) fun v s8 ⟨y,H8,I8,r8,ys,hD,hl,m',hm,w8⟩=>?_)));refine aD (nx (cV (dS _ s8 σ6 H8 (.ref D) [y] (.ref D) [v] (fun _ H9=>H9=upd H8 D (.lst (ys++[y]))) I8 rfl (.cons r8 .nil) ⟨D,ys,y,rfl,rfl,hD,hl,rfl⟩) fun _ s9 ⟨_,H9,I9,_,e9⟩=>?_));subst e9;exact wpAny_pure (wpAny_pure ⟨rfl,back I9 hm w8⟩)
theorem vR(hQ:Q { scope:=scope,locals:=s.heap.objs.size,globals:=globals,cells:=cellsFrom (s.heap.objs.size+1) scope.names cl,qual:=qual,func:=none,code:=outer.code,frame:=outer.frame,builtins:=outer.builtins }
   { s with heap:=pushCells (s.heap.push { cls:=.type "dict",data:=.dict #[] }) scope.names }):
  wpAny M A (newFunctionEnv scope globals cl [] qual none .none (some outer)) Q E s:=by
 simp only[newFunctionEnv,zB,iS];refine aD (wpAny_alloc ?_);refine aD (wpAny_layCells _ (fun name kind cells=>by cases hkc:kind==NameKind.cell <;> simp[hkc]) _ _ _ _ ?_);rw[show ({ s with heap:=s.heap.push { cls:=.type "dict",data:=.dict #[] } }:Shared).heap.objs.size=s.heap.objs.size+1 from jK ..];refine aD ?_;rw[vj];exact wpAny_pure (wpAny_pure hQ)
section
variable {X:Cx} {ED tg jQ:Expr} {BV:List Expr} {scope:Scope} {pos:Pos} {wi:TI} {g:TG} {tt:TT} {te:TE} {NB:List Str} {src:List (Option Nat)}
def FE(src:List (Option Nat))(wi:TI)(g:TG)(tt:TT)(te:TE):TE:=fun σ H Q=>wi σ H fun J H1=>∀D,H1 D=none->gI J g tt te D (fun H'=>Q (.ref D) H') (Mg src σ) (upd H1 D (.lst []))
theorem rM{ag:List (Addr×Obj)}{σ:St}{H2:Hp}{s2:Shared}{J:It}{fp:List Addr}{it:Addr}{tn:Nat->Heap->Prop}{cl:List (Str×Addr)}{dG:Addr->Hp->Prop}{E':Value->Shared->Prop}{RR:Value->Addr->Result->Shared->Prop}(S:im NB src scope X)(hc:X.calm=true)(c1:∀x c,cl.lookup x=some c->X.env.cells.lookup x=some c)(c2:∀x,(x,NameKind.free)∈scope.names->∃c,cl.lookup x=some c)(hg:∀cl C s₃ H₃ fp,PG (BU X NB scope cl C s₃ H₃ fp) tg g)(ht:∀cl C s₃ H₃ fp,Qu (BU X NB scope cl C s₃ H₃ fp) BV tt)(he:∀cl C s₃ H₃ fp,PE (BU X NB scope cl C s₃ H₃ fp) ED te)(I2:aU X ag σ H2 s2)(T:z8 X.prog X.w X.K tg J fp it tn)(tG:tn 0 s2.heap)(f2:∀b∈fp,jP X ag H2 b)(hw:∀D,H2 D=none->gI J g tt te D (dG D) (Mg src σ) (upd H2 D (.lst [])))(hR:∀D C H' s',jP X ag H' C->aU X ag σ H' s'->(∃m,s'.heap.Ns C m)->dG D H'->RR (.ref D) C (.ok .next) s'):
  wpAny (model X.prog X.w) X.A (newList []) (fun dR s₃=>wpAny (model X.prog X.w) X.A (newFunctionEnv scope X.env.globals cl [] X.env.qual none .none (some X.env)) (fun RJ s₄=>
   codeAny (model X.prog X.w) X.A (.compStart (.ListComp ED [⟨tg,jQ,BV,0⟩] scope pos) 0 (.ref it) dR { RJ with scope:=relabel scope X.env }) (RR dR RJ.locals) s₄) E' s₃) E' s2:=by
 refine j4 (vR ?_);have I3:=I2.NK (ys:=[]) (its:=[]) (t':=s2.toks) .nil (cM _);have hD:H2 s2.heap.objs.size=none:=I2.fresh;have fo:∀b∈fp,b<s2.heap.objs.size:=fun b hb=>by obtain⟨o,e,_⟩:=T.obj _ _ tG b hb;exact bh e
 have up:∀ {b:Addr},b∈fp->upd H2 s2.heap.objs.size (.lst []) b=H2 b:=fun {b} hb=>am (bg (fo b hb));have f3:∀b∈fp,jP X ag (upd H2 s2.heap.objs.size (.lst [])) b:=fun b hb=>⟨by rw[up hb];exact(f2 b hb).1,(f2 b hb).2⟩
 have lc:(s2.heap.push { cls:=.type "list",data:=.seq ([]:List Value).toArray }).objs.size=s2.heap.objs.size+1:=by rw[jK]
 generalize hs3:({ s2 with heap:=s2.heap.push { cls:=.type "list",data:=.seq ([]:List Value).toArray } }:Shared)=s3 at I3 |-;have ZV:s3.heap=s2.heap.push { cls:=.type "list",data:=.seq ([]:List Value).toArray }:=by rw[<-hs3]
 have ZW:∀b∈fp,b<s3.heap.objs.size:=fun b hb=>by rw[ZV,lc];exact dC (fo b hb)
 have RK:(s3.heap.push { cls:=.type "dict",data:=.dict #[] }).objs.size=s3.heap.objs.size+1:=jK ..;have rL:∀x c,(cellsFrom (s3.heap.objs.size+1) scope.names cl).lookup x=some c->cl.lookup x=some c\/(s3.heap.objs.size<c/\(pushCells (s3.heap.push { cls:=.type "dict",data:=.dict #[] }) scope.names).IsCell c none):=fun x c e=>by
  rw[<-RK] at e;rcases oP _ _ _ _ _ e with z|⟨z1,z2⟩
  .exact .inl z
  .exact .inr ⟨by rw[RK] at z1;exact z1,z2⟩
 have RL:=(Heap.Ns.new s3.heap (.type "dict")).keeps (pushCells_keeps scope.names _);have keep:∀b o,s3.heap.get? b=some o->(pushCells (s3.heap.push { cls:=.type "dict",data:=.dict #[] }) scope.names).get? b=some o:=fun b o e=>pushCells_keeps _ _ b o (bY _ e);generalize hh1:pushCells (s3.heap.push { cls:=.type "dict",data:=.dict #[] }) scope.names=h₁ at rL RL keep |-;have IB:aU (BU X NB scope (cellsFrom (s3.heap.objs.size+1) scope.names cl) s3.heap.objs.size s3 (upd H2 s2.heap.objs.size (.lst [])) fp) [] (Mg src σ) (upd H2 s2.heap.objs.size (.lst [])) { s3 with heap:=h₁,toks:=s3.toks }:=
  Jz I3 S c1 c2 f3 ZW RL keep rL
 have FF:tn 0 h₁:=T.keep 0 s2.heap h₁ tG fun b hb o e=>keep b o (by rw[ZV];exact bY _ e);have fB:∀b∈fp,jP (BU X NB scope (cellsFrom (s3.heap.objs.size+1) scope.names cl) s3.heap.objs.size s3 (upd H2 s2.heap.objs.size (.lst [])) fp) [] (upd H2 s2.heap.objs.size (.lst [])) b:=fun b hb=>by
  refine⟨(f3 b hb).1,bg (ZW b hb),fun z=>?_,.inl hb,fun x c e=>(IB.ok.Q4 b hb).2 x c e,fun p hp=>absurd (show p∈([]:List (Addr×Obj)) from hp) (by simp)⟩;rcases bK.mp (I3.vB b z) with e|e
  .exact(f3 b hb).2.1 e
  .exact(f3 b hb).2.2.1 e
 have loop:codeAny (model X.prog X.w) X.A (.compLoop (.ListComp ED [⟨tg,jQ,BV,0⟩] scope pos) 0 (.ref it) (.ref s2.heap.objs.size) (compEnvC scope (cellsFrom (s3.heap.objs.size+1) scope.names cl) s3.heap.objs.size X.env)) (RR (.ref s2.heap.objs.size) s3.heap.objs.size)
   { s3 with heap:=h₁,toks:=s3.toks }:=by
  refine Df (B:=BU X NB scope (cellsFrom (s3.heap.objs.size+1) scope.names cl) s3.heap.objs.size s3 (upd H2 s2.heap.objs.size (.lst [])) fp) rfl hc T (hg _ _ _ _ _) (ht _ _ _ _ _) (he _ _ _ _ _) IB FF fB (hw _ hD) fun σ' H' s' J' q=>?_;obtain⟨m,hm,_⟩:=J'.loc;exact hR _ _ H' s' (I3.E6 (bt _) J'.free) (I3.RH J' f3) ⟨m,hm⟩ q
 exact codeAny_compStart_list loop (T.self _ 0 _ _ _ FF loop)
theorem cA(S:im NB src scope X)(hc:X.calm=true)(hi:PI X tg jQ wi)(hg:∀cl C s₃ H₃ fp,PG (BU X NB scope cl C s₃ H₃ fp) tg g)(ht:∀cl C s₃ H₃ fp,Qu (BU X NB scope cl C s₃ H₃ fp) BV tt)(he:∀cl C s₃ H₃ fp,PE (BU X NB scope cl C s₃ H₃ fp) ED te)(hs:∀x,foldedSetIterable jQ X.env x=pure x:=by intro _;rfl):PE X (.ListComp ED [⟨tg,jQ,BV,0⟩] scope pos) (FE src wi g tt te):=by
 intro ag s σ H Q I h;obtain⟨cl,JB,c1,c2⟩:=lX I.ok S;rw[eval_ListComp];refine wpAny_comprehension_free (use:=none) (cl:=cl) rfl hs JB S.kind S.names (cV (hi ag s σ H _ I h) fun v s1 h1=>cV h1 fun Vt s2 h2=>?_);obtain⟨it,fp,tn,J,H2,e,I2,T,tG,f2,hw⟩:=h2;subst e;refine rM (RR:=fun dR C=>compPost (model X.prog X.w) X.A X.xe none (EP X ag σ Q) dR C) S hc c1 c2 hg ht he I2 T tG f2 hw fun D C H' s' fC I' hm q=>?_;obtain⟨m,hm⟩:=hm;refine⟨m,hm,fun h' sb=>⟨.ref D,H',?_,rfl,q⟩⟩;obtain⟨g0,g1,_,g3,g4,g5⟩:=fC;exact I'.turned (t':=s'.toks) (fun b o hb e=>(sb.2 b hb).trans e) g0 g1 g3 g4 g5
theorem cS{i:Nat}{y:Str}{py RM:Pos}(S:im NB src scope X)(hc:X.calm=true)(hi:PI X tg jQ wi)(hg:∀cl C s₃ H₃ fp,PG (BU X NB scope cl C s₃ H₃ fp) tg g)(ht:∀cl C s₃ H₃ fp,Qu (BU X NB scope cl C s₃ H₃ fp) BV tt)(he:∀cl C s₃ H₃ fp,PE (BU X NB scope cl C s₃ H₃ fp) ED te)(hN:X.N.Nodup)(hix:X.N[i]?=some y)(hy:X.env.scope.names.lookup y=some .local)(hsw:swapsWith (.ListComp ED [⟨tg,jQ,BV,0⟩] scope pos) (some (.Name y py)) RM.line X.env=pure true)(hs:∀x,foldedSetIterable jQ X.env x=pure x:=by intro _;rfl):
  PS X (.Assign [.Name y py] (.ListComp ED [⟨tg,jQ,BV,0⟩] scope pos) RM) (C3 (FE src wi g tt te) (bE i)):=by
 intro ag s σ H D0 I h;obtain⟨cl,JB,c1,c2⟩:=lX I.ok S;rw[exec_Assign_Name_used _ _ _ _ hsw];refine aD (lN (aD ?_));show wpAny _ X.A (do let _ <- comprehension (.ListComp ED [⟨tg,jQ,BV,0⟩] scope pos) scope X.env _ (newList []) false (eval jQ X.env) (some (assign (.Name y py) X.env))) _ _ s;refine aD (jp (wpAny_comprehension_free (use:=some (assign (.Name y py) X.env)) (Q:=fun _ s'=>SP X ag D0 .next s') (cl:=cl) rfl hs JB S.kind S.names
  (cV (hi ag s σ H _ I h) fun v s1 h1=>cV h1 fun Vt s2 h2=>?_)) (fun _ s' hq=>wpAny_pure (wpAny_pure hq)) fun _ _ e=>e)
 obtain⟨it,fp,tn,J,H2,e,I2,T,tG,f2,hw⟩:=h2;subst e;refine rM (RR:=fun dR C=>compPost (model X.prog X.w) X.A X.xe (some (assign (.Name y py) X.env)) (fun _ s'=>SP X ag D0 .next s') dR C) S hc c1 c2 hg ht he I2 T tG f2 hw fun D C H' s' fC I' hm q=>?_;obtain⟨m,hm⟩:=hm;obtain⟨g0,g1,_,g3,g4,g5⟩:=fC;show wpAny _ X.A (assign (.Name y py) X.env (.ref D)) _ _ _;refine wpAny_assign_Name (kW I' hN hix (.inl hy) (v:=.ref D) rfl (fun Rt I'' sb=>?_) (.inr hy));obtain⟨a,sb,ha⟩:=sb;have ur:C≠a:=by
  rcases ha with z|z
  .rw[z];exact g1
  .exact fun z'=>g4 y a z z'.symm
 refine⟨m,hm.sameBut sb ur,fun h' sb'=>⟨_,H',I''.turned (t':=Rt.toks) (fun b o hb e=>(sb'.2 b hb).trans e) g0 g1 g3 g4 g5,q⟩⟩
end
structure FG(P:Program)(w:World)(outer:List Env)(H:Hp)(s:Shared)(B:Heap)(p:Addr)(C a0:Value)(H':Hp)(s':Shared):Prop where
 os:s'.os=s.os
 bare:AllBare s'.gens
 b_:jR P w H' B
 keep:∀b o,s.heap.get? b=some o->H b=none->b∉qe outer->B.get? b=some o/\H' b=none
 frame:∀b o,s.heap.get? b=some o->H b=none->b∈qe outer->(∃sl,s'.heap.get? b=some { o with slots:=sl })/\H' b=none
 there:∀b o,s.heap.get? b=some o->H b≠none->∃o',B.get? b=some o'
 kg:∀b xs,H b=some (.tup xs)->H' b=some (.tup xs)
 lR:∀b o u,H b=some (.tw o u)->H' b=some (.tw o u)
 mF:∀b ps,H b=some (.qy ps)->∃more,H' b=some (.qy (ps++more))
 fl:Heap.FlyingW B outer p C a0 s'.heap
def FH(P:Program)(w:World):vJ:=fun outer H s E e s'=>∃p C a0 B H',e=.ref p/\FG P w outer H s B p C a0 H' s'/\E C none H'
section
variable {P:Program} {w:World} {K:PySem.W.Frag} {mg:Str->Option Value} {base:Heap} {N:List Str} {qual:Str} {scope:Scope} {f:Addr} {cd:Value} {A:Around} {outer:List Env} {s:Shared} {H:Hp} {E:XK}
abbrev WV(h:Heap)(l:List Env):Heap:=PySem.W.hideAll h (qe l)
theorem JC{l:List Env}{H1:Hp}{h:Heap}(ok:jR P w H1 h)(nf:∀b∈qe l,H1 b=none):jR P w H1 (WV h l):=fun a o e=>by
 refine(ok a o e).oz (fun b u hb q=>u4 _ q fun z=>?_) (fun _ q=>q) fun _ _ q=>q;have n:=nf b z;rcases hb with rfl|hb
 .rw[n] at e;cases e
 .rw[n] at hb;cases hb
theorem FI{ag:List (Addr×Obj)}{σ:St}{H1:Hp}{s1:Shared}{h':Heap}{e:Addr}{C:Value}{vs:List Value}(I:aU (qf (FH P w) P w K mg base N qual scope f cd A outer s H E) ag σ H1 s1)(hx:Heap.MadeExcOf s1.heap h' e C vs)(q:E C none H1):
  (qf (FH P w) P w K mg base N qual scope f cd A outer s H E).xe (.ref e) { s1 with heap:=h' }:=by
 have EZ:qe (envOfC qual scope s.heap.objs.size f cd::outer)=s.heap.objs.size::qe outer:=rfl;have WW:=I.stack;refine wpAny_leaves_madeW (base:=WV s1.heap (envOfC qual scope s.heap.objs.size f cd::outer)) (h:=s1.heap) (L:=s.heap.objs.size) I.ok.frames rfl (fun b o z=>PySem.W.of_hideAll _ z)
  (PySem.W.funFrames_hide WW fun env he b hb=>lE.mpr ⟨env,he,hb⟩) hx fun h2 t x1 x2 x3 x4=>?_
 have inB:∀b o,s1.heap.get? b=some o->b∉qe outer->b<s.heap.objs.size->(WV s1.heap (envOfC qual scope s.heap.objs.size f cd::outer)).get? b=some o:=fun b o z hb eZ=>
  u4 _ z fun m=>by
   rw[EZ] at m;rcases bK.mp m with z'|z'
   .exact absurd eZ (by rw[z'];exact h_ _)
   .exact hb z'
 refine⟨e,C,.ref t,_,H1,rfl,⟨I.os,I.bare,JC I.b_ I.vC,fun b o z n hb=>⟨inB b o (I.base.keep b o z n hb (by intro m;exact absurd (show b∈([]:List Addr) from m) (by simp))) hb (bh z),I.base.free b o z n (by intro m;exact absurd (show b∈([]:List Addr) from m) (by simp))⟩,
  fun b o z n hb=>⟨?_,I.base.free b o z n (by intro m;exact absurd (show b∈([]:List Addr) from m) (by simp))⟩,fun b o z n=>?_,I.base.kg,I.base.lR,I.base.mF,x1⟩,q⟩
 .obtain⟨sl,z1⟩:=I.base.slot b o z n hb (by intro m;exact absurd (show b∈([]:List Addr) from m) (by simp));obtain⟨_,o',xb,nd⟩:=I.ok.lS.mem hb;have e':o'=o:=bP (xb.symm.trans z);subst e';obtain⟨NP,z2⟩:=x4 b _ (hx.keeps _ _ z1) nd;exact⟨NP,z2⟩
 .have WX:b∉qe (envOfC qual scope s.heap.objs.size f cd::outer):=fun m=>by
   rw[EZ] at m;rcases bK.mp m with z'|z'
   .exact absurd (bh z) (by rw[z'];exact h_ _)
   .exact n (I.ok.IL b z')
  obtain⟨o',z1⟩:=I.base.there b o z (by intro m;exact absurd (show b∈([]:List Addr) from m) (by simp));exact⟨o',u4 _ z1 WX⟩
end
theorem RN{P:Program}{w:World}{X:Cx}:jw (FH P w) X E0:=fun _ _ _ _ _ _ _ h=>by
 obtain⟨_,_,_,_,_,_,_,q⟩:=h;exact q.elim
open PySem PySem.Spec PyProof.Rows PySem.W
abbrev bmV:List Value:=[.type "ValueError",.type "Exception",.type "BaseException",.type "object"]
structure mS(K:PySem.W.Frag)(C:Addr):Prop where
 ex:PySem.W.excIn K C bmV "ValueError.__new__"=true
 kp:PySem.W.keepIn K (.ref C)=true
 ga:PySem.W.findIn K (.ref C) "__getattribute__"=some (some (.builtin "BaseException.__getattribute__"))
 gt:PySem.W.findIn K (.ref C) "__getattr__"=some none
 cl:PySem.W.findIn K (.ref C) "__class__"=some (some (.builtin "object.__class__"))
 mo:PySem.W.mroIn K C (.type "object")=some true
 mb:PySem.W.mroIn K C (.type "BaseException")=some true
 ty:(PySem.W.clsIn K C).isSome=true
theorem xG{K:PySem.W.Frag}{h:Heap}{C:Addr}{ZX:List Value}{Mh:String}(X:K.In h)(q:PySem.W.excIn K C ZX Mh=true):
  ∃bm N nm qn bs hdct sn sub ab col dd k0 k1 k2 k3 k5 mN,h.get? C=some (excClassObj nm qn C N bs bm hdct sn sub ab col dd k0 k1 k2 k3 k5 Mh)/\h.Ns N mN/\mN "__init__"=none/\OwnTail h ZX bm:=by
 unfold PySem.W.excIn at q;split at q
 .rename_i dd cd sl ho;split at q
  .rename_i C' bm k0 k1 k2 k3 n k5 hm hs;simp only[fA,ff,Bool.not_eq_true'] at q;obtain⟨⟨⟨⟨⟨rfl,rfl⟩,RP⟩,ht⟩,b_⟩,RQ⟩:=q;obtain⟨nm,bs,mro,ns,qn,hd,sn,sub,ab,col,del⟩:=cd;dsimp only at hm RP b_ RQ;subst hm RP;have Qv:sl=#[k0,k1,k2,k3,some (.builtin n),k5]:=by
    obtain⟨l⟩:=sl;simp only at hs;rw[hs]
   subst Qv;exact⟨bm,ns,nm,qn,bs,hd,sn,sub,ab,col,dd,k0,k1,k2,k3,k5,_,X _ _ ho,.of_isNs (isNs_of_in X b_),nsMap_none_of_in X b_ RQ,tail_of_in X ht⟩
  .cases q
 .cases q
def Mi(p:Addr)(C:Value)(h:Heap):Prop:=∃o,h.get? p=some o/\o.cls=C
abbrev tL(p:Addr)(C:Value):HO:=.ext (Mi p C)
theorem Mi.ok{P:Program}{w:World}{H:Hp}{h:Heap}{p:Addr}{C:Value}(x:Mi p C h):cu P w H h p (tL p C):=
 ⟨x,(let ⟨o,e,_⟩:=x;⟨o,e⟩),fun h1 h2 ⟨o,e,r⟩ k=>⟨o,k o e,r⟩⟩
theorem cu.get(x:cu P w H h a o):∃u,h.get? a=some u:=by
 cases o with
 |lst xs=>obtain⟨_,_,_,_,e⟩:=x;exact⟨_,e⟩
 |tup xs=>obtain⟨_,_,_,ob,e,_⟩:=x;exact⟨_,e⟩
 |dK cN=>obtain⟨_,_,_,_,o,_,_,e,_⟩:=x;exact⟨_,e⟩
 |dT cN=>obtain⟨_,_,_,_,o,_,_,e,_⟩:=x;exact⟨_,e⟩
 |set S n=>obtain⟨o,_,_,_,e,_⟩:=x;exact⟨_,e⟩
 |ins C dx fs=>obtain⟨_,_,_,e,_⟩:=x;exact⟨_,e⟩
 |own y=>exact x
 |xd fs=>obtain⟨_,⟨_,_,_,e,_⟩,_⟩:=x;exact⟨_,e⟩
 |Jd lo hi=>obtain⟨_,_,_,e⟩:=x;exact⟨_,e⟩
 |tw ob u=>obtain⟨e,_⟩:=x;exact⟨_,e⟩
 |qy ps=>exact⟨_,(show h.get? a=some _ from x)⟩
 |met f y=>exact⟨_,(show h.get? a=some _ from x)⟩
 |ext φ=>exact x.2.1
theorem jR.oR(x:jR P w H h)(e:h.get? a=none):H a=none:=by
 cases q:H a with
 |none=>rfl
 |some u=>obtain⟨o,z⟩:=(x a u q).get;rw[e] at z;cases z
theorem aU.xH(I:aU X ag σ H s)(k:∀b u,s.heap.get? b=some u->h'.get? b=some u)(hp:s.heap.get? a=none)(new:cu X.prog X.w (upd H a o) h' a o):
  aU X ag σ (upd H a o) { s with heap:=h',toks:=t' }:=by
 have hn:=I.b_.oR hp;have ne:∀b u,s.heap.get? b=some u->b≠a:=fun b u e z=>by rw[z,hp] at e;cases e
 refine I.un ⟨fun b u e _ _ _=>k b u e,fun b u e _ _ _=>⟨u.slots,k b u e⟩,fun b u e n _=>by rw[am (ne b u e)];exact n,fun b u e _=>⟨u,k b u e⟩,fun b xs e=>by rw[am (ao e hn)];exact e,fun b u v e=>by rw[am (ao e hn)];exact e,fun b ps e=>⟨#[],by rw[am (ao e hn),e];simp⟩⟩ fun b u e=>?_;by_cases hb:b=a
 .subst hb;rw[ae] at e;cases e;exact new
 .rw[am hb] at e;exact(I.b_ b u e).oz (fun c v _ q=>k c v q) (fun c q=>by rw[am (ao q hn)];exact q) fun c xs q=>by rw[am (ao q hn)];exact q
section
variable {prog:Program} {w:World} {A:Around} {E:Value->Shared->Prop} {s:Shared} {K:PySem.W.Frag} {x C:Addr} {ox:Obj}
theorem BW(hx:h.get? x=some ox)(hc:ox.cls=.ref C):PySem.W.Looks M h (typeOf (.ref x)) (.ref C):=hc ▸ (PySem.W.Looks.ld hx).andThen .now
open Builtin Builtin.ObjectAttr Builtin.Getset_descriptor in
theorem Ar(X:K.In s.heap)(hx:s.heap.get? x=some ox)(hc:ox.cls=.ref C)(hm:PySem.W.mroIn K C (.type "object")=some true)(h:R (.ok (.ret (.ref C))) s):codeAny (model prog w) A (.call (.builtin "getset_descriptor.__get__") ⟨[.builtin "object.__class__",.ref x,tp],[]⟩) R s:=by
 obtain⟨hh,g,dr,t,os⟩:=s;have L0:=BW (M:=model prog w) hx hc;have L1:=looks_mroIn (M:=model prog w) X hm;refine zI KF.slot_gs.plain KF.entry_gs (KF.slot_gs.check _ _ _ _ _ _ _ _ KF.type_class (KF.args_gs _ _ _) ?_);unfold Builtin.«getset_descriptor.__get__» descrGet;rw[dga_obj];refine aD (wpAny_pure ?_);unfold descrGetter descrCheckInstance descrNameAndClass isInstance;simp only[KF.owner_class];repeat lk
 refine⟨Code.quiet_builtin _ (by decide +kernel),on KF.entry_class ?_⟩;unfold Builtin.«object.__class__» shownTypeOf;repeat lk
 exact h
theorem xI{M:Model}{D:Addr}{b:Bool}{Q:Bool->Shared->Prop}{h:Heap}{g d t os}(X:K.In h)(TD:mS K D)(hx:h.get? x=some ox)(hc:ox.cls=.ref C)(sub:PySem.W.subIn K (.ref C) (.ref D)=some b)(hq:Q b ⟨h,g,d,t,os⟩):
  wpAny M A (excMatches (.ref x) (.ref D)) Q E ⟨h,g,d,t,os⟩:=by
 obtain⟨bm,N,nm,qn,bs,hdct,sn,aad,ab,col,dd,k0,k1,k2,k3,k5,mN,hC,hN,RQ,TL⟩:=xG X TD.ex;have hcB:(Value.ref D::bm).contains (.type "BaseException")=true:=by rw[List.contains_cons,TL.hasType yX.hasBase,Bool.or_true]
 have L1:=looks_subIn (M:=M) X sub;have f:=tc_notTuple;unfold excMatches;repeat (first|(with_reducible refine q9 hx ?_;rw[hc])|with_reducible refine q9 hC ?_|with_reducible refine L1.at ?_|(with_reducible refine wpAny_isSubtype_exc hC ?_;rw[hcB])|wp_step)
 cases b
 .repeat (first|exact hq|wp_step)
 .repeat (first|exact hq|wp_step)
theorem Dg{g d t os}(T:mS K C)(X:K.In h)(hx:h.get? x=some ox)(hc:ox.cls=.ref C)(hq:Q (.done (.ret (.ref C))) ⟨h,g,d,t,os⟩):
  wpAny (model prog w) A (Builtin.«object.__getattribute__» ⟨[.ref x,.str "__class__" tk],[]⟩) Q E ⟨h,g,d,t,os⟩:=by
 have f5:=F.typeOf_bexc_args;have hT5:(⟨h,g,d,t,os⟩:Shared).TypeIs (.builtin "object.__class__") "getset_descriptor":=EN;have f5':=EN;have f6:=F.slot_gs_get.lookup;have f7:=F.slot_gs_set.lookup;have L1:=looks_findIn (M:=model prog w) X T.cl;repeat (any_goals (first|assumption|(with_reducible refine q9 hx ?_;rw[hc])|with_reducible refine L1.at ?_|wp_step))
 refine Ar (s:=⟨h,g,d,t,os⟩) X hx hc T.mo ?_;repeat (any_goals (first|assumption|wp_step))
theorem Dh{g d t os}(T:mS K C)(X:K.In h)(hx:h.get? x=some ox)(hc:ox.cls=.ref C)(hq:Q () ⟨h,g,d,t,os⟩):
  wpAny M A (checkBuiltinCall "BaseException.__getattribute__" ⟨[.ref x,RS],[]⟩) Q E ⟨h,g,d,t,os⟩:=by
 have hk:builtinKind "BaseException.__getattribute__"=some .slot:=by decide +kernel
 have NQ:splitId "BaseException.__getattribute__"=some ("BaseException","__getattribute__"):=by decide +kernel
 have ha:=F.args_bexc_ga (.ref x) RS;have L1:=looks_mroIn (M:=M) X T.mb;simp only[checkBuiltinCall,hk,NQ];refine aD ?_
 .unfold isInstance;repeat (first|(with_reducible refine q9 hx ?_;rw[hc])|with_reducible refine L1.at ?_|wp_step)
  exact hq
theorem NR{tk:Tok}{fill Jj:Bool}{Q:Value->Shared->Prop}{h:Heap}{g d t os}(T:mS K C)(X:K.In h)(hx:h.get? x=some ox)(hc:ox.cls=.ref C)(hq:Q (.ref C) ⟨h,g,d,t,os⟩):
  wpAny (model prog w) A (getAttrBy (.ref x) (.str "__class__" tk) fill Jj) Q E ⟨h,g,d,t,os⟩:=by
 have f3:=F.attr_ValueError.ga.bind (.ref x);have NS:(Jj&&onTheHeap (Value.builtin "BaseException.__getattribute__"))=false:=by cases Jj <;> rfl
 have hx2:(Value.builtin "BaseException.__getattribute__"==Value.builtin "object.__getattribute__")=false:=by decide +kernel
 have ZY:(onTheHeap (Value.ref C)&&Value.builtin "BaseException.__getattribute__"==Value.builtin "object.__getattribute__")=false:=by rw[hx2];rfl
 have L1:=looks_findIn (M:=model prog w) X T.ga;have L2:=looks_findIn (M:=model prog w) X T.gt;repeat (any_goals (first|assumption|(with_reducible refine q9 hx ?_;rw[hc])|with_reducible refine L1.at ?_|with_reducible refine L2.at ?_|wp_step))
 refine zI F.attr_ValueError.ga.plain F.entry_bexc_ga (Dh T X hx hc (Dg T X hx hc ?_));repeat (any_goals (first|assumption|wp_step))
theorem FJ{Q:Option Value->Shared->Prop}{h:Heap}{g d t os}(T:mS K C)(X:K.In h)(hx:h.get? x=some ox)(hc:ox.cls=.ref C)(hq:Q (some (.ref C)) ⟨h,g,d,t+1,os⟩):
  wpAny (model prog w) A (getAttr? (.ref x) "__class__") Q E ⟨h,g,d,t,os⟩:=by
 unfold getAttr?;repeat (any_goals (first|assumption|with_reducible apply NR T X hx hc|wp_step))
theorem rN(T:mS K C):PySem.W.KitX K (.ref x) (.ref C) (Mi x (.ref C)) where
 ty:=fun _ _ _ ⟨o,e,c⟩=>BW e c
 it:=fun _ _ X _=>by
  obtain⟨cdD,Jl⟩:=uU.mp T.ty;unfold clsIn at Jl;split at Jl
  .rename_i c' d' cd' Wj ho;intro A' Q' E' s' k q;unfold isType loadHead;exact aD (wpAny_loadPart (k _ _ (X _ _ ho)) (wpAny_pure q))
  .cases Jl
 ne:=fun h tp dd its n sl X htp=>by
  obtain⟨cdD,Jl⟩:=uU.mp T.ty;refine qX.mpr fun q=>?_;have e:C=tp:=Value.ref.inj (ff.mp q);subst e;unfold clsIn at Jl;split at Jl
  .rename_i c' d' cd' Wj ho;have z:=(X _ _ ho).symm.trans htp;cases z
  .cases Jl
 ca:=fun {_ _ _ _ _ s} X ⟨o,e,c⟩ k=>by
  obtain⟨h,g,d,t,os⟩:=s;exact FJ T X e c k
end
section
variable {X:Cx}
inductive JD (K:PySem.W.Frag) (H:Hp):V->Value->Prop where
 |of {v:V} {t:Value} (h:oI K H v t):JD K H v t
 |exc {p C:Addr} (T:mS K C) (e:H p=some (tL p (.ref C))):JD K H (.ref p) (.ref C)
def RT(K:PySem.W.Frag):List V->Hp->VK->Prop:=fun xs H Q=>∃x c cv t b,xs=[x,c]/\(c=.ty cv/\PySem.W.kitOne K t (.type cv)=some b)/\JD K H x t/\Q (.bl b) H
theorem e_:et X (.builtin "isinstance") (RT X.K):=by
 intro ag s σ H xs us Q I r h;obtain⟨x,c,cv,t,b,rfl,⟨rfl,e⟩,ty,q⟩:=h;obtain⟨u1,u2,rfl,r1,r2⟩:=r.two;obtain rfl:u2=Value.type cv:=r2;cases ty with
 |of ty=>exact ue I r1 ty e fun tk=>⟨.bl b,H,I.tok tk,rfl,q⟩
 |@exc p C T ea=>
  obtain rfl:u1=Value.ref p:=r1;have p1:Mi p (.ref C) s.heap:=(I.b_ p _ ea).1;exact i4 (rN T) I.mj p1 e (fun z=>nomatch z) fun tk=>⟨.bl b,H,I.tok tk,rfl,q⟩
def Mj(K:PySem.W.Frag):List V->Hp->VK->Prop:=fun xs H Q=>∃x c t b,xs=[x,.ref c]/\PySem.W.kitOne K t (.ref c)=some b/\JD K H x t/\Q (.bl b) H
theorem Di:et X (.builtin "isinstance") (Mj X.K):=by
 intro ag s σ H xs us Q I r h;obtain⟨x,c,t,b,rfl,e,ty,q⟩:=h;obtain⟨u1,u2,rfl,r1,r2⟩:=r.two;obtain rfl:u2=Value.ref c:=r2;cases ty with
 |of ty=>exact ue I r1 ty e fun tk=>⟨.bl b,H,I.tok tk,rfl,q⟩
 |@exc p C T ea=>
  obtain rfl:u1=Value.ref p:=r1;have p1:Mi p (.ref C) s.heap:=(I.b_ p _ ea).1;exact i4 (rN T) I.mj p1 e (fun z=>nomatch z) fun tk=>⟨.bl b,H,I.tok tk,rfl,q⟩
end
section
variable {X:Cx} {x:Str} {C:Addr} {np iw pos:Pos} {e:Expr} {es:List Expr} {t:TA}
def NU(q:Hp->Prop)(t:TA):TS:=fun _ σ H=>t σ H fun vs H1=>vs.length<=sizeLine/\q H1
theorem FL{q:Hp->Prop}(hc:X.calm=true)(T:mS X.K C)(hg:Gl X x)(hm:X.mg x=some (.ref C))(ha:PA X (e::es) t)(hxe:∀ (ag:List (Addr×Obj)) (σ:St) (H1:Hp) (s1:Shared) (h':Heap) (p:Addr) (vs:List Value),aU X ag σ H1 s1->Heap.MadeExcOf s1.heap h' p (.ref C) vs->q H1->X.xe (.ref p) { s1 with heap:=h' })(tI:(x==("__debug__":Str))=false:=by decide)(he:starEach (e::es) X.env=(false,eval e X.env)::starEach es X.env:=by rfl)(xf:(backTo iw (starEach (e::es) X.env)).any (·.1)=false:=by rfl):
  PS X (.Raise (some (.Call (.Name x np) (e::es) [] iw)) none pos) (NU q t):=by
 intro ag s σ H D I h;obtain⟨bm,N,nm,qn,bs,hdct,sn,sub,ab,col,dd,k0,k1,k2,k3,k5,mN,hC,hN,RQ,TL⟩:=xG I.ok.mod.L_ T.ex;refine wpAny_Raise_call_subT (C:=C) (nm:=nm) (q:=qn) (N:=N) (bs:=bs) (bm:=bm) (hdct:=hdct) (sn:=sn) (sub:=sub) (ab:=ab) (col:=col) (dd:=dd) (k0:=k0) (k1:=k1) (k2:=k2) (k3:=k3) (k5:=k5)
  yX (mN:=mN) (TL.hasType yX.hasBase) (I.ok.hd hc) xf RQ (mH I hg hm ⟨rfl,?_⟩ tI)
 have h1:=ha iw ag s σ H _ I h;rw[he] at h1 |-;exact zM (jp h1 (fun us s2 ⟨vs,H2,I2,r,hl,z⟩=>⟨rfl,(by show us.length<=sizeLine;rw[<-r.length];exact hl),I2.bk _ _ hC,hN.keeps I2.bk,TL.keeps I2.bk,fun h' p m=>hxe ag σ H2 s2 h' p us I2 m z⟩) fun _ _ y=>y)
end
def mT(CX:vJ)(X:Cx)(E:St->XK):Prop:=∀ (ag:List (Addr×Obj)) (σ:St) (H:Hp) (s:Shared) (e:Value) (s':Shared),aU X ag σ H s->CX X.stack H s (E σ) e s'->X.xe e s'
def As(sp:Sp)(lV:List V)(E:St->XK)(t:TA):TE:=fun σ H Q=>t σ H fun vs H1=>sp (vs++lV) H1 Q (E σ)
section
variable {X:Cx} {CX:vJ} {k:Nat} {f C:Addr} {fd:FuncData} {ps:List Str} {sp:Sp} {lV:List V} {ds:List Value} {E:St->XK} {x m:Str} {p pos kq:Pos} {e o:Expr} {es:List Expr} {ta:TE} {t:TA}
theorem JE{ag:List (Addr×Obj)}{σ:St}{H:Hp}{s:Shared}{Q:VK}{us:List Value}{vs:List V}(F:bL X.prog X.w X.K X.mg X.base CX k f fd ps sp)(hr:cx k X.A)(hb:iH X.K fd ps ds)(hd:ba lV ds)(hx:mT CX X E)(I:aU X ag σ H s)(r:ba vs us)(h:sp (vs++lV) H Q (E σ)):wpAny (model X.prog X.w) X.A (call (.ref f) us) (EP X ag σ Q) X.xe s:=by
 have r2:ba (vs++lV) (us++ds):=r.append hd;have hl:(us++ds).length=ps.length:=by rw[<-r2.length];exact F.len _ _ _ _ h
 refine rm (lO (F.run X.A X.stack s H ⟨us,[]⟩ (us++ds) (vs++lV) Q (E σ) hr I.Ny (hb s us I.mj hl) r2 h) fun r s' hq=>?_);cases r with
 |error e=>exact hx ag σ H s e s' I hq
 |ok fl=>
  cases fl with
  |ret u=>exact I.after hq
  |next=>exact False.elim hq
  |brk=>exact False.elim hq
  |cont=>exact False.elim hq
theorem FM(F:bL X.prog X.w X.K X.mg X.base CX k f fd ps sp)(hr:cx k X.A)(hg:Gl X x)(hm:X.mg x=some (.ref f))(hk:PySem.W.keepIn X.K (.ref f)=true)(hb:iH X.K fd ps ds)(hd:ba lV ds)(hx:mT CX X E)(ha:PA X (e::es) t)(tI:(x==("__debug__":Str))=false:=by decide)(he:starEach (e::es) X.env=(false,eval e X.env)::starEach es X.env:=by rfl)(xf:(backTo pos (starEach es X.env)).any (·.1)=false:=by rfl):
  PE X (.Call (.Name x p) (e::es) [] pos) (As sp lV E t):=by
 intro ag s σ H Q I h;refine n9 (mH I hg hm ?_ tI);refine u8 (h₀:=X.base) I.ok.mod.L_ hk (cV (ha pos ag s σ H _ I h) fun us s1 ⟨vs,H1,I1,r,q⟩=>⟨I1.mj,?_⟩) he xf;exact JE F hr hb hd hx I1 r q
end
section
variable {X:Cx} {CX:vJ} {k:Nat} {f:Addr} {fd:FuncData} {ps:List Str} {sp:Sp} {lV:List V} {ds:List Value} {E:XK} {x:Str} {p pos:Pos} {e:Expr} {es:List Expr} {t:TA}
end
section
variable {P:Program} {w:World} {K:PySem.W.Frag} {mg:Str->Option Value} {base:Heap}
theorem gv.okX{x qual:Str}{st:Stmt}{f:Addr}{fd:FuncData}{N ps:List Str}{k:Nat}{sp:Sp}(F:gv K x qual st f fd)(S:aS N ps (av st))(len:∀vs H Q E,sp vs H Q E->vs.length=ps.length)(rF:∀ (dW:Value) (A:Around) (outer:List Env) (s:Shared) (H:Hp) (vs:List V) (Q:VK) (E:XK),cx k (A.deeper (envOfC qual (av st) s.heap.objs.size f dW))->sp vs H Q E->
   ∃t,ub (qf (FH P w) P w K mg base N qual (av st) f dW A outer s H E) (bV st) t/\t { nx:=fun _ H'=>Q .bD H',rt:=Q } (start N vs) H):bL P w K mg base (FH P w) (k+1) f fd ps sp:=by
 obtain⟨oc,od,kV,mq,pm,an,dW,ct,tJ,rfl,lk,qz⟩:=F.ex;exact Fk lk qz S len fun A outer s H vs Q E hr EB=>rF dW A outer s H vs Q E hr EB
end
abbrev Cx.gQ(X:Cx)(pn:List (Addr×Obj))(xe:Value->Shared->Prop):Cx:={ X with pn:=pn,xe:=xe }
abbrev Cx.fL(X:Cx)(pn:List (Addr×Obj))(p:Addr):Cx:={ X with pn:=pn,xe:=fun _ _=>False,calm:=false,A:=X.A.mark (some (.ref p)) }
theorem Cx.Ok.gQ{X:Cx}(ok:X.Ok)(pn:List (Addr×Obj))(xe:Value->Shared->Prop):(X.gQ pn xe).Ok:=
 ⟨ok.mod,ok.kind,ok.glob,ok.blt,ok.above,ok.inj,ok.has,ok.M9,ok.hd,ok.frames,ok.EZ,ok.Q4,ok.bs,ok.Ex,ok.z0,ok.C0,ok.lS,ok.IL⟩
theorem Cx.Ok.fL{X:Cx}(ok:X.Ok)(pn:List (Addr×Obj))(p:Addr):(X.fL pn p).Ok:=
 ⟨ok.mod,ok.kind,ok.glob,ok.blt,ok.above,ok.inj,ok.has,ok.M9,fun z=>absurd (show false=true from z) (by decide),ok.frames,ok.EZ,ok.Q4,ok.bs,ok.Ex,ok.z0,ok.C0,ok.lS,ok.IL⟩
section
variable {X:Cx} {ag:List (Addr×Obj)} {σ:St} {H:Hp} {s:Shared}
theorem aU.gQ(I:aU X ag σ H s)(xe:Value->Shared->Prop):aU (X.gQ (X.pn++ag) xe) [] σ H s:=
 ⟨I.ok.gQ _ _,I.os,I.bare,I.base,I.loc,I.cell,I.free,I.ig,fun p hp=>I.pin p (by simpa using hp),I.b_,I.len⟩
theorem aU.mU{rp:List (Addr×Obj)}{xe:Value->Shared->Prop}(ok:X.Ok)(I:aU (X.gQ (X.pn++ag) xe) rp σ H s):aU X ag σ H s:=
 ⟨ok,I.os,I.bare,I.base,I.loc,I.cell,I.free,I.ig,fun p hp=>I.pin p (fw _ hp),I.b_,I.len⟩
theorem aU.At{rp:List (Addr×Obj)}{p:Addr}(ok:X.Ok)(I:aU (X.fL (X.pn++ag) p) rp σ H s):aU X ag σ H s:=
 ⟨ok,I.os,I.bare,I.base,I.loc,I.cell,I.free,I.ig,fun p hp=>I.pin p (fw _ hp),I.b_,I.len⟩
theorem vS{xe:Value->Shared->Prop}{rp:List (Addr×Obj)}{B h6:Heap}{p:Addr}{C a0:Value}{H':Hp}{s':Shared}(ok:X.Ok)(I:aU (X.gQ (X.pn++ag) xe) rp σ H s)(F:FG X.prog X.w X.stack H s B p C a0 H' s')(fl:Heap.FlyingW B X.stack p C a0 h6)(sm:s'.heap.UpToSlots h6):
  H' p=none/\aU (X.fL (X.pn++ag) p) [] σ (upd H' p (tL p C)) { s' with heap:=h6 }:=by
 have hp:H' p=none:=F.b_.oR fl.2.1;have WX:∀b∈qe X.stack,b≠p:=fun b hb z=>by
  obtain⟨_,o,ho,nd⟩:=fl.2.2.1.mem hb;obtain⟨oe,vs,_,_,_,he,_,hd,_⟩:=fl.2.2.2;rw[z] at ho;have e:o=oe:=bP (ho.symm.trans he);rw[e] at nd;exact nd vs hd
 have ne:∀b o,s.heap.get? b=some o->H b=none->b≠p:=fun b o e n z=>by
  by_cases hb:b∈qe X.stack
  .exact WX b hb z
  .have q:=(F.keep b o e n hb).1;rw[z,fl.2.1] at q;cases q
 have neT:∀ {b:Addr} {u:HO},H' b=some u->b≠p:=fun {b u} e z=>by rw[z,hp] at e;cases e
 have U:Un (qe X.stack) [] H (upd H' p (tL p C)) s.heap h6:={
  keep:=fun b o e n hb _=>fl.1 _ _ (F.keep b o e n hb).1
  slot:=fun b o e n hb _=>by
   obtain⟨⟨sl,q⟩,_⟩:=F.frame b o e n hb;obtain⟨_,o',xb,nd⟩:=F.fl.2.2.1.mem hb;have e':o'={ o with slots:=sl }:=bP (xb.symm.trans q);obtain⟨NP,q2⟩:=sm b o' xb nd;rw[e'] at q2;exact⟨NP,q2⟩
  free:=fun b o e n _=>by
   rw[am (ne b o e n)];by_cases hb:b∈qe X.stack
   .exact(F.frame b o e n hb).2
   .exact(F.keep b o e n hb).2
  there:=fun b o e _=>by
   cases n:H b with
   |none=>
    by_cases hb:b∈qe X.stack
    .obtain⟨_,o',xb,nd⟩:=fl.2.2.1.mem hb;exact⟨o',xb⟩
    .exact⟨o,fl.1 _ _ (F.keep b o e n hb).1⟩
   |some u=>
    obtain⟨o',q⟩:=F.there b o e (by rw[n];intro z;cases z);exact⟨o',fl.1 _ _ q⟩
  kg:=fun b xs e=>by rw[am (neT (F.kg b xs e))];exact F.kg b xs e
  lR:=fun b o u e=>by rw[am (neT (F.lR b o u e))];exact F.lR b o u e
  mF:=fun b ps e=>by
   obtain⟨m,q⟩:=F.mF b ps e;exact⟨m,by rw[am (neT q)];exact q⟩ }
 have b_:jR X.prog X.w (upd H' p (tL p C)) h6:=fun b u e=>by
  by_cases hb:b=p
  .subst hb;rw[ae] at e;cases e;obtain⟨o,q,c⟩:=fl.there;exact Mi.ok ⟨o,q,c⟩
  .rw[am hb] at e;exact(F.b_ b u e).oz (fun c v _ q=>fl.1 c v q) (fun c q=>by rw[am (neT q)];exact q) fun c xs q=>by rw[am (neT q)];exact q
 have J:=I.Md (s':={ s' with heap:=h6 }) (ch:=[]) F.os U b_ F.bare fun b z=>absurd z (by simp);exact⟨hp,⟨ok.fL _ _,J.os,J.bare,J.base,J.loc,J.cell,J.free,J.ig,fun q hq=>J.pin q (fw _ (by simpa using hq)),J.b_,J.len⟩⟩
end
def RU(K:PySem.W.Frag)(Dc:Addr)(i:Nat)(E:St->XK)(tb th:TS):TS:=fun D σ H=>tb D σ H/\∀σ' C H',E σ' C none H'->PySem.W.subIn K C (.ref Dc)=some true/\(∃Cc,C=.ref Cc)/\
 ∀p,H' p=none->th { nx:=fun σ2 H2=>D.nx (σ2.set i none) H2,rt:=D.rt,bk:=fun σ2 H2=>D.bk (σ2.set i none) H2,ct:=fun σ2 H2=>D.ct (σ2.set i none) H2 } (σ'.set i (some (.ref p))) (upd H' p (tL p C))
theorem NW{X:Cx}{body xJ:List Stmt}{b₀:Stmt}{x n:Str}{np xK pos:Pos}{Dc:Addr}{i:Nat}{E:St->XK}{tb th:TS}(TD:mS X.K Dc)(hg:Gl X x)(hm:X.mg x=some (.ref Dc))(km:X.stack=X.env::X.outer)(Ml:X.env.frame=some X.env.locals)(hN:X.N.Nodup)(hi:X.N[i]?=some n)(hn:X.env.scope.names.lookup n=some .local)(hb:∀pn xe,mT (FH X.prog X.w) (X.gQ pn xe) E->ub (X.gQ pn xe) body tb)(hh:∀pn p,ub (X.fL pn p) (b₀::xJ) th)(tI:(x==("__debug__":Str))=false:=by decide):
  PS X (.Try body [.ExceptHandler (some (.Name x np)) (some n) (b₀::xJ) xK] [] [] pos) (RU X.K Dc i E tb th):=by
 intro ag s σ H D I h;obtain⟨h1,h2⟩:=h;refine wpAny_Try_except ?_;have M_:(X.env.scope.kind==.class||(X.env.scope.kind==.module&&X.env.locals != X.env.globals))=false:=by rw[I.ok.kind];rfl
 refine jp (hb (X.pn++ag) _ ?_ [] s σ H D (I.gQ _) h1) (fun f s1 q=>?_) fun e s1 q=>q
 .-- an exception has aae
  intro ZZ σ1 H1 s1 e s' I1 hcx;obtain⟨p,C,a0,B,H',rfl,F,q⟩:=hcx;obtain⟨RV,⟨Cc,hCc⟩,WY⟩:=h2 σ1 C H' q;subst hCc;have F':FG X.prog X.w X.stack H1 s1 B p (.ref Cc) a0 H' s':=F;have Z0:=F'.fl;rw[km] at Z0;refine wpAny_looks_onW (by rw[I.ok.frames,km]) Ml Z0 fun h4 RX tj=>?_;refine wpAny_landsW RX fun h5 WZ tm=>?_;have Mm:∀b o,X.base.get? b=some o->h5.get? b=some o:=fun b o e=>by
   obtain⟨e1,n1⟩:=I1.bs b o e;refine WZ.1 _ _ (F'.keep b o e1 n1 fun z=>?_).1;have:=(I1.stack.mem z).1;rw[e] at this;cases this
  have W0:X.K.In h5:=I.ok.mod.L_.keeps Mm;obtain⟨oe,RY,Qp⟩:=WZ.there;refine wpAny_handleBy_cons (codeAny_handlers_test (zd I.ok.kind hg (Calls.loadGlobal_global (by rw[I.ok.glob];exact I.ok.mod.glob.keeps Mm) hm ?_) tI)) (by intro z;cases z);refine xI (K:=X.K) W0 TD RY Qp RV ?_;show codeAny _ _ _ _ _;refine codeAny_handlers_suite_as ?_;refine lands_againW WZ fun h6 fl6 Au=>?_;have W1:Heap.FlyingW B X.stack p (.ref Cc) a0 h6:=by rw[km];exact fl6
  obtain⟨hp,IH⟩:=vS I.ok I1 F' W1 ((tj.trans tm).trans Au);refine kW (X:=X.fL (X.pn++ag) p) IH hN hi (.inl hn) (v:=.ref p) rfl (fun s7 I7 _=>?_) (.inr hn);refine jp (hh _ p [] s7 _ _ _ I7 (WY p hp)) (fun f s8 q8=>?_) fun _ _ z=>z.elim;have JF:∀ {σ2:St} {H2:Hp} {Q:Unit->Shared->Prop},aU (X.fL (X.pn++ag) p) [] σ2 H2 s8->(∀s9,aU X ag (σ2.set i none) H2 s9->Q () s9)->
    wpAny (model X.prog X.w) X.A (do bindName X.env n .none;unbindBehindTheSuite X.env n xK) Q X.xe s8:=fun {σ2 H2 Q} I8 k=>by
   have I8':aU X ag σ2 H2 s8:=I8.At I.ok;refine aD (wpAny_bindName (kW I8' hN hi (.inl hn) (v:=.bD) rfl (fun s9 I9 _=>?_) (.inr hn)));obtain⟨m,Z1,Qw⟩:=I9.loc;have hiσ:i<(σ2.set i (some V.bD)).length:=by rw[I9.len];exact(cK.mp hi).1
   have hiσ2:i<σ2.length:=by simpa using hiσ
   obtain⟨u,ru,lk⟩:=Qw i n .bD hi (by rw[lA hiσ2]) (.inl hn);have Z2:m n=some u:=by
    rcases lk with ⟨_,z⟩|⟨hk,_⟩
    .exact z
    .have xF:X.env.scope.names.lookup n=some .cell\/X.env.scope.names.lookup n=some .free:=hk;rw[hn] at xF;rcases xF with z|z <;> cases z
   unfold unbindBehindTheSuite;refine vy (wpAny_unbindName_local hn Z1 Z2 M_ fun h' uu Vr sb=>k _ ?_);obtain⟨oL,_,_,C1,_⟩:=id Z1;have b_:jR X.prog X.w H2 h':=fun b ob e=>by
    refine(I9.b_ b ob e).oz (fun c w' hc q=>(sb.2 c ?_).trans q) (fun _ q=>q) fun _ _ q=>q;rintro rfl;rcases hc with rfl|hc
    .rw[I9.free] at e;cases e
    .rw[I9.free] at hc;cases hc
   have nL:∀b o,X.s₀.heap.get? b=some o->b≠X.env.locals:=fun b o e=>bg (cQ (bh e) I9.ok.above);refine⟨I9.ok,I9.os,I9.bare,⟨fun b o e n' hb hx=>(sb.2 b (nL b o e)).trans (I9.base.keep b o e n' hb hx),fun b o e n' hb hx=>?_,I9.base.free,fun b o e hx=>?_,I9.base.kg,I9.base.lR,I9.base.mF⟩,⟨_,Vr,fun j y v e1 e2 e3=>?_⟩,fun y c e=>?_,I9.free,I9.ig,fun q hq=>?_,b_,by simpa using I9.len⟩
   .obtain⟨sl,e1⟩:=I9.base.slot b o e n' hb hx;exact⟨sl,(sb.2 b (nL b o e)).trans e1⟩
   .obtain⟨o',e1⟩:=I9.base.there b o e hx;exact⟨o',(sb.2 b (nL b o e)).trans e1⟩
   .by_cases hj:j=i
    .subst hj;rw[lA hiσ2] at e2;cases e2
    .rw[lC (fE hj)] at e2;obtain⟨u',r',l'⟩:=Qw j y v e1 (by rw[lC (fE hj)];exact e2) e3;refine⟨u',r',?_⟩;rcases l' with ⟨k1,z⟩|⟨k1,c,z1,z2⟩
     .have:y≠n:=fun e=>hj (rq hN e1 (e ▸ hi));exact .inl ⟨k1,by simp[this,z]⟩
     .exact .inr ⟨k1,c,z1,z2.sameBut sb (I9.Jg y c z1)⟩
   .obtain⟨w',z⟩:=I9.cell y c e;exact⟨w',z.sameBut sb (I9.Jg y c e)⟩
   .obtain⟨e,n',ne,nf,d⟩:=I9.pin q hq;exact⟨(sb.2 q.1 ne).trans e,n',ne,nf,d⟩
  cases f with
  |next=>obtain⟨σ2,H2,I8,q8⟩:=q8;exact JF I8 fun s9 I9=>⟨_,H2,I9,q8⟩
  |brk=>obtain⟨σ2,H2,I8,q8⟩:=q8;exact JF I8 fun s9 I9=>⟨_,H2,I9,q8⟩
  |cont=>obtain⟨σ2,H2,I8,q8⟩:=q8;exact JF I8 fun s9 I9=>⟨_,H2,I9,q8⟩
  |ret u=>obtain⟨v,σ2,H2,I8,r8,q8⟩:=q8;exact JF I8 fun s9 I9=>⟨v,_,H2,I9,r8,q8⟩
 .cases f with
  |next=>obtain⟨σ2,H2,I8,q8⟩:=q;exact re ⟨σ2,H2,I8.mU I.ok,q8⟩
  |brk=>obtain⟨σ2,H2,I8,q8⟩:=q;exact⟨σ2,H2,I8.mU I.ok,q8⟩
  |cont=>obtain⟨σ2,H2,I8,q8⟩:=q;exact⟨σ2,H2,I8.mU I.ok,q8⟩
  |ret u=>obtain⟨v,σ2,H2,I8,r8,q8⟩:=q;exact⟨v,σ2,H2,I8.mU I.ok,r8,q8⟩
theorem JG{h:Heap}{a:Addr}{m m':Str->Option Value}(x:h.Ns a m)(y:h.Ns a m'):m=m':=by
 obtain⟨o,es,ep,e,d,_,q⟩:=x;obtain⟨o',yN,Q7,e',d',_,q'⟩:=y;rw[e] at e';cases e';rw[d] at d';cases d';funext z;rw[<-q z,q' z]
theorem aU.RZ{X:Cx}{ag:List (Addr×Obj)}{σ:St}{H:Hp}{s:Shared}{h':Heap}{m:Str->Option Value}{D:Addr}{o:HO}{t':Nat}(I:aU X ag σ H s)(F:Fr X.base X.env.locals s.heap m)(F':Fr X.base X.env.locals h' m)(N':News X.base X.env.locals h' (jq X.base s.heap X.env.locals))(hD:s.heap.get? D=none)(new:cu X.prog X.w (upd H D o) h' D o):aU X ag σ (upd H D o) { s with heap:=h',toks:=t' }:=by
 have hn:=I.b_.oR hD;have ne:∀b u,s.heap.get? b=some u->b≠D:=fun b u e z=>by rw[z,hD] at e;cases e
 have keep:∀b u,b≠X.env.locals->s.heap.get? b=some u->h'.get? b=some u:=fun b u hb e=>by
  cases q:X.base.get? b with
  |some v=>
   have:=I.bk b v q;rw[e] at this;cases this;exact F'.keep b _ q
  |none=>exact(N' (b,u) (ki hb q e)).1
 refine I.step (g':=s.gens) (d':=s.drawn) (ch:=[]) (fun _ z=>absurd z (by simp)) (fun b u hb _ _ e _=>keep b u hb e) (fun b u hb _ _ e _=>⟨u.slots,keep b u hb e⟩) (fun b u _ e n=>by rw[am (ne b u e)];exact n) (fun b u _ e=>?_)
  (fun b xs e=>by rw[am (ao e hn)];exact e) (fun b u v e=>by rw[am (ao e hn)];exact e) (fun b ps e=>⟨#[],by rw[am (ao e hn),e];simp⟩) (fun m1 hm=>by rw[JG hm F.ns];exact F'.ns) (fun b u e=>?_) I.bare
 .by_cases hb:b=X.env.locals
  .obtain⟨o',_,_,q,_⟩:=F'.ns;exact⟨o',by rw[hb];exact q⟩
  .exact⟨u,keep b u hb e⟩
 .by_cases hb:b=D
  .subst hb;rw[ae] at e;cases e;exact new
  .rw[am hb] at e;refine(I.b_ b u e).oz (fun c v hc q=>keep c v ?_ q) (fun c q=>by rw[am (ao q hn)];exact q) fun c xs q=>by rw[am (ao q hn)];exact q
   rintro rfl;rcases hc with z|hc
   .have f:=I.free;rw[z,e] at f;cases f
   .rw[I.free] at hc;cases hc
theorem tO(I:aU X ag σ H s)(N:News X.base X.env.locals h' ((D,o)::jq X.base s.heap X.env.locals))(eZ:∀q∈jq X.base s.heap X.env.locals,q.1<D):s.heap.get? D=none:=by
 cases e:s.heap.get? D with
 |none=>rfl
 |some u=>
  obtain⟨_,n1,n2⟩:=N (D,o) bW;exact absurd (eZ (D,u) (ki n1 n2 e)) (h_ _)
def FN(K:PySem.W.Frag)(H:Hp)(a:Addr)(y:Int×Int):Prop:=bv K H a [.int y.1,.int y.2]
section
variable {X:Cx}
theorem Av(I:aU X ag σ H s)(h:FN X.K H a y):∃o n t u,s.heap.get? a=some o/\o.cls=.type "tuple"/\o.data=.seq #[.int y.1 t,.int y.2 u] n:=by
 obtain⟨its,r,p,_⟩:=I.tuple h;obtain⟨u1,u2,rfl,r1,r2⟩:=r.two;obtain⟨t,rfl⟩:=r1;obtain⟨t',rfl⟩:=r2;obtain⟨o,e,c,n,d⟩:=p;exact⟨o,n,t,t',e,c,d⟩
end
def NX(hs:Array Int)(i:Nat):Int:=(hs[i]?).getD 0
def gw(hs:Array Int)(t:SetTable)(h:Int):Option (Array Int×SetTable):=
 if t.gaveWay then none else
 match t.probe (NX hs) h (t.probeStart h) with
 |some (.empty j none)=>
  let q:=t.put j
  let FO:=SetTable.insertAt hs q.2 h
  if q.1.fits FO.size&&decide (FO.size<=4096) then
   if q.1.tooFull then
    (match q.1.relaid FO (SetTable.grown (hs.size+1)) with
    |some (t2,jM)=>
     let uc:=jM.filterMap (FO[·]?)
     if uc.size==FO.size&&t2.fits uc.size&&decide (SetTable.sizeAbove (SetTable.grown (hs.size+1))<=4096) then some (uc,t2) else none
    |none=>none)
   else some (FO,q.1)
  else none
 |_=>none
def vT(led:Bool):List Int->Option (Array Int×SetTable):=fun l=>l.foldlM (fun q h=>gw q.1 q.2 h) (#[],SetTable.fresh 0 0 led)
def ky(h:Heap)(S:Addr)(hs:Array Int)(t:SetTable):Prop:=∃o es ep,h.get? S=some o/\o.cls=.type "set"/\(o.dict=none/\o.slots=#[])/\o.data=.set es ep t/\es.map (·.1)=hs/\t.fits es.size=true
section
variable {prog:Program} {w:World} {A:Around} {E:Value->Shared->Prop} {s:Shared} {S:Addr}
theorem NY(es:Array (Int×Value)):(fun i=>(es[i]?.map (·.1)).getD 0)=NX (es.map (·.1)):=by
 funext i;unfold NX;rw[Array.getElem?_map]
theorem mV(es:Array (Int×Value))(p:Nat)(x:Int×Value):(SetTable.insertAt es p x).map (·.1)=SetTable.insertAt (es.map (·.1)) p x.1:=by
 unfold SetTable.insertAt;simp
theorem oT(es:Array (Int×Value))(jM:Array Nat):(jM.filterMap (es[·]?)).map (·.1)=jM.filterMap ((es.map (·.1))[·]?):=by
 apply Array.ext';rw[ve,uX,uX,List.map_filterMap];congr 1;funext i;rw[Array.getElem?_map]
theorem Aw(hS:ky s.heap S hs t)(hg:t.gaveWay=false)(hp:t.probe (NX hs) h (t.probeStart h)=some (.empty j none))(q:Q (.free j false) s):
  wpAny (model prog w) A (setSearch S x h true) Q E s:=by
 obtain⟨o,es,ep,ho,hc,Z3,hd,hm,hf⟩:=hS;unfold setSearch setSearchFrom;refine aD (vf ho hd hf ?_);dsimp only;rw[hg,aq cF];have JI:t.probe (fun i=>(es[i]?.map (·.1)).getD 0) h (t.probeStart h)=some (.empty j none):=by rw[NY,hm];exact hp
 refine aD (wpAny_pure ?_);erw[JI];exact wpAny_pure q
theorem Dj(ho:s.heap.get? a=some o)(hc:o.cls=.type "tuple")(hd:o.data=.seq #[.int x t,.int y u] n)(q:Q true s):
  wpAny (model prog w) A (hashByValue 8 (.ref a)) Q E s:=by
 have hT:s.TypeIs (.ref a) "tuple":=⟨_,ho,hc⟩
 unfold hashByValue;refine aD (wpAny_specialOf hT PySem.F.slot_tuple_hash.lookup ?_);refine aD (jj ho hd ?_);refine aD ?_;show wpAny _ _ (forIn #[Value.int x t,Value.int y u] _ _) _ _ s;rw[<-Array.forIn_toList];refine wpAny_forIn_list _ (fun mI r s'=>r.1=none/\s'=s/\∀v∈mI,∃z k,v=Value.int z k) _ ?_ ?_ _ _ ⟨rfl,rfl,fun v hv=>?_⟩
 .rintro v mI r s' ⟨hr,rfl,oN⟩;obtain⟨z,k,rfl⟩:=oN v bW;refine aD (wpAny_pure ?_);exact wpAny_pure ⟨rfl,rfl,fun u' tP=>oN u' (cX _ tP)⟩
 .rintro⟨r1,r2⟩ s' ⟨hr,rfl,_⟩;have BY:r1=none:=hr;subst BY;exact wpAny_pure q
 .rcases bK.mp hv with z|z
  .exact⟨_,_,z⟩
  .rcases bK.mp z with z|z
   .exact⟨_,_,z⟩
   .cases z
theorem BZ(hS:ky s.heap S hs t)(hf:t'.fits yN.size=true)(hz:yN.size<=4096)(q:∀h',Heap.SameBut S s.heap h'->ky h' S (yN.map (·.1)) t'->Q () { s with heap:=h' }):wpAny (model prog w) A (storeSet S yN t') Q E s:=by
 obtain⟨o,es,ep,ho,hc,Z3,hd,hm,_⟩:=hS;refine wpAny_storeSet_of ho hd (q _ (Heap.SameBut.update s.heap S (Obj.putSet yN t')) ?_) (bC hz (by decide));have g:=zG (Obj.putSet yN t') ho (by rw[putSet_of yN t' hd];rfl);rw[putSet_of yN t' hd] at g;exact⟨_,yN,ep+1,g,hc,Z3,rfl,rfl,hf⟩
theorem JJ(hu:A.units<cLine)(hS:ky s.heap S hs t)(ho:s.heap.get? a=some o)(hc:o.cls=.type "tuple")(hd:o.data=.seq #[.int x tx,.int y ty] n)(ur:a≠S)(km:gw hs t (tupleKeyHash (intKind prog w) [x,y])=some (hs',t'))(q:∀h' tk,Heap.SameBut S s.heap h'->ky h' S hs' t'->Q true { s with heap:=h',toks:=tk }):wpAny (model prog w) A (setAdd S (.ref a)) Q E s:=by
 have hk:IsTupleKey (intKind prog w) s.heap [x,y] a:=⟨o,_,n,ho,hc,hd,.cons (intKind_is _ _ _ _) (.cons (intKind_is _ _ _ _) .nil)⟩
 unfold setAdd;refine fZ (aD (wpAny_pyHash_tuple hu hk ?_));generalize WB:s.toks+([x,y].length+1)=tk;generalize hh:tupleKeyHash (intKind prog w) [x,y]=h at km |-;have Z4:=hS;obtain⟨ob,es,ep,hb,W3,hbd,IK,hm,hf⟩:=hS;unfold setAddHashed setAddHashedIn;refine fZ (aD (vf (s:={ s with toks:=tk }) hb IK hf ?_));dsimp only;have Mn:byScan (.ref a) es=false:=by unfold byScan;rfl
 rw[Mn,aq cF];unfold gw at km;cases hg:t.gaveWay with
 |true=>rw[hg,ap rfl] at km;cases km
 |false=>
  rw[hg,aq cF] at km;split at km
  .rename_i j hp;dsimp only at km;split at km
   .rename_i Vy;rw[fA,qV] at Vy;refine aD (Aw (s:={ s with toks:=tk }) Z4 hg hp ?_);dsimp only;refine aD (vf (s:={ s with toks:=tk }) hb IK hf ?_);dsimp only;have byv:∀ {kk:Bool->Sem Bool},wpAny (model prog w) A (kk true) Q E { s with toks:=tk }->wpAny (model prog w) A (if (t.put j).1.plain=true then hashByValue 8 (.ref a) >>= kk else pure true >>= kk) Q E { s with toks:=tk }:=fun {kk} hP=>by
     split
     .exact aD (Dj (s:={ s with toks:=tk }) ho hc hd hP)
     .exact aD (wpAny_pure hP)
    refine byv ?_;simp only[iS];have lc:(SetTable.insertAt es (t.put j).2 (h,Value.ref a)).size=(SetTable.insertAt hs (t.put j).2 h).size:=by
     rw[<-hm,<-mV es (t.put j).2 (h,Value.ref a),ji]
    refine aD (BZ (s:={ s with toks:=tk }) Z4 (by rw[lc];exact Vy.1) (by rw[lc];exact Vy.2) fun h1 mr S1=>?_);rw[mV,hm] at S1;split at km
    .rename_i W4;rw[show (!false&&(t.put j).1.tooFull)=true by rw[W4];rfl,ap rfl];split at km
     .rename_i t2 jM hr;split at km
      .rename_i hq;rw[fA,fA,qV,ff] at hq;obtain⟨⟨Mo,Vz⟩,Z5⟩:=hq;cases km;have IQ:es.size=hs.size:=by rw[<-hm,ji]
       refine aD ?_;unfold setRelay;obtain⟨o1,Dk,ep1,g1,g2,g3,g4,g5,g6⟩:=id S1;refine aD (vf (s:={ s with heap:=h1,toks:=tk }) g1 g4 g6 ?_);dsimp only;rw[IQ];rw[aq (by (have h4:(4096:Nat)<=sizeLine:=by decide);lia)];refine aD ?_;rw[g5,hr];have Ax:(jM.filterMap (Dk[·]?)).size=Dk.size:=by
        have e1:=congrArg Array.size (oT Dk jM);rw[ji,g5] at e1;rw[e1,Mo,<-g5,ji]
       refine wpAny_of_eq (show _=(pure (jM.filterMap (Dk[·]?),t'):Sem (Array (Int×Value)×SetTable)) from ?_) ?_
       .show (do
         let yN:=jM.filterMap (Dk[·]?)
         if yN.size != Dk.size then unsupported "internal:set-table-lost-an-element"
         pure (yN,t'):Sem (Array (Int×Value)×SetTable))=_
        simp[Ax]
       dsimp only;have W5:Dk.size<=4096:=by
        have e1:=congrArg Array.size g5;rw[ji] at e1;rw[e1];exact Vy.2
       have hfm:(jM.filterMap (Dk[·]?)).size=(jM.filterMap ((SetTable.insertAt hs (t.put j).2 h)[·]?)).size:=by
        have e1:=congrArg Array.size (oT Dk jM);rw[ji,g5] at e1;exact e1
       refine BZ (s:={ s with heap:=h1,toks:=tk }) S1 (by rw[hfm];exact Vz) (by rw[Ax];exact W5) fun h2 i9 S2=>?_;rw[oT,g5] at S2;exact wpAny_pure (q h2 tk (mr.trans i9) S2)
      .cases km
     .cases km
    .rename_i W4;cases km;have W6:(t.put j).1.tooFull=false:=by simpa using W4
     rw[show (!false&&(t.put j).1.tooFull)=false by rw[W6];rfl,aq cF];exact wpAny_pure (q h1 tk mr S1)
   .cases km
  .cases km
end
section
variable {prog:Program} {w:World} {A:Around} {E:Value->Shared->Prop} {s:Shared} {S Ia l:Addr} {R:Result->Shared->Prop}
def jy(h:Heap)(vs:List Value)(ys:List (Int×Int)):Prop:=vs.length=ys.length/\∀i v,vs[i]?=some v->∃a o n t u,v=.ref a/\h.get? a=some o/\o.cls=.type "tuple"/\o.data=.seq #[.int (ys.getD i (0,0)).1 t,.int (ys.getD i (0,0)).2 u] n
theorem jy.keeps(p:jy h vs ys)(k:∀b o,(∃xs n,o.data=.seq xs n)->h.get? b=some o->h'.get? b=some o):jy h' vs ys:=
 ⟨p.1,fun i v e=>let ⟨a,o,n,t,u,e1,e2,c,d⟩:=p.2 i v e;⟨a,o,n,t,u,e1,k a o ⟨_,_,d⟩ e2,c,d⟩⟩
def fN(prog:Program)(w:World)(y:Int×Int):Int:=tupleKeyHash (intKind prog w) [y.1,y.2]
theorem FP(hh:A.handled=none)(hu:A.units+1<cLine)(hlS:l≠S)(W7:l≠Ia)(W8:S≠Ia):
  ∀ (k i:Nat) (s:Shared) (hs:Array Int) (t:SetTable),vs.length-i=k->i<=vs.length->s.heap.IsListIter Ia l i->s.heap.IsList l vs.toArray->jy s.heap vs ys->ky s.heap S hs t->
   ((ys.drop i).map (fN prog w)).foldlM (fun q h=>gw q.1 q.2 h) (hs,t)=some (hsN,tN)->
   (∀h' tk,(∀b o,b≠S->b≠Ia->s.heap.get? b=some o->h'.get? b=some o)->ky h' S hsN tN->R (.ok (.ret .none)) { s with heap:=h',toks:=tk })->
   codeAny (model prog w) A (.builtin "set.update.loop" ⟨[.ref S,.ref Ia],[]⟩) R s:=by
 intro k;induction k with
 |zero=>
  intro i s hs t hk hi xg hl hp hS hf hR;have e:i=vs.length:=by lia
  refine on EK ?_;rw[u9 yW _];show wpAny _ A.in1 (pyNext (.ref Ia) >>= _) _ _ s;refine aD (uZ (show A.in1.handled=none from hh) xg hl (by simp;lia) fun h' eb=>?_);show wpAny _ A.in1 (ret Value.none) _ _ _;have hd:ys.drop i=[]:=by rw[List.drop_eq_nil_iff];have:=hp.1;lia
  rw[hd] at hf;cases hf;obtain⟨o,es,ep,q1,q2⟩:=hS;exact wpAny_pure (hR h' s.toks (fun b o hb JK e=>eb b o JK e) ⟨o,es,ep,eb S o W8 q1,q2⟩)
 |succ k ih=>
  intro i s hs t hk hi xg hl hp hS hf hR;have eZ:i<vs.length:=by lia
  refine on EK ?_;rw[u9 yW _];show wpAny _ A.in1 (pyNext (.ref Ia) >>= _) _ _ s;have hv:vs[i]?=some vs[i]:=bB eZ;refine aD (qS xg hl (x:=vs[i]) (by simpa using hv) fun h1 NZ mr=>?_);obtain⟨a,o,n,tx,ty,ea,eo,ec,ed⟩:=hp.2 i _ hv;rw[ea];have VA:∀b ob,(∃xs n,ob.data=.seq xs n)->s.heap.get? b=some ob->b≠Ia:=fun b ob ⟨xs,m,z⟩ e z'=>by
   obtain⟨oi,e1,_,d1⟩:=xg;rw[z',e1] at e;cases e;rw[d1] at z;cases z
  have jN:jy h1 vs ys:=hp.keeps fun b ob hb e=>(mr.2 b (VA b ob hb e)).trans e;have Z6:ky h1 S hs t:=by
   obtain⟨oS,es,ep,q1,q2⟩:=hS;exact⟨oS,es,ep,(mr.2 S W8).trans q1,q2⟩
  have EE:h1.IsList l vs.toArray:=by
   obtain⟨ol,q1,q2⟩:=hl;exact⟨ol,(mr.2 l W7).trans q1,q2⟩
  have R3:h1.get? a=some o:=(mr.2 a (VA a o ⟨_,_,ed⟩ eo)).trans eo;have Z7:∀b ob,(∃xs n,ob.data=.seq xs n)->h1.get? b=some ob->b≠S:=fun b ob ⟨xs,m,z⟩ e z'=>by
   obtain⟨oS,es,ep,q1,_,_,q4,_⟩:=Z6;rw[z',q1] at e;cases e;rw[q4] at z;cases z
  have EF:i<ys.length:=by have:=hp.1;lia
  have W9:ys.drop i=ys[i]::ys.drop (i+1):=nQ EF;have hgy:ys.getD i (0,0)=ys[i]:=by rw[aY,bB EF];rfl
  rw[W9,fu,List.foldlM_cons] at hf;cases km:gw hs t (fN prog w ys[i]) with
  |none=>rw[km] at hf;cases hf
  |some q=>
   obtain⟨uc,t2⟩:=q;rw[km] at hf;have Z8:((ys.drop (i+1)).map (fN prog w)).foldlM (fun q h=>gw q.1 q.2 h) (uc,t2)=some (hsN,tN):=hf;show wpAny _ A.in1 (holding [Value.ref a] (setAdd S (.ref a)) >>= _) _ _ _;refine aD (fZ (JJ (s:={ s with heap:=h1 }) (by show A.units+1<cLine;exact hu) Z6 R3 ec ed (Z7 a o ⟨_,_,ed⟩ R3) (hs':=uc) (t':=t2) (by rw[hgy];exact km) fun h2 tk i9 S2=>?_));refine wpAny_pure ⟨plainId_quiet yW _,?_⟩;refine ih (i+1) { s with heap:=h2,toks:=tk } uc t2 (by lia) eZ ?_ ?_ (jN.keeps fun b ob hb e=>(i9.2 b (Z7 b ob hb e)).trans e) S2 Z8 fun h3 W_ k3 S3=>?_
   .obtain⟨oi,q1,q2⟩:=NZ;exact⟨oi,(i9.2 Ia (fE W8)).trans q1,q2⟩
   .obtain⟨ol,q1,q2⟩:=EE;exact⟨ol,(i9.2 l hlS).trans q1,q2⟩
   .exact hR h3 W_ (fun b ob hb JK e=>k3 b ob hb JK ((i9.2 b hb).trans ((mr.2 b JK).trans e))) S3
theorem FQ{vs:List Value}{ys:List (Int×Int)}{hsN:Bool->Array Int}{tN:Bool->SetTable}{Q:Value->Shared->Prop}(hh:A.handled=none)(hu:A.units+8<cLine)(hl:s.heap.IsList l vs.toArray)(hp:jy s.heap vs ys)(Dl:∀led,vT led (ys.map (fN prog w))=some (hsN led,tN led))(h:∀ (led:Bool) (h':Heap) (tk:Nat),ky h' s.heap.objs.size (hsN led) (tN led)->(∀b o,b<s.heap.objs.size->s.heap.get? b=some o->h'.get? b=some o)->Q (.ref s.heap.objs.size) { s with heap:=h',toks:=tk }):
  wpAny (model prog w) A (call (.type "set") [.ref l]) Q E s:=by
 obtain⟨c,tl,aaf⟩:=jY.mro;have c1:=jY.made;have c2:=jY.sub;refine rm (codeAny_of_tree ?_);show wpAny _ _ (callAny (.type "set") _) _ _ _;refine wpAny_pure ⟨Code.quiet_builtin _ (by decide +kernel),on PySem.F.entry_type_call ?_⟩;rw[Around.under_plain (weight_type_call_type "set" [.ref l] []) rfl];have c3:=jY.notType;have c4:=jY.canCreate;have c5:=PySem.F.typeCall_set_1 (.ref l);repeat (any_goals (first|assumption|wp_step))
 refine lO (code_set_new_1 (.ref l) (E:=E) (Q₁:=fun obj s₁=>∃led:Bool,obj=.ref s.heap.objs.size/\s₁={ s with heap:=s.heap.push { cls:=.type "set",dict:=none,data:=.set #[] 0 (.fresh 0 0 led) } }) fun led=>⟨led,rfl,rfl⟩) fun r s₁ hr=>?_;cases r with
 |error e=>exact hr
 |ok fl=>
  cases fl with
  |next=>exact hr.elim
  |brk=>exact hr.elim
  |cont=>exact hr.elim
  |ret obj=>
   obtain⟨led,rfl,rfl⟩:=hr;generalize Xa:s.heap.push { cls:=.type "set",dict:=none,data:=.set #[] 0 (.fresh 0 0 led) }=hS;have lc:hS.objs.size=s.heap.objs.size+1:=by rw[<-Xa,jK]
   have gS:hS.get? s.heap.objs.size=some { cls:=.type "set",dict:=none,data:=.set #[] 0 (.fresh 0 0 led) }:=by rw[<-Xa];exact cI _ rfl
   have up:∀b o,s.heap.get? b=some o->hS.get? b=some o:=fun b o e=>by rw[<-Xa];exact bY _ e
   have hT:Shared.TypeIs { s with heap:=hS } (.ref s.heap.objs.size) "set":=⟨_,gS,rfl⟩
   have c6:=jY.init.lookup;have c7:=jY.init.bind (.ref s.heap.objs.size);repeat (any_goals (first|assumption|wp_step))
   refine lO (zI (R:=wants (fun r s₂=>r=.none/\∃h' tk,s₂={ s with heap:=h',toks:=tk }/\ky h' s.heap.objs.size (hsN led) (tN led)/\
     (∀b o,b<s.heap.objs.size->s.heap.get? b=some o->h'.get? b=some o)) E) jY.init.plain PySem.F.entry_set_init (check_set_init_1 hT ?_)) fun r₂ s₂ R5=>?_
   .obtain⟨ol,IR,JB,nl,VB⟩:=hl;obtain⟨Xb,Z9,R8,Xc⟩:=ol;simp only at JB VB;subst JB;subst VB;have Xd:=up _ _ IR;have c8:=PySem.F.sub_list_set;have c9:=PySem.F.sub_list_frozenset;have c10:(Value.type "list"==Value.type "dict")=false:=by decide
    have EE:hS.IsList l vs.toArray:=⟨_,Xd,rfl,nl,rfl⟩
    unfold Builtin.«set.__init__» noKeywords Builtin.Frozenset.updateFrom;generalize hPI:pyIter=PI
    wp_walk
    subst hPI;refine n_ EE ?_;refine aD (wpAny_runValue ?_);have eZ:l<s.heap.objs.size:=bh IR;refine FP (l:=l) (vs:=vs) (ys:=ys) (hsN:=hsN led) (tN:=tN led) (by simp[hh]) (by simp;lia) (bg eZ) (by rw[lc];exact bg (dC eZ)) (by rw[lc];exact bg (jg _))
     (vs.length-0) 0 _ #[] (.fresh 0 0 led) rfl (cM _) ⟨_,cI _ rfl,rfl,rfl⟩ (EE.push _) (hp.keeps fun b o _ e=>bY _ (up b o e)) ⟨_,#[],0,bY _ gS,rfl,⟨rfl,rfl⟩,rfl,by simp,rfl⟩ (Dl led) fun h' tk k S'=>?_
    show wpAny _ _ _ _ _ _;refine wpAny_pure ?_;show wpAny _ _ (ret Value.none) _ _ _;refine wpAny_pure ⟨rfl,h',tk,rfl,S',fun b o hb e=>?_⟩;exact k b o (bg hb) (by rw[lc];exact bg (dC hb)) (bY _ (up b o e))
   .cases r₂ with
    |error e=>exact R5
    |ok fl₂=>
     cases fl₂ with
     |next=>exact R5.elim
     |brk=>exact R5.elim
     |cont=>exact R5.elim
     |ret r=>
      obtain⟨rfl,h',tk,rfl,S',k⟩:=R5;repeat (any_goals (first|assumption|wp_step))
      exact h led h' tk S' k
end
open PySem
def FR(l:List Nat):Nat:=l.foldl (fun a x=>a ||| (1 <<< x)) 0
theorem Dm(l:List Nat)(a j:Nat):(l.foldl (fun a x=>a ||| (1 <<< x)) a).testBit j=(a.testBit j||l.contains j):=by
 induction l generalizing a with
 |nil=>simp
 |cons x xs ih=>
  rw[vh,ih,Nat.testBit_or,List.contains_cons];have:(1 <<< x).testBit j=(j==x):=by
   rw[Nat.one_shiftLeft,Nat.testBit_two_pow];by_cases h:x=j
   .simp[h]
   .have h':¬ j=x:=fun e=>h e.symm;simp[h,h']
  rw[this,Bool.or_assoc]
theorem pN(h:FR l=2 ^ n-1)(hj:j<n):j∈l:=by
 have e:=Dm l 0 j;have h':l.foldl (fun a x=>a ||| (1 <<< x)) 0=2 ^ n-1:=h;rw[h',Nat.testBit_two_pow_sub_one] at e;simp[hj] at e;exact e
def FS(M:Nat):Nat->Nat->Nat
 |0,i=>i
 |n+1,i=>FS M n ((i*5+1) % M)
theorem qC(M a:Nat):∀b i,FS M (b+a) i=FS M a (FS M b i)
 |0,i=>by rw[vq];rfl
 |b+1,i=>by
  rw[show b+1+a=(b+a)+1 by lia];show FS M (b+a) _=FS M a (FS M b _);exact qC M a b _
def N0(M:Nat):Nat->Nat->List Nat
 |0,_=>[]
 |n+1,i=>i::N0 M n ((i*5+1) % M)
theorem rO:∀ {n i},j∈N0 M n i->∃k,k<n/\FS M k i=j
 |0,_,h=>by cases h
 |n+1,i,h=>by
  rcases bK.mp h with z|z
  .exact⟨0,by lia,z.symm⟩
  .obtain⟨k,a,b⟩:=rO z;exact⟨k+1,by lia,b⟩
structure Dn(M:Nat):Prop where
 all:FR (N0 M M 0)=2 ^ M-1
 back:FS M M 0=0
theorem Xe:Dn 8:=⟨by decide +kernel,by decide +kernel⟩
theorem Mp:Dn 32:=⟨by decide +kernel,by decide +kernel⟩
theorem FT:Dn 128:=⟨by decide +kernel,by decide +kernel⟩
theorem FU:Dn 512:=⟨by decide +kernel,by decide +kernel⟩
theorem Dn.cover(R:Dn M)(hi:i<M)(hj:j<M):∃n,n<M/\FS M n i=j:=by
 obtain⟨a,ha,ea⟩:=rO (pN R.all hi);obtain⟨b,hb,eb⟩:=rO (pN R.all hj);by_cases h:a<=b
 .refine⟨b-a,by lia,?_⟩;rw[<-ea,<-qC,show a+(b-a)=b by lia,eb]
 .refine⟨M+b-a,by lia,?_⟩;rw[<-ea,<-qC,show a+(M+b-a)=M+b by lia,qC,R.back,eb]
def g_(mask:Nat):Nat->Nat×Nat->Nat×Nat
 |0,q=>q
 |n+1,q=>g_ mask n (SetTable.leap mask q.1 q.2)
theorem ut(m a:Nat):∀b q,g_ m (b+a) q=g_ m a (g_ m b q)
 |0,q=>by rw[vq];rfl
 |b+1,q=>by
  rw[show b+1+a=(b+a)+1 by lia];exact ut m a b _
theorem xL:∀ {n:Nat} {q:Nat×Nat},q.1<m+1->(g_ m n q).1<m+1
 |0,_,h=>h
 |n+1,q,h=>xL (n:=n) (iQ _ (rf _))
theorem B0:∀ {n:Nat} {q:Nat×Nat},(g_ m n q).2=q.2 / 32 ^ n
 |0,_=>by simp[g_]
 |n+1,q=>by
  show (g_ m n _).2=_;rw[B0];show q.2 / 32 / 32 ^ n=_;rw[zf,Nat.pow_succ,Nat.mul_comm]
theorem uv:∀ {n i:Nat},g_ m n (i,0)=(FS (m+1) n i,0)
 |0,_=>rfl
 |n+1,i=>by
  show g_ m n (SetTable.leap m i 0)=_;unfold SetTable.leap;simp only[Nat.zero_div,vw];exact uv
theorem pO(R:Dn (m+1))(hi:i<m+1)(hp:p<2 ^ 64)(hj:j<m+1):∃n,n<m+14/\(g_ m n (i,p)).1=j:=by
 have h1:=xL (m:=m) (n:=13) (q:=(i,p)) hi;have h2:(g_ m 13 (i,p)).2=0:=by
  rw[B0];exact Nat.div_eq_of_lt (cQ hp (by decide))
 obtain⟨n,hn,e⟩:=R.cover h1 hj;refine⟨13+n,by lia,?_⟩;rw[ut];have:g_ m 13 (i,p)=((g_ m 13 (i,p)).1,0):=gm rfl h2;rw[this,uv];exact e
theorem B1(h:Int):SetTable.bits h<2 ^ 64:=by
 unfold SetTable.bits;have a:=oj h (show (2 ^ 64:Int)≠0 by decide);have b:=n5 h (show (0:Int)<2 ^ 64 by decide);lia
theorem R9{M:Nat}{l:List Nat}(h:l.length<M):∃j,j<M/\j∉l:=by
 have key:∀ (a b:List Nat),a.Nodup->(∀x∈a,x∈b)->a.length<=b.length:=by
  intro a;induction a with
  |nil=>intro b _ _;exact cM _
  |cons x xs ih=>
   intro b hn hs;obtain⟨h1,h2⟩:=fY.mp hn;have hx:x∈b:=hs x bW;have:=ih (b.erase x) h2 fun y hy=>(zk (fun (e:y=x)=>h1 (e ▸ hy))).mpr (hs y (cX _ hy));rw[y8 hx] at this;have:0<b.length:=uW hx;rw[dz];lia
 apply pJ;intro Fm;have:=key (List.range M) l ln fun x hx=>pJ fun C5=>Fm ⟨x,bQ.mp hx,C5⟩;rw[b8] at this;lia
def Ay(mask i p:Nat):SetTable.Probe:={ j:=i,more:=SetTable.runEnd mask i-i,i:=i,perturb:=p,dummy:=none }
theorem N4(mask i:Nat):SetTable.runEnd mask i-i<=9:=by unfold SetTable.runEnd;split <;> lia
theorem vU{t:SetTable}(hd:t.dummies=#[])(j:Nat):t.slot j=.empty\/∃i,t.slot j=.live i/\t.place[i]?=some j:=by
 unfold SetTable.slot;dsimp only;split
 .rename_i h;exact .inr ⟨_,rfl,by simpa using h⟩
 .left;rw[hd];rfl
theorem Az{t:SetTable}(hd:t.dummies=#[]){j:Nat}(h:j∉t.place.toList):t.slot j=.empty:=by
 rcases vU hd j with e|⟨i,_,e2⟩
 .exact e
 .exact absurd (by rw[<-nX] at e2;exact df e2) h
section
variable {t:SetTable} {hashAt:Nat->Int} {h:Int}
theorem FV(hd:t.dummies=#[])(hh:∀i,i<t.place.size->hashAt i≠h)(i p:Nat):∀ (r:Nat) (j gJ:Nat),
  (∃j',SetTable.probe.go t hashAt h (gJ+r+1) { j:=j,more:=r,i:=i,perturb:=p,dummy:=none }=some (.empty j' none))\/
  SetTable.probe.go t hashAt h (gJ+r+1) { j:=j,more:=r,i:=i,perturb:=p,dummy:=none }=SetTable.probe.go t hashAt h gJ (Ay t.mask (SetTable.leap t.mask i p).1 (SetTable.leap t.mask i p).2)
 |0,j,gJ=>by
  rcases vU hd j with e|⟨k,e,e2⟩
  .exact .inl ⟨j,by unfold SetTable.probe.go;rw[e]⟩
  .right;have hk:k<t.place.size:=(ES.mp e2).1;conv=>lhs;unfold SetTable.probe.go
   rw[e];simp only[ff,hh k hk,gh];rfl
 |r+1,j,gJ=>by
  rcases vU hd j with e|⟨k,e,e2⟩
  .exact .inl ⟨j,by rw[show gJ+(r+1)+1=(gJ+r+1)+1 by lia];unfold SetTable.probe.go;rw[e]⟩
  .have hk:k<t.place.size:=(ES.mp e2).1;have st:SetTable.probe.go t hashAt h (gJ+(r+1)+1) { j:=j,more:=r+1,i:=i,perturb:=p,dummy:=none }=SetTable.probe.go t hashAt h (gJ+r+1) { j:=j+1,more:=r,i:=i,perturb:=p,dummy:=none }:=by
    rw[show gJ+(r+1)+1=(gJ+r+1)+1 by lia];conv=>lhs;unfold SetTable.probe.go
    rw[e];simp only[ff,hh k hk,gh];rfl
   rw[st];exact FV hd hh i p r (j+1) gJ
theorem B3(hd:t.dummies=#[])(hh:∀i,i<t.place.size->hashAt i≠h):∀ (m:Nat) (i p gJ:Nat),10*(m+1)<=gJ->t.slot (g_ t.mask m (i,p)).1=.empty->
  ∃j',SetTable.probe.go t hashAt h gJ (Ay t.mask i p)=some (.empty j' none)
 |0,i,p,gJ,hf,e=>by
  obtain⟨f,rfl⟩:∃f,gJ=f+1:=⟨gJ-1,by lia⟩
  refine⟨i,?_⟩;have e':t.slot i=.empty:=e;unfold SetTable.probe.go Ay;dsimp only;rw[e']
 |m+1,i,p,gJ,hf,e=>by
  have hr:=N4 t.mask i;obtain⟨f,JM⟩:∃f,gJ=f+(SetTable.runEnd t.mask i-i)+1:=⟨gJ-(SetTable.runEnd t.mask i-i)-1,by lia⟩
  rcases FV (hashAt:=hashAt) (h:=h) hd hh i p (SetTable.runEnd t.mask i-i) i f with z|z
  .rw[JM];exact z
  .rw[JM];show ∃j',SetTable.probe.go t hashAt h _ { j:=i,more:=_,i:=i,perturb:=p,dummy:=none }=_;rw[z];exact B3 hd hh m _ _ f (by lia) e
theorem AA(R:Dn (t.mask+1))(hd:t.dummies=#[])(hs:t.place.size<=t.mask)(hh:∀i,i<t.place.size->hashAt i≠h):∃j,t.probe hashAt h (t.probeStart h)=some (.empty j none):=by
 obtain⟨j,hj,hn⟩:=R9 (M:=t.mask+1) (l:=t.place.toList) (by simpa using Nat.lt_succ_of_le hs);obtain⟨m,hm,e⟩:=pO R (iQ (SetTable.bits h) (rf t.mask)) (B1 h) hj;refine B3 hd hh m _ _ _ ?_ (by rw[e];exact Az hd hn);unfold SetTable.turns;lia
end
theorem kC{α β:Type}{f:α->Option β}:∀ {l:List α},(∀q∈l,(f q).isSome=true)->(l.filterMap f).length=l.length
 |[],_=>rfl
 |q::l,h=>by
  have hq:=h q bW;cases e:f q with
  |none=>rw[e] at hq;cases hq
  |some b=>rw[EV e,dz,dz,kC fun x hx=>h x (cX _ hx)]
theorem uw:∀ (m gJ i p:Nat),m<gJ->owner.getD (g_ mask m (i,p)).1 (some 0)=none->∃j,SetTable.layClean.free mask owner gJ i p=some j/\owner.getD j (some 0)=none
 |m,0,_,_,h,_=>by lia
 |m,gJ+1,i,p,h,e=>by
  unfold SetTable.layClean.free;cases hf:(List.range (SetTable.runEnd mask i+1-i)).find? fun k=>(owner.getD (i+k) (some 0)).isNone with
  |some k=>
   refine⟨i+k,rfl,?_⟩;have:=List.find?_some hf;simpa using this
  |none=>
   cases m with
   |zero=>
    have h0:(0:Nat)∈List.range (SetTable.runEnd mask i+1-i):=bQ.mpr (by unfold SetTable.runEnd;split <;> lia);have:=zF.mp hf 0 h0;have e':owner.getD i (some 0)=none:=e;rw[vw,e'] at this;exact absurd rfl this
   |succ m=>
    exact uw m gJ _ _ (by lia) e
structure xM(M:Nat)(owner:Array (Option Nat))(k:Nat):Prop where
 size:owner.size=M
 cnt:owner.toList.countP Option.isSome=k
 lt:∀x,some x∈owner.toList->x<k
theorem AB{l:List (Option Nat)}{j:Nat}{x:Nat}(hj:l[j]?=some none):(l.set j (some x)).countP Option.isSome=l.countP Option.isSome+1:=by
 induction l generalizing j with
 |nil=>cases hj
 |cons a l ih=>
  cases j with
  |zero=>
   obtain rfl:a=none:=by simpa using hj
   simp
  |succ j=>
   rw[List.set_cons_succ,j6,j6,ih (by simpa using hj)];lia
theorem xM.one{mask:Nat}{owner:Array (Option Nat)}{k:Nat}(L:xM (mask+1) owner k)(R:Dn (mask+1))(hk:k<mask+1)(h:Int):
  ∃j,SetTable.layClean.free mask owner (SetTable.turns mask) (SetTable.bits h % (mask+1)) (SetTable.bits h)=some j/\xM (mask+1) (owner.setIfInBounds j (some k)) (k+1):=by
 have Fm:∃j,j<mask+1/\owner.toList[j]?=some none:=by
  apply pJ;intro Fm;have oN:∀x∈owner.toList,x.isSome=true:=by
   intro x hx;obtain⟨j,hj,e⟩:=lB.mp hx;cases x with
   |some _=>rfl
   |none=>
    refine absurd ⟨j,?_,?_⟩ Fm
    .rw[<-L.size];simpa using hj
    .rw[bB hj,e]
  have:=List.countP_eq_length.mpr oN;rw[L.cnt,lD,L.size] at this;lia
 obtain⟨j0,hj0,e0⟩:=Fm;obtain⟨m,hm,em⟩:=pO R (iQ (SetTable.bits h) (rf mask)) (B1 h) hj0;obtain⟨j,ej,en⟩:=uw (mask:=mask) (owner:=owner) m (SetTable.turns mask) (SetTable.bits h % (mask+1)) (SetTable.bits h) (by unfold SetTable.turns;lia)
  (by rw[em,uT,<-nX,e0];rfl)
 refine⟨j,ej,?_⟩;have hjn:owner.toList[j]?=some none:=by
  rw[uT,<-nX] at en;cases hq:owner.toList[j]? with
  |none=>rw[hq] at en;cases en
  |some v=>rw[hq] at en;rw[show v=none from en]
 have qh:(owner.setIfInBounds j (some k)).toList=owner.toList.set j (some k):=by simp
 refine⟨by simp[L.size],by rw[qh,AB hjn,L.cnt],fun x hx=>?_⟩;rw[qh] at hx;rcases List.mem_or_eq_of_mem_set hx with z|z
 .exact dC (L.lt x z)
 .cases z;exact jg _
theorem B4(R:Dn (mask+1)):∀ (l:List Int) (owner:Array (Option Nat)) (k:Nat),xM (mask+1) owner k->k+l.length<=mask->
  ∃FW,l.foldl (fun dR h=>do
   let (owner,k) <- dR
   let j <- SetTable.layClean.free mask owner (SetTable.turns mask) (SetTable.bits h % (mask+1)) (SetTable.bits h)
   pure (owner.setIfInBounds j (some k),k+1)) (some (owner,k))=some (FW,k+l.length)/\xM (mask+1) FW (k+l.length)
 |[],owner,k,L,_=>⟨owner,rfl,L⟩
 |h::l,owner,k,L,hl=>by
  rw[dz] at hl;obtain⟨j,ej,L'⟩:=L.one R (by lia) h;obtain⟨o',e,L2⟩:=B4 R l _ _ L' (by lia);refine⟨o',?_,by rw[dz,show k+(l.length+1)=k+1+l.length by lia];exact L2⟩;rw[vh];have:(do
   let (owner,k) <- some (owner,k)
   let j <- SetTable.layClean.free mask owner (SetTable.turns mask) (SetTable.bits h % (mask+1)) (SetTable.bits h)
   pure (owner.setIfInBounds j (some k),k+1):Option (Array (Option Nat)×Nat))=some (owner.setIfInBounds j (some k),k+1):=by
   show (SetTable.layClean.free mask owner (SetTable.turns mask) (SetTable.bits h % (mask+1)) (SetTable.bits h)).bind _=_;rw[ej];rfl
  rw[this,e,dz,show k+(l.length+1)=k+1+l.length by lia]
theorem xN(R:Dn (mask+1))(hs:Array Int)(h:hs.size<=mask):∃owner,SetTable.layClean mask hs=some owner/\xM (mask+1) owner hs.size:=by
 have L0:xM (mask+1) (Array.replicate (mask+1) none) 0:=⟨by simp,by simp[List.countP_replicate],fun x hx=>by simp at hx⟩
 obtain⟨o,e,L⟩:=B4 R hs.toList _ 0 L0 (by simpa using h);refine⟨o,?_,by simpa using L⟩;unfold SetTable.layClean;rw[<-Array.foldl_toList];have e':=congrArg (Option.map (·.1)) e;exact e'
theorem AC(L:xM M owner n):
  ((List.range M).filterMap fun j=>(owner.getD j none).map (j,·)).length=n/\∀q∈(List.range M).filterMap (fun j=>(owner.getD j none).map (j,·)),q.2<n:=by
 constructor
 .rw[<-L.cnt];have e:owner.toList=(List.range M).map fun j=>owner.getD j none:=by
   apply zQ
   .simp[L.size]
   .intro i h1 h2;simp only[q0,zE,Array.getElem_toList];rw[uT,y0 (by simpa using h1)];rfl
  conv=>rhs;rw[e]
  rw[zU];generalize List.range M=l;induction l with
  |nil=>rfl
  |cons a l ih=>
   rw[j6,<-ih];cases hq:owner.getD a none with
   |none=>rw[List.filterMap_cons_none (by rw[hq];rfl),show (Option.isSome ∘ fun j=>owner.getD j none) a=false by show (owner.getD a none).isSome=false;rw[hq];rfl];simp
   |some x=>rw[EV (b:=(a,x)) (by rw[hq];rfl),show (Option.isSome ∘ fun j=>owner.getD j none) a=true by show (owner.getD a none).isSome=true;rw[hq];rfl];simp
 .intro q hq;obtain⟨j,_,e⟩:=lE.mp hq;cases hx:owner.getD j none with
  |none=>rw[hx] at e;cases e
  |some x=>
   rw[hx] at e;cases e;refine L.lt x ?_;rw[uT,<-nX] at hx;cases hy:owner.toList[j]? with
   |none=>rw[hy] at hx;cases hx
   |some v=>rw[hy] at hx;obtain rfl:v=some x:=hx;exact df hy
structure xO(hs:Array Int)(t:SetTable):Prop where
 dm:t.dummies=#[]
 sz:t.place.size=hs.size
 ms:(t.mask=7/\hs.size<=4)\/(t.mask=31/\hs.size<=18)\/(t.mask=127/\hs.size<=76)\/(t.mask=511/\hs.size<=306)
theorem xO.rnd(T:xO hs t):Dn (t.mask+1):=by
 rcases T.ms with ⟨e,_⟩|⟨e,_⟩|⟨e,_⟩|⟨e,_⟩ <;> rw[e]
 .exact Xe
 .exact Mp
 .exact FT
 .exact FU
theorem lr(xs:Array α)(p:Nat)(x:α):(SetTable.insertAt xs p x).size=xs.size+1:=by
 unfold SetTable.insertAt;simp;lia
theorem mW(h:y∈(SetTable.insertAt xs p x).toList):y=x\/y∈xs.toList:=by
 unfold SetTable.insertAt at h;rw[fq,n8,zn,zn] at h;rcases bS.mp h with z|z
 .rcases bS.mp z with z|z
  .right;rw[List.extract_eq_drop_take] at z;exact nY (lm z)
  .left;simpa using z
 .right;rw[List.extract_eq_drop_take] at z;exact nY (lm z)
theorem AD{hs:Array Int}{t:SetTable}{h:Int}(T:xO hs t)(hn:h∉hs.toList)(hl:hs.size<300):∃hs' t',gw hs t h=some (hs',t')/\xO hs' t'/\hs'.size=hs.size+1/\∀x∈hs'.toList,x=h\/x∈hs.toList:=by
 have W5:t.place.size<=t.mask:=by rw[T.sz];rcases T.ms with ⟨e,z⟩|⟨e,z⟩|⟨e,z⟩|⟨e,z⟩ <;> lia
 have hh:∀i,i<t.place.size->NX hs i≠h:=by
  intro i hi e;rw[T.sz] at hi;unfold NX at e;rw[y0 hi] at e;exact hn (by rw[<-e];simp)
 obtain⟨j,hp⟩:=AA (hashAt:=NX hs) (h:=h) T.rnd T.dm W5 hh;have hg:t.gaveWay=false:=by
  unfold SetTable.gaveWay;rcases T.ms with ⟨e,_⟩|⟨e,_⟩|⟨e,_⟩|⟨e,_⟩ <;> rw[e] <;> rfl
 have q1:(t.put j).1.place=SetTable.insertAt t.place (SetTable.below t.place j) j:=rfl;have q2:(t.put j).1.dummies=#[]:=by
  show (if SetTable.has t.dummies j=true then _ else t.dummies)=_;rw[T.dm];rfl
 have q3:(t.put j).1.mask=t.mask:=rfl;have s1:(SetTable.insertAt hs (t.put j).2 h).size=hs.size+1:=lr _ _ _;have s2:(t.put j).1.place.size=hs.size+1:=by rw[q1,lr,T.sz]
 have fl:(t.put j).1.fill=hs.size+1:=by unfold SetTable.fill;rw[s2,q2];rfl
 have fit:(t.put j).1.fits (SetTable.insertAt hs (t.put j).2 h).size=true:=by
  unfold SetTable.fits;rw[s1,s2,fl,q3];simp;rcases T.ms with ⟨e,z⟩|⟨e,z⟩|⟨e,z⟩|⟨e,z⟩ <;> lia
 unfold gw;rw[hg,aq cF,hp];dsimp only;rw[ap (by rw[fit,s1];simp;lia)];by_cases hf:(t.put j).1.tooFull=true
 .rw[ap hf];have JM:=hf;unfold SetTable.tooFull at JM;rw[fl,q3] at JM;have Z8:(hs.size+1)*5>=t.mask*3:=by simpa using JM
  have gr:SetTable.grown (hs.size+1)=(hs.size+1)*4:=by unfold SetTable.grown;rw[aq (by lia)]
  obtain⟨m2,Z_,Xf,R2⟩:∃m2,SetTable.sizeAbove (SetTable.grown (hs.size+1))=m2+1/\((m2=31/\hs.size+1<=18)\/(m2=127/\hs.size+1<=76)\/(m2=511/\hs.size+1<=306))/\Dn (m2+1):=by
   rw[gr];rcases T.ms with ⟨e,z⟩|⟨e,z⟩|⟨e,z⟩|⟨e,z⟩
   .have:hs.size=4:=by lia
    exact⟨31,by rw[this];rfl,.inl ⟨rfl,by lia⟩,Mp⟩
   .have:hs.size=18:=by lia
    exact⟨127,by rw[this];rfl,.inr (.inl ⟨rfl,by lia⟩),FT⟩
   .have:hs.size=76:=by lia
    exact⟨511,by rw[this];rfl,.inr (.inr ⟨rfl,by lia⟩),FU⟩
   .lia
  have hm3:(SetTable.insertAt hs (t.put j).2 h).size<=m2:=by rw[s1];rcases Xf with ⟨e,z⟩|⟨e,z⟩|⟨e,z⟩ <;> lia
  obtain⟨owner,eo,L⟩:=xN R2 (SetTable.insertAt hs (t.put j).2 h) hm3;obtain⟨R_,Xg⟩:=AC L;rw[s1] at R_ Xg;generalize Sa:(List.range (m2+1)).filterMap (fun j=>(owner.getD j none).map (j,·))=live at R_ Xg;have er:(t.put j).1.relaid (SetTable.insertAt hs (t.put j).2 h) (SetTable.grown (hs.size+1))=some ({ mask:=m2,place:=(live.map (·.1)).toArray,dummies:=#[],finger:=(t.put j).1.finger,led:=(t.put j).1.led,moves:=(t.put j).1.movedTo m2,plain:=(t.put j).1.plain },(live.map (·.2)).toArray):=by
   unfold SetTable.relaid SetTable.laid;rw[Z_];simp only[Nat.add_sub_cancel];rw[eo];show some _=some _;rw[<-Sa]
  rw[er];dsimp only;have Ax:((live.map (·.2)).toArray.filterMap ((SetTable.insertAt hs (t.put j).2 h)[·]?)).size=hs.size+1:=by
   rw[<-lD,uX];show ((live.map (·.2)).filterMap _).length=_;rw[<-R_,List.filterMap_map];refine kC fun q hq=>?_;show ((SetTable.insertAt hs (t.put j).2 h)[q.2]?).isSome=true;rw[y0 (by rw[s1];exact Xg q hq)];rfl
  have emf:∀x,({ mask:=m2,place:=(live.map (·.1)).toArray,dummies:=#[],finger:=(t.put j).1.finger,led:=(t.put j).1.led,moves:=(t.put j).1.movedTo m2,plain:=(t.put j).1.plain }:SetTable).fits x=(decide (hs.size+1=x)&&decide (hs.size+1<=m2)):=by
   intro x;unfold SetTable.fits SetTable.fill;simp[R_];rw[jJ];simp
  rw[ap (by
   rw[Ax,s1,emf,Z_];have:hs.size+1<=m2:=by rw[<-s1];exact hm3
   simp[this];rcases Xf with ⟨e,z⟩|⟨e,z⟩|⟨e,z⟩ <;> lia)]
  refine⟨_,_,rfl,⟨rfl,?_,?_⟩,Ax,fun x hx=>?_⟩
  .rw[Ax];simp[R_]
  .rw[Ax];exact .inr Xf
  .rw[uX] at hx;obtain⟨k,_,ek⟩:=lE.mp hx;refine mW (p:=(t.put j).2) ?_;rw[<-nX] at ek;exact df ek
 .rw[aq hf];refine⟨_,_,rfl,⟨q2,by rw[s2,s1],?_⟩,s1,fun x hx=>mW hx⟩;have JM:¬ (hs.size+1)*5>=t.mask*3:=by
   intro z;refine hf ?_;unfold SetTable.tooFull;rw[fl,q3];simpa using z
  rw[s1,q3];rcases T.ms with ⟨e,z⟩|⟨e,z⟩|⟨e,z⟩|⟨e,z⟩ <;> lia
theorem pP:∀ (l:List Int) (hs:Array Int) (t:SetTable),xO hs t->(∀x∈l,x∉hs.toList)->l.Nodup->hs.size+l.length<=300->∃hs' t',l.foldlM (fun q h=>gw q.1 q.2 h) (hs,t)=some (hs',t')/\hs'.size=hs.size+l.length
 |[],hs,t,_,_,_,_=>⟨hs,t,rfl,rfl⟩
 |h::l,hs,t,T,hn,nd,hl=>by
  rw[dz] at hl;obtain⟨n1,n2⟩:=fY.mp nd;obtain⟨FO,t1,e1,T1,z1,m1⟩:=AD T (hn h bW) (by lia);obtain⟨uc,t2,e2,z2⟩:=pP l FO t1 T1 (fun x hx hy=>by
   rcases m1 x hy with e|e
   .exact n1 (e ▸ hx)
   .exact hn x (cX _ hx) e) n2 (by lia)
  refine⟨uc,t2,?_,by rw[z2,z1,dz];lia⟩;rw[List.foldlM_cons];show (gw hs t h).bind _=_;rw[e1];exact e2
theorem Do(led:Bool)(nd:l.Nodup)(hl:l.length<=300):∃hs t,vT led l=some (hs,t)/\hs.size=l.length:=by
 obtain⟨hs,t,e,z⟩:=pP l #[] (SetTable.fresh 0 0 led) ⟨rfl,rfl,.inl ⟨rfl,by decide⟩⟩ (fun x _ h=>by simp at h) nd (by simpa using hl);exact⟨hs,t,e,by simpa using z⟩
def B5:List Nat->Nat->Bool
 |[],_=>true
 |x::xs,dR=>bif Nat.testBit dR x then false else B5 xs (dR ||| (1 <<< x))
theorem xP:∀ (l:List Nat) (dR:Nat),B5 l dR=true->l.Nodup/\∀x∈l,dR.testBit x=false
 |[],_,_=>⟨jh,fun x h=>(nomatch h)⟩
 |x::xs,dR,h=>by
  unfold B5 at h;cases hb:dR.testBit x with
  |true=>rw[hb] at h;cases h
  |false=>
   rw[hb] at h;obtain⟨nd,hx⟩:=xP xs _ h;have hor:∀y∈xs,dR.testBit y=false/\y≠x:=by
    intro y hy;have:=hx y hy;rw[Nat.testBit_or,Nat.one_shiftLeft,Nat.testBit_two_pow] at this;rw[Bool.or_eq_false_iff] at this;exact⟨this.1,fun e=>by have:=this.2;simp[e] at this⟩
   refine⟨fY.mpr ⟨fun hm=>(hor x hm).2 rfl,nd⟩,fun y hy=>?_⟩;rcases bK.mp hy with z|z
   .rw[z];exact hb
   .exact(hor y z).1
def rP:List (Int×Int):=(List.range 32).flatMap fun a=>(List.range 32).map fun b=>(Int.ofNat a,Int.ofNat b)
def Mq(h:Int):Nat:=(h % 6554).toNat
theorem Dp(P:Program)(w:World):B5 (rP.map fun y=>Mq (fN P w y)) 0=true:=by kernel_rfl
theorem B6(h1:0<=y.1/\y.1<32)(h2:0<=y.2/\y.2<32):y∈rP:=by
 unfold rP;refine zP.mpr ⟨y.1.toNat,bQ.mpr (by lia),bz.mpr ⟨y.2.toNat,bQ.mpr (by lia),gm ?_ ?_⟩⟩
 .show ((y.1.toNat:Nat):Int)=y.1;lia
 .show ((y.2.toNat:Nat):Int)=y.2;lia
theorem lw:∀ {l:List α},(l.map f).Nodup->∀x∈l,∀y∈l,f x=f y->x=y
 |[],_,_,h,_,_,_=>by cases h
 |a::l,h,x,hx,y,hy,e=>by
  rw[fu] at h;obtain⟨h1,h2⟩:=fY.mp h;rcases bK.mp hx with z|z <;> rcases bK.mp hy with z'|z'
  .rw[z,z']
  .exact absurd (bz.mpr ⟨y,z',by rw[<-e,z]⟩) h1
  .exact absurd (bz.mpr ⟨x,z,by rw[e,z']⟩) h1
  .exact lw h2 x z y z' e
theorem vV(hx:(0<=x.1/\x.1<32)/\(0<=x.2/\x.2<32))(hy:(0<=y.1/\y.1<32)/\(0<=y.2/\y.2<32))(e:fN P w x=fN P w y):x=y:=
 lw (xP _ _ (Dp P w)).1 x (B6 hx.1 hx.2) y (B6 hy.1 hy.2) (congrArg Mq e)
theorem oU:∀ {l:List α},l.Nodup->(∀x∈l,∀y∈l,f x=f y->x=y)->(l.map f).Nodup
 |[],_,_=>jh
 |a::l,h,hf=>by
  obtain⟨h1,h2⟩:=fY.mp h;rw[fu];refine fY.mpr ⟨fun z=>?_,oU h2 fun x hx y hy=>hf x (cX _ hx) y (cX _ hy)⟩;obtain⟨y,hy,e⟩:=bz.mp z;have:=hf y (cX _ hy) a bW e;exact h1 (this ▸ hy)
theorem xQ{P:Program}{w:World}(led:Bool){ys:List (Int×Int)}(nd:ys.Nodup)(hr:∀y∈ys,(0<=y.1/\y.1<32)/\(0<=y.2/\y.2<32))(hl:ys.length<=300):
  ∃hs t,vT led (ys.map (fN P w))=some (hs,t)/\hs.size=ys.length:=by
 obtain⟨hs,t,e,z⟩:=Do led (oU nd fun x hx y hy e=>vV (P:=P) (w:=w) (hr x hx) (hr y hy) e) (by rw[aP];exact hl);exact⟨hs,t,e,by rw[z,aP]⟩
theorem vW:∀ {as:List Addr} {its:List Value},ba (as.map V.ref) its->its=as.map Value.ref
 |[],_,r=>by cases r;rfl
 |a::as,_,r=>by
  cases r with
  |cons r rr=>
   obtain rfl:=(show _=Value.ref a from r)
   rw[vW rr];rfl
def JN(D:Addr)(n:Nat):HO:=.ext fun h=>∃hs t,ky h D hs t/\hs.size=n
section
variable {X:Cx}
def Sc(K:PySem.W.Frag):List V->Hp->VK->Prop:=fun xs H Q=>∃ (l:Addr) (as:List Addr) (ys:List (Int×Int)),xs=[.ref l]/\aZ K H l (as.map V.ref)/\as.length=ys.length/\
 (∀i,i<ys.length->FN K H (as.getD i 0) (ys.getD i (0,0)))/\ys.Nodup/\(∀y∈ys,(0<=y.1/\y.1<32)/\(0<=y.2/\y.2<32))/\ys.length<=300/\∀D,H D=none->Q (.ref D) (upd H D (JN D ys.length))
theorem Dq(hc:X.calm=true)(hu:X.A.units+8<cLine):et X (.type "set") (Sc X.K):=by
 intro ag s σ H xs us Q I r h;obtain⟨l,as,ys,rfl,hl,c_,hp,nd,rg,h3,q⟩:=h;obtain⟨u1,rfl,r1⟩:=r.one;obtain rfl:u1=Value.ref l:=r1;obtain⟨its,rv,pl,hz⟩:=I.list hl;have e:=vW rv;subst e;have hpi:jy s.heap (as.map Value.ref) ys:=⟨by rw[aP,c_],fun i v hv=>by
  rw[cm] at hv;cases ea:as[i]? with
  |none=>rw[ea] at hv;cases hv
  |some a=>
   rw[ea] at hv;obtain rfl:Value.ref a=v:=bP hv;have hi:i<as.length:=(cK.mp ea).1;obtain⟨o,n,t,u,e1,c,d⟩:=Av I (hp i (by lia));have eg:as.getD i 0=a:=by rw[aY,ea];rfl
   rw[eg] at e1;exact⟨a,o,n,t,u,rfl,e1,c,d⟩⟩
 have Dl:∀led,∃q:Array Int×SetTable,vT led (ys.map (fN X.prog X.w))=some q/\q.1.size=ys.length:=fun led=>
  let ⟨hs,t,e,z⟩:=xQ (P:=X.prog) (w:=X.w) led nd rg h3;⟨(hs,t),e,z⟩
 refine FQ (I.ok.hd hc) hu pl.isList hpi (hsN:=fun led=>(Dl led).choose.1) (tN:=fun led=>(Dl led).choose.2) (fun led=>(Dl led).choose_spec.1) fun led h' tk S' k=>?_;refine⟨.ref s.heap.objs.size,_,I.xH (t':=tk) (o:=JN s.heap.objs.size ys.length) (fun b u e=>k b u (bh e) e) (n0 (bt _)) ⟨⟨_,_,S',(Dl led).choose_spec.2⟩,?_,fun h1 h2 ⟨hs,t,⟨o,es,ep,q1,q2⟩,z⟩ kk=>⟨hs,t,⟨o,es,ep,kk o q1,q2⟩,z⟩⟩,rfl,q _ I.fresh⟩;obtain⟨o,_,_,q1,_⟩:=S';exact⟨o,q1⟩
theorem xR:et X (.builtin "len") (fun xs H Q=>∃D n,xs=[.ref D]/\H D=some (JN D n)/\n<=4096/\Q (.int n) H):=by
 intro ag s σ H xs us Q I r h;obtain⟨D,n,rfl,e,hn,q⟩:=h;obtain⟨u1,rfl,r1⟩:=r.one;obtain rfl:u1=Value.ref D:=r1;obtain⟨⟨hs,t,⟨o,es,ep,q1,q2,q3,q4,q5,q6⟩,z⟩,_⟩:=(show cu X.prog X.w H s.heap D (JN D n) from I.b_ D _ e)
 have lc:es.size=n:=by rw[<-z,<-q5,ji]
 exact call_len_set q1 ⟨q2,q3.1,q3.2⟩ q4 q6 (by rw[lc];lia) ⟨.int n,H,I.tok _,⟨_,by rw[lc]⟩,q⟩
theorem xS:et X (.type "range") (fun xs H Q=>∃n,xs=[.int n]/\∀p,H p=none->Q (.ref p) (upd H p (.Jd 0 n))):=by
 intro ag s σ H xs us Q I r h;obtain⟨n,rfl,q⟩:=h;obtain⟨u1,rfl,t,rfl⟩:=r.one;refine call_range_1 ⟨.ref s.heap.objs.size,_,I.laid (o:=.Jd 0 n) (fun b u e=>bY _ e) (bt _) ⟨_,_,_,cI _ rfl⟩,rfl,q _ I.fresh⟩
theorem AE(hc:X.calm=true):et X (.type "list") (fun xs H Q=>∃ (p:Addr) (n:Nat),xs=[.ref p]/\H p=some (.Jd 0 n)/\n<=1000/\∀l,H l=none->Q (.ref l) (upd H l (.lst ((List.range n).map fun (i:Nat)=>V.int i)))):=by
 intro ag s σ H xs us Q I r h;obtain⟨p,n,rfl,e,hn,q⟩:=h;obtain⟨u1,rfl,r1⟩:=r.one;obtain rfl:u1=Value.ref p:=r1;obtain⟨t,u,v,hp⟩:=(show cu X.prog X.w H s.heap p (.Jd 0 n) from I.b_ p _ e)
 refine call_list_range (n:=n) (I.ok.hd hc) (show IsRange s.heap p 0 n 1 t u v from hp) (small_one (by lia) (by lia) (by lia) (by lia)) (by rw[rangeSize_one];split <;> lia) (by lia) fun h' tk dR c k g it=>?_;obtain⟨i1,i2⟩:=it;refine⟨.ref s.heap.objs.size,_,I.xH (t':=tk) (o:=.lst ((List.range n).map fun (i:Nat)=>V.int i)) (fun b u e=>k b u e) (n0 (bt _)) ⟨?_,dR.toList,c,?_,by simpa using g⟩,rfl,q _ I.fresh⟩
 .rw[aP,b8];exact bC hn (by decide)
 .have go:∀ (m:Nat) (l:List Value),l.length=m->(∀ (j:Nat) v,l[j]?=some v->∃t,v=Value.int (0+(j:Int)*1) t)->ba ((List.range m).map fun (i:Nat)=>V.int i) l:=by
   intro m;induction m with
   |zero=>intro l hl _;cases l with
    |nil=>exact .nil
    |cons _ _=>cases hl
   |succ m ih=>
    intro l hl hv;have ur:l≠[]:=by intro z;rw[z] at hl;cases hl
    have el:l=l.dropLast++[l.getLast ur]:=(List.dropLast_concat_getLast ur).symm;rw[jH,dg,el];have VB:l.dropLast.length=m:=by rw[List.length_dropLast,hl];rfl
    refine ba.append (ih _ VB fun j v hj=>hv j v ?_) (.cons ?_ .nil)
    .rw[el];have Dr:j<l.dropLast.length:=(cK.mp hj).1;rw[iD Dr];exact hj
    .obtain⟨t,ht⟩:=hv m (l.getLast ur) (by
      rw[List.getLast_eq_getElem,bB (by lia:m<l.length)];simp[hl])
     exact⟨t,by rw[ht];simp⟩
  exact go n dR.toList (by simpa using i1) fun j v hj=>i2 j v (by simpa using hj)
end
def iI(e:V->V->Bool):List V->List V->Bool
 |[],[]=>true
 |x::xs,y::ys=>e x y&&iI e xs ys
 |_,_=>false
theorem kD:∀ {xs ys:List V},xs.length=ys.length->iI e xs ys=(List.range xs.length).all fun i=>e (xs.getD i .bD) (ys.getD i .bD)
 |[],[],_=>rfl
 |x::xs,y::ys,h=>by
  have h':xs.length=ys.length:=by simpa using h
  rw[iI,kD h',dz,nU,jm,vx];rfl
 |[],_::_,h=>by simp at h
 |_::_,[],h=>by simp at h
theorem ux:∀ {xs ys:List V},xs.length≠ys.length->iI e xs ys=false
 |[],[],h=>absurd rfl h
 |x::xs,y::ys,h=>by
  have h':xs.length≠ys.length:=fun z=>h (by simp[z]);rw[iI,ux h',vk]
 |[],_::_,_=>rfl
 |_::_,[],_=>rfl
section
variable {X:Cx}
def Sd(X:Cx)(H:Hp)(e:V->V->Bool)(x y:V):Prop:=∀ (ag:List (Addr×Obj)) (s:Shared) (σ:St) (A:Around) (u v:Value),aU X ag σ H s->A.units+1<cLine->bX x u->bX y v->SeqAt.EqAt A s u v (e x y)
def Xh(X:Cx)(neg:Bool)(e:V->V->Bool):R2:=fun x y H Q=>∃p q xs ys,x=.ref p/\y=.ref q/\aZ X.K H p xs/\aZ X.K H q ys/\(∀i,i<xs.length->i<ys.length->Sd X H e (xs.getD i .bD) (ys.getD i .bD))/\Q (.bl (if neg then !iI e xs ys else iI e xs ys)) H
theorem FX(I:aU X ag σ H s)(hu:A.units+1<cLine)(rx:ba xs us)(ry:ba ys vs)(he:∀i,i<xs.length->i<ys.length->Sd X H e (xs.getD i .bD) (ys.getD i .bD)):∀j (h1:j<us.toArray.size) (h2:j<vs.toArray.size),SeqAt.EqAt A s us.toArray[j] vs.toArray[j] (e (xs.getD j .bD) (ys.getD j .bD)):=by
 intro j h1 h2;have j1:j<xs.length:=by rw[rx.length];simpa using h1
 have j2:j<ys.length:=by rw[ry.length];simpa using h2
 have e1:xs[j]?=some (xs.getD j .bD):=by rw[aY,bB j1];rfl
 have e2:ys[j]?=some (ys.getD j .bD):=by rw[aY,bB j2];rfl
 obtain⟨u,Xi,ru⟩:=rx.get e1;obtain⟨v,N5,rv⟩:=ry.get e2;have eu:us.toArray[j]=u:=by
  have:us[j]?=some us.toArray[j]:=by simp at h1 |-
  rw[Xi] at this;exact(bP this).symm
 have ev:vs.toArray[j]=v:=by
  have:vs[j]?=some vs.toArray[j]:=by simp at h2 |-
  rw[N5] at this;exact(bP this).symm
 rw[eu,ev];exact he j j1 j2 ag s σ A u v I hu ru rv
theorem vX{e:V->V->Bool}(hu:X.A.units+2<cLine):lU X (compareOp .NotEq) (Xh X true e):=by
 intro ag s σ H x y v u Q I rx ry h;obtain⟨p,q,xs,ys,rfl,rfl,hp,hq,he,k⟩:=h;obtain rfl:v=Value.ref p:=rx;obtain rfl:u=Value.ref q:=ry;obtain⟨us,r1,p1,_⟩:=I.list hp;obtain⟨vs,r2,p2,_⟩:=I.list hq;by_cases hl:xs.length=ys.length
 .refine SeqAt.RcNeAt.lists (e:=fun i=>e (xs.getD i .bD) (ys.getD i .bD)) p1.isList p2.isList (by simp only[bJ];rw[<-r1.length,<-r2.length];exact hl) (by lia) (FX I (by show X.A.units+1+1<cLine;lia) r1 r2 he) _ _ _ _ ⟨.bl _,H,I,rfl,?_⟩;rw[show us.toArray.size=xs.length by rw[bJ,r1.length],<-kD hl];exact k
 .refine SeqAt.RcNeAt.lists_lengths p1.isList p2.isList (by simp only[bJ];rw[<-r1.length,<-r2.length];simpa using hl) (by lia) _ _ _ _ ⟨.bl _,H,I,rfl,?_⟩;have k':=k;rw[ux hl] at k';exact k'
theorem Ds(hc:X.calm=true):et X (.builtin "any") (fun xs H Q=>∃ (p:Addr) (bs:List Bool),xs=[.ref p]/\aZ X.K H p (bs.map V.bl)/\Q (.bl (bs.any id)) H):=by
 intro ag s σ H xs us Q I r h;obtain⟨p,bs,rfl,hp,q⟩:=h;obtain⟨u1,rfl,r1⟩:=r.one;obtain rfl:u1=Value.ref p:=r1;obtain⟨its,rv,pl,hz⟩:=I.list hp;have vY:its=bs.map Value.bool:=by
  have go:∀ (bs:List Bool) (its:List Value),ba (bs.map V.bl) its->its=bs.map Value.bool:=by
   intro bs;induction bs with
   |nil=>intro its r;cases r;rfl
   |cons b bs ih=>
    intro its r;cases r with
    |cons r rr=>
     obtain rfl:=(show _=Value.bool b from r)
     rw[ih _ rr];rfl
  exact go bs its rv
 subst vY;obtain⟨ob,Xj,_⟩:=id pl.isList;have eZ:p<s.heap.objs.size:=bh Xj;refine call_any_walk (n_ pl.isList ⟨s.heap.objs.size,_,_,_,_,_,fun i=>bs.getD i false,rfl,Walks.list (show X.A.in1.handled=none from I.ok.hd hc) _ p (bg eZ) _,⟨⟨_,cI _ rfl,rfl,rfl⟩,pl.isList.push _⟩,fun i v s1 Q' E' hv hq=>?_,fun h' tk k=>?_⟩)
 .have Ae:(bs.map Value.bool)[i]?=some v:=by simpa using hv
  rw[cm] at Ae;cases eb:bs[i]? with
  |none=>rw[eb] at Ae;cases Ae
  |some b=>
   rw[eb] at Ae;obtain rfl:Value.bool b=v:=bP Ae;have:bs.getD i false=b:=by rw[aY,eb];rfl
   have Jp:Q' b s1:=by rw[<-this];exact hq
   exact wpAny_pure Jp
 .have keep:∀b o,s.heap.get? b=some o->h'.get? b=some o:=fun b o e=>k b o (by simpa using bg (bh e)) (bY _ e);refine⟨.bl (bs.any id),H,I.kept (t':=tk) keep,?_,q⟩;show Value.bool _=Value.bool _;congr 1;have go:∀ (bs:List Bool),((List.range bs.length).any fun i=>bs.getD i false)=bs.any id:=by
   intro bs;induction bs with
   |nil=>rfl
   |cons b bs ih=>
    rw[dz,nU,ot,List.any_map,ot,<-ih];rfl
  rw[<-go bs];simp
end
def uy(c:Addr)(qual:Str):HO:=.ext fun h=>h.CodeRec (.ref c) qual
theorem FY(x:h.CodeRec (.ref c) qual):cu P w H h c (uy c qual):=by
 refine⟨x,?_,?_⟩
 .obtain⟨c',o,vs,t,e,ho,_⟩:=x;cases e;exact⟨o,ho⟩
 .rintro h1 h2 ⟨c',o,vs,t,e,ho,r⟩ k;cases e;exact⟨c,o,vs,t,rfl,k o ho,r⟩
def Mr(f:Addr)(qual:Str)(params:Arguments)(body:Expr)(scope:Scope)(cells:List (Str×Addr))(c:Addr)(h:Heap):Prop:=
 ∃ (kE:List (Str×Addr)) (pm B7:Value),(∀x a,kE.lookup x=some a->cells.lookup x=some a)/\(∀x,(x,NameKind.free)∈scope.names->∃a,kE.lookup x=some a)/\
  h.get? f=some (PySem.W.kla_obj "<lambda>" qual params body scope kE pm c B7)
def AF(f:Addr)(qual:Str)(params:Arguments)(body:Expr)(scope:Scope)(cells:List (Str×Addr))(c:Addr):HO:=.ext (Mr f qual params body scope cells c)
theorem B8(x:Mr f qual params body scope cells c h):
  cu P w H h f (AF f qual params body scope cells c):=by
 refine⟨x,?_,?_⟩
 .obtain⟨_,_,_,_,_,e⟩:=x;exact⟨_,e⟩
 .rintro h1 h2 ⟨kE,pm,B7,a,b,e⟩ k;exact⟨kE,pm,B7,a,b,k _ e⟩
def FZ(lp:Pos)(qual:Str)(P:Addr)(H:Hp):Prop:=H P=some (.qy #[])\/∃c,H P=some (.qy #[rawInt lp.line,rawInt lp.col,.ref c])/\H c=some (uy c qual)
structure JO(X:Cx)(c P:Addr):Prop where
 code:X.env.code=.ref c
 hd:PySem.W.CodeHd X.base c P
 bm:∃bm o,X.mg "__builtins__"=some (.ref bm)/\bm≠builtinsNs/\bm≠mainGlobals/\X.base.get? bm=some o/\o.cls=.type "module"/\o.dict=some builtinsNs/\o.data=.plain
def Xk(lp:Pos)(qual:Str)(P:Addr)(params:Arguments)(body:Expr)(scope:Scope)(cells:List (Str×Addr)):TE:=fun _ H Q=>FZ lp qual P H/\
 ∀ (f c:Addr) (H2:Hp),FZ lp qual P H2->(∀b o,H b=some o->b≠P->H2 b=some o)->H2 c=some (uy c qual)->H2 f=some (AF f qual params body scope cells c)->Q (.ref f) H2
theorem xT{lp:Pos}{c:Addr}:TriplesOk (#[rawInt lp.line,rawInt lp.col,.ref c]:Array Value).toList:=trivial
theorem Dt:codeAmong lp (#[rawInt lp.line,rawInt lp.col,.ref c]:Array Value).toList=some (.ref c):=by
 show (if ((lp.line:Int)==(lp.line:Int)&&(lp.col:Int)==(lp.col:Int))=true then some (Value.ref c) else _)=_;simp
section
variable {X:Cx} {c P:Addr} {params:Arguments} {body:Expr} {scope:Scope} {lp:Pos} {NB:List Str} {src:List (Option Nat)}
theorem JO.at(C:JO X c P)(I:aU X ag σ H s)(hP:H P=some (.qy ps)):s.heap.BuiltinsAt X.mg P:=by
 obtain⟨bm,o,b1,b2,b3,b4,b5,b6,b7⟩:=C.bm;refine⟨bm,o,b1,b2,b3,fun z=>?_,I.bk _ _ b4,b5,b6,b7⟩;have:=(I.bs _ _ b4).2;rw[z,hP] at this;cases this
theorem aU.Ms(I:aU X ag σ H s):s.heap.Ns mainGlobals X.mg:=I.mod.glob.keeps I.bk
theorem N6(C:JO X c P)(S:im NB src scope X)(Xl:defaultsOf params X.env=([],[]):=by rfl):PE X (.Lambda params body scope lp) (Xk lp (X.env.qual++"<lambda>") P params body scope X.env.cells):=by
 intro ag s σ H Q I h;obtain⟨tab,h⟩:=h;obtain⟨kE,ecl,c1,c2⟩:=lX I.ok S;refine PySem.W.kla_eval Xl ?_;have lc:∀b o,s.heap.get? b=some o->b<s.heap.objs.size:=fun b o e=>bh e;rcases tab with hP|⟨c',hP,xn⟩
 .-- the first time
  have Se:s.heap.get? P=some (PySem.W.tabObj #[]):=I.b_ P _ hP;have hPL:X.env.locals≠P:=fun z=>by have f:=I.free;rw[z,hP] at f;cases f
  have hPg:mainGlobals≠P:=fun z=>by
   obtain⟨o,es,ep,e,d,_⟩:=I.mod.glob;have:=(I.bs _ _ e).2;rw[z,hP] at this;cases this
  refine PySem.W.kla_makeFunction (mg:=X.mg) ecl I.ok.glob I.Ms C.code (C.hd.keeps I.bk) Se (by trivial) rfl hPg (C.at I hP) fun c' B7 h' tk hx JP eZ Xm htb=>?_;have JQ:∀b o,b≠P->s.heap.get? b=some o->(h'.push (PySem.W.kla_obj "<lambda>" (X.env.qual++"<lambda>") params body scope kE ((X.mg "__name__").getD .none) c' B7)).get? b=some o:=fun b o hb e=>bY _ (hx b o hb e);have hcP:c'≠P:=jo (cQ (lc _ _ Se) JP);have hfP:h'.objs.size≠P:=jo (cQ (lc _ _ Se) (bC JP (j8 eZ)));have hfc:h'.objs.size≠c':=jo eZ;have nf:H h'.objs.size=none:=I.b_.fresh (by lia);have nc:H c'=none:=I.b_.fresh JP
  let H2:Hp:=upd (upd (upd H P (.qy #[rawInt lp.line,rawInt lp.col,.ref c'])) c' (uy c' (X.env.qual++"<lambda>"))) h'.objs.size (AF h'.objs.size (X.env.qual++"<lambda>") params body scope X.env.cells c')
  have eP:H2 P=some (.qy #[rawInt lp.line,rawInt lp.col,.ref c']):=by
   show upd _ _ _ _=_;rw[am hfP.symm,am hcP.symm,ae]
  have ec:H2 c'=some (uy c' (X.env.qual++"<lambda>")):=by
   show upd _ _ _ _=_;rw[am hfc.symm,ae]
  have ef:H2 h'.objs.size=some (AF h'.objs.size (X.env.qual++"<lambda>") params body scope X.env.cells c'):=ae;have eo:∀b,b≠P->b≠c'->b≠h'.objs.size->H2 b=H b:=fun b h1 h2 h3=>by
   show upd _ _ _ _=_;rw[am h3,am h2,am h1]
  have xh:∀b o,H b=some o->b≠P->H2 b=some o:=fun b o e hb=>by
   rw[eo b hb (ao e nc) (ao e nf)];exact e
  have I2:aU X ag σ H2 { s with heap:=h'.push (PySem.W.kla_obj "<lambda>" (X.env.qual++"<lambda>") params body scope kE ((X.mg "__name__").getD .none) c' B7),toks:=tk }:=by
   refine I.step (g':=s.gens) (d':=s.drawn) (ch:=[]) (fun _ z=>absurd z (by simp)) (fun b o _ _ _ e n=>JQ b o (fun z=>by rw[z,hP] at n;cases n) e) (fun b o _ _ _ e n=>⟨o.slots,JQ b o (fun z=>by rw[z,hP] at n;cases n) e⟩)
    (fun b o _ e n=>?_) (fun b o _ e=>?_) (fun b xs e=>xh b _ e fun z=>by rw[z,hP] at e;cases e) (fun b o u e=>xh b _ e fun z=>by rw[z,hP] at e;cases e) (fun b ps e=>?_) (fun m hm=>?_) (fun b o e=>?_) I.bare
   .rw[eo b (fun z=>by rw[z,hP] at n;cases n) (bg (cQ (lc b o e) JP)) (bg (cQ (lc b o e) (bC JP (j8 eZ))))];exact n
   .by_cases hb:b=P
    .exact⟨_,by rw[hb];exact bY _ htb⟩
    .exact⟨o,JQ b o hb e⟩
   .by_cases hb:b=P
    .rw[hb] at e |-;rw[hP] at e;cases e;exact⟨#[rawInt lp.line,rawInt lp.col,.ref c'],by rw[eP];simp⟩
    .exact⟨#[],by rw[xh b _ e hb];simp⟩
   .exact(hm.extBut hx hPL).push _
   .by_cases hbf:b=h'.objs.size
    .subst hbf;rw[ef] at e;cases e;exact B8 ⟨kE,_,B7,c1,c2,cI _ rfl⟩
    .by_cases W3:b=c'
     .subst W3;rw[ec] at e;cases e;refine FY ?_;obtain⟨c₂,oc,vs,t,e2,Qp,r⟩:=Xm;exact⟨c₂,oc,vs,t,e2,bY _ Qp,r⟩
     .by_cases Xn:b=P
      .subst Xn;rw[eP] at e;cases e;exact bY _ htb
      .rw[eo b Xn W3 hbf] at e;refine(I.b_ b o e).oz (fun d u hd q=>JQ d u ?_ q) (fun d q=>xh d _ q fun z=>by rw[z,hP] at q;cases q) fun d xs q=>xh d _ q fun z=>by rw[z,hP] at q;cases q
       rintro rfl;rcases hd with z|z
       .exact Xn z.symm
       .rw[hP] at z;cases z
  exact⟨.ref h'.objs.size,H2,I2,rfl,h _ c' H2 (.inr ⟨c',eP,ec⟩) xh ec ef⟩
 .-- again
  have Se:s.heap.get? P=some (PySem.W.tabObj #[rawInt lp.line,rawInt lp.col,.ref c']):=I.b_ P _ hP;refine PySem.W.kla_makeFunctionHit (mg:=X.mg) ecl I.ok.glob I.Ms C.code (C.hd.keeps I.bk) Se xT Dt (C.at I hP) fun B7 h' tk hk JP=>?_;have nf:H h'.objs.size=none:=I.b_.fresh JP
  let H2:Hp:=upd H h'.objs.size (AF h'.objs.size (X.env.qual++"<lambda>") params body scope X.env.cells c')
  have ef:H2 h'.objs.size=some (AF h'.objs.size (X.env.qual++"<lambda>") params body scope X.env.cells c'):=ae;have xh:∀b o,H b=some o->H2 b=some o:=fun b o e=>by
   show upd _ _ _ _=_;rw[am (ao e nf)];exact e
  have JQ:∀b o,s.heap.get? b=some o->(h'.push (PySem.W.kla_obj "<lambda>" (X.env.qual++"<lambda>") params body scope kE ((X.mg "__name__").getD .none) c' B7)).get? b=some o:=fun b o e=>bY _ (hk b o e);have I2:aU X ag σ H2 { s with heap:=h'.push (PySem.W.kla_obj "<lambda>" (X.env.qual++"<lambda>") params body scope kE ((X.mg "__name__").getD .none) c' B7),toks:=tk }:=by
   refine I.step (g':=s.gens) (d':=s.drawn) (ch:=[]) (fun _ z=>absurd z (by simp)) (fun b o _ _ _ e n=>JQ b o e) (fun b o _ _ _ e n=>⟨o.slots,JQ b o e⟩)
    (fun b o _ e n=>?_) (fun b o _ e=>⟨o,JQ b o e⟩) (fun b xs e=>xh b _ e) (fun b o u e=>xh b _ e) (fun b ps e=>⟨#[],by rw[xh b _ e];simp⟩) (fun m hm=>(hm.keeps hk).push _) (I.b_.laid JQ JP (B8 ⟨kE,_,B7,c1,c2,cI _ rfl⟩)) I.bare
   .show upd _ _ _ _=_;rw[am (bg (cQ (lc b o e) JP))];exact n
  exact⟨.ref h'.objs.size,H2,I2,rfl,h _ c' H2 (.inr ⟨c',xh _ _ hP,xh _ _ xn⟩) (fun b o e _=>xh b o e) (xh _ _ xn) ef⟩
end
def F0(X:Cx)(id:String)(ks:List Str)(r:St->List V->List V->Hp->VK->Prop):Prop:=
 ∀ (ag:List (Addr×Obj)) (s:Shared) (σ:St) (H:Hp) (vs zs:List V) (us ws:List Value) (Q:VK),aU X ag σ H s->ba vs us->ba zs ws->r σ vs zs H Q->
  wpAny (model X.prog X.w) X.A (call (.builtin id) us (ks.zip ws)) (EP X ag σ Q) X.xe s
def Xo(r:St->List V->List V->Hp->VK->Prop)(t tk:TA):TE:=fun σ H Q=>t σ H fun vs H1=>tk σ H1 fun zs H2=>r σ vs zs H2 Q
section
variable {X:Cx} {x:Str} {p pos:Pos} {e:Expr} {es:List Expr} {Fj:List Keyword} {t tk:TA} {id:String} {ks:List Str} {r:St->List V->List V->Hp->VK->Prop}
theorem Du(hc:F0 X id ks r)(hg:Gl X x)(hm:X.mg x=none)(hv:bootBuiltins x=some (.builtin id))(ha:PA X (e::es) t)(hkw:PK X Fj tk)(hn:x≠"__name__":=by decide)(tI:(x==("__debug__":Str))=false:=by decide)(hks:(backToKw pos (keywordEach Fj X.env)).filterMap (·.1)=ks:=by rfl)(he:backTo pos (starEach (e::es) X.env)=(false,eval e X.env)::backTo pos (starEach es X.env):=by rfl)(rH:(backTo pos (starEach (e::es) X.env)).any (·.1)=false:=by rfl)(oN:(backToKw pos (keywordEach Fj X.env)).all (·.1.isSome)=true:=by rfl)(Fm:(backToKw pos (keywordEach Fj X.env)).any (·.1.isNone)=false:=by rfl):PE X (.Call (.Name x p) (e::es) Fj pos) (Xo r t tk):=by
 intro ag s σ H Q I h;refine n9 (lT I hg hm hv ?_ hn tI);refine PyProof.Rows.callWith_kw (cV (ha pos ag s σ H _ I h) fun us s1 ⟨vs,H1,I1,r1,q1⟩=>?_) he rH oN Fm;refine cV (hkw pos ag s1 σ H1 _ I1 q1) fun ws s2 ⟨zs,H2,I2,rz,q2⟩=>?_;rw[hks];exact hc ag s2 σ H2 vs zs us ws Q I2 r1 rz q2
end
def N7(za zb:Int)(ns out:List Int):Prop:=∃ps:List (Int×Int),ps.Perm (ns.map fun z=>((z-za) % zb,z))/\out=ps.map (·.2)/\ps.Pairwise fun p q=>p.1<=q.1
def N8(X:Cx)(qual:Str)(params:Arguments)(body:Expr)(scope:Scope)(ia ib:Nat):St->List V->List V->Hp->VK->Prop:=fun σ vs zs H Q=>
 ∃ (l f c:Addr) (ns:List Int) (za zb:Int),vs=[.ref l]/\zs=[.ref f]/\aZ X.K H l (ns.map V.int)/\ns.length<64/\H f=some (AF f qual params body scope X.env.cells c)/\H c=some (uy c qual)/\
  σ[ia]?=some (some (.int za))/\σ[ib]?=some (some (.int zb))/\0<zb/\∀ (r:Addr) (out:List Int),H r=none->N7 za zb ns out->Q (.ref r) (upd H r (.lst (out.map V.int)))
theorem uz:∀ {ns:List Int} {vs:List Value},ba (ns.map V.int) vs->IntsAre vs ns
 |[],_,.nil=>.nil
 |_::_,_,.cons ⟨t,e⟩ r=>by subst e;exact .cons _ t (uz r)
structure Sf(X:Cx)(qual:Str)(params:Arguments)(body:Expr)(scope:Scope)(y a b:Str)(ia ib:Nat):Prop where
 bd:∃p1 p2 p3 p4 p5,body=.BinOp (.BinOp (.Name y p1) .Sub (.Name a p2) p3) .Mod (.Name b p4) p5
 bind:∀kE pm c B7 v,bindArgs (PySem.W.kla_fn "<lambda>" qual params body scope kE pm (.ref c) B7) ⟨[v],[]⟩=pure [(y,v)]
 na:X.N[ia]?=some a
 nb:X.N[ib]?=some b
 ca:X.env.scope.names.lookup a=some .cell
 cb:X.env.scope.names.lookup b=some .cell
 ly:scope.names.lookup y=some .local
 fa:scope.names.lookup a=some .free
 fb:scope.names.lookup b=some .free
 ma:(a,NameKind.free)∈scope.names
 mb:(b,NameKind.free)∈scope.names
 N9:∀z∈scope.names,z.2≠.cell
 kind:scope.kind=.function
 co:scope.isCoroutine=false
 gen:scope.isGenerator=false
 dy:(y==("__debug__":Str))=false
 da:(a==("__debug__":Str))=false/\(a==("__classdict__":Str))=false
 db:(b==("__debug__":Str))=false/\(b==("__classdict__":Str))=false
theorem AG(S:Sf X qual params body scope y a b ia ib)(hr:cx k X.A):
  F0 X "sorted" ["key"] (N8 X qual params body scope ia ib):=by
 intro ag s σ H vs zs us ws Q I r rz h;obtain⟨l,f,c,ns,za,zb,rfl,rfl,hl,Sg,hf,hc,sa,sb,hb0,q⟩:=h;obtain⟨u1,rfl,r1⟩:=r.one;obtain rfl:u1=Value.ref l:=r1;obtain⟨w1,rfl,Xp⟩:=rz.one;obtain rfl:w1=Value.ref f:=Xp;obtain⟨its,rv,pl,hz⟩:=I.list hl;have hI:=uz rv;obtain⟨m,F⟩:=I.fr;obtain⟨p1,p2,p3,p4,p5,rfl⟩:=S.bd;obtain⟨kE,pm,B7,c1,c2,RE⟩:=(I.b_ f _ hf).1;have hcr:s.heap.CodeRec (.ref c) qual:=(I.b_ c _ hc).1;obtain⟨m',Vr,hlk⟩:=I.loc;have Si:∃ca ta,kE.lookup a=some ca/\s.heap.IsCell ca (some (.int za ta)):=by
  obtain⟨u,⟨ta,rfl⟩,lk⟩:=hlk ia a (.int za) S.na sa (.inr (.inl S.ca));obtain⟨ca,e1⟩:=c2 a S.ma;rcases lk with ⟨z,_⟩|⟨_,ca',e2,e3⟩
  .have z':X.env.scope.names.lookup a=some .local:=z;rw[S.ca] at z';cases z'
  .have e4:=c1 a ca e1;rw[e2] at e4;cases e4;exact⟨ca,ta,e1,e3⟩
 have Sj:∃cb tb,kE.lookup b=some cb/\s.heap.IsCell cb (some (.int zb tb)):=by
  obtain⟨u,⟨tb,rfl⟩,lk⟩:=hlk ib b (.int zb) S.nb sb (.inr (.inl S.cb));obtain⟨cb,e1⟩:=c2 b S.mb;rcases lk with ⟨z,_⟩|⟨_,cb',e2,e3⟩
  .have z':X.env.scope.names.lookup b=some .local:=z;rw[S.cb] at z';cases z'
  .have e4:=c1 b cb e1;rw[e2] at e4;cases e4;exact⟨cb,tb,e1,e3⟩
 obtain⟨ca,ta,ea,ha⟩:=Si;obtain⟨cb,tb,eb,hb⟩:=Sj;have VC:∀b' (o:Obj),s.heap.get? b'=some o->(∀es ep,o.data≠.dict es ep)->b'≠X.env.locals:=fun b' o e d z=>by
  obtain⟨o',es,ep,e',d',_⟩:=F.ns;rw[z,e'] at e;cases e;exact d _ _ d'
 have len:(ns.map fun z=>(z-za) % zb).length=its.length:=by rw[aP,hI.length]
 refine ksk_sorted (b:=false) (f:=.ref f) (kz:=ns.map fun z=>(z-za) % zb) F EY pl.isList len (by rw[hI.length];exact Sg) (ksk_s1 _ _) (fun x=>ksk_l1 _ _) (fun x=>ksk_t1 _ _) ?_ ?_
 .-- one key
  intro i v k hv hk h tk own F' N';have at_:∀b' u,b'≠X.env.locals->s.heap.get? b'=some u->h.get? b'=some u:=fun b' u ur e=>by
   cases z:X.base.get? b' with
   |some o=>
    have:=I.bk b' o z;rw[e] at this;cases this;exact F'.keep b' _ z
   |none=>exact(N' (b',u) (fw _ (ki ur z e))).1
  have Xq:=at_ f _ (VC f _ RE (by intro es ep z;cases z)) RE;have Xr:h.CodeRec (.ref c) qual:=by
   obtain⟨c0,o,vs0,t0,e0,ho,hd,hv0⟩:=hcr;refine⟨c0,o,vs0,t0,e0,at_ _ _ (VC _ _ ho (by rw[hd];intro es ep z;cases z)) ho,hd,hv0⟩
  have RD:h.IsCell ca (some (.int za ta)):=by
   obtain⟨o,ho,hd⟩:=ha;exact⟨o,at_ _ _ (VC _ _ ho (by rw[hd];intro es ep z;cases z)) ho,hd⟩
  have yO:h.IsCell cb (some (.int zb tb)):=by
   obtain⟨o,ho,hd⟩:=hb;exact⟨o,at_ _ _ (VC _ _ ho (by rw[hd];intro es ep z;cases z)) ho,hd⟩
  obtain⟨z,tz,rfl,rfl⟩:∃z tz,v=.int z tz/\k=(z-za) % zb:=by
   obtain⟨n,t,e⟩:=hI.all v (df hv);refine⟨n,t,e,?_⟩;rw[cm] at hk;have hn:=hI.nums;have e1:(its.map numOf)[i]?=some n:=by rw[cm,hv,e];rfl
   rw[hn] at e1;rw[e1] at hk;exact(bP hk).symm
  have Sk:X.A.in1.in1.depth<recursionLimit:=by
   have:=hr.dp;show X.A.depth<_;lia
  refine rm (PySem.W.kla_callFunE Sk Xq rfl S.co S.gen rfl Xr ?_);rw[S.bind];refine wpAny_pure (wpAny_newFunctionEnv S.N9 (fun x hx=>by rw[cC.mp hx];exact S.ly) (fun h₁ yP hsb=>⟨((I.ok.mod.nolimit).keeps F'.keep).fresh _ hsb,?_⟩) S.kind);have Sl:∀b o,h.get? b=some o->h₁.get? b=some o:=fun b o e=>hsb.extBut b o (bg (bh e)) (bY _ e);have ha₁:=RD.keeps Sl;have hb₁:=yO.keeps Sl;refine PySem.W.kla_codeExpr ?_;refine wpAny_BinOp (wpAny_BinOp ?_);refine oy (zH S.kind S.ly yP (v:=.int z tz) (by simp) ?_) S.dy;refine oy (zN S.kind S.fa ea ha₁ ?_ S.da.2) S.da.1;refine sub_int ?_;refine oy (zN S.kind S.fb eb hb₁ ?_ S.db.2) S.db.1;refine mod_int' (by lia) ?_;rw[yZ _ (by lia)];refine KskEnd.intro (news':=jq X.base s.heap X.env.locals++own) ⟨F'.ns.keeps Sl,fun b o e=>Sl b o (F'.keep b o e),F'.above⟩ (fun p hp=>⟨Sl _ _ (N' p hp).1,(N' p hp).2⟩) fun p hp=>hp
 .-- the list
  intro D h' tk out cc F' N' eZ Xs;have hD:=tO I N' eZ;obtain⟨ps,hp,ho,hs⟩:=Xs;have JA:∀p∈ps,∃n t,p.2=.int n t:=fun p JI=>by
   have:=hp.mem_iff.mp JI;exact hI.all _ (q_ this).2
  have Sm:((ns.map fun z=>(z-za) % zb).zip its).map (fun p=>(p.1,numOf p.2))=ns.map fun z=>((z-za) % zb,z):=by
   have hn:=hI.nums;rw[<-hn];have go:∀ (l:List Value),((((l.map numOf).map fun z=>(z-za) % zb).zip l).map fun p=>(p.1,numOf p.2))=(l.map numOf).map fun z=>((z-za) % zb,z):=by
    intro l;induction l with
    |nil=>rfl
    |cons x l ih=>simp only[fu,List.zip_cons_cons,ih]
   exact go its
  have Fz:ba ((ps.map fun p=>(p.1,numOf p.2)).map (fun p=>V.int p.2)) (ps.map Prod.snd):=by
   have go:∀ (l:List (Int×Value)),(∀p∈l,∃n t,p.2=.int n t)->ba ((l.map fun p=>(p.1,numOf p.2)).map (fun p=>V.int p.2)) (l.map Prod.snd):=by
    intro l;induction l with
    |nil=>intro _;exact .nil
    |cons x l ih=>
     intro hx;refine .cons ?_ (ih fun p hp=>hx p (cX _ hp));obtain⟨n,t,e⟩:=hx x bW;show ∃t,x.2=Value.int (numOf x.2) t;rw[e];exact⟨t,rfl⟩
   exact go ps JA
  have Dv:N7 za zb ns ((ps.map fun p=>(p.1,numOf p.2)).map (·.2)):=by
   refine⟨ps.map fun p=>(p.1,numOf p.2),?_,rfl,?_⟩
   .rw[<-Sm];exact hp.map _
   .refine i0.mpr (hs.imp fun {p q} z=>?_);simpa using z
  have hDo:h'.get? D=some (seqObj "list" out cc):=(N' _ bW).1;have I2:aU X ag σ (upd H D (.lst (((ps.map fun p=>(p.1,numOf p.2)).map (·.2)).map V.int))) { s with heap:=h',toks:=tk }:=by
   refine I.RZ F F' (fun p hp=>N' p (cX _ hp)) hD ⟨?_,ps.map Prod.snd,cc,?_,?_⟩
   .have h1:=hp.length_eq;rw[List.length_zip,len,Nat.min_self] at h1;simp only[aP];rw[h1,hI.length];exact bC (j8 Sg) (by decide)
   .have ev:=Fz;simp only[di] at ev |-;exact ev
   .rw[hDo,<-ho]
  exact⟨.ref D,_,I2,rfl,q D _ (I.b_.oR hD) Dv⟩
def vZ(mg:Str->Option Value)(base:Heap):Prop:=∃bm o,mg "__builtins__"=some (.ref bm)/\bm≠builtinsNs/\bm≠mainGlobals/\base.get? bm=some o/\o.cls=.type "module"/\o.dict=some builtinsNs/\o.data=.plain
def B9(ts:List Addr)(H:Hp):Prop:=(∀P∈ts,H P=some (.qy #[]))/\∀b,H b=none\/(b∈ts/\H b=some (.qy #[]))\/∃o xs,H b=some (.tw o (.lst xs))
theorem Dw{P:Program}{w:World}{K:PySem.W.Frag}{mg mb:Str->Option Value}{CX:vJ}{k:Nat}{fa a:Addr}{fd:FuncData}{x:Str}{sp:Sp}{s₁:Shared}{vs:List Value}{ns:List Int}{ts:List Addr}(KX:K.In s₁.heap)(yP:s₁.heap.Ns mainGlobals mg)(hb:s₁.heap.Ns builtinsNs mb)(hbb:∀x:Str,x≠"__name__"->mb x=bootBuiltins x)(Xt:s₁.heap.NoLimit)(hg:s₁.gens=#[])(hbm:vZ mg s₁.heap)(Sn:∀P∈ts,s₁.heap.get? P=some (PySem.W.tabObj #[]))(qz:∀P∈ts,∃c,PySem.W.codeHdIn K c P=true)(So:∀P∈ts,K.lookup P=none)(ha:s₁.heap.get? a=some { cls:=.type "list",data:=.seq vs.toArray })(hi:IntsAre vs ns)(hl:ns.length<=sizeLine)(hr:cx k callerA)(F:∀base:Heap,K.In base->base.Ns mainGlobals mg->vZ mg base->bL P w K mg base CX k fa fd [x] sp)(Sq:∀ (s:Shared) (u:Value),BindsTo s fd ⟨[u],[]⟩ [(x,u)])(EB:∀H:Hp,B9 ts H->aZ K H a (ns.map V.int)->sp [.ref a] H (fun v _=>v=.bl true) fun _ _ _=>False)(Xu:∀H e s',CX [] H s₁ (fun _ _ _=>False) e s'->False):
  codeAny (model P w) callerA (.call (.ref fa) ⟨[.ref a],[]⟩) (fun r s'=>r=.ok (.ret (.bool true))/\OldK s₁.heap s'.heap/\s'.os=s₁.os/\AllBare s'.gens) s₁:=by
 have rv:=oO hi;have Xv:=hi.length;have hat:a∉ts:=fun z=>by
  have:=Sn a z;rw[ha] at this;cases this
 have Sr:∀H:Hp,B9 ts H->aZ K H a (ns.map V.int)->jR P w H s₁.heap->(∀b,H b≠none->b=a\/b∈ts)->(H a≠none->K.lookup a=none)->
   codeAny (model P w) callerA (.call (.ref fa) ⟨[.ref a],[]⟩) (fun r s'=>r=.ok (.ret (.bool true))/\OldK s₁.heap s'.heap/\s'.os=s₁.os/\AllBare s'.gens) s₁:=by
  intro H hO hS b_ hA hK;have v3:∀ {b:Addr} {o:Obj},s₁.heap.get? b=some o->H b=none->(tD s₁.heap H).get? b=some o:=fun e n=>EX e n;have Qt:∀ {b:Addr} {o:Obj},s₁.heap.get? b=some o->(∀v n,o.data≠.seq v n)->(∀v,o.data≠.fields v)->H b=none:=fun {b o} e d1 d2=>by
   cases q:H b with
   |none=>rfl
   |some u=>
    rcases hA b (by rw[q];simp) with e'|e'
    .subst e';rw[ha] at e;cases e;exact absurd rfl (d1 _ _)
    .rw[Sn b e'] at e;cases e;exact absurd rfl (d2 _)
  have VD:∀ {b:Addr} {m:Str->Option Value},s₁.heap.Ns b m->(tD s₁.heap H).Ns b m:=fun {b m} ⟨o,es,ep,e,d,r⟩=>⟨o,es,ep,v3 e (Qt e (by rw[d];intro v n z;cases z) (by rw[d];intro v z;cases z)),d,r⟩
  have hKb:K.In (tD s₁.heap H):=fun b o e=>v3 (KX b o e) (by
   cases q:H b with
   |none=>rfl
   |some u=>
    rcases hA b (by rw[q];simp) with e'|e'
    .subst e';rw[hK (by rw[q];simp)] at e;cases e
    .rw[So b e'] at e;cases e)
  have hB:vZ mg (tD s₁.heap H):=by
   obtain⟨bm,o,b1,b2,b3,b4,b5,b6,b7⟩:=hbm;exact⟨bm,o,b1,b2,b3,v3 b4 (Qt b4 (by rw[b7];intro v n z;cases z) (by rw[b7];intro v z;cases z)),b5,b6,b7⟩
  have hM:Mod K mg (tD s₁.heap H):=⟨hKb,VD yP,⟨mb,VD hb,hbb⟩,let ⟨mc,h1,h2⟩:=Xt;⟨mc,VD h1,h2⟩⟩
  have e0:Aj P w K mg (tD s₁.heap H) callerA [] s₁ H:=⟨rfl,hM,fun b o e=>Jf e,ow (CZ _ _),trivial,fun b hb=>absurd (show b∈([]:List Addr) from hb) (by simp),b_,.of_eq hg⟩
  refine lO ((F _ hKb (VD yP) hB).run callerA [] s₁ H ⟨[.ref a],[]⟩ [.ref a] [.ref a] _ _ hr e0 (Sq s₁ (.ref a)) (.cons rfl .nil) (EB H hO hS)) fun r s' h=>?_;cases r with
  |error e=>exact(Xu H e s' h).elim
  |ok fl=>
   cases fl with
   |next=>exact False.elim h
   |brk=>exact False.elim h
   |cont=>exact False.elim h
   |ret u=>
    obtain⟨v,H',os,bare,un,Ss,r',q⟩:=h;have q':v=.bl true:=q;subst q';obtain rfl:u=Value.bool true:=r';refine⟨rfl,⟨fun b o e=>?_,fun b o e=>un.there b o e (by simp)⟩,os,bare⟩;cases q:H b with
    |none=>exact .inl (un.keep b o e q (by intro z;exact absurd (show b∈([]:List Addr) from z) (by simp)) (by simp))
    |some u=>
     rcases hO.2 b with z|⟨zt,z⟩|⟨ob,xs,z⟩
     .rw[q] at z;cases z
     .obtain⟨more,z2⟩:=un.mF b _ z;have e1:=Sn b zt;rw[e] at e1;cases e1;have e2:s'.heap.get? b=some { cls:=.none,data:=.fields (#[]++more) }:=Ss b _ z2;obtain⟨c,hc⟩:=qz b zt;obtain⟨oc,vsc,_,_,_,_,_,_,_,g1,g2,g3,g4,_⟩:=PySem.W.codeHd_of_K KX hc;exact .inr (.inl ⟨⟨c,oc,vsc,g1,g2,g3,g4⟩,rfl,#[],more,rfl,e2⟩)
     .have z2:=un.lR b ob _ z;obtain⟨e1,_⟩:=b_ b _ z;obtain⟨e2,_⟩:=Ss b _ z2;rw[e] at e1;cases e1;exact .inl e2
 have aaa:∀ (H:Hp),(∀P∈ts,H P=some (.qy #[]))->True:=fun _ _=>trivial
 classical
 cases hk:K.lookup a with
 |some o=>
  have e:=KX a o hk;rw[ha] at e;cases e;refine Sr (fun b=>if b∈ts then some (.qy #[]) else none) ⟨fun P hP=>ap hP,fun b=>?_⟩ (.inr ⟨_,vs.toArray,_,hk,rfl,rfl,rfl,by rw[bJ,Xv];exact hl,by simpa using rv⟩) (fun b u z=>?_) (fun b z=>?_) fun z=>absurd (aq hat) z
  .by_cases hb:b∈ts
   .exact .inr (.inl ⟨hb,ap hb⟩)
   .exact .inl (aq hb)
  .by_cases hb:b∈ts
   .have z':=(ap hb).symm.trans z;cases z';exact Sn b hb
   .have z':=(aq hb).symm.trans z;cases z'
  .by_cases hb:b∈ts
   .exact .inr hb
   .exact absurd (aq hb) z
 |none=>
  refine Sr (fun b=>if b=a then some (.tw { cls:=.type "list",data:=.seq vs.toArray } (.lst (ns.map V.int))) else if b∈ts then some (.qy #[]) else none) ⟨fun P hP=>?_,fun b=>?_⟩ (.inl (.inr ⟨{ cls:=.type "list",data:=.seq vs.toArray },ap rfl⟩)) (fun b u z=>?_) (fun b z=>?_) fun _=>hk
  .have:P≠a:=fun z=>hat (z ▸ hP);show (if P=a then _ else if P∈ts then _ else _)=_;rw[aq this,ap hP]
  .by_cases hb:b=a
   .exact .inr (.inr ⟨_,_,ap hb⟩)
   .by_cases ht:b∈ts
    .exact .inr (.inl ⟨ht,by show (if b=a then _ else if b∈ts then _ else _)=_;rw[aq hb,ap ht]⟩)
    .exact .inl (by show (if b=a then _ else if b∈ts then _ else _)=_;rw[aq hb,aq ht])
  .by_cases hb:b=a
   .have z':=(ap hb).symm.trans z;cases z';subst hb;exact⟨ha,by rw[aP];exact hl,vs,_,rv,ha⟩
   .have z1:(if b∈ts then some (HO.qy #[]) else none)=some u:=(aq hb).symm.trans z;by_cases ht:b∈ts
    .rw[ap ht] at z1;cases z1;exact Sn b ht
    .rw[aq ht] at z1;cases z1
  .by_cases hb:b=a
   .exact .inl hb
   .by_cases ht:b∈ts
    .exact .inr ht
    .exact absurd (by show (if b=a then _ else if b∈ts then _ else _)=_;rw[aq hb,aq ht]) z
theorem F3{l:PySem.W.OpenLaw}{n k:Nat}{q:Program}{uo:List Str}{XP:(Str->Option Value)->Heap->Prop}{YP:World->Heap->Prop}{d:DefRec}{K:Params->PySem.W.Frag}{CX:World->vJ}{sp:World->Sp}{x:Str}{ts:List Addr}(hn:l.most=some n)(Qs:n<=sizeLine)(RB:d.params.defaults=[])(hr:cx k callerA)(hY:∀ (w:World) (h:Heap),YP w h->(K w.params).In h)(hT:∀ (w:World) (h:Heap),YP w h->∀P∈ts,h.get? P=some (PySem.W.tabObj #[]))(qz:∀ (w:World),∀P∈ts,∃c,PySem.W.codeHdIn (K w.params) c P=true)(So:∀ (w:World),∀P∈ts,(K w.params).lookup P=none)(F:∀ (w:World) (mg:Str->Option Value) (fa:Addr) (h:Heap),(K w.params).In h->h.Ns mainGlobals mg->mg d.name=some (.ref fa)->
   ∃fd:FuncData,(∀ (s:Shared) (u:Value),BindsTo s fd ⟨[u],[]⟩ [(x,u)])/\
    ∀base:Heap,(K w.params).In base->base.Ns mainGlobals mg->vZ mg base->bL l.prog w (K w.params) mg base (CX w) k fa fd [x] (sp w))(EB:∀ (w:World) (H:Hp) (a:Addr) (ns:List Int),ns.length<=n->B9 ts H->aZ (K w.params) H a (ns.map V.int)->sp w [.ref a] H (fun v _=>v=.bl true) fun _ _ _=>False)(Xu:∀ (w:World) (H:Hp) (s:Shared) (e:Value) (s':Shared),CX w [] H s (fun _ _ _=>False) e s'->False):
  PySem.W.WalkO q uo XP YP l.row.toRowW d [] (fun f vs=>PySem.call f vs):=by
 refine ZT.xD hn RB fun w s₀ s₁ mg mb fa o pm cd mq a vs ns G Y ho hd aag RC NO FA c_ hg=>?_;have KX:=hY w _ Y;obtain⟨fd,hb,hF⟩:=F w mg fa _ KX G.T.g RC;have hB:vZ mg s₁.heap:=by
  obtain⟨bm,ob,b1,b2,b3,b4,b5,b6⟩:=G.T.bmain;refine⟨bm,ob,b1,b2,fun z=>?_,b3,b4,b5,b6⟩;obtain⟨o',es,ep,e,Q5,_⟩:=G.T.g;rw[z,e] at b3;cases b3;rw[Q5] at b6;cases b6
 exact Dw KX G.T.g G.T.b G.T.builtins G.T.nolimit hg hB (hT w _ Y) (qz w) (So w) NO FA (bC c_ Qs) hr hF hb (fun H hO hS=>EB w H a ns c_ hO hS) fun H e s'=>Xu w H s₁ e s'
structure AH(K:PySem.W.Frag)(x qual:Str)(st:Stmt)(f:Addr)(fd:FuncData)(c:Addr):Prop where
 ex:∃ (oc:Value) (od:Option Addr) (kV mq pm:Value) (an:Option Addr) (ct:Value) (tJ:Array (Option Value)),
  fd=PySem.W.fnOf x qual (dN st) (bV st) (av st) .none kV mq pm an (.ref c) ct/\K.lookup f=some ⟨oc,od,.func fd,tJ⟩/\PySem.W.codeIn K (.ref c) qual=true
 kp:PySem.W.keepIn K (.ref f)=true
theorem AH.fun{K:PySem.W.Frag}{x qual:Str}{st:Stmt}{f:Addr}{fd:FuncData}{c:Addr}(F:AH K x qual st f fd c):gv K x qual st f fd:=by
 obtain⟨oc,od,kV,mq,pm,an,ct,tJ,e,lk,qz⟩:=F.ex;exact⟨⟨oc,od,kV,mq,pm,an,_,ct,tJ,e,lk,qz⟩,F.kp⟩
section
variable {P:Program} {w:World} {K:PySem.W.Frag} {mg:Str->Option Value} {base:Heap}
theorem AH.ok{x qual:Str}{st:Stmt}{f:Addr}{fd:FuncData}{c:Addr}{N ps:List Str}{k:Nat}{sp:Sp}(F:AH K x qual st f fd c)(S:aS N ps (av st))(len:∀vs H Q E,sp vs H Q E->vs.length=ps.length)(rF:∀ (A:Around) (outer:List Env) (s:Shared) (H:Hp) (vs:List V) (Q:VK) (E:XK),cx k (A.deeper (envOfC qual (av st) s.heap.objs.size f (.ref c)))->sp vs H Q E->
   ∃t,ub (qf bu P w K mg base N qual (av st) f (.ref c) A outer s H E).Me (bV st) t/\t { nx:=fun _ H'=>Q .bD H',rt:=Q } (start N vs) H):bL P w K mg base bu (k+1) f fd ps sp:=by
 obtain⟨oc,od,kV,mq,pm,an,ct,tJ,rfl,lk,qz⟩:=F.ex;refine Fk lk qz S len fun A outer s H vs Q E hr EB=>?_;obtain⟨t,h,q⟩:=rF A outer s H vs Q E hr EB;exact⟨t,h.Me,q⟩
theorem JR{x qual:Str}{st:Stmt}{f c:Addr}{oc:Value}{od an:Option Addr}{tJ:Array (Option Value)}{kV mq pm ct:Value}(l:K.lookup f=some ⟨oc,od,.func (PySem.W.fnOf x qual (dN st) (bV st) (av st) .none kV mq pm an (.ref c) ct),tJ⟩)(qz:PySem.W.codeIn K (.ref c) qual=true)(kp:PySem.W.keepIn K (.ref f)=true):AH K x qual st f (PySem.W.fnOf x qual (dN st) (bV st) (av st) .none kV mq pm an (.ref c) ct) c:=⟨⟨oc,od,kV,mq,pm,an,ct,tJ,rfl,l,qz⟩,kp⟩
theorem JS(kb:K.In base)(hb:vZ mg base)(hc:PySem.W.codeHdIn K c P'=true):
  JO (qf CX P w K mg base N qual scope f (.ref c) A outer s H E).Me c P':=⟨rfl,PySem.W.codeHd_of_K kb hc,hb⟩
end
def qD(sc Xw:Scope)(y:Str×NameKind):Bool:=match y.2 with
 |.cell=>(match sc.names.lookup y.1 with|some .cell=>true|_=>false)
 |.local=>(match sc.names.lookup y.1 with|some .local=>true|_=>false)
 |.free=>(match Xw.names.lookup y.1 with|some .cell=>true|some .free=>true|_=>false)
 |_=>true
def F5(NB:List Str)(src:List (Option Nat))(sc:Scope)(N:List Str)(i:Nat):Bool:=match NB[i]?,src[i]? with
 |some x,some (some j)=>(N[j]?==some x)&&(match sc.names.lookup x with|some .free=>true|_=>false)
 |_,_=>true
def B_(sc:Scope):Bool:=match sc.kind with|.function=>true|_=>false
def F6(NB:List Str)(src:List (Option Nat))(sc Xw:Scope)(N:List Str):Bool:=
 B_ sc&&decide NB.Nodup&&(src.length==NB.length)&&(sc.names.all (qD sc Xw))&&(List.range NB.length).all (F5 NB src sc N)
theorem bN(h:F6 NB src sc X.env.scope X.N=true):im NB src sc X:=by
 unfold F6 at h;simp only[fA,qV,ff,g8] at h;obtain⟨⟨⟨⟨h1,h2⟩,h3⟩,h4⟩,h5⟩:=h;refine⟨?_,h2,h3,fun y hy z=>?_,fun y hy z=>?_,fun y hy z=>?_,fun i x j e1 e2=>?_⟩
 .unfold B_ at h1;split at h1
  .assumption
  .cases h1
 .have:=h4 y hy;obtain⟨n,k⟩:=y;obtain rfl:k=.cell:=z;dsimp only[qD] at this |-;split at this
  .assumption
  .cases this
 .have:=h4 y hy;obtain⟨n,k⟩:=y;obtain rfl:k=.local:=z;dsimp only[qD] at this |-;split at this
  .assumption
  .cases this
 .have:=h4 y hy;obtain⟨n,k⟩:=y;obtain rfl:k=.free:=z;dsimp only[qD] at this |-;split at this
  .exact .inl (by assumption)
  .exact .inr (by assumption)
  .cases this
 .have hi:i<NB.length:=(cK.mp e1).1;have:=h5 i (bQ.mpr hi);unfold F5 at this;rw[e1,e2] at this;simp only[fA,ff] at this;refine⟨this.1,?_⟩;have t2:=this.2;split at t2
  .assumption
  .cases t2
theorem dE{K:PySem.W.Frag}{a D:Addr}{xs:List V}{g:TG}{tt:TT}{te:TE}{dG:Hp->Prop}{σB:St}{H0:Hp}(Pv:Nat->List V->St->Hp->Prop)(h0:Pv 0 [] σB H0)(hl:∀i ys σ H,i<=xs.length->Pv i ys σ H->aZ K H a xs)(hs:∀i x ys σ H (Kt:V->St->Hp->Prop) (Kf:St->Hp->Prop),xs[i]?=some x->Pv i ys σ H->
   (∀v σ2 H4,H4 D=some (.lst ys)->ys.length<sizeLine->Pv (i+1) (ys++[v]) σ2 (upd H4 D (.lst (ys++[v])))->Kt v σ2 H4)->(∀σ2 H3,Pv (i+1) ys σ2 H3->Kf σ2 H3)->
   g x σ H fun σ2 H2=>tt σ2 H2 fun b H3=>if b=true then te σ2 H3 fun v H4=>Kt v σ2 H4 else Kf σ2 H3)(hd:∀ys σ H,Pv xs.length ys σ H->dG H):gI (Ey K a) g tt te D dG σB H0:=by
 refine⟨fun i m σ H=>m=xs.length-i/\i<=xs.length/\∃ys,Pv i ys σ H,⟨xs.length,by simp,cM _,[],h0⟩,?_⟩;rintro i m σ H ⟨rfl,hi,ys,p⟩;have q:=hl i ys σ H hi p;by_cases eZ:i<xs.length
 .refine .inr ⟨⟨xs,xs[i],q,by simp[eZ]⟩,?_⟩;rintro x H' ⟨rfl,y⟩;exact hs i x ys σ _ (fun v σ2 H4=>∃ys,H4 D=some (.lst ys)/\ys.length<sizeLine/\∃m',m'<xs.length-i/\m'=xs.length-(i+1)/\i+1<=xs.length/\∃xU,Pv (i+1) xU σ2 (upd H4 D (.lst (ys++[v]))))
   (fun σ2 H3=>∃m',m'<xs.length-i/\m'=xs.length-(i+1)/\i+1<=xs.length/\∃xU,Pv (i+1) xU σ2 H3) (y xs q) p
   (fun v σ2 H4 z1 z2 z3=>⟨ys,z1,z2,_,by lia,rfl,eZ,_,z3⟩) (fun σ2 H3 z=>⟨_,by lia,rfl,eZ,_,z⟩)
 .have e:i=xs.length:=by lia
  subst e;exact .inl ⟨⟨xs,q,bt _⟩,hd ys σ H p⟩
theorem fk{lo:Int}{n:Nat}{D:Addr}{g:TG}{tt:TT}{te:TE}{dG:Hp->Prop}{σB:St}{H0:Hp}(Pv:Nat->List V->St->Hp->Prop)(h0:Pv 0 [] σB H0)(hs:∀i ys σ H (Kt:V->St->Hp->Prop) (Kf:St->Hp->Prop),i<n->Pv i ys σ H->
   (∀v σ2 H4,H4 D=some (.lst ys)->ys.length<sizeLine->Pv (i+1) (ys++[v]) σ2 (upd H4 D (.lst (ys++[v])))->Kt v σ2 H4)->(∀σ2 H3,Pv (i+1) ys σ2 H3->Kf σ2 H3)->
   g (.int (lo+i)) σ H fun σ2 H2=>tt σ2 H2 fun b H3=>if b=true then te σ2 H3 fun v H4=>Kt v σ2 H4 else Kf σ2 H3)(hd:∀ys σ H,Pv n ys σ H->dG H):gI (Ez lo n) g tt te D dG σB H0:=by
 refine⟨fun i m σ H=>m=n-i/\i<=n/\∃ys,Pv i ys σ H,⟨n,by simp,cM _,[],h0⟩,?_⟩;rintro i m σ H ⟨rfl,hi,ys,p⟩;by_cases eZ:i<n
 .refine .inr ⟨eZ,?_⟩;rintro x H' ⟨rfl,rfl⟩;exact hs i ys σ _ (fun v σ2 H4=>∃ys,H4 D=some (.lst ys)/\ys.length<sizeLine/\∃m',m'<n-i/\m'=n-(i+1)/\i+1<=n/\∃xU,Pv (i+1) xU σ2 (upd H4 D (.lst (ys++[v]))))
   (fun σ2 H3=>∃m',m'<n-i/\m'=n-(i+1)/\i+1<=n/\∃xU,Pv (i+1) xU σ2 H3) eZ p
   (fun v σ2 H4 z1 z2 z3=>⟨ys,z1,z2,_,by lia,rfl,eZ,_,z3⟩) (fun σ2 H3 z=>⟨_,by lia,rfl,eZ,_,z⟩)
 .have e:i=n:=by lia
  subst e;exact .inl ⟨bt _,hd ys σ H p⟩
section
variable {κ:Type} [DecidableEq κ]
def hU(cN:List (κ×V))(k:κ):Option V:=(cN.find? fun kv=>decide (kv.1=k)).map (·.2)
def rQ(cN:List (κ×V))(k:κ)(v:V):List (κ×V):=
 if (cN.any fun kv=>decide (kv.1=k))=true then cN.map (fun kv=>if kv.1=k then (kv.1,v) else kv) else cN++[(k,v)]
theorem eE{p:κ×V}{r:List (κ×V)}{k:κ}(e:p.1=k):hU (p::r) k=some p.2:=by simp[hU,og,e]
theorem eG{p:κ×V}{r:List (κ×V)}{k:κ}(e:¬ p.1=k):hU (p::r) k=hU r k:=by simp[hU,og,e]
theorem mX(k:κ):∀cN:List (κ×V),(cN.any fun kv=>decide (kv.1=k))=(hU cN k).isSome
 |[]=>rfl
 |p::r=>by
  rw[ot];by_cases e:p.1=k
  .simp only[eE e,cL e,Bool.true_or,zB]
  .rw[eG e,dO e,Bool.false_or];exact mX k r
theorem xV(k j:κ)(y:V):∀cN:List (κ×V),hU (cN.map fun kv=>if kv.1=k then (kv.1,y) else kv) j=(hU cN j).map fun x=>if j=k then y else x
 |[]=>rfl
 |p::r=>by
  have ih:=xV k j y r;rw[fu];by_cases h:p.1=k
  .rw[ap h];by_cases e:p.1=j
   .rw[eE (p:=(p.1,y)) e,eE e,lK,ap (e.symm.trans h)]
   .rw[eG (p:=(p.1,y)) e,eG e,ih]
  .rw[aq h];by_cases e:p.1=j
   .rw[eE (p:=p) e,eE e,lK,aq (fun z=>h (e.trans z))]
   .rw[eG (p:=p) e,eG e,ih]
theorem uA(k j:κ)(y:V):∀cN:List (κ×V),hU cN k=none->hU (cN++[(k,y)]) j=if j=k then some y else hU cN j
 |[],_=>by
  by_cases e:k=j
  .rw[ap e.symm];exact eE (p:=(k,y)) e
  .rw[aq (fun z=>e z.symm)];exact eG (p:=(k,y)) e
 |p::r,hn=>by
  rw[List.cons_append];have hk:¬ p.1=k:=fun z=>by rw[eE z] at hn;cases hn
  rw[eG hk] at hn;have ih:=uA k j y r hn;by_cases e:p.1=j
  .rw[eE e,eE e,aq (fun z=>hk (e.trans z))]
  .rw[eG e,eG e,ih]
theorem F7(cN:List (κ×V))(k j:κ)(y:V):hU (rQ cN k y) j=if j=k then some y else hU cN j:=by
 unfold rQ;by_cases a:(cN.any fun kv=>decide (kv.1=k))=true
 .rw[ap a,xV];rw[mX] at a;by_cases e:j=k
  .obtain⟨x,hx⟩:=uU.mp a;rw[ap e,e,hx,lK,ap rfl]
  .rw[aq e];cases hU cN j with
   |none=>rfl
   |some x=>rw[lK,aq e]
 .rw[aq a];refine uA k j y cN ?_;rw[mX] at a;cases q:hU cN k with
  |none=>rfl
  |some x=>rw[q] at a;exact(a rfl).elim
theorem xW(cN:List (κ×V))(k:κ)(v:V):(rQ cN k v).length<=cN.length+1:=by
 unfold rQ;split
 .rw[aP];lia
 .rw[cf,dz,List.length_nil];lia
theorem mD.oW(r:mD o u):o.isSome=u.isSome:=by
 cases o with
 |none=>cases u with
  |none=>rfl
  |some _=>exact(show False from r).elim
 |some _=>cases u with
  |none=>exact(show False from r).elim
  |some _=>rfl
theorem KV.val{cN:List (κ×V)}{vs:List (κ×Value)}(r:KV cN vs)(k:κ):mD (hU cN k) (valueAt vs k):=by
 unfold KV at r;induction r with
 |nil=>exact True.intro
 |@cons p q ps qs h t ih=>
  obtain⟨h1,h2⟩:=h;by_cases e:p.1=k
  .have e':q.1=k:=h1.symm.trans e;have b:valueAt (q::qs) k=some q.2:=by simp[valueAt,og,e']
   rw[eE e,b];exact h2
  .have e':¬ q.1=k:=fun z=>e (h1.trans z);have b:valueAt (q::qs) k=valueAt qs k:=by simp[valueAt,og,e']
   rw[eG e,b];exact ih
end
theorem Mt(r:bX (kV k) u):(cj P w).is k u=true:=by
 cases k with
 |inl i=>obtain⟨t,e⟩:=(show ∃t,u=Value.int i t from r);subst e;exact xk P w i t
 |inr x=>obtain⟨t,e⟩:=(show ∃t,u=Value.str x t from r);subst e;exact xm P w x t
theorem uB:∀ {ks:List g9} {us:List Value},ba (ks.map kV) us->ItemsAre (cj P w) ks us
 |[],_,r=>by rw[List.map_nil] at r;cases r;exact .nil
 |k::ks,_,r=>by
  rw[fu] at r;cases r with
  |cons h t=>exact .cons (Mt h) (uB t)
abbrev KT(H:Hp):List (List g9×V)->List (List g9×Addr×Value)->Prop:=Paired fun p q=>p.1=q.1/\H q.2.1=some (.tup (p.1.map kV))/\bX p.2 q.2.2
theorem KT.val{H:Hp}{cN:List (List g9×V)}{xs:List (List g9×Addr×Value)}(r:KT H cN xs)(k:List g9):mD (hU cN k) ((atKey xs k).map (·.2)):=by
 induction r with
 |nil=>exact True.intro
 |@cons p q ps qs h t ih=>
  obtain⟨h1,_,h2⟩:=h;by_cases e:p.1=k
  .have e':q.1=k:=h1.symm.trans e;have b:atKey (q::qs) k=some q.2:=by simp[atKey,og,e']
   rw[eE e,b];exact h2
  .have e':¬ q.1=k:=fun z=>e (h1.trans z);have b:atKey (q::qs) k=atKey qs k:=by simp[atKey,og,e']
   rw[eG e,b];exact ih
theorem KT.Xx(r:KT H cN xs)(k:List g9)(ry:bX y u):
  KT H (cN.map fun kv=>if kv.1=k then (kv.1,y) else kv) (xs.map (putAt k u)):=by
 induction r with
 |nil=>exact .nil
 |@cons p q ps qs h t ih=>
  rw[fu,fu];refine .cons ?_ ih;obtain⟨h1,h2,h3⟩:=h;unfold putAt;by_cases e:p.1=k
  .rw[ap e,ap (h1.symm.trans e)];exact⟨h1,h2,ry⟩
  .rw[aq e,aq (fun z=>e (h1.trans z))];exact⟨h1,h2,h3⟩
theorem KT.put(r:KT H cN xs)(k:List g9)(hb:H b=some (.tup (k.map kV)))(ry:bX y u):
  KT H (rQ cN k y) (storedH xs k b u):=by
 have e:(cN.any fun kv=>decide (kv.1=k))=(atKey xs k).isSome:=by
  rw[mX,(r.val k).oW,Option.isSome_map]
 unfold rQ storedH;rw[e];by_cases q:(atKey xs k).isSome=true
 .rw[ap q,ap q];exact r.Xx k ry
 .rw[aq q,aq q];exact Paired.snoc r ⟨rfl,hb,ry⟩
theorem KT.keeps(r:KT H cN xs)(ht:∀b ys,H b=some (.tup ys)->H' b=some (.tup ys)):KT H' cN xs:=
 Paired.M8 r fun _ _ z=>⟨z.1,ht _ _ z.2.1,z.2.2⟩
section
variable {P:Program} {w:World} {H:Hp} {h:Heap} {a:Addr}
theorem Mu(ok:jR P w H h)(e:Rd H a u):cu P w H h a u:=e.ok ok
theorem Su(ok:jR P w H h)(e:Rd H a (.dK cN)):cN.length<=sizeLine/\(a==sysModules)=false/\∃vs,KV cN vs/\h.DictOf (cj P w) a vs:=
 show cu P w H h a (.dK cN) from Mu ok e
theorem oX(ok:jR P w H h)(e:H a=some (.tup (ks.map kV))):(tupleKind (cj P w)).is h ks a:=by
 obtain⟨_,its,r,o,h1,h2,n,h3,_⟩:=(show cu P w H h a (.tup (ks.map kV)) from ok a _ e)
 exact⟨o,its.toArray,n,h1,h2,h3,by simpa using uB r⟩
theorem Sv(ok:jR P w H h)(e:Rd H a (.dT cN)):cN.length<=sizeLine/\(a==sysModules)=false/\
  ∃xs,KT H cN xs/\h.DictOfH (tupleKind (cj P w)) a xs:=by
 obtain⟨z,y,xs,r,o,es,ep,h1,h2,h3,h4,h5⟩:=(show cu P w H h a (.dT cN) from Mu ok e)
 refine⟨z,y,xs,r,o,es,ep,h1,h2,h3,h4,fun x hx=>?_,h5⟩;have all:∀ {l:List (List g9×V)} {m:List (List g9×Addr×Value)},KT H l m->∀x∈m,(tupleKind (cj P w)).is h x.1 x.2.1:=by
  intro l m q;induction q with
  |nil=>intro x hx;exact nomatch hx
  |@cons p q ps qs hq t ih=>
   intro x hx;rcases bK.mp hx with e|hx
   .subst e;exact oX ok (by rw[<-hq.1];exact hq.2.1)
   .exact ih x hx
 exact all r x hx
end
def F8(H:Hp)(a:Addr)(y:V)(r:Option V):Prop:=
 (∃cN k,Rd H a (.dK cN)/\y=kV k/\r=hU cN k)\/∃cN k b,Rd H a (.dT cN)/\y=.ref b/\H b=some (.tup (k.map kV))/\r=hU cN k
theorem F8.t(e:H a=some (.dT cN))(eb:H b=some (.tup (k.map kV))):F8 H a (.ref b) (hU cN k):=.inr ⟨cN,k,b,.inl e,rfl,eb,rfl⟩
section
variable {X:Cx} {ag:List (Addr×Obj)} {σ:St} {H:Hp} {s:Shared} {a:Addr} {y v:V} {u r:Value} {o:Option V} {A:Around} {E:Value->Shared->Prop}
theorem aU.big(I:aU X ag σ H s):sysModules<s.heap.objs.size:=by
 have h:mainGlobals<s.heap.objs.size:=(I.mod.glob.keeps I.bk).lt;exact rh (by decide) h
theorem Xy(hu:A.units+1<cLine)(I:aU X ag σ H s)(g:F8 H a y o)(ry:bX y u)(h:∀s',aU X ag σ H s'->Q (.bool o.isSome) s'):
  wpAny (model X.prog X.w) A (compareOp .In u (.ref a)) Q E s:=by
 rcases g with ⟨cN,k,e,ey,l⟩|⟨cN,k,b,e,ey,eb,l⟩
 .subst ey;obtain⟨z,hd,vs,Xz,dd⟩:=Su I.b_ e;refine wpAny_in_of (Mt ry) hd dd.mapOf ?_;rw[<-(Xz.val k).oW,<-l];exact h _ (I.tok _)
 .subst ey;cases (show u=Value.ref b from ry);obtain⟨z,hd,xs,Xz,dd⟩:=Sv I.b_ e;refine wpAny_in_heap (tupleKind_room_in1 hu) (oX I.b_ eb) hd dd ?_;have q:=(Xz.val k).oW;rw[Option.isSome_map] at q;rw[<-q,<-l];exact h _ (I.tok _)
end
section
variable {X:Cx} {ag:List (Addr×Obj)} {σ:St} {H:Hp} {s:Shared} {a:Addr} {cN:List (g9×V)} {k:g9} {u:Value} {A:Around} {E:Value->Shared->Prop}
end
def Sx(ty td:TE):TE:=fun σ H Q=>ty σ H fun y H1=>td σ H1 fun x H2=>∃a o,x=.ref a/\F8 H2 a y o/\Q (.bl o.isSome) H2
section
variable {X:Cx} {o i e value:Expr} {pos C4 Nx:Pos} {td ty tv:TE}
theorem N_(hu:X.A.units+1<cLine)(hi:PE X i ty)(ho:PE X o td):PC X .In i o (Sx ty td):=by
 intro ag s σ H Q I h;refine cV (hi ag s σ H _ I h) fun iv s1 ⟨y,H1,I1,ry,q1⟩=>cV (ho ag s1 σ H1 _ I1 q1) fun u s2 ⟨x,H2,I2,rx,a,ov,ex,g,q2⟩=>?_;subst ex;obtain rfl:u=Value.ref a:=rx;exact Xy hu I2 g ry fun s3 I3=>⟨.bl ov.isSome,H2,I3,rfl,q2⟩
end
theorem F9{P:Program}{w:World}{H:Hp}(h:Heap)(hb:sysModules<h.objs.size):cu P w H (h.push { cls:=.type "dict",data:=.dict #[] }) h.objs.size (.dK []):=
 ⟨cM _,jV.mpr (fE (bg hb)),[],.nil,Heap.DictOf.new h⟩
def F_:TE:=fun _ H Q=>∀p,H p=none->Q (.ref p) (upd H p (.dK []))
section
variable {X:Cx} {pos:Pos}
theorem Ga:PE X (.Dict [] [] pos) F_:=fun ag s σ H Q I h=>
 wpAny_Dict_empty ⟨.ref s.heap.objs.size,_,I.laid (a:=s.heap.objs.size) (o:=.dK []) (t':=s.toks) (fun _ _ q=>bY _ q) (bt _) (F9 s.heap I.big),rfl,h _ (I.b_.fresh (bt _))⟩
end
section
variable {X:Cx} {ag:List (Addr×Obj)} {σ:St} {H:Hp} {s:Shared} {a:Addr} {y d:V} {u r:Value} {o:Option V} {A:Around} {E:Value->Shared->Prop}
end
section
variable {X:Cx} {o e f:Expr} {kq iw:Pos} {td ty tx:TE}
end
section
variable {X:Cx} {ag:List (Addr×Obj)} {σ:St} {H:Hp} {s:Shared} {a:Addr} {cN:List (g9×V)} {A:Around} {E:Value->Shared->Prop}
end
section
variable {X:Cx} {ag:List (Addr×Obj)} {σ:St} {H:Hp} {s:Shared} {a:Addr} {y:V} {u:Value} {A:Around} {E:Value->Shared->Prop}
end
section
variable {X:Cx}
end
section
variable {κ:Type} [DecidableEq κ]
end
section
variable {X:Cx}
theorem lY:∀ {xs:List V} {its:List Value},ba xs its->xs.all dA=true->its.countP (uk x)=xs.countP (fun z=>jL z x)
 |[],_,.nil,_=>rfl
 |y::xs,_,.cons (b:=u) r rr,f=>by
  have fy:dA y=true:=by rw[jm,fA] at f;exact f.1
  have fx:xs.all dA=true:=by rw[jm,fA] at f;exact f.2
  have h1:[u].any (uk x)=[y].any (fun z=>jL z x):=kZ (.cons r .nil) (by simp[fy]);have h2:uk x u=jL y x:=by simpa using h1
  rw[j6,j6,lY rr fx,h2]
def Gb:V->List V->Hp->VK->Prop:=fun x vs H Q=>∃ (l:Addr) (xs:List V) (y:V),x=.ref l/\vs=[y]/\H l=some (.lst xs)/\dA y=true/\xs.all dA=true/\Q (.int (xs.countP fun z=>jL z y)) H
theorem Gc:NJ X "list.count" Gb:=by
 intro ag s σ H x vs v us Q I rx rv h;obtain⟨l,xs,y,rfl,rfl,hH,fy,fs,q⟩:=h;cases rx;obtain⟨u,rfl,ru⟩:=rv.one;obtain⟨z,its,n,r,hl,e⟩:=I.rJ hH;refine iR F.slot_list_count ⟨_,e,rfl⟩ F.entry_list_count (F.args_list_count_2 _ _) (SeqAt.list_countAt l its.toArray n none #[] u (uk y)) ⟨e,fun w hw=>il ru fy r fs w (by simpa using hw),?_⟩;refine⟨.int _,H,I.tok _,⟨s.toks,?_⟩,q⟩;rw[show its.toArray.toList=its by simp,lY r fs]
end
section
variable {prog:Program} {w:World} {A:Around} {E:Value->Shared->Prop} {s:Shared}
theorem rR(xg:s.heap.IsTupleIter it t i)(ht:s.heap.IsTuple t xs)(hx:xs[i]?=some x)(q:∀h',h'.IsTupleIter it t (i+1)->Heap.SameBut it s.heap h'->Q x { s with heap:=h' }):wpAny (model prog w) A (Builtin.SmallTypes.nextOf (.ref it)) Q E s:=by
 obtain⟨o,h1,h2,h3⟩:=id xg;obtain⟨p,k1,_,n,k3⟩:=ht;unfold Builtin.SmallTypes.nextOf;refine aD (nV (name:=Str.ofString "__next__") xg.typeIs F.slot_tuple_iterator_next (lJ F.slot_tuple_iterator_next xg.typeIs F.entry_tuple_iterator_next ?_ (F.args_tuple_iterator_next_1 _)));change wpAny _ _ (field (.ref it) 0 >>= _) _ _ s;refine aD (h9 h1 h3 (x:=.ref t) rfl ?_);change wpAny _ _ (if (Value.ref t==Value.none)=true then _ else _) _ _ s;rw[aq (by exact cF)];change wpAny _ _ (field (.ref it) 1 >>= _) _ _ s;refine aD (h9 h1 h3 (x:=.int i 0) rfl ?_);change wpAny _ _ (seqItems? (.ref t) >>= _) _ _ s;refine aD (jj k1 k3 ?_);simp only[i3,hx];refine aD (wpAny_setField h1 h3 (by simp) (wpAny_pure ⟨x,rfl,wpAny_pure (q _ ?_ (Heap.SameBut.update ..))⟩));refine⟨_,zG _ h1 (Obj.isFreed_of_fields (Obj.data_mapFields h3 _)),(Obj.cls_mapFields ..).trans h2,?_⟩;rw[Obj.data_mapFields h3];simp[rawInt]
theorem Dx(hh:A.handled=none)(xg:s.heap.IsTupleIter it t i)(ht:s.heap.IsTuple t xs)(hx:xs[i]?=none)(q:∀h' e,Heap.ExtBut it s.heap h'->(∃o,h'.get? e=some o/\o.cls=.type "StopIteration")->E (.ref e) { s with heap:=h' }):wpAny (model prog w) A (Builtin.SmallTypes.nextOf (.ref it)) Q E s:=by
 obtain⟨o,h1,h2,h3⟩:=id xg;obtain⟨p,k1,_,n,k3⟩:=ht;unfold Builtin.SmallTypes.nextOf;refine aD (nV (name:=Str.ofString "__next__") xg.typeIs F.slot_tuple_iterator_next (lJ F.slot_tuple_iterator_next xg.typeIs F.entry_tuple_iterator_next ?_ (F.args_tuple_iterator_next_1 _)));change wpAny _ _ (field (.ref it) 0 >>= _) _ _ s;refine aD (h9 h1 h3 (x:=.ref t) rfl ?_);change wpAny _ _ (if (Value.ref t==Value.none)=true then _ else _) _ _ s;rw[aq (by exact cF)];change wpAny _ _ (field (.ref it) 1 >>= _) _ _ s;refine aD (h9 h1 h3 (x:=.int i 0) rfl ?_);change wpAny _ _ (seqItems? (.ref t) >>= _) _ _ s;refine aD (jj k1 k3 ?_);simp only[i3,hx];refine aD (gN (aD (wpAny_setField h1 h3 (by simp) ?stop)));case stop=>
  change wpAny _ _ (newExc (.type "StopIteration") [] >>= _) _ _ _;refine aD ?_;simp only[newExc,newTuple];refine aD (j4 (aD (m:=firstArgMember _ _) (wpAny_of_eq (a:=Value.none) (by simp only[firstArgMember];rfl) (j4 ?_ (by size_fits)))) (by size_fits));simp only[raiseNew];refine aD (wpAny_handled ?_);rw[show A.in1.handled=none from hh];exact aD (wpAny_pure (wpAny_throw (q _ _ (fun b u hb z=>bY _ (bY _ ((zx _ _ (fE hb)).trans z))) ⟨_,cI _ rfl,rfl⟩)))
end
section
variable {X:Cx}
end
section
variable {X:Cx} {tg:Expr}
end
theorem v4:typeLookup (.type "list") "keys"=pure none:=by rw[typeLookup_type,builtinLookup_eq_fast];kernel_rfl
theorem qi:typeLookup (.type "list") "__getattr__"=pure none:=by rw[typeLookup_type,builtinLookup_eq_fast];kernel_rfl
theorem rS(l:Addr)(u:Tok)(items:Array Value)(n:Nat):
  Meets (Builtin.«object.__getattribute__» ⟨[.ref l,.str "keys" u],[]⟩) (fun A R s=>s.heap.get? l=some { cls:=.type "list",data:=.seq items n }/\raisesAttr (.ref l) "keys" A R s):=
 Meets.of_wp fun prog w A R s hs=>by
  obtain⟨hp,g,d,tk,os⟩:=s;obtain⟨hl,hs⟩:=hs;have hT:(⟨hp,g,d,tk,os⟩:Shared).TypeIs (.ref l) "list":=⟨_,hl,rfl⟩
  have f1:=v4;unfold Builtin.«object.__getattribute__»;repeat (any_goals (first|assumption|wp_step))
  exact wpAny_raiseAttrError hs.1 hs.2 (attrMsg_fits (by decide +kernel) (by decide +kernel))
theorem Oa(hA:A.handled=none)(hl:s.heap.get? l=some { cls:=.type "list",data:=.seq items n })(h:∀h' tk,(∀b o,s.heap.get? b=some o->h'.get? b=some o)->Q none { s with heap:=h',toks:=tk }):wpAny (model prog w) A (getAttr? (.ref l) "keys") Q E s:=by
 obtain⟨hp,g,d,tk,os⟩:=s;have hT:∀tk,(⟨hp,g,d,tk,os⟩:Shared).TypeIs (.ref l) "list":=fun _=>⟨_,hl,rfl⟩
 have f1:=sub_AttributeError;have f3:=F.slot_list_getattribute.lookup;have f4:=F.slot_list_getattribute.bind (.ref l);have f5:=qi;unfold getAttr? getAttrBy?;refine aD (wpAny_mkText ?_);refine aD (vz ?_);unfold getAttrBy;repeat (any_goals (first|assumption|((with_reducible show wpAny _ _ (call (Value.builtin "list.__getattribute__") _ _) _ _ _);refine iR F.slot_list_getattribute (hT _) F.entry_list_ga (F.args_list_getattribute_2 _ _) (rS l _ items n) ⟨hl,hA,fun h' tk' e hx=>?_⟩)|wp_step))
 obtain⟨t',u',he⟩:=hx.there;show wpAny _ _ (getattributeRaised _ _ _ _ _ _ _) _ _ _;unfold getattributeRaised;repeat (any_goals (first|assumption|wp_step))
 exact h _ _ hx.keeps
theorem pQ:entryFor table "dict.update.loop"=some Builtin.«dict.update.loop»:=entryFor_of_tree (by kernel_rfl)
theorem iJ:plainId "dict.update.loop"=true:=by decide +kernel
section
variable {prog:Program} {w:World} {A:Around} {E:Value->Shared->Prop} {s:Shared} {R:Result->Shared->Prop} {l d Ia:Addr}
end
section
variable {prog:Program} {w:World} {A:Around} {E:Value->Shared->Prop} {s:Shared} {l:Addr}
end
section
variable {X:Cx}
theorem uC(hc:X.calm=true):et X (.builtin "all") (fun xs H Q=>∃ (p:Addr) (bs:List Bool),xs=[.ref p]/\aZ X.K H p (bs.map V.bl)/\Q (.bl (bs.all id)) H):=by
 intro ag s σ H xs us Q I r h;obtain⟨p,bs,rfl,hp,q⟩:=h;obtain⟨u1,rfl,r1⟩:=r.one;obtain rfl:u1=Value.ref p:=r1;obtain⟨its,rv,pl,hz⟩:=I.list hp;have vY:its=bs.map Value.bool:=by
  have go:∀ (bs:List Bool) (its:List Value),ba (bs.map V.bl) its->its=bs.map Value.bool:=by
   intro bs;induction bs with
   |nil=>intro its r;cases r;rfl
   |cons b bs ih=>
    intro its r;cases r with
    |cons r rr=>
     obtain rfl:=(show _=Value.bool b from r)
     rw[ih _ rr];rfl
  exact go bs its rv
 subst vY;obtain⟨ob,Xj,_⟩:=id pl.isList;have eZ:p<s.heap.objs.size:=bh Xj;refine call_all_walk (n_ pl.isList ⟨s.heap.objs.size,_,_,_,_,_,fun i=>bs.getD i true,rfl,Walks.list (show X.A.in1.handled=none from I.ok.hd hc) _ p (bg eZ) _,⟨⟨_,cI _ rfl,rfl,rfl⟩,pl.isList.push _⟩,fun i v s1 Q' E' hv hq=>?_,fun h' tk k=>?_⟩)
 .have Ae:(bs.map Value.bool)[i]?=some v:=by simpa using hv
  rw[cm] at Ae;cases eb:bs[i]? with
  |none=>rw[eb] at Ae;cases Ae
  |some b=>
   rw[eb] at Ae;obtain rfl:Value.bool b=v:=bP Ae;have:bs.getD i true=b:=by rw[aY,eb];rfl
   have Jp:Q' b s1:=by rw[<-this];exact hq
   exact wpAny_pure Jp
 .have keep:∀b o,s.heap.get? b=some o->h'.get? b=some o:=fun b o e=>k b o (by simpa using bg (bh e)) (bY _ e);refine⟨.bl (bs.all id),H,I.kept (t':=tk) keep,?_,q⟩;show Value.bool _=Value.bool _;congr 1;have go:∀ (bs:List Bool),((List.range bs.length).all fun i=>bs.getD i true)=bs.all id:=by
   intro bs;induction bs with
   |nil=>rfl
   |cons b bs ih=>
    rw[dz,nU,jm,vx,jm,<-ih];rfl
  rw[<-go bs];simp
def JT:V->List V->Hp->VK->Prop:=fun x vs H Q=>∃ (l:Addr) (ns:List Int) (z:Int),x=.ref l/\vs=[.int z]/\H l=some (.lst (ns.map V.int))/\z∈ns/\Q .bD (upd H l (.lst ((ns.eraseIdx (ns.idxOf z)).map V.int)))
theorem ints_of:∀ {ns:List Int} {its:List Value},ba (ns.map V.int) its->∀i (h:i<its.length) (h':i<ns.length),∃t,its[i]=Value.int ns[i] t
 |[],_,.nil,i,h,_=>by simp at h
 |n::ns,_,.cons ⟨t,e⟩ r,0,_,_=>⟨t,e⟩
 |n::ns,_,.cons _ r,i+1,h,h'=>ints_of r i (by simpa using h) (by simpa using h')
def isI(z:Int)(v:Value):Bool:=match v with
 |.int y _=>y==z
 |_=>false
theorem Dy:NJ X "list.remove" JT:=by
 intro ag s σ H x vs v us Q I rx rv h;obtain⟨l,ns,z,rfl,rfl,hH,hz,q⟩:=h;cases rx;obtain⟨u,rfl,ru⟩:=rv.one;obtain⟨t,rfl⟩:=ru;obtain⟨zz,its,n,r,hl,e⟩:=I.rJ hH;have c_:its.length=ns.length:=by have:=r.length;rw[aP] at this;exact this.symm
 have hj:ns.idxOf z<ns.length:=EU.mpr hz;have at_:∀i (h:i<its.length),∃t,its[i]=Value.int (ns[i]'(by lia)) t:=fun i h=>ints_of r i h (by lia);refine iR F.slot_list_remove ⟨_,e,rfl⟩ F.entry_list_remove (F.args_list_remove_2 _ _)
  (MeetsSeq.list_remove l its.toArray n (.int z t) (isI z) (fun y hy=>?_) (ns.idxOf z) (by simpa [c_] using hj) ?_ (fun m hm eZ=>?_) (by rw[bJ,c_];rw[aP] at zz;exact zz)) ⟨e,?_⟩
 .obtain⟨i,hi,rfl⟩:=lB.mp (show y∈its by simpa using hy);obtain⟨t',e'⟩:=at_ i hi;rw[e'];exact MeetsSeq.EqGives.int _ _ _ _
 .obtain⟨t',e'⟩:=at_ (ns.idxOf z) (by lia);have e2:its.toArray[ns.idxOf z]'(by simpa [c_] using hj)=its[ns.idxOf z]'(by lia):=by simp
  rw[e2,e'];show (ns[ns.idxOf z]==z)=true;rw[List.getElem_idxOf];simp
 .obtain⟨t',e'⟩:=at_ m (by simpa using hm);have e2:its.toArray[m]=its[m]'(by simpa using hm):=by simp
  rw[e2,e'];show (ns[m]==z)=false;have:=List.not_of_lt_findIdx (p:=(·==z)) (xs:=ns) (i:=m) eZ;simpa using this
 .refine⟨.bD,_,I.Fv (its':=its.eraseIdx (ns.idxOf z)) hH e ?_ ?_ ?_,rfl,q⟩
  .show its.toArray.eraseIdxIfInBounds _=_;rw[EL]
  .have em:∀ (l:List Int) (j:Nat),(l.eraseIdx j).map V.int=(l.map V.int).eraseIdx j:=by
    intro l;induction l with
    |nil=>intro j;rfl
    |cons y l ih=>
     intro j;cases j with
     |zero=>rfl
     |succ j=>simp only[List.eraseIdx_cons_succ,fu,ih]
   rw[em];exact r.eraseIdx _
  .rw[aP,List.length_eraseIdx];rw[aP] at zz;split <;> lia
end
structure cE(P:Program)(w:World)(K:PySem.W.Frag)(mg:Str->Option Value)(base:Heap)(CX:vJ)(k:Nat)(x:Str)(ps:List Str)(sp:Sp):Prop where
 ex:∃f fd,mg x=some (.ref f)/\PySem.W.keepIn K (.ref f)=true/\iH K fd ps []/\bL P w K mg base CX k f fd ps sp
theorem aG(C:cE X.prog X.w X.K X.mg X.base CX k x ps sp)(hr:cx k X.A)(hx:jw CX X E)(ha:PA X (e::es) t)(hg:Gl X x:=by rfl)(tI:(x==("__debug__":Str))=false:=by decide)(he:starEach (e::es) X.env=(false,eval e X.env)::starEach es X.env:=by rfl)(xf:(backTo pos (starEach es X.env)).any (·.1)=false:=by rfl):
  PE X (.Call (.Name x p) (e::es) [] pos) (uf sp [] E t):=by
 obtain⟨f,fd,a,b,c,d⟩:=C.ex;exact Jo d hr hg a b c .nil hx ha tI he xf
theorem aj(h:H D=none):aE H (upd H D o):=fun b u e=>by rw[am (ao e h)];exact e
def az(p:Addr)(H H':Hp):Prop:=∀b o,H b=some o->b≠p->H' b=some o
theorem az.refl:az p H H:=fun _ _ h _=>h
theorem az.trans(a:az p H H1)(b:az p H1 H2):az p H H2:=fun c o h n=>b c o (a c o h n) n
theorem az.upd:az p H (upd H p o):=fun b u h n=>by rw[am n];exact h
theorem az.of(s:aE H H'):az p H H':=fun b o h _=>s b o h
theorem az.free(s:az p H H')(hp:H' p≠none)(h:H' q=none):H q=none:=by
 cases z:H q with
 |none=>rfl
 |some o=>
  by_cases e:q=p
  .subst e;exact absurd h hp
  .rw[s q o z e] at h;cases h
theorem dZ(h:j<n):Fn n (j:Int)=some j:=by
 unfold Fn;rw[ap (by lia),ap (by lia)];simp
theorem Dz(h:as.length=n):(as++[t]).getD j 0=if j=n then t else as.getD j 0:=by
 rw[aY,aY];by_cases hj:j=n
 .subst hj;subst h;rw[ap rfl,jS (bt _),iP];rfl
 .rw[aq hj];by_cases eZ:j<as.length
  .rw[iD eZ]
  .rw[jS (by lia),de (by simp;lia),de (by lia)]
def Holds(H:Hp)(as:List Addr)(n:Nat)(o:Nat->HO):Prop:=as.length=n/\∀j,j<n->H (as.getD j 0)=some (o j)
theorem Holds.nil:Holds H [] 0 o:=⟨rfl,fun j hj=>absurd hj (by lia)⟩
theorem Holds.snoc(h:Holds H as n o)(ht:H t=some (o n)):Holds H (as++[t]) (n+1) o:=by
 refine⟨by rw[cf,h.1];rfl,fun j hj=>?_⟩;rw[Dz h.1];by_cases e:j=n
 .rw[ap e,e];exact ht
 .rw[aq e];exact h.2 j (by lia)
theorem Holds.mono(h:Holds H as n o)(e:∀j,j<n->H (as.getD j 0)=some (o j)->H' (as.getD j 0)=some (o j)):Holds H' as n o:=⟨h.1,fun j hj=>e j hj (h.2 j hj)⟩
end L2
namespace PyProof.Rows
open PySem
def iK:Bool->Keyed->Array Keyed->Nat->Nat->Nat->StateT SortSt Sem (Option Nat):=sortPriv% PySem.Builtin.gallop
def rT:Array Keyed->Array Keyed->StateT SortSt Sem (Array Keyed):=sortPriv% PySem.Builtin.mergeLo
def rV:Array Keyed->Array Keyed->StateT SortSt Sem (Array Keyed):=sortPriv% PySem.Builtin.mergeHi
def iU:Nat->StateT SortSt Sem Unit:=sortPriv% PySem.Builtin.setMinGallop
def xX(prog:Program)(w:World)(A:Around)(s:Shared)(κ:SortKind)(a₀:Array Keyed):Prop:=
 ∀x y,x∈a₀.toList->y∈a₀.toList->∀ (Q:Bool->Shared->Prop) (E:Value->Shared->Prop),(∀b,Q b s)->wpAny (model prog w) A (keyLt' κ x.1 y.1) Q E s
structure SQ(κ:SortKind)(a₀:Array Keyed)(pd:Array (Nat×Nat×Nat))(st:SortSt):Prop where
 perm:(arrOf st).Perm a₀
 kind:kindOf st=κ
 failed:failedOf st=none
 pend:pendingOf st=pd
section
variable {prog:Program} {w:World} {A:Around} {E:Value->Shared->Prop} {s:Shared} {κ:SortKind} {a₀:Array Keyed} {pd:Array (Nat×Nat×Nat)}
theorem SQ.size{st:SortSt}(h:SQ κ a₀ pd st):(arrOf st).size=a₀.size:=h.perm.size_eq
theorem SQ.setArr{st:SortSt}(h:SQ κ a₀ pd st){xs:Array Keyed}(hp:xs.Perm (arrOf st)):SQ κ a₀ pd (setArr st xs):=⟨hp.trans h.perm,h.kind,h.failed,h.pend⟩
theorem SQ.at{st:SortSt}(h:SQ κ a₀ pd st){i:Nat}(hi:i<a₀.size):∃p,(arrOf st)[i]?=some p/\p∈a₀.toList:=by
 have tQ:i<(arrOf st).size:=by rw[h.size];exact hi
 exact⟨(arrOf st)[i],dI _ i tQ,(mx.mp h.perm).mem_iff.mp (by simp)⟩
theorem rW{st:SortSt}{x y:Keyed}{Q:Option Bool->SortSt->Prop}(hC:xX prog w A s κ a₀)(hk:kindOf st=κ)(hx:x∈a₀.toList)(hy:y∈a₀.toList)(h:∀b,Q (some b) st):wpS (model prog w) A E s (lt' x y) Q st:=by
 rw[lt'_eq];refine aH (ie ?_);rw[hk];refine aH (lQ (vz (hC x y hx hy _ _ fun b=>⟨rfl,?_⟩)));exact aX (h b)
theorem bF{st:SortSt}{arr:Array Keyed}{i:Nat}{p:Keyed}{Q:Keyed->SortSt->Prop}(hi:arr[i]?=some p)(h:Q p st):wpS (model prog w) A E s (elem' arr i) Q st:=by
 rw[elem'_eq,hi];exact aX h
theorem fP{st:SortSt}{i j:Nat}{Q:Option Bool->SortSt->Prop}(hC:xX prog w A s κ a₀)(hB:SQ κ a₀ pd st)(hi:i<a₀.size)(hj:j<a₀.size)(h:∀b,Q (some b) st):wpS (model prog w) A E s (ltAt' i j) Q st:=by
 obtain⟨p,e1,m1⟩:=hB.at hi;obtain⟨q,e2,m2⟩:=hB.at hj;rw[ltAt'_eq];refine aH (ie ?_);exact aH (bF e1 (aH (bF e2 (rW hC hB.kind m1 m2 h))))
theorem hV{st:SortSt}{i j:Nat}{Q:Unit->SortSt->Prop}(hB:SQ κ a₀ pd st)(h:∀bq,SQ κ a₀ pd bq->Q () bq):wpS (model prog w) A E s (reverseSlice' i j) Q st:=by
 rw[reverseSlice'_eq];exact gO (h _ (hB.setArr (mirror_perm _ _ _ _)))
theorem Gd{st:SortSt}{i j:Nat}{Q:Unit->SortSt->Prop}(hB:SQ κ a₀ pd st)(h:∀bq,SQ κ a₀ pd bq->Q () bq):wpS (model prog w) A E s (moveDown' i j) Q st:=by
 rw[moveDown'_eq];exact gO (h _ (hB.setArr (bubble_perm _ _ _)))
theorem JU{st:SortSt}{lo n ok:Nat}{Q:Bool->SortSt->Prop}(hC:xX prog w A s κ a₀)(hn:lo+n<=a₀.size)(hB:SQ κ a₀ pd st)(h:∀bq,SQ κ a₀ pd bq->Q true bq):wpS (model prog w) A E s (binarySort' lo n ok) Q st:=by
 rw[binarySort'_eq];refine aH (dU (f8 (I:=fun _ c bq=>c=(none,())/\SQ κ a₀ pd bq) (Q:=fun c bq=>c=(none,())/\SQ κ a₀ pd bq) ?_ (fun c bq hh=>hh) ⟨rfl,hB⟩) ?_)
 .rintro k c bq hk1 JV ⟨rfl,XA⟩;dsimp only;refine aH (dU (f8 (I:=fun _ c Ob=>(∃l r,c=(none,l,r)/\r<=k)/\SQ κ a₀ pd Ob) (Q:=fun c Ob=>(∃l r,c=(none,l,r)/\r<=k)/\SQ κ a₀ pd Ob) ?_ (fun c bq hh=>hh) ⟨⟨_,_,rfl,bt _⟩,XA⟩) ?_)
  .rintro x c tG _ _ ⟨⟨l,r,rfl,hr⟩,tR⟩;dsimp only;by_cases Ca:l>=r
   .rw[ap Ca];exact aX ⟨⟨_,_,rfl,hr⟩,tR⟩
   .rw[aq Ca];refine aH (fP hC tR (by lia) (by lia) fun b=>?_);cases b
    .exact aX ⟨⟨_,_,rfl,hr⟩,tR⟩
    .exact aX ⟨⟨_,_,rfl,by lia⟩,tR⟩
  .rintro c tG ⟨⟨l,r,rfl,hr⟩,tR⟩;dsimp only;exact aH (Gd tR fun Ab qj=>aX ⟨rfl,qj⟩)
 .rintro c bq ⟨rfl,XA⟩;exact aX (h bq XA)
end
theorem AI(left:Bool)(key:Keyed)(arr:Array Keyed)(base n lZ:Nat):iK left key arr base n lZ=(do
 let v5 (i:Nat):StateT SortSt Sem (Option Bool):=do
  let x <- elem' arr (base+i)
  if left then lt' x key else return (<-lt' key x).map (!·)
 let mut lastofs:=0
 let mut ofs:=1
 let mut lo:=0
 let mut hi:=0
 let some right <- v5 lZ|return none
 if right then
  let rX:=n-lZ
  for _ in [0:n] do
   if ofs>=rX then break
   let some more <- v5 (lZ+ofs)|return none
   if !more then break
   lastofs:=ofs
   ofs:=2*ofs+1
  lo:=lZ+lastofs+1
  hi:=lZ+min ofs rX
 else
  let rX:=lZ+1
  for _ in [0:n] do
   if ofs>=rX then break
   let some Ge <- v5 (lZ-ofs)|return none
   if Ge then break
   lastofs:=ofs
   ofs:=2*ofs+1
  lo:=lZ+1-min ofs rX
  hi:=lZ-lastofs
 for _ in [0:n] do
  if lo>=hi then break
  let m:=lo+(hi-lo) / 2
  let some more <- v5 m|return none
  if more then lo:=m+1 else hi:=m
 return some hi):=rfl
section
variable {prog:Program} {w:World} {A:Around} {E:Value->Shared->Prop} {s:Shared} {κ:SortKind} {a₀:Array Keyed} {pd:Array (Nat×Nat×Nat)}
theorem io{st:SortSt}{left:Bool}{key:Keyed}{arr:Array Keyed}{j:Nat}{Q:Option Bool->SortSt->Prop}(hC:xX prog w A s κ a₀)(hk:kindOf st=κ)(tH:key∈a₀.toList)(pR:∀x∈arr.toList,x∈a₀.toList)(hj:j<arr.size)(h:∀b,Q (some b) st):
  wpS (model prog w) A E s (do
  let x <- elem' arr j
  if left then lt' x key else return (<-lt' key x).map (!·)) Q st:=by
 have hm:arr[j]∈a₀.toList:=pR _ (by simp);refine aH (bF (dI arr j hj) ?_);cases left
 .rw[aq (by decide)];exact aH (rW hC hk tH hm fun b=>aX (h (!b)))
 .rw[ap rfl];exact rW hC hk hm tH h
theorem gn{st:SortSt}{left:Bool}{key:Keyed}{arr:Array Keyed}{base n lZ:Nat}{Q:Option Nat->SortSt->Prop}(hC:xX prog w A s κ a₀)(hk:kindOf st=κ)(tH:key∈a₀.toList)(pR:∀x∈arr.toList,x∈a₀.toList)(hn:base+n<=arr.size)(hh:lZ<n)(h:∀k,k<=n->Q (some k) st):wpS (model prog w) A E s (iK left key arr base n lZ) Q st:=by
 rw[AI];refine aH (io hC hk tH pR (by lia) fun right=>?_);cases right
 .dsimp only;rw[aq (by decide)];refine aH (dU (f8 (I:=fun _ c bq=>(∃l o,c=(none,l,o))/\st=bq) (Q:=fun c bq=>(∃l o,c=(none,l,o))/\st=bq) ?_ (fun c bq hh=>hh) ⟨⟨_,_,rfl⟩,rfl⟩) ?_)
  .rintro x c bq _ _ ⟨⟨l,o,rfl⟩,rfl⟩;dsimp only;by_cases Ca:o>=lZ+1
   .rw[ap Ca];exact aX ⟨⟨_,_,rfl⟩,rfl⟩
   .rw[aq Ca];refine aH (io hC hk tH pR (by lia) fun Ge=>?_);cases Ge
    .exact aX ⟨⟨_,_,rfl⟩,rfl⟩
    .exact aX ⟨⟨_,_,rfl⟩,rfl⟩
  .rintro c bq ⟨⟨l,o,rfl⟩,rfl⟩;dsimp only;refine aH (dU (f8 (I:=fun _ c bq=>(∃l u,c=(none,l,u)/\u<=n)/\st=bq) (Q:=fun c bq=>(∃l u,c=(none,l,u)/\u<=n)/\st=bq) ?_ (fun c bq hh=>hh) ⟨⟨_,_,rfl,by lia⟩,rfl⟩) ?_)
   .rintro x c bq _ _ ⟨⟨l,u,rfl,hu⟩,rfl⟩;dsimp only;by_cases Ca:l>=u
    .rw[ap Ca];exact aX ⟨⟨_,_,rfl,hu⟩,rfl⟩
    .rw[aq Ca];refine aH (io hC hk tH pR (by lia) fun more=>?_);cases more
     .exact aX ⟨⟨_,_,rfl,by lia⟩,rfl⟩
     .exact aX ⟨⟨_,_,rfl,hu⟩,rfl⟩
   .rintro c bq ⟨⟨l,u,rfl,hu⟩,rfl⟩;exact aX (h u hu)
 .dsimp only;rw[ap rfl];refine aH (dU (f8 (I:=fun _ c bq=>(∃l o,c=(none,l,o))/\st=bq) (Q:=fun c bq=>(∃l o,c=(none,l,o))/\st=bq) ?_ (fun c bq hh=>hh) ⟨⟨_,_,rfl⟩,rfl⟩) ?_)
  .rintro x c bq _ _ ⟨⟨l,o,rfl⟩,rfl⟩;dsimp only;by_cases Ca:o>=n-lZ
   .rw[ap Ca];exact aX ⟨⟨_,_,rfl⟩,rfl⟩
   .rw[aq Ca];refine aH (io hC hk tH pR (by lia) fun more=>?_);cases more
    .exact aX ⟨⟨_,_,rfl⟩,rfl⟩
    .exact aX ⟨⟨_,_,rfl⟩,rfl⟩
  .rintro c bq ⟨⟨l,o,rfl⟩,rfl⟩;dsimp only;refine aH (dU (f8 (I:=fun _ c bq=>(∃l u,c=(none,l,u)/\u<=n)/\st=bq) (Q:=fun c bq=>(∃l u,c=(none,l,u)/\u<=n)/\st=bq) ?_ (fun c bq hh=>hh) ⟨⟨_,_,rfl,by lia⟩,rfl⟩) ?_)
   .rintro x c bq _ _ ⟨⟨l,u,rfl,hu⟩,rfl⟩;dsimp only;by_cases Ca:l>=u
    .rw[ap Ca];exact aX ⟨⟨_,_,rfl,hu⟩,rfl⟩
    .rw[aq Ca];refine aH (io hC hk tH pR (by lia) fun more=>?_);cases more
     .exact aX ⟨⟨_,_,rfl,by lia⟩,rfl⟩
     .exact aX ⟨⟨_,_,rfl,hu⟩,rfl⟩
   .rintro c bq ⟨⟨l,u,rfl,hu⟩,rfl⟩;exact aX (h u hu)
end
structure SM(κ:SortKind)(ar:Array Keyed)(pd:Array (Nat×Nat×Nat))(st:SortSt):Prop where
 arr:arrOf st=ar
 kind:kindOf st=κ
 failed:failedOf st=none
 pend:pendingOf st=pd
abbrev qk:=Option (Array Keyed)
abbrev uD:=StateT SortSt Sem
def xY{τ:Type}(c:Bool)(d:Prop)[Decidable d](r:Array Keyed)(t:τ):uD (ForInStep (qk×τ)):=if c then pure (.done (some r,t)) else if d then pure (.done (none,t)) else pure (.yield (none,t))
def mgO{α β γ:Type}(N:Nat)(f:Nat->qk×α×β×γ×Nat×Nat->uD (ForInStep (qk×α×β×γ×Nat×Nat)))(g:qk×α×β×γ×Nat×Nat×Nat->uD (ForInStep (qk×α×β×γ×Nat×Nat×Nat)))(s:qk×α×β×γ×Nat):uD (ForInStep (qk×α×β×γ×Nat)):=do
 let t <- forIn [0:N] ((none,s.2.1,s.2.2.1,s.2.2.2.1,0,0):qk×α×β×γ×Nat×Nat) fun _ t=>f s.2.2.2.2 t
 match t.1 with
 |some r=>pure (.done (some r,t.2.1,t.2.2.1,t.2.2.2.1,s.2.2.2.2))
 |none=>do
  liftM (rule "list.sort.gallop")
  let u <- forIn [0:N] ((none,t.2.1,t.2.2.1,t.2.2.2.1,s.2.2.2.2+1,t.2.2.2.2.1,t.2.2.2.2.2):qk×α×β×γ×Nat×Nat×Nat) fun _ u=>g u
  match u.1 with
  |some r=>pure (.done (some r,u.2.1,u.2.2.1,u.2.2.2.1,u.2.2.2.2.1))
  |none=>do
   iU (u.2.2.2.2.1+1)
   pure (.yield (none,u.2.1,u.2.2.1,u.2.2.2.1,u.2.2.2.2.1+1))
def VE{α β γ:Type}(N:Nat)(f:Nat->qk×α×β×γ×Nat×Nat->uD (ForInStep (qk×α×β×γ×Nat×Nat)))(g:qk×α×β×γ×Nat×Nat×Nat->uD (ForInStep (qk×α×β×γ×Nat×Nat×Nat)))(x:α)(y:β)(z:γ):uD (Array Keyed):=do
 let st <- get
 let s <- forIn [0:N] ((none,x,y,z,gallopOf st):qk×α×β×γ×Nat) fun _ s=>mgO N f g s
 match s.1 with
 |some r=>pure r
 |none=>liftM (unsupported "internal:list.sort.merge-bound")
section
variable {prog:Program} {w:World} {A:Around} {E:Value->Shared->Prop} {s:Shared} {κ:SortKind} {a₀:Array Keyed} {pd:Array (Nat×Nat×Nat)} {ar:Array Keyed} {F:Array Keyed->Prop}
def GP{τ:Type}(κ:SortKind)(ar:Array Keyed)(pd:Array (Nat×Nat×Nat))(F:Array Keyed->Prop)(D J:τ->Prop)(r:ForInStep (qk×τ))(st:SortSt):Prop:=SM κ ar pd st/\
 ((∃x t,r=.done (some x,t)/\F x)\/(∃t,r=.done (none,t)/\D t)\/∃t,r=.yield (none,t)/\J t)
theorem fQ{τ:Type}{D J:τ->Prop}{st:SortSt}{x:Array Keyed}{t:τ}(m:SM κ ar pd st)(h:F x):wpS (model prog w) A E s (pure (.done (some x,t))) (GP κ ar pd F D J) st:=aX ⟨m,.inl ⟨_,_,rfl,h⟩⟩
theorem i_{τ:Type}{D J:τ->Prop}{c:Bool}{d:Prop}[Decidable d]{r:Array Keyed}{t:τ}{st:SortSt}(m:SM κ ar pd st)(h1:c=true->F r)(h2:c=false->D t/\J t):wpS (model prog w) A E s (xY c d r t) (GP κ ar pd F D J) st:=by
 unfold xY;cases c
 .rw[aq cF];split
  .exact aX ⟨m,.inr (.inl ⟨_,rfl,(h2 rfl).1⟩)⟩
  .exact aX ⟨m,.inr (.inr ⟨_,rfl,(h2 rfl).2⟩)⟩
 .rw[ap rfl];exact fQ m (h1 rfl)
theorem oY{τ:Type}{D:τ->Prop}{J:Nat->τ->Prop}{N:Nat}{f:qk×τ->uD (ForInStep (qk×τ))}{t:τ}{st:SortSt}{Q:qk×τ->SortSt->Prop}(m:SM κ ar pd st)(hJ:J 0 t)(up:∀t,J N t->D t)(b:∀t st,SM κ ar pd st->∀i,J i t->wpS (model prog w) A E s (f (none,t)) (GP κ ar pd F D (J (i+1))) st)(h1:∀x t bq,SM κ ar pd bq->F x->Q (some x,t) bq)(h2:∀t bq,SM κ ar pd bq->D t->Q (none,t) bq):wpS (model prog w) A E s (forIn [0:N] ((none,t):qk×τ) fun _ c=>f c) Q st:=by
 refine f8 (I:=fun i c bq=>c.1=none/\SM κ ar pd bq/\J i c.2) ?_ ?_ ⟨rfl,m,hJ⟩
 .rintro i ⟨_,t⟩ bq _ _ ⟨rfl,m',j⟩;refine dU (b t bq m' i j) ?_;rintro r tG ⟨m2,⟨x,t,rfl,h⟩|⟨t,rfl,h⟩|⟨t,rfl,h⟩⟩
  .exact h1 _ _ _ m2 h
  .exact h2 _ _ m2 h
  .exact⟨rfl,m2,h⟩
 .rintro⟨_,t⟩ bq ⟨rfl,m',j⟩;rw[Nat.max_eq_right (cM _)] at j;exact h2 _ _ m' (up _ j)
theorem Cb{α β γ:Type}{N:Nat}{f:Nat->qk×α×β×γ×Nat×Nat->uD (ForInStep (qk×α×β×γ×Nat×Nat))}{g:qk×α×β×γ×Nat×Nat×Nat->uD (ForInStep (qk×α×β×γ×Nat×Nat×Nat))}{x:α}{y:β}{z:γ}{J:Nat->α->β->γ->Prop}{st:SortSt}{Q:Array Keyed->SortSt->Prop}(m:SM κ ar pd st)(h0:J 0 x y z)(dn:∀i k x y z,J (i+k) x y z->J i x y z)(no:∀x y z,¬ J N x y z)(N1:1<=N)(hf:∀mg n k x y z p st,SM κ ar pd st->J (n+k) x y z->wpS (model prog w) A E s (f mg (none,x,y,z,p)) (GP κ ar pd F (fun t=>J (n+1) t.1 t.2.1 t.2.2.1) fun t=>J (n+(k+1)) t.1 t.2.1 t.2.2.1) st)(hg:∀n x y z p st,SM κ ar pd st->J n x y z->wpS (model prog w) A E s (g (none,x,y,z,p)) (GP κ ar pd F (fun t=>J n t.1 t.2.1 t.2.2.1) fun t=>J n t.1 t.2.1 t.2.2.1) st)(h:∀x bq,F x->SM κ ar pd bq->Q x bq):wpS (model prog w) A E s (VE N f g x y z) Q st:=by
 unfold VE;refine aH (ie ?_);refine aH (oY (F:=F) (D:=fun _=>False) (J:=fun n (t:α×β×γ×Nat)=>J n t.1 t.2.1 t.2.2.1) m h0 (fun t h=>no _ _ _ h) ?_ (fun x t st m hx=>aX (h _ _ hx m)) fun t st m j=>j.elim);intro t st m i j;unfold mgO;refine aH (oY (F:=F) (D:=fun t=>J (i+1) t.1 t.2.1 t.2.2.1) (J:=fun n (t:α×β×γ×Nat×Nat)=>J (i+n) t.1 t.2.1 t.2.2.1) m j (fun t h=>dn _ (N-1) _ _ _ (by rw[show i+1+(N-1)=i+N by lia];exact h)) (fun t st m n j=>hf _ _ _ _ _ _ _ _ m j) (fun x t st m hx=>fQ m hx) ?_);intro t st m j;refine aH (lQ (gN ⟨rfl,?_⟩));refine aH (oY (F:=F) (D:=fun t=>J (i+1) t.1 t.2.1 t.2.2.1) (J:=fun n (t:α×β×γ×Nat×Nat×Nat)=>J (i+1) t.1 t.2.1 t.2.2.1) m j (fun _ h=>h) (fun t st m n j=>hg _ _ _ _ _ _ m j) (fun x t st m hx=>fQ m hx) ?_);intro t st m j;refine aH (gO ?_);exact aX ⟨⟨m.arr,m.kind,m.failed,m.pend⟩,.inr (.inr ⟨_,rfl,j⟩)⟩
end
abbrev kF(a b out:Array Keyed)(ia ib:Nat):=out++a.extract ia a.size++b.extract ib b.size
abbrev v6(a b out:Array Keyed)(ia ib:Nat):=out++b.extract ib b.size++a.extract ia a.size
abbrev Mv ρ:=qk×Array Keyed×Nat×Nat×ρ
def loW(a b:Array Keyed)(mg:Nat)(t:Mv (Nat×Nat)):uD (ForInStep (Mv (Nat×Nat))):=do
 let x <- elem' b t.2.2.2.1
 let y <- elem' a t.2.2.1
 let some w <- lt' x y|pure (.done (some (kF a b t.2.1 t.2.2.1 t.2.2.2.1),t.2.1,t.2.2.1,t.2.2.2.1,t.2.2.2.2.1,t.2.2.2.2.2))
 if w then do
  let x <- elem' b t.2.2.2.1
  xY (t.2.2.2.1+1==b.size) (t.2.2.2.2.2+1>=mg) (kF a b (t.2.1.push x) t.2.2.1 (t.2.2.2.1+1)) (t.2.1.push x,t.2.2.1,t.2.2.2.1+1,0,t.2.2.2.2.2+1)
 else do
  let x <- elem' a t.2.2.1
  xY (t.2.2.1+1+1==a.size) (t.2.2.2.2.1+1>=mg) (v6 a b (t.2.1.push x) (t.2.2.1+1) t.2.2.2.1) (t.2.1.push x,t.2.2.1+1,t.2.2.2.1,t.2.2.2.2.1+1,0)
def XB(a b out:Array Keyed)(ia ib mg ac bc:Nat):uD (ForInStep (Mv (Nat×Nat×Nat))):=do
 let x <- elem' a ia
 xY (ia+1+1==a.size) ((ac<7&&bc<7)=true) (v6 a b (out.push x) (ia+1) ib) (out.push x,ia+1,ib,mg,ac,bc)
def XC(a b out:Array Keyed)(ia ib mg ac bc:Nat):uD (ForInStep (Mv (Nat×Nat×Nat))):=do
 let x <- elem' b ib
 if ib+1==b.size then pure (.done (some (kF a b (out.push x) ia (ib+1)),out.push x,ia,ib+1,mg,ac,bc))
 else do
  let y <- elem' a ia
  let some k <- iK true y b (ib+1) (b.size-(ib+1)) 0|pure (.done (some (kF a b (out.push x) ia (ib+1)),out.push x,ia,ib+1,mg,ac,bc))
  if k > 0 then
   if ib+1+k==b.size then pure (.done (some (kF a b (out.push x++b.extract (ib+1) (ib+1+k)) ia (ib+1+k)),out.push x++b.extract (ib+1) (ib+1+k),ia,ib+1+k,mg,ac,k))
   else XB a b (out.push x++b.extract (ib+1) (ib+1+k)) ia (ib+1+k) mg ac k
  else XB a b (out.push x) ia (ib+1) mg ac k
def XD(a b out:Array Keyed)(ia ib mg ac bc:Nat):uD (ForInStep (Mv (Nat×Nat×Nat))):=do
 iU mg
 let y <- elem' b ib
 let some k <- iK false y a ia (a.size-ia) 0|pure (.done (some (kF a b out ia ib),out,ia,ib,mg,ac,bc))
 if k > 0 then
  if ia+k+1==a.size then pure (.done (some (v6 a b (out++a.extract ia (ia+k)) (ia+k) ib),out++a.extract ia (ia+k),ia+k,ib,mg,k,bc))
  else if ia+k==a.size then pure (.done (some (kF a b (out++a.extract ia (ia+k)) (ia+k) ib),out++a.extract ia (ia+k),ia+k,ib,mg,k,bc))
  else XC a b (out++a.extract ia (ia+k)) (ia+k) ib mg k bc
 else XC a b out ia ib mg k bc
def loG(a b:Array Keyed)(t:Mv (Nat×Nat×Nat)):uD (ForInStep (Mv (Nat×Nat×Nat))):=
 if t.2.2.2.2.1 > 1 then XD a b t.2.1 t.2.2.1 t.2.2.2.1 (t.2.2.2.2.1-1) t.2.2.2.2.2.1 t.2.2.2.2.2.2 else XD a b t.2.1 t.2.2.1 t.2.2.2.1 t.2.2.2.2.1 t.2.2.2.2.2.1 t.2.2.2.2.2.2
theorem xZ(a b:Array Keyed):rT a b=(do
 liftM (rule "list.sort.merge-lo")
 let x <- elem' b 0
 if 1==b.size then pure (kF a b #[x] 0 1) else if 0+1==a.size then pure (v6 a b #[x] 0 1) else VE (a.size+b.size) (loW a b) (loG a b) #[x] 0 1):=by kernel_rfl
def PI(a b out:Array Keyed)(ia ib:Nat):Prop:=out.toList.Perm (a.toList.take ia++b.toList.take ib)
theorem ip{l:List Keyed}{i:Nat}(h:i<l.length):l.take (i+1)=l.take i++[l[i]]:=by rw[fW,bB h];rfl
theorem PI.uE{a b out:Array Keyed}{ia ib:Nat}(h:PI a b out ia ib)(hi:ia<a.size):PI a b (out.push a[ia]) (ia+1) ib:=by
 unfold PI at h |-;rw[n8,ip (by simpa using hi),dw];refine(h.append_right _).trans ?_;rw[dw];refine lj _ ?_;have:a.toList[ia]'(by simpa using hi)=a[ia]:=by simp
 rw[this];exact iY
theorem PI.uF{a b out:Array Keyed}{ia ib:Nat}(h:PI a b out ia ib)(hi:ib<b.size):PI a b (out.push b[ib]) ia (ib+1):=by
 unfold PI at h |-;rw[n8,ip (by simpa using hi),<-dw];have:b.toList[ib]'(by simpa using hi)=b[ib]:=by simp
 rw[this];exact h.append_right _
theorem eH{a:Array Keyed}{i j:Nat}:(a.extract i j).toList=(a.toList.drop i).take (j-i):=by
 rw[zn,List.extract_eq_take_drop]
theorem PI.DA{a b out:Array Keyed}{ia ib:Nat}(h:PI a b out ia ib)(k:Nat):PI a b (out++a.extract ia (ia+k)) (ia+k) ib:=by
 unfold PI at h |-;rw[fq,eH,Nat.add_sub_cancel_left,List.take_add,dw];refine(h.append_right _).trans ?_;rw[dw];exact lj _ iY
theorem PI.DB{a b out:Array Keyed}{ia ib:Nat}(h:PI a b out ia ib)(k:Nat):PI a b (out++b.extract ib (ib+k)) ia (ib+k):=by
 unfold PI at h |-;rw[fq,eH,Nat.add_sub_cancel_left,List.take_add,<-dw];exact h.append_right _
theorem PI.done{a b out:Array Keyed}{ia ib:Nat}(h:PI a b out ia ib):(out++a.extract ia a.size++b.extract ib b.size).Perm (a++b):=by
 rw[mx];unfold PI at h;rw[fq,fq,fq,eH,eH];have e1:(a.toList.drop ia).take (a.size-ia)=a.toList.drop ia:=qP (by simp);have e2:(b.toList.drop ib).take (b.size-ib)=b.toList.drop ib:=qP (by simp);rw[e1,e2];refine((h.append_right _).append_right _).trans ?_;conv=>rhs;rw[<-pK ia a.toList,<-pK ib b.toList]
 rw[dw,dw,dw];refine lj _ ?_;rw[<-dw,<-dw];exact zh _ iY
theorem PI.last{a b out:Array Keyed}{ia ib:Nat}(h:PI a b out ia ib):(out++b.extract ib b.size++a.extract ia a.size).Perm (a++b):=by
 refine Array.Perm.trans ?_ h.done;rw[mx];rw[fq,fq,fq,fq,dw,dw];exact lj _ iY
section
variable {prog:Program} {w:World} {A:Around} {E:Value->Shared->Prop} {s:Shared} {κ:SortKind} {a₀:Array Keyed} {pd:Array (Nat×Nat×Nat)} {ar:Array Keyed} {a b out:Array Keyed} {ia ib mg ac bc n:Nat} {st:SortSt}
def JL(a b:Array Keyed)(n:Nat)(out:Array Keyed)(ia ib:Nat):Prop:=PI a b out ia ib/\ia+1<a.size/\ib<b.size/\n<=ia+ib
abbrev GL{ρ:Type}(κ:SortKind)(ar:Array Keyed)(pd:Array (Nat×Nat×Nat))(a b:Array Keyed)(n m:Nat):ForInStep (Mv ρ)->SortSt->Prop:=GP κ ar pd (fun x=>x.Perm (a++b)) (fun t=>JL a b n t.1 t.2.1 t.2.2.1) fun t=>JL a b m t.1 t.2.1 t.2.2.1
theorem Cd(hB:SM κ ar pd st)(h:JL a b n out ia ib):wpS (model prog w) A E s (XB a b out ia ib mg ac bc) (GL κ ar pd a b n n) st:=by
 obtain⟨p,la,lb,li⟩:=h;refine aH (bF (dI a ia (by lia)) ?_);have p:=p.uE (show ia<a.size by lia);refine i_ hB (fun _=>p.last) fun f=>?_;have g:=oa f;have j:JL a b n (out.push a[ia]) (ia+1) ib:=⟨p,by lia,lb,by lia⟩
 exact⟨j,j⟩
theorem Ce(hC:xX prog w A s κ a₀)(ha:∀x∈a.toList,x∈a₀.toList)(hb:∀x∈b.toList,x∈a₀.toList)(hB:SM κ ar pd st)(h:JL a b n out ia ib):wpS (model prog w) A E s (XC a b out ia ib mg ac bc) (GL κ ar pd a b n n) st:=by
 obtain⟨p,la,lb,li⟩:=h;refine aH (bF (dI b ib lb) ?_);have p:=p.uF lb;split
 .exact fQ hB p.done
 next f=>
 have g:ib+1≠b.size:=by simpa using f
 refine aH (bF (dI a ia (by lia)) ?_);refine aH (gn hC hB.kind (ha _ (by simp)) hb (by lia) (by lia) fun k hk=>?_);dsimp only;split
 .split
  .exact fQ hB (p.DB k).done
  next f=>
  have g:ib+1+k≠b.size:=by simpa using f
  exact Cd hB ⟨p.DB k,la,by lia,by lia⟩
 .exact Cd hB ⟨p,la,by lia,by lia⟩
theorem JW(hC:xX prog w A s κ a₀)(ha:∀x∈a.toList,x∈a₀.toList)(hb:∀x∈b.toList,x∈a₀.toList)(hB:SM κ ar pd st)(h:JL a b n out ia ib):wpS (model prog w) A E s (XD a b out ia ib mg ac bc) (GL κ ar pd a b n n) st:=by
 obtain⟨p,la,lb,li⟩:=h;refine aH (gO ?_);refine aH (bF (dI b ib lb) ?_);have tR:SM κ ar pd (SortSt.mk' (kindOf st) (arrOf st) (pendingOf st) mg (failedOf st)):=⟨hB.arr,hB.kind,hB.failed,hB.pend⟩
 refine aH (gn hC tR.kind (hb _ (by simp)) ha (by lia) (by lia) fun k hk=>?_);dsimp only;split
 .split
  .exact fQ tR (p.DA k).last
  next f=>
  split
  .exact fQ tR (p.DA k).done
  next f'=>
  have g:ia+k+1≠a.size:=by simpa using f
  have g':ia+k≠a.size:=by simpa using f'
  exact Ce hC ha hb tR ⟨p.DA k,by lia,lb,by lia⟩
 .exact Ce hC ha hb tR ⟨p,la,lb,li⟩
theorem JX{k:Nat}(hC:xX prog w A s κ a₀)(ha:∀x∈a.toList,x∈a₀.toList)(hb:∀x∈b.toList,x∈a₀.toList)(hB:SM κ ar pd st)(h:JL a b (n+k) out ia ib){q:Nat×Nat}:wpS (model prog w) A E s (loW a b mg (none,out,ia,ib,q)) (GL κ ar pd a b (n+1) (n+(k+1))) st:=by
 obtain⟨p,la,lb,li⟩:=h;refine aH (bF (dI b ib lb) (aH (bF (dI a ia (by lia)) (aH (rW hC hB.kind (hb _ (by simp)) (ha _ (by simp)) fun w=>?_)))));cases w
 .refine aH (bF (dI a ia (by lia)) ?_);have p:=p.uE (show ia<a.size by lia);refine i_ hB (fun _=>p.last) fun f=>?_;have g:=oa f;exact⟨⟨p,by dsimp only;lia,lb,by dsimp only;lia⟩,p,by dsimp only;lia,lb,by dsimp only;lia⟩
 .refine aH (bF (dI b ib lb) ?_);have p:=p.uF lb;refine i_ hB (fun _=>p.done) fun f=>?_;have g:=oa f;exact⟨⟨p,la,by dsimp only at g |-;lia,by dsimp only;lia⟩,p,la,by dsimp only at g |-;lia,by dsimp only;lia⟩
theorem x_{Q:Array Keyed->SortSt->Prop}(hC:xX prog w A s κ a₀)(hB:SM κ ar pd st)(ha:∀x∈a.toList,x∈a₀.toList)(hb:∀x∈b.toList,x∈a₀.toList)(a1:1<=a.size)(b1:1<=b.size)(h:∀out bq,out.Perm (a++b)->SM κ ar pd bq->Q out bq):wpS (model prog w) A E s (rT a b) Q st:=by
 rw[xZ];refine aH (lQ (gN ⟨rfl,?_⟩));refine aH (bF (dI b 0 (by lia)) ?_);have p0:PI a b #[b[0]] 0 1:=by
  have:PI a b #[] 0 0:=by unfold PI;simp
  exact this.uF (by lia)
 split
 .exact aX (h _ _ p0.done hB)
 next f=>
 split
 .exact aX (h _ _ p0.last hB)
 next f'=>
 have g:1≠b.size:=by simpa using f
 have g':0+1≠a.size:=by simpa using f'
 refine Cb (J:=JL a b) hB ⟨p0,by lia,by lia,by lia⟩ (fun i k x y z h=>⟨h.1,h.2.1,h.2.2.1,by have:=h.2.2.2;lia⟩) (fun x y z h=>by have:=h.2;lia) (by lia) (fun mg n k x y z p st m j=>JX hC ha hb m j) (fun n x y z p st m j=>?_) h;unfold loG;split <;> exact JW hC ha hb m j
end
abbrev kG(a b out:Array Keyed)(na nb:Nat):=a.extract 0 na++b.extract 0 nb++out.reverse
abbrev qE(a b out:Array Keyed)(na nb:Nat):=b.extract 0 nb++a.extract 0 na++out.reverse
abbrev Mw ρ:=qk×Nat×Nat×Array Keyed×ρ
def hiW(a b:Array Keyed)(mg:Nat)(t:Mw (Nat×Nat)):uD (ForInStep (Mw (Nat×Nat))):=do
 let x <- elem' b (t.2.2.1-1)
 let y <- elem' a (t.2.1-1)
 let some w <- lt' x y|pure (.done (some (kG a b t.2.2.2.1 t.2.1 t.2.2.1),t.2.1,t.2.2.1,t.2.2.2.1,t.2.2.2.2.1,t.2.2.2.2.2))
 if w then do
  let x <- elem' a (t.2.1-1)
  xY (t.2.1-1==0) (t.2.2.2.2.1+1>=mg) (kG a b (t.2.2.2.1.push x) (t.2.1-1) t.2.2.1) (t.2.1-1,t.2.2.1,t.2.2.2.1.push x,t.2.2.2.2.1+1,0)
 else do
  let x <- elem' b (t.2.2.1-1)
  xY (t.2.2.1-1==1) (t.2.2.2.2.2+1>=mg) (qE a b (t.2.2.2.1.push x) t.2.1 (t.2.2.1-1)) (t.2.1,t.2.2.1-1,t.2.2.2.1.push x,0,t.2.2.2.2.2+1)
def XE(a b:Array Keyed)(na nb:Nat)(out:Array Keyed)(mg ac bc:Nat):uD (ForInStep (Mw (Nat×Nat×Nat))):=do
 let x <- elem' a (na-1)
 xY (na-1==0) ((ac<7&&bc<7)=true) (kG a b (out.push x) (na-1) nb) (na-1,nb,out.push x,mg,ac,bc)
def XF(a b:Array Keyed)(na nb:Nat)(out:Array Keyed)(mg ac bc:Nat):uD (ForInStep (Mw (Nat×Nat×Nat))):=do
 let x <- elem' b (nb-1)
 if nb-1==1 then pure (.done (some (qE a b (out.push x) na (nb-1)),na,nb-1,out.push x,mg,ac,bc))
 else do
  let y <- elem' a (na-1)
  let some k <- iK true y b 0 (nb-1) (nb-1-1)|pure (.done (some (kG a b (out.push x) na (nb-1)),na,nb-1,out.push x,mg,ac,bc))
  if nb-1-k > 0 then
   if k==1 then pure (.done (some (qE a b (out.push x++(b.extract k (nb-1)).reverse) na k),na,k,out.push x++(b.extract k (nb-1)).reverse,mg,ac,nb-1-k))
   else if k==0 then pure (.done (some (kG a b (out.push x++(b.extract k (nb-1)).reverse) na k),na,k,out.push x++(b.extract k (nb-1)).reverse,mg,ac,nb-1-k))
   else XE a b na k (out.push x++(b.extract k (nb-1)).reverse) mg ac (nb-1-k)
  else XE a b na (nb-1) (out.push x) mg ac (nb-1-k)
def XG(a b:Array Keyed)(na nb:Nat)(out:Array Keyed)(mg ac bc:Nat):uD (ForInStep (Mw (Nat×Nat×Nat))):=do
 iU mg
 let y <- elem' b (nb-1)
 let some k <- iK false y a 0 na (na-1)|pure (.done (some (kG a b out na nb),na,nb,out,mg,ac,bc))
 if na-k > 0 then
  if k==0 then pure (.done (some (kG a b (out++(a.extract k na).reverse) k nb),k,nb,out++(a.extract k na).reverse,mg,na-k,bc))
  else XF a b k nb (out++(a.extract k na).reverse) mg (na-k) bc
 else XF a b na nb out mg (na-k) bc
def hiG(a b:Array Keyed)(t:Mw (Nat×Nat×Nat)):uD (ForInStep (Mw (Nat×Nat×Nat))):=
 if t.2.2.2.2.1 > 1 then XG a b t.2.1 t.2.2.1 t.2.2.2.1 (t.2.2.2.2.1-1) t.2.2.2.2.2.1 t.2.2.2.2.2.2 else XG a b t.2.1 t.2.2.1 t.2.2.2.1 t.2.2.2.2.1 t.2.2.2.2.2.1 t.2.2.2.2.2.2
theorem ya(a b:Array Keyed):rV a b=(do
 liftM (rule "list.sort.merge-hi")
 let x <- elem' a (a.size-1)
 if a.size-1==0 then pure (kG a b #[x] (a.size-1) b.size) else if b.size==1 then pure (qE a b #[x] (a.size-1) b.size) else VE (a.size+b.size) (hiW a b) (hiG a b) (a.size-1) b.size #[x]):=by kernel_rfl
def PH(a b out:Array Keyed)(na nb:Nat):Prop:=out.toList.Perm (a.toList.drop na++b.toList.drop nb)
theorem PH.uE{a b out:Array Keyed}{na nb:Nat}(h:PH a b out na nb)(h1:1<=na)(hi:na-1<a.size):PH a b (out.push a[na-1]) (na-1) nb:=by
 unfold PH at h |-;have e:a.toList.drop (na-1)=a[na-1]::a.toList.drop na:=by
  have:=nQ (l:=a.toList) (i:=na-1) (by simpa using hi);rw[this,Nat.sub_add_cancel h1];simp
 rw[n8,e];refine(h.append_right _).trans ?_;exact iY
theorem PH.uF{a b out:Array Keyed}{na nb:Nat}(h:PH a b out na nb)(h1:1<=nb)(hi:nb-1<b.size):PH a b (out.push b[nb-1]) na (nb-1):=by
 unfold PH at h |-;have e:b.toList.drop (nb-1)=b[nb-1]::b.toList.drop nb:=by
  have:=nQ (l:=b.toList) (i:=nb-1) (by simpa using hi);rw[this,Nat.sub_add_cancel h1];simp
 rw[n8,e];refine(h.append_right _).trans ?_;rw[dw];exact lj _ iY
theorem mY{l:List Keyed}{i j:Nat}(h:i<=j):l.drop i=(l.drop i).take (j-i)++l.drop j:=by
 have:=(pK (j-i) (l.drop i)).symm;rw[List.drop_drop,show i+(j-i)=j by lia] at this;exact this
theorem PH.DA{a b out:Array Keyed}{na nb:Nat}(h:PH a b out na nb){k:Nat}(hk:k<=na):PH a b (out++(a.extract k na).reverse) k nb:=by
 unfold PH at h |-;rw[fq,zm,eH];conv=>rhs;rw[mY hk]
 refine((h.append_left _).trans ?_ |> fun z=>(List.Perm.trans iY ((zJ _).append_right _)).trans z);rw[dw]
theorem PH.DB{a b out:Array Keyed}{na nb:Nat}(h:PH a b out na nb){k:Nat}(hk:k<=nb):PH a b (out++(b.extract k nb).reverse) na k:=by
 unfold PH at h |-;rw[fq,zm,eH];conv=>rhs;rw[mY hk]
 refine(h.append_right _).trans ?_;rw[dw];refine lj _ ?_;exact iY.trans ((zJ _).append_right _)
theorem Sy{a:Array Keyed}{j:Nat}:(a.extract 0 j).toList=a.toList.take j:=by rw[eH,zW,Nat.sub_zero]
theorem PH.done{a b out:Array Keyed}{na nb:Nat}(h:PH a b out na nb):(a.extract 0 na++b.extract 0 nb++out.reverse).Perm (a++b):=by
 rw[mx];unfold PH at h;rw[fq,fq,fq,zm,Sy,Sy];conv=>rhs;rw[<-pK na a.toList,<-pK nb b.toList]
 refine(lj _ ((zJ _).trans h)).trans ?_;rw[dw,dw];refine lj _ ?_;rw[<-dw,<-dw];exact zh _ iY
theorem PH.first{a b out:Array Keyed}{na nb:Nat}(h:PH a b out na nb):(b.extract 0 nb++a.extract 0 na++out.reverse).Perm (a++b):=by
 refine Array.Perm.trans ?_ h.done;rw[mx];rw[fq,fq,fq,fq];exact zh _ iY
section
variable {prog:Program} {w:World} {A:Around} {E:Value->Shared->Prop} {s:Shared} {κ:SortKind} {a₀:Array Keyed} {pd:Array (Nat×Nat×Nat)} {ar:Array Keyed} {a b out:Array Keyed} {na nb mg ac bc n:Nat} {st:SortSt}
def JH(a b:Array Keyed)(n na nb:Nat)(out:Array Keyed):Prop:=PH a b out na nb/\1<=na/\2<=nb/\na<=a.size/\nb<=b.size/\n+na+nb<=a.size+b.size
abbrev GH{ρ:Type}(κ:SortKind)(ar:Array Keyed)(pd:Array (Nat×Nat×Nat))(a b:Array Keyed)(n m:Nat):ForInStep (Mw ρ)->SortSt->Prop:=GP κ ar pd (fun x=>x.Perm (a++b)) (fun t=>JH a b n t.1 t.2.1 t.2.2.1) fun t=>JH a b m t.1 t.2.1 t.2.2.1
theorem Cf(hB:SM κ ar pd st)(p:PH a b out na nb)(la:1<=na)(lb:2<=nb)(ma:na<=a.size)(mb:nb<=b.size)(li:n+na+nb<=a.size+b.size+1):wpS (model prog w) A E s (XE a b na nb out mg ac bc) (GH κ ar pd a b n n) st:=by
 refine aH (bF (dI a (na-1) (by lia)) ?_);have p:=p.uE la (show na-1<a.size by lia);refine i_ hB (fun _=>p.done) fun f=>?_;have g:=oa f;have j:JH a b n (na-1) nb (out.push a[na-1]):=⟨p,by lia,lb,by lia,mb,by lia⟩
 exact⟨j,j⟩
theorem Cg(hC:xX prog w A s κ a₀)(ha:∀x∈a.toList,x∈a₀.toList)(hb:∀x∈b.toList,x∈a₀.toList)(hB:SM κ ar pd st)(h:JH a b n na nb out):wpS (model prog w) A E s (XF a b na nb out mg ac bc) (GH κ ar pd a b n n) st:=by
 obtain⟨p,la,lb,ma,mb,li⟩:=h;refine aH (bF (dI b (nb-1) (by lia)) ?_);have p:=p.uF (show 1<=nb by lia) (show nb-1<b.size by lia);split
 .exact fQ hB p.first
 next f=>
 have g:nb-1≠1:=by simpa using f
 refine aH (bF (dI a (na-1) (by lia)) ?_);refine aH (gn hC hB.kind (ha _ (by simp)) hb (by lia) (by lia) fun k hk=>?_);dsimp only;split
 .split
  .exact fQ hB (p.DB hk).first
  next f=>
  split
  .exact fQ hB (p.DB hk).done
  next f'=>
  have g:k≠1:=by simpa using f
  have g':k≠0:=by simpa using f'
  exact Cf hB (p.DB hk) la (by lia) ma (by lia) (by lia)
 .exact Cf hB p la (by lia) ma (by lia) (by lia)
theorem JY(hC:xX prog w A s κ a₀)(ha:∀x∈a.toList,x∈a₀.toList)(hb:∀x∈b.toList,x∈a₀.toList)(hB:SM κ ar pd st)(h:JH a b n na nb out):wpS (model prog w) A E s (XG a b na nb out mg ac bc) (GH κ ar pd a b n n) st:=by
 obtain⟨p,la,lb,ma,mb,li⟩:=h;refine aH (gO ?_);refine aH (bF (dI b (nb-1) (by lia)) ?_);have tR:SM κ ar pd (SortSt.mk' (kindOf st) (arrOf st) (pendingOf st) mg (failedOf st)):=⟨hB.arr,hB.kind,hB.failed,hB.pend⟩
 refine aH (gn hC tR.kind (hb _ (by simp)) ha (by lia) (by lia) fun k hk=>?_);dsimp only;split
 .split
  .exact fQ tR (p.DA hk).done
  next f=>
  have g:k≠0:=by simpa using f
  exact Cg hC ha hb tR ⟨p.DA hk,by lia,lb,by lia,mb,by lia⟩
 .exact Cg hC ha hb tR ⟨p,la,lb,ma,mb,li⟩
theorem JZ{k:Nat}(hC:xX prog w A s κ a₀)(ha:∀x∈a.toList,x∈a₀.toList)(hb:∀x∈b.toList,x∈a₀.toList)(hB:SM κ ar pd st)(h:JH a b (n+k) na nb out){q:Nat×Nat}:wpS (model prog w) A E s (hiW a b mg (none,na,nb,out,q)) (GH κ ar pd a b (n+1) (n+(k+1))) st:=by
 obtain⟨p,la,lb,ma,mb,li⟩:=h;refine aH (bF (dI b (nb-1) (by lia)) (aH (bF (dI a (na-1) (by lia)) (aH (rW hC hB.kind (hb _ (by simp)) (ha _ (by simp)) fun w=>?_)))));cases w
 .refine aH (bF (dI b (nb-1) (by lia)) ?_);have p:=p.uF (show 1<=nb by lia) (show nb-1<b.size by lia);refine i_ hB (fun _=>p.first) fun f=>?_;have g:nb-1≠1:=oa f;have j:JH a b (n+(k+1)) na (nb-1) (out.push b[nb-1]):=⟨p,la,by lia,ma,by lia,by lia⟩
  exact⟨⟨p,la,j.2.2.1,ma,j.2.2.2.2.1,by have:=j.2.2.2.2.2;dsimp only;lia⟩,j⟩
 .refine aH (bF (dI a (na-1) (by lia)) ?_);have p:=p.uE la (show na-1<a.size by lia);refine i_ hB (fun _=>p.done) fun f=>?_;have g:na-1≠0:=oa f;have j:JH a b (n+(k+1)) (na-1) nb (out.push a[na-1]):=⟨p,by lia,lb,by lia,mb,by lia⟩
  exact⟨⟨p,j.2.1,lb,j.2.2.2.1,mb,by have:=j.2.2.2.2.2;dsimp only;lia⟩,j⟩
theorem yb{Q:Array Keyed->SortSt->Prop}(hC:xX prog w A s κ a₀)(hB:SM κ ar pd st)(ha:∀x∈a.toList,x∈a₀.toList)(hb:∀x∈b.toList,x∈a₀.toList)(a1:1<=a.size)(b1:1<=b.size)(h:∀out bq,out.Perm (a++b)->SM κ ar pd bq->Q out bq):wpS (model prog w) A E s (rV a b) Q st:=by
 rw[ya];refine aH (lQ (gN ⟨rfl,?_⟩));refine aH (bF (dI a (a.size-1) (by lia)) ?_);have p0:PH a b #[a[a.size-1]] (a.size-1) b.size:=by
  have:PH a b #[] a.size b.size:=by unfold PH;simp
  exact this.uE a1 (by lia)
 split
 .exact aX (h _ _ p0.done hB)
 next f=>
 split
 .exact aX (h _ _ p0.first hB)
 next f'=>
 have g:a.size-1≠0:=by simpa using f
 have g':b.size≠1:=by simpa using f'
 refine Cb (J:=JH a b) hB ⟨p0,by lia,by lia,by lia,by lia,by lia⟩ (fun i k x y z h=>⟨h.1,h.2.1,h.2.2.1,h.2.2.2.1,h.2.2.2.2.1,by have:=h.2.2.2.2.2;lia⟩) (fun x y z h=>by have:=h.2;lia) (by lia) (fun mg n k x y z p st m j=>JZ hC ha hb m j) (fun n x y z p st m j=>?_) h;unfold hiG;split <;> exact JY hC ha hb m j
end
section
variable {prog:Program} {w:World} {A:Around} {E:Value->Shared->Prop} {s:Shared} {κ:SortKind} {a₀:Array Keyed} {pd:Array (Nat×Nat×Nat)}
theorem DC{st:SortSt}{lo oZ:Nat}{Q:Option Nat->SortSt->Prop}(hC:xX prog w A s κ a₀)(hn:lo+oZ<=a₀.size)(h1:1<=oZ)(hB:SQ κ a₀ pd st)(h:∀n bq,SQ κ a₀ pd bq->1<=n->n<=oZ->Q (some n) bq):wpS (model prog w) A E s (countRun' lo oZ) Q st:=by
 rw[countRun'_eq];refine aH (dU (f8 (I:=fun i c bq=>SQ κ a₀ pd bq/\∃m,c=(none,m)/\m=i) (Q:=fun c bq=>SQ κ a₀ pd bq/\∃m,c=(none,m)/\1<=m/\m<=oZ) ?_ ?_ ⟨hB,_,rfl,rfl⟩) ?_)
 .rintro i c Qx Qy EF ⟨Gf,m,rfl,rfl⟩;dsimp only;refine aH (fP hC Gf (by lia) (by lia) fun b1=>?_);cases b1
  .exact aX ⟨Gf,_,rfl,rfl⟩
  .exact aX ⟨Gf,_,rfl,by lia,by lia⟩
 .rintro c Qx ⟨Gf,m,rfl,rfl⟩;exact⟨Gf,_,rfl,by lia,by lia⟩
 .rintro c Qx ⟨Gf,n,rfl,n1,n2⟩;dsimp only;by_cases e1:(n==oZ)=true
  .rw[ap e1];exact aX (h n Qx Gf n1 n2)
  rw[aq e1];have g1:¬ (n=oZ):=by simpa using e1
  by_cases e2:n > 1
  .rw[ap e2];refine aH (fP hC Gf (by lia) (by lia) fun b2=>?_);cases b2
   .dsimp only;rw[aq (by decide)];refine aH (hV Gf fun tG tR=>?_);refine aH (lQ (gN ⟨rfl,?_⟩));refine aH (dU (f8 (I:=fun i c bq=>SQ κ a₀ pd bq/\∃m q,c=(none,m,q)/\m=i) (Q:=fun c bq=>SQ κ a₀ pd bq/\∃m q,c=(none,m,q)/\1<=m/\m<=oZ) ?_ ?_ ⟨tR,_,_,rfl,rfl⟩) ?_)
    .rintro i c Ab Qy EF ⟨qj,m,q,rfl,rfl⟩;dsimp only;refine aH (fP hC qj (by lia) (by lia) fun b3=>?_);cases b3
     .dsimp only;rw[aq (by decide)];refine aH (fP hC qj (by lia) (by lia) fun b4=>?_);cases b4
      .exact aX ⟨qj,_,_,rfl,rfl⟩
      .exact aX ⟨qj,_,_,rfl,by lia,by lia⟩
     .dsimp only;rw[ap rfl];split
      .exact aH (hV qj fun tu Oc=>aX ⟨Oc,_,_,rfl,rfl⟩)
      .exact aX ⟨qj,_,_,rfl,rfl⟩
    .rintro c Ab ⟨qj,m,q,rfl,rfl⟩;exact⟨qj,_,_,rfl,by lia,by lia⟩
    .rintro c Ab ⟨qj,m,q,rfl,m1,m2⟩;dsimp only;split
     .refine aH (hV qj fun tu Oc=>?_);refine aH (hV Oc fun xc Od=>?_);refine aH (dU (f8 (I:=fun i c bq=>SQ κ a₀ pd bq/\∃m,c=(none,m)/\m=i) (Q:=fun c bq=>SQ κ a₀ pd bq/\∃m,c=(none,m)/\1<=m/\m<=oZ) ?_ ?_ ⟨Od,_,rfl,rfl⟩) ?_)
      .rintro i c AJ Qy EF ⟨l0,m,rfl,rfl⟩;dsimp only;refine aH (fP hC l0 (by lia) (by lia) fun b6=>?_);cases b6
       .exact aX ⟨l0,_,rfl,rfl⟩
       .exact aX ⟨l0,_,rfl,by lia,by lia⟩
      .rintro c AJ ⟨l0,m,rfl,rfl⟩;exact⟨l0,_,rfl,by lia,by lia⟩
      .rintro c AJ ⟨l0,m,rfl,h1,h2⟩;exact aX (h m AJ l0 h1 h2)
     .refine aH (hV qj fun xc Od=>?_);refine aH (dU (f8 (I:=fun i c bq=>SQ κ a₀ pd bq/\∃m,c=(none,m)/\m=i) (Q:=fun c bq=>SQ κ a₀ pd bq/\∃m,c=(none,m)/\1<=m/\m<=oZ) ?_ ?_ ⟨Od,_,rfl,rfl⟩) ?_)
      .rintro i c AJ Qy EF ⟨l0,m,rfl,rfl⟩;dsimp only;refine aH (fP hC l0 (by lia) (by lia) fun b6=>?_);cases b6
       .exact aX ⟨l0,_,rfl,rfl⟩
       .exact aX ⟨l0,_,rfl,by lia,by lia⟩
      .rintro c AJ ⟨l0,m,rfl,rfl⟩;exact⟨l0,_,rfl,by lia,by lia⟩
      .rintro c AJ ⟨l0,m,rfl,h1,h2⟩;exact aX (h m AJ l0 h1 h2)
   .exact aX (h n Qx Gf n1 n2)
  .rw[aq e2];have tR:=Gf;refine aH (lQ (gN ⟨rfl,?_⟩));refine aH (dU (f8 (I:=fun i c bq=>SQ κ a₀ pd bq/\∃m q,c=(none,m,q)/\m=i) (Q:=fun c bq=>SQ κ a₀ pd bq/\∃m q,c=(none,m,q)/\1<=m/\m<=oZ) ?_ ?_ ⟨tR,_,_,rfl,rfl⟩) ?_)
   .rintro i c Ab Qy EF ⟨qj,m,q,rfl,rfl⟩;dsimp only;refine aH (fP hC qj (by lia) (by lia) fun b3=>?_);cases b3
    .dsimp only;rw[aq (by decide)];refine aH (fP hC qj (by lia) (by lia) fun b4=>?_);cases b4
     .exact aX ⟨qj,_,_,rfl,rfl⟩
     .exact aX ⟨qj,_,_,rfl,by lia,by lia⟩
    .dsimp only;rw[ap rfl];split
     .exact aH (hV qj fun tu Oc=>aX ⟨Oc,_,_,rfl,rfl⟩)
     .exact aX ⟨qj,_,_,rfl,rfl⟩
   .rintro c Ab ⟨qj,m,q,rfl,rfl⟩;exact⟨qj,_,_,rfl,by lia,by lia⟩
   .rintro c Ab ⟨qj,m,q,rfl,m1,m2⟩;dsimp only;split
    .refine aH (hV qj fun tu Oc=>?_);refine aH (hV Oc fun xc Od=>?_);refine aH (dU (f8 (I:=fun i c bq=>SQ κ a₀ pd bq/\∃m,c=(none,m)/\m=i) (Q:=fun c bq=>SQ κ a₀ pd bq/\∃m,c=(none,m)/\1<=m/\m<=oZ) ?_ ?_ ⟨Od,_,rfl,rfl⟩) ?_)
     .rintro i c AJ Qy EF ⟨l0,m,rfl,rfl⟩;dsimp only;refine aH (fP hC l0 (by lia) (by lia) fun b6=>?_);cases b6
      .exact aX ⟨l0,_,rfl,rfl⟩
      .exact aX ⟨l0,_,rfl,by lia,by lia⟩
     .rintro c AJ ⟨l0,m,rfl,rfl⟩;exact⟨l0,_,rfl,by lia,by lia⟩
     .rintro c AJ ⟨l0,m,rfl,h1,h2⟩;exact aX (h m AJ l0 h1 h2)
    .refine aH (hV qj fun xc Od=>?_);refine aH (dU (f8 (I:=fun i c bq=>SQ κ a₀ pd bq/\∃m,c=(none,m)/\m=i) (Q:=fun c bq=>SQ κ a₀ pd bq/\∃m,c=(none,m)/\1<=m/\m<=oZ) ?_ ?_ ⟨Od,_,rfl,rfl⟩) ?_)
     .rintro i c AJ Qy EF ⟨l0,m,rfl,rfl⟩;dsimp only;refine aH (fP hC l0 (by lia) (by lia) fun b6=>?_);cases b6
      .exact aX ⟨l0,_,rfl,rfl⟩
      .exact aX ⟨l0,_,rfl,by lia,by lia⟩
     .rintro c AJ ⟨l0,m,rfl,rfl⟩;exact⟨l0,_,rfl,by lia,by lia⟩
     .rintro c AJ ⟨l0,m,rfl,h1,h2⟩;exact aX (h m AJ l0 h1 h2)
end
abbrev Qz:=Nat×Nat×Nat
def ja:List Qz->Nat->Nat->Prop
 |[],s,e=>s=e
 |r::rs,s,e=>r.1=s/\1<=r.2.1/\ja rs (s+r.2.1) e
theorem ja.le:∀ {l:List Qz} {s e:Nat},ja l s e->s<=e
 |[],_,_,h=>ow h
 |r::rs,s,e,⟨_,h2,h3⟩=>by have:=h3.le;lia
theorem ja.two:∀ {l:List Qz} {s e i:Nat} {x y:Qz},ja l s e->l[i]?=some x->l[i+1]?=some y->
  x.1+x.2.1=y.1/\y.1+y.2.1<=e/\1<=x.2.1/\1<=y.2.1/\∀p,ja ((l.set i (x.1,x.2.1+y.2.1,p)).eraseIdx (i+1)) s e
 |r::q::rs,s,e,0,x,y,⟨h1,h2,h3,h4,h5⟩,hx,hy=>by
  obtain rfl:=bP hx;obtain rfl:=bP hy;have:=h5.le;refine⟨by lia,by lia,h2,h4,fun p=>⟨h1,by show 1<=r.2.1+q.2.1;lia,?_⟩⟩;show ja rs (s+(r.2.1+q.2.1)) e;rw[<-Nat.add_assoc];exact h5
 |r::rs,s,e,i+1,x,y,⟨h1,h2,h3⟩,hx,hy=>by
  obtain⟨a1,a2,a3,a4,a5⟩:=ja.two (i:=i) h3 hx hy;exact⟨a1,a2,a3,a4,fun p=>⟨h1,h2,a5 p⟩⟩
theorem ja.push:∀ {l:List Qz} {s e n p:Nat},ja l s e->1<=n->ja (l++[(e,n,p)]) s (e+n)
 |[],s,e,n,p,h,hn=>⟨h.symm,hn,by rw[h];rfl⟩
 |r::rs,s,e,n,p,⟨h1,h2,h3⟩,hn=>⟨h1,h2,ja.push h3 hn⟩
theorem ja.pw:∀ {l:List Qz} {s e:Nat} (i p:Nat),ja l s e->ja (l.modify i fun r=>(r.1,r.2.1,p)) s e
 |[],s,e,i,p,h=>by cases i <;> exact h
 |r::rs,s,e,0,p,⟨h1,h2,h3⟩=>⟨h1,h2,h3⟩
 |r::rs,s,e,i+1,p,⟨h1,h2,h3⟩=>⟨h1,h2,ja.pw i p h3⟩
theorem J0{M:Model}{A:Around}{E:Value->Shared->Prop}{s:Shared}{σ:Type}{x:σ}{Q:PUnit->σ->Prop}{st:σ}(h:Q ⟨⟩ x):wpS M A E s (set x:StateT σ Sem PUnit) Q st:=by
 unfold wpS;rw[StateT.run_set];exact wpAny_pure ⟨rfl,h⟩
theorem yc(i:Nat):mergeAt' i=(do
 let s <- get
 let (some (sa,na,Sz),some (sb,nb,_)):=((pendingOf s)[i]?,(pendingOf s)[i+1]?)|unsupported "internal:list.sort.pending"
 set (setPending s (((pendingOf s).setIfInBounds i (sa,na+nb,Sz)).eraseIdxIfInBounds (i+1)))
 let some k <- iK false (<-elem' (arrOf s) sb) (arrOf s) sa na 0|return false
 let (sa,na):=(sa+k,na-k)
 if na==0 then return true
 let some nb <- iK true (<-elem' (arrOf s) (sa+na-1)) (arrOf s) sb nb (nb-1)|return false
 if nb==0 then return true
 let x:=(arrOf s).extract sa sb
 let y:=(arrOf s).extract sb (sb+nb)
 let merged <- if na<=nb then rT x y else rV x y
 modify fun s=>setArr s (merged.toList.zipIdx.foldl (fun a (p,j)=>a.setIfInBounds (sa+j) p) (arrOf s))
 return (failedOf (<-get)).isNone):=rfl
theorem rY{sa:Nat}:∀ (l:List Keyed) (k:Nat) (arr:Array Keyed),sa+k+l.length<=arr.size->
  ((l.zipIdx k).foldl (fun (a:Array Keyed) (x:Keyed×Nat)=>a.setIfInBounds (sa+x.2) x.1) arr).toList=arr.toList.take (sa+k)++l++arr.toList.drop (sa+k+l.length)
 |[],k,arr,_=>by simp
 |x::l,k,arr,h=>by
  rw[dz] at h;have hs:sa+k<arr.toList.length:=by rw[lD];lia
  rw[zO,vh,rY l (k+1) _ (by rw[Array.size_setIfInBounds];lia),ER];dsimp only;have e1:(arr.toList.set (sa+k) x).take (sa+(k+1))=arr.toList.take (sa+k)++[x]:=by
   rw[<-Nat.add_assoc,fW,lA hs,List.take_set_of_le (bt _)];rfl
  have e2:(arr.toList.set (sa+k) x).drop (sa+(k+1)+l.length)=arr.toList.drop (sa+k+(x::l).length):=by
   rw[List.drop_set_of_lt (by lia),dz];congr 1;lia
  rw[e1,e2,dw,dw,dw];rfl
section
variable {prog:Program} {w:World} {A:Around} {E:Value->Shared->Prop} {s:Shared} {κ:SortKind} {a₀:Array Keyed}
def SR(κ:SortKind)(a₀:Array Keyed)(lo:Nat)(st:SortSt):Prop:=∃pd,SQ κ a₀ pd st/\ja pd.toList 0 lo/\lo<=a₀.size
theorem kI{st:SortSt}{i lo:Nat}{Q:Bool->SortSt->Prop}(hC:xX prog w A s κ a₀)(hB:SR κ a₀ lo st)(hi:i+1<(pendingOf st).size)(h:∀bq,SR κ a₀ lo bq->Q true bq):wpS (model prog w) A E s (mergeAt' i) Q st:=by
 obtain⟨pd,hq,hr,Vx⟩:=hB;rw[hq.pend] at hi;rw[yc];refine aH (ie ?_);have e1:pd[i]?=some pd[i]:=dI pd i (by lia);have e2:pd[i+1]?=some pd[i+1]:=dI pd (i+1) hi;obtain⟨a1,a2,a3,a4,a5⟩:=hr.two (i:=i) (x:=pd[i]) (y:=pd[i+1]) (by simpa using e1) (by simpa using e2);rw[hq.pend,e1,e2];revert a1 a2 a3 a4 a5;generalize pd[i]=x;generalize pd[i+1]=y;obtain⟨sa,na,pw⟩:=x;obtain⟨sb,nb,pw2⟩:=y;intro a1 a2 a3 a4 a5;dsimp only at a1 a2 a3 a4 a5 |-;obtain⟨J1,SA⟩:∃J1,J1=(pd.setIfInBounds i (sa,na+nb,pw)).eraseIdxIfInBounds (i+1):=⟨_,rfl⟩
 have BY:ja J1.toList 0 lo:=by
  rw[SA,Array.toList_eraseIdxIfInBounds,ER];exact a5 pw
 refine aH (J0 ?_);rw[<-SA];have Mo:SM κ (arrOf st) J1 (setPending st J1):=⟨rfl,hq.kind,hq.failed,rfl⟩
 have lc:=hq.size;have pR:∀x∈(arrOf st).toList,x∈a₀.toList:=fun x hx=>(mx.mp hq.perm).mem_iff.mp hx;have dG:∀bq,SM κ (arrOf st) J1 bq->SR κ a₀ lo bq:=fun bq m=>⟨J1,⟨by rw[m.arr];exact hq.perm,m.kind,m.failed,m.pend⟩,BY,Vx⟩
 refine aH (bF (dI (arrOf st) sb (by lia)) ?_);refine aH (gn hC Mo.kind (pR _ (by simp)) pR (by lia) (by lia) fun k hk=>?_);dsimp only;by_cases f1:(na-k==0)=true
 .rw[ap f1];exact aX (h _ (dG _ Mo))
 rw[aq f1];have g1:¬ (na-k=0):=by simpa using f1
 refine aH (bF (dI (arrOf st) (sa+k+(na-k)-1) (by lia)) ?_);refine aH (gn hC Mo.kind (pR _ (by simp)) pR (by lia) (by lia) fun k2 JV=>?_);dsimp only;by_cases f2:(k2==0)=true
 .rw[ap f2];exact aX (h _ (dG _ Mo))
 rw[aq f2];have g2:¬ (k2=0):=by simpa using f2
 have hx:∀x∈((arrOf st).extract (sa+k) sb).toList,x∈a₀.toList:=fun x hx=>pR x (by rw[eH] at hx;exact nY (lm hx));have hy:∀x∈((arrOf st).extract sb (sb+k2)).toList,x∈a₀.toList:=fun x hx=>pR x (by rw[eH] at hx;exact nY (lm hx));have sx:((arrOf st).extract (sa+k) sb).size=sb-(sa+k):=by rw[Array.size_extract];lia
 have sy:((arrOf st).extract sb (sb+k2)).size=k2:=by rw[Array.size_extract];lia
 have last:∀ (out:Array Keyed) (bq:SortSt),out.Perm ((arrOf st).extract (sa+k) sb++(arrOf st).extract sb (sb+k2))->SM κ (arrOf st) J1 bq->wpS (model prog w) A E s (do
   modify fun s=>setArr s (out.toList.zipIdx.foldl (fun a (p,j)=>a.setIfInBounds (sa+k+j) p) (arrOf s))
   return (failedOf (<-get)).isNone) Q bq:=by
  intro out bq hp m;refine aH (gO ?_);refine aH (ie (aX ?_));have osz:out.toList.length=sb-(sa+k)+k2:=by
   rw[lD,hp.size_eq,Array.size_append,sx,sy]
  have wl:=rY (sa:=sa+k) out.toList 0 (arrOf bq) (by rw[m.arr,osz];lia);have pm:(out.toList.zipIdx.foldl (fun a (p,j)=>a.setIfInBounds (sa+k+j) p) (arrOf bq)).Perm (arrOf st):=by
   rw[mx];refine(rc wl).trans ?_;rw[m.arr,osz,vw];have JI:=mx.mp hp;rw[fq,eH,eH] at JI;refine((JI.append_left _).append_right _).trans ?_;have e1:(arrOf st).toList.drop (sa+k)=((arrOf st).toList.drop (sa+k)).take (sb-(sa+k))++(arrOf st).toList.drop sb:=mY (by lia);have e2:(arrOf st).toList.drop sb=((arrOf st).toList.drop sb).take (sb+k2-sb)++(arrOf st).toList.drop (sb+k2):=mY (by lia);have e3:sa+k+(sb-(sa+k)+k2)=sb+k2:=by lia
   rw[e3];refine rc ?_;conv=>rhs;rw[<-pK (sa+k) (arrOf st).toList,e1,e2]
   simp only[dw]
  have hf:(failedOf bq).isNone=true:=by rw[m.failed];rfl
  show Q (failedOf bq).isNone _;rw[hf];exact h _ ⟨J1,⟨pm.trans hq.perm,m.kind,m.failed,m.pend⟩,BY,Vx⟩
 by_cases f3:na-k<=k2
 .rw[ap f3];exact aH (x_ hC Mo hx hy (by lia) (by lia) fun out bq hp m=>last out bq hp m)
 .rw[aq f3];exact aH (yb hC Mo hx hy (by lia) (by lia) fun out bq hp m=>last out bq hp m)
theorem yd{c:Prop}[Decidable c]{x:Nat}:(if c then x-1 else x)<=x:=by split <;> lia
theorem SR.pw{lo:Nat}{st:SortSt}(h:SR κ a₀ lo st)(i p:Nat):SR κ a₀ lo (setPending st ((pendingOf st).modify i fun r=>(r.1,r.2.1,p))):=by
 obtain⟨pd,hq,hr,hl⟩:=h;refine⟨_,⟨hq.perm,hq.kind,hq.failed,rfl⟩,?_,hl⟩;show ja ((pendingOf st).modify i fun r=>(r.1,r.2.1,p)).toList 0 lo;rw[hq.pend,Array.toList_modify];exact hr.pw i p
theorem SR.push{lo n:Nat}{st:SortSt}(h:SR κ a₀ lo st)(h1:1<=n)(hn:lo+n<=a₀.size):SR κ a₀ (lo+n) (setPending st ((pendingOf st).push (lo,n,0))):=by
 obtain⟨pd,hq,hr,hl⟩:=h;refine⟨_,⟨hq.perm,hq.kind,hq.failed,rfl⟩,?_,hn⟩;show ja ((pendingOf st).push (lo,n,0)).toList 0 (lo+n);rw[hq.pend,n8];exact hr.push h1
theorem DD{st:SortSt}{Q:Unit->SortSt->Prop}(hC:xX prog w A s κ a₀)(hp:(arrOf st).Perm a₀)(hk:kindOf st=κ)(hf:failedOf st=none)(hpd:pendingOf st=#[])(h:∀bq,(arrOf bq).Perm a₀->failedOf bq=none->Q () bq):wpS (model prog w) A E s sortRuns' Q st:=by
 have h0:SR κ a₀ 0 st:=⟨#[],⟨hp,hk,hf,hpd⟩,rfl,cM _⟩
 have lc:(arrOf st).size=a₀.size:=hp.size_eq;rw[sortRuns'_eq];refine aH (ie ?_);dsimp only;rw[lc];refine aH (dU (f8 (I:=fun _ c bq=>∃lo,c=(none,lo)/\SR κ a₀ lo bq) (Q:=fun c bq=>∃lo,c=(none,lo)/\SR κ a₀ lo bq) ?_ (fun c bq hh=>hh) ⟨0,rfl,h0⟩) ?_)
 .rintro i c Qx _ _ ⟨lo,rfl,hR⟩;dsimp only;by_cases e1:lo>=a₀.size
  .rw[ap e1];exact aX ⟨lo,rfl,hR⟩
  rw[aq e1];have Vx:lo<a₀.size:=by lia
  obtain⟨pd,hq,hr,hl⟩:=hR;refine aH (DC hC (by lia) (by lia) hq fun n tG Vz n1 n2=>?_);dsimp only;by_cases hm:n<minRun' a₀.size a₀.size 0
  .rw[ap hm];refine aH (lQ (gN ⟨rfl,?_⟩));refine aH (JU hC (by lia) Vz fun Ab Z5=>?_);simp only[vo,jZ,gh];have AK:SR κ a₀ lo Ab:=⟨pd,Z5,hr,hl⟩
   refine aH (ie ?_);cases hb:(pendingOf Ab).back? with
   |none=>
    dsimp only;exact aH (gO (aX ⟨_,rfl,AK.push (by lia) (by lia)⟩))
   |some r=>
    obtain⟨s1,n1',pw1⟩:=r;dsimp only;refine aH (dU (f8 (I:=fun _ c bq=>c=(none,())/\SR κ a₀ lo bq) (Q:=fun c bq=>c=(none,())/\SR κ a₀ lo bq) ?_ (fun c bq hh=>hh) ⟨rfl,AK⟩) ?_)
    .rintro x c tu _ _ ⟨rfl,qF⟩;refine aH (ie ?_);by_cases hs:(pendingOf tu).size > 1
     .rw[ap hs,dI (pendingOf tu) ((pendingOf tu).size-2) (by lia)];generalize (pendingOf tu)[(pendingOf tu).size-2]=r4;obtain⟨_,_,SC⟩:=r4;dsimp only;split
      .exact aX ⟨rfl,qF⟩
      .refine aH (kI hC qF (by lia) fun xc J2=>?_);simp only[vo,jZ,gh];exact aX ⟨rfl,J2⟩
     .rw[aq hs];exact aX ⟨rfl,qF⟩
    .rintro c tu ⟨rfl,qF⟩;dsimp only;exact aH (gO (aH (gO (aX ⟨_,rfl,(qF.pw _ _).push (by lia) (by lia)⟩))))
  .rw[aq hm];have AK:SR κ a₀ lo tG:=⟨pd,Vz,hr,hl⟩
   refine aH (ie ?_);cases hb:(pendingOf tG).back? with
   |none=>
    dsimp only;exact aH (gO (aX ⟨_,rfl,AK.push (by lia) (by lia)⟩))
   |some r=>
    obtain⟨s1,n1',pw1⟩:=r;dsimp only;refine aH (dU (f8 (I:=fun _ c bq=>c=(none,())/\SR κ a₀ lo bq) (Q:=fun c bq=>c=(none,())/\SR κ a₀ lo bq) ?_ (fun c bq hh=>hh) ⟨rfl,AK⟩) ?_)
    .rintro x c tu _ _ ⟨rfl,qF⟩;refine aH (ie ?_);by_cases hs:(pendingOf tu).size > 1
     .rw[ap hs,dI (pendingOf tu) ((pendingOf tu).size-2) (by lia)];generalize (pendingOf tu)[(pendingOf tu).size-2]=r4;obtain⟨_,_,SC⟩:=r4;dsimp only;split
      .exact aX ⟨rfl,qF⟩
      .refine aH (kI hC qF (by lia) fun xc J2=>?_);simp only[vo,jZ,gh];exact aX ⟨rfl,J2⟩
     .rw[aq hs];exact aX ⟨rfl,qF⟩
    .rintro c tu ⟨rfl,qF⟩;dsimp only;exact aH (gO (aH (gO (aX ⟨_,rfl,(qF.pw _ _).push (by lia) (by lia)⟩))))
 .rintro c Qx ⟨lo,rfl,hR⟩;dsimp only;refine aH (dU (f8 (I:=fun _ c bq=>c=(none,())/\SR κ a₀ lo bq) (Q:=fun c bq=>c=(none,())/\SR κ a₀ lo bq) ?_ (fun c bq hh=>hh) ⟨rfl,hR⟩) ?_)
  .rintro x c tu _ _ ⟨rfl,qF⟩;refine aH (ie ?_);by_cases hs:(pendingOf tu).size<=1
   .rw[ap hs];exact aX ⟨rfl,qF⟩
   rw[aq hs];refine aH (kI hC qF ?_ fun xc J2=>?_)
   .exact fz (Nat.succ_le_succ yd) (show (pendingOf tu).size-2+1<(pendingOf tu).size by lia)
   .simp only[vo,jZ,gh];exact aX ⟨rfl,J2⟩
  .rintro c tu ⟨rfl,pd,hq,_⟩;exact aX (h _ hq.perm hq.failed)
end
end PyProof.Rows
namespace L2
open PySem PySem.Spec PyProof.Rows PySem.W
def jz(h:Heap)(vs:List Value):Prop:=∀v∈vs,∃a o n x t y u,v=Value.ref a/\h.get? a=some o/\o.cls=.type "tuple"/\o.data=.seq #[.int x t,.int y u] n
theorem jz.kg{h:Heap}:∀ {vs:List Value},jz h vs->∃fs,KatTups h vs fs/\fs.length=vs.length/\∀v∈fs,∃n t,v=Value.int n t
 |[],_=>⟨[],trivial,rfl,fun v hv=>nomatch hv⟩
 |v::vs,hp=>by
  obtain⟨fs,k1,k2,k3⟩:=jz.kg (vs:=vs) fun b hb=>hp b (cX _ hb);obtain⟨a,o,n,x,t,y,u,rfl,e,c,d⟩:=hp v bW;refine⟨.int x t::fs,KatTups.cons e c d rfl k1,by simp[k2],fun v hv=>?_⟩;rcases bK.mp hv with z|z
  .exact⟨x,t,z⟩
  .exact k3 v z
section
variable {prog:Program} {w:World} {A:Around} {E:Value->Shared->Prop} {s:Shared}
theorem DE{vs:List Value}(hp:jz s.heap vs):xX prog w A s (tuples' true) (vs.toArray.zip vs.toArray):=by
 have mem:∀x∈(vs.toArray.zip vs.toArray).toList,x.1∈vs:=by
  intro x hx;rw[Array.toList_zip] at hx;exact(q_ hx).1
 intro x y hx hy Q E' q;obtain⟨a,o,n,x1,t1,x2,t2,e1,eo,_,ed⟩:=hp x.1 (mem x hx);obtain⟨b,o',n',y1,u1,y2,u2,e2,eo',_,ed'⟩:=hp y.1 (mem y hy);rw[e1,e2];refine kat_lt eo ed eo' ed' (kat_cons (zX ?_));by_cases h1:x1=y1
 .rw[ff.mpr h1];refine kat_yes (kat_cons (zX ?_));by_cases h2:x2=y2
  .rw[ff.mpr h2];exact kat_yes (kat_nil (q _))
  .rw[jV.mpr h2];exact kat_no (kat_one _ _ (lt_int (q _)))
 .rw[jV.mpr h1];exact kat_no (oneLt_int (q _))
theorem J3{vs:List Value}:((vs.toArray.zip vs.toArray).map (·.2)).toList=vs:=by
 rw[ve,Array.toList_zip];show (vs.zip vs).map (·.2)=vs;rw[<-List.unzip_snd,List.unzip_zip_right (bt _)]
theorem ql{a:Addr}{vs:List Value}{n:Nat}{P:PySem.Fin->Shared->Prop}(ho:s.heap.get? a=some (seqObj "list" vs.toArray n))(hp:jz s.heap vs)(hz:vs.length<=4096)(h:∀ (out:Array Value),out.toList.Perm vs->P (.done (.ret .none)) { s with heap:=sortedHeap s.heap a vs out }):
  wpAny (model prog w) A (Builtin.«list.sort» ⟨[.ref a],[]⟩) P E s:=by
 rw[list_sort_plain];have ha:a<s.heap.objs.size:=bh ho;have Qv:vs.toArray.size<=sizeLine:=by rw[bJ,j9];lia
 refine aD (listItems_at ho rfl ?_);refine aD (listUpdate_at ho rfl ?_ Qv (cM _));obtain⟨e1,QA⟩:∃e1,(s.heap.update a (Obj.mapSeq fun _=>#[])).get? a=some (seqObj "list" #[] e1):=⟨_,rj ho (fun _=>#[])⟩
 refine aD (seqEpoch_at QA rfl ?_);refine aD (wpAny_newTuple ?_ (by show vs.length<=_;rw[j9];lia));refine aD (wpAny_newList ?_ (cM _));refine fZ ?_;have My:(((s.heap.update a (Obj.mapSeq fun _=>#[])).push (seqObj "tuple" vs.toArray 0)).push (seqObj "list" #[] 0)).get? a=some (seqObj "list" #[] e1):=by
  rw[fX _ _ _ (by rw[ic,hZ];exact bg (dC ha)),fX _ _ _ (by rw[hZ];exact bg ha)];exact QA
 have Gg:jz (((s.heap.update a (Obj.mapSeq fun _=>#[])).push (seqObj "tuple" vs.toArray 0)).push (seqObj "list" #[] 0)) vs:=by
  intro v hv;obtain⟨b,o,n,x,t,y,u,ev,e,c,d⟩:=hp v hv;have hb:b<s.heap.objs.size:=bh e;have ur:b≠a:=by
   rintro rfl;rw[ho] at e;cases e;exact absurd (Value.type.inj c) (by decide)
  refine⟨b,o,n,x,t,y,u,ev,?_,c,d⟩;rw[fX _ _ _ (by rw[ic,hZ];exact bg (dC hb)),fX _ _ _ (by rw[hZ];exact bg hb),jX _ _ _ _ ur];exact e
 show wpAny (model prog w) A _ P E { s with heap:=((s.heap.update a (Obj.mapSeq fun _=>#[])).push (seqObj "tuple" vs.toArray 0)).push (seqObj "list" #[] 0) };dsimp only;have dG:∀bq:SortSt,(arrOf bq).Perm (vs.toArray.zip vs.toArray)->P (.done (.ret .none)) { s with heap:=sortedHeap s.heap a vs ((arrOf bq).map (·.2)) }:=by
  intro bq VF;refine h _ ?_;have:=(mx.mp VF).map (·.2);rw[<-ve,<-ve,J3] at this;exact this
 have zsz:(vs.toArray.zip vs.toArray).size=vs.length:=by simp
 by_cases h2:vs.toArray.size<2
 .rw[ap h2,ap h2];refine aD (wpAny_pure ?_);rw[StateT.run_pure];refine aD (wpAny_pure ?_);dsimp only;refine aD (seqEpoch_at My rfl ?_);refine aD (listUpdate_at My rfl ?_ (cM _) (by show ((vs.toArray.zip vs.toArray).map (·.2)).size<=_;rw[ji,zsz,j9];lia));simp only[bne_self_eq_false,jZ,gh];exact wpAny_pure (dG (SortSt.mk' general' (vs.toArray.zip vs.toArray) #[] 7 none) (Array.Perm.refl _))
 .rw[aq h2,aq h2];have c_:2<=vs.length:=by rw[bJ] at h2;lia
  obtain⟨fs,k1,k2,k3⟩:=Gg.kg;refine aD (kat_kind (T:=.type "int") k1 (by lia) (fun v hv=>?_) rfl ?_)
  .obtain⟨m,t,rfl⟩:=k3 v hv;exact .now
  refine aD (jp (DD (a₀:=vs.toArray.zip vs.toArray) (κ:=tuples' true) (st:=SortSt.mk' (tuples' true) (vs.toArray.zip vs.toArray) #[] 7 none)
   (Q:=fun _ bq=>(arrOf bq).Perm (vs.toArray.zip vs.toArray)/\failedOf bq=none) (DE Gg) (Array.Perm.refl _) rfl rfl rfl fun bq b1 b2=>⟨b1,b2⟩) ?_ fun _ _ e=>e)
  rintro⟨⟨⟩,bq⟩ s' ⟨rfl,VF,hf⟩;dsimp only;refine aD (seqEpoch_at My rfl ?_);refine aD (listUpdate_at My rfl ?_ (cM _) (by refine bC (ow ((ji ..).trans (VF.size_eq.trans zsz))) ?_;rw[j9];lia));rw[hf];simp only[bne_self_eq_false,jZ,gh];exact wpAny_pure (dG bq VF)
theorem v7{l:Addr}{vs:List Value}{Q:Value->Shared->Prop}(hl:s.heap.IsList l vs.toArray)(hp:jz s.heap vs)(hz:vs.length<=4096)(h:∀ (out:Array Value),out.toList.Perm vs->Q (.ref (s.heap.objs.size+1)) { s with heap:=sortedAll s.heap vs out }):
  wpAny (model prog w) A (call (.builtin "sorted") [.ref l]) Q E s:=by
 have Qv:vs.length<=sizeLine:=by rw[j9];lia
 refine Calls.call_function_entry kind_sorted plain_sorted entry_sorted (args_sorted1 _) ?_;unfold Builtin.«sorted»;refine aD (m:=checkCount "sorted" 1 1 _) (wpAny_pure ?_);refine aD (collect_list hl ?_ Qv);refine aD (wpAny_newList ?_ Qv);have lc:((s.heap.push (seqObj "list" #[] 0)).update s.heap.objs.size (Obj.mapSeq (·++vs.toArray))).objs.size=s.heap.objs.size+1:=by
  rw[hZ,ic]
 have C1:(((s.heap.push (seqObj "list" #[] 0)).update s.heap.objs.size (Obj.mapSeq (·++vs.toArray))).push (seqObj "list" vs.toArray 0)).get? (s.heap.objs.size+1)=some (seqObj "list" vs.toArray 0):=by
  rw[<-lc];exact cI _ rfl
 have kJ:jz (((s.heap.push (seqObj "list" #[] 0)).update s.heap.objs.size (Obj.mapSeq (·++vs.toArray))).push (seqObj "list" vs.toArray 0)) vs:=by
  intro v hv;obtain⟨b,o,n,x,t,y,u,ev,e,c,d⟩:=hp v hv;have hb:b<s.heap.objs.size:=bh e;refine⟨b,o,n,x,t,y,u,ev,?_,c,d⟩;rw[fX _ _ _ (by rw[lc];exact bg (dC hb)),jX _ _ _ _ (bg hb),fX _ _ _ (bg hb)];exact e
 show wpAny _ _ _ _ _ { s with heap:=((s.heap.push (seqObj "list" #[] 0)).update s.heap.objs.size (Obj.mapSeq (·++vs.toArray))).push (seqObj "list" vs.toArray 0) };rw[lc];refine aD (fZ (lJ slot_list_sort ⟨_,C1,rfl⟩ entry_list_sort (ql C1 kJ hz fun out a1=>⟨_,rfl,?_⟩) (args_list_sort _)));exact wpAny_pure ⟨_,rfl,h out a1⟩
end
theorem mZ:∀ {as:List Addr} {its:List Value},ba (as.map V.ref) its->its=as.map Value.ref
 |[],_,r=>by cases r;rfl
 |a::as,_,r=>by
  cases r with
  |cons r rr=>
   obtain rfl:=(show _=Value.ref a from r)
   rw[mZ rr];rfl
theorem uG:∀ {as:List Addr},ba (as.map V.ref) (as.map Value.ref)
 |[]=>.nil
 |_::_=>.cons rfl uG
theorem DG{as:List Addr}{vs:List Value}(h:vs.Perm (as.map Value.ref)):∃yQ:List Addr,vs=yQ.map Value.ref/\yQ.Perm as:=by
 let un:Value->Addr:=fun v=>match v with|.ref a=>a|_=>0
 refine⟨vs.map un,?_,?_⟩
 .rw[di];have:∀v∈vs,(Value.ref ∘ un) v=v:=by
   intro v hv;obtain⟨a,_,rfl⟩:=bz.mp (h.mem_iff.mp hv);rfl
  conv=>lhs;rw[<-lP vs]
  exact jF fun v hv=>(this v hv).symm
 .have:=h.map un;rw[di] at this;have e:as.map (un ∘ Value.ref)=as:=by
   conv=>rhs;rw[<-lP as]
   exact jF fun a _=>rfl
  rw[e] at this;exact this
def Gh(K:PySem.W.Frag):List V->Hp->VK->Prop:=fun xs H Q=>∃ (l:Addr) (as:List Addr),xs=[.ref l]/\aZ K H l (as.map V.ref)/\(∀a∈as,∃x y:Int,bv K H a [.int x,.int y])/\as.length<=4096/\
 ∀ (D:Addr) (yQ:List Addr),H D=none->yQ.Perm as->Q (.ref D) (upd H D (.lst (yQ.map V.ref)))
theorem AL{X:Cx}:et X (.builtin "sorted") (Gh X.K):=by
 intro ag s σ H xs us Q I r h;obtain⟨l,as,rfl,hl,hp,hz,q⟩:=h;obtain⟨u1,rfl,r1⟩:=r.one;obtain rfl:u1=Value.ref l:=r1;obtain⟨its,rv,pl,_⟩:=I.list hl;have vY:=mZ rv;subst vY;have hpv:jz s.heap (as.map Value.ref):=by
  intro v hv;obtain⟨a,ha,rfl⟩:=bz.mp hv;obtain⟨x,y,J4⟩:=hp a ha;obtain⟨its,r,⟨o,e,c,n,d⟩,_⟩:=I.tuple J4;obtain⟨u1,u2,rfl,r1,r2⟩:=r.two;obtain⟨t,rfl⟩:=r1;obtain⟨t',rfl⟩:=r2;exact⟨a,o,n,x,t,y,t',rfl,e,c,d⟩
 refine v7 pl.isList hpv (by rw[aP];exact hz) fun out SE=>?_;obtain⟨yQ,eo,pa⟩:=DG SE;have Dv:out=(yQ.map Value.ref).toArray:=by rw[<-eo]
 subst Dv;have Oe:((s.heap.push (seqObj "list" #[] 0)).update s.heap.objs.size (Obj.mapSeq (·++(as.map Value.ref).toArray))).objs.size=s.heap.objs.size+1:=by rw[hZ,ic]
 have k1:∀b u,s.heap.get? b=some u->(((s.heap.push (seqObj "list" #[] 0)).update s.heap.objs.size (Obj.mapSeq (·++(as.map Value.ref).toArray))).push (seqObj "list" (as.map Value.ref).toArray 0)).get? b=some u:=fun b u e=>by
  have hb:b<s.heap.objs.size:=bh e;rw[fX _ _ _ (by rw[Oe];exact bg (dC hb)),jX _ _ _ _ (bg hb),fX _ _ _ (bg hb)];exact e
 have C1:(((s.heap.push (seqObj "list" #[] 0)).update s.heap.objs.size (Obj.mapSeq (·++(as.map Value.ref).toArray))).push (seqObj "list" (as.map Value.ref).toArray 0)).get? (s.heap.objs.size+1)=some (seqObj "list" (as.map Value.ref).toArray 0):=by
  rw[<-Oe];exact cI _ rfl
 have DH:(((s.heap.push (seqObj "list" #[] 0)).update s.heap.objs.size (Obj.mapSeq (·++(as.map Value.ref).toArray))).push (seqObj "list" (as.map Value.ref).toArray 0)).objs.size=s.heap.objs.size+2:=by rw[ic,Oe]
 show EP X ag σ Q (.ref (s.heap.objs.size+1)) { s with heap:=sortedHeap (((s.heap.push (seqObj "list" #[] 0)).update s.heap.objs.size (Obj.mapSeq (·++(as.map Value.ref).toArray))).push (seqObj "list" (as.map Value.ref).toArray 0)) (s.heap.objs.size+1) (as.map Value.ref) (yQ.map Value.ref).toArray };revert k1 C1 DH;generalize ((s.heap.push (seqObj "list" #[] 0)).update s.heap.objs.size (Obj.mapSeq (·++(as.map Value.ref).toArray))).push (seqObj "list" (as.map Value.ref).toArray 0)=h1;intro k1 C1 DH;obtain⟨e1,QA⟩:∃e1,(h1.update (s.heap.objs.size+1) (Obj.mapSeq fun _=>(#[]:Array Value))).get? (s.heap.objs.size+1)=some (seqObj "list" #[] e1):=⟨_,rj C1 (fun _=>#[])⟩
 have My:(((h1.update (s.heap.objs.size+1) (Obj.mapSeq fun _=>(#[]:Array Value))).push (seqObj "tuple" (as.map Value.ref).toArray 0)).push (seqObj "list" #[] 0)).get? (s.heap.objs.size+1)=some (seqObj "list" #[] e1):=by
  rw[fX _ _ _ (by rw[ic,hZ,DH];exact bg (dC (jg _))),fX _ _ _ (by rw[hZ,DH];exact bg (jg _))];exact QA
 obtain⟨e2,ho7⟩:∃e2,(sortedHeap h1 (s.heap.objs.size+1) (as.map Value.ref) (yQ.map Value.ref).toArray).get? (s.heap.objs.size+1)=some (seqObj "list" (yQ.map Value.ref).toArray e2):=⟨_,rj My (fun _=>(yQ.map Value.ref).toArray)⟩
 have keep:∀b u,s.heap.get? b=some u->(sortedHeap h1 (s.heap.objs.size+1) (as.map Value.ref) (yQ.map Value.ref).toArray).get? b=some u:=fun b u e=>by
  have hb:b<s.heap.objs.size:=bh e;unfold sortedHeap;rw[jX _ _ _ _ (bg (dC hb)),fX _ _ _ (by rw[ic,hZ,DH];exact bg (dC (dC (dC hb)))),fX _ _ _ (by rw[hZ,DH];exact bg (dC (dC hb))),jX _ _ _ _ (bg (dC hb))];exact k1 b u e
 have ye:s.heap.get? (s.heap.objs.size+1)=none:=n0 (by lia);refine⟨.ref (s.heap.objs.size+1),_,I.xH (t':=s.toks) (o:=.lst (yQ.map V.ref)) keep ye ⟨?_,yQ.map Value.ref,e2,uG,ho7⟩,rfl,q _ yQ (I.b_.oR ye) pa⟩;rw[aP,pa.length_eq];exact bC hz (by decide)
open PySem PySem.Spec PyProof.Rows
theorem cJ(sb:Heap.SameBut c h h')(n:b≠c)(e:h.get? b=some o):h'.get? b=some o:=(sb.2 b n).trans e
theorem fT(r:h.IsTupleIter it t k)(sb:Heap.SameBut c h h')(n:it≠c):h'.IsTupleIter it t k:=r.at fun o e=>cJ sb n e
theorem rZ(r:h.IsTuple t xs)(sb:Heap.SameBut c h h')(n:t≠c):h'.IsTuple t xs:=let ⟨o,e,z⟩:=r;⟨o,cJ sb n e,z⟩
section
variable {prog:Program} {w:World} {A:Around} {E:Value->Shared->Prop} {s:Shared}
theorem DI{z ti tq i1 i2 t1 t2:Addr}{k:Nat}{xs ys:Array Value}{x y a b:Value}{Q:Value->Shared->Prop}(dj:ZipApart z ti tq i1 i2 t1 t2)(gz:IsZip s.heap z ti tq .none)(gi:IsPair s.heap ti (.ref i1) (.ref i2))(gq:IsPair s.heap tq a b)(r1:s.heap.IsTupleIter i1 t1 k)(r2:s.heap.IsTupleIter i2 t2 k)(g1:s.heap.IsTuple t1 xs)(g2:s.heap.IsTuple t2 ys)(ex:xs[k]?=some x)(ey:ys[k]?=some y)(q:∀h',IsZip h' z ti tq (rawInt s.heap.objs.size)->IsPair h' tq x y->h'.IsTupleIter i1 t1 (k+1)->h'.IsTupleIter i2 t2 (k+1)->IsPair h' s.heap.objs.size x y->(∀c o,c≠z->c≠tq->c≠i1->c≠i2->s.heap.get? c=some o->h'.get? c=some o)->Q (.ref s.heap.objs.size) { s with heap:=h' }):
  wpAny (model prog w) A (Builtin.«zip.__next__» ⟨[.ref z],[]⟩) (fun dG s'=>∃v,dG=.done (.ret v)/\Q v s') E s:=by
 change wpAny _ _ (field (.ref z) 2 >>= _) _ _ _;refine aD (h9 gz rfl (x:=.bool false) rfl ?_);change wpAny _ _ (field (.ref z) 3 >>= _) _ _ _;refine aD (h9 gz rfl (x:=.ref ti) rfl (aD (jj gi rfl ?_)));change wpAny _ _ (Builtin.SmallTypes.ownedTupleIsFree (.ref z) >>= _) _ _ _;refine aD ?_;unfold Builtin.SmallTypes.ownedTupleIsFree;refine aD (h9 gz rfl (x:=.none) rfl (wpAny_pure ?_));simp only[iS];refine aD (gN (aD (h9 gz rfl (x:=.ref tq) rfl ?_)));refine aD (qY gz (by simp) fun m1 J5 mr=>?_);replace J5:IsZip m1 z ti tq .ellipsis:=J5;refine aD ?_;simp only[zO,List.zipIdx_nil,vg,vj];refine aD (aD (vy ?_));change wpAny _ _ (Builtin.SmallTypes.nextOf (.ref i1) >>= _) _ _ _;refine aD (rR (fT r1 mr dj.i1z) (rZ g1 mr dj.l1z) ex fun m2 r12 i9=>wpAny_pure ?_);have gq2:IsPair m2 tq a b:=cJ i9 dj.TOi1 (cJ mr dj.TOz gq);refine aD (jj gq2 rfl (aD (wpAny_updateSeq_pair gq2 fun m3 XH J6=>?_)));replace XH:IsPair m3 tq x b:=XH;refine aD (wpAny_letGo (wpAny_pure ?_));refine aD (aD (vy ?_));change wpAny _ _ (Builtin.SmallTypes.nextOf (.ref i2) >>= _) _ _ _;refine aD (rR (fT (fT (fT r2 mr dj.i2z) i9 dj.i12.symm) J6 dj.TOi2.symm) (rZ (rZ (rZ g2 mr dj.l2z) i9 dj.l2i1) J6 dj.l2TO) ey fun m4 r24 SF=>wpAny_pure ?_);have gq4:IsPair m4 tq x b:=cJ SF dj.TOi2 XH;refine aD (jj gq4 rfl (aD (wpAny_updateSeq_pair gq4 fun m5 VG SG=>?_)));replace VG:IsPair m5 tq x y:=VG;refine aD (wpAny_letGo (wpAny_pure (wpAny_pure ?_)));refine aD (jj VG rfl (aD (wpAny_newTuple ?_)));have sz:m5.objs.size=s.heap.objs.size:=by rw[SG.1,SF.1,J6.1,i9.1,mr.1]
 have gz5:IsZip m5 z ti tq .ellipsis:=cJ SG dj.TOz.symm (cJ SF dj.i2z.symm (cJ J6 dj.TOz.symm (cJ i9 dj.i1z.symm J5)));have kp5:∀c o,c≠z->c≠tq->c≠i1->c≠i2->s.heap.get? c=some o->m5.get? c=some o:=fun c o c1 c2 c3 c4 e=>
  cJ SG c2 (cJ SF c4 (cJ J6 c2 (cJ i9 c3 (cJ mr c1 e))))
 have r15:m5.IsTupleIter i1 t1 (k+1):=fT (fT (fT r12 J6 dj.TOi1.symm) SF dj.i12) SG dj.TOi1.symm;have r25:m5.IsTupleIter i2 t2 (k+1):=fT r24 SG dj.TOi2.symm;have zl:z<m5.objs.size:=bh gz5;change wpAny _ _ (Builtin.SmallTypes.ownedTupleHandOut (.ref z) (.ref m5.objs.size) >>= _) _ _ _;refine aD ?_;unfold Builtin.SmallTypes.ownedTupleHandOut;have gz6:IsZip (m5.push { cls:=.type "tuple",data:=.seq #[x,y] }) z ti tq .ellipsis:=bY _ gz5;refine aD (qY gz6 (by simp) fun m7 XI sb7=>?_);replace XI:IsZip m7 z ti tq (rawInt m5.objs.size):=XI;refine qY XI (by simp) fun m8 VH sb8=>?_;replace VH:IsZip m8 z ti tq (rawInt m5.objs.size):=VH;have up:∀c o,c≠z->m5.get? c=some o->m8.get? c=some o:=fun c o c1 e=>cJ sb8 c1 (cJ sb7 c1 (bY _ e));have gp8:IsPair m8 m5.objs.size x y:=cJ sb8 (jo zl) (cJ sb7 (jo zl) (cI _ rfl));rw[sz] at VH gp8;refine wpAny_pure ⟨_,rfl,?_⟩;change Q (.ref m5.objs.size) _;rw[sz];exact q m8 VH (up _ _ dj.TOz VG) (r15.at fun o e=>up _ o dj.i1z e) (r25.at fun o e=>up _ o dj.i2z e) gp8 fun c o c1 c2 c3 c4 e=>up c o c1 (kp5 c o c1 c2 c3 c4 e)
theorem Gi(hh:A.handled=none)(dj:ZipApart z ti tq i1 i2 t1 t2)(gz:IsZip s.heap z ti tq .none)(gi:IsPair s.heap ti (.ref i1) (.ref i2))(r1:s.heap.IsTupleIter i1 t1 k)(g1:s.heap.IsTuple t1 xs)(ex:xs[k]?=none)(q:∀h' e,(∀c o,c≠z->c≠i1->s.heap.get? c=some o->h'.get? c=some o)->(∃o,h'.get? e=some o/\o.cls=.type "StopIteration")->E (.ref e) { s with heap:=h' }):
  wpAny (model prog w) A (Builtin.«zip.__next__» ⟨[.ref z],[]⟩) Q E s:=by
 change wpAny _ _ (field (.ref z) 2 >>= _) _ _ _;refine aD (h9 gz rfl (x:=.bool false) rfl ?_);change wpAny _ _ (field (.ref z) 3 >>= _) _ _ _;refine aD (h9 gz rfl (x:=.ref ti) rfl (aD (jj gi rfl ?_)));change wpAny _ _ (Builtin.SmallTypes.ownedTupleIsFree (.ref z) >>= _) _ _ _;refine aD ?_;unfold Builtin.SmallTypes.ownedTupleIsFree;refine aD (h9 gz rfl (x:=.none) rfl (wpAny_pure ?_));simp only[iS];refine aD (gN (aD (h9 gz rfl (x:=.ref tq) rfl ?_)));refine aD (qY gz (by simp) fun m1 J5 mr=>?_);replace J5:IsZip m1 z ti tq .ellipsis:=J5;refine aD ?_;simp only[zO,List.zipIdx_nil,vg,vj];refine aD (aD (vy ?_));change wpAny _ _ (Builtin.SmallTypes.nextOf (.ref i1) >>= _) _ _ _;refine aD (Dx hh (fT r1 mr dj.i1z) (rZ g1 mr dj.l1z) ex fun m2 e i9 he=>?_);obtain⟨oe,RY,hce⟩:=he;have VI:IsZip m2 z ti tq .ellipsis:=i9 _ _ dj.i1z.symm J5;have nez:e≠z:=fun y=>by subst y;rw[VI] at RY;cases RY;simp at hce
 exact qY VI (by simp) fun m3 _ J6=>q m3 e (fun c o c1 c3 y=>cJ J6 c1 (i9 _ _ c3 (cJ mr c1 y))) ⟨oe,cJ J6 nez RY,hce⟩
theorem AM(dj:ZipApart z ti tq i1 i2 t1 t2)(gz:IsZip s.heap z ti tq .none)(gi:IsPair s.heap ti (.ref i1) (.ref i2))(gq:IsPair s.heap tq a b)(r1:s.heap.IsTupleIter i1 t1 k)(r2:s.heap.IsTupleIter i2 t2 k)(g1:s.heap.IsTuple t1 xs)(g2:s.heap.IsTuple t2 ys)(ex:xs[k]?=some x)(ey:ys[k]?=some y)(q:∀h',IsZip h' z ti tq (rawInt s.heap.objs.size)->IsPair h' tq x y->h'.IsTupleIter i1 t1 (k+1)->h'.IsTupleIter i2 t2 (k+1)->IsPair h' s.heap.objs.size x y->(∀c o,c≠z->c≠tq->c≠i1->c≠i2->s.heap.get? c=some o->h'.get? c=some o)->Q (some (.ref s.heap.objs.size)) { s with heap:=h' }):
  wpAny (model prog w) A (pyNext (.ref z)) Q E s:=by
 have ty:s.TypeIs (.ref z) "zip":=⟨_,gz,rfl⟩
 unfold pyNext;refine aD (vz (nV (name:=Str.ofString "__next__") ty F.slot_zip_next (lJ F.slot_zip_next ty F.entry_zip_next ?_ (F.args_zip_next_1 _))));exact DI dj gz gi gq r1 r2 g1 g2 ex ey fun h' a1 a2 a3 a4 a5 a6=>wpAny_pure (q h' a1 a2 a3 a4 a5 a6)
theorem AN(hh:A.handled=none)(dj:ZipApart z ti tq i1 i2 t1 t2)(gz:IsZip s.heap z ti tq .none)(gi:IsPair s.heap ti (.ref i1) (.ref i2))(r1:s.heap.IsTupleIter i1 t1 k)(g1:s.heap.IsTuple t1 xs)(ex:xs[k]?=none)(q:∀h',(∀c o,c≠z->c≠i1->s.heap.get? c=some o->h'.get? c=some o)->Q none { s with heap:=h' }):wpAny (model prog w) A (pyNext (.ref z)) Q E s:=by
 have ty:s.TypeIs (.ref z) "zip":=⟨_,gz,rfl⟩
 unfold pyNext;refine aD (vz (nV (name:=Str.ofString "__next__") ty F.slot_zip_next (lJ F.slot_zip_next ty F.entry_zip_next (Gi hh dj gz gi r1 g1 ex fun h' e hk he=>?_) (F.args_zip_next_1 _))));obtain⟨o,ho,hc⟩:=he;exact aD (wpAny_isInstance (T:="StopIteration") (b:=true) ⟨o,ho,hc⟩ isSubtype_stop (wpAny_pure (q _ hk)))
abbrev zT(t:Addr):Obj:={ cls:=.type "tuple_iterator",data:=.fields #[.ref t,.int 0 0] }
abbrev VJ(h:Heap)(t1 t2:Addr):Heap:=((h.push (zT t1)).push (zT t2)).push { cls:=.type "tuple",data:=.seq #[.ref h.objs.size,.ref (h.push (zT t1)).objs.size] }
abbrev VL(h:Heap)(t1 t2:Addr):Heap:=(VJ h t1 t2).push { cls:=.type "tuple",data:=.seq #[.none,.none] }
abbrev QB(h:Heap)(t1 t2:Addr):Heap:=(VL h t1 t2).push { cls:=.type "zip",data:=.fields #[.none,.bool false,.bool false,.ref ((h.push (zT t1)).push (zT t2)).objs.size,.ref (VJ h t1 t2).objs.size] }
theorem Gj(t1 t2:Addr)(xs ys:Array Value):
  Meets (Builtin.«zip.__new__» ⟨[.type "zip",.ref t1,.ref t2],[]⟩) (fun _ R s=>s.heap.IsTuple t1 xs/\s.heap.IsTuple t2 ys/\R (.ok (.ret (.ref (VL s.heap t1 t2).objs.size))) { s with heap:=QB s.heap t1 t2 }):=
 .of_wp fun prog w A R s h=>by
  obtain⟨hp,g,d,tk,os⟩:=s;obtain⟨g1,g2,h⟩:=h;have RV:=sub_zip;have gA:Heap.IsTuple (Shared.heap ⟨hp,g,d,tk,os⟩) t1 xs:=g1;have gB:Heap.IsTuple (Shared.heap ⟨hp.push (zT t1),g,d,tk,os⟩) t2 ys:=let ⟨o,e,z⟩:=g2;⟨o,bY _ e,z⟩
  wp_walk using zR gA,zR gB
  exact⟨_,rfl,h⟩
theorem DJ(g1:s.heap.IsTuple t1 xs)(g2:s.heap.IsTuple t2 ys)(q:∀h',IsZip h' (s.heap.objs.size+4) (s.heap.objs.size+2) (s.heap.objs.size+3) .none->IsPair h' (s.heap.objs.size+2) (.ref s.heap.objs.size) (.ref (s.heap.objs.size+1))->IsPair h' (s.heap.objs.size+3) .none .none->
   h'.IsTupleIter s.heap.objs.size t1 0->h'.IsTupleIter (s.heap.objs.size+1) t2 0->(∀c o,s.heap.get? c=some o->h'.get? c=some o)->Q (.ref (s.heap.objs.size+4)) { s with heap:=h' }):
  wpAny (model prog w) A (call (.type "zip") [.ref t1,.ref t2]) Q E s:=by
 refine callType_new F.called_zip (by decide) (F.typeCall_zip_2 _ _) (F.newCall_zip_2 _ _) (fun obj=>F.args_object_init_3 obj _ _) F.entry_zip_new (Gj t1 t2 xs ys) ⟨g1,g2,?_⟩;have n1:(s.heap.push (zT t1)).objs.size=s.heap.objs.size+1:=jK ..;have n2:((s.heap.push (zT t1)).push (zT t2)).objs.size=s.heap.objs.size+2:=by rw[jK,n1]
 have n3:(VJ s.heap t1 t2).objs.size=s.heap.objs.size+3:=by rw[jK,n2]
 have n4:(VL s.heap t1 t2).objs.size=s.heap.objs.size+4:=by rw[jK,n3]
 have e5:(QB s.heap t1 t2).get? (VL s.heap t1 t2).objs.size=some _:=cI _ rfl;have e4:(QB s.heap t1 t2).get? (VJ s.heap t1 t2).objs.size=some _:=bY _ (cI _ rfl);have e3:(QB s.heap t1 t2).get? ((s.heap.push (zT t1)).push (zT t2)).objs.size=some _:=bY _ (bY _ (cI _ rfl));have e2:(QB s.heap t1 t2).get? (s.heap.push (zT t1)).objs.size=some _:=bY _ (bY _ (bY _ (cI _ rfl)));have e1:(QB s.heap t1 t2).get? s.heap.objs.size=some _:=bY _ (bY _ (bY _ (bY _ (cI _ rfl))));change _/\_;rw[n2,n3,n4] at e5;rw[n1,n2] at e3;rw[n3] at e4;rw[n1] at e2;rw[n4];exact⟨⟨_,e5,rfl⟩,q _ e5 e3 e4 ⟨_,e1,rfl,rfl⟩ ⟨_,e2,rfl,rfl⟩ fun c o y=>
  bY _ (bY _ (bY _ (bY _ (bY _ y))))⟩
end
theorem aU.J7{X:Cx}{ag:List (Addr×Obj)}{σ:St}{H:Hp}{s:Shared}{h':Heap}{t':Nat}{ch:List Addr}(I:aU X ag σ H s)(fe:∀e∈ch,jP X ag H e)(k:∀b o,b∉ch->s.heap.get? b=some o->h'.get? b=some o):aU X ag σ H { s with heap:=h',toks:=t' }:=by
 have Mb:∀b u,H b=some u->b∉ch:=fun b u e z=>by rw[(fe b z).1] at e;cases e
 refine I.step (g':=s.gens) (d':=s.drawn) (ch:=ch) (fun b hb=>?_) (fun b o _ _ hc e _=>k b o hc e) (fun b o _ _ hc e _=>⟨o.slots,k b o hc e⟩) (fun _ _ _ _ n=>n) (fun b o hc e=>⟨o,k b o hc e⟩) (fun _ _ e=>e) (fun _ _ _ e=>e) (fun b ps e=>⟨#[],by rw[e];simp⟩) (fun m hm=>?_) (fun b u e=>?_) I.bare
 .obtain⟨_,f1,_,f3,f4,f5⟩:=fe b hb;exact⟨f3,f1,f4,f5⟩
 .obtain⟨o,es,ep,ho,r⟩:=hm;exact⟨o,es,ep,k _ o (fun z=>(fe _ z).2.1 rfl) ho,r⟩
 .refine(I.b_ b u e).oz (fun c v hc q=>k c v ?_ q) (fun _ q=>q) fun _ _ q=>q;rcases hc with z|z
  .rw[z];exact Mb b u e
  .exact Mb c _ z
theorem aU.J8{X:Cx}{ag:List (Addr×Obj)}{σ:St}{H:Hp}{s:Shared}{h':Heap}{p:Addr}{t':Nat}{ch:List Addr}{xs:List V}{its:List Value}(I:aU X ag σ H s)(fe:∀e∈ch,jP X ag H e)(k:∀b o,b∉ch->s.heap.get? b=some o->h'.get? b=some o)(hp:s.heap.objs.size<=p)(hl:xs.length<=sizeLine)(r:ba xs its)(ht:h'.get? p=some { cls:=.type "tuple",data:=.seq its.toArray }):aU X ag σ (upd H p (.tup xs)) { s with heap:=h',toks:=t' }:=by
 have hn:=I.b_.fresh hp;have ne:∀b o,s.heap.get? b=some o->b≠p:=fun b o q=>bg (cQ (bh q) hp);have Mb:∀b u,H b=some u->b∉ch:=fun b u e z=>by rw[(fe b z).1] at e;cases e
 refine I.step (g':=s.gens) (d':=s.drawn) (ch:=ch) (fun b hb=>?_) (fun b o _ _ hb q _=>k b o hb q) (fun b o _ _ hb q _=>⟨o.slots,k b o hb q⟩) (fun b o hb q n=>by rw[am (ne b o q)];exact n) (fun b o hb q=>⟨o,k b o hb q⟩)
  (fun b ys q=>by rw[am (ao q hn)];exact q) (fun b o u q=>by rw[am (ao q hn)];exact q) (fun b ps q=>⟨#[],by rw[am (ao q hn),q];simp⟩) (fun m hm=>?_) (fun b o q=>?_) I.bare
 .obtain⟨_,f1,_,f3,f4,f5⟩:=fe b hb;exact⟨f3,f1,f4,f5⟩
 .obtain⟨o,es,ep,q,d,r'⟩:=hm;exact⟨o,es,ep,k _ _ (fun z=>(fe _ z).2.1 rfl) q,d,r'⟩
 .by_cases hb:b=p
  .subst hb;rw[ae] at q;cases q;exact⟨hl,its,r,_,ht,rfl,_,rfl,rfl⟩
  .rw[am hb] at q;refine(I.b_ b o q).oz (fun c u hc z=>k c u ?_ z) (fun c z=>by rw[am (ao z hn)];exact z) fun c ys z=>by rw[am (ao z hn)];exact z
   rcases hc with rfl|hc
   .exact Mb _ _ q
   .exact Mb _ _ hc
def QC(K:PySem.W.Frag)(a b:Addr):It:=
 ⟨fun i H=>∃xs ys x y,bv K H a xs/\bv K H b ys/\xs[i]?=some x/\ys[i]?=some y,fun i H v H'=>∃p x y,v=.ref p/\H p=none/\H'=upd H p (.tup [x,y])/\(∀xs,bv K H a xs->xs[i]?=some x)/\∀ys,bv K H b ys->ys[i]?=some y,fun i H=>∃xs,bv K H a xs/\xs.length<=i⟩
theorem Gk{P:Program}{w:World}{K:PySem.W.Frag}{es:List Expr}{x1:Nat}{pos:Pos}(a b z ti tq i1 i2:Addr)(dj:ZipApart z ti tq i1 i2 a b):
  z8 P w K (.Tuple es x1 pos) (QC K a b) [z,ti,tq,i1,i2] z (fun i h=>IsZip h z ti tq .none/\IsPair h ti (.ref i1) (.ref i2)/\(∃u v,IsPair h tq u v)/\h.IsTupleIter i1 a i/\h.IsTupleIter i2 b i) where
 mem:=by simp
 obj:=fun i h st c hc=>by
  obtain⟨gz,gi,⟨u,v,gq⟩,⟨o1,q1,c1,d1⟩,⟨o2,q2,c2,d2⟩⟩:=st;simp only[bK,j5,j_] at hc;rcases hc with rfl|rfl|rfl|rfl|rfl
  .exact⟨_,gz,fun v z=>by have z':Data.fields _=Data.cell v:=z;cases z'⟩
  .exact⟨_,gi,fun v z=>by have z':Data.seq _ _=Data.cell v:=z;cases z'⟩
  .exact⟨_,gq,fun v z=>by have z':Data.seq _ _=Data.cell v:=z;cases z'⟩
  .exact⟨o1,q1,fun v z=>by rw[d1] at z;cases z⟩
  .exact⟨o2,q2,fun v z=>by rw[d2] at z;cases z⟩
 keep:=fun i h h' st k=>by
  obtain⟨gz,gi,⟨u,v,gq⟩,r1,r2⟩:=st;exact⟨k z (by simp) _ gz,k ti (by simp) _ gi,⟨u,v,k tq (by simp) _ gq⟩,r1.at fun o q=>k i1 (by simp) o q,r2.at fun o q=>k i2 (by simp) o q⟩
 item:=by
  intro X hP hw hK hc i ag s σ H E I hf st hg;subst hP hw hK;obtain⟨xs,ys,x,y,hx,hy,ex,ey⟩:=hg;obtain⟨us,rx,px,_⟩:=I.tuple hx;obtain⟨vs,ry,py,_⟩:=I.tuple hy;obtain⟨u,hu,ru⟩:=rx.get ex;obtain⟨v,hv,rv⟩:=ry.get ey;obtain⟨gz,gi,⟨u0,v0,gq⟩,r1,r2⟩:=st;refine AM dj gz gi gq r1 r2 (show s.heap.IsTuple a us.toArray from px) (show s.heap.IsTuple b vs.toArray from py) (x:=u) (y:=v) (by simpa using hu) (by simpa using hv) fun h1 J5 gq1 r11 r21 gp1 kp=>?_;refine⟨_,rfl,wpAny_letOwnedTupleGo_zip J5 fun h2 VI i9=>?_⟩;have zl:z<s.heap.objs.size:=bh gz;have nz:s.heap.objs.size≠z:=jo zl;have kp2:∀c o,c∉[z,tq,i1,i2]->s.heap.get? c=some o->h2.get? c=some o:=fun c o hc e=>by
   simp only[bK,j5,j_,not_or] at hc;exact cJ i9 hc.1 (kp c o hc.1 hc.2.1 hc.2.2.1 hc.2.2.2 e)
  have gi2:IsPair h2 ti (.ref i1) (.ref i2):=kp2 _ _ (by simp only[bK,j5,j_,not_or];exact⟨dj.TIz,dj.TITO,dj.TIi1,dj.TIi2⟩) gi;have fe:∀e∈[z,tq,i1,i2],jP X ag H e:=fun e he=>hf e (by simp only[bK,j5,j_] at he |-;rcases he with h|h|h|h <;> simp[h]);have I2:aU X ag σ (upd H s.heap.objs.size (.tup [x,y])) { s with heap:=h2,toks:=s.toks }:=
   I.J8 (its:=[u,v]) fe kp2 (bt _) (by show 2<=sizeLine;decide) (.cons ru (.cons rv .nil)) (cJ i9 nz gp1)
  refine⟨.ref s.heap.objs.size,_,I2,rfl,⟨_,x,y,rfl,I.b_.fresh (bt _),rfl,fun zs hz=>by rw[I.hW hz hx];exact ex,fun zs hz=>by rw[I.hW hz hy];exact ey⟩,⟨VI,gi2,⟨u,v,cJ i9 dj.TOz gq1⟩,fT r11 i9 dj.i1z,fT r21 i9 dj.i2z⟩,fun c hc=>?_⟩;have f0:=(hf c hc).1;have cl:c<s.heap.objs.size:=by
   simp only[bK,j5,j_] at hc;rcases hc with rfl|rfl|rfl|rfl|rfl
   .exact zl
   .exact bh gi
   .exact bh gq
   .obtain⟨o,q,_⟩:=r1;exact bh q
   .obtain⟨o,q,_⟩:=r2;exact bh q
  rw[am (bg cl)];exact f0
 done:=by
  intro X hP hw hK hc i ag s σ H E I hf st hg;subst hP hw hK;obtain⟨xs,hx,hi⟩:=hg;obtain⟨us,rx,px,_⟩:=I.tuple hx;obtain⟨gz,gi,⟨u0,v0,gq⟩,r1,r2⟩:=st;have hl:=rx.length;refine AN (I.ok.hd hc) dj gz gi r1 (show s.heap.IsTuple a us.toArray from px) (by simp;lia) fun h' kp=>⟨rfl,?_⟩
  have fe:∀e∈[z,i1],jP X ag H e:=fun e he=>hf e (by simp only[bK,j5,j_] at he |-;rcases he with h|h <;> simp[h]);refine I.J7 (t':=s.toks) fe fun c o hc e=>?_;simp only[bK,j5,j_,not_or] at hc;exact kp c o hc.1 hc.2 e
 self:=fun _ _ _ _ _ st h=>wpAny_pyIter_zip st.1 h
section
variable {X:Cx}
def SH(K:PySem.W.Frag)(ta:TA):TI:=fun σ H R=>ta σ H fun vs H1=>∃a b xs ys,vs=[.ref a,.ref b]/\bv K H1 a xs/\bv K H1 b ys/\xs.length=ys.length/\R (QC K a b) H1
theorem v8{es:List Expr}{x1:Nat}{Nx:Pos}{a b:Expr}{ta:TA}{p pos:Pos}(hg:Gl X "zip")(hm:X.mg "zip"=none)(ha:PA X [a,b] ta)(hs:starEach [a,b] X.env=[(false,eval a X.env),(false,eval b X.env)]:=by rfl)(uc:starEach [b] X.env=[(false,eval b X.env)]:=by rfl):
  PI X (.Tuple es x1 Nx) (.Call (.Name "zip" p) [a,b] [] pos) (SH X.K ta):=by
 intro ag s σ H R I h;refine Call_ (lT I hg hm PyProof.Rows.boot_zip (uS (cV (ha pos ag s σ H _ I h) fun us s1 ⟨vs,H1,I1,r1,q1⟩=>?_) (by rw[hs,uc]) (by rw[uc];rfl)));obtain⟨l,m,xs,ys,rfl,hl,hm',J4,q⟩:=q1;obtain⟨u1,u2,rfl,ru1,ru2⟩:=r1.two;obtain rfl:u1=Value.ref l:=ru1;obtain rfl:u2=Value.ref m:=ru2;obtain⟨its,rv,pt,_⟩:=I1.tuple hl;obtain⟨ku,rv2,Qq,_⟩:=I1.tuple hm';have eZ:l<s1.heap.objs.size:=by obtain⟨o,e,_⟩:=pt;exact bh e
 have Gm:m<s1.heap.objs.size:=by obtain⟨o,e,_⟩:=Qq;exact bh e
 refine DJ (show s1.heap.IsTuple l its.toArray from pt) (show s1.heap.IsTuple m ku.toArray from Qq) fun h' gz gi gq r1 r2 k=>?_;refine wpAny_pyIter_zip gz ?_;have I2:aU X ag σ H1 { s1 with heap:=h' }:=I1.kept (t':=s1.toks) k;refine⟨s1.heap.objs.size+4,[s1.heap.objs.size+4,s1.heap.objs.size+2,s1.heap.objs.size+3,s1.heap.objs.size,s1.heap.objs.size+1],_,_,H1,rfl,I2,Gk l m _ _ _ _ _ (zipApart_new eZ Gm),⟨gz,gi,⟨_,_,gq⟩,r1,r2⟩,fun b hb=>?_,q⟩;have yO:s1.heap.objs.size<=b:=by
  simp only[bK,j5,j_] at hb;rcases hb with rfl|rfl|rfl|rfl|rfl
  .exact va _ _
  .exact va _ _
  .exact va _ _
  .exact bt _
  .exact va _ _
 exact I1.E6 yO (I1.b_.fresh yO)
theorem yf{K:PySem.W.Frag}{a b D:Addr}{xs ys:List V}{g:TG}{tt:TT}{te:TE}{dG:Hp->Prop}{σB:St}{H0:Hp}(J4:xs.length=ys.length)(Pv:Nat->List V->St->Hp->Prop)(h0:Pv 0 [] σB H0)(hl:∀i zs σ H,i<=xs.length->Pv i zs σ H->bv K H a xs/\bv K H b ys)(hs:∀i x y p zs σ H (Kt:V->St->Hp->Prop) (Kf:St->Hp->Prop),xs[i]?=some x->ys[i]?=some y->Pv i zs σ H->H p=none->
   (∀v σ2 H4,H4 D=some (.lst zs)->zs.length<sizeLine->Pv (i+1) (zs++[v]) σ2 (upd H4 D (.lst (zs++[v])))->Kt v σ2 H4)->(∀σ2 H3,Pv (i+1) zs σ2 H3->Kf σ2 H3)->
   g (.ref p) σ (upd H p (.tup [x,y])) fun σ2 H2=>tt σ2 H2 fun b H3=>if b=true then te σ2 H3 fun v H4=>Kt v σ2 H4 else Kf σ2 H3)(hd:∀zs σ H,Pv xs.length zs σ H->dG H):gI (QC K a b) g tt te D dG σB H0:=by
 refine⟨fun i m σ H=>m=xs.length-i/\i<=xs.length/\∃zs,Pv i zs σ H,⟨xs.length,by simp,cM _,[],h0⟩,?_⟩;rintro i m σ H ⟨rfl,hi,zs,p⟩;obtain⟨q1,q2⟩:=hl i zs σ H hi p;by_cases eZ:i<xs.length
 .have Gm:i<ys.length:=by lia
  refine .inr ⟨⟨xs,ys,xs[i],ys[i],q1,q2,by simp[eZ],by simp[Gm]⟩,?_⟩;rintro v H' ⟨pp,x,y,rfl,hn,rfl,N5,SI⟩;exact hs i x y pp zs σ _ (fun v σ2 H4=>∃zs,H4 D=some (.lst zs)/\zs.length<sizeLine/\∃m',m'<xs.length-i/\m'=xs.length-(i+1)/\i+1<=xs.length/\∃yR,Pv (i+1) yR σ2 (upd H4 D (.lst (zs++[v]))))
   (fun σ2 H3=>∃m',m'<xs.length-i/\m'=xs.length-(i+1)/\i+1<=xs.length/\∃yR,Pv (i+1) yR σ2 H3) (N5 xs q1) (SI ys q2) p hn
   (fun v σ2 H4 z1 z2 z3=>⟨zs,z1,z2,_,by lia,rfl,eZ,_,z3⟩) (fun σ2 H3 z=>⟨_,by lia,rfl,eZ,_,z⟩)
 .have e:i=xs.length:=by lia
  subst e;exact .inl ⟨⟨xs,q1,bt _⟩,hd zs σ H p⟩
theorem l6(rx:ba xs us)(ry:ba ys vs)(fx:xs.all dA=true)(fy:ys.all dA=true):
  ∀j (h1:j<us.toArray.size) (h2:j<vs.toArray.size),SeqAt.EqAt A s us.toArray[j] vs.toArray[j] (jL (xs.getD j .bD) (ys.getD j .bD)):=by
 intro j h1 h2;have j1:j<xs.length:=by rw[rx.length];simpa using h1
 have j2:j<ys.length:=by rw[ry.length];simpa using h2
 have e1:xs[j]?=some (xs.getD j .bD):=by rw[aY,bB j1];rfl
 have e2:ys[j]?=some (ys.getD j .bD):=by rw[aY,bB j2];rfl
 obtain⟨u,Xi,ru⟩:=rx.get e1;obtain⟨v,N5,rv⟩:=ry.get e2;have eu:us.toArray[j]=u:=by
  have:us[j]?=some us.toArray[j]:=by simp at h1 |-
  rw[Xi] at this;exact(bP this).symm
 have ev:vs.toArray[j]=v:=by
  have:vs[j]?=some vs.toArray[j]:=by simp at h2 |-
  rw[N5] at this;exact(bP this).symm
 rw[eu,ev];exact Fs ru rv (g8.mp fx _ (df e1)) (g8.mp fy _ (df e2))
theorem Gn(I:aU X ag σ H s)(hu:A.units+1<cLine)(ha:bv X.K H a xs)(hb:bv X.K H b ys)(hl:xs.length=ys.length)(fx:xs.all dA=true)(fy:ys.all dA=true):
  SeqAt.EqAt A s (.ref a) (.ref b) (iI jL xs ys):=by
 by_cases pS:a=b
 .subst pS;have e1:=I.hW ha hb;subst e1;have e2:iI jL xs xs=true:=by
   clear ha hb hl fy;induction xs with
   |nil=>rfl
   |cons x xs ih=>
    rw[jm,fA] at fx;rw[iI,ih fx.2,vp];cases x <;> first|rfl|(show (_==_)=true;simp)|exact absurd (show false=true from fx.1) cF
  rw[e2];exact SeqAt.EqAt.same _
 .obtain⟨us,r1,p1,_⟩:=I.tuple ha;obtain⟨vs,r2,p2,_⟩:=I.tuple hb;have h:=SeqAt.RcAt.tuples (A:=A) (s:=s) (l:=a) (b:=b) (e:=fun i=>jL (xs.getD i .bD) (ys.getD i .bD)) (show s.heap.IsTuple a us.toArray from p1) (show s.heap.IsTuple b vs.toArray from p2) (by lia)
   (l6 r1 r2 fx fy)
  refine SeqAt.EqAt.of_refs pS ?_;have er:((List.range (min us.toArray.size vs.toArray.size)).all (fun i=>jL (xs.getD i .bD) (ys.getD i .bD))&&us.toArray.size==vs.toArray.size)=iI jL xs ys:=by
   rw[bJ,bJ,<-r1.length,<-r2.length,<-hl,Nat.min_self,beq_self_eq_true,vp,kD hl]
  rw[er] at h;exact h
theorem AO{p q:Int×Int}:iI jL [.int p.1,.int p.2] [.int q.1,.int q.2]=decide (p=q):=by
 obtain⟨a,b⟩:=p;obtain⟨c,d⟩:=q;show ((a==c)&&((b==d)&&true))=decide ((a,b)=(c,d));by_cases h1:a=c <;> by_cases h2:b=d <;> simp[h1,h2]
def SJ(K:PySem.W.Frag)(neg:Bool):R2:=fun x y H Q=>∃ (p l:Addr) (u:Int×Int) (as:List Addr) (ps:List (Int×Int)),x=.ref p/\y=.ref l/\bv K H p [.int u.1,.int u.2]/\aZ K H l (as.map V.ref)/\as.length=ps.length/\(∀i,i<ps.length->bv K H (as.getD i 0) [.int (ps.getD i (0,0)).1,.int (ps.getD i (0,0)).2])/\
 Q (.bl (if neg then !decide (u∈ps) else decide (u∈ps))) H
open Classical in
theorem Ch(I:aU X ag σ H s):∀ {as:List Addr} {ps:List (Int×Int)},as.length=ps.length->(∀i,i<ps.length->bv X.K H (as.getD i 0) [.int (ps.getD i (0,0)).1,.int (ps.getD i (0,0)).2])->
  ((as.map Value.ref).any fun v=>decide (∃a,v=Value.ref a/\bv X.K H a [.int u.1,.int u.2]))=decide (u∈ps)
 |[],[],_,_=>by simp
 |a::as,p::ps,hl,h=>by
  have ih:=Ch I (u:=u) (as:=as) (ps:=ps) (by simpa using hl) (fun i hi=>h (i+1) (by simpa using hi));have h0:bv X.K H a [.int p.1,.int p.2]:=h 0 (by simp);rw[fu,ot,ih];have e:decide (∃b,Value.ref a=Value.ref b/\bv X.K H b [.int u.1,.int u.2])=decide (u=p):=by
   rw[jJ,u7,u7];constructor
   .rintro⟨b,e,hb⟩;cases e;have:=I.hW h0 hb;have e1:p.1=u.1:=V.int.inj (oq this).1;have e2:p.2=u.2:=V.int.inj (oq (oq this).2).1;exact gm e1.symm e2.symm
   .rintro rfl;exact⟨a,rfl,h0⟩
  rw[e];by_cases z:u=p
  .simp[z]
  .simp[z]
open Classical in
theorem Go{ag:List (Addr×Obj)}{σ:St}{H:Hp}{s:Shared}{A:Around}(I:aU X ag σ H s)(hu:A.units+1<cLine){p:Addr}{u:Int×Int}(hp:bv X.K H p [.int u.1,.int u.2]){as:List Addr}{ps:List (Int×Int)}(hl:as.length=ps.length)(h:∀i,i<ps.length->bv X.K H (as.getD i 0) [.int (ps.getD i (0,0)).1,.int (ps.getD i (0,0)).2]):∀v∈as.map Value.ref,SeqAt.EqAt A s v (.ref p) (decide (∃a,v=Value.ref a/\bv X.K H a [.int u.1,.int u.2])):=by
 intro v hv;obtain⟨a,ha,rfl⟩:=bz.mp hv;obtain⟨i,hi,e⟩:=lB.mp ha;have hq:=h i (by lia);have ea:as.getD i 0=a:=by rw[aY,bB hi];exact e
 rw[ea] at hq;have z:=Gn (A:=A) I hu hq hp rfl rfl rfl;rw[AO] at z;have e:decide (∃b,Value.ref a=Value.ref b/\bv X.K H b [.int u.1,.int u.2])=decide (ps.getD i (0,0)=u):=by
  rw[jJ,u7,u7];constructor
  .rintro⟨b,e,hb⟩;cases e;have:=I.hW hq hb;exact gm (V.int.inj (oq this).1) (V.int.inj (oq (oq this).2).1)
  .intro e;rw[<-e];exact⟨a,rfl,hq⟩
 rw[e];exact z
open Classical in
theorem uH(hu:X.A.units+2<cLine):lU X (compareOp .NotIn) (SJ X.K true):=by
 intro ag s σ H x y v u Q I rx ry h;obtain⟨p,l,w,as,ps,rfl,rfl,hp,hl,c_,hps,q⟩:=h;obtain rfl:v=Value.ref p:=rx;obtain rfl:u=Value.ref l:=ry;obtain⟨its,r,pl,_⟩:=I.list hl;have e:=mZ r;subst e;refine SeqAt.notIn_listAt (fun v=>decide (∃a,v=Value.ref a/\bv X.K H a [.int w.1,.int w.2])) pl.isList (fun y hy=>Go I (by show X.A.units+1+1<cLine;lia) hp c_ hps y (by simpa using hy)) ⟨.bl _,H,I,rfl,?_⟩;rw[show (as.map Value.ref).toArray.any (fun v=>decide (∃a,v=Value.ref a/\bv X.K H a [.int w.1,.int w.2]))=(as.map Value.ref).any (fun v=>decide (∃a,v=Value.ref a/\bv X.K H a [.int w.1,.int w.2])) by simp,Ch I c_ hps];exact q
def SK(K:PySem.W.Frag)(t:Ni):TG:=fun v σ H Q=>∃a x y,v=.ref a/\aZ K H a [x,y]/\t [x,y] σ H Q
theorem J9{es:List Expr}{k:Nat}{t:Ni}{pos:Pos}(hc:X.calm=true)(h:Re X es t)(hn:(assignEach es X.env).length=2:=by rfl)(km:(assignEach es X.env).findIdx? (·.1)=none:=by rfl):PG X (.Tuple es k pos) (SK X.K t):=by
 intro ag s σ H v u Q I r hw;obtain⟨a,x,y,e1,hq,hw⟩:=hw;subst e1;cases r;obtain⟨its,rv,ht,hz⟩:=I.list hq;obtain⟨u1,u2,rfl,r1,r2⟩:=rv.two;have eZ:a≠s.heap.objs.size:=by
  obtain⟨o,ho,_⟩:=ht.isList;exact bg (bh ho)
 rw[assign_Tuple];refine aD (lN ?_);unfold unpack;rw[hn,km];refine aD (fZ ?_);unfold unpackItems;refine aD ?_;unfold notIterableAtAll;refine aD (wpAny_specialOf ht.isList.typeIs slot_list_iter.lookup (wpAny_pure ?_));simp only[jZ,gh];refine aD (fZ (n_ ht.isList ?_));have hL0:(s.heap.push { cls:=.type "list_iterator",data:=.fields #[.ref a,.int 0 0] }).IsList a [u1,u2].toArray:=ht.isList.push _;refine aD (fZ ?_);change wpAny _ _ (pyNext (.ref s.heap.objs.size) >>= _) _ _ _;refine aD (qS (it:=s.heap.objs.size) (l:=a) (i:=0) (s:={ s with heap:=s.heap.push { cls:=.type "list_iterator",data:=.fields #[.ref a,.int 0 0] } }) ⟨_,cI _ rfl,rfl,rfl⟩ hL0 (x:=u1) rfl fun h1 it1 mr=>?_);refine aD (fZ ?_);change wpAny _ _ (pyNext (.ref s.heap.objs.size) >>= _) _ _ _;have v9:h1.IsList a [u1,u2].toArray:=hL0.extBut mr.extBut eZ;refine aD (qS (s:={ s with heap:=h1 }) it1 v9 (x:=u2) rfl fun h2 it2 i9=>?_);have QD:h2.IsList a [u1,u2].toArray:=v9.extBut i9.extBut eZ;refine aD (fZ (wpAny_pure (wpAny_pure (wpAny_pure ?_))));rw[aq (by simp)];refine aD (fZ (uZ (s:={ s with heap:=h2 }) (I.ok.hd hc) it2 QD rfl fun h3 eb3=>?_));simp only[Option.isSome_none,jZ,gh];refine wpAny_pure ?_;have I1:aU X ag σ H { s with heap:=h3 }:=I.kept (t':=s.toks) fun b o e=>by
  have nb:b≠s.heap.objs.size:=bg (bh e);exact eb3 b o nb (i9.extBut b o nb (mr.extBut b o nb (bY _ e)))
 exact h ag _ σ H [x,y] _ Q I1 (.cons r1 (.cons r2 .nil)) hw
end
theorem yg{h:Heap}{vs:List Value}{out:Array Value}:(∃e,(sortedAll h vs out).get? (h.objs.size+1)=some (seqObj "list" out e))/\∀b u,h.get? b=some u->(sortedAll h vs out).get? b=some u:=by
 have Oe:((h.push (seqObj "list" #[] 0)).update h.objs.size (Obj.mapSeq (·++vs.toArray))).objs.size=h.objs.size+1:=by rw[hZ,ic]
 have k1:∀b u,h.get? b=some u->(((h.push (seqObj "list" #[] 0)).update h.objs.size (Obj.mapSeq (·++vs.toArray))).push (seqObj "list" vs.toArray 0)).get? b=some u:=fun b u e=>by
  have hb:b<h.objs.size:=bh e;rw[fX _ _ _ (by rw[Oe];exact bg (dC hb)),jX _ _ _ _ (bg hb),fX _ _ _ (bg hb)];exact e
 have C1:(((h.push (seqObj "list" #[] 0)).update h.objs.size (Obj.mapSeq (·++vs.toArray))).push (seqObj "list" vs.toArray 0)).get? (h.objs.size+1)=some (seqObj "list" vs.toArray 0):=by
  rw[<-Oe];exact cI _ rfl
 have DH:(((h.push (seqObj "list" #[] 0)).update h.objs.size (Obj.mapSeq (·++vs.toArray))).push (seqObj "list" vs.toArray 0)).objs.size=h.objs.size+2:=by rw[ic,Oe]
 unfold sortedAll;revert k1 C1 DH;generalize ((h.push (seqObj "list" #[] 0)).update h.objs.size (Obj.mapSeq (·++vs.toArray))).push (seqObj "list" vs.toArray 0)=h1;intro k1 C1 DH;obtain⟨e1,QA⟩:∃e1,(h1.update (h.objs.size+1) (Obj.mapSeq fun _=>(#[]:Array Value))).get? (h.objs.size+1)=some (seqObj "list" #[] e1):=⟨_,rj C1 (fun _=>#[])⟩
 have My:(((h1.update (h.objs.size+1) (Obj.mapSeq fun _=>(#[]:Array Value))).push (seqObj "tuple" vs.toArray 0)).push (seqObj "list" #[] 0)).get? (h.objs.size+1)=some (seqObj "list" #[] e1):=by
  rw[fX _ _ _ (by rw[ic,hZ,DH];exact bg (dC (jg _))),fX _ _ _ (by rw[hZ,DH];exact bg (jg _))];exact QA
 refine⟨⟨_,rj My (fun _=>out)⟩,fun b u e=>?_⟩;have hb:b<h.objs.size:=bh e;unfold sortedHeap;rw[jX _ _ _ _ (bg (dC hb)),fX _ _ _ (by rw[ic,hZ,DH];exact bg (dC (dC (dC hb)))),fX _ _ _ (by rw[hZ,DH];exact bg (dC (dC hb))),jX _ _ _ _ (bg (dC hb))];exact k1 b u e
end L2
namespace ix
abbrev Ts:=List (Int×Int)
def T(ts:Ts)(a b:Nat):Prop:=(((a:Nat):Int),((b:Nat):Int))∈ts
instance (ts:Ts) (a b:Nat):Decidable (T ts a b):=inferInstanceAs (Decidable (_∈_))
def eV(ts:Ts):Nat->Nat->Nat->Prop
 |0,a,b=>a=b
 |k+1,a,b=>∃c,eV ts k a c/\T ts c b
theorem eV.trans(h:eV ts k a b):∀ {l:Nat} {c:Nat},eV ts l b c->eV ts (k+l) a c
 |0,_,e=>by cases e;exact h
 |l+1,_,⟨d,w,t⟩=>⟨d,h.trans w,t⟩
theorem eV.one(h:T ts a b):eV ts 1 a b:=⟨a,rfl,h⟩
theorem eV.cons(h:T ts a b)(w:eV ts k b c):eV ts (k+1) a c:=by
 have:=(eV.one h).trans w;rwa [Nat.add_comm] at this
def uI(ts:Ts)(a b d:Nat):Prop:=eV ts d a b/\∀k,eV ts k a b->d<=k
theorem uI.uniq(h:uI ts a b d)(g:uI ts a b e):d=e:=Nat.le_antisymm (h.2 _ g.1) (g.2 _ h.1)
open Classical in
noncomputable def o0(ts:Ts)(a b:Nat):Nat:=if h:∃d,uI ts a b d then h.choose else 0
theorem Of(h:uI ts a b d):o0 ts a b=d:=by
 unfold o0;have hx:∃d,uI ts a b d:=⟨d,h⟩
 rw[dif_pos hx];exact hx.choose_spec.uniq h
structure cT(n:Nat)(ts:Ts):Prop where
 n1:2<=n
 n2:n<=32
 nd:ts.Nodup
 rg:∀t∈ts,(0<=t.1/\t.1<n)/\(0<=t.2/\t.2<n)
 ne:∀t∈ts,t.1≠t.2
 DK:∀h:Int,(ts.filter fun t=>decide (t.1=h)).length=(ts.filter fun t=>decide (t.2=h)).length
 most:∀h:Int,(ts.filter fun t=>decide (t.1=h)).length<=8
 con:∀a b,a<n->b<n->∃k,eV ts k a b
theorem DL(f:α->Int):∀ (l:List α) (n:Nat),(∀x∈l,0<=f x/\f x<n)->(∀h:Int,(l.filter fun t=>decide (f t=h)).length<=8)->l.length<=8*n:=by
 intro l n;induction n generalizing l with
 |zero=>
  intro h _;cases l with
  |nil=>simp
  |cons x xs=>have:=h x bW;lia
 |succ n ih=>
  intro h h8;have e:l.length=(l.filter fun t=>decide (f t=(n:Int))).length+(l.filter fun t=>!decide (f t=(n:Int))).length:=by
   induction l with
   |nil=>rfl
   |cons x xs ih2=>
    have:=ih2 (fun y hy=>h y (cX _ hy)) (fun hh=>bC (by rw[dX];split <;> simp) (h8 hh));by_cases q:f x=(n:Int) <;> simp[dX,q] <;> lia
  have i2:=ih (l.filter fun t=>!decide (f t=(n:Int))) (fun x hx=>by
   have a:=h x (dD.mp hx |>.1);have b:=(dD.mp hx).2;simp at b;lia) (fun hh=>by
   refine bC ?_ (h8 hh);exact(u6.filter _).length_le)
  have:=h8 (n:Int);lia
theorem cT.len(F:cT n ts):ts.length<=256:=by
 have:=DL (·.1) ts n (fun t ht=>(F.rg t ht).1) F.most;have:=F.n2;lia
theorem cT.tlt(F:cT n ts)(h:T ts a b):a<n/\b<n/\a≠b:=by
 have q:=F.rg _ h;have q2:=F.ne _ h;refine⟨by have:=q.1;simp at this;lia,by have:=q.2;simp at this;lia,fun e=>q2 (by rw[e])⟩
def bn(n:Nat)(ts:Ts)(h:Nat):List Nat:=((List.range n).map fun s=>(h+s) % n).filter fun o=>decide (T ts h o)
theorem fc(F:cT n ts)(hh:h<n):o∈bn n ts h↔T ts h o:=by
 unfold bn;rw[dD,qV];refine⟨fun z=>z.2,fun z=>⟨?_,z⟩⟩;obtain⟨_,h2,_⟩:=F.tlt z;refine bz.mpr ⟨if h<=o then o-h else o+n-h,bQ.mpr (by split <;> lia),?_⟩;split
 .rw[show h+(o-h)=o by lia,je h2]
 .rw[show h+(o+n-h)=o+n by lia,Nat.add_mod_right,je h2]
theorem v_(F:cT n ts)(hh:h<n)(ho:o∈bn n ts h):o<n:=(F.tlt ((fc F hh).mp ho)).2.1
def key(n h o:Nat):Int:=((o:Int)-(h:Int)) % (n:Int)
theorem oX(hh:h<n)(hs:s<n):key n h ((h+s) % n)=(s:Int):=by
 unfold key;by_cases c:h+s<n
 .rw[je c,show (((h+s:Nat):Int)-(h:Int))=(s:Int) by lia];exact Int.emod_eq_of_lt (by lia) (by lia)
 .have e:(h+s) % n=h+s-n:=by
   rw[Nat.mod_eq_sub_mod (by lia),je (by lia)]
  rw[e,show ((((h+s-n:Nat)):Int)-(h:Int))=(s:Int)-(n:Int) by lia,Int.sub_emod_right];exact Int.emod_eq_of_lt (by lia) (by lia)
theorem pT(hh:h<n):(bn n ts h).Pairwise fun a b=>key n h a<key n h b:=by
 unfold bn;refine List.Pairwise.filter _ ?_;refine i0.mpr ?_;refine EW ?_ (List.pairwise_lt_range (n:=n));intro a b ha hb pS;rw[oX hh (bQ.mp ha),oX hh (bQ.mp hb)];lia
theorem pU{α:Type}{k:α->Int}:∀ {a b:List α},a.Pairwise (fun x y=>k x<k y)->b.Pairwise (fun x y=>k x<k y)->(∀x,x∈a↔x∈b)->a=b
 |[],[],_,_,_=>rfl
 |[],y::ys,_,_,h=>absurd ((h y).mpr bW) (by simp)
 |x::xs,[],_,_,h=>absurd ((h x).mp bW) (by simp)
 |x::xs,y::ys,ha,hb,h=>by
  obtain⟨a1,a2⟩:=qU.mp ha;obtain⟨b1,b2⟩:=qU.mp hb;have e:x=y:=by
   rcases bK.mp ((h x).mp bW) with z|z
   .exact z
   .rcases bK.mp ((h y).mpr bW) with z'|z'
    .exact z'.symm
    .have q1:=b1 x z;have q2:=a1 y z';lia
  subst e;refine congrArg (x::·) (pU a2 b2 fun z=>⟨fun hz=>?_,fun hz=>?_⟩)
  .rcases bK.mp ((h z).mp (cX _ hz)) with q|q
   .subst q;exact absurd (a1 _ hz) (by lia)
   .exact q
  .rcases bK.mp ((h z).mpr (cX _ hz)) with q|q
   .subst q;exact absurd (b1 _ hz) (by lia)
   .exact q
structure yS(n:Nat)(ts:Ts)(s i:Nat)(R:List Nat)(f:Nat->Nat):Prop where
 nd:R.Nodup
 lt:∀x∈R,x<n
 st:s∈R
 z:f s=0
 wk:∀x∈R,eV ts (f x) s x
 up:R.Pairwise fun a b=>f a<=f b
 bd:∀u,R[i]?=some u->∀x∈R,f x<=f u+1
 cl:∀j u,j<i->R[j]?=some u->∀v,T ts u v->v∈R/\f v<=f u+1
theorem yS.start(hs:s<n):yS n ts s 0 [s] (fun _=>0):=
 ⟨by simp,fun x hx=>by simp at hx;lia,by simp,rfl,fun x hx=>by simp at hx;subst hx;rfl,by simp,fun u _ x _=>by lia,fun j u h=>absurd h (by lia)⟩
def put(f:Nat->Nat)(v k:Nat):Nat->Nat:=fun y=>if y=v then k else f y
theorem iq:put f v k v=k:=by simp[put]
theorem fm(h:x≠v):put f v k x=f x:=by simp[put,h]
theorem yS.add(B:yS n ts s i R f)(hu:R[i]?=some u)(hv:v<n)(t:T ts u v)(hn:v∉R):yS n ts s i (R++[v]) (put f v (f u+1)):=by
 have hur:u∈R:=df hu;have nv:∀x∈R,x≠v:=fun x hx e=>hn (e ▸ hx);have hi:i<R.length:=(cK.mp hu).1;refine⟨?_,fun x hx=>?_,fw _ B.st,by rw[fm (nv s B.st)];exact B.z,fun x hx=>?_,?_,fun w hw x hx=>?_,fun j w hj hw x hx=>?_⟩
 .rw[lF];exact⟨B.nd,by simp,fun a ha b hb e=>by simp at hb;subst hb;exact hn (e ▸ ha)⟩
 .rcases bS.mp hx with z|z
  .exact B.lt x z
  .simp at z;lia
 .rcases bS.mp hx with z|z
  .rw[fm (nv x z)];exact B.wk x z
  .simp at z;subst z;rw[iq];exact⟨u,B.wk u hur,t⟩
 .rw[List.pairwise_append];refine⟨B.up.imp_of_mem fun {a b} ha hb h=>by rw[fm (nv a ha),fm (nv b hb)];exact h,by simp,fun a ha b hb=>?_⟩;simp at hb;subst hb;rw[fm (nv a ha),iq];exact B.bd u hu a ha
 .have XJ:w=u:=by
   rw[iD hi,hu] at hw;exact(bP hw).symm
  subst XJ;rw[fm (nv w hur)];rcases bS.mp hx with z|z
  .rw[fm (nv x z)];exact B.bd w hu x z
  .simp at z;subst z;rw[iq];exact bt _
 .rw[iD (by lia)] at hw;obtain⟨a,b⟩:=B.cl j w hj hw x hx;refine⟨fw _ a,?_⟩;rw[fm (nv x a),fm (nv w (df hw))];exact b
theorem yS.next(B:yS n ts s i R f)(hu:R[i]?=some u)(h:∀v,T ts u v->v∈R/\f v<=f u+1):yS n ts s (i+1) R f:=by
 refine⟨B.nd,B.lt,B.st,B.z,B.wk,B.up,fun w hw x hx=>?_,fun j w hj hw v hv=>?_⟩
 .have h1:=B.bd u hu x hx;have h2:f u<=f w:=by
   have hi:i<R.length:=(cK.mp hu).1;have tQ:i+1<R.length:=(cK.mp hw).1;have:=ET.mp B.up i (i+1) hi tQ (by lia);rw[bB hi] at hu;rw[bB tQ] at hw;rw[bP hu,bP hw] at this;exact this
  lia
 .by_cases e:j=i
  .subst e;rw[hu] at hw;cases hw;exact h v hv
  .exact B.cl j w (by lia) hw v hv
theorem eK:∀ {n:Nat} {R:List Nat},R.Nodup->(∀x∈R,x<n)->R.length<=n:=by
 intro n R hn hl;have key:∀ (a b:List Nat),a.Nodup->(∀x∈a,x∈b)->a.length<=b.length:=by
  intro a;induction a with
  |nil=>intro b _ _;exact cM _
  |cons x xs ih=>
   intro b hn hs;obtain⟨h1,h2⟩:=fY.mp hn;have hx:x∈b:=hs x bW;have:=ih (b.erase x) h2 fun y hy=>(zk (fun (e:y=x)=>h1 (e ▸ hy))).mpr (hs y (cX _ hy));rw[y8 hx] at this;have:0<b.length:=uW hx;rw[dz];lia
 have:=key R (List.range n) hn fun x hx=>bQ.mpr (hl x hx);rwa [b8] at this
theorem yS.done(B:yS n ts s i R f)(F:cT n ts)(hi:R.length<=i)(hx:x<n):x∈R/\f x=o0 ts s x:=by
 have cl:∀u∈R,∀v,T ts u v->v∈R/\f v<=f u+1:=fun u hu v hv=>by
  obtain⟨j,hj,e⟩:=lB.mp hu;exact B.cl j u (by lia) (by rw[bB hj,e]) v hv
 have walk:∀k x,eV ts k s x->x∈R/\f x<=k:=by
  intro k;induction k with
  |zero=>intro x e;cases e;exact⟨B.st,by rw[B.z];exact bt _⟩
  |succ k ih=>
   rintro x ⟨c,w,t⟩;obtain⟨c1,c2⟩:=ih c w;obtain⟨d1,d2⟩:=cl c c1 x t;exact⟨d1,by lia⟩
 obtain⟨k,w⟩:=F.con s x (B.lt s B.st) hx;obtain⟨m,_⟩:=walk k x w;exact⟨m,(Of ⟨B.wk x m,fun k w=>(walk k x w).2⟩).symm⟩
theorem eV.mono(h:∀t∈ts,t∈XM):∀ {k a b:Nat},eV ts k a b->eV XM k a b
 |0,_,_,e=>e
 |_+1,_,_,⟨c,w,t⟩=>⟨c,w.mono h,h _ t⟩
structure yT(n:Nat)(ts:Ts):Prop where
 nd:ts.Nodup
 rg:∀t∈ts,(0<=t.1/\t.1<n)/\(0<=t.2/\t.2<n)
 ne:∀t∈ts,t.1≠t.2
 DK:∀h:Int,(ts.filter fun t=>decide (t.1=h)).length=(ts.filter fun t=>decide (t.2=h)).length
 most:∀h:Int,(ts.filter fun t=>decide (t.1=h)).length<=8
theorem cT.pre(F:cT n ts):yT n ts:=⟨F.nd,F.rg,F.ne,F.DK,F.most⟩
theorem yT.l7(P:yT n ts)(n1:2<=n)(n2:n<=32)(c:∀a b,a<n->b<n->∃k,eV ts k a b):cT n ts:=⟨n1,n2,P.nd,P.rg,P.ne,P.DK,P.most,c⟩
theorem cT.perm(F:cT n ts)(p:XM.Perm ts):cT n XM:=
  ⟨F.n1,F.n2,p.nodup_iff.mpr F.nd,fun t ht=>F.rg t (p.mem_iff.mp ht),fun t ht=>F.ne t (p.mem_iff.mp ht),fun h=>by rw[(p.filter _).length_eq,(p.filter _).length_eq];exact F.DK h,
   fun h=>by rw[(p.filter _).length_eq];exact F.most h,fun a b ha hb=>let ⟨k,w⟩:=F.con a b ha hb;⟨k,w.mono fun t ht=>p.mem_iff.mpr ht⟩⟩
theorem cT.app(F:cT n ts)(P:yT n (ts++us)):cT n (ts++us):=
 P.l7 F.n1 F.n2 fun a b ha hb=>let ⟨k,w⟩:=F.con a b ha hb;⟨k,w.mono fun t ht=>fw _ ht⟩
def pk(c k:Nat):Nat:=if k=0 then c-1 else k-1
abbrev ci(x:Nat):Int:=(x:Int)
def r0(xs:List Nat):Ts:=(List.range xs.length).map fun k=>(ci (xs.getD (pk xs.length k) 0),ci (xs.getD k 0))
theorem d5{xs:List Nat}{k:Nat}(h:k<xs.length):xs.getD k 0=xs[k]:=by rw[aY,bB h];rfl
theorem Ci(xs:List Nat):(r0 xs).map (·.2)=xs.map ci:=by
 unfold r0;rw[di];apply zQ
 .simp
 .intro i h1 h2;simp only[q0,zE,Function.comp];rw[d5 (by simpa using h2)]
theorem Cj(xs:List Nat):((r0 xs).map (·.1)).Perm (xs.map ci):=by
 cases hx:xs with
 |nil=>exact lM _
 |cons y ys=>
  rw[<-hx];have hl:xs.length=ys.length+1:=by rw[hx];rfl
  have e:(r0 xs).map (·.1)=ci (xs.getD (xs.length-1) 0)::(xs.take (xs.length-1)).map ci:=by
   unfold r0;rw[di];apply zQ
   .simp;lia
   .intro i h1 h2;simp only[q0,zE,Function.comp];cases i with
    |zero=>rfl
    |succ i=>
     have hi:i+1<xs.length:=by simpa using h1
     simp only[List.getElem_cons_succ,q0,List.getElem_take];unfold pk;rw[aq (by lia),show i+1-1=i by lia,d5 (by lia)]
  rw[e];have:xs.map ci=(xs.take (xs.length-1)).map ci++[ci (xs.getD (xs.length-1) 0)]:=by
   conv=>lhs;rw[<-pK (xs.length-1) xs]
   rw[dg];congr 1;rw[nQ (by lia),List.drop_eq_nil_of_le (by lia),d5 (by lia)];rfl
  rw[this];exact(List.perm_append_singleton _ _).symm
theorem jb(ts:Ts)(h:Int):(ts.filter fun t=>decide (t.1=h)).length=(ts.map (·.1)).count h:=by
 induction ts with
 |nil=>rfl
 |cons t ts ih=>by_cases e:t.1=h <;> simp[dX,List.count_cons,e,ih]
theorem o3(ts:Ts)(h:Int):(ts.filter fun t=>decide (t.2=h)).length=(ts.map (·.2)).count h:=by
 induction ts with
 |nil=>rfl
 |cons t ts ih=>by_cases e:t.2=h <;> simp[dX,List.count_cons,e,ih]
theorem yh{xs:List Nat}(h:xs.Nodup):(xs.map ci).Nodup:=by
 refine i0.mpr (h.imp fun {a b} pS e=>pS ?_);exact d8 e
theorem m6:∀ {l:List α},(l.map f).Nodup->l.Nodup
 |[],_=>jh
 |a::l,h=>by
  rw[fu] at h;obtain⟨h1,h2⟩:=fY.mp h;exact fY.mpr ⟨fun z=>h1 (bz.mpr ⟨a,z,rfl⟩),m6 h2⟩
theorem m9(h:t∈r0 xs):∃k,k<xs.length/\t=(ci (xs.getD (pk xs.length k) 0),ci (xs.getD k 0)):=by
 obtain⟨k,hk,rfl⟩:=bz.mp h;exact⟨k,bQ.mp hk,rfl⟩
theorem uJ(h:k<c):pk c k<c:=by unfold pk;split <;> lia
theorem o4{xs:List Nat}{k:Nat}(h:k<xs.length):xs.getD k 0∈xs:=by rw[d5 h];exact dH h
theorem o5{xs:List Nat}(nd:xs.Nodup){i j:Nat}(hi:i<xs.length)(hj:j<xs.length)(e:xs[i]=xs[j]):i=j:=by
 have pw:=ET.mp nd;rcases Nat.lt_trichotomy i j with z|z|z
 .exact absurd e (pw i j hi hj z)
 .exact z
 .exact absurd e.symm (pw j i hj hi z)
theorem wc{n:Nat}{xs:List Nat}(nd:xs.Nodup)(lt:∀x∈xs,x<n)(c2:2<=xs.length):yT n (r0 xs)/\∀h:Int,((r0 xs).filter fun t=>decide (t.1=h)).length<=1:=by
 have XN:((r0 xs).map (·.2)).Nodup:=by rw[Ci];exact yh nd
 have one:∀h:Int,((r0 xs).filter fun t=>decide (t.1=h)).length<=1:=fun h=>by
  rw[jb,(Cj xs).count_eq];exact List.nodup_iff_count.mp (yh nd) h
 refine⟨⟨m6 XN,fun t ht=>?_,fun t ht=>?_,fun h=>?_,fun h=>bC (one h) (by decide)⟩,one⟩
 .obtain⟨k,hk,rfl⟩:=m9 ht;have h1:=lt _ (o4 (uJ hk));have h2:=lt _ (o4 hk);simp only[ci];lia
 .obtain⟨k,hk,rfl⟩:=m9 ht;intro e;have e':xs.getD (pk xs.length k) 0=xs.getD k 0:=d8 e;rw[d5 (uJ hk),d5 hk] at e';have:=o5 nd (uJ hk) hk e';unfold pk at this;split at this <;> lia
 .rw[jb,o3,(Cj xs).count_eq,Ci]
theorem qG(P:yT n ts)(Q:yT n us)(hd:∀t∈us,t∉ts)(hm:∀h:Int,(ts.filter fun t=>decide (t.1=h)).length+(us.filter fun t=>decide (t.1=h)).length<=8):yT n (ts++us):=by
 refine⟨lF.mpr ⟨P.nd,Q.nd,fun a ha b hb e=>hd b hb (e ▸ ha)⟩,fun t ht=>?_,fun t ht=>?_,fun h=>?_,fun h=>?_⟩
 .rcases bS.mp ht with z|z
  .exact P.rg t z
  .exact Q.rg t z
 .rcases bS.mp ht with z|z
  .exact P.ne t z
  .exact Q.ne t z
 .rw[gZ,gZ,cf,cf,P.DK,Q.DK]
 .rw[gZ,cf];exact hm h
theorem DM(P:yT n ts)(nd:xs.Nodup)(lt:∀x∈xs,x<n)(c2:2<=xs.length)(hf:∀t∈r0 xs,(ts.filter fun u=>decide (u.1=t.1)).length<=7)(hn:∀t∈r0 xs,t∉ts):yT n (ts++r0 xs):=by
 obtain⟨Q,one⟩:=wc nd lt c2;refine qG P Q hn fun h=>?_;by_cases z:(r0 xs).filter (fun t=>decide (t.1=h))=[]
 .rw[z];simpa using P.most h
 .obtain⟨t,ht⟩:=List.exists_mem_of_ne_nil _ z;obtain⟨h1,h2⟩:=dD.mp ht;have e:t.1=h:=by simpa using h2
  have a:=hf t h1;rw[e] at a;have:=one h;lia
theorem Mz(hk:k<xs.length):T (r0 xs) (xs.getD (pk xs.length k) 0) (xs.getD k 0):=bz.mpr ⟨k,bQ.mpr hk,rfl⟩
theorem AQ(i:Nat):∀ (d:Nat),i+d<xs.length->eV (r0 xs) d (xs.getD i 0) (xs.getD (i+d) 0)
 |0,_=>rfl
 |d+1,h=>by
  refine⟨_,AQ i d (by lia),?_⟩;have:=Mz (xs:=xs) (k:=i+(d+1)) h;unfold pk at this;rw[aq (by lia)] at this;exact this
theorem uK{n:Nat}{xs:List Nat}(n1:2<=n)(n2:n<=32)(pm:xs.Perm (List.range n)):cT n (r0 xs):=by
 have hl:xs.length=n:=by rw[pm.length_eq,b8]
 have nd:xs.Nodup:=pm.nodup_iff.mpr ln;have lt:∀x∈xs,x<n:=fun x hx=>bQ.mp (pm.mem_iff.mp hx);refine(wc nd lt (by lia)).1.l7 n1 n2 fun a b ha hb=>?_;obtain⟨i,hi,ei⟩:=lB.mp (pm.mem_iff.mpr (bQ.mpr ha));obtain⟨j,hj,ej⟩:=lB.mp (pm.mem_iff.mpr (bQ.mpr hb));have w1:=AQ (xs:=xs) i (xs.length-1-i) (by lia);have t0:=Mz (xs:=xs) (k:=0) (by lia);have w3:=AQ (xs:=xs) 0 j (by lia);rw[show i+(xs.length-1-i)=xs.length-1 by lia] at w1;rw[show pk xs.length 0=xs.length-1 from rfl] at t0;rw[vq] at w3;have w:=w1.trans (eV.cons t0 w3);rw[d5 hi,d5 hj,ei,ej] at w;exact⟨_,w⟩
theorem r6:∀ (hs:List Nat) (ts:Ts),hs.Nodup->(∀h∈hs,8<=(ts.filter fun t=>decide (t.1=ci h)).length)->8*hs.length<=ts.length
 |[],_,_,_=>by simp
 |h::hs,ts,nd,hf=>by
  obtain⟨h1,h2⟩:=fY.mp nd;have e:ts.length=(ts.filter fun t=>decide (t.1=ci h)).length+(ts.filter fun t=>!decide (t.1=ci h)).length:=by
   clear hf;induction ts with
   |nil=>rfl
   |cons x xs ih2=>by_cases q:x.1=ci h <;> simp[dX,q] <;> lia
  have a:=hf h bW;have ih:=r6 hs (ts.filter fun t=>!decide (t.1=ci h)) h2 fun x hx=>by
   refine bC (hf x (cX _ hx)) (ow ?_);rw[List.filter_filter];congr 1;refine List.filter_congr fun t _=>?_;by_cases q:t.1=ci x
   .have:¬ t.1=ci h:=fun z=>h1 (by have:=d8 (z.symm.trans q);exact this ▸ hx);simp[q];rw[q] at this;exact this
   .simp[q]
  rw[dz];lia
structure r9(n:Nat)(os:List Nat)(k:Nat)(ts:Ts):Prop where
 pre:yT n ts
 ends:∀t∈ts,∃a b,a∈os.take k/\b∈os.take k/\t=(ci a,ci b)
 con:∀a b,a∈os.take k->b∈os.take k->∃j,eV ts j a b
 len:ts.length+2=2*k
theorem r9.start(h:0<os.length):r9 n os 1 []:=by
 refine⟨⟨jh,(fun t h=>nomatch h),(fun t h=>nomatch h),fun h=>rfl,fun h=>by simp⟩,(fun t h=>nomatch h),fun a b ha hb=>?_,rfl⟩;cases os with
 |nil=>simp at h
 |cons o os=>
  simp at ha hb;exact⟨0,by rw[ha,hb];rfl⟩
theorem r9.free{n:Nat}{os:List Nat}{k:Nat}{ts:Ts}(T:r9 n os k ts)(nd:os.Nodup)(hk:k<=os.length):∃h∈os.take k,(ts.filter fun t=>decide (t.1=ci h)).length<8:=by
 apply pJ;intro Fm;have:=r6 (os.take k) ts (nd.sublist (u_ _ _)) fun h hh=>pJ fun z=>Fm ⟨h,hh,by lia⟩;have hl:=T.len;rw[lq,zS hk] at this;lia
theorem r9.add(Tr:r9 n os k ts)(nd:os.Nodup)(lt:∀x∈os,x<n)(hv:os[k]?=some v)(hs:s∈os.take k)(hd:(ts.filter fun t=>decide (t.1=ci s)).length<8):r9 n os (k+1) (ts++[(ci s,ci v),(ci v,ci s)]):=by
 have tk:os.take (k+1)=os.take k++[v]:=by rw[fW,hv];rfl
 have nd1:(os.take k++[v]).Nodup:=by rw[<-tk];exact nd.sublist (u_ _ _)
 have vn:v∉os.take k:=fun z=>(lF.mp nd1).2.2 v z v (by simp) rfl;have sv:s≠v:=fun e=>vn (e ▸ hs);have vm:v∈os:=df hv;have sl:=lt s (lm hs);have vl:=lt v vm;have XO:∀t∈ts,t.1≠ci v/\t.2≠ci v:=fun t ht=>by
  obtain⟨a,b,ha,hb,rfl⟩:=Tr.ends t ht;exact⟨fun e=>vn (d8 e ▸ ha),fun e=>vn (d8 e ▸ hb)⟩
 have Q:yT n [(ci s,ci v),(ci v,ci s)]:=by
  have SL:ci s≠ci v:=fun e=>sv (d8 e);refine⟨?_,fun t ht=>?_,fun t ht=>?_,fun h=>?_,fun h=>bC (iE _ _) (by simp)⟩
  .simp[SL]
  .simp at ht;rcases ht with rfl|rfl <;> (simp only[ci];lia)
  .simp at ht;rcases ht with rfl|rfl
   .exact SL
   .exact SL.symm
  .by_cases a:ci s=h <;> by_cases b:ci v=h <;> simp[dX,a,b]
 have P2:yT n (ts++[(ci s,ci v),(ci v,ci s)]):=by
  refine qG Tr.pre Q (fun t ht z=>?_) fun h=>?_
  .simp at ht;rcases ht with rfl|rfl
   .exact(XO _ z).2 rfl
   .exact(XO _ z).1 rfl
  .have SL:ci s≠ci v:=fun e=>sv (d8 e);by_cases a:ci s=h
   .subst a;have b:¬ ci v=ci s:=SL.symm;simp only[dX,decide_true,iS,dO b];simp;lia
   .by_cases b:ci v=h
    .subst b;have z:ts.filter (fun t=>decide (t.1=ci v))=[]:=zg.mpr fun t ht=>by simpa using (XO t ht).1
     rw[z];exact bC (Nat.add_le_add_left (iE _ _) _) (by simp)
    .have:=Tr.pre.most h;simp[dX,a,b];exact this
 have up:∀t∈ts,t∈ts++[(ci s,ci v),(ci v,ci s)]:=fun t ht=>fw _ ht;have t1:T (ts++[(ci s,ci v),(ci v,ci s)]) s v:=iZ _ (by simp);have t2:T (ts++[(ci s,ci v),(ci v,ci s)]) v s:=iZ _ (by simp);have toS:∀a,a∈os.take k++[v]->∃j,eV (ts++[(ci s,ci v),(ci v,ci s)]) j a s:=fun a ha=>by
  rcases bS.mp ha with z|z
  .obtain⟨j,w⟩:=Tr.con a s z hs;exact⟨j,w.mono up⟩
  .simp at z;subst z;exact⟨1,eV.one t2⟩
 have ofS:∀b,b∈os.take k++[v]->∃j,eV (ts++[(ci s,ci v),(ci v,ci s)]) j s b:=fun b hb=>by
  rcases bS.mp hb with z|z
  .obtain⟨j,w⟩:=Tr.con s b hs z;exact⟨j,w.mono up⟩
  .simp at z;subst z;exact⟨1,eV.one t1⟩
 refine⟨P2,fun t ht=>?_,fun a b ha hb=>?_,?_⟩
 .rw[tk];rcases bS.mp ht with z|z
  .obtain⟨a,b,ha,hb,e⟩:=Tr.ends t z;exact⟨a,b,fw _ ha,fw _ hb,e⟩
  .simp at z;rcases z with rfl|rfl
   .exact⟨s,v,fw _ hs,by simp,rfl⟩
   .exact⟨v,s,by simp,fw _ hs,rfl⟩
 .rw[tk] at ha hb;obtain⟨i,w1⟩:=toS a ha;obtain⟨j,w2⟩:=ofS b hb;exact⟨i+j,w1.trans w2⟩
 .have:=Tr.len;rw[cf];simp;lia
theorem r9.l7(Tr:r9 n os n ts)(n1:2<=n)(n2:n<=32)(pm:os.Perm (List.range n)):cT n ts:=by
 have hl:os.length=n:=by rw[pm.length_eq,b8]
 refine Tr.pre.l7 n1 n2 fun a b ha hb=>Tr.con a b ?_ ?_
 .rw[qP (by lia)];exact pm.mem_iff.mpr (bQ.mpr ha)
 .rw[qP (by lia)];exact pm.mem_iff.mpr (bQ.mpr hb)
theorem r_(hh:h<n):(bn n ts h).Nodup:=(pT hh).imp fun {a b} pS e=>by subst e;lia
end ix
namespace L2
open PySem PySem.Spec PyProof.Rows
section
variable {X:Cx}
theorem yi:∀ {ns:List Int} {its:List Value},ba (ns.map V.int) its->∃xs:List (Int×Tok),its=xs.map (fun p=>Value.int p.1 p.2)/\xs.map (·.1)=ns
 |[],_,r=>by cases r;exact⟨[],rfl,rfl⟩
 |n::ns,_,r=>by
  cases r with
  |cons r rr=>
   obtain⟨t,rfl⟩:=(show ∃t,_=Value.int n t from r)
   obtain⟨xs,rfl,e⟩:=yi rr;exact⟨(n,t)::xs,rfl,by rw[fu,e]⟩
def SN(K:PySem.W.Frag):List V->Hp->VK->Prop:=fun xs H Q=>∃ (l:Addr) (ns:List Int),xs=[.ref l]/\aZ K H l (ns.map V.int)/\ns≠[]/\∀M,M∈ns->(∀a∈ns,a<=M)->Q (.int M) H
theorem uL(hc:X.calm=true):et X (.builtin "max") (SN X.K):=by
 intro ag s σ H xs us Q I r h;obtain⟨l,ns,rfl,hl,ur,q⟩:=h;obtain⟨u1,rfl,r1⟩:=r.one;obtain rfl:u1=Value.ref l:=r1;obtain⟨its,rv,pl,_⟩:=I.list hl;obtain⟨ps,rfl,rfl⟩:=yi rv;have hi:intItems ps.toArray=(ps.map (fun p=>Value.int p.1 p.2)).toArray:=by unfold intItems;simp
 have lc:0<ps.toArray.size:=by
  cases ps with
  |nil=>exact absurd rfl ur
  |cons p ps=>simp
 refine max_intList (I.ok.hd hc) (xs:=ps.toArray) (by rw[hi];exact pl.isList) lc fun v h' tk hv hk=>?_;obtain⟨t,rfl⟩:=intItems_at hv;obtain⟨h1,h2⟩:=argBest_gt (numAt ps.toArray) (ps.toArray.size-1);have num:∀j,j<ps.length->numAt ps.toArray j∈ps.map (·.1)/\numAt ps.toArray j=(ps.map (·.1)).getD j 0:=fun j hj=>by
  have e:numAt ps.toArray j=ps[j].1:=by unfold numAt;simp[bB hj]
  refine⟨by rw[e];exact bz.mpr ⟨_,dH hj,rfl⟩,?_⟩;rw[e,aY,cm,bB hj];rfl
 have hb:argBest (fun i j=>decide (numAt ps.toArray i > numAt ps.toArray j)) (ps.toArray.size-1)<ps.length:=by
  have:ps.toArray.size=ps.length:=by simp
  lia
 refine⟨.int _,H,I.kept (t':=tk) hk,⟨t,rfl⟩,q _ (num _ hb).1 fun a ha=>?_⟩;obtain⟨j,hj,e⟩:=lB.mp ha;rw[aP] at hj;have:=h2 j (by (have:ps.toArray.size=ps.length:=by simp);lia);rw[(num j hj).2,aY,bB (by rw[aP];exact hj)] at this;rw[<-e];exact this
def Gp(K:PySem.W.Frag):List V->Hp->VK->Prop:=fun xs H Q=>∃ (p C tp:Addr) (cs:List Addr) (b:Bool),xs=[.ref p,.ref tp]/\mS K C/\H p=some (tL p (.ref C))/\bv K H tp (cs.map V.ref)/\PySem.W.kitAny K (.ref C) (cs.map Value.ref)=some b/\Q (.bl b) H
theorem uM:et X (.builtin "isinstance") (Gp X.K):=by
 intro ag s σ H xs us Q I r h;obtain⟨p,C,tp,cs,b,rfl,T,ea,ht,e,q⟩:=h;obtain⟨u1,u2,rfl,r1,r2⟩:=r.two;obtain rfl:u1=Value.ref p:=r1;obtain rfl:u2=Value.ref tp:=r2;have p1:Mi p (.ref C) s.heap:=(I.b_ p _ ea).1;obtain⟨its,rv,⟨⟨Xb,od,R8,tJ⟩,eo,JB,n,hd⟩,_⟩:=I.tuple ht;have vY:=mZ rv;subst vY;simp only at JB hd;subst JB;subst hd;exact PySem.W.kia_tup (rN T) I.mj p1 eo e (fun z=>nomatch z) fun tk=>⟨.bl b,H,I.tok tk,rfl,q⟩
end
end L2
namespace ix
abbrev o9(u:Int×Int):Int×Int:=(u.2,u.1)
def dB(ps:Ts):Ts:=ps.flatMap fun u=>[u,o9 u]
theorem jA:dB (ps++qs)=dB ps++dB qs:=List.flatMap_append
theorem gK:∀ {ps:Ts},(dB ps).Perm (ps++ps.map o9)
 |[]=>lM _
 |u::ps=>by
  have ih:=gK (ps:=ps);show (u::o9 u::dB ps).Perm (u::(ps++o9 u::ps.map o9));refine List.Perm.cons _ ?_;exact(ih.cons _).trans List.perm_middle.symm
theorem iL:∀ {ps:Ts},(dB ps).length=2*ps.length
 |[]=>rfl
 |u::ps=>by
  have ih:=iL (ps:=ps);show (dB ps).length+2=2*(ps.length+1);lia
theorem Ck(h:u∈dB ps):o9 u∈dB ps:=by
 obtain⟨v,hv,hu⟩:=zP.mp h;refine zP.mpr ⟨v,hv,?_⟩;rcases bK.mp hu with e|e
 .rw[e];exact cX _ (cC.mpr rfl)
 .rw[cC.mp e];exact bW
theorem m_:u∈dB ps↔u∈ps\/o9 u∈ps:=by
 rw[(gK (ps:=ps)).mem_iff,bS];refine or_congr Iff.rfl ⟨fun h=>?_,fun h=>bz.mpr ⟨_,h,rfl⟩⟩;obtain⟨v,hv,rfl⟩:=bz.mp h;exact hv
theorem Cm:((dB ps).map o9).Perm (dB ps):=by
 refine((gK (ps:=ps)).map o9).trans (List.Perm.trans ?_ (gK (ps:=ps)).symm);rw[dg,di];have e:ps.map (o9 ∘ o9)=ps:=(jF fun u _=>rfl).trans (lP ps);rw[e];exact iY
def DN(x:Nat):List Nat->Bool
 |[]=>false
 |y::ys=>Nat.beq x y||DN x ys
theorem se:∀ {ys:List Nat},DN x ys=true↔x∈ys
 |[]=>by simp[DN]
 |y::ys=>by
  unfold DN;rw[rd,se (ys:=ys),bK];exact or_congr ⟨fun h=>uY h,fun h=>by rw[h];exact vv y⟩ Iff.rfl
def VM:List Nat->Bool
 |[]=>true
 |x::xs=>!DN x xs&&VM xs
theorem Gq:∀ {xs:List Nat},VM xs=true->xs.Nodup
 |[],_=>jh
 |x::xs,h=>by
  unfold VM at h;rw[fA] at h;refine fY.mpr ⟨fun z=>?_,Gq h.2⟩;rw[se.mpr z] at h;exact absurd h.1 (by decide)
def yj:List Nat->Bool
 |x::y::r=>Nat.ble x y&&yj (y::r)
 |_=>true
theorem Gr:∀ {xs:List Nat},yj xs=true->xs.Pairwise (·<=·)
 |[],_=>List.Pairwise.nil
 |[x],_=>List.pairwise_singleton _ _
 |x::y::r,h=>by
  unfold yj at h;rw[fA] at h;have ih:=Gr h.2;refine qU.mpr ⟨fun z hz=>?_,ih⟩;have h1:=qR h.1;rcases bK.mp hz with e|e
  .rw[e];exact h1
  .exact bC h1 ((qU.mp ih).1 z e)
abbrev iu(q:Nat×Nat):Int×Int:=((q.1:Int),(q.2:Int))
def SO(qs:List (Nat×Nat)):List Nat:=qs.flatMap fun q=>[64*q.1+q.2,64*q.2+q.1]
def J_(c:Nat):Int×Int:=(((c / 64:Nat):Int),((c % 64:Nat):Int))
theorem AR(h:b<64):J_ (64*a+b)=((a:Int),(b:Int)):=by
 unfold J_;rw[show (64*a+b) / 64=a by lia,show (64*a+b) % 64=b by lia]
theorem qH:∀ {qs:List (Nat×Nat)},(∀q∈qs,q.1<64/\q.2<64)->(SO qs).map J_=dB (qs.map iu)
 |[],_=>rfl
 |q::qs,h=>by
  have ih:=qH (qs:=qs) fun x hx=>h x (cX _ hx);obtain⟨h1,h2⟩:=h q bW;show J_ (64*q.1+q.2)::J_ (64*q.2+q.1)::(SO qs).map J_=iu q::o9 (iu q)::dB (qs.map iu);rw[ih,AR h2,AR h1]
def b1(b:Bool):Nat:=cond b 1 0
def lf(h:Nat):List (Nat×Nat)->Nat
 |[]=>0
 |q::qs=>b1 (Nat.beq q.1 h)+(b1 (Nat.beq q.2 h)+lf h qs)
theorem wd{h:Nat}:∀ {qs:List (Nat×Nat)},((dB (qs.map iu)).filter fun t=>decide (t.1=(h:Int))).length=lf h qs
 |[]=>rfl
 |q::qs=>by
  have ih:=wd (h:=h) (qs:=qs);have e:∀a:Nat,(if decide ((a:Int)=(h:Int))=true then 1 else 0)=b1 (Nat.beq a h):=fun a=>by
   by_cases c:a=h
   .subst c;rw[ap (by simp),vv];rfl
   .rw[aq (by simp;lia),show Nat.beq a h=false from qX.mpr fun z=>c (uY z)];rfl
  show ((iu q::o9 (iu q)::dB (qs.map iu)).filter _).length=b1 (Nat.beq q.1 h)+(b1 (Nat.beq q.2 h)+lf h qs);rw[<-ih,<-e q.1,<-e q.2,dX,dX];split <;> split <;> simp <;> lia
def Gs(n:Nat)(qs:List (Nat×Nat)):Bool:=Nat.ble 2 n&&(Nat.ble n 32&&(VM (SO qs)&&(qs.all (fun q=>Nat.blt q.1 n&&(Nat.blt q.2 n&&!Nat.beq q.1 q.2))&&((List.range n).all (fun h=>Nat.ble (lf h qs) 8) &&
 (List.range n).all (fun v=>Nat.beq v 0||(List.range v).reverse.any (fun u=>DN (64*u+v) (SO qs)))))))
theorem l8(h:Nat.blt a b=true):a<b:=qR h
theorem Gu(h:Gs n qs=true):cT n (dB (qs.map iu))/\∀q∈qs,q.1<64/\q.2<64:=by
 unfold Gs at h;simp only[fA,g8,bQ,rd,vd,List.mem_reverse] at h;obtain⟨h1,h2,h3,h4,h5,h6⟩:=h;have h1:=qR h1;have h2:=qR h2;have SS:∀q∈qs,q.1<64/\q.2<64:=fun q hq=>⟨by have:=l8 (h4 q hq).1;lia,by have:=l8 (h4 q hq).2.1;lia⟩
 have mem:∀t∈dB (qs.map iu),∃q∈qs,t=iu q\/t=o9 (iu q):=fun t ht=>by
  rcases m_.mp ht with z|z
  .obtain⟨q,hq,e⟩:=bz.mp z;exact⟨q,hq,.inl e.symm⟩
  .obtain⟨q,hq,e⟩:=bz.mp z;exact⟨q,hq,.inr (by rw[e])⟩
 have rg:∀t∈dB (qs.map iu),((0<=t.1/\t.1<n)/\(0<=t.2/\t.2<n))/\t.1≠t.2:=fun t ht=>by
  obtain⟨q,hq,e⟩:=mem t ht;have a:=l8 (h4 q hq).1;have b:=l8 (h4 q hq).2.1;have c:q.1≠q.2:=fun z=>by have:=(h4 q hq).2.2;rw[z,vv] at this;exact absurd this (by decide)
  rcases e with rfl|rfl
  .exact⟨⟨⟨by show (0:Int)<=(q.1:Int);lia,by show (q.1:Int)<n;lia⟩,by show (0:Int)<=(q.2:Int);lia,by show (q.2:Int)<n;lia⟩,by show ((q.1:Nat):Int)≠(q.2:Nat);lia⟩
  .exact⟨⟨⟨by show (0:Int)<=(q.2:Int);lia,by show (q.2:Int)<n;lia⟩,by show (0:Int)<=(q.1:Int);lia,by show (q.1:Int)<n;lia⟩,by show ((q.2:Nat):Int)≠(q.1:Nat);lia⟩
 have DK:∀h:Int,((dB (qs.map iu)).filter fun t=>decide (t.1=h)).length=((dB (qs.map iu)).filter fun t=>decide (t.2=h)).length:=fun h=>by
  rw[<-(Cm (ps:=qs.map iu)).filter (fun t=>decide (t.1=h)) |>.length_eq,oh,aP];rfl
 have nd:(dB (qs.map iu)).Nodup:=by
  rw[<-qH SS];refine List.Pairwise.map _ (fun a b pS e=>pS ?_) (qN.mp (Gq h3));have e1:a / 64=b / 64:=d8 (congrArg Prod.fst e);have e2:a % 64=b % 64:=d8 (congrArg Prod.snd e);lia
 refine⟨⟨h1,h2,nd,fun t ht=>(rg t ht).1,fun t ht=>(rg t ht).2,DK,fun h=>?_,fun a b ha hb=>?_⟩,SS⟩
 .by_cases c:0<=h/\h<n
  .have:=qR (h5 h.toNat (by lia));rw[<-wd,zw c.1] at this;exact this
  .have e:(dB (qs.map iu)).filter (fun t=>decide (t.1=h))=[]:=zg.mpr fun t ht e=>c ((show t.1=h from cW e) ▸ (rg t ht).1.1);rw[e];exact cM _
 .have Aq:∀v,v<n->(∃k,eV (dB (qs.map iu)) k 0 v)/\∃k,eV (dB (qs.map iu)) k v 0:=by
   intro v;induction v using Nat.strongRecOn with
   |ind v ih=>
    intro hv;rcases h6 v hv with e|⟨u,hu,t1⟩
    .have e:=uY e;subst e;exact⟨⟨0,rfl⟩,0,rfl⟩
    .obtain⟨⟨k,w⟩,l,w'⟩:=ih u hu (by lia);have t:T (dB (qs.map iu)) u v:=by
      have:=bz.mpr ⟨_,se.mp t1,AR (a:=u) (b:=v) (by lia)⟩;rw[qH SS] at this;exact this
     have t':T (dB (qs.map iu)) v u:=Ck t;exact⟨⟨k+1,u,w,t⟩,l+1,eV.cons t' w'⟩
  obtain⟨_,k,w⟩:=Aq a ha;obtain⟨⟨l,w'⟩,_⟩:=Aq b hb;exact⟨_,w.trans w'⟩
def sf(f b:Nat):List (Nat×Nat):=(List.range f).flatMap fun at_=>(List.range (b ^ f)).flatMap fun h=>(List.range (b-h / b ^ at_ % b-1)).map fun k=>(h,h+(k+1)*b ^ at_)
def SU(f b h:Nat):List Nat:=(List.range f).map fun k=>h / b ^ k % b
def unl(f b o p:Nat):Nat:=((List.range f).filter fun k=>!Nat.beq ((SU f b o).getD k 0) ((SU f b p).getD k 0)).length
def AS(f b:Nat):List Nat:=(List.range (b ^ f)).flatMap fun o=>((List.range (b ^ f)).filter fun p=>Nat.beq (unl f b o p) 1).map fun p=>64*o+p
def AT(f b:Nat):Ts:=(AS f b).map J_
def Cn(f b:Nat):Bool:=Gs (b ^ f) (sf f b)&&((SO (sf f b)).isPerm (AS f b)&&yj (AS f b))
theorem AU:(List.range 6).all (fun f=>(List.range 6).all fun b=>Nat.blt f 1||(Nat.blt b 2||(Nat.blt 32 (b ^ f)||Cn f b)))=true:=by decide +kernel
theorem AV(f1:1<=f)(f2:f<=5)(b1:2<=b)(b2:b<=5)(hm:b ^ f<=32):cT (b ^ f) (dB ((sf f b).map iu))/\(dB ((sf f b).map iu)).Perm (AT f b)/\(AT f b).Pairwise (fun u v=>64*u.1+u.2<=64*v.1+v.2):=by
 have:=g8.mp (g8.mp AU f (bQ.mpr (by lia))) b (bQ.mpr (by lia));rw[rd,rd,rd] at this;rcases this with z|z|z|z
 .have:=l8 z;lia
 .have:=l8 z;lia
 .have:=l8 z;lia
 .unfold Cn at z;rw[fA,fA] at z;obtain⟨h1,h2,h3⟩:=z;obtain⟨F,SS⟩:=Gu h1;refine⟨F,?_,?_⟩
  .rw[<-qH SS];exact(List.isPerm_iff.mp h2).map J_
  .unfold AT;rw[i0];refine(Gr h3).imp fun {a b} h=>?_;unfold J_;show 64*((a / 64:Nat):Int)+((a % 64:Nat):Int)<=64*((b / 64:Nat):Int)+((b % 64:Nat):Int);lia
def pr:List Nat->Nat
 |[]=>1
 |n::ns=>n*pr ns
def xi(m st n:Nat):List (Nat×Nat):=((List.range m).filter fun h=>decide (h / st % n+1<n)).map fun h=>(h,h+st)
def bx(m:Nat):Nat->List Nat->List (Nat×Nat)
 |_,[]=>[]
 |st,n::ns=>xi m st n++bx m (st*n) ns
def l9(ns:List Nat):List (Nat×Nat):=bx (pr ns) 1 ns
def Ka:Nat->List Nat->Nat->Nat->Prop
 |_,[],_,_=>False
 |st,n::ns,a,b=>(a / st % n+1<n/\b=a+st)\/Ka (st*n) ns a b
theorem Co:q∈xi m st n↔q.1<m/\q.1 / st % n+1<n/\q.2=q.1+st:=by
 unfold xi;rw[bz];constructor
 .rintro⟨h,hh,rfl⟩;obtain⟨h1,h2⟩:=dD.mp hh;exact⟨bQ.mp h1,cW h2,rfl⟩
 .rintro⟨h1,h2,h3⟩;exact⟨q.1,dD.mpr ⟨bQ.mpr h1,cL h2⟩,gm rfl h3.symm⟩
theorem wf:∀ {ns:List Nat} {st:Nat},q∈bx m st ns↔q.1<m/\Ka st ns q.1 q.2
 |[],st=>⟨fun h=>(nomatch h),fun h=>h.2.elim⟩
 |n::ns,st=>by
  unfold bx Ka;rw[bS,Co,wf (ns:=ns)];constructor
  .rintro(⟨a,b,c⟩|⟨a,b⟩)
   .exact⟨a,.inl ⟨b,c⟩⟩
   .exact⟨a,.inr b⟩
  .rintro⟨a,⟨b,c⟩|b⟩
   .exact .inl ⟨a,b,c⟩
   .exact .inr ⟨a,b⟩
abbrev U(ns:List Nat):Nat->Nat->Prop:=Ka 1 ns
theorem wg:∀ {ns:List Nat} {st a b:Nat},0<st->(∀n∈ns,0<n)->(Ka st ns a b↔a % st=b % st/\U ns (a / st) (b / st))
 |[],st,a,b,h,_=>⟨fun z=>z.elim,fun z=>z.2.elim⟩
 |n::ns,st,a,b,h,hn=>by
  have IP:=hn n bW;have yP:∀n∈ns,0<n:=fun x hx=>hn x (cX _ hx);show (_\/Ka (st*n) ns a b)↔a % st=b % st/\(_\/Ka (1*n) ns (a / st) (b / st))
  rw[Nat.one_mul,wg (rk h IP) yP,wg IP yP,Nat.div_one,zf a st n,zf b st n,Nat.mod_mul,Nat.mod_mul];have e1:=j7 a st;have e2:=j7 b st;constructor
  .rintro(⟨c,rfl⟩|⟨c,d⟩)
   .refine⟨by rw[Nat.add_mod_right],.inl ⟨c,by rw[Nat.add_div_right _ h]⟩⟩
   .have m1:a % st=b % st:=by
     have:=congrArg (· % st) c;simp only[Nat.add_mul_mod_self_left,Nat.mod_mod] at this;exact this
    refine⟨m1,.inr ⟨?_,d⟩⟩;rw[m1] at c;exact Nat.eq_of_mul_eq_mul_left h (Nat.add_left_cancel c)
  .rintro⟨m1,⟨c,d⟩|⟨c,d⟩⟩
   .refine .inl ⟨c,?_⟩;rw[<-e2,d,<-m1,Nat.mul_add,vA,Nat.add_right_comm,e1]
   .exact .inr ⟨by rw[m1,c],d⟩
theorem AW(h:∀x∈n::ns,0<x):U (n::ns) a b↔(a % n+1<n/\b=a+1)\/(a % n=b % n/\U ns (a / n) (b / n)):=by
 show (_\/Ka (1*n) ns a b)↔_;rw[Nat.one_mul,wg (h n bW) fun x hx=>h x (cX _ hx),Nat.div_one]
theorem AX(h:a % n+1<n):(a+1) / n=a / n/\(a+1) % n=a % n+1:=by
 have e:=j7 a n;have e2:a+1=n*(a / n)+(a % n+1):=by lia
 have hn:0<n:=by lia
 rw[e2,Nat.mul_add_div hn,Nat.mul_add_mod,Nat.div_eq_of_lt h,je h];exact⟨rfl,rfl⟩
theorem SV:∀ {ns:List Nat} {a b:Nat},(∀x∈ns,0<x)->U ns a b->a<pr ns->a<b/\b<pr ns
 |[],a,b,_,h,_=>h.elim
 |n::ns,a,b,hn,h,ha=>by
  have IP:=hn n bW;have yP:∀n∈ns,0<n:=fun x hx=>hn x (cX _ hx);have RD:a<n*pr ns:=ha;have hq:a / n<pr ns:=Nat.div_lt_of_lt_mul RD;show a<b/\b<n*pr ns;rcases(AW hn).mp h with ⟨c,rfl⟩|⟨c,d⟩
  .refine⟨by lia,?_⟩;have e:=j7 a n;have:=u5 n hq;rw[Nat.succ_eq_add_one,Nat.mul_add,vA] at this;lia
  .obtain⟨i1,i2⟩:=SV yP d hq;refine⟨?_,?_⟩
   .have e1:=j7 a n;have e2:=j7 b n;have:=EO i1 IP;lia
   .have e2:=j7 b n;have hm:=iQ b IP;have:=u5 n i2;rw[Nat.succ_eq_add_one,Nat.mul_add,vA] at this;lia
theorem Gv:∀ {ns:List Nat} {v:Nat},(∀x∈ns,0<x)->0<v->v<pr ns->∃u,u<v/\U ns u v
 |[],v,_,h1,h2=>by have h2:v<1:=h2;lia
 |n::ns,v,hn,h1,h2=>by
  have IP:=hn n bW;have yP:∀n∈ns,0<n:=fun x hx=>hn x (cX _ hx);have lv:=iQ v IP;have ev:=j7 v n;by_cases c:v % n=0
  .have hq:0<v / n:=by
    rcases Nat.eq_zero_or_pos (v / n) with z|z
    .rw[z,c] at ev;simp at ev;lia
    .exact z
   obtain⟨u,hu,uu⟩:=Gv (v:=v / n) yP hq (Nat.div_lt_of_lt_mul h2);refine⟨n*u,?_,(AW hn).mpr (.inr ⟨by rw[Nat.mul_mod_right,c],by rw[Nat.mul_div_cancel_left _ IP];exact uu⟩)⟩;have:=EO hu IP;lia
  .have hv:v-1=n*(v / n)+(v % n-1):=by lia
   have hm:(v-1) % n=v % n-1:=by rw[hv,Nat.mul_add_mod,je (by lia)]
   exact⟨v-1,by lia,(AW hn).mpr (.inl ⟨by lia,by lia⟩)⟩
theorem Cp:∀ {ns:List Nat} {st a b:Nat},(∀x∈ns,0<x)->Ka st ns a b->a+st<=b
 |[],st,a,b,_,h=>h.elim
 |n::ns,st,a,b,hn,h=>by
  rcases h with ⟨_,rfl⟩|h
  .exact bt _
  .have:=Cp (fun x hx=>hn x (cX _ hx)) h;have h1:=Nat.le_mul_of_pos_right st (hn n bW);lia
theorem DO:(xi m st n).Nodup:=by
 unfold xi;refine qN.mpr (i0.mpr ?_);exact(qN.mp (ln.sublist u6)).imp fun {a b} h e=>h (congrArg Prod.fst e)
theorem yk:∀ {ns:List Nat} {st:Nat},0<st->(∀x∈ns,2<=x)->(bx m st ns).Nodup
 |[],_,_,_=>jh
 |n::ns,st,h,hn=>by
  have Qs:=hn n bW;have yP:∀x∈ns,2<=x:=fun x hx=>hn x (cX _ hx);refine lF.mpr ⟨DO,yk (rk h (by lia)) yP,fun x hx y hy e=>?_⟩;subst e;have h1:=(Co.mp hx).2.2;have h2:=Cp (fun x hx=>by have:=yP x hx;lia) (wf.mp hy).2;have h3:=u5 st Qs;lia
theorem DP(nd:ps.Nodup)(h:∀u∈ps,u.1<u.2):(dB ps).Nodup:=by
 refine(gK (ps:=ps)).nodup_iff.mpr (lF.mpr ⟨nd,?_,fun x hx y hy e=>?_⟩)
 .refine qN.mpr (i0.mpr ((qN.mp nd).imp fun {a b} pS e=>pS ?_));exact gm (congrArg Prod.snd e) (congrArg Prod.fst e)
 .subst e;obtain⟨u,hu,rfl⟩:=bz.mp hy;have h1:=h _ hx;have h2:=h u hu;have h1:u.2<u.1:=h1;lia
theorem DQ{qs:List (Nat×Nat)}(h:qs.Nodup):(qs.map iu).Nodup:=by
 refine qN.mpr (i0.mpr ((qN.mp h).imp fun {a b} pS e=>pS ?_));exact gm (d8 (congrArg Prod.fst e)) (d8 (congrArg Prod.snd e))
theorem pV:∀ {a b:List (Nat×Nat)},lf h (a++b)=lf h a+lf h b
 |[],b=>by show lf h b=0+_;lia
 |q::a,b=>by
  have:=pV (h:=h) (a:=a) (b:=b);show b1 _+(b1 _+lf h (a++b))=b1 _+(b1 _+lf h a)+lf h b;lia
theorem MA:b1 (Nat.beq a b)=if a=b then 1 else 0:=by
 by_cases c:a=b
 .subst c;rw[ap rfl,vv];rfl
 .rw[aq c,show Nat.beq a b=false from qX.mpr fun z=>c (uY z)];rfl
theorem Cq:∀ {L:List Nat},L.Nodup->lf h (L.map fun x=>(x,x+st))<=(if h∈L then 1 else 0)+(if st<=h/\h-st∈L then 1 else 0)
 |[],_=>cM _
 |x::L,nd=>by
  obtain⟨n1,n2⟩:=fY.mp nd;have ih:=Cq (h:=h) (st:=st) n2;show b1 (Nat.beq x h)+(b1 (Nat.beq (x+st) h)+lf h (L.map fun x=>(x,x+st)))<=_;rw[MA,MA];have e1:(if h∈x::L then 1 else 0)=(if x=h then 1 else 0)+(if h∈L then 1 else 0):=by
   by_cases c:x=h
   .subst c;rw[ap bW,ap rfl,aq n1]
   .rw[aq c];by_cases d:h∈L
    .rw[ap (cX _ d),ap d]
    .rw[aq d,aq (fun z=>(bK.mp z).elim (fun z=>c z.symm) d)]
  have e2:(if st<=h/\h-st∈x::L then 1 else 0)=(if x+st=h then 1 else 0)+(if st<=h/\h-st∈L then 1 else 0):=by
   by_cases c:x+st=h
   .have e:h-st=x:=by lia
    rw[ap c,e,ap ⟨by lia,bW⟩,aq (fun z=>n1 z.2)]
   .rw[aq c];by_cases d:st<=h/\h-st∈L
    .rw[ap d,ap ⟨d.1,cX _ d.2⟩]
    .rw[aq d,aq];rintro⟨z1,z2⟩;rcases bK.mp z2 with z|z
     .lia
     .exact d ⟨z1,z⟩
  rw[e1,e2];lia
def wt:List Nat->Nat
 |[]=>0
 |n::ns=>(if n=2 then 1 else 2)+wt ns
theorem Kb(hs:0<st):lf h (xi m st n)<=if n=2 then 1 else 2:=by
 have c:=Cq (h:=h) (st:=st) (L:=(List.range m).filter fun h=>decide (h / st % n+1<n)) (ln.sublist u6);refine bC c ?_;by_cases e:n=2
 .rw[ap e];by_cases c1:h∈(List.range m).filter fun h=>decide (h / st % n+1<n)
  .rw[ap c1,aq]
   .lia
   .rintro⟨z1,z2⟩;have d1:h / st % n+1<n:=cW (dD.mp c1).2;have d2:(h-st) / st % n+1<n:=cW (dD.mp z2).2;have d3:h / st=(h-st) / st+1:=by
     have:=Nat.add_div_right (h-st) hs;rw[show h-st+st=h by lia] at this;exact this
    obtain⟨_,d4⟩:=AX d2;rw[<-d3] at d4;lia
  .rw[aq c1];split <;> lia
 .rw[aq e];split <;> split <;> lia
theorem Gw:∀ {ns:List Nat} {st:Nat},0<st->(∀x∈ns,0<x)->lf h (bx m st ns)<=wt ns
 |[],_,_,_=>bt _
 |n::ns,st,hs,hn=>by
  show lf h (xi m st n++bx m (st*n) ns)<=_+wt ns;rw[pV];have h1:=Kb (m:=m) (n:=n) (h:=h) hs;have h2:=Gw (m:=m) (h:=h) (ns:=ns) (st:=st*n) (rk hs (hn n bW)) fun x hx=>hn x (cX _ hx);lia
theorem Gx:∀ {ns:List Nat},(∀x∈ns,2<=x)->3 ^ wt ns<=pr ns*pr ns
 |[],_=>bt _
 |n::ns,hn=>by
  have ih:=Gx (ns:=ns) fun x hx=>hn x (cX _ hx);have h2:=hn n bW;show 3 ^ ((if n=2 then 1 else 2)+wt ns)<=n*pr ns*(n*pr ns);rw[Nat.pow_add,Nat.mul_mul_mul_comm];refine zV ?_ ih;by_cases c:n=2
  .rw[ap c,c];decide
  .rw[aq c];have:3<=n:=by lia
   exact zV this this
theorem SW(hn:∀x∈ns,2<=x)(hp:pr ns<=32):wt ns<=8:=by
 refine pJ fun z=>?_;have h1:3 ^ 9<=3 ^ wt ns:=Nat.pow_le_pow_right (by decide) (by lia);have h2:=Gx hn;have h3:pr ns*pr ns<=32*32:=zV hp hp;have h4:(3:Nat) ^ 9=19683:=by decide
 lia
theorem Gy{ns:List Nat}(hn:∀x∈ns,2<=x)(h0:ns≠[])(hp:pr ns<=32):cT (pr ns) (dB ((l9 ns).map iu)):=by
 have xK:∀x∈ns,0<x:=fun x hx=>by have:=hn x hx;lia
 have q:∀q∈l9 ns,q.1<q.2/\q.2<pr ns:=fun q hq=>by
  obtain⟨a,b⟩:=wf.mp hq;exact SV xK b a
 have n1:2<=pr ns:=by
  cases ns with
  |nil=>exact absurd rfl h0
  |cons n ns=>
   have h2:=hn n bW;have:∀ {l:List Nat},(∀x∈l,2<=x)->1<=pr l:=fun {l}=>by
    induction l with
    |nil=>intro _;exact bt _
    |cons x l ih=>intro hl;exact rk (by have:=hl x bW;lia) (ih fun y hy=>hl y (cX _ hy))
   have h3:=this (l:=ns) fun x hx=>hn x (cX _ hx);show 2<=n*pr ns;exact bC h2 (Nat.le_mul_of_pos_right n h3)
 have mem:∀t∈dB ((l9 ns).map iu),∃q∈l9 ns,t=iu q\/t=o9 (iu q):=fun t ht=>by
  rcases m_.mp ht with z|z
  .obtain⟨q,hq,e⟩:=bz.mp z;exact⟨q,hq,.inl e.symm⟩
  .obtain⟨q,hq,e⟩:=bz.mp z;exact⟨q,hq,.inr (by rw[e])⟩
 have rg:∀t∈dB ((l9 ns).map iu),((0<=t.1/\t.1<pr ns)/\(0<=t.2/\t.2<pr ns))/\t.1≠t.2:=fun t ht=>by
  obtain⟨p,hq,e⟩:=mem t ht;obtain⟨a,b⟩:=q p hq;rcases e with rfl|rfl
  .exact⟨⟨⟨by show (0:Int)<=(p.1:Int);lia,by show (p.1:Int)<(pr ns:Int);lia⟩,by show (0:Int)<=(p.2:Int);lia,by show (p.2:Int)<(pr ns:Int);lia⟩,by show ((p.1:Nat):Int)≠(p.2:Nat);lia⟩
  .exact⟨⟨⟨by show (0:Int)<=(p.2:Int);lia,by show (p.2:Int)<(pr ns:Int);lia⟩,by show (0:Int)<=(p.1:Int);lia,by show (p.1:Int)<(pr ns:Int);lia⟩,by show ((p.2:Nat):Int)≠(p.1:Nat);lia⟩
 have nd:(dB ((l9 ns).map iu)).Nodup:=DP (DQ (yk (by decide) hn)) fun u hu=>by
  obtain⟨p,hq,rfl⟩:=bz.mp hu;have:=(q p hq).1;show (p.1:Int)<(p.2:Int);lia
 refine⟨n1,hp,nd,fun t ht=>(rg t ht).1,fun t ht=>(rg t ht).2,fun h=>?_,fun h=>?_,fun a b ha hb=>?_⟩
 .rw[<-(Cm (ps:=(l9 ns).map iu)).filter (fun t=>decide (t.1=h)) |>.length_eq,oh,aP];rfl
 .by_cases c:0<=h/\h<pr ns
  .have:=Gw (m:=pr ns) (h:=h.toNat) (ns:=ns) (st:=1) (by decide) xK;have e:=wd (h:=h.toNat) (qs:=l9 ns);rw[zw c.1] at e;rw[e];exact bC this (SW hn hp)
  .have e:(dB ((l9 ns).map iu)).filter (fun t=>decide (t.1=h))=[]:=zg.mpr fun t ht e=>c ((show t.1=h from cW e) ▸ (rg t ht).1.1);rw[e];exact cM _
 .have Aq:∀v,v<pr ns->(∃k,eV (dB ((l9 ns).map iu)) k 0 v)/\∃k,eV (dB ((l9 ns).map iu)) k v 0:=by
   intro v;induction v using Nat.strongRecOn with
   |ind v ih=>
    intro hv;rcases Nat.eq_zero_or_pos v with e|e
    .subst e;exact⟨⟨0,rfl⟩,0,rfl⟩
    .obtain⟨u,hu,uu⟩:=Gv xK e hv;obtain⟨⟨k,w⟩,l,w'⟩:=ih u hu (by lia);have t:T (dB ((l9 ns).map iu)) u v:=m_.mpr (.inl (bz.mpr ⟨(u,v),wf.mpr ⟨by show u<pr ns;lia,uu⟩,rfl⟩));have t':T (dB ((l9 ns).map iu)) v u:=Ck t;exact⟨⟨k+1,u,w,t⟩,l+1,eV.cons t' w'⟩
  obtain⟨_,k,w⟩:=Aq a ha;obtain⟨⟨l,w'⟩,_⟩:=Aq b hb;exact⟨_,w.trans w'⟩
end ix
namespace nN
open PySem L2
def iy(i:Nat):Stmt:=PySem.Challenge.pw_neverwait_k23_behind_handings.main.body.getD i (.Pass ⟨0,0,0,0⟩)
abbrev AY:Stmt:=iy 16
abbrev wj:Stmt:=iy 17
abbrev AZ:Stmt:=iy 18
abbrev Og:Stmt:=iy 20
structure Bl(mg:Str->Option Value):Prop where
 DR:mg "isinstance"=none
 int:mg "int"=none
 bool:mg "bool"=none
 tup:mg "tuple"=none
 lst:mg "list"=none
 str:mg "str"=none
 set:mg "set"=none
 len:mg "len"=none
 range:mg "range"=none
 sorted:mg "sorted"=none
 any:mg "any"=none
 max:mg "max"=none
 min:mg "min"=none
 XQ:mg "ValueError"=none
 all:mg "all"=none
def Gz(K:PySem.W.Frag)(H:Hp)(x:V):Prop:=∃t,JD K H x t/\(PySem.W.kitOne K t (.type "int")=some false\/(PySem.W.kitOne K t (.type "int")=some true/\PySem.W.kitOne K t (.type "bool")=some true))
theorem pW:PySem.W.kitOne K (.type "int") (.type "int")=some true:=by kernel_rfl
theorem ng:PySem.W.kitOne K (.type "int") (.type "bool")=some false:=by kernel_rfl
inductive Wh (K:PySem.W.Frag) (H:Hp):V->Option Int->Prop where
 |int (i:Int):Wh K H (.int i) (some i)
 |no {x:V} (h:Gz K H x):Wh K H x none
def qI(K:PySem.W.Frag):Sp:=fun vs H Q _=>∃x o,vs=[x]/\Wh K H x o/\Q (.bl o.isSome) H
section
variable {P:Program} {w:World} {K:PySem.W.Frag} {mg:Str->Option Value} {base:Heap}
theorem Kc:aS ["thing"] ["thing"] (av AY):=cZ (by decide +kernel)
theorem GA(F:gv K "is_whole" "is_whole" AY f fd)(B:Bl mg):bL P w K mg base bu 1 f fd ["thing"] (qI K):=by
 refine F.ok Kc (fun vs H Q E h=>?_) (fun dW A outer s H vs Q E hr h=>?_)
 .obtain⟨x,o,rfl,_⟩:=h;rfl
 .obtain⟨x,o,rfl,W,k⟩:=h;refine⟨_,ak (aK (oB (aB e_ (by rfl) B.DR iX (aa (pv 0) (aa (gu (v:=.ty "int") rfl B.int PyProof.Rows.boot_int rfl) af)))
   (oA (Nf (aB e_ (by rfl) B.DR iX (aa (pv 0) (aa (gu (v:=.ty "bool") rfl B.bool PyProof.Rows.boot_bool rfl) af))))))),?_⟩
  cases W with
  |int i=>
   refine⟨_,rfl,_,_,_,.type "int",true,rfl,⟨rfl,pW⟩,.of (.int _),true,rfl,?_⟩;exact⟨_,rfl,_,_,_,.type "int",false,rfl,⟨rfl,ng⟩,.of (.int _),false,rfl,k⟩
  |no h=>
   obtain⟨t,ty,h|⟨h1,h2⟩⟩:=h
   .exact⟨_,rfl,_,_,_,t,false,rfl,⟨rfl,h⟩,ty,false,rfl,k⟩
   .refine⟨_,rfl,_,_,_,t,true,rfl,⟨rfl,h1⟩,ty,true,rfl,?_⟩;exact⟨_,rfl,_,_,_,t,true,rfl,⟨rfl,h2⟩,ty,true,rfl,k⟩
def eI(o:Option Int)(lo hi:Int):Bool:=match o with
 |some i=>decide (lo<=i)&&decide (i<=hi)
 |none=>false
def nh(K:PySem.W.Frag):Sp:=fun vs H Q _=>∃x o lo hi,vs=[x,.int lo,.int hi]/\Wh K H x o/\Q (.bl (eI o lo hi)) H
theorem GB:aS ["thing","least","most"] ["thing","least","most"] (av wj):=cZ (by decide +kernel)
theorem DS(F:gv K "is_whole_within" "is_whole_within" wj f fd)(W:cE P w K mg base bu 1 "is_whole" ["thing"] (qI K)):bL P w K mg base bu 2 f fd ["thing","least","most"] (nh K):=by
 refine F.ok GB (fun vs H Q E h=>?_) (fun dW A outer s H vs Q E hr h=>?_)
 .obtain⟨x,o,lo,hi,rfl,_⟩:=h;rfl
 .obtain⟨x,o,lo,hi,rfl,wh,k⟩:=h;refine⟨_,ak (aK (oB (aG W hr aL (aa (pv 0) af)) (oA (E_ E9 E9 (pv 1) (pv 0) (pv 2))))),?_⟩;refine⟨_,rfl,x,o,rfl,wh,?_⟩;cases wh with
  |no h=>exact⟨false,rfl,k⟩
  |int i=>
   refine⟨true,rfl,_,rfl,_,rfl,_,_,rfl,rfl,_,rfl,?_⟩;show if decide (lo<=i)=true then _ else _
   have k':Q (.bl (decide (lo<=i)&&decide (i<=hi))) H:=k;by_cases h:lo<=i
   .rw[cL h] at k' |-;exact⟨_,rfl,_,_,rfl,rfl,k'⟩
   .rw[dO h] at k' |-;exact k'
def ni(K:PySem.W.Frag):Sp:=fun vs H Q _=>∃x o n,vs=[.int n,x]/\Wh K H x o/\Q (.bl (eI o 0 (n-1))) H
theorem Kd:aS ["many","thing"] ["many","thing"] (av AZ):=cZ (by decide +kernel)
theorem GC(F:gv K "is_house" "is_house" AZ f fd)(W:cE P w K mg base bu 2 "is_whole_within" ["thing","least","most"] (nh K)):bL P w K mg base bu 3 f fd ["many","thing"] (ni K):=by
 refine F.ok Kd (fun vs H Q E h=>?_) (fun dW A outer s H vs Q E hr h=>?_)
 .obtain⟨x,o,n,rfl,_⟩:=h;rfl
 .obtain⟨x,o,n,rfl,wh,k⟩:=h;refine⟨_,ak (aK (aG W hr aL (aa (pv 1) (aa au (aa (bj oE (pv 0) au) af))))),?_⟩;exact⟨_,rfl,_,rfl,_,_,rfl,rfl,x,o,0,n-1,rfl,wh,k⟩
inductive Rw (K:PySem.W.Frag) (H:Hp):V->Option (List V)->Prop where
 |tup {p:Addr} {xs:List V} (h:H p=some (.tup xs)):Rw K H (.ref p) (some xs)
 |no {x:V} {t:Value} (ty:JD K H x t) (h:PySem.W.kitOne K t (.type "tuple")=some false):Rw K H x none
def MB(o:Option (List V))(m:Int):Bool:=match o with
 |some xs=>decide ((xs.length:Int)=m)
 |none=>false
theorem nj:PySem.W.kitOne K (.type "tuple") (.type "tuple")=some true:=by kernel_rfl
def ym(K:PySem.W.Frag):Sp:=fun vs H Q _=>∃x o m,vs=[x,.int m]/\Rw K H x o/\Q (.bl (MB o m)) H
theorem SX:aS ["thing","length"] ["thing","length"] (av Og):=cZ (by decide +kernel)
theorem Oh(F:gv K "is_row" "is_row" Og f fd)(B:Bl mg):bL P w K mg base bu 1 f fd ["thing","length"] (ym K):=by
 refine F.ok SX (fun vs H Q E h=>?_) (fun dW A outer s H vs Q E hr h=>?_)
 .obtain⟨x,o,m,rfl,_⟩:=h;rfl
 .obtain⟨x,o,m,rfl,W,k⟩:=h;refine⟨_,ak (aK (oB (aB e_ (by rfl) B.DR iX (aa (pv 0) (aa (gu (v:=.ty "tuple") rfl B.tup lh rfl) af)))
   (oA (iG dY (aB aF (by rfl) B.len cn (aa (pv 0) af)) (pv 1) (aN _))))),?_⟩
  cases W with
  |@tup p xs h=>
   refine⟨_,rfl,_,_,_,.type "tuple",true,rfl,⟨rfl,nj⟩,.of (.tup h),true,rfl,?_⟩;refine⟨_,rfl,_,_,rfl,.inr (bv.of h),_,rfl,rfl,?_⟩;have e:decide (V.int ((xs.length:Nat):Int)=V.int m)=decide (((xs.length:Nat):Int)=m):=by simp
   rw[e];exact k
  |no ty h=>exact⟨_,rfl,_,_,_,_,false,rfl,⟨rfl,h⟩,ty,false,rfl,k⟩
end
theorem bw(s:aE H H')(hD:H D=none):aE H (upd H' D o):=fun b u e=>by rw[am (ao e hD)];exact s b u e
abbrev IV(ns:List Int):List V:=ns.map V.int
abbrev NV(ns:List Nat):List V:=ns.map fun (x:Nat)=>V.int (x:Int)
theorem jO(G:St->Hp->Prop)(hr:∀σ H,G σ H->u D σ H)(ht:∀N:St->Hp->Prop,(∀σ H,G σ H->N σ H)->t { D with nx:=N } σ H):Ng t u D σ H:=ht _ hr
abbrev Zs:=List (Addr×(Int×Int))
abbrev tS(u:Int×Int):HO:=.tup [.int u.1,.int u.2]
def zr(zs:Zs):List V:=zs.map fun z=>V.ref z.1
def zp(zs:Zs):List (Int×Int):=zs.map (·.2)
def PO(H:Hp)(zs:Zs):Prop:=∀z∈zs,H z.1=some (tS z.2)
theorem eN:zr (a++b)=zr a++zr b:=dg
theorem eQ:zp (a++b)=zp a++zp b:=dg
theorem dF:(zr a).length=a.length:=aP _
theorem bH:(zp a).length=a.length:=aP _
theorem nk:zr a=(a.map (·.1)).map V.ref:=by unfold zr;rw[di];rfl
theorem o_{zs:Zs}{i:Nat}{x:V}(h:(zr zs)[i]?=some x):∃z,zs[i]?=some z/\x=.ref z.1:=by
 unfold zr at h;rw[cm] at h;cases e:zs[i]? with
 |none=>rw[e] at h;cases h
 |some z=>rw[e] at h;exact⟨z,rfl,(bP h).symm⟩
theorem PO.nil:PO H []:=fun z hz=>(nomatch hz)
theorem PO.same(h:PO H zs)(s:aE H H'):PO H' zs:=fun z hz=>s _ _ (h z hz)
theorem PO.putL(h:PO H zs)(e:H D=some (.lst xs)):PO (upd H D o) zs:=fun z hz=>by
 have:=h z hz;rw[am (by rintro rfl;rw[e] at this;cases this)];exact this
theorem PO.putN(h:PO H zs)(e:H D=none):PO (upd H D o) zs:=h.same (aj e)
theorem PO.append(h:PO H a)(h':PO H b):PO H (a++b):=fun z hz=>(bS.mp hz).elim (h z) (h' z)
theorem PO.one(h:H p=some (tS u)):PO H [(p,u)]:=fun z hz=>by rw[cC.mp hz];exact h
theorem yn{zs:Zs}{i:Nat}(h:i<zs.length):(zs.map (·.1)).getD i 0=zs[i].1:=by
 rw[aY,cm,bB h];rfl
theorem Cr(h:i<zs.length):(zp zs).getD i (0,0)=zs[i].2:=by
 unfold zp;rw[aY,cm,bB h];rfl
theorem DT{H:Hp}{zs:Zs}(ho:PO H zs){as:List Addr}(h:as.Perm (zs.map (·.1))):∃yR:Zs,yR.Perm zs/\as=yR.map (·.1):=by
 classical
 let f:Addr->Int×Int:=fun a=>match H a with
  |some (.tup [.int x,.int y])=>(x,y)
  |_=>(0,0)
 have e:(zs.map (·.1)).map (fun a=>(a,f a))=zs:=by
  rw[di];conv=>rhs;rw[<-lP zs]
  refine jF fun z hz=>?_;have:=ho z hz;show (z.1,f z.1)=z;have e2:f z.1=z.2:=by
   show (match H z.1 with|some (.tup [.int x,.int y])=>(x,y)|_=>(0,0))=z.2;rw[this]
  rw[e2]
 refine⟨as.map fun a=>(a,f a),?_,?_⟩
 .have:=h.map (fun a=>(a,f a));rw[e] at this;exact this
 .rw[di];exact(lP as).symm
abbrev Ord(us:List (Int×Int)):Prop:=us=us
theorem Ke{K:PySem.W.Frag}{H:Hp}{l:Addr}{zs:Zs}{Q:VK}(hl:H l=some (.lst (zr zs)))(ho:PO H zs)(hz:zs.length<=4096)(hb:∀u∈zp zs,0<=u.2/\u.2<64)(q:∀ (D:Addr) (yR:Zs),H D=none->yR.Perm zs->Ord (zp yR)->Q (.ref D) (upd H D (.lst (zr yR)))):Gh K [.ref l] H Q:=by
 refine⟨l,zs.map (·.1),rfl,aZ.of (by rw[<-nk];exact hl),fun a ha=>?_,by rw[aP];exact hz,fun D yQ hD hp=>?_⟩
 .obtain⟨z,hz,rfl⟩:=bz.mp ha;exact⟨_,_,bv.of (ho z hz)⟩
 .obtain⟨yR,h1,rfl⟩:=DT ho hp;rw[<-nk];exact q D yR hD h1 rfl
theorem nn(F:Nat->Int×Int)(bA:St->Prop)(hD:H0 D=none)(hn:n<=100000)(h0:bA σB)(hs:∀i σ H (R:V->St->Hp->Prop) (Kf:St->Hp->Prop),i<n->bA σ->aE H0 H->(∀σ2 p,bA σ2->H p=none->R (.ref p) σ2 (upd H p (tS (F i))))->g (.int (lo+i)) σ H fun σ2 H2=>tt σ2 H2 fun b H3=>if b=true then te σ2 H3 fun v H4=>R v σ2 H4 else Kf σ2 H3)(hd:∀zs H,aE H0 H->H D=some (.lst (zr zs))->PO H zs->zp zs=(List.range n).map F->(∀z∈zs,H0 z.1=none)->dG H):gI (Ez lo n) g tt te D dG σB (upd H0 D (.lst [])):=by
 refine fk (fun i ys σ H=>bA σ/\aE H0 H/\H D=some (.lst ys)/\∃zs:Zs,ys=zr zs/\PO H zs/\zp zs=(List.range i).map F/\∀z∈zs,H0 z.1=none) ⟨h0,aj hD,ae,[],rfl,PO.nil,rfl,fun z hz=>nomatch hz⟩ ?_ ?_
 .rintro i ys σ H Kt Kf hi ⟨sh,sm,eX,zs,rfl,po,ep,fr⟩ kt kf;have hl:zs.length=i:=by rw[<-bH,ep,aP,b8]
  refine hs i σ H Kt Kf hi sh sm (fun σ2 p pc hp=>?_)
  .have nD:D≠p:=ao eX hp;refine kt _ _ _ (by rw[am nD];exact eX) (by rw[dF,hl];exact cQ hi (bC hn (by decide))) ⟨pc,bw (sm.trans (aj hp)) hD,ae,zs++[(p,F i)],?_,?_,?_,?_⟩
   .rw[eN];rfl
   .refine PO.putL (xs:=zr zs) ?_ (by rw[am nD];exact eX);exact(po.putN hp).append (PO.one ae)
   .rw[eQ,ep,jH,dg];rfl
   .intro z hz;rcases bS.mp hz with z'|z'
    .exact fr z z'
    .rw[cC.mp z'];exact sm.free hp
 .rintro ys σ H ⟨_,sm,eX,zs,rfl,po,ep,fr⟩;exact hd zs H sm eX po ep fr
theorem GD{K:PySem.W.Frag}{a D:Addr}{A0:Zs}{g:TG}{tt:TT}{te:TE}{dG:Hp->Prop}{σB:St}{H0:Hp}(F:Int×Int->Int×Int)(bA:St->Prop)(ha:H0 a=some (.lst (zr A0)))(Oi:PO H0 A0)(hD:H0 D=none)(hn:A0.length<=100000)(h0:bA σB)(hs:∀z σ H (R:V->St->Hp->Prop) (Kf:St->Hp->Prop),z∈A0->bA σ->H z.1=some (tS z.2)->(∀σ2 p,bA σ2->H p=none->R (.ref p) σ2 (upd H p (tS (F z.2))))->g (.ref z.1) σ H fun σ2 H2=>tt σ2 H2 fun b H3=>if b=true then te σ2 H3 fun v H4=>R v σ2 H4 else Kf σ2 H3)(hd:∀zs H,aE H0 H->H D=some (.lst (zr zs))->PO H zs->zp zs=(zp A0).map F->(∀z∈zs,H0 z.1=none)->dG H):gI (Ey K a) g tt te D dG σB (upd H0 D (.lst [])):=by
 refine dE (xs:=zr A0) (fun i ys σ H=>bA σ/\aE H0 H/\H D=some (.lst ys)/\∃zs:Zs,ys=zr zs/\PO H zs/\zp zs=((zp A0).take i).map F/\∀z∈zs,H0 z.1=none) ⟨h0,aj hD,ae,[],rfl,PO.nil,rfl,fun z hz=>nomatch hz⟩ (fun i ys σ H _ z=>aZ.of (z.2.1 _ _ ha)) ?_ ?_
 .rintro i x ys σ H Kt Kf hx ⟨sh,sm,eX,zs,rfl,po,ep,fr⟩ kt kf;obtain⟨z,hz,rfl⟩:=o_ hx;have hi:i<A0.length:=(cK.mp hz).1;have MC:z∈A0:=df hz;have hl:zs.length=i:=by rw[<-bH,ep,aP,lq,bH];lia
  refine hs z σ H Kt Kf MC sh (sm _ _ (Oi z MC)) (fun σ2 p pc hp=>?_)
  .have nD:D≠p:=ao eX hp;refine kt _ _ _ (by rw[am nD];exact eX) (by rw[dF,hl];exact cQ hi (bC hn (by decide))) ⟨pc,bw (sm.trans (aj hp)) hD,ae,zs++[(p,F z.2)],?_,?_,?_,?_⟩
   .rw[eN];rfl
   .refine PO.putL (xs:=zr zs) ?_ (by rw[am nD];exact eX);exact(po.putN hp).append (PO.one ae)
   .have e2:(zp A0)[i]?=some z.2:=by unfold zp;rw[cm,hz];rfl
    rw[eQ,ep,fW,e2,zA,dg];rfl
   .intro z hz;rcases bS.mp hz with z'|z'
    .exact fr z z'
    .rw[cC.mp z'];exact sm.free hp
 .rintro ys σ H ⟨_,sm,eX,zs,rfl,po,ep,fr⟩;rw[dF,<-bH,iF] at ep;exact hd zs H sm eX po ep fr
open ix
abbrev Cs:Stmt:=qB (iy 31) 0
abbrev GE:Stmt:=qB (iy 31) 1
abbrev Oj:Stmt:=qB (iy 31) 3
abbrev A1:Stmt:=qB (iy 31) 8
structure Er(K:PySem.W.Frag)(mg:Str->Option Value)(x:Str)(C:Addr):Prop where
 at_:mg x=some (.ref C)
 ok:mS K C
theorem n12:¬ (("house_count":Str)="tie_list"):=by decide +kernel
theorem n13:¬ (("house_count":Str)="out_lists"):=by decide +kernel
theorem n14:¬ (("house_count":Str)="distances"):=by decide +kernel
theorem n34:¬ (("out_lists":Str)="distances"):=by decide +kernel
def tT(n:Int)(tl ol ds:Addr):List (Str×V):=dM "distances" (.ref ds) (dM "out_lists" (.ref ol) (dM "tie_list" (.ref tl) (dM "house_count" (.int n) [])))
theorem Cu(n:Int)(tl ol ds:Addr):(tT n tl ol ds).lookup ("house_count":Str)=some (.int n):=by
 unfold tT;rw[bR,aq n14,bR,aq n13,bR,aq n12,bR,ap rfl]
theorem wm(n:Int)(tl ol ds:Addr){m:Str}(h1:¬ m="house_count")(h2:¬ m="tie_list")(h3:¬ m="out_lists")(h4:¬ m="distances"):(tT n tl ol ds).lookup m=none:=by
 unfold tT;rw[bR,aq h4,bR,aq h3,bR,aq h2,bR,aq h1];all_goals rfl
theorem Kg(n:Int)(tl ol ds:Addr):(tT n tl ol ds).lookup ("out_lists":Str)=some (.ref ol):=by
 unfold tT;rw[bR,aq n34,bR,ap rfl]
def bG(H:Hp)(L:Addr->Prop)(l:Addr)(n:Nat)(r:Nat->List Nat):Prop:=∃bs:List Addr,H l=some (.lst (bs.map V.ref))/\(∀b∈bs,L b)/\Holds H bs n (fun h=>.lst (NV (r h)))
theorem bG.keep(R:bG H L l n r)(hl:L l)(k:∀b o,L b->H b=some o->H' b=some o):bG H' L l n r:=
 let ⟨bs,a,b,c⟩:=R
 ⟨bs,k _ _ hl a,b,c.mono fun j hj e=>k _ _ (b _ (by rw[aY,bB (by rw[c.1];exact hj)];exact dH _)) e⟩
theorem bG.row(R:bG H L l n r)(hh:h<n):∃ (bs:List Addr) (b:Addr),H l=some (.lst (bs.map V.ref))/\(bs.map V.ref)[h]?=some (V.ref b)/\H b=some (.lst (NV (r h)))/\L b:=by
 obtain⟨bs,a,b,c⟩:=R;have hl:h<bs.length:=by rw[c.1];exact hh
 refine⟨bs,bs[h],a,by rw[cm,bB hl];rfl,?_,b _ (dH _)⟩;have:=c.2 h hh;rw[aY,bB hl] at this;exact this
def Kh(H:Hp)(L:Addr->Prop)(tl:Addr)(ts:Ts):Prop:=L tl/\∃zs:Zs,H tl=some (.lst (zr zs))/\PO H zs/\(∀z∈zs,L z.1)/\(zp zs).Perm ts/\Ord (zp zs)
theorem Kh.keep(h:Kh H L tl ts)(k:∀b o,L b->H b=some o->H' b=some o):Kh H' L tl ts:=
 let ⟨a,zs,b,c,d,e⟩:=h;⟨a,zs,k _ _ a b,fun z hz=>k _ _ (d z hz) (c z hz),d,e⟩
structure eS(C:Addr)(H:Hp)(L:Addr->Prop)(p:Addr)(n:Nat)(ts:Ts):Prop where
 l7:cT n ts
 ob:∃dx tl ol ds,H p=some (.ins C dx (tT n tl ol ds))/\L ol/\L ds/\bG H L ol n (bn n ts)/\bG H L ds n (fun h=>(List.range n).map (o0 ts h))/\Kh H L tl ts
theorem eS.keep(N:eS C H L p n ts)(k:∀b o,L b->H b=some o->H' b=some o)(kp:∀o,H p=some o->H' p=some o):eS C H' L p n ts:=
 let ⟨dx,tl,ol,ds,a,l1,l2,b,c,d⟩:=N.ob
 ⟨N.l7,dx,tl,ol,ds,kp _ a,l1,l2,b.keep l1 k,c.keep l2 k,d.keep k⟩
theorem eS.same(N:eS C H L p n ts)(s:aE H H'):eS C H' L p n ts:=N.keep (fun b o _ e=>s b o e) (fun o e=>s _ o e)
structure NT(K:PySem.W.Frag)(mg:Str->Option Value)(C:Addr):Prop where
 cl:Ff K C
 nH:iT K C "house_count"
 nT:iT K C "tie_list"
 nO:iT K C "out_lists"
 nD:iT K C "distances"
 mgC:mg "Net"=some (.ref C)
structure yo(P:Program)(w:World)(K:PySem.W.Frag)(mg:Str->Option Value)(base:Heap)(CX:vJ)(k:Nat)(C:Addr)(x:Str)(ps:List Str)(sp:Sp):Prop where
 ex:∃f fd,Jm K C x f/\iH K fd ps []/\bL P w K mg base CX k f fd ps sp
section
variable {P:Program} {w:World} {K:PySem.W.Frag} {mg:Str->Option Value} {base:Heap}
theorem Ki:aS ["self","thing"] ["self","thing"] (av A1):=cZ (by decide +kernel)
theorem DV{i n:Nat}(h:i<n):eI (some (i:Int)) 0 ((n:Int)-1)=true:=by unfold eI;simp;lia
def sg(C:Addr):Sp:=fun vs H Q _=>∃ (L:Addr->Prop) (p:Addr) (n:Nat) (ts:Ts) (i:Nat),vs=[.ref p,.int i]/\eS C H L p n ts/\i<n/\Q .bD H
theorem DW{f C:Addr}{fd:FuncData}(F:gv K "check_house" "Net.check_house" A1 f fd)(T:NT K mg C)(HH:cE P w K mg base bu 3 "is_house" ["many","thing"] (ni K)):
  bL P w K mg base bu 4 f fd ["self","thing"] (sg C):=by
 refine F.ok Ki (fun vs H Q E h=>?_) (fun dW A outer s H vs Q E hr h=>?_)
 .obtain⟨L,p,n,ts,i,rfl,_⟩:=h;rfl
 .obtain⟨L,p,n,ts,i,rfl,N,hi,k⟩:=h;obtain⟨dx,tl,ol,ds,h1,_⟩:=N.ob;refine⟨_,ak (br (d_ (cR (aG HH hr aL (aa (rE (pv 0) rfl) (aa (pv 1) af))))) fv aQ),?_⟩;refine⟨_,rfl,p,C,dx,_,_,rfl,h1,T.cl,T.nH,Cu _ _ _ _,_,rfl,_,some (i:Int),n,rfl,.int _,_,rfl,?_⟩;rw[DV hi];exact cD k
theorem XR(n:Int)(tl ol ds:Addr):(tT n tl ol ds).lookup ("check_house":Str)=none:=wm n tl ol ds (by decide +kernel) (by decide +kernel) (by decide +kernel) (by decide +kernel)
theorem Ol{xs:List Nat}{i:Nat}(h:i<xs.length):(NV xs)[i]?=some (.int ((xs[i]:Nat):Int)):=by rw[cm,bB h];rfl
theorem aR:(NV xs).length=xs.length:=aP _
theorem SY:aS ["self","house"] ["self","house"] (av Oj):=cZ (by decide +kernel)
def si(C:Addr):Sp:=fun vs H Q _=>∃ (L:Addr->Prop) (p:Addr) (n:Nat) (ts:Ts) (i:Nat),vs=[.ref p,.int i]/\eS C H L p n ts/\i<n/\∀r H',aE H H'->H r=none->H' r=some (.lst (NV (bn n ts i)))->Q (.ref r) H'
theorem Kj(F:gv K "out" "Net.out" Oj f fd)(T:NT K mg C)(B:Bl mg)(M:yo P w K mg base bu 4 C "check_house" ["self","thing"] (sg C)):
  bL P w K mg base bu 5 f fd ["self","house"] (si C):=by
 obtain⟨fM,fdM,mM,bM,GM⟩:=M.ex;refine F.ok SY (fun vs H Q E h=>?_) (fun dW A outer s H vs Q E hr h=>?_)
 .obtain⟨L,p,n,ts,i,rfl,_⟩:=h;rfl
 .obtain⟨L,p,n,ts,i,rfl,N,hi,k2⟩:=h;obtain⟨dx,tl,ol,ds,h1,_,_,R,_⟩:=N.ob;refine⟨_,ai (cU (vK (pv 0) T.cl mM GM hr bM .nil aL (aa (pv 1) af)))
   (ak (aK (cG jx (by rfl) B.lst nR (aa (aT aO (rE (pv 0) rfl) (pv 1) (fun _ _=>rfl)) af)))),?_⟩
  refine⟨_,rfl,p,dx,_,rfl,h1,XR _ _ _ _,_,rfl,L,p,n,ts,i,rfl,N,hi,?_⟩;obtain⟨bs,b,r1,r2,r3,_⟩:=R.row hi;exact⟨_,rfl,p,C,dx,_,_,rfl,h1,T.cl,T.nO,Kg _ _ _ _,_,rfl,ol,_,_,_,rfl,rfl,aZ.of r1,aA r2,b,_,rfl,.inl (aZ.of r3),fun l hl=>k2 l _ (aj hl) hl ae⟩
end
open PySem L2 ix
abbrev A2:Stmt:=iy 32
abbrev Om:Stmt:=iy 33
abbrev On:Stmt:=iy 34
section
variable {P:Program} {w:World} {K:PySem.W.Frag} {mg:Str->Option Value} {base:Heap}
abbrev Oo:Stmt:=iy 19
theorem SZ:aS ["many","one","other"] ["many","one","other"] (av Oo):=cZ (by decide +kernel)
def GF:Sp:=fun vs H Q _=>∃ (n a b:Int),vs=[.int n,.int a,.int b]/\0<=a/\a<n/\0<=b/\b<n/\a≠b/\Q (.bl true) H
theorem Op(F:gv K "are_unlike_houses" "are_unlike_houses" Oo f fd)(HH:cE P w K mg base bu 3 "is_house" ["many","thing"] (ni K)):
  bL P w K mg base bu 4 f fd ["many","one","other"] GF:=by
 refine F.ok SZ (fun vs H Q E h=>?_) (fun dW A outer s H vs Q E hr h=>?_)
 .obtain⟨n,a,b,rfl,_⟩:=h;rfl
 .obtain⟨n,a,b,rfl,a1,a2,b1,b2,ur,k⟩:=h;refine⟨_,ak (aK (oB (aG HH hr aL (aa (pv 0) (aa (pv 1) af))) (oB (aG HH hr aL (aa (pv 0) (aa (pv 2) af))) (oA (iG pL (pv 1) (pv 2) (aN _)))))),?_⟩;refine⟨_,rfl,_,rfl,_,_,n,rfl,.int a,_,rfl,?_⟩;rw[ap (show eI (some a) 0 (n-1)=true by unfold eI;simp;lia)];refine⟨_,rfl,_,rfl,_,_,n,rfl,.int b,_,rfl,?_⟩;rw[ap (show eI (some b) 0 (n-1)=true by unfold eI;simp;lia)];refine⟨_,rfl,_,rfl,rfl,?_⟩;have e:(!decide (V.int a=V.int b))=true:=by simp[ur]
  rw[e];exact k
theorem S0:aS ["many","thing"] ["many","thing"] (av Om):=cZ (by decide +kernel)
def GG:Sp:=fun vs H Q _=>∃ (n:Int) (p:Addr) (a b:Int),vs=[.int n,.ref p]/\H p=some (.tup [.int a,.int b])/\0<=a/\a<n/\0<=b/\b<n/\a≠b/\Q (.bl true) H
theorem Oq(F:gv K "is_tie" "is_tie" Om f fd)(R:cE P w K mg base bu 1 "is_row" ["thing","length"] (ym K))(U:cE P w K mg base bu 4 "are_unlike_houses" ["many","one","other"] GF):
  bL P w K mg base bu 5 f fd ["many","thing"] GG:=by
 refine F.ok S0 (fun vs H Q E h=>?_) (fun dW A outer s H vs Q E hr h=>?_)
 .obtain⟨n,p,a,b,rfl,_⟩:=h;rfl
 .obtain⟨n,p,a,b,rfl,hp,a1,a2,b1,b2,ur,k⟩:=h;refine⟨_,ak (aK (oB (aG R (hr.mono (by decide)) aL (aa (pv 1) (aa au af)))
   (oA (aG U hr aL (aa (pv 0) (aa (aT cg (pv 1) au (fun _ _=>rfl)) (aa (aT cg (pv 1) au (fun _ _=>rfl)) af))))))),?_⟩
  refine⟨_,rfl,_,_,_,rfl,.tup hp,true,rfl,?_⟩;exact⟨_,rfl,_,rfl,p,_,_,_,rfl,rfl,bv.of hp,aA (j:=0) rfl,_,rfl,p,_,_,_,rfl,rfl,bv.of hp,aA (j:=1) rfl,n,a,b,rfl,a1,a2,b1,b2,ur,k⟩
theorem Cv:aS ["many","ties","tie"] ["many","ties"] (av A2):=cZ (by decide +kernel)
theorem GJ:PySem.W.kitOne K (.type "list") (.type "list")=some true:=by kernel_rfl
structure gR(H:Hp)(l:Addr)(n:Nat)(zs:Zs):Prop where
 l7:cT n (zp zs)
 at_:H l=some (.lst (zr zs))
 po:PO H zs
theorem gR.same(h:gR H l n zs)(s:aE H H'):gR H' l n zs:=⟨h.l7,s _ _ h.at_,h.po.same s⟩
def k6:Sp:=fun vs H Q _=>∃ (n:Nat) (l:Addr) (zs:Zs),vs=[.int n,.ref l]/\gR H l n zs/\∀H',aE H H'->Q .bD H'
theorem GK(F:gv K "check_ties" "check_ties" A2 f fd)(B:Bl mg)(gF:∃t,mg "FEWEST_HOUSES"=some (.int 2 t))(gM:∃t,mg "MOST_HOUSES"=some (.int 32 t))(W:cE P w K mg base bu 2 "is_whole_within" ["thing","least","most"] (nh K))(T:cE P w K mg base bu 5 "is_tie" ["many","thing"] GG):
  bL P w K mg base bu 6 f fd ["many","ties"] k6:=by
 obtain⟨tF,gF⟩:=gF;obtain⟨tM,gM⟩:=gM;refine F.ok Cv (fun vs H Q E h=>?_) (fun dW A outer s H vs Q E hr h=>?_)
 .obtain⟨n,l,zs,rfl,_⟩:=h;rfl
 .refine⟨_,ai (br (d_ (cR (aG W (hr.mono (by decide)) aL (aa (pv 0) (aa (dJ (v:=.int 2) rfl gF ⟨_,rfl⟩) (aa (dJ (v:=.int 32) rfl gM ⟨_,rfl⟩) af)))))) fv aQ)
   (ai (br (d_ (cR (aB e_ (by rfl) B.DR iX (aa (pv 1) (aa (gu (v:=.ty "list") rfl B.lst nR rfl) af))))) fv aQ)
   (ai (cq dh rfl (b9 (pv 1)) (aw (i:=2) Cv.nd rfl aM) (ak (br (d_ (cR (aG T hr aL (aa (pv 0) (aa (pv 2) af))))) fv aQ)))
   (ak (br (aI pL (aB xR (by rfl) B.len cn (aa (cG (Dq rfl (by have:=hr.un;show (A.deeper _).units+8<_;lia)) (by rfl) B.set PyProof.Rows.boot_set (aa (pv 1) af)) af)) (aB aF (by rfl) B.len cn (aa (pv 1) af)) (aN _)) fv aQ)))),?_⟩
  obtain⟨n,l,zs,rfl,tt,k⟩:=h;obtain⟨fi,hl,po⟩:=id tt;have n1:=fi.n1;have n2:=fi.n2;refine⟨_,rfl,_,_,2,32,rfl,.int n,_,rfl,?_⟩;rw[show eI (some (n:Int)) 2 32=true by unfold eI;simp;lia];refine cD ?_;refine⟨_,rfl,_,_,_,.type "list",true,rfl,⟨rfl,GJ⟩,.of (.lst hl),_,rfl,cD ?_⟩;refine⟨_,rfl,l,rfl,⟨_,aZ.of hl⟩,ij (K:=K) (a:=l) (xs:=zr zs) (fun i σ H2=>H2=H/\∃v,σ=[some (.int n),some (.ref l),v]) ⟨rfl,none,rfl⟩ (fun i σ H2 _ ⟨e,_⟩=>by rw[e];exact aZ.of hl) ?_ ?_⟩
  .rintro i x σ H2 hx ⟨rfl,v,rfl⟩;obtain⟨z,hz,rfl⟩:=o_ hx;have MC:z∈zs:=df hz;have hzp:z.2∈zp zs:=bz.mpr ⟨z,MC,rfl⟩;have r:=fi.rg _ hzp;exact⟨_,rfl,_,rfl,n,_,_,_,rfl,po z MC,r.1.1,r.1.2,r.2.1,r.2.2,fi.ne _ hzp,_,rfl,cD ⟨rfl,_,rfl⟩⟩
  .rintro σ H2 ⟨rfl,v,rfl⟩;have c_:(zp zs).length<=256:=fi.len;refine⟨_,rfl,l,zs.map (·.1),zp zs,rfl,aZ.of (by rw[<-nk];exact hl),by rw[aP,bH],fun i hi=>?_,fi.nd,fun y hy=>?_,by lia,fun D hD=>?_⟩
   .rw[bH] at hi;rw[yn hi,Cr hi];exact bv.of (po _ (dH hi))
   .have r:=fi.rg _ hy;lia
   .have nl:l≠D:=ao hl hD;refine⟨D,_,rfl,ae,by lia,_,rfl,l,zr zs,rfl,.inl (aZ.of (by rw[am nl];exact hl)),rfl,_,rfl,?_⟩;have ez:(!decide (V.int (((zp zs).length:Nat):Int)=V.int (((zr zs).length:Nat):Int)))=false:=by rw[bH,dF];simp
    rw[ez];exact cD (k _ (aj hD))
end
abbrev yp:Stmt:=iy 35
section
variable {P:Program} {w:World} {K:PySem.W.Frag} {mg:Str->Option Value} {base:Heap}
theorem pe(S:St->Prop)(p q:Int×Int->Int)(h:Int)(hD:H D=none)(hl:H l=some (.lst (zr zs)))(po:PO H zs)(hn:zs.length<=1000)(s0:S σB)(hg:∀z σ H2 (Kt:V->St->Hp->Prop) (Kf:St->Hp->Prop),z∈zs->S σ->H2 z.1=some (tS z.2)->(∀σ2,S σ2->p z.2=h->Kt (.int (q z.2)) σ2 H2)->(∀σ2,S σ2->p z.2≠h->Kf σ2 H2)->
   g (.ref z.1) σ H2 fun σ2 H2=>tt σ2 H2 fun b H3=>if b=true then te σ2 H3 fun v H4=>Kt v σ2 H4 else Kf σ2 H3)(hd:dG (upd H D (.lst (IV (((zp zs).filter fun y=>decide (p y=h)).map q))))):gI (Ey K l) g tt te D dG σB (upd H D (.lst [])):=by
 have nl:l≠D:=ao hl hD;have tk:∀ {i:Nat} {z:Addr×(Int×Int)},zs[i]?=some z->(zp zs).take (i+1)=(zp zs).take i++[z.2]:=fun {i z} hz=>by
  rw[fW,show (zp zs)[i]?=some z.2 by unfold zp;rw[cm,hz];rfl];rfl
 refine dE (xs:=zr zs) (fun i ys σ H2=>S σ/\ys=IV ((((zp zs).take i).filter fun y=>decide (p y=h)).map q)/\H2=upd H D (.lst ys)) ⟨s0,by simp,rfl⟩ (fun i ys σ H2 _ ⟨_,_,e⟩=>by rw[e];exact aZ.of (by rw[am nl];exact hl)) ?_ ?_
 .rintro i x ys σ H2 Kt Kf hx ⟨hS,ey,rfl⟩ kt kf;obtain⟨z,hz,rfl⟩:=o_ hx;have MC:z∈zs:=df hz;have hp:=po z MC;have na:z.1≠D:=ao hp hD;have hi:i<zs.length:=(cK.mp hz).1;refine hg z σ _ Kt Kf MC hS (by rw[am na];exact hp) (fun σ2 s2 e=>?_) (fun σ2 s2 e=>?_)
  .refine kt _ _ _ ae ?_ ⟨s2,?_,?_⟩
   .rw[ey,aP,aP];exact fz (iE _ _) (fz (zq _ _) (cQ (show i<1000 by lia) (by decide)))
   .rw[ey,tk hz,gZ,dg];have:decide (p z.2=h)=true:=by simp[e]
    simp[dX,this]
   .rw[mE]
  .refine kf _ _ ⟨s2,?_,rfl⟩;have:decide (p z.2=h)=false:=by simp[e]
   rw[ey,tk hz,gZ];simp[dX,this]
 .rintro ys σ H2 ⟨_,ey,rfl⟩;rw[dF,<-bH,iF] at ey;rw[ey];exact hd
theorem QE:(["one","other","house"]:List Str).Nodup:=by decide +kernel
theorem Cw:aS ["many","ties","house","leading_out","leading_in"] ["many","ties"] (av On):=cZ (by decide +kernel)
theorem Os(F:gv K "check_balance" "check_balance" On f fd)(B:Bl mg)(gM:∃t,mg "MOST_TIES_OUT"=some (.int 8 t)):
  bL P w K mg base bu 1 f fd ["many","ties"] k6:=by
 obtain⟨tM,gM⟩:=gM;refine F.ok Cw (fun vs H Q E h=>?_) (fun dW A outer s H vs Q E hr h=>?_)
 .obtain⟨n,l,zs,rfl,_⟩:=h;rfl
 .obtain⟨n,l,zs,rfl,T,k⟩:=h;have fi:=T.l7;have n1:=fi.n1;have n2:=fi.n2;have c_:zs.length<=256:=by have:=fi.len;rw[bH] at this;exact this
  refine'⟨_,ak (cq dh rfl (bi rfl B.range (aa (pv 0) af)) (aw (i:=2) Cw.nd rfl bU)
   (ai (aJ (i:=3) Cw.nd rfl aM (aB aF (by rfl) B.len cn (aa ?c1 af)))
   (ai (aJ (i:=4) Cw.nd rfl aM (aB aF (by rfl) B.len cn (aa ?c2 af)))
   (ai (br (aI pL (pv 3) (pv 4) (aN _)) fv aQ)
   (ak (br (aI BL (pv 3) (dJ (v:=.int 8) rfl gM ⟨_,rfl⟩) (aN _)) fv aQ)))))),?_⟩
  case c1=>
   refine' cA (g:=z7 K 2 (i5 (bE 0) (i5 (bE 1) z6))) (NB:=["one","other","house"]) (src:=[none,none,some 2]) (bN (by kernel_rfl)) rfl (b9 (pv 1)) ?g ?t ?e;case g=>exact fun cl C s₃ H₃ fp=>eT (n:=2) rfl (a_ (aw (i:=0) QE rfl aM bU) (a_ (aw (i:=1) QE rfl aM bU) dq))
   case t=>exact fun cl C s₃ H₃ fp=>fK (aI dY (pv 0) (pv 2) (aN _))
   case e=>exact fun cl C s₃ H₃ fp=>pv 0
  case c2=>
   refine' cA (g:=z7 K 2 (i5 (bE 0) (i5 (bE 1) z6))) (NB:=["one","other","house"]) (src:=[none,none,some 2]) (bN (by kernel_rfl)) rfl (b9 (pv 1)) ?g ?t ?e;case g=>exact fun cl C s₃ H₃ fp=>eT (n:=2) rfl (a_ (aw (i:=0) QE rfl aM bU) (a_ (aw (i:=1) QE rfl aM bU) dq))
   case t=>exact fun cl C s₃ H₃ fp=>fK (aI dY (pv 1) (pv 2) (aN _))
   case e=>exact fun cl C s₃ H₃ fp=>pv 1
  refine⟨_,rfl,n,rfl,by lia,by lia,ce (n:=n) (lo:=0) (fun i σ H2=>aE H H2/\∃a b c,σ=[some (.int n),some (.ref l),a,b,c]) ⟨aE.refl _,none,none,none,rfl⟩ ?_ ?_⟩
  .rintro i σ H2 hi ⟨sm,a,b,c,rfl⟩;have T2:=T.same sm;refine⟨_,rfl,l,rfl,⟨_,aZ.of T2.at_⟩,fun D hD=>pe (fun σ=>∃a b,σ=[a,b,some (.int (0+(i:Int)))]) (·.1) (·.1) (0+(i:Int)) hD T2.at_ T2.po (by lia) ⟨_,_,rfl⟩ ?_ ?_⟩
   .rintro z σ H3 Kt Kf hj ⟨x,y,rfl⟩ ha kt kf;refine⟨z.1,_,rfl,bv.of ha,rfl,_,_,rfl,_,_,rfl,rfl,?_⟩;refine⟨_,rfl,_,rfl,rfl,_,rfl,?_⟩;refine eU (fun e=>?_) (fun e=>?_)
    .exact⟨_,rfl,kt _ ⟨_,_,rfl⟩ (by simpa using e)⟩
    .exact kf _ ⟨_,_,rfl⟩ (by simpa using e)
   .refine⟨D,_,rfl,.inl (aZ.of ae),?_⟩;have DX:=bw (o:=.lst (IV (((zp zs).filter fun y=>decide (y.1=0+(i:Int))).map (·.1)))) (sm.trans (aE.refl _)) (H:=H) (by cases z:H D with|none=>rfl|some o=>rw[sm _ _ z] at hD;cases hD);have T3:=T.same DX;refine⟨_,rfl,l,rfl,⟨_,aZ.of T3.at_⟩,fun D' hD'=>pe (fun σ=>∃a b,σ=[a,b,some (.int (0+(i:Int)))]) (·.2) (·.2) (0+(i:Int)) hD' T3.at_ T3.po (by lia) ⟨_,_,rfl⟩ ?_ ?_⟩
    .rintro z σ H3 Kt Kf hj ⟨x,y,rfl⟩ ha kt kf;refine⟨z.1,_,rfl,bv.of ha,rfl,_,_,rfl,_,_,rfl,rfl,?_⟩;refine⟨_,rfl,_,rfl,rfl,_,rfl,?_⟩;refine eU (fun e=>?_) (fun e=>?_)
     .exact⟨_,rfl,kt _ ⟨_,_,rfl⟩ (by simpa using e)⟩
     .exact kf _ ⟨_,_,rfl⟩ (by simpa using e)
    .refine⟨D',_,rfl,.inl (aZ.of ae),?_⟩;rw[d9] at *;have q1:(IV (((zp zs).filter fun y=>decide (y.1=(i:Int))).map (·.1))).length=(IV (((zp zs).filter fun y=>decide (y.2=(i:Int))).map (·.2))).length:=by
      rw[aP,aP,aP,aP];exact fi.DK i
     have q2:(IV (((zp zs).filter fun y=>decide (y.1=(i:Int))).map (·.1))).length<=8:=by
      rw[aP,aP];exact fi.most i
     refine⟨_,rfl,_,rfl,rfl,_,rfl,?_⟩;rw[<-q1];rw[show (!decide (V.int (((IV (((zp zs).filter fun y=>decide (y.1=(i:Int))).map (·.1))).length:Nat):Int)=V.int (((IV (((zp zs).filter fun y=>decide (y.1=(i:Int))).map (·.1))).length:Nat):Int)))=false by simp];refine cD ?_;refine⟨_,rfl,_,_,rfl,rfl,_,rfl,?_⟩;rw[show decide ((((IV (((zp zs).filter fun y=>decide (y.1=(i:Int))).map (·.1))).length:Nat):Int) > 8)=false by rw[y9];lia];exact cD ⟨DX.trans (aj hD'),_,_,_,rfl⟩
  .rintro σ H2 ⟨sm,a,b,c,rfl⟩;exact k H2 sm
end
def Kk:Expr:=match (bV yp).getD 1 (.Pass ⟨0,0,0,0⟩) with
 |.Return (some (.Call _ _ (k::_) _)) _=>k.value
 |_=>.Name "x" ⟨0,0,0,0⟩
def Kl:Arguments:=match Kk with
 |.Lambda a _ _ _=>a
 |_=>{ posonlyargs:=[],args:=[],vararg:=none,kwonlyargs:=[],kw_defaults:=[],kwarg:=none,defaults:=[] }
def Km:Expr:=match Kk with
 |.Lambda _ b _ _=>b
 |e=>e
def S4:Scope:=match Kk with
 |.Lambda _ _ s _=>s
 |_=>{ kind:=.function,names:=[],isGenerator:=false,isCoroutine:=false }
def Ot:Pos:=match Kk with
 |.Lambda _ _ _ p=>p
 |_=>⟨0,0,0,0⟩
def MF:Str:=("houses_out":Str)++".<locals>."++"<lambda>"
abbrev ph(Pt:Addr)(H:Hp):Prop:=FZ Ot MF Pt H
def yq(Pt:Addr)(H H':Hp):Prop:=∀b o,H b=some o->b≠Pt->H' b=some o
theorem yq.of(a:aE H H'):yq Pt H H':=fun c o h _=>a c o h
theorem ph.not(t:ph Pt H)(h:H b=some o)(n:∀ps,o≠.qy ps):b≠Pt:=by
 rintro rfl;rcases t with z|⟨c,z,_⟩ <;> · rw[h] at z;exact n _ (bP z)
theorem ph.same(t:ph Pt H)(e:aE H H'):ph Pt H':=by
 rcases t with z|⟨c,z,y⟩
 .exact .inl (e _ _ z)
 .exact .inr ⟨c,e _ _ z,e _ _ y⟩
theorem Ko{n a b h:Int}(hn:0<n)(a0:0<=a)(a1:a<n)(b0:0<=b)(b1:b<n)(e:(a-h) % n=(b-h) % n):a=b:=by
 have h1:=Int.emod_emod_of_dvd (a-h) (Int.dvd_refl n);have q:(a-b) % n=0:=by
  have:a-b=(a-h)-(b-h):=by lia
  rw[this,Int.sub_emod,e,Int.sub_self,Int.zero_emod]
 obtain⟨c,hc⟩:=Int.dvd_of_emod_eq_zero q;have c0:c=0:=by
  rcases Int.lt_trichotomy c 0 with z|z|z
  .have:n*c<=n*(-1):=EM (by lia) (by lia);lia
  .exact z
  .have:n*1<=n*c:=EM (by lia) (by lia);lia
 rw[c0] at hc;lia
theorem tU{ts:Ts}{h:Int}(nd:ts.Nodup):((ts.filter fun y=>decide (y.1=h)).map (·.2)).Nodup:=by
 refine L2.oU (nd.filter _) fun x hx y hy e=>?_;have a:=(dD.mp hx).2;have b:=(dD.mp hy).2;simp at a b;exact gm (a.trans b.symm) e
theorem DY{n:Nat}{ts:Ts}{h:Nat}(F:cT n ts)(hh:h<n){out:List Int}(ko:N7 (h:Int) (n:Int) ((ts.filter fun y=>decide (y.1=(h:Int))).map (·.2)) out):out.map V.int=NV (bn n ts h):=by
 obtain⟨ps,hp,rfl,hs⟩:=ko;have Dv:(ps.map (·.2)).Perm ((ts.filter fun y=>decide (y.1=(h:Int))).map (·.2)):=by
  have:=hp.map (·.2);rw[di] at this;refine this.trans (rc ?_);conv=>rhs;rw[<-lP ((ts.filter fun y=>decide (y.1=(h:Int))).map (·.2))]
  rfl
 have mem:∀z,z∈ps.map (·.2)↔((h:Int),z)∈ts:=fun z=>by
  rw[Dv.mem_iff,bz];constructor
  .rintro⟨y,hy,rfl⟩;obtain⟨y1,y2⟩:=dD.mp hy;have:y.1=(h:Int):=by simpa using y2
   rw[<-this];exact y1
  .intro hz;exact⟨_,dD.mpr ⟨hz,by simp⟩,rfl⟩
 have nd:(ps.map (·.2)).Nodup:=Dv.nodup_iff.mpr (tU F.nd);have key:∀q∈ps,q.1=(q.2-(h:Int)) % (n:Int):=fun q hq=>by
  obtain⟨z,_,e⟩:=bz.mp (hp.mem_iff.mp hq);rw[<-e]
 have hn:(0:Int)<n:=by have:=F.n1;lia
 have sorted:(ps.map (·.2)).Pairwise fun x y=>(x-(h:Int)) % (n:Int)<(y-(h:Int)) % (n:Int):=by
  refine i0.mpr ?_;have XN:=i0.mp nd;refine(hs.and XN).imp_of_mem fun {x y} hx hy J4=>?_;have l1:=J4.1;rw[key x hx,key y hy] at l1;have ax:=F.rg _ ((mem x.2).mp (bz.mpr ⟨x,hx,rfl⟩));have ay:=F.rg _ ((mem y.2).mp (bz.mpr ⟨y,hy,rfl⟩));have ne:(x.2-(h:Int)) % (n:Int)≠(y.2-(h:Int)) % (n:Int):=fun z=>J4.2 (Ko hn ax.2.1 ax.2.2 ay.2.1 ay.2.2 z);lia
 have e:ps.map (·.2)=(bn n ts h).map fun (o:Nat)=>(o:Int):=by
  refine pU (k:=fun z=>(z-(h:Int)) % (n:Int)) sorted ?_ fun z=>?_
  .refine i0.mpr ?_;exact pT hh
  .rw[mem,bz];constructor
   .intro hz;have r:=F.rg _ hz;refine⟨z.toNat,(fc F hh).mpr ?_,by lia⟩;show (((h:Nat):Int),((z.toNat:Nat):Int))∈ts;rw[show ((z.toNat:Nat):Int)=z by lia];exact hz
   .rintro⟨o,ho,rfl⟩;exact(fc F hh).mp ho
 rw[e,di];rfl
section
variable {P:Program} {w:World} {K:PySem.W.Frag} {mg:Str->Option Value} {base:Heap}
theorem GN:aS ["many","ties","house","others"] ["many","ties","house"] (av yp):=cZ (by decide +kernel)
def wn(Pt:Addr):Sp:=fun vs H Q _=>∃ (n:Nat) (l:Addr) (h:Nat) (zs:Zs),vs=[.int n,.ref l,.int h]/\h<n/\gR H l n zs/\ph Pt H/\
 ∀ (r:Addr) (H':Hp),ph Pt H'->yq Pt H H'->H r=none->H' r=some (.lst (NV (bn n (zp zs) h)))->Q (.ref r) H'
theorem Kp(F:AH K "houses_out" "houses_out" yp f fd c)(B:Bl mg)(kb:K.In base)(hb:vZ mg base)(hc:PySem.W.codeHdIn K c Pt=true):
  bL P w K mg base bu 1 f fd ["many","ties","house"] (wn Pt):=by
 refine F.ok GN (fun vs H Q E h=>?_) (fun A outer s H vs Q E hr h=>?_)
 .obtain⟨n,l,h,zs,rfl,_⟩:=h;rfl
 .obtain⟨n,l,h,zs,rfl,hh,T,tb,k⟩:=h;have fi:=T.l7;have n1:=fi.n1;have c_:zs.length<=256:=by have:=fi.len;rw[bH] at this;exact this
  have LS:Sf (qf bu P w K mg base ["many","ties","house","others"] "houses_out" (av yp) f (.ref c) A outer s H E).Me MF Kl Km S4 "other" "house" "many" 2 0:=
   ⟨⟨_,_,_,_,_,rfl⟩,fun _ _ _ _ _=>rfl,rfl,rfl,rfl,rfl,rfl,rfl,rfl,by decide +kernel,by decide +kernel,by decide +kernel,rfl,rfl,rfl,by decide,⟨by decide,by decide⟩,⟨by decide,by decide⟩⟩
  refine'⟨_,ai (cS (i:=3) (g:=z7 K 2 (i5 (bE 0) (i5 (bE 1) z6))) (NB:=["one","other","house"]) (src:=[none,none,some 2]) (bN (by kernel_rfl)) rfl (b9 (pv 1)) ?g ?t ?e GN.nd rfl rfl rfl)
   (ak (aK (Du (AG LS hr) rfl B.sorted y7 (aa (pv 3) af) (Jr (N6 (NB:=["other","house","many"]) (src:=[none,some 2,some 0]) (JS kb hb hc) (bN (by kernel_rfl))) Nz)))),?_⟩
  case g=>exact fun cl C s₃ H₃ fp=>eT (n:=2) rfl (a_ (aw (i:=0) QE rfl aM bU) (a_ (aw (i:=1) QE rfl aM bU) dq))
  case t=>exact fun cl C s₃ H₃ fp=>fK (aI dY (pv 0) (pv 2) (aN _))
  case e=>exact fun cl C s₃ H₃ fp=>pv 1
  refine⟨_,rfl,l,rfl,⟨_,aZ.of T.at_⟩,fun D hD=>pe (fun σ=>∃a b,σ=[a,b,some (.int (h:Int))]) (·.1) (·.2) (h:Int) hD T.at_ T.po (by lia) ⟨_,_,rfl⟩ ?_ ?_⟩
  .rintro z σ H3 Kt Kf hj ⟨x,y,rfl⟩ ha kt kf;refine⟨z.1,_,rfl,bv.of ha,rfl,_,_,rfl,_,_,rfl,rfl,?_⟩;refine⟨_,rfl,_,rfl,rfl,_,rfl,?_⟩;refine eU (fun e=>?_) (fun e=>?_)
   .exact⟨_,rfl,kt _ ⟨_,_,rfl⟩ (by simpa using e)⟩
   .exact kf _ ⟨_,_,rfl⟩ (by simpa using e)
  .generalize BP:((zp zs).filter fun y=>decide (y.1=(h:Int))).map (·.2)=os;have IR:os.length<=8:=by rw[<-BP,aP];exact fi.most h
   have sm:aE H (upd H D (.lst (IV os))):=aj hD;refine⟨_,rfl,tb.same sm,fun f' c' H2 XS xh xn JM=>?_⟩;have t2:ph Pt H2:=XS;have iz:H2 D=some (.lst (IV os)):=xh _ _ ae ((tb.same sm).not ae nofun);refine⟨D,f',c',os,h,n,rfl,rfl,aZ.of iz,(by lia),JM,xn,rfl,rfl,by lia,fun r out BY ko=>?_⟩;rw[<-BP] at ko;rw[DY fi hh ko];have DX:aE H2 (upd H2 r (.lst (NV (bn n (zp zs) h)))):=aj BY;refine k r _ (t2.same DX) (fun b o e hb=>DX _ _ (xh b o (sm _ _ e) hb)) ?_ ae;cases z:H r with
   |none=>rfl
   |some o=>
    by_cases hP:r=Pt
    .rcases t2 with q|⟨_,q,_⟩ <;> · rw[<-hP,BY] at q;cases q
    .rw[xh r o (sm _ _ z) hP] at BY;cases BY
end
abbrev GQ:Stmt:=iy 36
abbrev A3:Stmt:=iy 37
def lg(n:Nat)(R:List Nat)(f:Nat->Nat):List V:=(List.range n).map fun x=>if x∈R then V.int ((f x:Nat):Int) else .bD
theorem kK:(lg n R f).length=n:=by unfold lg;rw[aP,b8]
theorem kL(h:x<n):(lg n R f)[x]?=some (if x∈R then V.int ((f x:Nat):Int) else .bD):=by
 unfold lg;rw[cm,hX h];rfl
theorem A4(hs:s<n):(List.replicate n V.bD).set s (V.int 0)=lg n [s] (fun _=>0):=by
 apply j3;intro x;by_cases hx:x<n
 .rw[kL hx];by_cases e:x=s
  .subst e;rw[lA (by rw[jU];exact hx),ap (by simp)];rfl
  .rw[lC (fun z=>e z.symm),qO,ap hx,aq (by simp[e])]
 .rw[de (by rw[jI,jU];lia),de (by rw[kK];lia)]
theorem GR(hv:v<n):(lg n R f).set v (V.int ((k:Nat):Int))=lg n (R++[v]) (put f v k):=by
 apply j3;intro x;by_cases hx:x<n
 .rw[kL hx];by_cases e:x=v
  .subst e;rw[lA (by rw[kK];exact hx),ap (by simp),iq]
  .rw[lC (fun z=>e z.symm),kL hx,fm e];by_cases h:x∈R
   .rw[ap h,ap (fw _ h)]
   .rw[aq h,aq (fun z=>(bS.mp z).elim h fun z=>e (by simpa using z))]
 .rw[de (by rw[jI,kK];lia),de (by rw[kK];lia)]
def S5(σ:St):Nat:=match σ[4]? with
 |some (some (V.int z))=>z.toNat
 |_=>0
theorem nbO:(["others"]:List Str).Nodup:=by decide +kernel
def sj(H:Hp)(ol:Addr)(n:Nat)(ts:Ts):Prop:=∃bs:List Addr,H ol=some (.lst (bs.map V.ref))/\Holds H bs n (fun h=>.lst (NV (bn n ts h)))
theorem sj.same(x:sj H ol n ts)(e:aE H H'):sj H' ol n ts:=let ⟨bs,a,b⟩:=x;⟨bs,e _ _ a,b.mono fun _ _ z=>e _ _ z⟩
theorem MG{as:List Addr}{i:Nat}{x:V}(h:(as.map V.ref)[i]?=some x):i<as.length/\x=.ref (as.getD i 0):=by
 rw[cm] at h;cases e:as[i]? with
 |none=>rw[e] at h;cases h
 |some a=>
  rw[e] at h;refine⟨(cK.mp e).1,?_⟩;rw[aY,e];exact(bP h).symm
section
variable {P:Program} {w:World} {K:PySem.W.Frag} {mg:Str->Option Value} {base:Heap}
theorem l_:aS ["out_lists","start","distances","reached","at","house","other"] ["out_lists","start"] (av GQ):=cZ (by decide +kernel)
def wo:Sp:=fun vs H Q _=>∃ (ol:Addr) (n s:Nat) (ts:Ts),vs=[.ref ol,.int s]/\cT n ts/\s<n/\sj H ol n ts/\
 ∀ (r:Addr) (H':Hp),aE H H'->H r=none->H' r=some (.lst (NV ((List.range n).map (o0 ts s))))->Q (.ref r) H'
theorem Kq{f:Addr}{fd:FuncData}(F:gv K "distances_from" "distances_from" GQ f fd)(B:Bl mg):bL P w K mg base bu 1 f fd ["out_lists","start"] wo:=by
 refine F.ok l_ (fun vs H Q E h=>?_) (fun dW A outer s H vs Q E hr h=>?_)
 .obtain⟨ol,n,s,ts,rfl,_⟩:=h;rfl
 .obtain⟨ol,n,st,ts,rfl,fi,hs,O,k⟩:=h;have n1:=fi.n1;have n2:=fi.n2;refine'⟨_,ai (cS (i:=2) (g:=bE 0) (NB:=["others"]) (src:=[none]) (bN (by kernel_rfl)) rfl (b9 (pv 0)) ?g ?t ?e l_.nd rfl rfl rfl)
   (ai (dL au (ii (pv 2) (pv 1) eC))
   (ai (aJ (i:=3) l_.nd rfl aM (bZ (aa (pv 1) af)))
   (ai (aJ (i:=4) l_.nd rfl aM au)
   (ai (xq dh (aI kn (pv 4) (aB aF (by rfl) B.len cn (aa (pv 3) af)) (aN _))
    (ai (aJ (i:=5) l_.nd rfl aM (aT aO (pv 3) (pv 4) (fun _ _=>rfl)))
    (ai (cq dh rfl (b9 (aT aO (pv 0) (pv 5) (fun _ _=>rfl))) (aw (i:=6) l_.nd rfl aM)
     (ak (br (aI oF (aT aO (pv 2) (pv 6) (fun _ _=>rfl)) cp (aN _))
      (ai (dL (bj dv (aT aO (pv 2) (pv 5) (fun _ _=>rfl)) au) (ii (pv 2) (pv 6) eC))
      (ak (cU (gG fV mz my dS (pv 3) (aa (pv 6) af))))) aQ)))
    (ak (Nm (i:=4) l_.nd rfl aM au Nn)))))
   (ak (aK (pv 2))))))),?_⟩
  case g=>exact fun cl C s₃ H₃ fp=>aw (i:=0) nbO rfl aM bU
  case t=>exact fun cl C s₃ H₃ fp=>cy
  case e=>exact fun cl C s₃ H₃ fp=>cp
  obtain⟨bs,IR,S6,Mn⟩:=id O;refine⟨_,rfl,ol,rfl,⟨_,aZ.of IR⟩,fun D hD=>?_⟩;have nol:ol≠D:=ao IR hD;refine dE (xs:=bs.map V.ref) (fun i ys σ H2=>(∃a,σ=[a])/\ys=List.replicate i V.bD/\H2=upd H D (.lst ys)) ⟨⟨_,rfl⟩,rfl,rfl⟩ (fun i ys σ H2 _ ⟨_,_,e⟩=>by rw[e];exact aZ.of (by rw[am nol];exact IR)) ?_ ?_
  .rintro i x ys σ H2 Kt Kf hx ⟨⟨a,rfl⟩,rfl,rfl⟩ kt kf;have hi:=(MG hx).1;refine kt _ _ _ ae ?_ ⟨⟨_,rfl⟩,?_,by rw[mE]⟩
   .rw[jU];exact cQ hi (by rw[S6];exact bC n2 (by decide))
   .rw[List.replicate_succ']
  .rintro ys σ H2 ⟨_,rfl,rfl⟩;rw[aP,S6];refine⟨_,rfl,_,rfl,D,_,st,st,rfl,rfl,ae,by rw[jU];exact dZ hs,?_⟩;rw[mE,A4 hs];refine⟨_,rfl,by show 1<=sizeLine;decide,fun R hR=>?_⟩;have EG:D≠R:=ao (H:=upd H D (.lst (lg n [st] (fun _=>0)))) ae hR;have Kr:H R=none:=by rw[am EG.symm] at hR;exact hR
   refine xt (fun σ H2=>∃ (i:Nat) (Rs:List Nat) (f:Nat->Nat),i<=Rs.length/\yS n ts st i Rs f/\(∃a b,σ=[some (.ref ol),some (.int st),some (.ref D),some (.ref R),some (.int (i:Int)),a,b])/\aE H H2/\H2 D=some (.lst (lg n Rs f))/\H2 R=some (.lst (NV Rs)))
    (fun σ _=>n-S5 σ) ⟨0,[st],fun _=>0,cM _,yS.start hs,⟨none,none,rfl⟩,bw (aj hD) Kr,?_,ae⟩ ?_ ?_
   .rw[am EG,ae]
   .rintro σ H2 ⟨i,Rs,f,hi,Bf,⟨a,b,rfl⟩,sm,iz,Ou⟩;have hRn:Rs.length<=n:=eK Bf.nd Bf.lt;refine⟨_,rfl,_,rfl,R,_,rfl,.inl (aZ.of Ou),_,_,rfl,rfl,_,rfl,?_⟩;rw[aR];by_cases pR:i<Rs.length
    .rw[show decide ((i:Int)<((Rs.length:Nat):Int))=true by simp;lia];refine dP ?_;have hu:Rs[i]?=some Rs[i]:=bB pR;generalize Rs[i]=u at hu;have yr:u<n:=Bf.lt u (df hu);have XT:(NV Rs)[i]?=some (.int (u:Int)):=by rw[cm,hu];rfl
     refine⟨_,rfl,_,rfl,R,_,_,_,rfl,rfl,aZ.of Ou,aA XT,?_⟩;have Ov:(bs.map V.ref)[u]?=some (.ref (bs.getD u 0)):=by
      rw[cm,aY,bB (by rw[S6];exact yr)];rfl
     have Ow:=sm _ _ (Mn _ yr);refine⟨_,rfl,_,rfl,ol,_,_,_,rfl,rfl,aZ.of (sm _ _ IR),aA Ov,_,rfl,⟨_,aZ.of Ow⟩,?_⟩;have nbD:bs.getD u 0≠D:=ao (Mn _ yr) hD;have nbR:bs.getD u 0≠R:=ao (Mn _ yr) Kr;refine ij (K:=K) (xs:=NV (bn n ts u)) (fun j σ H3=>∃ (hG:List Nat) (f':Nat->Nat),yS n ts st i hG f'/\hG[i]?=some u/\(∀v∈(bn n ts u).take j,v∈hG/\f' v<=f' u+1)/\
      (∃b,σ=[some (.ref ol),some (.int st),some (.ref D),some (.ref R),some (.int (i:Int)),some (.int (u:Int)),b])/\aE H H3/\H3 D=some (.lst (lg n hG f'))/\H3 R=some (.lst (NV hG)))
      ⟨Rs,f,Bf,hu,fun v hv=>by simp at hv,⟨_,rfl⟩,sm,iz,Ou⟩ (fun j σ H3 _ ⟨_,_,_,_,_,_,DZ,_⟩=>aZ.of (DZ _ _ (Mn _ yr))) ?_ ?_
     .rintro j x σ H3 hx ⟨hG,f',wq,tP,dn,⟨b',rfl⟩,DZ,qm,AK⟩;rw[cm] at hx;cases hv:(bn n ts u)[j]? with
      |none=>rw[hv] at hx;cases hx
      |some v=>
       rw[hv] at hx;obtain rfl:V.int ((v:Nat):Int)=x:=bP hx;have S7:v∈bn n ts u:=df hv;have Ks:v<n:=v_ fi yr S7;have XU:T ts u v:=(fc fi yr).mp S7;have tk:(bn n ts u).take (j+1)=(bn n ts u).take j++[v]:=by rw[fW,hv];rfl
       have D5:u∈hG:=df tP;refine⟨_,rfl,_,rfl,D,_,_,_,rfl,rfl,aZ.of qm,aA (kL Ks),rfl,_,rfl,?_⟩;by_cases yt:v∈hG
       .rw[ap yt];refine cD ⟨hG,f',wq,tP,fun x hx=>?_,⟨_,rfl⟩,DZ,qm,AK⟩;rw[tk] at hx;rcases bS.mp hx with z|z
        .exact dn x z
        .simp at z;subst z;exact⟨yt,wq.bd u tP _ yt⟩
       .rw[aq yt];refine dP ?_;have XV:(lg n hG f')[u]?=some (.int ((f' u:Nat):Int)):=by rw[kL yr,ap D5]
        refine⟨_,rfl,_,rfl,D,_,_,_,rfl,rfl,aZ.of qm,aA XV,_,_,rfl,rfl,_,rfl,_,rfl,D,_,_,_,rfl,rfl,qm,by rw[kK];exact dZ Ks,?_⟩;have e1:(lg n hG f').set v (.int (((f' u:Nat):Int)+1))=lg n (hG++[v]) (put f' v (f' u+1)):=by
         rw[show ((f' u:Nat):Int)+1=((f' u+1:Nat):Int) by lia,GR Ks]
        rw[e1];have qF:(upd H3 D (.lst (lg n (hG++[v]) (put f' v (f' u+1))))) R=some (.lst (NV hG)):=by rw[am EG.symm];exact AK
        have GS:hG.length<=n:=eK wq.nd wq.lt;refine⟨_,rfl,.inl ⟨rfl,_,aZ.of qF⟩,_,rfl,R,_,_,rfl,rfl,qF,by rw[aR];exact cQ (show hG.length<33 by lia) (by decide),?_⟩;have tQ:i<hG.length:=(cK.mp tP).1;have XW:u≠v:=fun z=>yt (z ▸ D5);refine⟨hG++[v],put f' v (f' u+1),wq.add tP Ks XU yt,by rw[iD tQ];exact tP,fun x hx=>?_,⟨_,rfl⟩,bw (bw DZ hD) Kr,?_,?_⟩
        .rw[fm XW];rw[tk] at hx;rcases bS.mp hx with z|z
         .obtain⟨q1,q2⟩:=dn x z;exact⟨fw _ q1,by rw[fm (fun (z:x=v)=>yt (z ▸ q1))];exact q2⟩
         .simp at z;subst z;exact⟨by simp,by rw[iq];exact bt _⟩
        .rw[am EG,ae]
        .rw[ae];show _=some (HO.lst (NV (hG++[v])));rw[show NV (hG++[v])=NV hG++[.int (v:Int)] by unfold NV;rw[dg];rfl]
     .rintro σ H3 ⟨hG,f',wq,tP,dn,⟨b',rfl⟩,DZ,qm,AK⟩;rw[aR,iF] at dn;have tQ:i<hG.length:=(cK.mp tP).1;have GS:hG.length<=n:=eK wq.nd wq.lt;refine⟨_,rfl,_,_,rfl,rfl,⟨⟨i+1,hG,f',tQ,wq.next tP (fun v t=>dn v ((fc fi yr).mpr t)),⟨_,_,rfl⟩,DZ,qm,AK⟩,?_⟩⟩;show n-((i:Int)+1).toNat<n-(i:Int).toNat;lia
    .rw[show decide ((i:Int)<((Rs.length:Nat):Int))=false by rw[y9];lia];have e:lg n Rs f=NV ((List.range n).map (o0 ts st)):=by
      unfold lg NV;rw[di];refine jF fun x hx=>?_;obtain⟨q1,q2⟩:=Bf.done fi (by lia) (bQ.mp hx);rw[ap q1,q2];rfl
     rw[e] at iz;refine cD ⟨_,rfl,k D H2 sm hD iz⟩
   .rintro σ H2 Q1 Q2 imp ⟨v,e1,v2,e2,p,ys,e3,e4,i1,i2,e5,e6,kk,e7,q⟩;exact⟨v,e1,v2,e2,p,ys,e3,e4,i1,i2,e5,e6,kk,e7,imp _ _ q⟩
end
theorem S9:(["row"]:List Str).Nodup:=by decide +kernel
section
variable {P:Program} {w:World} {K:PySem.W.Frag} {mg:Str->Option Value} {base:Heap}
theorem Ku:aS ["distances"] ["distances"] (av A3):=cZ (by decide +kernel)
def wr:Sp:=fun vs H Q _=>∃ (l:Addr) (ds:List Addr) (n:Nat) (o:Nat->List V),vs=[.ref l]/\H l=some (.lst (ds.map V.ref))/\n<=32/\Holds H ds n (fun j=>.lst (o j))/\(∀j,j<n->∀x∈o j,∃i,x=.int i)/\∀H',aE H H'->Q .bD H'
theorem GT(F:gv K "check_reached" "check_reached" A3 f fd)(B:Bl mg):bL P w K mg base bu 1 f fd ["distances"] wr:=by
 refine F.ok Ku (fun vs H Q E h=>?_) (fun dW A outer s H vs Q E hr h=>?_)
 .obtain⟨l,ds,n,o,rfl,_⟩:=h;rfl
 .obtain⟨l,ds,n,o,rfl,hl,n2,hh,hx,k⟩:=h;refine'⟨_,ak (br (cR (aB (Ds rfl) (by rfl) B.any PyProof.Rows.boot_any (aa ?c af))) fv aQ),?_⟩;case c=>
   refine' cA (g:=bE 0) (te:=gE (Rz K false) (tC .bD) (aW 0)) (NB:=["row"]) (src:=[none]) (bN (by kernel_rfl)) rfl (b9 (pv 0)) ?g ?t ?e;case g=>exact fun cl C s₃ H₃ fp=>aw (i:=0) S9 rfl aM bU
   case t=>exact fun cl C s₃ H₃ fp=>cy
   case e=>exact fun cl C s₃ H₃ fp=>iG oK cp (pv 0) rfl
  refine⟨_,rfl,l,rfl,⟨_,aZ.of hl⟩,fun D hD=>?_⟩;have nl:l≠D:=ao hl hD;refine dE (xs:=ds.map V.ref) (fun i ys σ H2=>(∃a,σ=[a])/\ys=(List.replicate i false).map V.bl/\H2=upd H D (.lst ys)) ⟨⟨_,rfl⟩,rfl,rfl⟩ (fun i ys σ H2 _ ⟨_,_,e⟩=>by rw[e];exact aZ.of (by rw[am nl];exact hl)) ?_ ?_
  .rintro i x ys σ H2 Kt Kf hxi ⟨⟨a,rfl⟩,rfl,rfl⟩ kt kf;obtain⟨hi,rfl⟩:=MG hxi;rw[hh.1] at hi;have hd:=hh.2 i hi;have nd:ds.getD i 0≠D:=ao hd hD;have q1:(o i).all dA=true:=g8.mpr fun x C5=>by obtain⟨z,rfl⟩:=hx i hi x C5;rfl
   have q2:EC .bD (o i)=false:=by
    unfold EC;rw[zL];intro x C5;obtain⟨z,rfl⟩:=hx i hi x C5;exact fun z=>by cases z
   refine⟨_,rfl,_,_,rfl,.inl (aZ.of (by rw[am nd];exact hd)),rfl,q1,?_⟩;refine kt _ _ _ ae ?_ ⟨⟨_,rfl⟩,?_,by rw[mE]⟩
   .rw[aP,jU];exact cQ hi (bC n2 (by decide))
   .rw[List.replicate_succ',dg,q2];rfl
  .rintro ys σ H2 ⟨_,rfl,rfl⟩;refine⟨D,_,rfl,aZ.of ae,_,rfl,?_⟩;have e:(List.replicate (ds.map V.ref).length false).any id=false:=by
    rw[zL];intro x C5;rw[(List.mem_replicate.mp C5).2];decide
   rw[e];exact cD (k _ (aj hD))
end
theorem nb2:(["one","other"]:List Str).Nodup:=by decide +kernel
theorem S_:(["house","many","ties"]:List Str).Nodup:=by decide +kernel
theorem XX:(["house","self"]:List Str).Nodup:=by decide +kernel
def nq(p Pt:Addr)(H H':Hp):Prop:=∀b o,H b=some o->b≠p->b≠Pt->H' b=some o
theorem gR.mono(h:gR H l n zs)(e:nq p Pt H H')(hp:H p=some (.ins C dx fs))(tb:ph Pt H):gR H' l n zs:=
 ⟨h.l7,e _ _ h.at_ (f9 h.at_ hp (by intro z;cases z)) (tb.not h.at_ nofun),fun z hz=>e _ _ (h.po z hz) (f9 (h.po z hz) hp (by intro z;cases z)) (tb.not (h.po z hz) nofun)⟩
theorem ph.mono(t:ph Pt H)(e:∀b o,H b=some o->b≠p->H' b=some o)(hp:H p=some (.ins C dx fs)):ph Pt H':=by
 rcases t with z|⟨c,z,y⟩
 .exact .inl (e _ _ z (f9 z hp (by intro q;cases q)))
 .exact .inr ⟨c,e _ _ z (f9 z hp (by intro q;cases q)),e _ _ y (f9 y hp (by intro q;cases q))⟩
theorem ph.full(t:ph Pt H):H Pt≠none:=by
 rcases t with z|⟨c,z,y⟩ <;> rw[z] <;> intro q <;> cases q
theorem nq.free(s:nq p Pt H H')(hp:H' p≠none)(tb:ph Pt H')(h:H' r=none):H r=none:=by
 cases z:H r with
 |none=>rfl
 |some o=>
  by_cases e1:r=p
  .subst e1;exact absurd h hp
  .by_cases e2:r=Pt
   .subst e2;exact absurd h tb.full
   .rw[s r o z e1 e2] at h;cases h
theorem Ta(h:k [] H):cY σ H k:=h
theorem k7{H:Hp}{p:Addr}{o:HO}(h:H p=some o):H p≠none:=by rw[h];intro z;cases z
section
variable {P:Program} {w:World} {K:PySem.W.Frag} {mg:Str->Option Value} {base:Heap}
theorem Oy:aS ["self","many","ties"] ["self","many","ties"] (av Cs):=cZ (by decide +kernel)
def A5(C Pt:Addr):Sp:=fun vs H Q E=>∃ (p dx:Addr) (n:Nat) (l:Addr) (zs:Zs),vs=[.ref p,.int n,.ref l]/\H p=some (.ins C dx [])/\gR H l n zs/\ph Pt H/\
  ∀H',eS C H' (fun a=>H a=none) p n (zp zs)->ph Pt H'->nq p Pt H H'->Q .bD H'
theorem Kv{f C Pt:Addr}{fd:FuncData}(F:gv K "__init__" "Net.__init__" Cs f fd)(T:NT K mg C)(B:Bl mg)(CT:cE P w K mg base bu 6 "check_ties" ["many","ties"] k6)(CB:cE P w K mg base bu 1 "check_balance" ["many","ties"] k6)(HO':cE P w K mg base bu 1 "houses_out" ["many","ties","house"] (wn Pt))(DF:cE P w K mg base bu 1 "distances_from" ["out_lists","start"] wo)(CR:cE P w K mg base bu 1 "check_reached" ["distances"] wr):
  bL P w K mg base bu 7 f fd ["self","many","ties"] (A5 C Pt):=by
 refine F.ok Oy (fun vs H Q E h=>?_) (fun dW A outer s H vs Q E hr h=>?_)
 .obtain⟨p,dx,n,l,zs,rfl,_⟩:=h;rfl
 .have VN:cx 1 _:=hr.mono (by decide);refine'⟨_,ai (cU (aG CT hr aL (aa (pv 1) (aa (pv 2) af))))
   (ai (cU (aG CB VN aL (aa (pv 1) (aa (pv 2) af))))
   (ai (vI (pv 0) (pv 1) rfl)
   (ai (vI (pv 0) (aB AL (by rfl) B.sorted y7 (aa ?c1 af)) rfl)
   (ai (vI (pv 0) ?c2 rfl)
   (ai (vI (pv 0) ?c3 rfl)
   (ak (cU (aG CR VN aL (aa (rE (pv 0) rfl) af))))))))),?_⟩
  case c1=>
   refine' cA (g:=z7 K 2 (i5 (bE 0) (i5 (bE 1) z6))) (te:=jv (aV (aW 0) (aV (aW 1) cY))) (NB:=["one","other"]) (src:=[none,none]) (bN (by kernel_rfl)) rfl (b9 (pv 2)) ?g ?t ?e;case g=>exact fun cl C s₃ H₃ fp=>eT (n:=2) rfl (a_ (aw (i:=0) nb2 rfl aM bU) (a_ (aw (i:=1) nb2 rfl aM bU) dq))
   case t=>exact fun cl C s₃ H₃ fp=>cy
   case e=>exact fun cl C s₃ H₃ fp=>bf (aa (pv 0) (aa (pv 1) af))
  case c2=>
   refine' cA (g:=bE 0) (te:=uf (wn Pt) [] E0 (aV (aW 1) (aV (aW 2) (aV (aW 0) cY)))) (NB:=["house","many","ties"]) (src:=[none,some 1,some 2]) (bN (by kernel_rfl)) rfl (bi rfl B.range (aa (pv 1) af)) ?g ?t ?e;case g=>exact fun cl C s₃ H₃ fp=>aw (i:=0) S_ rfl aM bU
   case t=>exact fun cl C s₃ H₃ fp=>cy
   case e=>exact fun cl C s₃ H₃ fp=>aG HO' VN aL (aa (pv 1) (aa (pv 2) (aa (pv 0) af)))
  case c3=>
   refine' cA (g:=bE 0) (te:=uf wo [] E0 (aV (Rp K (aW 1) "out_lists") (aV (aW 0) cY))) (NB:=["house","self"]) (src:=[none,some 0]) (bN (by kernel_rfl)) rfl (bi rfl B.range (aa (pv 1) af)) ?g ?t ?e;case g=>exact fun cl C s₃ H₃ fp=>aw (i:=0) XX rfl aM bU
   case t=>exact fun cl C s₃ H₃ fp=>cy
   case e=>exact fun cl C s₃ H₃ fp=>aG DF VN aL (aa (rE (pv 1) rfl) (aa (pv 0) af))
  obtain⟨p,dx,n,l,zs,rfl,hp,TT,tb,k⟩:=h;have fi:=TT.l7;have n1:=fi.n1;have n2:=fi.n2;have c_:zs.length<=256:=by have:=fi.len;rw[bH] at this;exact this
  refine⟨_,rfl,_,rfl,n,l,zs,rfl,TT,fun H1 s1=>?_⟩;refine⟨_,rfl,_,rfl,n,l,zs,rfl,TT.same s1,fun H2 s2=>?_⟩;have GU:aE H H2:=s1.trans s2;refine⟨_,rfl,_,rfl,p,C,dx,[],rfl,GU _ _ hp,T.cl,T.nH,(by show 0<1000;decide),?_⟩
  let G1:Hp:=upd H2 p (.ins C dx (dM "house_count" (.int n) []))
  have d1:nq p Pt H G1:=fun b o e h1 _=>by show upd _ _ _ _=_;rw[am h1];exact GU _ _ e
  have VO:G1 p=some (.ins C dx (dM "house_count" (.int n) [])):=ae;have XY:gR G1 l n zs:=TT.mono d1 hp tb;have XZ:ph Pt G1:=tb.mono (fun b o e h1=>by show upd _ _ _ _=_;rw[am h1];exact GU _ _ e) hp;refine⟨_,rfl,l,rfl,⟨_,aZ.of XY.at_⟩,fun D hD=>?_⟩;refine GD (fun y=>y) (fun σ=>∃a b,σ=[a,b]) XY.at_ XY.po hD (by lia) ⟨_,_,rfl⟩ ?_ ?_
  .rintro z σ H3 R Kf hz ⟨a,b,rfl⟩ ha kk;refine⟨_,_,rfl,bv.of ha,rfl,_,_,rfl,_,_,rfl,rfl,?_⟩;exact⟨_,rfl,_,rfl,by show 2<=sizeLine;decide,fun t ht=>kk _ _ ⟨_,_,rfl⟩ ht⟩
  .intro pX H3 sm qm X0 ez fr2;rw[List.map_id'] at ez;have NL:pX.length=zs.length:=by rw[<-bH,ez,bH]
   refine Ta ?_;refine Ke qm X0 (by lia) (fun u hu=>by have:=(fi.rg u (ez ▸ hu)).2;lia) fun tl QF X1 pm ord=>?_;have X2:H tl=none:=d1.free (k7 VO) XZ (sm.free X1);have Np:∀z∈QF,H z.1=none:=fun z hz=>d1.free (k7 VO) XZ (fr2 z (pm.mem_iff.mp hz));have X3:H3 p=some (.ins C dx (dM "house_count" (.int n) [])):=sm _ _ VO;have Oz:p≠tl:=ao X3 X1;refine⟨_,rfl,p,C,dx,_,rfl,by rw[am Oz];exact X3,T.cl,T.nT,by show 1<1000;decide,?_⟩
   let G2:Hp:=upd (upd H3 tl (.lst (zr QF))) p (.ins C dx (dM "tie_list" (.ref tl) (dM "house_count" (.int n) [])))
   have q2:∀b o,H3 b=some o->b≠p->G2 b=some o:=fun b o e h1=>by
    show upd _ _ _ _=_;rw[am h1,am (ao e X1)];exact e
   have d2:nq p Pt H G2:=fun b o e h1 h2=>q2 _ _ (sm _ _ (d1 _ _ e h1 h2)) h1;have g2t:G2 tl=some (.lst (zr QF)):=by show upd _ _ _ _=_;rw[am Oz.symm,ae]
   have X4:PO G2 QF:=fun z hz=>q2 _ _ (X0 z (pm.mem_iff.mp hz)) (f9 (X0 z (pm.mem_iff.mp hz)) X3 (by intro z;cases z));have OA:G2 p=some (.ins C dx (dM "tie_list" (.ref tl) (dM "house_count" (.int n) []))):=ae;have TT2:gR G2 l n zs:=TT.mono d2 hp tb;have OB:ph Pt G2:=XZ.mono (fun b o e h1=>q2 _ _ (sm _ _ e) h1) VO;refine⟨_,rfl,n,rfl,by lia,by lia,fun D2 iz=>?_⟩;refine fk (n:=n) (lo:=0) (fun i ys σ H4=>(∃a,σ=[a,some (.int n),some (.ref l)])/\∃bs:List Addr,ys=bs.map V.ref/\(∀b∈bs,H b=none)/\Holds H4 bs i (fun h=>.lst (NV (bn n (zp zs) h)))/\yq Pt G2 H4/\ph Pt H4/\H4 D2=some (.lst ys)/\∀b∈bs,b≠D2)
    ⟨⟨_,rfl⟩,[],rfl,(fun _ h=>nomatch h),Holds.nil,yq.of (aj iz),OB.same (aj iz),ae,(fun _ h=>nomatch h)⟩ ?_ ?_
   .rintro i ys σ H4 Kt Kf hi ⟨⟨a,rfl⟩,bs,rfl,X5,hb,tj,QG,xj,X6⟩ kt kf;have TT4:gR H4 l n zs:=TT2.mono (p:=p) (fun b o e _ h2=>tj _ _ e h2) OA OB;have QH:=tj _ _ OA (OB.not OA nofun);refine⟨_,rfl,_,rfl,_,rfl,n,l,i,zs,by rw[d9];rfl,hi,TT4,QG,fun r H5 t5 xc Kw IT=>?_⟩;have X7:H r=none:=nq.free (fun b o e h1 h2=>tj _ _ (d2 _ _ e h1 h2) h2) (k7 QH) QG Kw;have VP:H5 D2=some (.lst (bs.map V.ref)):=xc _ _ xj (QG.not xj nofun);have Tb:r≠D2:=by rintro rfl;rw[xj] at Kw;cases Kw
    have lx:∀b o xU,H5 b=some o->b≠D2->(upd H5 D2 xU) b=some o:=fun b o xU e h=>by rw[am h];exact e
    refine kt _ _ _ VP (by rw[aP,hb.1];exact cQ hi (bC n2 (by decide))) ⟨⟨_,rfl⟩,bs++[r],by rw[dg];rfl,?_,?_,?_,?_,ae,?_⟩
    .intro b yO;rcases bS.mp yO with z|z
     .exact X5 b z
     .rw[cC.mp z];exact X7
    .refine Holds.snoc (hb.mono fun j hj e=>?_) (lx _ _ _ IT Tb);refine lx _ _ _ (xc _ _ e (QG.not e nofun)) (X6 _ ?_);rw[aY,bB (by rw[hb.1];exact hj)];exact dH _
    .intro b o e h;exact lx _ _ _ (xc _ _ (tj _ _ e h) h) (ao e iz)
    .rcases t5 with z|⟨c,z,y⟩
     .exact .inl (lx _ _ _ z (f9 z VP (by intro q;cases q)))
     .exact .inr ⟨c,lx _ _ _ z (f9 z VP (by intro q;cases q)),lx _ _ _ y (f9 y VP (by intro q;cases q))⟩
    .intro b yO;rcases bS.mp yO with z|z
     .exact X6 b z
     .rw[cC.mp z];exact Tb
   .rintro ys σ H4 ⟨_,bs,rfl,X5,hb,tj,QG,xj,X6⟩;have QH:H4 p=some (.ins C dx (dM "tie_list" (.ref tl) (dM "house_count" (.int n) []))):=tj _ _ OA (OB.not OA nofun);have X8:H D2=none:=d2.free (k7 OA) OB iz;refine⟨_,rfl,p,C,dx,_,rfl,QH,T.cl,T.nO,by have h1:=eA "tie_list" (V.ref tl) (dM "house_count" (V.int n) []);have h2:=eA "house_count" (V.int n) [];simp at h2;lia,?_⟩
    let G3:Hp:=upd H4 p (.ins C dx (dM "out_lists" (.ref D2) (dM "tie_list" (.ref tl) (dM "house_count" (.int n) []))))
    have q3:∀b o,H4 b=some o->b≠p->G3 b=some o:=fun b o e h1=>by show upd _ _ _ _=_;rw[am h1];exact e
    have OC:G3 p=some (.ins C dx (dM "out_lists" (.ref D2) (dM "tie_list" (.ref tl) (dM "house_count" (.int n) [])))):=ae;have d3:nq p Pt H G3:=fun b o e h1 h2=>q3 _ _ (tj _ _ (d2 _ _ e h1 h2) h2) h1;have X9:ph Pt G3:=QG.mono q3 QH;have hb3:Holds G3 bs n (fun h=>.lst (NV (bn n (zp zs) h))):=hb.mono fun j hj e=>q3 _ _ e (f9 e QH (by intro z;cases z));have X_:G3 D2=some (.lst (bs.map V.ref)):=q3 _ _ xj (f9 xj QH (by intro z;cases z));have O3:sj G3 D2 n (zp zs):=⟨bs,X_,hb3⟩
    refine⟨_,rfl,n,rfl,by lia,by lia,fun D3 GV=>?_⟩;refine fk (n:=n) (lo:=0) (fun i ys σ H6=>(∃a,σ=[a,some (.ref p)])/\∃ds:List Addr,ys=ds.map V.ref/\(∀b∈ds,H b=none)/\Holds H6 ds i (fun s=>.lst (NV ((List.range n).map (o0 (zp zs) s))))/\aE G3 H6/\H6 D3=some (.lst ys)/\∀b∈ds,b≠D3)
     ⟨⟨_,rfl⟩,[],rfl,(fun _ h=>nomatch h),Holds.nil,aj GV,ae,(fun _ h=>nomatch h)⟩ ?_ ?_
    .rintro i ys σ H6 Kt Kf hi ⟨⟨a,rfl⟩,ds,rfl,Ya,hd,Au,IU,Rn⟩ kt kf;refine⟨_,rfl,p,C,dx,_,_,rfl,Au _ _ OC,T.cl,T.nO,by rw[bR,ap rfl],_,rfl,D2,n,i,zp zs,by rw[d9];rfl,fi,hi,O3.same Au,fun r H7 Yb OE Tc=>?_⟩;have e7D:H7 D3=some (.lst (ds.map V.ref)):=Yb _ _ IU;have Tb:r≠D3:=by rintro rfl;rw[IU] at OE;cases OE
     have X7:H r=none:=nq.free (fun b o e h1 h2=>Au _ _ (d3 _ _ e h1 h2)) (k7 (Au _ _ OC)) (X9.same Au) OE;have lx:∀b o xU,H7 b=some o->b≠D3->(upd H7 D3 xU) b=some o:=fun b o xU e h=>by rw[am h];exact e
     refine kt _ _ _ e7D (by rw[aP,hd.1];exact cQ hi (bC n2 (by decide))) ⟨⟨_,rfl⟩,ds++[r],by rw[dg];rfl,?_,?_,?_,ae,?_⟩
     .intro b yO;rcases bS.mp yO with z|z
      .exact Ya b z
      .rw[cC.mp z];exact X7
     .refine Holds.snoc (hd.mono fun j hj e=>?_) (lx _ _ _ Tc Tb);refine lx _ _ _ (Yb _ _ e) (Rn _ ?_);rw[aY,bB (by rw[hd.1];exact hj)];exact dH _
     .intro b o e;exact lx _ _ _ (Yb _ _ (Au _ _ e)) (ao e GV)
     .intro b yO;rcases bS.mp yO with z|z
      .exact Rn b z
      .rw[cC.mp z];exact Tb
    .rintro ys σ H6 ⟨_,ds,rfl,Ya,hd,Au,IU,Rn⟩;have Td:=Au _ _ OC;refine⟨_,rfl,p,C,dx,_,rfl,Td,T.cl,T.nD,by have h1:=eA "tie_list" (V.ref tl) (dM "house_count" (V.int n) []);have h2:=eA "house_count" (V.int n) [];have h3:=eA "out_lists" (V.ref D2) (dM "tie_list" (V.ref tl) (dM "house_count" (V.int n) []));simp at h2;lia,?_⟩;have q4:∀b o u,H6 b=some o->b≠p->(upd H6 p u) b=some o:=fun b o u e h1=>by rw[am h1];exact e
     refine⟨_,rfl,p,C,dx,_,_,rfl,ae,T.cl,T.nD,by rw[bR,ap rfl],D3,ds,n,fun s=>NV ((List.range n).map (o0 (zp zs) s)),rfl,q4 _ _ _ IU (f9 IU Td (by intro z;cases z)),n2,hd.mono fun j hj e=>q4 _ _ _ e (f9 e Td (by intro z;cases z)),fun j hj x hx=>?_,fun H8 s8=>?_⟩
     .obtain⟨y,hy,rfl⟩:=bz.mp hx;exact⟨_,rfl⟩
     .have up:∀b o,G3 b=some o->b≠p->H8 b=some o:=fun b o e h1=>s8 _ _ (q4 _ _ _ (Au _ _ e) h1);have Yc:H D3=none:=d3.free (k7 OC) X9 GV;have upT:∀b o,G2 b=some o->b≠p->b≠Pt->H8 b=some o:=fun b o e h1 h2=>up _ _ (q3 _ _ (tj _ _ e h2) h1) h1;refine k H8 ⟨fi,dx,tl,D2,D3,s8 _ _ ae,X8,Yc,⟨bs,up _ _ X_ (f9 X_ OC (by intro z;cases z)),X5,hb3.mono fun j hj e=>up _ _ e (f9 e OC (by intro z;cases z))⟩,
       ⟨ds,s8 _ _ (q4 _ _ _ IU (f9 IU Td (by intro z;cases z))),Ya,hd.mono fun j hj e=>s8 _ _ (q4 _ _ _ e (f9 e Td (by intro z;cases z)))⟩,
       ⟨X2,QF,upT _ _ g2t Oz.symm (OB.not g2t nofun),fun z hz=>upT _ _ (X4 z hz) (f9 (X4 z hz) OA (by intro z;cases z)) (OB.not (X4 z hz) nofun),Np,((show (zp QF).Perm (zp pX) from pm.map _).trans (rc ez)),ord⟩⟩ ?_ fun b o e h1 h2=>up _ _ (d3 _ _ e h1 h2) h1
      exact X9.mono up OC
end
theorem nu:NV xs++[.int (x:Int)]=NV (xs++[x]):=by unfold NV;rw[dg];rfl
theorem sk{xs:List Nat}{i:Nat}{x:V}(h:(NV xs)[i]?=some x):∃y,xs[i]?=some y/\x=.int (y:Int):=by
 unfold NV at h;rw[cm] at h;cases e:xs[i]? with
 |none=>rw[e] at h;cases h
 |some z=>rw[e] at h;exact⟨z,rfl,(bP h).symm⟩
end nN
namespace L2
open PySem PySem.Spec PyProof.Rows
section
variable {X:Cx}
theorem GW:(List.range n).all (fun _=>true)=true:=g8.mpr fun _ _=>rfl
end
end L2
namespace nN
open PySem L2 ix
section
variable {P:Program} {w:World} {K:PySem.W.Frag} {mg:Str->Option Value} {base:Heap}
theorem OF:aS ["self"] ["self"] (av GE):=cZ (by decide +kernel)
def A6(C:Addr):Sp:=fun vs H Q _=>∃ (L:Addr->Prop) (p:Addr) (n:Nat) (ts:Ts),vs=[.ref p]/\eS C H L p n ts/\Q (.int n) H
theorem Kx{f C:Addr}{fd:FuncData}(F:gv K "many" "Net.many" GE f fd)(T:NT K mg C):bL P w K mg base bu 1 f fd ["self"] (A6 C):=by
 refine F.ok OF (fun vs H Q E h=>?_) (fun dW A outer s H vs Q E hr h=>?_)
 .obtain⟨L,p,n,ts,rfl,_⟩:=h;rfl
 .obtain⟨L,p,n,ts,rfl,N,k⟩:=h;obtain⟨dx,tl,ol,ds,h1,_⟩:=N.ob;refine⟨_,ak (aK (rE (pv 0) rfl)),?_⟩;exact⟨_,rfl,p,C,dx,_,_,rfl,h1,T.cl,T.nH,Cu _ _ _ _,k⟩
end
end nN
namespace L2
open PySem PySem.Spec PyProof.Rows
def sq(P:Program)(w:World)(h:Heap)(vs:List Value)(ps:List (List g9×Addr×Value)):Prop:=vs.length=ps.length/\∀ (i:Nat) (v:Value),vs[i]?=some v->∃ (a:Addr) (o:Obj) (n:Nat) (b:Addr) (k:List g9) (x:Value),v=Value.ref a/\h.get? a=some o/\o.cls=.type "tuple"/\o.data=.seq #[.ref b,x] n/\(tupleKind (cj P w)).is h k b/\ps[i]?=some (k,b,x)
theorem yu(x:(tupleKind (cj P w)).is h k b)(q:∀b o,(∃xs n,o.data=.seq xs n)->h.get? b=some o->h'.get? b=some o):(tupleKind (cj P w)).is h' k b:=by
 obtain⟨o,its,n,h1,h2,h3,h4⟩:=x;exact⟨o,its,n,q _ _ ⟨_,_,h3⟩ h1,h2,h3,h4⟩
theorem sq.keeps(x:sq P w h vs ps)(k:∀b o,(∃xs n,o.data=.seq xs n)->h.get? b=some o->h'.get? b=some o):sq P w h' vs ps:=
 ⟨x.1,fun i v hv=>let ⟨a,o,n,b,kk,y,e1,e2,e3,e4,e5,e6⟩:=x.2 i v hv;⟨a,o,n,b,kk,y,e1,k a o ⟨_,_,e4⟩ e2,e3,e4,yu e5 k,e6⟩⟩
theorem sr{P:Program}{w:World}{h h':Heap}{d:Addr}{xs:List (List g9×Addr×Value)}(x:h.DictOfH (tupleKind (cj P w)) d xs)(kd:∀o,h.get? d=some o->h'.get? d=some o)(q:∀b o,(∃xs n,o.data=.seq xs n)->h.get? b=some o->h'.get? b=some o):h'.DictOfH (tupleKind (cj P w)) d xs:=by
 obtain⟨o,es,ep,h1,h2,h3,h4,h5,h6⟩:=x;exact⟨o,es,ep,kd _ h1,h2,h3,h4,fun y hy=>yu (h5 y hy) q,h6⟩
section
variable {prog:Program} {w:World} {A:Around} {E:Value->Shared->Prop} {s:Shared} {R:Result->Shared->Prop} {l d Ia:Addr}
theorem A7{vs:List Value}{ps:List (List g9×Addr×Value)}(hh:A.handled=none)(hu:A.units+4<cLine)(hlD:l≠d)(W7:l≠Ia)(Yd:d≠Ia):
  ∀ (k i:Nat) (j:Int) (t:Tok) (s:Shared) (cN:List (List g9×Addr×Value)),vs.length-i=k->i<=vs.length->s.heap.IsListIter Ia l i->s.heap.IsList l vs.toArray->sq prog w s.heap vs ps->s.heap.DictOfH (tupleKind (cj prog w)) d cN->cN.length+k<=4096->
   (∀h' tk,(∀b o,b≠d->b≠Ia->s.heap.get? b=some o->h'.get? b=some o)->h'.DictOfH (tupleKind (cj prog w)) d ((ps.drop i).foldl (fun m p=>storedH m p.1 p.2.1 p.2.2) cN)->R (.ok (.ret .none)) { s with heap:=h',toks:=tk })->
   codeAny (model prog w) A (.builtin "dict.update.loop" ⟨[.ref d,.ref Ia,.int j t,.none],[]⟩) R s:=by
 intro k;induction k with
 |zero=>
  intro i j t s cN hk hi xg hl hp hD hz hR;refine on pQ ?_;rw[u9 iJ _];show wpAny _ A.in1 (pyNext (.ref Ia) >>= _) _ _ s;refine aD (uZ (show A.in1.handled=none from hh) xg hl (by simp;lia) fun h' eb=>?_);have hd:ps.drop i=[]:=by rw[List.drop_eq_nil_iff];have:=hp.1;lia
  have hR':=hR h' s.toks (fun b o hb JK e=>eb b o JK e);rw[hd] at hR';refine aD (wpAny_pure (wpAny_pure (hR' ?_)));refine sr hD (fun o e=>eb d o Yd e) fun b o hb e=>eb b o (fun z=>?_) e;obtain⟨oi,e1,_,d1⟩:=xg;obtain⟨xs,m,hb⟩:=hb;rw[z,e1] at e;cases e;rw[d1] at hb;cases hb
 |succ k ih=>
  intro i j t s cN hk hi xg hl hp hD hz hR;have eZ:i<vs.length:=by lia
  refine on pQ ?_;rw[u9 iJ _];show wpAny _ A.in1 (pyNext (.ref Ia) >>= _) _ _ s;have hv:vs[i]?=some vs[i]:=bB eZ;refine aD (qS xg hl (x:=vs[i]) (by simpa using hv) fun h1 NZ mr=>?_);have VA:∀b ob,(∃xs n,ob.data=.seq xs n)->s.heap.get? b=some ob->b≠Ia:=fun b ob ⟨xs,m,z⟩ e z'=>by
   obtain⟨oi,e1,_,d1⟩:=xg;rw[z',e1] at e;cases e;rw[d1] at z;cases z
  have k1:∀b ob,(∃xs n,ob.data=.seq xs n)->s.heap.get? b=some ob->h1.get? b=some ob:=fun b ob hb e=>(mr.2 b (VA b ob hb e)).trans e;have jN:sq prog w h1 vs ps:=hp.keeps k1;have pY:h1.DictOfH (tupleKind (cj prog w)) d cN:=sr hD (fun o e=>(mr.2 d Yd).trans e) k1;have EE:h1.IsList l vs.toArray:=by
   obtain⟨ol,q1,q2⟩:=hl;exact⟨ol,(mr.2 l W7).trans q1,q2⟩
  obtain⟨a,o,n,b,kk,x,ea,R3,ec,ed,ek,ep⟩:=jN.2 i _ hv;rw[ea];have neD:∀b ob,(∃xs n,ob.data=.seq xs n)->h1.get? b=some ob->b≠d:=fun b ob ⟨xs,m,z⟩ e z'=>by
   obtain⟨oS,es,Q7,q1,_,q4,_⟩:=pY;rw[z',q1] at e;cases e;rw[q4] at z;cases z
  have hT:Shared.TypeIs { s with heap:=h1 } (.ref a) "tuple":=⟨o,R3,ec⟩
  refine aD (fZ ?_);show wpAny _ A.in1 (Sem.tryCatch (Builtin.Dict.pairItems (.ref a)) _ >>= _) _ _ _;refine aD (wpAny_tryCatch ?_);unfold Builtin.Dict.pairItems;refine aD (rl hT ?_);rw[ap (by decide)];refine aD (jj R3 ed (wpAny_pure ?_));show wpAny _ A.in1 (holding [.ref b,x] (dictSet d (.ref b) x)) _ _ _;refine fZ (wpAny_dictSet_heap (s:={ s with heap:=h1 }) (show A.in1.units<cLine from by show A.units+1<cLine;lia) ek pY (fun h2 iz i9=>?_) (bC (by lia:cN.length<=4096) (by decide)));refine wpAny_pure ⟨plainId_quiet iJ _,?_⟩;have EF:i<ps.length:=by have:=hp.1;lia
  have W9:ps.drop i=(kk,b,x)::ps.drop (i+1):=by
   rw[nQ EF];have:ps[i]?=some ps[i]:=bB EF;rw[this] at ep;rw[bP ep]
  have c_:(storedH cN kk b x).length<=cN.length+1:=by
   unfold storedH;split
   .rw[aP];lia
   .rw[cf];simp
  have k2:∀b ob,(∃xs n,ob.data=.seq xs n)->h1.get? b=some ob->h2.get? b=some ob:=fun b ob hb e=>(i9.2 b (neD b ob hb e)).trans e;refine ih (i+1) _ _ { s with heap:=h2,toks:=_ } (storedH cN kk b x) (by lia) eZ ?_ ?_ (jN.keeps k2) iz (by lia) fun h3 W_ k3 D3=>?_
  .obtain⟨oi,q1,q2⟩:=NZ;exact⟨oi,(i9.2 Ia (fE Yd)).trans q1,q2⟩
  .obtain⟨ol,q1,q2⟩:=EE;exact⟨ol,(i9.2 l hlD).trans q1,q2⟩
  .refine hR h3 W_ (fun b ob hb JK e=>k3 b ob hb JK ((i9.2 b hb).trans ((mr.2 b JK).trans e))) ?_;rw[W9];exact D3
end
section
variable {prog:Program} {w:World} {A:Around} {E:Value->Shared->Prop} {s:Shared} {l:Addr}
theorem OG(h:Heap):(h.push { cls:=.type "dict",data:=.dict #[] }).DictOfH (tupleKind (cj P w)) h.objs.size []:=
 ⟨_,#[],0,cI _ rfl,⟨rfl,rfl,rfl⟩,rfl,rfl,(fun x hx=>nomatch hx),jh⟩
theorem A8(hh:A.handled=none)(hu:A.units+8<cLine)(hl:s.heap.get? l=some { cls:=.type "list",data:=.seq vs.toArray n })(hp:sq prog w s.heap vs ps)(hz:vs.length<=4096)(h:∀h' tk,h'.DictOfH (tupleKind (cj prog w)) s.heap.objs.size (ps.foldl (fun m p=>storedH m p.1 p.2.1 p.2.2) [])->(∀b o,s.heap.get? b=some o->h'.get? b=some o)->Q (.ref s.heap.objs.size) { s with heap:=h',toks:=tk }):
  wpAny (model prog w) A (call (.type "dict") [.ref l]) Q E s:=by
 refine callType_codes (Q₁:=fun obj s₁=>obj=.ref s.heap.objs.size/\s₁={ s with heap:=s.heap.push { cls:=.type "dict",data:=.dict #[] } }) F.kt_called_dict (F.kt_typeCall_dict_1 _) F.entry_dict_init (kt_code_dict_new _ ⟨rfl,rfl⟩) ?_;rintro obj s₁ ⟨rfl,rfl⟩;have MH:(s.heap.push { cls:=.type "dict",data:=.dict #[] }).DictOf (cj prog w) s.heap.objs.size []:=Heap.DictOf.new s.heap;have rL:(s.heap.push { cls:=.type "dict",data:=.dict #[] }).DictOfH (tupleKind (cj prog w)) s.heap.objs.size []:=OG s.heap;have lc:(s.heap.push { cls:=.type "dict",data:=.dict #[] }).objs.size=s.heap.objs.size+1:=jK ..;have up:∀b o,s.heap.get? b=some o->(s.heap.push { cls:=.type "dict",data:=.dict #[] }).get? b=some o:=fun b o e=>bY _ e;have eZ:l<s.heap.objs.size:=bh hl;refine⟨MH.typeIs,F.args_dict_init_2 _ _,?_⟩;generalize (s.heap.push { cls:=.type "dict",data:=.dict #[] })=hD at *;have hT:Shared.TypeIs { s with heap:=hD } (.ref l) "list":=⟨_,up _ _ hl,rfl⟩
 unfold Builtin.«dict.__init__»;refine aD ?_;unfold Builtin.Dict.selfAndRest;refine aD (wpAny_notOrdered_dict MH.typeIs (wpAny_pure ?_));show wpAny _ _ (Builtin.Dict.updateFrom "dict.__init__" s.heap.objs.size (.ref l) [] .none) _ _ _;unfold Builtin.Dict.updateFrom;refine aD (rl hT ?_);rw[ap (by decide)];refine aD (Oa (s:={ s with heap:=hD }) (show A.in1.handled=none from hh) (up _ _ hl) fun h1 tk1 k1=>?_);have EE:h1.get? l=some { cls:=.type "list",data:=.seq vs.toArray n }:=k1 _ _ (up _ _ hl);have v9:h1.IsList l vs.toArray:=⟨_,EE,rfl,n,rfl⟩
 rw[ap (by rfl)];refine aD (gN ?_);refine aD (n_ (s:={ s with heap:=h1,toks:=tk1 }) v9 ?_);have Ye:s.heap.objs.size<h1.objs.size:=by
  obtain⟨o,es,ep,q1,q2⟩:=rL;exact bh (k1 _ _ q1)
 refine wpAny_pure ⟨plainId_quiet iJ _,?_⟩;refine A7 (l:=l) (vs:=vs) (ps:=ps) (Ia:=h1.objs.size) (show A.in1.handled=none from hh) (show A.units+1+4<cLine by lia) (bg eZ) (bg (rh eZ Ye)) (bg Ye) vs.length 0 0 0 _ [] (by simp) (cM _) ⟨_,cI _ rfl,rfl,rfl⟩ ?_ ?_ ?_ (by simpa using hz) fun h2 A9 k2 D2=>?_
 .exact⟨_,bY _ EE,rfl,n,rfl⟩
 .exact hp.keeps fun b o _ e=>bY _ (k1 _ _ (up _ _ e))
 .exact sr rL (fun o e=>bY _ (k1 _ _ e)) fun b o _ e=>bY _ (k1 _ _ e)
 .refine⟨rfl,h h2 A9 D2 fun b o e=>k2 b o (bg (bh e)) (bg (rh (bh e) Ye)) (bY _ (k1 _ _ (up _ _ e)))⟩
end
abbrev TK:=List g9×Addr×V
def dt(m:List (List g9×V))(ps:List TK):List (List g9×V):=ps.foldl (fun m p=>rQ m p.1 p.2.2) m
inductive KP (H:Hp):List TK->List (List g9×Addr×Value)->Prop where
 |nil:KP H [] []
 |cons {k:List g9} {b:Addr} {v:V} {u:Value} {ps:List TK} {us:List (List g9×Addr×Value)} (hb:H b=some (.tup (k.map kV))) (r:bX v u) (t:KP H ps us):KP H ((k,b,v)::ps) ((k,b,u)::us)
theorem KP.fold:∀ {ps:List TK} {us:List (List g9×Addr×Value)} {m:List (List g9×V)} {m':List (List g9×Addr×Value)},KP H ps us->KT H m m'->KT H (dt m ps) (us.foldl (fun m p=>storedH m p.1 p.2.1 p.2.2) m')
 |[],_,_,_,.nil,r=>r
 |(k,b,v)::ps,_,m,m',.cons (us:=us) hb rv t,r=>by
  have:=KP.fold (ps:=ps) (us:=us) t (r.put k hb rv);exact this
theorem pZ:∀ (ps:List TK) (m:List (List g9×V)),(dt m ps).length<=m.length+ps.length
 |[],m=>by show m.length<=_;simp
 |p::ps,m=>by
  have h1:=pZ ps (rQ m p.1 p.2.2);have h2:=xW m p.1 p.2.2;show (dt (rQ m p.1 p.2.2) ps).length<=_;rw[dz];lia
theorem yv(ok:jR P w H h):∀ (ts:List Addr) (ps:List TK),ts.length=ps.length->(∀i,i<ps.length->∃k b v,ps[i]?=some (k,b,v)/\H (ts.getD i 0)=some (.tup [.ref b,v])/\H b=some (.tup (k.map kV)))->
  ∃us:List (List g9×Addr×Value),KP H ps us/\sq P w h (ts.map Value.ref) us
 |[],[],_,_=>⟨[],.nil,rfl,fun i v hv=>by simp at hv⟩
 |[],_::_,e,_=>by simp at e
 |_::_,[],e,_=>by simp at e
 |t::ts,(k,b,v)::ps,e,hs=>by
  obtain⟨us,r,T⟩:=yv ok ts ps (by simpa using e) fun i hi=>by
   obtain⟨k',b',v',h1,h2,h3⟩:=hs (i+1) (by simp;lia);exact⟨k',b',v',by simpa using h1,by simpa using h2,h3⟩
  obtain⟨k0,b0,v0,g1,g2,g3⟩:=hs 0 (by simp);have g1':(k,b,v)=(k0,b0,v0):=by simpa using g1
  cases g1';have g2':H t=some (.tup [.ref b,v]):=by simpa using g2
  obtain⟨_,its,rv,o,q1,q2,n,q3⟩:=ok t _ g2';cases rv with
  |cons ra rr=>
   cases rr with
   |cons rb rr2=>
    cases rr2;rename_i ka vb;obtain rfl:ka=Value.ref b:=ra;refine⟨(k,b,vb)::us,.cons g3 rb r,by simp[T.1],fun i x hx=>?_⟩;cases i with
    |zero=>
     have C5:Value.ref t=x:=by simpa using hx
     exact⟨t,o,n,b,k,vb,C5.symm,q1,q2,q3.1,oX ok g3,rfl⟩
    |succ i=>exact T.2 i x (by simpa using hx)
section
variable {X:Cx}
def OH:List V->Hp->VK->Prop:=fun xs H Q=>∃ (l:Addr) (ts:List Addr) (ps:List TK),xs=[.ref l]/\H l=some (.lst (ts.map V.ref))/\ts.length=ps.length/\(∀i,i<ps.length->∃k b v,ps[i]?=some (k,b,v)/\H (ts.getD i 0)=some (.tup [.ref b,v])/\H b=some (.tup (k.map kV)))/\ps.length<=4096/\
 ∀D,H D=none->Q (.ref D) (upd H D (.dT (dt [] ps)))
theorem A_(hc:X.calm=true)(hu:X.A.units+8<cLine):et X (.type "dict") OH:=by
 intro ag s σ H xs us Q I r h;obtain⟨l,ts,ps,rfl,hl,c_,ht,hz,q⟩:=h;obtain⟨u1,rfl,r1⟩:=r.one;obtain rfl:u1=Value.ref l:=r1;obtain⟨z,its,n,rv,_,e⟩:=I.rJ hl;have vY:its=ts.map Value.ref:=vW rv;subst vY;obtain⟨vs,kv,T⟩:=yv I.b_ ts ps c_ ht;refine A8 (I.ok.hd hc) hu e T (by rw[aP,c_];exact hz) fun h' tk D k=>?_;have hs:sysModules<s.heap.objs.size:=rh (by decide:sysModules<mainGlobals) (I.mod.glob.keeps I.bk).lt;have nf:=I.b_.fresh (bt s.heap.objs.size);have I2:aU X ag σ (upd H s.heap.objs.size (.dT (dt [] ps))) { s with heap:=h',toks:=tk }:=by
  obtain⟨o,es,ep,h1,h2,h3,h4,_,h6⟩:=D;refine I.xH (t':=tk) k (n0 (bt _)) ⟨?_,?_,_,KT.keeps (KP.fold kv .nil) fun b ys eb=>?_,o,es,ep,h1,h2,h3,h4,h6⟩
  .have:=pZ ps [];exact bC this (bC (by simpa using hz) (by decide:4096<=sizeLine))
  .rw[jV];exact jo hs
  .rw[am (ao eb nf)];exact eb
 exact⟨.ref s.heap.objs.size,_,I2,rfl,q _ nf⟩
def MI:R2:=fun x y H Q=>∃a b xs ys,x=.ref a/\y=.ref b/\H a=some (.tup xs)/\H b=some (.tup ys)/\xs.length+ys.length<=sizeLine/\∀r H',aE H H'->H' r=some (.tup (xs++ys))->Q (.ref r) H'
theorem qJ:lU X (binaryOp .Add) MI:=by
 intro ag s σ H x y v u Q I rx ry h;obtain⟨a,b,xs,ys,rfl,rfl,ha,hb,hz,q⟩:=h;cases rx;cases ry;obtain⟨its,r1,p1,_⟩:=I.tuple (bv.of ha);obtain⟨ku,r2,p2,_⟩:=I.tuple (bv.of hb);obtain⟨⟨cls,dd,data,sl⟩,ho,hc,n,hd⟩:=id p1;obtain⟨⟨aah,Yf,data2,NP⟩,QI,hc2,n2,VQ⟩:=id p2;simp only at hc hd hc2 VQ;subst hc hd hc2 VQ;have e:its.toArray++ku.toArray=(its++ku).toArray:=by simp
 by_cases hv:xs=[]
 .subst hv;have hi:its=[]:=r1.mP.mpr rfl;exact concat_meets ⟨_,ho,rfl⟩ ⟨_,QI,rfl⟩ zY seq_tuple_add ze y_ (y6 _ _)
   (tuple_addW0 a b its.toArray ku.toArray n n2 dd Yf sl NP (by simp[hi])) ⟨ho,QI,⟨.ref b,H,I,rfl,q b H (aE.refl _) hb⟩⟩
 .have hi:its≠[]:=fun z=>hv (r1.mP.mp z);by_cases hw:ys=[]
  .subst hw;have hj:ku=[]:=r2.mP.mpr rfl;exact concat_meets ⟨_,ho,rfl⟩ ⟨_,QI,rfl⟩ zY seq_tuple_add ze y_ (y6 _ _)
    (tuple_addW1 a b its.toArray ku.toArray n n2 dd Yf sl NP (by simpa using hi) (by simp[hj])) ⟨ho,QI,⟨.ref a,H,I,rfl,q a H (aE.refl _) (by rw[vi];exact ha)⟩⟩
  .have hj:ku≠[]:=fun z=>hw (r2.mP.mp z);refine concat_meets ⟨_,ho,rfl⟩ ⟨_,QI,rfl⟩ zY seq_tuple_add ze y_ (y6 _ _)
    (tuple_addW2 a b its.toArray ku.toArray n n2 dd Yf sl NP (by simpa using hi) (by simpa using hj) (by rw[bJ,bJ,<-r1.length,<-r2.length];exact hz)) ⟨ho,QI,?_⟩
   rw[e];have nf:=I.b_.fresh (bt s.heap.objs.size);refine⟨.ref s.heap.objs.size,_,I.laid (t':=s.toks) (o:=.tup (xs++ys)) (fun b ob q=>bY _ q) (bt _) ?_,rfl,q _ _ (aj nf) ae⟩;exact⟨by rw[cf];exact hz,_,r1.append r2,ke.new _ _⟩
theorem nw{prog:Program}{w:World}{A:Around}{E:Value->Shared->Prop}{s:Shared}{t sl:Addr}{items:Array Value}{vl vu:Value}{lo hi:Option Int}{Q:Value->Shared->Prop}(ht:IsTup s.heap t items)(hs:s.heap.IsSliceOf sl vl vu .none)(pl:IsPart vl lo)(pu:IsPart vu hi)(hw:HT.eJ items.size 0 lo=0/\HT.eJ items.size items.size hi=items.size)(h:Q (.ref t) s):wpAny (model prog w) A (getItem (.ref t) (.ref sl)) Q E s:=by
 obtain⟨os,BP,Vv,IN⟩:=id hs;have WD:s.TypeIs (.ref sl) "slice":=⟨os,BP,Vv⟩
 unfold getItem;try with_reducible refine fZ ?_
 first|refine aD (wpAny_pure ?_)|skip
 refine aD (wpAny_sequenceKey ht.typeIs (by decide) ?_);refine aD (nV (name:=Str.ofString "__getitem__") ht.typeIs t_
  (lJ t_ ht.typeIs entry_tuple_getitem ?_ (args_tuple_getitem _ _)))
 show wpAny _ _ (Builtin.Tuple.tupleItemsOf (.ref t) >>= _) _ _ s;refine aD (tupleItemsOf_ ht ?_);refine aD (rl WD ?_);rw[ap (by decide)];refine aD (HT.i7 hs pl pu ?_);have Yg:(((HT.eJ items.size 0 lo:Nat):Int)==0&&(1:Int)==1&&(HT.eJ items.size items.size hi-HT.eJ items.size 0 lo)==items.size)=true:=by
  rw[hw.1,hw.2];simp
 show wpAny _ _ (if (((HT.eJ items.size 0 lo:Nat):Int)==0&&(1:Int)==1&&(HT.eJ items.size items.size hi-HT.eJ items.size 0 lo)==items.size)=true then _ else _) _ _ s;rw[ap Yg];refine aD (Q:=_) (m:=Builtin.Tuple.tupleIsExact (.ref t)) ?_;unfold Builtin.Tuple.tupleIsExact;refine aD (rl ht.typeIs ?_);refine wpAny_pure ?_;rw[ap (by decide)];exact aD (gN (wpAny_pure ⟨_,rfl,wpAny_pure h⟩))
def Yh:V->Option Int->Option Int->Hp->VK->Prop:=fun x lo hi H Q=>∃a xs,x=.ref a/\H a=some (.tup xs)/\∀r H',aE H H'->H' r=some (.tup (mL xs lo hi))->Q (.ref r) H'
theorem GX{xs:List V}{lo hi:Option Int}(hw:HT.eJ xs.length 0 lo=0/\HT.eJ xs.length xs.length hi=xs.length):mL xs lo hi=xs:=by
 unfold mL;rw[hw.1,hw.2,Nat.sub_zero,zW,iF]
theorem qK:Vw X Yh:=by
 intro ag s σ H x v vl vu lo hi sl Q I rx hs pl pu h;obtain⟨a,xs,rfl,hx,q⟩:=h;by_cases hw:HT.eJ xs.length 0 lo=0/\HT.eJ xs.length xs.length hi=xs.length
 .cases rx;obtain⟨its,r,ht,hz⟩:=I.tuple (bv.of hx);have c_:its.toArray.size=xs.length:=by rw[bJ];exact r.length.symm
  refine⟨"tuple",_,t_.lookup,ht.typeIs,?_⟩;exact nw ht hs pl pu (by rw[c_];exact hw) ⟨.ref a,H,I,rfl,q a H (aE.refl _) (by rw[GX hw];exact hx)⟩
 .exact NF ag s σ H _ v vl vu lo hi sl Q I rx hs pl pu ⟨a,xs,rfl,bv.of hx,hw,fun p hp=>q p _ (aj hp) ae⟩
end
end L2
namespace ix
abbrev gU(ts:Ts)(h:Int):Nat:=(ts.filter fun t=>decide (t.1=h)).length
theorem wu:gU (ts++us) h=gU ts h+gU us h:=by unfold gU;rw[gZ,cf]
theorem qL:gU [(a,b),(b,a)] h=(if a=h then 1 else 0)+(if b=h then 1 else 0):=by
 unfold gU;by_cases c1:a=h <;> by_cases c2:b=h <;> simp[c1,c2]
theorem Ky:gU (dB (ps++[(a,b)])) h=gU (dB ps) h+((if a=h then 1 else 0)+(if b=h then 1 else 0)):=by
 rw[jA,wu];exact congrArg _ qL
theorem Kz:dB [(a,b)]=[(a,b),(b,a)]:=rfl
theorem KA(ha:a<n)(hb:b<n)(pS:a≠b):yT n [(ci a,ci b),(ci b,ci a)]:=by
 have ne:ci a≠ci b:=fun e=>pS (d8 e);refine⟨?_,?_,?_,?_,?_⟩
 .rw[fY];refine⟨fun h=>?_,by simp⟩;have:=cC.mp h;exact ne (congrArg Prod.fst this)
 .intro t ht;rcases bK.mp ht with rfl|ht
  .exact⟨⟨by lia,by lia⟩,⟨by lia,by lia⟩⟩
  .rw[cC.mp ht];exact⟨⟨by lia,by lia⟩,⟨by lia,by lia⟩⟩
 .intro t ht;rcases bK.mp ht with rfl|ht
  .exact ne
  .rw[cC.mp ht];exact fun e=>ne e.symm
 .intro h;by_cases c1:ci a=h <;> by_cases c2:ci b=h <;> simp[c1,c2]
 .intro h;have:=qL (a:=ci a) (b:=ci b) (h:=h);show gU [(ci a,ci b),(ci b,ci a)] h<=8;rw[this];split <;> split <;> lia
theorem cT.pair(F:cT n (dB ps))(ha:a<n)(hb:b<n)(pS:a≠b)(h1:(ci a,ci b)∉ps)(h2:(ci b,ci a)∉ps)(d1:gU (dB ps) (ci a)<=7)(d2:gU (dB ps) (ci b)<=7):cT n (dB (ps++[(ci a,ci b)])):=by
 rw[jA,Kz];have ne:ci a≠ci b:=fun e=>pS (d8 e);refine F.app (qG F.pre (KA ha hb pS) (fun t ht=>?_) fun h=>?_)
 .rcases bK.mp ht with rfl|ht
  .exact fun z=>(m_.mp z).elim h1 h2
  .rw[cC.mp ht];exact fun z=>(m_.mp z).elim h2 h1
 .show gU (dB ps) h+gU [(ci a,ci b),(ci b,ci a)] h<=8;rw[qL];have m:=F.most h;by_cases c1:ci a=h
  .subst c1;rw[ap rfl,aq (fun e=>ne e.symm)];lia
  .by_cases c2:ci b=h
   .subst c2;rw[aq c1,ap rfl];lia
   .rw[aq c1,aq c2];exact m
theorem uN:∀ {ps:Ts} {h:Int},(∀u∈ps,u.1≠u.2)->(ps.filter fun u=>decide (u.1=h)||decide (u.2=h)).length=gU (dB ps) h
 |[],_,_=>rfl
 |u::ps,h,hn=>by
  have ih:=uN (ps:=ps) (h:=h) fun v hv=>hn v (cX _ hv);have hu:=hn u bW;have e:dB (u::ps)=[u,o9 u]++dB ps:=rfl;rw[e,wu,dX,<-ih];obtain⟨a,b⟩:=u;have d:gU [(a,b),o9 (a,b)] h=(if a=h then 1 else 0)+(if b=h then 1 else 0):=qL;rw[d];have pS:a≠b:=hu;by_cases c1:a=h
  .have c2:¬ b=h:=fun z=>pS (c1.trans z.symm);simp[c1,c2];lia
  .by_cases c2:b=h
   .simp[c1,c2];lia
   .simp[c1,c2]
theorem KB(P:yT n ts):yT n (ts.map o9):=by
 have fl:∀h:Int,((ts.map o9).filter fun t=>decide (t.1=h)).length=(ts.filter fun t=>decide (t.2=h)).length:=fun h=>by
  rw[oh,aP];rfl
 have fl2:∀h:Int,((ts.map o9).filter fun t=>decide (t.2=h)).length=(ts.filter fun t=>decide (t.1=h)).length:=fun h=>by
  rw[oh,aP];rfl
 refine⟨?_,fun t ht=>?_,fun t ht=>?_,fun h=>?_,fun h=>?_⟩
 .refine i0.mpr (P.nd.imp fun {x y} J4 e=>J4 ?_);have e1:=congrArg Prod.fst e;have e2:=congrArg Prod.snd e;exact gm e2 e1
 .obtain⟨u,hu,rfl⟩:=bz.mp ht;exact⟨(P.rg u hu).2,(P.rg u hu).1⟩
 .obtain⟨u,hu,rfl⟩:=bz.mp ht;exact fun e=>P.ne u hu e.symm
 .rw[fl,fl2,P.DK]
 .rw[fl,<-P.DK];exact P.most h
theorem OI(h:3<=m)(hk:k<m):pk m (pk m k)≠k:=by
 unfold pk;split <;> split <;> lia
theorem yw(n1:3<=n)(n2:n<=32)(pm:xs.Perm (List.range n)):cT n (dB (r0 xs)):=by
 have F:=uK (by lia) n2 pm;have nd:xs.Nodup:=pm.nodup_iff.mpr ln;have hl:xs.length=n:=by rw[pm.length_eq,b8]
 have lt:∀x∈xs,x<n:=fun x hx=>bQ.mp (pm.mem_iff.mp hx);obtain⟨P,one⟩:=wc nd lt (by lia);have Q:=KB P;refine cT.perm ?_ gK;refine F.app (qG P Q (fun t ht hm=>?_) fun h=>?_)
 .obtain⟨u,hu,rfl⟩:=bz.mp ht;obtain⟨k,hk,rfl⟩:=m9 hu;obtain⟨j,hj,e⟩:=m9 hm;have e1:xs.getD k 0=xs.getD (pk xs.length j) 0:=d8 (congrArg Prod.fst e);have e2:xs.getD (pk xs.length k) 0=xs.getD j 0:=d8 (congrArg Prod.snd e);have pj:=uJ hj;have pk':=uJ hk;rw[d5 hk,d5 pj] at e1;rw[d5 pk',d5 hj] at e2;have i1:=o5 nd hk pj e1;have i2:=o5 nd pk' hj e2;rw[<-i2] at i1;exact OI (by lia) hk i1.symm
 .have o1:=one h;have e:((r0 xs).map o9).filter (fun t=>decide (t.1=h))=((r0 xs).filter fun t=>decide (t.2=h)).map o9:=by rw[oh];rfl
  rw[e,aP,<-P.DK];lia
theorem yx{ps:Ts}:(dB (ps.map o9)).Perm (dB ps):=by
 have e:(ps.map o9).map o9=ps:=by
  rw[di];conv=>rhs;rw[<-lP ps]
  exact jF fun u _=>rfl
 refine gK.trans ?_;rw[e];exact iY.trans gK.symm
def D6(xs:List Nat):Ts:=(List.range xs.length).map fun k=>(ci (xs.getD k 0),ci (xs.getD ((k+1) % xs.length) 0))
theorem GY:((List.range m).map fun k=>(k+1) % m).Perm (List.range m):=by
 cases m with
 |zero=>exact lM _
 |succ m=>
  rw[jH,dg,List.map_singleton,Nat.mod_self];have e:(List.range m).map (fun k=>(k+1) % (m+1))=(List.range m).map (·+1):=jF fun k hk=>je (by have:=bQ.mp hk;lia);rw[e];refine iY.trans ?_;rw[<-jH,nU];exact lM _
theorem pi:(D6 xs).Perm (r0 xs):=by
 have h:=(GY (m:=xs.length)).map fun k=>(ci (xs.getD (pk xs.length k) 0),ci (xs.getD k 0))
 rw[di] at h;refine List.Perm.trans (rc ?_) h;unfold D6;refine jF fun k hk=>?_;have xF:=bQ.mp hk;have:pk xs.length ((k+1) % xs.length)=k:=by
  by_cases c:k+1=xs.length
  .rw[c,Nat.mod_self];unfold pk;rw[ap rfl];lia
  .rw[je (by lia)];unfold pk;rw[aq (by lia)];lia
 show _=(ci (xs.getD (pk xs.length ((k+1) % xs.length)) 0),ci (xs.getD ((k+1) % xs.length) 0));rw[this]
theorem cT.round(F:cT n ts)(nd:xs.Nodup)(lt:∀x∈xs,x<n)(c2:2<=xs.length)(hf:∀x∈xs,gU ts (ci x)<=7)(hn:∀t∈D6 xs,t∉ts):cT n (ts++D6 xs):=by
 have P:=DM F.pre nd lt c2 (fun t ht=>?_) (fun t ht=>hn t (pi.mem_iff.mpr ht))
 .exact(F.app P).perm (lj _ pi)
 .obtain⟨k,hk,rfl⟩:=m9 ht;exact hf _ (o4 (uJ hk))
end ix
namespace nN
open PySem L2 ix
abbrev OJ:Stmt:=iy 39
abbrev GZ:Stmt:=iy 40
abbrev Ba:Stmt:=iy 41
structure OK(mg:Str->Option Value):Prop where
 abs:mg "abs"=none
 divmod:mg "divmod"=none
 dict:mg "dict"=none
 zip:mg "zip"=none
 repr:mg "repr"=none
theorem k8{e:V->V->Bool}:∀ {xs:List V},iI e xs []=decide (xs=[])
 |[]=>rfl
 |x::xs=>by simp[iI]
def bp(H:Hp)(p:Addr):Prop:=∃a b:Int,H p=some (.lst [.int a,.int b])/\0<=a/\0<=b/\b<4294967296
theorem bp.same{H H':Hp}{p:Addr}(h:bp H p)(s:aE H H'):bp H' p:=let ⟨a,b,e,r⟩:=h;⟨a,b,s _ _ e,r⟩
theorem bp.full{H:Hp}{p:Addr}(h:bp H p):H p≠none:=by obtain⟨a,b,e,_⟩:=h;rw[e];intro z;cases z
theorem bp.ne{H:Hp}{p q:Addr}(h:bp H p)(e:H q=none):q≠p:=by rintro rfl;exact h.full e
theorem bp.put{H:Hp}{p q:Addr}{o:HO}(h:bp H p)(n:p≠q):bp (upd H q o) p:=let ⟨a,b,e,r⟩:=h;⟨a,b,by rw[am n];exact e,r⟩
theorem bp.neT{H:Hp}{p q:Addr}{xs:List V}(h:bp H p)(e:H q=some (.tup xs)):q≠p:=by rintro rfl;obtain⟨a,b,z,_⟩:=h;rw[e] at z;cases z
theorem PO.p9{H H':Hp}{p:Addr}{zs:Zs}(h:PO H zs)(s:az p H H')(hp:bp H p):PO H' zs:=fun z hz=>s _ _ (h z hz) (hp.neT (h z hz))
theorem _root_.L2.aZ.same{K:PySem.W.Frag}{H H':Hp}{a:Addr}{xs:List V}(h:aZ K H a xs)(s:aE H H'):aZ K H' a xs:=by
 rcases h with (h|⟨o,h⟩)|h
 .exact .inl (.inl (s _ _ h))
 .exact .inl (.inr ⟨o,s _ _ h⟩)
 .exact .inr h
theorem md:(["_law_k","_law_left","_law_pot_here"]:List Str).Nodup:=by decide +kernel
section
variable {P:Program} {w:World} {K:PySem.W.Frag} {mg:Str->Option Value} {base:Heap}
theorem yy:aS ["_law_script","_law_k","_law_cell","_law_rest"] ["_law_script","_law_k"] (av OJ):=cZ (by decide +kernel)
def G0(K:PySem.W.Frag):Sp:=fun vs H Q _=>∃ (a:Addr) (ns:List Int) (k:Nat),vs=[.ref a,.int k]/\aZ K H a (ns.map V.int)/\k<64/\∀ (r:Addr) (H':Hp),aE H H'->H r=none->bp H' r->Q (.ref r) H'
theorem OL{f:Addr}{fd:FuncData}(F:gv K "_law_pot" "_law_pot" OJ f fd)(B:Bl mg)(B2:OK mg):bL P w K mg base bu 1 f fd ["_law_script","_law_k"] (G0 K):=by
 refine F.ok yy (fun vs H Q E h=>?_) (fun dW A outer s H vs Q E hr h=>?_)
 .obtain⟨a,ns,k,rfl,_⟩:=h;rfl
 .obtain⟨a,ns,k,rfl,hS,hk,q⟩:=h;refine⟨_,(ai (dL (bf (aa au (aa au af))) (eT (n:=2) rfl (a_ (aw (i:=2) yy.nd rfl aM) (a_ (aw (i:=3) yy.nd rfl aM) dq))))
   (ai (br (aI (vX (e:=jL) hr.u) (pv 0) (bZ af) (aN _)) (ak (aJ (i:=2) yy.nd rfl aM (aB Fc (by rfl) B2.abs PyProof.Rows.boot_abs (aa (aT aO (pv 0) (bj ik (pv 1) (aB aF (by rfl) B.len cn (aa (pv 0) af))) (fun _ _=>rfl)) af)))) aQ)
   (ai (br (aI kn (pv 1) (aB aF (by rfl) B.len cn (aa (pv 0) af)) (aN _)) (ak (aJ (i:=3) yy.nd rfl aM (aB (oG rfl) (by rfl) B.max qQ (aa au (aa (bj oE (pv 2) (bj Ac au au)) af))))) aQ)
   (ak (aK (bZ (aa (pv 3) (aa (bj dv (bj dv (bj ik (bj jt (bj dv (bj ik (pv 2) au) au) (bj dv (pv 1) au)) au) (bj jt au (pv 1))) au) af)))))))),?_⟩
  refine⟨by show 2<=sizeLine;decide,fun T0 QJ=>⟨T0,_,rfl,bv.of ae,rfl,_,_,rfl,_,_,rfl,rfl,?_⟩⟩;have sT:=aj (o:=.tup [.int 0,.int 0]) QJ;dsimp only;refine jO (fun σ Hc=>aE H Hc/\∃c:Int,0<=c/\σ=[some (.ref a),some (.int k),some (.int c),some (.int 0)]) ?_ ?_
  .rintro σ Hc ⟨sc,c,c0,rfl⟩;have m0:0<=c % 2147483579:=oj _ (by decide);have m1:c % 2147483579<2147483579:=n5 _ (by decide);refine jO (fun σ Hd=>Hd=Hc/\∃d:Int,0<=d/\σ=[some (.ref a),some (.int k),some (.int c),some (.int d)]) ?_ ?_
   .rintro σ Hd ⟨rfl,d,d0,rfl⟩;refine⟨_,rfl,_,rfl,_,_,rfl,rfl,(by show (0:Int)<2147483579;decide),_,_,rfl,rfl,_,rfl,_,_,rfl,rfl,_,_,rfl,rfl,.inl ⟨by lia,by lia⟩,_,_,rfl,rfl,(by show (0:Int)<2147483579;decide),_,rfl,_,_,rfl,rfl,.inl ⟨by decide,by decide⟩,_,_,rfl,rfl,_,_,rfl,rfl,by show 2<=sizeLine;decide,fun r BY=>?_⟩;have v0:0<=(c % 2147483579+1)*((k:Int)+1) % 2147483579:=oj _ (by decide);have v1:(c % 2147483579+1)*((k:Int)+1) % 2147483579<2147483579:=n5 _ (by decide);refine q r _ (sc.trans (aj BY)) (sc.free BY) ⟨_,_,ae,d0,?_,?_⟩
    .generalize (c % 2147483579+1)*((k:Int)+1) % 2147483579=z at *;lia
    .generalize (c % 2147483579+1)*((k:Int)+1) % 2147483579=z at *;lia
   .intro N hN;refine⟨_,rfl,_,rfl,a,_,rfl,.inl (hS.same sc),_,_,rfl,rfl,_,rfl,eU (fun e=>?_) (fun e=>hN _ _ ⟨rfl,0,by decide,rfl⟩)⟩;exact⟨_,rfl,_,_,rfl,rfl,⟨by decide,by decide,by decide⟩,_,_,rfl,rfl,0,_,rfl,hN _ _ ⟨rfl,_,by split <;> lia,rfl⟩⟩
  .intro N hN;refine⟨_,rfl,by show 0<=sizeLine;decide,fun E1 OM=>?_⟩;have sE:=sT.trans (aj (o:=.lst []) OM);have S1:=hS.same sE;refine⟨a,E1,_,[],rfl,rfl,S1,aZ.of ae,fun i h1 h2=>absurd h2 (by simp),_,rfl,?_⟩;rw[ap rfl,k8];by_cases e:ns.map V.int=[]
   .rw[cL e];exact cD (hN _ _ ⟨sE,0,by decide,rfl⟩)
   .rw[dO e];have hl:0<ns.length:=by
     rcases ns with _|⟨x,xs⟩
     .exact absurd rfl e
     .simp
    have hm:k % ns.length<ns.length:=iQ _ hl;refine dP ⟨_,rfl,_,rfl,_,rfl,a,_,rfl,.inl S1,_,_,rfl,rfl,(by show (0:Int)<(((ns.map V.int).length:Nat):Int);rw[aP];lia),a,_,_,.int ns[k % ns.length],rfl,rfl,S1,?_,_,rfl,hN _ _ ⟨sE,_,?_,rfl⟩⟩
    .rw[aP];have:((k:Int) % ((ns.length:Nat):Int))=((k % ns.length:Nat):Int):=rfl;rw[this];exact aA (by rw[cm,bB hm];rfl)
    .split <;> lia
theorem G4:aS ["_law_pot_here","_law_many","_law_digit"] ["_law_pot_here","_law_many"] (av GZ):=cZ (by decide +kernel)
def eW:Sp:=fun vs H Q _=>∃ (p:Addr) (m:Nat),vs=[.ref p,.int m]/\0<m/\m<1000000/\bp H p/\∀ (d:Nat) (H':Hp),d<m->az p H H'->bp H' p->Q (.int d) H'
theorem KC{f:Addr}{fd:FuncData}(F:gv K "_law_take" "_law_take" GZ f fd)(B2:OK mg):bL P w K mg base bu 1 f fd ["_law_pot_here","_law_many"] eW:=by
 refine F.ok G4 (fun vs H Q E h=>?_) (fun dW A outer s H vs Q E hr h=>?_)
 .obtain⟨p,m,rfl,_⟩:=h;rfl
 .obtain⟨p,m',rfl,m0',m1',⟨a,b,hp,a0,b0,b1⟩,q'⟩:=h;generalize hm:((m':Nat):Int)=m;have m0:0<m:=by lia
  have m1:m<1000000:=by lia
  have q:∀ (d a b:Int) (H':Hp),0<=d->d<m->0<=a->0<=b->b<4294967296->az p H H'->H' p=some (.lst [.int a,.int b])->Q (.int d) H':=fun d a b H' h1 h2 h3 h4 h5 h6 h7=>by
   have:=q' d.toNat H' (by lia) h6 ⟨a,b,h7,h3,h4,h5⟩;rw[zw h1] at this;exact this
  refine⟨_,(ai (br (aI BL (aT aO (pv 0) au (fun _ _=>rfl)) au (aN _)) (ai (dL (aB xu (by rfl) B2.divmod PyProof.Rows.boot_divmod (aa (aT aO (pv 0) au (fun _ _=>rfl)) (aa (pv 1) af))) (eT (n:=2) rfl (a_ (ii (pv 0) au eC) (a_ (aw (i:=2) G4.nd rfl aM) dq))))
    (ak (aK (pv 2)))) aQ)
   (ai (dL (bj ik (bj dv (bj jt (aT aO (pv 0) au (fun _ _=>rfl)) au) au) au) (ii (pv 0) au eC))
   (ak (aK (bj ik (bj vG (bj ik (bj jt (aT aO (pv 0) au (fun _ _=>rfl)) (aT aO (pv 0) au (fun _ _=>rfl))) au) au) (pv 1)))))),?_⟩
  have g0:Fp [V.int a,V.int b] 0=some (.int a):=aA (j:=0) rfl;have g1:Fp [V.int a,V.int b] 1=some (.int b):=aA (j:=1) rfl;refine⟨_,rfl,p,_,_,_,rfl,rfl,aZ.of hp,g0,_,_,rfl,rfl,_,rfl,?_⟩;refine eU (fun e=>?_) (fun e=>?_)
  .refine⟨_,rfl,p,_,_,_,rfl,rfl,aZ.of hp,g0,_,rfl,_,_,rfl,⟨m0,by lia⟩,fun t ht=>?_⟩;have npt:p≠t:=ao hp ht;refine⟨t,_,rfl,bv.of ae,rfl,_,_,rfl,?_⟩;refine⟨_,rfl,p,_,0,0,rfl,rfl,by rw[am npt];exact hp,dZ (j:=0) (by show 0<2;decide),_,_,rfl,rfl,_,rfl,?_⟩;exact q _ _ _ _ (oj _ (by lia)) (n5 _ m0) (Int.ediv_nonneg a0 (by lia)) b0 b1 (fun c o e n=>by rw[am n,am (ao e ht)];exact e) ae
  .refine⟨_,rfl,p,_,_,_,rfl,rfl,aZ.of hp,g1,_,_,rfl,rfl,.inl ⟨by lia,by lia⟩,_,_,rfl,rfl,_,_,rfl,rfl,(by show (0:Int)<2147483587;decide),?_⟩;refine⟨_,rfl,p,_,1,1,rfl,rfl,hp,dZ (j:=1) (by show 1<2;decide),?_⟩;have c0:0<=(b*48283+10007) % 2147483587:=oj _ (by decide);have c1:(b*48283+10007) % 2147483587<2147483587:=n5 _ (by decide);refine⟨_,rfl,p,_,_,_,rfl,rfl,aZ.of ae,aA (j:=1) rfl,_,rfl,p,_,_,_,rfl,rfl,aZ.of ae,aA (j:=1) rfl,_,_,rfl,rfl,.inl ⟨by lia,by lia⟩,_,_,rfl,rfl,(by show (0:Int)<2147483549;decide),_,_,rfl,rfl,⟨by decide,by decide⟩,_,rfl,_,_,rfl,rfl,m0,?_⟩;exact q _ _ _ _ (oj _ (by lia)) (n5 _ m0) a0 c0 (by lia) az.upd ae
theorem kM:∀ {xs:List Nat} {k:Nat},(NV xs).eraseIdx k=NV (xs.eraseIdx k)
 |[],_=>rfl
 |x::xs,0=>rfl
 |x::xs,k+1=>congrArg (V.int (x:Nat)::·) (kM (xs:=xs) (k:=k))
theorem su:∀ {ls:List Nat} {k:Nat} (hk:k<ls.length),(ls[k]::ls.eraseIdx k).Perm ls
 |x::xs,0,_=>lM _
 |x::xs,k+1,h=>(List.Perm.swap x _ _).trans ((su (ls:=xs) (k:=k) (by simpa using h)).cons x)
theorem G5{xs ls:List Nat}{k v:Nat}{r:List Nat}(p:(xs++ls).Perm r)(h:ls[k]?=some v):(xs++[v]++ls.eraseIdx k).Perm r:=by
 refine List.Perm.trans ?_ p;rw[dw];refine lj _ ?_;obtain⟨hk,e⟩:=cK.mp h;subst e;exact su hk
theorem Cy:aS ["_law_pot_here","_law_many","_law_left"] ["_law_pot_here","_law_many"] (av Ba):=cZ (by decide +kernel)
def ny:Sp:=fun vs H Q _=>∃ (p:Addr) (m:Nat),vs=[.ref p,.int m]/\m<=32/\bp H p/\∀ (r:Addr) (xs:List Nat) (H':Hp),az p H H'->bp H' p->H r=none->H' r=some (.lst (NV xs))->xs.Perm (List.range m)->Q (.ref r) H'
theorem G6{f:Addr}{fd:FuncData}(F:gv K "_law_order" "_law_order" Ba f fd)(B:Bl mg)(D:cE P w K mg base bu 1 "_law_take" ["_law_pot_here","_law_many"] eW):bL P w K mg base bu 2 f fd ["_law_pot_here","_law_many"] ny:=by
 refine F.ok Cy (fun vs H Q E h=>?_) (fun dW A outer s H vs Q E hr h=>?_)
 .obtain⟨p,m,rfl,_⟩:=h;rfl
 .obtain⟨p,m,rfl,hm,hp,q⟩:=h;refine'⟨_,(ai (aJ (i:=2) Cy.nd rfl bU (cG (AE rfl) (by rfl) B.lst nR (aa (cG xS (by rfl) B.range PyProof.Rows.boot_range (aa (pv 1) af)) af)))
   (ak (aK ?c1))),?_⟩
  case c1=>
   refine' cA (g:=(bE 0)) (te:=(WK K "list" Fx (aW 1) (aV (uf eW [] E0 (aV (aW 2) (aV (Da (fun xs H Q=>∃p ys,xs=[V.ref p]/\(aZ K H p ys\/bv K H p ys)/\Q (.int ys.length) H) (aV (aW 1) cY)) cY))) cY))) (NB:=["_law_k","_law_left","_law_pot_here"]) (src:=[none,some 2,some 0]) (bN (by kernel_rfl)) rfl (bi rfl B.range (aa (pv 1) af)) ?g ?t ?e;case g=>exact fun cl C s₃ H₃ fp=>(aw (i:=0) md rfl aM bU)
   case t=>exact fun cl C s₃ H₃ fp=>cy
   case e=>exact fun cl C s₃ H₃ fp=>(gG fV zj zi rK (pv 1) (aa (aG D hr aL (aa (pv 2) (aa (aB aF (by rfl) B.len cn (aa (pv 1) af)) af))) af))
  refine⟨_,rfl,m,rfl,fun R hR=>⟨R,m,rfl,ae,by lia,fun L hL=>?_⟩⟩;have s0:aE H (upd (upd H R (.Jd 0 m)) L (.lst (NV (List.range m)))):=(aj hR).trans (aj hL);have hLH:H L=none:=(aj hR).free hL;refine⟨_,rfl,m,rfl,by lia,by lia,fun D' hD=>?_⟩;have Yi:H D'=none:=s0.free hD;have npL:L≠p:=hp.ne hLH;have KD:D'≠p:=hp.ne Yi;have Yj:L≠D':=ao ae hD;refine fk (n:=m) (lo:=0) (fun i ys σ H2=>(∃k,σ=[k,some (.ref L),some (.ref p)])/\az p H H2/\bp H2 p/\∃ls xs:List Nat,H2 L=some (.lst (NV ls))/\H2 D'=some (.lst ys)/\ys=NV xs/\(xs++ls).Perm (List.range m)/\xs.length=i)
   ⟨⟨_,rfl⟩,az.of (s0.trans (aj hD)),(hp.same s0).same (aj hD),List.range m,[],by rw[am Yj,ae],ae,rfl,lM _,rfl⟩ ?_ ?_
  .rintro i ys σ H2 Kt Kf hi ⟨⟨k',rfl⟩,sm,kJ,ls,xs,QD,iz,rfl,pm,xl⟩ kt kf;have ll:ls.length=m-i:=by have:=pm.length_eq;rw[cf,b8] at this;lia
   refine⟨_,rfl,.inl ⟨rfl,_,aZ.of QD⟩,_,rfl,_,rfl,L,_,rfl,.inl (aZ.of QD),p,_,rfl,by rw[aR];lia,by rw[aR];lia,kJ,fun d H3 hd s3 mv=>?_⟩;rw[aR] at hd;have hv:ls[d]?=some ls[d]:=bB hd;refine⟨L,_,(d:Int),d,.int (ls[d]:Nat),rfl,rfl,s3 _ _ QD npL,by lia,by lia,(mQ (dZ (by rw[aR];exact hd))).1,by unfold NV;rw[cm,hv];rfl,?_⟩;refine kt _ _ _ (by rw[am Yj.symm];exact s3 _ _ iz KD) (by rw[aR,xl];exact cQ (show i<33 by lia) (by decide)) ⟨⟨_,rfl⟩,fun b o e n=>?_,?_,ls.eraseIdx d,xs++[ls[d]],by rw[am Yj,ae,kM],ae,by rw[nu],G5 pm hv,by rw[cf,xl];rfl⟩
   .rw[am (ao e Yi),am (ao e hLH)];exact s3 _ _ (sm _ _ e n) n
   .exact(mv.put npL.symm).put KD.symm
  .rintro ys σ H2 ⟨_,sm,kJ,ls,xs,QD,iz,rfl,pm,xl⟩;have ll:ls=[]:=by
    have:=pm.length_eq;rw[cf,b8,xl] at this;exact List.length_eq_zero_iff.mp (by lia)
   subst ll;rw[vi] at pm;exact q D' xs H2 sm kJ Yi iz pm
end
abbrev G7:Stmt:=iy 42
abbrev G8:Stmt:=iy 43
theorem yz:(["_law_one","_law_many"]:List Str).Nodup:=by decide +kernel
theorem kN{α:Type}{x:α}:∀ {k:Nat},(List.replicate k [x]).flatten=List.replicate k x
 |0=>rfl
 |k+1=>by rw[mC,qW,kN,mC];rfl
theorem gL{A B:Prop}{b:Bool}(hb:b=true)(h:A):if b=true then A else B:=by rw[ap hb];exact h
theorem ir{A B:Prop}{b:Bool}(hb:b=false)(h:B):if b=true then A else B:=by rw[aq (by rw[hb];decide)];exact h
def p_(H:Hp)(D:Addr)(ts:Ts)(H2:Hp):Prop:=aE H H2/\∃zs:Zs,H2 D=some (.lst (zr zs))/\PO H2 zs/\zp zs=ts
theorem ww{lo:Int}{n:Nat}{D:Addr}{g:TG}{tt:TT}{te:TE}{dG:Hp->Prop}{σB:St}{H0:Hp}(c:Nat->Bool)(bA:St->Prop)(hD:H0 D=none)(hn:n<=1000)(h0:bA σB)(hs:∀x σ H (Kt:V->St->Hp->Prop) (Kf:St->Hp->Prop),x<n->bA σ->aE H0 H->(∀σ2 H2,bA σ2->aE H H2->c x=true->Kt (.int (lo+(x:Nat))) σ2 H2)->(∀σ2 H2,bA σ2->aE H H2->c x=false->Kf σ2 H2)->
   g (.int (lo+(x:Nat))) σ H fun σ2 H2=>tt σ2 H2 fun b H3=>if b=true then te σ2 H3 fun v H4=>Kt v σ2 H4 else Kf σ2 H3)(hd:∀H,aE H0 H->H D=some (.lst (((List.range n).filter c).map fun (x:Nat)=>V.int (lo+(x:Int))))->dG H):gI (Ez lo n) g tt te D dG σB (upd H0 D (.lst [])):=by
 refine fk (fun i ys σ H=>bA σ/\aE H0 H/\H D=some (.lst ys)/\ys=((List.range i).filter c).map fun (x:Nat)=>V.int (lo+(x:Int))) ⟨h0,aj hD,ae,rfl⟩ ?_ ?_
 .rintro i ys σ H Kt Kf hi ⟨sh,sm,eX,rfl⟩ kt kf;refine hs i σ H Kt Kf hi sh sm (fun σ2 H2 pc s2 e=>?_) (fun σ2 H2 pc s2 e=>?_)
  .refine kt _ _ _ (s2 _ _ eX) ?_ ⟨pc,bw (sm.trans s2) hD,ae,?_⟩
   .rw[aP];refine fz (iE _ _) ?_;rw[b8];exact cQ (show i<1000 by lia) (by decide)
   .rw[jH,gZ,dg];simp[dX,e]
  .refine kf _ _ ⟨pc,sm.trans s2,s2 _ _ eX,?_⟩;rw[jH,gZ];simp[dX,e]
 .rintro ys σ H ⟨_,sm,eX,rfl⟩;exact hd H sm eX
theorem pq:∀ {xs:List Nat} {j x:Nat},(NV xs).set j (.int (x:Int))=NV (xs.set j x)
 |[],_,_=>rfl
 |y::ys,0,x=>rfl
 |y::ys,j+1,x=>congrArg (V.int (y:Int)::·) (pq (xs:=ys) (j:=j) (x:=x))
theorem f_{xs:List Nat}{j:Nat}(h:j<xs.length):(NV xs)[j]?=some (.int ((xs.getD j 0:Nat):Int)):=by
 unfold NV;rw[cm,aY,bB h];rfl
def fU(n:Nat)(ps:Ts):List Nat:=(List.range n).map fun (h:Nat)=>gU (dB ps) (ci h)
theorem jc{n:Nat}{ps:Ts}:(fU n ps).length=n:=by unfold fU;rw[aP,b8]
theorem sA{n:Nat}{ps:Ts}{h:Nat}(hh:h<n):(fU n ps).getD h 0=gU (dB ps) (ci h):=by
 unfold fU;rw[aY,cm,hX hh];rfl
theorem G9{n:Nat}{ps:Ts}{a b:Nat}(ha:a<n)(hb:b<n)(pS:a≠b):((fU n ps).set a (gU (dB ps) (ci a)+1)).set b (gU (dB ps) (ci b)+1)=fU n (ps++[(ci a,ci b)]):=by
 have ne:∀x y:Nat,ci x=ci y->x=y:=fun x y e=>d8 e;refine j3 fun i=>?_;by_cases hi:i<n
 .have g:∀qs:Ts,(fU n qs)[i]?=some (gU (dB qs) (ci i)):=fun qs=>by unfold fU;rw[cm,hX hi];rfl
  rw[g,Ky,n6,n6,g,jI,jc];by_cases c1:b=i
  .subst c1;rw[ap rfl,ap hb,aq (fun z=>pS (ne _ _ z)),ap rfl,vq]
  .rw[aq c1,aq (fun z=>c1 (ne _ _ z))];by_cases c2:a=i
   .subst c2;rw[ap rfl,ap ha,ap rfl]
   .rw[aq c2,aq (fun z=>c2 (ne _ _ z))];rfl
 .rw[de (by rw[jI,jI,jc];lia),de (by rw[jc];lia)]
theorem G_{n:Nat}:List.replicate n (V.int 0)=NV (fU n []):=by
 refine j3 fun i=>?_;unfold NV fU;rw[di,qO,cm];by_cases hi:i<n
 .rw[ap hi,hX hi];rfl
 .rw[aq hi,de (by rw[b8];lia)];rfl
section
variable {P:Program} {w:World} {K:PySem.W.Frag} {mg:Str->Option Value} {base:Heap}
theorem wz:aS ["_law_pairs","_law_ties","_law_one","_law_other_here"] ["_law_pairs"] (av G7):=cZ (by decide +kernel)
def Bb:Sp:=fun vs H Q _=>∃ (l:Addr) (zs:Zs),vs=[.ref l]/\H l=some (.lst (zr zs))/\PO H zs/\zs.length<=1000/\∀ (r:Addr) (yR:Zs) (H':Hp),aE H H'->H r=none->H' r=some (.lst (zr yR))->PO H' yR->zp yR=dB (zp zs)->Q (.ref r) H'
theorem KE{f:Addr}{fd:FuncData}(F:gv K "_law_both" "_law_both" G7 f fd):bL P w K mg base bu 1 f fd ["_law_pairs"] Bb:=by
 refine F.ok wz (fun vs H Q E h=>?_) (fun dW A outer s H vs Q E hr h=>?_)
 .obtain⟨l,zs,rfl,_⟩:=h;rfl
 .obtain⟨l,zs,rfl,hl,po,hz,q⟩:=h;refine⟨_,(ai (aJ (i:=1) wz.nd rfl aM (bZ af))
   (ai (cq dh rfl (b9 (pv 0)) (eT (n:=2) rfl (a_ (aw (i:=2) wz.nd rfl aM) (a_ (aw (i:=3) wz.nd rfl aM) dq)))
    (ak (cU (gG fV y4 y3 oM (pv 1) (aa (bZ (aa (bf (aa (pv 2) (aa (pv 3) af))) (aa (bf (aa (pv 3) (aa (pv 2) af))) af))) af)))))
   (ak (aK (pv 1))))),?_⟩
  refine⟨by show 0<=sizeLine;decide,fun D hD=>?_⟩;have s0:=aj (o:=.lst []) hD;refine⟨_,rfl,l,rfl,⟨_,aZ.of (s0 _ _ hl)⟩,ij (K:=K) (xs:=zr zs) (fun i σ H2=>(∃x y,σ=[some (.ref l),some (.ref D),x,y])/\p_ H D (dB ((zp zs).take i)) H2) ⟨⟨_,_,rfl⟩,s0,[],ae,PO.nil,rfl⟩ (fun i σ H2 _ z=>aZ.of (z.2.1 _ _ hl)) ?_ ?_⟩
  .rintro i x σ H2 hx ⟨⟨x',y',rfl⟩,sm,pX,iz,D7,ez⟩;obtain⟨z,Sm,rfl⟩:=o_ hx;have hi:i<zs.length:=(cK.mp Sm).1;have hzz:=sm _ _ (po z (df Sm));obtain⟨za,a,b⟩:=z;refine⟨za,_,rfl,bv.of hzz,rfl,_,_,rfl,_,_,rfl,rfl,?_⟩;refine⟨_,rfl,.inl ⟨rfl,_,aZ.of iz⟩,_,rfl,_,rfl,by show 2<=sizeLine;decide,fun t1 h1=>⟨_,rfl,_,rfl,by show 2<=sizeLine;decide,fun t2 h2=>⟨by show 2<=sizeLine;decide,fun L hL=>?_⟩⟩⟩;have u1:=aj (o:=tS (a,b)) h1;have u2:=aj (o:=tS (b,a)) h2;have u3:=aj (o:=.lst [.ref t1,.ref t2]) hL;have g1:=u3 _ _ (u2 _ _ (ae (H:=H2) (a:=t1) (o:=tS (a,b))));have g2:=u3 _ _ (ae (H:=upd H2 t1 (tS (a,b))) (a:=t2) (o:=tS (b,a)));have s3:=(u1.trans u2).trans u3;have NL:pX.length=2*i:=by
    have:=congrArg List.length ez;rw[bH,iL,lq,bH] at this;lia
   have gD:=s3 _ _ iz;refine⟨D,L,_,_,rfl,rfl,gD,ae,?_,⟨_,_,rfl⟩,bw (sm.trans s3) hD,pX++[(t1,(a,b)),(t2,(b,a))],?_,?_,?_⟩
   .rw[dF,NL];exact bC (show 2*i+2<=2002 by lia) (by decide)
   .rw[ae,eN];rfl
   .refine PO.putL (xs:=zr pX) ((D7.same s3).append fun z hz=>?_) gD;rcases bK.mp hz with rfl|hz
    .exact g1
    .rw[cC.mp hz];exact g2
   .rw[eQ,ez];have tk:(zp zs).take (i+1)=(zp zs).take i++[(a,b)]:=by
     rw[fW];unfold zp;rw[cm,Sm];rfl
    rw[tk,jA];rfl
  .rintro σ H2 ⟨⟨x',y',rfl⟩,sm,pX,iz,D7,ez⟩;rw[dF,<-bH,iF] at ez;exact⟨_,rfl,q D pX H2 sm hD iz D7 ez⟩
theorem pz:aS ["_law_pot_here","_law_n","_law_pairs","_law_many","_law_house","_law_some","_law_one"] ["_law_pot_here","_law_n"] (av G8):=cZ (by decide +kernel)
def me:Sp:=fun vs H Q _=>∃ (p:Addr) (n:Nat),vs=[.ref p,.int n]/\2<=n/\n<=32/\bp H p/\∀ (r:Addr) (zs:Zs) (H':Hp),az p H H'->bp H' p->H r=none->H' r=some (.lst (zr zs))->PO H' zs->cT n (dB (zp zs))->(∀u∈zp zs,u.1<u.2)->Q (.ref r) H'
theorem KG{f:Addr}{fd:FuncData}(F:gv K "_law_tree" "_law_tree" G8 f fd)(B:Bl mg)(D:cE P w K mg base bu 1 "_law_take" ["_law_pot_here","_law_many"] eW):bL P w K mg base bu 2 f fd ["_law_pot_here","_law_n"] me:=by
 refine F.ok pz (fun vs H Q E h=>?_) (fun dW A outer s H vs Q E hr h=>?_)
 .obtain⟨p,n,rfl,_⟩:=h;rfl
 .obtain⟨p,n,rfl,n1,n2,hp,q⟩:=h;refine'⟨_,(ai (aJ (i:=2) pz.nd rfl aM (bZ af))
   (ai (aJ (i:=3) pz.nd rfl bU (bj vN (bZ (aa au af)) (pv 1)))
   (ai (cq dh rfl (oC rfl B.range (aa au (aa (pv 1) af))) (aw (i:=4) pz.nd rfl aM)
    (ai (cS (i:=5) (g:=(bE 0)) (tt:=(i6 (gE (vF fun i j=>.bl (decide (i<j))) (gE (oJ K) (aW 1) (aW 0)) (tC (.int 8))))) (te:=(aW 0)) (NB:=["_law_one","_law_many"]) (src:=[none,some 3]) (bN (by kernel_rfl)) rfl (bi rfl B.range (aa (pv 4) af)) ?g1 ?t1 ?e1 pz.nd rfl rfl rfl)
    (ai (aJ (i:=6) pz.nd rfl aM (aT aO (pv 5) (aG D hr aL (aa (pv 0) (aa (aB aF (by rfl) B.len cn (aa (pv 5) af)) af))) (fun _ _=>rfl)))
    (ai (cU (gG fV mz my dS (pv 2) (aa (bf (aa (pv 6) (aa (pv 4) af))) af)))
    (ai (dL (bj dv (aT aO (pv 3) (pv 6) (fun _ _=>rfl)) au) (ii (pv 3) (pv 6) eC))
    (ak (dL (bj dv (aT aO (pv 3) (pv 4) (fun _ _=>rfl)) au) (ii (pv 3) (pv 4) eC))))))))
   (ak (aK (pv 2)))))),?_⟩
  case g1=>exact fun cl C s₃ H₃ fp=>(aw (i:=0) yz rfl aM bU)
  case t1=>exact fun cl C s₃ H₃ fp=>fK (aI kn (aT aO (pv 1) (pv 0) (fun _ _=>rfl)) au (aN _))
  case e1=>exact fun cl C s₃ H₃ fp=>(pv 0)
  refine⟨by show 0<=sizeLine;decide,fun Pr MJ=>?_⟩;have sP:=aj (o:=.lst []) MJ;refine⟨by show 1<=sizeLine;decide,fun L1 v9=>⟨_,rfl,L1,_,_,rfl,rfl,ae,by lia,by lia,by rw[i3,jT];exact bC (show 1*n<=32 by lia) (by decide),fun M hM=>?_⟩⟩;rw[i3,kN,G_];have s1:=sP.trans (aj (o:=.lst [.int 0]) v9);have s2:=s1.trans (aj (o:=.lst (NV (fU n []))) hM);have gP:(upd (upd (upd H Pr (.lst [])) L1 (.lst [.int 0])) M (.lst (NV (fU n [])))) Pr=some (.lst (zr [])):=aj hM _ _ (aj v9 _ _ ae);have gM:(upd (upd (upd H Pr (.lst [])) L1 (.lst [.int 0])) M (.lst (NV (fU n [])))) M=some (.lst (NV (fU n []))):=ae;have nPM:Pr≠M:=ao (aj v9 _ _ ae) hM;have hMH:H M=none:=s1.free hM;generalize upd (upd (upd H Pr _) L1 _) M _=H0 at *;refine⟨_,rfl,1,(n:Int),rfl,⟨by decide,by decide,by lia,by lia⟩,?_⟩;rw[show ((n:Int)-1).toNat=n-1 by lia];refine ce (lo:=1) (n:=n-1) (fun i σ Hc=>∃zs:Zs,(∃a b c,σ=[some (.ref p),some (.int n),some (.ref Pr),some (.ref M),a,b,c])/\az p H Hc/\bp Hc p/\Hc Pr=some (.lst (zr zs))/\PO Hc zs/\Hc M=some (.lst (NV (fU n (zp zs))))/\r9 n (List.range n) (i+1) (dB (zp zs))/\∀u∈zp zs,u.1<u.2)
   ⟨[],⟨none,none,none,rfl⟩,az.of s2,hp.same s2,gP,PO.nil,gM,r9.start (by rw[b8];lia),fun u hu=>nomatch hu⟩ ?_ ?_
  .rintro i σ Hc hi ⟨zs,⟨a,b,c,rfl⟩,sc,iM,ON,po,OO,Tr,yj⟩;have e1:(1:Int)+(i:Int)=((i+1:Nat):Int):=by lia
   rw[e1];have VR:zs.length=i:=by have:=Tr.len;rw[iL,bH] at this;lia
   refine⟨_,rfl,((i+1:Nat):Int),rfl,by lia,by lia,fun D1 pY=>?_⟩;rw[show (((i+1:Nat):Int)).toNat=i+1 from rfl];refine ww (lo:=0) (n:=i+1) (fun x=>decide (gU (dB (zp zs)) (ci x)<8)) (fun σ=>∃a,σ=[a,some (.ref M)]) pY (by lia) ⟨_,rfl⟩ ?_ ?_
   .rintro x σ H4 Kt Kf hx ⟨a',rfl⟩ tj kt kf;rw[d9] at kt |-;have C5:x<(fU n (zp zs)).length:=by rw[jc];lia
    refine⟨_,rfl,_,rfl,M,_,_,_,rfl,rfl,aZ.of (tj _ _ OO),aA (f_ C5),_,_,rfl,rfl,_,rfl,?_⟩;have ed:=sA (ps:=zp zs) (show x<n by lia);refine eU (fun e=>?_) (fun e=>?_)
    .exact⟨_,rfl,kt _ _ ⟨_,rfl⟩ (aE.refl _) (cL (by have:=cW e;lia))⟩
    .exact kf _ _ ⟨_,rfl⟩ (aE.refl _) (dO (fun z=>e (cL (by lia))))
   .intro H4 tj xj;have e0:((((List.range (i+1)).filter fun x=>decide (gU (dB (zp zs)) (ci x)<8)).map fun (x:Nat)=>V.int (0+(x:Int))))=NV ((List.range (i+1)).filter fun x=>decide (gU (dB (zp zs)) (ci x)<8)):=jF fun x _=>by rw[d9]
    rw[e0] at xj;obtain⟨h0,hh0,dd0⟩:=Tr.free ln (by rw[b8];lia);have tk:(List.range n).take (i+1)=List.range (i+1):=by rw[List.take_range,zS (by lia)]
    rw[tk] at hh0;have ne:0<((List.range (i+1)).filter fun x=>decide (gU (dB (zp zs)) (ci x)<8)).length:=uW (dD.mpr ⟨hh0,cL dd0⟩);have le:((List.range (i+1)).filter fun x=>decide (gU (dB (zp zs)) (ci x)<8)).length<=i+1:=bC (iE _ _) (by rw[b8];exact bt _);generalize Ha:(List.range (i+1)).filter (fun x=>decide (gU (dB (zp zs)) (ci x)<8))=fs at *;have nA:=iM.same tj;refine⟨_,rfl,_,rfl,_,rfl,D1,_,rfl,.inl (aZ.of xj),p,_,rfl,by rw[aR];exact ne,by rw[aR];lia,nA,fun d H5 hd s5 sB=>?_⟩;rw[aR] at hd;have nD1:D1≠p:=iM.ne pY;have hv:fs[d]?=some fs[d]:=bB hd;refine⟨D1,_,_,_,rfl,rfl,aZ.of (s5 _ _ xj nD1),aA (f_ hd),?_⟩;have VS:fs.getD d 0∈fs:=by rw[aY,hv];exact dH _
    generalize fs.getD d 0=sv at *;rw[<-Ha] at VS;obtain⟨FO,uc⟩:=dD.mp VS;have hsv:sv<i+1:=bQ.mp FO;have hsd:gU (dB (zp zs)) (ci sv)<8:=cW uc;have OP:Pr≠p:=hp.ne MJ;have IX:M≠p:=hp.ne hMH;have Te:=s5 _ _ (tj _ _ ON) OP;have Yk:=s5 _ _ (tj _ _ OO) IX;have Cz:PO H5 zs:=(po.same tj).p9 s5 nA;refine⟨_,rfl,.inl ⟨rfl,_,aZ.of Te⟩,_,rfl,_,rfl,by show 2<=sizeLine;decide,fun t ht=>?_⟩;have st:=aj (o:=tS (ci sv,ci (i+1))) ht;refine⟨Pr,_,_,rfl,rfl,st _ _ Te,by rw[dF,VR];exact cQ (show i<33 by lia) (by decide),?_⟩;have Tf:(upd (upd H5 t (tS (ci sv,ci (i+1)))) Pr (.lst (zr zs++[.ref t]))) M=some (.lst (NV (fU n (zp zs)))):=by rw[am nPM.symm];exact st _ _ Yk
    have Ti:sv<(fU n (zp zs)).length:=by rw[jc];lia
    refine⟨_,rfl,_,rfl,M,_,_,_,rfl,rfl,aZ.of Tf,aA (f_ Ti),_,_,rfl,rfl,_,rfl,_,rfl,M,_,(sv:Int),sv,rfl,rfl,Tf,dZ (by rw[aR];exact Ti),?_⟩;have e2:(NV (fU n (zp zs))).set sv (V.int ((((fU n (zp zs)).getD sv 0:Nat):Int)+1))=NV ((fU n (zp zs)).set sv (gU (dB (zp zs)) (ci sv)+1)):=by
     rw[sA (by lia)];exact pq (x:=gU (dB (zp zs)) (ci sv)+1)
    have hkn:i+1<((fU n (zp zs)).set sv (gU (dB (zp zs)) (ci sv)+1)).length:=by rw[jI,jc];lia
    have ek:((fU n (zp zs)).set sv (gU (dB (zp zs)) (ci sv)+1)).getD (i+1) 0=gU (dB (zp zs)) (ci (i+1)):=by
     rw[aY,lC (by lia),<-aY,sA (by lia)]
    have VT:(upd (upd H5 t (tS (ci sv,ci (i+1)))) Pr (.lst (zr zs++[.ref t]))) Pr=some (.lst (zr zs++[.ref t])):=ae;have o6:∀b,b≠Pr->(upd (upd H5 t (tS (ci sv,ci (i+1)))) Pr (.lst (zr zs++[.ref t]))) b=(upd H5 t (tS (ci sv,ci (i+1)))) b:=fun b n=>am n;have EH:PO (upd (upd H5 t (tS (ci sv,ci (i+1)))) Pr (.lst (zr zs++[.ref t]))) (zs++[(t,(ci sv,ci (i+1)))]):=PO.putL (xs:=zr zs) ((Cz.same st).append (PO.one ae)) (st _ _ Te);generalize upd (upd H5 t (tS (ci sv,ci (i+1)))) Pr _=H6 at *;generalize KH:upd H6 M _=H7;have gM7:H7 M=some (.lst (NV ((fU n (zp zs)).set sv (gU (dB (zp zs)) (ci sv)+1)))):=by rw[<-KH,ae];exact congrArg (fun l=>some (HO.lst l)) e2
    have o7:∀b,b≠M->H7 b=H6 b:=fun b n=>by rw[<-KH,am n]
    refine⟨_,rfl,_,rfl,M,_,_,_,rfl,rfl,aZ.of gM7,aA (f_ hkn),_,_,rfl,rfl,_,rfl,_,rfl,M,_,((i+1:Nat):Int),i+1,rfl,rfl,gM7,dZ (by rw[aR];exact hkn),?_⟩;generalize hH8:upd H7 M _=H8;have e3:(NV ((fU n (zp zs)).set sv (gU (dB (zp zs)) (ci sv)+1))).set (i+1) (V.int (((((fU n (zp zs)).set sv (gU (dB (zp zs)) (ci sv)+1)).getD (i+1) 0:Nat):Int)+1))=NV (fU n (zp zs++[(ci sv,ci (i+1))])):=by
     rw[ek,<-G9 (by lia) (by lia) (by lia)];exact pq (x:=gU (dB (zp zs)) (ci (i+1))+1)
    have gM8:H8 M=some (.lst (NV (fU n (zp zs++[(ci sv,ci (i+1))])))):=by rw[<-hH8,ae];exact congrArg (fun l=>some (HO.lst l)) e3
    have o8:∀b,b≠M->H8 b=H6 b:=fun b n=>by rw[<-hH8,am n];exact o7 b n
    have ez:zp (zs++[(t,(ci sv,ci (i+1)))])=zp zs++[(ci sv,ci (i+1))]:=by rw[eQ];rfl
    refine⟨zs++[(t,(ci sv,ci (i+1)))],⟨_,_,_,rfl⟩,fun b o e n=>?_,?_,?_,fun z hz=>?_,by rw[ez];exact gM8,?_,fun u hu=>?_⟩
    .rw[o8 _ (ao e hMH),o6 _ (ao e MJ)];exact st _ _ (s5 _ _ (tj _ _ (sc _ _ e n)) n)
    .obtain⟨x,y,e,r⟩:=sB.same st;exact⟨x,y,by rw[o8 _ IX.symm,o6 _ OP.symm];exact e,r⟩
    .rw[o8 _ nPM,VT,eN];rfl
    .have g:=EH z hz;rw[o8 _ (by rintro e;rw[e,Tf] at g;cases g)];exact g
    .rw[ez,jA];exact Tr.add ln (fun x hx=>bQ.mp hx) (hX (by lia)) (by rw[tk];exact FO) hsd
    .rw[ez] at hu;rcases bS.mp hu with z|z
     .exact yj u z
     .rw[cC.mp z];show ((sv:Nat):Int)<((i+1:Nat):Int);lia
  .rintro σ Hc ⟨zs,⟨a,b,c,rfl⟩,sc,iM,ON,po,OO,Tr,yj⟩;rw[show n-1+1=n by lia] at Tr;exact⟨_,rfl,q Pr zs Hc sc iM MJ ON po (Tr.l7 n1 n2 (lM _)) yj⟩
end
end nN
namespace L2
open PySem PySem.Spec PyProof.Rows
def OQ(K:PySem.W.Frag):List V->Hp->VK->Prop:=fun xs H Q=>∃ (l:Addr) (ns:List Int),xs=[.ref l]/\aZ K H l (ns.map V.int)/\ns.length<64/\∀ (D:Addr) (OS:List Int),H D=none->OS.Perm ns->OS.Pairwise (·<=·)->Q (.ref D) (upd H D (.lst (OS.map V.int)))
theorem Bc{X:Cx}:et X (.builtin "sorted") (OQ X.K):=by
 intro ag s σ H xs us Q I r h;obtain⟨l,ns,rfl,hl,Sg,q⟩:=h;obtain⟨u1,rfl,r1⟩:=r.one;obtain rfl:u1=Value.ref l:=r1;obtain⟨its,rv,pl,_⟩:=I.list hl;have ia:=Ao rv;refine sorted_ints pl.isList ia (by rw[ia.length];exact Sg) fun out OS a1 a2 a3=>?_;obtain⟨⟨e,ho⟩,keep⟩:=yg (h:=s.heap) (vs:=its) (out:=out);have ye:s.heap.get? (s.heap.objs.size+1)=none:=n0 (Nat.le_succ _);have eo:out=out.toList.toArray:=by simp
 refine⟨.ref (s.heap.objs.size+1),_,I.xH (t':=s.toks) (o:=.lst (OS.map V.int)) keep ye ⟨?_,out.toList,e,oO a1,by rw[ho]⟩,rfl,q _ OS (I.b_.oR ye) a2 a3⟩;rw[aP,a2.length_eq];exact bC (j8 Sg) (by decide)
theorem He{K:PySem.W.Frag}{a D:Addr}{xs:List V}{g:TG}{tt:TT}{te:TE}{dG:Hp->Prop}{σB:St}{H0:Hp}(Pv:Nat->List V->St->Hp->Prop)(h0:Pv 0 [] σB H0)(hl:∀i ys σ H,i<=xs.length->Pv i ys σ H->bv K H a xs)(hs:∀i x ys σ H (Kt:V->St->Hp->Prop) (Kf:St->Hp->Prop),xs[i]?=some x->Pv i ys σ H->
   (∀v σ2 H4,H4 D=some (.lst ys)->ys.length<sizeLine->Pv (i+1) (ys++[v]) σ2 (upd H4 D (.lst (ys++[v])))->Kt v σ2 H4)->(∀σ2 H3,Pv (i+1) ys σ2 H3->Kf σ2 H3)->
   g x σ H fun σ2 H2=>tt σ2 H2 fun b H3=>if b=true then te σ2 H3 fun v H4=>Kt v σ2 H4 else Kf σ2 H3)(hd:∀ys σ H,Pv xs.length ys σ H->dG H):gI (Qr K a) g tt te D dG σB H0:=by
 refine⟨fun i m σ H=>m=xs.length-i/\i<=xs.length/\∃ys,Pv i ys σ H,⟨xs.length,by simp,cM _,[],h0⟩,?_⟩;rintro i m σ H ⟨rfl,hi,ys,p⟩;have q:=hl i ys σ H hi p;by_cases eZ:i<xs.length
 .refine .inr ⟨⟨xs,xs[i],q,by simp[eZ]⟩,?_⟩;rintro x H' ⟨rfl,y⟩;exact hs i x ys σ _ (fun v σ2 H4=>∃ys,H4 D=some (.lst ys)/\ys.length<sizeLine/\∃m',m'<xs.length-i/\m'=xs.length-(i+1)/\i+1<=xs.length/\∃xU,Pv (i+1) xU σ2 (upd H4 D (.lst (ys++[v]))))
   (fun σ2 H3=>∃m',m'<xs.length-i/\m'=xs.length-(i+1)/\i+1<=xs.length/\∃xU,Pv (i+1) xU σ2 H3) (y xs q) p
   (fun v σ2 H4 z1 z2 z3=>⟨ys,z1,z2,_,by lia,rfl,eZ,_,z3⟩) (fun σ2 H3 z=>⟨_,by lia,rfl,eZ,_,z⟩)
 .have e:i=xs.length:=by lia
  subst e;exact .inl ⟨⟨xs,q,bt _⟩,hd ys σ H p⟩
end L2
namespace nN
open PySem L2 ix
abbrev Hf:Stmt:=iy 44
theorem sC:(["_law_house","_law_pairs"]:List Str).Nodup:=by decide +kernel
theorem tV:(["_law_pair","_law_house"]:List Str).Nodup:=by decide +kernel
theorem KI{K:PySem.W.Frag}{a D:Addr}{zs:Zs}{g:TG}{tt:TT}{te:TE}{dG:Hp->Prop}{σB:St}{H0:Hp}(c:Int×Int->Bool)(bA:St->Prop)(ha:H0 a=some (.lst (zr zs)))(hD:H0 D=none)(hn:zs.length<=1000)(h0:bA σB)(hs:∀z σ H (Kt:V->St->Hp->Prop) (Kf:St->Hp->Prop),z∈zs->bA σ->aE H0 H->(∀σ2 H2,bA σ2->aE H H2->c z.2=true->Kt (.ref z.1) σ2 H2)->(∀σ2 H2,bA σ2->aE H H2->c z.2=false->Kf σ2 H2)->
   g (.ref z.1) σ H fun σ2 H2=>tt σ2 H2 fun b H3=>if b=true then te σ2 H3 fun v H4=>Kt v σ2 H4 else Kf σ2 H3)(hd:∀H,aE H0 H->H D=some (.lst (zr (zs.filter fun z=>c z.2)))->dG H):gI (Ey K a) g tt te D dG σB (upd H0 D (.lst [])):=by
 refine dE (xs:=zr zs) (fun i ys σ H=>bA σ/\aE H0 H/\H D=some (.lst ys)/\ys=zr ((zs.take i).filter fun z=>c z.2)) ⟨h0,aj hD,ae,rfl⟩ (fun i ys σ H _ z=>aZ.of (z.2.1 _ _ ha)) ?_ ?_
 .rintro i x ys σ H Kt Kf hx ⟨sh,sm,eX,rfl⟩ kt kf;obtain⟨z,hz,rfl⟩:=o_ hx;have hi:i<zs.length:=(cK.mp hz).1;have tk:zs.take (i+1)=zs.take i++[z]:=by rw[fW,hz];rfl
  refine hs z σ H Kt Kf (df hz) sh sm (fun σ2 H2 pc s2 e=>?_) (fun σ2 H2 pc s2 e=>?_)
  .refine kt _ _ _ (s2 _ _ eX) ?_ ⟨pc,bw (sm.trans s2) hD,ae,?_⟩
   .rw[dF];exact fz (iE _ _) (fz (zq _ _) (cQ (show i<1000 by lia) (by decide)))
   .rw[tk,gZ,eN];simp[dX,e,zr]
  .refine kf _ _ ⟨pc,sm.trans s2,s2 _ _ eX,?_⟩;rw[tk,gZ];simp[dX,e]
 .rintro ys σ H ⟨_,sm,eX,rfl⟩;rw[dF,iF] at eX;exact hd H sm eX
theorem D8{zs:Zs}{c:Int×Int->Bool}:zp (zs.filter fun z=>c z.2)=(zp zs).filter c:=by
 unfold zp;rw[oh];rfl
theorem tW{zs:Zs}{c:Int×Int->Bool}:(zr (zs.filter fun z=>c z.2)).length=((zp zs).filter c).length:=by rw[dF,<-bH,D8]
theorem KJ{x:Int}{u:Int×Int}:EC (.int x) [.int u.1,.int u.2]=(decide (u.1=x)||decide (u.2=x)):=by
 unfold EC;rw[jJ];simp[jL]
theorem OV{a b:Int}{ns:List Int}(pm:ns.Perm [a,b])(so:ns.Pairwise (·<=·)):∃x y,ns=[x,y]/\x<=y/\(x=a\/x=b)/\(y=a\/y=b):=by
 have hl:=pm.length_eq
 match ns,hl with
 |[x,y],_=>
  have hx:x∈[a,b]:=pm.mem_iff.mp (by simp);have hy:y∈[a,b]:=pm.mem_iff.mp (by simp);refine⟨x,y,rfl,?_,by simpa using hx,by simpa using hy⟩;exact(qU.mp so).1 y (by simp)
section
variable {P:Program} {w:World} {K:PySem.W.Frag} {mg:Str->Option Value} {base:Heap}
theorem ML{H:Hp}{zs:Zs}(po:PO H zs):zs.length=(zp zs).length/\∀i,i<(zp zs).length->bv K H ((zs.map (·.1)).getD i 0) [.int ((zp zs).getD i (0,0)).1,.int ((zp zs).getD i (0,0)).2]:=by
 refine⟨bH.symm,fun i hi=>?_⟩;rw[bH] at hi;rw[yn hi,Cr hi];exact bv.of (po _ (dH hi))
theorem pA:aS ["_law_pot_here","_law_n","_law_pairs","_law_k","_law_one","_law_other_here","_law_full"] ["_law_pot_here","_law_n"] (av Hf):=cZ (by decide +kernel)
theorem KL{f:Addr}{fd:FuncData}(F:gv K "_law_mesh" "_law_mesh" Hf f fd)(B:Bl mg)(D:cE P w K mg base bu 1 "_law_take" ["_law_pot_here","_law_many"] eW)(TR:cE P w K mg base bu 2 "_law_tree" ["_law_pot_here","_law_n"] me):bL P w K mg base bu 3 f fd ["_law_pot_here","_law_n"] me:=by
 refine F.ok pA (fun vs H Q E h=>?_) (fun dW A outer s H vs Q E hr h=>?_)
 .obtain⟨p,n,rfl,_⟩:=h;rfl
 .obtain⟨p,n,rfl,n1,n2,hp,q⟩:=h;have h1:cx 1 _:=hr.mono (by decide);refine'⟨_,(ai (aJ (i:=2) pA.nd rfl bU (aG TR hr aL (aa (pv 0) (aa (pv 1) af))))
   (ai (cq dh rfl (bi rfl B.range (aa (aG D h1 aL (aa (pv 0) (aa au af))) af)) (aw (i:=3) pA.nd rfl aM)
    (ai (dL (aB Bc (by rfl) B.sorted y7 (aa (bZ (aa (aG D h1 aL (aa (pv 0) (aa (pv 1) af))) (aa (aG D h1 aL (aa (pv 0) (aa (pv 1) af))) af))) af)) (J9 rfl (a_ (aw (i:=4) pA.nd rfl aM) (a_ (aw (i:=5) pA.nd rfl aM) dq))))
    (ai (aJ (i:=6) pA.nd rfl aM (iG BL (aB (uL rfl) (by rfl) B.max qQ (aa ?c1 af)) au (aN _)))
    (ak (br (PW.pt (fJ (aI pL (pv 4) (pv 5) (aN _)) (fJ (aI (uH hr.u) (bf (aa (pv 4) (aa (pv 5) af))) (pv 2) rfl) (fG (d_ (cR (pv 6))))))) (ak (cU (gG fV mz my dS (pv 2) (aa (bf (aa (pv 4) (aa (pv 5) af))) af)))) aQ)))))
   (ak (aK (pv 2))))),?_⟩
  case c1=>
   refine' cA (g:=(bE 0)) (te:=(Da (fun xs H Q=>∃p ys,xs=[V.ref p]/\(aZ K H p ys\/bv K H p ys)/\Q (.int ys.length) H) (aV (FE [none,some 0] (Mf K (aW 1)) (bE 0) (i6 (gE (Rz K false) (aW 1) (aW 0))) (aW 0)) cY))) (NB:=["_law_house","_law_pairs"]) (src:=[none,some 2]) (bN (by kernel_rfl)) rfl (vD (bf (aa (pv 4) (aa (pv 5) af)))) ?g ?t ?e;case g=>exact fun cl C s₃ H₃ fp=>(aw (i:=0) sC rfl bU aM)
   case t=>exact fun cl C s₃ H₃ fp=>cy
   case e=>
    intro cl C s₃ H₃ fp;refine'(aB aF (by rfl) B.len cn (aa ?c2 af));case c2=>
     refine' cA (g:=(bE 0)) (tt:=(i6 (gE (Rz K false) (aW 1) (aW 0)))) (te:=(aW 0)) (NB:=["_law_pair","_law_house"]) (src:=[none,some 0]) (bN (by kernel_rfl)) rfl (b9 (pv 1)) ?g ?t ?e;case g=>exact fun cl C s₃ H₃ fp=>(aw (i:=0) tV rfl aM bU)
     case t=>exact fun cl C s₃ H₃ fp=>fK (aI oK (pv 1) (pv 0) rfl)
     case e=>exact fun cl C s₃ H₃ fp=>(pv 0)
  refine⟨_,rfl,_,rfl,p,n,rfl,n1,n2,hp,fun Pr A0 H1 s1 jN MJ hP1 po1 F1 Yl=>?_⟩;have OP:Pr≠p:=hp.ne MJ;refine⟨_,rfl,p,10,rfl,by decide,by decide,jN,fun d H2 hd s2 kJ=>⟨(d:Int),rfl,by lia,by lia,ce (n:=d) (lo:=0) (fun i σ Hc=>∃zs:Zs,(∃a b c e,σ=[some (.ref p),some (.int n),some (.ref Pr),a,b,c,e])/\az p H Hc/\bp Hc p/\Hc Pr=some (.lst (zr zs))/\PO Hc zs/\cT n (dB (zp zs))/\∀u∈zp zs,u.1<u.2) ⟨A0,⟨_,_,_,_,rfl⟩,s1.trans s2,kJ,s2 _ _ hP1 OP,po1.p9 s2 jN,F1,Yl⟩ ?_ ?_⟩⟩
  .rintro i σ Hc hi ⟨zs,⟨x3,x4,x5,x6,rfl⟩,sc,iM,ON,po,Fi,yj⟩;refine⟨_,rfl,_,rfl,p,n,rfl,by lia,by lia,iM,fun d1 H3 h3 s3 mv=>⟨_,rfl,_,rfl,p,n,rfl,by lia,by lia,mv,fun d2 H4 h4 s4 nA=>⟨by show 2<=sizeLine;decide,fun L hL=>⟨L,[(d1:Int),(d2:Int)],rfl,aZ.of ae,by show 2<64;decide,fun S OS hS pm so=>?_⟩⟩⟩⟩;obtain⟨x,y,rfl,xy,hx,hy⟩:=OV pm so;obtain⟨a,b,rfl,rfl,han,Tj⟩:∃a b:Nat,x=(a:Int)/\y=(b:Int)/\a<n/\b<n:=⟨x.toNat,y.toNat,by lia,by lia,by lia,by lia⟩
   have sL:=aj (o:=.lst [.int (d1:Int),.int (d2:Int)]) hL;have sS:=aj (o:=.lst ([(a:Int),(b:Int)].map V.int)) hS;refine⟨S,_,_,rfl,aZ.of ae,_,_,rfl,_,_,rfl,rfl,?_⟩;have s5:az p H _:=((sc.trans s3).trans s4).trans (az.of (sL.trans sS));have sB:=nA.same (sL.trans sS);have Te:=sS _ _ (sL _ _ (s4 _ _ (s3 _ _ ON OP) OP));have Cz:=((po.p9 s3 iM).p9 s4 mv).same (sL.trans sS);generalize upd (upd H4 L _) S _=H5 at *;have VR:zs.length<=256:=by have:=Fi.len;rw[iL,bH] at this;lia
   refine⟨_,rfl,_,rfl,by show 2<=sizeLine;decide,fun T hT=>⟨T,rfl,⟨_,bv.of ae⟩,fun D1 pY=>?_⟩⟩;have sT:=aj (o:=.tup [.int (a:Int),.int (b:Int)]) hT;have gT:(upd H5 T (.tup [.int (a:Int),.int (b:Int)])) T=some (.tup [.int (a:Int),.int (b:Int)]):=ae;have VT:=sT _ _ Te;have EH:=Cz.same sT;have s6:az p H _:=s5.trans (az.of sT);have Gg:=sB.same sT;generalize upd H5 T _=H6 at *;refine He (xs:=[.int (a:Int),.int (b:Int)]) (fun i ys σ H7=>(∃x,σ=[x,some (.ref Pr)])/\aE H6 H7/\H7 D1=some (.lst ys)/\ys=(([a,b].take i).map fun (h:Nat)=>((gU (dB (zp zs)) (ci h):Nat):Int)).map V.int) ⟨⟨_,rfl⟩,aj pY,ae,rfl⟩ (fun i ys σ H7 _ z=>bv.of (z.2.1 _ _ gT)) ?_ ?_
   .rintro j v ys σ H7 Kt Kf hv ⟨⟨x',rfl⟩,IY,QK,rfl⟩ kt kf;obtain⟨h,hh,rfl⟩:∃h:Nat,[a,b][j]?=some h/\v=.int (h:Int):=by
     match j,hv with
     |0,hv=>exact⟨a,rfl,by simpa using hv.symm⟩
     |1,hv=>exact⟨b,rfl,by simpa using hv.symm⟩
    have hj:j<2:=(cK.mp hh).1;have Tk:=IY _ _ VT;refine⟨_,rfl,Pr,rfl,⟨_,aZ.of Tk⟩,fun D2 iz=>?_⟩;refine KI (fun u=>decide (u.1=ci h)||decide (u.2=ci h)) (fun σ=>∃a,σ=[a,some (.int (h:Int))]) Tk iz (by lia) ⟨_,rfl⟩ ?_ ?_
    .rintro z σ H8 Kt' Kf' hz ⟨a',rfl⟩ QL kt' kf';have hz8:=QL _ _ ((EH.same IY) z hz);refine⟨_,rfl,_,rfl,z.1,_,rfl,.inr (bv.of hz8),rfl,rfl,_,rfl,?_⟩;have e:=KJ (x:=ci h) (u:=z.2);refine eU (fun c=>?_) (fun c=>?_)
     .exact⟨_,rfl,kt' _ _ ⟨_,rfl⟩ (aE.refl _) (e ▸ c)⟩
     .exact kf' _ _ ⟨_,rfl⟩ (aE.refl _) (by rw[<-e];simpa using c)
    .intro H8 QL Tl;have eL:(zr (zs.filter fun z=>decide (z.2.1=ci h)||decide (z.2.2=ci h))).length=((zp zs).filter fun u=>decide (u.1=ci h)||decide (u.2=ci h)).length:=tW (c:=fun u=>decide (u.1=ci h)||decide (u.2=ci h));have eD:=uN (ps:=zp zs) (h:=ci h) fun u hu=>by have:=yj u hu;lia
     refine⟨D2,_,rfl,.inl (aZ.of Tl),kt _ _ _ (QL _ _ QK) ?_ ⟨⟨_,rfl⟩,bw (IY.trans QL) pY,ae,?_⟩⟩
     .rw[aP,aP];exact fz (zq _ _) (cQ (show j<3 by lia) (by decide))
     .rw[fW,hh,zA,dg,dg,eL,eD];rfl
   .rintro ys σ H7 ⟨_,IY,QK,rfl⟩;have Ym:H7 D1=some (.lst ([((gU (dB (zp zs)) (ci a):Nat):Int),((gU (dB (zp zs)) (ci b):Nat):Int)].map V.int)):=QK;refine⟨D1,_,rfl,aZ.of Ym,by simp,fun M hM oN=>⟨_,_,rfl,rfl,?_⟩⟩;have s7:az p H H7:=s6.trans (az.of IY);have IZ:=Gg.same IY;have Tk:=IY _ _ VT;have KM:=EH.same IY;have da:=oN _ (by simp:((gU (dB (zp zs)) (ci a):Nat):Int)∈_);have db:=oN ((gU (dB (zp zs)) (ci b):Nat):Int) (by simp);refine⟨_,rfl,_,rfl,rfl,_,rfl,?_⟩;by_cases pS:a=b
    .refine ir (by subst pS;simp) (cD ?_);exact⟨zs,⟨_,_,_,_,rfl⟩,s7,IZ,Tk,KM,Fi,yj⟩
    refine gL (by simp;lia) ⟨_,rfl,_,rfl,by show 2<=sizeLine;decide,fun t ht=>?_⟩;have st:=aj (o:=tS ((a:Int),(b:Int))) ht;have QM:=st _ _ Tk;have OX:=KM.same st;obtain⟨l1,l2⟩:=ML (K:=K) OX;refine⟨_,rfl,t,Pr,((a:Int),(b:Int)),zs.map (fun z:Addr×Int×Int=>z.1),zp zs,rfl,rfl,bv.of ae,by rw[<-nk];exact aZ.of QM,by rw[aP];exact l1,l2,_,rfl,?_⟩;have s8:az p H _:=s7.trans (az.of st);have EI:=IZ.same st;generalize upd H7 t _=H8 at *;by_cases pR:((a:Int),(b:Int))∈zp zs
    .refine ir (by simp[pR]) (cD ?_);exact⟨zs,⟨_,_,_,_,rfl⟩,s8,EI,QM,OX,Fi,yj⟩
    refine gL (by simp[pR]) ⟨_,rfl,_,rfl,?_⟩;by_cases MN:(7:Int)<M
    .refine ir (by simp[MN]) ?_;exact⟨zs,⟨_,_,_,_,rfl⟩,s8,EI,QM,OX,Fi,yj⟩
    .refine gL (by simp[MN]) ?_;refine⟨_,rfl,.inl ⟨rfl,_,aZ.of QM⟩,_,rfl,_,rfl,by show 2<=sizeLine;decide,fun t2 MP=>?_⟩;have tG:=aj (o:=tS ((a:Int),(b:Int))) MP;refine⟨Pr,_,_,rfl,rfl,tG _ _ QM,by rw[dF];exact fz VR (by decide),zs++[(t2,((a:Int),(b:Int)))],⟨_,_,_,_,rfl⟩,fun c o e m=>?_,?_,?_,?_,?_,?_⟩
     .rw[am (ao e MJ)];exact tG _ _ (s8 _ _ e m)
     .exact(EI.same tG).put OP.symm
     .rw[ae,eN];rfl
     .exact PO.putL (xs:=zr zs) ((OX.same tG).append (PO.one ae)) (tG _ _ QM)
     .rw[eQ];refine Fi.pair han Tj pS pR (fun z=>?_) (by lia) (by lia);have:=yj _ z;simp at this;lia
     .intro u hu;rw[eQ] at hu;rcases bS.mp hu with z|z
      .exact yj u z
      .rw[cC.mp z];show (a:Int)<(b:Int);lia
  .rintro σ Hc ⟨zs,⟨x3,x4,x5,x6,rfl⟩,sc,iM,ON,po,Fi,yj⟩;exact⟨_,rfl,q Pr zs Hc sc iM MJ ON po Fi yj⟩
end
end nN
namespace ix
def Tn(m:Nat)(ns:List Nat)(i:Nat):List (Nat×Nat):=(List.range i).flatMap fun j=>xi m (pr (ns.take j)) (ns.getD j 0)
theorem gx{α:Type}{f:Nat->List α}{n:Nat}:(List.range (n+1)).flatMap f=(List.range n).flatMap f++f n:=by
 rw[jH,List.flatMap_append];simp
theorem wA:∀ {ns:List Nat} {x:Nat},pr (ns++[x])=pr ns*x
 |[],x=>by show x*1=1*x;lia
 |n::ns,x=>by show n*pr (ns++[x])=n*pr ns*x;rw[wA,Nat.mul_assoc]
theorem Hg{m:Nat}:∀ {ns:List Nat} {st:Nat},bx m st ns=(List.range ns.length).flatMap fun j=>xi m (st*pr (ns.take j)) (ns.getD j 0)
 |[],st=>rfl
 |n::ns,st=>by
  show xi m st n++bx m (st*n) ns=_;rw[dz,nU,List.flatMap_cons,Hg (ns:=ns)];congr 1
  .show xi m st n=xi m (st*1) n;rw[vA]
  .rw[List.flatMap_map];congr 1;funext j;show _=xi m (st*(n*pr (ns.take j))) (ns.getD j 0);rw[Nat.mul_assoc]
theorem kC{α:Type}{g:Nat->List α}{M:Nat}(hg:∀x,(g x).length<=M):∀ {m:Nat},((List.range m).flatMap g).length<=m*M
 |0=>cM _
 |m+1=>by rw[gx,cf,vt];have:=hg m;have:=kC hg (m:=m);lia
theorem CA{m st n:Nat}:(xi m st n).length<=m:=by unfold xi;rw[aP];exact bC (iE _ _) (by simp)
def yA(b at_ h:Nat):List (Nat×Nat):=(List.range (b-h / b ^ at_ % b-1)).map fun k=>(h,h+(k+1)*b ^ at_)
theorem sD{b at_ h:Nat}(hb:b<=5):(yA b at_ h).length<=5:=by unfold yA;rw[aP,b8];lia
end ix
namespace nN
open PySem L2 ix
abbrev OY:Stmt:=iy 45
abbrev Bd:Stmt:=iy 46
def Hh(ns:List Nat):Prop:=1<=ns.length/\ns.length<=5/\(∀x∈ns,2<=x/\x<=8)/\pr ns<=32
theorem kO:(["_law_house","_law_stride","_law_side"]:List Str).Nodup:=by decide +kernel
theorem kP:(["_law_more","_law_house","_law_stride"]:List Str).Nodup:=by decide +kernel
theorem jB:∀ {ns:List Nat} {i:Nat},(∀x∈ns,1<=x)->pr (ns.take i)<=pr ns
 |[],i,_=>by rw[List.take_nil];exact bt _
 |n::ns,0,h=>by
  show 1<=n*pr ns;have:∀ {l:List Nat},(∀x∈l,1<=x)->1<=pr l:=fun {l}=>by
   induction l with
   |nil=>intro _;exact bt _
   |cons x l ih=>intro hl;exact rk (hl x bW) (ih fun y hy=>hl y (cX _ hy))
  exact this (l:=n::ns) h
 |n::ns,i+1,h=>by
  show n*pr (ns.take i)<=n*pr ns;exact u5 n (jB fun x hx=>h x (cX _ hx))
theorem D9{lo:Int}{n:Nat}{D:Addr}{g:TG}{tt:TT}{te:TE}{dG:Hp->Prop}{σB:St}{H0:Hp}(c:Nat->Bool)(F:Nat->Int×Int)(bA:St->Prop)(hD:H0 D=none)(hn:n<=1000)(h0:bA σB)(hs:∀i σ H (R:V->St->Hp->Prop) (Kf:St->Hp->Prop),i<n->bA σ->aE H0 H->(∀σ2 p,bA σ2->H p=none->c i=true->R (.ref p) σ2 (upd H p (tS (F i))))->(∀σ2,bA σ2->c i=false->Kf σ2 H)->g (.int (lo+i)) σ H fun σ2 H2=>tt σ2 H2 fun b H3=>if b=true then te σ2 H3 fun v H4=>R v σ2 H4 else Kf σ2 H3)(hd:∀zs H,aE H0 H->H D=some (.lst (zr zs))->PO H zs->zp zs=((List.range n).filter c).map F->dG H):gI (Ez lo n) g tt te D dG σB (upd H0 D (.lst [])):=by
 refine fk (fun i ys σ H=>bA σ/\aE H0 H/\H D=some (.lst ys)/\∃zs:Zs,ys=zr zs/\PO H zs/\zp zs=((List.range i).filter c).map F) ⟨h0,aj hD,ae,[],rfl,PO.nil,rfl⟩ ?_ ?_
 .rintro i ys σ H Kt Kf hi ⟨sh,sm,eX,zs,rfl,po,ep⟩ kt kf;have hl:zs.length<=i:=by
   rw[<-bH,ep,aP];exact bC (iE _ _) (by rw[b8];exact bt _)
  refine hs i σ H Kt Kf hi sh sm (fun σ2 p pc hp e=>?_) (fun σ2 pc e=>?_)
  .have nD:D≠p:=ao eX hp;refine kt _ _ _ (by rw[am nD];exact eX) (by rw[dF];exact fz (show zs.length<=1000 by lia) (by decide)) ⟨pc,bw (sm.trans (aj hp)) hD,ae,zs++[(p,F i)],?_,?_,?_⟩
   .rw[eN];rfl
   .refine PO.putL (xs:=zr zs) ?_ (by rw[am nD];exact eX);exact(po.putN hp).append (PO.one ae)
   .rw[eQ,ep,jH,gZ,dg];simp[dX,e,zp]
  .refine kf _ _ ⟨pc,sm,eX,zs,rfl,po,?_⟩;rw[ep,jH,gZ];simp[dX,e]
 .rintro ys σ H ⟨_,sm,eX,zs,rfl,po,ep⟩;exact hd zs H sm eX po ep
theorem p_.ext{H H2 H3:Hp}{D:Addr}{ts us:Ts}{pX zs:Zs}(hD:H D=none)(sm:aE H H2)(h1:H2 D=some (.lst (zr pX)))(D7:PO H2 pX)(ez:zp pX=ts)(s3:aE H2 H3)(po:PO H3 zs)(e:zp zs=us):p_ H D (ts++us) (upd H3 D (.lst (zr pX++zr zs))):=
 ⟨bw (sm.trans s3) hD,pX++zs,by rw[ae,eN],PO.putL (xs:=zr pX) ((D7.same s3).append po) (s3 _ _ h1),by rw[eQ,ez,e]⟩
section
variable {P:Program} {w:World} {K:PySem.W.Frag} {mg:Str->Option Value} {base:Heap}
theorem qa:aS ["_law_sides","_law_many","_law_side","_law_pairs","_law_stride"] ["_law_sides"] (av OY):=cZ (by decide +kernel)
def MQ(H:Hp)(m:Nat)(ts:Ts)(Q:V->Hp->Prop):Prop:=∀ (t r:Addr) (zs:Zs) (H':Hp),aE H H'->H t=none->H r=none->H' t=some (.tup [.int m,.ref r])->H' r=some (.lst (zr zs))->PO H' zs->zp zs=ts->Q (.ref t) H'
def Hi:Sp:=fun vs H Q _=>∃ (a:Addr) (ns:List Nat),vs=[.ref a]/\H a=some (.tup (NV ns))/\Hh ns/\MQ H (pr ns) ((l9 ns).map iu) Q
theorem OZ{f:Addr}{fd:FuncData}(F:gv K "_law_box" "_law_box" OY f fd)(B:Bl mg):bL P w K mg base bu 1 f fd ["_law_sides"] Hi:=by
 refine F.ok qa (fun vs H Q E h=>?_) (fun dW A outer s H vs Q E hr h=>?_)
 .obtain⟨a,ns,rfl,_⟩:=h;rfl
 .obtain⟨a,ns,rfl,ha,⟨ZU,hl,hn,hm⟩,k⟩:=h;refine'⟨_,(ai (aJ (i:=1) qa.nd rfl aM au)
   (ai (cq dh rfl (vD (pv 0)) (aw (i:=2) qa.nd rfl bU)
    (ak (aJ (i:=1) qa.nd rfl aM (bj jt (pv 1) (pv 2)))))
   (ai (aJ (i:=3) qa.nd rfl aM (bZ af))
   (ai (aJ (i:=4) qa.nd rfl bU au)
   (ai (cq dh rfl (vD (pv 0)) (aw (i:=2) qa.nd rfl bU)
    (ai (cU (gG fV y4 y3 oM (pv 3) (aa ?c1 af)))
    (ak (aJ (i:=4) qa.nd rfl bU (bj jt (pv 4) (pv 2))))))
   (ak (aK (bf (aa (pv 1) (aa (pv 3) af)))))))))),?_⟩
  case c1=>
   refine' cA (g:=(bE 0)) (tt:=(i6 (gE (vF fun i j=>.bl (decide (i<j))) (gE (rI (fun _ j=>0<j) fun i j=>.int (i % j)) (gE (rI Nt fun i j=>.int (i / j)) (aW 0) (aW 1)) (aW 2)) (gE (vF fun i j=>.int (i-j)) (aW 2) (tC (.int 1)))))) (te:=(jv (aV (aW 0) (aV (gE (vF fun i j=>.int (i+j)) (aW 0) (aW 1)) cY)))) (NB:=["_law_house","_law_stride","_law_side"]) (src:=[none,some 4,some 2]) (bN (by kernel_rfl)) rfl (bi rfl B.range (aa (pv 1) af)) ?g ?t ?e;case g=>exact fun cl C s₃ H₃ fp=>(aw (i:=0) kO rfl aM bU)
   case t=>exact fun cl C s₃ H₃ fp=>fK (aI kn (bj ik (bj vG (pv 0) (pv 1)) (pv 2)) (bj oE (pv 2) au) (aN _))
   case e=>exact fun cl C s₃ H₃ fp=>(bf (aa (pv 0) (aa (bj dv (pv 0) (pv 1)) af)))
  have Yn:∀x∈ns,1<=x:=fun x hx=>by have:=hn x hx;lia
  refine⟨_,rfl,a,rfl,⟨_,bv.of ha⟩,vE (K:=K) (xs:=NV ns) (fun i σ H2=>H2=H/\∃x2,σ=[some (.ref a),some (.int ((pr (ns.take i):Nat):Int)),x2,none,none]) ⟨rfl,_,rfl⟩ (fun i σ H2 _ z=>by rw[z.1];exact bv.of ha) ?_ ?_⟩
  .rintro i x σ H2 hx ⟨rfl,x2,rfl⟩;obtain⟨n,hv,rfl⟩:=sk hx;have hnn:=hn n (df hv);have km:=jB (ns:=ns) (i:=i) Yn;have tk:ns.take (i+1)=ns.take i++[n]:=by rw[fW,hv];rfl
   rw[tk,wA];exact⟨_,rfl,_,rfl,_,_,rfl,rfl,.inr ⟨by lia,by lia⟩,rfl,_,rfl⟩
  rintro σ H2 ⟨rfl,x2,rfl⟩;rw[aR,iF];refine⟨by show 0<=sizeLine;decide,fun D hD=>?_⟩;have s0:=aj (o:=.lst []) hD;refine⟨_,rfl,a,rfl,⟨_,bv.of (s0 _ _ ha)⟩,vE (K:=K) (xs:=NV ns) (fun i σ Hc=>(∃x2,σ=[some (.ref a),some (.int ((pr ns:Nat):Int)),x2,some (.ref D),some (.int ((pr (ns.take i):Nat):Int))])/\p_ H2 D ((Tn (pr ns) ns i).map iu) Hc) ⟨⟨_,rfl⟩,s0,[],ae,PO.nil,rfl⟩ (fun i σ Hc _ z=>bv.of (z.2.1 _ _ ha)) ?_ ?_⟩
  .rintro i x σ Hc hx ⟨⟨x3,rfl⟩,sm,pX,iz,D7,Hj⟩;obtain⟨n,hv,rfl⟩:=sk hx;have hi:i<ns.length:=(cK.mp hv).1;have hnn:=hn n (df hv);have km:=jB (ns:=ns) (i:=i) Yn;have aai:1<=pr (ns.take i):=jB (ns:=ns.take i) (i:=0) fun x hx=>Yn x (lm hx);have gd:ns.getD i 0=n:=by rw[aY,hv];rfl
   have tk:ns.take (i+1)=ns.take i++[n]:=by rw[fW,hv];rfl
   rw[tk,wA];have eB:Tn (pr ns) ns (i+1)=Tn (pr ns) ns i++xi (pr ns) (pr (ns.take i)) n:=by unfold Tn;rw[gx,gd]
   have zl:pX.length<=160:=by
    rw[<-bH,Hj,aP];exact bC (kC (M:=32) fun j=>bC CA hm) (by lia)
   rw[eB,dg];generalize pr (ns.take i)=st at *;refine⟨_,rfl,.inl ⟨rfl,_,aZ.of iz⟩,_,rfl,((pr ns:Nat):Int),rfl,by lia,by lia,fun L hL=>?_⟩;refine D9 (lo:=0) (n:=pr ns) (fun h=>decide (h / st % n+1<n)) (fun h=>iu (h,h+st)) (fun σ=>∃x,σ=[x,some (.int (st:Int)),some (.int (n:Int))]) hL (by lia) ⟨_,rfl⟩ ?_ ?_
   .rintro j σ H4 R Kf hj ⟨x,rfl⟩ tj kt kf;have Yo:((0:Int)+(j:Int)) / (st:Int) % (n:Int)=(((j / st % n:Nat)):Int):=by rw[d9];rfl
    refine⟨_,rfl,_,rfl,_,_,rfl,rfl,⟨by lia,by lia⟩,_,rfl,_,_,rfl,rfl,(by show (0:Int)<(n:Int);lia),_,rfl,_,_,rfl,rfl,_,_,rfl,rfl,_,rfl,?_⟩;rw[Yo];refine eU (fun c=>?_) (fun c=>?_)
    .have c:=cW c;refine⟨_,rfl,_,rfl,_,rfl,_,_,rfl,rfl,by show 2<=sizeLine;decide,fun t ht=>?_⟩;rw[d9];exact kt _ _ ⟨_,rfl⟩ ht (cL (by lia))
    .exact kf _ ⟨_,rfl⟩ (dO fun z=>c (cL (by lia)))
   .intro zs H4 s4 Yp Yq VU;have e4:zp zs=(xi (pr ns) st n).map iu:=by rw[VU];unfold xi;rw[di];rfl
    have l4:zs.length<=32:=by rw[<-bH,e4,aP];exact bC CA hm
    refine⟨D,L,_,_,rfl,rfl,s4 _ _ iz,Yp,by rw[dF,dF];exact bC (show _<=192 by lia) (by decide),?_⟩;exact⟨_,rfl,_,rfl,_,_,rfl,rfl,.inr ⟨by lia,by lia⟩,⟨_,rfl⟩,p_.ext hD sm iz D7 Hj s4 Yq e4⟩
  .rintro σ Hc ⟨⟨x3,rfl⟩,sm,pX,iz,D7,Hj⟩;refine⟨_,rfl,_,rfl,by show 2<=sizeLine;decide,fun t ht=>?_⟩;have st:=aj (o:=.tup [.int ((pr ns:Nat):Int),.ref D]) ht;refine k t D pX _ (sm.trans st) (sm.free ht) hD ae (st _ _ iz) (D7.same st) ?_;rw[Hj,aR];unfold l9 Tn;rw[Hg];simp only[Nat.one_mul]
theorem gy:aS ["_law_figures","_law_base","_law_many","_law_k","_law_pairs","_law_stride","_law_house","_law_figure"] ["_law_figures","_law_base"] (av Bd):=cZ (by decide +kernel)
def wB:Sp:=fun vs H Q _=>∃f b:Nat,vs=[.int f,.int b]/\1<=f/\f<=5/\2<=b/\b<=5/\b ^ f<=32/\MQ H (b ^ f) ((sf f b).map iu) Q
theorem Hk{f:Addr}{fd:FuncData}(F:gv K "_law_words" "_law_words" Bd f fd)(B:Bl mg):bL P w K mg base bu 1 f fd ["_law_figures","_law_base"] wB:=by
 refine F.ok gy (fun vs H Q E h=>?_) (fun dW A outer s H vs Q E hr h=>?_)
 .obtain⟨f,b,rfl,_⟩:=h;rfl
 .obtain⟨f,b,rfl,f1,f2,b1,b2,hm,k⟩:=h;refine'⟨_,(ai (aJ (i:=2) gy.nd rfl aM au)
   (ai (cq dh rfl (bi rfl B.range (aa (pv 0) af)) (aw (i:=3) gy.nd rfl aM)
    (ak (aJ (i:=2) gy.nd rfl aM (bj jt (pv 2) (pv 1)))))
   (ai (aJ (i:=4) gy.nd rfl aM (bZ af))
   (ai (aJ (i:=5) gy.nd rfl bU au)
   (ai (cq dh rfl (bi rfl B.range (aa (pv 0) af)) (aw (i:=3) gy.nd rfl aM)
    (ai (cq dh rfl (bi rfl B.range (aa (pv 2) af)) (aw (i:=6) gy.nd rfl bU)
     (ai (aJ (i:=7) gy.nd rfl aM (bj ik (bj vG (pv 6) (pv 5)) (pv 1)))
     (ak (cU (gG fV y4 y3 oM (pv 4) (aa ?c1 af))))))
    (ak (aJ (i:=5) gy.nd rfl bU (bj jt (pv 5) (pv 1))))))
   (ak (aK (bf (aa (pv 2) (aa (pv 4) af)))))))))),?_⟩
  case c1=>
   refine' cA (g:=(bE 0)) (te:=(jv (aV (aW 1) (aV (gE (vF fun i j=>.int (i+j)) (aW 1) (gE (rI Jh fun i j=>.int (i*j)) (aW 0) (aW 2))) cY)))) (NB:=["_law_more","_law_house","_law_stride"]) (src:=[none,some 6,some 5]) (bN (by kernel_rfl)) rfl (oC rfl B.range (aa au (aa (bj oE (pv 1) (pv 7)) af))) ?g ?t ?e;case g=>exact fun cl C s₃ H₃ fp=>(aw (i:=0) kP rfl aM bU)
   case t=>exact fun cl C s₃ H₃ fp=>cy
   case e=>exact fun cl C s₃ H₃ fp=>(bf (aa (pv 1) (aa (bj dv (pv 1) (bj jt (pv 0) (pv 2))) af)))
  have hpw:∀i,i<=f->b ^ i<=32:=fun i hi=>bC (Nat.pow_le_pow_right (by lia) hi) hm;refine⟨_,rfl,(f:Int),rfl,by lia,by lia,ce (n:=f) (lo:=0) (fun i σ H2=>H2=H/\∃x3,σ=[some (.int f),some (.int b),some (.int ((b ^ i:Nat):Int)),x3,none,none,none,none]) ⟨rfl,_,rfl⟩ ?_ ?_⟩
  .rintro i σ H2 hi ⟨rfl,x3,rfl⟩;have hbi:=hpw i (by lia);refine⟨_,rfl,_,rfl,_,_,rfl,rfl,.inr ⟨by lia,by lia⟩,rfl,some (.int (0+(i:Int))),?_⟩;rw[Nat.pow_succ];rfl
  rintro σ H2 ⟨rfl,x3,rfl⟩;refine⟨by show 0<=sizeLine;decide,fun D hD=>?_⟩;refine⟨_,rfl,(f:Int),rfl,by lia,by lia,ce (n:=f) (lo:=0) (fun i σ Hc=>(∃x3 x6 x7,σ=[some (.int f),some (.int b),some (.int ((b ^ f:Nat):Int)),x3,some (.ref D),some (.int ((b ^ i:Nat):Int)),x6,x7])/\p_ H2 D (((List.range i).flatMap fun at_=>(List.range (b ^ f)).flatMap (yA b at_)).map iu) Hc) ⟨⟨_,_,_,rfl⟩,aj hD,[],ae,PO.nil,rfl⟩ ?_ ?_⟩
  .rintro i σ Hc hi ⟨⟨x3,x6,x7,rfl⟩,Pi⟩;have hbi:=hpw i (by lia);have hbp:0<b ^ i:=Nat.pow_pos (by lia);refine⟨_,rfl,((b ^ f:Nat):Int),rfl,by lia,by lia,ce (n:=b ^ f) (lo:=0) (fun j σ H4=>(∃x3 x6 x7,σ=[some (.int f),some (.int b),some (.int ((b ^ f:Nat):Int)),x3,some (.ref D),some (.int ((b ^ i:Nat):Int)),x6,x7])/\p_ H2 D ((((List.range i).flatMap fun at_=>(List.range (b ^ f)).flatMap (yA b at_))++(List.range j).flatMap (yA b i)).map iu) H4) ⟨⟨_,_,_,rfl⟩,by simpa using Pi⟩ ?_ ?_⟩
   .rintro j σ H4 hj ⟨⟨x3,x6,x7,rfl⟩,tj,zs4,Yr,Yq,VU⟩;have Yo:((0:Int)+(j:Int)) / ((b ^ i:Nat):Int) % (b:Int)=((j / b ^ i % b:Nat):Int):=by rw[d9];rfl
    have eZ:j / b ^ i % b<b:=iQ _ (by lia);refine⟨_,rfl,_,rfl,_,_,rfl,rfl,⟨by lia,by lia⟩,_,rfl,_,_,rfl,rfl,(by show (0:Int)<(b:Int);lia),?_⟩;change bE 7 (V.int (((0:Int)+(j:Int)) / ((b ^ i:Nat):Int) % (b:Int))) _ _ _;rw[Yo];refine⟨_,rfl,.inl ⟨rfl,_,aZ.of Yr⟩,_,rfl,_,rfl,_,_,rfl,rfl,1,_,rfl,⟨by lia,by lia,by lia,by lia⟩,fun L hL=>?_⟩;have hn:((b:Int)-((j / b ^ i % b:Nat):Int)-1).toNat=b-j / b ^ i % b-1:=by lia
    rw[hn];have zl:zs4.length<=1000:=by
     have e:=congrArg List.length VU;rw[bH,aP,cf] at e;have z3:∀at_,((List.range (b ^ f)).flatMap (yA b at_)).length<=160:=fun at_=>bC (kC fun x=>sD b2) (by lia);have z4:=kC (m:=i) z3;have z5:=kC (m:=j) fun x=>sD (at_:=i) (h:=x) b2;lia
    refine nn (lo:=1) (fun c=>iu (j,j+(c+1)*b ^ i)) (fun σ=>∃x,σ=[x,some (.int (j:Int)),some (.int ((b ^ i:Nat):Int))]) hL (by lia) ⟨_,by rw[d9];rfl⟩ ?_ ?_
    .rintro c σ H5 R Kf hc ⟨x,rfl⟩ tm kt;have hq:(1+(c:Int))*((b ^ i:Nat):Int)=(((c+1)*b ^ i:Nat):Int):=by rw[Int.add_comm];exact(Int.natCast_mul _ _).symm
     refine⟨_,rfl,_,rfl,_,rfl,_,rfl,_,_,rfl,rfl,.inr ⟨by lia,by lia⟩,_,_,rfl,rfl,by show 2<=sizeLine;decide,fun t ht=>?_⟩;rw[hq];exact kt _ _ ⟨_,rfl⟩ ht
    .intro zs H5 s5 hL5 Cz VV _;have e5:zp zs=(yA b i j).map iu:=by rw[VV];unfold yA;rw[di];rfl
     have l5:zs.length<=5:=by rw[<-bH,e5,aP];exact sD b2
     refine⟨D,L,_,_,rfl,rfl,s5 _ _ Yr,hL5,by rw[dF,dF];exact bC (show _<=1005 by lia) (by decide),⟨_,_,_,rfl⟩,?_⟩;rw[gx,<-dw,dg];exact p_.ext hD tj Yr Yq VU s5 Cz e5
   .rintro σ H4 ⟨⟨x3,x6,x7,rfl⟩,P4⟩;refine⟨_,rfl,_,rfl,_,_,rfl,rfl,.inr ⟨by lia,by lia⟩,⟨x3,x6,x7,?_⟩,?_⟩
    .rw[Nat.pow_succ];rfl
    .rw[gx];exact P4
  .rintro σ Hc ⟨⟨x3,x6,x7,rfl⟩,sm,pX,iz,D7,Hj⟩;refine⟨_,rfl,_,rfl,by show 2<=sizeLine;decide,fun t ht=>?_⟩;have st:=aj (o:=.tup [.int ((b ^ f:Nat):Int),.ref D]) ht;exact k t D pX _ (sm.trans st) (sm.free ht) hD ae (st _ _ iz) (D7.same st) Hj
end
abbrev O0:Stmt:=iy 47
theorem nB:(["_law_k","_law_order_here","_law_n"]:List Str).Nodup:=by decide +kernel
theorem D_:(["_law_k","_law_some"]:List Str).Nodup:=by decide +kernel
theorem Hl:(["_law_tie"]:List Str).Nodup:=by decide +kernel
theorem tX:(["_law_one","_law_begins"]:List Str).Nodup:=by decide +kernel
theorem yB:(["_law_tie","_law_ties"]:List Str).Nodup:=by decide +kernel
theorem sG{xs:List V}{k:Nat}:mL xs none (some (k:Int))=xs.take k:=by
 have h1:HT.eJ xs.length 0 none=0:=rfl;have h2:HT.eJ xs.length xs.length (some (k:Int))=min k xs.length:=by
  unfold HT.eJ;simp;try lia
 unfold mL;rw[h1,h2,zW,Nat.sub_zero,List.take_eq_take_iff];simp;try lia
theorem nC{xs:List V}{k:Nat}:mL xs (some (k:Int)) none=xs.drop k:=by
 have h1:HT.eJ xs.length 0 (some (k:Int))=min k xs.length:=by
  unfold HT.eJ;simp;try lia
 have h2:HT.eJ xs.length xs.length none=xs.length:=rfl;unfold mL;rw[h1,h2];by_cases c:k<=xs.length
 .rw[zS c];exact qP (by rw[lI];exact bt _)
 .rw[Nat.min_eq_right (by lia),List.drop_of_length_le (bt _),List.drop_of_length_le (by lia),List.take_nil]
theorem wC{β:Type}{K:PySem.W.Frag}{a D:Addr}{g:TG}{tt:TT}{te:TE}{dG:Hp->Prop}{σB:St}{H0:Hp}(ms:List β)(e G:β->V)(bA:St->Prop)(ha:H0 a=some (.lst (ms.map e)))(hD:H0 D=none)(hn:ms.length<=1000)(h0:bA σB)(hs:∀m σ H (R:V->St->Hp->Prop) (Kf:St->Hp->Prop),m∈ms->bA σ->aE H0 H->(∀σ2 H2,bA σ2->aE H H2->R (G m) σ2 H2)->
   g (e m) σ H fun σ2 H2=>tt σ2 H2 fun b H3=>if b=true then te σ2 H3 fun v H4=>R v σ2 H4 else Kf σ2 H3)(hd:∀H,aE H0 H->H D=some (.lst (ms.map G))->dG H):gI (Ey K a) g tt te D dG σB (upd H0 D (.lst [])):=by
 refine dE (xs:=ms.map e) (fun i ys σ H=>bA σ/\aE H0 H/\H D=some (.lst ys)/\ys=(ms.take i).map G) ⟨h0,aj hD,ae,rfl⟩ (fun i ys σ H _ z=>aZ.of (z.2.1 _ _ ha)) ?_ ?_
 .rintro i x ys σ H Kt Kf hx ⟨sh,sm,eX,rfl⟩ kt kf;rw[cm] at hx;cases hz:ms[i]? with
  |none=>rw[hz] at hx;cases hx
  |some m=>
   rw[hz] at hx;obtain rfl:e m=x:=bP hx;refine hs m σ H Kt Kf (df hz) sh sm (fun σ2 H2 pc s2=>?_);refine kt _ _ _ (s2 _ _ eX) ?_ ⟨pc,bw (sm.trans s2) hD,ae,?_⟩
   .rw[aP];exact fz (mB _ _) (fz hn (by decide))
   .rw[fW,hz,zA,dg];rfl
 .rintro ys σ H ⟨_,sm,eX,rfl⟩;rw[aP,iF] at eX;exact hd H sm eX
theorem uO{h:Int}:∀ {ts:Ts},((ts.map fun u=>V.int u.1).countP fun z=>jL z (.int h))=gU ts h
 |[]=>rfl
 |u::ts=>by
  rw[fu,j6,uO,show u::ts=[u]++ts from rfl,wu];have e:jL (.int u.1) (.int h)=decide (u.1=h):=by rw[jJ];simp[jL]
  rw[e];unfold gU;by_cases c:u.1=h <;> simp[c] <;> lia
section
variable {P:Program} {w:World} {K:PySem.W.Frag} {mg:Str->Option Value} {base:Heap}
theorem qb:aS ["_law_pot_here","_law_n","_law_order_here","_law_ties","_law_turn","_law_some","_law_more","_law_begins"] ["_law_pot_here","_law_n"] (av O0):=cZ (by decide +kernel)
def Hm:Sp:=fun vs H Q _=>∃ (p:Addr) (n:Nat),vs=[.ref p,.int n]/\2<=n/\n<=32/\bp H p/\∀ (r:Addr) (zs:Zs) (H':Hp),az p H H'->bp H' p->H r=none->H' r=some (.lst (zr zs))->PO H' zs->cT n (zp zs)->Q (.ref r) H'
theorem O1{f:Addr}{fd:FuncData}(F:gv K "_law_one_way" "_law_one_way" O0 f fd)(B:Bl mg)(D:cE P w K mg base bu 1 "_law_take" ["_law_pot_here","_law_many"] eW)(OR:cE P w K mg base bu 2 "_law_order" ["_law_pot_here","_law_many"] ny):bL P w K mg base bu 3 f fd ["_law_pot_here","_law_n"] Hm:=by
 refine F.ok qb (fun vs H Q E h=>?_) (fun dW A outer s H vs Q E hr h=>?_)
 .obtain⟨p,n,rfl,_⟩:=h;rfl
 .obtain⟨p,n,rfl,n1,n2,hp,q⟩:=h;have h1:cx 1 _:=hr.mono (by decide);refine'⟨_,(ai (aJ (i:=2) qb.nd rfl bU (aG OR hr aL (aa (pv 0) (aa (pv 1) af))))
   (ai (aJ (i:=3) qb.nd rfl bU ?c1)
   (ai (cq dh rfl (bi rfl B.range (aa (aG D h1 aL (aa (pv 0) (aa au af))) af)) (aw (i:=4) qb.nd rfl aM)
    (ai (aJ (i:=5) qb.nd rfl bU (i8 BS (aG OR hr aL (aa (pv 0) (aa (pv 1) af))) kX (kY (bj dv au (aG D h1 aL (aa (pv 0) (aa (aB (ud rfl) (by rfl) B.min PyProof.Rows.boot_min (aa au (aa (bj oE (pv 1) au) af))) af)))))))
    (ai (cS (i:=6) (g:=(bE 0)) (te:=(jv (aV (gE (oJ K) (aW 1) (aW 0)) (aV (gE (oJ K) (aW 1) (gE (rI (fun _ j=>0<j) fun i j=>.int (i % j)) (gE (vF fun i j=>.int (i+j)) (aW 0) (tC (.int 1))) (Da (fun xs H Q=>∃p ys,xs=[V.ref p]/\(aZ K H p ys\/bv K H p ys)/\Q (.int ys.length) H) (aV (aW 1) cY)))) cY)))) (NB:=["_law_k","_law_some"]) (src:=[none,some 5]) (bN (by kernel_rfl)) rfl (bi rfl B.range (aa (aB aF (by rfl) B.len cn (aa (pv 5) af)) af)) ?g2 ?t2 ?e2 qb.nd rfl rfl rfl)
    (ai (aJ (i:=7) qb.nd rfl bU ?c3)
    (ak (br (PW.pt (fJ (cR (aB (uC rfl) (by rfl) B.all PyProof.Rows.boot_all (aa ?c5 af))) (fG (aI kn (aB (uL rfl) (by rfl) B.max qQ (aa ?c4 af)) au (aN _))))) (ak (aJ (i:=3) qb.nd rfl bU (bj NN (pv 3) (pv 6)))) aQ))))))
   (ak (aK (pv 3)))))),?_⟩
  case c1=>
   refine' cA (g:=(bE 0)) (te:=(jv (aV (gE (oJ K) (aW 1) (aW 0)) (aV (gE (oJ K) (aW 1) (gE (rI (fun _ j=>0<j) fun i j=>.int (i % j)) (gE (vF fun i j=>.int (i+j)) (aW 0) (tC (.int 1))) (aW 2))) cY)))) (NB:=["_law_k","_law_order_here","_law_n"]) (src:=[none,some 2,some 1]) (bN (by kernel_rfl)) rfl (bi rfl B.range (aa (pv 1) af)) ?g ?t ?e;case g=>exact fun cl C s₃ H₃ fp=>(aw (i:=0) nB rfl aM bU)
   case t=>exact fun cl C s₃ H₃ fp=>cy
   case e=>exact fun cl C s₃ H₃ fp=>(bf (aa (aT aO (pv 1) (pv 0) (fun _ _=>rfl)) (aa (aT aO (pv 1) (bj ik (bj dv (pv 0) au) (pv 2)) (fun _ _=>rfl)) af)))
  case g2=>exact fun cl C s₃ H₃ fp=>(aw (i:=0) D_ rfl aM bU)
  case t2=>exact fun cl C s₃ H₃ fp=>cy
  case e2=>exact fun cl C s₃ H₃ fp=>(bf (aa (aT aO (pv 1) (pv 0) (fun _ _=>rfl)) (aa (aT aO (pv 1) (bj ik (bj dv (pv 0) au) (aB aF (by rfl) B.len cn (aa (pv 1) af))) (fun _ _=>rfl)) af)))
  case c3=>
   refine' cA (g:=(bE 0)) (te:=(gE (xz K) (aW 0) (tC (.int 0)))) (NB:=["_law_tie"]) (src:=[none]) (bN (by kernel_rfl)) rfl (b9 (pv 3)) ?g ?t ?e;case g=>exact fun cl C s₃ H₃ fp=>(aw (i:=0) Hl rfl aM bU)
   case t=>exact fun cl C s₃ H₃ fp=>cy
   case e=>exact fun cl C s₃ H₃ fp=>(aT cg (pv 0) au (fun _ _=>rfl))
  case c4=>
   refine' cA (g:=(bE 0)) (te:=(WK K "list" Gb (aW 1) (aV (aW 0) cY))) (NB:=["_law_one","_law_begins"]) (src:=[none,some 7]) (bN (by kernel_rfl)) rfl (b9 (pv 5)) ?g ?t ?e;case g=>exact fun cl C s₃ H₃ fp=>(aw (i:=0) tX rfl aM bU)
   case t=>exact fun cl C s₃ H₃ fp=>cy
   case e=>exact fun cl C s₃ H₃ fp=>(gG fV PySem.F.slot_list_count PySem.F.type_list_count Gc (pv 1) (aa (pv 0) af))
  case c5=>
   refine' cA (g:=(bE 0)) (te:=(gE (SJ K true) (aW 0) (aW 1))) (NB:=["_law_tie","_law_ties"]) (src:=[none,some 3]) (bN (by kernel_rfl)) rfl (b9 (pv 6)) ?g ?t ?e;case g=>exact fun cl C s₃ H₃ fp=>(aw (i:=0) yB rfl aM bU)
   case t=>exact fun cl C s₃ H₃ fp=>cy
   case e=>exact fun cl C s₃ H₃ fp=>(iG (uH hr.u) (pv 0) (pv 1) rfl)
  refine⟨_,rfl,_,rfl,p,n,rfl,n2,hp,fun O xs H1 s1 jN hO hO1 pm=>?_⟩;have xl:xs.length=n:=by have:=pm.length_eq;rwa [b8] at this
  refine⟨_,rfl,(n:Int),rfl,by lia,by lia,fun T0 QJ=>?_⟩;refine nn (lo:=0) (n:=n) (fun k=>(ci (xs.getD k 0),ci (xs.getD ((k+1) % xs.length) 0))) (fun σ=>∃x,σ=[x,some (.ref O),some (.int n)]) QJ (by lia) ⟨_,rfl⟩ ?_ ?_
  .rintro k σ H2 R Kf hk ⟨x,rfl⟩ DX kt;have e1:(0:Int)+(k:Int)=((k:Nat):Int):=d9 _;have e2:(((k:Nat):Int)+1) % (n:Int)=(((k+1) % n:Nat):Int):=by lia
   have JV:(k+1) % n<n:=iQ _ (by lia);have hO2:=DX _ _ hO1;rw[e1];rw[xl] at kt;refine⟨_,rfl,_,rfl,O,_,_,_,rfl,rfl,aZ.of hO2,aA (f_ (by lia)),_,rfl,_,rfl,_,_,rfl,rfl,_,rfl,_,_,rfl,rfl,(by show (0:Int)<(n:Int);lia),O,_,_,_,rfl,rfl,aZ.of hO2,by rw[e2];exact aA (f_ (by lia)),by show 2<=sizeLine;decide,fun t ht=>?_⟩;exact kt _ _ ⟨_,rfl⟩ ht
  intro A0 H2 s2 hT2 D7 Hj _;have F2:cT n (zp A0):=by
   rw[Hj];refine(uK n1 n2 pm).perm ?_;have:=pi (xs:=xs);unfold D6 at this;rw[xl] at this |-;exact this
  have To:H T0=none:=pJ fun z=>by
   cases e:H T0 with
   |none=>exact z e
   |some o=>
    by_cases c:T0=p
    .subst c;obtain⟨x,y,e',_⟩:=jN;rw[QJ] at e';cases e'
    .rw[s1 _ _ e c] at QJ;cases QJ
  have kJ:=jN.same s2;refine⟨_,rfl,p,6,rfl,by decide,by decide,kJ,fun d H3 hd s3 mv=>⟨(d:Int),rfl,by lia,by lia,ce (n:=d) (lo:=0) (fun i σ Hc=>∃ (T:Addr) (zs:Zs),(∃a b c e,σ=[some (.ref p),some (.int n),some (.ref O),some (.ref T),a,b,c,e])/\az p H Hc/\bp Hc p/\H T=none/\Hc T=some (.lst (zr zs))/\PO Hc zs/\cT n (zp zs)) ⟨T0,A0,⟨_,_,_,_,rfl⟩,(s1.trans (az.of s2)).trans s3,mv,To,s3 _ _ hT2 (hp.ne To),D7.p9 s3 kJ,F2⟩ ?_ ?_⟩⟩
  .rintro i σ Hc hi ⟨T,zs,⟨x4,x5,x6,x7,rfl⟩,sc,iM,hT,Ys,po,Fi⟩;have nTp:T≠p:=hp.ne hT;have VR:zs.length<=256:=by have:=Fi.len;rwa [bH] at this
   refine⟨_,rfl,_,rfl,p,n,rfl,n2,iM,fun L ys H4 s4 nA hL Yp Yt=>?_⟩;have yl:ys.length=n:=by have:=Yt.length_eq;rwa [b8] at this
   have nLp:L≠p:=iM.ne hL;have em:(if (n:Int)-1<5 then (n:Int)-1 else 5)=((min 5 (n-1):Nat):Int):=by split <;> lia
   refine⟨_,rfl,_,rfl,_,_,rfl,rfl,5,_,rfl,p,min 5 (n-1),by rw[em];rfl,by lia,by lia,nA,fun d2 H5 VQ s5 sB=>?_⟩;have aaj:d2<5/\d2<n-1:=by lia
   have e3:(2:Int)+(d2:Int)=((2+d2:Nat):Int):=by lia
   refine⟨_,_,rfl,rfl,_,rfl,L,_,rfl,aZ.of (s5 _ _ Yp nLp),fun S hS=>?_⟩;rw[e3,sG,<-List.map_take];have sS:=aj (o:=.lst (NV (ys.take (2+d2)))) hS;have QN:(upd H5 S (.lst (NV (ys.take (2+d2))))) S=some (.lst (NV (ys.take (2+d2)))):=ae;have s6:az p H _:=((sc.trans s4).trans s5).trans (az.of sS);have Gg:=sB.same sS;have hT6:=sS _ _ (s5 _ _ (s4 _ _ Ys nTp) nTp);have EH:=((po.p9 s4 iM).p9 s5 nA).same sS;have cnd:(ys.take (2+d2)).Nodup:=(Yt.nodup_iff.mpr ln).sublist (u_ _ _);have clt:∀x∈ys.take (2+d2),x<n:=fun x hx=>bQ.mp (Yt.mem_iff.mp (lm hx));have cl:(ys.take (2+d2)).length=2+d2:=by rw[lq];lia
   generalize ys.take (2+d2)=cs at *;generalize upd H5 S _=H6 at *;refine⟨_,rfl,S,_,rfl,.inl (aZ.of QN),(((NV cs).length:Nat):Int),rfl,by lia,by rw[aR];lia,fun M hM=>?_⟩;rw[i3,aR];refine nn (lo:=0) (n:=cs.length) (fun k=>(ci (cs.getD k 0),ci (cs.getD ((k+1) % cs.length) 0))) (fun σ=>∃x,σ=[x,some (.ref S)]) hM (by lia) ⟨_,rfl⟩ ?_ ?_
   .rintro k σ H7 R Kf hk ⟨x,rfl⟩ IY kt;have e1:(0:Int)+(k:Int)=((k:Nat):Int):=d9 _;have e2:(((k:Nat):Int)+1) % (((NV cs).length:Nat):Int)=(((k+1) % cs.length:Nat):Int):=by rw[aR];lia
    have JV:(k+1) % cs.length<cs.length:=iQ _ (by lia);have Hn:=IY _ _ QN;rw[e1];refine⟨_,rfl,_,rfl,S,_,_,_,rfl,rfl,aZ.of Hn,aA (f_ (by lia)),_,rfl,_,rfl,_,_,rfl,rfl,_,rfl,S,_,rfl,.inl (aZ.of Hn),_,_,rfl,rfl,(by show (0:Int)<(((NV cs).length:Nat):Int);rw[aR];lia),S,_,_,_,rfl,rfl,aZ.of Hn,by rw[e2];exact aA (f_ (by lia)),by show 2<=sizeLine;decide,fun t ht=>?_⟩;exact kt _ _ ⟨_,rfl⟩ ht
   intro ms H7 s7 O2 poM ezM _;have ecy:zp ms=D6 cs:=ezM;have ml:ms.length=cs.length:=by rw[<-bH,ezM,aP,b8]
   have Yu:=s7 _ _ hT6;have KM:=EH.same s7;have Hn:=s7 _ _ QN;refine⟨_,rfl,T,rfl,⟨_,aZ.of Yu⟩,fun Bg hB=>?_⟩;refine wC zs (fun z=>V.ref z.1) (fun z=>V.int z.2.1) (fun σ=>∃x,σ=[x]) Yu hB (by lia) ⟨_,rfl⟩ ?_ ?_
   .rintro z σ H8 R Kf hz ⟨x,rfl⟩ QL kt;exact⟨_,rfl,z.1,_,0,_,rfl,rfl,bv.of (QL _ _ (KM z hz)),rfl,kt _ _ ⟨_,rfl⟩ (aE.refl _)⟩
   intro H8 s8 hB8;have hT8:=s8 _ _ Yu;have Yv:=s8 _ _ O2;have VW:=s8 _ _ Hn;have OX:=KM.same s8;have Tp:=poM.same s8;have VX:az p H H8:=(s6.trans (az.of s7)).trans (az.of s8);have EI:=(Gg.same s7).same s8;refine⟨_,rfl,M,rfl,⟨_,aZ.of Yv⟩,fun Al hAl=>?_⟩;refine wC ms (fun z=>V.ref z.1) (fun z=>V.bl (!decide (z.2∈zp zs))) (fun σ=>∃x,σ=[x,some (.ref T)]) Yv hAl (by lia) ⟨_,rfl⟩ ?_ ?_
   .rintro z σ H9 R Kf hz ⟨x,rfl⟩ Yw kt;obtain⟨l1,l2⟩:=ML (K:=K) (OX.same Yw);exact⟨_,rfl,_,rfl,z.1,T,z.2,zs.map (fun z:Addr×Int×Int=>z.1),zp zs,rfl,rfl,bv.of (Yw _ _ (Tp z hz)),by rw[<-nk];exact aZ.of (Yw _ _ hT8),by rw[aP];exact l1,l2,kt _ _ ⟨_,rfl⟩ (aE.refl _)⟩
   intro H9 s9 hA9;have Yx:H9 Al=some (.lst ((ms.map fun z=>!decide (z.2∈zp zs)).map V.bl)):=by rw[hA9,di];rfl
   refine⟨Al,_,rfl,aZ.of Yx,_,rfl,?_⟩;have hT9:=s9 _ _ hT8;have po9:=OX.same s9;have QO:az p H H9:=VX.trans (az.of s9);have I0:=EI.same s9;refine eU (fun c1=>?_) (fun c1=>?_)
   .have hS9:=s9 _ _ VW;have hB9:=s9 _ _ hB8;refine⟨_,rfl,S,rfl,⟨_,aZ.of hS9⟩,fun Ct hC=>?_⟩;refine wC cs (fun (x:Nat)=>V.int (x:Int)) (fun (x:Nat)=>V.int ((gU (zp zs) (ci x):Nat):Int)) (fun σ=>∃x,σ=[x,some (.ref Bg)]) hS9 hC (by lia) ⟨_,rfl⟩ ?_ ?_
    .rintro x σ Yy R Kf hx ⟨x',rfl⟩ Yz kt;have Tq:=Yz _ _ hB9;refine⟨_,rfl,.inl ⟨rfl,_,aZ.of Tq⟩,_,rfl,Bg,_,_,rfl,rfl,Tq,rfl,?_,?_⟩
     .rw[vx];exact g8.mpr fun z _=>rfl
     .have e:=uO (ts:=zp zs) (h:=ci x);unfold zp at e;rw[di] at e;have e':(zs.map fun z=>V.int z.2.1).countP (fun z=>jL z (.int (ci x)))=gU (zp zs) (ci x):=e;rw[show V.int (x:Int)=V.int (ci x) from rfl,e'];exact kt _ _ ⟨_,rfl⟩ (aE.refl _)
    intro Yy MR YA;have Tt:Yy Ct=some (.lst ((cs.map fun (x:Nat)=>((gU (zp zs) (ci x):Nat):Int)).map V.int)):=by rw[YA,di];rfl
    refine⟨Ct,_,rfl,aZ.of Tt,fun z=>?_,fun Mx hMx oN=>⟨_,_,rfl,rfl,_,rfl,?_⟩⟩
    .have:=congrArg List.length z;rw[aP,cl] at this;simp at this
    have O4:az p H Yy:=QO.trans (az.of MR);have O5:=I0.same MR;have Tu:=MR _ _ hT9;have Tv:=po9.same MR;refine eU (fun c2=>?_) (fun c2=>?_)
    .have YB:=MR _ _ (s9 _ _ Yv);refine⟨_,rfl,_,rfl,T,M,_,_,rfl,rfl,Tu,YB,by rw[dF,dF];exact bC (show _<=300 by lia) (by decide),fun N hN=>?_⟩;have sN:=aj (o:=.lst (zr zs++zr ms)) hN;have hNH:H N=none:=pJ fun z=>by
      cases e:H N with
      |none=>exact z e
      |some o=>
       by_cases c:N=p
       .subst c;obtain⟨x,y,e',_⟩:=O5;rw[hN] at e';cases e'
       .rw[O4 _ _ e c] at hN;cases hN
     refine⟨N,zs++ms,⟨_,_,_,_,rfl⟩,O4.trans (az.of sN),O5.same sN,hNH,by rw[ae,eN],(Tv.append ((Tp.same s9).same MR)).same sN,?_⟩;rw[eQ,ecy];refine Fi.round cnd clt (by lia) (fun x hx=>?_) (fun t ht=>?_)
     .have h7:((gU (zp zs) (ci x):Nat):Int)<=Mx:=oN _ (bz.mpr ⟨x,hx,rfl⟩);have h8:Mx<8:=cW c2;lia
     .rw[<-ecy] at ht;obtain⟨z,hz,rfl⟩:=bz.mp ht;have:=g8.mp c1 _ (bz.mpr ⟨z,hz,rfl⟩);simpa using this
    .exact⟨T,zs,⟨_,_,_,_,rfl⟩,O4,O5,hT,Tu,Tv,Fi⟩
   .refine cD ?_;exact⟨T,zs,⟨_,_,_,_,rfl⟩,QO,I0,hT,hT9,po9,Fi⟩
  .rintro σ Hc ⟨T,zs,⟨x4,x5,x6,x7,rfl⟩,sc,iM,hT,Ys,po,Fi⟩;exact⟨_,rfl,q T zs Hc sc iM hT Ys po Fi⟩
end
end nN
namespace L2
open PySem PySem.Spec PyProof.Rows
def CC:List Nat->TA
 |[]=>cY
 |n::ns=>aV (tC (.int (n:Nat))) (CC ns)
def Ho:List (List Nat)->TA
 |[]=>cY
 |c::cs=>aV (jv (CC c)) (Ho cs)
def YC:Expr->Option Nat
 |.Constant (.int (.ofNat n)) _ _=>some n
 |_=>none
def KN:List Expr->Option (List Nat)
 |[]=>some []
 |e::es=>(YC e).bind fun n=>(KN es).map (n::·)
def Hq:List Expr->Option (List (List Nat))
 |[]=>some []
 |.Tuple es _ _::r=>(KN es).bind fun c=>(Hq r).map (c::·)
 |_=>none
theorem O6{e:Expr}{n:Nat}(h:YC e=some n):∃j pos,e=.Constant (.int (n:Nat)) j pos:=by
 unfold YC at h;split at h
 .cases h;exact⟨_,_,rfl⟩
 .cases h
theorem CD{X:Cx}:∀ {es:List Expr} {ns:List Nat},KN es=some ns->PA X es (CC ns)
 |[],ns,h=>by cases h;exact af
 |e::es,ns,h=>by
  unfold KN at h;obtain⟨n,h1,h2⟩:=zc.mp h;obtain⟨ms,h3,rfl⟩:=uV.mp h2;obtain⟨j,pos,rfl⟩:=O6 h1;exact aa au (CD h3)
theorem wD{X:Cx}:∀ {es:List Expr} {cs:List (List Nat)},Hq es=some cs->PA X es (Ho cs)
 |[],cs,h=>by cases h;exact af
 |e::r,cs,h=>by
  unfold Hq at h;split at h
  .cases h;contradiction
  .rename_i es _ _ r' e';cases e';obtain⟨n,h1,h2⟩:=zc.mp h;obtain⟨ms,h3,rfl⟩:=uV.mp h2;exact aa (bf (CD h1)) (wD h3)
  .cases h
end L2
namespace nN
open PySem L2 ix
abbrev Hr:Stmt:=iy 48
theorem qo:(["_law_k","_law_order_here"]:List Str).Nodup:=by decide +kernel
theorem KO{xs:List Nat}{k:Nat}(h:k<xs.length):Fp (NV xs) ((k:Int)-1)=some (.int ((xs.getD (ix.pk xs.length k) 0:Nat):Int)):=by
 unfold ix.pk;by_cases k0:k=0
 .subst k0;rw[ap rfl];have e:NV xs=NV (xs.take (xs.length-1))++[.int ((xs.getD (xs.length-1) 0:Nat):Int)]:=by
   rw[nu];congr 1;conv=>lhs;rw[<-pK (xs.length-1) xs]
   rw[nQ (by lia),List.drop_eq_nil_of_le (by lia),d5 (by lia)]
  rw[e];exact Fq _ _
 .rw[aq k0,show (k:Int)-1=((k-1:Nat):Int) by lia];exact aA (by rw[d5 (by lia)];exact Ol (by lia))
theorem Ht:∀ {ns:List Nat} {σ:St} {H:Hp} {Q:List V->Hp->Prop},Q (NV ns) H->CC ns σ H Q
 |[],σ,H,Q,h=>h
 |n::ns,σ,H,Q,h=>Ht (ns:=ns) (Q:=fun xs H2=>Q (.int (n:Nat)::xs) H2) h
theorem Be:∀ {cs:List (List Nat)} {σ:St} {H:Hp} {Q:List V->Hp->Prop},(∀c∈cs,c.length<=5)->(∀ (as:List Addr) (H':Hp),aE H H'->as.length=cs.length->(∀i,i<cs.length->H' (as.getD i 0)=some (.tup (NV (cs.getD i []))))->Q (as.map V.ref) H')->Ho cs σ H Q
 |[],σ,H,Q,_,h=>h [] H (aE.refl _) rfl fun i hi=>nomatch hi
 |c::cs,σ,H,Q,hc,h=>by
  refine Ht (ns:=c) ⟨?_,fun t ht=>?_⟩
  .rw[aR];exact bC (hc c bW) (by decide)
  refine Be (cs:=cs) (fun c xn=>hc c (cX _ xn)) fun as H' s l e=>?_;refine h (t::as) H' ((aj ht).trans s) (congrArg (·+1) l) fun i hi=>?_;cases i with
  |zero=>exact s _ _ ae
  |succ i=>exact e i (Nat.lt_of_succ_lt_succ hi)
section
variable {P:Program} {w:World} {K:PySem.W.Frag} {mg:Str->Option Value} {base:Heap}
theorem kQ:aS ["_law_pot_here","_law_way","_law_n","_law_order_here","_law_sides","_law_pairs","_law_figures","_law_base"] ["_law_pot_here"] (av Hr):=cZ (by decide +kernel)
def Hu(p:Addr)(H:Hp)(Q:V->Hp->Prop):Prop:=∀ (t r:Addr) (n:Nat) (zs:Zs) (H':Hp),az p H H'->bp H' p->H t=none->H' t=some (.tup [.int n,.ref r])->H r=none->H' r=some (.lst (zr zs))->PO H' zs->cT n (zp zs)->Q (.ref t) H'
def Hv:Sp:=fun vs H Q _=>∃ (p:Addr),vs=[.ref p]/\bp H p/\Hu p H Q
theorem Hu.go{p r t:Addr}{H H2:Hp}{Q:V->Hp->Prop}{n:Nat}{zs:Zs}(k:Hu p H Q)(s:az p H H2)(hp:bp H2 p)(hr:H r=none)(wE:H2 r=some (.lst (zr zs)))(po:PO H2 zs)(F:cT n (zp zs))(ht:H2 t=none):Q (.ref t) (upd H2 t (.tup [.int n,.ref r])):=
 k t r n zs _ (s.trans (az.of (aj ht))) (hp.same (aj ht)) (s.free hp.full ht) ae hr (aj ht _ _ wE) (po.putN ht) F
abbrev bd(i:Nat):Stmt:=(bV Hr).getD i (.Pass ⟨0,0,0,0⟩)
def ifT:Stmt->Expr
 |.If c _ _ _=>c
 |_=>.Constant .none 0 ⟨0,0,0,0⟩
def VY(i:Nat):Stmt->Stmt
 |.If _ b _ _=>b.getD i (.Pass ⟨0,0,0,0⟩)
 |_=>.Pass ⟨0,0,0,0⟩
theorem Hw:∃Dk q1 q2 q3 q4 YD a1 a2 k a3 a4 a5 j a6 a7 q5 q6 q7 q8 Tw VZ,bV Hr=[bd 0,bd 1,bd 2,bd 3,.If (ifT (bd 4)) [.Assign [.Name "_law_sides" q1] (.List Dk q2) q3,VY 1 (bd 4),VY 2 (bd 4)] [] q4,
   .If (ifT (bd 5)) [.Assign [.Tuple [.Name "_law_figures" a1,.Name "_law_base" a2] k a3] (.Subscript (.List YD q5) (.Call (.Name "_law_take" a4) [.Name "_law_pot_here" a5,.Constant (.int 9) j a6] [] a7) q6) q7,VY 1 (bd 5),VY 2 (bd 5)] [] q8,bd 6,bd 7]/\Hq Dk=some Tw/\Hq YD=some VZ/\Tw=[[5],[8],[2,2],[3,3],[3,4],[2,3,4],[3,3,3],[2,2,2,2,2],[4,8]]/\VZ=[[1,3],[1,5],[2,2],[2,3],[2,4],[2,5],[3,3],[4,2],[5,2]]:=
 ⟨_,_,_,_,_,_,_,_,_,_,_,_,_,_,_,_,_,_,_,[[5],[8],[2,2],[3,3],[3,4],[2,3,4],[3,3,3],[2,2,2,2,2],[4,8]],[[1,3],[1,5],[2,2],[2,3],[2,4],[2,5],[3,3],[4,2],[5,2]],rfl,by decide +kernel,by decide +kernel,rfl,rfl⟩
theorem O7{f:Addr}{fd:FuncData}(F:gv K "_law_net" "_law_net" Hr f fd)(B:Bl mg)(D:cE P w K mg base bu 1 "_law_take" ["_law_pot_here","_law_many"] eW)(OR:cE P w K mg base bu 2 "_law_order" ["_law_pot_here","_law_many"] ny)(TR:cE P w K mg base bu 2 "_law_tree" ["_law_pot_here","_law_n"] me)(ME:cE P w K mg base bu 3 "_law_mesh" ["_law_pot_here","_law_n"] me)(BO:cE P w K mg base bu 1 "_law_both" ["_law_pairs"] Bb)(BX:cE P w K mg base bu 1 "_law_box" ["_law_sides"] Hi)(WO:cE P w K mg base bu 1 "_law_words" ["_law_figures","_law_base"] wB)(OW:cE P w K mg base bu 3 "_law_one_way" ["_law_pot_here","_law_n"] Hm):bL P w K mg base bu 4 f fd ["_law_pot_here"] Hv:=by
 refine F.ok kQ (fun vs H Q E h=>?_) (fun dW A outer s H vs Q E hr h=>?_)
 .obtain⟨p,rfl,_⟩:=h;rfl
 .obtain⟨p,rfl,hp,q⟩:=h;have h1:cx 1 _:=hr.mono (by decide);have h2:cx 2 _:=hr.mono (by decide);obtain⟨Dk,q1,q2,q3,q4,YD,a1,a2,k,a3,a4,a5,j,a6,a7,q5,q6,q7,q8,Tw,VZ,eb,YE,YF,Tx,Tz⟩:=Hw;rw[eb];refine'⟨_,(ai (aJ (i:=1) kQ.nd rfl aM (aG D h1 aL (aa (pv 0) (aa au af))))
   (ai (aJ (i:=2) kQ.nd rfl aM (bj dv au (aG D h1 aL (aa (pv 0) (aa (aT aO (bZ (aa au (aa au (aa au af)))) (aG D h1 aL (aa (pv 0) (aa au af))) (fun _ _=>rfl)) af)))))
   (ai (br (aI kn (pv 1) au (aN _)) (ak (aK (bf (aa (pv 2) (aa (aG BO h1 aL (aa (aG TR h2 aL (aa (pv 0) (aa (pv 2) af))) af)) af))))) aQ)
   (ai (br (aI dY (pv 1) au (aN _)) (ai (aJ (i:=3) kQ.nd rfl bU (aG OR h2 aL (aa (pv 0) (aa (aB (oG rfl) (by rfl) B.max qQ (aa au (aa (pv 2) af))) af))))
    (ak (aK (bf (aa (aB aF (by rfl) B.len cn (aa (pv 3) af)) (aa (aG BO h1 aL (aa ?c1 af)) af)))))) aQ)
   (ai (br (aI dY (pv 1) au (aN _)) (ai (aJ (i:=4) kQ.nd rfl aM (bZ (wD YE)))
    (ai (dL (aG BX h1 aL (aa (aT aO (pv 4) (aG D h1 aL (aa (pv 0) (aa au af))) (fun _ _=>rfl)) af)) (eT (n:=2) rfl (a_ (aw (i:=2) kQ.nd rfl aM) (a_ (aw (i:=5) kQ.nd rfl aM) dq))))
    (ak (aK (bf (aa (pv 2) (aa (aG BO h1 aL (aa (pv 5) af)) af))))))) aQ)
   (ai (br (aI dY (pv 1) au (aN _)) (ai (dL (aT aO (bZ (wD YF)) (aG D h1 aL (aa (pv 0) (aa au af))) (fun _ _=>rfl)) (eT (n:=2) rfl (a_ (aw (i:=6) kQ.nd rfl aM) (a_ (aw (i:=7) kQ.nd rfl aM) dq))))
    (ai (dL (aG WO h1 aL (aa (pv 6) (aa (pv 7) af))) (eT (n:=2) rfl (a_ (aw (i:=2) kQ.nd rfl aM) (a_ (aw (i:=5) kQ.nd rfl aM) dq))))
    (ak (aK (bf (aa (pv 2) (aa (aG BO h1 aL (aa (pv 5) af)) af))))))) aQ)
   (ai (br (aI dY (pv 1) au (aN _)) (ak (aK (bf (aa (pv 2) (aa (aG BO h1 aL (aa (aG ME hr aL (aa (pv 0) (aa (pv 2) af))) af)) af))))) aQ)
   (ak (aK (bf (aa (pv 2) (aa (aG OW hr aL (aa (pv 0) (aa (pv 2) af))) af)))))))))))),?_⟩
  case c1=>
   refine' cA (g:=(bE 0)) (te:=(jv (aV (gE (oJ K) (aW 1) (aW 0)) (aV (gE (oJ K) (aW 1) (gE (vF fun i j=>.int (i-j)) (aW 0) (tC (.int 1)))) cY)))) (NB:=["_law_k","_law_order_here"]) (src:=[none,some 3]) (bN (by kernel_rfl)) rfl (bi rfl B.range (aa (aB aF (by rfl) B.len cn (aa (pv 3) af)) af)) ?g ?t ?e;case g=>exact fun cl C s₃ H₃ fp=>(aw (i:=0) qo rfl aM bU)
   case t=>exact fun cl C s₃ H₃ fp=>cy
   case e=>exact fun cl C s₃ H₃ fp=>(bf (aa (aT aO (pv 1) (pv 0) (fun _ _=>rfl)) (aa (aT aO (pv 1) (bj oE (pv 0) au) (fun _ _=>rfl)) af)))
  refine⟨_,rfl,p,8,rfl,by decide,by decide,hp,fun wy H1 hw s1 jN=>⟨_,rfl,by show 3<=sizeLine;decide,fun L hL=>⟨_,rfl,p,3,rfl,by decide,by decide,jN.same (aj hL),fun d1 H2 hd1 s2 kJ=>?_⟩⟩⟩;have nL:L≠p:=jN.ne hL;obtain⟨mm,em,mm1,mm2⟩:∃m:Nat,([V.int 3,.int 9,.int 31]:List V)[d1]?=some (.int m)/\0<m/\m<=31:=by
   match d1,hd1 with
   |0,_=>exact⟨3,rfl,by decide,by decide⟩
   |1,_=>exact⟨9,rfl,by decide,by decide⟩
   |2,_=>exact⟨31,rfl,by decide,by decide⟩
  refine⟨L,_,_,_,rfl,rfl,aZ.of (s2 _ _ ae nL),aA em,p,mm,rfl,mm1,by lia,kJ,fun d2 H3 VQ s3 mv=>?_⟩;have e2:(2:Int)+(d2:Int)=((2+d2:Nat):Int):=by lia
  refine⟨_,_,rfl,rfl,?_⟩;change bE 2 (V.int ((2:Int)+(d2:Int))) _ _ _;rw[e2];have n1:2<=2+d2:=by lia
  have n2:2+d2<=32:=by lia
  generalize 2+d2=n at *;have sH:az p H H3:=((s1.trans (az.of (aj hL))).trans s2).trans s3;clear s1 s2 s3 jN kJ hL nL;refine⟨_,rfl,_,_,rfl,rfl,_,rfl,eU (fun c=>?_) (fun c0=>?_)⟩
  .refine⟨_,rfl,_,rfl,_,rfl,p,n,rfl,n1,n2,mv,fun r zs H4 s4 nA Kw wF po F4 _=>?_⟩;have zl:zs.length<=256:=by have:=F4.len;rw[iL,bH] at this;lia
   refine⟨r,zs,rfl,wF,po,by lia,fun r2 pX H5 s5 IT O8 Cz e5=>⟨by show 2<=sizeLine;decide,fun t ht=>?_⟩⟩;exact q.go ((sH.trans s4).trans (az.of s5)) (nA.same s5) ((sH.trans s4).free nA.full IT) O8 Cz (by rw[e5];exact F4) ht
  refine⟨_,rfl,rfl,_,rfl,eU (fun c=>?_) (fun c1=>?_)⟩
  .have em:(if (3:Int)<(n:Int) then (n:Int) else 3)=((max 3 n:Nat):Int):=by split <;> lia
   refine⟨_,rfl,_,rfl,3,_,rfl,p,max 3 n,by rw[em];rfl,by lia,mv,fun O xs H4 s4 nA hO YG pm=>?_⟩;have m1:3<=max 3 n:=by lia
   have m2:max 3 n<=32:=by lia
   generalize max 3 n=m at *;have xl:xs.length=m:=by have:=pm.length_eq;rwa [b8] at this
   refine⟨_,rfl,O,_,rfl,.inl (aZ.of YG),_,rfl,O,_,rfl,.inl (aZ.of YG),(((NV xs).length:Nat):Int),rfl,by lia,by rw[aR];lia,fun R hR=>?_⟩;rw[i3,aR];refine nn (lo:=0) (n:=xs.length) (fun k=>o9 (ci (xs.getD (pk xs.length k) 0),ci (xs.getD k 0))) (fun σ=>∃x,σ=[x,some (.ref O)]) hR (by lia) ⟨_,rfl⟩ ?_ ?_
   .rintro k σ H5 R' Kf hk ⟨x,rfl⟩ tm kt;have hO5:=tm _ _ YG;rw[d9];refine⟨_,rfl,_,rfl,O,_,_,_,rfl,rfl,aZ.of hO5,aA (f_ hk),_,rfl,_,rfl,_,_,rfl,rfl,O,_,_,_,rfl,rfl,aZ.of hO5,KO hk,by show 2<=sizeLine;decide,fun t ht=>?_⟩;exact kt _ _ ⟨_,rfl⟩ ht
   intro zs H5 s5 J2 Cz VV _;have ez:zp zs=(r0 xs).map o9:=by rw[VV];unfold r0;rw[di];rfl
   have zl:zs.length<=32:=by rw[<-bH,VV,aP,b8];lia
   refine⟨R,zs,rfl,J2,Cz,by lia,fun r2 pX H6 s6 OE Hx EH e6=>⟨by show 2<=sizeLine;decide,fun t ht=>?_⟩⟩;rw[xl];refine q.go ((sH.trans s4).trans (az.of (s5.trans s6))) ((nA.same s5).same s6) ((sH.trans s4).free nA.full (s5.free OE)) Hx EH ?_ ht;rw[e6,ez];exact(yw m1 m2 pm).perm yx
  refine⟨_,rfl,rfl,_,rfl,eU (fun c=>?_) (fun c2=>?_)⟩
  .refine Be (cs:=Tw) (by rw[Tx];decide) fun as H4 s4 la ea=>⟨?_,fun S hS=>?_⟩
   .rw[aP,la,Tx];show 9<=sizeLine;decide
   have sS:=aj (o:=.lst (as.map V.ref)) hS;refine⟨_,rfl,_,rfl,p,9,rfl,by decide,by decide,(mv.same s4).same sS,fun d H5 hd s5 sB=>?_⟩;have YH:as[d]?=some (as.getD d 0):=by rw[aY,bB (by rw[la,Tx];exact hd)];rfl
   have nS:S≠p:=(mv.same s4).ne hS;have ga:=ea d (by rw[Tx];exact hd);have TC:=s5 _ _ (sS _ _ ga) ((mv.same s4).neT ga);have sd:∀d,d<9->Hh (([[5],[8],[2,2],[3,3],[3,4],[2,3,4],[3,3,3],[2,2,2,2,2],[4,8]]:List (List Nat)).getD d []):=by unfold Hh;decide
   have sd:=sd d hd;rw[<-Tx] at sd;refine⟨S,_,_,_,rfl,rfl,aZ.of (s5 _ _ ae nS),aA (by rw[cm,YH];rfl),_,_,rfl,TC,sd,fun t r zs H6 s6 ht OE YI Hx EH e6=>?_⟩;refine⟨t,_,rfl,bv.of YI,rfl,_,_,rfl,_,_,rfl,rfl,?_⟩;generalize yP:List.getD Tw d []=ns at sd TC e6;clear ga ea;have Fb:=Gy (fun x hx=>(sd.2.2.1 x hx).1) (by rintro rfl;exact absurd sd.1 (by decide)) sd.2.2.2;have zl:zs.length<=256:=by have:=Fb.len;rw[<-e6,iL,bH] at this;lia
   refine⟨_,rfl,_,rfl,r,zs,rfl,Hx,EH,by lia,fun r2 pX H7 s7 Tc O9 KM e7=>⟨by show 2<=sizeLine;decide,fun t ht=>?_⟩⟩;refine q.go ((((sH.trans (az.of (s4.trans sS))).trans s5)).trans (az.of (s6.trans s7))) ((sB.same s6).same s7) (((sH.trans (az.of (s4.trans sS))).trans s5).free sB.full (s6.free Tc)) O9 KM ?_ ht;rw[e7,e6];exact Fb
  refine⟨_,rfl,rfl,_,rfl,eU (fun c=>?_) (fun c3=>?_)⟩
  .refine Be (cs:=VZ) (by rw[Tz];decide) fun as H4 s4 la ea=>⟨?_,fun S hS=>?_⟩
   .rw[aP,la,Tz];show 9<=sizeLine;decide
   have sS:=aj (o:=.lst (as.map V.ref)) hS;refine⟨_,rfl,p,9,rfl,by decide,by decide,(mv.same s4).same sS,fun d H5 hd s5 sB=>?_⟩;have YH:as[d]?=some (as.getD d 0):=by rw[aY,bB (by rw[la,Tz];exact hd)];rfl
   have nS:S≠p:=(mv.same s4).ne hS;have ga:=ea d (by rw[Tz];exact hd);have TC:=s5 _ _ (sS _ _ ga) ((mv.same s4).neT ga);have sd:∀d,d<9->∃f b:Nat,([[1,3],[1,5],[2,2],[2,3],[2,4],[2,5],[3,3],[4,2],[5,2]]:List (List Nat)).getD d []=[f,b]/\1<=f/\f<=5/\2<=b/\b<=5/\b ^ f<=32:=fun d hd=>
    ⟨(([[1,3],[1,5],[2,2],[2,3],[2,4],[2,5],[3,3],[4,2],[5,2]]:List (List Nat)).getD d []).getD 0 0,(([[1,3],[1,5],[2,2],[2,3],[2,4],[2,5],[3,3],[4,2],[5,2]]:List (List Nat)).getD d []).getD 1 0,by revert d;decide⟩
   obtain⟨fg,b,es,f1,f2,b1,b2,hm⟩:=sd d hd;rw[Tz,es] at TC;refine⟨S,_,_,_,rfl,rfl,aZ.of (s5 _ _ ae nS),aA (by rw[cm,YH];rfl),_,_,rfl,bv.of TC,rfl,_,_,rfl,_,_,rfl,rfl,?_⟩;refine⟨_,rfl,_,rfl,fg,b,rfl,f1,f2,b1,b2,hm,fun t r zs H6 s6 ht OE YI Hx EH e6=>?_⟩;refine⟨t,_,rfl,bv.of YI,rfl,_,_,rfl,_,_,rfl,rfl,?_⟩;have Fb:=(AV f1 f2 b1 b2 hm).1;have zl:zs.length<=256:=by have:=Fb.len;rw[<-e6,iL,bH] at this;lia
   refine⟨_,rfl,_,rfl,r,zs,rfl,Hx,EH,by lia,fun r2 pX H7 s7 Tc O9 KM e7=>⟨by show 2<=sizeLine;decide,fun t ht=>?_⟩⟩;refine q.go ((((sH.trans (az.of (s4.trans sS))).trans s5)).trans (az.of (s6.trans s7))) ((sB.same s6).same s7) (((sH.trans (az.of (s4.trans sS))).trans s5).free sB.full (s6.free Tc)) O9 KM ?_ ht;rw[e7,e6];exact Fb
  refine⟨_,rfl,rfl,_,rfl,eU (fun c=>?_) (fun c4=>?_)⟩
  .refine⟨_,rfl,_,rfl,_,rfl,p,n,rfl,n1,n2,mv,fun r zs H4 s4 nA Kw wF po F4 _=>?_⟩;have zl:zs.length<=256:=by have:=F4.len;rw[iL,bH] at this;lia
   refine⟨r,zs,rfl,wF,po,by lia,fun r2 pX H5 s5 IT O8 Cz e5=>⟨by show 2<=sizeLine;decide,fun t ht=>?_⟩⟩;exact q.go ((sH.trans s4).trans (az.of s5)) (nA.same s5) ((sH.trans s4).free nA.full IT) O8 Cz (by rw[e5];exact F4) ht
  refine⟨_,rfl,_,rfl,_,rfl,p,n,rfl,n1,n2,mv,fun r zs H4 s4 nA Kw wF po F4=>⟨by show 2<=sizeLine;decide,fun t ht=>?_⟩⟩;exact q.go (sH.trans s4) nA (sH.free mv.full Kw) wF po F4 ht
end
abbrev Bh:Stmt:=iy 49
theorem qp:(["_law_step","_law_house","_law_n"]:List Str).Nodup:=by decide +kernel
theorem kR:(["_law_there","_law_house","_law_known"]:List Str).Nodup:=by decide +kernel
theorem CF{lo:Int}{n:Nat}{D:Addr}{g:TG}{tt:TT}{te:TE}{dG:Hp->Prop}{σB:St}{H0:Hp}(G:Nat->V)(bA:St->Prop)(hD:H0 D=none)(hn:n<=1000)(h0:bA σB)(hs:∀x σ H (R:V->St->Hp->Prop) (Kf:St->Hp->Prop),x<n->bA σ->aE H0 H->(∀σ2 H2,bA σ2->aE H H2->R (G x) σ2 H2)->g (.int (lo+(x:Nat))) σ H fun σ2 H2=>tt σ2 H2 fun b H3=>if b=true then te σ2 H3 fun v H4=>R v σ2 H4 else Kf σ2 H3)(hd:∀H,aE H0 H->H D=some (.lst ((List.range n).map G))->dG H):gI (Ez lo n) g tt te D dG σB (upd H0 D (.lst [])):=by
 refine fk (fun i ys σ H=>bA σ/\aE H0 H/\H D=some (.lst ys)/\ys=(List.range i).map G) ⟨h0,aj hD,ae,rfl⟩ ?_ ?_
 .rintro i ys σ H Kt Kf hi ⟨sh,sm,eX,rfl⟩ kt kf;refine hs i σ H Kt Kf hi sh sm (fun σ2 H2 pc s2=>?_);refine kt _ _ _ (s2 _ _ eX) ?_ ⟨pc,bw (sm.trans s2) hD,ae,by rw[jH,dg];rfl⟩;rw[aP,b8];exact cQ (show i<1000 by lia) (by decide)
 .rintro ys σ H ⟨_,sm,eX,rfl⟩;exact hd H sm eX
theorem KQ{β:Type}{K:PySem.W.Frag}{a D:Addr}{g:TG}{tt:TT}{te:TE}{dG:Hp->Prop}{σB:St}{H0:Hp}(ms:List β)(e:β->V)(c:β->Bool)(bA:St->Prop)(ha:H0 a=some (.lst (ms.map e)))(hD:H0 D=none)(hn:ms.length<=1000)(h0:bA σB)(hs:∀m σ H (Kt:V->St->Hp->Prop) (Kf:St->Hp->Prop),m∈ms->bA σ->aE H0 H->(∀σ2 H2,bA σ2->aE H H2->c m=true->Kt (e m) σ2 H2)->(∀σ2 H2,bA σ2->aE H H2->c m=false->Kf σ2 H2)->
   g (e m) σ H fun σ2 H2=>tt σ2 H2 fun b H3=>if b=true then te σ2 H3 fun v H4=>Kt v σ2 H4 else Kf σ2 H3)(hd:∀H,aE H0 H->H D=some (.lst ((ms.filter c).map e))->dG H):gI (Ey K a) g tt te D dG σB (upd H0 D (.lst [])):=by
 refine dE (xs:=ms.map e) (fun i ys σ H=>bA σ/\aE H0 H/\H D=some (.lst ys)/\ys=((ms.take i).filter c).map e) ⟨h0,aj hD,ae,rfl⟩ (fun i ys σ H _ z=>aZ.of (z.2.1 _ _ ha)) ?_ ?_
 .rintro i x ys σ H Kt Kf hx ⟨sh,sm,eX,rfl⟩ kt kf;rw[cm] at hx;cases hz:ms[i]? with
  |none=>rw[hz] at hx;cases hx
  |some m=>
   rw[hz] at hx;obtain rfl:e m=x:=bP hx;have tk:ms.take (i+1)=ms.take i++[m]:=by rw[fW,hz];rfl
   refine hs m σ H Kt Kf (df hz) sh sm (fun σ2 H2 pc s2 hc=>?_) (fun σ2 H2 pc s2 hc=>?_)
   .refine kt _ _ _ (s2 _ _ eX) ?_ ⟨pc,bw (sm.trans s2) hD,ae,by rw[tk,gZ];simp[dX,hc]⟩;rw[aP];exact fz (bC (iE _ _) (mB _ _)) (fz hn (by decide))
   .exact kf _ _ ⟨pc,sm.trans s2,s2 _ _ eX,by rw[tk,gZ];simp[dX,hc]⟩
 .rintro ys σ H ⟨_,sm,eX,rfl⟩;rw[aP,iF] at eX;exact hd H sm eX
def A9(u:Int×Int):List g9:=[.inl u.1,.inl u.2]
theorem yC{k:List g9}:∀ {ps:List TK} {m:List (List g9×V)},(hU (dt m ps) k).isSome=true↔(hU m k).isSome=true\/k∈ps.map fun p:TK=>p.1
 |[],m=>by unfold dt;simp
 |p::ps,m=>by
  have ih:=yC (k:=k) (ps:=ps) (m:=rQ m p.1 p.2.2);rw[show dt m (p::ps)=dt (rQ m p.1 p.2.2) ps from rfl,ih,F7];by_cases c:k=p.1
  .rw[ap c];simp[c]
  .rw[aq c,fu];simp[c]
theorem KR{u:Int×Int}{ts:Ts}:A9 u∈ts.map A9↔u∈ts:=by
 constructor
 .intro h;obtain⟨v,hv,e⟩:=bz.mp h;unfold A9 at e;injection e with e1 e2;injection e2 with e2 _;rw[show u=v from gm (Sum.inl.inj e1).symm (Sum.inl.inj e2).symm];exact hv
 .exact fun h=>bz.mpr ⟨u,h,rfl⟩
theorem KS{n:Nat}{ts:Ts}(F:cT n ts){h:Nat}(hh:h<n):((List.range (n-1)).map fun s=>(h+(s+1)) % n).filter (fun o=>decide ((ci h,ci o)∈ts))=bn n ts h:=by
 unfold bn;obtain⟨m,rfl⟩:∃m,n=m+1:=⟨n-1,by lia⟩
 have e0:(h+0) % (m+1)=h:=je hh;rw[nU,fu,dX,di,e0];have nt:¬ T ts h h:=fun z=>F.ne _ z rfl;rw[aq (fun z=>nt (cW z)),show m+1-1=m from rfl];exact List.filter_congr fun o _=>lH.mpr Iff.rfl
section
variable {P:Program} {w:World} {K:PySem.W.Frag} {mg:Str->Option Value} {base:Heap}
theorem nE:aS ["_law_n","_law_ties","_law_known","_law_found","_law_house","_law_round_it"] ["_law_n","_law_ties"] (av Bh):=cZ (by decide +kernel)
def wG:Sp:=fun vs H Q _=>∃ (n:Nat) (l:Addr) (zs:Zs),vs=[.int n,.ref l]/\H l=some (.lst (zr zs))/\PO H zs/\cT n (zp zs)/\∀ (r:Addr) (H':Hp),aE H H'->H r=none->bG H' (fun a=>H a=none) r n (bn n (zp zs))->Q (.ref r) H'
theorem Hy{f:Addr}{fd:FuncData}(F:gv K "_law_outs" "_law_outs" Bh f fd)(B:Bl mg)(B2:OK mg):bL P w K mg base bu 1 f fd ["_law_n","_law_ties"] wG:=by
 refine F.ok nE (fun vs H Q E h=>?_) (fun dW A outer s H vs Q E hr h=>?_)
 .obtain⟨n,l,zs,rfl,_⟩:=h;rfl
 .obtain⟨n,l,zs,rfl,hl,po,Fi,q⟩:=h;have n1:=Fi.n1;have n2:=Fi.n2;have zl:zs.length<=256:=by have:=Fi.len;rwa [bH] at this
  refine'⟨_,(ai (aJ (i:=2) nE.nd rfl bU (cG (A_ rfl hr.u) (by rfl) B2.dict PyProof.Rows.boot_dict (aa ?c1 af)))
   (ai (aJ (i:=3) nE.nd rfl aM (bZ af))
   (ai (cq dh rfl (bi rfl B.range (aa (pv 0) af)) (aw (i:=4) nE.nd rfl bU)
    (ai (cS (i:=5) (g:=(bE 0)) (te:=(gE (rI (fun _ j=>0<j) fun i j=>.int (i % j)) (gE (vF fun i j=>.int (i+j)) (aW 1) (aW 0)) (aW 2))) (NB:=["_law_step","_law_house","_law_n"]) (src:=[none,some 4,some 0]) (bN (by kernel_rfl)) rfl (oC rfl B.range (aa au (aa (pv 0) af))) ?g2 ?t2 ?e2 nE.nd rfl rfl rfl)
    (ak (cU (gG fV mz my dS (pv 3) (aa ?c3 af))))))
   (ak (aK (pv 3)))))),?_⟩
  case c1=>
   refine' cA (g:=(bE 0)) (te:=(jv (aV (aW 0) (aV (tC (.bl true)) cY)))) (NB:=["_law_tie"]) (src:=[none]) (bN (by kernel_rfl)) rfl (b9 (pv 1)) ?g ?t ?e;case g=>exact fun cl C s₃ H₃ fp=>(aw (i:=0) Hl rfl aM bU)
   case t=>exact fun cl C s₃ H₃ fp=>cy
   case e=>exact fun cl C s₃ H₃ fp=>(bf (aa (pv 0) (aa mG af)))
  case g2=>exact fun cl C s₃ H₃ fp=>(aw (i:=0) qp rfl aM bU)
  case t2=>exact fun cl C s₃ H₃ fp=>cy
  case e2=>exact fun cl C s₃ H₃ fp=>(bj ik (bj dv (pv 1) (pv 0)) (pv 2))
  case c3=>
   refine' cA (g:=(bE 0)) (tt:=(tB (Sx (jv (aV (aW 1) (aV (aW 0) cY))) (aW 2)))) (te:=(aW 0)) (NB:=["_law_there","_law_house","_law_known"]) (src:=[none,some 4,some 2]) (bN (by kernel_rfl)) rfl (b9 (pv 5)) ?g ?t ?e;case g=>exact fun cl C s₃ H₃ fp=>(aw (i:=0) kR rfl aM bU)
   case t=>exact fun cl C s₃ H₃ fp=>fK (Nb (N_ hr.u (bf (aa (pv 1) (aa (pv 0) af))) (pv 2)))
   case e=>exact fun cl C s₃ H₃ fp=>(pv 0)
  refine⟨_,rfl,l,rfl,⟨_,aZ.of hl⟩,fun D1 pY=>?_⟩;refine dE (xs:=zr zs) (fun i ys σ H2=>(∃x,σ=[x])/\aE H H2/\H2 D1=some (.lst ys)/\∃as:List Addr,ys=as.map V.ref/\as.length=i/\∀j,j<i->∃z,zs[j]?=some z/\H2 (as.getD j 0)=some (.tup [.ref z.1,.bl true])) ⟨⟨_,rfl⟩,aj pY,ae,[],rfl,rfl,fun j hj=>absurd hj (jG _)⟩ (fun i ys σ H2 _ z=>aZ.of (z.2.1 _ _ hl)) ?_ ?_
  .rintro i x ys σ H2 Kt Kf hx ⟨⟨x',rfl⟩,sm,eX,as,rfl,al,ah⟩ kt kf;obtain⟨z,hz,rfl⟩:=o_ hx;have hi:i<zs.length:=(cK.mp hz).1;refine⟨_,rfl,by show 2<=sizeLine;decide,fun t ht=>?_⟩;have st:=aj (o:=.tup [.ref z.1,.bl true]) ht;have nD:D1≠t:=ao eX ht;refine kt _ _ _ (st _ _ eX) (by rw[aP,al];exact cQ (show i<1000 by lia) (by decide)) ⟨⟨_,rfl⟩,bw (sm.trans st) pY,ae,as++[t],by rw[dg];rfl,by rw[cf,al];rfl,fun j hj=>?_⟩;by_cases c:j<i
   .obtain⟨z',e1,e2⟩:=ah j c;refine⟨z',e1,?_⟩;have e3:=st _ _ e2;rw[aY,iD (by lia),<-aY,am (by rintro e;rw[e,st _ _ eX] at e3;cases e3)];exact e3
   .obtain rfl:j=i:=by lia
    refine⟨z,hz,?_⟩;rw[aY,jS (by lia),al,iP];show (upd _ D1 _) t=_;rw[am nD.symm];exact ae
  rintro ys σ H2 ⟨_,s2,iz,as,rfl,al,ah⟩;rw[dF] at al ah;refine⟨D1,as,zs.map fun z=>(A9 z.2,z.1,V.bl true),rfl,iz,by rw[aP];exact al,fun i hi=>?_,by rw[aP];lia,fun Kn hK=>?_⟩
  .rw[aP] at hi;obtain⟨z,e1,e2⟩:=ah i hi;exact⟨A9 z.2,z.1,.bl true,by rw[cm,e1];rfl,e2,s2 _ _ (po z (df e1))⟩
  have TF:∀u:Int×Int,(hU (dt [] (zs.map fun z=>(A9 z.2,z.1,V.bl true))) (A9 u)).isSome=decide (u∈zp zs):=fun u=>by
   rw[jJ,yC,di,qV];have e:((fun p:TK=>p.1) ∘ fun z:Addr×Int×Int=>(A9 z.2,z.1,V.bl true))=A9 ∘ fun z:Addr×Int×Int=>z.2:=rfl;rw[e,<-di];have:=KR (u:=u) (ts:=zp zs);unfold zp at this |-;rw[this];simp[hU]
  have sK:=aj (o:=.dT (dt [] (zs.map fun z=>(A9 z.2,z.1,V.bl true)))) hK;have hKK:(upd H2 Kn (.dT (dt [] (zs.map fun z=>(A9 z.2,z.1,V.bl true))))) Kn=some (.dT (dt [] (zs.map fun z=>(A9 z.2,z.1,V.bl true)))):=ae;generalize dt [] _=kd at *;refine⟨by show 0<=sizeLine;decide,fun R hR=>?_⟩;have s3:aE H _:=s2.trans sK;have hK3:=aj (o:=.lst []) hR _ _ hKK;have hRH:=s3.free hR;have s4:=s3.trans (aj (o:=.lst []) hR);refine⟨_,rfl,(n:Int),rfl,by lia,by lia,ce (n:=n) (lo:=0) (fun i σ Hc=>(∃a b,σ=[some (.int n),some (.ref l),some (.ref Kn),some (.ref R),a,b])/\aE H Hc/\Hc Kn=some (.dT kd)/\∃bs:List Addr,Hc R=some (.lst (bs.map V.ref))/\(∀b∈bs,H b=none/\b≠R)/\Holds Hc bs i fun h=>.lst (NV (bn n (zp zs) h))) ⟨⟨_,_,rfl⟩,s4,hK3,[],ae,fun b hb=>(nomatch hb),Holds.nil⟩ ?_ ?_⟩
  .rintro i σ Hc hi ⟨⟨x4,x5,rfl⟩,sc,V0,bs,TH,fr,hb⟩;have nKR:Kn≠R:=by rintro rfl;rw[V0] at TH;cases TH
   rw[d9];refine⟨_,rfl,1,(n:Int),rfl,⟨by decide,by decide,by lia,by lia⟩,fun D2 iz=>?_⟩;rw[show ((n:Int)-1).toNat=n-1 by lia];refine CF (lo:=1) (n:=n-1) (fun s=>V.int (((i+(s+1)) % n:Nat):Int)) (fun σ=>∃x,σ=[x,some (.int (i:Nat)),some (.int n)]) iz (by lia) ⟨_,rfl⟩ ?_ ?_
   .rintro x σ H4 R' Kf hx ⟨x',rfl⟩ tj kt;have e:((i:Int)+(1+(x:Int))) % (n:Int)=(((i+(x+1)) % n:Nat):Int):=by lia
    refine⟨_,rfl,_,rfl,_,_,rfl,rfl,_,rfl,_,_,rfl,rfl,(by show (0:Int)<(n:Int);lia),?_⟩;have:=kt [some (.int (1+(x:Int))),some (.int (i:Nat)),some (.int n)] H4 ⟨_,rfl⟩ (aE.refl _);rw[<-e] at this;exact this
   intro H4 s4 xj;have TJ:H4 D2=some (.lst (((List.range (n-1)).map fun s=>(i+(s+1)) % n).map fun (x:Nat)=>V.int (x:Int))):=by rw[xj,di];rfl
   have qF:=s4 _ _ TH;refine⟨_,rfl,.inl ⟨rfl,_,aZ.of qF⟩,_,rfl,D2,rfl,⟨_,aZ.of TJ⟩,fun D3 qm=>?_⟩;refine KQ ((List.range (n-1)).map fun s=>(i+(s+1)) % n) (fun (x:Nat)=>V.int (x:Int)) (fun o=>decide ((ci i,ci o)∈zp zs)) (fun σ=>∃x,σ=[x,some (.int (i:Nat)),some (.ref Kn)]) TJ qm (by rw[aP,b8];lia) ⟨_,rfl⟩ ?_ ?_
   .rintro m σ H5 Kt Kf hm ⟨x',rfl⟩ tm kt kf;refine⟨_,rfl,_,rfl,by show 2<=sizeLine;decide,fun t ht=>?_⟩;have st:=aj (o:=.tup [.int (i:Int),.int (m:Int)]) ht;have hK5:=st _ _ (tm _ _ (s4 _ _ V0));refine⟨_,rfl,Kn,_,rfl,F8.t (k:=A9 (ci i,ci m)) hK5 ae,_,rfl,?_⟩;rw[TF];refine eU (fun c=>?_) (fun c=>?_)
    .exact⟨_,rfl,kt _ _ ⟨_,rfl⟩ st c⟩
    .exact kf _ _ ⟨_,rfl⟩ st (by simpa using c)
   intro H5 s5 sI;rw[KS Fi hi] at sI;have J2:=s5 _ _ qF;have bl:bs.length=i:=hb.1;have EG:D3≠R:=by rintro rfl;rw[qF] at qm;cases qm
   refine⟨R,_,_,rfl,rfl,J2,by rw[aP,bl];exact cQ (show i<33 by lia) (by decide),⟨_,_,rfl⟩,bw ((sc.trans s4).trans s5) hRH,?_,bs++[D3],by rw[ae,dg];rfl,fun b yO=>?_,?_⟩
   .rw[am nKR];exact s5 _ _ (s4 _ _ V0)
   .rcases bS.mp yO with z|z
    .exact fr b z
    .rw[cC.mp z];exact⟨(sc.trans s4).free qm,EG⟩
   .refine Holds.snoc (hb.mono fun j hj e=>?_) (by rw[am EG];exact sI);have e5:=s5 _ _ (s4 _ _ e);have hm:bs.getD j 0∈bs:=by rw[aY,bB (by lia)];exact dH _
    rw[am (fr _ hm).2];exact e5
  .rintro σ Hc ⟨⟨x4,x5,rfl⟩,sc,V0,bs,TH,fr,hb⟩;exact⟨_,rfl,q R Hc sc hRH ⟨bs,TH,fun b yO=>(fr b yO).1,hb⟩⟩
end
theorem iA{P:Prop}(h:∀G:Prop,(P->G)->G):P:=h P id
abbrev Bi:Stmt:=iy 50
theorem gW:(["_law_house","_law_home","_law_many","_law_outs_here"]:List Str).Nodup:=by decide +kernel
def oV:Option Nat->V
 |none=>.bD
 |some k=>.int (k:Int)
theorem az.put{p a:Addr}{H H':Hp}{o:HO}(s:az p H H')(e:H a=none):az p H (upd H' a o):=fun b o' h n=>by
 rw[am (ao h e)];exact s _ _ h n
section
variable {P:Program} {w:World} {K:PySem.W.Frag} {mg:Str->Option Value} {base:Heap}
theorem gC:aS ["_law_pot_here","_law_n","_law_outs_here","_law_many","_law_homes","_law_stand_here","_law_crowd","_law_k","_law_home","_law_some","_law_house"] ["_law_pot_here","_law_n","_law_outs_here"] (av Bi):=cZ (by decide +kernel)
structure sJ(n:Nat)(ts:Ts)(homes:List Nat)(st:List (Option Nat)):Prop where
 len:homes.length=st.length
 le:st.length<=16
 hs:∀x∈homes,x<n
 ss:∀y,some y∈st->y<n
 QP:∀y,y<n->st.count (some y)<=(bn n ts y).length
 ne:∀j y,st.getD j none=some y->homes.getD j 0≠y
def wH:Sp:=fun vs H Q _=>∃ (p:Addr) (n:Nat) (r:Addr) (ts:Ts) (L:Addr->Prop),vs=[.ref p,.int n,.ref r]/\2<=n/\n<=32/\bp H p/\bG H L r n (bn n ts)/\L r/\¬ L p/\
 ∀ (t a b:Addr) (homes:List Nat) (st:List (Option Nat)) (H':Hp),az p H H'->bp H' p->H' t=some (.tup [.ref a,.ref b])->H' a=some (.tup (NV homes))->H' b=some (.tup (st.map oV))->sJ n ts homes st->Q (.ref t) H'
theorem Hz{f:Addr}{fd:FuncData}(F:gv K "_law_stand" "_law_stand" Bi f fd)(B:Bl mg)(D:cE P w K mg base bu 1 "_law_take" ["_law_pot_here","_law_many"] eW):bL P w K mg base bu 2 f fd ["_law_pot_here","_law_n","_law_outs_here"] wH:=by
 refine F.ok gC (fun vs H Q E h=>?_) (fun dW A outer s H vs Q E hr h=>?_)
 .obtain⟨p,n,r,ts,L,rfl,_⟩:=h;rfl
 .obtain⟨p,n,r,ts,L,rfl,n1,n2,hp,R0,KU,HA,q⟩:=h;refine'⟨_,(ai (aJ (i:=3) gC.nd rfl bU (bj vN (bZ (aa au af)) (pv 1)))
   (ai (Nk (i:=4) (j:=5) rfl gC.nd rfl rfl (by decide) rfl rfl (aa (bZ af) (aa (bZ af) af)) (by rfl))
   (ai (aJ (i:=6) gC.nd rfl aM (aG D hr aL (aa (pv 0) (aa au af))))
   (ai (cq dh rfl (bi rfl B.range (aa (aG D hr aL (aa (pv 0) (aa au af))) af)) (aw (i:=7) gC.nd rfl aM)
    (ai (aJ (i:=8) gC.nd rfl bU (aG D hr aL (aa (pv 0) (aa (pv 1) af))))
    (ai (cS (i:=9) (g:=(bE 0)) (tt:=(C2 (i6 (gE (ZP) (aW 0) (aW 1))) (i6 (gE (vF fun i j=>.bl (decide (i<j))) (gE (oJ K) (aW 2) (aW 0)) (Da (fun xs H Q=>∃p ys,xs=[V.ref p]/\(aZ K H p ys\/bv K H p ys)/\Q (.int ys.length) H) (aV (gE (oJ K) (aW 3) (aW 0)) cY)))))) (te:=(aW 0)) (NB:=["_law_house","_law_home","_law_many","_law_outs_here"]) (src:=[none,some 8,some 3,some 2]) (bN (by kernel_rfl)) rfl (bi rfl B.range (aa (pv 1) af)) ?g1 ?t1 ?e1 gC.nd rfl rfl rfl)
    (ai (br (aI dY (pv 6) au (aN _)) (ak (aJ (i:=9) gC.nd rfl aM (i8 BS (pv 9) kX (kY au)))) aQ)
    (ai (aJ (i:=10) gC.nd rfl aM cp)
    (ai (br (PW.pt (fJ (aI (vX (e:=jL) hr.u) (pv 9) (bZ af) (aN _)) (fG (aI BL (aG D hr aL (aa (pv 0) (aa au af))) au (aN _))))) (ai (aJ (i:=10) gC.nd rfl aM (aT aO (pv 9) (aG D hr aL (aa (pv 0) (aa (aB aF (by rfl) B.len cn (aa (pv 9) af)) af))) (fun _ _=>rfl)))
     (ak (dL (bj dv (aT aO (pv 3) (pv 10) (fun _ _=>rfl)) au) (ii (pv 3) (pv 10) eC)))) aQ)
    (ai (cU (gG fV mz my dS (pv 4) (aa (pv 8) af)))
    (ak (cU (gG fV mz my dS (pv 5) (aa (pv 10) af)))))))))))
   (ak (aK (bf (aa (cG dQ (by rfl) B.tup lh (aa (pv 4) af)) (aa (cG dQ (by rfl) B.tup lh (aa (pv 5) af)) af))))))))),?_⟩
  case g1=>exact fun cl C s₃ H₃ fp=>(aw (i:=0) gW rfl aM bU)
  case t1=>exact fun cl C s₃ H₃ fp=>fK (PW.pt (fJ (aI pL (pv 0) (pv 1) (aN _)) (fG (aI kn (aT aO (pv 2) (pv 0) (fun _ _=>rfl)) (aB aF (by rfl) B.len cn (aa (aT aO (pv 3) (pv 0) (fun _ _=>rfl)) af)) (aN _)))))
  case e1=>exact fun cl C s₃ H₃ fp=>(pv 0)
  refine⟨by show 1<=sizeLine;decide,fun L1 v9=>⟨_,rfl,L1,_,_,rfl,rfl,ae,by lia,by lia,by rw[i3,jT];exact bC (show 1*n<=32 by lia) (by decide),fun M hM=>?_⟩⟩;rw[i3,kN];have eM:List.replicate n (V.int 0)=NV (List.replicate n 0):=by unfold NV;rw[zC];rfl
  rw[eM];refine⟨by show 0<=sizeLine;decide,fun Hs TM=>⟨by show 0<=sizeLine;decide,fun St QQ=>⟨_,_,rfl,?_⟩⟩⟩;have s1:=aj (o:=.lst [.int 0]) v9;have s2:=s1.trans (aj (o:=.lst (NV (List.replicate n 0))) hM);have s3:=s2.trans (aj (o:=.lst []) TM);have s4:=s3.trans (aj (o:=.lst []) QQ);have fM:=s1.free hM;have fH:=s2.free TM;have fS:=s3.free QQ;have gM:=aj (o:=.lst []) QQ _ _ (aj (o:=.lst []) TM _ _ (ae (H:=upd H L1 (.lst [.int 0])) (a:=M) (o:=.lst (NV (List.replicate n 0)))));have gH:=aj (o:=.lst []) QQ _ _ (ae (H:=upd (upd H L1 (.lst [.int 0])) M (.lst (NV (List.replicate n 0)))) (a:=Hs) (o:=.lst []));have gS:=ae (H:=upd (upd (upd H L1 (.lst [.int 0])) M (.lst (NV (List.replicate n 0)))) Hs (.lst [])) (a:=St) (o:=.lst []);have nMH:M≠Hs:=ao ae TM;have nMS:M≠St:=ao (aj TM _ _ ae) QQ;have nHS:Hs≠St:=ao ae QQ;have IX:=hp.ne fM;have O_:=hp.ne fH;have Pa:=hp.ne fS;generalize upd (upd (upd (upd H L1 _) M _) Hs _) St _=H1 at *;have jN:=hp.same s4;refine⟨_,rfl,p,2,rfl,by decide,by decide,jN,fun cr H2 hcr s5 kJ=>⟨_,rfl,p,17,rfl,by decide,by decide,kJ,fun d H3 hd s6 mv=>⟨(d:Int),rfl,by lia,by lia,?_⟩⟩⟩;refine ce (n:=d) (lo:=0) (fun i σ Hc=>∃ (ms homes:List Nat) (st:List (Option Nat)),(∃a b c e,σ=[some (.ref p),some (.int n),some (.ref r),some (.ref M),some (.ref Hs),some (.ref St),some (.int (cr:Int)),a,b,c,e])/\az p H Hc/\bp Hc p/\Hc M=some (.lst (NV ms))/\ms.length=n/\Hc Hs=some (.lst (NV homes))/\Hc St=some (.lst (st.map oV))/\homes.length=i/\st.length=i/\(∀x∈homes,x<n)/\(∀j y,st.getD j none=some y->homes.getD j 0≠y)/\(∀y,some y∈st->y<n)/\∀y,y<n->st.count (some y)=ms.getD y 0/\ms.getD y 0<=(bn n ts y).length)
   ⟨List.replicate n 0,[],[],⟨_,_,_,_,rfl⟩,((az.of s4).trans s5).trans s6,mv,s6 _ _ (s5 _ _ gM IX) IX,jU,s6 _ _ (s5 _ _ gH O_) O_,s6 _ _ (s5 _ _ gS Pa) Pa,rfl,rfl,fun x hx=>(nomatch hx),(fun j y e=>by simp at e),fun y hy=>(nomatch hy),fun y hy=>by rw[aY,qO,ap hy];exact⟨rfl,cM _⟩⟩ ?_ ?_
  .intro i σ Hc hi iV;refine iA fun tY iW=>?_;obtain⟨ms,homes,st,⟨x7,x8,x9,TN,rfl⟩,sc,iM,OO,ml,V1,V2,EE,NL,Ov,Tj,Ow,TQ⟩:=iV;refine iW ?_;refine⟨_,rfl,_,rfl,p,n,rfl,by lia,by lia,iM,fun home H4 TU s7 nA=>?_⟩;have YJ:=sc.trans s7;have YK:=s7 _ _ OO IX;have R4:bG H4 L r n (bn n ts):=R0.keep KU fun b o l e=>YJ b o e fun z=>HA (z ▸ l);obtain⟨bs,b1,b2,b3⟩:=R4;refine⟨_,rfl,(n:Int),rfl,by lia,by lia,fun D1 pY=>?_⟩;refine ww (lo:=0) (n:=n) (fun x=>decide (x≠home)&&decide (ms.getD x 0<(bn n ts x).length)) (fun σ=>∃a,σ=[a,some (.int (home:Int)),some (.ref M),some (.ref r)]) pY (by lia) ⟨_,rfl⟩ ?_ ?_
   .rintro x σ H5 Kt Kf hx ⟨a',rfl⟩ tm kt kf;rw[d9] at kt |-;refine⟨_,rfl,_,rfl,rfl,_,rfl,?_⟩;refine eU (fun c=>?_) (fun c=>?_)
    .have c:x≠home:=by have:=c;simp at this;lia
     have gb:(bs.map V.ref)[x]?=some (.ref (bs.getD x 0)):=by
      rw[cm,aY,bB (by rw[b3.1];exact hx)];rfl
     refine⟨_,rfl,_,rfl,M,_,_,_,rfl,rfl,aZ.of (tm _ _ YK),aA (f_ (by lia)),_,rfl,_,rfl,r,_,_,_,rfl,rfl,aZ.of (tm _ _ b1),aA gb,_,_,rfl,.inl (aZ.of (tm _ _ (b3.2 x hx))),_,_,rfl,rfl,_,rfl,?_⟩;rw[aR];refine eU (fun c2=>?_) (fun c2=>?_)
     .have c2:=cW c2;exact⟨_,rfl,kt _ _ ⟨_,rfl⟩ (aE.refl _) (by rw[cL c,cL (show ms.getD x 0<(bn n ts x).length by lia)];rfl)⟩
     .exact kf _ _ ⟨_,rfl⟩ (aE.refl _) (by rw[dO (show ¬ ms.getD x 0<(bn n ts x).length from fun z=>c2 (cL (by lia))),vk])
    .have c:x=home:=by have:=c;simp at this;lia
     refine cD (kf _ _ ⟨_,rfl⟩ (aE.refl _) (by simp[c]))
   intro H5 s8 sI;have e0:∀c:Nat->Bool,(((List.range n).filter c).map fun (x:Nat)=>V.int (0+(x:Int)))=NV ((List.range n).filter c):=fun c=>jF fun x _=>by rw[d9]
   rw[e0] at sI;have Ha:∀x∈(List.range n).filter (fun x=>decide (x≠home)&&decide (ms.getD x 0<(bn n ts x).length)),x<n/\ms.getD x 0<(bn n ts x).length/\x≠home:=fun x hx=>⟨bQ.mp (dD.mp hx).1,cW (nZ.mp (dD.mp hx).2).2,cW (nZ.mp (dD.mp hx).2).1⟩
   have YL:((List.range n).filter (fun x=>decide (x≠home)&&decide (ms.getD x 0<(bn n ts x).length))).length<=32:=bC (iE _ _) (by rw[b8];exact n2);generalize (List.range n).filter _=fs at *;have I_:=YJ.trans (az.of s8);have sB:=nA.same s8;have Yk:=s8 _ _ YK;have hH5:=s8 _ _ (s7 _ _ V1 O_);have hS5:=s8 _ _ (s7 _ _ V2 Pa);have fD1:=YJ.free nA.full pY;clear s7 s8 OO V1 V2 YK b1 b2 b3 iM sc;dsimp only;refine jO (fun σ H6=>∃ (S:Addr) (fs:List Nat),(∃a,σ=[some (.ref p),some (.int n),some (.ref r),some (.ref M),some (.ref Hs),some (.ref St),some (.int (cr:Int)),a,some (.int (home:Int)),some (.ref S),TN])/\aE H5 H6/\H6 S=some (.lst (NV fs))/\S≠p/\(∀x∈fs,x<n/\ms.getD x 0<(bn n ts x).length/\x≠home)/\fs.length<=32) ?_ ?_
   .intro σ H6 iV;refine iA fun tY iW=>?_;obtain⟨S,fs,⟨x7,rfl⟩,s9,QN,nS,Ha,YL⟩:=iV;refine iW ?_;have sH6:=I_.trans (az.of s9);have Gg:=sB.same s9;have Tf:=s9 _ _ Yk;have hH6:=s9 _ _ hH5;have YM:=s9 _ _ hS5;refine jO (fun σ H7=>H7=H6/\σ=[some (.ref p),some (.int n),some (.ref r),some (.ref M),some (.ref Hs),some (.ref St),some (.int (cr:Int)),x7,some (.int (home:Int)),some (.ref S),some .bD]) ?_ (fun N hN=>hN _ _ ⟨rfl,rfl⟩);rintro σ H7 ⟨rfl,rfl⟩;refine jO (fun σ H7=>∃ (o:Option Nat) (QR:List Nat),(∃a,σ=[some (.ref p),some (.int n),some (.ref r),some (.ref M),some (.ref Hs),some (.ref St),some (.int (cr:Int)),a,some (.int (home:Int)),some (.ref S),some (oV o)])/\az p H H7/\bp H7 p/\H7 M=some (.lst (NV QR))/\QR.length=n/\H7 Hs=some (.lst (NV homes))/\H7 St=some (.lst (st.map oV))/\(∀y,o=some y->y<n/\home≠y)/\∀y,y<n->(st++[o]).count (some y)=QR.getD y 0/\QR.getD y 0<=(bn n ts y).length) ?_ ?_
    .intro σ H7 iV;refine iA fun tY iW=>?_;obtain⟨o,QR,⟨x7',rfl⟩,MS,IZ,O2,ml',KH,Hn,ho,YN⟩:=iV;refine iW ?_;refine⟨_,rfl,.inl ⟨rfl,_,aZ.of KH⟩,_,rfl,Hs,_,_,rfl,rfl,KH,by rw[aR];exact cQ (show homes.length<33 by lia) (by decide),?_⟩;have VW:(upd H7 Hs (.lst (NV homes++[.int (home:Int)]))) St=some (.lst (st.map oV)):=by rw[am nHS.symm];exact Hn
     refine⟨_,rfl,.inl ⟨rfl,_,aZ.of VW⟩,_,rfl,St,_,_,rfl,rfl,VW,by rw[aP];exact cQ (show st.length<33 by lia) (by decide),?_⟩;refine⟨QR,homes++[home],st++[o],⟨_,_,_,_,rfl⟩,az.put (az.put MS fH) fS,(IZ.put O_.symm).put Pa.symm,by rw[am nMS,am nMH];exact O2,ml',by rw[am nHS,ae,nu],by rw[ae,dg];rfl,by rw[cf,EE];rfl,by rw[cf,NL];rfl,fun x hx=>?_,fun j y e=>?_,fun y hy=>?_,YN⟩
     .rcases bS.mp hx with z|z
      .exact Ov x z
      .rw[cC.mp z];exact TU
     .rcases Nat.lt_trichotomy j st.length with c|c|c
      .rw[aY,iD c,<-aY] at e;rw[aY,iD (by lia),<-aY];exact Tj j y e
      .rw[aY,jS (by lia),c,iP] at e;rw[aY,jS (by lia),show j-homes.length=0 by lia];exact(ho y e).2
      .rw[aY,de (by rw[cf];exact c)] at e;cases e
     .rcases bS.mp hy with z|z
      .exact Ow y z
      .exact(ho y (cC.mp z).symm).1
    .intro N hN;refine⟨_,rfl,by show 0<=sizeLine;decide,fun E1 OM=>?_⟩;have sE:=aj (o:=.lst []) OM;refine⟨S,E1,_,[],rfl,rfl,aZ.of (sE _ _ QN),aZ.of ae,fun i h1 h2=>absurd h2 (by simp),_,rfl,?_⟩;rw[ap rfl,k8];have MS:=sH6.trans (az.of sE);have IZ:=Gg.same sE;have O2:=sE _ _ Tf;have KH:=sE _ _ hH6;have Hn:=sE _ _ YM;have hL7:=sE _ _ QN;have hc0:∀y,y<n->(st++[none]).count (some y)=ms.getD y 0/\ms.getD y 0<=(bn n ts y).length:=fun y hy=>by rw[List.count_append,List.count_singleton,aq (by simp),vw];exact TQ y hy
     by_cases e:NV fs=[]
     .rw[cL e];exact cD (cD (hN _ _ ⟨none,ms,⟨_,rfl⟩,MS,IZ,O2,ml,KH,Hn,fun y hy=>(nomatch hy),hc0⟩))
     .rw[dO e];have hl:0<fs.length:=by
       rcases fs with _|⟨x,xs⟩
       .exact absurd rfl e
       .simp
      refine dP ⟨_,rfl,p,6,rfl,by decide,by decide,IZ,fun d6 H8 hd6 s8 EI=>⟨_,_,rfl,rfl,_,rfl,eU (fun c=>?_) (fun c=>?_)⟩⟩
      .refine⟨_,rfl,_,rfl,_,rfl,S,_,rfl,.inl (aZ.of (s8 _ _ hL7 nS)),p,_,rfl,by rw[aR];exact hl,by rw[aR];lia,EI,fun d7 H9 YO TV I0=>?_⟩;rw[aR] at YO;have hv:fs[d7]?=some fs[d7]:=bB YO;have VS:fs.getD d7 0∈fs:=by rw[aY,hv];exact dH _
       refine⟨S,_,_,_,rfl,rfl,aZ.of (TV _ _ (s8 _ _ hL7 nS) nS),aA (f_ YO),?_⟩;obtain⟨hyn,hyc,hye⟩:=Ha _ VS;generalize fs.getD d7 0=y at *;have QO:=(MS.trans s8).trans TV;have hM9:=TV _ _ (s8 _ _ O2 IX) IX;have QS:y<ms.length:=by lia
       refine⟨_,rfl,_,rfl,M,_,_,_,rfl,rfl,aZ.of hM9,aA (f_ QS),_,_,rfl,rfl,_,rfl,_,rfl,M,_,(y:Int),y,rfl,rfl,hM9,dZ (by rw[aR];exact QS),?_⟩;refine hN _ _ ⟨some y,ms.set y (ms.getD y 0+1),⟨_,rfl⟩,az.put QO fM,I0.put IX.symm,?_,by rw[jI];exact ml,?_,?_,(fun z hz=>by cases hz;exact⟨hyn,hye.symm⟩),fun z hz=>?_⟩
       .rw[ae];exact congrArg (fun l=>some (HO.lst l)) (pq (x:=ms.getD y 0+1))
       .rw[am nMH.symm];exact TV _ _ (s8 _ _ KH O_) O_
       .rw[am nMS.symm];exact TV _ _ (s8 _ _ Hn Pa) Pa
       .rw[List.count_append,List.count_singleton,aY,n6];obtain⟨g1,g2⟩:=TQ z hz;by_cases c:y=z
        .subst c;rw[ap (by simp),ap rfl,ap QS];exact⟨congrArg (·+1) g1,hyc⟩
        .rw[aq (by simp[c]),aq c,<-aY];exact⟨g1,g2⟩
      .exact hN _ _ ⟨none,ms,⟨_,rfl⟩,MS.trans s8,EI,s8 _ _ O2 IX,ml,s8 _ _ KH O_,s8 _ _ Hn Pa,fun y hy=>(nomatch hy),hc0⟩
   .intro N hN;refine⟨_,rfl,rfl,_,rfl,eU (fun c=>?_) (fun c=>hN _ _ ⟨D1,fs,⟨_,rfl⟩,aE.refl _,sI,hp.ne fD1,Ha,YL⟩)⟩;refine⟨_,rfl,_,rfl,D1,_,rfl,aZ.of sI,fun S hS=>?_⟩;have e3:mL (NV fs) none (some 3)=NV (fs.take 3):=by rw[show (3:Int)=((3:Nat):Int) from rfl,sG];unfold NV;rw[List.map_take]
    refine hN _ _ ⟨S,fs.take 3,⟨_,rfl⟩,aj hS,by rw[ae,e3],sB.ne hS,fun x hx=>Ha x (lm hx),bC (mB _ _) YL⟩
  .intro σ Hc iV;refine iA fun tY iW=>?_;obtain⟨ms,homes,st,⟨x7,x8,x9,TN,rfl⟩,sc,iM,OO,ml,V1,V2,EE,NL,Ov,Tj,Ow,TQ⟩:=iV;refine iW ?_;refine⟨_,rfl,Hs,_,rfl,.inl ⟨aZ.of V1,fun a ha=>?_⟩⟩;have sa:=aj (o:=.tup (NV homes)) ha;refine⟨_,rfl,St,_,rfl,.inl ⟨aZ.of (sa _ _ V2),fun b hb=>⟨by show 2<=sizeLine;decide,fun t ht=>?_⟩⟩⟩;have sb:=aj (o:=.tup (st.map oV)) hb;have bq:=aj (o:=.tup [.ref a,.ref b]) ht;exact q t a b homes st _ (((sc.trans (az.of sa)).trans (az.of sb)).trans (az.of bq)) (((iM.same sa).same sb).same bq) ae (bq _ _ (sb _ _ ae)) (bq _ _ ae) ⟨by lia,by lia,Ov,Ow,(fun y hy=>by rw[(TQ y hy).1];exact(TQ y hy).2),Tj⟩
end
end nN
namespace L2
open PySem PySem.Spec PyProof.Rows
section
variable {X:Cx}
theorem KW(hu:X.A.units+2<cLine):lU X (compareOp .Eq) (fun x y H Q=>∃ (p q:Addr) (xs:List V),x=.ref p/\y=.ref q/\bv X.K H p xs/\bv X.K H q []/\Q (.bl xs.isEmpty) H):=by
 intro ag s σ H x y v u Q I rx ry h;obtain⟨p,q,xs,rfl,rfl,hp,hq,k⟩:=h;obtain rfl:v=Value.ref p:=rx;obtain rfl:u=Value.ref q:=ry;obtain⟨us,r1,p1,_⟩:=I.tuple hp;obtain⟨vs,r2,p2,_⟩:=I.tuple hq;obtain rfl:vs=[]:=r2.mP.mpr rfl;refine SeqAt.eq_tupleAt (e:=fun _=>true) (show s.heap.IsTuple p us.toArray from p1) (show s.heap.IsTuple q #[] from p2) (by lia) (fun j h1 h2=>absurd h2 (jG _)) ⟨.bl _,H,I,rfl,?_⟩;have e:(us.toArray.size==(#[]:Array Value).size)=xs.isEmpty:=by
  rw[jJ];simp only[bJ,List.isEmpty_iff];rw[<-r1.length];simp
 rw[GW,e,zZ];exact k
end
section
variable {X:Cx} {es:List Expr} {t:TA} {pos:Pos}
def MT(t:TA):TE:=fun σ H Q=>t σ H fun xs H1=>xs.length<=sizeLine/\∀p,H1 p=none->sysModules≠p->Q (.ref p) (upd H1 p (.lst xs))
theorem KY(h:PA X es t):PE X (.List es pos) (MT t):=by
 intro ag s σ H Q I hq;refine wpAny_List_spliced (cV (h pos ag s σ H _ I hq) fun us s1 ⟨xs,H1,I1,r,z,q⟩=>⟨by rw[<-r.length];exact z,?_⟩);have hf:H1 s1.heap.objs.size=none:=I1.b_.fresh (bt _);refine⟨.ref s1.heap.objs.size,upd H1 s1.heap.objs.size (.lst xs),I1.laid (t':=s1.toks) (fun b u e=>bY _ e) (bt _) ?_,rfl,q _ hf (bg I1.big)⟩;exact⟨z,us,0,r,cI _ rfl⟩
theorem Bj:et X (.type "list") (fun xs H Q=>∃p ys,xs=[.ref p]/\H p=some (.tup ys)/\∀l,H l=none->sysModules≠l->Q (.ref l) (upd H l (.lst ys))):=by
 intro ag s σ H xs us Q I r h;obtain⟨p,ys,rfl,hq,q⟩:=h;obtain⟨u,rfl,rx⟩:=r.one;cases rx;obtain⟨its,r',pl,hz⟩:=I.tuple (bv.of hq);have c_:=r'.length;obtain⟨o,ho,hc,n,hd⟩:=pl;exact call_list_seq p (.inr rfl) ho hc hd (fun h' c' kp e=>⟨.ref s.heap.objs.size,_,I.laid (t':=s.toks) kp (bt _) (show cu X.prog X.w _ h' _ (.lst ys) from ⟨hz,its,c',r',e⟩),rfl,q _ (I.b_.fresh (bt _)) (bg I.big)⟩) (by simp only[bJ] <;> lia)
end
inductive F2 (R:V->PyData->Prop):List V->List PyData->Prop where
 |nil:F2 R [] []
 |cons {x:V} {d:PyData} {xs:List V} {ds:List PyData} (h:R x d) (hs:F2 R xs ds):F2 R (x::xs) (d::ds)
theorem F2.mono{R S:V->PyData->Prop}(k:∀x d,R x d->S x d):∀ {xs:List V} {ds:List PyData},F2 R xs ds->F2 S xs ds
 |_,_,.nil=>.nil
 |_,_,.cons h hs=>.cons (k _ _ h) (F2.mono k hs)
def nF(L:Addr->Prop)(H:Hp)(x:V)(d:PyData):Prop:=
 (x=.bD/\d=.none)\/(∃c,x=.bl c/\d=.bool c)\/(∃i:Int,x=.int i/\d=.int i/\((-1<=i/\i<=33)\/i=10 ^ 59))\/(∃z:Str,x=.str z/\d=.str z/\(z="w"\/z=""))\/(∃a,x=.ref a/\d=.dict []/\L a/\H a=some (.dK []))
def Sh(L:Addr->Prop)(H:Hp):Nat->V->PyData->Prop
 |0=>nF L H
 |k+1=>fun x d=>nF L H x d\/(∃a xs ds,x=.ref a/\d=.tuple ds/\L a/\H a=some (.tup xs)/\F2 (Sh L H k) xs ds)\/(∃a xs ds,x=.ref a/\d=.list ds/\L a/\H a=some (.lst xs)/\F2 (Sh L H k) xs ds/\sysModules≠a)
def kT(L:Addr->Prop)(H H':Hp):Prop:=∀a o,L a->H a=some o->(∀ps,o≠.qy ps)->H' a=some o
theorem kT.of{L:Addr->Prop}{H H':Hp}(s:aE H H'):kT L H H':=fun _ _ _ e _=>s _ _ e
theorem nF.keep{L:Addr->Prop}{H H':Hp}{x:V}{d:PyData}(h:nF L H x d)(k:kT L H H'):nF L H' x d:=by
 rcases h with h|h|h|h|⟨a,e1,e2,l,e3⟩
 .exact .inl h
 .exact .inr (.inl h)
 .exact .inr (.inr (.inl h))
 .exact .inr (.inr (.inr (.inl h)))
 .exact .inr (.inr (.inr (.inr ⟨a,e1,e2,l,k a _ l e3 nofun⟩)))
theorem Sh.keep{L:Addr->Prop}{H H':Hp}(k:kT L H H'):∀ {n:Nat} {x:V} {d:PyData},Sh L H n x d->Sh L H' n x d
 |0,x,d,h=>nF.keep h k
 |n+1,x,d,h=>by
  rcases h with h|⟨a,xs,ds,e1,e2,l,e3,hs⟩|⟨a,xs,ds,e1,e2,l,e3,hs,ns⟩
  .exact .inl (nF.keep h k)
  .exact .inr (.inl ⟨a,xs,ds,e1,e2,l,k a _ l e3 nofun,hs.mono fun x d=>Sh.keep k⟩)
  .exact .inr (.inr ⟨a,xs,ds,e1,e2,l,k a _ l e3 nofun,hs.mono fun x d=>Sh.keep k,ns⟩)
theorem Sh.up{L:Addr->Prop}{H:Hp}:∀ {n:Nat} {x:V} {d:PyData},Sh L H n x d->Sh L H (n+1) x d
 |0,x,d,h=>.inl h
 |n+1,x,d,h=>by
  rcases h with h|⟨a,xs,ds,e1,e2,l,e3,hs⟩|⟨a,xs,ds,e1,e2,l,e3,hs,ns⟩
  .exact .inl h
  .exact .inr (.inl ⟨a,xs,ds,e1,e2,l,e3,hs.mono fun x d=>Sh.up⟩)
  .exact .inr (.inr ⟨a,xs,ds,e1,e2,l,e3,hs.mono fun x d=>Sh.up,ns⟩)
theorem nF.facts{L:Addr->Prop}{H:Hp}{x:V}{d:PyData}(h:nF L H x d):d.showable=true/\d.depth<=1/\d.leavesShort 64=true/\d.weight<=200:=by
 rcases h with ⟨_,rfl⟩|⟨c,_,rfl⟩|⟨i,_,rfl,h|rfl⟩|⟨z,_,rfl,rfl|rfl⟩|⟨a,_,rfl,_⟩
 rotate_left
 .cases c <;> decide +kernel
 .have all:∀n:Nat,n<35->(PyData.int ((n:Int)-1)).showable=true/\(PyData.int ((n:Int)-1)).depth<=1/\(PyData.int ((n:Int)-1)).leavesShort 64=true/\(PyData.int ((n:Int)-1)).weight<=200:=by decide +kernel
  obtain⟨n,rfl,hn⟩:∃n:Nat,i=(n:Int)-1/\n<35:=⟨(i+1).toNat,by lia,by lia⟩
  exact all n hn
 all_goals decide +kernel
section
variable {X:Cx} {ag:List (Addr×Obj)} {σ:St} {H:Hp} {s:Shared} {L:Addr->Prop}
end
def Sw(L:Addr->Prop)(H:Hp)(n W:Nat)(x:V):Prop:=∃d,Sh L H n x d/\d.weight<=W
section
variable {L:Addr->Prop} {H H':Hp} {n W:Nat} {x:V}
theorem Sw.keep(h:Sw L H n W x)(k:kT L H H'):Sw L H' n W x:=let ⟨d,a,b⟩:=h;⟨d,a.keep k,b⟩
theorem Sw.up(h:Sw L H n W x):Sw L H (n+1) W x:=let ⟨d,a,b⟩:=h;⟨d,a.up,b⟩
theorem Sw.le{V:Nat}(h:Sw L H n W x)(l:W<=V):Sw L H n V x:=let ⟨d,a,b⟩:=h;⟨d,a,bC b l⟩
theorem nG{d:PyData}(h:nF L H x d):∀ {n:Nat},Sw L H n 200 x
 |0=>⟨d,h,(nF.facts h).2.2.2⟩
 |_+1=>⟨d,.inl h,(nF.facts h).2.2.2⟩
theorem TW{R:V->PyData->Prop}{xs:List V}(hR:∀x∈xs,∃d,R x d/\d.weight<=W):∃ds,F2 R xs ds/\PyData.weightAll ds<=xs.length*(W+1):=by
 induction xs with
 |nil=>exact⟨[],.nil,by unfold PyData.weightAll;exact cM _⟩
 |cons x xs ih=>
  obtain⟨d,h1,h2⟩:=hR x bW;obtain⟨ds,g1,g2⟩:=ih fun y hy=>hR y (cX _ hy);exact⟨d::ds,.cons h1 g1,by unfold PyData.weightAll;rw[dz,vt];lia⟩
theorem wI{a:Addr}{xs:List V}(l:L a)(h:H a=some (.tup xs))(hs:∀x∈xs,Sw L H n W x):Sw L H (n+1) (xs.length*(W+1)) (.ref a):=
 let ⟨ds,hs,hw⟩:=TW hs;⟨_,.inr (.inl ⟨a,xs,ds,rfl,rfl,l,h,hs⟩),by unfold PyData.weight;exact hw⟩
theorem HB{a:Addr}{xs:List V}(l:L a)(ns:sysModules≠a)(h:H a=some (.lst xs))(hs:∀x∈xs,Sw L H n W x):Sw L H (n+1) (xs.length*(W+1)) (.ref a):=
 let ⟨ds,hs,hw⟩:=TW hs;⟨_,.inr (.inr ⟨a,xs,ds,rfl,rfl,l,h,hs,ns⟩),by unfold PyData.weight;exact hw⟩
theorem gX{i:Int}(h:(-1<=i/\i<=33)\/i=10 ^ 59):Sw L H n 200 (.int i):=nG (.inr (.inr (.inl ⟨i,rfl,rfl,h⟩)))
theorem sM:Sw L H n 200 .bD:=nG (.inl ⟨rfl,rfl⟩)
theorem HC{z:Str}(h:z="w"\/z=""):Sw L H n 200 (.str z):=nG (.inr (.inr (.inr (.inl ⟨z,rfl,rfl,h⟩))))
theorem TX{b:Bool}:Sw L H n 200 (.bl b):=nG (.inr (.inl ⟨b,rfl,rfl⟩))
theorem Pb{a:Addr}(l:L a)(h:H a=some (.dK [])):Sw L H n 200 (.ref a):=nG (.inr (.inr (.inr (.inr ⟨a,rfl,rfl,l,h⟩))))
end
end L2
namespace nN
open PySem L2 ix
abbrev k9:=Option (Option Int)
inductive En (K:PySem.W.Frag) (H:Hp):V->k9->Prop where
 |bD:En K H .bD none
 |th {x:V} {o:Option Int} (h:x≠.bD) (w:Wh K H x o):En K H x (some o)
def MU(K:PySem.W.Frag)(H:Hp)(xs:List V)(es:List k9):Prop:=xs.length=es.length/\∀i,i<es.length->En K H (xs.getD i .bD) (es.getD i none)
inductive Th (K:PySem.W.Frag) (H:Hp):V->Option (List k9)->Prop where
 |tup {p:Addr} {xs:List V} {es:List k9} (h:H p=some (.tup xs)) (e:MU K H xs es):Th K H (.ref p) (some es)
 |no {x:V} {t:Value} (ty:JD K H x t) (h:PySem.W.kitOne K t (.type "tuple")=some false):Th K H x none
section
variable {K:PySem.W.Frag}
theorem uP{H:Hp}{x:V}{t:Value}(ty:JD K H x t)(h:PySem.W.kitOne K t (.type "int")=some false\/(PySem.W.kitOne K t (.type "int")=some true/\PySem.W.kitOne K t (.type "bool")=some true)):Wh K H x none:=.no ⟨t,ty,h⟩
theorem _root_.L2.Sh.en{L:Addr->Prop}{H:Hp}{n:Nat}{x:V}{d:PyData}(h:Sh L H n x d):∃e,∀H',kT L H H'->En K H' x e:=by
 have at_:nF L H x d->∃e,∀H',kT L H H'->En K H' x e:=fun h=>by
  rcases h with ⟨rfl,_⟩|⟨c,rfl,_⟩|⟨i,rfl,_⟩|⟨z,rfl,_⟩|⟨a,rfl,_,l,h⟩
  .exact⟨none,fun H' _=>.bD⟩
  .exact⟨some none,fun H' _=>.th (fun z=>by cases z) (uP (.of (.bl _)) (.inr ⟨by kernel_rfl,by kernel_rfl⟩))⟩
  .exact⟨some (some i),fun H' _=>.th (fun z=>by cases z) (.int i)⟩
  .exact⟨some none,fun H' _=>.th (fun z=>by cases z) (uP (.of (.str _)) (.inl (by kernel_rfl)))⟩
  .exact⟨some none,fun H' k=>.th (fun z=>by cases z) (uP (.of (.dK (k a _ l h nofun))) (.inl (by kernel_rfl)))⟩
 match n,h with
 |0,h=>exact at_ h
 |n+1,h=>
  rcases h with h|⟨a,xs,ds,rfl,_,l,h,_⟩|⟨a,xs,ds,rfl,_,l,h,_⟩
  .exact at_ h
  .exact⟨some none,fun H' k=>.th (fun z=>by cases z) (uP (.of (.tup (k a _ l h nofun))) (.inl (by kernel_rfl)))⟩
  .exact⟨some none,fun H' k=>.th (fun z=>by cases z) (uP (.of (.lst (k a _ l h nofun))) (.inl (by kernel_rfl)))⟩
theorem HD{L:Addr->Prop}{H:Hp}{n:Nat}:∀ {xs:List V} {ds:List PyData},F2 (Sh L H n) xs ds->∃es:List k9,∀H',kT L H H'->MU K H' xs es
 |[],[],.nil=>⟨[],fun H' _=>⟨rfl,fun i hi=>(nomatch hi)⟩⟩
 |x::xs,d::ds,.cons h hs=>by
  obtain⟨e,he⟩:=h.en (K:=K);obtain⟨es,IQ⟩:=HD hs;refine⟨e::es,fun H' k=>⟨by rw[dz,dz,(IQ H' k).1],fun i hi=>?_⟩⟩;cases i with
  |zero=>exact he H' k
  |succ i=>exact(IQ H' k).2 i (Nat.lt_of_succ_lt_succ hi)
theorem _root_.L2.Sh.th{L:Addr->Prop}{H:Hp}{n:Nat}{x:V}{d:PyData}(h:Sh L H n x d):∃o,∀H',kT L H H'->Th K H' x o:=by
 have at_:nF L H x d->∃o,∀H',kT L H H'->Th K H' x o:=fun h=>by
  rcases h with ⟨rfl,_⟩|⟨c,rfl,_⟩|⟨i,rfl,_⟩|⟨z,rfl,_⟩|⟨a,rfl,_,l,h⟩
  .exact⟨none,fun H' _=>.no (.of .bD) (by kernel_rfl)⟩
  .exact⟨none,fun H' _=>.no (.of (.bl _)) (by kernel_rfl)⟩
  .exact⟨none,fun H' _=>.no (.of (.int _)) (by kernel_rfl)⟩
  .exact⟨none,fun H' _=>.no (.of (.str _)) (by kernel_rfl)⟩
  .exact⟨none,fun H' k=>.no (.of (.dK (k a _ l h nofun))) (by kernel_rfl)⟩
 match n,h with
 |0,h=>exact at_ h
 |n+1,h=>
  rcases h with h|⟨a,xs,ds,rfl,_,l,h,hs⟩|⟨a,xs,ds,rfl,_,l,h,_⟩
  .exact at_ h
  .obtain⟨es,IQ⟩:=HD (K:=K) hs;exact⟨some es,fun H' k=>.tup (k a _ l h nofun) (IQ H' k)⟩
  .exact⟨none,fun H' k=>.no (.of (.lst (k a _ l h nofun))) (by kernel_rfl)⟩
end
abbrev Pc:Stmt:=iy 24
abbrev Bk:Stmt:=iy 23
theorem TY(n:Int)(tl ol ds:Addr):(tT n tl ol ds).lookup ("out":Str)=none:=wm n tl ol ds (by decide +kernel) (by decide +kernel) (by decide +kernel) (by decide +kernel)
theorem CG{xs:List Nat}:(NV xs).all dA=true:=g8.mpr fun x hx=>by obtain⟨y,_,rfl⟩:=bz.mp hx;rfl
abbrev YQ:=Option (Str×List Nat)
def nI(n:Nat)(ts:Ts)(h:Nat):k9->Bool
 |some (some i)=>EC (.int i) (NV (bn n ts h))
 |_=>false
def tZ(st:List (Option Nat))(es:List k9)(i h j:Nat):Bool:=decide (st.getD j none=some h)&&decide (es.getD j none=es.getD i none)
def qq(n:Nat)(ts:Ts)(st:List (Option Nat))(es:List k9)(i:Nat):YQ:=match st.getD i none with
 |none=>if es.getD i none=none then none else some ("none",[i])
 |some h=>if nI n ts h (es.getD i none)=true then ((List.range i).find? (tZ st es i h)).map fun j=>("twice",[j,i]) else some ("tie",[i])
def sO(n:Nat)(ts:Ts)(st:List (Option Nat)):Option (List k9)->YQ
 |none=>some ("row",[])
 |some es=>if es.length=st.length then (List.range st.length).findSome? (qq n ts st es) else some ("row",[])
def V3(H:Hp):YQ->V->Prop
 |none,r=>r=.bD
 |some (s,l),r=>∃a,r=.ref a/\H a=some (.tup (.str s::NV l))
theorem wJ{α:Type}{f:Nat->Option α}{n:Nat}(h:∀j,j<n->f j=none):(List.range n).findSome? f=none:=yY.mpr fun j hj=>h j (bQ.mp hj)
theorem wK{α:Type}{f:Nat->Option α}{i:Nat}{r:α}(h:f i=some r)(hb:∀j,j<i->f j=none):∀ {n:Nat},i<n->(List.range n).findSome? f=some r
 |0,hi=>absurd hi (jG _)
 |n+1,hi=>by
  rw[jH,List.findSome?_append];by_cases c:i<n
  .rw[wK h hb c];rfl
  .obtain rfl:i=n:=by lia
   rw[wJ hb];simp[h]
theorem CH{n:Nat}{ts:Ts}{st:List (Option Nat)}{es:List k9}{j h:Nat}(hw:qq n ts st es j=none)(hj:st.getD j none=some h):∃z,es.getD j none=some (some z):=by
 unfold qq at hw;rw[hj] at hw;by_cases c:nI n ts h (es.getD j none)=true
 .match e:es.getD j none with
  |none=>rw[e] at c;cases c
  |some none=>rw[e] at c;cases c
  |some (some z)=>exact⟨z,rfl⟩
 .dsimp only at hw;rw[aq c] at hw;cases hw
theorem gf{st:List (Option Nat)}{i:Nat}(h:i<st.length):(st.map oV)[i]?=some (oV (st.getD i none)):=by
 rw[cm,aY,bB h];rfl
theorem uQ{xs:List V}{i:Nat}(h:i<xs.length):xs[i]?=some (xs.getD i .bD):=by
 rw[aY,bB h];rfl
theorem wL{o:Option Nat}{h:Nat}:Nv (oV o) (.int (h:Int))=true:=by cases o <;> rfl
theorem CI{o:Option Nat}{h:Nat}:decide (oV o=V.int (h:Int))=decide (o=some h):=by
 cases o with
 |none=>exact lH.mpr ⟨(fun z=>by cases z),(fun z=>by cases z)⟩
 |some y=>exact lH.mpr ⟨(fun z=>by injection z with z;exact congrArg some (d8 z)),(fun z=>by cases z;rfl)⟩
theorem TZ{K:PySem.W.Frag}{H:Hp}{x:V}{i:Int}(h:Wh K H x (some i)):x=.int i:=by cases h;rfl
theorem KZ{K:PySem.W.Frag}{H:Hp}{x:V}{i:Int}(h:En K H x (some (some i))):x=.int i:=by
 cases h with
 |th _ w=>exact TZ w
section
variable {P:Program} {w:World} {K:PySem.W.Frag} {mg:Str->Option Value} {base:Heap}
theorem Th.row{H:Hp}{x:V}{o:Option (List k9)}(h:Th K H x o):∃o',Rw K H x o'/\∀m,MB o' m=match o with|none=>false|some es=>decide (((es.length:Nat):Int)=m):=by
 cases h with
 |@tup p xs es h e=>exact⟨some xs,.tup h,fun m=>by show decide (((xs.length:Nat):Int)=m)=_;rw[e.1]⟩
 |no ty h=>exact⟨none,.no ty h,fun m=>rfl⟩
theorem En.wh{H:Hp}{x:V}{e:k9}(h:En K H x e):Wh K H x e.join:=by
 cases h with
 |bD=>exact uP (.of .bD) (.inl (by kernel_rfl))
 |th _ w=>exact w
theorem CJ:aS ["net","stand","row","letter","house","goes","ahead"] ["net","stand","row","letter"] (av Pc):=cZ (by decide +kernel)
def HE(K:PySem.W.Frag)(C:Addr):Sp:=fun vs H Q _=>∃ (L:Addr->Prop) (p:Addr) (n:Nat) (ts:Ts) (sa:Addr) (st:List (Option Nat)) (a:Addr) (xs:List V) (es:List k9) (i:Nat),vs=[.ref p,.ref sa,.ref a,.int i]/\eS C H L p n ts/\H sa=some (.tup (st.map oV))/\st.length<=16/\(∀y,some y∈st->y<n)/\H a=some (.tup xs)/\(∀H',aE H H'->MU K H' xs es)/\es.length=st.length/\i<st.length/\(∀j,j<i->qq n ts st es j=none)/\∀r H',aE H H'->V3 H' (qq n ts st es i) r->Q r H'
theorem Pd{f C:Addr}{fd:FuncData}(F:gv K "wrong_of_letter" "wrong_of_letter" Pc f fd)(B:Bl mg)(T:NT K mg C)(IW:cE P w K mg base bu 1 "is_whole" ["thing"] (qI K))(MO:yo P w K mg base bu 5 C "out" ["self","house"] (si C)):bL P w K mg base bu 6 f fd ["net","stand","row","letter"] (HE K C):=by
 obtain⟨fO,fdO,mO,bO,GO⟩:=MO.ex;refine F.ok CJ (fun vs H Q E h=>?_) (fun dW A outer s H vs Q E hr h=>?_)
 .obtain⟨L,p,n,ts,sa,st,a,xs,es,i,rfl,_⟩:=h;rfl
 .obtain⟨L,p,n,ts,sa,st,a,xs,es,i,rfl,N,iB,sl,T4,ha,hE,el,hi,hw,q⟩:=h;have h1:cx 1 _:=hr.mono (by decide);refine⟨_,(ai (aJ (i:=4) CJ.nd rfl aM (aT cg (pv 1) (pv 3) (fun _ _=>rfl)))
   (ai (aJ (i:=5) CJ.nd rfl aM (aT cg (pv 2) (pv 3) (fun _ _=>rfl)))
   (ai (br (aI oF (pv 4) cp (aN _)) (ak (aK (rB (aI oF (pv 5) cp (aN _)) cp (bf (aa fh (aa (pv 3) af)))))) aQ)
   (ai (br (PW.pt (xp (d_ (cR (aG IW h1 aL (aa (pv 5) af)))) (rA (aI vM (pv 5) (vK (pv 0) T.cl mO GO hr bO .nil aL (aa (pv 4) af)) rfl)))) (ak (aK (bf (aa fh (aa (pv 3) af))))) aQ)
   (ai (cq dh rfl (bi rfl B.range (aa (pv 3) af)) (aw (i:=6) CJ.nd rfl aM)
    (ak (br (PW.pt (fJ (aI dY (aT cg (pv 1) (pv 6) (fun _ _=>rfl)) (pv 4) (aN _)) (fG (aI dY (aT cg (pv 2) (pv 6) (fun _ _=>rfl)) (pv 5) (aN _))))) (ak (aK (bf (aa fh (aa (pv 6) (aa (pv 3) af)))))) aQ)))
   (ak (aK cp))))))),?_⟩
  have E0':=hE H (aE.refl _);have xl:xs.length=st.length:=by rw[E0'.1];exact el
  have e1:=E0'.2 i (by lia);refine⟨_,rfl,_,rfl,sa,_,_,_,rfl,rfl,bv.of iB,aA (gf hi),?_⟩;refine⟨_,rfl,_,rfl,a,_,_,_,rfl,rfl,bv.of ha,aA (uQ (by lia)),?_⟩;generalize hx:xs.getD i .bD=x at *;cases ho:st.getD i none with
  |none=>
   have we:qq n ts st es i=if es.getD i none=none then none else some (("none":Str),[i]):=by unfold qq;rw[ho]
   refine⟨_,rfl,rfl,_,rfl,dP ⟨_,rfl,rfl,_,rfl,?_⟩⟩;generalize es.getD i none=e at *;cases e1 with
   |bD=>exact dP (q _ _ (aE.refl _) (by rw[we];rfl))
   |th hn w=>
    refine ir (by simp[hn]) ⟨_,rfl,by show 2<=sizeLine;decide,fun t ht=>q _ _ (aj ht) ?_⟩;rw[we,aq (by simp)];exact⟨t,rfl,ae⟩
  |some h=>
   have hh:h<n:=T4 h (by rw[<-ho,aY,bB hi];exact dH _);have we:qq n ts st es i=if nI n ts h (es.getD i none)=true then ((List.range i).find? (tZ st es i h)).map (fun j=>(("twice":Str),[j,i])) else some (("tie":Str),[i]):=by unfold qq;rw[ho]
   have tie:∀H',aE H H'->nI n ts h (es.getD i none)=false->E3 (jv (aV (tC (.str "tie")) (aV (aW 3) cY))) { nx:=fun _ H'=>Q .bD H',rt:=Q } [some (.ref p),some (.ref sa),some (.ref a),some (.int i),some (.int (h:Int)),some x,none] H':=fun H' s' hb=>by
    refine⟨_,rfl,by show 2<=sizeLine;decide,fun t ht=>q _ _ (s'.trans (aj ht)) ?_⟩;rw[we,aq (by rw[hb];decide)];exact⟨t,rfl,ae⟩
   refine⟨_,rfl,rfl,_,rfl,ir rfl ?_⟩;refine⟨_,rfl,x,_,rfl,e1.wh,_,rfl,?_⟩
   match ee:es.getD i none with
   |none=>exact dP (dP (tie H (aE.refl _) (by rw[ee];rfl)))
   |some none=>exact dP (dP (tie H (aE.refl _) (by rw[ee];rfl)))
   |some (some z)=>
   rw[ee] at e1;obtain rfl:=KZ e1;obtain⟨dx,tl,ol,ds,hN,_⟩:=N.ob;refine cD ⟨_,rfl,_,rfl,p,dx,_,rfl,hN,TY _ _ _ _,_,rfl,L,p,n,ts,h,rfl,N,hh,fun r H4 s4 Kw wF=>⟨r,_,rfl,.inl (aZ.of wF),rfl,CG,_,rfl,?_⟩⟩;cases pR:EC (.int z) (NV (bn n ts h)) with
   |false=>exact dP (tie H4 s4 (by rw[ee];exact pR))
   |true=>
   refine cD ?_;refine⟨_,rfl,_,rfl,by lia,by lia,?_⟩;refine ce (n:=i) (lo:=0) (fun k σ Hc=>(∃b,σ=[some (.ref p),some (.ref sa),some (.ref a),some (.int i),some (.int (h:Int)),some (.int z),b])/\aE H Hc/\∀j,j<k->tZ st es i h j=false) ⟨⟨_,rfl⟩,s4,fun j hj=>absurd hj (jG _)⟩ ?_ ?_
   .rintro k σ Hc hk ⟨⟨b,rfl⟩,sc,yU⟩;rw[d9];refine⟨_,rfl,_,rfl,sa,_,_,_,rfl,rfl,bv.of (sc _ _ iB),aA (gf (by lia)),_,rfl,wL,_,rfl,?_⟩;rw[CI];have T5:tZ st es i h k=false->(∃b,[some (V.ref p),some (.ref sa),some (.ref a),some (.int i),some (.int (h:Int)),some (.int z),some (.int (k:Int))]=[some (.ref p),some (.ref sa),some (.ref a),some (.int i),some (.int (h:Int)),some (.int z),b])/\aE H Hc/\∀j,j<k+1->tZ st es i h j=false:=fun hf=>⟨⟨_,rfl⟩,sc,fun j hj=>by
     by_cases c:j<k
     .exact yU j c
     .obtain rfl:j=k:=by lia
      exact hf⟩
    by_cases c:st.getD k none=some h
    .rw[cL c];obtain⟨z2,ez⟩:=CH (hw k hk) c;have ex:xs.getD k .bD=.int z2:=KZ (by have:=(hE Hc sc).2 k (by lia);rw[ez] at this;exact this);refine dP ⟨_,rfl,_,rfl,a,_,_,_,rfl,rfl,bv.of (sc _ _ ha),aA (by rw[uQ (by lia),ex]),_,rfl,rfl,_,rfl,?_⟩;have ea:tZ st es i h k=decide (V.int z2=V.int z):=by
      unfold tZ;rw[cL c,zZ,ez,ee];exact lH.mpr ⟨(fun y=>by cases y;rfl),(fun y=>by cases y;rfl)⟩
     rw[<-ea];cases JV:tZ st es i h k with
     |false=>exact cD (T5 JV)
     |true=>
      refine dP ⟨_,rfl,_,rfl,by show 3<=sizeLine;decide,fun t ht=>q _ _ (sc.trans (aj ht)) ?_⟩;rw[we,ap (by rw[ee];exact pR),List.find?_range_eq_some.mpr ⟨JV,bQ.mpr hk,fun j hj=>by rw[yU j hj];rfl⟩];exact⟨t,rfl,ae⟩
    .rw[dO c];exact cD (cD (T5 (by unfold tZ;rw[dO c];rfl)))
   .rintro σ Hc ⟨⟨b,rfl⟩,sc,yU⟩;refine q _ _ sc ?_;rw[we,ap (by rw[ee];exact pR),List.find?_range_eq_none.mpr fun j hj=>by rw[yU j hj];rfl];rfl
theorem wM:aS ["net","homes","stand","thing","letter","fault"] ["net","homes","stand","thing"] (av Bk):=cZ (by decide +kernel)
def wN(K:PySem.W.Frag)(C:Addr):Sp:=fun vs H Q _=>∃ (L:Addr->Prop) (p:Addr) (n:Nat) (ts:Ts) (ha:Addr) (homes:List Nat) (sa:Addr) (st:List (Option Nat)) (x:V) (o:Option (List k9)),vs=[.ref p,.ref ha,.ref sa,x]/\eS C H L p n ts/\H ha=some (.tup (NV homes))/\homes.length=st.length/\H sa=some (.tup (st.map oV))/\st.length<=16/\(∀y,some y∈st->y<n)/\(∀H',aE H H'->Th K H' x o)/\∀r H',aE H H'->V3 H' (sO n ts st o) r->Q r H'
theorem HF{f C:Addr}{fd:FuncData}(F:gv K "wrong" "wrong" Bk f fd)(B:Bl mg)(RW:cE P w K mg base bu 1 "is_row" ["thing","length"] (ym K))(WL:cE P w K mg base bu 6 "wrong_of_letter" ["net","stand","row","letter"] (HE K C)):bL P w K mg base bu 7 f fd ["net","homes","stand","thing"] (wN K C):=by
 refine F.ok wM (fun vs H Q E h=>?_) (fun dW A outer s H vs Q E hr h=>?_)
 .obtain⟨L,p,n,ts,ha,homes,sa,st,x,o,rfl,_⟩:=h;rfl
 .obtain⟨L,p,n,ts,ha,homes,sa,st,x,o,rfl,N,nJ,hl,iB,sl,T4,hx,q⟩:=h;have h1:cx 1 _:=hr.mono (by decide);refine⟨_,(ai (br (d_ (cR (aG RW h1 aL (aa (pv 3) (aa (aB aF (by rfl) B.len cn (aa (pv 1) af)) af))))) (ak (aK (bf (aa fh af)))) aQ)
   (ai (cq dh rfl (bi rfl B.range (aa (aB aF (by rfl) B.len cn (aa (pv 1) af)) af)) (aw (i:=4) wM.nd rfl aM)
    (ai (aJ (i:=5) wM.nd rfl aM (aG WL hr aL (aa (pv 0) (aa (pv 2) (aa (pv 3) (aa (pv 4) af))))))
    (ak (br (aI ju (pv 5) cp (aN _)) (ak (aK (pv 5))) aQ))))
   (ak (aK cp)))),?_⟩
  have NS:=hx H (aE.refl _);obtain⟨o',Rx,eR⟩:=NS.row;refine⟨_,rfl,_,rfl,ha,_,rfl,.inr (bv.of nJ),x,o',_,rfl,Rx,_,rfl,?_⟩;rw[eR,aR,hl];have row:sO n ts st o=some (("row":Str),[])->E3 (jv (aV (tC (.str "row")) cY)) { nx:=fun _ H'=>Q .bD H',rt:=Q } [some (.ref p),some (.ref ha),some (.ref sa),some x,none,none] H:=fun hb=>by
   refine⟨by show 1<=sizeLine;decide,fun t ht=>q _ _ (aj ht) ?_⟩;rw[hb];exact⟨t,rfl,ae⟩
  cases NS with
  |no ty h=>exact dP (row rfl)
  |@tup a xs es qr en=>
  by_cases el:es.length=st.length
  rotate_left
  .exact gL (by simp;lia) (row (by show (if es.length=st.length then _ else _)=_;rw[aq el]))
  have wb:sO n ts st (some es)=(List.range st.length).findSome? (qq n ts st es):=by show (if es.length=st.length then _ else _)=_;rw[ap el]
  have Pe:∀H',aE H H'->MU K H' xs es:=fun H' s=>by
   have:=hx H' s;cases this with
   |@tup _ xs' _ h' e'=>
    have:=s _ _ qr;rw[this] at h';cases h';exact e'
  refine ir (by simp;lia) ?_;refine⟨_,rfl,ha,_,rfl,.inr (bv.of nJ),_,rfl,by lia,by rw[aR];lia,?_⟩;rw[aR,hl];refine ce (n:=st.length) (lo:=0) (fun k σ Hc=>(∃u v,σ=[some (.ref p),some (.ref ha),some (.ref sa),some (.ref a),u,v])/\aE H Hc/\∀j,j<k->qq n ts st es j=none) ⟨⟨_,_,rfl⟩,aE.refl _,fun j hj=>absurd hj (jG _)⟩ ?_ ?_
  .rintro k σ Hc hk ⟨⟨u,v,rfl⟩,sc,yU⟩;rw[d9];refine⟨_,rfl,_,rfl,_,rfl,_,rfl,L,p,n,ts,sa,st,a,xs,es,k,rfl,N.same sc,sc _ _ iB,sl,T4,sc _ _ qr,fun H' s'=>Pe H' (sc.trans s'),el,hk,yU,fun r H2 s2 wE=>?_⟩;cases hw:qq n ts st es k with
   |none=>
    rw[hw] at wE;obtain rfl:r=.bD:=wE;refine⟨_,rfl,rfl,_,rfl,cD ⟨⟨_,_,rfl⟩,sc.trans s2,fun j hj=>?_⟩⟩;by_cases c:j<k
    .exact yU j c
    .obtain rfl:j=k:=by lia
     exact hw
   |some rs=>
    have hb:sO n ts st (some es)=some rs:=by rw[wb];exact wK hw yU hk
    have k2:=q r H2 (sc.trans s2) (by rw[hb,<-hw];exact wE);rw[hw] at wE;obtain⟨b,rfl,_⟩:=wE;exact⟨_,rfl,rfl,_,rfl,gL rfl ⟨_,rfl,k2⟩⟩
  .rintro σ Hc ⟨⟨u,v,rfl⟩,sc,yU⟩;exact q _ _ sc (by rw[wb,wJ yU];rfl)
end
abbrev HG:Stmt:=iy 58
abbrev wO:Stmt:=iy 59
theorem jd:(["_law_j","_law_stand_here","_law_i","_law_thing"]:List Str).Nodup:=by decide +kernel
theorem bG.same{H H':Hp}{L:Addr->Prop}{l:Addr}{n:Nat}{r:Nat->List Nat}(R:bG H L l n r)(s:aE H H'):bG H' L l n r:=
 let ⟨bs,a,b,c⟩:=R
 ⟨bs,s _ _ a,b,c.mono fun j _ e=>s _ _ e⟩
theorem nK{bs:List Addr}{h:Nat}(hh:h<bs.length):(bs.map V.ref)[h]?=some (.ref (bs.getD h 0)):=by
 rw[cm,aY,bB hh];rfl
theorem Ea{n:Nat}{ts:Ts}{h:Nat}:∀e:k9,nI n ts h (some e.join)=nI n ts h e
 |none=>rfl
 |some _=>rfl
section
variable {P:Program} {w:World} {K:PySem.W.Frag} {mg:Str->Option Value} {base:Heap}
theorem Pf:aS ["_law_n","_law_outs_here","_law_house","_law_thing"] ["_law_n","_law_outs_here","_law_house","_law_thing"] (av HG):=cZ (by decide +kernel)
def Bm(K:PySem.W.Frag):Sp:=fun vs H Q _=>∃ (n:Nat) (r:Addr) (ts:Ts) (L:Addr->Prop) (h:Nat) (x:V) (o:Option Int),vs=[.int n,.ref r,.int h,x]/\bG H L r n (bn n ts)/\h<n/\Wh K H x o/\Q (.bl (nI n ts h (some o))) H
theorem K0{f:Addr}{fd:FuncData}(F:gv K "_law_is_step" "_law_is_step" HG f fd)(B:Bl mg):bL P w K mg base bu 1 f fd ["_law_n","_law_outs_here","_law_house","_law_thing"] (Bm K):=by
 refine F.ok Pf (fun vs H Q E h=>?_) (fun dW A outer s H vs Q E hr h=>?_)
 .obtain⟨n,r,ts,L,h,x,o,rfl,_⟩:=h;rfl
 .obtain⟨n,r,ts,L,h,x,o,rfl,R,hh,W,q⟩:=h;refine⟨_,(ai (br (PW.pt (xp (d_ (cR (aB e_ (by rfl) B.DR iX (aa (pv 3) (aa (gu (v:=.ty "int") rfl B.int PyProof.Rows.boot_int rfl) af))))) (rA (cR (aB e_ (by rfl) B.DR iX (aa (pv 3) (aa (gu (v:=.ty "bool") rfl B.bool PyProof.Rows.boot_bool rfl) af))))))) (ak (aK mG)) aQ)
   (ak (aK (iG oK (pv 3) (aT aO (pv 1) (pv 2) (fun _ _=>rfl)) rfl)))),?_⟩
  cases W with
  |int i=>
   obtain⟨bs,b1,b2,b3⟩:=R;refine⟨_,rfl,_,_,_,.type "int",true,rfl,⟨rfl,pW⟩,.of (.int _),_,rfl,cD ?_⟩;refine⟨_,rfl,_,_,_,.type "int",false,rfl,⟨rfl,ng⟩,.of (.int _),_,rfl,cD ?_⟩;exact⟨_,rfl,_,rfl,_,rfl,r,_,_,_,rfl,rfl,aZ.of b1,aA (nK (by rw[b3.1];exact hh)),_,_,rfl,.inl (aZ.of (b3.2 h hh)),rfl,CG,q⟩
  |no h=>
   obtain⟨t,ty,h|⟨h1,h2⟩⟩:=h
   .exact⟨_,rfl,_,_,_,t,false,rfl,⟨rfl,h⟩,ty,_,rfl,dP (dP q)⟩
   .refine⟨_,rfl,_,_,_,t,true,rfl,⟨rfl,h1⟩,ty,_,rfl,cD ?_⟩;exact⟨_,rfl,_,_,_,t,true,rfl,⟨rfl,h2⟩,ty,_,rfl,dP q⟩
theorem sQ:aS ["_law_n","_law_outs_here","_law_stand_here","_law_thing","_law_i","_law_alike"] ["_law_n","_law_outs_here","_law_stand_here","_law_thing"] (av wO):=cZ (by decide +kernel)
def sR(K:PySem.W.Frag):Sp:=fun vs H Q _=>∃ (n:Nat) (r:Addr) (ts:Ts) (L:Addr->Prop) (sa:Addr) (st:List (Option Nat)) (x:V) (o:Option (List k9)),vs=[.int n,.ref r,.ref sa,x]/\bG H L r n (bn n ts)/\H sa=some (.tup (st.map oV))/\st.length<=16/\(∀y,some y∈st->y<n)/\(∀H',aE H H'->Th K H' x o)/\∀r H',aE H H'->V3 H' (sO n ts st o) r->Q r H'
theorem Eb{f:Addr}{fd:FuncData}(F:gv K "_law_wrong" "_law_wrong" wO f fd)(B:Bl mg)(IS:cE P w K mg base bu 1 "_law_is_step" ["_law_n","_law_outs_here","_law_house","_law_thing"] (Bm K)):bL P w K mg base bu 2 f fd ["_law_n","_law_outs_here","_law_stand_here","_law_thing"] (sR K):=by
 refine F.ok sQ (fun vs H Q E h=>?_) (fun dW A outer s H vs Q E hr h=>?_)
 .obtain⟨n,r,ts,L,sa,st,x,o,rfl,_⟩:=h;rfl
 .obtain⟨n,r,ts,L,sa,st,x,o,rfl,R,iB,sl,T4,hx,q⟩:=h;refine'⟨_,(ai (br (PW.pt (xp (d_ (cR (aB e_ (by rfl) B.DR iX (aa (pv 3) (aa (gu (v:=.ty "tuple") rfl B.tup lh rfl) af))))) (rA (aI pL (aB aF (by rfl) B.len cn (aa (pv 3) af)) (aB aF (by rfl) B.len cn (aa (pv 2) af)) (aN _))))) (ak (aK (bf (aa fh af)))) aQ)
   (ai (cq dh rfl (bi rfl B.range (aa (aB aF (by rfl) B.len cn (aa (pv 2) af)) af)) (aw (i:=4) sQ.nd rfl bU)
    (ak (br (aI oF (aT cg (pv 2) (pv 4) (fun _ _=>rfl)) cp (aN _)) (ak (br (aI ju (aT cg (pv 3) (pv 4) (fun _ _=>rfl)) cp (aN _)) (ak (aK (bf (aa fh (aa (pv 4) af))))) aQ)) (ak (br (d_ (cR (aG IS hr aL (aa (pv 0) (aa (pv 1) (aa (aT cg (pv 2) (pv 4) (fun _ _=>rfl)) (aa (aT cg (pv 3) (pv 4) (fun _ _=>rfl)) af))))))) (ak (aK (bf (aa fh (aa (pv 4) af))))) (ai (cS (i:=5) (g:=(bE 0)) (tt:=(C2 (i6 (gE (Rm) (gE (xz K) (aW 1) (aW 0)) (gE (xz K) (aW 1) (aW 2)))) (i6 (gE (Rm) (gE (xz K) (aW 3) (aW 0)) (gE (xz K) (aW 3) (aW 2)))))) (te:=(aW 0)) (NB:=["_law_j","_law_stand_here","_law_i","_law_thing"]) (src:=[none,some 2,some 4,some 3]) (bN (by kernel_rfl)) rfl (bi rfl B.range (aa (pv 4) af)) ?g1 ?t1 ?e1 sQ.nd rfl rfl rfl)
      (ak (br (aI (vX (e:=jL) hr.u) (pv 5) (bZ af) (aN _)) (ak (aK (bf (aa fh (aa (aT aO (pv 5) au (fun _ _=>rfl)) (aa (pv 4) af)))))) aQ))))))))
   (ak (aK cp)))),?_⟩
  case g1=>exact fun cl C s₃ H₃ fp=>(aw (i:=0) jd rfl aM bU)
  case t1=>exact fun cl C s₃ H₃ fp=>fK (PW.pt (fJ (aI dY (aT cg (pv 1) (pv 0) (fun _ _=>rfl)) (aT cg (pv 1) (pv 2) (fun _ _=>rfl)) (aN _)) (fG (aI dY (aT cg (pv 3) (pv 0) (fun _ _=>rfl)) (aT cg (pv 3) (pv 2) (fun _ _=>rfl)) (aN _)))))
  case e1=>exact fun cl C s₃ H₃ fp=>(pv 0)
  have NS:=hx H (aE.refl _);have row:sO n ts st o=some (("row":Str),[])->E3 (jv (aV (tC (.str "row")) cY)) { nx:=fun _ H'=>Q .bD H',rt:=Q } [some (.int (n:Int)),some (.ref r),some (.ref sa),some x,none,none] H:=fun hb=>by
   refine⟨by show 1<=sizeLine;decide,fun t ht=>q _ _ (aj ht) ?_⟩;rw[hb];exact⟨t,rfl,ae⟩
  cases NS with
  |no ty h=>exact⟨_,rfl,_,_,_,_,false,rfl,⟨rfl,h⟩,ty,_,rfl,dP (dP (row rfl))⟩
  |@tup a xs es qr en=>
  have el0:=en.1;refine⟨_,rfl,_,_,_,.type "tuple",true,rfl,⟨rfl,nj⟩,.of (.tup qr),_,rfl,cD ?_⟩;refine⟨_,rfl,a,_,rfl,.inr (bv.of qr),_,rfl,sa,_,rfl,.inr (bv.of iB),rfl,_,rfl,?_⟩;rw[aP];by_cases el:es.length=st.length
  rotate_left
  .exact gL (by simp;lia) (row (by show (if es.length=st.length then _ else _)=_;rw[aq el]))
  have wb:sO n ts st (some es)=(List.range st.length).findSome? (qq n ts st es):=by show (if es.length=st.length then _ else _)=_;rw[ap el]
  have Pe:∀H',aE H H'->MU K H' xs es:=fun H' s=>by
   have:=hx H' s;cases this with
   |@tup _ xs' _ h' e'=>
    have:=s _ _ qr;rw[this] at h';cases h';exact e'
  refine ir (by simp;lia) ?_;refine⟨_,rfl,sa,_,rfl,.inr (bv.of iB),_,rfl,by lia,by rw[aP];lia,?_⟩;rw[aP];refine ce (n:=st.length) (lo:=0) (fun k σ Hc=>(∃u v,σ=[some (.int (n:Int)),some (.ref r),some (.ref sa),some (.ref a),u,v])/\aE H Hc/\∀j,j<k->qq n ts st es j=none) ⟨⟨_,_,rfl⟩,aE.refl _,fun j hj=>absurd hj (jG _)⟩ ?_ ?_
  .rintro i σ Hc hi ⟨⟨u,v,rfl⟩,sc,yU⟩;rw[d9];have xl:i<xs.length:=by lia
   have e1:=(Pe Hc sc).2 i (by lia);have T5:∀v H',aE H H'->qq n ts st es i=none->(∃u w,[some (V.int (n:Int)),some (.ref r),some (.ref sa),some (.ref a),some (.int (i:Int)),v]=[some (.int (n:Int)),some (.ref r),some (.ref sa),some (.ref a),u,w])/\aE H H'/\∀j,j<i+1->qq n ts st es j=none:=fun v H' s' hf=>⟨⟨_,_,rfl⟩,s',fun j hj=>by
    by_cases c:j<i
    .exact yU j c
    .obtain rfl:j=i:=by lia
     exact hf⟩
   have ret:∀r' H' rs,aE H H'->qq n ts st es i=some rs->V3 H' (some rs) r'->Q r' H':=fun r' H' rs s' hf BY=>q _ _ s' (by rw[wb,wK hf yU hi];exact BY);refine⟨_,rfl,_,rfl,sa,_,_,_,rfl,rfl,bv.of (sc _ _ iB),aA (gf hi),rfl,_,rfl,?_⟩;cases ho:st.getD i none with
   |none=>
    have we:qq n ts st es i=if es.getD i none=none then none else some (("none":Str),[i]):=by unfold qq;rw[ho]
    refine dP ⟨_,rfl,_,rfl,a,_,_,_,rfl,rfl,bv.of (sc _ _ qr),aA (uQ xl),rfl,_,rfl,?_⟩;generalize es.getD i none=e at *;generalize xs.getD i .bD=y at *;cases e1 with
    |bD=>exact cD (T5 _ _ sc (by rw[we];rfl))
    |th hn w=>
     refine gL (by simp[hn]) ⟨_,rfl,by show 2<=sizeLine;decide,fun t ht=>ret _ _ _ (sc.trans (aj ht)) (by rw[we,aq (by simp)]) ⟨t,rfl,ae⟩⟩
   |some h=>
    have hh:h<n:=T4 h (by rw[<-ho,aY,bB hi];exact dH _);have we:qq n ts st es i=if nI n ts h (es.getD i none)=true then ((List.range i).find? (tZ st es i h)).map (fun j=>(("twice":Str),[j,i])) else some (("tie":Str),[i]):=by unfold qq;rw[ho]
    have oi:(st.map oV)[i]?=some (.int (h:Int)):=by rw[gf hi,ho];rfl
    refine cD ⟨_,rfl,_,rfl,_,rfl,_,rfl,sa,_,_,_,rfl,rfl,bv.of (sc _ _ iB),aA oi,_,rfl,_,rfl,a,_,_,_,rfl,rfl,bv.of (sc _ _ qr),aA (uQ xl),n,r,ts,L,h,_,_,rfl,R.same sc,hh,e1.wh,_,rfl,?_⟩;rw[Ea];cases hs:nI n ts h (es.getD i none) with
    |false=>exact dP ⟨_,rfl,by show 2<=sizeLine;decide,fun t ht=>ret _ _ _ (sc.trans (aj ht)) (by rw[we,aq (by rw[hs];decide)]) ⟨t,rfl,ae⟩⟩
    |true=>
    rw[ap hs] at we;obtain⟨z,ez⟩:∃z,es.getD i none=some (some z):=by
     match e:es.getD i none with
     |none=>rw[e] at hs;cases hs
     |some none=>rw[e] at hs;cases hs
     |some (some z)=>exact⟨z,rfl⟩
    have ex:xs[i]?=some (.int z):=by rw[uQ xl];rw[ez] at e1;rw[KZ e1]
    refine cD ?_;refine⟨_,rfl,(i:Int),rfl,by lia,by lia,fun D1 pY=>?_⟩;refine ww (lo:=0) (n:=i) (tZ st es i h) (fun σ=>∃b,σ=[b,some (.ref sa),some (.int (i:Int)),some (.ref a)]) pY (by lia) ⟨_,rfl⟩ ?_ ?_
    .rintro j σ H5 Kt Kf hj ⟨b',rfl⟩ tm kt kf;rw[d9] at kt |-;have s5:=sc.trans tm;refine⟨_,rfl,_,rfl,sa,_,_,_,rfl,rfl,bv.of (s5 _ _ iB),aA (gf (by lia)),_,rfl,_,rfl,sa,_,_,_,rfl,rfl,bv.of (s5 _ _ iB),aA oi,wL,_,rfl,?_⟩;rw[CI];by_cases c:st.getD j none=some h
     .rw[cL c];obtain⟨z2,Hj⟩:=CH (yU j hj) c;have ej:xs[j]?=some (.int z2):=by rw[uQ (by lia)];exact congrArg some (KZ (by have:=(Pe Hc sc).2 j (by lia);rw[Hj] at this;exact this))
      refine dP ⟨_,rfl,_,rfl,a,_,_,_,rfl,rfl,bv.of (s5 _ _ qr),aA ej,_,rfl,_,rfl,a,_,_,_,rfl,rfl,bv.of (s5 _ _ qr),aA ex,rfl,_,rfl,?_⟩;have ea:tZ st es i h j=decide (V.int z2=V.int z):=by
       unfold tZ;rw[cL c,zZ,ez,Hj];exact lH.mpr ⟨(fun y=>by cases y;rfl),(fun y=>by cases y;rfl)⟩
      rw[<-ea];cases JV:tZ st es i h j with
      |false=>exact cD (kf _ _ ⟨_,rfl⟩ (aE.refl _) JV)
      |true=>exact dP ⟨_,rfl,kt _ _ ⟨_,rfl⟩ (aE.refl _) JV⟩
     .rw[dO c];exact cD (cD (kf _ _ ⟨_,rfl⟩ (aE.refl _) (by unfold tZ;rw[dO c];rfl)))
    intro H5 s8 sI;have e0:(((List.range i).filter (tZ st es i h)).map fun (x:Nat)=>V.int (0+(x:Int)))=NV ((List.range i).filter (tZ st es i h)):=jF fun x _=>by rw[d9]
    rw[e0] at sI;have hf:=List.head?_filter (p:=tZ st es i h) (l:=List.range i);have s5:=sc.trans s8;generalize (List.range i).filter (tZ st es i h)=fs at *;rw[<-hf] at we;refine⟨_,rfl,by show 0<=sizeLine;decide,fun E1 OM=>?_⟩;have sE:=aj (o:=.lst []) OM;refine⟨D1,E1,_,[],rfl,rfl,aZ.of (sE _ _ sI),aZ.of ae,fun i h1 h2=>absurd h2 (by simp),_,rfl,?_⟩;rw[ap rfl,k8];cases fs with
    |nil=>exact cD (T5 _ _ (s5.trans sE) we)
    |cons j js=>
     refine gL rfl ⟨_,rfl,D1,_,_,_,rfl,rfl,aZ.of (sE _ _ sI),aA (j:=0) (v:=.int (j:Int)) rfl,_,rfl,by show 3<=sizeLine;decide,fun t ht=>ret _ _ _ ((s5.trans sE).trans (aj ht)) we ⟨t,rfl,ae⟩⟩
  .rintro σ Hc ⟨⟨u,v,rfl⟩,sc,yU⟩;exact q _ _ sc (by rw[wb,wJ yU];rfl)
end
abbrev Bo:Stmt:=iy 51
theorem HI:(["_law_row"]:List Str).Nodup:=by decide +kernel
theorem kU{cs:List Addr}{j:Nat}(h:j<cs.length):cs.getD j 0∈cs:=by rw[aY,bB h];exact dH _
theorem HJ{cs:List Addr}{i j:Nat}(nd:cs.Nodup)(hi:i<cs.length)(hj:j<cs.length)(ne:i≠j):cs.getD i 0≠cs.getD j 0:=by
 rw[aY,bB hi,aY,bB hj];exact fun e=>ne ((vc nd).mp e)
theorem qM{n:Nat}{ts:Ts}{h:Nat}:(bn n ts h).length<=n:=by
 unfold bn;exact bC (iE _ _) (by rw[aP,b8];exact bt _)
theorem Bp{n:Nat}{ts:Ts}{h x:Nat}(n1:0<n)(hx:x∈bn n ts h):x<n:=by
 obtain⟨s,_,rfl⟩:=bz.mp (dD.mp hx).1;exact iQ _ n1
theorem HK{α:Type}[DecidableEq α]:∀ {a b:List α},a.Nodup->(∀x∈a,x∈b)->a.length<=b.length
 |[],b,_,_=>cM _
 |x::xs,b,hn,hs=>by
  obtain⟨h1,h2⟩:=fY.mp hn;have hx:x∈b:=hs x bW;have:=HK (b:=b.erase x) h2 fun y hy=>(zk (fun (e:y=x)=>h1 (e ▸ hy))).mpr (hs y (cX _ hy));rw[y8 hx] at this;have:0<b.length:=uW hx;rw[dz];lia
theorem HL{n:Nat}{ts:Ts}{h:Nat}(F:cT n ts)(hh:h<n):(bn n ts h).length=gU ts (ci h):=by
 have p:((bn n ts h).map fun (o:Nat)=>(ci h,ci o)).Perm (ts.filter fun t=>decide (t.1=ci h)):=by
  refine(List.perm_ext_iff_of_nodup (i0.mpr ((r_ hh).imp fun {x y} q e=>q (d8 (congrArg Prod.snd e)))) (F.nd.filter _)).mpr fun u=>?_;rw[bz,dD];constructor
  .rintro⟨o,ho,rfl⟩;exact⟨(fc F hh).mp ho,cL rfl⟩
  .rintro⟨a,b⟩;have r:=F.rg u a;refine⟨u.2.toNat,(fc F hh).mpr ?_,?_⟩
   .show (ci h,ci u.2.toNat)∈ts;rw[show (ci h,ci u.2.toNat)=u from gm (cW b).symm (show ((u.2.toNat:Nat):Int)=u.2 by lia)];exact a
   .exact gm (cW b).symm (show ((u.2.toNat:Nat):Int)=u.2 by lia)
 unfold gU;rw[<-p.length_eq,aP]
theorem wP{P P':Nat->Bool}{i:Nat}(he:∀j,j≠i->P' j=P j)(hi:P i=false):∀ {m:Nat},i<m->(List.range m).countP P'=(List.range m).countP P+(if P' i=true then 1 else 0)
 |0,h=>absurd h (jG _)
 |m+1,h=>by
  rw[jH,List.countP_append,List.countP_append,List.countP_singleton,List.countP_singleton];by_cases c:i<m
  .rw[wP he hi c,he m (by lia)];lia
  .obtain rfl:i=m:=by lia
   rw[show (List.range i).countP P'=(List.range i).countP P from zK fun j hj=>by rw[he j (by have:=bQ.mp hj;lia)],hi];simp
theorem yD{P P':Nat->Bool}(h:∀j,P j=true->P' j=true){m:Nat}:(List.range m).countP P<=(List.range m).countP P':=List.countP_mono_left fun j _=>h j
theorem Pg{P P':Nat->Bool}{i:Nat}(h:∀j,P j=true->P' j=true)(hi:P i=false)(tQ:P' i=true){m:Nat}(hm:i<m):(List.range m).countP P<(List.range m).countP P':=by
 have a:=wP (P:=P) (P':=fun j=>if j=i then true else P j) (i:=i) (fun j hj=>aq hj) hi hm;have b:=yD (P:=fun j=>if j=i then true else P j) (P':=P') (m:=m) fun j hj=>by
  by_cases c:j=i
  .rw[c];exact tQ
  .rw[aq c] at hj;exact h j hj
 rw[ap rfl,ap rfl] at a;lia
theorem Ph{st:List (Option Nat)}:st=(List.range st.length).map fun j=>st.getD j none:=by
 apply j3;intro i;by_cases h:i<st.length
 .rw[cm,hX h];simp[aY,h]
 .rw[de (by lia),de (by rw[aP,b8];lia)]
theorem CK{st:List (Option Nat)}{o:Option Nat}:st.count o=(List.range st.length).countP fun j=>decide (st.getD j none=o):=by
 have e:st.count o=((List.range st.length).map fun j=>st.getD j none).count o:=congrArg _ Ph;rw[e,List.count_eq_countP,zU];exact zK fun j _=>by simp
def sU(st fs:List (Option Nat))(h j:Nat):Bool:=decide (st.getD j none=some h)&&(fs.getD j none).isSome
structure mf(n:Nat)(ts:Ts)(st fs:List (Option Nat))(ls:Nat->List Nat):Prop where
 len:fs.length=st.length
 nd:∀h,h<n->(ls h).Nodup
 sub:∀h,h<n->∀x∈ls h,x∈bn n ts h
 cnt:∀h,h<n->(ls h).length+(List.range st.length).countP (sU st fs h)=(bn n ts h).length
 out:∀j y,fs.getD j none=some y->∃h,h<n/\st.getD j none=some h/\y∈bn n ts h/\y∉ls h
 inj:∀j k y,j≠k->fs.getD j none=some y->fs.getD k none=some y->st.getD j none≠st.getD k none
theorem wQ{m j:Nat}:(List.replicate m (none:Option Nat)).getD j none=none:=by
 rw[aY,qO];split <;> rfl
theorem mf.start{n:Nat}{ts:Ts}{st:List (Option Nat)}:mf n ts st (List.replicate st.length none) (bn n ts):=
 ⟨jU,fun h hh=>r_ hh,fun h _ x hx=>hx,fun h _=>by
  rw[show (List.range st.length).countP (sU st (List.replicate st.length none) h)=0 from List.countP_eq_zero.mpr fun j _=>by unfold sU;rw[wQ];simp];rfl,(fun j y hy=>by rw[wQ] at hy;cases hy),(fun j k y _ hy=>by rw[wQ] at hy;cases hy)⟩
theorem mh{fs:List (Option Nat)}{i j:Nat}{o:Option Nat}(hi:i<fs.length):(fs.set i o).getD j none=if j=i then o else fs.getD j none:=by
 rw[aY,n6];by_cases c:i=j
 .subst c;rw[ap rfl,ap hi,ap rfl];rfl
 .rw[aq c,aq (fun z=>c z.symm),aY]
theorem mf.step{n:Nat}{ts:Ts}{st fs:List (Option Nat)}{ls:Nat->List Nat}(I:mf n ts st fs ls){i h y:Nat}{l:List Nat}(hi:i<st.length)(hs:st.getD i none=some h)(hh:h<n)(hf:fs.getD i none=none)(hy:y∈ls h)(l1:l.Nodup)(l2:∀x∈l,x∈ls h/\x≠y)(l3:l.length+1=(ls h).length):mf n ts st (fs.set i (some y)) fun k=>if k=h then l else ls k:=by
 have tQ:i<fs.length:=by rw[I.len];exact hi
 refine⟨by rw[jI];exact I.len,fun k hk=>?_,fun k hk x hx=>?_,fun k hk=>?_,fun j z hz=>?_,fun j k z ne h1 h2=>?_⟩
 .split
  .exact l1
  .exact I.nd k hk
 .split at hx
  .rename_i e;subst e;exact I.sub k hk x (l2 x hx).1
  .exact I.sub k hk x hx
 .have c:=wP (P:=sU st fs k) (P':=sU st (fs.set i (some y)) k) (i:=i) (fun j hj=>by unfold sU;rw[mh tQ,aq hj]) (by unfold sU;rw[hf];simp) hi;have e:sU st (fs.set i (some y)) k i=decide (k=h):=by
   unfold sU;rw[mh tQ,ap rfl,hs,zB,vp];exact lH.mpr ⟨(fun z=>(bP z).symm),(fun z=>by rw[z])⟩
  rw[e] at c;have:=I.cnt k hk;by_cases ck:k=h
  .subst ck;rw[ap rfl,c,cL rfl,ap rfl];lia
  .rw[aq ck,c,dO ck,aq (by decide)];lia
 .rw[mh tQ] at hz;split at hz
  .rename_i e;subst e;cases hz;refine⟨h,hh,hs,I.sub h hh _ hy,?_⟩;rw[ap rfl];exact fun m=>(l2 _ m).2 rfl
  .obtain⟨k,a,b,c,d⟩:=I.out j z hz;refine⟨k,a,b,c,fun m=>d ?_⟩;split at m
   .rename_i e;subst e;exact(l2 _ m).1
   .exact m
 .rw[mh tQ] at h1 h2;by_cases c1:j=i
  .subst c1;rw[ap rfl] at h1;rw[aq (fun z=>ne z.symm)] at h2;cases h1;obtain⟨k',_,b,_,d⟩:=I.out k y h2;rw[hs,b];exact fun e=>d (by cases e;exact hy)
  .rw[aq c1] at h1;by_cases c2:k=i
   .subst c2;rw[ap rfl] at h2;cases h2;obtain⟨k',_,b,_,d⟩:=I.out j y h1;rw[hs,b];exact fun e=>d (by cases e;exact hy)
   .rw[aq c2] at h2;exact I.inj j k z ne h1 h2
theorem mf.full{n:Nat}{ts:Ts}{st fs:List (Option Nat)}{ls:Nat->List Nat}(I:mf n ts st fs ls){i h:Nat}(hi:i<st.length)(hs:st.getD i none=some h)(hh:h<n)(hf:fs.getD i none=none)(QP:st.count (some h)<=(bn n ts h).length):0<(ls h).length:=by
 have a:=I.cnt h hh;rw[CK] at QP;have b:=Pg (P:=sU st fs h) (P':=fun j=>decide (st.getD j none=some h)) (i:=i) (fun j hj=>(nZ.mp hj).1) (by unfold sU;rw[hf];simp) (cL hs) hi;lia
structure Hd(n:Nat)(ts:Ts)(st fs:List (Option Nat)):Prop where
 len:fs.length=st.length
 bD:∀j,st.getD j none=none->fs.getD j none=none
 out:∀j h,st.getD j none=some h->∃y,fs.getD j none=some y/\y∈bn n ts h
 inj:∀j k y,j≠k->fs.getD j none=some y->fs.getD k none=some y->st.getD j none≠st.getD k none
theorem mf.done{n:Nat}{ts:Ts}{st fs:List (Option Nat)}{ls:Nat->List Nat}(I:mf n ts st fs ls)(h:∀j,st.getD j none≠none->fs.getD j none≠none):Hd n ts st fs:=by
 refine⟨I.len,fun j hj=>?_,fun j k hk=>?_,I.inj⟩
 .match e:fs.getD j none with
  |none=>rfl
  |some y=>obtain⟨k,_,b,_⟩:=I.out j y e;rw[hj] at b;cases b
 .match e:fs.getD j none with
  |none=>exact absurd e (h j (by rw[hk];exact fun z=>by cases z))
  |some y=>
   obtain⟨k',_,b,c,_⟩:=I.out j y e;rw[hk] at b;cases b;exact⟨y,rfl,c⟩
def sV(homes:List Nat)(fs:List (Option Nat)):List (Option Nat):=(List.range fs.length).map fun j=>if fs.getD j none=some (homes.getD j 0) then none else fs.getD j none
theorem jC{homes:List Nat}{fs:List (Option Nat)}:(sV homes fs).length=fs.length:=by unfold sV;rw[aP,b8]
theorem wR{homes:List Nat}{fs:List (Option Nat)}{j y:Nat}(h:(sV homes fs).getD j none=some y):fs.getD j none=some y:=by
 unfold sV at h;by_cases hj:j<fs.length
 .rw[aY,cm,hX hj,lK,qZ] at h;split at h
  .cases h
  .exact h
 .rw[aY,de (by rw[aP,b8];lia)] at h;cases h
theorem Hd.next{n:Nat}{ts:Ts}{homes:List Nat}{st fs:List (Option Nat)}(F:cT n ts)(S:sJ n ts homes st)(d:Hd n ts st fs):sJ n ts homes (sV homes fs):=by
 have mem:∀ {l:List (Option Nat)} {y:Nat},some y∈l->∃j,j<l.length/\l.getD j none=some y:=fun {l y} h=>by
  obtain⟨j,hj,e⟩:=qT h;exact⟨j,hj,by rw[aY,bB hj,e];rfl⟩
 have sto:∀j y,fs.getD j none=some y->∃h,h<n/\st.getD j none=some h/\y∈bn n ts h:=fun j y hy=>by
  match e:st.getD j none with
  |none=>rw[d.bD j e] at hy;cases hy
  |some h=>
   obtain⟨y',a,b⟩:=d.out j h e;rw[hy] at a;cases a;have hj:j<st.length:=by
    rcases ou j st.length with c|c
    .exact c
    .rw[aY,de c] at e;cases e
   exact⟨h,S.ss h (by rw[<-e,aY,bB hj];exact dH _),rfl,b⟩
 refine⟨by rw[jC,d.len];exact S.len,by rw[jC,d.len];exact S.le,S.hs,fun y hy=>?_,fun y hy=>?_,fun j y e z=>?_⟩
 .obtain⟨j,_,e⟩:=mem hy;obtain⟨h,hh,_,b⟩:=sto j y (wR e);exact v_ F hh b
 .rw[CK,jC,HL F hy];refine bC (yD (P':=fun j=>decide (fs.getD j none=some y)) fun j hj=>cL (wR (cW hj))) ?_;unfold gU;rw[F.DK,List.countP_eq_length_filter];have e:∀j∈(List.range fs.length).filter (fun j=>decide (fs.getD j none=some y)),∃h:Nat,st.getD j none=some h/\(ci h,ci y)∈ts:=fun j hj=>by
   obtain⟨h,hh,a,b⟩:=sto j y (cW (dD.mp hj).2);exact⟨h,a,(fc F hh).mp b⟩
  have nd:(((List.range fs.length).filter (fun j=>decide (fs.getD j none=some y))).map fun j=>(ci ((st.getD j none).getD 0),ci y)).Nodup:=by
   refine i0.mpr ?_;refine EW ?_ (List.Pairwise.filter _ ln);intro a b ha hb pS ee;obtain⟨h1,g1,_⟩:=e a ha;obtain⟨h2,g2,_⟩:=e b hb;rw[g1,g2] at ee;have:h1=h2:=d8 (congrArg Prod.fst ee);exact d.inj a b y pS (cW (dD.mp ha).2) (cW (dD.mp hb).2) (by rw[g1,g2,this])
  have:=HK (b:=ts.filter fun t=>decide (t.2=ci y)) nd fun u hu=>by
   obtain⟨j,hj,rfl⟩:=bz.mp hu;obtain⟨h,g,t⟩:=e j hj;rw[g];exact dD.mpr ⟨t,cL rfl⟩
  rw[aP] at this;exact this
 .have e2:=wR e;have hj:j<fs.length:=by
   rcases ou j fs.length with c|c
   .exact c
   .rw[aY,de c] at e2;cases e2
  unfold sV at e;rw[aY,cm,hX hj,lK,qZ,ap (by rw[e2,z])] at e;cases e
theorem Bq{l:List Nat}{d:Nat}(nd:l.Nodup)(hd:d<l.length):l[d]∈l/\(l.eraseIdx d).Nodup/\(∀x∈l.eraseIdx d,x∈l/\x≠l[d])/\(l.eraseIdx d).length+1=l.length:=by
 refine⟨dH _,nd.sublist (List.eraseIdx_sublist _ _),fun x hx=>⟨List.mem_of_mem_eraseIdx hx,?_⟩,by rw[List.length_eraseIdx_of_lt hd];lia⟩;obtain⟨i,hi,ne,e⟩:=List.mem_eraseIdx_iff_getElem.mp hx;rw[<-e];exact fun z=>ne ((vc nd).mp z)
def Ec(fs:List (Option Nat))(m:Nat):List (Option Nat):=fs++List.replicate (m-fs.length) none
theorem CL{fs:List (Option Nat)}{m:Nat}(h:fs.length<m)(o:Option Nat):Ec (fs++[o]) m=(Ec fs m).set fs.length o:=by
 unfold Ec;rw[cf,jT,dw,show m-fs.length=(m-(fs.length+1))+1 by lia,mC,List.set_append_right _ _ (bt _),iP];rfl
theorem Pj{fs:List (Option Nat)}{m:Nat}:(Ec fs m).getD fs.length none=none:=by
 unfold Ec;rw[aY,jS (bt _),qO];split <;> rfl
theorem K1{fs:List (Option Nat)}{m:Nat}(h:fs.length<m):Ec (fs++[none]) m=Ec fs m:=by
 rw[CL h];unfold Ec;rw[show m-fs.length=(m-(fs.length+1))+1 by lia,mC,List.set_append_right _ _ (bt _),iP];rfl
theorem HM{fs:List (Option Nat)}:Ec fs fs.length=fs:=by unfold Ec;rw[iP];simp
theorem Pk{fs:List (Option Nat)}{o:Option Nat}{j:Nat}:(fs++[o]).getD j none=if j=fs.length then o else fs.getD j none:=by
 rw[aY];by_cases c:j<fs.length
 .rw[iD c,aq (by lia),aY]
 .rw[jS (by lia)];by_cases e:j=fs.length
  .rw[ap e,e,iP];rfl
  .rw[aq e,de (by rw[jT];lia),aY,de (by lia)]
abbrev HN:Stmt:=iy 52
def jD(n:Nat)(R:List Nat)(f:Nat->Nat):List Nat:=(List.range n).map fun x=>if x∈R then f x else n
theorem HP{n:Nat}{R:List Nat}{f:Nat->Nat}:(jD n R f).length=n:=by unfold jD;rw[aP,b8]
theorem yE{n:Nat}{R:List Nat}{f:Nat->Nat}{x:Nat}(h:x<n):(NV (jD n R f))[x]?=some (.int ((if x∈R then f x else n:Nat):Int)):=by
 unfold NV jD;rw[cm,cm,hX h];rfl
theorem Br{n s:Nat}(hs:s<n):(NV (List.replicate n n)).set s (V.int 0)=NV (jD n [s] (fun _=>0)):=by
 rw[show V.int 0=V.int ((0:Nat):Int) from rfl,pq];congr 1;apply j3;intro x;unfold jD;by_cases hx:x<n
 .rw[n6,cm,hX hx,jU,qO,ap hx];by_cases c:s=x
  .subst c;simp[hx]
  .have c':¬ x=s:=fun z=>c z.symm;rw[aq c];simp[c']
 .rw[de (by rw[jI,jU];lia),de (by rw[aP,b8];lia)]
theorem HQ{n v k:Nat}{R:List Nat}{f:Nat->Nat}(hv:v<n):(NV (jD n R f)).set v (V.int ((k:Nat):Int))=NV (jD n (R++[v]) (put f v k)):=by
 rw[pq];congr 1;apply j3;intro x;unfold jD;by_cases hx:x<n
 .rw[n6,cm,cm,hX hx,aP,b8];by_cases c:v=x
  .subst c;simp[hx,put]
  .have c':¬ x=v:=fun z=>c z.symm;rw[aq c];simp[put,c']
 .rw[de (by rw[jI,aP,b8];lia),de (by rw[aP,b8];lia)]
def T6(σ:St):Nat:=match σ[6]? with
 |some (some (V.int i))=>i.toNat
 |_=>0
section
variable {P:Program} {w:World} {K:PySem.W.Frag} {mg:Str->Option Value} {base:Heap}
theorem jE:aS ["_law_n","_law_outs_here","_law_found","_law_begin","_law_row","_law_line","_law_at","_law_here","_law_there"] ["_law_n","_law_outs_here"] (av HN):=cZ (by decide +kernel)
def Bs:Sp:=fun vs H Q _=>∃ (L:Addr->Prop) (o:Addr) (n:Nat) (ts:Ts),vs=[.int n,.ref o]/\cT n ts/\bG H L o n (bn n ts)/\∀ (r:Addr) (H':Hp),aE H H'->H r=none->bG H' (fun b=>H b=none) r n (fun h=>(List.range n).map (o0 ts h))->Q (.ref r) H'
theorem K2{f:Addr}{fd:FuncData}(F:gv K "_law_far" "_law_far" HN f fd)(B:Bl mg):bL P w K mg base bu 1 f fd ["_law_n","_law_outs_here"] Bs:=by
 refine F.ok jE (fun vs H Q E h=>?_) (fun dW A outer s H vs Q E hr h=>?_)
 .obtain⟨L,o,n,ts,rfl,_⟩:=h;rfl
 .obtain⟨L,o,n,ts,rfl,fi,O,q⟩:=h;have n1:=fi.n1;have n2:=fi.n2;refine⟨_,(ai (aJ (i:=2) jE.nd rfl aM (bZ af))
   (ai (cq dh rfl (bi rfl B.range (aa (pv 0) af)) (aw (i:=3) jE.nd rfl aM)
    (ai (aJ (i:=4) jE.nd rfl aM (bj vN (bZ (aa (pv 0) af)) (pv 0)))
    (ai (dL au (ii (pv 4) (pv 3) eC))
    (ai (aJ (i:=5) jE.nd rfl aM (bZ (aa (pv 3) af)))
    (ai (aJ (i:=6) jE.nd rfl aM au)
    (ai (xq dh (aI kn (pv 6) (aB aF (by rfl) B.len cn (aa (pv 5) af)) (aN _)) (ai (aJ (i:=7) jE.nd rfl aM (aT aO (pv 5) (pv 6) (fun _ _=>rfl)))
     (ai (cq dh rfl (b9 (aT aO (pv 1) (pv 7) (fun _ _=>rfl))) (aw (i:=8) jE.nd rfl aM)
      (ak (br (aI dY (aT aO (pv 4) (pv 8) (fun _ _=>rfl)) (pv 0) (aN _)) (ai (dL (bj dv (aT aO (pv 4) (pv 7) (fun _ _=>rfl)) au) (ii (pv 4) (pv 8) eC))
       (ak (cU (gG fV mz my dS (pv 5) (aa (pv 8) af))))) aQ)))
     (ak (aJ (i:=6) jE.nd rfl aM (bj dv (pv 6) au))))))
    (ak (cU (gG fV mz my dS (pv 2) (aa (pv 4) af))))))))))
   (ak (aK (pv 2))))),?_⟩
  obtain⟨bs,IR,hbL,S6,Mn⟩:=O;refine⟨by show 0<=sizeLine;decide,fun F hF=>?_⟩;have sF:=aj (o:=.lst []) hF;refine⟨_,rfl,(n:Int),rfl,by lia,by lia,ce (n:=n) (lo:=0) (fun i σ Hc=>(∃a b c d e g,σ=[some (.int (n:Int)),some (.ref o),some (.ref F),a,b,c,d,e,g])/\aE H Hc/\∃ds:List Addr,Hc F=some (.lst (ds.map V.ref))/\(∀b∈ds,H b=none/\b≠F)/\ds.length=i/\∀j,j<i->Hc (ds.getD j 0)=some (.lst (NV ((List.range n).map (o0 ts j))))) ⟨⟨_,_,_,_,_,_,rfl⟩,sF,[],ae,fun b hb=>(nomatch hb),rfl,fun j hj=>absurd hj (jG _)⟩ ?_ ?_⟩
  rotate_left
  .intro σ Hc iV;refine iA fun tY iW=>?_;obtain⟨⟨a,b,c,d,e,g,rfl⟩,sc,ds,uR,IN,dl,V4⟩:=iV;refine iW ?_;exact⟨_,rfl,q F Hc sc hF ⟨ds,uR,fun b hb=>(IN b hb).1,dl,V4⟩⟩
  .intro b σ Hc hb iV;refine iA fun tY iW=>?_;obtain⟨⟨_,_,_,_,_,_,rfl⟩,sc,ds,uR,IN,dl,V4⟩:=iV;refine iW ?_;rw[d9];refine⟨_,rfl,by show 1<=sizeLine;decide,fun L1 v9=>⟨_,rfl,L1,_,_,rfl,rfl,ae,by lia,by lia,by rw[i3,jT];exact bC (show 1*n<=32 by lia) (by decide),fun D hD=>?_⟩⟩;rw[i3,kN];have eM:List.replicate n (V.int (n:Int))=NV (List.replicate n n):=by unfold NV;rw[zC]
   rw[eM];have s1:=sc.trans (aj (o:=.lst [.int (n:Int)]) v9);have hFD:F≠D:=ao ((aj (o:=.lst [.int (n:Int)]) v9) _ _ uR) hD;have fD:=s1.free hD;have dsD:∀c∈ds,c≠D:=fun c hc=>by
    rintro rfl;exact absurd hD (by
     obtain⟨j,hj,e⟩:=qT hc;have:(upd Hc L1 (.lst [.int (n:Int)])) c=some (.lst (NV ((List.range n).map (o0 ts j)))):=(aj v9) _ _ (by have:=V4 j (by lia);rw[aY,bB hj,qZ,e] at this;exact this);rw[this];exact fun z=>by cases z)
   have hF1:=(aj (o:=.lst [.int (n:Int)]) v9) _ _ uR;have T7:∀j,j<b->(upd Hc L1 (.lst [.int (n:Int)])) (ds.getD j 0)=some (.lst (NV ((List.range n).map (o0 ts j)))):=fun j hj=>(aj v9) _ _ (V4 j hj);generalize upd Hc L1 _=H1 at *;refine⟨_,rfl,_,rfl,D,_,b,b,rfl,rfl,ae,by rw[aR,jU];exact dZ hb,?_⟩;rw[mE,Br hb];refine⟨_,rfl,by show 1<=sizeLine;decide,fun R hR=>?_⟩;have EG:D≠R:=ao (H:=upd H1 D (.lst (NV (jD n [b] (fun _=>0))))) ae hR;have Kr:H1 R=none:=by rw[am EG.symm] at hR;exact hR
   have fR:=s1.free Kr;have hFR:F≠R:=ao hF1 Kr;have dsR:∀c∈ds,c≠R:=fun c hc=>by
    rintro rfl;obtain⟨j,hj,e⟩:=qT hc;have:=T7 j (by lia);rw[aY,bB hj,qZ,e,Kr] at this;cases this
   have sm0:aE H1 (upd (upd H1 D (.lst (NV (jD n [b] (fun _=>0))))) R (.lst [.int (b:Int)])):=bw (aj hD) Kr;have YR:=s1 _ _ IR;have T8:∀u,u<n->H1 (bs.getD u 0)=some (.lst (NV (bn n ts u))):=fun u hu=>s1 _ _ (Mn u hu);refine xt (fun σ H2=>∃ (i:Nat) (Rs:List Nat) (f:Nat->Nat),i<=Rs.length/\yS n ts b i Rs f/\(∀x∈Rs,f x<Rs.length)/\(∃u v,σ=[some (.int (n:Int)),some (.ref o),some (.ref F),some (.int (b:Int)),some (.ref D),some (.ref R),some (.int (i:Int)),u,v])/\aE H1 H2/\H2 D=some (.lst (NV (jD n Rs f)))/\H2 R=some (.lst (NV Rs)))
    (fun σ _=>n-T6 σ) ⟨0,[b],fun _=>0,cM _,yS.start hb,fun x hx=>Nat.zero_lt_one,⟨_,_,rfl⟩,sm0,?_,ae⟩ ?_ ?_
   .rw[am EG,ae]
   .intro σ H2 iV;refine iA fun tY iW=>?_;obtain⟨i,Rs,f,hi,Bf,fl,⟨u',v',rfl⟩,sm,iz,Ou⟩:=iV;refine iW ?_;have hRn:Rs.length<=n:=eK Bf.nd Bf.lt;refine⟨_,rfl,_,rfl,R,_,rfl,.inl (aZ.of Ou),_,_,rfl,rfl,_,rfl,?_⟩;rw[aR];by_cases pR:i<Rs.length
    .rw[show decide ((i:Int)<((Rs.length:Nat):Int))=true by simp;lia];refine dP ?_;have hu:Rs[i]?=some Rs[i]:=bB pR;generalize Rs[i]=u at hu;have yr:u<n:=Bf.lt u (df hu);have XT:(NV Rs)[i]?=some (.int (u:Int)):=by rw[cm,hu];rfl
     refine⟨_,rfl,_,rfl,R,_,_,_,rfl,rfl,aZ.of Ou,aA XT,?_⟩;have Ov:=nK (bs:=bs) (h:=u) (by rw[S6];exact yr);have Ow:=sm _ _ (T8 _ yr);refine⟨_,rfl,_,rfl,o,_,_,_,rfl,rfl,aZ.of (sm _ _ YR),aA Ov,_,rfl,⟨_,aZ.of Ow⟩,?_⟩;refine ij (K:=K) (xs:=NV (bn n ts u)) (fun j σ H3=>∃ (hG:List Nat) (f':Nat->Nat),yS n ts b i hG f'/\(∀x∈hG,f' x<hG.length)/\hG[i]?=some u/\(∀v∈(bn n ts u).take j,v∈hG/\f' v<=f' u+1)/\
      (∃c,σ=[some (.int (n:Int)),some (.ref o),some (.ref F),some (.int (b:Int)),some (.ref D),some (.ref R),some (.int (i:Int)),some (.int (u:Int)),c])/\aE H1 H3/\H3 D=some (.lst (NV (jD n hG f')))/\H3 R=some (.lst (NV hG)))
      ⟨Rs,f,Bf,fl,hu,fun v hv=>by simp at hv,⟨_,rfl⟩,sm,iz,Ou⟩ (fun j σ H3 _ ⟨_,_,_,_,_,_,_,DZ,_⟩=>aZ.of (DZ _ _ (T8 _ yr))) ?_ ?_
     .intro j x σ H3 hx iV;refine iA fun tY iW=>?_;obtain⟨hG,f',wq,QT,tP,dn,⟨b',rfl⟩,DZ,qm,AK⟩:=iV;refine iW ?_;obtain⟨v,hv,rfl⟩:=sk hx;have S7:v∈bn n ts u:=df hv;have Ks:v<n:=v_ fi yr S7;have XU:T ts u v:=(fc fi yr).mp S7;have tk:(bn n ts u).take (j+1)=(bn n ts u).take j++[v]:=by rw[fW,hv];rfl
      have D5:u∈hG:=df tP;have GS:hG.length<=n:=eK wq.nd wq.lt;refine⟨_,rfl,_,rfl,D,_,_,_,rfl,rfl,aZ.of qm,aA (yE Ks),_,rfl,rfl,_,rfl,?_⟩;by_cases yt:v∈hG
      .rw[ap yt];have ne:f' v≠n:=by have:=QT v yt;lia
       refine ir (by simp;lia) ⟨hG,f',wq,QT,tP,fun x hx=>?_,⟨_,rfl⟩,DZ,qm,AK⟩;rw[tk] at hx;rcases bS.mp hx with z|z
       .exact dn x z
       .simp at z;subst z;exact⟨yt,wq.bd u tP _ yt⟩
      .rw[aq yt];refine gL (by simp) ?_;have XV:(NV (jD n hG f'))[u]?=some (.int ((f' u:Nat):Int)):=by rw[yE yr,ap D5]
       refine⟨_,rfl,_,rfl,D,_,_,_,rfl,rfl,aZ.of qm,aA XV,_,_,rfl,rfl,_,rfl,_,rfl,D,_,_,_,rfl,rfl,qm,by rw[aR,HP];exact dZ Ks,?_⟩;have e1:(NV (jD n hG f')).set v (.int (((f' u:Nat):Int)+1))=NV (jD n (hG++[v]) (put f' v (f' u+1))):=by
        rw[show ((f' u:Nat):Int)+1=((f' u+1:Nat):Int) by lia,HQ Ks]
       rw[e1];have qF:(upd H3 D (.lst (NV (jD n (hG++[v]) (put f' v (f' u+1)))))) R=some (.lst (NV hG)):=by rw[am EG.symm];exact AK
       refine⟨_,rfl,.inl ⟨rfl,_,aZ.of qF⟩,_,rfl,R,_,_,rfl,rfl,qF,by rw[aR];exact cQ (show hG.length<33 by lia) (by decide),?_⟩;have tQ:i<hG.length:=(cK.mp tP).1;have XW:u≠v:=fun z=>yt (z ▸ D5);refine⟨hG++[v],put f' v (f' u+1),wq.add tP Ks XU yt,fun x hx=>?_,by rw[iD tQ];exact tP,fun x hx=>?_,⟨_,rfl⟩,bw (bw DZ hD) Kr,?_,?_⟩
       .rw[cf,jT];rcases bS.mp hx with z|z
        .rw[fm (fun (y:x=v)=>yt (y ▸ z))];have:=QT x z;lia
        .simp at z;subst z;rw[iq];have:=QT u D5;lia
       .rw[fm XW];rw[tk] at hx;rcases bS.mp hx with z|z
        .obtain⟨q1,q2⟩:=dn x z;exact⟨fw _ q1,by rw[fm (fun (z:x=v)=>yt (z ▸ q1))];exact q2⟩
        .simp at z;subst z;exact⟨by simp,by rw[iq];exact bt _⟩
       .rw[am EG,ae]
       .rw[ae,nu]
     .intro σ H3 iV;refine iA fun tY iW=>?_;obtain⟨hG,f',wq,QT,tP,dn,⟨b',rfl⟩,DZ,qm,AK⟩:=iV;refine iW ?_;rw[aR,iF] at dn;have tQ:i<hG.length:=(cK.mp tP).1;have GS:hG.length<=n:=eK wq.nd wq.lt;refine⟨_,rfl,_,_,rfl,rfl,⟨⟨i+1,hG,f',tQ,wq.next tP (fun v t=>dn v ((fc fi yr).mpr t)),QT,⟨_,_,rfl⟩,DZ,qm,AK⟩,?_⟩⟩;show n-((i:Int)+1).toNat<n-(i:Int).toNat;lia
    .rw[show decide ((i:Int)<((Rs.length:Nat):Int))=false by rw[y9];lia];have e:jD n Rs f=(List.range n).map (o0 ts b):=by
      unfold jD;refine jF fun x hx=>?_;obtain⟨q1,q2⟩:=Bf.done fi (by lia) (bQ.mp hx);rw[ap q1,q2]
     rw[e] at iz;have hF2:=sm _ _ hF1;refine cD ⟨_,rfl,.inl ⟨rfl,_,aZ.of hF2⟩,_,rfl,F,_,_,rfl,rfl,hF2,by rw[aP,dl];exact cQ (show b<33 by lia) (by decide),?_⟩;refine⟨⟨_,_,_,_,_,_,rfl⟩,fun c ob ec=>?_,ds++[D],by rw[ae,dg];rfl,fun c hc=>?_,by rw[cf,dl];rfl,fun j hj=>?_⟩
     .rw[am (ao ec hF)];exact sm _ _ (s1 _ _ ec)
     .rcases bS.mp hc with z|z
      .exact IN c z
      .rw[cC.mp z];exact⟨fD,hFD.symm⟩
     .by_cases c:j<b
      .have m:=kU (cs:=ds) (j:=j) (by lia);have e:(ds++[D]).getD j 0=ds.getD j 0:=by rw[aY,aY,iD (by lia)]
       rw[e,am (IN _ m).2];exact sm _ _ (T7 j c)
      .obtain rfl:j=b:=by lia
       have e:(ds++[D]).getD j 0=D:=by rw[aY,jS (by lia),dl,iP];rfl
       rw[e,am hFD.symm];exact iz
   .intro σ H2 Q1 Q2 imp iV;refine iA fun tY iW=>?_;obtain⟨v,e1,v2,e2,p,ys,e3,e4,i1,i2,e5,e6,kk,e7,q⟩:=iV;refine iW ?_;exact⟨v,e1,v2,e2,p,ys,e3,e4,i1,i2,e5,e6,kk,e7,imp _ _ q⟩
theorem k_:aS ["_law_pot_here","_law_outs_here","_law_stand_here","_law_left","_law_found","_law_house","_law_there"] ["_law_pot_here","_law_outs_here","_law_stand_here"] (av Bo):=cZ (by decide +kernel)
def wS:Sp:=fun vs H Q _=>∃ (p:Addr) (r:Addr) (n:Nat) (ts:Ts) (L:Addr->Prop) (sa:Addr) (homes:List Nat) (st:List (Option Nat)),vs=[.ref p,.ref r,.ref sa]/\cT n ts/\1<=n/\n<=32/\bp H p/\bG H L r n (bn n ts)/\H sa=some (.tup (st.map oV))/\sJ n ts homes st/\
 ∀ (t:Addr) (fs:List (Option Nat)) (H':Hp),az p H H'->bp H' p->H' t=some (.tup (fs.map oV))->Hd n ts st fs->Q (.ref t) H'
theorem HR{f:Addr}{fd:FuncData}(F:gv K "_law_right" "_law_right" Bo f fd)(B:Bl mg)(D:cE P w K mg base bu 1 "_law_take" ["_law_pot_here","_law_many"] eW):bL P w K mg base bu 2 f fd ["_law_pot_here","_law_outs_here","_law_stand_here"] wS:=by
 refine F.ok k_ (fun vs H Q E h=>?_) (fun dW A outer s H vs Q E hr h=>?_)
 .obtain⟨p,r,n,ts,L,sa,homes,st,rfl,_⟩:=h;rfl
 .obtain⟨p,r,n,ts,L,sa,homes,st,rfl,Fi,n1,n2,hp,R0,iB,SD,q⟩:=h;refine'⟨_,(ai (cS (i:=3) (g:=(bE 0)) (te:=(Da (fun xs H Q=>∃p ys,xs=[V.ref p]/\(aZ K H p ys\/bv K H p ys)/\∀l,H l=none->Q (.ref l) (upd H l (.lst ys))) (aV (aW 0) cY))) (NB:=["_law_row"]) (src:=[none]) (bN (by kernel_rfl)) rfl (b9 (pv 1)) ?g1 ?t1 ?e1 k_.nd rfl rfl rfl)
   (ai (aJ (i:=4) k_.nd rfl aM (bZ af))
   (ai (cq dh rfl (vD (pv 2)) (aw (i:=5) k_.nd rfl aM)
    (ai (aJ (i:=6) k_.nd rfl aM cp)
    (ai (br (aI ju (pv 5) cp (aN _)) (ak (aJ (i:=6) k_.nd rfl aM (gG fV zj zi rK (aT aO (pv 3) (pv 5) (fun _ _=>rfl)) (aa (aG D hr aL (aa (pv 0) (aa (aB aF (by rfl) B.len cn (aa (aT aO (pv 3) (pv 5) (fun _ _=>rfl)) af)) af))) af)))) aQ)
    (ak (cU (gG fV mz my dS (pv 4) (aa (pv 6) af)))))))
   (ak (aK (cG dQ (by rfl) B.tup lh (aa (pv 4) af))))))),?_⟩
  case g1=>exact fun cl C s₃ H₃ fp=>(aw (i:=0) HI rfl aM bU)
  case t1=>exact fun cl C s₃ H₃ fp=>cy
  case e1=>exact fun cl C s₃ H₃ fp=>(cG jx (by rfl) B.lst nR (aa (pv 0) af))
  obtain⟨bs,b1,b2,b3⟩:=R0;have bl:bs.length=n:=b3.1;refine⟨_,rfl,r,rfl,⟨_,aZ.of b1⟩,fun D1 pY=>?_⟩;refine dE (K:=K) (xs:=bs.map V.ref) (fun i ys σ H2=>(∃a,σ=[a])/\aE H H2/\H2 D1=some (.lst ys)/\∃cs:List Addr,ys=cs.map V.ref/\cs.length=i/\cs.Nodup/\(∀c∈cs,H c=none/\c≠D1/\H2 c≠none)/\∀j,j<i->H2 (cs.getD j 0)=some (.lst (NV (bn n ts j))))
   ⟨⟨_,rfl⟩,aj pY,ae,[],rfl,rfl,jh,fun c hc=>(nomatch hc),fun j hj=>absurd hj (jG _)⟩ (fun i ys σ H2 _ z=>aZ.of (z.2.1 _ _ b1)) ?_ ?_
  .rintro i x ys σ H2 Kt Kf hx ⟨⟨a,rfl⟩,sm,eX,cs,rfl,cl,nd,hc,wE⟩ kt kf;have hi:i<n:=by have:=(cK.mp hx).1;rw[aP] at this;lia
   obtain rfl:V.ref (bs.getD i 0)=x:=by rw[nK (by lia)] at hx;exact bP hx
   refine⟨_,rfl,_,_,rfl,.inl (aZ.of (sm _ _ (b3.2 i hi))),fun l hl=>?_⟩;have nD:D1≠l:=ao eX hl;have nl:∀c∈cs,c≠l:=fun c xn=>by rintro rfl;exact(hc c xn).2.2 hl
   refine kt _ _ _ (by rw[am nD];exact eX) (by rw[aP,cl];exact cQ (show i<33 by lia) (by decide)) ⟨⟨_,rfl⟩,bw (sm.trans (aj hl)) pY,ae,cs++[l],by rw[dg];rfl,by rw[cf,cl];rfl,?_,fun c xn=>?_,fun j hj=>?_⟩
   .exact lF.mpr ⟨nd,by simp,fun a ha b hb=>by rw[cC.mp hb];exact nl a ha⟩
   .rcases bS.mp xn with z|z
    .exact⟨(hc c z).1,(hc c z).2.1,by rw[am (hc c z).2.1,am (nl c z)];exact(hc c z).2.2⟩
    .rw[cC.mp z];exact⟨sm.free hl,nD.symm,by rw[am nD.symm,ae];exact fun z=>by cases z⟩
   .by_cases c:j<i
    .have m:=kU (cs:=cs) (j:=j) (by lia);have e:(cs++[l]).getD j 0=cs.getD j 0:=by rw[aY,aY,iD (by lia)]
     rw[e,am (hc _ m).2.1,am (nl _ m)];exact wE j c
    .obtain rfl:j=i:=by lia
     have e:(cs++[l]).getD j 0=l:=by rw[aY,jS (by lia),cl,iP];rfl
     rw[e,am nD.symm,ae]
  rintro ys σ H2 ⟨⟨a,rfl⟩,sm,eX,cs,rfl,cl,nd,hc,wE⟩;rw[aP,bl] at cl wE;have fD:H D1=none:=pY;have cH:∀h,h<n->H (cs.getD h 0)=none/\cs.getD h 0≠D1:=fun h hh=>⟨(hc _ (kU (by lia))).1,(hc _ (kU (by lia))).2.1⟩
  dsimp only;refine⟨by show 0<=sizeLine;decide,fun Fo K3=>?_⟩;have sF:=aj (o:=.lst []) K3;have fF:=sm.free K3;have V5:Fo≠D1:=(ao eX K3).symm;have Pm:∀h,h<n->cs.getD h 0≠Fo:=fun h hh=>ao (wE h hh) K3;have K4:=hp.ne fF;have KD:=hp.ne fD;have HS:∀h,h<n->cs.getD h 0≠p:=fun h hh=>hp.ne (cH h hh).1;have Bt:=hp.neT iB;refine⟨_,rfl,sa,rfl,⟨_,bv.of ((sm.trans sF) _ _ iB)⟩,vE (K:=K) (xs:=st.map oV) (fun i σ Hc=>∃ (ls:Nat->List Nat) (fs:List (Option Nat)),(∃u v,σ=[some (.ref p),some (.ref r),some (.ref sa),some (.ref D1),some (.ref Fo),u,v])/\az p H Hc/\bp Hc p/\Hc D1=some (.lst (cs.map V.ref))/\Hc Fo=some (.lst (fs.map oV))/\fs.length=i/\(∀j,j<i->st.getD j none≠none->fs.getD j none≠none)/\mf n ts st (Ec fs st.length) ls/\∀h,h<n->Hc (cs.getD h 0)=some (.lst (NV (ls h))))
   ⟨bn n ts,[],⟨_,_,rfl⟩,az.of (sm.trans sF),hp.same (sm.trans sF),sF _ _ eX,ae,rfl,fun j hj=>absurd hj (jG _),mf.start,fun h hh=>sF _ _ (wE h hh)⟩ (fun i σ Hc _ z=>by obtain⟨_,_,_,z,_⟩:=z;exact bv.of (z _ _ iB Bt)) ?_ ?_⟩
  .rintro i x σ Hc hx ⟨ls,fs,⟨u,v,rfl⟩,sc,iM,yF,uR,fl,Ha,LI,yV⟩;have hi:i<st.length:=by have:=(cK.mp hx).1;rwa [aP] at this
   rw[gf hi] at hx;obtain rfl:=bP hx;have hoi:st[i]?=some (st.getD i none):=by rw[aY,bB hi];rfl
   have hom:st.getD i none∈st:=df hoi;generalize ho:st.getD i none=o at *;have i16:i<16:=cQ hi SD.le;refine jO (fun σ H7=>H7=Hc/\σ=[some (.ref p),some (.ref r),some (.ref sa),some (.ref D1),some (.ref Fo),some (oV o),some .bD]) ?_ (fun N hN=>hN _ _ ⟨rfl,rfl⟩);rintro σ H7 ⟨rfl,rfl⟩;refine jO (fun σ H8=>∃ (ls:Nat->List Nat) (o':Option Nat),(σ=[some (.ref p),some (.ref r),some (.ref sa),some (.ref D1),some (.ref Fo),some (oV o),some (oV o')])/\az p H H8/\bp H8 p/\H8 D1=some (.lst (cs.map V.ref))/\H8 Fo=some (.lst (fs.map oV))/\(o≠none->o'≠none)/\mf n ts st (Ec (fs++[o']) st.length) ls/\∀h,h<n->H8 (cs.getD h 0)=some (.lst (NV (ls h)))) ?_ ?_
   .rintro σ H8 ⟨ls',o',rfl,s8,EI,Tl,V6,xb,LI',YS⟩;refine⟨_,rfl,.inl ⟨rfl,_,aZ.of V6⟩,_,rfl,Fo,_,_,rfl,rfl,V6,by rw[aP,fl];exact cQ (show i<33 by lia) (by decide),?_⟩;refine⟨ls',fs++[o'],⟨_,_,rfl⟩,az.put s8 fF,EI.put K4.symm,by rw[am V5.symm];exact Tl,by rw[ae,dg];rfl,by rw[cf,fl];rfl,fun j hj hn=>?_,LI',fun h hh=>?_⟩
    .rw[Pk];by_cases c:j=fs.length
     .rw[ap c];refine xb (fun z=>hn ?_);rw[c,fl];exact ho.trans z
     .rw[aq c];exact Ha j (by lia) hn
    .rw[am (Pm h hh)];exact YS h hh
   .intro N hN;cases o with
    |none=>exact⟨_,rfl,rfl,_,rfl,cD (hN _ _ ⟨ls,none,rfl,sc,iM,yF,uR,(fun z=>absurd rfl z),by rw[K1 (by lia)];exact LI,yV⟩)⟩
    |some h=>
     have hh:h<n:=SD.ss h hom;have g1:=yV h hh;have pf:(Ec fs st.length).getD i none=none:=by rw[<-fl];exact Pj
     have lp:0<(ls h).length:=LI.full hi ho hh pf (SD.QP h hh);have lu:(ls h).length<=32:=by have:=qM (n:=n) (ts:=ts) (h:=h);have:=LI.cnt h hh;lia
     have ch:=nK (bs:=cs) (h:=h) (by lia);refine⟨_,rfl,rfl,_,rfl,gL rfl ?_⟩;refine⟨_,rfl,_,rfl,D1,_,_,_,rfl,rfl,aZ.of yF,aA ch,.inl ⟨rfl,_,aZ.of g1⟩,_,rfl,_,rfl,_,rfl,D1,_,_,_,rfl,rfl,aZ.of yF,aA ch,_,_,rfl,.inl (aZ.of g1),p,_,rfl,by rw[aR];exact lp,by rw[aR];lia,iM,fun d H9 hd s9 I0=>?_⟩;rw[aR] at hd;have hv:(ls h)[d]?=some (ls h)[d]:=bB hd;refine⟨_,_,(d:Int),d,.int ((ls h)[d]:Nat),rfl,rfl,s9 _ _ g1 (HS h hh),by lia,by lia,(mQ (dZ (by rw[aR];exact hd))).1,by unfold NV;rw[cm,hv];rfl,?_⟩;refine hN _ _ ⟨fun k=>if k=h then (ls h).eraseIdx d else ls k,some (ls h)[d],rfl,az.put (sc.trans s9) (cH h hh).1,I0.put (HS h hh).symm,by rw[am (cH h hh).2.symm];exact s9 _ _ yF KD,by rw[am (Pm h hh).symm];exact s9 _ _ uR K4,(fun _ z=>by cases z),?_,fun k hk=>?_⟩
     .obtain⟨q1,q2,q3,q4⟩:=Bq (LI.nd h hh) hd;rw[CL (by lia),fl];exact LI.step hi ho hh pf q1 q2 q3 q4
     dsimp only;by_cases c:k=h
     .subst c;rw[ap rfl,ae,kM]
     .rw[aq c,am (HJ nd (by lia) (by lia) c)];exact s9 _ _ (yV k hk) (HS k hk)
  .rintro σ Hc ⟨ls,fs,⟨u,v,rfl⟩,sc,iM,yF,uR,fl,Ha,LI,yV⟩;refine⟨_,rfl,Fo,_,rfl,.inl ⟨aZ.of uR,fun t ht=>?_⟩⟩;have bq:=aj (o:=.tup (fs.map oV)) ht;rw[aP] at fl Ha;refine q t fs _ (sc.trans (az.of bq)) (iM.same bq) ae ?_;rw[<-fl,HM] at LI;refine LI.done fun j hj=>Ha j ?_ hj;rcases ou j st.length with c|c
   .exact c
   .exact absurd (by rw[aY,de c];rfl) hj
end
theorem HU{n:Nat}{ts:Ts}{a b:Nat}(h:b<n):(NV ((List.range n).map (o0 ts a)))[b]?=some (.int ((o0 ts a b:Nat):Int)):=by
 unfold NV;rw[cm,cm,hX h];rfl
abbrev Bu:Stmt:=iy 53
theorem qt:(["_law_i","_law_stand_here"]:List Str).Nodup:=by decide +kernel
theorem gp:(["_law_there","_law_far_here","_law_homes","_law_i","_law_near"]:List Str).Nodup:=by decide +kernel
theorem CM{K:PySem.W.Frag}{a D:Addr}{os:List Nat}{g:TG}{tt:TT}{te:TE}{dG:Hp->Prop}{σB:St}{H0:Hp}(c:Nat->Bool)(bA:St->Prop)(ha:H0 a=some (.lst (NV os)))(hD:H0 D=none)(hn:os.length<=1000)(h0:bA σB)(hs:∀x σ H (Kt:V->St->Hp->Prop) (Kf:St->Hp->Prop),x∈os->bA σ->aE H0 H->(∀σ2 H2,bA σ2->aE H H2->c x=true->Kt (.int (x:Nat)) σ2 H2)->(∀σ2 H2,bA σ2->aE H H2->c x=false->Kf σ2 H2)->
   g (.int (x:Nat)) σ H fun σ2 H2=>tt σ2 H2 fun b H3=>if b=true then te σ2 H3 fun v H4=>Kt v σ2 H4 else Kf σ2 H3)(hd:∀H,aE H0 H->H D=some (.lst (NV (os.filter c)))->dG H):gI (Ey K a) g tt te D dG σB (upd H0 D (.lst [])):=by
 refine dE (xs:=NV os) (fun i ys σ H=>bA σ/\aE H0 H/\H D=some (.lst ys)/\ys=NV ((os.take i).filter c)) ⟨h0,aj hD,ae,rfl⟩ (fun i ys σ H _ z=>aZ.of (z.2.1 _ _ ha)) ?_ ?_
 .intro i x ys σ H Kt Kf hx iV kt kf;refine iA fun tY iW=>?_;obtain⟨sh,sm,eX,rfl⟩:=iV;refine iW ?_;obtain⟨y,hy,rfl⟩:=sk hx;have tk:os.take (i+1)=os.take i++[y]:=by rw[fW,hy];rfl
  refine hs y σ H Kt Kf (df hy) sh sm (fun σ2 H2 pc s2 e=>?_) (fun σ2 H2 pc s2 e=>?_)
  .refine kt _ _ _ (s2 _ _ eX) ?_ ⟨pc,bw (sm.trans s2) hD,ae,?_⟩
   .rw[aR];exact fz (bC (iE _ _) (mB _ _)) (fz hn (by decide))
   .rw[tk,gZ,show [y].filter c=[y] by simp[dX,e],nu]
  .refine kf _ _ ⟨pc,sm.trans s2,s2 _ _ eX,?_⟩;rw[tk,gZ,show [y].filter c=[] by simp[dX,e],vi]
 .intro ys σ H iV;refine iA fun tY iW=>?_;obtain⟨_,sm,eX,rfl⟩:=iV;refine iW ?_;rw[aR,iF] at eX;exact hd H sm eX
theorem HV{α β:Type}{f:α->β}:∀ {l:List α} {k:Nat},(l.eraseIdx k).map f=(l.map f).eraseIdx k
 |[],_=>rfl
 |x::l,0=>rfl
 |x::l,k+1=>congrArg (f x::·) (HV (l:=l) (k:=k))
theorem ip{os:List Nat}{k j:Nat}(h:os[k]?=some j):os.take (k+1)=os.take k++[j]:=by rw[fW,h];rfl
theorem T9{xs:List Nat}{y:Nat}(hy:y∈xs):∃k,k<xs.length/\xs[k]?=some y/\(((xs.map fun (x:Nat)=>(x:Int)).eraseIdx ((xs.map fun (x:Nat)=>(x:Int)).idxOf (y:Int))).map V.int)=NV (xs.eraseIdx k):=by
 have hm:(y:Int)∈xs.map fun (x:Nat)=>(x:Int):=bz.mpr ⟨y,hy,rfl⟩;have hl:=EU.mpr hm;have hg:=List.getElem_idxOf hl;generalize (xs.map fun (x:Nat)=>(x:Int)).idxOf (y:Int)=k at *;have YT:k<xs.length:=by rwa [aP] at hl
 refine⟨k,YT,?_,?_⟩
 .rw[q0] at hg;rw[bB YT,d8 hg]
 .rw[<-kM];rw[show NV xs=(xs.map fun (x:Nat)=>(x:Int)).map V.int by unfold NV;rw[di];rfl];exact HV
theorem HW{fs:List (Option Nat)}{i:Nat}{o:Option Nat}:(fs.map oV).set i (oV o)=(fs.set i o).map oV:=(List.map_set).symm
section
variable {P:Program} {w:World} {K:PySem.W.Frag} {mg:Str->Option Value} {base:Heap}
theorem iN:aS ["_law_pot_here","_law_outs_here","_law_far_here","_law_homes","_law_stand_here","_law_left","_law_found","_law_order_here","_law_i","_law_near","_law_good"] ["_law_pot_here","_law_outs_here","_law_far_here","_law_homes","_law_stand_here"] (av Bu):=cZ (by decide +kernel)
def wT:Sp:=fun vs H Q _=>∃ (p r fr:Addr) (n:Nat) (ts:Ts) (L L':Addr->Prop) (ha sa:Addr) (homes:List Nat) (st:List (Option Nat)),vs=[.ref p,.ref r,.ref fr,.ref ha,.ref sa]/\cT n ts/\bp H p/\bG H L r n (bn n ts)/\bG H L' fr n (fun h=>(List.range n).map (o0 ts h))/\L' fr/\¬ L' p/\H ha=some (.tup (NV homes))/\H sa=some (.tup (st.map oV))/\sJ n ts homes st/\
 ∀ (t:Addr) (fs:List (Option Nat)) (H':Hp),az p H H'->bp H' p->H' t=some (.tup (fs.map oV))->Hd n ts st fs->Q (.ref t) H'
theorem HX{f:Addr}{fd:FuncData}(F:gv K "_law_eager" "_law_eager" Bu f fd)(B:Bl mg)(D:cE P w K mg base bu 1 "_law_take" ["_law_pot_here","_law_many"] eW)(OR:cE P w K mg base bu 2 "_law_order" ["_law_pot_here","_law_many"] ny):bL P w K mg base bu 3 f fd ["_law_pot_here","_law_outs_here","_law_far_here","_law_homes","_law_stand_here"] wT:=by
 refine F.ok iN (fun vs H Q E h=>?_) (fun dW A outer s H vs Q E hr h=>?_)
 .obtain⟨p,r,fr,n,ts,L,L',ha,sa,homes,st,rfl,_⟩:=h;rfl
 .obtain⟨p,r,fr,n,ts,L,L',ha,sa,homes,st,rfl,Fi,hp,R0,RF,hLf,HA,nJ,iB,SD,q⟩:=h;have h1:cx 1 _:=hr.mono (by decide);have n1:=Fi.n1;have n2:=Fi.n2;refine'⟨_,(ai (cS (i:=5) (g:=(bE 0)) (te:=(Da (fun xs H Q=>∃p ys,xs=[V.ref p]/\(aZ K H p ys\/bv K H p ys)/\∀l,H l=none->Q (.ref l) (upd H l (.lst ys))) (aV (aW 0) cY))) (NB:=["_law_row"]) (src:=[none]) (bN (by kernel_rfl)) rfl (b9 (pv 1)) ?g1 ?t1 ?e1 iN.nd rfl rfl rfl)
   (ai (aJ (i:=6) iN.nd rfl aM (bj vN (bZ (aa cp af)) (aB aF (by rfl) B.len cn (aa (pv 4) af))))
   (ai (cS (i:=7) (g:=(bE 0)) (tt:=(i6 (gE (fun x y H Q=>y=.bD/\Q (.bl (!decide (x=.bD))) H) (gE (xz K) (aW 1) (aW 0)) (tC .bD)))) (te:=(aW 0)) (NB:=["_law_i","_law_stand_here"]) (src:=[none,some 4]) (bN (by kernel_rfl)) rfl (b9 (aG OR hr aL (aa (pv 0) (aa (aB aF (by rfl) B.len cn (aa (pv 4) af)) af)))) ?g2 ?t2 ?e2 iN.nd rfl rfl rfl)
   (ai (cq dh rfl (b9 (pv 7)) (aw (i:=8) iN.nd rfl bU)
    (ai (aJ (i:=9) iN.nd rfl bU (aT aO (aT aO (pv 2) (aT cg (pv 4) (pv 8) (fun _ _=>rfl)) (fun _ _=>rfl)) (aT cg (pv 3) (pv 8) (fun _ _=>rfl)) (fun _ _=>rfl)))
    (ai (cS (i:=10) (g:=(bE 0)) (tt:=(i6 (gE (vF fun i j=>.bl (decide (i<j))) (gE (oJ K) (gE (oJ K) (aW 1) (aW 0)) (gE (xz K) (aW 2) (aW 3))) (aW 4)))) (te:=(aW 0)) (NB:=["_law_there","_law_far_here","_law_homes","_law_i","_law_near"]) (src:=[none,some 2,some 3,some 8,some 9]) (bN (by kernel_rfl)) rfl (b9 (aT aO (pv 5) (aT cg (pv 4) (pv 8) (fun _ _=>rfl)) (fun _ _=>rfl))) ?g3 ?t3 ?e3 iN.nd rfl rfl rfl)
    (ak (br (aI (vX (e:=jL) hr.u) (pv 10) (bZ af) (aN _)) (ai (dL (aT aO (pv 10) (aG D h1 aL (aa (pv 0) (aa (aB aF (by rfl) B.len cn (aa (pv 10) af)) af))) (fun _ _=>rfl)) (ii (pv 6) (pv 8) eC))
     (ak (cU (gG fV PySem.F.slot_list_remove PySem.F.type_list_remove Dy (aT aO (pv 5) (aT cg (pv 4) (pv 8) (fun _ _=>rfl)) (fun _ _=>rfl)) (aa (aT aO (pv 6) (pv 8) (fun _ _=>rfl)) af))))) aQ)))))
   (ai (cq dh rfl (b9 (pv 7)) (aw (i:=8) iN.nd rfl bU)
    (ak (br (aI oF (aT aO (pv 6) (pv 8) (fun _ _=>rfl)) cp (aN _)) (ak (dL (gG fV zj zi rK (aT aO (pv 5) (aT cg (pv 4) (pv 8) (fun _ _=>rfl)) (fun _ _=>rfl)) (aa (aG D h1 aL (aa (pv 0) (aa (aB aF (by rfl) B.len cn (aa (aT aO (pv 5) (aT cg (pv 4) (pv 8) (fun _ _=>rfl)) (fun _ _=>rfl)) af)) af))) af)) (ii (pv 6) (pv 8) eC))) aQ)))
   (ak (aK (cG dQ (by rfl) B.tup lh (aa (pv 6) af))))))))),?_⟩
  case g1=>exact fun cl C s₃ H₃ fp=>(aw (i:=0) HI rfl aM bU)
  case t1=>exact fun cl C s₃ H₃ fp=>cy
  case e1=>exact fun cl C s₃ H₃ fp=>(cG jx (by rfl) B.lst nR (aa (pv 0) af))
  case g2=>exact fun cl C s₃ H₃ fp=>(aw (i:=0) qt rfl aM bU)
  case t2=>exact fun cl C s₃ H₃ fp=>fK (aI ju (aT cg (pv 1) (pv 0) (fun _ _=>rfl)) cp (aN _))
  case e2=>exact fun cl C s₃ H₃ fp=>(pv 0)
  case g3=>exact fun cl C s₃ H₃ fp=>(aw (i:=0) gp rfl aM bU)
  case t3=>exact fun cl C s₃ H₃ fp=>fK (aI kn (aT aO (aT aO (pv 1) (pv 0) (fun _ _=>rfl)) (aT cg (pv 2) (pv 3) (fun _ _=>rfl)) (fun _ _=>rfl)) (pv 4) (aN _))
  case e3=>exact fun cl C s₃ H₃ fp=>(pv 0)
  obtain⟨bs,b1,b2,b3⟩:=R0;have bl:bs.length=n:=b3.1;refine⟨_,rfl,r,rfl,⟨_,aZ.of b1⟩,fun D1 pY=>?_⟩;refine dE (K:=K) (xs:=bs.map V.ref) (fun i ys σ H2=>(∃a,σ=[a])/\aE H H2/\H2 D1=some (.lst ys)/\∃cs:List Addr,ys=cs.map V.ref/\cs.length=i/\cs.Nodup/\(∀c∈cs,H c=none/\c≠D1/\H2 c≠none)/\∀j,j<i->H2 (cs.getD j 0)=some (.lst (NV (bn n ts j))))
   ⟨⟨_,rfl⟩,aj pY,ae,[],rfl,rfl,jh,fun c hc=>(nomatch hc),fun j hj=>absurd hj (jG _)⟩ (fun i ys σ H2 _ z=>aZ.of (z.2.1 _ _ b1)) ?_ ?_
  .intro i x ys σ H2 Kt Kf hx iV kt kf;refine iA fun tY iW=>?_;obtain⟨⟨a,rfl⟩,sm,eX,cs,rfl,cl,nd,hc,wE⟩:=iV;refine iW ?_;have hi:i<n:=by have:=(cK.mp hx).1;rw[aP] at this;lia
   obtain rfl:V.ref (bs.getD i 0)=x:=by rw[nK (by lia)] at hx;exact bP hx
   refine⟨_,rfl,_,_,rfl,.inl (aZ.of (sm _ _ (b3.2 i hi))),fun l hl=>?_⟩;have nD:D1≠l:=ao eX hl;have nl:∀c∈cs,c≠l:=fun c xn=>by rintro rfl;exact(hc c xn).2.2 hl
   refine kt _ _ _ (by rw[am nD];exact eX) (by rw[aP,cl];exact cQ (show i<33 by lia) (by decide)) ⟨⟨_,rfl⟩,bw (sm.trans (aj hl)) pY,ae,cs++[l],by rw[dg];rfl,by rw[cf,cl];rfl,?_,fun c xn=>?_,fun j hj=>?_⟩
   .exact lF.mpr ⟨nd,by simp,fun a ha b hb=>by rw[cC.mp hb];exact nl a ha⟩
   .rcases bS.mp xn with z|z
    .exact⟨(hc c z).1,(hc c z).2.1,by rw[am (hc c z).2.1,am (nl c z)];exact(hc c z).2.2⟩
    .rw[cC.mp z];exact⟨sm.free hl,nD.symm,by rw[am nD.symm,ae];exact fun z=>by cases z⟩
   .by_cases c:j<i
    .have m:=kU (cs:=cs) (j:=j) (by lia);have e:(cs++[l]).getD j 0=cs.getD j 0:=by rw[aY,aY,iD (by lia)]
     rw[e,am (hc _ m).2.1,am (nl _ m)];exact wE j c
    .obtain rfl:j=i:=by lia
     have e:(cs++[l]).getD j 0=l:=by rw[aY,jS (by lia),cl,iP];rfl
     rw[e,am nD.symm,ae]
  intro ys σ H2 iV;refine iA fun tY iW=>?_;obtain⟨⟨a,rfl⟩,sm,eX,cs,rfl,cl,nd,hc,wE⟩:=iV;refine iW ?_;rw[aP,bl] at cl wE;have fD:H D1=none:=pY;have cH:∀h,h<n->H (cs.getD h 0)=none/\cs.getD h 0≠D1:=fun h hh=>⟨(hc _ (kU (by lia))).1,(hc _ (kU (by lia))).2.1⟩
  have yG:=SD.le;have Bt:=hp.neT iB;have Ja:=hp.neT nJ;have KD:=hp.ne fD;have HS:∀h,h<n->cs.getD h 0≠p:=fun h hh=>hp.ne (cH h hh).1;dsimp only;refine⟨by show 1<=sizeLine;decide,fun L1 v9=>⟨_,rfl,sa,_,rfl,.inr (bv.of ((sm.trans (aj v9)) _ _ iB)),L1,_,_,rfl,rfl,ae,by lia,by rw[aP];lia,by rw[i3,jT,aP];exact bC (show 1*st.length<=32 by lia) (by decide),fun Fo K3=>?_⟩⟩;rw[i3,kN,aP];have eM:List.replicate st.length V.bD=(List.replicate st.length none).map oV:=by rw[zC];rfl
  rw[eM];have T_:=aj (o:=.lst [.bD]) v9;have sm1:=sm.trans T_;have fF:=sm1.free K3;have K4:=hp.ne fF;have V5:Fo≠D1:=(ao (T_ _ _ eX) K3).symm;have Pm:∀h,h<n->cs.getD h 0≠Fo:=fun h hh=>ao (T_ _ _ (wE h hh)) K3;have sF:=aj (o:=.lst ((List.replicate st.length none).map oV)) K3;have gF:=ae (H:=upd H2 L1 (.lst [.bD])) (a:=Fo) (o:=.lst ((List.replicate st.length none).map oV));have gD:=sF _ _ (T_ _ _ eX);have gc:∀h,h<n->_:=fun h hh=>sF _ _ (T_ _ _ (wE h hh));have DX:=sm1.trans sF;generalize upd (upd H2 L1 _) Fo _=H3 at *;have mv:=hp.same DX;refine⟨_,rfl,_,rfl,sa,_,rfl,.inr (bv.of (DX _ _ iB)),p,st.length,by rw[aP];rfl,by lia,mv,fun od QU H4 s4 nA fod hod pm=>?_⟩;refine⟨_,rfl,⟨_,aZ.of hod⟩,fun D2 iz=>?_⟩;have aak:QU.length=st.length:=by rw[pm.length_eq,b8]
  have YU:=s4 _ _ (DX _ _ iB) Bt;refine CM (os:=QU) (fun i=>(st.getD i none).isSome) (fun σ=>∃b,σ=[b,some (.ref sa)]) hod iz (by lia) ⟨_,rfl⟩ ?_ ?_
  .rintro x σ H5 Kt Kf hx ⟨b',rfl⟩ tm kt kf;have hxl:x<st.length:=bQ.mp (pm.mem_iff.mp hx);refine⟨_,rfl,_,rfl,sa,_,_,_,rfl,rfl,bv.of (tm _ _ YU),aA (gf hxl),rfl,_,rfl,?_⟩;cases ho:st.getD x none with
   |none=>exact cD (kf _ _ ⟨_,rfl⟩ (aE.refl _) (by rw[ho];rfl))
   |some h=>exact gL rfl ⟨_,rfl,kt _ _ ⟨_,rfl⟩ (aE.refl _) (by rw[ho];rfl)⟩
  intro H5 s5 sI;have osn:(QU.filter fun i=>(st.getD i none).isSome).Nodup:=(pm.nodup_iff.mpr ln).sublist (u6);have osm:∀j,j∈QU.filter (fun i=>(st.getD i none).isSome)↔j<st.length/\st.getD j none≠none:=fun j=>by
   rw[dD,pm.mem_iff,bQ];cases st.getD j none <;> simp
  have tJ:(QU.filter fun i=>(st.getD i none).isSome).length<=16:=bC (iE _ _) (by lia);generalize (QU.filter fun i=>(st.getD i none).isSome)=os at *;have V7:az p H3 H5:=s4.trans (az.of s5);have I_:az p H H5:=(az.of DX).trans V7;have fD2:H D2=none:=((az.of DX).trans s4).free nA.full iz;have Ua:=hp.ne fD2;have sB:=nA.same s5;have n2D:D2≠D1:=(ao (s4 _ _ gD KD) iz).symm;have n2F:D2≠Fo:=(ao (s4 _ _ gF K4) iz).symm;have n2c:∀h,h<n->cs.getD h 0≠D2:=fun h hh=>ao (s4 _ _ (gc h hh) (HS h hh)) iz;have iat:∀ {k i},(NV os)[k]?=some i->∃j h,i=V.int ((j:Nat):Int)/\os[k]?=some j/\j<st.length/\st.getD j none=some h/\h<n:=fun {k i} hk=>by
   obtain⟨j,hj,rfl⟩:=sk hk;obtain⟨jl,jn⟩:=(osm j).mp (df hj);cases ho:st.getD j none with
   |none=>exact absurd ho jn
   |some h=>exact⟨j,h,rfl,hj,jl,ho,SD.ss h (by rw[<-ho,aY,bB jl];exact dH _)⟩
  dsimp only;refine⟨_,rfl,D2,rfl,⟨_,aZ.of sI⟩,ij (K:=K) (xs:=NV os) (fun k σ Hc=>(∃ (ls:Nat->List Nat) (fs:List (Option Nat)),(∃a b c,σ=[some (.ref p),some (.ref r),some (.ref fr),some (.ref ha),some (.ref sa),some (.ref D1),some (.ref Fo),some (.ref D2),a,b,c])/\az p H Hc/\bp Hc p/\Hc D1=some (.lst (cs.map V.ref))/\Hc Fo=some (.lst (fs.map oV))/\Hc D2=some (.lst (NV os))/\mf n ts st fs ls/\(∀h,h<n->Hc (cs.getD h 0)=some (.lst (NV (ls h))))/\∀j,fs.getD j none≠none->j∈os.take k)) ⟨bn n ts,_,⟨_,_,_,rfl⟩,I_,sB,V7 _ _ gD KD,V7 _ _ gF K4,sI,mf.start,fun h hh=>V7 _ _ (gc h hh) (HS h hh),fun j hj=>absurd wQ hj⟩ (fun k σ Hc _ z=>by obtain⟨_,_,_,_,_,_,_,z,_⟩:=z;exact aZ.of z) ?_ ?_⟩
  .intro k i σ Hc hk iV;refine iA fun tY iW=>?_;obtain⟨ls,fs,⟨a8,a9,YV,rfl⟩,sc,iM,yF,uR,K5,LI,yV,qh⟩:=iV;refine iW ?_;obtain⟨j,h,rfl,hj,jl,ho,hh⟩:=iat hk;have jf:fs.getD j none=none:=by
    cases e:fs.getD j none with
    |none=>rfl
    |some y=>
     have:=qh j (by rw[e];exact fun z=>by cases z);obtain⟨i',tQ,ei⟩:=qT this;rw[lq] at tQ;rw[List.getElem_take] at ei;have V8:=(cK.mp hj).2;have:=(vc osn).mp (ei.trans V8.symm);lia
   have fl:=LI.len;have sX:=sc _ _ iB Bt;have Ub:=sc _ _ nJ Ja;have oi:(st.map oV)[j]?=some (.int (h:Int)):=by rw[gf jl,ho];rfl
   have hm:homes.getD j 0<n:=SD.hs _ (by rw[aY,bB (by rw[SD.len];exact jl)];exact dH _);have hh':=f_ (xs:=homes) (j:=j) (by rw[SD.len];exact jl);have RFc:bG Hc L' fr n (fun h=>(List.range n).map (o0 ts h)):=RF.keep hLf fun b o l e=>sc b o e fun z=>HA (z ▸ l);obtain⟨es,e1,e2,e3⟩:=RFc;have ge:∀k,k<n->(es.map V.ref)[k]?=some (.ref (es.getD k 0)):=fun k hk=>nK (by rw[e3.1];exact hk);have ch:=nK (bs:=cs) (h:=h) (by lia);refine⟨_,rfl,_,rfl,_,rfl,sa,_,_,_,rfl,rfl,bv.of sX,aA oi,fr,_,_,_,rfl,rfl,aZ.of e1,aA (ge h hh),_,rfl,_,rfl,ha,_,_,_,rfl,rfl,bv.of Ub,aA hh',_,_,_,_,rfl,rfl,aZ.of (e3.2 h hh),aA (HU hm),?_⟩;refine⟨_,rfl,_,rfl,_,rfl,sa,_,_,_,rfl,rfl,bv.of sX,aA oi,D1,_,_,_,rfl,rfl,aZ.of yF,aA ch,_,rfl,⟨_,aZ.of (yV h hh)⟩,fun D3 qm=>?_⟩;have lsn:∀x∈ls h,x<n:=fun x hx=>Bp (by lia) (LI.sub h hh x hx);have lsl:(ls h).length<=32:=by have:=qM (n:=n) (ts:=ts) (h:=h);have:=LI.cnt h hh;lia
   refine CM (os:=ls h) (fun y=>decide (o0 ts y (homes.getD j 0)<o0 ts h (homes.getD j 0))) (fun σ=>∃b,σ=[b,some (.ref fr),some (.ref ha),some (.int (j:Int)),some (.int ((o0 ts h (homes.getD j 0):Nat):Int))]) (yV h hh) qm (by lia) ⟨_,rfl⟩ ?_ ?_
   .rintro x σ H6 Kt Kf hx ⟨b',rfl⟩ Au kt kf;refine⟨_,rfl,_,rfl,fr,_,_,_,rfl,rfl,aZ.of (Au _ _ e1),aA (ge x (lsn x hx)),_,rfl,_,rfl,ha,_,_,_,rfl,rfl,bv.of (Au _ _ Ub),aA hh',_,_,_,_,rfl,rfl,aZ.of (Au _ _ (e3.2 x (lsn x hx))),aA (HU hm),_,rfl,_,_,rfl,rfl,_,rfl,?_⟩;refine eU (fun c=>?_) (fun c=>?_)
    .exact⟨_,rfl,kt _ _ ⟨_,rfl⟩ (aE.refl _) (cL (by have:=cW c;lia))⟩
    .exact kf _ _ ⟨_,rfl⟩ (aE.refl _) (dO fun z=>c (cL (by lia)))
   intro H6 s6 IU;have gsm:∀x∈(ls h).filter (fun y=>decide (o0 ts y (homes.getD j 0)<o0 ts h (homes.getD j 0))),x∈ls h:=fun x hx=>(dD.mp hx).1;have gsl:((ls h).filter (fun y=>decide (o0 ts y (homes.getD j 0)<o0 ts h (homes.getD j 0)))).length<=32:=bC (iE _ _) lsl;generalize (ls h).filter _=gs at *;have s56:az p Hc H6:=az.of s6;dsimp only;refine⟨_,rfl,by show 0<=sizeLine;decide,fun E1 OM=>?_⟩;have sE:=aj (o:=.lst []) OM;refine⟨D3,E1,_,[],rfl,rfl,aZ.of (sE _ _ IU),aZ.of ae,fun i h1 h2=>absurd h2 (by simp),_,rfl,?_⟩;rw[ap rfl,k8];have s7:=s6.trans sE;have QK:=sE _ _ IU;generalize upd H6 E1 _=H7 at *;have IZ:=iM.same s7;have MS:=sc.trans (az.of s7);have nD3:=iM.ne qm;by_cases e:NV gs=[]
   .rw[cL e];exact cD ⟨ls,fs,⟨_,_,_,rfl⟩,MS,IZ,s7 _ _ yF,s7 _ _ uR,s7 _ _ K5,LI,fun h hh=>s7 _ _ (yV h hh),fun j' Dr=>by rw[ip hj];exact fw _ (qh j' Dr)⟩
   .rw[dO e];have gl:0<gs.length:=by
     rcases gs with _|⟨x,xs⟩
     .exact absurd rfl e
     .simp
    refine dP ⟨_,rfl,_,rfl,_,rfl,D3,_,rfl,.inl (aZ.of QK),p,_,rfl,by rw[aR];exact gl,by rw[aR];lia,IZ,fun d H8 hd s8 EI=>?_⟩;rw[aR] at hd;have QS:gs.getD d 0∈ls h:=gsm _ (by rw[aY,bB hd];exact dH _);have VX:=MS.trans s8;have Tl:=s8 _ _ (s7 _ _ yF) KD;have V6:=s8 _ _ (s7 _ _ uR) K4;have h28:=s8 _ _ (s7 _ _ K5) Ua;have hl8:∀h,h<n->H8 (cs.getD h 0)=some (.lst (NV (ls h))):=fun h hh=>s8 _ _ (s7 _ _ (yV h hh)) (HS h hh);refine⟨D3,_,_,_,rfl,rfl,aZ.of (s8 _ _ QK nD3),aA (f_ hd),_,rfl,_,rfl,Fo,_,(j:Int),j,rfl,rfl,V6,dZ (by rw[aP];lia),?_⟩;generalize gs.getD d 0=y at *;obtain⟨kk,V8,gk,ek⟩:=T9 QS;have eF:(fs.map oV).set j (.int (y:Int))=(fs.set j (some y)).map oV:=HW (o:=some y);rw[eF];have gF9:(upd H8 Fo (.lst ((fs.set j (some y)).map oV))) Fo=some (.lst ((fs.set j (some y)).map oV)):=ae;have hD9:(upd H8 Fo (.lst ((fs.set j (some y)).map oV))) D1=some (.lst (cs.map V.ref)):=by rw[am V5.symm];exact Tl
    have h29:(upd H8 Fo (.lst ((fs.set j (some y)).map oV))) D2=some (.lst (NV os)):=by rw[am n2F];exact h28
    have Qw:∀h,h<n->(upd H8 Fo (.lst ((fs.set j (some y)).map oV))) (cs.getD h 0)=some (.lst (NV (ls h))):=fun h hh=>by rw[am (Pm h hh)];exact hl8 h hh
    have YW:(upd H8 Fo (.lst ((fs.set j (some y)).map oV))) sa=some (.tup (st.map oV)):=by rw[am (ao iB fF)];exact VX _ _ iB Bt
    have QO:az p H (upd H8 Fo (.lst ((fs.set j (some y)).map oV))):=az.put VX fF;have I0:=EI.put (o:=.lst ((fs.set j (some y)).map oV)) K4.symm;generalize upd H8 Fo _=H9 at *;have fj:((fs.set j (some y)).map oV)[j]?=some (.int (y:Int)):=by rw[gf (by rw[jI];lia),mh (by lia),ap rfl];rfl
    have gl9:H9 (cs.getD h 0)=some (.lst ((ls h).map (fun (x:Nat)=>(x:Int)) |>.map V.int)):=by rw[Qw h hh,di];rfl
    refine⟨_,rfl,_,rfl,_,rfl,sa,_,_,_,rfl,rfl,bv.of YW,aA oi,D1,_,_,_,rfl,rfl,aZ.of hD9,aA ch,.inl ⟨rfl,_,aZ.of (Qw h hh)⟩,_,rfl,_,rfl,Fo,_,_,_,rfl,rfl,aZ.of gF9,aA fj,cs.getD h 0,_,(y:Int),rfl,rfl,gl9,bz.mpr ⟨y,QS,rfl⟩,?_⟩;rw[ek];obtain⟨q1,q2,q3,q4⟩:=Bq (LI.nd h hh) V8;have ey:(ls h)[kk]=y:=by rw[bB V8] at gk;exact bP gk
    rw[ey] at q1 q3;refine⟨fun k=>if k=h then (ls h).eraseIdx kk else ls k,fs.set j (some y),⟨_,_,_,rfl⟩,az.put QO (cH h hh).1,I0.put (HS h hh).symm,by rw[am (cH h hh).2.symm];exact hD9,by rw[am (Pm h hh).symm];exact gF9,by rw[am (n2c h hh).symm];exact h29,LI.step jl ho hh jf q1 q2 q3 q4,fun k' xF=>?_,fun j' Dr=>?_⟩
    .dsimp only;by_cases c:k'=h
     .subst c;rw[ap rfl,ae]
     .rw[aq c,am (HJ nd (by lia) (by lia) c)];exact Qw k' xF
    .rw[ip hj];rw[mh (by lia)] at Dr;by_cases c:j'=j
     .rw[c];exact iZ _ bW
     .rw[aq c] at Dr;exact fw _ (qh j' Dr)
  .intro σ Hc iV;refine iA fun tY iW=>?_;obtain⟨ls,fs,⟨a8,a9,YV,rfl⟩,sc,iM,yF,uR,K5,LI,yV,_⟩:=iV;refine iW ?_;refine⟨_,rfl,D2,rfl,⟨_,aZ.of K5⟩,ij (K:=K) (xs:=NV os) (fun k σ Hc=>(∃ (ls:Nat->List Nat) (fs:List (Option Nat)),(∃a b c,σ=[some (.ref p),some (.ref r),some (.ref fr),some (.ref ha),some (.ref sa),some (.ref D1),some (.ref Fo),some (.ref D2),a,b,c])/\az p H Hc/\bp Hc p/\Hc D1=some (.lst (cs.map V.ref))/\Hc Fo=some (.lst (fs.map oV))/\Hc D2=some (.lst (NV os))/\mf n ts st fs ls/\(∀h,h<n->Hc (cs.getD h 0)=some (.lst (NV (ls h))))/\∀j,j∈os.take k->fs.getD j none≠none)) ⟨ls,fs,⟨_,_,_,rfl⟩,sc,iM,yF,uR,K5,LI,yV,fun j hj=>by simp at hj⟩ (fun k σ Hc _ z=>by obtain⟨_,_,_,_,_,_,_,z,_⟩:=z;exact aZ.of z) ?_ ?_⟩
   .intro k i σ Hc hk iV;refine iA fun tY iW=>?_;obtain⟨ls,fs,⟨a8,a9,YV,rfl⟩,sc,iM,yF,uR,K5,LI,yV,qh⟩:=iV;refine iW ?_;obtain⟨j,h,rfl,hj,jl,ho,hh⟩:=iat hk;have fl:=LI.len;have sX:=sc _ _ iB Bt;have oi:(st.map oV)[j]?=some (.int (h:Int)):=by rw[gf jl,ho];rfl
    have ch:=nK (bs:=cs) (h:=h) (by lia);refine⟨_,rfl,_,rfl,Fo,_,_,_,rfl,rfl,aZ.of uR,aA (gf (by lia)),rfl,_,rfl,?_⟩;cases jf:fs.getD j none with
    |some y=>
     refine ir rfl ⟨ls,fs,⟨_,_,_,rfl⟩,sc,iM,yF,uR,K5,LI,yV,fun j' Dr=>?_⟩;rw[ip hj] at Dr;rcases bS.mp Dr with z|z
     .exact qh j' z
     .rw[cC.mp z,jf];exact fun z=>by cases z
    |none=>
     have g1:=yV h hh;have lp:0<(ls h).length:=LI.full jl ho hh jf (SD.QP h hh);have lu:(ls h).length<=32:=by have:=qM (n:=n) (ts:=ts) (h:=h);have:=LI.cnt h hh;lia
     refine dP ⟨_,rfl,_,rfl,_,rfl,sa,_,_,_,rfl,rfl,bv.of sX,aA oi,D1,_,_,_,rfl,rfl,aZ.of yF,aA ch,.inl ⟨rfl,_,aZ.of g1⟩,_,rfl,_,rfl,_,rfl,_,rfl,sa,_,_,_,rfl,rfl,bv.of sX,aA oi,D1,_,_,_,rfl,rfl,aZ.of yF,aA ch,_,_,rfl,.inl (aZ.of g1),p,_,rfl,by rw[aR];exact lp,by rw[aR];lia,iM,fun d H9 hd s9 I0=>?_⟩;rw[aR] at hd;have hv:(ls h)[d]?=some (ls h)[d]:=bB hd;have hF9:=s9 _ _ uR K4;refine⟨_,_,(d:Int),d,.int ((ls h)[d]:Nat),rfl,rfl,s9 _ _ g1 (HS h hh),by lia,by lia,(mQ (dZ (by rw[aR];exact hd))).1,by unfold NV;rw[cm,hv];rfl,?_⟩;refine⟨_,rfl,_,rfl,Fo,_,(j:Int),j,rfl,rfl,by rw[am (Pm h hh).symm];exact hF9,dZ (by rw[aP];lia),?_⟩;have eF:(fs.map oV).set j (.int (((ls h)[d]:Nat):Int))=(fs.set j (some (ls h)[d])).map oV:=HW (o:=some (ls h)[d]);rw[eF,kM];obtain⟨q1,q2,q3,q4⟩:=Bq (LI.nd h hh) hd;refine⟨fun k=>if k=h then (ls h).eraseIdx d else ls k,fs.set j (some (ls h)[d]),⟨_,_,_,rfl⟩,az.put (az.put (sc.trans s9) (cH h hh).1) fF,(I0.put (HS h hh).symm).put K4.symm,by rw[am V5.symm,am (cH h hh).2.symm];exact s9 _ _ yF KD,ae,by rw[am n2F,am (n2c h hh).symm];exact s9 _ _ K5 Ua,LI.step jl ho hh jf q1 q2 q3 q4,fun k' xF=>?_,fun j' Dr=>?_⟩
     .dsimp only;rw[am (Pm k' xF)];by_cases c:k'=h
      .subst c;rw[ap rfl,ae]
      .rw[aq c,am (HJ nd (by lia) (by lia) c)];exact s9 _ _ (yV k' xF) (HS k' xF)
     .rw[ip hj] at Dr;rw[mh (by lia)];by_cases c:j'=j
      .rw[ap c];exact fun z=>by cases z
      .rw[aq c];rcases bS.mp Dr with z|z
       .exact qh j' z
       .exact absurd (cC.mp z) c
   .intro σ Hc iV;refine iA fun tY iW=>?_;obtain⟨ls,fs,⟨a8,a9,YV,rfl⟩,sc,iM,yF,uR,K5,LI,yV,qh⟩:=iV;refine iW ?_;refine⟨_,rfl,Fo,_,rfl,.inl ⟨aZ.of uR,fun t ht=>?_⟩⟩;have bq:=aj (o:=.tup (fs.map oV)) ht;rw[aR,iF] at qh;refine q t fs _ (sc.trans (az.of bq)) (iM.same bq) ae (LI.done fun j hj=>qh j ((osm j).mpr ⟨?_,hj⟩));rcases ou j st.length with c|c
    .exact c
    .exact absurd (by rw[aY,de c];rfl) hj
end
end nN
namespace L2
open PySem PySem.Spec PyProof.Rows
inductive Ox where
 |bD|bl (b:Bool)|int (i:Int)|neg (i:Int)|pow (a b:Int)|str (s:Str)|Ed|Ee|HY|Ef (o:Ox)
def QV:Expr->Option Ox
 |.Constant .none _ _=>some .bD
 |.Constant (.bool b) _ _=>some (.bl b)
 |.Constant (.int i) _ _=>some (.int i)
 |.Constant (.str s) _ _=>some (.str s)
 |.List [] _=>some .Ed
 |.Dict [] [] _=>some .Ee
 |.Tuple [] _ _=>some .HY
 |.UnaryOp .USub (.Constant (.int i) _ _) _=>some (.neg i)
 |.BinOp (.Constant (.int a) _ _) .Pow (.Constant (.int b) _ _) _=>some (.pow a b)
 |_=>none
def YX:Expr->Option Ox
 |.Tuple [e] _ _=>(QV e).map .Ef
 |e=>QV e
def HZ:List Expr->Option (List Ox)
 |[]=>some []
 |e::es=>(YX e).bind fun o=>(HZ es).map (o::·)
def Uc:Ox->TE
 |.bD=>tC .bD
 |.bl b=>tC (.bl b)
 |.int i=>tC (.int i)
 |.neg i=>ZO (rU fun i=>.int (-i)) (tC (.int i))
 |.pow a b=>gE (rI Rl fun i j=>.int (i ^ j.toNat)) (tC (.int a)) (tC (.int b))
 |.str s=>tC (.str s)
 |.Ed=>MT cY
 |.Ee=>F_
 |.HY=>jv cY
 |.Ef o=>jv (aV (Uc o) cY)
def Pn:List Ox->TA->TA
 |[],t=>t
 |o::os,t=>aV (Uc o) (Pn os t)
section
variable {X:Cx} {e:Expr} {es:List Expr} {o:Ox}
theorem MV(h:QV e=some o):starEach (e::es) X.env=(false,eval e X.env)::starEach es X.env:=by
 unfold QV at h;split at h;all_goals first|rfl|cases h
theorem H_(h:QV e=some o):PE X e (Uc o):=by
 unfold QV at h;split at h
 .cases h;exact cp
 .cases h;exact mG
 .cases h;exact au
 .cases h;exact fh
 .cases h;exact KY af
 .cases h;exact Ga
 .cases h;exact bf af
 .cases h;exact Rj Nu au
 .cases h;exact bj Ac au au
 .cases h
theorem MW(h:YX e=some o):PE X e (Uc o)/\starEach (e::es) X.env=(false,eval e X.env)::starEach es X.env:=by
 unfold YX at h;split at h
 .obtain⟨o',h1,rfl⟩:=uV.mp h;exact⟨bf (aa (H_ h1) af (MV h1)),rfl⟩
 .exact⟨H_ h,MV h⟩
theorem Ib:∀ {es:List Expr} {os:List Ox} {r:List Expr} {t:TA},HZ es=some os->PA X r t->PA X (es++r) (Pn os t)
 |[],os,r,t,h,hr=>by cases h;exact hr
 |e::es,os,r,t,h,hr=>by
  unfold HZ at h;obtain⟨o,h1,h2⟩:=zc.mp h;obtain⟨ZR,h3,rfl⟩:=uV.mp h2;exact aa (MW (es:=[]) h1).1 (Ib h3 hr) (MW h1).2
end
def V9:Nat->Ox->Bool
 |_,.bD=>true
 |_,.bl _=>true
 |_,.int i=>decide (-1<=i/\i<=33)
 |_,.neg i=>decide (i=1)
 |_,.pow a b=>decide (a=10/\b=59)
 |_,.str s=>decide (s="w"\/s="")
 |n,.Ed=>decide (1<=n)
 |_,.Ee=>true
 |n,.HY=>decide (1<=n)
 |n,.Ef (.int i)=>decide (1<=n)&&decide (i=0)
 |_,.Ef _=>false
theorem yH{p a:Addr}{H:Hp}(hp:H p≠none)(h:H a=none):a≠p:=by rintro rfl;exact hp h
theorem Eg{p:Addr}{H H':Hp}(hp:H p≠none)(s:aE H H'):H' p≠none:=fun z=>by
 cases e:H p with
 |none=>exact hp e
 |some ob=>rw[s _ _ e] at z;cases z
theorem Sw.ups{L:Addr->Prop}{H:Hp}{n m W:Nat}{x:V}(h:Sw L H n W x)(l:n<=m):Sw L H m W x:=by
 induction l with
 |refl=>exact h
 |step _ ih=>exact ih.up
def Pl(p:Addr)(H:Hp)(v:V):Prop:=(∀a,v≠.ref a)\/∃a o,v=.ref a/\a≠p/\H a=some o/\∀xs,o=.tup xs->xs.length<=1
theorem Pl.keep{p:Addr}{H H':Hp}{v:V}(h:Pl p H v)(s:∀a o,a≠p->H a=some o->H' a=some o):Pl p H' v:=by
 rcases h with h|⟨a,o,e,n,g,l⟩
 .exact .inl h
 .exact .inr ⟨a,o,e,n,s _ _ n g,l⟩
theorem YY{p:Addr}{σ:St}:∀ {o:Ox} {n:Nat} {H:Hp} {Q:V->Hp->Prop},V9 n o=true->H p≠none->(∀v H',aE H H'->Sw (·≠p) H' n 201 v/\Pl p H' v->Q v H')->Uc o σ H Q
 |.bD,n,H,Q,_,hp,k=>k _ _ (aE.refl _) ⟨sM.le (by decide),.inl fun a z=>(nomatch z)⟩
 |.bl b,n,H,Q,_,hp,k=>k _ _ (aE.refl _) ⟨TX.le (by decide),.inl fun a z=>(nomatch z)⟩
 |.int i,n,H,Q,h,hp,k=>k _ _ (aE.refl _) ⟨(gX (.inl (cW h))).le (by decide),.inl fun a z=>(nomatch z)⟩
 |.neg i,n,H,Q,h,hp,k=>⟨i,rfl,k _ _ (aE.refl _) ⟨(gX (.inl (by have:i=1:=cW h;lia))).le (by decide),.inl fun a z=>(nomatch z)⟩⟩
 |.pow a b,n,H,Q,h,hp,k=>by
  obtain⟨rfl,rfl⟩:a=10/\b=59:=cW h;exact⟨10,59,rfl,rfl,⟨by decide,by decide,by decide⟩,k _ _ (aE.refl _) ⟨(gX (.inr rfl)).le (by decide),.inl fun a z=>(nomatch z)⟩⟩
 |.str s,n,H,Q,h,hp,k=>k _ _ (aE.refl _) ⟨(HC (cW h)).le (by decide),.inl fun a z=>(nomatch z)⟩
 |.Ed,n,H,Q,h,hp,k=>⟨by show 0<=sizeLine;decide,fun a ha ns=>k _ _ (aj ha) ⟨((HB (L:=(·≠p)) (H:=upd H a (.lst [])) (a:=a) (xs:=[]) (n:=0) (W:=0) (yH hp ha) ns ae fun x hx=>(nomatch hx)).ups (cW h)).le (by decide),.inr ⟨a,_,rfl,yH hp ha,ae,fun xs z=>(nomatch z)⟩⟩⟩
 |.Ee,n,H,Q,h,hp,k=>fun a ha=>k _ _ (aj ha) ⟨(Pb (L:=(·≠p)) (H:=upd H a (.dK [])) (a:=a) (yH hp ha) ae).le (by decide),.inr ⟨a,_,rfl,yH hp ha,ae,fun xs z=>(nomatch z)⟩⟩
 |.HY,n,H,Q,h,hp,k=>⟨by show 0<=sizeLine;decide,fun a ha=>k _ _ (aj ha) ⟨((wI (L:=(·≠p)) (H:=upd H a (.tup [])) (a:=a) (xs:=[]) (n:=0) (W:=0) (yH hp ha) ae fun x hx=>(nomatch hx)).ups (cW h)).le (by decide),.inr ⟨a,_,rfl,yH hp ha,ae,fun xs z=>by cases z;exact cM _⟩⟩⟩
 |.Ef (.int i),n,H,Q,h,hp,k=>by
  obtain⟨h1,h2⟩:=nZ.mp h;obtain rfl:i=0:=cW h2;exact⟨by show 1<=sizeLine;decide,fun a ha=>k _ _ (aj ha) ⟨(wI (L:=(·≠p)) (H:=upd H a (.tup [.int 0])) (a:=a) (xs:=[.int 0]) (n:=0) (W:=200) (yH hp ha) ae fun x hx=>by rw[cC.mp hx];exact gX (.inl (by decide))).ups (cW h1),.inr ⟨a,_,rfl,yH hp ha,ae,fun xs z=>by cases z;exact bt _⟩⟩⟩
theorem Ic{p:Addr}{σ:St}{n:Nat}{t:TA}:∀ {os:List Ox} {H:Hp} {Q:List V->Hp->Prop},(∀o∈os,V9 n o=true)->H p≠none->(∀vs H',aE H H'->vs.length=os.length->(∀v∈vs,Sw (·≠p) H' n 201 v/\Pl p H' v)->t σ H' fun xs H2=>Q (vs++xs) H2)->Pn os t σ H Q
 |[],H,Q,_,hp,k=>k [] H (aE.refl _) rfl fun v hv=>(nomatch hv)
 |o::os,H,Q,h,hp,k=>by
  refine YY (h o bW) hp fun v H' s sh=>?_;refine Ic (os:=os) (fun o' ho=>h o' (cX _ ho)) (Eg hp s) fun vs H2 s2 hl hv=>?_;refine k (v::vs) H2 (s.trans s2) (congrArg (·+1) hl) fun x hx=>?_;rcases bK.mp hx with rfl|hx
  .exact⟨sh.1.keep (kT.of s2),sh.2.keep fun a o _ e=>s2 a o e⟩
  .exact hv x hx
end L2
namespace nN
open PySem L2 ix
abbrev Ie:Stmt:=iy 54
abbrev Bv:Stmt:=iy 55
theorem keepE{p:Addr}{H H':Hp}(s:az p H H'):kT (·≠p) H H':=fun a o l e _=>s a o e l
theorem YZ{L:Addr->Prop}{H:Hp}{n k:Nat}{o:Option Nat}(n2:n<=32)(h:∀y,o=some y->y<n):Sw L H k 200 (oV o):=by
 cases o with
 |none=>exact sM
 |some y=>exact gX (.inl (by have:=h y rfl;lia))
section
variable {P:Program} {w:World} {K:PySem.W.Frag} {mg:Str->Option Value} {base:Heap}
theorem MX:aS ["_law_pot_here","_law_n","_law_odd_here"] ["_law_pot_here","_law_n"] (av Ie):=cZ (by decide +kernel)
abbrev bo(i:Nat):Stmt:=(bV Ie).getD i (.Pass ⟨0,0,0,0⟩)
def Y0:Stmt->List Expr
 |.Assign _ (.List es _) _=>es
 |_=>[]
theorem Ig:∃es os q1 q2 q3 a1 a2 b1 b2 b3 b4,bV Ie=[.Assign [.Name "_law_odd_here" q1] (.List (es++[.Name "_law_n" a1,.BinOp (.Constant (.int 10) b1 b2) .Pow (.Constant (.int 59) b3 b4) a2]) q2) q3,bo 1]/\HZ es=some os/\(∀o∈os,V9 1 o=true)/\os.length=8:=
 ⟨(Y0 (bo 0)).take 8,[.bl true,.bl false,.str "w",.str "",.Ef (.int 0),.Ed,.Ee,.neg 1],_,_,_,_,_,_,_,_,_,rfl,by kernel_rfl,by decide +kernel,rfl⟩
def Ih:Sp:=fun vs H Q _=>∃ (p:Addr) (n:Nat),vs=[.ref p,.int n]/\n<=32/\bp H p/\∀ (x:V) (H':Hp),az p H H'->bp H' p->Sw (·≠p) H' 1 201 x->Q x H'
theorem Po{f:Addr}{fd:FuncData}(F:gv K "_law_odd" "_law_odd" Ie f fd)(B:Bl mg)(D:cE P w K mg base bu 1 "_law_take" ["_law_pot_here","_law_many"] eW):bL P w K mg base bu 2 f fd ["_law_pot_here","_law_n"] Ih:=by
 refine F.ok MX (fun vs H Q E h=>?_) (fun dW A outer s H vs Q E hr h=>?_)
 .obtain⟨p,n,rfl,_⟩:=h;rfl
 .obtain⟨p,n,rfl,n2,hp,q⟩:=h;obtain⟨es,os,q1,q2,q3,a1,a2,b1,b2,b3,b4,eb,IQ,BP,ol⟩:=Ig;rw[eb];refine⟨_,(ai (aJ (i:=2) MX.nd rfl aM (bZ (Ib IQ (aa (pv 1) (aa (bj Ac au au) af)))))
   (ak (aK (aT aO (pv 2) (aG D hr aL (aa (pv 0) (aa au af))) (fun _ _=>rfl))))),?_⟩
  refine Ic (p:=p) (n:=1) BP hp.full fun vs H3 sH vl hv=>?_;refine⟨_,rfl,_,_,rfl,rfl,⟨by decide,by decide,by decide⟩,?_,fun L hL=>?_⟩
  .rw[cf,vl,ol];show 10<=sizeLine;decide
  have mv:=hp.same sH;have nL:=mv.ne hL;have SI:∀v∈vs++[.int (n:Int),.int (10 ^ 59)],Sw (·≠p) H3 1 201 v:=fun v Ae=>by
   rcases bS.mp Ae with z|z
   .exact(hv v z).1
   .rcases bK.mp z with rfl|z
    .exact(gX (.inl (by lia))).le (by decide)
    .rw[cC.mp z];exact(gX (.inr rfl)).le (by decide)
  have wl:(vs++[V.int (n:Int),.int (10 ^ 59)]).length=10:=by rw[cf,vl,ol];rfl
  change bE 2 (V.ref L) _ (upd H3 L (.lst (vs++[V.int (n:Int),.int (10 ^ 59)]))) _;generalize vs++[V.int (n:Int),.int (10 ^ 59)]=us at *;have sL:=aj (o:=.lst us) hL;refine⟨_,rfl,_,rfl,p,10,rfl,by decide,by decide,mv.same sL,fun d H4 hd s4 nA=>?_⟩;rw[<-wl] at hd;exact⟨L,_,_,us[d],rfl,rfl,aZ.of (s4 _ _ ae nL),aA (bB hd),q _ H4 ((az.of (sH.trans sL)).trans s4) nA (((SI _ (dH hd)).keep (kT.of sL)).keep (keepE s4))⟩
theorem CN:aS ["_law_pot_here","_law_way","_law_n","_law_outs_here","_law_stand_here","_law_thing","_law_at"] ["_law_pot_here","_law_way","_law_n","_law_outs_here","_law_stand_here","_law_thing"] (av Bv):=cZ (by decide +kernel)
def wU:Sp:=fun vs H Q _=>∃ (p:Addr) (EJ n:Nat) (r:Addr) (ts:Ts) (L:Addr->Prop) (sa:Addr) (homes:List Nat) (st:List (Option Nat)) (a:Addr) (xs:List V) (N e:Nat),vs=[.ref p,.int EJ,.int n,.ref r,.ref sa,.ref a]/\1<=n/\n<=32/\bp H p/\bG H L r n (bn n ts)/\L r/\¬ L p/\H sa=some (.tup (st.map oV))/\sJ n ts homes st/\H a=some (.tup xs)/\0<xs.length/\xs.length=st.length/\1<=N/\201<=e/\(∀x∈xs,Sw (·≠p) H N e x)/\
 ∀ (t:Addr) (k:Nat) (x:V) (H':Hp),az p H H'->bp H' p->H' t=some (.tup [.int k,x])->k<xs.length->Sw (·≠p) H' N e x->Q (.ref t) H'
theorem Ii{f:Addr}{fd:FuncData}(F:gv K "_law_other" "_law_other" Bv f fd)(B:Bl mg)(D:cE P w K mg base bu 1 "_law_take" ["_law_pot_here","_law_many"] eW)(OD:cE P w K mg base bu 2 "_law_odd" ["_law_pot_here","_law_n"] Ih):bL P w K mg base bu 3 f fd ["_law_pot_here","_law_way","_law_n","_law_outs_here","_law_stand_here","_law_thing"] wU:=by
 refine F.ok CN (fun vs H Q E h=>?_) (fun dW A outer s H vs Q E hr h=>?_)
 .obtain⟨p,EJ,n,r,ts,L,sa,homes,st,a,xs,N,e,rfl,_⟩:=h;rfl
 .obtain⟨p,EJ,n,r,ts,L,sa,homes,st,a,xs,N,e,rfl,n1,n2,hp,R0,KU,HA,iB,SD,ha,x0,xl,hN,he,qr,q⟩:=h;have h1:cx 1 _:=hr.mono (by decide);refine⟨_,(ai (aJ (i:=6) CN.nd rfl aM (aG D h1 aL (aa (pv 0) (aa (aB aF (by rfl) B.len cn (aa (pv 5) af)) af))))
   (ai (br (aI dY (pv 1) au (aN _)) (ak (aK (bf (aa (pv 6) (aa cp af))))) aQ)
   (ai (br (aI dY (pv 1) au (aN _)) (ak (aK (bf (aa (pv 6) (aa (aG OD hr aL (aa (pv 0) (aa (pv 2) af))) af))))) aQ)
   (ai (br (PW.pt (fJ (aI kn (pv 1) au (aN _)) (fG (aI ju (aT cg (pv 4) (pv 6) (fun _ _=>rfl)) cp (aN _))))) (ak (aK (bf (aa (pv 6) (aa (aT aO (aT aO (pv 3) (aT cg (pv 4) (pv 6) (fun _ _=>rfl)) (fun _ _=>rfl)) (aG D h1 aL (aa (pv 0) (aa (aB aF (by rfl) B.len cn (aa (aT aO (pv 3) (aT cg (pv 4) (pv 6) (fun _ _=>rfl)) (fun _ _=>rfl)) af)) af))) (fun _ _=>rfl)) af))))) aQ)
   (ai (br (aI dY (pv 1) au (aN _)) (ak (aK (bf (aa (pv 6) (aa (aT cg (pv 4) (pv 6) (fun _ _=>rfl)) af))))) aQ)
   (ai (br (aI dY (pv 1) au (aN _)) (ak (aK (bf (aa (pv 6) (aa (aT cg (pv 5) (aG D h1 aL (aa (pv 0) (aa (aB aF (by rfl) B.len cn (aa (pv 5) af)) af))) (fun _ _=>rfl)) af))))) aQ)
   (ak (aK (bf (aa (pv 6) (aa (aG D h1 aL (aa (pv 0) (aa (pv 2) af))) af))))))))))),?_⟩
  have Bt:=hp.neT iB;have Ja:=hp.neT ha;have yG:=SD.le;refine⟨_,rfl,_,rfl,a,_,rfl,.inr (bv.of ha),p,_,rfl,x0,by lia,hp,fun k H1 hk s1 jN=>?_⟩;have xF:k<st.length:=by lia
  have dG:∀ (x:V) (H2:Hp),az p H H2->bp H2 p->Sw (·≠p) H2 N e x->∀t,H2 t=none->Q (.ref t) (upd H2 t (.tup [.int (k:Int),x])):=fun x H2 s2 kJ sw t ht=>
   q t k x _ (s2.trans (az.of (aj ht))) (kJ.same (aj ht)) ae hk (sw.keep (kT.of (aj ht)))
  have K6:=s1 _ _ iB Bt;have MY:=s1 _ _ ha Ja;refine⟨_,rfl,rfl,_,rfl,eU (fun c=>⟨_,rfl,by show 2<=sizeLine;decide,dG _ H1 s1 jN (sM.le (by lia))⟩) (fun c=>?_)⟩;refine⟨_,rfl,rfl,_,rfl,eU (fun c=>?_) (fun c=>?_)⟩
  .exact⟨_,rfl,_,rfl,_,rfl,p,n,rfl,n2,jN,fun x H2 s2 kJ sw=>⟨by show 2<=sizeLine;decide,dG _ H2 (s1.trans s2) kJ ((sw.ups hN).le he)⟩⟩
  unfold BH;dsimp only;refine jO (fun σ H7=>H7=H1/\σ=[some (.ref p),some (.int (EJ:Int)),some (.int (n:Int)),some (.ref r),some (.ref sa),some (.ref a),some (.int (k:Int))]) ?_ ?_
  .rintro σ H7 ⟨rfl,rfl⟩;refine⟨_,rfl,rfl,_,rfl,eU (fun c=>?_) (fun c=>?_)⟩
   .exact⟨_,rfl,_,rfl,_,rfl,sa,_,_,_,rfl,rfl,bv.of K6,aA (gf xF),by show 2<=sizeLine;decide,dG _ _ s1 jN ((YZ n2 fun y hy=>SD.ss y (by rw[<-hy,aY,bB xF];exact dH _)).le (by lia))⟩
   refine⟨_,rfl,rfl,_,rfl,eU (fun c=>?_) (fun c=>?_)⟩
   .refine⟨_,rfl,_,rfl,_,rfl,_,rfl,a,_,rfl,.inr (bv.of MY),p,_,rfl,x0,by lia,jN,fun d H2 hd s2 kJ=>?_⟩;refine⟨a,_,_,_,rfl,rfl,bv.of (s2 _ _ MY Ja),aA (bB hd),by show 2<=sizeLine;decide,dG _ H2 (s1.trans s2) kJ ((qr _ (dH hd)).keep (keepE (s1.trans s2)))⟩
   .exact⟨_,rfl,_,rfl,_,rfl,p,n,rfl,n1,by lia,jN,fun d H2 hd s2 kJ=>⟨by show 2<=sizeLine;decide,dG _ H2 (s1.trans s2) kJ ((gX (.inl (by lia))).le (by lia))⟩⟩
  .intro N' hN';refine⟨_,rfl,_,_,rfl,rfl,_,rfl,eU (fun c=>?_) (fun c=>cD (hN' _ _ ⟨rfl,rfl⟩))⟩;refine⟨_,rfl,_,rfl,sa,_,_,_,rfl,rfl,bv.of K6,aA (gf xF),rfl,_,rfl,?_⟩;cases ho:st.getD k none with
   |none=>exact cD (hN' _ _ ⟨rfl,rfl⟩)
   |some h=>
    have om:some h∈st:=by rw[<-ho,aY,bB xF];exact dH _
    have hh:h<n:=SD.ss h om;have lp:0<(bn n ts h).length:=cQ (List.count_pos_iff.mpr om) (SD.QP h hh);have lu:=qM (n:=n) (ts:=ts) (h:=h);have R1:bG H1 L r n (bn n ts):=R0.keep KU fun b o l e=>s1 b o e fun z=>HA (z ▸ l);obtain⟨bs,b1,b2,b3⟩:=R1;have oi:(st.map oV)[k]?=some (.int (h:Int)):=by rw[gf xF,ho];rfl
    have gb:=nK (bs:=bs) (h:=h) (by rw[b3.1];exact hh);have hbL:bs.getD h 0≠p:=fun z=>HA (z ▸ b2 _ (kU (by rw[b3.1];exact hh)));refine gL rfl ⟨_,rfl,_,rfl,_,rfl,_,rfl,sa,_,_,_,rfl,rfl,bv.of K6,aA oi,r,_,_,_,rfl,rfl,aZ.of b1,aA gb,_,rfl,_,rfl,_,rfl,_,rfl,sa,_,_,_,rfl,rfl,bv.of K6,aA oi,r,_,_,_,rfl,rfl,aZ.of b1,aA gb,_,_,rfl,.inl (aZ.of (b3.2 h hh)),p,_,rfl,by rw[aR];exact lp,by rw[aR];lia,jN,fun d H2 hd s2 kJ=>?_⟩;rw[aR] at hd;refine⟨_,_,_,_,rfl,rfl,aZ.of (s2 _ _ (b3.2 h hh) hbL),aA (f_ hd),by show 2<=sizeLine;decide,dG _ H2 (s1.trans s2) kJ ((gX (.inl ?_)).le (by lia))⟩;have:=Bp (ts:=ts) (h:=h) (x:=(bn n ts h).getD d 0) n1 (by rw[aY,bB hd];exact dH _);lia
end
end nN
namespace L2
open PySem PySem.Spec PyProof.Rows
theorem Ij{R:V->PyData->Prop}:∀ {xs:List V} {ds:List PyData},F2 R xs ds->∀x∈xs,∃d,R x d/\d.weight<=PyData.weightAll ds
 |_,_,.cons (d:=d) (ds:=ds) h hs,x,hx=>by
  have e:PyData.weightAll (d::ds)=d.weight+1+PyData.weightAll ds:=by rw[PyData.weightAll]
  rcases bK.mp hx with rfl|hx
  .exact⟨_,h,by lia⟩
  .obtain⟨d',a,b⟩:=Ij hs x hx;exact⟨d',a,by lia⟩
end L2
namespace nN
open PySem L2 ix
abbrev yI:Stmt:=iy 56
abbrev Bw:Stmt:=iy 57
def QW(p:Addr)(H:Hp)(N m e:Nat)(x:V):Prop:=∃a xs,x=.ref a/\a≠p/\H a=some (.tup xs)/\xs.length<=m/\∀y∈xs,Sw (·≠p) H N e y
def Y1(K:PySem.W.Frag)(H:Hp)(x:V):Prop:=∃t,JD K H x t/\PySem.W.kitOne K t (.type "tuple")=some false
def BeR(K:PySem.W.Frag)(p:Addr)(H:Hp)(N m e:Nat)(x:V):Prop:=QW p H (N+1) (m+1) e x\/QW p H (N+1) 1 (m*(e+1)+201) x\/(Y1 K H x/\Sw (·≠p) H (N+2) (m*(e+1)+201) x)
theorem Ud{K:PySem.W.Frag}{p:Addr}{H:Hp}{v:V}(h:Sw (·≠p) H 1 201 v)(pl:Pl p H v):QW p H 1 1 201 v\/Y1 K H v:=by
 obtain⟨d,sh,w⟩:=h;rcases sh with (⟨rfl,_⟩|⟨c,rfl,_⟩|⟨i,rfl,_⟩|⟨z,rfl,_⟩|⟨a,rfl,_,l,h⟩)|⟨a,xs,ds,rfl,rfl,l,h,hs⟩|⟨a,xs,ds,rfl,_,l,h,hs,_⟩
 .exact .inr ⟨_,.of .bD,by kernel_rfl⟩
 .exact .inr ⟨_,.of (.bl _),by kernel_rfl⟩
 .exact .inr ⟨_,.of (.int _),by kernel_rfl⟩
 .exact .inr ⟨_,.of (.str _),by kernel_rfl⟩
 .exact .inr ⟨_,.of (.dK h),by kernel_rfl⟩
 .have w':PyData.weightAll ds<=201:=by unfold PyData.weight at w;exact w
  refine .inl ⟨a,xs,rfl,l,h,?_,fun y hy=>?_⟩
  .rcases pl with pl|⟨a',o,ea,_,g,hl⟩
   .exact absurd rfl (pl a)
   .cases ea;rw[h] at g;cases g;exact hl xs rfl
  .obtain⟨d,a1,a2⟩:=Ij hs y hy;exact Sw.up ⟨d,a1,bC a2 w'⟩
 .exact .inr ⟨_,.of (.lst h),by kernel_rfl⟩
def Ue:Stmt->Expr
 |.If t _ _ _=>t
 |_=>.Constant .none 0 ⟨0,0,0,0⟩
def ifR:Stmt->Expr
 |.If _ [.Return (some e) _] _ _=>e
 |_=>.Constant .none 0 ⟨0,0,0,0⟩
def Y2:Expr->Expr
 |.Subscript _ i _=>i
 |_=>.Constant .none 0 ⟨0,0,0,0⟩
def Y3:Expr->List Expr
 |.Subscript (.List es _) _ _=>es
 |_=>[]
abbrev bb(i:Nat):Stmt:=(bV yI).getD i (.Pass ⟨0,0,0,0⟩)
theorem Eh:∃es os q1 q2 q3 q4 a1 a2 a3 b1 b2 b3,bV yI=[bb 0,bb 1,.If (Ue (bb 2)) [.Return (some (.Subscript (.List (es++[.Call (.Name "list" b1) [.Name "_law_thing" b2] [] b3,.Tuple [.Name "_law_thing" a1] a2 a3]) q1) (Y2 (ifR (bb 2))) q2)) q3] [] q4,bb 3,bb 4,bb 5]/\HZ es=some os/\(∀o∈os,V9 1 o=true)/\os.length=6:=
 ⟨(Y3 (ifR (bb 2))).take 6,[.bD,.int 3,.str "",.Ee,.HY,.Ed],_,_,_,_,_,_,_,_,_,_,rfl,by kernel_rfl,by decide +kernel,rfl⟩
section
variable {P:Program} {w:World} {K:PySem.W.Frag} {mg:Str->Option Value} {base:Heap}
theorem wV:aS ["_law_pot_here","_law_way","_law_n","_law_outs_here","_law_stand_here","_law_thing","_law_at","_law_one"] ["_law_pot_here","_law_way","_law_n","_law_outs_here","_law_stand_here","_law_thing"] (av yI):=cZ (by decide +kernel)
def Bx(K:PySem.W.Frag):Sp:=fun vs H Q _=>∃ (p:Addr) (EJ n:Nat) (r:Addr) (ts:Ts) (L:Addr->Prop) (sa:Addr) (homes:List Nat) (st:List (Option Nat)) (a:Addr) (xs:List V) (N m e:Nat),vs=[.ref p,.int EJ,.int n,.ref r,.ref sa,.ref a]/\1<=n/\n<=32/\bp H p/\bG H L r n (bn n ts)/\L r/\¬ L p/\H sa=some (.tup (st.map oV))/\sJ n ts homes st/\H a=some (.tup xs)/\xs.length<=m/\m<=17/\201<=e/\(∀x∈xs,Sw (·≠p) H N e x)/\
 ∀ (x:V) (H':Hp),az p H H'->bp H' p->BeR K p H' N m e x->Q x H'
theorem K7{f:Addr}{fd:FuncData}(F:gv K "_law_bent" "_law_bent" yI f fd)(B:Bl mg)(D:cE P w K mg base bu 1 "_law_take" ["_law_pot_here","_law_many"] eW)(OT:cE P w K mg base bu 3 "_law_other" ["_law_pot_here","_law_way","_law_n","_law_outs_here","_law_stand_here","_law_thing"] wU):bL P w K mg base bu 4 f fd ["_law_pot_here","_law_way","_law_n","_law_outs_here","_law_stand_here","_law_thing"] (Bx K):=by
 refine F.ok wV (fun vs H Q E h=>?_) (fun dW A outer s H vs Q E hr h=>?_)
 .obtain⟨p,EJ,n,r,ts,L,sa,homes,st,a,xs,N,m,e,rfl,_⟩:=h;rfl
 .obtain⟨p,EJ,n,r,ts,L,sa,homes,st,a,xs,N,m,e,rfl,n1,n2,hp,R0,KU,HA,iB,SD,ha,xl,m17,he,qr,q⟩:=h;have h1:cx 1 _:=hr.mono (by decide);obtain⟨es,os,q1,q2,q3,q4,a1,a2,a3,b1,b2,b3,eb,IQ,BP,ol⟩:=Eh;rw[eb];refine⟨_,(ai (br (PW.pt (xp (aI dY (pv 1) au (aN _)) (rA (aI (KW hr.u) (pv 5) (bf af) (aN _))))) (ak (aK (bj qJ (pv 5) (bf (aa (aT aO (bZ (aa cp (aa au (aa au (aa fh af))))) (aG D h1 aL (aa (pv 0) (aa au af))) (fun _ _=>rfl)) af))))) aQ)
   (ai (br (aI dY (pv 1) au (aN _)) (ai (aJ (i:=6) wV.nd rfl aM (aG D h1 aL (aa (pv 0) (aa (aB aF (by rfl) B.len cn (aa (pv 5) af)) af))))
    (ak (aK (bj qJ (i8 qK (pv 5) kX (kY (pv 6))) (i8 qK (pv 5) (kY (bj dv (pv 6) au)) kX))))) aQ)
   (ai (br (aI dY (pv 1) au (aN _)) (ak (aK (aT aO (bZ (Ib IQ (aa (cG Bj (by rfl) B.lst nR (aa (pv 5) af)) (aa (bf (aa (pv 5) af)) af)))) (aG D h1 aL (aa (pv 0) (aa au af))) (fun _ _=>rfl)))) aQ)
   (ai (br (aI pL (aB aF (by rfl) B.len cn (aa (pv 5) af)) (aB aF (by rfl) B.len cn (aa (pv 4) af)) (aN _)) (ak (aK (pv 5))) aQ)
   (ai (dL (aG OT hr aL (aa (pv 0) (aa (pv 1) (aa (pv 2) (aa (pv 3) (aa (pv 4) (aa (pv 5) af))))))) (eT (n:=2) rfl (a_ (aw (i:=6) wV.nd rfl aM) (a_ (aw (i:=7) wV.nd rfl aM) dq))))
   (ak (aK (bj qJ (bj qJ (i8 qK (pv 5) kX (kY (pv 6))) (bf (aa (pv 7) af))) (i8 qK (pv 5) (kY (bj dv (pv 6) au)) kX))))))))),?_⟩
  have Bt:=hp.neT iB;have Ja:=hp.neT ha;have dG:∀ (r':Addr) (ys:List V) (H':Hp),az p H H'->bp H' p->H' r'=some (.tup ys)->ys.length<=m+1->(∀y∈ys,y∈xs\/Sw (·≠p) H' (N+1) e y)->Q (.ref r') H':=fun r' ys H' s' JI h' hl hy=>
   q _ H' s' JI (.inl ⟨r',ys,rfl,JI.neT h',h',hl,fun y z=>(hy y z).elim (fun z=>((qr y z).keep (keepE s')).up) id⟩)
  have more:∀H4,aE H H4->E3 (gE MI (aW 5) (jv (aV (gE (oJ K) (Rq (aV (tC .bD) (aV (tC (.int 0)) (aV (tC (.int 1)) (aV (tC (.str "w")) cY))))) (uf eW [] E0 (aV (aW 0) (aV (tC (.int 4)) cY)))) cY))) { nx:=fun _ H'=>Q .bD H',rt:=Q } [some (.ref p),some (.int (EJ:Int)),some (.int (n:Int)),some (.ref r),some (.ref sa),some (.ref a),none,none] H4:=fun H4 s4=>by
   have nA:=hp.same s4;refine⟨_,rfl,by show 4<=sizeLine;decide,fun C hC=>⟨_,rfl,p,4,rfl,by decide,by decide,nA.same (aj hC),fun d H5 hd s5 sB=>?_⟩⟩;have hCp:=nA.ne hC;have all:∀d,d<4->∃v,([V.bD,.int 0,.int 1,.str "w"]:List V)[d]?=some v/\∀ (H':Hp),Sw (·≠p) H' (N+1) 200 v:=fun d hd=>by
    match d,hd with
    |0,_=>exact⟨_,rfl,fun H'=>sM⟩
    |1,_=>exact⟨_,rfl,fun H'=>gX (.inl (by decide))⟩
    |2,_=>exact⟨_,rfl,fun H'=>gX (.inl (by decide))⟩
    |3,_=>exact⟨_,rfl,fun H'=>HC (.inl rfl)⟩
   obtain⟨v,hv,shv⟩:=all d hd;refine⟨C,_,_,v,rfl,rfl,aZ.of (s5 _ _ ae hCp),aA hv,by show 1<=sizeLine;decide,fun t2 MP=>?_⟩;have s6:=aj (o:=.tup [v]) MP;have I_:az p H _:=(((az.of s4).trans (az.of (aj hC))).trans s5).trans (az.of s6);refine⟨a,t2,_,[v],rfl,rfl,I_ _ _ ha Ja,ae,bC (show _<=18 from Nat.add_le_add_right (bC xl m17) 1) (by decide),fun r' H6 s7 h6=>?_⟩;refine dG r' _ H6 (I_.trans (az.of s7)) ((sB.same s6).same s7) h6 (by rw[cf];exact Nat.add_le_add_right xl 1) fun x hx=>?_;rcases bS.mp hx with z|z
   .exact .inl z
   .rw[cC.mp z];exact .inr ((shv H6).le (by lia))
  refine⟨_,rfl,rfl,_,rfl,eU (fun c1=>dP (more _ (aE.refl _))) (fun c1=>?_)⟩;refine⟨_,rfl,by show 0<=sizeLine;decide,fun t0 Uf=>?_⟩;have s0:=aj (o:=.tup []) Uf;refine⟨a,t0,_,rfl,rfl,bv.of (s0 _ _ ha),bv.of ae,_,rfl,eU (fun c2=>more _ s0) (fun c2=>?_)⟩;have x0:0<xs.length:=by
   rcases xs with _|⟨x,xs⟩
   .exact absurd rfl c2
   .simp
  have Oi:=hp.same s0;generalize upd H t0 _=H0 at *;have V_:=s0 _ _ ha;have Ug:=s0 _ _ iB;unfold BH;refine⟨_,rfl,rfl,_,rfl,eU (fun c3=>?_) (fun c3=>?_)⟩
  .refine⟨_,rfl,_,rfl,a,_,rfl,.inr (bv.of V_),p,_,rfl,x0,by lia,Oi,fun k H1 hk s1 jN=>?_⟩;have MZ:=(az.of s0).trans s1;have MY:=MZ _ _ ha Ja;have ea:(k:Int)+1=((k+1:Nat):Int):=by lia
   refine⟨_,rfl,_,rfl,_,rfl,a,_,rfl,MY,fun r1 H6 s6 h6=>?_⟩;refine⟨_,rfl,_,rfl,_,_,rfl,rfl,_,rfl,a,_,rfl,s6 _ _ MY,fun r2 H7 s7 h7=>⟨r1,r2,_,_,rfl,rfl,s7 _ _ h6,h7,?_,fun r3 H8 s8 h8=>?_⟩⟩
   .rw[sG,ea,nC,lI];have:=mB k xs;exact bC (show _<=40 by lia) (by decide)
   .rw[sG,ea,nC] at h8;refine dG r3 _ H8 (MZ.trans (az.of ((s6.trans s7).trans s8))) (((jN.same s6).same s7).same s8) h8 ?_ fun x hx=>.inl ?_
    .rw[cf,lq,lI];lia
    .exact(bS.mp hx).elim lm nY
  refine⟨_,rfl,rfl,_,rfl,eU (fun c4=>?_) (fun c4=>?_)⟩
  .refine Ic (p:=p) (n:=1) BP Oi.full fun vs H1 s1 vl hv=>?_;have MZ:=s0.trans s1;have jN:=Oi.same s1;refine⟨_,rfl,a,xs,rfl,MZ _ _ ha,fun l hl ns=>⟨_,rfl,by show 1<=sizeLine;decide,fun t ht=>?_⟩⟩;have s2:=aj (o:=.lst xs) hl;have kJ:=jN.same s2;have s3:=aj (o:=.tup [.ref a]) ht;have nl:=jN.ne hl;have nt:=kJ.ne ht;have gl:=s3 _ _ (ae (H:=H1) (a:=l) (o:=.lst xs));have gt:=ae (H:=upd H1 l (.lst xs)) (a:=t) (o:=.tup [.ref a]);have sH3:=(MZ.trans s2).trans s3;have s13:=s2.trans s3;have mv:=kJ.same s3;generalize upd (upd H1 l _) t _=H3 at *;refine⟨by rw[cf,vl,ol];show 8<=sizeLine;decide,fun Ls hLs=>?_⟩;have wl:(vs++[V.ref l,.ref t]).length=8:=by rw[cf,vl,ol];rfl
   have s4:=aj (o:=.lst (vs++[V.ref l,.ref t])) hLs;have nLs:=mv.ne hLs;refine⟨_,rfl,p,8,rfl,by decide,by decide,mv.same s4,fun d H5 hd s5 sB=>?_⟩;rw[<-wl] at hd;have I_:=(az.of (sH3.trans s4)).trans s5;have k3:∀b o,b≠p->H3 b=some o->H5 b=some o:=fun b o n e=>s5 _ _ (s4 _ _ e) n;refine⟨Ls,_,_,(vs++[V.ref l,.ref t])[d],rfl,rfl,aZ.of (s5 _ _ ae nLs),aA (bB hd),q _ H5 I_ sB ?_⟩;have hm:=dH hd;generalize (vs++[V.ref l,.ref t])[d]=v at *;have wx:xs.length*(e+1)<=m*(e+1):=Nat.mul_le_mul_right _ xl;have Uh:∀x∈xs,Sw (·≠p) H5 N e x:=fun x hx=>(qr x hx).keep (keepE I_);rcases bS.mp hm with z|z
   .obtain⟨sw,pl⟩:=hv v z;have sw5:Sw (·≠p) H5 1 201 v:=sw.keep fun b o n e _=>k3 b o n (s13 _ _ e);rcases Ud (K:=K) sw5 (pl.keep fun b o n e=>k3 b o n (s13 _ _ e)) with ⟨b,ys,rfl,nb,hb,YT,hy⟩|nt'
    .exact .inl ⟨b,ys,rfl,nb,hb,by lia,fun y hy'=>((hy y hy').ups (by lia)).le he⟩
    .exact .inr (.inr ⟨nt',(sw5.ups (by lia)).le (by lia)⟩)
   .rcases bK.mp z with rfl|z
    .have g5:=k3 _ _ nl gl;exact .inr (.inr ⟨⟨_,.of (.lst g5),by kernel_rfl⟩,((HB (L:=(·≠p)) nl ns g5 Uh).up).le (by lia)⟩)
    .rw[cC.mp z];have g5:=k3 _ _ nt gt;refine .inr (.inl ⟨t,_,rfl,nt,g5,bt 1,fun y hy=>?_⟩);rw[cC.mp hy];exact(wI (L:=(·≠p)) Ja (I_ _ _ ha Ja) Uh).le (by lia)
  refine⟨_,rfl,a,_,rfl,.inr (bv.of V_),_,rfl,sa,_,rfl,.inr (bv.of Ug),rfl,_,rfl,eU (fun c5=>?_) (fun c5=>?_)⟩
  .exact⟨_,rfl,dG a xs H0 (az.of s0) Oi V_ (by lia) fun y hy=>.inl hy⟩
  have xe:xs.length=st.length:=by
   rw[aP] at c5;simp at c5;lia
  have R1:bG H0 L r n (bn n ts):=R0.keep KU fun b o l e=>s0 b o e;refine⟨_,rfl,_,rfl,_,rfl,_,rfl,_,rfl,_,rfl,p,EJ,n,r,ts,L,sa,homes,st,a,xs,N+1,e,rfl,n1,n2,Oi,R1,KU,HA,Ug,SD,V_,x0,xe,by lia,he,fun x hx=>((qr x hx).keep (kT.of s0)).up,fun t k x H1 s1 jN ht hk sw=>?_⟩;have MZ:=(az.of s0).trans s1;have MY:=MZ _ _ ha Ja;refine⟨t,_,rfl,bv.of ht,rfl,_,_,rfl,_,_,rfl,rfl,?_⟩;have ea:(k:Int)+1=((k+1:Nat):Int):=by lia
  refine⟨_,rfl,_,rfl,_,rfl,a,_,rfl,MY,fun r1 H2 s2 g1=>?_⟩;rw[sG] at g1;refine⟨_,rfl,by show 1<=sizeLine;decide,fun t' ht'=>?_⟩;have s3:=aj (o:=.tup [x]) ht';refine⟨r1,t',_,[x],rfl,rfl,s3 _ _ g1,ae,?_,fun r2 H4 s4 g2=>?_⟩
  .have:=mB k xs;rw[jT];exact bC (show _<=40 by lia) (by decide)
  have s24:=(s2.trans s3).trans s4;refine⟨_,rfl,_,rfl,_,_,rfl,rfl,_,rfl,a,_,rfl,s24 _ _ MY,fun r3 H5 s5 g3=>⟨r2,r3,_,_,rfl,rfl,s5 _ _ g2,g3,?_,fun r4 H6 s6 g4=>?_⟩⟩
  .rw[ea,nC,cf,lI,jT];have:=mB k xs;exact bC (show _<=60 by lia) (by decide)
  .rw[ea,nC] at g4;have Y4:=(s24.trans s5).trans s6;refine dG r4 _ H6 (MZ.trans (az.of Y4)) (jN.same Y4) g4 ?_ fun y hy=>?_
   .rw[cf,cf,lq,lI,jT];lia
   .rcases bS.mp hy with z|z
    .rcases bS.mp z with z|z
     .exact .inl (lm z)
     .rw[cC.mp z];exact .inr (sw.keep (kT.of Y4))
    .exact .inl (nY z)
theorem wW:aS ["_law_pot_here","_law_ways","_law_n","_law_outs_here","_law_stand_here","_law_thing","_law_way"] ["_law_pot_here","_law_ways","_law_n","_law_outs_here","_law_stand_here","_law_thing"] (av Bw):=cZ (by decide +kernel)
def Bn:Nat->Nat
 |0=>3232
 |i+1=>2*Bn i+202
def Tg(K:PySem.W.Frag)(p:Addr)(H:Hp)(i:Nat)(x:V):Prop:=(∃m e,QW p H i m e x/\201<=e/\e<=Bn i/\m<=16+i/\m*(e+1)<=Bn i)\/(Y1 K H x/\Sw (·≠p) H (i+1) (Bn i) x)
theorem Tg.next{p:Addr}{H:Hp}{i:Nat}{x:V}(h:Tg K p H i x):Tg K p H (i+1) x:=by
 have b:Bn (i+1)=2*Bn i+202:=rfl;rcases h with ⟨m,e,⟨a,xs,e1,e2,e3,e4,e5⟩,h1,h2,h3,h4⟩|⟨h1,h2⟩
 .exact .inl ⟨m,e,⟨a,xs,e1,e2,e3,e4,fun y hy=>(e5 y hy).up⟩,h1,by lia,by lia,by lia⟩
 .exact .inr ⟨h1,h2.up.le (by lia)⟩
theorem Tg.Y5{p:Addr}{H:Hp}{i m e:Nat}{x:V}(h:BeR K p H i m e x)(h1:201<=e)(h2:e<=Bn i)(h3:m<=16+i)(h4:m*(e+1)<=Bn i):Tg K p H (i+1) x:=by
 have b:Bn (i+1)=2*Bn i+202:=rfl;rcases h with h|h|⟨h,h'⟩
 .exact .inl ⟨m+1,e,h,h1,by lia,by lia,by rw[vt];lia⟩
 .exact .inl ⟨1,_,h,by lia,by lia,by lia,by lia⟩
 .exact .inr ⟨h,h'.le (by lia)⟩
def wX:Sp:=fun vs H Q _=>∃ (p wa:Addr) (ws:List Nat) (n:Nat) (r:Addr) (ts:Ts) (L:Addr->Prop) (sa:Addr) (homes:List Nat) (st:List (Option Nat)) (x0:V),vs=[.ref p,.ref wa,.int n,.ref r,.ref sa,x0]/\H wa=some (.lst (NV ws))/\wa≠p/\ws.length=2/\1<=n/\n<=32/\bp H p/\bG H L r n (bn n ts)/\L r/\¬ L p/\H sa=some (.tup (st.map oV))/\sJ n ts homes st/\QW p H 0 16 201 x0/\
 ∀ (x:V) (H':Hp),az p H H'->bp H' p->Sw (·≠p) H' 3 20000 x->Q x H'
theorem Ik{f:Addr}{fd:FuncData}(F:gv K "_law_twice_bent" "_law_twice_bent" Bw f fd)(B:Bl mg)(BE:cE P w K mg base bu 4 "_law_bent" ["_law_pot_here","_law_way","_law_n","_law_outs_here","_law_stand_here","_law_thing"] (Bx K)):bL P w K mg base bu 5 f fd ["_law_pot_here","_law_ways","_law_n","_law_outs_here","_law_stand_here","_law_thing"] wX:=by
 refine F.ok wW (fun vs H Q E h=>?_) (fun dW A outer s H vs Q E hr h=>?_)
 .obtain⟨p,wa,ws,n,r,ts,L,sa,homes,st,x0,rfl,_⟩:=h;rfl
 .obtain⟨p,wa,ws,n,r,ts,L,sa,homes,st,x0,rfl,hwa,nwa,wl,n1,n2,hp,R0,KU,HA,iB,SD,T0,q⟩:=h;refine⟨_,(ai (cq dh rfl (b9 (pv 1)) (aw (i:=6) wW.nd rfl aM)
    (ak (br (PW.pt (fJ (aI kn (pv 6) au (aN _)) (fG (cR (aB e_ (by rfl) B.DR iX (aa (pv 5) (aa (gu (v:=.ty "tuple") rfl B.tup lh rfl) af))))))) (ak (aJ (i:=5) wW.nd rfl aM (aG BE hr aL (aa (pv 0) (aa (pv 6) (aa (pv 2) (aa (pv 3) (aa (pv 4) (aa (pv 5) af))))))))) aQ)))
   (ak (aK (pv 5)))),?_⟩
  have Bt:=hp.neT iB;refine⟨_,rfl,wa,rfl,⟨_,aZ.of hwa⟩,ij (K:=K) (xs:=NV ws) (fun i σ Hc=>∃x,(∃u,σ=[some (.ref p),some (.ref wa),some (.int (n:Int)),some (.ref r),some (.ref sa),some x,u])/\az p H Hc/\bp Hc p/\Tg K p Hc i x) ⟨x0,⟨_,rfl⟩,az.refl,hp,.inl ⟨16,201,T0,by decide,by decide,by decide,by decide⟩⟩ (fun i σ Hc _ z=>by obtain⟨_,_,z,_⟩:=z;exact aZ.of (z _ _ hwa nwa)) ?_ ?_⟩
  .rintro i wv σ Hc hw ⟨x,⟨u,rfl⟩,sc,iM,tg⟩;obtain⟨EJ,XJ,rfl⟩:=sk hw;have hi:i<2:=by rw[<-wl];exact(cK.mp XJ).1
   refine⟨_,rfl,_,_,rfl,rfl,_,rfl,eU (fun c=>?_) (fun c=>cD ⟨x,⟨_,rfl⟩,sc,iM,tg.next⟩)⟩;rcases id tg with ⟨m,e,⟨a,xs,rfl,na,ha,xl,qr⟩,h1,h2,h3,h4⟩|⟨⟨t,ty,kt⟩,_⟩
   .refine⟨_,rfl,_,_,_,.type "tuple",true,rfl,⟨rfl,nj⟩,.of (.tup ha),_,rfl,dP ?_⟩;have R1:bG Hc L r n (bn n ts):=R0.keep KU fun b o l e=>sc b o e fun z=>HA (z ▸ l);exact⟨_,rfl,_,rfl,_,rfl,_,rfl,_,rfl,_,rfl,p,EJ,n,r,ts,L,sa,homes,st,a,xs,i,m,e,rfl,n1,n2,iM,R1,KU,HA,sc _ _ iB Bt,SD,ha,xl,by lia,h1,qr,fun y H2 s2 kJ be=>⟨y,⟨_,rfl⟩,sc.trans s2,kJ,Tg.Y5 be h1 h2 h3 h4⟩⟩
   .exact⟨_,rfl,_,_,_,t,false,rfl,⟨rfl,kt⟩,ty,_,rfl,cD ⟨x,⟨_,rfl⟩,sc,iM,tg.next⟩⟩
  .rintro σ Hc ⟨x,⟨u,rfl⟩,sc,iM,tg⟩;rw[aR,wl] at tg;have b2:Bn 2<=20000:=by decide
   refine⟨_,rfl,q x Hc sc iM ?_⟩;rcases tg with ⟨m,e,⟨a,xs,rfl,na,ha,xl,qr⟩,h1,h2,h3,h4⟩|⟨_,sw⟩
   .exact(wI (L:=(·≠p)) na ha qr).le (bC (Nat.mul_le_mul_right _ xl) (by lia))
   .exact sw.le b2
end
end nN
namespace L2
open PySem PySem.Spec PyProof.Rows
def CO:V->List V->Hp->VK->Prop:=fun x vs H Q=>∃ (l:Addr) (xs:List V) (y:V),x=.ref l/\vs=[y]/\H l=some (.tup xs)/\dA y=true/\xs.all dA=true/\Q (.int (xs.countP fun z=>jL z y)) H
theorem Ei{X:Cx}:NJ X "tuple.count" CO:=by
 intro ag s σ H x vs v us Q I rx rv h;obtain⟨l,xs,y,rfl,rfl,hH,fy,fs,q⟩:=h;cases rx;obtain⟨u,rfl,ru⟩:=rv.one;obtain⟨its,r,⟨o,e,hc,n,d⟩,_⟩:=I.tuple (bv.of hH);obtain⟨oc,od,odt,tJ⟩:=o;obtain rfl:oc=.type "tuple":=hc;obtain rfl:odt=.seq its.toArray n:=d;refine iR F.slot_tuple_count ⟨_,e,rfl⟩ F.entry_tuple_count (F.args_tuple_count_2 _ _) (SeqAt.tuple_countAt l its.toArray n od tJ u (uk y)) ⟨e,fun w hw=>il ru fy r fs w (by simpa using hw),?_⟩;refine⟨.int _,H,I.tok _,⟨s.toks,?_⟩,q⟩;rw[show its.toArray.toList=its by simp,lY r fs]
def Ui(r:V->List V->Hp->VK->Prop)(to:TE)(t:TA):TE:=fun σ H Q=>to σ H fun x H1=>(∃p xs,x=.ref p/\H1 p=some (.tup xs))/\t σ H1 fun xs H2=>r x xs H2 Q
theorem Pp{X:Cx}{o e:Expr}{es:List Expr}{to:TE}{t:TA}{name:Str}{kq iw:Pos}{id:String}{r:V->List V->Hp->VK->Prop}(pa:PlainAttrs "tuple")(slot:Slot "tuple" name id)(RA:typeOf (.builtin id)=pure (.type "method_descriptor"))(hm:WG X id r)(ho:PE X o to)(ha:PA X (e::es) t)(xA:attributeBase o name X.env (eval o X.env)=eval o X.env:=by rfl)(NI:((backTo iw (starEach (e::es) X.env)).all (fun x=>!x.1)&&(backToKw iw (keywordEach [] X.env)).all (fun x=>x.1.isSome)
   && decide ((e::es).length+([]:List Keyword).length+(if ([]:List Keyword).isEmpty then 0 else 1)<30))=true:=by rfl)(xB:(kq.endLine==iw.line)=true:=by rfl)(hs:starEach (e::es) X.env=(false,eval e X.env)::starEach es X.env:=by rfl)(rH:(backTo iw (starEach es X.env)).any (·.1)=false:=by rfl):
  PE X (.Call (.Attribute o name kq) (e::es) [] iw) (Ui r to t):=by
 intro ag s σ H Q I h;refine wpAny_Call_method_late xA NI xB rfl (cV (ho ag s σ H _ I h) fun v s1 ⟨x,H1,I1,r1,ty,q1⟩=>?_);obtain⟨p,xs,rfl,hp⟩:=ty;cases r1;obtain⟨_,_,_,ob,e1,e2,_,_,e3⟩:=(show cu X.prog X.w H1 s1.heap p (.tup xs) from I1.b_ p _ hp)
 refine⟨"tuple",id,pa,slot,RA,⟨ob,e1,e2⟩,fun a z=>by cases z;exact⟨ob,e1,e3⟩,?_⟩;have hA:=ha iw ag s1 σ H1 _ I1 q1;rw[hs] at hA |-;refine zy (by show (false||(backTo iw (starEach es X.env)).any (·.1))=false;rw[rH] <;> rfl) (zM ?_);exact cV hA fun us s2 ⟨vs,H2,I2,r2,q2⟩=>hm ag s2 σ H2 (.ref p) vs (.ref p) us Q I2 rfl r2 q2
theorem K8{K:PySem.W.Frag}{a b:Addr}{xs ys:List V}{g:TG}{tb:TS}{D:xo}{σ:St}{H:Hp}(J4:xs.length=ys.length)(Pv:Nat->St->Hp->Prop)(h0:Pv 0 σ H)(hl:∀i σ H,i<=xs.length->Pv i σ H->bv K H a xs/\bv K H b ys)(hs:∀i x y p σ H,xs[i]?=some x->ys[i]?=some y->Pv i σ H->H p=none->g (.ref p) σ (upd H p (.tup [x,y])) fun σ2 H2=>tb { D with nx:=Pv (i+1),ct:=Pv (i+1),bk:=D.nx } σ2 H2)(hd:∀σ H,Pv xs.length σ H->D.nx σ H):
  ∃W:Nat->Nat->St->Hp->Prop,(∃m,W 0 m σ H)/\∀i m σ H,W i m σ H->
   ((QC K a b).stop i H/\D.nx σ H)\/((QC K a b).go i H/\∃N:St->Hp->Prop,(∀σ' H',N σ' H'->∃m',m'<m/\W (i+1) m' σ' H')/\∀x H',(QC K a b).No i H x H'->g x σ H' fun σ2 H2=>tb { D with nx:=N,ct:=N,bk:=D.nx } σ2 H2):=by
 refine⟨fun i m σ H=>m=xs.length-i/\i<=xs.length/\Pv i σ H,⟨xs.length,by simp,cM _,h0⟩,?_⟩;rintro i m σ H ⟨rfl,hi,p⟩;obtain⟨q1,q2⟩:=hl i σ H hi p;by_cases eZ:i<xs.length
 .have Gm:i<ys.length:=by lia
  refine .inr ⟨⟨xs,ys,xs[i],ys[i],q1,q2,by simp[eZ],by simp[Gm]⟩,Pv (i+1),fun σ' H' p'=>⟨xs.length-(i+1),by lia,rfl,eZ,p'⟩,?_⟩;rintro v H' ⟨pp,x,y,rfl,hn,rfl,N5,SI⟩;exact hs i x y pp σ _ (N5 xs q1) (SI ys q2) p hn
 .have e:i=xs.length:=by lia
  subst e;exact .inl ⟨⟨xs,q1,bt _⟩,hd σ H p⟩
end L2
namespace nN
open PySem L2 ix
abbrev sY:Stmt:=iy 22
theorem mi:(["house","thing","net"]:List Str).Nodup:=by decide +kernel
theorem M0(n:Int)(tl ol ds:Addr):(tT n tl ol ds).lookup ("many":Str)=none:=wm n tl ol ds (by decide +kernel) (by decide +kernel) (by decide +kernel) (by decide +kernel)
def Jb(n home:Nat):k9->Bool
 |none=>true
 |some o=>eI o 0 ((n:Int)-1)&&!decide (o=some (home:Int))
def wY(es:List k9)(h:Nat):Nat:=es.countP fun e=>decide (e=some (some (h:Int)))
def FF(n:Nat)(ts:Ts)(homes:List Nat)(es:List k9):Bool:=
 decide (es.length=homes.length)&&((List.range homes.length).all (fun i=>Jb n (homes.getD i 0) (es.getD i none))&&(List.range n).all fun h=>decide (wY es h<=(bn n ts h).length))
def sZ(n:Nat)(ts:Ts)(homes:List Nat):Option (List k9)->Bool
 |none=>false
 |some es=>FF n ts homes es
theorem Pq{n:Nat}{ts:Ts}{homes:List Nat}{es:List k9}{i:Nat}(hi:i<homes.length)(h:Jb n (homes.getD i 0) (es.getD i none)=false):FF n ts homes es=false:=by
 unfold FF;have:(List.range homes.length).all (fun i=>Jb n (homes.getD i 0) (es.getD i none))=false:=by
  rw[qX];intro z;have:=g8.mp z i (bQ.mpr hi);rw[h] at this;cases this
 rw[this];simp
theorem CP{n:Nat}{ts:Ts}{homes:List Nat}{es:List k9}(hl:es.length=homes.length)(h:∀i,i<homes.length->Jb n (homes.getD i 0) (es.getD i none)=true):FF n ts homes es=(List.range n).all fun h=>decide (wY es h<=(bn n ts h).length):=by
 unfold FF;rw[cL hl,g8.mpr fun i hi=>h i (bQ.mp hi)];rfl
theorem K9{K:PySem.W.Frag}{H:Hp}{n home:Nat}{x:V}{e:k9}(h:En K H x e)(k:Jb n home e=true):dA x=true/\∀m:Nat,jL x (.int (m:Int))=decide (e=some (some (m:Int))):=by
 cases h with
 |bD=>exact⟨rfl,fun m=>by simp[jL]⟩
 |@th _ o hn w=>
  cases w with
  |int i=>exact⟨rfl,fun m=>by rw[jJ];simp[jL]⟩
  |no _=>cases k
theorem Il{K:PySem.W.Frag}{H:Hp}{n:Nat}(hf:Nat->Nat):∀ {xs:List V} {es:List k9},MU K H xs es->(∀i,i<es.length->Jb n (hf i) (es.getD i none)=true)->xs.all dA=true/\∀m:Nat,(xs.countP fun z=>jL z (.int (m:Int)))=wY es m:=by
 intro xs;induction xs generalizing hf with
 |nil=>
  intro es h k;obtain⟨hl,he⟩:=h;obtain rfl:es=[]:=List.length_eq_zero_iff.mp hl.symm;exact⟨rfl,fun m=>rfl⟩
 |cons x xs ih=>
  intro es h k;obtain⟨hl,he⟩:=h;cases es with
  |nil=>cases hl
  |cons e es=>
   obtain⟨f1,f2⟩:=K9 (he 0 (rf _)) (k 0 (rf _));obtain⟨g1,g2⟩:=ih (fun i=>hf (i+1)) ⟨Nat.succ.inj hl,fun i hi=>he (i+1) (Nat.succ_lt_succ hi)⟩ fun i hi=>k (i+1) (Nat.succ_lt_succ hi);refine⟨by rw[jm];exact nZ.mpr ⟨f1,g1⟩,fun m=>?_⟩;unfold wY at g2 |-;rw[j6,j6,g2 m];have:=f2 m;have f2':jL x (.int (m:Int))=decide (e=some (some (m:Int))):=this;rw[f2']
section
variable {P:Program} {w:World} {K:PySem.W.Frag} {mg:Str->Option Value} {base:Heap}
theorem pB:aS ["net","homes","thing","home","house"] ["net","homes","thing"] (av sY):=cZ (by decide +kernel)
def pC(K:PySem.W.Frag)(C:Addr):Sp:=fun vs H Q _=>∃ (L:Addr->Prop) (p:Addr) (n:Nat) (ts:Ts) (ha:Addr) (homes:List Nat) (x:V) (o:Option (List k9)),vs=[.ref p,.ref ha,x]/\eS C H L p n ts/\H ha=some (.tup (NV homes))/\homes.length<=16/\(∀H',aE H H'->Th K H' x o)/\∀H',aE H H'->Q (.bl (sZ n ts homes o)) H'
theorem By{f C:Addr}{fd:FuncData}(F:gv K "is_stand" "is_stand" sY f fd)(B:Bl mg)(B2:OK mg)(T:NT K mg C)(RW:cE P w K mg base bu 1 "is_row" ["thing","length"] (ym K))(HO:cE P w K mg base bu 3 "is_house" ["many","thing"] (ni K))(MM:yo P w K mg base bu 1 C "many" ["self"] (A6 C))(MO:yo P w K mg base bu 5 C "out" ["self","house"] (si C)):bL P w K mg base bu 6 f fd ["net","homes","thing"] (pC K C):=by
 obtain⟨fM,fdM,mM,bM,GM⟩:=MM.ex;obtain⟨fO,fdO,mO,bO,GO⟩:=MO.ex;refine F.ok pB (fun vs H Q E h=>?_) (fun dW A outer s H vs Q E hr h=>?_)
 .obtain⟨L,p,n,ts,ha,homes,x,o,rfl,_⟩:=h;rfl
 .obtain⟨L,p,n,ts,ha,homes,x,o,rfl,N,nJ,hl,hx,q⟩:=h;have h1:cx 1 _:=hr.mono (by decide);have h3:cx 3 _:=hr.mono (by decide);refine'⟨_,(ai (br (d_ (cR (aG RW h1 aL (aa (pv 2) (aa (aB aF (by rfl) B.len cn (aa (pv 1) af)) af))))) (ak (aK mG)) aQ)
   (ai (cq dh rfl (v8 rfl B2.zip (aa (pv 1) (aa (pv 2) af))) (eT (n:=2) rfl (a_ (aw (i:=3) pB.nd rfl aM) (a_ (aw (i:=4) pB.nd rfl aM) dq)))
    (ak (br (PW.pt (fJ (aI ju (pv 4) cp (aN _)) (fG (d_ (PW.pt (fJ (cR (aG HO h3 aL (aa (xw (pv 0) T.cl mM GM h1 bM .nil aL) (aa (pv 4) af)))) (fG (aI pL (pv 4) (pv 3) (aN _))))))))) (ak (aK mG)) aQ)))
   (ak (aK (aB (uC rfl) (by rfl) B.all PyProof.Rows.boot_all (aa ?c1 af)))))),?_⟩
  case c1=>
   refine' cA (g:=(bE 0)) (te:=(gE (vF fun i j=>.bl (decide (i<=j))) (Ui CO (aW 1) (aV (aW 0) cY)) (Da (fun xs H Q=>∃p ys,xs=[V.ref p]/\(aZ K H p ys\/bv K H p ys)/\Q (.int ys.length) H) (aV (Fg C "out" (si C) [] E0 (aW 2) (aV (aW 0) cY)) cY)))) (NB:=["house","thing","net"]) (src:=[none,some 2,some 0]) (bN (by kernel_rfl)) rfl (bi rfl B.range (aa (xw (pv 0) T.cl mM GM h1 bM .nil aL) af)) ?g ?t ?e;case g=>exact fun cl C s₃ H₃ fp=>(aw (i:=0) mi rfl aM bU)
   case t=>exact fun cl C s₃ H₃ fp=>cy
   case e=>exact fun cl C s₃ H₃ fp=>(iG E9 (Pp PySem.F.plainAttrs_tuple PySem.F.slot_tuple_count PySem.F.type_tuple_count Ei (pv 1) (aa (pv 0) af)) (aB aF (by rfl) B.len cn (aa (vK (pv 2) T.cl mO GO hr bO .nil aL (aa (pv 0) af)) af)) (aN _))
  have n2:=N.l7.n2;obtain⟨o',Rx,eR⟩:=(hx H (aE.refl _)).row;refine⟨_,rfl,_,rfl,ha,_,rfl,.inr (bv.of nJ),x,o',_,rfl,Rx,_,rfl,?_⟩;rw[eR,aR];have NS:=hx H (aE.refl _);cases NS with
  |no ty h=>exact dP (q H (aE.refl _))
  |@tup a xs es qr en=>
  obtain⟨el,_⟩:=id en;by_cases c_:es.length=homes.length
  rotate_left
  .refine gL (by simp;lia) ?_;have e:sZ n ts homes (some es)=false:=by show FF n ts homes es=false;unfold FF;rw[dO c_];rfl
   have:=q H (aE.refl _);rw[e] at this;exact this
  refine ir (by simp;lia) ?_;have Pe:∀H',aE H H'->MU K H' xs es:=fun H' s=>by
   have:=hx H' s;cases this with
   |@tup _ xs' _ h' e'=>
    have:=s _ _ qr;rw[this] at h';cases h';exact e'
  refine⟨_,rfl,_,rfl,ha,a,_,_,rfl,bv.of nJ,bv.of qr,by rw[aR];lia,?_⟩;refine K8 (K:=K) (xs:=NV homes) (ys:=xs) (by rw[aR];lia) (fun i σ Hc=>(∃u v,σ=[some (.ref p),some (.ref ha),some (.ref a),u,v])/\aE H Hc/\∀j,j<i->Jb n (homes.getD j 0) (es.getD j none)=true) ⟨⟨_,_,rfl⟩,aE.refl _,fun j hj=>absurd hj (jG _)⟩ (fun i σ Hc _ z=>⟨bv.of (z.2.1 _ _ nJ),bv.of (z.2.1 _ _ qr)⟩) ?_ ?_
  .rintro i hv y pp σ Hc ZY hy ⟨⟨u,v,rfl⟩,sc,ok⟩ Uj;obtain⟨home,hh,rfl⟩:=sk ZY;have hi:i<homes.length:=(cK.mp hh).1;have eh:homes.getD i 0=home:=by rw[aY,hh];rfl
   have ey:xs.getD i .bD=y:=by rw[aY,hy];rfl
   have sp:=aj (o:=.tup [.int (home:Int),y]) Uj;have e1:=(Pe _ (sc.trans sp)).2 i (by lia);rw[ey] at e1;have N2:=N.same (sc.trans sp);refine⟨pp,_,rfl,bv.of ae,rfl,_,_,rfl,_,_,rfl,rfl,?_⟩;have kok:∀H',aE H H'->Jb n home (es.getD i none)=true->((∃u v,[some (V.ref p),some (.ref ha),some (.ref a),some (.int (home:Int)),some y]=[some (.ref p),some (.ref ha),some (.ref a),u,v])/\aE H H'/\∀j,j<i+1->Jb n (homes.getD j 0) (es.getD j none)=true):=fun H' s k=>⟨⟨_,_,rfl⟩,s,fun j hj=>by
    by_cases c:j<i
    .exact ok j c
    .obtain rfl:j=i:=by lia
     rw[eh];exact k⟩
   have kno:∀H',aE H H'->Jb n home (es.getD i none)=false->Q (.bl false) H':=fun H' s k=>by
    have:=q H' s;rw[show sZ n ts homes (some es)=false from Pq hi (by rw[eh];exact k)] at this;exact this
   generalize es.getD i none=e at *;generalize upd Hc pp _=H2 at *;have s2:=sc.trans sp;cases e1 with
   |bD=>exact⟨_,rfl,rfl,_,rfl,cD (cD (kok _ s2 rfl))⟩
   |@th _ oo ur W=>
    refine⟨_,rfl,rfl,_,rfl,?_⟩;refine gL (by simp[ur]) ?_;obtain⟨dx,tl,ol,ds,hN,_⟩:=N2.ob;refine⟨_,rfl,p,dx,_,rfl,hN,M0 _ _ _ _,L,p,n,ts,rfl,N2,_,rfl,y,oo,(n:Int),rfl,W,_,rfl,?_⟩;by_cases cw:eI oo 0 ((n:Int)-1)=true
    .rw[cw];cases W with
     |no h=>cases cw
     |int z=>
      refine dP ⟨_,rfl,_,rfl,rfl,_,rfl,?_⟩;by_cases cz:z=(home:Int)
      .subst cz;refine gL (by simp) (kno _ s2 ?_);show (eI (some (home:Int)) 0 ((n:Int)-1)&&!decide (some (home:Int)=some (home:Int)))=false;simp
      .refine ir (by simp[cz]) (kok _ s2 ?_);show (eI (some z) 0 ((n:Int)-1)&&!decide (some z=some (home:Int)))=true;rw[cw];simp[cz]
    .have cw':=qX.mpr cw;rw[cw'];refine cD (dP (kno _ s2 ?_));show (eI oo 0 ((n:Int)-1)&&!decide (oo=some (home:Int)))=false;rw[cw'];rfl
  .rintro σ Hc ⟨⟨u,v,rfl⟩,sc,ok⟩;rw[aR] at ok;have Nc:=N.same sc;obtain⟨dx,tl,ol,ds,hN,_⟩:=Nc.ob;obtain⟨fl,ct⟩:=Il (n:=n) (fun i=>homes.getD i 0) (Pe Hc sc) fun i hi=>ok i (by lia);refine⟨_,rfl,p,dx,_,rfl,hN,M0 _ _ _ _,L,p,n,ts,rfl,Nc,(n:Int),rfl,by lia,by lia,fun D1 pY=>?_⟩;rw[i3];refine CF (lo:=0) (n:=n) (fun h=>V.bl (decide (wY es h<=(bn n ts h).length))) (fun σ=>∃u,σ=[u,some (.ref a),some (.ref p)]) pY (by lia) ⟨_,rfl⟩ ?_ ?_
   .rintro h σ H3 R Kf hh ⟨u',rfl⟩ sm kt;rw[d9];have N3:=N.same (sc.trans sm);obtain⟨dx,tl,ol,ds,hN,_⟩:=N3.ob;have ha3:=(sc.trans sm) _ _ qr;refine⟨_,rfl,⟨a,xs,rfl,ha3⟩,_,rfl,a,xs,_,rfl,rfl,ha3,rfl,fl,?_⟩;rw[ct h];refine⟨_,rfl,p,dx,_,rfl,hN,TY _ _ _ _,_,rfl,L,p,n,ts,h,rfl,N3,hh,fun r H4 s4 Kw wF=>⟨r,_,rfl,.inl (aZ.of wF),_,_,rfl,rfl,?_⟩⟩;rw[aR];have:=kt [some (.int (h:Int)),some (.ref a),some (.ref p)] H4 ⟨_,rfl⟩ s4;have e:decide (((wY es h:Nat):Int)<=(((bn n ts h).length:Nat):Int))=decide (wY es h<=(bn n ts h).length):=lH.mpr (by lia);rw[<-e] at this;exact this
   .intro H3 s3 qm;have GV:H3 D1=some (.lst (((List.range n).map fun h=>decide (wY es h<=(bn n ts h).length)).map V.bl)):=by rw[qm,di];rfl
    refine⟨D1,_,rfl,aZ.of GV,?_⟩;have:=q H3 (sc.trans s3);rw[show sZ n ts homes (some es)=_ from CP c_ ok] at this;rw[vx];exact this
end
end nN
namespace L2
open PySem PySem.Spec PyProof.Rows
def Ps(xs ys:List V):Bool:=(List.range (min xs.length ys.length)).all (fun i=>jL (xs.getD i .bD) (ys.getD i .bD))&&xs.length==ys.length
def rTF(K:PySem.W.Frag)(neg:Bool):R2:=fun x y H Q=>∃ (p q:Addr) (xs ys:List V),x=.ref p/\y=.ref q/\bv K H p xs/\bv K H q ys/\xs.all dA=true/\ys.all dA=true/\Q (.bl (if neg then !Ps xs ys else Ps xs ys)) H
section
variable {X:Cx}
theorem K_(hu:X.A.units+2<cLine):lU X (compareOp .Eq) (rTF X.K false):=by
 intro ag s σ H x y v u Q I rx ry h;obtain⟨p,q,xs,ys,rfl,rfl,hp,hq,fx,fy,k⟩:=h;obtain rfl:v=Value.ref p:=rx;obtain rfl:u=Value.ref q:=ry;obtain⟨us,r1,p1,_⟩:=I.tuple hp;obtain⟨vs,r2,p2,_⟩:=I.tuple hq;refine SeqAt.eq_tupleAt (e:=fun i=>jL (xs.getD i .bD) (ys.getD i .bD)) (show s.heap.IsTuple p us.toArray from p1) (show s.heap.IsTuple q vs.toArray from p2) (by lia) (l6 r1 r2 fx fy) ⟨.bl _,H,I,rfl,?_⟩;rw[bJ,bJ,<-r1.length,<-r2.length];exact k
theorem La(hu:X.A.units+2<cLine):lU X (compareOp .NotEq) (rTF X.K true):=by
 intro ag s σ H x y v u Q I rx ry h;obtain⟨p,q,xs,ys,rfl,rfl,hp,hq,fx,fy,k⟩:=h;obtain rfl:v=Value.ref p:=rx;obtain rfl:u=Value.ref q:=ry;obtain⟨us,r1,p1,_⟩:=I.tuple hp;obtain⟨vs,r2,p2,_⟩:=I.tuple hq;refine SeqAt.RcNeAt.tuples (e:=fun i=>jL (xs.getD i .bD) (ys.getD i .bD)) (show s.heap.IsTuple p us.toArray from p1) (show s.heap.IsTuple q vs.toArray from p2) (by lia) (l6 r1 r2 fx fy) _ _ _ _ ⟨.bl _,H,I,rfl,?_⟩;rw[bJ,bJ,<-r1.length,<-r2.length];exact k
end
end L2
namespace nN
open PySem L2 ix
theorem Bz{a b:Option Nat}(h:oV a=oV b):a=b:=by
 cases a <;> cases b
 .rfl
 .cases h
 .cases h
 .injection h with h;exact congrArg some (d8 h)
theorem Lb{a:Option Nat}:dA (oV a)=true:=by cases a <;> rfl
theorem Lc{a:Option Nat}:jL (oV a) (oV a)=true:=by
 cases a
 .rfl
 .show ((_:Int)==_)=true;simp
theorem Im{fs:List (Option Nat)}:(fs.map oV).all dA=true:=g8.mpr fun v hv=>by obtain⟨o,_,rfl⟩:=bz.mp hv;exact Lb
theorem Io{fs:List (Option Nat)}:Ps (fs.map oV) (fs.map oV)=true:=by
 unfold Ps;rw[beq_self_eq_true,vp,g8];intro i hi;have hi:i<fs.length:=by have:=bQ.mp hi;rw[aP,Nat.min_self] at this;exact this
 rw[aY,gf hi];exact Lc
theorem CQ{z:Str}:Ps [.str z] [.str z]=true:=by
 show ((z==z)&&true&&true)=true;simp
theorem Pu{fs:List (Option Nat)}{z:Str}:Ps (fs.map oV) [.str z]=false:=by
 match fs with
 |[]=>rfl
 |[none]=>rfl
 |[some _]=>rfl
 |_::_::_=>exact vk _
def fO:k9->Option Nat
 |some (some i)=>some i.toNat
 |_=>none
theorem Uk{K:PySem.W.Frag}{H:Hp}{n:Nat}{ts:Ts}{st:List (Option Nat)}{xs:List V}{es:List k9}(E:MU K H xs es)(h:sO n ts st (some es)=none):∃fs:List (Option Nat),xs=fs.map oV/\Hd n ts st fs:=by
 obtain⟨hl,he⟩:=E;unfold sO at h;dsimp only at h;split at h
 .next el=>
  have hw:∀i,i<st.length->qq n ts st es i=none:=fun i hi=>yY.mp h i (bQ.mpr hi);have hN:∀i,i<st.length->st.getD i none=none->es.getD i none=none:=fun i hi e=>by
   have:=hw i hi;unfold qq at this;rw[e] at this;dsimp only at this;split at this
   .next z=>exact z
   .cases this
  have hS:∀i k,i<st.length->st.getD i none=some k->(∃y:Nat,es.getD i none=some (some (y:Int))/\y∈bn n ts k)/\∀j,j<i->¬ (st.getD j none=some k/\es.getD j none=es.getD i none):=fun i k hi e=>by
   have:=hw i hi;unfold qq at this;rw[e] at this;dsimp only at this;split at this
   .next z=>
    refine⟨?_,fun j hj ⟨a,b⟩=>?_⟩
    .cases c:es.getD i none with
     |none=>rw[c] at z;cases z
     |some o=>
      cases o with
      |none=>rw[c] at z;cases z
      |some m=>
       rw[c] at z;have z:EC (.int m) (NV (bn n ts k))=true:=z;unfold EC at z;obtain⟨v,hv,ev⟩:=vd.mp z;obtain⟨y,hy,rfl⟩:=bz.mp hv;have:m=(y:Int):=by
        have:(((y:Nat):Int)==m)=true\/(m==((y:Nat):Int))=true:=by first|exact .inl ev|exact .inr ev
        rcases this with t|t <;> simp at t <;> lia
       exact⟨y,by rw[this],hy⟩
    .rw[Option.map_eq_none_iff,zF] at this;exact this j (bQ.mpr hj) (by unfold tZ;rw[cL a,cL b];rfl)
   .cases this
  have gF:∀i,(((List.range st.length).map fun i=>fO (es.getD i none))).getD i none=if i<st.length then fO (es.getD i none) else none:=fun i=>by
   by_cases c:i<st.length
   .rw[ap c,aY,cm,hX c];rfl
   .rw[aq c,aY,de (by rw[aP,b8];lia)];rfl
  have lt:∀ {i o},st.getD i none=some o->i<st.length:=fun {i o} e=>by
   rcases ou i st.length with c|c
   .exact c
   .rw[aY,de c] at e;cases e
  refine⟨(List.range st.length).map fun i=>fO (es.getD i none),?_,by rw[aP,b8],fun j hj=>?_,fun j k hj=>?_,?_⟩
  .rw[di];refine j3 fun i=>?_;by_cases c:i<st.length
   .rw[cm,hX c];have:=he i (by lia);rw[aY,bB (by lia),qZ] at this;rw[bB (by lia)];refine congrArg some ?_;show xs[i]=oV (fO (es.getD i none));generalize xs[i]=x at this |-;cases e:st.getD i none with
    |none=>
     rw[hN i c e] at this |-;cases this;rfl
    |some k=>
     obtain⟨⟨y,ey,_⟩,_⟩:=hS i k c e;rw[ey] at this |-;cases this with
     |th _ w=>exact TZ w
   .rw[de (by lia),de (by rw[aP,b8];lia)]
  .rw[gF];by_cases c:j<st.length
   .rw[ap c,hN j c hj];rfl
   .rw[aq c]
  .have c:=lt hj;obtain⟨⟨y,ey,hy⟩,_⟩:=hS j k c hj;exact⟨y,by rw[gF,ap c,ey];rfl,hy⟩
  .have key:∀j k y,j<k->((List.range st.length).map fun i=>fO (es.getD i none)).getD j none=some y->((List.range st.length).map fun i=>fO (es.getD i none)).getD k none=some y->st.getD j none≠st.getD k none:=fun j k y jk a b z=>by
    rw[gF] at a b;have ck:k<st.length:=by
     rcases ou k st.length with c|c
     .exact c
     .rw[aq (by lia)] at b;cases b
    rw[ap (by lia)] at a;rw[ap ck] at b;cases e:st.getD k none with
    |none=>rw[hN k ck e] at b;cases b
    |some h=>
     obtain⟨⟨y1,e1,_⟩,no⟩:=hS k h ck e;obtain⟨⟨y2,e2,_⟩,_⟩:=hS j h (by lia) (z.trans e);rw[e1] at b;rw[e2] at a;have b:some ((y1:Int).toNat)=some y:=b;have a:some ((y2:Int).toNat)=some y:=a;have:y1=y2:=by have:=a.trans b.symm;simp at this;lia
     exact no j jk ⟨z.trans e,by rw[e1,e2,this]⟩
   intro j k y ne a b;rcases Nat.lt_or_gt_of_ne ne with c|c
   .exact key j k y c a b
   .exact fun z=>key k j y c b a z.symm
 .cases h
abbrev Y6:Stmt:=iy 26
abbrev Y7:Stmt:=iy 25
abbrev Y8:Stmt:=iy 60
theorem nM:(["home","goes"]:List Str).Nodup:=by decide +kernel
theorem lz:(["_law_there","_law_home"]:List Str).Nodup:=by decide +kernel
theorem CS{homes:List Nat}{fs:List (Option Nat)}{i:Nat}(h:i<fs.length):((sV homes fs).map oV)[i]?=some (if fs.getD i none=some (homes.getD i 0) then V.bD else oV (fs.getD i none)):=by
 unfold sV;rw[cm,cm,hX h];show some (oV (if _ then none else _))=_;split <;> rfl
section
variable {P:Program} {w:World} {K:PySem.W.Frag} {mg:Str->Option Value} {base:Heap}
theorem Y9:aS ["homes","handing"] ["homes","handing"] (av Y6):=cZ (by decide +kernel)
def Ej:Sp:=fun vs H Q _=>∃ (ha fa:Addr) (homes:List Nat) (fs:List (Option Nat)),vs=[.ref ha,.ref fa]/\H ha=some (.tup (NV homes))/\H fa=some (.tup (fs.map oV))/\homes.length=fs.length/\fs.length<=16/\∀t H',aE H H'->H' t=some (.tup ((sV homes fs).map oV))->Q (.ref t) H'
theorem Ul{f:Addr}{fd:FuncData}(F:gv K "stand_behind" "stand_behind" Y6 f fd)(B:Bl mg)(B2:OK mg):bL P w K mg base bu 1 f fd ["homes","handing"] Ej:=by
 refine F.ok Y9 (fun vs H Q E h=>?_) (fun dW A outer s H vs Q E hr h=>?_)
 .obtain⟨ha,fa,homes,fs,rfl,_⟩:=h;rfl
 .obtain⟨ha,fa,homes,fs,rfl,nJ,mw,hl,yG,q⟩:=h;refine'⟨_,(ak (aK (cG dQ (by rfl) B.tup lh (aa ?c1 af)))),?_⟩;case c1=>
   refine' cA (g:=(z7 K 2 (i5 (bE 0) (i5 (bE 1) z6)))) (te:=(Wn (i6 (gE (Rm) (aW 1) (aW 0))) (tC .bD) (aW 1))) (NB:=["home","goes"]) (src:=[none,none]) (bN (by kernel_rfl)) rfl (v8 rfl B2.zip (aa (pv 0) (aa (pv 1) af))) ?g ?t ?e;case g=>exact fun cl C s₃ H₃ fp=>(eT (n:=2) rfl (a_ (aw (i:=0) nM rfl aM bU) (a_ (aw (i:=1) nM rfl aM bU) dq)))
   case t=>exact fun cl C s₃ H₃ fp=>cy
   case e=>exact fun cl C s₃ H₃ fp=>(rB (aI dY (pv 1) (pv 0) (aN _)) cp (pv 1))
  refine⟨_,rfl,_,rfl,ha,fa,_,_,rfl,bv.of nJ,bv.of mw,by rw[aR,aP];lia,fun D4 xj=>?_⟩;refine yf (K:=K) (xs:=NV homes) (ys:=fs.map oV) (by rw[aR,aP];lia) (fun i zz σ H3=>(∃u v,σ=[u,v])/\aE H H3/\H3 D4=some (.lst zz)/\zz=((sV homes fs).map oV).take i) ⟨⟨_,_,rfl⟩,aj xj,ae,rfl⟩ (fun i zz σ H _ z=>⟨bv.of (z.2.1 _ _ nJ),bv.of (z.2.1 _ _ mw)⟩) ?_ ?_
  .rintro i x y pp zz σ H5 Kt Kf hx hy ⟨⟨u,v,rfl⟩,tm,sI,rfl⟩ Uj kt kf;have Um:i<fs.length:=by have:=(cK.mp hx).1;rw[aR] at this;lia
   rw[f_ (by lia)] at hx;obtain rfl:=bP hx;rw[gf Um] at hy;obtain rfl:=bP hy;have sp:=aj (o:=.tup [.int ((homes.getD i 0:Nat):Int),oV (fs.getD i none)]) Uj;have one:=CS (homes:=homes) (fs:=fs) Um;have lt:(((sV homes fs).map oV).take i).length<sizeLine:=fz (mB _ _) (by rw[aP,jC];exact fz yG (by decide));refine⟨pp,_,rfl,bv.of ae,rfl,_,_,rfl,_,_,rfl,rfl,?_⟩;refine⟨_,rfl,_,rfl,wL,_,rfl,?_⟩;rw[CI];have go:∀v,((sV homes fs).map oV)[i]?=some v->∀σ2,(∃u v,σ2=[u,v])->Kt v σ2 (upd H5 pp (.tup [.int ((homes.getD i 0:Nat):Int),oV (fs.getD i none)])):=fun v hv σ2 sh=>kt v σ2 _ (sp _ _ sI) lt ⟨sh,bw (tm.trans sp) xj,ae,by rw[fW,hv];rfl⟩;by_cases c:fs.getD i none=some (homes.getD i 0)
   .rw[ap c] at one;rw[cL c];exact dP (go _ one _ ⟨_,_,rfl⟩)
   .rw[aq c] at one;rw[dO c];exact cD ⟨_,rfl,go _ one _ ⟨_,_,rfl⟩⟩
  .rintro zz σ H5 ⟨_,tm,sI,rfl⟩;rw[aR,show homes.length=((sV homes fs).map oV).length by rw[aP,jC];exact hl,iF] at sI;refine⟨D4,_,rfl,.inl ⟨aZ.of sI,fun t ht=>?_⟩⟩;exact q t _ (tm.trans (aj ht)) ae
theorem Y_:aS ["_law_homes","_law_handing"] ["_law_homes","_law_handing"] (av Y8):=cZ (by decide +kernel)
theorem Uo{f:Addr}{fd:FuncData}(F:gv K "_law_behind" "_law_behind" Y8 f fd)(B:Bl mg)(B2:OK mg):bL P w K mg base bu 1 f fd ["_law_homes","_law_handing"] Ej:=by
 refine F.ok Y_ (fun vs H Q E h=>?_) (fun dW A outer s H vs Q E hr h=>?_)
 .obtain⟨ha,fa,homes,fs,rfl,_⟩:=h;rfl
 .obtain⟨ha,fa,homes,fs,rfl,nJ,mw,hl,yG,q⟩:=h;refine'⟨_,(ak (aK (cG dQ (by rfl) B.tup lh (aa ?c1 af)))),?_⟩;case c1=>
   refine' cA (g:=(z7 K 2 (i5 (bE 0) (i5 (bE 1) z6)))) (te:=(Wn (i6 (gE (Rm) (aW 0) (aW 1))) (tC .bD) (aW 0))) (NB:=["_law_there","_law_home"]) (src:=[none,none]) (bN (by kernel_rfl)) rfl (v8 rfl B2.zip (aa (pv 1) (aa (pv 0) af))) ?g ?t ?e;case g=>exact fun cl C s₃ H₃ fp=>(eT (n:=2) rfl (a_ (aw (i:=0) lz rfl aM bU) (a_ (aw (i:=1) lz rfl aM bU) dq)))
   case t=>exact fun cl C s₃ H₃ fp=>cy
   case e=>exact fun cl C s₃ H₃ fp=>(rB (aI dY (pv 0) (pv 1) (aN _)) cp (pv 0))
  refine⟨_,rfl,_,rfl,fa,ha,_,_,rfl,bv.of mw,bv.of nJ,by rw[aP,aR];lia,fun D4 xj=>?_⟩;refine yf (K:=K) (xs:=fs.map oV) (ys:=NV homes) (by rw[aP,aR];lia) (fun i zz σ H3=>(∃u v,σ=[u,v])/\aE H H3/\H3 D4=some (.lst zz)/\zz=((sV homes fs).map oV).take i) ⟨⟨_,_,rfl⟩,aj xj,ae,rfl⟩ (fun i zz σ H _ z=>⟨bv.of (z.2.1 _ _ mw),bv.of (z.2.1 _ _ nJ)⟩) ?_ ?_
  .rintro i x y pp zz σ H5 Kt Kf hx hy ⟨⟨u,v,rfl⟩,tm,sI,rfl⟩ Uj kt kf;have Um:i<fs.length:=by have:=(cK.mp hx).1;rwa [aP] at this
   rw[gf Um] at hx;obtain rfl:=bP hx;rw[f_ (by lia)] at hy;obtain rfl:=bP hy;have sp:=aj (o:=.tup [oV (fs.getD i none),.int ((homes.getD i 0:Nat):Int)]) Uj;have one:=CS (homes:=homes) (fs:=fs) Um;have lt:(((sV homes fs).map oV).take i).length<sizeLine:=fz (mB _ _) (by rw[aP,jC];exact fz yG (by decide));refine⟨pp,_,rfl,bv.of ae,rfl,_,_,rfl,_,_,rfl,rfl,?_⟩;refine⟨_,rfl,_,rfl,wL,_,rfl,?_⟩;rw[CI];have go:∀v,((sV homes fs).map oV)[i]?=some v->∀σ2,(∃u v,σ2=[u,v])->Kt v σ2 (upd H5 pp (.tup [oV (fs.getD i none),.int ((homes.getD i 0:Nat):Int)])):=fun v hv σ2 sh=>kt v σ2 _ (sp _ _ sI) lt ⟨sh,bw (tm.trans sp) xj,ae,by rw[fW,hv];rfl⟩;by_cases c:fs.getD i none=some (homes.getD i 0)
   .rw[ap c] at one;rw[cL c];exact dP (go _ one _ ⟨_,_,rfl⟩)
   .rw[aq c] at one;rw[dO c];exact cD ⟨_,rfl,go _ one _ ⟨_,_,rfl⟩⟩
  .rintro zz σ H5 ⟨_,tm,sI,rfl⟩;rw[aP,show fs.length=((sV homes fs).map oV).length by rw[aP,jC],iF] at sI;refine⟨D4,_,rfl,.inl ⟨aZ.of sI,fun t ht=>?_⟩⟩;exact q t _ (tm.trans (aj ht)) ae
theorem Za:aS ["net","homes","stand","handing"] ["net","homes","stand","handing"] (av Y7):=cZ (by decide +kernel)
def Ip(K:PySem.W.Frag)(C CE:Addr):Sp:=fun vs H Q E=>∃ (L:Addr->Prop) (p:Addr) (n:Nat) (ts:Ts) (ha:Addr) (homes:List Nat) (sa:Addr) (st:List (Option Nat)) (x:V) (o:Option (List k9)),vs=[.ref p,.ref ha,.ref sa,x]/\eS C H L p n ts/\H ha=some (.tup (NV homes))/\homes.length=st.length/\H sa=some (.tup (st.map oV))/\st.length<=16/\(∀y,some y∈st->y<n)/\(∀H',aE H H'->Th K H' x o)/\
 (∀e,sO n ts st o=some e->∀H',aE H H'->E (.ref CE) none H')/\(sO n ts st o=none->∀ (fa:Addr) (fs:List (Option Nat)),x=.ref fa->H fa=some (.tup (fs.map oV))->Hd n ts st fs->∀t H',aE H H'->H' t=some (.tup ((sV homes fs).map oV))->Q (.ref t) H')
theorem Iq{H:Hp}{n:Nat}{ts:Ts}{st:List (Option Nat)}{x:V}{o:Option (List k9)}(h:Th K H x o)(e:sO n ts st o=none):∃ (fa:Addr) (fs:List (Option Nat)),x=.ref fa/\H fa=some (.tup (fs.map oV))/\Hd n ts st fs:=by
 cases h with
 |tup h E=>
  obtain⟨fs,rfl,d⟩:=Uk E e;exact⟨_,fs,rfl,h,d⟩
 |no _ _=>cases e
theorem Up{f C CE:Addr}{fd:FuncData}(F:gv K "behind" "behind" Y7 f fd)(e:Er K mg "NoHanding" CE)(WR:cE P w K mg base bu 7 "wrong" ["net","homes","stand","thing"] (wN K C))(SB:cE P w K mg base bu 1 "stand_behind" ["homes","handing"] Ej):bL P w K mg base (FH P w) 8 f fd ["net","homes","stand","handing"] (Ip K C CE):=by
 refine F.okX Za (fun vs H Q E h=>?_) (fun dW A outer s H vs Q E hr h=>?_)
 .obtain⟨L,p,n,ts,ha,homes,sa,st,x,o,rfl,_⟩:=h;rfl
 .obtain⟨L,p,n,ts,ha,homes,sa,st,x,o,rfl,N,nJ,hl,iB,yG,ss,th,k1,k2⟩:=h;have h1:cx 1 _:=hr.mono (by decide);have h7:cx 7 _:=hr;refine⟨_,(ai (br (aI ju (aG WR h7 aL (aa (pv 0) (aa (pv 1) (aa (pv 2) (aa (pv 3) af))))) cp (aN _)) (ak (FL (q:=fun H1=>E (.ref CE) none H1) rfl e.ok rfl e.at_ (aa fh af) (fun _ _ _ _ _ _ _ I m q=>FI I m q))) aQ)
   (ak (aK (aG SB h1 aL (aa (pv 1) (aa (pv 3) af)))))),?_⟩
  refine⟨_,rfl,_,rfl,_,rfl,_,rfl,L,p,n,ts,ha,homes,sa,st,x,o,rfl,N,nJ,hl,iB,yG,ss,th,fun r H2 s2 rs=>?_⟩;cases hw:sO n ts st o with
  |some e=>
   rw[hw] at rs;obtain⟨a,rfl,_⟩:=rs;exact⟨rfl,_,rfl,gL rfl ⟨by show 1<=sizeLine;decide,k1 e hw H2 s2⟩⟩
  |none=>
   rw[hw] at rs;obtain rfl:=rs;refine⟨rfl,_,rfl,cD ?_⟩;obtain⟨fa,fs,rfl,mw,d⟩:=Iq (th H (aE.refl _)) hw;exact⟨_,rfl,_,rfl,ha,fa,homes,fs,rfl,s2 _ _ nJ,s2 _ _ mw,by rw[hl,d.len],by rw[d.len];exact yG,fun t H3 s3 ht=>k2 hw fa fs rfl mw d t H3 (s2.trans s3) ht⟩
end
end nN
namespace L2
open PySem PySem.Spec PyProof.Rows
def Uq(K:PySem.W.Frag)(Dc:Addr)(i:Nat)(tb:(St->XK)->TS)(th:TS):TS:=fun D σ H=>∃E,RU K Dc i E (tb E) th D σ H
theorem Ld{X:Cx}{body xJ:List Stmt}{b₀:Stmt}{x n:Str}{np xK pos:Pos}{Dc:Addr}{i:Nat}{tb:(St->XK)->TS}{th:TS}(TD:mS X.K Dc)(hg:Gl X x)(hm:X.mg x=some (.ref Dc))(km:X.stack=X.env::X.outer)(Ml:X.env.frame=some X.env.locals)(hN:X.N.Nodup)(hi:X.N[i]?=some n)(hn:X.env.scope.names.lookup n=some .local)(hb:∀E pn xe,mT (FH X.prog X.w) (X.gQ pn xe) E->ub (X.gQ pn xe) body (tb E))(hh:∀pn p,ub (X.fL pn p) (b₀::xJ) th)(tI:(x==("__debug__":Str))=false:=by decide):
  PS X (.Try body [.ExceptHandler (some (.Name x np)) (some n) (b₀::xJ) xK] [] [] pos) (Uq X.K Dc i tb th):=by
 intro ag s σ H D I h;obtain⟨E,h⟩:=h;exact NW (E:=E) TD hg hm km Ml hN hi hn (hb E) hh tI ag s σ H D I h
end L2
namespace nN
open PySem L2 ix
abbrev Zb:Stmt:=iy 61
theorem Le{X:Cx}{CX:vJ}{k:Nat}{x:Str}{ps:List Str}{sp:Sp}{E:St->XK}{e:Expr}{es:List Expr}{t:TA}{p pos:Pos}(C:cE X.prog X.w X.K X.mg X.base CX k x ps sp)(hr:cx k X.A)(hx:mT CX X E)(ha:PA X (e::es) t)(hg:Gl X x:=by rfl)(tI:(x==("__debug__":Str))=false:=by decide)(he:starEach (e::es) X.env=(false,eval e X.env)::starEach es X.env:=by rfl)(xf:(backTo pos (starEach es X.env)).any (·.1)=false:=by rfl):
  PE X (.Call (.Name x p) (e::es) [] pos) (As sp [] E t):=by
 obtain⟨f,fd,a,b,c,d⟩:=C.ex;exact FM d hr hg a b c .nil hx ha tI he xf
theorem Ur:bootBuiltins "ValueError"=some (.type "ValueError"):=by decide +kernel
structure Us(K:PySem.W.Frag)(mg:Str->Option Value)(cB CE:Addr)(c:Nat->Addr):Prop where
 Zc:Er K mg "BeatError" cB
 hand:Er K mg "NoHanding" CE
 e0:mg "NoBerth"=some (.ref (c 0))
 e1:mg "NoHouse"=some (.ref (c 1))
 e2:mg "NoNet"=some (.ref (c 2))
 e3:mg "NoPlan"=some (.ref (c 3))
 e4:mg "NoRanks"=some (.ref (c 4))
 e5:mg "NoRow"=some (.ref (c 5))
 e6:mg "NoShape"=some (.ref (c 6))
 e7:mg "NoStand"=some (.ref (c 7))
 e8:mg "NoText"=some (.ref (c 8))
 e9:mg "NoTie"=some (.ref (c 9))
 e10:mg "TooMany"=some (.ref (c 10))
 ka:PySem.W.kitAny K (.ref CE) ([c 0,c 1,c 2,c 3,c 4,c 5,c 6,c 7,c 8].map Value.ref)=some false
 kb:PySem.W.kitAny K (.ref CE) ([c 9,c 10].map Value.ref)=some false
 kh:PySem.W.kitOne K (.ref CE) (.ref cB)=some true
 kv:PySem.W.kitOne K (.ref CE) (.type "ValueError")=some true
 sb:PySem.W.subIn K (.ref CE) (.ref CE)=some true
section
variable {P:Program} {w:World} {K:PySem.W.Frag} {mg:Str->Option Value} {base:Heap}
theorem Ek:aS ["_law_net_here","_law_homes","_law_stand_here","_law_thing","_law_told_here","e","_law_some"] ["_law_net_here","_law_homes","_law_stand_here","_law_thing"] (av Zb):=cZ (by decide +kernel)
def Pw(K:PySem.W.Frag)(C:Addr):Sp:=fun vs H Q _=>∃ (L:Addr->Prop) (p:Addr) (n:Nat) (ts:Ts) (ha:Addr) (homes:List Nat) (sa:Addr) (st:List (Option Nat)) (x:V) (o:Option (List k9)),vs=[.ref p,.ref ha,.ref sa,x]/\eS C H L p n ts/\H ha=some (.tup (NV homes))/\homes.length=st.length/\H sa=some (.tup (st.map oV))/\st.length<=16/\(∀y,some y∈st->y<n)/\(∀H',aE H H'->Th K H' x o)/\
 (∀e,sO n ts st o=some e->∀t H',aE H H'->H' t=some (.tup [.str "refused"])->Q (.ref t) H')/\(sO n ts st o=none->∀ (fa:Addr) (fs:List (Option Nat)),x=.ref fa->H fa=some (.tup (fs.map oV))->Hd n ts st fs->∀t H',aE H H'->H' t=some (.tup ((sV homes fs).map oV))->Q (.ref t) H')
theorem Ut{f C cB CE:Addr}{c:Nat->Addr}{fd:FuncData}(F:gv K "_law_told" "_law_told" Zb f fd)(B:Bl mg)(R:Us K mg cB CE c)(BE:cE P w K mg base (FH P w) 8 "behind" ["net","homes","stand","handing"] (Ip K C CE)):bL P w K mg base bu 9 f fd ["_law_net_here","_law_homes","_law_stand_here","_law_thing"] (Pw K C):=by
 refine F.ok Ek (fun vs H Q E h=>?_) (fun dW A outer s H vs Q E hr h=>?_)
 .obtain⟨L,p,n,ts,ha,homes,sa,st,x,o,rfl,_⟩:=h;rfl
 .obtain⟨L,p,n,ts,ha,homes,sa,st,x,o,rfl,N,nJ,hl,iB,yG,ss,th,k1,k2⟩:=h;refine'⟨_,ai (aJ (i:=4) Ek.nd rfl aM (bf (aa fh af)))
   (ai (Ld (i:=5) (tb:=fun E=>C3 (As (Ip K C CE) [] E (aV (aW 0) (aV (aW 1) (aV (aW 2) (aV (aW 3) cY))))) (bE 4)) (th:=Ng (C3 (Da (Gp K) (aV (aW 5) (aV (jv (aV (tC (.ref (c 0))) (aV (tC (.ref (c 1))) (aV (tC (.ref (c 2))) (aV (tC (.ref (c 3))) (aV (tC (.ref (c 4))) (aV (tC (.ref (c 5))) (aV (tC (.ref (c 6))) (aV (tC (.ref (c 7))) (aV (tC (.ref (c 8))) cY)))))))))) cY))) (bE 6)) (Rc (C2 (L2.tB (Da (Mj K) (aV (aW 5) (aV (tC (.ref cB)) cY)))) (C2 (L2.tB (Da (RT K) (aV (aW 5) (aV (tC (.ty "ValueError")) cY)))) (C2 (Nd (L2.tB (aW 6))) (Nd (L2.tB (Da (Gp K) (aV (aW 5) (aV (jv (aV (tC (.ref (c 9))) (aV (tC (.ref (c 10))) cY))) cY)))))))) (C3 (jv (aV (tC (.str "refused")) cY)) (bE 4)) BH)) R.hand.ok rfl R.hand.at_ rfl rfl Ek.nd rfl rfl
      (fun E pn' xe hx=>ak (aJ (i:=4) Ek.nd rfl aM (Le BE hr hx (aa (pv 0) (aa (pv 1) (aa (pv 2) (aa (pv 3) af)))))))
      ?hh)
   (ak (aK (pv 4)))),?_⟩
  case hh=>exact fun pn' p'=>ai (aJ (i:=6) Ek.nd rfl aM (aB uM (by rfl) B.DR iX (aa (pv 5) (aa (bf (aa (dJ (v:=.ref (c 0)) rfl R.e0 rfl) (aa (dJ (v:=.ref (c 1)) rfl R.e1 rfl) (aa (dJ (v:=.ref (c 2)) rfl R.e2 rfl) (aa (dJ (v:=.ref (c 3)) rfl R.e3 rfl) (aa (dJ (v:=.ref (c 4)) rfl R.e4 rfl) (aa (dJ (v:=.ref (c 5)) rfl R.e5 rfl) (aa (dJ (v:=.ref (c 6)) rfl R.e6 rfl) (aa (dJ (v:=.ref (c 7)) rfl R.e7 rfl) (aa (dJ (v:=.ref (c 8)) rfl R.e8 rfl) af)))))))))) af)))) (ak (br (PW.pt (fJ (cR (aB Di (by rfl) B.DR iX (aa (pv 5) (aa (dJ (v:=.ref cB) rfl R.Zc.at_ rfl) af)))) (fJ (cR (aB e_ (by rfl) B.DR iX (aa (pv 5) (aa (gu (v:=.ty "ValueError") rfl B.XQ Ur rfl) af)))) (fJ (d_ (cR (pv 6))) (fG (d_ (cR (aB uM (by rfl) B.DR iX (aa (pv 5) (aa (bf (aa (dJ (v:=.ref (c 9)) rfl R.e9 rfl) (aa (dJ (v:=.ref (c 10)) rfl R.e10 rfl) af))) af)))))))))) (ak (aJ (i:=4) Ek.nd rfl aM (bf (aa fh af)))) aQ))
  refine⟨by show 1<=sizeLine;decide,fun t0 Uf=>?_⟩;have s0:=aj (o:=.tup [.str "no answer"]) Uf;refine⟨fun σ' C' _ H'=>σ'=[some (.ref p),some (.ref ha),some (.ref sa),some x,some (.ref t0),none,none]/\C'=.ref CE/\aE H H'/\∃e,sO n ts st o=some e,⟨?_,?_⟩⟩
  .refine⟨_,rfl,_,rfl,_,rfl,_,rfl,L,p,n,ts,ha,homes,sa,st,x,o,rfl,N.same s0,s0 _ _ nJ,hl,s0 _ _ iB,yG,ss,fun H' s'=>th H' (s0.trans s'),fun e he H' s'=>⟨rfl,rfl,s0.trans s',e,he⟩,fun he fa fs ex mw d t H' s' ht=>?_⟩;subst ex;obtain⟨fa',Je,QZ,El,d'⟩:=Iq (th H (aE.refl _)) he;cases QZ;have:fs.map oV=Je.map oV:=by have:=s0 _ _ El;rw[mw] at this;injection this with this;injection this
   obtain rfl:fs=Je:=zD (fun a b=>Bz) |>.mp this;exact⟨_,rfl,k2 he fa fs rfl El d t H' (s0.trans s') ht⟩
  .rintro σ' C' H4 ⟨rfl,rfl,s4,e,he⟩;refine⟨R.sb,⟨_,rfl⟩,fun px hpx=>?_⟩;have s5:=aj (o:=tL px (.ref CE)) hpx;have Uh:(upd H4 px (tL px (.ref CE))) px=some (tL px (.ref CE)):=ae;have s45:=s4.trans s5;generalize upd H4 px _=H5 at *;refine⟨_,rfl,by show 9<=sizeLine;decide,fun t1 Wa=>⟨px,CE,t1,[c 0,c 1,c 2,c 3,c 4,c 5,c 6,c 7,c 8],false,rfl,R.hand.ok,(aj Wa) _ _ Uh,bv.of ae,R.ka,?_⟩⟩;have s6:=aj (o:=.tup ([c 0,c 1,c 2,c 3,c 4,c 5,c 6,c 7,c 8].map V.ref)) Wa;have Zd:=s6 _ _ Uh;have s46:=s45.trans s6;refine⟨_,rfl,_,_,_,_,rfl,R.kh,.exc R.hand.ok Zd,true,rfl,dP ⟨_,rfl,_,_,_,.ref CE,true,rfl,⟨rfl,R.kv⟩,.exc R.hand.ok Zd,true,rfl,dP ⟨_,rfl,false,rfl,dP ?_⟩⟩⟩;refine⟨_,rfl,by show 2<=sizeLine;decide,fun t2 MP=>⟨px,CE,t2,[c 9,c 10],false,rfl,R.hand.ok,(aj MP) _ _ Zd,bv.of ae,R.kb,_,rfl,dP ⟨by show 1<=sizeLine;decide,fun t3 ht3=>⟨_,rfl,?_⟩⟩⟩⟩;exact k1 e he t3 _ ((s46.trans (aj MP)).trans (aj ht3)) ae
end
abbrev Ze:Stmt:=iy 62
def eO(o:Option Nat):k9:=o.map fun y=>some (y:Int)
theorem Zf{K:PySem.W.Frag}{H:Hp}{o:Option Nat}:En K H (oV o) (eO o):=by
 cases o with
 |none=>exact .bD
 |some y=>exact .th (fun z=>by cases z) (.int _)
theorem Uu{K:PySem.W.Frag}{H:Hp}{a:Addr}{fs:List (Option Nat)}(h:H a=some (.tup (fs.map oV))):Th K H (.ref a) (some (fs.map eO)):=by
 refine .tup h ⟨by rw[aP,aP],fun i hi=>?_⟩;rw[aP] at hi;have e:(fs.map eO).getD i none=eO (fs.getD i none):=by
  rw[aY,cm,aY,bB hi];rfl
 rw[e,aY,gf hi];exact Zf
theorem Lf{n:Nat}{ts:Ts}{homes:List Nat}{st:List (Option Nat)}(S:sJ n ts homes st):sZ n ts homes (some (st.map eO))=true:=by
 show FF n ts homes (st.map eO)=true;have len:=S.len;rw[CP (by rw[aP,len]) fun i hi=>?_,g8]
 .intro h hh;refine cL (bC ?_ (S.QP h (bQ.mp hh)));unfold wY List.count;rw[zU];refine ow (zK fun x _=>?_);cases x with
  |none=>simp[eO]
  |some y=>simp[eO];lia
 .have e:(st.map eO).getD i none=eO (st.getD i none):=by
   rw[aY,cm,bB (by lia),aY,bB (by lia)];rfl
  rw[e];cases ho:st.getD i none with
  |none=>rfl
  |some y=>
   have hy:y<n:=S.ss y (by rw[<-ho,aY,bB (by lia)];exact dH _);have ne:=S.ne i y ho;show (eI (some (y:Int)) 0 ((n:Int)-1)&&!decide (some (y:Int)=some ((homes.getD i 0:Nat):Int)))=true;rw[dO (fun z=>by injection z with z;exact ne (d8 z).symm)];unfold eI;simp;lia
def DU(n:Nat)(ts:Ts)(st:List (Option Nat))(homes:List Nat)(o:Option (List k9))(x:V)(H:Hp)(ys:List V):Prop:=(∃e,sO n ts st o=some e/\ys=[.str "refused"])\/(sO n ts st o=none/\∃ (fa:Addr) (fs:List (Option Nat)),x=.ref fa/\H fa=some (.tup (fs.map oV))/\Hd n ts st fs/\ys=(sV homes fs).map oV)
theorem DU.flat{n:Nat}{ts:Ts}{st:List (Option Nat)}{homes:List Nat}{o:Option (List k9)}{x:V}{H:Hp}{ys:List V}(h:DU n ts st homes o x H ys):ys.all dA=true/\Ps ys ys=true:=by
 rcases h with ⟨_,_,rfl⟩|⟨_,_,fs,_,_,_,rfl⟩
 .exact⟨rfl,CQ⟩
 .exact⟨Im,Io⟩
section
variable {P:Program} {w:World} {K:PySem.W.Frag} {mg:Str->Option Value} {base:Heap}
theorem Ir:aS ["_law_net_here","_law_n","_law_outs_here","_law_homes","_law_stand_here","_law_thing","_law_due","_law_turn","_law_found"] ["_law_net_here","_law_n","_law_outs_here","_law_homes","_law_stand_here","_law_thing"] (av Ze):=cZ (by decide +kernel)
def Px(K:PySem.W.Frag)(C:Addr):Sp:=fun vs H Q _=>∃ (L L':Addr->Prop) (p r:Addr) (n:Nat) (ts:Ts) (ha:Addr) (homes:List Nat) (sa:Addr) (st:List (Option Nat)) (x:V) (o:Option (List k9)),vs=[.ref p,.int n,.ref r,.ref ha,.ref sa,x]/\eS C H L p n ts/\bG H L' r n (bn n ts)/\H ha=some (.tup (NV homes))/\H sa=some (.tup (st.map oV))/\sJ n ts homes st/\(∀H',aE H H'->Th K H' x o)/\∀H',aE H H'->Q (.bl true) H'
theorem Uv{f C:Addr}{fd:FuncData}(F:gv K "_law_right_once" "_law_right_once" Ze f fd)(B:Bl mg)(LW:cE P w K mg base bu 2 "_law_wrong" ["_law_n","_law_outs_here","_law_stand_here","_law_thing"] (sR K))(LB:cE P w K mg base bu 1 "_law_behind" ["_law_homes","_law_handing"] Ej)(TO:cE P w K mg base bu 9 "_law_told" ["_law_net_here","_law_homes","_law_stand_here","_law_thing"] (Pw K C))(IS:cE P w K mg base bu 6 "is_stand" ["net","homes","thing"] (pC K C)):bL P w K mg base bu 10 f fd ["_law_net_here","_law_n","_law_outs_here","_law_homes","_law_stand_here","_law_thing"] (Px K C):=by
 refine F.ok Ir (fun vs H Q E h=>?_) (fun dW A outer s H vs Q E hr h=>?_)
 .obtain⟨L,L',p,r,n,ts,ha,homes,sa,st,x,o,rfl,_⟩:=h;rfl
 .obtain⟨L,L',p,r,n,ts,ha,homes,sa,st,x,o,rfl,N,R,nJ,iB,SD,th,q⟩:=h;have h1:cx 1 _:=hr.mono (by decide);have h2:cx 2 _:=hr.mono (by decide);have h6:cx 6 _:=hr.mono (by decide);refine⟨_,(ai (aJ (i:=6) Ir.nd rfl aM (bf (aa fh af)))
   (ai (br (aI oF (aG LW h2 aL (aa (pv 1) (aa (pv 2) (aa (pv 4) (aa (pv 5) af))))) cp (aN _)) (ak (aJ (i:=6) Ir.nd rfl aM (aG LB h1 aL (aa (pv 3) (aa (pv 5) af))))) aQ)
   (ai (cq dh rfl (bi rfl B.range (aa au af)) (aw (i:=7) Ir.nd rfl aM)
    (ai (aJ (i:=8) Ir.nd rfl aM (aG TO hr aL (aa (pv 0) (aa (pv 3) (aa (pv 4) (aa (pv 5) af))))))
    (ak (br (PW.pt (xp (d_ (cR (aB e_ (by rfl) B.DR iX (aa (pv 8) (aa (gu (v:=.ty "tuple") rfl B.tup lh rfl) af))))) (rA (aI (La hr.u) (pv 8) (pv 6) (aN _))))) (ak (aK mG)) aQ))))
   (ak (aK (Ra (iG (K_ hr.u) (pv 6) (bf (aa fh af)) (aN _)) (oA (aG IS h6 aL (aa (pv 0) (aa (pv 3) (aa (pv 6) af))))))))))),?_⟩
  have Fi:=N.l7;have yG:=SD.le;have hl:=SD.len;refine⟨by show 1<=sizeLine;decide,fun t0 Uf=>?_⟩;have s0:=aj (o:=.tup [.str "refused"]) Uf;refine jO (fun σ H2=>H2=upd H t0 (.tup [.str "refused"])/\σ=[some (.ref p),some (.int (n:Int)),some (.ref r),some (.ref ha),some (.ref sa),some x,some (.ref t0),none,none]) ?_ (fun N hN=>hN _ _ ⟨rfl,rfl⟩);rintro σ H1 ⟨rfl,rfl⟩;refine jO (fun σ H2=>∃ (Dd:Addr) (ys:List V),σ=[some (.ref p),some (.int (n:Int)),some (.ref r),some (.ref ha),some (.ref sa),some x,some (.ref Dd),none,none]/\aE H H2/\H2 Dd=some (.tup ys)/\DU n ts st homes o x H ys) ?_ ?_
  rotate_left
  .intro N' hN;refine⟨_,rfl,_,rfl,_,rfl,_,rfl,n,r,ts,L',sa,st,x,o,rfl,R.same s0,s0 _ _ iB,yG,SD.ss,fun H' s'=>th H' (s0.trans s'),fun v H2 s2 rs=>?_⟩;cases hw:sO n ts st o with
   |some e=>
    rw[hw] at rs;obtain⟨a,rfl,_⟩:=rs;exact⟨rfl,_,rfl,ir rfl (hN _ _ ⟨t0,_,rfl,s0.trans s2,s2 _ _ ae,.inl ⟨e,hw,rfl⟩⟩)⟩
   |none=>
    rw[hw] at rs;obtain rfl:=rs;refine⟨rfl,_,rfl,dP ?_⟩;obtain⟨fa,fs,rfl,mw,d⟩:=Iq (th H (aE.refl _)) hw;have Zg:=s0.trans s2;exact⟨_,rfl,_,rfl,ha,fa,homes,fs,rfl,Zg _ _ nJ,Zg _ _ mw,by rw[hl,d.len],by rw[d.len];exact yG,fun t H3 s3 ht=>hN _ _ ⟨t,_,rfl,Zg.trans s3,ht,.inr ⟨hw,fa,fs,rfl,mw,d,rfl⟩⟩⟩
  rintro σ H2 ⟨Dd,ys,rfl,s2,hD,du⟩;obtain⟨fy,ey⟩:=du.flat;refine⟨_,rfl,by decide,by decide,ce (n:=2) (lo:=0) (fun i σ Hc=>(∃u v,σ=[some (.ref p),some (.int (n:Int)),some (.ref r),some (.ref ha),some (.ref sa),some x,some (.ref Dd),u,v])/\aE H2 Hc) ⟨⟨_,_,rfl⟩,aE.refl _⟩ ?_ ?_⟩
  .rintro i σ Hc hi ⟨⟨u,v,rfl⟩,sc⟩;have Jc:=s2.trans sc;have Zh:∀e,sO n ts st o=some e->ys=[.str "refused"]:=fun e he=>by
    rcases du with ⟨_,_,z⟩|⟨z,_⟩
    .exact z
    .rw[z] at he;cases he
   have Zi:sO n ts st o=none->∀ (fa:Addr) (fs:List (Option Nat)),x=.ref fa->Hc fa=some (.tup (fs.map oV))->ys=(sV homes fs).map oV:=fun he fa fs ex mw=>by
    rcases du with ⟨_,z,_⟩|⟨_,fa',Je,QZ,El,_,z⟩
    .rw[z] at he;cases he
    .rw[ex] at QZ;cases QZ;have:fs.map oV=Je.map oV:=by have:=Jc _ _ El;rw[mw] at this;injection this with this;injection this
     rw[z,(zD fun a b=>Bz).mp this]
   refine⟨_,rfl,_,rfl,_,rfl,_,rfl,L,p,n,ts,ha,homes,sa,st,x,o,rfl,N.same Jc,Jc _ _ nJ,hl,Jc _ _ iB,yG,SD.ss,fun H' s'=>th H' (Jc.trans s'),fun e he t H3 s3 ht=>?_,fun he fa fs ex mw d t H3 s3 ht=>?_⟩
   .rw[<-Zh e he] at ht;exact⟨_,rfl,_,_,_,.type "tuple",true,rfl,⟨rfl,nj⟩,.of (.tup ht),_,rfl,cD ⟨_,rfl,_,rfl,t,Dd,ys,ys,rfl,rfl,bv.of ht,bv.of (s3 _ _ (sc _ _ hD)),fy,fy,_,rfl,ir (by rw[ap rfl,ey];rfl) ⟨⟨_,_,rfl⟩,sc.trans s3⟩⟩⟩
   .rw[<-Zi he fa fs ex mw] at ht;exact⟨_,rfl,_,_,_,.type "tuple",true,rfl,⟨rfl,nj⟩,.of (.tup ht),_,rfl,cD ⟨_,rfl,_,rfl,t,Dd,ys,ys,rfl,rfl,bv.of ht,bv.of (s3 _ _ (sc _ _ hD)),fy,fy,_,rfl,ir (by rw[ap rfl,ey];rfl) ⟨⟨_,_,rfl⟩,sc.trans s3⟩⟩⟩
  .rintro σ Hc ⟨⟨u,v,rfl⟩,sc⟩;have Jc:=s2.trans sc;refine⟨_,rfl,by show 1<=sizeLine;decide,fun t1 Wa=>?_⟩;have s1:=aj (o:=.tup [.str "refused"]) Wa;refine⟨Dd,t1,ys,_,rfl,rfl,bv.of (s1 _ _ (sc _ _ hD)),bv.of ae,fy,rfl,?_⟩;rcases du with ⟨_,_,rfl⟩|⟨_,fa,fs,_,_,d,rfl⟩
   .exact⟨_,rfl,gL (by rw[aq (by decide)];exact CQ) (q _ (Jc.trans s1))⟩
   .refine⟨_,rfl,ir (by rw[aq (by decide)];exact Pu) ?_⟩;refine⟨_,rfl,_,rfl,_,rfl,L,p,n,ts,ha,homes,.ref Dd,some ((sV homes fs).map eO),rfl,N.same (Jc.trans s1),(Jc.trans s1) _ _ nJ,by rw[hl];exact yG,fun H' s'=>Uu (s' _ _ (s1 _ _ (sc _ _ hD))),fun H' s'=>?_⟩;rw[Lf (d.next Fi SD)];exact q _ ((Jc.trans s1).trans s')
end
abbrev BA:Stmt:=iy 63
theorem eS.weak{C p:Addr}{H:Hp}{L L':Addr->Prop}{n:Nat}{ts:Ts}(N:eS C H L p n ts)(k:∀b,L b->L' b):eS C H L' p n ts:=by
 obtain⟨F',dx',tl,ol,ds,q1,q2,q3,⟨b1,c1,d1,e1⟩,⟨b2,c2,d2,e2⟩,⟨a3,zs,b3,c3,d3,e3⟩⟩:=N;exact⟨F',dx',tl,ol,ds,q1,k _ q2,k _ q3,⟨b1,c1,fun b hb=>k b (d1 b hb),e1⟩,⟨b2,c2,fun b hb=>k b (d2 b hb),e2⟩,⟨k _ a3,zs,b3,c3,fun z hz=>k _ (d3 z hz),e3⟩⟩
theorem Uw{n:Nat}{ts:Ts}{st fs:List (Option Nat)}(d:Hd n ts st fs):sO n ts st (some (fs.map eO))=none:=by
 have len:=d.len;have ge:∀i,(fs.map eO).getD i none=eO (fs.getD i none):=fun i=>by
  by_cases c:i<fs.length
  .rw[aY,cm,aY,bB c];rfl
  .rw[aY,de (by rw[aP];lia),aY,de (by lia)];rfl
 unfold sO;dsimp only;rw[ap (by rw[aP,len]),yY];intro i hi;unfold qq;cases e:st.getD i none with
 |none=>
  dsimp only;rw[ap (by rw[ge,d.bD i e];rfl)]
 |some h=>
  obtain⟨y,ey,hy⟩:=d.out i h e;dsimp only;rw[ap ?_,Option.map_eq_none_iff,zF]
  .intro j hj z;unfold tZ at z;obtain⟨z1,z2⟩:=nZ.mp z;have z1:=cW z1;have z2:=cW z2;rw[ge,ge,ey] at z2;obtain⟨y2,ey2,_⟩:=d.out j h z1;rw[ey2] at z2;have:y2=y:=by
    have z2:some (some (y2:Int))=some (some (y:Int)):=z2;injection z2 with z2;injection z2 with z2;exact d8 z2
   subst this;exact d.inj j i y2 (by have:=bQ.mp hj;lia) ey2 ey (z1.trans e.symm)
  .rw[ge,ey];show EC (.int (y:Int)) (NV (bn n ts h))=true;unfold EC;exact vd.mpr ⟨.int (y:Int),bz.mpr ⟨y,hy,rfl⟩,by show ((y:Int)==(y:Int))=true;simp⟩
section
variable {P:Program} {w:World} {K:PySem.W.Frag} {mg:Str->Option Value} {base:Heap}
def Iu(K:PySem.W.Frag)(H:Hp)(a:Addr)(xs:List V):Prop:=(∃o,H a=some (.tw o (.lst xs)))\/(∀H':Hp,aZ K H' a xs)
theorem Iu.seq{H:Hp}{a:Addr}{xs:List V}(h:Iu K H a xs):aZ K H a xs:=by
 rcases h with ⟨o,h⟩|h
 .exact .inl (.inr ⟨o,h⟩)
 .exact h H
theorem Iu.mono{H H':Hp}{a:Addr}{xs:List V}(h:Iu K H a xs)(e:∀o u,H a=some (.tw o u)->H' a=some (.tw o u)):Iu K H' a xs:=by
 rcases h with ⟨o,h⟩|h
 .exact .inl ⟨o,e _ _ h⟩
 .exact .inr h
theorem ph.keepE{p Pt:Addr}{H H':Hp}(t:ph Pt H)(s:az p H H')(hp:bp H p):ph Pt H':=by
 obtain⟨a,b,e,_⟩:=hp;rcases t with z|⟨c,z,y⟩
 .exact .inl (s _ _ z (by rintro rfl;rw[z] at e;cases e))
 .exact .inr ⟨c,s _ _ z (by rintro rfl;rw[z] at e;cases e),s _ _ y (by rintro rfl;rw[y] at e;cases e)⟩
theorem gg:aS ["_law_script","_law_k","_law_pot_here","_law_ways","_law_many","_law_n","_law_ties","_law_outs_here","_law_far_here","_law_homes","_law_stand_here","_law_net_here","_law_beat","_law_handing","_law_thing"] ["_law_script"] (av BA):=cZ (by decide +kernel)
def CU(K:PySem.W.Frag)(Pt:Addr):Sp:=fun vs H Q _=>∃ (a:Addr) (ns:List Int),vs=[.ref a]/\Iu K H a (ns.map V.int)/\ns.length<=63/\ph Pt H/\∀H',Q (.bl true) H'
theorem Py{f C CE Pt fI:Addr}{fd fdI:FuncData}(F:gv K "law" "law" BA f fd)(B:Bl mg)(T:NT K mg C)(M:Mk K C fI)(bI:iH K fdI ["self","many","ties"] [])(GI:bL P w K mg base bu 7 fI fdI ["self","many","ties"] (A5 C Pt))(PT:cE P w K mg base bu 1 "_law_pot" ["_law_script","_law_k"] (G0 K))(TK:cE P w K mg base bu 1 "_law_take" ["_law_pot_here","_law_many"] eW)(NE:cE P w K mg base bu 4 "_law_net" ["_law_pot_here"] Hv)(OU:cE P w K mg base bu 1 "_law_outs" ["_law_n","_law_ties"] wG)(LF:cE P w K mg base bu 1 "_law_far" ["_law_n","_law_outs_here"] Bs)(ST:cE P w K mg base bu 2 "_law_stand" ["_law_pot_here","_law_n","_law_outs_here"] wH)(RI:cE P w K mg base bu 2 "_law_right" ["_law_pot_here","_law_outs_here","_law_stand_here"] wS)(EA:cE P w K mg base bu 3 "_law_eager" ["_law_pot_here","_law_outs_here","_law_far_here","_law_homes","_law_stand_here"] wT)(TB:cE P w K mg base bu 5 "_law_twice_bent" ["_law_pot_here","_law_ways","_law_n","_law_outs_here","_law_stand_here","_law_thing"] wX)(RO:cE P w K mg base bu 10 "_law_right_once" ["_law_net_here","_law_n","_law_outs_here","_law_homes","_law_stand_here","_law_thing"] (Px K C))(BE:cE P w K mg base (FH P w) 8 "behind" ["net","homes","stand","handing"] (Ip K C CE)):
  bL P w K mg base bu 11 f fd ["_law_script"] (CU K Pt):=by
 refine F.ok gg (fun vs H Q E h=>?_) (fun dW A outer s H vs Q E hr h=>?_)
 .obtain⟨a,ns,rfl,_⟩:=h;rfl
 .obtain⟨a,ns,rfl,hS,yP,tb,q⟩:=h;have h1:cx 1 _:=hr.mono (by decide);have h2:cx 2 _:=hr.mono (by decide);have h3:cx 3 _:=hr.mono (by decide);have h4:cx 4 _:=hr.mono (by decide);have h5:cx 5 _:=hr.mono (by decide);have h8:cx 8 _:=hr.mono (by decide);refine⟨_,(ai (cq dh rfl (bi rfl B.range (aa (aB (oG rfl) (by rfl) B.max qQ (aa au (aa (aB (ud rfl) (by rfl) B.min PyProof.Rows.boot_min (aa au (aa (aB aF (by rfl) B.len cn (aa (pv 0) af)) af))) af))) af)) (aw (i:=1) gg.nd rfl aM)
    (ai (aJ (i:=2) gg.nd rfl aM (aG PT h1 aL (aa (pv 0) (aa (pv 1) af))))
    (ai (aJ (i:=3) gg.nd rfl aM (bZ (aa (aG TK h1 aL (aa (pv 2) (aa au af))) (aa (aG TK h1 aL (aa (pv 2) (aa au af))) af))))
    (ai (aJ (i:=4) gg.nd rfl aM (bj dv au (aG TK h1 aL (aa (pv 2) (aa au af)))))
    (ai (dL (aG NE h4 aL (aa (pv 2) af)) (eT (n:=2) rfl (a_ (aw (i:=5) gg.nd rfl aM) (a_ (aw (i:=6) gg.nd rfl aM) dq))))
    (ai (aJ (i:=7) gg.nd rfl aM (aG OU h1 aL (aa (pv 5) (aa (pv 6) af))))
    (ai (aJ (i:=8) gg.nd rfl aM (aG LF h1 aL (aa (pv 5) (aa (pv 7) af))))
    (ai (dL (aG ST h2 aL (aa (pv 2) (aa (pv 5) (aa (pv 7) af)))) (eT (n:=2) rfl (a_ (aw (i:=9) gg.nd rfl aM) (a_ (aw (i:=10) gg.nd rfl aM) dq))))
    (ai (aJ (i:=11) gg.nd rfl aM (Jq M GI h8 rfl T.mgC bI .nil aL (aa (pv 5) (aa (pv 6) af))))
    (ai (cU (NH fV PySem.F.slot_list_clear PySem.F.type_list_clear Fy (pv 6)))
    (ak (cq dh rfl (bi rfl B.range (aa (pv 4) af)) (aw (i:=12) gg.nd rfl aM)
     (ai (aJ (i:=13) gg.nd rfl aM (aG RI h2 aL (aa (pv 2) (aa (pv 7) (aa (pv 10) af)))))
     (ai (br (aI dY (aG TK h1 aL (aa (pv 2) (aa au af))) au (aN _)) (ak (aJ (i:=13) gg.nd rfl aM (aG EA h3 aL (aa (pv 2) (aa (pv 7) (aa (pv 8) (aa (pv 9) (aa (pv 10) af)))))))) aQ)
     (ai (aJ (i:=14) gg.nd rfl aM (aG TB h5 aL (aa (pv 2) (aa (pv 3) (aa (pv 5) (aa (pv 7) (aa (pv 10) (aa (pv 13) af))))))))
     (ai (br (d_ (cR (aG RO hr aL (aa (pv 11) (aa (pv 5) (aa (pv 7) (aa (pv 9) (aa (pv 10) (aa (pv 14) af))))))))) (ak (aK mG)) aQ)
     (ai (br (d_ (cR (aG RO hr aL (aa (pv 11) (aa (pv 5) (aa (pv 7) (aa (pv 9) (aa (pv 10) (aa (pv 13) af))))))))) (ak (aK mG)) aQ)
     (ai (aJ (i:=10) gg.nd rfl aM (aG BE h8 RN (aa (pv 11) (aa (pv 9) (aa (pv 10) (aa (pv 13) af))))))
     (ak (aJ (i:=3) gg.nd rfl aM (bZ (aa (aG TK h1 aL (aa (pv 2) (aa au af))) (aa (aT aO (pv 3) au (fun _ _=>rfl)) af)))))))))))))))))))))))
   (ak (aK mG))),?_⟩
  refine⟨_,rfl,a,_,rfl,.inl hS.seq,5,_,rfl,2,_,rfl,_,rfl,?_⟩;obtain⟨j,hj,j1⟩:∃j:Int,(if (if (((ns.map V.int).length:Nat):Int)<5 then (((ns.map V.int).length:Nat):Int) else 5) > 2 then (if (((ns.map V.int).length:Nat):Int)<5 then (((ns.map V.int).length:Nat):Int) else 5) else 2)=j/\1<=j/\j<=5:=⟨_,rfl,by split <;> split <;> lia⟩
  rw[hj];refine⟨by lia,by lia,ce (n:=j.toNat) (lo:=0) (fun k σ H2=>(∃x1 x2 x3 x4 x5 x6 x7 x8 x9 TN x11 x12 x13 x14,σ=[some (.ref a),x1,x2,x3,x4,x5,x6,x7,x8,x9,TN,x11,x12,x13,x14])/\Iu K H2 a (ns.map V.int)/\ph Pt H2) ⟨⟨_,_,_,_,_,_,_,_,_,_,_,_,_,_,rfl⟩,hS,tb⟩ ?_ ?_⟩
  rotate_left
  .rintro σ H2 _;exact q H2
  .intro k σ H2 hk iV;refine iA fun tY iW=>?_;obtain⟨⟨x1,x2,x3,x4,x5,x6,x7,x8,x9,TN,x11,x12,x13,x14,rfl⟩,S2,t2⟩:=iV;refine iW ?_;refine⟨_,rfl,_,rfl,a,ns,k,by rw[d9];rfl,S2.seq,by lia,fun p H3 s3 np p3=>?_⟩;have S3:Iu K H3 a (ns.map V.int):=S2.mono fun o u e=>s3 _ _ e;have t3:=t2.same s3;have np3:∀ {o u},H3 a=some (.tw o u)->a≠p:=fun e z=>by subst z;obtain⟨x,y,e',_⟩:=p3;rw[e] at e';cases e'
   refine⟨_,rfl,p,13,rfl,by decide,by decide,p3,fun w1 H4 hw1 s4 p4=>⟨_,rfl,p,13,rfl,by decide,by decide,p4,fun w2 H4' hw2 s4' p4'=>⟨by show 2<=sizeLine;decide,fun WA hWA=>?_⟩⟩⟩;have nW:=p4'.ne hWA;have sW:=aj (o:=.lst [.int (w1:Int),.int (w2:Int)]) hWA;have Zj:(upd H4' WA (.lst [.int (w1:Int),.int (w2:Int)])) WA=some (.lst (NV [w1,w2])):=ae;have s3W:az p H3 (upd H4' WA (.lst [.int (w1:Int),.int (w2:Int)])):=(s4.trans s4').trans (az.of sW);refine⟨_,rfl,p,12,rfl,by decide,by decide,p4'.same sW,fun mn H0 Z2 s0 p0=>⟨_,_,rfl,rfl,?_⟩⟩;have Zk:az p H3 H0:=s3W.trans s0;have hW0:=s0 _ _ Zj nW;have t0:=t3.keepE Zk p3;refine⟨_,rfl,p,rfl,p0,fun tn r n zs H5 s5 p5 htn Zl hrn IT Cz Fi=>?_⟩;have nrp:r≠p:=p0.ne hrn;have nWr:WA≠r:=ao hW0 hrn;have n1:1<=n:=by have:=Fi.n1;lia
   refine⟨tn,_,rfl,bv.of Zl,rfl,_,_,rfl,_,_,rfl,rfl,?_⟩;refine⟨_,rfl,_,rfl,n,r,zs,rfl,IT,Cz,Fi,fun oo H6 s6 Ux R6=>?_⟩;have p6:=p5.same s6;refine⟨_,rfl,_,rfl,_,oo,n,zp zs,rfl,Fi,R6,fun fr H7 s7 Ml R7=>?_⟩;have p7:=p6.same s7;have R67:bG H7 (fun b=>H5 b=none) oo n (bn n (zp zs)):=R6.same s7;refine⟨_,rfl,_,rfl,_,rfl,p,n,oo,zp zs,_,rfl,Fi.n1,Fi.n2,p7,R67,Ux,p5.full,fun XS ha sa homes st H8 s8 p8 MP nJ iB SD=>?_⟩;refine⟨XS,_,rfl,bv.of MP,rfl,_,_,rfl,_,_,rfl,rfl,?_⟩;have Wb:az p H5 H8:=((az.of s6).trans (az.of s7)).trans s8;have R68:bG H8 (fun b=>H5 b=none) oo n (bn n (zp zs)):=R67.keep Ux fun b o l e=>s8 b o e fun z=>p5.full (z ▸ l);have s38:az p H3 H8:=(Zk.trans s5).trans Wb;have t8:=t3.keepE s38 p3;have S8:Iu K H8 a (ns.map V.int):=S3.mono fun o u e=>s38 _ _ e (np3 e);have Pz:=Wb _ _ IT nrp;have hW8:=(s5.trans Wb) _ _ hW0 nW;have RF8:bG H8 (fun b=>H6 b=none) fr n (fun h=>(List.range n).map (o0 (zp zs) h)):=R7.keep Ml fun b o l e=>s8 b o e fun z=>p6.full (z ▸ l);dsimp only;refine⟨_,rfl,_,rfl,fun px dx nx ndx nex=>?_⟩;have sN:aE H8 (upd (upd H8 dx (.own px)) px (.ins C dx [])):=(aj (o:=.own px) ndx).trans (aj (D:=px) (o:=.ins C dx []) (by rw[am nex.symm];exact nx));have gpx:(upd (upd H8 dx (.own px)) px (.ins C dx [])) px=some (.ins C dx []):=ae;refine⟨px,dx,n,r,zs,rfl,gpx,⟨Fi,sN _ _ Pz,(Cz.p9 Wb p5).same sN⟩,t8.same sN,fun H9 N10 t9 MR=>⟨rfl,?_⟩⟩;have tN:=t8.same sN;have nPx:px≠Pt:=fun z=>t8.full (z ▸ nx);have kp1:∀b o,H8 b=some o->b≠Pt->H9 b=some o:=fun b o e nt=>MR b o (sN _ _ e) (ao e nx) nt;have nP:∀ {b o},H8 b=some o->(∀ps,o≠.qy ps)->b≠Pt:=fun e nt=>t8.not e nt;have NB9:eS C H9 (fun b=>H8 b=none/\b≠Pt) px n (zp zs):=N10.weak fun b l=>⟨sN.free l,fun z=>tN.full (z ▸ l)⟩
   have M1:=kp1 _ _ Pz (nP Pz nofun);refine⟨_,rfl,.inl ⟨rfl,_,aZ.of M1⟩,r,_,rfl,rfl,M1,?_⟩;have FK:∀b o,H8 b=some o->b≠Pt->b≠r->(upd H9 r (.lst [])) b=some o:=fun b o e nt nr=>by rw[am nr];exact kp1 b o e nt
   have kr:∀b o,H9 b=some o->b≠r->(upd H9 r (.lst [])) b=some o:=fun b o e nr=>by rw[am nr];exact e
   have t5:=t3.keepE (Zk.trans s5) p3;have t6:=t5.same s6;have NB:eS C (upd H9 r (.lst [])) (fun b=>H8 b=none/\b≠Pt) px n (zp zs):=NB9.keep (fun b o l e=>kr b o e (ao Pz l.1).symm) (fun o e=>kr px o e (ao Pz nx).symm);have ROb:bG (upd H9 r (.lst [])) (fun b=>H5 b=none) oo n (bn n (zp zs)):=R68.keep Ux fun b o l e=>FK b o e (fun z=>t5.full (z ▸ l)) (ao IT l).symm;have RFb:bG (upd H9 r (.lst [])) (fun b=>H6 b=none) fr n (fun h=>(List.range n).map (o0 (zp zs) h)):=RF8.keep Ml fun b o l e=>FK b o e (fun z=>t6.full (z ▸ l)) (ao (s6 _ _ IT) l).symm;have nrT:∀ {b xs},H8 b=some (.tup xs)->b≠r:=fun e z=>by subst z;rw[Pz] at e;cases e
   have Uy:=FK _ _ nJ (nP nJ nofun) (nrT nJ);have Uz:=FK _ _ iB (nP iB nofun) (nrT iB);have hWb:=FK _ _ hW8 (nP hW8 nofun) nWr;have Sb:Iu K (upd H9 r (.lst [])) a (ns.map V.int):=S8.mono fun o u e=>FK _ _ e (nP e nofun) (fun z=>by subst z;rw[Pz] at e;cases e);have pb:bp (upd H9 r (.lst [])) p:=by
    obtain⟨x,y,e,z⟩:=p8;exact⟨x,y,FK _ _ e (nP e nofun) nrp.symm,z⟩
   have tB:ph Pt (upd H9 r (.lst [])):=by
    rcases t9 with z|⟨c,z,y⟩
    .exact .inl (kr _ _ z (by rintro rfl;rw[z] at M1;cases M1))
    .exact .inr ⟨c,kr _ _ z (by rintro rfl;rw[z] at M1;cases M1),kr _ _ y (by rintro rfl;rw[y] at M1;cases M1)⟩
   have pxp:px≠p:=p8.ne nx;have UA:ha≠p:=p8.neT nJ;generalize upd H9 r _=Hb at *;dsimp only;refine⟨_,rfl,_,rfl,by lia,by lia,ce (n:=(1+(mn:Int)).toNat) (lo:=0) (fun i σ Hc=>∃ (sa wa:Addr) (st:List (Option Nat)) (ws:List Nat),(∃x y z,σ=[some (.ref a),some (.int (0+(k:Int))),some (.ref p),some (.ref wa),some (.int (1+(mn:Int))),some (.int (n:Int)),some (.ref r),some (.ref oo),some (.ref fr),some (.ref ha),some (.ref sa),some (.ref px),x,y,z])/\az p Hb Hc/\bp Hc p/\Hc sa=some (.tup (st.map oV))/\sJ n (zp zs) homes st/\Hc wa=some (.lst (NV ws))/\ws.length=2/\wa≠p) ⟨sa,WA,st,[w1,w2],⟨_,_,_,rfl⟩,az.refl,pb,Uz,SD,hWb,rfl,nW⟩ ?_ ?_⟩
   rotate_left
   .intro σ Hc iV;refine iA fun tY iW=>?_;obtain⟨sa,wa,st,ws,⟨x,y,z,rfl⟩,sc,_⟩:=iV;refine iW ?_;exact⟨⟨_,_,_,_,_,_,_,_,_,_,_,_,_,_,rfl⟩,Sb.mono fun o u e=>sc _ _ e (by rintro rfl;obtain⟨x,y,e',_⟩:=pb;rw[e] at e';cases e'),tB.keepE sc pb⟩
   clear iB Uz SD;intro i σ Hc hi iV;refine iA fun tY iW=>?_;obtain⟨sa,wa,st,ws,⟨x,y,z,rfl⟩,sc,iM,sX,SD,hwc,wl,Wc⟩:=iV;refine iW ?_;have Bt:=iM.neT sX;have UB:∀Hc,az p Hb Hc->bG Hc (fun b=>H5 b=none) oo n (bn n (zp zs)):=fun Hc sc=>ROb.keep Ux fun b o l e=>sc b o e fun z=>p5.full (z ▸ l);have RF:∀Hc,az p Hb Hc->bG Hc (fun b=>H6 b=none) fr n (fun h=>(List.range n).map (o0 (zp zs) h)):=fun Hc sc=>RFb.keep Ml fun b o l e=>sc b o e fun z=>p6.full (z ▸ l);refine⟨_,rfl,_,rfl,_,rfl,p,oo,n,zp zs,_,sa,homes,st,rfl,Fi,n1,Fi.n2,iM,UB _ sc,sX,SD,fun fa fs H1 s1 jN mw hd=>?_⟩;refine jO (fun σ H2=>H2=H1/\σ=[some (.ref a),some (.int (0+(k:Int))),some (.ref p),some (.ref wa),some (.int (1+(mn:Int))),some (.int (n:Int)),some (.ref r),some (.ref oo),some (.ref fr),some (.ref ha),some (.ref sa),some (.ref px),some (.int (0+(i:Int))),some (.ref fa),z]) ?_ (fun N hN=>hN _ _ ⟨rfl,rfl⟩);rintro σ H1' ⟨rfl,rfl⟩;refine jO (fun σ H2=>∃ (fa:Addr) (fs:List (Option Nat)),σ=[some (.ref a),some (.int (0+(k:Int))),some (.ref p),some (.ref wa),some (.int (1+(mn:Int))),some (.int (n:Int)),some (.ref r),some (.ref oo),some (.ref fr),some (.ref ha),some (.ref sa),some (.ref px),some (.int (0+(i:Int))),some (.ref fa),z]/\az p Hc H2/\bp H2 p/\H2 fa=some (.tup (fs.map oV))/\Hd n (zp zs) st fs) ?_ ?_
   rotate_left
   .intro N hN;refine⟨_,rfl,p,2,rfl,by decide,by decide,jN,fun dd H2 hdd s2 kJ=>⟨rfl,_,rfl,eU (fun c=>?_) (fun c=>hN _ _ ⟨fa,fs,rfl,s1.trans s2,kJ,s2 _ _ mw (jN.neT mw),hd⟩)⟩⟩;have GU:=s1.trans s2;have i9:=sc.trans GU;exact⟨_,rfl,_,rfl,_,rfl,_,rfl,_,rfl,p,oo,fr,n,zp zs,_,_,ha,sa,homes,st,rfl,Fi,kJ,UB _ i9,RF _ i9,Ml,p6.full,i9 _ _ Uy UA,GU _ _ sX Bt,SD,fun fa fs H3 s3 mv mw hd=>hN _ _ ⟨fa,fs,rfl,GU.trans s3,mv,mw,hd⟩⟩
   clear mw hd jN s1;intro σ H1 iV;refine iA fun tY iW=>?_;obtain⟨fa,fs,rfl,s1,jN,mw,hd⟩:=iV;refine iW ?_;have mr:=sc.trans s1;have fl:=hd.len;have yG:=SD.le;have Xp:QW p H1 0 16 201 (.ref fa):=⟨fa,_,rfl,jN.neT mw,mw,by rw[aP];lia,fun v hv=>by
    obtain⟨o,ho,rfl⟩:=bz.mp hv;cases o with
    |none=>exact(sM).le (by lia)
    |some y=>
     obtain⟨j,hj,ej⟩:=qT ho;have gj:fs.getD j none=some y:=by rw[aY,bB hj,ej];rfl
     have hy:y<n:=by
      cases hs:st.getD j none with
      |none=>rw[hd.bD j hs] at gj;cases gj
      |some h=>
       obtain⟨y',e',m'⟩:=hd.out j h hs;rw[gj] at e';cases e';exact Bp n1 m'
     have n2:=Fi.n2;exact(gX (.inl ⟨by lia,by lia⟩)).le (by lia)⟩
   refine⟨_,rfl,_,rfl,_,rfl,_,rfl,_,rfl,_,rfl,p,wa,ws,n,oo,zp zs,_,sa,homes,st,.ref fa,rfl,s1 _ _ hwc Wc,Wc,wl,n1,Fi.n2,jN,UB _ mr,Ux,p5.full,s1 _ _ sX Bt,SD,Xp,fun xv H2' s2 kJ sw=>?_⟩;obtain⟨dd,sh,_⟩:=sw;obtain⟨oth,WY⟩:=sh.th (K:=K);have GU:=s1.trans s2;have i9:=sc.trans GU;have NC:eS C H2' (fun b=>H8 b=none/\b≠Pt) px n (zp zs):=NB.keep (fun b o l e=>i9 b o e fun z=>p8.full (z ▸ l.1)) (fun o e=>i9 px o e pxp);have PB:=i9 _ _ Uy UA;have PD:=GU _ _ sX Bt;have UC:=s2 _ _ mw (jN.neT mw);have Zm:=GU _ _ hwc Wc;refine⟨_,rfl,_,rfl,_,rfl,_,rfl,_,rfl,_,rfl,_,_,px,oo,n,zp zs,ha,homes,sa,st,xv,oth,rfl,NC,UB _ i9,PB,PD,SD,fun H' s'=>WY H' (kT.of s'),fun H3' s3=>⟨_,rfl,cD ?_⟩⟩;have ths:∀H',aE H2' H'->Th K H' (.ref fa) (some (fs.map eO)):=fun H' s'=>Uu (s' _ _ UC);refine⟨_,rfl,_,rfl,_,rfl,_,rfl,_,rfl,_,rfl,_,_,px,oo,n,zp zs,ha,homes,sa,st,.ref fa,_,rfl,NC.same s3,(UB _ i9).same s3,s3 _ _ PB,s3 _ _ PD,SD,fun H' s'=>ths H' (s3.trans s'),fun aal Zn=>⟨_,rfl,cD ?_⟩⟩;have QX:=s3.trans Zn;refine⟨_,rfl,_,rfl,_,rfl,_,rfl,_,px,n,zp zs,ha,homes,sa,st,.ref fa,_,rfl,NC.same QX,QX _ _ PB,SD.len,QX _ _ PD,yG,SD.ss,fun H' s'=>ths H' (QX.trans s'),fun e he=>?_,fun he fa' Je ex El d' t H5' s5' ht=>?_⟩
   .rw[Uw hd] at he;cases he
   cases ex;have ef:Je.map oV=fs.map oV:=by have:=QX _ _ UC;rw[El] at this;injection this with this;injection this
   obtain rfl:=(zD fun a b=>Bz).mp ef;have Zo:=QX.trans s5';have sB:=kJ.same Zo;refine⟨_,rfl,p,13,rfl,by decide,by decide,sB,fun w3 H6' hw3 Zp Gg=>?_⟩;have sb6:az p Hb H6':=(i9.trans (az.of Zo)).trans Zp;have hw6:=Zp _ _ (Zo _ _ Zm) Wc;refine⟨_,rfl,wa,_,_,_,rfl,rfl,aZ.of hw6,aA (j:=0) (f_ (by lia)),by show 2<=sizeLine;decide,fun W2 hW2=>?_⟩;have Zq:=aj (o:=.lst [.int (w3:Int),.int ((ws.getD 0 0:Nat):Int)]) hW2;exact⟨t,W2,sV homes Je,[w3,ws.getD 0 0],⟨_,_,_,rfl⟩,sb6.trans (az.of Zq),Gg.same Zq,Zq _ _ (Zp _ _ ht (sB.neT ht)),hd.next Fi SD,ae,rfl,Gg.ne hW2⟩
end
def FD(K:PySem.W.Frag)(n:Str)(st:Stmt):Prop:=∃ (f:Addr) (oc:Value) (od an:Option Addr) (sl:Array (Option Value)) (kV dc pm cd ct:Value),PySem.W.nsIn K mainGlobals n=some (some (.ref f))/\K.lookup f=some ⟨oc,od,.func (PySem.W.fnOf n n (dN st) (bV st) (av st) .none kV dc pm an cd ct),sl⟩/\PySem.W.codeIn K cd n=true/\PySem.W.keepIn K (.ref f)=true
def FC(K:PySem.W.Frag)(n:Str)(st:Stmt)(c:Addr):Prop:=∃ (f:Addr) (oc:Value) (od an:Option Addr) (sl:Array (Option Value)) (kV dc pm ct:Value),PySem.W.nsIn K mainGlobals n=some (some (.ref f))/\K.lookup f=some ⟨oc,od,.func (PySem.W.fnOf n n (dN st) (bV st) (av st) .none kV dc pm an (.ref c) ct),sl⟩/\PySem.W.codeIn K (.ref c) n=true/\PySem.W.keepIn K (.ref f)=true
def MD(K:PySem.W.Frag)(C:Addr)(n q:Str)(st:Stmt):Prop:=∃ (f:Addr) (oc:Value) (od an:Option Addr) (sl:Array (Option Value)) (kV dc pm cd ct:Value),PySem.W.findIn K (.ref C) n=some (some (.ref f))/\PySem.W.isFn K (.ref f)=true/\K.lookup f=some ⟨oc,od,.func (PySem.W.fnOf n q (dN st) (bV st) (av st) .none kV dc pm an cd ct),sl⟩/\PySem.W.codeIn K cd q=true/\PySem.W.keepIn K (.ref f)=true
section
variable {P:Program} {w:World} {K:PySem.W.Frag} {mg:Str->Option Value} {base h:Heap} {n q:Str} {st:Stmt} {f c C:Addr} {oc kV dc pm cd ct:Value} {od an:Option Addr} {sl:Array (Option Value)} {CX:vJ} {k:Nat} {ps:List Str} {sp:Sp}
theorem FD.mk(a:PySem.W.nsIn K mainGlobals n=some (some (.ref f)))(l:K.lookup f=some ⟨oc,od,.func (PySem.W.fnOf n n (dN st) (bV st) (av st) .none kV dc pm an cd ct),sl⟩)(d:PySem.W.codeIn K cd n=true)(k:PySem.W.keepIn K (.ref f)=true):FD K n st:=⟨f,oc,od,an,sl,kV,dc,pm,cd,ct,a,l,d,k⟩
theorem FC.mk(a:PySem.W.nsIn K mainGlobals n=some (some (.ref f)))(l:K.lookup f=some ⟨oc,od,.func (PySem.W.fnOf n n (dN st) (bV st) (av st) .none kV dc pm an (.ref c) ct),sl⟩)(d:PySem.W.codeIn K (.ref c) n=true)(k:PySem.W.keepIn K (.ref f)=true):FC K n st c:=⟨f,oc,od,an,sl,kV,dc,pm,ct,a,l,d,k⟩
theorem MD.mk(a:PySem.W.findIn K (.ref C) n=some (some (.ref f)))(i:PySem.W.isFn K (.ref f)=true)(l:K.lookup f=some ⟨oc,od,.func (PySem.W.fnOf n q (dN st) (bV st) (av st) .none kV dc pm an cd ct),sl⟩)(d:PySem.W.codeIn K cd q=true)(k:PySem.W.keepIn K (.ref f)=true):MD K C n q st:=⟨f,oc,od,an,sl,kV,dc,pm,cd,ct,a,i,l,d,k⟩
def BD(n q:Str)(st:Stmt)(ps:List Str):Prop:=∀ (kV mq pm:Value) (an:Option Addr) (dW ct:Value) (us:List Value),us.length=ps.length->bindArgs (PySem.W.fnOf n q (dN st) (bV st) (av st) .none kV mq pm an dW ct) ⟨us,[]⟩=pure (ps.zip us)
theorem FD.iC(X:K.In h)(G:h.Ns mainGlobals mg)(D:FD K n st)(b:BD n n st ps)(o:∀ {f fd},gv K n n st f fd->bL P w K mg base CX k f fd ps sp):cE P w K mg base CX k n ps sp:=by
 obtain⟨f,_,_,_,_,_,_,_,_,_,a,l,d,kp⟩:=D;have F:=vO (x:=n) (qual:=n) (st:=st) l d kp;exact⟨⟨f,_,eY X G a,kp,F.binds b,o F⟩⟩
theorem FC.iC(X:K.In h)(G:h.Ns mainGlobals mg)(D:FC K n st c)(b:BD n n st ps)(o:∀ {f fd},AH K n n st f fd c->bL P w K mg base CX k f fd ps sp):cE P w K mg base CX k n ps sp:=by
 obtain⟨f,_,_,_,_,_,_,_,_,a,l,d,kp⟩:=D;have F:=JR (x:=n) (qual:=n) (st:=st) l d kp;exact⟨⟨f,_,eY X G a,kp,F.fun.binds b,o F⟩⟩
theorem MD.iC(D:MD K C n q st)(b:BD n q st ps)(o:∀ {f fd},gv K n q st f fd->bL P w K mg base CX k f fd ps sp):yo P w K mg base CX k C n ps sp:=by
 obtain⟨f,_,_,_,_,_,_,_,_,_,a,i,l,d,kp⟩:=D;have F:=vO (x:=n) (qual:=q) (st:=st) l d kp;exact⟨⟨f,_,⟨a,i,kp⟩,F.binds b,o F⟩⟩
end
theorem PF{l:PySem.W.OpenLaw}{w:World}{K:PySem.W.Frag}{h:Heap}{mg:Str->Option Value}{fa:Addr}(X:K.In h)(G:h.Ns mainGlobals mg)(mw:mg "law"=some (.ref fa)){C cO Pt iO cP pD pE wZ s_ pF w4 pG pH tf w5 pI:Addr}{qu t4 qv:Tok}(aC:PySem.W.nsIn K mainGlobals "Net"=some (some (.ref C)))(yJ:PySem.W.nsIn K mainGlobals "BeatError"=some (some (.ref iO)))(qc:PySem.W.nsIn K mainGlobals "NoHanding"=some (some (.ref cP)))(Em:PySem.W.nsIn K mainGlobals "NoBerth"=some (some (.ref pD)))(Eo:PySem.W.nsIn K mainGlobals "NoHouse"=some (some (.ref pE)))(Lg:PySem.W.nsIn K mainGlobals "NoNet"=some (some (.ref wZ)))(Iv:PySem.W.nsIn K mainGlobals "NoPlan"=some (some (.ref s_)))(Ep:PySem.W.nsIn K mainGlobals "NoRanks"=some (some (.ref pF)))(Lh:PySem.W.nsIn K mainGlobals "NoRow"=some (some (.ref w4)))(Es:PySem.W.nsIn K mainGlobals "NoShape"=some (some (.ref pG)))(Et:PySem.W.nsIn K mainGlobals "NoStand"=some (some (.ref pH)))(Iw:PySem.W.nsIn K mainGlobals "NoText"=some (some (.ref tf)))(Li:PySem.W.nsIn K mainGlobals "NoTie"=some (some (.ref w5)))(Eu:PySem.W.nsIn K mainGlobals "TooMany"=some (some (.ref pI)))(Lj:FD K "is_whole" AY)(Ix:FD K "is_whole_within" wj)(Lk:FD K "is_house" AZ)(UD:FD K "is_row" Og)(UE:FD K "are_unlike_houses" Oo)(UF:FD K "is_tie" Om)(Ll:FD K "check_ties" A2)(UG:FD K "check_balance" On)(PJ:FC K "houses_out" yp cO)(PL:FD K "distances_from" GQ)(Lm:FD K "check_reached" A3)(UH:FD K "wrong_of_letter" Pc)(Ln:FD K "wrong" Bk)(UI:FD K "_law_pot" OJ)(PM:FD K "_law_take" GZ)(Lo:FD K "_law_order" Ba)(PN:FD K "_law_both" G7)(PP:FD K "_law_tree" G8)(PQ:FD K "_law_mesh" Hf)(UJ:FD K "_law_box" OY)(Lp:FD K "_law_words" Bd)(UK:FD K "_law_one_way" O0)(UL:FD K "_law_net" Hr)(Lq:FD K "_law_outs" Bh)(Lr:FD K "_law_stand" Bi)(Lu:FD K "_law_right" Bo)(UM:FD K "_law_odd" Ie)(Lv:FD K "_law_other" Bv)(PR:FD K "_law_bent" yI)(Lw:FD K "_law_twice_bent" Bw)(PU:FD K "_law_is_step" HG)(Iy:FD K "_law_wrong" wO)(PV:FD K "_law_far" HN)(Lx:FD K "_law_eager" Bu)(Zr:FD K "stand_behind" Y6)(Zt:FD K "behind" Y7)(Zu:FD K "_law_behind" Y8)(Zv:FD K "_law_told" Zb)(Zw:FD K "is_stand" sY)(Zx:FD K "_law_right_once" Ze)(UN:FD K "law" BA)(PX:MD K C "__init__" "Net.__init__" Cs)(Ly:MD K C "check_house" "Net.check_house" A1)(UO:MD K C "out" "Net.out" Oj)(PY:MD K C "many" "Net.many" GE)(pg:PySem.W.plainGet K C Str.empty=true)(Zy:PySem.W.hasDictIn K C=true)(po:PySem.W.plainOver K C=true)(sa:PySem.W.findIn K (.ref C) "__setattr__"=some (some (.builtin "object.__setattr__")))(mk:PySem.W.makesIn K C=true)(kc:PySem.W.keepIn K (.ref C)=true)(nH:PySem.W.findIn K (.ref C) "house_count"=some none)(nT:PySem.W.findIn K (.ref C) "tie_list"=some none)(nO:PySem.W.findIn K (.ref C) "out_lists"=some none)(nD:PySem.W.findIn K (.ref C) "distances"=some none)(w6:PySem.W.nsIn K mainGlobals "isinstance"=some none)(UP:PySem.W.nsIn K mainGlobals "int"=some none)(PZ:PySem.W.nsIn K mainGlobals "bool"=some none)(Lz:PySem.W.nsIn K mainGlobals "tuple"=some none)(P0:PySem.W.nsIn K mainGlobals "list"=some none)(UQ:PySem.W.nsIn K mainGlobals "str"=some none)(UR:PySem.W.nsIn K mainGlobals "set"=some none)(US:PySem.W.nsIn K mainGlobals "len"=some none)(LA:PySem.W.nsIn K mainGlobals "range"=some none)(Iz:PySem.W.nsIn K mainGlobals "sorted"=some none)(UT:PySem.W.nsIn K mainGlobals "any"=some none)(UU:PySem.W.nsIn K mainGlobals "max"=some none)(UV:PySem.W.nsIn K mainGlobals "min"=some none)(w9:PySem.W.nsIn K mainGlobals "ValueError"=some none)(UW:PySem.W.nsIn K mainGlobals "all"=some none)(UX:PySem.W.nsIn K mainGlobals "abs"=some none)(IA:PySem.W.nsIn K mainGlobals "divmod"=some none)(P1:PySem.W.nsIn K mainGlobals "dict"=some none)(UY:PySem.W.nsIn K mainGlobals "zip"=some none)(P3:PySem.W.nsIn K mainGlobals "repr"=some none)(qw:PySem.W.nsIn K mainGlobals "FEWEST_HOUSES"=some (some (.int 2 qu)))(t7:PySem.W.nsIn K mainGlobals "MOST_HOUSES"=some (some (.int 32 t4)))(qx:PySem.W.nsIn K mainGlobals "MOST_TIES_OUT"=some (some (.int 8 qv)))(yK:mS K iO)(qd:mS K cP)(kA:PySem.W.kitAny K (.ref cP) ([pD,pE,wZ,s_,pF,w4,pG,pH,tf].map Value.ref)=some false)(kB:PySem.W.kitAny K (.ref cP) ([w5,pI].map Value.ref)=some false)(kH:PySem.W.kitOne K (.ref cP) (.ref iO)=some true)(kVv:PySem.W.kitOne K (.ref cP) (.type "ValueError")=some true)(kS:PySem.W.subIn K (.ref cP) (.ref cP)=some true)(P5:PySem.W.codeHdIn K cO Pt=true):
  ∃fd:FuncData,(∀ (s:Shared) (v:Value),BindsTo s fd ⟨[v],[]⟩ [("_law_script",v)])/\∀base:Heap,K.In base->base.Ns mainGlobals mg->vZ mg base->bL l.prog w K mg base bu 11 fa fd ["_law_script"] (CU K Pt):=by
 obtain⟨aab,oc,od,an,sl,kV,dc,pm,cd,ct,UZ,U0,U1,U2⟩:=UN;have e:=mw.symm.trans (eY X G UZ);cases e;have U3:=vO (x:="law") (qual:="law") (st:=BA) U0 U1 U2;obtain⟨f_i,oci,odi,ani,sli,kVi,dci,pmi,cdi,cti,a_i,i_i,l_i,d_i,k_i⟩:=PX;have yL:=vO (x:="__init__") (qual:="Net.__init__") (st:=Cs) l_i d_i k_i;have IC:=yL.binds (ps:=["self","many","ties"]) fun _ _ _ _ _ _ us hl=>match us,hl with|[_,_,_],_=>rfl
 have MK:Mk K C f_i:=⟨mk,a_i,i_i,kc⟩
 have B:Bl mg:=⟨ft X G w6,ft X G UP,ft X G PZ,ft X G Lz,ft X G P0,ft X G UQ,ft X G UR,ft X G US,ft X G LA,ft X G Iz,ft X G UT,ft X G UU,ft X G UV,ft X G w9,ft X G UW⟩
 have T:NT K mg C:=⟨⟨pg,Zy,po,sa⟩,nH,nT,nO,nD,eY X G aC⟩
 have B2:OK mg:=⟨ft X G UX,ft X G IA,ft X G P1,ft X G UY,ft X G P3⟩
 let c:Nat->Addr:=fun i=>[pD,pE,wZ,s_,pF,w4,pG,pH,tf,w5,pI].getD i 0
 have R:Us K mg iO cP c:=⟨⟨eY X G yJ,yK⟩,⟨eY X G qc,qd⟩,eY X G Em,eY X G Eo,eY X G Lg,eY X G Iv,eY X G Ep,eY X G Lh,eY X G Es,eY X G Et,eY X G Iw,eY X G Li,eY X G Eu,kA,kB,kH,kVv,kS⟩
 refine⟨PySem.W.fnOf "law" "law" (dN BA) (bV BA) (av BA) .none kV dc pm an cd ct,fun s v=>.of_eq rfl,fun base kb nb hb=>?_⟩;have CV:cE l.prog w K mg base bu 1 "is_whole" ["thing"] (qI K):=FD.iC X G Lj (fun _ _ _ _ _ _ us hl=>match us,hl with|[_],_=>rfl) fun LC=>GA LC B;have yM:cE l.prog w K mg base bu 2 "is_whole_within" ["thing","least","most"] (nh K):=FD.iC X G Ix (fun _ _ _ _ _ _ us hl=>match us,hl with|[_,_,_],_=>rfl) fun ID=>DS ID CV;have w_:cE l.prog w K mg base bu 3 "is_house" ["many","thing"] (ni K):=FD.iC X G Lk (fun _ _ _ _ _ _ us hl=>match us,hl with|[_,_],_=>rfl) fun LD=>GC LD yM;have IE:cE l.prog w K mg base bu 1 "is_row" ["thing","length"] (ym K):=FD.iC X G UD (fun _ _ _ _ _ _ us hl=>match us,hl with|[_,_],_=>rfl) fun U4=>Oh U4 B;have U5:cE l.prog w K mg base bu 4 "are_unlike_houses" ["many","one","other"] GF:=FD.iC X G UE (fun _ _ _ _ _ _ us hl=>match us,hl with|[_,_,_],_=>rfl) fun U6=>Op U6 w_;have U7:cE l.prog w K mg base bu 5 "is_tie" ["many","thing"] GG:=FD.iC X G UF (fun _ _ _ _ _ _ us hl=>match us,hl with|[_,_],_=>rfl) fun U8=>Oq U8 IE U5;have LG:cE l.prog w K mg base bu 6 "check_ties" ["many","ties"] k6:=FD.iC X G Ll (fun _ _ _ _ _ _ us hl=>match us,hl with|[_,_],_=>rfl) fun LH=>GK LH B ⟨_,eY X G qw⟩ ⟨_,eY X G t7⟩ yM U7;have U9:cE l.prog w K mg base bu 1 "check_balance" ["many","ties"] k6:=FD.iC X G UG (fun _ _ _ _ _ _ us hl=>match us,hl with|[_,_],_=>rfl) fun U_=>Os U_ B ⟨_,eY X G qx⟩;have P6:cE l.prog w K mg base bu 1 "houses_out" ["many","ties","house"] (wn Pt):=FC.iC X G PJ (fun _ _ _ _ _ _ us hl=>match us,hl with|[_,_,_],_=>rfl) fun P7=>Kp P7 B kb hb P5;have P8:cE l.prog w K mg base bu 1 "distances_from" ["out_lists","start"] wo:=FD.iC X G PL (fun _ _ _ _ _ _ us hl=>match us,hl with|[_,_],_=>rfl) fun P9=>Kq P9 B;have LJ:cE l.prog w K mg base bu 1 "check_reached" ["distances"] wr:=FD.iC X G Lm (fun _ _ _ _ _ _ us hl=>match us,hl with|[_],_=>rfl) fun LK=>GT LK B;have P_:bL l.prog w K mg base bu 7 f_i _ ["self","many","ties"] (A5 C Pt):=Kv yL T B LG U9 P6 P8 LJ;have LL:yo l.prog w K mg base bu 4 C "check_house" ["self","thing"] (sg C):=MD.iC Ly (fun _ _ _ _ _ _ us hl=>match us,hl with|[_,_],_=>rfl) fun Ev=>DW Ev T w_;have M2:yo l.prog w K mg base bu 5 C "out" ["self","house"] (si C):=MD.iC UO (fun _ _ _ _ _ _ us hl=>match us,hl with|[_,_],_=>rfl) fun LM=>Kj LM T B LL;have Qa:yo l.prog w K mg base bu 1 C "many" ["self"] (A6 C):=MD.iC PY (fun _ _ _ _ _ _ us hl=>match us,hl with|[_],_=>rfl) fun IF=>Kx IF T;have Va:cE l.prog w K mg base bu 6 "wrong_of_letter" ["net","stand","row","letter"] (HE K C):=FD.iC X G UH (fun _ _ _ _ _ _ us hl=>match us,hl with|[_,_,_,_],_=>rfl) fun Vb=>Pd Vb B T CV M2;have LN:cE l.prog w K mg base bu 7 "wrong" ["net","homes","stand","thing"] (wN K C):=FD.iC X G Ln (fun _ _ _ _ _ _ us hl=>match us,hl with|[_,_,_,_],_=>rfl) fun LO=>HF LO B IE Va;have Vc:cE l.prog w K mg base bu 1 "_law_pot" ["_law_script","_law_k"] (G0 K):=FD.iC X G UI (fun _ _ _ _ _ _ us hl=>match us,hl with|[_,_],_=>rfl) fun Vd=>OL Vd B B2;have gY:cE l.prog w K mg base bu 1 "_law_take" ["_law_pot_here","_law_many"] eW:=FD.iC X G PM (fun _ _ _ _ _ _ us hl=>match us,hl with|[_,_],_=>rfl) fun Qb=>KC Qb B2;have xa:cE l.prog w K mg base bu 2 "_law_order" ["_law_pot_here","_law_many"] ny:=FD.iC X G Lo (fun _ _ _ _ _ _ us hl=>match us,hl with|[_,_],_=>rfl) fun LP=>G6 LP B gY;have Qc:cE l.prog w K mg base bu 1 "_law_both" ["_law_pairs"] Bb:=FD.iC X G PN (fun _ _ _ _ _ _ us hl=>match us,hl with|[_],_=>rfl) fun Qd=>KE Qd;have IG:cE l.prog w K mg base bu 2 "_law_tree" ["_law_pot_here","_law_n"] me:=FD.iC X G PP (fun _ _ _ _ _ _ us hl=>match us,hl with|[_,_],_=>rfl) fun Qe=>KG Qe B gY;have Qf:cE l.prog w K mg base bu 3 "_law_mesh" ["_law_pot_here","_law_n"] me:=FD.iC X G PQ (fun _ _ _ _ _ _ us hl=>match us,hl with|[_,_],_=>rfl) fun Qg=>KL Qg B gY IG;have Ve:cE l.prog w K mg base bu 1 "_law_box" ["_law_sides"] Hi:=FD.iC X G UJ (fun _ _ _ _ _ _ us hl=>match us,hl with|[_],_=>rfl) fun Vf=>OZ Vf B;have LQ:cE l.prog w K mg base bu 1 "_law_words" ["_law_figures","_law_base"] wB:=FD.iC X G Lp (fun _ _ _ _ _ _ us hl=>match us,hl with|[_,_],_=>rfl) fun LR=>Hk LR B;have Vg:cE l.prog w K mg base bu 3 "_law_one_way" ["_law_pot_here","_law_n"] Hm:=FD.iC X G UK (fun _ _ _ _ _ _ us hl=>match us,hl with|[_,_],_=>rfl) fun Vh=>O1 Vh B gY xa;have Vi:cE l.prog w K mg base bu 4 "_law_net" ["_law_pot_here"] Hv:=FD.iC X G UL (fun _ _ _ _ _ _ us hl=>match us,hl with|[_],_=>rfl) fun Vj=>O7 Vj B gY xa IG Qf Qc Ve LQ Vg;have LU:cE l.prog w K mg base bu 1 "_law_outs" ["_law_n","_law_ties"] wG:=FD.iC X G Lq (fun _ _ _ _ _ _ us hl=>match us,hl with|[_,_],_=>rfl) fun LV=>Hy LV B B2;have LX:cE l.prog w K mg base bu 2 "_law_stand" ["_law_pot_here","_law_n","_law_outs_here"] wH:=FD.iC X G Lr (fun _ _ _ _ _ _ us hl=>match us,hl with|[_,_,_],_=>rfl) fun LY=>Hz LY B gY;have LZ:cE l.prog w K mg base bu 2 "_law_right" ["_law_pot_here","_law_outs_here","_law_stand_here"] wS:=FD.iC X G Lu (fun _ _ _ _ _ _ us hl=>match us,hl with|[_,_,_],_=>rfl) fun L3=>HR L3 B gY;have Vk:cE l.prog w K mg base bu 2 "_law_odd" ["_law_pot_here","_law_n"] Ih:=FD.iC X G UM (fun _ _ _ _ _ _ us hl=>match us,hl with|[_,_],_=>rfl) fun Vl=>Po Vl B gY;have L4:cE l.prog w K mg base bu 3 "_law_other" ["_law_pot_here","_law_way","_law_n","_law_outs_here","_law_stand_here","_law_thing"] wU:=FD.iC X G Lv (fun _ _ _ _ _ _ us hl=>match us,hl with|[_,_,_,_,_,_],_=>rfl) fun L5=>Ii L5 B gY Vk;have Qh:cE l.prog w K mg base bu 4 "_law_bent" ["_law_pot_here","_law_way","_law_n","_law_outs_here","_law_stand_here","_law_thing"] (Bx K):=FD.iC X G PR (fun _ _ _ _ _ _ us hl=>match us,hl with|[_,_,_,_,_,_],_=>rfl) fun Qi=>K7 Qi B gY L4;have L6:cE l.prog w K mg base bu 5 "_law_twice_bent" ["_law_pot_here","_law_ways","_law_n","_law_outs_here","_law_stand_here","_law_thing"] wX:=FD.iC X G Lw (fun _ _ _ _ _ _ us hl=>match us,hl with|[_,_,_,_,_,_],_=>rfl) fun L7=>Ik L7 B Qh;have Qj:cE l.prog w K mg base bu 1 "_law_is_step" ["_law_n","_law_outs_here","_law_house","_law_thing"] (Bm K):=FD.iC X G PU (fun _ _ _ _ _ _ us hl=>match us,hl with|[_,_,_,_],_=>rfl) fun Qk=>K0 Qk B;have II:cE l.prog w K mg base bu 2 "_law_wrong" ["_law_n","_law_outs_here","_law_stand_here","_law_thing"] (sR K):=FD.iC X G Iy (fun _ _ _ _ _ _ us hl=>match us,hl with|[_,_,_,_],_=>rfl) fun IJ=>Eb IJ B Qj;have Ql:cE l.prog w K mg base bu 1 "_law_far" ["_law_n","_law_outs_here"] Bs:=FD.iC X G PV (fun _ _ _ _ _ _ us hl=>match us,hl with|[_,_],_=>rfl) fun Qm=>K2 Qm B;have L8:cE l.prog w K mg base bu 3 "_law_eager" ["_law_pot_here","_law_outs_here","_law_far_here","_law_homes","_law_stand_here"] wT:=FD.iC X G Lx (fun _ _ _ _ _ _ us hl=>match us,hl with|[_,_,_,_,_],_=>rfl) fun L9=>HX L9 B gY xa;have Zz:cE l.prog w K mg base bu 1 "stand_behind" ["homes","handing"] Ej:=FD.iC X G Zr (fun _ _ _ _ _ _ us hl=>match us,hl with|[_,_],_=>rfl) fun ZA=>Ul ZA B B2;have Vm:cE l.prog w K mg base (FH l.prog w) 8 "behind" ["net","homes","stand","handing"] (Ip K C cP):=FD.iC X G Zt (fun _ _ _ _ _ _ us hl=>match us,hl with|[_,_,_,_],_=>rfl) fun ZB=>Up ZB ⟨eY X G qc,qd⟩ LN Zz;have ZC:cE l.prog w K mg base bu 1 "_law_behind" ["_law_homes","_law_handing"] Ej:=FD.iC X G Zu (fun _ _ _ _ _ _ us hl=>match us,hl with|[_,_],_=>rfl) fun ZD=>Uo ZD B B2;have ZE:cE l.prog w K mg base bu 9 "_law_told" ["_law_net_here","_law_homes","_law_stand_here","_law_thing"] (Pw K C):=FD.iC X G Zv (fun _ _ _ _ _ _ us hl=>match us,hl with|[_,_,_,_],_=>rfl) fun ZF=>Ut ZF B R Vm;have ZG:cE l.prog w K mg base bu 6 "is_stand" ["net","homes","thing"] (pC K C):=FD.iC X G Zw (fun _ _ _ _ _ _ us hl=>match us,hl with|[_,_,_],_=>rfl) fun ZH=>By ZH B B2 T IE w_ Qa M2;have ZI:cE l.prog w K mg base bu 10 "_law_right_once" ["_law_net_here","_law_n","_law_outs_here","_law_homes","_law_stand_here","_law_thing"] (Px K C):=FD.iC X G Zx (fun _ _ _ _ _ _ us hl=>match us,hl with|[_,_,_,_,_,_],_=>rfl) fun ZJ=>Uv ZJ B II ZC ZE ZG;exact Py U3 B T MK IC P_ Vc gY Vi LU Ql LX LZ L8 L6 ZI Vm
theorem Vn(h:((List.range 2000).any fun c=>PySem.W.codeHdIn K c P)=true):∃c,PySem.W.codeHdIn K c P=true:=
 let ⟨c,_,e⟩:=vd.mp h;⟨c,e⟩
theorem Qn(hO:B9 ts H)(h:aZ K H a xs):Iu K H a xs:=by
 rcases h with h|h
 .rcases h with h|⟨o,h⟩
  .rcases hO.2 a with z|⟨_,z⟩|⟨o,ys,z⟩ <;> · rw[h] at z;cases z
  .exact .inl ⟨o,h⟩
 .exact .inr fun H'=>.inr h
theorem walk{l:PySem.W.OpenLaw}{q:Program}{uo:List Str}{XP:(Str->Option Value)->Heap->Prop}{YP:World->Heap->Prop}{d:DefRec}{K:Params->PySem.W.Frag}{Pt:Addr}(hn:l.most=some 63)(RB:d.params.defaults=[])(hY:∀ (w:World) (h:Heap),YP w h->(K w.params).In h)(hT:∀ (w:World) (h:Heap),YP w h->∀P∈[Pt],h.get? P=some (PySem.W.tabObj #[]))(qz:∀ (w:World),((List.range 2000).any fun c=>PySem.W.codeHdIn (K w.params) c Pt)=true)(So:∀ (w:World),(K w.params).lookup Pt=none)(F:∀ (w:World) (mg:Str->Option Value) (fa:Addr) (h:Heap),(K w.params).In h->h.Ns mainGlobals mg->mg d.name=some (.ref fa)->
   ∃fd:FuncData,(∀ (s:Shared) (u:Value),BindsTo s fd ⟨[u],[]⟩ [("_law_script",u)])/\∀base:Heap,(K w.params).In base->base.Ns mainGlobals mg->vZ mg base->bL l.prog w (K w.params) mg base bu 11 fa fd ["_law_script"] (CU (K w.params) Pt)):
  PySem.W.WalkO q uo XP YP l.row.toRowW d [] (fun f vs=>PySem.call f vs):=
 F3 (n:=63) (k:=11) (x:="_law_script") (ts:=[Pt]) (K:=K) (CX:=fun _=>bu) (sp:=fun w=>(CU (K w.params) Pt)) hn (by decide) RB ⟨rfl,by decide,by decide,rfl⟩ hY hT
  (fun w P hP=>by rw[cC.mp hP];exact Vn (qz w)) (fun w P hP=>by rw[cC.mp hP];exact So w) F
  (fun w H a ns hl hO hS=>⟨a,ns,rfl,Qn hO hS,hl,.inl (hO.1 _ (by simp)),fun _=>rfl⟩) fun _ _ _ _ _ z=>z
end nN
open PySem PySem.W PyProof.Rows
namespace PySem.W.Fast
def tw15040956093577284606:=trivial
def tw5553161031152310613:=trivial
def tw7298465009925256474:=trivial
def tw6551392833625184028:=trivial
def tw6710770453259409421:=trivial
def tw18415803314553069670:=trivial
def tw14001808916863872910:=trivial
def tw17340000777164654418:=trivial
def tw993325948970676616:=trivial
def tw11941408097685096069:=trivial
def tw9801616607967690967:=trivial
def tw5237658057678992617:=trivial
def tw4064905834889896882:=trivial
def tw7600520699307523360:=trivial
def tw15216091695699050247:=trivial
def tw6420525629631206166:=trivial
def tw5245108463249708439:=trivial
def tw5638190846912303384:=trivial
def tw8684737316915662401:=trivial
def tw17160833165424638140:=trivial
def tw15366835098502645615:=trivial
def tw7139476626480971945:=trivial
def tw6633657458308923737:=trivial
def tw2739918922918756847:=trivial
def tw1093965455386357490:=trivial
def tw7661238555414831189:=trivial
def tw6085222087739418096:=trivial
def tw11996299496877055838:=trivial
def tw5089879859521848790:=trivial
def tw4129574448046211125:=trivial
def tw8677062194025949048:=trivial
def tw3639276963846387683:=trivial
def tw17617788924023894146:=trivial
def tw3303406010413980369:=trivial
def tw10478169896406474883:=trivial
def tw5955900672609505956:=trivial
def tw1333817964230890235:=trivial
def tw16134557055416385345:=trivial
def tw4537412866227873750:=trivial
def tw10209046481526501217:=trivial
def tw15945563074997216346:=trivial
def tw6379816636598992781:=trivial
def tw2096879667220036848:=trivial
def tw6501676173150863641:=trivial
def tw814773634732830700:=trivial
def tw10495477420719714338:=trivial
def tw2266712647085018321:=trivial
def tw12921557002334876097:=trivial
def tw6059258171100167020:=trivial
def tw16727233760041508436:=trivial
def tw17647362228045056728:=trivial
def tw8590251498339430240:=trivial
def tw6184911793961515605:=trivial
def tw1010465863811314979:=trivial
def tw1389964497830806255:=trivial
def tw17938716607232278051:=trivial
def tw5795308392921828870:=trivial
def tw3998208416154672495:=trivial
def tw17847665428255339428:=trivial
def tw6493066797225299866:=trivial
def tw12655256607805743418:=trivial
def tw3726676194384111987:=trivial
def tw9850078657830569027:=trivial
def tw9798055654726835936:=trivial
def tw1093769357270214772:=trivial
def tw10313971357322521533:=trivial
def tw16915227811106270746:=trivial
def tw16797666997100425603:=trivial
def tw6513040567816445092:=trivial
def tw12942269126951963153:=trivial
def tw320847869783160779:=trivial
def tw2074313496009163921:=trivial
def tw3560693487985887956:=trivial
def tw9836715157874718185:=trivial
def tw4142766209352362125:=trivial
def tw4374016010107628039:=trivial
def tw497017225613133372:=trivial
def tw865381219058100985:=trivial
def tw2556631933429757542:=trivial
def tw3452215469197288436:=trivial
def tw9069967681923486492:=trivial
def tw15310088026699776525:=trivial
def tw6108487823744789450:=trivial
def tw5410778200280707196:=trivial
def tw17528913464646681286:=trivial
def tw11084145715561417331:=trivial
def tw4041528244528567867:=trivial
def tw1153483425763331703:=trivial
def tw9397433598548579321:=trivial
def tw2584209517442717907:=trivial
def tw18070323666265798395:=trivial
def tw17468131780278207749:=trivial
def tw15569439256210075121:=trivial
def tw259981869750551166:=trivial
def tw13309077115889151731:=trivial
def tw12565830351403189060:=trivial
def tw16164556461574022362:=trivial
def tw16315281292626435214:=trivial
def tw17354095743231464191:=trivial
def tw7141500831914630400:=trivial
def tw15842047473777916757:=trivial
def tw12653801378307798088:=trivial
def tw1511138959973262924:=trivial
def tw17159357053754699421:=trivial
def tw5679226086361762308:=trivial
def tw1954180062970111463:=trivial
def tw7042021953960250913:=trivial
def tw11649017496305138063:=trivial
def tw832165297629778199:=trivial
def tw13053222021249237594:=trivial
def tw13796250813564279819:=trivial
def tw1881896208036045160:=trivial
def tw9212825593197729539:=trivial
def tw11128130146576127582:=trivial
def tw14068916839886280395:=trivial
def tw2754564438531873267:=trivial
def tw3856267566957783007:=trivial
def tw4707501240009275336:=trivial
def tw5923679775713799948:=trivial
def tw8684071479302928673:=trivial
def tw13766437298502118729:=trivial
def tw15623470988832896078:=trivial
def tw11734756408743878617:=trivial
def tw10857135639160777076:=trivial
def tw16501939363616520347:=trivial
def tw152790680787664741:=trivial
def tw13456934430161418495:=trivial
def tw9266216597790932133:=trivial
def tw4533237335679767666:=trivial
def tw1511322550783483147:=trivial
def tw1526533448591216682:=trivial
def tw15585896915669655862:=trivial
def tw400603972490883781:=trivial
def tw6608123518402920160:=trivial
def tw3210490153747348029:=trivial
def tw13037132479680983247:=trivial
def tw12482091529195641882:=trivial
def tw2121267691699641129:=trivial
def tw16586508834378453333:=trivial
def tw6704369328308706868:=trivial
def tw13790268787582447340:=trivial
def tw3896709534319007165:=trivial
def tw16186603546618005945:=trivial
def tw1629945388830014687:=trivial
def tw8433111377228951834:=trivial
def tw17753557051514745503:=trivial
def tw17709176255368366022:=trivial
def tw1885732642646198348:=trivial
def tw8889847432371011808:=trivial
def tw8406099192216740655:=trivial
def tw2816476276422953731:=trivial
def tw5683913412524905025:=trivial
def tw12189759261709344056:=trivial
def tw11422018848041427597:=trivial
def tw1097183666562227205:=trivial
def tw11705506385259281802:=trivial
def tw11080834574157016006:=trivial
def tw841145424484992600:=trivial
def tw10130349772161296907:=trivial
def tw3639213804462041291:=trivial
def tw544509726980324243:=trivial
def tw11143839332155592524:=trivial
def tw2370674767981202422:=trivial
def tw3078673472883525955:=trivial
def tw17322319017297854076:=trivial
def tw16751813978805488628:=trivial
def tw16238144770929357837:=trivial
def tw13445385293587392756:=trivial
def tw7073648662506016713:=trivial
def tw478294802413073950:=trivial
def tw9528516664119609631:=trivial
def tw3106524856136431264:=trivial
def tw10643550376501669501:=trivial
def tw10742690403492506158:=trivial
def tw9130787764104803943:=trivial
def tw173824205380451294:=trivial
def tw10596120009335331146:=trivial
def tw7851105783805111697:=trivial
def tw11133938661022584931:=trivial
def tw4682565669294558411:=trivial
def tw4472643375484664333:=trivial
def tw11798793276463917339:=trivial
def tw6067008748149496031:=trivial
def tw15127749955806678720:=trivial
def tw15836668058281037746:=trivial
def tw2944249939335354393:=trivial
def tw1565901240636814088:=trivial
def tw11506932175391696950:=trivial
def tw5175475128913063171:=trivial
def tw15431633891479752885:=trivial
def tw3056011623346388552:=trivial
def tw7147668828415151120:=trivial
def tw6741286017358436735:=trivial
def tw1411616242688713588:=trivial
def tw1682415749113804576:=trivial
def tw12347126687369220268:=trivial
def tw9283416941200954915:=trivial
def tw3089569201847885420:=trivial
def tw606804814101119595:=trivial
def tw3075329104322845119:=trivial
def tw2620589913011075802:=trivial
def tw7358783320977424361:=trivial
def tw4538412023899011490:=trivial
def tw17817126722955718085:=trivial
def tw906767742695833667:=trivial
def tw4484511045544128423:=trivial
def tw4434015948858716085:=trivial
def tw10778765127204021826:=trivial
def tw9752467018400373589:=trivial
def tw16288345266094501236:=trivial
def tw6405381979341059739:=trivial
def tw9742147902520523001:=trivial
def tw17094589927146435696:=trivial
def tw9856257386380722833:=trivial
def tw9084372992906864865:=trivial
def tw7308688657278564247:=trivial
def tw1829467021283622746:=trivial
def tw7602208547004769537:=trivial
def tw9455038135416418293:=trivial
def tw4490833822971387403:=trivial
def tw2643950692910264080:=trivial
def tw5130461530192955447:=trivial
def tw497573663510267807:=trivial
def tw31452940815918437:=trivial
def tw15713182215315620137:=trivial
def tw5915492890799568304:=trivial
def tw1967797577368324423:=trivial
def tw2869796954445383426:=trivial
def tw10692688635488532302:=trivial
def tw15739205530585185055:=trivial
def tw10830652543197088781:=trivial
def tw16682353775541221826:=trivial
def tw1387731607817507109:=trivial
def tw1886607570721596273:=trivial
def tw16336835255951242317:=trivial
def tw11955818156647557124:=trivial
def tw6823342267657510047:=trivial
def tw5313208812205274763:=trivial
def tw14192499618645165193:=trivial
def tw16338034381800374330:=trivial
def tw14223757434807811219:=trivial
def tw4060669288481397214:=trivial
def tw6035385990789204797:=trivial
def tw3865541477334086519:=trivial
def tw2224080133191954245:=trivial
def tw6698417987499647615:=trivial
def tw8914646027819051042:=trivial
def tw1871484741151622212:=trivial
def tw4793523431630402955:=trivial
def tw11609542891331852854:=trivial
def tw13740706507062395445:=trivial
def tw12974677224924243948:=trivial
def tw3204554719621197400:=trivial
def tw15717452011830447352:=trivial
def tw6903396352599653612:=trivial
def tw8844937944649330745:=trivial
def tw16522274630094977423:=trivial
def tw755341829996562338:=trivial
def tw11910933686208437655:=trivial
def tw11798572332879538181:=trivial
def tw12294465325685986377:=trivial
def tw9191014167977534225:=trivial
def tw10153728519018552315:=trivial
def tw18304153022392164470:=trivial
def tw990770439374846890:=trivial
def tw14680723041970749973:=trivial
def tw11625497980323169492:=trivial
def tw15566049225371050826:=trivial
def tw6336922662540814007:=trivial
def tw10324402249913645596:=trivial
def tw14976104113698924351:=trivial
def tw2878265862413888009:=trivial
def tw15109810423437278447:=trivial
def tw2167187859644868579:=trivial
def tw17872653105145998799:=trivial
def tw16597561573729623186:=trivial
def tw14279752483464162503:=trivial
def tw12465116067300393679:=trivial
def tw14711230854759848861:=trivial
def tw15566430884556691173:=trivial
def tw4497158635359530205:=trivial
def tw6678837965722256137:=trivial
def tw14043390462516503955:=trivial
def tw12031895331632884867:=trivial
def tw7697654473604319026:=trivial
def tw3416191960067764670:=trivial
def tw12674631413169723949:=trivial
def tw17641321011997435969:=trivial
def tw1658838823714032874:=trivial
def tw2506202557279910329:=trivial
def tw1359202837061300942:=trivial
def tw2638971116627115334:=trivial
def tw16614128436653797986:=trivial
def tw13687554827660954634:=trivial
def tw15317975874849433666:=trivial
def tw4261974364713788561:=trivial
def tw10209847393599456950:=trivial
def tw4435639676607272964:=trivial
def tw12717843284817794171:=trivial
def tw5571683616360021644:=trivial
def tw1193065517064040232:=trivial
def tw9617878003550558688:=trivial
def tw7231634820975004180:=trivial
def tw8676344332067960611:=trivial
def tw8460175700112137460:=trivial
def tw4203005938477615122:=trivial
def tw3633295595933187513:=trivial
def tw645509727796143241:=trivial
def tw4084351607838121800:=trivial
def tw18015003748824937918:=trivial
def tw8373393604225394912:=trivial
def tw13257925218753884597:=trivial
def tw5605795607026344007:=trivial
def tw4075689451434548746:=trivial
def tw16588164296207478973:=trivial
def tw12807965352700700985:=trivial
def tw11817645885194979339:=trivial
def tw15454478742591231729:=trivial
def tw13845679597229151648:=trivial
def tw15684687816718151028:=trivial
def tw8300749866120059554:=trivial
def tw14033220088814115680:=trivial
def tw12233827171662401856:=trivial
def tw14127210272741260764:=trivial
def tw10649376804374579246:=trivial
def tw13046021939165644950:=trivial
def tw8528738139796540617:=trivial
def tw4465850816726009113:=trivial
def tw6773507030167825945:=trivial
def tw4893744899888664766:=trivial
def tw12269559253099964425:=trivial
def tw8186146443415641584:=trivial
def tw10863431130492981172:=trivial
def tw703083354003807818:=trivial
def tw17534395058558376045:=trivial
def tw6180677316566358865:=trivial
def tw4415251815307808310:=trivial
def tw8057809955643319703:=trivial
def tw224043302029506876:=trivial
def tw6271356496635770364:=trivial
def tw11931840204404621684:=trivial
def tw13231547972408451703:=trivial
def tw219824448701652017:=trivial
def tw3732457014734100653:=trivial
def tw5000436674187786596:=trivial
def tw11955099789611191522:=trivial
def tw11365165142914563098:=trivial
def tw9991362607091235316:=trivial
def tw11162263581657667037:=trivial
def tw5918404516958302099:=trivial
def tw12484618308748206665:=trivial
def tw12129992597467429997:=trivial
def tw10006369878428052524:=trivial
def tw18014816642825368320:=trivial
def tw15282170702710640725:=trivial
def tw6476225975967962442:=trivial
def tw16679903428968885429:=trivial
def tw7799869234605180082:=trivial
def tw4954556749527397936:=trivial
def tw3523272793997060924:=trivial
def tw7875243244589406704:=trivial
def tw12755363571099286677:=trivial
def tw12199898262160651931:=trivial
def tw13383476649471871018:=trivial
def tw6458894557898718701:=trivial
def tw9835068741729626269:=trivial
def tw4670162874533196905:=trivial
def tw6874466110517469881:=trivial
def tw14075909863624884064:=trivial
def tw10969650825172834898:=trivial
def tw6596976063721176153:=trivial
def tw14497781288430973554:=trivial
def tw10711225520883705095:=trivial
def tw13385167245856560750:=trivial
def tw7234017987066106201:=trivial
def tw11983868436316746858:=trivial
def tw10954946030963832483:=trivial
def tw11027791237066136360:=trivial
def tw8934934373532549312:=trivial
def tw16489876402027549338:=trivial
def tw14262151767389481197:=trivial
def tw12199407345786606682:=trivial
def tw2013036555761528043:=trivial
def tw7264268158808089291:=trivial
def tw9943801160782483825:=trivial
def tw7307799333819376661:=trivial
def tw10653555496570753775:=trivial
def tw10070506979113335604:=trivial
def tw10427161472424970897:=trivial
def tw16596020545780727803:=trivial
def tw1125390656590922215:=trivial
def tw1317769363307693273:=trivial
def tw4467701744798495000:=trivial
def tw9611445374598667379:=trivial
def tw14459004060517759942:=trivial
def tw5986627391088338164:=trivial
def tw16731924817666011751:=trivial
def tw16017088073043441654:=trivial
def tw3800890748309177546:=trivial
def tw4423530150040755071:=trivial
def tw6501695107238661892:=trivial
def tw276445889581890934:=trivial
def tw5945294449031659587:=trivial
def tw10932388532957194634:=trivial
def tw2929236145333009212:=trivial
def tw18006022586572350381:=trivial
def tw7574451970284879444:=trivial
def tw14964357457975562014:=trivial
def tw13476534954012078168:=trivial
def tw1257022898761578749:=trivial
def tw8676985471099449328:=trivial
def tw8027712604652640658:=trivial
def tw9937958718096982829:=trivial
def tw18283691055468626518:=trivial
def tw14249200561193069355:=trivial
def tw1367580147547814661:=trivial
def tw3824631747847119251:=trivial
def tw7701947014657089340:=trivial
def tw18416362134643400852:=trivial
def tw16328603348948866828:=trivial
def tw10650400688067513877:=trivial
def tw11354332110256595744:=trivial
def tw4922720332440294886:=trivial
def tw2579459612341724154:=trivial
def tw16578540530784528064:=trivial
def tw15776203445130405277:=trivial
def tw7234864468441952516:=trivial
def tw14322249580191922017:=trivial
def tw16019413129425940060:=trivial
def tw17524028409160514937:=trivial
def tw2941535933091842245:=trivial
def tw13557956019991589336:=trivial
def tw17176651938395259290:=trivial
def tw15082965543180548760:=trivial
def tw14464217263952285441:=trivial
def tw4322474301306816137:=trivial
def tw11387877691351994451:=trivial
def tw17211396628851278109:=trivial
def tw8791025905020006362:=trivial
def tw13810924544831605462:=trivial
def tw6145288476408482469:=trivial
def tw14730879685300592539:=trivial
def tw13150425915538586113:=trivial
def tw9503435894829376436:=trivial
def tw1448589366165478695:=trivial
def tw3503032366670053540:=trivial
def tw4032598795143669652:=trivial
def tw12493096744327264235:=trivial
def tw4389198864414954910:=trivial
def tw9378437713055927672:=trivial
def tw17019414281863758605:=trivial
def tw11705579647012825695:=trivial
def tw10212511346919832940:=trivial
def tw1150769197200167854:=trivial
def tw17086103514740246620:=trivial
def tw6345245333617380288:=trivial
def tw8838021481446490368:=trivial
def tw15125912060459227165:=trivial
def tw10253533494324334042:=trivial
def tw17416871623804569386:=trivial
def tw4361868281426199572:=trivial
def tw6440118032939932836:=trivial
def tw17438917048641495461:=trivial
def tw4602754677009259412:=trivial
def tw6818461525392027404:=trivial
def tw17469705378800523971:=trivial
def tw15552041796308496631:=trivial
def tw7750353857148860737:=trivial
def tw10828576536895122619:=trivial
def tw12072087007560970464:=trivial
def tw5336054501352112244:=trivial
def tw14359335767850765140:=trivial
def tw12224547575746500654:=trivial
def tw178748492336193583:=trivial
def tw276500279405791930:=trivial
def tw1794488971924942772:=trivial
def tw18182168333066156290:=trivial
def tw18149829626253035131:=trivial
def tw12125962322047295628:=trivial
def tw6468297637374353365:=trivial
def tw17234429235824755540:=trivial
def tw5811235623748355811:=trivial
def tw1083263056532512330:=trivial
def tw16424276484957158252:=trivial
def tw643340664465023588:=trivial
def tw14147283099818216715:=trivial
def tw13476378124058517343:=trivial
def tw4319962074779538836:=trivial
def tw9861888147615892615:=trivial
def tw17214589907635860005:=trivial
def tw17696389536672004538:=trivial
def tw12230877311779626845:=trivial
def tw9072424064368022466:=trivial
def tw7260473543072715191:=trivial
def tw14872424618021329068:=trivial
def tw3142545191498236972:=trivial
def tw5080013487854714080:=trivial
def tw17438393199834149564:=trivial
def tw3993329244150147368:=trivial
def tw2706270457678136502:=trivial
end PySem.W.Fast
set_option maxRecDepth 100000 in
set_option maxHeartbeats 0 in
theorem PySem.Challenge.cw_neverwait_k23_behind_handings_holds : PySem.Challenge.rw_neverwait_k23_behind_handings.Holds := by
 w_on; o_law; k_head; (case hw=>w_witness2)
 k_fill
 refine nN.walk (l:=PySem.Challenge.rw_neverwait_k23_behind_handings) (Pt:=_) rfl rfl (fun w h Y=>PySem.W.km_in_of Y) (fun w h Y=>PySem.W.km_tabs_of Y) ?cd ?kt ?F;case F =>
  intro w mg fa h KX G RC;refine' nN.PF (Pt:=_) KX G RC ?_ ?_ ?_ ?_ ?_ ?_ ?_ ?_ ?_ ?_ ?_ ?_ ?_ ?_ ?_ ?_ ?_ ?_ ?_ ?_ ?_ ?_ ?_ ?_ ?_ ?_ ?_ ?_ ?_ ?_ ?_ ?_ ?_ ?_ ?_ ?_ ?_ ?_ ?_ ?_ ?_ ?_ ?_ ?_ ?_ ?_ ?_ ?_ ?_ ?_ ?_ ?_ ?_ ?_ ?_ ?_ ?_ ?_ ?_ ?_ ?_ ?_ ?_ ?_ ?_ ?_ ?_ ?_ ?_ ?_ ?_ ?_ ?_ ?_ ?_ ?_ ?_ ?_ ?_ ?_ ?_ ?_ ?_ ?_ ?_ ?_ ?_ ?_ ?_ ?_ ?_ ?_ ?_ ?_ ?_ ?_ ?_ ?_ ?_ ?_;all_goals first
   | (refine' nN.FD.mk ?a ?l ?d ?k; (case a=>k_is); (case l=>k_is); (case d=>k_is); (case k=>k_is))
   | (refine' nN.FC.mk ?a ?l ?d ?k; (case a=>k_is); (case l=>k_is); (case d=>k_is); (case k=>k_is))
   | (refine' nN.MD.mk ?a ?i ?l ?d ?k; (case a=>k_is); (case i=>k_is); (case l=>k_is); (case d=>k_is); (case k=>k_is))
   | k_is
   | kernel_rfl
   | exact ⟨by kernel_rfl,by k_is,by k_is,by k_is,by k_is,by k_is,by k_is,by kernel_rfl⟩
   | skip
 case kt=>intro w; kernel_rfl
 case cd=>intro w; kernel_rfl
