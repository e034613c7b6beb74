import PyProof.Rows.All
import Wide.All
import OpenK.AllK
import Wide.FinOn
import Lean
import PyProof.EqAt
import PyProof.EqKinds
import PyProof.TupleCall
import PySem.Challenge.RW_neverwait_k26_whole_named_anew
set_option Elab.async false
set_option linter.all false
set_option maxRecDepth 100000
set_option maxHeartbeats 8000000
def aS:=@List.getD_eq_getElem?_getD
def aP:=@List.length_map
def bq:=@List.getElem?_eq_getElem
def aE:=@PySem.wpAny_bind
def cg:=@PySem.Heap.get?_push_of_some
def bN:=@List.getElem?_map
def du:=@List.mem_cons_of_mem
def cQ:=@Nat.lt_of_lt_of_le
def cE:=@List.length_range
def aD:=@if_pos
def aY:=@Nat.le_trans
def au:=@if_neg
def cj:=@List.getElem?_eq_none
def aW:=@Nat.le_refl
def cY:=@List.getElem?_eq_some_iff
def bQ:=@List.size_toArray
def bZ:=@List.mem_cons_self
def aJ:=@PyProof.Rows.wpS_bind
def bh:=@Nat.ne_of_lt
def bH:=@List.mem_range
def bn:=@List.mem_map
def bp:=@PySem.Heap.lt_size
def cn:=@List.length_append
def cC:=@List.mem_singleton
def bX:=@Option.some.inj
def bY:=@List.mem_append
def cZ:=@List.mem_of_getElem?
def cR:=@PySem.Heap.get?_push_size
def cJ:=@Bool.false_ne_true
def bW:=@List.mem_cons
def cp:=@PySem.boot_len
def c_:=@List.filter_cons
def cx:=@decide_eq_true
def cK:=@List.map_append
def dB:=@of_decide_eq_true
def cS:=@List.mem_filter
def a_:=@PyProof.Rows.wpS_pure
def dv:=@List.getElem_mem
def dH:=@List.append_assoc
def dC:=@List.length_cons
def di:=@decide_eq_false
def dN:=@Nat.lt_succ_of_lt
def cD:=@Int.ofNat.inj
def fW:=@List.length_filter_le
def cy:=@List.map_map
def fw:=@List.getElem?_range
def g9:=@PySem.F.plainAttrs_list
def fq:=@Nat.lt_of_le_of_lt
def ft:=@List.filter_append
def dO:=@PySem.PassesOwn.never
def fX:=@Array.toList_append
def fY:=@PySem.W.mg_none_of
def i6:=@List.getElem?_append_left
def fZ:=@List.take_add_one
def de:=@Nat.zero_le
def iz:=@List.mem_append_left
def gg:=@Bool.and_eq_true
def dU:=@getElem?_pos
def gy:=@PySem.Heap.get?_push_ne
def eJ:=@List.map_cons
def kn:=@List.getElem?_append_right
def jq:=@List.perm_append_comm
def jr:=@List.mem_append_right
def g_:=@List.length_take
def hG:=@List.all_eq_true
def eK:=@Int.zero_add
def iA:=@List.take_length
def iB:=@List.lookup_cons
def hU:=@List.nodup_cons
def hV:=@Bool.eq_iff_iff
def js:=@List.map_congr_left
def j3:=@List.mem_of_mem_take
def i7:=@List.ext_getElem?
def i8:=@Int.toNat_natCast
def mX:=@Array.perm_iff_toList_perm
def kq:=@List.length_singleton
def kr:=@List.length_replicate
def iP:=@PySem.Heap.size_update
def mY:=@Classical.byContradiction
def pZ:=@PyProof.Rows.boot_isinstance
def iQ:=@List.range_succ
def gC:=@PySem.wpAny_holding
def jt:=@List.pairwise_map
def mZ:=@PySem.F.type_list_append
def m6:=@PySem.F.slot_list_append
def lR:=@List.Perm.append_left
def m9:=@PyProof.Rows.boot_tuple
def gE:=@PyProof.Rows.wpS_forRange
def um:=@PyProof.Rows.slot_tuple_getitem
def rc:=@List.nodup_iff_pairwise_ne
def m_:=@List.length_take_le'
def j4:=@PySem.W.kia_one
def j5:=@List.length_set
def ku:=@decide_eq_decide
def ky:=@List.any_eq_true
def ng:=@beq_eq_false_iff_ne
def nh:=@List.replicate_succ
def p7:=@List.take_append_drop
def kA:=@Nat.not_lt_zero
def lS:=@List.nodup_range
def kB:=@List.mem_iff_getElem
def lZ:=@List.getElem?_replicate
def ig:=@PySem.Heap.size_push
def ii:=@Nat.lt_irrefl
def fN:=@PySem.wpAny_field
def kC:=@PySem.mem_of_lookup
def kD:=@Int.toNat_of_nonneg
def oE:=@List.drop_eq_getElem_cons
def kE:=@PySem.Heap.get?_update_ne
def fP:=@beq_iff_eq
def kF:=@PySem.F.called_set
def jC:=@Nat.mod_eq_of_lt
def jD:=@Nat.lt_succ_self
def kG:=@Bool.false_eq_true
def l0:=@Array.length_toList
def oF:=@PyProof.Rows.boot_list
def oG:=@List.range_succ_eq_map
def kH:=@PySem.wpAny_truthy_bool
def kI:=@PySem.wpAny_newObj_type
def oH:=@PySem.wpAny_callSpecial?_slot
def kJ:=@List.not_mem_nil
def kK:=@List.countP_cons
def l6:=@decide_eq_true_iff
def jE:=@List.nodup_nil
def l7:=@List.mem_filterMap
def jF:=@Array.size_map
def oI:=@Array.getElem?_toList
def kL:=@Nat.div_add_mod
def jG:=@PySem.wpAny_seqItems
def jh:=@Nat.sub_self
def l8:=@List.nodup_append
def oJ:=@List.mem_of_mem_drop
def oK:=@Bool.and_eq_true_iff
def eC:=@PyProof.Rows.wpS_mono
def jH:=@List.cons.inj
def jI:=@List.all_cons
def rd:=@decide_eq_false_iff_not
def fQ:=@Prod.ext
def l9:=@List.length_drop
def oM:=@PySem.Heap.get?_none_of_le
def ij:=@PySem.wpAny_rule
def re:=@Option.map_eq_some_iff
def jJ:=@Nat.ne_of_gt
def rf:=@List.take_of_length_le
def rh:=@List.getElem?_set_self
def oN:=@Int.emod_lt_of_pos
def l_:=@PySem.wpAny_call_entry
def kM:=@PySem.W.mg_of
def kN:=@List.any_cons
def rj:=@PyProof.Rows.boot_max
def rk:=@Nat.le_of_ble_eq_true
def ik:=@PyProof.Rows.wpS_modify
def vc:=@PyProof.Rows.callWith_type1
def oO:=@List.getElem?_set
def oQ:=@Array.toList_push
def vd:=@Array.getD_eq_getD_getElem?
def rl:=@PySem.wpAny_pyNext_list_item
def md:=@PySem.wpAny_passesOwn
def gN:=@if_false
def ji:=@Nat.mod_lt
def rm:=@List.getElem?_set_ne
def ve:=@List.findSome?_eq_none_iff
def me:=@List.Perm.refl
def kO:=@Nat.le_of_lt
def oR:=@PySem.wpAny_pyIter_list
def ze:=@PyProof.Rows.F.plain_set_update_loop
def rn:=@List.getElem_of_mem
def iR:=@PyProof.Rows.size_push'
def vf:=@Option.isSome_iff_exists
def oT:=@ne_of_beq_false
def oU:=@Option.map_some
def oW:=@List.find?_cons
def oX:=@List.filter_map
def oY:=@Int.emod_nonneg
def rp:=@List.pairwise_cons
def mf:=@PySem.wpAny_standAt
def rq:=@decide_eq_true_eq
def mh:=@Nat.lt_or_ge
def rA:=@List.take_sublist
def rB:=@List.flatten_cons
def vg:=@List.filter_eq_nil_iff
def rC:=@Bool.eq_false_iff
def vh:=@Array.toList_filterMap
def oZ:=@PySem.codeAny_builtin
def rD:=@PySem.wpAny_setField_rec
def rE:=@PySem.wpAny_Call_Name_kw
def jK:=@PySem.call_meets
def kP:=@PySem.sizeLine_eq
def vi:=@Nat.eq_of_beq_eq_true
def rF:=@List.getElem_map
def im:=@Ne.symm
def o0:=@List.map_take
def mi:=@List.map_id
def rG:=@List.of_mem_zip
def rH:=@List.append_nil
def rJ:=@List.Perm.of_eq
def rK:=@Bool.or_eq_true
def vj:=@PySem.wpAny_pyNext_list_end
def vk:=@PySem.W.hideAll_get
def vo:=@Nat.mul_le_mul_left
def vp:=@List.length_take_le
def vq:=@List.filter_sublist
def o3:=@Nat.succ.inj
def o4:=@Nat.le_of_eq
def zf:=@Int.fmod_eq_emod_of_nonneg
def vt:=@PySem.Around.under_plainId
def zg:=@Array.getElem?_eq_getElem
def jj:=@if_true
def vv:=@List.filter_congr
def o5:=@PySem.codeAny_mono
def zh:=@PySem.F.type_list_extend
def zi:=@PySem.F.slot_list_extend
def zj:=@PySem.F.args_tuple_add_2
def zk:=@PyProof.Rows.boot_sorted
def mj:=@PySem.wpAny_mono
def kQ:=@or_false
def zm:=@PySem.F.entry_tuple_add
def vw:=@Option.getD_some
def vx:=@Nat.le_add_right
def vy:=@List.getElem_inj
def vz:=@Array.toList_map
def zn:=@PySem.F.slot_tuple_add
def zo:=@Option.map_eq_none_iff
def rL:=@Nat.succ_pos
def rM:=@Nat.lt_trans
def zq:=@Nat.div_div_eq_div_mul
def zu:=@List.length_pos_of_mem
def zw:=@List.Perm.append_right
def vA:=@PySem.wpAny_setState_of
def rN:=@PyProof.Rows.get?_update_seq
def vB:=@Nat.min_eq_left
def vC:=@List.forIn_cons
def vD:=@List.foldl_cons
def vE:=@List.count_cons
def zx:=@PySem.F.type_list_pop
def zy:=@PySem.F.slot_list_pop
def iS:=@PyProof.Rows.wpS_get
def rO:=@Nat.mul_pos
def vF:=@List.forIn_nil
def zA:=@Array.toList_reverse
def zB:=@Array.toList_extract
def rP:=@PySem.wpAny_typeOf
def o9:=@PySem.wpAny_Name
def zC:=@PySem.W.plainGet_of
def Fc:=@PyProof.Rows.F.entry_set_update_loop
def zD:=@List.filterMap_cons
def zE:=@PySem.Heap.get?_update_other
def vG:=@PySem.wpAny_execs_nil
def vH:=@Bool.not_true
def vI:=@Bool.and_true
def zF:=@PySem.W.callWith_K
def zG:=@Option.toList_some
def zH:=@Option.isSome_some
def zI:=@Nat.eq_zero_or_pos
def zJ:=@List.map_replicate
def zK:=@List.getElem_range
def zL:=@List.find?_eq_none
def zM:=@PySem.Heap.get?_update_self
def zN:=@PySem.wpAny_loadName_local
def zO:=@PySem.codeAny_call_builtin
def vJ:=@Nat.zero_add
def vK:=@Nat.succ_mul
def vL:=@Nat.beq_refl
def vM:=@Nat.add_zero
def zP:=@List.reverse_perm
def zQ:=@List.countP_congr
def zR:=@List.any_eq_false
def vN:=@List.all_map
def zS:=@PySem.Calls.evalArgs_plain
def zU:=@Bool.not_eq_true'
def Fd:=@List.eraseIdxIfInBounds_toArray
def zV:=@PySem.wpAny_loadName_free
def zW:=@List.zipIdx_cons
def zX:=@List.mem_flatMap
def zY:=@List.ext_getElem
def vO:=@PySem.wpAny_attempt
def vP:=@Nat.mul_one
def Fe:=@Int.mul_le_mul_of_nonneg_left
def zZ:=@PySem.wpAny_pyIter_tuple
def z0:=@PySem.SeqAt.notIn_listAt
def z6:=@List.countP_map
def Ff:=@PySem.F.typeOf_object_class
def z7:=@PySem.wpAny_loadPart_at
def Fg:=@PySem.F.excBase_ValueError
def Fh:=@Nat.mul_lt_mul_of_pos_left
def z8:=@Nat.mul_le_mul
def z9:=@List.drop_zero
def Fj:=@Int.fdiv_eq_ediv_of_nonneg
def z_:=@Bool.and_false
def Fk:=@Array.toList_setIfInBounds
def Fl:=@Array.getElem?_eq_some_iff
def mn:=@PyProof.Rows.wpS_lift
def Fm:=@List.pairwise_iff_getElem
def Aa:=@PySem.wpAny_eqBool_int
def Ab:=@PySem.noFill_tuple_add
def Fn:=@List.length_erase_of_mem
def Fp:=@List.idxOf_lt_length_iff
def Fq:=@List.filterMap_cons_some
def Ac:=@Bool.true_and
namespace L2
open PySem PySem.Spec PyProof.Rows
abbrev iC:=Sum Int Str
def uo:iC->Value->Bool
 |.inl k,v=>Value.isInt k v
 |.inr x,v=>Value.isStrOf x v
def X4(w:World):iC->Int
 |.inl k=>hashInt k
 |.inr x=>hashStr w x
theorem dD:∀ {k:iC} {v:Value},uo k v=true->(∃i t,k=Sum.inl i/\v=Value.int i t)\/(∃x t,k=Sum.inr x/\v=Value.str x t)
 |.inl i,v,h=>by
  obtain⟨t,e⟩:=Value.isInt_shape (k:=i) (v:=v) h;exact .inl ⟨i,t,rfl,e⟩
 |.inr x,v,h=>by
  obtain⟨t,e⟩:=Value.isStrOf_shape (x:=x) (v:=v) h;exact .inr ⟨x,t,rfl,e⟩
theorem Dn(i:Int)(t:Tok):uo (.inl i) (.int i t)=true:=by simp[uo,Value.isInt]
theorem Do(x:Str)(t:Tok):uo (.inr x) (.str x t)=true:=by simp[uo,Value.isStrOf]
theorem N9(a b:Int):decide ((Sum.inl a:iC)=Sum.inl b)=(a==b):=by
 by_cases e:a=b
 .subst e;simp
 .have h:¬ (Sum.inl a:iC)=Sum.inl b:=fun q=>e (Sum.inl.inj q);rw[di h];exact(ng.mpr e).symm
theorem N_(a b:Str):decide ((Sum.inr a:iC)=Sum.inr b)=decide (a=b):=by
 by_cases e:a=b
 .subst e;simp
 .have h:¬ (Sum.inr a:iC)=Sum.inr b:=fun q=>e (Sum.inr.inj q);rw[di h,di e]
theorem Oa(a:Int)(b:Str):decide ((Sum.inl a:iC)=Sum.inr b)=false:=di (fun q=>nomatch q)
theorem Ob(a:Str)(b:Int):decide ((Sum.inr a:iC)=Sum.inl b)=false:=di (fun q=>nomatch q)
def cq(prog:Program)(w:World):PySem.KeyKind prog w iC where
 is:=uo
 hash:=X4 w
 inj:=fun v a b ha hb=>by
  rcases dD ha with ⟨i,t,rfl,rfl⟩|⟨x,t,rfl,rfl⟩
  .rcases dD hb with ⟨j,u,rfl,e⟩|⟨y,u,rfl,e⟩
   .injection e with e1 _;rw[e1]
   .exact nomatch e
  .rcases dD hb with ⟨j,u,rfl,e⟩|⟨y,u,rfl,e⟩
   .exact nomatch e
   .injection e with e1 _;rw[e1]
 byValue:=fun k v h=>by
  rcases dD h with ⟨i,t,rfl,rfl⟩|⟨x,t,rfl,rfl⟩ <;> rfl
 pyHash:=fun hv h=>by
  rcases dD hv with ⟨i,t,rfl,rfl⟩|⟨x,t,rfl,rfl⟩
  .exact wpAny_pyHash_int h
  .exact wpAny_pyHash_str h
 eqBool:=fun hu hv h=>by
  rcases dD hu with ⟨i,t,rfl,rfl⟩|⟨x,t,rfl,rfl⟩
  .rcases dD hv with ⟨j,u,rfl,rfl⟩|⟨y,u,rfl,rfl⟩
   .rw[N9] at h;exact Aa h
   .rw[Oa] at h;exact SeqAt.EqAt.int_str i t y u _ _ _ _ h
  .rcases dD hv with ⟨j,u,rfl,rfl⟩|⟨y,u,rfl,rfl⟩
   .rw[Ob] at h;exact SeqAt.EqAt.str_int x t j u _ _ _ _ h
   .rw[N_] at h;exact wpAny_eqBool_str h
 «strs»:=fun k x t v h=>by
  rcases dD h with ⟨i,u,rfl,e⟩|⟨y,u,rfl,e⟩
  .exact nomatch e
  .injection e with e1 _
   subst e1
   cases v <;> rfl
theorem xw(prog:Program)(w:World)(i:Int)(t:Tok):(cq prog w).is (.inl i) (.int i t)=true:=Dn i t
theorem xx(prog:Program)(w:World)(x:Str)(t:Tok):(cq prog w).is (.inr x) (.str x t)=true:=Do x t
inductive V where
 |bz|bl (b:Bool)|int (i:Int)|str (x:Str)|EU (b:Array UInt8)|Oc (b:UInt64)|ref (a:Addr)|ty (n:String)
 deriving DecidableEq
def b8:V->Value->Prop
 |.bz,u=>u=Value.none
 |.bl b,u=>u=Value.bool b
 |.int i,u=>∃t,u=Value.int i t
 |.str x,u=>∃t,u=Value.str x t
 |.EU b,u=>∃t,u=Value.bytes b t
 |.Oc b,u=>∃t,u=Value.float b t
 |.ref a,u=>u=Value.ref a
 |.ty n,u=>u=Value.type n
abbrev bg:List V->List Value->Prop:=Paired b8
theorem bg.length(r:bg xs us):xs.length=us.length:=Paired.length r
theorem bg.get:∀ {xs:List V} {us:List Value} {i:Nat} {x:V},bg xs us->xs[i]?=some x->∃u,us[i]?=some u/\b8 x u
 |_,_,_,_,.nil,e=>by simp at e
 |_,_,0,_,.cons r _,e=>by simp at e;subst e;exact⟨_,rfl,r⟩
 |_,_,i+1,x,.cons _ t,e=>by
  obtain⟨u,h1,h2⟩:=bg.get (i:=i) (x:=x) t (by simpa using e);exact⟨u,by simpa using h1,h2⟩
theorem bg.set(r:b8 x u):∀ {xs:List V} {us:List Value} (i:Nat),bg xs us->bg (xs.set i x) (us.set i u)
 |_,_,_,.nil=>.nil
 |_,_,0,.cons _ t=>.cons r t
 |_,_,i+1,.cons q t=>.cons q (bg.set r i t)
theorem bg.append:∀ {xs ys:List V} {us ws:List Value},bg xs us->bg ys ws->bg (xs++ys) (us++ws)
 |_,_,_,_,.nil,s=>s
 |_,_,_,_,.cons r t,s=>.cons r (bg.append t s)
theorem bg.take:∀ {xs:List V} {us:List Value} (n:Nat),bg xs us->bg (xs.take n) (us.take n)
 |_,_,0,_=>.nil
 |_,_,_+1,.nil=>.nil
 |_,_,n+1,.cons r t=>.cons r (bg.take n t)
theorem bg.drop:∀ {xs:List V} {us:List Value} (n:Nat),bg xs us->bg (xs.drop n) (us.drop n)
 |_,_,0,r=>r
 |_,_,_+1,.nil=>.nil
 |_,_,n+1,.cons _ t=>bg.drop n t
def ni:Option V->Option Value->Prop
 |some v,some u=>b8 v u
 |none,none=>True
 |_,_=>False
def KV{κ:Type}:List (κ×V)->List (κ×Value)->Prop:=Paired fun (p:κ×V) (q:κ×Value)=>p.1=q.1/\b8 p.2 q.2
def kV:iC->V
 |.inl i=>.int i
 |.inr x=>.str x
inductive HO where
 |lst (xs:List V)
 |tup (xs:List V)
 |dK (df:List (iC×V))|dT (df:List (List iC×V))
 |set (S:Int->Bool) (n:Nat)
 |ins (C dx:Addr) (fs:List (Str×V))
 |own (x:Addr)
 |xd (fs:List (Str×V))
 |met (f x:Addr)
 |JM (lo hi:Int)
 |tV (o:Obj) (u:HO)
 |qu (ps:Array Value)
 |ext (φ:Heap->Prop)
abbrev Hp:=Addr->Option HO
def upd(H:Hp)(a:Addr)(o:HO):Hp:=fun b=>if b=a then some o else H b
theorem af:upd H a o a=some o:=by unfold upd;rw[aD rfl]
theorem ao(h:b≠a):upd H a o b=H b:=by unfold upd;rw[au h]
theorem lz:upd (upd H a o) a u=upd H a u:=by
 funext b;unfold upd;split <;> rfl
theorem gG{H:Hp}{a b:Addr}{o u:HO}(h:H a=some o)(h':H b=some u)(d:o≠u):a≠b:=by
 intro e;subst e;rw[h] at h';exact d (bX h')
theorem ap{H:Hp}{a b:Addr}{o:HO}(h:H a=some o)(h':H b=none):a≠b:=by
 intro e;subst e;rw[h] at h';cases h'
section
variable (P:Program) (w:World)
def kR(h:Heap)(a:Addr)(items:Array Value):Prop:=∃o,h.get? a=some o/\o.cls=.type "tuple"/\∃n,o.data=.seq items n/\o.dict=none
theorem kR.tup(p:kR h a items):IsTup h a items:=let ⟨o,e,c,n,d,_⟩:=p;⟨o,e,c,n,d⟩
theorem kR.new(h:Heap)(items:Array Value):kR (h.push { cls:=.type "tuple",data:=.seq items }) h.objs.size items:=⟨_,cR _ rfl,rfl,_,rfl,rfl⟩
def cF(H:Hp)(h:Heap)(a:Addr):HO->Prop
 |.lst xs=>xs.length<=sizeLine/\∃ (its:List Value) (n:Nat),bg xs its/\h.get? a=some { cls:=.type "list",data:=.seq its.toArray n }
 |.tup xs=>xs.length<=sizeLine/\∃its:List Value,bg xs its/\kR h a its.toArray
 |.dK df=>df.length<=sizeLine/\(a==sysModules)=false/\∃vs,KV df vs/\h.DictOf (cq P w) a vs
 |.dT df=>df.length<=sizeLine/\(a==sysModules)=false/\∃xs:List (List iC×Addr×Value),
   Paired (fun (p:List iC×V) (q:List iC×Addr×Value)=>p.1=q.1/\H q.2.1=some (.tup (p.1.map kV))/\b8 p.2 q.2.2) df xs/\
   ∃o es ep,h.get? a=some o/\o.ExactDict/\o.data=.dict es ep/\es.toList=xs.map (entryOfKey (tupleKind (cq P w)))/\(xs.map (·.1)).Nodup
 |.set S n=>h.SetOf (intKind P w) a S n
 |.ins C dx fs=>H dx=some (.own a)/\fs.length<=1000/\dx≠a/\h.get? a=some (PySem.W.instObj C dx)/\
   ∃mA,h.Ns1 dx mA/\(∀f,ni (fs.lookup f) (mA f))/\PySem.Within mA (fs.map (·.1))
 |.own _=>∃o,h.get? a=some o
 |.xd fs=>∃mA,h.Ns1 a mA/\∀f,ni (fs.lookup f) (mA f)
 |.JM lo hi=>∃t u v,h.get? a=some { cls:=.type "range",data:=.fields #[.int lo t,.int hi u,.int 1 v] }
 |.tV o u=>h.get? a=some o/\cF H h a u
 |.qu ps=>h.get? a=some { cls:=.none,data:=.fields ps }
 |.met f x=>h.get? a=some (PySem.W.methodObj (.ref f) (.ref x))
 |.ext φ=>φ h/\(∃o,h.get? a=some o)/\∀h1 h2:Heap,φ h1->(∀o,h1.get? a=some o->h2.get? a=some o)->φ h2
def lA(H:Hp)(h:Heap):Prop:=∀a o,H a=some o->cF P w H h a o
end
section
variable {P:Program} {w:World} {H H':Hp} {h h':Heap} {a:Addr} {o:HO}
theorem cF.lt(x:cF P w H h a o):a<h.objs.size:=by
 cases o with
 |lst xs=>obtain⟨_,_,_,_,e⟩:=x;exact bp e
 |tup xs=>obtain⟨_,_,_,p⟩:=x;exact p.tup.lt
 |dK df=>obtain⟨_,_,_,_,o,_,_,e,_⟩:=x;exact bp e
 |dT df=>obtain⟨_,_,_,_,o,_,_,e,_⟩:=x;exact bp e
 |set S n=>obtain⟨o,_,_,_,e,_⟩:=x;exact bp e
 |ins C dx fs=>obtain⟨_,_,_,e,_⟩:=x;exact bp e
 |own y=>obtain⟨_,e⟩:=x;exact bp e
 |xd fs=>obtain⟨_,⟨_,_,_,e,_⟩,_⟩:=x;exact bp e
 |JM lo hi=>obtain⟨_,_,_,e⟩:=x;exact bp e
 |tV ob u=>obtain⟨e,_⟩:=x;exact bp e
 |qu ps=>exact bp (show h.get? a=some _ from x)
 |met f y=>exact bp (show h.get? a=some _ from x)
 |ext φ=>obtain⟨_,⟨_,e⟩,_⟩:=x;exact bp e
theorem Paired.Od:∀ {l₁:List α} {l₂:List β},Paired F l₁ l₂->(∀a b,F a b->G a b)->Paired G l₁ l₂
 |_,_,.nil,_=>.nil
 |_,_,.cons r t,f=>.cons (f _ _ r) (Paired.Od t f)
theorem cF.rQ(x:cF P w H h a o)(k:∀b u,(b=a\/H b=some (.own a))->h.get? b=some u->h'.get? b=some u)(ho:∀b,H b=some (.own a)->H' b=some (.own a))(ht:∀b xs,H b=some (.tup xs)->H' b=some (.tup xs)):cF P w H' h' a o:=by
 induction o with
 |lst xs=>obtain⟨z,its,n,r,e⟩:=x;exact⟨z,its,n,r,k _ _ (.inl rfl) e⟩
 |tup xs=>obtain⟨z,its,r,ob,e,c⟩:=x;exact⟨z,its,r,ob,k _ _ (.inl rfl) e,c⟩
 |dK df=>obtain⟨z,y,vs,r,ob,es,ep,e,c⟩:=x;exact⟨z,y,vs,r,ob,es,ep,k _ _ (.inl rfl) e,c⟩
 |dT df=>
  obtain⟨z,y,xs,r,ob,es,ep,e,c⟩:=x;exact⟨z,y,xs,Paired.Od r fun p q z=>⟨z.1,ht _ _ z.2.1,z.2.2⟩,ob,es,ep,k _ _ (.inl rfl) e,c⟩
 |set S n=>obtain⟨ob,es,ep,t,e,c⟩:=x;exact⟨ob,es,ep,t,k _ _ (.inl rfl) e,c⟩
 |ins C dx fs=>
  obtain⟨d,z,ne,e,mA,⟨od,es,ep,e2,c⟩,r⟩:=x;exact⟨ho _ d,z,ne,k _ _ (.inl rfl) e,mA,⟨od,es,ep,k _ _ (.inr d) e2,c⟩,r⟩
 |own y=>obtain⟨ob,e⟩:=x;exact⟨ob,k _ _ (.inl rfl) e⟩
 |xd fs=>obtain⟨mA,⟨od,es,ep,e,c⟩,r⟩:=x;exact⟨mA,⟨od,es,ep,k _ _ (.inl rfl) e,c⟩,r⟩
 |JM lo hi=>obtain⟨t,u,v,e⟩:=x;exact⟨t,u,v,k _ _ (.inl rfl) e⟩
 |tV ob u ih=>obtain⟨e,q⟩:=x;exact⟨k _ _ (.inl rfl) e,ih q⟩
 |qu ps=>
  have e:h.get? a=some { cls:=.none,data:=.fields ps }:=x;show h'.get? a=some { cls:=.none,data:=.fields ps };exact k a _ (.inl rfl) e
 |met f y=>
  have e:h.get? a=some (PySem.W.methodObj (.ref f) (.ref y)):=x;show h'.get? a=some (PySem.W.methodObj (.ref f) (.ref y));exact k a _ (.inl rfl) e
 |ext φ=>obtain⟨p,⟨o,e⟩,st⟩:=x;exact⟨st _ _ p fun o q=>k _ _ (.inl rfl) q,⟨o,k _ _ (.inl rfl) e⟩,st⟩
theorem lA.lt(x:lA P w H h)(e:H a=some o):a<h.objs.size:=(x a o e).lt
theorem lA.fresh(x:lA P w H h)(e:h.objs.size<=a):H a=none:=by
 cases q:H a with
 |none=>rfl
 |some u=>exact absurd (cQ (x.lt q) e) (ii _)
theorem lA.kept(x:lA P w H h)(k:∀b u,h.get? b=some u->h'.get? b=some u):lA P w H h':=fun a o e=>
 (x a o e).rQ (fun b u _ q=>k b u q) (fun _ q=>q) fun _ _ q=>q
theorem lA.laid(x:lA P w H h)(k:∀b u,h.get? b=some u->h'.get? b=some u)(hp:h.objs.size<=a)(new:cF P w (upd H a o) h' a o):lA P w (upd H a o) h':=fun b u e=>by
 have hn:=x.fresh hp;by_cases hb:b=a
 .subst hb;rw[af] at e;cases e;exact new
 .rw[ao hb] at e;exact(x b u e).rQ (fun c v _ q=>k c v q) (fun c q=>by rw[ao (ap q hn)];exact q) fun c xs q=>by rw[ao (ap q hn)];exact q
end
def Rd(H:Hp)(a:Addr)(u:HO):Prop:=H a=some u\/∃o,H a=some (.tV o u)
theorem Rd.ok(r:Rd H a u)(x:lA P w H h):cF P w H h a u:=by
 rcases r with r|⟨o,r⟩
 .exact x a u r
 .obtain⟨_,q⟩:=x a _ r;exact q
def WV:Option HO->Prop
 |some (.lst _)=>True
 |some (.dK _)=>True
 |some (.dT _)=>True
 |some (.set _ _)=>True
 |some (.ins _ _ _)=>True
 |some (.ext _)=>True
 |_=>False
section
variable {P:Program} {w:World} {H:Hp} {h h':Heap} {x e:Addr} {o':HO}
theorem lA.write(ok:lA P w H h)(mu:WV (H x))(he:e=x\/H e=some (.own x))(k:∀b u,b≠e->h.get? b=some u->h'.get? b=some u)(RE:∃u,h'.get? e=some u)(new:cF P w (upd H x o') h' x o'):lA P w (upd H x o') h':=fun b u q=>by
 have SE:∀c y,H c=some (.own y)->c≠x:=fun c y r z=>by subst z;rw[r] at mu;exact mu
 have X5:∀c xs,H c=some (.tup xs)->c≠x:=fun c xs r z=>by subst z;rw[r] at mu;exact mu
 by_cases hb:b=x
 .subst hb;rw[af] at q;cases q;exact new
 .rw[ao hb] at q;by_cases Js:b=e
  .have q':H b=some (.own x):=by
    rcases he with z|z
    .exact absurd (Js.trans z) hb
    .rw[Js];exact z
   rw[q] at q';cases q';obtain⟨v,hv⟩:=RE;exact⟨v,by rw[Js];exact hv⟩
  .refine(ok b u q).rQ (fun c v hc r=>k c v ?_ r) (fun c r=>by rw[ao (SE c b r)];exact r) fun c xs r=>by rw[ao (X5 c xs r)];exact r
   rcases hc with rfl|hc
   .exact Js
   .rintro rfl;rcases he with z|z
    .exact SE c b hc z
    .rw[hc] at z;cases z;exact hb rfl
end
structure Un(fs ex:List Addr)(H H':Hp)(h h':Heap):Prop where
 keep:∀b o,h.get? b=some o->H b=none->b∉fs->b∉ex->h'.get? b=some o
 slot:∀b o,h.get? b=some o->H b=none->b∈fs->b∉ex->∃sl,h'.get? b=some { o with slots:=sl }
 free:∀b o,h.get? b=some o->H b=none->b∉ex->H' b=none
 there:∀b o,h.get? b=some o->b∉ex->∃o',h'.get? b=some o'
 o_:∀b xs,H b=some (.tup xs)->H' b=some (.tup xs)
 rR:∀b o u,H b=some (.tV o u)->H' b=some (.tV o u)
 rS:∀b ps,H b=some (.qu ps)->∃more,H' b=some (.qu (ps++more))
section
variable {fs Fs ex ex':List Addr} {H H1 H2:Hp} {h h1 h2 h':Heap} {a x e:Addr} {o:HO}
theorem Un.any(u:Un fs ex H H1 h h1)(q:h.get? b=some ob)(n:H b=none)(hx:b∉ex):∃sl,h1.get? b=some { ob with slots:=sl }:=by
 by_cases hb:b∈fs
 .exact u.slot b ob q n hb hx
 .exact⟨ob.slots,u.keep b ob q n hb hx⟩
theorem Un.kept(k:∀b u,h.get? b=some u->h'.get? b=some u):Un fs ex H H h h':=
 ⟨fun b ob q _ _ _=>k b ob q,fun b ob q _ _ _=>⟨ob.slots,k b ob q⟩,fun _ _ _ n _=>n,fun b ob q _=>⟨ob,k b ob q⟩,fun _ _ q=>q,fun _ _ _ q=>q,fun _ ps q=>⟨#[],by rw[q];simp⟩⟩
theorem Un.refl:Un fs ex H H h h:=Un.kept fun _ _ q=>q
theorem Un.laid(k:∀b u,h.get? b=some u->h'.get? b=some u)(hp:h.objs.size<=a)(hn:H a=none):Un fs ex H (upd H a o) h h' where
 keep:=fun b u q _ _ _=>k b u q
 slot:=fun b u q _ _ _=>⟨u.slots,k b u q⟩
 free:=fun b u q n _=>by rw[ao (bh (cQ (bp q) hp))];exact n
 there:=fun b u q _=>⟨u,k b u q⟩
 o_:=fun b xs q=>by rw[ao (ap q hn)];exact q
 rR:=fun b u xs q=>by rw[ao (ap q hn)];exact q
 rS:=fun b ps q=>⟨#[],by rw[ao (ap q hn),q];simp⟩
theorem Un.write(mu:WV (H x))(he:e=x\/H e=some (.own x))(k:∀b u,b≠e->h.get? b=some u->h'.get? b=some u)(RE:∃u,h'.get? e=some u):Un fs ex H (upd H x o) h h':=by
 have hx:∀b,H b=none->b≠x:=fun b n z=>by subst z;rw[n] at mu;exact mu
 have hb:∀b,H b=none->b≠e:=fun b n z=>by
  subst z;rcases he with r|r
  .exact hx b n r
  .rw[n] at r;cases r
 have hm:∀b u,H b=some u->¬ WV (some u)->b≠x:=fun b u q nm z=>by subst z;rw[q] at mu;exact nm mu
 refine⟨fun b u q n _ _=>k b u (hb b n) q,fun b u q n _ _=>⟨u.slots,k b u (hb b n) q⟩,fun b u q n _=>by rw[ao (hx b n)];exact n,fun b u q _=>?_,
  fun b xs q=>by rw[ao (hm b _ q fun z=>z)];exact q,fun b u xs q=>by rw[ao (hm b _ q fun z=>z)];exact q,fun b ps q=>⟨#[],by rw[ao (hm b _ q fun z=>z),q];simp⟩⟩
 by_cases Js:b=e
 .subst Js;exact RE
 .exact⟨u,k b u Js q⟩
end
def WW(h:Heap)(H:Hp):List Addr:=(List.range h.objs.size).filter fun a=>(H a).isSome
def tY(h:Heap)(H:Hp):Heap:=PySem.W.hideAll h (WW h H)
theorem Dp(h:Heap)(H:Hp):(tY h H).objs.size=h.objs.size:=PySem.W.hideAll_size _ _
theorem Ft(e:h.get? b=some o)(n:H b=none):(tY h H).get? b=some o:=
 vk _ e fun hm=>by
  have q:(H b).isSome=true:=(cS.mp hm).2;rw[n] at q;simp at q
theorem JN(e:(tY h H).get? b=some o):h.get? b=some o/\H b=none:=by
 have e':h.get? b=some o:=PySem.W.of_hideAll (WW h H) e;refine⟨e',?_⟩;cases q:H b with
 |none=>rfl
 |some x=>
  have hm:b∈WW h H:=cS.mpr ⟨bH.mpr (bp e'),by simp[q]⟩;have z:(tY h H).get? b=none:=PySem.W.hideAll_none (WW h H) hm;rw[z] at e;cases e
def jL(g h:Heap)(L:Addr):List (Addr×Obj):=(List.range h.objs.size).filterMap fun a=>if a=L\/(g.get? a).isSome=true then none else (h.get? a).map fun o=>(a,o)
theorem kS(h1:a≠L)(h2:g.get? a=none)(h3:h.get? a=some o):(a,o)∈jL g h L:=
 l7.mpr ⟨a,bH.mpr (bp h3),by simp[h1,h2,h3]⟩
theorem rT(hp:p∈jL g h L):p.1≠L/\g.get? p.1=none/\h.get? p.1=some p.2:=by
 obtain⟨b,_,e⟩:=l7.mp hp;split at e
 .cases e
 .rename_i hn;cases q:h.get? b with
  |none=>rw[q] at e;simp at e
  |some u=>
   rw[q] at e;simp only[oU,Option.some.injEq] at e;subst e;refine⟨fun z=>hn (.inl z),?_,q⟩;show g.get? b=none;cases r:g.get? b with
   |none=>rfl
   |some v=>exact(hn (.inr (by simp[r]))).elim
theorem Fu:News g L h (jL g h L):=fun p hp=>let ⟨a,b,c⟩:=rT hp;⟨c,a,b⟩
structure Mod(K:PySem.W.Frag)(mg:Str->Option Value)(base:Heap):Prop where
 RG:K.In base
 glob:base.Ns mainGlobals mg
 blt:∃mb,base.Ns builtinsNs mb/\∀x:Str,x≠"__name__"->mb x=bootBuiltins x
 nolimit:base.NoLimit
structure Cx where
 prog:Program
 w:World
 K:PySem.W.Frag
 mg:Str->Option Value
 base:Heap
 A:Around
 N:List Str
 s₀:Shared
 H₀:Hp
 env:Env
 outer:List Env
 stack:List Env
 ex:List Addr
 fn:Str->Bool
 calm:Bool
 pn:List (Addr×Obj)
 xe:Value->Shared->Prop
def uq(l:List Env):List Addr:=l.filterMap (·.frame)
abbrev Cx.fs(X:Cx):List Addr:=uq X.outer
def SF(sc:Scope)(x:Str):Prop:=sc.names.lookup x=some .local\/sc.names.lookup x=some .cell\/sc.names.lookup x=some .free
def SG(sc:Scope)(x:Str):Prop:=sc.names.lookup x=some .local\/sc.names.lookup x=some .cell
def X6(env:Env)(h:Heap)(m:Str->Option Value)(x:Str)(u:Value):Prop:=
 (env.kindOf x=some .local/\m x=some u)\/((env.kindOf x=some .cell\/env.kindOf x=some .free)/\∃c,env.cells.lookup x=some c/\h.IsCell c (some u))
structure Cx.Ok(X:Cx):Prop where
 mod:Mod X.K X.mg X.base
 kind:X.env.scope.kind=.function
 glob:X.env.globals=mainGlobals
 blt:X.env.builtins=builtinsNs
 above:X.s₀.heap.objs.size<=X.env.locals
 inj:∀x y c,X.env.cells.lookup x=some c->X.env.cells.lookup y=some c->x=y
 has:∀x,(X.env.kindOf x=some .cell\/X.env.kindOf x=some .free)->∃c,X.env.cells.lookup x=some c
 SH:∀x c,X.fn x=true->X.env.cells.lookup x=some c->X.s₀.heap.objs.size<=c
 hd:X.calm=true->X.A.handled=none
 frames:X.A.frames=some X.stack
 JO:X.stack=X.outer\/(X.stack=X.env::X.outer/\X.env.frame=some X.env.locals)
 X7:∀b∈X.ex,b≠X.env.locals/\∀x c,X.env.cells.lookup x=some c->c≠b
 bs:∀b o,X.base.get? b=some o->X.s₀.heap.get? b=some o/\X.H₀ b=none
 Jt:X.base.objs.size<=X.s₀.heap.objs.size
 Fv:∀b o,X.base.get? b=some o->b∉X.ex
 JP:∀b∈X.ex,b∉X.fs
 pb:X.s₀.heap.FunFrames X.base X.outer
 M2:∀b∈X.fs,X.H₀ b=none
structure aZ(X:Cx)(ag:List (Addr×Obj))(σ:List (Option V))(H:Hp)(s:Shared):Prop where
 ok:X.Ok
 os:s.os=X.s₀.os
 bare:AllBare s.gens
 base:Un X.fs X.ex X.H₀ H X.s₀.heap s.heap
 loc:∃m,s.heap.Ns X.env.locals m/\∀ (i:Nat) (x:Str) (v:V),X.N[i]?=some x->σ[i]?=some (some v)->SF X.env.scope x->∃u,b8 v u/\X6 X.env s.heap m x u
 cell:∀x c,X.env.cells.lookup x=some c->∃v,s.heap.IsCell c v
 free:H X.env.locals=none
 lT:∀x c,X.env.cells.lookup x=some c->H c=none
 pin:∀p∈X.pn++ag,s.heap.get? p.1=some p.2/\H p.1=none/\p.1≠X.env.locals/\p.1∉X.fs/\∀v,p.2.data≠.cell v
 cI:lA X.prog X.w H s.heap
 len:σ.length=X.N.length
section
variable {X:Cx} {ag:List (Addr×Obj)} {σ:List (Option V)} {H H':Hp} {s:Shared} {h':Heap}
theorem Cx.Ok.X8(ok:X.Ok)(e:X.base.get? b=some o):b∉X.fs:=fun hb=>by
 have:=(ok.pb.mem hb).1;rw[e] at this;cases this
theorem aZ.bs(I:aZ X ag σ H s):∀b o,X.base.get? b=some o->s.heap.get? b=some o/\H b=none:=fun b o e=>
 ⟨I.base.keep b o (I.ok.bs b o e).1 (I.ok.bs b o e).2 (I.ok.X8 e) (I.ok.Fv b o e),I.base.free b o (I.ok.bs b o e).1 (I.ok.bs b o e).2 (I.ok.Fv b o e)⟩
theorem aZ.bk(I:aZ X ag σ H s):∀b o,X.base.get? b=some o->s.heap.get? b=some o:=fun b o e=>(I.bs b o e).1
theorem aZ.mod(I:aZ X ag σ H s):Mod X.K X.mg X.base:=I.ok.mod
theorem aZ.p_(I:aZ X ag σ H s):X.K.In s.heap:=I.ok.mod.RG.keeps I.bk
theorem aZ.fr(I:aZ X ag σ H s):∃m,Fr X.base X.env.locals s.heap m:=
 let ⟨m,hn,_⟩:=I.loc
 ⟨m,hn,I.bk,aY I.ok.Jt I.ok.above⟩
theorem aZ.lt(I:aZ X ag σ H s):X.env.locals<s.heap.objs.size:=let ⟨_,hn,_⟩:=I.loc;hn.lt
theorem aZ.sz(I:aZ X ag σ H s):X.s₀.heap.objs.size<=s.heap.objs.size:=aY I.ok.above (kO I.lt)
theorem aZ.X9(I:aZ X ag σ H s)(h:s.heap.objs.size<=a):a∉X.fs:=fun hb=>by
 obtain⟨_,o,ho,_⟩:=I.ok.pb.mem hb;exact absurd (cQ (bp ho) (aY I.sz h)) (ii _)
theorem aZ.Oe(I:aZ X ag σ H s):∀x c,X.env.cells.lookup x=some c->c≠X.env.locals:=fun x c e z=>by
 obtain⟨v,o,ho,hd⟩:=I.cell x c e;obtain⟨m,⟨o',es,ep,Ad,SI,_⟩,_⟩:=I.loc;rw[z,Ad] at ho;cases ho;rw[SI] at hd;cases hd
theorem aZ.pb(I:aZ X ag σ H s):s.heap.FunFrames X.base X.outer:=by
 have all:∀ (l:List Env),(∀b∈uq l,b∈X.fs)->X.s₀.heap.FunFrames X.base l->s.heap.FunFrames X.base l:=by
  intro l;induction l with
  |nil=>intro _ _;trivial
  |cons env r ih=>
   intro hs hl;obtain⟨hk,⟨L,o,hf,hn,ho,hd⟩,hr⟩:=hl;have hL:L∈X.fs:=hs L (by unfold uq;rw[zD,hf];exact bZ);obtain⟨sl,e⟩:=I.base.slot L o ho (I.ok.M2 L hL) hL fun z=>I.ok.JP L z hL;exact⟨hk,⟨L,_,hf,hn,e,hd⟩,ih (fun b hb=>hs b (by unfold uq;rw[zD,hf];exact du _ hb)) hr⟩
 exact all X.outer (fun _ hb=>hb) I.ok.pb
theorem aZ.stack(I:aZ X ag σ H s):s.heap.FunFrames X.base X.stack:=by
 rcases I.ok.JO with e|⟨e,hf⟩
 .rw[e];exact I.pb
 .rw[e];obtain⟨m,hn,_⟩:=I.loc;refine .cons (by rw[I.ok.kind];decide) hf hn ?_ I.pb;exact oM (aY I.ok.Jt I.ok.above)
theorem aZ.vQ(I:aZ X ag σ H s):∀b∈uq X.stack,b∈X.env.locals::X.fs:=fun b hb=>by
 rcases I.ok.JO with e|⟨e,hf⟩
 .rw[e] at hb;exact du _ hb
 .rw[e] at hb;unfold uq at hb;rw[zD,hf] at hb;exact hb
theorem aZ.vR(I:aZ X ag σ H s):∀b∈uq X.stack,H b=none:=fun b hb=>by
 rcases bW.mp (I.vQ b hb) with e|hb
 .rw[e];exact I.free
 .obtain⟨_,o,ho,_⟩:=I.ok.pb.mem hb;exact I.base.free b o ho (I.ok.M2 b hb) fun z=>I.ok.JP b z hb
theorem aZ.step{g':Array GenState}{t':Nat}{d':Drawn}{ch:List Addr}(I:aZ X ag σ H s)(Ju:∀b∈ch,(b∈X.ex\/X.s₀.heap.objs.size<=b)/\b≠X.env.locals/\(∀x c,X.env.cells.lookup x=some c->c≠b)/\∀p∈X.pn++ag,p.1≠b)(keep:∀b o,b≠X.env.locals->b∉X.fs->b∉ch->s.heap.get? b=some o->H b=none->h'.get? b=some o)(slot:∀b o,b≠X.env.locals->b∈X.fs->b∉ch->s.heap.get? b=some o->H b=none->∃sl,h'.get? b=some { o with slots:=sl })(free:∀b o,b∉ch->s.heap.get? b=some o->H b=none->H' b=none)(there:∀b o,b∉ch->s.heap.get? b=some o->∃o',h'.get? b=some o')(o_:∀b xs,H b=some (.tup xs)->H' b=some (.tup xs))(rR:∀b o u,H b=some (.tV o u)->H' b=some (.tV o u))(rS:∀b ps,H b=some (.qu ps)->∃more,H' b=some (.qu (ps++more)))(ns:∀m,s.heap.Ns X.env.locals m->h'.Ns X.env.locals m)(cI:lA X.prog X.w H' h')(hg:AllBare g'):
  aZ X ag σ H' { s with heap:=h',gens:=g',drawn:=d',toks:=t' }:=by
 have neL:∀b o,X.s₀.heap.get? b=some o->b≠X.env.locals:=fun b o e=>bh (cQ (bp e) I.ok.above);have WX:∀b o,X.s₀.heap.get? b=some o->b∉X.ex->b∉ch:=fun b o e hx hb=>by
  rcases(Ju b hb).1 with z|z
  .exact hx z
  .exact absurd (cQ (bp e) z) (ii _)
 have M3:∀x c,X.env.cells.lookup x=some c->∀v,s.heap.IsCell c v->h'.IsCell c v:=fun x c e v ⟨o,ho,hd⟩=>by
  have SJ:c∉ch:=fun z=>(Ju c z).2.2.1 x c e rfl;by_cases hc:c∈X.fs
  .obtain⟨sl,q⟩:=slot c o (I.Oe x c e) hc SJ ho (I.lT x c e);exact⟨_,q,hd⟩
  .exact⟨o,keep c o (I.Oe x c e) hc SJ ho (I.lT x c e),hd⟩
 refine⟨I.ok,I.os,hg,⟨fun b o e n hb hx=>?_,fun b o e n hb hx=>?_,fun b o e n hx=>?_,fun b o e hx=>?_,fun b xs e=>o_ b xs (I.base.o_ b xs e),fun b o xs e=>rR b o xs (I.base.rR b o xs e),fun b ps e=>?_⟩,?_,fun x c e=>?_,?_,fun x c e=>?_,fun p hp=>?_,cI,I.len⟩
 .exact keep b o (neL b o e) hb (WX b o e hx) (I.base.keep b o e n hb hx) (I.base.free b o e n hx)
 .obtain⟨sl,e1⟩:=I.base.slot b o e n hb hx;obtain⟨X_,e2⟩:=slot b _ (neL b o e) hb (WX b o e hx) e1 (I.base.free b o e n hx);exact⟨X_,e2⟩
 .obtain⟨o',e1⟩:=I.base.there b o e hx;exact free b o' (WX b o e hx) e1 (I.base.free b o e n hx)
 .obtain⟨o',e1⟩:=I.base.there b o e hx;exact there b o' (WX b o e hx) e1
 .obtain⟨m1,e1⟩:=I.base.rS b ps e;obtain⟨m2,e2⟩:=rS b _ e1;exact⟨m1++m2,by rw[e2,Array.append_assoc]⟩
 .obtain⟨m,hn,hl⟩:=I.loc;refine⟨m,ns m hn,fun i x v e1 e2 e3=>?_⟩;obtain⟨u,r,l⟩:=hl i x v e1 e2 e3;refine⟨u,r,?_⟩;rcases l with l|⟨k,c,e,z⟩
  .exact .inl l
  .exact .inr ⟨k,c,e,M3 x c e _ z⟩
 .obtain⟨v,z⟩:=I.cell x c e;exact⟨v,M3 x c e v z⟩
 .obtain⟨m,⟨o,_,_,ho,_⟩,_⟩:=I.loc;exact free _ o (fun z=>(Ju _ z).2.1 rfl) ho I.free
 .obtain⟨v,o,ho,hd⟩:=I.cell x c e;exact free c o (fun z=>(Ju c z).2.2.1 x c e rfl) ho (I.lT x c e)
 .obtain⟨e,n,ne,nf,d⟩:=I.pin p hp;have SJ:p.1∉ch:=fun z=>(Ju p.1 z).2.2.2 p hp rfl;exact⟨keep p.1 p.2 ne nf SJ e n,free p.1 p.2 SJ e n,ne,nf,d⟩
theorem aZ.un{t':Nat}(I:aZ X ag σ H s)(u:Un X.fs [] H H' s.heap h')(cI:lA X.prog X.w H' h'):aZ X ag σ H' { s with heap:=h',toks:=t' }:=by
 obtain⟨m,⟨o,es,ep,ho,r⟩,_⟩:=id I.loc;obtain⟨sl,hL⟩:=u.any ho I.free (by simp);exact I.step (g':=s.gens) (d':=s.drawn) (ch:=[]) (fun _ z=>nomatch z) (fun b o _ hb _ e n=>u.keep b o e n hb (by simp)) (fun b o _ hb _ e n=>u.slot b o e n hb (by simp)) (fun b o _ e n=>u.free b o e n (by simp)) (fun b o _ e=>u.there b o e (by simp)) u.o_ u.rR u.rS (fun m' hm=>by
  obtain⟨o',vS,SK,Ad,r'⟩:=hm;rw[ho] at Ad;cases Ad;exact⟨_,vS,SK,hL,r'⟩) cI I.bare
theorem aZ.call{g':Array GenState}{t':Nat}{d':Drawn}{ch:List Addr}(I:aZ X ag σ H s)(u:Un (uq X.stack) ch H H' s.heap h')(cI:lA X.prog X.w H' h')(hg:AllBare g')(Ju:∀b∈ch,(b∈X.ex\/X.s₀.heap.objs.size<=b)/\b≠X.env.locals/\(∀x c,X.env.cells.lookup x=some c->c≠b)/\∀p∈X.pn++ag,p.1≠b):
  aZ X ag σ H' { s with heap:=h',gens:=g',drawn:=d',toks:=t' }:=by
 obtain⟨m,⟨o,es,ep,ho,r⟩,_⟩:=id I.loc;obtain⟨sl,hL⟩:=u.any ho I.free fun z=>(Ju _ z).2.1 rfl;exact I.step (ch:=ch) Ju (fun b o hL hb hc e n=>u.keep b o e n (fun z=>(bW.mp (I.vQ b z)).elim hL hb) hc) (fun b o _ _ hc e n=>u.any e n hc) (fun b o hc e n=>u.free b o e n hc) (fun b o hc e=>u.there b o e hc) u.o_ u.rR u.rS (fun m' hm=>by
  obtain⟨o',vS,SK,Ad,r'⟩:=hm;rw[ho] at Ad;cases Ad;exact⟨_,vS,SK,hL,r'⟩) cI hg
theorem aZ.turned{t':Nat}{it:Addr}(I:aZ X ag σ H s)(k:∀b o,b≠it->s.heap.get? b=some o->h'.get? b=some o)(hn:H it=none)(hL:it≠X.env.locals)(h1:it∈X.ex\/X.s₀.heap.objs.size<=it)(h2:∀x c,X.env.cells.lookup x=some c->c≠it)(h3:∀p∈X.pn++ag,p.1≠it):aZ X ag σ H { s with heap:=h',toks:=t' }:=by
 have M4:∀b u,H b=some u->b≠it:=fun b u e z=>by rw[z,hn] at e;cases e
 refine I.step (g':=s.gens) (d':=s.drawn) (ch:=[it]) (fun b hb=>?_) (fun b o _ _ hc e _=>k b o (fun z=>hc (by simp[z])) e) (fun b o _ _ hc e _=>⟨o.slots,k b o (fun z=>hc (by simp[z])) e⟩) (fun _ _ _ _ n=>n)
  (fun b o hc e=>⟨o,k b o (fun z=>hc (by simp[z])) e⟩) (fun _ _ e=>e) (fun _ _ _ e=>e) (fun b ps e=>⟨#[],by rw[e];simp⟩) (fun m hm=>?_) (fun b u e=>?_) I.bare
 .have e:b=it:=by simpa using hb
  subst e;exact⟨h1,hL,h2,h3⟩
 .obtain⟨o,es,ep,ho,r⟩:=hm;exact⟨o,es,ep,k _ o (im hL) ho,r⟩
 .refine(I.cI b u e).rQ (fun c v hc q=>k c v ?_ q) (fun _ q=>q) fun _ _ q=>q;rcases hc with z|z
  .rw[z];exact M4 b u e
  .exact M4 c _ z
theorem aZ.tok(I:aZ X ag σ H s)(t:Nat):aZ X ag σ H { s with toks:=t }:=I.un (h':=s.heap) (t':=t) Un.refl I.cI
theorem aZ.kept(I:aZ X ag σ H s)(k:∀b u,s.heap.get? b=some u->h'.get? b=some u):aZ X ag σ H { s with heap:=h',toks:=t' }:=I.un (Un.kept k) (I.cI.kept k)
theorem aZ.laid(I:aZ X ag σ H s)(k:∀b u,s.heap.get? b=some u->h'.get? b=some u)(hp:s.heap.objs.size<=a)(new:cF X.prog X.w (upd H a o) h' a o):
  aZ X ag σ (upd H a o) { s with heap:=h',toks:=t' }:=I.un (Un.laid k hp (I.cI.fresh hp)) (I.cI.laid k hp new)
theorem aZ.write(I:aZ X ag σ H s)(mu:WV (H x))(he:e=x\/H e=some (.own x))(k:∀b u,b≠e->s.heap.get? b=some u->h'.get? b=some u)(RE:∃u,h'.get? e=some u)(new:cF X.prog X.w (upd H x o) h' x o):aZ X ag σ (upd H x o) { s with heap:=h',toks:=t' }:=I.un (Un.write mu he k RE) (I.cI.write mu he k RE new)
theorem aZ.BV(I:aZ X ag σ H s)(h:∀p∈SL,s.heap.get? p.1=some p.2/\H p.1=none/\p.1≠X.env.locals/\p.1∉X.fs/\∀v,p.2.data≠.cell v):aZ X SL σ H s:=
 ⟨I.ok,I.os,I.bare,I.base,I.loc,I.cell,I.free,I.lT,fun p hp=>(bY.mp hp).elim (fun z=>I.pin p (iz _ z)) (h p),I.cI,I.len⟩
theorem xz{N:List Str}(hN:N.Nodup){i j:Nat}{x:Str}(a:N[i]?=some x)(b:N[j]?=some x):i=j:=by
 obtain⟨h1,e1⟩:=cY.mp a;obtain⟨h2,e2⟩:=cY.mp b;exact(vy hN).mp (e1.trans e2.symm)
theorem ur{M:Model}{A:Around}{E:Value->Shared->Prop}{i:Nat}{x:Str}{v:V}{u:Value}{Q:Unit->Shared->Prop}(I:aZ X ag σ H s)(hN:X.N.Nodup)(hi:X.N[i]?=some x)(hx:SG X.env.scope x)(r:b8 v u)(h:∀s',aZ X ag (σ.set i (some v)) H s'->(∃a,Heap.SameBut a s.heap s'.heap/\(a=X.env.locals\/X.env.cells.lookup x=some a))->Q () s')(hf:X.fn x=true\/X.env.scope.names.lookup x=some .local:=by first|exact .inl rfl|exact .inr rfl|assumption):wpAny M A (storeName X.env x u) Q E s:=by
 obtain⟨m,hn,hl⟩:=id I.loc;have Ya:(X.env.scope.kind==.class||(X.env.scope.kind==.module&&X.env.locals != X.env.globals))=false:=by rw[I.ok.kind];rfl
 have hiσ:i<σ.length:=by rw[I.len];exact(cY.mp hi).1
 have Oe:=I.Oe;have BW:∀ {a:Addr} {h':Heap},(∃o,s.heap.get? a=some o/\H a=none)->Heap.SameBut a s.heap h'->lA X.prog X.w H h':=fun {a h'} ha hs b ob e=>by
  obtain⟨_,_,M5⟩:=ha;refine(I.cI b ob e).rQ (fun c w' hc q=>(hs.2 c ?_).trans q) (fun _ q=>q) fun _ _ q=>q;rintro rfl;rcases hc with rfl|hc
  .rw[M5] at e;cases e
  .rw[M5] at hc;cases hc
 rcases hx with hk|hk
 .refine wpAny_storeName_local hk hn (fun h' hn' hs=>?_) Ya;obtain⟨oL,_,_,EV,_⟩:=id hn;refine h _ ⟨I.ok,I.os,I.bare,⟨fun b o e n hb hx=>?_,fun b o e n hb hx=>?_,I.base.free,fun b o e hx=>?_,I.base.o_,I.base.rR,I.base.rS⟩,⟨_,hn',fun j y v' e1 e2 e3=>?_⟩,fun y c e=>?_,I.free,I.lT,fun p hp=>?_,BW ⟨oL,EV,I.free⟩ hs,by simpa using I.len⟩ ⟨_,hs,.inl rfl⟩
  .exact(hs.2 b (bh (cQ (bp e) I.ok.above))).trans (I.base.keep b o e n hb hx)
  .obtain⟨sl,e1⟩:=I.base.slot b o e n hb hx;exact⟨sl,(hs.2 b (bh (cQ (bp e) I.ok.above))).trans e1⟩
  .obtain⟨o',e1⟩:=I.base.there b o e hx;exact⟨o',(hs.2 b (bh (cQ (bp e) I.ok.above))).trans e1⟩
  .by_cases hj:j=i
   .subst hj;rw[hi] at e1;cases e1;rw[rh hiσ] at e2;cases e2;exact⟨u,r,.inl ⟨hk,by simp⟩⟩
   .rw[rm (im hj)] at e2;obtain⟨u',r',q⟩:=hl j y v' e1 e2 e3;refine⟨u',r',?_⟩;rcases q with ⟨k,e⟩|⟨k,c,e,z⟩
    .refine .inl ⟨k,?_⟩;have:y≠x:=fun e=>hj (xz hN e1 (e ▸ hi));simp[this,e]
    .exact .inr ⟨k,c,e,z.sameBut hs (Oe y c e)⟩
  .obtain⟨w',z⟩:=I.cell y c e;exact⟨w',z.sameBut hs (Oe y c e)⟩
  .obtain⟨e,n,ne,nf,d⟩:=I.pin p hp;exact⟨(hs.2 p.1 ne).trans e,n,ne,nf,d⟩
 .have Yb:X.fn x=true:=by
   rcases hf with z|z
   .exact z
   .rw[z] at hk;cases hk
  obtain⟨c,hc⟩:=I.ok.has x (.inl hk);obtain⟨w',z⟩:=I.cell x c hc;refine wpAny_storeName_cell I.ok.kind hk hc z (fun h' ut hs=>?_);obtain⟨oc,WY,Yc⟩:=id z;refine h { s with heap:=h' } ⟨I.ok,I.os,I.bare,⟨fun b o e n hb hx=>?_,fun b o e n hb hx=>?_,I.base.free,fun b o e hx=>?_,I.base.o_,I.base.rR,I.base.rS⟩,⟨m,hn.sameBut hs (im (Oe x c hc)),fun j y v' e1 e2 e3=>?_⟩,fun y c' e=>?_,I.free,I.lT,fun p hp=>?_,BW ⟨oc,WY,I.lT x c hc⟩ hs,by simpa using I.len⟩ ⟨c,hs,.inr hc⟩
  .exact(hs.2 b (bh (cQ (bp e) (I.ok.SH x c Yb hc)))).trans (I.base.keep b o e n hb hx)
  .obtain⟨sl,e1⟩:=I.base.slot b o e n hb hx;exact⟨sl,(hs.2 b (bh (cQ (bp e) (I.ok.SH x c Yb hc)))).trans e1⟩
  .obtain⟨o',e1⟩:=I.base.there b o e hx;exact⟨o',(hs.2 b (bh (cQ (bp e) (I.ok.SH x c Yb hc)))).trans e1⟩
  .by_cases hj:j=i
   .subst hj;rw[hi] at e1;cases e1;rw[rh hiσ] at e2;cases e2;exact⟨u,r,.inr ⟨.inl hk,c,hc,ut⟩⟩
   .rw[rm (im hj)] at e2;obtain⟨u',r',q⟩:=hl j y v' e1 e2 e3;refine⟨u',r',?_⟩;rcases q with q|⟨k,c',e,z'⟩
    .exact .inl q
    .refine .inr ⟨k,c',e,z'.sameBut hs ?_⟩;rintro rfl;exact hj (xz hN e1 (I.ok.inj _ _ _ e hc ▸ hi))
  .by_cases hcc:c'=c
   .subst hcc;exact⟨_,ut⟩
   .obtain⟨w2,z2⟩:=I.cell y c' e;exact⟨w2,z2.sameBut hs hcc⟩
  .obtain⟨e,n,ne,nf,d⟩:=I.pin p hp;refine⟨(hs.2 p.1 ?_).trans e,n,ne,nf,d⟩;intro q;rw[q,WY] at e;have q':oc=p.2:=bX e;exact d w' (by rw[<-q'];exact Yc)
theorem kT(I:aZ X ag σ H s)(hN:X.N.Nodup)(hi:X.N[i]?=some x)(hx:SG X.env.scope x)(r:b8 v u)(h:∀s',aZ X ag (σ.set i (some v)) H s'->Q () s')(hf:X.fn x=true\/X.env.scope.names.lookup x=some .local:=by first|exact .inl rfl|exact .inr rfl|assumption):wpAny M A (storeName X.env x u) Q E s:=
 ur I hN hi hx r (fun s' I' _=>h s' I') hf
theorem aZ.SN(I:aZ X ag σ H s)(ho:s'.os=s.os)(u:Un (uq X.stack) ch H H' s.heap s'.heap)(cI:lA X.prog X.w H' s'.heap)(hg:AllBare s'.gens)(Ju:∀b∈ch,(b∈X.ex\/X.s₀.heap.objs.size<=b)/\b≠X.env.locals/\(∀x c,X.env.cells.lookup x=some c->c≠b)/\∀p∈X.pn++ag,p.1≠b):aZ X ag σ H' s':=by
 obtain⟨h',g',d',t',o'⟩:=s';have e:o'=s.os:=ho;subst e;exact I.call (g':=g') (t':=t') (d':=d') u cI hg Ju
end
abbrev XK:=Value->Option Addr->Hp->Prop
abbrev St:=List (Option V)
abbrev VK:=V->Hp->Prop
abbrev TE:=St->Hp->VK->Prop
abbrev TT:=St->Hp->(Bool->Hp->Prop)->Prop
abbrev TA:=St->Hp->(List V->Hp->Prop)->Prop
structure xA where
 nx:St->Hp->Prop
 rt:VK
 bk:St->Hp->Prop:=fun _ _=>False
 ct:St->Hp->Prop:=fun _ _=>False
abbrev TS:=xA->St->Hp->Prop
def EP(X:Cx)(ag:List (Addr×Obj))(σ:St)(Q:VK)(u:Value)(s':Shared):Prop:=∃v H',aZ X ag σ H' s'/\b8 v u/\Q v H'
def TP(X:Cx)(ag:List (Addr×Obj))(σ:St)(Q:Bool->Hp->Prop)(b:Bool)(s':Shared):Prop:=∃H',aZ X ag σ H' s'/\Q b H'
def AP(X:Cx)(ag:List (Addr×Obj))(σ:St)(Q:List V->Hp->Prop)(us:List Value)(s':Shared):Prop:=∃vs H',aZ X ag σ H' s'/\bg vs us/\Q vs H'
def SP(X:Cx)(ag:List (Addr×Obj))(D:xA)(f:Flow)(s':Shared):Prop:=
 match f with
 |.next=>∃σ' H',aZ X ag σ' H' s'/\D.nx σ' H'
 |.brk=>∃σ' H',aZ X ag σ' H' s'/\D.bk σ' H'
 |.cont=>∃σ' H',aZ X ag σ' H' s'/\D.ct σ' H'
 |.ret u=>∃v σ' H',aZ X ag σ' H' s'/\b8 v u/\D.rt v H'
def PE(X:Cx)(e:Expr)(t:TE):Prop:=
 ∀ (ag:List (Addr×Obj)) (s:Shared) (σ:St) (H:Hp) (Q:VK),aZ X ag σ H s->t σ H Q->wpAny (model X.prog X.w) X.A (eval e X.env) (EP X ag σ Q) X.xe s
def PT(X:Cx)(e:Expr)(t:TT):Prop:=
 ∀ (ag:List (Addr×Obj)) (s:Shared) (σ:St) (H:Hp) (Q:Bool->Hp->Prop),aZ X ag σ H s->t σ H Q->wpAny (model X.prog X.w) X.A (isTrue e X.env (eval e X.env)) (TP X ag σ Q) X.xe s
def PW(X:Cx)(e:Expr)(t:TT):Prop:=
 ∀ (BY:Sem Value) (ag:List (Addr×Obj)) (s:Shared) (σ:St) (H:Hp) (Q:Bool->Hp->Prop),aZ X ag σ H s->t σ H Q->wpAny (model X.prog X.w) X.A (isTrue e X.env BY) (TP X ag σ Q) X.xe s
theorem PW.pt(h:PW X e t):PT X e t:=h _
def PA(X:Cx)(es:List Expr)(t:TA):Prop:=
 ∀ (pos:Pos) (ag:List (Addr×Obj)) (s:Shared) (σ:St) (H:Hp) (Q:List V->Hp->Prop),aZ X ag σ H s->t σ H Q->wpAny (model X.prog X.w) X.A (spliced (backTo pos (starEach es X.env))) (AP X ag σ Q) X.xe s
def PS(X:Cx)(st:Stmt)(t:TS):Prop:=
 ∀ (ag:List (Addr×Obj)) (s:Shared) (σ:St) (H:Hp) (D:xA),aZ X ag σ H s->t D σ H->wpAny (model X.prog X.w) X.A (exec st X.env) (SP X ag D) X.xe s
def y0(X:Cx)(st:List Stmt)(t:TS):Prop:=
 ∀ (ag:List (Addr×Obj)) (s:Shared) (σ:St) (H:Hp) (D:xA),aZ X ag σ H s->t D σ H->wpAny (model X.prog X.w) X.A (execs st X.env) (SP X ag D) X.xe s
theorem dk(h:wpAny M A t Q E s)(hQ:∀a s,Q a s->Q' a s):wpAny M A t Q' E s:=mj h hQ fun _ _ x=>x
section
variable {X:Cx}
def aX(i:Nat):TE:=fun σ H Q=>∃v,σ[i]?=some (some v)/\Q v H
def tC(v:V):TE:=fun _ H Q=>Q v H
theorem Of(hN:X.N[i]?=some x)(hv:SF X.env.scope x)(hd:(x==("__debug__":Str))=false:=by decide)(qK:(x==("__classdict__":Str))=false:=by decide):PE X (.Name x pos) (aX i):=by
 intro ag s σ H Q I h;obtain⟨v,e,h⟩:=h;obtain⟨m,hn,hl⟩:=I.loc;obtain⟨u,r,l⟩:=hl i x v hN e hv;have dJ:EP X ag σ Q u s:=⟨v,H,I,r,h⟩
 rcases l with ⟨hk,hm⟩|⟨hk,c,hc,BZ⟩
 .exact o9 (zN I.ok.kind hk hn hm dJ) hd
 .rcases hk with hk|hk
  .exact o9 (wpAny_loadName_cell I.ok.kind hk hc BZ dJ) hd
  .exact o9 (zV I.ok.kind hk hc BZ dJ qK) hd
theorem aq{i j pos}:PE X (.Constant (.int i) j pos) (tC (.int i)):=fun _ _ _ H _ I h=>wpAny_Constant_int ⟨.int i,H,I.tok _,⟨_,rfl⟩,h⟩
theorem gI{b j pos}:PE X (.Constant (.bool b) j pos) (tC (.bl b)):=fun _ _ _ H _ I h=>Constant_bool ⟨.bl b,H,I,rfl,h⟩
theorem cN{j pos}:PE X (.Constant .none j pos) (tC .bz):=fun _ _ _ H _ I h=>Constant_none ⟨.bz,H,I,rfl,h⟩
theorem mq{x j pos}:PE X (.Constant (.str x) j pos) (tC (.str x)):=fun _ _ _ H _ I h=>Calls.Constant_str ⟨.str x,H,I.tok _,⟨_,rfl⟩,h⟩
def Gl(X:Cx)(x:Str):Prop:=X.env.kindOf x=some .globalImplicit
theorem qL(I:aZ X ag σ H s)(hg:Gl X x)(hm:X.mg x=some u)(h:Q u s)(hd:(x==("__debug__":Str))=false:=by decide):wpAny (model X.prog X.w) X.A (eval (.Name x pos) X.env) Q E s:=
 Calls.Name_function_global I.ok.kind hg (Calls.loadGlobal_global (by rw[I.ok.glob];exact I.mod.glob.keeps I.bk) hm h) hd
theorem mr(I:aZ X ag σ H s)(hg:Gl X x)(hm:X.mg x=none)(hv:bootBuiltins x=some u)(h:Q u s)(hn:x≠"__name__":=by decide)(hd:(x==("__debug__":Str))=false:=by decide):wpAny (model X.prog X.w) X.A (eval (.Name x pos) X.env) Q E s:=by
 obtain⟨mb,h1,h2⟩:=I.mod.blt;exact Calls.Name_function_global I.ok.kind hg (Calls.loadGlobal_builtin (by rw[I.ok.glob];exact I.mod.glob.keeps I.bk) hm (by rw[I.ok.blt];exact h1.keeps I.bk) ((h2 x hn).trans hv) h) hd
theorem vT(hg:Gl X x)(hm:X.mg x=some u)(r:b8 v u)(hd:(x==("__debug__":Str))=false:=by decide):PE X (.Name x pos) (tC v):=
 fun _ _ _ H _ I h=>qL I hg hm ⟨v,H,I,r,h⟩ hd
theorem i9(hg:Gl X x)(hm:X.mg x=none)(hv:bootBuiltins x=some u)(r:b8 v u)(hn:x≠"__name__":=by decide)(hd:(x==("__debug__":Str))=false:=by decide):PE X (.Name x pos) (tC v):=
 fun _ _ _ H _ I h=>mr I hg hm hv ⟨v,H,I,r,h⟩ hn hd
variable {a b:Expr} {ta tb:TE} {pos:Pos}
def PC(X:Cx)(op:CmpOp)(a b:Expr)(t:TE):Prop:=
 ∀ (ag:List (Addr×Obj)) (s:Shared) (σ:St) (H:Hp) (Q:VK),aZ X ag σ H s->t σ H Q->
  wpAny (model X.prog X.w) X.A (eval a X.env) (fun v s₁=>wpAny (model X.prog X.w) X.A (eval b X.env) (fun u s₂=>wpAny (model X.prog X.w) X.A (compareOp op v u) (EP X ag σ Q) X.xe s₂) X.xe s₁) X.xe s
def tB(t:TE):TT:=fun σ H Q=>t σ H fun x H1=>∃c,x=.bl c/\Q c H1
theorem Og(h:PC X op a b t)(h1:behindInMarks op b=false:=by first|exact SO _ (by decide) (by decide)|rfl):PT X (.Compare a [op] [b] pos) (tB t):=by
 intro ag s σ H Q I hw;refine wpAny_isTrue_Compare1 (dk (h ag s σ H _ I hw) fun v s1 h1=>dk h1 fun u s2 h2=>dk h2 fun c s3 ⟨x,H1,I1,r1,q1⟩=>?_) h1;obtain⟨d,rfl,q⟩:=q1;cases r1;exact kH ⟨H1,I1,q⟩
theorem dq(h:PE X e t)(he:∀BY,isTrue e X.env BY=(do let v <- BY;standAt e.pos;holding [v] (truthy v)):=by intro _;rfl):PT X e (tB t):=by
 intro ag s σ H Q I hw;refine isTrue_plain (dk (h ag s σ H _ I hw) fun v s1 ⟨x,H1,I1,r1,q1⟩=>?_) (he _);obtain⟨d,rfl,q⟩:=q1;cases r1;exact kH ⟨H1,I1,q⟩
variable {tA WZ:TT} {qv:List Expr}
def SS(t u:TT):TT:=fun σ H Q=>t σ H fun c H1=>if c=true then u σ H1 Q else Q false H1
def tOr(t u:TT):TT:=fun σ H Q=>t σ H fun c H1=>if c=true then Q true H1 else u σ H1 Q
def Yd(t:TT):TT:=fun σ H Q=>t σ H fun c H1=>Q (!c) H1
theorem gU(ha:PT X a tA):PW X (.BoolOp .And [a] pos) tA:=by
 intro wh ag s σ H Q I h;refine isTrue_and (dk (ha ag s σ H Q I h) fun c s1 e=>?_);cases c with
 |true=>exact isTrue_and_nil e
 |false=>exact e
theorem rV(ha:PT X a tA):PW X (.BoolOp .Or [a] pos) tA:=by
 intro wh ag s σ H Q I h;refine isTrue_or (dk (ha ag s σ H Q I h) fun c s1 e=>?_);cases c with
 |false=>exact isTrue_or_nil e
 |true=>exact e
theorem io(ha:PT X a tA)(hb:PW X (.BoolOp .And (b::qv) pos) WZ):PW X (.BoolOp .And (a::b::qv) pos) (SS tA WZ):=by
 intro wh ag s σ H Q I h;refine isTrue_and (dk (ha ag s σ H _ I h) fun c s1 ⟨H1,I1,q1⟩=>?_);cases c with
 |true=>exact hb wh ag s1 σ H1 Q I1 q1
 |false=>exact⟨H1,I1,q1⟩
theorem xB(ha:PT X a tA)(hb:PW X (.BoolOp .Or (b::qv) pos) WZ):PW X (.BoolOp .Or (a::b::qv) pos) (tOr tA WZ):=by
 intro wh ag s σ H Q I h;refine isTrue_or (dk (ha ag s σ H _ I h) fun c s1 ⟨H1,I1,q1⟩=>?_);cases c with
 |true=>exact⟨H1,I1,q1⟩
 |false=>exact hb wh ag s1 σ H1 Q I1 q1
theorem fT(ha:PT X a tA):PT X (.UnaryOp .Not a pos) (Yd tA):=by
 intro ag s σ H Q I h;exact isTrue_not (ha ag s σ H (fun c H1=>Q (!c) H1) I h)
def SU(ta tb:TE):TE:=fun σ H Q=>ta σ H fun x H1=>∃c,x=.bl c/\if c=true then tb σ H1 Q else Q (.bl false) H1
def SV(ta:TE):TE:=fun σ H Q=>ta σ H fun x H1=>∃c,x=.bl c/\Q (.bl (!c)) H1
theorem rW{op}(h:PE X a t):PE X (.BoolOp op [a] pos) t:=fun ag s σ H Q I hw=>BoolOp_one (h ag s σ H Q I hw)
theorem pc(ha:PE X a ta)(hb:PE X (.BoolOp .And (b::qv) pos) tb):PE X (.BoolOp .And (a::b::qv) pos) (SU ta tb):=by
 intro ag s σ H Q I h;refine BoolOp_and (dk (ha ag s σ H _ I h) fun v s1 ⟨x,H1,I1,r1,q1⟩=>?_);obtain⟨c,rfl,q1⟩:=q1;cases r1;refine kH ?_;cases c with
 |true=>exact hb ag s1 σ H1 Q I1 q1
 |false=>exact⟨.bl false,H1,I1,rfl,q1⟩
theorem Oh(ha:PE X a ta):PE X (.UnaryOp .Not a pos) (SV ta):=by
 intro ag s σ H Q I h;refine UnaryOp_ (dk (ha ag s σ H _ I h) fun v s1 ⟨x,H1,I1,r1,q1⟩=>?_);obtain⟨c,rfl,q1⟩:=q1;cases r1;exact not_of (kH ⟨.bl (!c),H1,I1,rfl,q1⟩)
def tIf(t:TT)(ta tb:TE):TE:=fun σ H Q=>t σ H fun c H1=>if c=true then ta σ H1 Q else tb σ H1 Q
theorem xC(hc:PT X c tA)(ha:PE X a ta)(hb:PE X b tb):PE X (.IfExp c a b pos) (tIf tA ta tb):=by
 intro ag s σ H Q I h;refine wpAny_IfExp (dk (hc ag s σ H _ I h) fun d s1 ⟨H1,I1,q1⟩=>?_);cases d with
 |true=>exact ha ag s1 σ H1 Q I1 q1
 |false=>exact hb ag s1 σ H1 Q I1 q1
end
def aV(K:PySem.W.Frag)(H:Hp)(a:Addr)(xs:List V):Prop:=
 Rd H a (.lst xs)\/
  ∃ (o:Obj) (its:Array Value) (n:Nat),K.lookup a=some o/\o.cls=.type "list"/\o.dict=none/\o.data=.seq its n/\its.size<=sizeLine/\bg xs its.toList
def bt(K:PySem.W.Frag)(H:Hp)(a:Addr)(xs:List V):Prop:=
 Rd H a (.tup xs)\/
  ∃ (o:Obj) (its:Array Value) (n:Nat),K.lookup a=some o/\o.cls=.type "tuple"/\o.data=.seq its n/\its.size<=sizeLine/\bg xs its.toList
def Ye:Value->Option V
 |.none=>some .bz
 |.bool b=>some (.bl b)
 |.int i _=>some (.int i)
 |.str x _=>some (.str x)
 |.bytes b _=>some (.EU b)
 |.float b _=>some (.Oc b)
 |.ref a=>some (.ref a)
 |.type n=>some (.ty n)
 |_=>none
theorem b8.abs(r:b8 x u):Ye u=some x:=by
 cases x with
 |bz=>cases r;rfl
 |bl _=>cases r;rfl
 |int _=>obtain⟨t,rfl⟩:=r;rfl
 |str _=>obtain⟨t,rfl⟩:=r;rfl
 |EU _=>obtain⟨t,rfl⟩:=r;rfl
 |Oc _=>obtain⟨t,rfl⟩:=r;rfl
 |ref _=>cases r;rfl
 |ty _=>cases r;rfl
theorem b8.inj(r:b8 x u)(q:b8 y u):x=y:=bX (r.abs.symm.trans q.abs)
theorem bg.inj:∀ {xs ys:List V} {us:List Value},bg xs us->bg ys us->xs=ys
 |_,_,_,.nil,.nil=>rfl
 |_,_,_,.cons r t,.cons r' t'=>by rw[r.inj r',bg.inj t t']
section
variable {X:Cx} {ag:List (Addr×Obj)} {σ:St} {H:Hp} {s:Shared} {a:Addr} {xs ys:List V}
theorem aV.of{K:PySem.W.Frag}(h:H a=some (.lst xs)):aV K H a xs:=.inl (.inl h)
theorem bt.of{K:PySem.W.Frag}(h:H a=some (.tup xs)):bt K H a xs:=.inl (.inl h)
theorem aZ.list(I:aZ X ag σ H s)(h:aV X.K H a xs):∃its:List Value,bg xs its/\PlainL s.heap a its.toArray/\xs.length<=sizeLine:=by
 rcases h with h|⟨o,its,n,hk,hc,hd,hs,hz,r⟩
 .obtain⟨z,its,n,r,e⟩:=h.ok I.cI;exact⟨its,r,⟨_,n,e,rfl,rfl,rfl⟩,z⟩
 .refine⟨its.toList,r,⟨o,n,I.p_ a o hk,hc,hd,by simpa using hs⟩,?_⟩;have e:=r.length;simp only[l0] at e;lia
theorem aZ.tuple(I:aZ X ag σ H s)(h:bt X.K H a xs):∃its:List Value,bg xs its/\IsTup s.heap a its.toArray/\xs.length<=sizeLine:=by
 rcases h with h|⟨o,its,n,hk,hc,hs,hz,r⟩
 .obtain⟨z,its,r,p⟩:=h.ok I.cI;exact⟨its,r,p.tup,z⟩
 .refine⟨its.toList,r,⟨o,I.p_ a o hk,hc,n,by simpa using hs⟩,?_⟩;have e:=r.length;simp only[l0] at e;lia
theorem aZ.Fw(I:aZ X ag σ H s)(h:aV X.K H a xs)(h':aV X.K H a ys):xs=ys:=by
 obtain⟨its,r,⟨o,n,e,_,_,d⟩,_⟩:=I.list h;obtain⟨its',r',⟨o',n',e',_,_,d'⟩,_⟩:=I.list h';rw[e] at e';cases e';rw[d] at d';injection d' with d1 _;have:its=its':=by simpa using congrArg Array.toList d1
 subst this;exact r.inj r'
theorem aZ.gO(I:aZ X ag σ H s)(h:bt X.K H a xs)(h':bt X.K H a ys):xs=ys:=by
 obtain⟨its,r,⟨o,e,_,n,d⟩,_⟩:=I.tuple h;obtain⟨its',r',⟨o',e',_,n',d'⟩,_⟩:=I.tuple h';rw[e] at e';cases e';rw[d] at d';injection d' with d1 _;have:its=its':=by simpa using congrArg Array.toList d1
 subst this;exact r.inj r'
end
abbrev Cx.tZ(X:Cx)(E:Value->Shared->Prop):Cx:={ X with xe:=E }
abbrev Cx.M6(X:Cx):Cx:=X.tZ fun _ _=>False
theorem Cx.Ok.tZ{X:Cx}(ok:X.Ok)(E:Value->Shared->Prop):(X.tZ E).Ok:=
 ⟨ok.mod,ok.kind,ok.glob,ok.blt,ok.above,ok.inj,ok.has,ok.SH,ok.hd,ok.frames,ok.JO,ok.X7,ok.bs,ok.Jt,ok.Fv,ok.JP,ok.pb,ok.M2⟩
theorem Cx.Ok.kU{X:Cx}{E:Value->Shared->Prop}(ok:(X.tZ E).Ok):X.Ok:=
 ⟨ok.mod,ok.kind,ok.glob,ok.blt,ok.above,ok.inj,ok.has,ok.SH,ok.hd,ok.frames,ok.JO,ok.X7,ok.bs,ok.Jt,ok.Fv,ok.JP,ok.pb,ok.M2⟩
section
variable {X:Cx} {ag:List (Addr×Obj)} {σ:St} {H:Hp} {s:Shared} {E:Value->Shared->Prop}
theorem aZ.tZ(I:aZ X ag σ H s)(E:Value->Shared->Prop):aZ (X.tZ E) ag σ H s:=⟨I.ok.tZ E,I.os,I.bare,I.base,I.loc,I.cell,I.free,I.lT,I.pin,I.cI,I.len⟩
theorem aZ.kU(I:aZ (X.tZ E) ag σ H s):aZ X ag σ H s:=⟨I.ok.kU,I.os,I.bare,I.base,I.loc,I.cell,I.free,I.lT,I.pin,I.cI,I.len⟩
theorem SP.kU(h:SP (X.tZ E) ag D f s'):SP X ag D f s':=by
 cases f with
 |next=>obtain⟨σ',H',I,q⟩:=h;exact⟨σ',H',I.kU,q⟩
 |brk=>obtain⟨σ',H',I,q⟩:=h;exact⟨σ',H',I.kU,q⟩
 |cont=>obtain⟨σ',H',I,q⟩:=h;exact⟨σ',H',I.kU,q⟩
 |ret u=>obtain⟨v,σ',H',I,r,q⟩:=h;exact⟨v,σ',H',I.kU,r,q⟩
theorem y0.M6{st:List Stmt}{t:TS}(h:y0 X.M6 st t):y0 X st t:=fun ag s σ H D I hw=>
 mj (h ag s σ H D (I.tZ _) hw) (fun _ _ q=>q.kU) fun _ _ z=>False.elim z
end
section
variable {X:Cx} {st:Stmt} {qv:List Stmt} {t u:TS} {e:Expr} {te:TE} {pos:Pos}
def Fx:TS:=fun D σ H=>D.nx σ H
def SW(t u:TS):TS:=fun D σ H=>t { D with nx:=u D } σ H
theorem aQ:y0 X [] Fx:=fun _ _ σ H _ I h=>vG ⟨σ,H,I,h⟩
theorem ai(h1:PS X st t)(h2:y0 X qv u):y0 X (st::qv) (SW t u):=by
 intro ag s σ H D I h;refine wpAny_execs_cons (dk (h1 ag s σ H { D with nx:=u D } I h) fun f s1 q=>?_);cases f with
 |next=>
  obtain⟨σ',H',I',q⟩:=q;exact h2 ag s1 σ' H' D I' q
 |ret v=>exact q
 |brk=>exact q
 |cont=>exact q
theorem ak(h1:PS X st t):y0 X [st] t:=by
 intro ag s σ H D I h;refine wpAny_execs_cons (dk (h1 ag s σ H D I h) fun f s1 q=>?_);cases f with
 |next=>exact vG q
 |ret v=>exact q
 |brk=>exact q
 |cont=>exact q
theorem aZ.quiet(I:aZ X ag σ H s):interactive X.env=false:=by simp[interactive,I.ok.kind]
def SX(te:TE):TS:=fun D σ H=>te σ H fun _ H1=>D.nx σ H1
theorem cU(he:PE X e te)(hs:swapsWith e none pos.line X.env=pure false:=by rfl):PS X (.Expr e pos) (SX te):=by
 intro ag s σ H D I h;exact wpAny_Expr_any (dk (he ag s σ H _ I h) fun v s1 ⟨x,H1,I1,r1,q1⟩=>⟨σ,H1,I1,q1⟩) I.quiet hs
def JQ(te:TE):TS:=fun D σ H=>te σ H D.rt
theorem aM(he:PE X e te):PS X (.Return (some e) pos) (JQ te):=by
 intro ag s σ H D I h;exact wpAny_Return_some (dk (he ag s σ H _ I h) fun v s1 ⟨x,H1,I1,r1,q1⟩=>⟨x,σ,H1,I1,r1,q1⟩)
def Yf(c:TT)(t u:TS):TS:=fun D σ H=>c σ H fun b H1=>if b=true then t D σ H1 else u D σ H1
theorem bA(hc:PT X c tc)(ha:y0 X a t)(hb:y0 X b u):PS X (.If c a b pos) (Yf tc t u):=by
 intro ag s σ H D I h;refine wpAny_If (dk (hc ag s σ H _ I h) fun d s1 ⟨H1,I1,q1⟩=>?_);cases d with
 |true=>exact ha ag s1 σ H1 D I1 q1
 |false=>exact hb ag s1 σ H1 D I1 q1
def Oi:TS:=fun _ _ _=>False
theorem f8:y0 X sts Oi:=fun _ _ _ _ _ _ h=>h.elim
end
abbrev TG:=V->St->Hp->(St->Hp->Prop)->Prop
abbrev Oj:=List V->St->Hp->(St->Hp->Prop)->Prop
def PG(X:Cx)(Ol:Expr)(t:TG):Prop:=
 ∀ (ag:List (Addr×Obj)) (s:Shared) (σ:St) (H:Hp) (v:V) (u:Value) (Q:St->Hp->Prop),aZ X ag σ H s->b8 v u->t v σ H Q->
  wpAny (model X.prog X.w) X.A (assign Ol X.env u) (fun _ s'=>∃σ' H',aZ X ag σ' H' s'/\Q σ' H') X.xe s
def SY(X:Cx)(ts:List Expr)(t:Oj):Prop:=
 ∀ (ag:List (Addr×Obj)) (s:Shared) (σ:St) (H:Hp) (vs:List V) (us:List Value) (Q:St->Hp->Prop),aZ X ag σ H s->bg vs us->t vs σ H Q->
  wpAny (model X.prog X.w) X.A (assignInOrder ((assignEach ts X.env).map (·.2)) us) (fun _ s'=>∃σ' H',aZ X ag σ' H' s'/\Q σ' H') X.xe s
abbrev SZ:=V->V->V->Hp->(Hp->Prop)->Prop
def S0(X:Cx)(t:SZ):Prop:=
 ∀ (ag:List (Addr×Obj)) (s:Shared) (σ:St) (H:Hp) (o i v:V) (ov iv u:Value) (Q:Hp->Prop),aZ X ag σ H s->b8 o ov->b8 i iv->b8 v u->t o i v H Q->
  wpAny (model X.prog X.w) X.A (setItem ov iv u) (fun _ s'=>∃H',aZ X ag σ H' s'/\Q H') X.xe s
abbrev Yg:=V->V->Hp->VK->Prop
def PIp(X:Cx)(op:Operator)(t:Yg):Prop:=
 ∀ (ag:List (Addr×Obj)) (s:Shared) (σ:St) (H:Hp) (x y:V) (v u:Value) (Q:VK),aZ X ag σ H s->b8 x v->b8 y u->t x y H Q->
  wpAny (model X.prog X.w) X.A (inplaceOp op v u) (EP X ag σ Q) X.xe s
section
variable {X:Cx} {pos:Pos}
def bK(i:Nat):TG:=fun v σ H Q=>Q (σ.set i (some v)) H
theorem aw(hN:X.N.Nodup)(hi:X.N[i]?=some x)(hx:SG X.env.scope x)(hf:X.fn x=true\/X.env.scope.names.lookup x=some .local:=by first|exact .inl rfl|exact .inr rfl|assumption):PG X (.Name x pos) (bK i):=by
 intro ag s σ H v u Q I r h;exact wpAny_assign_Name (kT I hN hi hx r (fun s' I'=>⟨_,H,I',h⟩) hf)
def Ae:Oj:=fun vs σ H Q=>vs=[]/\Q σ H
def ju(t:TG)(u:Oj):Oj:=fun vs σ H Q=>∃v r,vs=v::r/\t v σ H fun σ' H'=>u r σ' H' Q
theorem dE:SY X [] Ae:=by
 intro ag s σ H vs us Q I r h;obtain⟨e,h⟩:=h;subst e;cases r;exact assignInOrder_nil ⟨σ,H,I,h⟩
theorem ba(h1:PG X e t)(h2:SY X es u)(hs:(assignEach (e::es) X.env).map (·.2)=assign e X.env::(assignEach es X.env).map (·.2):=by rfl):SY X (e::es) (ju t u):=by
 intro ag s σ H vs us Q I r h;obtain⟨v,vr,e1,h⟩:=h;subst e1;cases r with
 |cons r rr=>
  rw[hs];refine assignInOrder_cons (dk (h1 ag s σ H _ _ _ I r h) fun _ s1 ⟨σ1,H1,I1,q1⟩=>?_);exact h2 ag s1 σ1 H1 _ _ Q I1 rr q1
def Af(K:PySem.W.Frag)(n:Nat)(t:Oj):TG:=fun v σ H Q=>∃a xs,v=.ref a/\bt K H a xs/\xs.length=n/\t xs σ H Q
theorem fu(hc:X.calm=true)(h:SY X es t)(hn:(assignEach es X.env).length=n:=by rfl)(nj:(assignEach es X.env).findIdx? (·.1)=none:=by rfl):PG X (.Tuple es k pos) (Af X.K n t):=by
 intro ag s σ H v u Q I r hw;obtain⟨a,xs,e1,hq,hl,hw⟩:=hw;subst e1;cases r;obtain⟨its,rv,ht,hz⟩:=I.tuple hq;refine assign_Tuple_tuple (I.ok.hd hc) ht (by simp[hn,<-hl,rv.length]) nj fun h' hx=>?_;have I1:aZ X ag σ H { s with heap:=h' }:=I.kept (t':=s.toks) fun b o e=>hx b o (bh (bp e)) e;exact h ag _ σ H xs _ Q I1 (by simpa using rv) hw
def Yh(to ti:TE)(t:SZ):TG:=fun v σ H Q=>to σ H fun o H1=>ti σ H1 fun i H2=>t o i v H2 fun H3=>Q σ H3
theorem iT(ho:PE X o to)(hi:PE X i ti)(hs:S0 X t)(ha:∀v,assign (.Subscript o i pos) X.env v=(do
   let ov <- holding [v] (eval o X.env)
   let iv <- holding [v,ov] (eval i X.env)
   standAt pos
   holding [v,ov,iv] (setItem ov iv v)
   release [v,ov,iv] []):=by intro _;rfl):PG X (.Subscript o i pos) (Yh to ti t):=by
 intro ag s σ H v u Q I r h;rw[ha];refine aE (gC (dk (ho ag s σ H _ I h) fun ov s1 ⟨x,H1,I1,r1,q1⟩=>?_));refine aE (gC (dk (hi ag s1 σ H1 _ I1 q1) fun iv s2 ⟨y,H2,I2,r2,q2⟩=>?_));refine aE (mf (aE (gC (dk (hs ag s2 σ H2 x y v ov iv u _ I2 r1 r2 r q2) fun _ s3 ⟨H3,I3,q3⟩=>?_))));exact wpAny_release ⟨σ,H3,I3,q3⟩
def Om(te:TE)(g:TG):TS:=fun D σ H=>te σ H fun x H1=>g x σ H1 D.nx
theorem dW(he:PE X e te)(hg:PG X tg g)(hs:swapsWithSole [tg] e pos.line X.env=pure false:=by rfl)(hw:swappedStores [tg] e X.env=pure none:=by rfl)(h1:(assignEach [tg] X.env).map (·.2)=[assign tg X.env]:=by rfl):PS X (.Assign [tg] e pos) (Om te g):=by
 intro ag s σ H D I h;refine wpAny_Assign_stores (dk (he ag s σ H _ I h) fun v s1 ⟨x,H1,I1,r1,q1⟩=>?_) hs hw;rw[h1];exact dk (hg ag s1 σ H1 x v _ I1 r1 q1) fun _ s2 q=>q
theorem aN(hN:X.N.Nodup)(hi:X.N[i]?=some x)(hx:SG X.env.scope x)(he:PE X e te)(hs:swapsWith e (some (.Name x Dq)) pos.line X.env=pure false:=by rfl)(hf:X.fn x=true\/X.env.scope.names.lookup x=some .local:=by first|exact .inl rfl|exact .inr rfl|assumption):
  PS X (.Assign [.Name x Dq] e pos) (Om te (bK i)):=by
 intro ag s σ H D I h;refine wpAny_Assign_Name (dk (he ag s σ H _ I h) fun v s1 ⟨y,H1,I1,r1,q1⟩=>?_) hs;exact kT I1 hN hi hx r1 (fun s2 I2=>⟨_,H1,I2,q1⟩) hf
def Yi(i j:Nat)(ta:TA):TS:=fun D σ H=>ta σ H fun vs H1=>∃v w,vs=[v,w]/\D.nx ((σ.set i (some v)).set j (some w)) H1
theorem On{kt k2 RH}(hc:X.calm=true)(hN:X.N.Nodup)(hi:X.N[i]?=some x)(hj:X.N[j]?=some y)(hij:i≠j)(hx:X.env.scope.names.lookup x=some .local)(hy:X.env.scope.names.lookup y=some .local)(ha:PA X [a,b] ta)(hw:swappedStores [.Tuple [.Name x px,.Name y py] kt pt] (.Tuple [a,b] k2 RH) X.env=pure (some [x,y]))(hs:swapsWithSole [.Tuple [.Name x px,.Name y py] kt pt] (.Tuple [a,b] k2 RH) pos.line X.env=pure false:=by rfl):
  PS X (.Assign [.Tuple [.Name x px,.Name y py] kt pt] (.Tuple [a,b] k2 RH) pos) (Yi i j ta):=by
 intro ag s σ H D I h;rw[exec_Assign_arm];refine aE (mf ?_);rw[hs];refine aE (wpAny_pure ?_);rw[au (by decide)];refine aE (Tuple_ (dk (ha _ ag s σ H _ I h) fun us s1 ⟨vs,H1,I1,r1,q1⟩=>?_));obtain⟨v,w,e1,q1⟩:=q1;subst e1;obtain⟨u1,u2,rfl,rv,Oo⟩:∃u1 u2,us=[u1,u2]/\b8 v u1/\b8 w u2:=by
  cases r1 with
  |cons p q=>
   cases q with
   |cons p' q'=>
    cases q';exact⟨_,_,rfl,p,p'⟩
 refine kI ?_ (by show 2<=sizeLine;decide);have I2:aZ X ag σ H1 { s1 with heap:=s1.heap.push { cls:=.type "tuple",data:=.seq [u1,u2].toArray } }:=I1.kept (t':=s1.toks) fun b o e=>cg _ e;rw[hw];refine aE (wpAny_pure ?_);show wpAny (model X.prog X.w) X.A (do rule "assign.swapped-stores";let items <- unpackItems (.ref s1.heap.objs.size) 2 none;assignInOrder [fun v=>bindName X.env y v,fun v=>bindName X.env x v] items.reverse;pure Flow.next) _ _ _;refine aE (ij (aE (unpackItems_tuple (items:=#[u1,u2]) (I.ok.hd hc) (IsTup.new s1.heap _) fun h' Ag=>?_)));have I3:=I2.kept (h':=h') (t':=s1.toks) fun b o e=>Ag b o (bh (bp e)) e;show wpAny _ _ (assignInOrder [fun v=>bindName X.env y v,fun v=>bindName X.env x v] [u2,u1] >>= fun _=>pure Flow.next) _ _ _;refine aE (assignInOrder_cons (wpAny_bindName (kT I3 hN hj (.inl hy) Oo (fun s2 I4=>?_) (.inr hy))));refine assignInOrder_cons (wpAny_bindName (kT I4 hN hi (.inl hx) rv (fun s3 I5=>assignInOrder_nil (wpAny_pure ?_)) (.inr hx)));rw[List.set_comm _ _ (im hij)] at I5;exact⟨_,H1,I5,q1⟩
def Yj(i:Nat)(te:TE)(ti:Yg):TS:=fun D σ H=>∃x,σ[i]?=some (some x)/\te σ H fun y H1=>ti x y H1 fun z H2=>D.nx (σ.set i (some z)) H2
theorem Op(hN:X.N.Nodup)(hi:X.N[i]?=some x)(hx:SG X.env.scope x)(he:PE X e te)(ho:PIp X op ti)(hf:X.fn x=true\/X.env.scope.names.lookup x=some .local:=by first|exact .inl rfl|exact .inr rfl|assumption):
  PS X (.AugAssign (.Name x Dq) op e pos) (Yj i te ti):=by
 intro ag s σ H D I h;obtain⟨v,e1,h⟩:=h;obtain⟨m,hn,hl⟩:=I.loc;have Yk:SF X.env.scope x:=by rcases hx with k|k;exact .inl k;exact .inr (.inl k)
 obtain⟨u,r,l⟩:=hl i x v hi e1 Yk;refine wpAny_AugAssign_Name ?_;have go:wpAny (model X.prog X.w) X.A (eval e X.env) (fun w s₂=>wpAny (model X.prog X.w) X.A (inplaceOp op u w) (fun r s₃=>wpAny (model X.prog X.w) X.A (storeName X.env x r) (fun _=>SP X ag D .next) X.xe s₃) X.xe s₂) X.xe s:=by
  refine dk (he ag s σ H _ I h) fun w s1 ⟨y,H1,I1,r1,q1⟩=>?_;refine dk (ho ag s1 σ H1 v y u w _ I1 r r1 q1) fun z s2 ⟨zv,H2,I2,r2,q2⟩=>?_;exact kT I2 hN hi hx r2 (fun s3 I3=>⟨_,H2,I3,q2⟩) hf
 rcases l with ⟨hk,hm⟩|⟨hk,c,hc,BZ⟩
 .exact zN I.ok.kind hk hn hm go
 .rcases hk with hk|hk
  .exact wpAny_loadName_cell I.ok.kind hk hc BZ go
  .rcases hx with k|k
   .have:X.env.scope.names.lookup x=some .free:=hk;rw[k] at this;cases this
   .have:X.env.scope.names.lookup x=some .free:=hk;rw[k] at this;cases this
def ipI(f:Int->Int->Int):Yg:=fun x y H Q=>∃i j,x=.int i/\y=.int j/\Q (.int (f i j)) H
theorem Oq:PIp X .Add (ipI fun i j=>i+j):=by
 intro ag s σ H x y v u Q I r1 r2 h;obtain⟨i,j,e1,e2,q⟩:=h;subst e1;subst e2;obtain⟨t,rfl⟩:=r1;obtain⟨t',rfl⟩:=r2;exact iadd_int ⟨.int _,H,I.tok _,⟨_,rfl⟩,q⟩
def Fy(c:TT)(tb:TS):TS:=fun D σ H=>∃W:Nat->St->Hp->Prop,(∃m,W m σ H)/\∀m σ H,W m σ H->
 c σ H fun b H1=>if b=true then ∃N:St->Hp->Prop,(∀σ' H',N σ' H'->∃m',m'<m/\W m' σ' H')/\tb { D with nx:=N,ct:=N,bk:=D.nx } σ H1 else D.nx σ H1
theorem xD(hp:PassesOwn (model X.prog X.w) X.A X.env X.xe)(hc:PT X c tc)(hb:y0 X body tb):PS X (.While c body [] pos) (Fy tc tb):=by
 intro ag s σ H D I h;obtain⟨W,⟨m0,w0⟩,Fz⟩:=h;refine wpAny_While (codeAny_whileLoop (fun n s'=>∃σ' H',aZ X ag σ' H' s'/\W n σ' H') ?_ m0 ⟨σ,H,I,w0⟩);rintro n s1 ⟨σ1,H1,I1,w1⟩;refine md hp (dk (hc ag s1 σ1 H1 _ I1 (Fz n σ1 H1 w1)) fun b s2 ⟨H2,I2,q2⟩=>?_);cases b with
 |true=>
  obtain⟨N,hN,q2⟩:=q2;rw[aD rfl];refine md hp (dk (hb ag s2 σ1 H2 _ I2 q2) fun f s3 q3=>?_);cases f with
  |next=>
   obtain⟨σ3,H3,I3,n3⟩:=q3;obtain⟨m',hm,w3⟩:=hN σ3 H3 n3;exact⟨m',hm,σ3,H3,I3,w3⟩
  |cont=>
   obtain⟨σ3,H3,I3,n3⟩:=q3;obtain⟨m',hm,w3⟩:=hN σ3 H3 n3;exact⟨m',hm,σ3,H3,I3,w3⟩
  |brk=>exact q3
  |ret v=>exact q3
 |false=>
  rw[au cJ];exact vG ⟨σ1,H2,I2,q2⟩
end
structure It where
 go:Nat->Hp->Prop
 Ot:Nat->Hp->V->Hp->Prop
 stop:Nat->Hp->Prop
def ke(X:Cx)(ag:List (Addr×Obj))(H:Hp)(b:Addr):Prop:=
 H b=none/\b≠X.env.locals/\b∉X.fs/\(b∈X.ex\/X.s₀.heap.objs.size<=b)/\(∀x c,X.env.cells.lookup x=some c->c≠b)/\∀p∈X.pn++ag,p.1≠b
theorem aZ.FA(I:aZ X ag σ H s)(hb:s.heap.objs.size<=b)(hn:H' b=none):ke X ag H' b:=by
 refine⟨hn,jJ (cQ I.lt hb),I.X9 hb,.inr (aY I.sz hb),fun x c e z=>?_,fun p hp z=>?_⟩
 .obtain⟨v,q⟩:=I.cell x c e;exact absurd (cQ q.lt (by rw[z];exact hb)) (ii _)
 .exact absurd (cQ (bp (I.pin p hp).1) (by rw[z];exact hb)) (ii _)
structure Ah(P:Program)(w:World)(K:PySem.W.Frag)(tg:Expr)(J:It)(fp:List Addr)(it:Addr)(tn:Nat->Heap->Prop):Prop where
 mem:it∈fp
 obj:∀i h,tn i h->∀b∈fp,∃o,h.get? b=some o/\∀v,o.data≠.cell v
 keep:∀i h h',tn i h->(∀b∈fp,∀o,h.get? b=some o->h'.get? b=some o)->tn i h'
 item:∀ (X:Cx),X.prog=P->X.w=w->X.K=K->X.calm=true->∀ (i:Nat) (ag:List (Addr×Obj)) (s:Shared) (σ:St) (H:Hp) (E:Value->Shared->Prop),aZ X ag σ H s->(∀b∈fp,ke X ag H b)->tn i s.heap->J.go i H->
  wpAny (model P w) X.A (pyNext (.ref it)) (fun r s1=>∃u,r=some u/\
   wpAny (model P w) X.A (letOwnedTupleGo tg (.ref it) u) (fun _ s2=>∃x H',aZ X ag σ H' s2/\b8 x u/\J.Ot i H x H'/\tn (i+1) s2.heap/\∀b∈fp,H' b=none) E s1) E s
 done:∀ (X:Cx),X.prog=P->X.w=w->X.K=K->X.calm=true->∀ (i:Nat) (ag:List (Addr×Obj)) (s:Shared) (σ:St) (H:Hp) (E:Value->Shared->Prop),aZ X ag σ H s->(∀b∈fp,ke X ag H b)->tn i s.heap->J.stop i H->
  wpAny (model P w) X.A (pyNext (.ref it)) (fun r s1=>r=none/\aZ X ag σ H s1) E s
 self:∀ (A:Around) (i:Nat) (s:Shared) (Q:Value->Shared->Prop) (E:Value->Shared->Prop),tn i s.heap->Q (.ref it) s->wpAny (model P w) A (pyIter (.ref it)) Q E s
abbrev TI:=St->Hp->(It->Hp->Prop)->Prop
def PIE(X:Cx)(ag:List (Addr×Obj))(σ:St)(tg:Expr)(R:It->Hp->Prop)(W0:Value)(s2:Shared):Prop:=
 ∃ (it:Addr) (fp:List Addr) (tn:Nat->Heap->Prop) (J:It) (H':Hp),W0=.ref it/\aZ X ag σ H' s2/\Ah X.prog X.w X.K tg J fp it tn/\tn 0 s2.heap/\(∀b∈fp,ke X ag H' b)/\R J H'
def PI(X:Cx)(tg kg:Expr)(wi:TI):Prop:=
 ∀ (ag:List (Addr×Obj)) (s:Shared) (σ:St) (H:Hp) (R:It->Hp->Prop),aZ X ag σ H s->wi σ H R->
  wpAny (model X.prog X.w) X.A (eval kg X.env) (fun v s1=>wpAny (model X.prog X.w) X.A (pyIter v) (PIE X ag σ tg R) X.xe s1) X.xe s
theorem FB(ho:s.heap.get? it=some o)(hc:o.cls=.type n)(hd:o.data=.fields vs)(hn:["enumerate","zip","dict_itemiterator","dict_reverseitemiterator","odict_iterator","itertools.zip_longest","itertools.pairwise"].contains n=false)(hQ:Q () s):wpAny M A (letOwnedTupleGo tg (.ref it) u) Q E s:=by
 unfold letOwnedTupleGo;cases tg <;> first
  |exact wpAny_pure hQ
  |(cases u <;> first
    |exact wpAny_pure hQ
    |(refine aE (wpAny_load ho ?_);rw[hc,hd];show wpAny M A (if (["enumerate","zip","dict_itemiterator","dict_reverseitemiterator","odict_iterator","itertools.zip_longest","itertools.pairwise"].contains n&&vs[0]?==some (rawInt _))=true then _ else _) Q E s;rw[au (by intro h;rw[hn,Bool.false_and] at h;cases h)];exact wpAny_pure hQ))
def Dr(K:PySem.W.Frag)(a:Addr):It:=
 ⟨fun i H=>∃xs x,aV K H a xs/\xs[i]?=some x,fun i H x H'=>H'=H/\∀xs,aV K H a xs->xs[i]?=some x,fun i H=>∃xs,aV K H a xs/\xs.length<=i⟩
def RJ(K:PySem.W.Frag)(a:Addr):It:=
 ⟨fun i H=>∃xs x,bt K H a xs/\xs[i]?=some x,fun i H x H'=>H'=H/\∀xs,bt K H a xs->xs[i]?=some x,fun i H=>∃xs,bt K H a xs/\xs.length<=i⟩
def EW(lo:Int)(n:Nat):It:=⟨fun i _=>i<n,fun i H x H'=>H'=H/\x=.int (lo+i),fun i _=>n<=i⟩
theorem Ds{P:Program}{w:World}{K:PySem.W.Frag}{tg:Expr}(a it:Addr):Ah P w K tg (Dr K a) [it] it (fun i h=>h.IsListIter it a i) where
 mem:=by simp
 obj:=fun i h st b hb=>by
  have e:b=it:=by simpa using hb
  subst e;obtain⟨o,e,c,d⟩:=st;exact⟨o,e,fun v z=>by rw[d] at z;cases z⟩
 keep:=fun i h h' st k=>st.at fun o e=>k it (by simp) o e
 item:=by
  intro X hP hw hK hc i ag s σ H E I hf st hg;subst hP hw hK;obtain⟨xs,x,hq,hx⟩:=hg;obtain⟨its,rv,p,hz⟩:=I.list hq;obtain⟨u,hu,ru⟩:=rv.get hx;obtain⟨f0,f1,f2,f3,f4,f5⟩:=hf it (by simp);refine rl st p.isList (x:=u) (by simpa using hu) fun h' bw sb=>?_;have I1:aZ X ag σ H { s with heap:=h' }:=I.turned (t':=s.toks) (fun b o hb e=>(sb.2 b hb).trans e) f0 f1 f3 f4 f5;obtain⟨o,e,c,d⟩:=id bw;exact⟨u,rfl,FB (s:={ s with heap:=h' }) e c d (by decide) ⟨x,H,I1,ru,⟨rfl,fun ys hy=>by rw[I.Fw hy hq];exact hx⟩,bw,fun b hb=>(hf b hb).1⟩⟩
 done:=by
  intro X hP hw hK hc i ag s σ H E I hf st hg;subst hP hw hK;obtain⟨xs,hq,hx⟩:=hg;obtain⟨its,rv,p,hz⟩:=I.list hq;obtain⟨f0,f1,f2,f3,f4,f5⟩:=hf it (by simp);have hl:=rv.length;exact vj (I.ok.hd hc) st p.isList (by simp;lia) fun h' eb=>⟨rfl,I.turned (t':=s.toks) (fun b o hb e=>eb b o hb e) f0 f1 f3 f4 f5⟩
 self:=fun _ _ _ _ _ st h=>wpAny_pyIter_listiter st h
theorem Ai{P:Program}{w:World}{K:PySem.W.Frag}{tg:Expr}(a it:Addr):Ah P w K tg (RJ K a) [it] it (fun i h=>h.IsTupleIter it a i) where
 mem:=by simp
 obj:=fun i h st b hb=>by
  have e:b=it:=by simpa using hb
  subst e;obtain⟨o,e,c,d⟩:=st;exact⟨o,e,fun v z=>by rw[d] at z;cases z⟩
 keep:=fun i h h' st k=>st.at fun o e=>k it (by simp) o e
 item:=by
  intro X hP hw hK hc i ag s σ H E I hf st hg;subst hP hw hK;obtain⟨xs,x,hq,hx⟩:=hg;obtain⟨its,rv,p,hz⟩:=I.tuple hq;obtain⟨u,hu,ru⟩:=rv.get hx;obtain⟨f0,f1,f2,f3,f4,f5⟩:=hf it (by simp);refine wpAny_pyNext_tuple_item st (show s.heap.IsTuple a its.toArray from p) (x:=u) (by simpa using hu) fun h' bw sb=>?_;have I1:aZ X ag σ H { s with heap:=h' }:=I.turned (t':=s.toks) (fun b o hb e=>(sb.2 b hb).trans e) f0 f1 f3 f4 f5;obtain⟨o,e,c,d⟩:=id bw;exact⟨u,rfl,FB (s:={ s with heap:=h' }) e c d (by decide) ⟨x,H,I1,ru,⟨rfl,fun ys hy=>by rw[I.gO hy hq];exact hx⟩,bw,fun b hb=>(hf b hb).1⟩⟩
 done:=by
  intro X hP hw hK hc i ag s σ H E I hf st hg;subst hP hw hK;obtain⟨xs,hq,hx⟩:=hg;obtain⟨its,rv,p,hz⟩:=I.tuple hq;obtain⟨f0,f1,f2,f3,f4,f5⟩:=hf it (by simp);have hl:=rv.length;exact wpAny_pyNext_tuple_end (I.ok.hd hc) st (show s.heap.IsTuple a its.toArray from p) (by simp;lia) fun h' eb=>⟨rfl,I.turned (t':=s.toks) (fun b o hb e=>eb b o hb e) f0 f1 f3 f4 f5⟩
 self:=fun _ _ _ _ _ st h=>wpAny_pyIter_tupleiter st h
theorem Aj{P:Program}{w:World}{K:PySem.W.Frag}{tg:Expr}(it:Addr)(lo:Int)(n:Nat):Ah P w K tg (EW lo n) [it] it (fun i h=>IsRangeIter h it (lo+(i:Nat)*1) ((n:Int)-(i:Nat)) 1) where
 mem:=by simp
 obj:=fun i h st b hb=>by
  have e:b=it:=by simpa using hb
  subst e;exact⟨_,st,fun v z=>by
   have z':Data.fields _=Data.cell v:=z;cases z'⟩
 keep:=fun i h h' st k=>k it (by simp) _ st
 item:=by
  intro X hP hw hK hc i ag s σ H E I hf st hg;subst hP hw hK;obtain⟨f0,f1,f2,f3,f4,f5⟩:=hf it (by simp);have W:=Walks.range (prog:=X.prog) (w:=X.w) (I.ok.hd hc) it lo 1 n;refine W.item i s _ _ hg st fun v h' tk hv bw kk=>?_;obtain⟨t,rfl⟩:=hv;have I1:aZ X ag σ H { s with heap:=h',toks:=tk }:=I.turned (fun b o hb e=>kk b o (by simpa using hb) e) f0 f1 f3 f4 f5;refine⟨_,rfl,FB (s:={ s with heap:=h',toks:=tk }) (n:="range_iterator") bw rfl rfl (by decide) ⟨.int (lo+i),H,I1,⟨t,?_⟩,⟨rfl,rfl⟩,bw,fun b hb=>(hf b hb).1⟩⟩;rw[Int.mul_one]
 done:=by
  intro X hP hw hK hc i ag s σ H E I hf st hg;subst hP hw hK;obtain⟨f0,f1,f2,f3,f4,f5⟩:=hf it (by simp);exact wpAny_pyNext_range_end (I.ok.hd hc) st (by have:n<=i:=hg;lia) fun h' eb=>⟨rfl,I.turned (t':=s.toks) (fun b o hb e=>eb b o hb e) f0 f1 f3 f4 f5⟩
 self:=fun _ _ _ _ _ st h=>wpAny_pyIter_rangeiter st h
section
variable {X:Cx} {tg:Expr}
def M7(K:PySem.W.Frag)(tl:TE):TI:=fun σ H R=>tl σ H fun x H1=>∃a,x=.ref a/\(∃xs,aV K H1 a xs)/\R (Dr K a) H1
def Yl(K:PySem.W.Frag)(tl:TE):TI:=fun σ H R=>tl σ H fun x H1=>∃a,x=.ref a/\(∃xs,bt K H1 a xs)/\R (RJ K a) H1
theorem bP{l:Expr}{tl:TE}(hl:PE X l tl):PI X tg l (M7 X.K tl):=by
 intro ag s σ H R I h;refine dk (hl ag s σ H _ I h) fun v s1 ⟨x,H1,I1,r1,q1⟩=>?_;obtain⟨a,e,⟨xs,hq⟩,q⟩:=q1;subst e;cases r1;obtain⟨its,rv,p,hz⟩:=I1.list hq;refine oR p.isList ?_;refine⟨s1.heap.objs.size,[s1.heap.objs.size],_,_,H1,rfl,I1.kept (t':=s1.toks) fun b o e=>cg _ e,Ds a _,⟨_,cR _ rfl,rfl,rfl⟩,fun b hb=>?_,q⟩;have e:b=s1.heap.objs.size:=by simpa using hb
 subst e;exact I1.FA (aW _) (I1.cI.fresh (aW _))
theorem rX{l:Expr}{tl:TE}(hl:PE X l tl):PI X tg l (Yl X.K tl):=by
 intro ag s σ H R I h;refine dk (hl ag s σ H _ I h) fun v s1 ⟨x,H1,I1,r1,q1⟩=>?_;obtain⟨a,e,⟨xs,hq⟩,q⟩:=q1;subst e;cases r1;obtain⟨its,rv,p,hz⟩:=I1.tuple hq;refine zZ (show s1.heap.IsTuple a its.toArray from p) ?_;refine⟨s1.heap.objs.size,[s1.heap.objs.size],_,_,H1,rfl,I1.kept (t':=s1.toks) fun b o e=>cg _ e,Ai a _,⟨_,cR _ rfl,rfl,rfl⟩,fun b hb=>?_,q⟩;have e:b=s1.heap.objs.size:=by simpa using hb
 subst e;exact I1.FA (aW _) (I1.cI.fresh (aW _))
theorem xE{ag:List (Addr×Obj)}{σ:St}{H:Hp}{s:Shared}{R:It->Hp->Prop}{E:Value->Shared->Prop}{lo hi:Int}{t u v:Tok}{tk:Nat}(I:aZ X ag σ H s)(h1:-(2 ^ 62)<=lo)(h2:lo<2 ^ 62)(h3:-(2 ^ 62)<=hi)(h4:hi<2 ^ 62)(q:R (EW lo (hi-lo).toNat) H):wpAny (model X.prog X.w) X.A (pyIter (.ref s.heap.objs.size)) (PIE X ag σ tg R) E { s with heap:=s.heap.push { cls:=.type "range",data:=.fields #[.int lo t,.int hi u,.int 1 v] },toks:=tk }:=by
 refine wpAny_pyIter_range (IsRange.new ..) (small_one h1 h2 h3 h4) ?_;have I1:aZ X ag σ H { s with heap:=s.heap.push { cls:=.type "range",data:=.fields #[.int lo t,.int hi u,.int 1 v] },toks:=tk }:=I.kept fun b o e=>cg _ e;refine⟨(s.heap.push { cls:=.type "range",data:=.fields #[.int lo t,.int hi u,.int 1 v] }).objs.size,[(s.heap.push { cls:=.type "range",data:=.fields #[.int lo t,.int hi u,.int 1 v] }).objs.size],_,_,H,rfl,
  I1.kept (t':=tk) fun b o e=>cg _ e,Aj _ lo (hi-lo).toNat,?_,fun b hb=>?_,q⟩
 .have e1:lo+((0:Nat):Int)*1=lo:=by simp
  have e2:(((hi-lo).toNat:Nat):Int)-((0:Nat):Int)=Builtin.Range.rangeSize lo hi 1:=by rw[rangeSize_one];split <;> lia
  show IsRangeIter _ _ (lo+((0:Nat):Int)*1) ((((hi-lo).toNat:Nat):Int)-((0:Nat):Int)) 1;rw[e1,e2];exact cR _ rfl
 .have e:b=(s.heap.push { cls:=.type "range",data:=.fields #[.int lo t,.int hi u,.int 1 v] }).objs.size:=by simpa using hb
  subst e;exact I1.FA (aW _) (I1.cI.fresh (aW _))
def S4(ta:TA):TI:=fun σ H R=>ta σ H fun vs H1=>∃j:Int,vs=[.int j]/\-(2 ^ 62)<=j/\j<2 ^ 62/\R (EW 0 j.toNat) H1
def S5(ta:TA):TI:=fun σ H R=>ta σ H fun vs H1=>∃i j:Int,vs=[.int i,.int j]/\(-(2 ^ 62)<=i/\i<2 ^ 62/\-(2 ^ 62)<=j/\j<2 ^ 62)/\R (EW i (j-i).toNat) H1
theorem bC{a:Expr}{ta:TA}{p pos:Pos}(hg:Gl X "range")(hm:X.mg "range"=none)(ha:PA X [a] ta)(hs:starEach [a] X.env=[(false,eval a X.env)]:=by rfl):PI X tg (.Call (.Name "range" p) [a] [] pos) (S4 ta):=by
 intro ag s σ H R I h;refine Call_ (mr I hg hm boot_range (vc (dk (ha pos ag s σ H _ I h) fun us s1 ⟨vs,H1,I1,r1,q1⟩=>?_) hs rfl));obtain⟨j,e,q1,q2,q⟩:=q1;subst e;cases r1 with
 |cons r rr=>
  cases rr;obtain⟨t,rfl⟩:=r;exact call_range_1 (xE I1 (by lia) (by lia) q1 q2 (by simpa using q))
theorem pe(hg:Gl X "range")(hm:X.mg "range"=none)(ha:PA X [a,b] ta)(hs:starEach [a,b] X.env=[(false,eval a X.env),(false,eval b X.env)]:=by rfl)(uv:starEach [b] X.env=[(false,eval b X.env)]:=by rfl):
  PI X tg (.Call (.Name "range" p) [a,b] [] pos) (S5 ta):=by
 intro ag s σ H R I h;refine Call_ (mr I hg hm boot_range (vc (dk (ha pos ag s σ H _ I h) fun us s1 ⟨vs,H1,I1,r1,q1⟩=>?_) (by rw[hs,uv]) (by rw[uv];rfl)));obtain⟨i,j,e,⟨q1,q2,q3,q4⟩,q⟩:=q1;subst e;cases r1 with
 |cons r rr=>
  cases rr with
  |cons r' rr=>
   cases rr;obtain⟨t,rfl⟩:=r;obtain⟨t',rfl⟩:=r';exact call_range_2 (xE I1 q1 q2 q3 q4 q)
def Ym(wi:TI)(g:TG)(tb:TS):TS:=fun D σ H=>wi σ H fun J H1=>∃W:Nat->Nat->St->Hp->Prop,(∃m,W 0 m σ H1)/\∀i m σ H,W i m σ H->
 (J.stop i H/\D.nx σ H)\/(J.go i H/\∃N:St->Hp->Prop,(∀σ' H',N σ' H'->∃m',m'<m/\W (i+1) m' σ' H')/\∀x H',J.Ot i H x H'->g x σ H' fun σ2 H2=>tb { D with nx:=N,ct:=N,bk:=D.nx } σ2 H2)
def rY(fp:List Addr)(h:Heap):List (Addr×Obj):=fp.filterMap fun b=>(h.get? b).map fun o=>(b,o)
theorem jM(hb:b∈fp)(e:h.get? b=some o):(b,o)∈rY fp h:=l7.mpr ⟨b,hb,by rw[e];rfl⟩
theorem Dt(hp:p∈rY fp h):p.1∈fp/\h.get? p.1=some p.2:=by
 obtain⟨b,hb,e⟩:=l7.mp hp;cases q:h.get? b with
 |none=>rw[q] at e;cases e
 |some o=>
  rw[q] at e;have e':(b,o)=p:=bX e;subst e';exact⟨hb,q⟩
theorem aZ.pinned(I:aZ X ag σ H s)(hf:∀b∈fp,ke X ag H b)(ho:∀b∈fp,∃o,s.heap.get? b=some o/\∀v,o.data≠.cell v):aZ X (ag++rY fp s.heap) σ H s:=
 I.BV fun p hp=>(bY.mp hp).elim (fun z=>I.pin p (jr _ z)) fun z=>by
  obtain⟨hb,e⟩:=Dt z;obtain⟨f0,f1,f2,_⟩:=hf p.1 hb;obtain⟨o,e',d⟩:=ho p.1 hb;rw[e] at e';cases e';exact⟨e,f0,f1,f2,d⟩
theorem aZ.nk(I:aZ X (ag++pl) σ H s):aZ X ag σ H s:=I.BV fun p hp=>I.pin p (jr _ (iz _ hp))
theorem cP(hp:PassesOwn (model X.prog X.w) X.A X.env X.xe)(hc:X.calm=true)(hi:PI X tg kg wi)(hg:PG X tg g)(hb:y0 X body tb)(hs:∀x,foldedSetIterable kg X.env x=pure x:=by intro _;rfl):PS X (.For tg kg body [] pos) (Ym wi g tb):=by
 intro ag s σ H D I h;refine wpAny_For (dk (hi ag s σ H _ I h) fun v s1 h1=>dk h1 fun W0 s2 h2=>?_) hs;obtain⟨it,fp,tn,J,H2,e,I2,T,t4,f2,W,⟨m0,w0⟩,Fz⟩:=h2;subst e;have Ak:∀ {H':Hp},(∀b∈fp,H' b=none)->∀b∈fp,ke X ag H' b:=fun hn b hb=>⟨hn b hb,(f2 b hb).2⟩
 refine codeAny_forLoop_any (fun n s'=>∃i σ' H',aZ X ag σ' H' s'/\tn i s'.heap/\(∀b∈fp,H' b=none)/\W i n σ' H') ?_ m0 ⟨0,σ,H2,I2,t4,fun b hb=>(f2 b hb).1,w0⟩;rintro n s3 ⟨i,σ3,H3,I3,Am,Ou,w3⟩;rcases Fz i n σ3 H3 w3 with ⟨stop,qn⟩|⟨go,N,hN,step⟩
 .refine md hp (dk (T.done X rfl rfl rfl hc i ag s3 σ3 H3 X.xe I3 (Ak Ou) Am stop) fun r s4 ⟨hr,I4⟩=>?_);subst hr;exact vG ⟨σ3,H3,I4,qn⟩
 .refine md hp (dk (T.item X rfl rfl rfl hc i ag s3 σ3 H3 X.xe I3 (Ak Ou) Am go) fun r s4 ⟨u,hr,h4⟩=>?_);subst hr;refine md hp (dk h4 fun _ s5 ⟨x,H5,I5,r5,y5,xp,Yn⟩=>?_);have Yo:=I5.pinned (Ak Yn) (T.obj _ _ xp);refine md hp (dk (hg _ s5 σ3 H5 x u _ Yo r5 (step x H5 y5)) fun _ s6 ⟨σ6,H6,I6,q6⟩=>?_);refine md hp (dk (hb _ s6 σ6 H6 _ I6 q6) fun f s7 q7=>?_);have again:∀ {σ7:St} {H7:Hp},aZ X (ag++rY fp s5.heap) σ7 H7 s7->N σ7 H7->∃m,m<n/\∃i σ' H',aZ X ag σ' H' s7/\tn i s7.heap/\(∀b∈fp,H' b=none)/\W i m σ' H':=fun {σ7 H7} I7 n7=>by
   obtain⟨m',hm,w7⟩:=hN σ7 H7 n7;refine⟨m',hm,i+1,σ7,H7,I7.nk,T.keep _ _ _ xp fun b hb o e=>(I7.pin (b,o) (jr _ (jr _ (jM hb e)))).1,fun b hb=>?_,w7⟩;obtain⟨o,e,d⟩:=T.obj _ _ xp b hb;exact(I7.pin (b,o) (jr _ (jr _ (jM hb e)))).2.1
  cases f with
  |next=>obtain⟨σ7,H7,I7,n7⟩:=q7;exact again I7 n7
  |cont=>obtain⟨σ7,H7,I7,n7⟩:=q7;exact again I7 n7
  |brk=>obtain⟨σ7,H7,I7,q7⟩:=q7;exact⟨σ7,H7,I7.nk,q7⟩
  |ret v=>obtain⟨x7,σ7,H7,I7,r7,q7⟩:=q7;exact⟨x7,σ7,H7,I7.nk,r7,q7⟩
end
theorem hW{K:PySem.W.Frag}{a:Addr}{xs:List V}{g:TG}{tb:TS}{D:xA}{σ:St}{H:Hp}(Pv:Nat->St->Hp->Prop)(h0:Pv 0 σ H)(hl:∀i σ H,i<=xs.length->Pv i σ H->aV K H a xs)(hs:∀i x σ H,xs[i]?=some x->Pv i σ H->g x σ H fun σ2 H2=>tb { D with nx:=Pv (i+1),ct:=Pv (i+1),bk:=D.nx } σ2 H2)(hd:∀σ H,Pv xs.length σ H->D.nx σ H):
  ∃W:Nat->Nat->St->Hp->Prop,(∃m,W 0 m σ H)/\∀i m σ H,W i m σ H->
   ((Dr K a).stop i H/\D.nx σ H)\/((Dr K a).go i H/\∃N:St->Hp->Prop,(∀σ' H',N σ' H'->∃m',m'<m/\W (i+1) m' σ' H')/\∀x H',(Dr K a).Ot i H x H'->g x σ H' fun σ2 H2=>tb { D with nx:=N,ct:=N,bk:=D.nx } σ2 H2):=by
 refine⟨fun i m σ H=>m=xs.length-i/\i<=xs.length/\Pv i σ H,⟨xs.length,by simp,de _,h0⟩,?_⟩;rintro i m σ H ⟨rfl,hi,p⟩;have q:=hl i σ H hi p;by_cases fz:i<xs.length
 .refine .inr ⟨⟨xs,xs[i],q,by simp[fz]⟩,Pv (i+1),fun σ' H' p'=>⟨xs.length-(i+1),by lia,rfl,fz,p'⟩,fun x H' y=>?_⟩;obtain⟨e,y⟩:=y;subst e;exact hs i x σ _ (y xs q) p
 .have e:i=xs.length:=by lia
  subst e;exact .inl ⟨⟨xs,q,aW _⟩,hd σ H p⟩
theorem vU{K:PySem.W.Frag}{a:Addr}{xs:List V}{g:TG}{tb:TS}{D:xA}{σ:St}{H:Hp}(Pv:Nat->St->Hp->Prop)(h0:Pv 0 σ H)(hl:∀i σ H,i<=xs.length->Pv i σ H->bt K H a xs)(hs:∀i x σ H,xs[i]?=some x->Pv i σ H->g x σ H fun σ2 H2=>tb { D with nx:=Pv (i+1),ct:=Pv (i+1),bk:=D.nx } σ2 H2)(hd:∀σ H,Pv xs.length σ H->D.nx σ H):
  ∃W:Nat->Nat->St->Hp->Prop,(∃m,W 0 m σ H)/\∀i m σ H,W i m σ H->
   ((RJ K a).stop i H/\D.nx σ H)\/((RJ K a).go i H/\∃N:St->Hp->Prop,(∀σ' H',N σ' H'->∃m',m'<m/\W (i+1) m' σ' H')/\∀x H',(RJ K a).Ot i H x H'->g x σ H' fun σ2 H2=>tb { D with nx:=N,ct:=N,bk:=D.nx } σ2 H2):=by
 refine⟨fun i m σ H=>m=xs.length-i/\i<=xs.length/\Pv i σ H,⟨xs.length,by simp,de _,h0⟩,?_⟩;rintro i m σ H ⟨rfl,hi,p⟩;have q:=hl i σ H hi p;by_cases fz:i<xs.length
 .refine .inr ⟨⟨xs,xs[i],q,by simp[fz]⟩,Pv (i+1),fun σ' H' p'=>⟨xs.length-(i+1),by lia,rfl,fz,p'⟩,fun x H' y=>?_⟩;obtain⟨e,y⟩:=y;subst e;exact hs i x σ _ (y xs q) p
 .have e:i=xs.length:=by lia
  subst e;exact .inl ⟨⟨xs,q,aW _⟩,hd σ H p⟩
theorem dg{lo:Int}{n:Nat}{g:TG}{tb:TS}{D:xA}{σ:St}{H:Hp}(Pv:Nat->St->Hp->Prop)(h0:Pv 0 σ H)(hs:∀i σ H,i<n->Pv i σ H->g (.int (lo+i)) σ H fun σ2 H2=>tb { D with nx:=Pv (i+1),ct:=Pv (i+1),bk:=D.nx } σ2 H2)(hd:∀σ H,Pv n σ H->D.nx σ H):
  ∃W:Nat->Nat->St->Hp->Prop,(∃m,W 0 m σ H)/\∀i m σ H,W i m σ H->
   ((EW lo n).stop i H/\D.nx σ H)\/((EW lo n).go i H/\∃N:St->Hp->Prop,(∀σ' H',N σ' H'->∃m',m'<m/\W (i+1) m' σ' H')/\∀x H',(EW lo n).Ot i H x H'->g x σ H' fun σ2 H2=>tb { D with nx:=N,ct:=N,bk:=D.nx } σ2 H2):=by
 refine⟨fun i m σ H=>m=n-i/\i<=n/\Pv i σ H,⟨n,by simp,de _,h0⟩,?_⟩;rintro i m σ H ⟨rfl,hi,p⟩;by_cases fz:i<n
 .refine .inr ⟨fz,Pv (i+1),fun σ' H' p'=>⟨n-(i+1),by lia,rfl,fz,p'⟩,fun x H' y=>?_⟩;obtain⟨e,y⟩:=y;subst e y;exact hs i σ _ fz p
 .have e:i=n:=by lia
  subst e;exact .inl ⟨aW _,hd σ H p⟩
theorem xF(Pv:St->Hp->Prop)(μ:St->Hp->Nat)(h0:Pv σ H)(hs:∀σ H,Pv σ H->c σ H fun b H1=>if b=true then tb { D with nx:=fun σ' H'=>Pv σ' H'/\μ σ' H'<μ σ H,ct:=fun σ' H'=>Pv σ' H'/\μ σ' H'<μ σ H,bk:=D.nx } σ H1 else D.nx σ H1)(mono:∀σ H Q Q',(∀b H1,Q b H1->Q' b H1)->c σ H Q->c σ H Q'):Fy c tb D σ H:=by
 refine⟨fun m σ H=>m=μ σ H/\Pv σ H,⟨_,rfl,h0⟩,?_⟩;rintro m σ H ⟨rfl,p⟩;refine mono σ H _ _ (fun b H1 q=>?_) (hs σ H p);cases b with
 |true=>exact⟨_,fun σ' H' ⟨p',l⟩=>⟨_,l,rfl,p'⟩,q⟩
 |false=>exact q
abbrev R2:=V->V->Hp->VK->Prop
def j6(X:Cx)(f:Value->Value->Sem Value)(r:R2):Prop:=
 ∀ (ag:List (Addr×Obj)) (s:Shared) (σ:St) (H:Hp) (x y:V) (v u:Value) (Q:VK),aZ X ag σ H s->b8 x v->b8 y u->r x y H Q->
  wpAny (model X.prog X.w) X.A (f v u) (EP X ag σ Q) X.xe s
def Yp(X:Cx)(f:Value->Sem Value)(r:V->Hp->VK->Prop):Prop:=
 ∀ (ag:List (Addr×Obj)) (s:Shared) (σ:St) (H:Hp) (x:V) (v:Value) (Q:VK),aZ X ag σ H s->b8 x v->r x H Q->
  wpAny (model X.prog X.w) X.A (f v) (EP X ag σ Q) X.xe s
def fA(X:Cx)(f:Value)(r:List V->Hp->VK->Prop):Prop:=
 ∀ (ag:List (Addr×Obj)) (s:Shared) (σ:St) (H:Hp) (xs:List V) (us:List Value) (Q:VK),aZ X ag σ H s->bg xs us->r xs H Q->
  wpAny (model X.prog X.w) X.A (call f us) (EP X ag σ Q) X.xe s
def gw(r:R2)(ta tb:TE):TE:=fun σ H Q=>ta σ H fun x H1=>tb σ H1 fun y H2=>r x y H2 Q
def tUn(r:V->Hp->VK->Prop)(ta:TE):TE:=fun σ H Q=>ta σ H fun x H1=>r x H1 Q
def rI(C:Int->Int->Prop)(g:Int->Int->V):R2:=fun x y H Q=>∃i j,x=.int i/\y=.int j/\C i j/\Q (g i j) H
def tW(g:Int->Int->V):R2:=fun x y H Q=>∃i j,x=.int i/\y=.int j/\Q (g i j) H
def rU(g:Int->V):V->Hp->VK->Prop:=fun x H Q=>∃i,x=.int i/\Q (g i) H
section
variable {X:Cx} {a b c:Expr} {ta tb tc:TE} {pos:Pos}
theorem Ov(ha:PE X a ta)(hb:PE X b tb){ag:List (Addr×Obj)}{s:Shared}{σ:St}{H:Hp}{R:V->V->Hp->Prop}(I:aZ X ag σ H s)(h:ta σ H fun x H1=>tb σ H1 fun y H2=>R x y H2){Q:Value->Shared->Prop}{f:Value->Value->Sem Value}(hf:∀v u s2 x y H2,aZ X ag σ H2 s2->b8 x v->b8 y u->R x y H2->wpAny (model X.prog X.w) X.A (f v u) Q X.xe s2):
  wpAny (model X.prog X.w) X.A (eval a X.env) (fun v s₁=>wpAny (model X.prog X.w) X.A (eval b X.env) (fun u s₂=>wpAny (model X.prog X.w) X.A (f v u) Q X.xe s₂) X.xe s₁) X.xe s:=by
 refine dk (ha ag s σ H _ I h) fun v s1 ⟨x,H1,I1,r1,q1⟩=>?_;refine dk (hb ag s1 σ H1 _ I1 q1) fun u s2 ⟨y,H2,I2,r2,q2⟩=>?_;exact hf v u s2 x y H2 I2 r1 r2 q2
theorem bu{op:Operator}{r:R2}(ho:j6 X (binaryOp op) r)(ha:PE X a ta)(hb:PE X b tb):PE X (.BinOp a op b pos) (gw r ta tb):=by
 intro ag s σ H Q I h;exact wpAny_BinOp (Ov ha hb I h fun v u s2 x y H2 I2 rx ry q=>ho ag s2 σ H2 x y v u Q I2 rx ry q)
theorem S6(ho:Yp X (unaryOp op) r)(ha:PE X a ta):PE X (.UnaryOp op a pos) (tUn r ta):=by
 intro ag s σ H Q I h;exact UnaryOp_ (dk (ha ag s σ H _ I h) fun v s1 ⟨x,H1,I1,r1,q1⟩=>ho ag s1 σ H1 x v Q I1 r1 q1)
theorem W1{f:Value->Value->Sem Value}{C:Int->Int->Prop}{g:Int->Int->Int}(rule:∀ (i j:Int) (t u:Tok) (s:Shared) (Q:Value->Shared->Prop) (E:Value->Shared->Prop),C i j->Q (.int (g i j) s.toks) { s with toks:=s.toks+1 }->wpAny (model X.prog X.w) X.A (f (.int i t) (.int j u)) Q E s):
  j6 X f (rI C fun i j=>.int (g i j)):=by
 intro ag s σ H x y v u Q I rx ry h;obtain⟨i,j,rfl,rfl,hc,q⟩:=h;obtain⟨t,rfl⟩:=rx;obtain⟨t',rfl⟩:=ry;exact rule i j t t' s _ _ hc ⟨.int (g i j),H,I.tok _,⟨_,rfl⟩,q⟩
theorem S7{f:Value->Value->Sem Value}{g:Int->Int->Int}(rule:∀ (i j:Int) (t u:Tok) (s:Shared) (Q:Value->Shared->Prop) (E:Value->Shared->Prop),Q (.int (g i j) s.toks) { s with toks:=s.toks+1 }->wpAny (model X.prog X.w) X.A (f (.int i t) (.int j u)) Q E s):
  j6 X f (tW fun i j=>.int (g i j)):=by
 intro ag s σ H x y v u Q I rx ry h;obtain⟨i,j,rfl,rfl,q⟩:=h;obtain⟨t,rfl⟩:=rx;obtain⟨t',rfl⟩:=ry;exact rule i j t t' s _ _ ⟨.int (g i j),H,I.tok _,⟨_,rfl⟩,q⟩
theorem JR{f:Value->Value->Sem Value}{g:Int->Int->Bool}(rule:∀ (i j:Int) (t u:Tok) (s:Shared) (Q:Value->Shared->Prop) (E:Value->Shared->Prop),Q (.bool (g i j)) s->wpAny (model X.prog X.w) X.A (f (.int i t) (.int j u)) Q E s):
  j6 X f (tW fun i j=>.bl (g i j)):=by
 intro ag s σ H x y v u Q I rx ry h;obtain⟨i,j,rfl,rfl,q⟩:=h;obtain⟨t,rfl⟩:=rx;obtain⟨t',rfl⟩:=ry;exact rule i j t t' s _ _ ⟨.bl (g i j),H,I,rfl,q⟩
def Ow(i j:Int):Prop:=0<j/\j<1073741824
def S9(i j:Int):Prop:=0<=j/\j<=1000000/\i.natAbs<2 ^ 64
def JS(i j:Int):Prop:=(-(2 ^ 64)<i/\i<2 ^ 64)\/(-(2 ^ 64)<j/\j<2 ^ 64)
theorem JS.ok(h:JS i j):IntMulOk i j:=by
 rcases h with ⟨h1,h2⟩|⟨h1,h2⟩
 .exact .of_left (intBits_le_64 h1 h2)
 .exact .of_right (intBits_le_64 h1 h2)
theorem dP:j6 X (binaryOp .Add) (tW fun i j=>.int (i+j)):=S7 fun _ _ _ _ _ _ _ q=>add_int q
theorem mv:j6 X (binaryOp .Sub) (tW fun i j=>.int (i-j)):=S7 fun _ _ _ _ _ _ _ q=>sub_int q
theorem jN:j6 X (binaryOp .Mult) (rI JS fun i j=>.int (i*j)):=W1 fun _ _ _ _ _ _ _ hc q=>mul_int q hc.ok
theorem vV:j6 X (binaryOp .FloorDiv) (rI Ow fun i j=>.int (i / j)):=W1 fun i j _ _ _ _ _ hc q=>by
 have h1:(0:Int)<j:=hc.1;have h2:j<1073741824:=hc.2;exact floordiv_int (by lia) (by rw[Fj i (by lia)];exact q) (.inl (PyProof.noPylong_small (by lia)))
theorem iU:j6 X (binaryOp .Mod) (rI (fun _ j=>0<j) fun i j=>.int (i % j)):=W1 fun i j _ _ _ _ _ hc q=>by
 have h1:(0:Int)<j:=hc;exact mod_int' (by lia) (by rw[zf i (by lia)];exact q)
theorem FE:j6 X (binaryOp .Pow) (rI S9 fun i j=>.int (i ^ j.toNat)):=W1 fun _ _ _ _ _ _ _ hc q=>pow_int_small hc.1 hc.2.1 hc.2.2 q
theorem unI{f:Value->Sem Value}{g:Int->Int}(rule:∀ (i:Int) (t:Tok) (s:Shared) (Q:Value->Shared->Prop) (E:Value->Shared->Prop),Q (.int (g i) s.toks) { s with toks:=s.toks+1 }->wpAny (model X.prog X.w) X.A (f (.int i t)) Q E s):
  Yp X f (rU fun i=>.int (g i)):=by
 intro ag s σ H x v Q I rx h;obtain⟨i,rfl,q⟩:=h;obtain⟨t,rfl⟩:=rx;exact rule i t s _ _ ⟨.int (g i),H,I.tok _,⟨_,rfl⟩,q⟩
theorem Oy:Yp X (unaryOp .USub) (rU fun i=>.int (-i)):=unI fun _ _ _ _ _ q=>neg_int q
end
def Oz:V->V->Bool
 |.bz,.bz=>true|.bz,.int _=>true|.int _,.bz=>true|.bz,.bl _=>true|.bl _,.bz=>true|.bz,.str _=>true|.str _,.bz=>true
 |.int _,.int _=>true|.bl _,.bl _=>true|.str _,.str _=>true|.EU _,.EU _=>true
 |.int _,.str _=>true|.str _,.int _=>true|.bl _,.str _=>true|.str _,.bl _=>true
 |_,_=>false
def rEq:R2:=fun x y H Q=>Oz x y=true/\Q (.bl (decide (x=y))) H
def Yq:R2:=fun x y H Q=>Oz x y=true/\Q (.bl (!decide (x=y))) H
theorem B0:decide (V.int i=V.int j)=(i==j):=by
 rw[hV];simp
theorem FF:decide (V.bl i=V.bl j)=(i==j):=by
 rw[hV];simp
theorem B1:decide (V.str i=V.str j)=(i==j):=by
 rw[hV];simp
theorem B3:decide (V.EU i=V.EU j)=(i.toList==j.toList):=by
 rw[hV];cases i;cases j;simp
section
variable {X:Cx} {a b c:Expr} {ta tb tc:TE} {pos:Pos}
theorem b9(I:aZ X ag σ H s)(q:Q (.bl k) H)(e:k=k'):EP X ag σ Q (.bool k') s:=by
 subst e;exact⟨.bl k,H,I,rfl,q⟩
theorem eN:j6 X (compareOp .Eq) rEq:=by
 intro ag s σ H x y v u Q I rx ry h;obtain⟨hs,q⟩:=h;cases x with
 |bz=>
  cases rx;cases y with
  |bz=>cases ry;exact PySem.EqNone.eq_none_none (b9 I q (by simp))
  |bl j=>cases ry;exact PySem.EqNone.eq_none_bool (b9 I q (by simp))
  |int j=>obtain⟨t',rfl⟩:=ry;exact PySem.EqNone.eq_none_int (b9 I q (by simp))
  |str j=>obtain⟨t',rfl⟩:=ry;exact PySem.EqNone.eq_none_str (b9 I q (by simp))
  |_=>exact absurd (show false=true from hs) cJ
 |bl i=>
  cases rx;cases y with
  |bz=>cases ry;exact PySem.EqNone.eq_bool_none (b9 I q (by simp))
  |bl j=>cases ry;exact eq_bool (b9 I q FF)
  |str j=>obtain⟨t',rfl⟩:=ry;exact PySem.EqMixed.eq_bool_str (b9 I q (by simp))
  |_=>exact absurd (show false=true from hs) cJ
 |int i=>
  obtain⟨t,rfl⟩:=rx;cases y with
  |bz=>cases ry;exact PySem.EqNone.eq_int_none (b9 I q (by simp))
  |int j=>obtain⟨t',rfl⟩:=ry;exact eq_int (b9 I q B0)
  |str j=>obtain⟨t',rfl⟩:=ry;exact PySem.EqMixed.eq_int_str (b9 I q (by simp))
  |_=>exact absurd (show false=true from hs) cJ
 |str i=>
  obtain⟨t,rfl⟩:=rx;cases y with
  |bz=>cases ry;exact PySem.EqNone.eq_str_none (b9 I q (by simp))
  |bl j=>cases ry;exact PySem.EqMixed.eq_str_bool (b9 I q (by simp))
  |int j=>obtain⟨t',rfl⟩:=ry;exact PySem.EqMixed.eq_str_int (b9 I q (by simp))
  |str j=>obtain⟨t',rfl⟩:=ry;exact eq_str (b9 I q B1)
  |_=>exact absurd (show false=true from hs) cJ
 |EU i=>
  obtain⟨t,rfl⟩:=rx;cases y with
  |EU j=>obtain⟨t',rfl⟩:=ry;exact PySem.W.eq_bytes (b9 I q B3)
  |_=>exact absurd (show false=true from hs) cJ
 |_=>cases y <;> exact absurd (show false=true from hs) cJ
theorem qa:j6 X (compareOp .NotEq) Yq:=by
 intro ag s σ H x y v u Q I rx ry h;obtain⟨hs,q⟩:=h;cases x with
 |bz=>
  cases rx;cases y with
  |bz=>cases ry;exact PySem.EqNone.ne_none_none (b9 I q (by simp))
  |bl j=>cases ry;exact PySem.EqNone.ne_none_bool (b9 I q (by simp))
  |int j=>obtain⟨t',rfl⟩:=ry;exact PySem.EqNone.ne_none_int (b9 I q (by simp))
  |str j=>obtain⟨t',rfl⟩:=ry;exact PySem.EqNone.ne_none_str (b9 I q (by simp))
  |_=>exact absurd (show false=true from hs) cJ
 |bl i=>
  cases rx;cases y with
  |bz=>cases ry;exact PySem.EqNone.ne_bool_none (b9 I q (by simp))
  |bl j=>cases ry;exact ne_bool (b9 I q (congrArg not FF))
  |str j=>obtain⟨t',rfl⟩:=ry;exact PySem.EqMixed.ne_bool_str (b9 I q (by simp))
  |_=>exact absurd (show false=true from hs) cJ
 |int i=>
  obtain⟨t,rfl⟩:=rx;cases y with
  |bz=>cases ry;exact PySem.EqNone.ne_int_none (b9 I q (by simp))
  |int j=>obtain⟨t',rfl⟩:=ry;exact ne_int (b9 I q (congrArg not B0))
  |str j=>obtain⟨t',rfl⟩:=ry;exact PySem.EqMixed.ne_int_str (b9 I q (by simp))
  |_=>exact absurd (show false=true from hs) cJ
 |str i=>
  obtain⟨t,rfl⟩:=rx;cases y with
  |bz=>cases ry;exact PySem.EqNone.ne_str_none (b9 I q (by simp))
  |bl j=>cases ry;exact PySem.EqMixed.ne_str_bool (b9 I q (by simp))
  |int j=>obtain⟨t',rfl⟩:=ry;exact PySem.EqMixed.ne_str_int (b9 I q (by simp))
  |str j=>obtain⟨t',rfl⟩:=ry;exact ne_str (b9 I q (congrArg not B1))
  |_=>exact absurd (show false=true from hs) cJ
 |EU i=>
  obtain⟨t,rfl⟩:=rx;cases y with
  |EU j=>obtain⟨t',rfl⟩:=ry;exact PySem.W.ne_bytes (b9 I q (congrArg not B3))
  |_=>exact absurd (show false=true from hs) cJ
 |_=>cases y <;> exact absurd (show false=true from hs) cJ
theorem iV:j6 X (compareOp .Lt) (tW fun i j=>.bl (decide (i<j))):=JR fun _ _ _ _ _ _ _ q=>lt_int q
theorem B4:j6 X (compareOp .LtE) (tW fun i j=>.bl (decide (i<=j))):=JR fun _ _ _ _ _ _ _ q=>le_int q
theorem B5:j6 X (compareOp .Gt) (tW fun i j=>.bl (decide (j<i))):=JR fun _ _ _ _ _ _ _ q=>gt_int q
theorem S_:j6 X (compareOp .GtE) (tW fun i j=>.bl (decide (j<=i))):=JR fun _ _ _ _ _ _ _ q=>ge_int q
theorem rZ:j6 X (compareOp .Is) (fun x y H Q=>y=.bz/\Q (.bl (decide (x=.bz))) H):=by
 intro ag s σ H x y v u Q I rx ry h;obtain⟨rfl,q⟩:=h;cases ry;refine is_none_gen (b9 I q ?_);cases x <;> first
  |(cases rx;rfl)
  |(obtain⟨t,rfl⟩:=rx;rfl)
theorem i_:j6 X (compareOp .IsNot) (fun x y H Q=>y=.bz/\Q (.bl (!decide (x=.bz))) H):=by
 intro ag s σ H x y v u Q I rx ry h;obtain⟨rfl,q⟩:=h;cases ry;refine isnot_none_gen (b9 I q ?_);cases x <;> first
  |(cases rx;rfl)
  |(obtain⟨t,rfl⟩:=rx;rfl)
theorem aR(b:Expr)(h:op≠.In:=by decide)(h2:op≠.NotIn:=by decide):behindInMarks op b=false:=by
 have e1:(op==CmpOp.In)=false:=by cases op <;> first|rfl|exact absurd rfl h
 have e2:(op==CmpOp.NotIn)=false:=by cases op <;> first|rfl|exact absurd rfl h2
 cases b <;> simp[behindInMarks,e1,e2]
theorem gh(ho:j6 X (compareOp op) r)(ha:PE X a ta)(hb:PE X b tb)(hm:behindInMarks op b=false):PE X (.Compare a [op] [b] pos) (gw r ta tb):=by
 intro ag s σ H Q I h;exact wpAny_Compare1 (Ov ha hb I h fun v u s2 x y H2 I2 rx ry q=>ho ag s2 σ H2 x y v u Q I2 rx ry q) hm
def ja(t:TE):TT:=fun σ H Q=>t σ H fun x H'=>∃k,x=.bl k/\Q k H'
theorem aK(ho:j6 X (compareOp op) r)(ha:PE X a ta)(hb:PE X b tb)(hm:behindInMarks op b=false):PT X (.Compare a [op] [b] pos) (ja (gw r ta tb)):=by
 intro ag s σ H Q I h;refine wpAny_isTrue_Compare1 (dk (ha ag s σ H _ I h) fun v s1 ⟨x,H1,I1,r1,q1⟩=>dk (hb ag s1 σ H1 _ I1 q1) fun u s2 ⟨y,H2,I2,r2,q2⟩=>
  dk (ho ag s2 σ H2 x y v u _ I2 r1 r2 q2) fun c s3 ⟨z,H3,I3,r3,k,e,q3⟩=>?_) hm
 subst e;cases r3;exact kH ⟨H3,I3,q3⟩
def FG(r r':R2)(ta tb tc:TE):TE:=fun σ H Q=>ta σ H fun x H1=>tb σ H1 fun y H2=>r x y H2 fun z H3=>∃k,z=.bl k/\
 (if k=true then tc σ H3 fun w' H4=>r' y w' H4 Q else Q (.bl false) H3)
theorem FH(ho:j6 X (compareOp op) r)(Ad:j6 X (compareOp RK) r')(ha:PE X a ta)(hb:PE X b tb)(hc:PE X c tc)(hm:lastMarks [op,RK] [b,c]=false:=by with_unfolding_all rfl):PE X (.Compare a [op,RK] [b,c] pos) (FG r r' ta tb tc):=by
 intro ag s σ H Q I h;refine Compare_chain (dk (ha ag s σ H _ I h) fun v s1 ⟨x,H1,I1,r1,q1⟩=>chain_link (dk (hb ag s1 σ H1 _ I1 q1) fun u s2 ⟨y,H2,I2,r2,q2⟩=>
  dk (ho ag s2 σ H2 x y v u _ I2 r1 r2 q2) fun d s3 ⟨z,H3,I3,r3,k,e,q3⟩=>?_)) hm
 subst e;cases r3;refine kH ?_;cases k with
 |false=>exact ite_ff ⟨.bl false,H3,I3,rfl,q3⟩
 |true=>exact ite_tt (chain_last (dk (hc ag s3 σ H3 _ I3 q3) fun w' s4 ⟨z',H4,I4,r4,q4⟩=>Ad ag s4 σ H4 y z' u w' Q I4 r2 r4 q4))
theorem FI{op RK:CmpOp}{r r':R2}(ho:j6 X (compareOp op) r)(Ad:j6 X (compareOp RK) r')(ha:PE X a ta)(hb:PE X b tb)(hc:PE X c tc)(hm:lastMarks [op,RK] [b,c]=false:=by with_unfolding_all rfl):PT X (.Compare a [op,RK] [b,c] pos) (ja (FG r r' ta tb tc)):=by
 intro ag s σ H Q I h;refine isTrue_chain (dk (ha ag s σ H _ I h) fun v s1 ⟨x,H1,I1,r1,q1⟩=>test_link (dk (hb ag s1 σ H1 _ I1 q1) fun u s2 ⟨y,H2,I2,r2,q2⟩=>
  dk (ho ag s2 σ H2 x y v u _ I2 r1 r2 q2) fun d s3 ⟨z,H3,I3,r3,k,e,q3⟩=>?_)) hm
 subst e;cases r3;refine kH ?_;cases k with
 |false=>
  obtain⟨k',e',q'⟩:=q3;cases e';exact ite_ff ⟨H3,I3,q'⟩
 |true=>
  refine ite_tt (test_last (dk (hc ag s3 σ H3 _ I3 q3) fun w' s4 ⟨z',H4,I4,r4,q4⟩=>dk (Ad ag s4 σ H4 y z' u w' _ I4 r2 r4 q4) fun d' s5 ⟨z2,H5,I5,r5,k2,e2,q5⟩=>?_));subst e2;cases r5;exact kH ⟨H5,I5,q5⟩
theorem vW:(sizeLine:Nat)<2 ^ 63:=by rw[kP];decide
theorem B6(r:bg [x] us):∃u,us=[u]/\b8 x u:=by
 cases r with
 |cons r1 r2=>cases r2;exact⟨_,rfl,r1⟩
theorem FJ(r:bg [x,y] us):∃u w',us=[u,w']/\b8 x u/\b8 y w':=by
 cases r with
 |cons r1 r2=>
  cases r2 with
  |cons r3 r4=>cases r4;exact⟨_,_,rfl,r1,r3⟩
theorem FK:fA X (.builtin "abs") (fun xs H Q=>∃i,xs=[.int i]/\Q (.int (if i<0 then -i else i)) H):=by
 intro ag s σ H xs us Q I r h;obtain⟨i,rfl,q⟩:=h;obtain⟨u,rfl,t,rfl⟩:=B6 r;exact call_abs_int fun u tk=>⟨.int (if i<0 then -i else i),H,I.tok _,⟨_,rfl⟩,q⟩
theorem ph(hc:X.calm=true):fA X (.builtin "max") (fun xs H Q=>∃i j,xs=[.int i,.int j]/\Q (.int (if j > i then j else i)) H):=by
 intro ag s σ H xs us Q I r h;obtain⟨i,j,rfl,q⟩:=h;obtain⟨u,w',rfl,⟨t,rfl⟩,⟨t',rfl⟩⟩:=FJ r;refine max_two_ints (I.ok.hd hc) fun h' tk k=>⟨_,H,I.kept k,?_,q⟩
 by_cases hj:j > i
 .rw[aD hj,aD hj];exact⟨_,rfl⟩
 .rw[au hj,au hj];exact⟨_,rfl⟩
theorem uw(hc:X.calm=true):fA X (.builtin "min") (fun xs H Q=>∃i j,xs=[.int i,.int j]/\Q (.int (if j<i then j else i)) H):=by
 intro ag s σ H xs us Q I r h;obtain⟨i,j,rfl,q⟩:=h;obtain⟨u,w',rfl,⟨t,rfl⟩,⟨t',rfl⟩⟩:=FJ r;refine min_two_ints (I.ok.hd hc) fun h' tk k=>⟨_,H,I.kept k,?_,q⟩
 by_cases hj:j<i
 .rw[aD hj,aD hj];exact⟨_,rfl⟩
 .rw[au hj,au hj];exact⟨_,rfl⟩
theorem xG:fA X (.builtin "divmod") (fun xs H Q=>∃i j,xs=[.int i,.int j]/\Ow i j/\∀p,H p=none->Q (.ref p) (upd H p (.tup [.int (i / j),.int (i % j)]))):=by
 intro ag s σ H xs us Q I r h;obtain⟨i,j,rfl,⟨h1,h2⟩,q⟩:=h;obtain⟨u,w',rfl,⟨t,rfl⟩,⟨t',rfl⟩⟩:=FJ r;refine divmod_int (by lia) ?_ (.inl (PyProof.noPylong_small (by lia)));rw[Fj i (by lia),zf i (by lia)];have hn:H s.heap.objs.size=none:=I.cI.fresh (aW _);refine⟨.ref s.heap.objs.size,_,?_,rfl,q _ hn⟩;refine I.laid (fun b o e=>cg _ e) (aW _) ⟨by simp only[dC,List.length_nil];rw[kP];decide,[.int (i / j) s.toks,.int (i % j) (s.toks+1)],.cons ⟨_,rfl⟩ (.cons ⟨_,rfl⟩ .nil),?_⟩;exact⟨_,cR s.heap rfl,rfl,0,rfl,rfl⟩
end
structure An(h:Heap)(x dx C:Addr)(mA:Str->Option Value):Prop where
 obj:h.get? x=some (PySem.W.instObj C dx)
 ns:h.Ns1 dx mA
 ne:dx≠x
theorem Du{h:Heap}{dx:Addr}{mA:Str->Option Value}(n:h.Ns1 dx mA):∃od,h.get? dx=some od/\∀name,PySem.W.lookIn name od=some (mA name):=by
 obtain⟨o,es,ep,ho,hd,hk,_,hm⟩:=n;refine⟨o,ho,fun name=>?_⟩;have e:=hm name;unfold nsFind findBy at e;rw[<-Array.find?_toList] at e;unfold PySem.W.lookIn;rw[hd];dsimp only;split
 .rename_i y q;rw[q] at e;exact congrArg some e
 .rename_i q;rw[q] at e;have a:es.toList.any (·.refKey)=false:=by
   rw[zR];intro y hy;obtain⟨z,t,t6⟩:=hk y (Array.mem_toList_iff.mp hy);simp[DictEntry.refKey,t6]
  have a':¬ es.toList.any (·.refKey)=true:=by rw[a];exact cJ
  rw[au a'];exact congrArg some e
theorem An.look(I:An h x dx C mA):∃od,PySem.W.InstAt h x (PySem.W.instObj C dx) C (some od)/\∀name,PySem.W.lookIn name od=some (mA name):=
 let ⟨od,ho,hl⟩:=Du I.ns
 ⟨od,⟨I.obj,rfl,rfl,ho⟩,hl⟩
section
variable {prog:Program} {w:World} {A:Around} {E:Value->Shared->Prop} {s:Shared} {K:PySem.W.Frag} {x dx C f:Addr} {mA:Str->Option Value} {name:Str} {v:Value}
theorem JT(X:K.In s.heap)(I:An s.heap x dx C mA)(hg:PySem.W.plainGet K C name=true)(hh:PySem.W.hasDictIn K C=true)(ha:PySem.W.findIn K (.ref C) name=some none)(hv:mA name=some v)(Ao:PySem.W.handedIn v=true)(h:Q v { s with toks:=s.toks+1 }):
  wpAny (model prog w) A (getAttr (.ref x) name JU) Q E s:=by
 obtain⟨od,J,hl⟩:=I.look;exact PySem.W.get_value X J (zC hg).1 (PySem.W.findObj_own hh ha rfl (by rw[hl,hv])) Ao h
theorem FL(X:K.In s.heap)(I:An s.heap x dx C mA)(hg:PySem.W.plainGet K C name=true)(hf:PySem.W.findIn K (.ref C) name=some (some (.ref f)))(ht:PySem.W.isFn K (.ref f)=true)(hv:mA name=none)(h:Q (.ref f,[.ref x]) s):
  wpAny (model prog w) A (getMethod (.ref x) name pl) Q E s:=by
 obtain⟨od,J,hl⟩:=I.look;exact PySem.W.method_fn X J (zC hg).1 (zC hg).2 hf (fP.mp ht) (by show (PySem.W.lookIn name od).map (·.isSome)=some false;rw[hl,hv];rfl) h
theorem JV(X:K.In s.heap)(I:An s.heap x dx C mA)(hs:PySem.W.findIn K (.ref C) "__setattr__"=some (some (.builtin "object.__setattr__")))(hp:PySem.W.plainOver K C=true)(ht:PySem.W.takerIn K C name=some none)(hh:PySem.W.hasDictIn K C=true)(hw:PySem.Within mA ns)(lM:ns.length<=sizeLine)(h:∀h',An h' x dx C (fun y=>if y=name then some v else mA y)->Heap.SameBut dx s.heap h'->Q () { s with heap:=h',toks:=s.toks+2 }):
  wpAny (model prog w) A (setAttr (.ref x) name v) Q E s:=by
 obtain⟨od,J,hl⟩:=I.look;refine PySem.W.set_plain X J hs (PySem.W.osa_open (s:={ s with toks:=s.toks+1 }) (r:=none) X J hp ht fun b=>?_);obtain⟨cd,hc,SI⟩:=PySem.W.any_some hh;have hx:s.heap.get? x=some ⟨.ref C,some dx,.plain,#[]⟩:=I.obj;refine aE (wpAny_pure (aE (aE (wpAny_loadPart hx (aE (PySem.W.Looks.here (s:={ s with toks:=s.toks+1 }) (PySem.W.looks_clsIn X hc) ?_))))));rw[SI];refine wpAny_pure (a:=some dx) (aE (wpAny_pure (aE ?_)));refine wpAny_nsSet1 (s:={ s with toks:=s.toks+1 }) I.ns fun h' RL uv=>?_;obtain⟨oD,esD,epD,hoD,Ta,JW⟩:=RL.count (PySem.Within.cons name v hw);refine aE (wpAny_lookBehind hoD (by rw[Ta];exact pastItsLine_dict (aY JW (by rw[dC];lia))) ?_);exact wpAny_pure (h _ ⟨(uv.2 _ (im I.ne)).trans I.obj,RL,I.ne⟩ uv)
theorem FM(X:K.In s.heap)(hm:PySem.W.makesIn K C=true)(hi:PySem.W.findIn K (.ref C) "__init__"=some (some (.ref f)))(hf:PySem.W.typeIn K (.ref f)=some (.type "function"))(h:codeAny (model prog w) (A.under (.builtin "type.__call__" ⟨.ref C::vs,kw⟩)) (.call (.ref f) ⟨.ref (s.heap.objs.size+1)::vs,kw⟩) (PySem.W.InitBack (s.heap.objs.size+1) R)
   { s with heap:=(s.heap.push PySem.W.emptyDict).push (PySem.W.instObj C s.heap.objs.size) }):
  codeAny (model prog w) A (.call (.ref C) ⟨vs,kw⟩) R s:=by
 obtain⟨hh,g,d,t,os⟩:=s;exact PySem.W.make_core (PySem.W.makes_of X hm) (PySem.W.looks_findIn X hi) (fun self=>PySem.W.bind_fn X self hf) (.inl rfl) h
end
def dX(f:Str)(v:V):List (Str×V)->List (Str×V)
 |[]=>[(f,v)]
 |(g,x)::r=>if g=f then (g,v)::r else (g,x)::dX f v r
theorem bR(f g:Str)(v:V):∀fs:List (Str×V),(dX f v fs).lookup g=if g=f then some v else fs.lookup g
 |[]=>by
  show List.lookup g [(f,v)]=_;by_cases h:g=f
  .have hb:(g==f)=true:=fP.mpr h;simp only[List.lookup,hb,aD h]
  .have hb:(g==f)=false:=ng.mpr h;simp only[List.lookup,hb,au h]
 |(k,x)::r=>by
  have ih:=bR f g v r;rw[show dX f v ((k,x)::r)=(if k=f then (k,v)::r else (k,x)::dX f v r) from rfl];by_cases hk:k=f
  .rw[aD hk];by_cases h:g=k
   .have hb:(g==k)=true:=fP.mpr h;simp only[List.lookup,hb,aD (h.trans hk)]
   .have hb:(g==k)=false:=ng.mpr h;simp only[List.lookup,hb,au (fun e:g=f=>h (e.trans hk.symm))]
  .rw[au hk];by_cases h:g=k
   .have hb:(g==k)=true:=fP.mpr h;simp only[List.lookup,hb,au (fun e:g=f=>hk (h.symm.trans e))]
   .have hb:(g==k)=false:=ng.mpr h;simp only[List.lookup,hb];exact ih
theorem pi(f:Str)(v:V):∀fs:List (Str×V),f∈(dX f v fs).map (·.1)/\∀g,g∈fs.map (·.1)->g∈(dX f v fs).map (·.1)
 |[]=>⟨by simp[dX],fun g h=>by simp at h⟩
 |(k,x)::r=>by
  obtain⟨i1,i2⟩:=pi f v r;rw[show dX f v ((k,x)::r)=(if k=f then (k,v)::r else (k,x)::dX f v r) from rfl];by_cases hk:k=f
  .rw[aD hk];subst hk;exact⟨by simp,fun g h=>by simpa using h⟩
  .rw[au hk];refine⟨?_,fun g h=>?_⟩
   .rw[eJ];exact du _ i1
   .rw[eJ] at h |-;rcases bW.mp h with e|e
    .exact bW.mpr (.inl e)
    .exact du _ (i2 g e)
theorem eQ(f:Str)(v:V):∀fs:List (Str×V),(dX f v fs).length<=fs.length+1
 |[]=>by simp[dX]
 |(k,x)::r=>by
  have ih:=eQ f v r;rw[show dX f v ((k,x)::r)=(if k=f then (k,v)::r else (k,x)::dX f v r) from rfl];by_cases hk:k=f
  .rw[aD hk,dC,dC];lia
  .rw[au hk,dC,dC];lia
theorem ni.some_of(r:ni (some v) o):∃u,o=some u/\b8 v u:=by
 cases o with
 |none=>exact(show False from r).elim
 |some u=>exact⟨u,rfl,r⟩
theorem ni.none_of(r:ni none o):o=none:=by
 cases o with
 |none=>rfl
 |some u=>exact(show False from r).elim
theorem Dv(r:b8 v u):PySem.W.handedIn u=true:=by
 cases v with
 |bz=>cases (show u=Value.none from r);rfl
 |bl b=>cases (show u=Value.bool b from r);rfl
 |int i=>obtain⟨t,e⟩:=(show ∃t,u=Value.int i t from r);cases e;rfl
 |str x=>obtain⟨t,e⟩:=(show ∃t,u=Value.str x t from r);cases e;rfl
 |EU b=>obtain⟨t,e⟩:=(show ∃t,u=Value.bytes b t from r);cases e;rfl
 |Oc b=>obtain⟨t,e⟩:=(show ∃t,u=Value.float b t from r);cases e;rfl
 |ref a=>cases (show u=Value.ref a from r);rfl
 |ty n=>cases (show u=Value.type n from r);rfl
section
variable {P:Program} {w:World} {H H':Hp} {h h':Heap} {a C dx:Addr} {fs Fs:List (Str×V)}
theorem qM(cI:lA P w H h)(e:H a=some (.ins C dx fs)):∃mA,An h a dx C mA/\(∀f,ni (fs.lookup f) (mA f))/\PySem.Within mA (fs.map (·.1))/\fs.length<=1000/\H dx=some (.own a):=by
 obtain⟨d,z,ne,ob,mA,n,r,q⟩:=(show cF P w H h a (.ins C dx fs) from cI a _ e)
 exact⟨mA,⟨ob,n,ne⟩,r,q,z,d⟩
end
structure FN(K:PySem.W.Frag)(C:Addr):Prop where
 pg:PySem.W.plainGet K C Str.empty=true
 hd:PySem.W.hasDictIn K C=true
 po:PySem.W.plainOver K C=true
 sa:PySem.W.findIn K (.ref C) "__setattr__"=some (some (.builtin "object.__setattr__"))
theorem FN.get{K:PySem.W.Frag}{C:Addr}(c:FN K C)(f:Str):PySem.W.plainGet K C f=true:=c.pg
def jm(K:PySem.W.Frag)(C:Addr)(f:Str):Prop:=PySem.W.findIn K (.ref C) f=some none
theorem jm.Tb{K:PySem.W.Frag}{C:Addr}{f:Str}(n:jm K C f):PySem.W.takerIn K C f=some none:=by
 unfold PySem.W.takerIn;rw[show PySem.W.findIn K (.ref C) f=some none from n];rfl
structure JX(K:PySem.W.Frag)(C:Addr)(m:Str)(f:Addr):Prop where
 at_:PySem.W.findIn K (.ref C) m=some (some (.ref f))
 fn:PySem.W.isFn K (.ref f)=true
 kp:PySem.W.keepIn K (.ref f)=true
section
variable {X:Cx} {ag:List (Addr×Obj)} {σ:St} {H:Hp} {s:Shared} {a C dx:Addr} {fs:List (Str×V)} {f:Str} {v:V} {A:Around} {E:Value->Shared->Prop}
theorem Ap(I:aZ X ag σ H s)(e:H a=some (.ins C dx fs))(c:FN X.K C)(n:jm X.K C f)(l:fs.lookup f=some v)(h:∀u s',aZ X ag σ H s'->b8 v u->Q u s'):wpAny (model X.prog X.w) A (getAttr (.ref a) f b) Q E s:=by
 obtain⟨mA,O,r,_,_,_⟩:=qM I.cI e;obtain⟨u,hu,ru⟩:=ni.some_of (v:=v) (o:=mA f) (by rw[<-l];exact r f);exact JT I.p_ O (c.get f) c.hd n hu (Dv ru) (h u _ (I.tok _) ru)
theorem r0(I:aZ X ag σ H s)(e:H a=some (.ins C dx fs))(c:FN X.K C)(k:JX X.K C m g)(l:fs.lookup m=none)(h:Q (.ref g,[.ref a]) s):wpAny (model X.prog X.w) A (getMethod (.ref a) m pl) Q E s:=by
 obtain⟨mA,O,r,_,_,_⟩:=qM I.cI e;have hn:mA m=none:=ni.none_of (by rw[<-l];exact r m);exact FL I.p_ O (c.get m) k.at_ k.fn hn h
theorem Aq(I:aZ X ag σ H s)(e:H a=some (.ins C dx fs))(c:FN X.K C)(n:jm X.K C f)(hl:fs.length<1000)(ry:b8 y u)(h:∀s',aZ X ag σ (upd H a (.ins C dx (dX f y fs))) s'->Q () s'):wpAny (model X.prog X.w) A (setAttr (.ref a) f u) Q E s:=by
 obtain⟨mA,O,r,wi,_,ho⟩:=qM I.cI e;have hz:(fs.map (·.1)).length<=sizeLine:=by rw[aP,kP];lia
 refine JV I.p_ O c.sa c.po n.Tb c.hd wi hz fun h' O' sb=>h _ ?_;have hd:∃o,h'.get? dx=some o:=let ⟨o,_,_,e',_⟩:=O'.ns;⟨o,e'⟩;refine I.write (x:=a) (e:=dx) (by rw[e];exact True.intro) (.inr ho) (fun b q hb z=>(sb.2 b hb).trans z) hd ?_;refine⟨by rw[ao O.ne];exact ho,?_,O.ne,O'.obj,_,O'.ns,fun g=>?_,fun g hg=>?_⟩
 .have:=eQ f y fs;lia
 .show ni ((dX f y fs).lookup g) (if g=f then some u else mA g);rw[bR];by_cases q:g=f
  .rw[aD q,aD q];exact ry
  .rw[au q,au q];exact r g
 .by_cases q:g=f
  .rw[q];exact(pi f y fs).1
  .refine(pi f y fs).2 g (wi g fun z=>hg ?_);show (if g=f then some u else mA g)=none;rw[au q];exact z
theorem aZ.made(I:aZ X ag σ H s):aZ X ag σ (upd (upd H s.heap.objs.size (.own (s.heap.objs.size+1))) (s.heap.objs.size+1) (.ins C s.heap.objs.size []))
  { s with heap:=(s.heap.push PySem.W.emptyDict).push (PySem.W.instObj C s.heap.objs.size) }:=by
 have e1:(s.heap.push PySem.W.emptyDict).get? s.heap.objs.size=some PySem.W.emptyDict:=cR s.heap rfl;have e2:((s.heap.push PySem.W.emptyDict).push (PySem.W.instObj C s.heap.objs.size)).get? (s.heap.objs.size+1)=some (PySem.W.instObj C s.heap.objs.size):=by
  have:=cR (s.heap.push PySem.W.emptyDict) (o:=PySem.W.instObj C s.heap.objs.size) rfl;rwa [ig] at this
 have e3:(s.heap.push PySem.W.emptyDict).Ns s.heap.objs.size (fun _=>none):=⟨PySem.W.emptyDict,#[],_,e1,rfl,(fun e he=>absurd he (by simp)),fun _=>rfl⟩
 have I1:=I.laid (a:=s.heap.objs.size) (o:=.own (s.heap.objs.size+1)) (h':=s.heap.push PySem.W.emptyDict) (t':=s.toks) (fun b u q=>cg _ q) (aW _) ⟨_,e1⟩;refine I1.laid (a:=s.heap.objs.size+1) (o:=.ins C s.heap.objs.size []) (t':=s.toks) (fun b u q=>cg _ q) (o4 (ig _ _)) ?_;have ne:s.heap.objs.size≠s.heap.objs.size+1:=bh (jD _);refine⟨by rw[ao ne,af],de _,ne,e2,fun _=>none,(Heap.Ns1.of_empty e3).at fun o q=>cg _ q,fun _=>True.intro,fun y hy=>absurd rfl hy⟩
theorem JY(hb:attributeBase e f env (eval e env)=eval e env)(h:wpAny (model prog w) A (eval e env) (fun o s₁=>wpAny (model prog w) A (getAttr o f true) Q E s₁) E s):wpAny (model prog w) A (eval (.Attribute e f pos) env) Q E s:=
 Attribute_any_ h (by rw[arm_eval_Attribute,hb])
end
def OA(K:PySem.W.Frag)(ta:TE)(f:Str):TE:=fun σ H Q=>ta σ H fun x H1=>∃a C dx fs v,x=.ref a/\H1 a=some (.ins C dx fs)/\FN K C/\jm K C f/\fs.lookup f=some v/\Q v H1
def Yr(K:PySem.W.Frag)(ta tv:TE)(f:Str):TS:=fun D σ H=>tv σ H fun y H1=>ta σ H1 fun x H2=>∃a C dx fs,x=.ref a/\H2 a=some (.ins C dx fs)/\FN K C/\jm K C f/\fs.length<1000/\
 D.nx σ (upd H2 a (.ins C dx (dX f y fs)))
section
variable {X:Cx} {o e value:Expr} {f:Str} {pos Dq OB:Pos} {ta tv:TE}
theorem kW(he:PE X e ta)(hb:attributeBase e f X.env (eval e X.env)=eval e X.env):PE X (.Attribute e f pos) (OA X.K ta f):=by
 intro ag s σ H Q I h;refine JY hb (dk (he ag s σ H _ I h) fun u s1 ⟨x,H1,I1,rx,a,C,dx,fs,v,ex,ea,c,n,l,q⟩=>?_);subst ex;obtain rfl:u=Value.ref a:=rx;exact Ap I1 ea c n l fun u' s2 I2 ru=>⟨v,H1,I2,ru,q⟩
theorem vX(ha:PE X o ta)(hv:PE X value tv)(hs:swapsWith value (some (.Attribute o f Dq)) pos.line X.env=pure false):PS X (.Assign [.Attribute o f Dq] value pos) (Yr X.K ta tv f):=by
 intro ag s σ H D I h;refine plainObj_wpAny_Assign_Attribute (dk (hv ag s σ H _ I h) fun u s1 ⟨y,H1,I1,ry,q⟩=>dk (ha ag s1 σ H1 _ I1 q) fun ov s2 ⟨x,H2,I2,rx,a,C,dx,fs,ex,ea,c,n,l,q2⟩=>?_) hs;subst ex;obtain rfl:ov=Value.ref a:=rx;exact Aq I2 ea c n l ry fun s3 I3=>⟨σ,_,I3,q2⟩
end
section
variable {X:Cx} {ag:List (Addr×Obj)} {σ:St} {H:Hp} {s:Shared} {A:Around} {E:Value->Shared->Prop} {Q:Value->Shared->Prop} {c:Value} {b:Bool}
inductive pq (K:PySem.W.Frag) (H:Hp):V->Value->Prop where
 |bz:pq K H .bz (.type "NoneType")
 |bl (x:Bool):pq K H (.bl x) (.type "bool")
 |int (i:Int):pq K H (.int i) (.type "int")
 |str (x:Str):pq K H (.str x) (.type "str")
 |Oc (x:UInt64):pq K H (.Oc x) (.type "float")
 |lst {a:Addr} {xs:List V} (e:H a=some (.lst xs)):pq K H (.ref a) (.type "list")
 |tV {a:Addr} {o:Obj} {xs:List V} (e:H a=some (.tV o (.lst xs))):pq K H (.ref a) (.type "list")
 |tup {a:Addr} {xs:List V} (e:H a=some (.tup xs)):pq K H (.ref a) (.type "tuple")
 |dK {a:Addr} {df:List (iC×V)} (e:H a=some (.dK df)):pq K H (.ref a) (.type "dict")
 |dT {a:Addr} {df:List (List iC×V)} (e:H a=some (.dT df)):pq K H (.ref a) (.type "dict")
 |ins {a C dx:Addr} {fs:List (Str×V)} (e:H a=some (.ins C dx fs)) (cl:FN K C) (ha:PySem.W.findIn K (.ref C) "__class__"=some (some (.builtin "object.__class__")))
   (hn:PySem.W.specialIn K (.builtin "object.__class__") "__get__"=some (some (.builtin "getset_descriptor.__get__"))) (Ys:PySem.W.takesIn K (.builtin "object.__class__")=some true)
   (hm:PySem.W.mroIn K C (.type "object")=some true):pq K H (.ref a) (.ref C)
theorem Dw(I:aZ X ag σ H s)(rx:b8 x u)(ty:pq X.K H x t)(e:PySem.W.kitOne X.K t c=some b)(h:∀tk,Q (.bool b) { s with toks:=tk }):
  wpAny (model X.prog X.w) A (call (.builtin "isinstance") [u,c]) Q E s:=by
 cases ty with
 |bz=>cases (show u=Value.none from rx);exact j4 PySem.W.kitx_none I.p_ True.intro e (fun z=>nomatch z) h
 |bl y=>cases (show u=Value.bool y from rx);exact j4 PySem.W.kitx_bool I.p_ True.intro e (fun z=>nomatch z) h
 |int i=>obtain⟨t,q⟩:=(show ∃t,u=Value.int i t from rx);cases q;exact j4 PySem.W.kitx_int I.p_ True.intro e (fun z=>nomatch z) h
 |str y=>obtain⟨t,q⟩:=(show ∃t,u=Value.str y t from rx);cases q;exact j4 PySem.W.kitx_str I.p_ True.intro e (fun z=>nomatch z) h
 |Oc y=>obtain⟨t,q⟩:=(show ∃t,u=Value.float y t from rx);cases q;exact j4 PySem.W.kitx_float I.p_ True.intro e (fun z=>nomatch z) h
 |@lst a xs ea=>
  cases (show u=Value.ref a from rx);obtain⟨_,_,n,_,h1⟩:=(show cF X.prog X.w H s.heap a (.lst xs) from I.cI a _ ea)
  exact j4 PySem.W.kitx_list I.p_ ⟨_,h1,rfl⟩ e (fun z=>nomatch z) h
 |@tV a ob xs ea=>
  cases (show u=Value.ref a from rx);obtain⟨_,_,_,n,_,h1⟩:=(show cF X.prog X.w H s.heap a (.tV ob (.lst xs)) from I.cI a _ ea)
  exact j4 PySem.W.kitx_list I.p_ ⟨_,h1,rfl⟩ e (fun z=>nomatch z) h
 |@tup a xs ea=>
  cases (show u=Value.ref a from rx);obtain⟨_,_,_,p⟩:=(show cF X.prog X.w H s.heap a (.tup xs) from I.cI a _ ea)
  obtain⟨o,h1,h2,_⟩:=p;exact j4 PySem.W.kitx_tuple I.p_ ⟨o,h1,h2⟩ e (fun z=>nomatch z) h
 |@dK a df ea=>
  cases (show u=Value.ref a from rx);obtain⟨_,_,vs,_,p⟩:=(show cF X.prog X.w H s.heap a (.dK df) from I.cI a _ ea)
  obtain⟨o,es,ep,h1,h2,_⟩:=p;exact j4 PySem.W.kitx_dict I.p_ ⟨o,h1,h2.1⟩ e (fun z=>nomatch z) h
 |@dT a df ea=>
  cases (show u=Value.ref a from rx);obtain⟨_,_,xs,_,o,es,ep,h1,h2,_⟩:=(show cF X.prog X.w H s.heap a (.dT df) from I.cI a _ ea)
  exact j4 PySem.W.kitx_dict I.p_ ⟨o,h1,h2.1⟩ e (fun z=>nomatch z) h
 |@ins a C dx fs ea cl ha hn Ys hm=>
  cases (show u=Value.ref a from rx);obtain⟨mA,O,_⟩:=qM I.cI ea;obtain⟨od,J,_⟩:=O.look;exact j4 (PySem.W.kitx_own (cl.get _) cl.hd ha hn Ys hm) I.p_ J e (fun z=>nomatch z) h
end
structure cB(k:Nat)(A:Around):Prop where
 hd:A.handled=none
 dp:A.depth+3*k+5<recursionLimit
 un:A.units+16*k+200<cLine
 gd:A.guards=some []
theorem cB.mono(r:cB k A)(h:j<=k):cB j A:=⟨r.hd,by have:=r.dp;lia,by have:=r.un;lia,r.gd⟩
theorem cB.deeper(r:cB (k+1) A)(env:Env):cB k (A.deeper env):=
 ⟨r.hd,by have:=r.dp;show A.depth+1+3*k+5<_;lia,by have:=r.un;show A.units+3+16*k+200<_;lia,r.gd⟩
theorem Ar{A:Around}{C:Addr}{us:List Value}{kw:List (Str×Value)}:(A.under (.builtin "type.__call__" ⟨.ref C::us,kw⟩)).depth=A.depth+1:=by
 first|rfl|simp[Around.under,Code.weight,Code.isCreation,Code.isGuard,Code.isCaller,Code.frames,Code.isFrame,guardIds]
theorem As{A:Around}{C:Addr}{us:List Value}{kw:List (Str×Value)}:(A.under (.builtin "type.__call__" ⟨.ref C::us,kw⟩)).units=A.units+1:=by
 first|rfl|simp[Around.under,Code.cUnits,Code.frames,Code.isFrame]
theorem cB.make(r:cB (k+1) A)(C:Addr)(us:List Value)(kw:List (Str×Value)):cB k (A.under (.builtin "type.__call__" ⟨.ref C::us,kw⟩)):=
 ⟨r.hd,by have:=r.dp;rw[Ar];lia,by have:=r.un;rw[As];lia,r.gd⟩
theorem cB.depth(r:cB k A):A.depth<recursionLimit:=by have:=r.dp;lia
theorem cB.u(r:cB k A)(h:n<=200:=by decide):A.units+n<cLine:=by have:=r.un;lia
def dQ:TA:=fun _ H Q=>Q [] H
def bi(ta:TE)(tr:TA):TA:=fun σ H Q=>ta σ H fun x H1=>tr σ H1 fun xs H2=>Q (x::xs) H2
section
variable {X:Cx} {e:Expr} {es:List Expr} {te:TE} {t:TA} {pos:Pos}
theorem ae:PA X [] dQ:=fun _ _ _ _ H Q I h=>Calls.spliced_nil ⟨[],H,I,.nil,h⟩
theorem aa(ha:PE X e te)(hr:PA X es t)(hs:starEach (e::es) X.env=(false,eval e X.env)::starEach es X.env:=by rfl):PA X (e::es) (bi te t):=by
 intro pos ag s σ H Q I h;rw[hs];show wpAny _ _ (spliced ((false,eval e X.env)::backTo pos (starEach es X.env))) _ _ s;refine Calls.spliced_cons (dk (ha ag s σ H _ I h) fun u s1 ⟨x,H1,I1,r1,q1⟩=>?_);exact dk (hr pos ag s1 σ H1 _ I1 q1) fun us s2 ⟨xs,H2,I2,r2,q2⟩=>⟨x::xs,H2,I2,.cons r1 r2,q2⟩
def kh(t:TA):TE:=fun σ H Q=>t σ H fun xs H1=>xs.length<=sizeLine/\∀p,H1 p=none->Q (.ref p) (upd H1 p (.tup xs))
def Tc(t:TA):TE:=fun σ H Q=>t σ H fun xs H1=>xs.length<=sizeLine/\∀p,H1 p=none->Q (.ref p) (upd H1 p (.lst xs))
theorem br{x1}(h:PA X es t):PE X (.Tuple es x1 pos) (kh t):=by
 intro ag s σ H Q I hq;refine wpAny_Tuple_spliced (dk (h pos ag s σ H _ I hq) fun us s1 ⟨xs,H1,I1,r,z,q⟩=>⟨by rw[<-r.length];exact z,?_⟩);have hf:H1 s1.heap.objs.size=none:=I1.cI.fresh (aW _);refine⟨.ref s1.heap.objs.size,upd H1 s1.heap.objs.size (.tup xs),I1.laid (t':=s1.toks) (fun b u e=>cg _ e) (aW _) ?_,rfl,q _ hf⟩;exact⟨z,us,r,⟨_,cR _ rfl,rfl,_,rfl,rfl⟩⟩
theorem cm(h:PA X es t):PE X (.List es pos) (Tc t):=by
 intro ag s σ H Q I hq;refine wpAny_List_spliced (dk (h pos ag s σ H _ I hq) fun us s1 ⟨xs,H1,I1,r,z,q⟩=>⟨by rw[<-r.length];exact z,?_⟩);have hf:H1 s1.heap.objs.size=none:=I1.cI.fresh (aW _);refine⟨.ref s1.heap.objs.size,upd H1 s1.heap.objs.size (.lst xs),I1.laid (t':=s1.toks) (fun b u e=>cg _ e) (aW _) ?_,rfl,q _ hf⟩;exact⟨z,us,0,r,cR _ rfl⟩
end
abbrev Sp:=List V->Hp->VK->XK->Prop
abbrev xH:=List Env->Hp->Shared->XK->Value->Shared->Prop
structure At(P:Program)(w:World)(K:PySem.W.Frag)(mg:Str->Option Value)(base:Heap)(A:Around)(outer:List Env)(s:Shared)(H:Hp):Prop where
 frames:A.frames=some outer
 mod:Mod K mg base
 bs:∀b o,base.get? b=some o->s.heap.get? b=some o/\H b=none
 Jt:base.objs.size<=s.heap.objs.size
 pb:s.heap.FunFrames base outer
 M2:∀b∈uq outer,H b=none
 cI:lA P w H s.heap
 bare:AllBare s.gens
def CE(outer:List Env)(P:Program)(w:World)(H:Hp)(s:Shared)(Q:VK)(u:Value)(s':Shared):Prop:=
 ∃v H',s'.os=s.os/\AllBare s'.gens/\Un (uq outer) [] H H' s.heap s'.heap/\lA P w H' s'.heap/\b8 v u/\Q v H'
def CR(CX:xH)(outer:List Env)(P:Program)(w:World)(H:Hp)(s:Shared)(Q:VK)(E:XK)(r:Result)(s':Shared):Prop:=
 match r with
 |.ok (.ret u)=>CE outer P w H s Q u s'
 |.ok _=>False
 |.error e=>CX outer H s E e s'
structure bU(P:Program)(w:World)(K:PySem.W.Frag)(mg:Str->Option Value)(base:Heap)(CX:xH)(k:Nat)(f:Addr)(fd:FuncData)(ps:List Str)(sp:Sp):Prop where
 len:∀vs H Q E,sp vs H Q E->vs.length=ps.length
 run:∀ (A:Around) (outer:List Env) (s:Shared) (H:Hp) (args:Args) (us:List Value) (vs:List V) (Q:VK) (E:XK),cB k A->At P w K mg base A outer s H->BindsTo s fd args (ps.zip us)->bg vs us->sp vs H Q E->
  codeAny (model P w) A (.call (.ref f) args) (CR CX outer P w H s Q E) s
theorem At.make{P:Program}{w:World}{K:PySem.W.Frag}{mg:Str->Option Value}{base:Heap}{A:Around}{outer:List Env}{s:Shared}{H:Hp}(e:At P w K mg base A outer s H)(C:Addr)(us:List Value)(kw:List (Str×Value)):
  At P w K mg base (A.under (.builtin "type.__call__" ⟨.ref C::us,kw⟩)) outer s H:=⟨by first|exact e.frames|(simpa [Around.under,Code.envs,Code.isFrame,pushEnvs] using e.frames),e.mod,e.bs,e.Jt,e.pb,e.M2,e.cI,e.bare⟩
section
variable {X:Cx} {ag:List (Addr×Obj)} {σ:St} {H:Hp} {s s':Shared}
theorem aZ.Td(I:aZ X ag σ H s):At X.prog X.w X.K X.mg X.base X.A X.stack s H:=
 ⟨I.ok.frames,I.ok.mod,I.bs,aY I.ok.Jt I.sz,I.stack,I.vR,I.cI,I.bare⟩
theorem aZ.after(I:aZ X ag σ H s)(h:CE X.stack X.prog X.w H s Q u s'):EP X ag σ Q u s':=by
 obtain⟨v,H',os,bare,un,cI,r,q⟩:=h;obtain⟨hh,g,d,t,os'⟩:=s';obtain rfl:os'=s.os:=os;exact⟨v,H',I.call (h':=hh) (g':=g) (d':=d) (t':=t) (ch:=[]) un cI bare (fun b z=>absurd z (by simp)),r,q⟩
end
def qb(sp:Sp)(r6:List V)(E:XK)(t:TA):TE:=fun σ H Q=>t σ H fun vs H1=>sp (vs++r6) H1 Q E
def FO(C:Addr)(m:Str)(sp:Sp)(r6:List V)(E:XK)(ta:TE)(t:TA):TE:=fun σ H Q=>ta σ H fun x H1=>∃a dx fs,x=.ref a/\H1 a=some (.ins C dx fs)/\fs.lookup m=none/\
 t σ H1 fun vs H2=>sp (x::(vs++r6)) H2 Q E
def Te(C:Addr)(sp:Sp)(r6:List V)(E:XK)(t:TA):TE:=fun σ H Q=>t σ H fun vs H1=>∀x dx,H1 x=none->H1 dx=none->dx≠x->
 sp (.ref x::(vs++r6)) (upd (upd H1 dx (.own x)) x (.ins C dx [])) (fun v H2=>v=.bz/\Q (.ref x) H2) E
def j7(K:PySem.W.Frag)(fd:FuncData)(ps:List Str)(ds:List Value):Prop:=
 ∀ (s:Shared) (us:List Value),K.In s.heap->(us++ds).length=ps.length->BindsTo s fd ⟨us,[]⟩ (ps.zip (us++ds))
theorem j7.all{K:PySem.W.Frag}{fd:FuncData}{ps:List Str}(h:∀us:List Value,us.length=ps.length->bindArgs fd ⟨us,[]⟩=pure (ps.zip us)):j7 K fd ps []:=fun s us _ hl=>by
 rw[rH] at hl |-;exact .of_eq (h us hl)
def jO(CX:xH)(X:Cx)(E:XK):Prop:=∀ (ag:List (Addr×Obj)) (σ:St) (H:Hp) (s:Shared) (e:Value) (s':Shared),aZ X ag σ H s->CX X.stack H s E e s'->X.xe e s'
section
variable {X:Cx} {CX:xH} {k:Nat} {f C:Addr} {fd:FuncData} {ps:List Str} {sp:Sp} {r6:List V} {ds:List Value} {E:XK} {x m:Str} {p pos mw:Pos} {e o:Expr} {es:List Expr} {ta:TE} {t:TA}
theorem Au(F:bU X.prog X.w X.K X.mg X.base CX k f fd ps sp)(hr:cB k X.A)(hb:j7 X.K fd ps ds)(hd:bg r6 ds)(hx:jO CX X E)(I:aZ X ag σ H s)(r:bg vs us)(h:sp (vs++r6) H Q E):wpAny (model X.prog X.w) X.A (call (.ref f) us) (EP X ag σ Q) X.xe s:=by
 have r2:bg (vs++r6) (us++ds):=r.append hd;have hl:(us++ds).length=ps.length:=by rw[<-r2.length];exact F.len _ _ _ _ h
 refine wpAny_call (o5 (F.run X.A X.stack s H ⟨us,[]⟩ (us++ds) (vs++r6) Q E hr I.Td (hb s us I.p_ hl) r2 h) fun r s' hq=>?_);cases r with
 |error e=>exact hx ag σ H s e s' I hq
 |ok fl=>
  cases fl with
  |ret u=>exact I.after hq
  |next=>exact False.elim hq
  |brk=>exact False.elim hq
  |cont=>exact False.elim hq
theorem JZ(F:bU X.prog X.w X.K X.mg X.base CX k f fd ps sp)(hr:cB k X.A)(hg:Gl X x)(hm:X.mg x=some (.ref f))(hk:PySem.W.keepIn X.K (.ref f)=true)(hb:j7 X.K fd ps ds)(hd:bg r6 ds)(hx:jO CX X E)(ha:PA X (e::es) t)(Dx:(x==("__debug__":Str))=false:=by decide)(he:starEach (e::es) X.env=(false,eval e X.env)::starEach es X.env:=by rfl)(B7:(backTo pos (starEach es X.env)).any (·.1)=false:=by rfl):
  PE X (.Call (.Name x p) (e::es) [] pos) (qb sp r6 E t):=by
 intro ag s σ H Q I h;refine rE (qL I hg hm ?_ Dx);refine zF (h₀:=X.base) I.ok.mod.RG hk (dk (ha pos ag s σ H _ I h) fun us s1 ⟨vs,H1,I1,r,q⟩=>⟨I1.p_,?_⟩) he B7;exact Au F hr hb hd hx I1 r q
theorem iG(he:PE X o ta)(c:FN X.K C)(hm:JX X.K C m f)(F:bU X.prog X.w X.K X.mg X.base CX k f fd ps sp)(hr:cB k X.A)(hb:j7 X.K fd ps ds)(hd:bg r6 ds)(hx:jO CX X E)(ha:PA X (e::es) t)(nj:starEach (e::es) X.env=(false,eval e X.env)::starEach es X.env:=by rfl)(B7:(backTo pos (starEach es X.env)).any (·.1)=false:=by rfl)(ht:eval (.Call (.Attribute o m mw) (e::es) [] pos) X.env=(do
   let ov <- eval o X.env
   standAt mw.atName
   let (f,first) <- holding [ov] (getMethod ov m pl)
   callWith pos f first (backTo pos (starEach (e::es) X.env)) (backToKw pos (keywordEach [] X.env))):=by rfl):
  PE X (.Call (.Attribute o m mw) (e::es) [] pos) (FO C m sp r6 E ta t):=by
 intro ag s σ H Q I h;refine PySem.W.methodCall_KW (pl:=pl) (dk (he ag s σ H _ I h) fun u s1 ⟨x,H1,I1,rx,a,dx,fs,ex,ea,l,q⟩=>?_) ht;subst ex;obtain rfl:u=Value.ref a:=rx;refine r0 I1 ea c hm l ?_;refine zF (first:=[.ref a]) (h₀:=X.base) I.ok.mod.RG hm.kp (dk (ha pos ag s1 σ H1 _ I1 q) fun us s2 ⟨vs,H2,I2,r,q2⟩=>⟨I2.p_,?_⟩) nj B7;exact Au (us:=.ref a::us) (vs:=.ref a::vs) F hr hb hd hx I2 (.cons rfl r) q2
theorem xI{pl:Sem Bool}(he:PE X o ta)(c:FN X.K C)(hm:JX X.K C m f)(F:bU X.prog X.w X.K X.mg X.base CX k f fd ps sp)(hr:cB k X.A)(hb:j7 X.K fd ps ds)(hd:bg r6 ds)(hx:jO CX X E)(ht:eval (.Call (.Attribute o m mw) [] [] pos) X.env=(do
   let ov <- eval o X.env
   standAt mw.atName
   let (f,first) <- holding [ov] (getMethod ov m pl)
   callWith pos f first (backTo pos (starEach [] X.env)) (backToKw pos (keywordEach [] X.env))):=by rfl):
  PE X (.Call (.Attribute o m mw) [] [] pos) (FO C m sp r6 E ta dQ):=by
 intro ag s σ H Q I h;refine PySem.W.methodCall_KW (pl:=pl) (dk (he ag s σ H _ I h) fun u s1 ⟨x,H1,I1,rx,a,dx,fs,ex,ea,l,q⟩=>?_) ht;subst ex;obtain rfl:u=Value.ref a:=rx;refine r0 I1 ea c hm l ?_;exact PySem.W.callWith_K0 (first:=[.ref a]) I1.p_ hm.kp (Au (us:=[.ref a]) (vs:=[.ref a]) F hr hb hd hx I1 (.cons rfl .nil) q)
structure Mk(K:PySem.W.Frag)(C f:Addr):Prop where
 makes:PySem.W.makesIn K C=true
 init:PySem.W.findIn K (.ref C) "__init__"=some (some (.ref f))
 fn:PySem.W.isFn K (.ref f)=true
 kp:PySem.W.keepIn K (.ref C)=true
theorem FP(M:Mk X.K C f)(F:bU X.prog X.w X.K X.mg X.base CX k f fd ps sp)(hr:cB (k+1) X.A)(hb:j7 X.K fd ps ds)(hd:bg r6 ds)(hx:jO CX X E)(I:aZ X ag σ H s)(r:bg vs us)(h:∀x dx,H x=none->H dx=none->dx≠x->sp (.ref x::(vs++r6)) (upd (upd H dx (.own x)) x (.ins C dx [])) (fun v H2=>v=.bz/\Q (.ref x) H2) E):
  wpAny (model X.prog X.w) X.A (call (.ref C) us) (EP X ag σ Q) X.xe s:=by
 have hq:=h (s.heap.objs.size+1) s.heap.objs.size (I.cI.fresh (Nat.le_succ _)) (I.cI.fresh (aW _)) (bh (jD _));have I2:=aZ.made (C:=C) I;have r2:bg (V.ref (s.heap.objs.size+1)::(vs++r6)) (Value.ref (s.heap.objs.size+1)::(us++ds)):=.cons rfl (r.append hd);have hl:(Value.ref (s.heap.objs.size+1)::us++ds).length=ps.length:=by
  have e:=r2.length;rw[F.len _ _ _ _ hq] at e;exact e.symm
 refine wpAny_call (FM (f:=f) I.p_ M.makes M.init (fP.mp M.fn) (o5 (F.run _ X.stack _ _ ⟨Value.ref (s.heap.objs.size+1)::us,[]⟩ (Value.ref (s.heap.objs.size+1)::(us++ds)) _ _ E (hr.make C us [])
  (I2.Td.make C us []) (hb _ (Value.ref (s.heap.objs.size+1)::us) I2.p_ hl) r2 hq) fun r s' J0=>?_))
 cases r with
 |error e=>exact hx ag σ _ _ e s' I2 J0
 |ok fl=>
  cases fl with
  |ret u=>
   obtain⟨v,H',I3,rv,ev,q3⟩:=I2.after J0;subst ev;exact⟨rv,⟨V.ref (s.heap.objs.size+1),H',I3,rfl,q3⟩⟩
  |next=>exact False.elim J0
  |brk=>exact False.elim J0
  |cont=>exact False.elim J0
theorem B8(M:Mk X.K C f)(F:bU X.prog X.w X.K X.mg X.base CX k f fd ps sp)(hr:cB (k+1) X.A)(hg:Gl X x)(hm:X.mg x=some (.ref C))(hb:j7 X.K fd ps ds)(hd:bg r6 ds)(hx:jO CX X E)(ha:PA X (e::es) t)(Dx:(x==("__debug__":Str))=false:=by decide)(he:starEach (e::es) X.env=(false,eval e X.env)::starEach es X.env:=by rfl)(B7:(backTo pos (starEach es X.env)).any (·.1)=false:=by rfl):
  PE X (.Call (.Name x p) (e::es) [] pos) (Te C sp r6 E t):=by
 intro ag s σ H Q I h;refine rE (qL I hg hm ?_ Dx);refine zF (h₀:=X.base) I.ok.mod.RG M.kp (dk (ha pos ag s σ H _ I h) fun us s1 ⟨vs,H1,I1,r,q⟩=>⟨I1.p_,?_⟩) he B7;exact FP M F hr hb hd hx I1 r q
end
def PK(X:Cx)(FQ:List Keyword)(t:TA):Prop:=
 ∀ (pos:Pos) (ag:List (Addr×Obj)) (s:Shared) (σ:St) (H:Hp) (Q:List V->Hp->Prop),aZ X ag σ H s->t σ H Q->wpAny (model X.prog X.w) X.A (evalAll ((backToKw pos (keywordEach FQ X.env)).map (·.2))) (AP X ag σ Q) X.xe s
section
variable {X:Cx} {CX:xH} {k:Nat} {f C:Addr} {fd:FuncData} {ps ks:List Str} {sp:Sp} {E:XK} {x m:Str} {p pos mw Yt:Pos} {e o:Expr} {es:List Expr} {FQ:List Keyword} {te ta:TE} {t tk:TA} {nm:Option Str}
theorem OC:PK X [] dQ:=fun _ _ _ _ H Q I h=>wpAny_evalAll_nil ⟨[],H,I,.nil,h⟩
theorem J1(ha:PE X e te)(hr:PK X FQ t):PK X (⟨nm,e,Yt⟩::FQ) (bi te t):=by
 intro pos ag s σ H Q I h;show wpAny _ _ (evalAll ((do let v <- eval e X.env;standAt pos;pure v)::(backToKw pos (keywordEach FQ X.env)).map (·.2))) _ _ s;refine wpAny_evalAll_cons (aE (dk (ha ag s σ H _ I h) fun u s1 ⟨x,H1,I1,r1,q1⟩=>aE (mf (wpAny_pure ?_))));exact dk (hr pos ag s1 σ H1 _ I1 q1) fun us s2 ⟨xs,H2,I2,r2,q2⟩=>⟨x::xs,H2,I2,.cons r1 r2,q2⟩
variable {g:List Value->List Value->List Value} {gV:List V->List V->List V}
end
structure aT(N P:List Str)(sc:Scope):Prop where
 kind:sc.kind=.function
 co:sc.isCoroutine=false
 gen:sc.isGenerator=false
 nd:N.Nodup
 pre:N.take P.length=P
 par:∀x∈P,sc.names.lookup x=some .local\/sc.names.lookup x=some .cell
 OE:∀y∈sc.names,y.2≠.free
theorem cV{N P:List Str}{sc:Scope}(h:(N.Nodup/\∀x∈P,sc.names.lookup x=some .local\/sc.names.lookup x=some .cell)/\∀y∈sc.names,y.2≠.free)(h1:sc.kind=.function:=by rfl)(h2:sc.isCoroutine=false:=by rfl)(h3:sc.isGenerator=false:=by rfl)(h5:N.take P.length=P:=by rfl):aT N P sc:=⟨h1,h2,h3,h.1.1,h5,h.1.2,h.2⟩
theorem aU{α:Sort u}{a:α}{b:Prop}:a=a\/b:=Or.inl rfl
theorem bL{α:Sort u}{a:α}{b:Prop}:b\/a=a:=Or.inr rfl
theorem ux{kindOf:Str->Option NameKind}{x:Str}:∀ {binds:List (Str×Value)} {m:Str->Option Value},(∀v,(x,v)∉binds)->bindL kindOf binds m x=m x
 |[],_,_=>rfl
 |(n,v)::r,m,h=>by
  unfold bindL;rw[ux fun w hw=>h w (du _ hw)];split
  .have:x≠n:=by rintro rfl;exact h v bZ
   simp[this]
  .rfl
theorem uy{kindOf:Str->Option NameKind}{x:Str}:∀ {binds:List (Str×Value)} {m:Str->Option Value},(∀v,(x,v)∉binds)->bindC kindOf binds m x=m x
 |[],_,_=>rfl
 |(n,v)::r,m,h=>by
  unfold bindC;rw[uy fun w hw=>h w (du _ hw)];split
  .rfl
  .have:x≠n:=by rintro rfl;exact h v bZ
   simp[this]
theorem uz{kindOf:Str->Option NameKind}{x:Str}{v:Value}:∀ {P:List Str} {vs:List Value} {i:Nat} {m:Str->Option Value},P.Nodup->P[i]?=some x->vs[i]?=some v->kindOf x=some .local->
  bindL kindOf (P.zip vs) m x=some v
 |[],_,_,_,_,h,_,_=>by simp at h
 |_::_,[],_,_,_,_,h,_=>by simp at h
 |p::P,w::vs,0,m,nd,h1,h2,hk=>by
  simp at h1 h2;subst h1;subst h2;show bindL kindOf ((p,w)::P.zip vs) m p=_;unfold bindL;rw[ux fun v hv=>(hU.mp nd).1 (rG hv).1,aD hk];simp
 |p::P,w::vs,i+1,m,nd,h1,h2,hk=>by
  show bindL kindOf ((p,w)::P.zip vs) m x=_;unfold bindL;exact uz (i:=i) (hU.mp nd).2 (by simpa using h1) (by simpa using h2) hk
theorem uA{kindOf:Str->Option NameKind}{x:Str}{v:Value}:∀ {P:List Str} {vs:List Value} {i:Nat} {m:Str->Option Value},P.Nodup->P[i]?=some x->vs[i]?=some v->kindOf x≠some .local->
  bindC kindOf (P.zip vs) m x=some v
 |[],_,_,_,_,h,_,_=>by simp at h
 |_::_,[],_,_,_,_,h,_=>by simp at h
 |p::P,w::vs,0,m,nd,h1,h2,hk=>by
  simp at h1 h2;subst h1;subst h2;show bindC kindOf ((p,w)::P.zip vs) m p=_;unfold bindC;rw[uy fun v hv=>(hU.mp nd).1 (rG hv).1,au hk];simp
 |p::P,w::vs,i+1,m,nd,h1,h2,hk=>by
  show bindC kindOf ((p,w)::P.zip vs) m x=_;unfold bindC;exact uA (i:=i) (hU.mp nd).2 (by simpa using h1) (by simpa using h2) hk
def start(N:List Str)(vs:List V):St:=vs.map some++List.replicate (N.length-vs.length) none
def qw(CX:xH)(P:Program)(w:World)(K:PySem.W.Frag)(mg:Str->Option Value)(base:Heap)(N:List Str)(qual:Str)(scope:Scope)(f:Addr)(cd:Value)(A:Around)(outer:List Env)(s:Shared)(H:Hp)(E:XK):Cx where
 prog:=P
 w:=w
 K:=K
 mg:=mg
 base:=base
 A:=A.deeper (envOfC qual scope s.heap.objs.size f cd)
 N:=N
 s₀:=s
 H₀:=H
 env:=envOfC qual scope s.heap.objs.size f cd
 outer:=outer
 stack:=envOfC qual scope s.heap.objs.size f cd::outer
 ex:=[]
 calm:=true
 fn:=fun _=>true
 pn:=[]
 xe:=fun e s'=>wpAny (model P w) (A.deeper (envOfC qual scope s.heap.objs.size f cd)) (leaving (envOfC qual scope s.heap.objs.size f cd) e) (fun _ Tf=>CX outer H s E e Tf) (fun e' Tf=>CX outer H s E e' Tf) s'
theorem xJ{sc:Scope}{n:Nat}{x:Str}(h:sc.names.lookup x=some .cell):∃c,(cellsFrom n sc.names []).lookup x=some c:=by
 have q:=PySem.W.cellsFrom_some sc.names n [] (.inl h);exact vf.mp q
theorem Dy{CX:xH}{P:Program}{w:World}{K:PySem.W.Frag}{mg:Str->Option Value}{base:Heap}{N ps:List Str}{qual:Str}{scope:Scope}{f:Addr}{cd:Value}{A:Around}{outer:List Env}{s s1:Shared}{H:Hp}{E:XK}{us:List Value}{vs:List V}(S:aT N ps scope)(hd:A.handled=none)(e0:At P w K mg base A outer s H)(hl:vs.length=ps.length)(r:bg vs us)(x:InCallC s s.heap.objs.size (bindL (envOfC qual scope s.heap.objs.size f cd).kindOf (ps.zip us) fun _=>none) (cellsFrom (s.heap.objs.size+1) scope.names []) (bindC (envOfC qual scope s.heap.objs.size f cd).kindOf (ps.zip us) fun _=>none) s1):
  aZ (qw CX P w K mg base N qual scope f cd A outer s H E) [] (start N vs) H s1:=by
 have B7:ps.length<=N.length:=by have:=congrArg List.length S.pre;rw[g_] at this;lia
 obtain⟨h1,tk,rfl,hk⟩:=x.done;have RM:∀b:Addr,b∉(qw CX P w K mg base N qual scope f cd A outer s H E).ex:=fun b z=>absurd (show b∈([]:List Addr) from z) (by simp);refine⟨⟨e0.mod,S.kind,rfl,rfl,aW _,fun y z c h1 h2=>?_,fun y hy=>?_,fun y c _ h=>?_,fun _=>hd,Around.frames_deeper e0.frames,.inr ⟨rfl,rfl⟩,fun b z=>absurd z (RM b),e0.bs,e0.Jt,fun b _ _=>RM b,fun b z=>absurd z (RM b),e0.pb,e0.M2⟩,
  rfl,e0.bare,Un.kept hk,⟨_,x.toInCall.ns,fun i y v h1 h2 h3=>?_⟩,fun y c h=>⟨_,x.cell y c h⟩,e0.cI.fresh (aW _),fun y c h=>?_,fun p hp=>absurd (show p∈([]:List (Addr×Obj)) from hp) (by simp),e0.cI.kept hk,?_⟩
 .exact name_of_addr x.apart (kC h1) (kC h2)
 .have hy:scope.names.lookup y=some .cell\/scope.names.lookup y=some .free:=hy;rcases hy with hy|hy
  .exact xJ hy
  .exact absurd rfl (S.OE _ (kC hy))
 .exact kO (x.above y c (kC h))
 .have hi:i<vs.length:=by
   unfold start at h2;by_cases hi:i<vs.length
   .exact hi
   .rw[kn (by simpa using hi)] at h2;rw[lZ] at h2;split at h2 <;> cases h2
  have ha:vs[i]?=some v:=by
   unfold start at h2;rw[i6 (by simpa using hi),bN] at h2;cases e:vs[i]? with
   |none=>rw[e] at h2;cases h2
   |some a=>rw[e] at h2;cases h2;rfl
  obtain⟨u,hu,rv⟩:=r.get ha;have hp:ps[i]?=some y:=by
   rw[<-S.pre,List.getElem?_take_of_lt (by lia)];exact h1
  have ndP:ps.Nodup:=by rw[<-S.pre];exact S.nd.sublist (rA _ _)
  refine⟨u,rv,?_⟩;rcases S.par y (cZ hp) with k|k
  .exact .inl ⟨k,uz ndP hp hu k⟩
  .obtain⟨c,e⟩:=xJ (n:=s.heap.objs.size+1) k;refine .inr ⟨.inl k,c,e,?_⟩;have q:=x.cell y c e;rw[uA ndP hp hu (by show scope.names.lookup y≠_;rw[k];decide)] at q;exact q
 .exact e0.cI.fresh (kO (x.above y c (kC h)))
 .unfold start;show _=N.length;rw[cn,aP,kr];lia
theorem FR{CX:xH}{P:Program}{w:World}{K:PySem.W.Frag}{mg:Str->Option Value}{base:Heap}{k:Nat}{f:Addr}{name qual:Str}{params:Arguments}{body:List Stmt}{scope:Scope}{dV kV mU pm dY ct oc:Value}{an od:Option Addr}{uB:Array (Option Value)}{N ps:List Str}{sp:Sp}(lk:K.lookup f=some ⟨oc,od,.func (PySem.W.fnOf name qual params body scope dV kV mU pm an dY ct),uB⟩)(qK:PySem.W.codeIn K dY qual=true)(S:aT N ps scope)(len:∀vs H Q E,sp vs H Q E->vs.length=ps.length)(r9:∀ (A:Around) (outer:List Env) (s:Shared) (H:Hp) (vs:List V) (Q:VK) (E:XK),cB k (A.deeper (envOfC qual scope s.heap.objs.size f dY))->sp vs H Q E->
   ∃t,y0 (qw CX P w K mg base N qual scope f dY A outer s H E) body t/\t { nx:=fun _ H'=>Q .bz H',rt:=Q } (start N vs) H):
  bU P w K mg base CX (k+1) f (PySem.W.fnOf name qual params body scope dV kV mU pm an dY ct) ps sp:=by
 refine⟨len,fun A outer s H args us vs Q E hr e0 hb r EX=>?_⟩;have hl:=len _ _ _ _ EX;have KX:K.In s.heap:=e0.mod.RG.keeps fun b o e=>(e0.bs b o e).1;have lim:s.heap.NoLimit:=e0.mod.nolimit.keeps fun b o e=>(e0.bs b o e).1;have Ti:∀y∈ps.zip us,scope.names.lookup y.1=some .local\/(scope.names.lookup y.1=some .cell/\((cellsFrom (s.heap.objs.size+1) scope.names []).lookup y.1).isSome=true):=fun ⟨n,v⟩ hy=>by
  rcases S.par n (rG hy).1 with q|q
  .exact .inl q
  .exact .inr ⟨q,PySem.W.cellsFrom_some _ _ _ (.inl q)⟩
 refine codeAny_call_function hr.depth (KX _ _ lk) rfl S.co S.gen rfl (PySem.W.codeRec_of KX qK) (hb _ _ _ _ ?_);refine wpAny_newFunctionEnv_cells S.kind Ti fun env he s1 x=>?_;subst he;refine⟨lim.keeps x.toInCall.keep,codeAny_func ?_⟩;obtain⟨t,ht,hq⟩:=r9 A outer s H vs Q E (hr.deeper _) EX;have I:aZ (qw CX P w K mg base N qual scope f dY A outer s H E) [] (start N vs) H s1:=Dy S hr.hd e0 hl r x;refine mj (ht [] s1 (start N vs) H _ I hq) (fun fl s' hs=>?_) fun e s' hs=>hs;have dJ:∀ {σ':St} {H':Hp} {v:V} {u:Value},aZ (qw CX P w K mg base N qual scope f dY A outer s H E) [] σ' H' s'->b8 v u->Q v H'->CE outer P w H s Q u s':=
  fun {σ' H' v u} J rv q=>⟨v,H',J.os,J.bare,J.base,J.cI,rv,q⟩
 cases fl with
 |ret u=>
  obtain⟨v,σ',H',J,rv,q⟩:=hs;exact dJ J rv q
 |next=>
  obtain⟨σ',H',J,q⟩:=hs;exact dJ (v:=V.bz) (u:=Value.none) J rfl q
 |brk=>
  obtain⟨_,_,_,q⟩:=hs;exact False.elim q
 |cont=>
  obtain⟨_,_,_,q⟩:=hs;exact False.elim q
section
variable {X:Cx} {x:Str} {p pos:Pos} {e:Expr} {es:List Expr} {t:TA} {id T:String} {r:List V->Hp->VK->Prop}
def J2(r:List V->Hp->VK->Prop)(t:TA):TE:=fun σ H Q=>t σ H fun vs H1=>r vs H1 Q
theorem aI(hc:fA X (.builtin id) r)(hg:Gl X x)(hm:X.mg x=none)(hv:bootBuiltins x=some (.builtin id))(ha:PA X (e::es) t)(hn:x≠"__name__":=by decide)(Dx:(x==("__debug__":Str))=false:=by decide)(he:starEach (e::es) X.env=(false,eval e X.env)::starEach es X.env:=by rfl)(B7:(backTo pos (starEach es X.env)).any (·.1)=false:=by rfl):PE X (.Call (.Name x p) (e::es) [] pos) (J2 r t):=by
 intro ag s σ H Q I h;refine rE (mr I hg hm hv ?_ hn Dx);exact PyProof.Rows.callWith_builtin1 (dk (ha pos ag s σ H _ I h) fun us s1 ⟨vs,H1,I1,r1,q1⟩=>hc ag s1 σ H1 vs us Q I1 r1 q1) he B7
theorem cL(hc:fA X (.type T) r)(hg:Gl X x)(hm:X.mg x=none)(hv:bootBuiltins x=some (.type T))(ha:PA X (e::es) t)(hn:x≠"__name__":=by decide)(Dx:(x==("__debug__":Str))=false:=by decide)(he:starEach (e::es) X.env=(false,eval e X.env)::starEach es X.env:=by rfl)(B7:(backTo pos (starEach es X.env)).any (·.1)=false:=by rfl):PE X (.Call (.Name x p) (e::es) [] pos) (J2 r t):=by
 intro ag s σ H Q I h;refine rE (mr I hg hm hv ?_ hn Dx);exact vc (dk (ha pos ag s σ H _ I h) fun us s1 ⟨vs,H1,I1,r1,q1⟩=>hc ag s1 σ H1 vs us Q I1 r1 q1) he B7
end
end L2
namespace HT
open PySem PyProof.Rows
section
open PySem.SeqAt
open PySem.AutoSeq1 (wpAny_loadPart')
open PySem.MeetsSeq PySem.MeetsSeq2 PySem.MeetsSeq3
end
section
variable {prog:Program} {w:World} {A:Around} {E:Value->Shared->Prop} {s:Shared}
def e_(n d:Nat):Option Int->Nat
 |none=>d
 |some v=>if v<0 then (v+(n:Int)).toNat else min v.toNat n
theorem OF(n d:Nat)(hd:d<=n)(o:Option Int):e_ n d o<=n:=by
 cases o with
 |none=>exact hd
 |some v=>
  show (if v<0 then (v+(n:Int)).toNat else min v.toNat n)<=n;by_cases hv:v<0
  .rw[aD hv];lia
  .rw[au hv];exact Nat.min_le_right _ _
theorem B9(v:Int)(n d:Nat):(if v<0 then max (v+(n:Int)) 0 else min v (n:Int))=((e_ n d (some v):Nat):Int):=by
 show (if v<0 then max (v+(n:Int)) 0 else min v (n:Int))=(((if v<0 then (v+(n:Int)).toNat else min v.toNat n):Nat):Int);by_cases hv:v<0
 .simp only[aD hv];lia
 .simp only[au hv];lia
theorem Av(lo hi:Option Int)(n:Nat):Builtin.Slice.sliceAdjust lo hi 1 (n:Int)=(((e_ n 0 lo:Nat):Int),((e_ n n hi:Nat):Int)):=by
 have h1:¬ ((1:Int)<0):=by lia
 unfold Builtin.Slice.sliceAdjust;simp only[h1,gN];refine fQ ?_ ?_
 .cases lo with
  |none=>rfl
  |some v=>exact B9 v n 0
 .cases hi with
  |none=>rfl
  |some v=>exact B9 v n n
theorem Aw(i j:Nat):Builtin.Slice.slicePlaces (i:Int) (j:Int) 1=j-i:=by
 unfold Builtin.Slice.slicePlaces;have h1:(1:Int) > 0:=by lia
 simp only[h1,jj,Int.ediv_one];split <;> lia
theorem r_(p:IsPart v o)(h:Q o s):wpAny (model prog w) A (Builtin.Slice.slicePartIndex v) Q E s:=by
 cases p with
 |none=>exact slicePart_none h
 |int i t=>exact slicePart_int h
theorem jv{sl:Addr}{vl vu:Value}{lo hi:Option Int}{n:Nat}{Q:Int×Int×Nat->Shared->Prop}(hs:s.heap.IsSliceOf sl vl vu .none)(pl:IsPart vl lo)(pu:IsPart vu hi)(h:Q (((e_ n 0 lo:Nat):Int),1,e_ n n hi-e_ n 0 lo) s):wpAny (model prog w) A (Builtin.Slice.sliceApplied (.ref sl) (pure (n:Int))) Q E s:=by
 obtain⟨os,B_,W2,Jv⟩:=id hs;unfold Builtin.Slice.sliceApplied Builtin.Slice.sliceFields;refine aE (aE (fN B_ Jv (x:=vl) rfl (aE (fN B_ Jv (x:=vu) rfl (aE (fN B_ Jv (x:=.none) rfl (wpAny_pure ?_)))))));refine aE (slicePart_none ?_);show wpAny _ _ (if ((1:Int)==0)=true then _ else _) _ _ s;rw[au (by decide)];refine aE (r_ pl (aE (r_ pu (aE (wpAny_pure ?_)))));show wpAny _ _ (match Builtin.Slice.sliceAdjust lo hi 1 (n:Int) with|(lo,hi)=>pure (lo,(1:Int),Builtin.Slice.slicePlaces lo hi 1)) _ _ s;rw[Av lo hi n];show wpAny _ _ (pure (((e_ n 0 lo:Nat):Int),(1:Int),Builtin.Slice.slicePlaces ((e_ n 0 lo:Nat):Int) ((e_ n n hi:Nat):Int) 1)) _ _ s;rw[Aw];exact wpAny_pure h
theorem FS(xs:Array Value)(i k:Nat):((List.range k).filterMap fun (m:Nat)=>xs[((i:Int)+(m:Int)*1).toNat]?).toArray=((xs.toList.drop i).take k).toArray:=by
 have e:(fun (m:Nat)=>xs[((i:Int)+(m:Int)*1).toNat]?)=fun m=>xs[i+m]?:=by
  funext m;have:((i:Int)+(m:Int)*1).toNat=i+m:=by lia
  rw[this]
 rw[e];have:=pick_run xs i k;rw[List.filterMap_map] at this;have e2:((fun x=>xs[x]?) ∘ fun x=>i+x)=fun m=>xs[i+m]?:=rfl;rw[e2] at this;rw[this]
theorem nn{t sl:Addr}{items:Array Value}{vl vu:Value}{lo hi:Option Int}{Q:Value->Shared->Prop}(ht:IsTup s.heap t items)(hs:s.heap.IsSliceOf sl vl vu .none)(pl:IsPart vl lo)(pu:IsPart vu hi)(hw:¬ (e_ items.size 0 lo=0/\e_ items.size items.size hi=items.size))(h:Q (.ref s.heap.objs.size) { s with heap:=s.heap.push { cls:=.type "tuple",data:=.seq ((items.toList.drop (e_ items.size 0 lo)).take (e_ items.size items.size hi-e_ items.size 0 lo)).toArray } })(lM:items.size<=sizeLine):wpAny (model prog w) A (getItem (.ref t) (.ref sl)) Q E s:=by
 have Ca:sizeOk (.seq ((items.toList.drop (e_ items.size 0 lo)).take (e_ items.size items.size hi-e_ items.size 0 lo)).toArray):=by
  show ((items.toList.drop (e_ items.size 0 lo)).take (e_ items.size items.size hi-e_ items.size 0 lo)).toArray.size<=sizeLine;rw[bQ,g_,l9,l0];lia
 have hj:e_ items.size items.size hi<=items.size:=OF _ _ (aW _) hi;obtain⟨os,B_,W2,Jv⟩:=id hs;have Yu:s.TypeIs (.ref sl) "slice":=⟨os,B_,W2⟩
 unfold getItem;try with_reducible refine gC ?_
 first|refine aE (wpAny_pure ?_)|skip
 refine aE (wpAny_sequenceKey ht.typeIs (by decide) ?_);refine aE (oH (name:=Str.ofString "__getitem__") ht.typeIs um
  (l_ um ht.typeIs entry_tuple_getitem ?_ (args_tuple_getitem _ _)))
 show wpAny _ _ (Builtin.Tuple.tupleItemsOf (.ref t) >>= _) _ _ s;refine aE (tupleItemsOf_ ht ?_);refine aE (rP Yu ?_);rw[aD (by decide)];refine aE (jv hs pl pu ?_);have FT:¬ ((((e_ items.size 0 lo:Nat):Int)==0&&(1:Int)==1&&(e_ items.size items.size hi-e_ items.size 0 lo)==items.size)=true):=by
  intro q;rw[gg,gg] at q;have q1:((e_ items.size 0 lo:Nat):Int)=0:=eq_of_beq q.1.1;have q2:e_ items.size items.size hi-e_ items.size 0 lo=items.size:=eq_of_beq q.2;exact hw ⟨by lia,by lia⟩
 show wpAny _ _ (if (((e_ items.size 0 lo:Nat):Int)==0&&(1:Int)==1&&(e_ items.size items.size hi-e_ items.size 0 lo)==items.size)=true then _ else _) _ _ s;rw[au FT,FS];first
  |exact aE (m:=Builtin.Tuple.tupleExact _) (kI (wpAny_pure ⟨_,rfl,wpAny_pure h⟩) Ca)
  |exact aE (m:=Builtin.Tuple.tupleExact _) (kI (aE (wpAny_pure (wpAny_pure ⟨_,rfl,wpAny_pure h⟩))) Ca)
  |exact aE (aE (m:=Builtin.Tuple.tupleExact _) (kI (wpAny_pure (wpAny_pure ⟨_,rfl,wpAny_pure h⟩)) Ca))
  |exact aE (aE (m:=Builtin.Tuple.tupleExact _) (kI (wpAny_pure ⟨_,rfl,wpAny_pure h⟩) Ca))
end
end HT
namespace L2
open PySem PySem.Spec PyProof.Rows
abbrev TO:=St->Hp->(Option Int->Hp->Prop)->Prop
def PO(X:Cx)(e:Option Expr)(t:TO):Prop:=
 ∀ (ag:List (Addr×Obj)) (s:Shared) (σ:St) (H:Hp) (Q:Option Int->Hp->Prop),aZ X ag σ H s->t σ H Q->
  wpAny (model X.prog X.w) X.A (evalPart e X.env) (fun u s'=>∃o H',aZ X ag σ H' s'/\IsPart u o/\Q o H') X.xe s
def J3:TO:=fun _ H Q=>Q none H
def Tj(t:TE):TO:=fun σ H Q=>t σ H fun x H1=>∃i,x=.int i/\Q (some i) H1
theorem Ax{ns:List Int}:∀ {us:List Value},bg (ns.map V.int) us->IntsAre us ns:=by
 induction ns with
 |nil=>intro us r;rw[List.map_nil] at r;cases r;exact .nil
 |cons n ns ih=>
  intro us r;rw[eJ] at r;cases r with
  |cons r1 r2=>
   obtain⟨t,e⟩:=r1;subst e;exact .cons n t (ih r2)
section
variable {X:Cx} {e:Expr} {te:TE} {lo hi:Option Expr} {tl th:TO} {pos p2:Pos}
theorem gW:PO X none J3:=by
 intro ag s σ H Q I h;rw[evalPart_none];exact wpAny_pure ⟨none,H,I,.none,h⟩
theorem gX(h:PE X e te):PO X (some e) (Tj te):=by
 intro ag s σ H Q I hw;rw[evalPart_some];refine dk (h ag s σ H _ I hw) fun u s1 ⟨x,H1,I1,r1,q1⟩=>?_;obtain⟨i,rfl,q⟩:=q1;obtain⟨t,rfl⟩:=r1;exact⟨some i,H1,I1,.int i t,q⟩
def W3(X:Cx)(r:V->Option Int->Option Int->Hp->VK->Prop):Prop:=
 ∀ (ag:List (Addr×Obj)) (s:Shared) (σ:St) (H:Hp) (x:V) (v vl vu:Value) (lo hi:Option Int) (sl:Addr) (Q:VK),aZ X ag σ H s->b8 x v->s.heap.IsSliceOf sl vl vu .none->IsPart vl lo->IsPart vu hi->r x lo hi H Q->
  ∃T id,typeLookup (.type T) "__getitem__"=pure (some (.builtin id))/\s.TypeIs v T/\wpAny (model X.prog X.w) X.A (getItem v (.ref sl)) (EP X ag σ Q) X.xe s
def tSl(r:V->Option Int->Option Int->Hp->VK->Prop)(te:TE)(tl th:TO):TE:=fun σ H Q=>te σ H fun x H1=>tl σ H1 fun l H2=>th σ H2 fun u H3=>r x l u H3 Q
theorem fE(hr:W3 X r)(he:PE X e te)(hl:PO X lo tl)(hu:PO X hi th):PE X (.Subscript e (.Slice lo hi none p2) pos) (tSl r te tl th):=by
 intro ag s σ H Q I h;refine Subscript_ (dk (he ag s σ H _ I h) fun v s1 ⟨x,H1,I1,r1,q1⟩=>?_);refine wpAny_Slice (dk (hl ag s1 σ H1 _ I1 q1) fun vl s2 ⟨l,H2,I2,pl,q2⟩=>dk (hu ag s2 σ H2 _ I2 q2) fun vu s3 ⟨u,H3,I3,pu,q3⟩=>?_);rw[evalPart_none];refine wpAny_pure ?_;have I4:aZ X ag σ H3 { s3 with heap:=s3.heap.push { cls:=.type "slice",data:=.fields #[vl,vu,.none] } }:=I3.kept (t':=s3.toks) fun b ob q=>cg _ q;obtain⟨T,id,hT,ht,hg⟩:=hr ag { s3 with heap:=s3.heap.push { cls:=.type "slice",data:=.fields #[vl,vu,.none] } } σ H3 x v vl vu l u s3.heap.objs.size Q I4 r1 (Heap.IsSliceOf.new ..) pl pu q3;show wpAny (model X.prog X.w) X.A (subscriptTail e (.Slice lo hi none p2) v (.ref s3.heap.objs.size)) (EP X ag σ Q) X.xe { s3 with heap:=s3.heap.push { cls:=.type "slice",data:=.fields #[vl,vu,.none] } };exact tail_any (ops:=[.ref s3.heap.objs.size,v]) ht hT hg (by with_unfolding_all rfl)
def nq(xs:List V)(lo hi:Option Int):List V:=(xs.drop (HT.e_ xs.length 0 lo)).take (HT.e_ xs.length xs.length hi-HT.e_ xs.length 0 lo)
theorem qc(xs:List V)(lo hi:Option Int):(nq xs lo hi).length<=xs.length:=by
 unfold nq;rw[g_,l9];lia
def Yv(K:PySem.W.Frag):V->Option Int->Option Int->Hp->VK->Prop:=fun x lo hi H Q=>∃a xs,x=.ref a/\bt K H a xs/\
 ¬ (HT.e_ xs.length 0 lo=0/\HT.e_ xs.length xs.length hi=xs.length)/\∀p,H p=none->Q (.ref p) (upd H p (.tup (nq xs lo hi)))
theorem OG:W3 X (Yv X.K):=by
 intro ag s σ H x v vl vu lo hi sl Q I rx hs pl pu h;obtain⟨a,xs,rfl,hx,hw,q⟩:=h;cases rx;obtain⟨its,r,ht,hz⟩:=I.tuple hx;have dz:its.toArray.size=xs.length:=by rw[bQ];exact r.length.symm
 refine⟨"tuple",_,um.lookup,ht.typeIs,?_⟩;refine HT.nn ht hs pl pu (by rw[dz];exact hw) ?_ (by rw[dz];exact hz);rw[dz];refine⟨.ref s.heap.objs.size,_,I.laid (t':=s.toks) (o:=.tup (nq xs lo hi)) (fun b ob q=>cg _ q) (aW _) ?_,rfl,q _ (I.cI.fresh (aW _))⟩;exact⟨aY (qc xs lo hi) hz,_,(r.drop (HT.e_ xs.length 0 lo)).take (HT.e_ xs.length xs.length hi-HT.e_ xs.length 0 lo),kR.new _ _⟩
theorem bg.nu(r:bg xs us):us=[]↔xs=[]:=by
 cases r with
 |nil=>simp
 |cons _ _=>simp
end
def FU(n:Nat)(i:Int):Option Nat:=if 0<=i then (if i<n then some i.toNat else none) else if -(n:Int)<=i then some (i+n).toNat else none
def FV{α:Type}(xs:List α)(i:Int):Option α:=(FU xs.length i).bind fun j=>xs[j]?
theorem nw(h:FU n i=some j):seqIndex? i n=some j/\j<n/\-(n:Int)<=i/\i<n:=by
 unfold FU at h;by_cases h0:0<=i
 .rw[aD h0] at h;by_cases h1:i<n
  .rw[aD h1] at h;have e:i.toNat=j:=bX h;exact⟨by rw[seqIndex_of h0 h1,e],by lia,by lia,h1⟩
  .rw[au h1] at h;cases h
 .rw[au h0] at h;by_cases h1:-(n:Int)<=i
  .rw[aD h1] at h;have e:(i+n).toNat=j:=bX h;exact⟨by rw[seqIndex_neg (by lia) h1,e],by lia,h1,by lia⟩
  .rw[au h1] at h;cases h
theorem Cb(h:FV xs i=some v):∃j,seqIndex? i xs.length=some j/\xs[j]?=some v/\j<xs.length/\-(xs.length:Int)<=i/\i<xs.length:=by
 unfold FV at h;cases e:FU xs.length i with
 |none=>rw[e] at h;cases h
 |some j=>
  rw[e] at h;obtain⟨h1,h2,h3,h4⟩:=nw e;exact⟨j,h1,h,h2,h3,h4⟩
theorem am{α:Type}{xs:List α}{j:Nat}{v:α}(h:xs[j]?=some v):FV xs (j:Int)=some v:=by
 have hj:j<xs.length:=(cY.mp h).1;have e:FU xs.length (j:Int)=some j:=by
  unfold FU;rw[aD (by lia),aD (by lia)];simp
 unfold FV;rw[e];exact h
theorem FX(xs:List α)(v:α):FV (xs++[v]) (-1)=some v:=by
 have hl:(xs++[v]).length=xs.length+1:=by simp
 have e:FU (xs++[v]).length (-1)=some xs.length:=by
  unfold FU;rw[hl,au (by decide),aD (by lia)];congr 1;lia
 unfold FV;rw[e];show (xs++[v])[xs.length]?=some v;simp
def J4(b:Expr):Prop:=∀o i,subscripted b false o i=operate [o,i] (getItem o i)
def Yw(X:Cx)(r:R2):Prop:=
 ∀ (value slice:Expr) (ag:List (Addr×Obj)) (s:Shared) (σ:St) (H:Hp) (x y:V) (v u:Value) (Q:VK),aZ X ag σ H s->b8 x v->b8 y u->r x y H Q->
  subscripted slice false v u=operate [v,u] (getItem v u)->wpAny (model X.prog X.w) X.A (subscriptTail value slice v u) (EP X ag σ Q) X.xe s
def MtR(X:Cx)(id:String)(r:V->List V->Hp->VK->Prop):Prop:=
 ∀ (ag:List (Addr×Obj)) (s:Shared) (σ:St) (H:Hp) (x:V) (xs:List V) (v:Value) (us:List Value) (Q:VK),aZ X ag σ H s->b8 x v->bg xs us->r x xs H Q->
  wpAny (model X.prog X.w) X.A (call (.builtin id) (v::us)) (EP X ag σ Q) X.xe s
section
variable {X:Cx} {a b:Expr} {ta tb:TE} {pos:Pos}
theorem aG(hr:Yw X r)(ha:PE X a ta)(hb:PE X b tb)(hs:J4 b):PE X (.Subscript a b pos) (gw r ta tb):=by
 intro ag s σ H Q I h;exact Subscript_ (Ov ha hb I h fun v u s2 x y H2 I2 rx ry q=>hr a b ag s2 σ H2 x y v u Q I2 rx ry q (hs _ _))
def ki(K:PySem.W.Frag):R2:=fun x y H Q=>∃p xs i v,x=.ref p/\y=.int i/\aV K H p xs/\FV xs i=some v/\Q v H
def Dz(K:PySem.W.Frag):R2:=fun x y H Q=>∃p xs i v,x=.ref p/\y=.int i/\bt K H p xs/\FV xs i=some v/\Q v H
theorem aH:Yw X (ki X.K):=by
 intro value slice ag s σ H x y v u Q I rx ry h hs;obtain⟨p,xs,i,z,rfl,rfl,hq,he,q⟩:=h;cases rx;obtain⟨t,rfl⟩:=ry;obtain⟨its,r,pl,hz⟩:=I.list hq;obtain⟨j,h1,h2,h3,h4,h5⟩:=Cb he;obtain⟨w,ew,Oo⟩:=r.get h2;have hl:=r.length;have hn:=vW;have dJ:EP X ag σ Q w s:=⟨z,H,I,Oo,q⟩
 by_cases h0:0<=i
 .have hj:i.toNat=j:=by
   rw[seqIndex_of h0 h5] at h1;exact bX h1
  exact item_listR pl.isList h0 (by lia) (by rw[hj];simpa using ew) dJ hs
 .have hj:(i+(its.toArray.size:Int)).toNat=j:=by
   rw[seqIndex_neg (by lia) h4] at h1;rw[bQ,<-hl];exact bX h1
  exact subscriptTail_builtinR (x:=w) pl.isList.typeIs slot_list_getitem.lookup
   (wpAny_getItem_list_neg (Q:=fun r s'=>r=w/\EP X ag σ Q r s') pl.isList (by lia) (by rw[bQ] <;> lia) (by lia) (by rw[hj];simpa using ew) ⟨rfl,dJ⟩) hs
theorem bf:Yw X (Dz X.K):=by
 intro value slice ag s σ H x y v u Q I rx ry h hs;obtain⟨p,xs,i,z,rfl,rfl,hq,he,q⟩:=h;cases rx;obtain⟨t,rfl⟩:=ry;obtain⟨its,r,pl,hz⟩:=I.tuple hq;obtain⟨j,h1,h2,h3,h4,h5⟩:=Cb he;obtain⟨w,ew,Oo⟩:=r.get h2;have hl:=r.length;have hn:=vW;have dJ:EP X ag σ Q w s:=⟨z,H,I,Oo,q⟩
 exact subscriptTail_builtinR (x:=w) pl.typeIs slot_tuple_getitem.lookup
  (getItem_tuple (j:=j) (Q:=fun r s'=>r=w/\EP X ag σ Q r s') pl (by lia) (by lia) (by rw[bQ,<-hl];exact h1) (by simpa using ew) ⟨rfl,dJ⟩) hs
theorem Ay(its:List Value)(n j:Nat)(u:Value):Obj.mapSeq (·.setIfInBounds j u) { cls:=.type "list",data:=.seq its.toArray n }={ cls:=.type "list",data:=.seq (its.set j u).toArray n }:=by
 simp[Obj.mapSeq]
theorem aZ.lst(I:aZ X ag σ H s)(h:H p=some (.lst xs)):
  ∃ (its:List Value) (n:Nat),bg xs its/\s.heap.get? p=some { cls:=.type "list",data:=.seq its.toArray n }/\xs.length<=sizeLine:=by
 obtain⟨z,its,n,r,e⟩:=I.cI p _ h;exact⟨its,n,r,e,z⟩
theorem aZ.OH{ag:List (Addr×Obj)}{σ:St}{H:Hp}{s:Shared}{p:Addr}{xs ys:List V}{its its':List Value}{n n':Nat}{f:Obj->Obj}(I:aZ X ag σ H s)(h:H p=some (.lst xs))(ho:s.heap.get? p=some { cls:=.type "list",data:=.seq its.toArray n })(hf:f { cls:=.type "list",data:=.seq its.toArray n }={ cls:=.type "list",data:=.seq its'.toArray n' })(r:bg ys its')(hz:ys.length<=sizeLine)(t:Nat):
  aZ X ag σ (upd H p (.lst ys)) { s with heap:=s.heap.update p f,toks:=t }:=by
 have e:(s.heap.update p f).get? p=some { cls:=.type "list",data:=.seq its'.toArray n' }:=by
  rw[zM f ho (by rw[hf] <;> rfl),hf]
 refine I.write (x:=p) (e:=p) (by rw[h];trivial) (.inl rfl) (fun b u hb q=>(zE _ _ (im hb)).trans q) ⟨_,e⟩ ?_;exact⟨hz,its',n',r,e⟩
def Tk:V->V->V->Hp->(Hp->Prop)->Prop:=fun o i v H Q=>∃p xs k j,o=.ref p/\i=.int k/\H p=some (.lst xs)/\FU xs.length k=some j/\Q (upd H p (.lst (xs.set j v)))
theorem eS:S0 X Tk:=by
 intro ag s σ H o i v ov iv u Q I ro ri rv h;obtain⟨p,xs,k,j,rfl,rfl,hp,hj,q⟩:=h;cases ro;obtain⟨t,rfl⟩:=ri;obtain⟨its,n,r,ho,hz⟩:=I.lst hp;obtain⟨h1,h2,h3,h4⟩:=nw hj;have hl:=r.length;have hn:=vW;have I':aZ X ag σ (upd H p (.lst (xs.set j v))) { s with heap:=s.heap.update p (Obj.mapSeq (·.setIfInBounds j u)) }:=
  I.OH hp ho (Ay its n j u) (r.set rv j) (by rw[j5];exact hz) s.toks
 by_cases h0:0<=k
 .have hk:k.toNat=j:=by
   rw[seqIndex_of h0 h4] at h1;exact bX h1
  exact PySem.W.ki_setAt ho h0 (by lia) (by rw[bQ,<-hl];exact h4) (by rw[hk];exact⟨_,I',q⟩)
 .have hk:(k+(its.toArray.size:Int)).toNat=j:=by
   rw[seqIndex_neg (by lia) h3] at h1;rw[bQ,<-hl];exact bX h1
  exact PySem.W.ki_setBack ho (by lia) (by rw[bQ,<-hl];exact h3) (by lia) (by rw[hk];exact⟨_,I',q⟩)
theorem vY(lo hi:Option Int)(n:Nat):(sliceBounds lo hi none n).1=((HT.e_ n 0 lo:Nat):Int)/\(sliceBounds lo hi none n).2.1=((HT.e_ n n hi:Nat):Int)/\(sliceBounds lo hi none n).2.2=1:=by
 refine⟨?_,?_,rfl⟩
 .cases lo with
  |none=>simp[sliceBounds,HT.e_]
  |some i=>
   simp only[sliceBounds,HT.e_,Option.getD_none,show (1:Int) > 0 by decide,jj];by_cases h:i<0
   .simp only[h,jj] <;> lia
   .simp only[h,gN] <;> lia
 .cases hi with
  |none=>simp[sliceBounds,HT.e_]
  |some i=>
   simp only[sliceBounds,HT.e_,Option.getD_none,show (1:Int) > 0 by decide,jj];by_cases h:i<0
   .simp only[h,jj] <;> lia
   .simp only[h,gN] <;> lia
theorem t7(its:List Value)(lo hi:Option Int):slicePick its.toArray lo hi none=((its.drop (HT.e_ its.length 0 lo)).take (HT.e_ its.length its.length hi-HT.e_ its.length 0 lo)).toArray:=by
 obtain⟨h1,h2,h3⟩:=vY lo hi its.toArray.size;unfold slicePick;rw[h1,h2,h3];simp only[sliceRange_one,pick_run,bQ] <;> rfl
def Yx(K:PySem.W.Frag):V->Option Int->Option Int->Hp->VK->Prop:=fun x lo hi H Q=>∃a xs,x=.ref a/\aV K H a xs/\∀p,H p=none->Q (.ref p) (upd H p (.lst (nq xs lo hi)))
theorem Cc:W3 X (Yx X.K):=by
 intro ag s σ H x v vl vu lo hi sl Q I rx hs pl pu h;obtain⟨a,xs,rfl,hx,q⟩:=h;cases rx;obtain⟨its,r,ht,hz⟩:=I.list hx;have dz:=r.length;refine⟨"list",_,slot_list_getitem.lookup,ht.isList.typeIs,?_⟩;refine wpAny_getItem_list_slice ht.isList hs pl pu .none (by simp) ?_ (by rw[bQ] <;> lia);rw[t7,<-dz];refine⟨.ref s.heap.objs.size,_,I.laid (t':=s.toks) (o:=.lst (nq xs lo hi)) (fun b ob q=>cg _ q) (aW _) ?_,rfl,q _ (I.cI.fresh (aW _))⟩;exact⟨aY (qc xs lo hi) hz,_,0,(r.drop (HT.e_ xs.length 0 lo)).take (HT.e_ xs.length xs.length hi-HT.e_ xs.length 0 lo),cR _ rfl⟩
def cT:V->Bool
 |.bz=>true
 |.bl _=>true
 |.int _=>true
 |.str _=>true
 |_=>false
def iH:V->V->Bool
 |.bz,.bz=>true
 |.bl a,.bl b=>a==b
 |.bl a,.int b=>(if a then 1 else 0)==b
 |.int a,.bl b=>a==(if b then 1 else 0)
 |.int a,.int b=>a==b
 |.str a,.str b=>a==b
 |_,_=>false
theorem se(ry:b8 y u)(rx:b8 x v)(fy:cT y=true)(fx:cT x=true):SeqAt.EqAt A s u v (iH y x):=by
 cases y with
 |bz=>
  cases ry;cases x with
  |bz=>cases rx;exact SeqAt.EqAt.same _
  |bl b=>cases rx;exact SeqAt.EqAt.none_bool b
  |int b=>obtain⟨t,rfl⟩:=rx;exact SeqAt.EqAt.none_int b t
  |str b=>obtain⟨t,rfl⟩:=rx;exact SeqAt.EqAt.none_str b t
  |_=>exact absurd (show false=true from fx) cJ
 |bl a=>
  cases ry;cases x with
  |bz=>cases rx;exact SeqAt.EqAt.bool_none a
  |bl b=>cases rx;exact SeqAt.EqAt.bool_bool a b
  |int b=>obtain⟨t,rfl⟩:=rx;exact SeqAt.EqAt.bool_int a b t
  |str b=>obtain⟨t,rfl⟩:=rx;exact SeqAt.EqAt.bool_str a b t
  |_=>exact absurd (show false=true from fx) cJ
 |int a=>
  obtain⟨t',rfl⟩:=ry;cases x with
  |bz=>cases rx;exact SeqAt.EqAt.int_none a t'
  |bl b=>cases rx;exact SeqAt.EqAt.int_bool a t' b
  |int b=>obtain⟨t,rfl⟩:=rx;exact SeqAt.EqAt.int_int a t' b t
  |str b=>obtain⟨t,rfl⟩:=rx;exact SeqAt.EqAt.int_str a t' b t
  |_=>exact absurd (show false=true from fx) cJ
 |str a=>
  obtain⟨t',rfl⟩:=ry;cases x with
  |bz=>cases rx;exact SeqAt.EqAt.str_none a t'
  |bl b=>cases rx;exact SeqAt.EqAt.str_bool a t' b
  |int b=>obtain⟨t,rfl⟩:=rx;exact SeqAt.EqAt.str_int a t' b t
  |str b=>obtain⟨t,rfl⟩:=rx;exact SeqAt.EqAt.str_str a t' b t
  |_=>exact absurd (show false=true from fx) cJ
 |_=>exact absurd (show false=true from fy) cJ
def uC(x:V)(u:Value):Bool:=match u with
 |.none=>iH .bz x
 |.bool b=>iH (.bl b) x
 |.int i _=>iH (.int i) x
 |.str z _=>iH (.str z) x
 |_=>false
theorem FY(r:b8 y u)(f:cT y=true):uC x u=iH y x:=by
 cases y with
 |bz=>cases r;rfl
 |bl b=>cases r;rfl
 |int i=>obtain⟨t,rfl⟩:=r;rfl
 |str z=>obtain⟨t,rfl⟩:=r;rfl
 |_=>exact absurd (show false=true from f) cJ
theorem lB:∀ {xs:List V} {us:List Value},bg xs us->xs.all cT=true->us.any (uC x)=xs.any fun y=>iH y x
 |_,_,.nil,_=>rfl
 |y::xs,u::us,.cons r t,f=>by
  rw[jI,gg] at f;rw[kN,kN,FY r f.1,lB t f.2]
theorem iW(rx:b8 x v)(fx:cT x=true):∀ {xs:List V} {us:List Value},bg xs us->xs.all cT=true->∀u∈us,SeqAt.EqAt A s u v (uC x u)
 |_,_,.nil,_=>fun u hu=>by cases hu
 |y::xs,u::us,.cons r t,f=>fun u' hu=>by
  rw[jI,gg] at f;rcases bW.mp hu with rfl|hu
  .rw[FY r f.1];exact se r rx f.1 fx
  .exact iW rx fx t f.2 u' hu
def qN(x:V)(xs:List V):Bool:=xs.any fun y=>iH y x
def RN(K:PySem.W.Frag)(neg:Bool):R2:=fun x y H Q=>∃p xs,y=.ref p/\(aV K H p xs\/bt K H p xs)/\cT x=true/\xs.all cT=true/\Q (.bl (if neg then !qN x xs else qN x xs)) H
theorem uD:j6 X (compareOp .In) (RN X.K false):=by
 intro ag s σ H x y v u Q I rx ry h;obtain⟨p,xs,rfl,hq,fx,fs,q⟩:=h;cases ry;rcases hq with hq|hq
 .obtain⟨its,r,pl,hz⟩:=I.list hq;refine SeqAt.in_listAt (uC x) pl.isList (fun w hw=>iW rx fx r fs w (by simpa using hw)) ⟨.bl _,H,I,rfl,?_⟩;rw[show its.toArray.any (uC x)=its.any (uC x) by simp,lB r fs];exact q
 .obtain⟨its,r,pl,hz⟩:=I.tuple hq;refine SeqAt.in_tupleAt (uC x) pl (fun w hw=>iW rx fx r fs w (by simpa using hw)) ⟨.bl _,H,I,rfl,?_⟩;rw[show its.toArray.any (uC x)=its.any (uC x) by simp,lB r fs];exact q
theorem nA:j6 X (compareOp .NotIn) (RN X.K true):=by
 intro ag s σ H x y v u Q I rx ry h;obtain⟨p,xs,rfl,hq,fx,fs,q⟩:=h;cases ry;rcases hq with hq|hq
 .obtain⟨its,r,pl,hz⟩:=I.list hq;refine z0 (uC x) pl.isList (fun w hw=>iW rx fx r fs w (by simpa using hw)) ⟨.bl _,H,I,rfl,?_⟩;rw[show its.toArray.any (uC x)=its.any (uC x) by simp,lB r fs];exact q
 .obtain⟨its,r,pl,hz⟩:=I.tuple hq;refine SeqAt.notIn_tupleAt (uC x) pl (fun w hw=>iW rx fx r fs w (by simpa using hw)) ⟨.bl _,H,I,rfl,?_⟩;rw[show its.toArray.any (uC x)=its.any (uC x) by simp,lB r fs];exact q
theorem aF:fA X (.builtin "len") (fun xs H Q=>∃p ys,xs=[.ref p]/\(aV X.K H p ys\/bt X.K H p ys)/\Q (.int ys.length) H):=by
 intro ag s σ H xs us Q I r h;obtain⟨p,ys,rfl,hq,q⟩:=h;obtain⟨u,rfl,rx⟩:=B6 r;cases rx;have hn:=vW;rcases hq with hq|hq
 .obtain⟨its,r',pl,hz⟩:=I.list hq;have dz:=r'.length;exact Calls.call_len_list pl.isList (by simp only[bQ] <;> lia) ⟨.int ys.length,H,I.tok _,⟨s.toks+1,by rw[bQ,dz]⟩,q⟩
 .obtain⟨its,r',pl,hz⟩:=I.tuple hq;have dz:=r'.length;exact len_tuple pl (by simp only[bQ] <;> lia) ⟨.int ys.length,H,I.tok _,⟨s.toks+1,by rw[bQ,dz]⟩,q⟩
theorem jP:fA X (.type "list") (fun xs H Q=>∃p ys,xs=[.ref p]/\(aV X.K H p ys\/bt X.K H p ys)/\∀l,H l=none->Q (.ref l) (upd H l (.lst ys))):=by
 intro ag s σ H xs us Q I r h;obtain⟨p,ys,rfl,hq,q⟩:=h;obtain⟨u,rfl,rx⟩:=B6 r;cases rx;have dJ:∀ (its:List Value),bg ys its->ys.length<=sizeLine->∀ (h':Heap) (c':Nat),(∀b o',s.heap.get? b=some o'->h'.get? b=some o')->
   h'.get? s.heap.objs.size=some { cls:=.type "list",dict:=none,data:=.seq its.toArray c',slots:=#[] }->EP X ag σ Q (.ref s.heap.objs.size) { s with heap:=h' }:=fun its r' hz h' c' kp e=>
  ⟨.ref s.heap.objs.size,_,I.laid (t':=s.toks) kp (aW _) (show cF X.prog X.w _ h' _ (.lst ys) from ⟨hz,its,c',r',e⟩),rfl,q _ (I.cI.fresh (aW _))⟩
 rcases hq with hq|hq
 .obtain⟨its,r',pl,hz⟩:=I.list hq;have dz:=r'.length;obtain⟨o,ho,hc,n,hd⟩:=pl.isList;exact call_list_seq p (.inl rfl) ho hc hd (fun h' c' kp e=>dJ its r' hz h' c' kp e) (by simp only[bQ] <;> lia)
 .obtain⟨its,r',pl,hz⟩:=I.tuple hq;have dz:=r'.length;obtain⟨o,ho,hc,n,hd⟩:=pl;exact call_list_seq p (.inr rfl) ho hc hd (fun h' c' kp e=>dJ its r' hz h' c' kp e) (by simp only[bQ] <;> lia)
theorem d_:fA X (.type "tuple") (fun xs H Q=>∃p ys,xs=[.ref p]/\((aV X.K H p ys/\∀l,H l=none->Q (.ref l) (upd H l (.tup ys)))\/(bt X.K H p ys/\Q (.ref p) H))):=by
 intro ag s σ H xs us Q I r h;obtain⟨p,ys,rfl,h⟩:=h;obtain⟨u,rfl,rx⟩:=B6 r;cases rx;rcases h with ⟨hq,q⟩|⟨hq,q⟩
 .obtain⟨its,r',pl,hz⟩:=I.list hq;have dz:=r'.length;refine call_tuple_list pl.isList (fun h' kp=>?_) (by simp only[bQ] <;> lia);have I1:aZ X ag σ H { s with heap:=h' }:=I.kept (t':=s.toks) kp;have I2:aZ X ag σ (upd H h'.objs.size (.tup ys)) { s with heap:=h'.push { cls:=.type "tuple",data:=.seq its.toArray } }:=
   I1.laid (t':=s.toks) (fun b o e=>cg _ e) (aW _) (show cF X.prog X.w _ _ _ (.tup ys) from ⟨hz,its,r',kR.new _ _⟩)
  exact⟨.ref h'.objs.size,_,I2,rfl,q _ (I1.cI.fresh (aW _))⟩
 .obtain⟨its,r',pl,hz⟩:=I.tuple hq;exact call_tuple_same pl ⟨.ref p,H,I,rfl,q⟩
def tyV(K:PySem.W.Frag)(T:String)(x:V)(H:Hp):Prop:=match x with
 |.str _=>T="str"
 |.int _=>T="int"
 |.ref p=>(T="list"/\∃xs,aV K H p xs)\/(T="tuple"/\∃o,K.lookup p=some o/\o.cls=.type "tuple"/\o.dict=none)\/
   (T="dict"/\((∃df,H p=some (.dK df))\/∃df,H p=some (.dT df)))\/(T="set"/\∃S n,H p=some (.set S n))
 |_=>False
theorem OI(I:aZ X ag σ H s)(r:b8 x v)(ty:tyV X.K T x H):
  s.TypeIs v T/\∀a,v=.ref a->∃ob,s.heap.get? a=some ob/\ob.dict=none:=by
 cases x with
 |str z=>
  obtain⟨t,rfl⟩:=r;cases (show T="str" from ty);exact⟨typeIs_str s z t,fun _ e=>nomatch e⟩
 |int i=>
  obtain⟨t,rfl⟩:=r;cases (show T="int" from ty);exact⟨typeIs_int s i t,fun _ e=>nomatch e⟩
 |ref p=>
  cases r;rcases ty with ⟨rfl,xs,hq⟩|⟨rfl,o,hk,hc,hd⟩|⟨rfl,hk⟩|⟨rfl,S,n,hk⟩
  .obtain⟨its,_,pl,_⟩:=I.list hq;refine⟨pl.isList.typeIs,fun a e=>?_⟩;cases e;obtain⟨o,n,e,c,hd,_⟩:=pl;exact⟨o,e,hd⟩
  .refine⟨⟨o,I.p_ p o hk,hc⟩,fun a e=>?_⟩;cases e;exact⟨o,I.p_ _ o hk,hd⟩
  .have z:∃o,s.heap.get? p=some o/\o.ExactDict:=by
    rcases hk with ⟨df,hk⟩|⟨df,hk⟩
    .obtain⟨_,_,_,_,o,_,_,e,ex,_⟩:=I.cI p _ hk;exact⟨o,e,ex⟩
    .obtain⟨_,_,_,_,o,_,_,e,ex,_⟩:=I.cI p _ hk;exact⟨o,e,ex⟩
   obtain⟨o,e,ex⟩:=z;refine⟨⟨o,e,ex.1⟩,fun a e2=>?_⟩;cases e2;exact⟨o,e,ex.2.1⟩
  .obtain⟨o,_,_,_,e,ex,_⟩:=I.cI p _ hk;refine⟨⟨o,e,ex.1⟩,fun a e2=>?_⟩;cases e2;exact⟨o,e,ex.2.1⟩
 |_=>exact False.elim ty
def Yy(K:PySem.W.Frag)(T:String)(r:V->List V->Hp->VK->Prop)(to:TE)(t:TA):TE:=fun σ H Q=>to σ H fun x H1=>tyV K T x H1/\t σ H1 fun xs H2=>r x xs H2 Q
variable {o e:Expr} {es:List Expr} {to:TE} {t:TA} {name:Str} {mw jw:Pos} {T id:String} {r:V->List V->Hp->VK->Prop}
theorem hX(pa:PlainAttrs T)(slot:Slot T name id)(Yz:typeOf (.builtin id)=pure (.type "method_descriptor"))(hm:MtR X id r)(ho:PE X o to)(ha:PA X (e::es) t)(FZ:attributeBase o name X.env (eval o X.env)=eval o X.env:=by rfl)(OJ:((backTo jw (starEach (e::es) X.env)).all (fun x=>!x.1)&&(backToKw jw (keywordEach [] X.env)).all (fun x=>x.1.isSome)
   && decide ((e::es).length+([]:List Keyword).length+(if ([]:List Keyword).isEmpty then 0 else 1)<30))=true:=by rfl)(F0:(mw.endLine==jw.line)=true:=by rfl)(hs:starEach (e::es) X.env=(false,eval e X.env)::starEach es X.env:=by rfl)(sf:(backTo jw (starEach es X.env)).any (·.1)=false:=by rfl):
  PE X (.Call (.Attribute o name mw) (e::es) [] jw) (Yy X.K T r to t):=by
 intro ag s σ H Q I h;refine wpAny_Call_method_late FZ OJ F0 rfl (dk (ho ag s σ H _ I h) fun v s1 ⟨x,H1,I1,r1,ty,q1⟩=>?_);obtain⟨h1,h2⟩:=OI I1 r1 ty;refine⟨T,id,pa,slot,Yz,h1,h2,?_⟩;have hA:=ha jw ag s1 σ H1 _ I1 q1;rw[hs] at hA |-;refine Calls.callWith_builtin (by show (false||(backTo jw (starEach es X.env)).any (·.1))=false;rw[sf] <;> rfl) (zS ?_);exact dk hA fun us s2 ⟨vs,H2,I2,r2,q2⟩=>hm ag s2 σ H2 x vs v us Q I2 r1 r2 q2
end
def RP(X:Cx)(id:String)(r:V->List V->Hp->VK->Prop):Prop:=
 ∀ (ag:List (Addr×Obj)) (s:Shared) (σ:St) (H:Hp) (x:V) (xs:List V) (v:Value) (us:List Value) (Q:VK),aZ X ag σ H s->b8 x v->bg xs us->r x xs H Q->
  wpAny (model X.prog X.w) X.A (call (.builtin id) (v::us)) (EP X ag σ Q) X.xe s
theorem bg.one{x:V}{us:List Value}(h:bg [x] us):∃u,us=[u]/\b8 x u:=by
 cases h with
 |cons r h=>cases h;exact⟨_,rfl,r⟩
theorem bg.two{x y:V}{us:List Value}(h:bg [x,y] us):∃u v,us=[u,v]/\b8 x u/\b8 y v:=by
 cases h with
 |cons r h=>
  cases h with
  |cons q h=>cases h;exact⟨_,_,rfl,r,q⟩
theorem bg.eraseIdx:∀ {xs:List V} {us:List Value} (i:Nat),bg xs us->bg (xs.eraseIdx i) (us.eraseIdx i)
 |_,_,_,.nil=>.nil
 |_,_,0,.cons _ t=>t
 |_,_,i+1,.cons r t=>.cons r (bg.eraseIdx i t)
theorem bg.rep(h:bg xs us):∀k:Nat,bg (List.replicate k xs).flatten (List.replicate k us).flatten
 |0=>.nil
 |k+1=>by
  rw[nh,nh,rB,rB];exact bg.append h (bg.rep h k)
theorem uE:∀ (l:List α) (i:Nat),(l.eraseIdx i).length<=l.length
 |[],_=>aW _
 |_::_,0=>Nat.le_succ _
 |_::r,i+1=>Nat.succ_le_succ (uE r i)
theorem uF(its:List Value):∀ (k:Nat) (et:List Value),
  List.foldl (fun x1 x2=>x1++x2) et.toArray (List.replicate k its.toArray)=(et++(List.replicate k its).flatten).toArray
 |0,et=>by simp
 |k+1,et=>by
  have e:et.toArray++its.toArray=(et++its).toArray:=by simp
  have e2:(et++its)++(List.replicate k its).flatten=et++(List.replicate (k+1) its).flatten:=by
   rw[nh,rB,dH]
  rw[<-e2,<-uF its k (et++its),<-e,nh,vD]
section
variable {X:Cx} {ag:List (Addr×Obj)} {σ:St} {H:Hp} {s:Shared} {l b:Addr} {xs ys zs:List V}
theorem aZ.J5{its its':List Value}{n:Nat}{f:Array Value->Array Value}{t':Nat}(I:aZ X ag σ H s)(hH:H l=some (.lst xs))(e:s.heap.get? l=some { cls:=.type "list",data:=.seq its.toArray n })(hf:f its.toArray=its'.toArray)(hv:bg ys its')(hz:ys.length<=sizeLine):
  aZ X ag σ (upd H l (.lst ys)) { s with heap:=s.heap.update l (Obj.mapSeq f),toks:=t' }:=by
 have q:=PySem.IsL.update e f;rw[hf] at q;refine I.write (x:=l) (e:=l) (by rw[hH];exact trivial) (.inl rfl) (fun b' u hb hu=>(zE s.heap (Obj.mapSeq f) (im hb)).trans hu) ⟨_,q⟩ ?_;exact⟨hz,its',_,hv,q⟩
theorem aZ.OK(I:aZ X ag σ H s)(hv:bg ys its)(hz:ys.length<=sizeLine):
  aZ X ag σ (upd H s.heap.objs.size (.lst ys)) { s with heap:=s.heap.push { cls:=.type "list",data:=.seq its.toArray },toks:=t' }:=
 I.laid (fun _ _ q=>cg _ q) (aW _) ⟨hz,its,0,hv,cR _ rfl⟩
theorem aZ.fresh(I:aZ X ag σ H s):H s.heap.objs.size=none:=I.cI.fresh (aW _)
theorem aZ.t9(I:aZ X ag σ H s)(hH:H l=some (.lst xs)):xs.length<=sizeLine/\∃ (its:List Value) (n:Nat),bg xs its/\xs.length=its.length/\s.heap.get? l=some { cls:=.type "list",data:=.seq its.toArray n }:=by
 obtain⟨z,its,n,r,e⟩:=I.cI l _ hH;exact⟨z,its,n,r,r.length,e⟩
theorem xK(h:n<=sizeLine):Builtin.List.listTooLong n=false:=by
 unfold Builtin.List.listTooLong;exact di (by lia)
end
section
variable {X:Cx}
def J6:V->List V->Hp->VK->Prop:=fun x vs H Q=>∃l xs y,x=.ref l/\vs=[y]/\H l=some (.lst xs)/\xs.length<sizeLine/\Q .bz (upd H l (.lst (xs++[y])))
theorem eA:RP X "list.append" J6:=by
 intro ag s σ H x vs v us Q I rx rv h;obtain⟨l,xs,y,rfl,rfl,hH,hz,q⟩:=h;cases rx;obtain⟨u,rfl,ru⟩:=rv.one;obtain⟨z,its,n,r,hl,e⟩:=I.t9 hH;refine jK F.slot_list_append ⟨_,e,rfl⟩ F.entry_list_append (F.args_list_append_2 _ _) (PySem.list_append l its.toArray n u (by rw[bQ];lia)) ⟨e,?_⟩;refine⟨.bz,_,I.J5 (its':=its++[u]) hH e (by simp) (r.append (.cons ru .nil)) ?_,rfl,q⟩;rw[cn,kq];lia
def J7:V->List V->Hp->VK->Prop:=fun x vs H Q=>∃l b xs zs,x=.ref l/\vs=[.ref b]/\H l=some (.lst xs)/\H b=some (.lst zs)/\xs.length+zs.length<=sizeLine/\Q .bz (upd H l (.lst (xs++zs)))
theorem pz:RP X "list.extend" J7:=by
 intro ag s σ H x vs v us Q I rx rv h;obtain⟨l,b,xs,zs,rfl,rfl,hH,hB,hz,q⟩:=h;cases rx;obtain⟨u,rfl,ru⟩:=rv.one;cases ru;obtain⟨z,its,n,r,hl,e⟩:=I.t9 hH;obtain⟨z2,kX,n2,r2,OL,e2⟩:=I.t9 hB;have lM:its.toArray.size+kX.toArray.size<=sizeLine:=by rw[bQ,bQ];lia
 have F3:¬ (!its.toArray.isEmpty&&Builtin.List.listTooLong (its.toArray.size+kX.toArray.size))=true:=by
  rw[xK lM,z_];exact cJ
 refine jK F.slot_list_extend ⟨_,e,rfl⟩ F.entry_list_extend (F.args_list_extend_2 _ _)
  (AutoSeq1.list_extend_list_list_0 l its.toArray n b kX.toArray n2 F3 (by rw[bQ];lia) (by lia)) ⟨e,e2,?_⟩
 refine⟨.bz,_,I.J5 (its':=its++kX) hH e (by simp) (r.append r2) ?_,rfl,q⟩;rw[cn];lia
def F5:V->List V->Hp->VK->Prop:=fun x vs H Q=>∃l xs i k y,x=.ref l/\vs=[.int i]/\H l=some (.lst xs)/\-(2 ^ 63)<=i/\i<2 ^ 63/\seqIndex? i xs.length=some k/\xs[k]?=some y/\Q y (upd H l (.lst (xs.eraseIdx k)))
theorem sg:RP X "list.pop" F5:=by
 intro ag s σ H x vs v us Q I rx rv h;obtain⟨l,xs,i,k,y,rfl,rfl,hH,h1,h2,hk,hy,q⟩:=h;cases rx;obtain⟨u,rfl,ru⟩:=rv.one;obtain⟨t,rfl⟩:=ru;obtain⟨z,its,n,r,hl,e⟩:=I.t9 hH;obtain⟨w,hw,Oo⟩:=r.get hy;refine jK F.slot_list_pop ⟨_,e,rfl⟩ F.entry_list_pop (F.args_list_pop_2 _ _)
  (MeetsSeq.list_pop_at l its.toArray n i t k w (fitsIndex_both h1 h2) (by rw[bQ,<-hl];exact hk) (by rw[<-oI];exact hw) (by rw[bQ];lia)) ⟨e,?_⟩
 refine⟨y,_,I.J5 (its':=its.eraseIdx k) hH e ?_ (r.eraseIdx k) ?_,Oo,q⟩
 .show its.toArray.eraseIdxIfInBounds k=(its.eraseIdx k).toArray;rw[Fd]
 .have:=uE xs k;lia
def YA:R2:=fun x y H Q=>∃l b xs zs,x=.ref l/\y=.ref b/\H l=some (.lst xs)/\H b=some (.lst zs)/\xs.length+zs.length<=sizeLine/\∀p,H p=none->Q (.ref p) (upd H p (.lst (xs++zs)))
theorem OM:j6 X (binaryOp .Add) YA:=by
 intro ag s σ H x y v u Q I rx ry h;obtain⟨l,b,xs,zs,rfl,rfl,hH,hB,hz,q⟩:=h;cases rx;cases ry;obtain⟨z,its,n,r,hl,e⟩:=I.t9 hH;obtain⟨z2,kX,n2,r2,OL,e2⟩:=I.t9 hB;refine PySem.P.add_list e e2 ?_ (by rw[bQ,bQ];lia);have ea:its.toArray++kX.toArray=(its++kX).toArray:=by simp
 rw[ea];exact⟨.ref _,_,I.OK (t':=s.toks) (r.append r2) (by rw[cn];lia),rfl,q _ I.fresh⟩
def YB:R2:=fun x y H Q=>∃l k xs,x=.ref l/\y=.int k/\H l=some (.lst xs)/\-(2 ^ 63)<=k/\k<2 ^ 63/\xs.length*k.toNat<=sizeLine/\
 ∀p,H p=none->Q (.ref p) (upd H p (.lst (List.replicate k.toNat xs).flatten))
theorem J8(xs:List α)(k:Nat):(List.replicate k xs).flatten.length=k*xs.length:=by
 induction k with
 |zero=>simp
 |succ k ih=>rw[nh,rB,cn,ih,vK,Nat.add_comm]
theorem vZ:j6 X (binaryOp .Mult) YB:=by
 intro ag s σ H x y v u Q I rx ry h;obtain⟨l,k,xs,rfl,rfl,hH,h1,h2,hz,q⟩:=h;cases rx;obtain⟨t,rfl⟩:=ry;obtain⟨z,its,n,r,hl,e⟩:=I.t9 hH;have dz:its.toArray.size*k.toNat<=sizeLine:=by rw[bQ,<-hl];exact hz
 have YC:¬ its.toArray.size*k.toNat > (2 ^ 63-1) / 8:=by
  have:(sizeLine:Nat)<=(2 ^ 63-1) / 8:=by decide
  lia
 have YD:¬ (!Builtin.List.listFitsIndex k)=true:=by
  rw[fitsIndex_both h1 h2];exact cJ
 have F3:¬ Builtin.List.listTooLong (its.toArray.size*k.toNat)=true:=by
  rw[xK dz];exact cJ
 have si:List.foldl (fun x1 x2=>x1++x2) #[] (List.replicate (if its.toArray.isEmpty=true then 0 else k.toNat) its.toArray)=(List.replicate k.toNat its).flatten.toArray:=by
  have f0:∀m:Nat,List.foldl (fun x1 x2=>x1++x2) #[] (List.replicate m its.toArray)=(List.replicate m its).flatten.toArray:=fun m=>by
   have:=uF its m [];rw[List.nil_append] at this;exact this
  rw[f0];cases its with
  |nil=>simp
  |cons a r'=>rw[au (by simp)]
 refine wpAny_binaryOp_repeat_ref (T:="list") (U:="int") (by decide) ⟨_,e,rfl⟩ (fun s'=>typeIs_int s' k t) noFill_list_mul F.fills_int_mul F.slot_int_rmul repeat_list F.slot_int_index.lookup
  (jK F.slot_int_rmul (typeIs_int s k t) F.entry_int_rmul (F.args_int_rmul_2 _ _) (int___rmul___int_list k t l its.toArray n)
   ⟨e,rfl,⟨_,e,rfl⟩,jK F.slot_list_mul ⟨_,e,rfl⟩ F.entry_list_mul (F.args_list_mul_2 _ _) (AutoListH.list___mul___list_int_3 l its.toArray n k t YD YC F3) ⟨e,?_⟩⟩)
 rw[si];exact⟨.ref _,_,I.OK (t':=s.toks) (r.rep k.toNat) (by rw[J8,Nat.mul_comm];exact hz),rfl,q _ I.fresh⟩
end
section
variable {prog:Program} {w:World} {A:Around} {E:Value->Shared->Prop} {s:Shared}
end
section
variable {X:Cx}
end
end L2
namespace Att
open PySem PySem.W PySem.Calls PyProof.Rows
theorem qx:∀ (ns:List Int) (vs:List Value),WellAll P h vs (ns.map WData.int)->IntsAre vs ns:=by
 intro ns;induction ns with
 |nil=>
  intro vs w;rw[List.map_nil] at w;cases w;exact .nil
 |cons n ns ih=>
  intro vs w;rw[eJ] at w;cases w with
  |cons a b=>
   cases a;exact .cons _ _ (ih _ b)
theorem DA{l:OpenLaw}{n:Nat}(hn:l.most=some n){P:Params}{h:Heap}{args:List WData}{F6:List Value}(J9:l.row.toRowW.claim.pre args=true)(YE:WellAll P h F6 args):
  ∃a vs ns,F6=[Value.ref a]/\args=[WData.list (ns.map WData.int)]/\h.get? a=some { cls:=.type "list",data:=.seq vs.toArray }/\IntsAre vs ns/\ns.length<=n:=by
 have hsh:WShape.hasAll [] args [.list .int]=true:=(pre_splitW J9).1;have hc:l.pre.holds [] { args:=args }=true:=(pre_splitW J9).2;obtain⟨d,r,rfl,h1,h2⟩:=hasAllW_cons hsh;obtain rfl:=hasAllW_nil h2;obtain⟨xs,rfl,h3⟩:=hasW_list h1;obtain⟨ns,rfl⟩:=items_int h3;have dz:ns.length<=n:=by
  unfold OpenLaw.pre at hc;have h4:(WTm.not (.lt (.lit (.int (n:Int))) (.len (.arg 0)))).holds [] { args:=[.list (ns.map .int)] }=true:=by
   have h4:=(holds_andW hc).1;rw[hn] at h4;exact h4
  have h5:=condW_of h4 (w_not (w_lt w_lit (w_len_list (w_arg rfl))));rw[aP] at h5;refine Nat.le_of_not_lt fun q=>?_;have q':(n:Int)<((ns.length:Nat):Int):=by lia
  first
   |(rw[cx q'] at h5;exact absurd h5 (by decide))
   |(simp at h5;lia)
 cases YE with
 |cons w1 w2=>
  cases w2;cases w1 with
  |list ho pA=>exact⟨_,_,ns,rfl,rfl,ho,qx ns _ pA,dz⟩
theorem DB(l:OpenLaw)(args:List WData):l.row.toRowW.claim.post args (.bool true) args=true:=
 postW_of (r:=l.row.toRowW) (X:=(true==true))
  (show WShape.has [] (.bool true) .bool=true by first|rfl|decide|simp[WShape.has,WShape.arms,WShape.armsAll])
  (show (WTm.eq .res (.lit (.bool true))).value [] { args:=args,res:=some (.bool true),after:=args }=some (.bool (true==true)) from w_eq_bool (w_res rfl) w_lit) rfl
theorem xL{l:OpenLaw}{n:Nat}{q:Program}{uG:List Str}{XP:(Str->Option Value)->Heap->Prop}{YP:World->Heap->Prop}{d:DefRec}(hn:l.most=some n)(Tl:d.params.defaults=[])(call:∀ (w:World) (s₀ s₁:Shared) (mg mb:Str->Option Value) (fa:Addr) (o:Obj) (pm cd mU:Value) (a:Addr) (vs:List Value) (ns:List Int),
   Ground q uG [] XP w s₀ mg mb s₁.heap->YP w s₁.heap->
   s₁.heap.get? fa=some o->o.data=.func (docDef d.name d.params d.body d.scope pm cd mU)->s₁.heap.CodeRec cd d.name->mg d.name=some (.ref fa)->
   s₁.heap.get? a=some { cls:=.type "list",data:=.seq vs.toArray }->IntsAre vs ns->ns.length<=n->s₁.gens=#[]->
   codeAny (model l.prog w) callerA (.call (.ref fa) ⟨[.ref a],[]⟩) (fun r s'=>r=.ok (.ret (.bool true))/\OldK s₁.heap s'.heap/\s'.os=s₁.os/\AllBare s'.gens) s₁):
  WalkO q uG XP YP l.row.toRowW d [] (fun f vs=>PySem.call f vs):=by
 intro w s₀ s₁ mg mb G Y fa o pm cd mU dV kV ho hd qK hD Tn hg args F6 as J9 aba hrd YE W4;obtain rfl:dV=.none:=Dflts.none hD Tl;obtain rfl:kV=.none:=Dflts.noKw hD;obtain⟨a,vs,ns,rfl,rfl,ON,F7,dz⟩:=DA hn J9 YE;refine enter_call (o5 (call w s₀ s₁ mg mb fa o pm cd mU a vs ns G Y ho (fd_plain hd) qK Tn ON F7 dz hg) fun r s' hq=>?_);obtain⟨rfl,h2,h3,h4⟩:=hq;exact⟨.inl ⟨.bool true,.bool true,[],rfl,fun _=>rfl,.bool true,DB l _,fun _=>⟨List.Pairwise.nil,fun _ hm=>(nomatch hm)⟩⟩,h2,h3,h4⟩
section
variable {prog:Program} {w:World} {A:Around} {E:Value->Shared->Prop} {s:Shared} {K:Frag}
end
end Att
namespace L2
open PySem PySem.Spec PyProof.Rows
theorem pB:∀ {vs:List Value} {ns:List Int},IntsAre vs ns->bg (ns.map V.int) vs
 |_,_,.nil=>.nil
 |_,_,.cons n t h=>.cons ⟨t,rfl⟩ (pB h)
def lC(s:Stmt)(j:Nat):Stmt:=match s with
 |.ClassDef _ _ _ body _ _ _ _ _ _ _=>body.getD j (.Pass ⟨0,0,0,0⟩)
 |_=>.Pass ⟨0,0,0,0⟩
def dZ(s:Stmt):Arguments:=match s with
 |.FunctionDef _ a _ _ _ _ _ _ _ _=>a
 |_=>{ posonlyargs:=[],args:=[],vararg:=none,kwonlyargs:=[],kw_defaults:=[],kwarg:=none,defaults:=[] }
def b_(s:Stmt):List Stmt:=match s with
 |.FunctionDef _ _ b _ _ _ _ _ _ _=>b
 |_=>[]
def av(s:Stmt):Scope:=match s with
 |.FunctionDef _ _ _ _ _ _ sc _ _ _=>sc
 |_=>{ kind:=.function,names:=[],isGenerator:=false,isCoroutine:=false }
abbrev bv:xH:=fun _ _ _ _ _ _=>False
abbrev E0:XK:=fun _ _ _=>False
theorem aL:jO bv X E0:=fun _ _ _ _ _ _ _ h=>h.elim
structure gv(K:PySem.W.Frag)(x qual:Str)(st:Stmt)(f:Addr)(fd:FuncData):Prop where
 ex:∃ (oc:Value) (od:Option Addr) (kV mU pm:Value) (an:Option Addr) (dY ct:Value) (uB:Array (Option Value)),
  fd=PySem.W.fnOf x qual (dZ st) (b_ st) (av st) .none kV mU pm an dY ct/\K.lookup f=some ⟨oc,od,.func fd,uB⟩/\PySem.W.codeIn K dY qual=true
 kp:PySem.W.keepIn K (.ref f)=true
section
variable {P:Program} {w:World} {K:PySem.W.Frag} {mg:Str->Option Value} {base:Heap}
theorem gv.ok{x qual:Str}{st:Stmt}{f:Addr}{fd:FuncData}{N ps:List Str}{k:Nat}{sp:Sp}(F:gv K x qual st f fd)(S:aT N ps (av st))(len:∀vs H Q E,sp vs H Q E->vs.length=ps.length)(r9:∀ (dY:Value) (A:Around) (outer:List Env) (s:Shared) (H:Hp) (vs:List V) (Q:VK) (E:XK),cB k (A.deeper (envOfC qual (av st) s.heap.objs.size f dY))->sp vs H Q E->
   ∃t,y0 (qw bv P w K mg base N qual (av st) f dY A outer s H E).M6 (b_ st) t/\t { nx:=fun _ H'=>Q .bz H',rt:=Q } (start N vs) H):bU P w K mg base bv (k+1) f fd ps sp:=by
 obtain⟨oc,od,kV,mU,pm,an,dY,ct,uB,rfl,lk,qK⟩:=F.ex;refine FR lk qK S len fun A outer s H vs Q E hr EX=>?_;obtain⟨t,h,q⟩:=r9 dY A outer s H vs Q E hr EX;exact⟨t,h.M6,q⟩
theorem gv.binds{x qual:Str}{st:Stmt}{f:Addr}{fd:FuncData}{ps:List Str}(F:gv K x qual st f fd)(h:∀ (kV mU pm:Value) (an:Option Addr) (dY ct:Value) (us:List Value),us.length=ps.length->bindArgs (PySem.W.fnOf x qual (dZ st) (b_ st) (av st) .none kV mU pm an dY ct) ⟨us,[]⟩=pure (ps.zip us)):j7 K fd ps []:=by
 obtain⟨oc,od,kV,mU,pm,an,dY,ct,uB,rfl,lk,qK⟩:=F.ex;exact .all (h kV mU pm an dY ct)
theorem v4{x qual:Str}{st:Stmt}{f:Addr}{oc:Value}{od an:Option Addr}{uB:Array (Option Value)}{kV mU pm dY ct:Value}(l:K.lookup f=some ⟨oc,od,.func (PySem.W.fnOf x qual (dZ st) (b_ st) (av st) .none kV mU pm an dY ct),uB⟩)(c:PySem.W.codeIn K dY qual=true)(k:PySem.W.keepIn K (.ref f)=true):gv K x qual st f (PySem.W.fnOf x qual (dZ st) (b_ st) (av st) .none kV mU pm an dY ct):=⟨⟨oc,od,kV,mU,pm,an,dY,ct,uB,rfl,l,c⟩,k⟩
end
section
variable {X:Cx}
theorem pv(i:Nat)(hN:X.N[i]?=some x:=by rfl)(hv:SF X.env.scope x:=by first|exact Or.inl rfl|exact Or.inr aU|exact Or.inr bL)(hd:(x==("__debug__":Str))=false:=by decide)(qK:(x==("__classdict__":Str))=false:=by decide):PE X (.Name x pos) (aX i):=Of hN hv hd qK
end
theorem cG{A B:Prop}(h:B):if false=true then A else B:=by
 rw[au cJ];exact h
theorem fU{A B:Prop}(h:A):if true=true then A else B:=by
 rw[aD rfl];exact h
theorem eI{c A B:Prop}[Decidable c](h1:c->A)(h2:¬ c->B):if c then A else B:=by
 by_cases h:c
 .rw[aD h];exact h1 h
 .rw[au h];exact h2 h
def aA(H H':Hp):Prop:=∀b o,H b=some o->H' b=some o
theorem aA.refl(H:Hp):aA H H:=fun _ _ h=>h
theorem aA.trans(a:aA H H1)(b:aA H1 H2):aA H H2:=fun c o h=>b c o (a c o h)
theorem aA.free(e:aA H H')(h:H' l=Option.none):H l=Option.none:=by
 cases q:H l with
 |none=>rfl
 |some o=>
  rw[e l o q] at h;cases h
def M8(src:List (Option Nat))(σ:St):St:=src.map fun o=>match o with|some j=>σ.getD j none|none=>none
theorem J_{src:List (Option Nat)}{σ:St}{i:Nat}{v:V}(h:(M8 src σ)[i]?=some (some v)):∃j,src[i]?=some (some j)/\σ[j]?=some (some v):=by
 unfold M8 at h;rw[bN] at h;cases e:src[i]? with
 |none=>rw[e] at h;cases h
 |some o=>
  rw[e] at h;cases o with
  |none=>cases h
  |some j=>
   refine⟨j,rfl,?_⟩;have h':σ.getD j none=some v:=bX h;rw[aS] at h';cases e2:σ[j]? with
   |none=>rw[e2] at h';cases h'
   |some o=>rw[e2] at h';rw[show o=some v from h']
structure iX(NB:List Str)(src:List (Option Nat))(scope:Scope)(X:Cx):Prop where
 kind:scope.kind=.function
 nd:NB.Nodup
 len:src.length=NB.length
 cells:∀y∈scope.names,y.2=.cell->scope.names.lookup y.1=some .cell
 names:∀y∈scope.names,y.2=.local->scope.names.lookup y.1=some .local
 free:∀y∈scope.names,y.2=.free->X.env.scope.names.lookup y.1=some .cell\/X.env.scope.names.lookup y.1=some .free
 src:∀ (i:Nat) (x:Str) (j:Nat),NB[i]?=some x->src[i]?=some (some j)->X.N[j]?=some x/\scope.names.lookup x=some .free
def v5(scope:Scope)(x:Str):Bool:=match scope.names.lookup x with
 |some .cell=>true
 |_=>false
theorem xM:v5 scope x=true↔scope.names.lookup x=some .cell:=by
 unfold v5;split
 .rename_i h;exact⟨fun _=>h,fun _=>rfl⟩
 .rename_i h;exact⟨fun z=>(by cases z),fun z=>absurd z h⟩
def Cd(X:Cx)(NB:List Str)(scope:Scope)(cl:List (Str×Addr))(C:Addr)(s₃:Shared)(H₃:Hp)(fp:List Addr):Cx:=
 { X with N:=NB,s₀:=s₃,H₀:=H₃,env:=compEnvC scope cl C X.env,outer:=X.stack,stack:=X.stack,ex:=fp,fn:=v5 scope,pn:=[],xe:=fun _ _=>False }
theorem mx:∀ (names:List (Str×NameKind)) (et:List (Str×Addr)),(∀y∈names,y.2=NameKind.free->∃c,env.cells.lookup y.1=some c)->(∀x c,et.lookup x=some c->env.cells.lookup x=some c)->
  ∃cl,(forIn names et fun x r=>(if (x.2==NameKind.free)=true then (do let a <- cellOf env x.1;pure (ForInStep.yield ((x.1,a)::r))) else pure (ForInStep.yield r):Sem (ForInStep (List (Str×Addr)))))=(pure cl:Sem (List (Str×Addr)))/\
   (∀x c,cl.lookup x=some c->env.cells.lookup x=some c)/\(∀x c,et.lookup x=some c->∃c',cl.lookup x=some c')/\∀x,(x,NameKind.free)∈names->∃c,cl.lookup x=some c
 |[],et,_,ha=>⟨et,by rw[vF],ha,fun x c h=>⟨c,h⟩,fun x h=>nomatch h⟩
 |(n,k)::r,et,hf,ha=>by
  by_cases hk:k=NameKind.free
  .subst hk;obtain⟨c,hc⟩:=hf (n,NameKind.free) bZ rfl;have DC:∀x c',((n,c)::et).lookup x=some c'->env.cells.lookup x=some c':=fun x c' h=>by
    rw[iB] at h;cases hx:x==n with
    |true=>
     rw[hx] at h;cases h;have:x=n:=by simpa using hx
     rw[this];exact hc
    |false=>rw[hx] at h;exact ha x c' h
   obtain⟨cl,e1,e2,e3,e4⟩:=mx r ((n,c)::et) (fun y hy=>hf y (du _ hy)) DC;refine⟨cl,?_,e2,fun x c' h=>?_,fun x h=>?_⟩
   .rw[vC];have ec:cellOf env n=pure c:=by unfold cellOf;rw[hc]
    have e0:(if ((n,NameKind.free).2==NameKind.free)=true then (do let a <- cellOf env (n,NameKind.free).1;pure (ForInStep.yield (((n,NameKind.free).1,a)::et))) else pure (ForInStep.yield et):Sem (ForInStep (List (Str×Addr))))=pure (ForInStep.yield ((n,c)::et)):=by
     rw[aD (show (NameKind.free==NameKind.free)=true by decide)];show cellOf env n >>= _=_;rw[ec];rfl
    rw[e0];exact e1
   .cases hx:x==n with
    |true=>exact e3 x c (by rw[iB,hx])
    |false=>exact e3 x c' (by rw[iB,hx];exact h)
   .rcases bW.mp h with h|h
    .cases h;exact e3 n c (by rw[iB];simp)
    .exact e4 x h
  .obtain⟨cl,e1,e2,e3,e4⟩:=mx r et (fun y hy=>hf y (du _ hy)) ha;refine⟨cl,?_,e2,e3,fun x h=>?_⟩
   .rw[vC];have hb:(k==NameKind.free)=false:=by simpa using hk
    have e0:(if ((n,k).2==NameKind.free)=true then (do let a <- cellOf env (n,k).1;pure (ForInStep.yield (((n,k).1,a)::et))) else pure (ForInStep.yield et):Sem (ForInStep (List (Str×Addr))))=pure (ForInStep.yield et):=by
     rw[au (by show ¬ (k==NameKind.free)=true;rw[hb];decide)]
    rw[e0];exact e1
   .rcases bW.mp h with h|h
    .cases h;exact absurd rfl hk
    .exact e4 x h
theorem my(ok:X.Ok)(S:iX NB src scope X):
  ∃cl,closureFor scope X.env=pure cl/\(∀x c,cl.lookup x=some c->X.env.cells.lookup x=some c)/\∀x,(x,NameKind.free)∈scope.names->∃c,cl.lookup x=some c:=by
 obtain⟨cl,e1,e2,_,e4⟩:=mx (env:=X.env) scope.names [] (fun y hy hk=>ok.has y.1 (S.free y hy hk)) (fun x c h=>nomatch h);refine⟨cl,?_,e2,e4⟩;unfold closureFor;simp only[bind_pure];exact e1
theorem v6(h:scope.names.lookup x=some .free):(relabel scope env).names.lookup x=some .cell\/(relabel scope env).names.lookup x=some .free:=by
 have go:∀names:List (Str×NameKind),names.lookup x=some .free->
   (names.map fun (n,k)=>if (k==NameKind.free&&env.scope.kind==.function&&env.kindOf n==some .cell) then (n,NameKind.cell) else (n,k)).lookup x=some .cell\/
   (names.map fun (n,k)=>if (k==NameKind.free&&env.scope.kind==.function&&env.kindOf n==some .cell) then (n,NameKind.cell) else (n,k)).lookup x=some .free:=by
  intro names;induction names with
  |nil=>intro h;simp at h
  |cons y r ih=>
   intro h;obtain⟨n,k⟩:=y;rw[iB] at h;rw[eJ];cases hx:x==n with
   |true=>
    rw[hx] at h;cases h;by_cases hc:(NameKind.free==NameKind.free&&env.scope.kind==.function&&env.kindOf n==some .cell)=true
    .left;show List.lookup x ((if _ then _ else _)::_)=_;rw[aD hc,iB,hx]
    .right;show List.lookup x ((if _ then _ else _)::_)=_;rw[au hc,iB,hx]
   |false=>
    rw[hx] at h;by_cases hc:(k==NameKind.free&&env.scope.kind==.function&&env.kindOf n==some .cell)=true
    .show List.lookup x ((if _ then _ else _)::_)=_\/List.lookup x ((if _ then _ else _)::_)=_;rw[aD hc,iB,hx];exact ih h
    .show List.lookup x ((if _ then _ else _)::_)=_\/List.lookup x ((if _ then _ else _)::_)=_;rw[au hc,iB,hx];exact ih h
 exact go scope.names h
theorem nB(h:(relabel scope env).names.lookup x=some k)(hk:k=.cell\/k=.free):(x,NameKind.free)∈scope.names\/(x,NameKind.cell)∈scope.names:=by
 have m:=kC h;obtain⟨⟨n,k'⟩,hm,e⟩:=bn.mp m;by_cases q:(k'==NameKind.free&&env.scope.kind==.function&&env.kindOf n==some .cell)=true
 .have e':(n,NameKind.cell)=(x,k):=by simpa [q] using e
  have k1:k'=NameKind.free:=by
   simp only[gg,fP] at q;exact q.1.1
  cases e';left;rw[<-k1];exact hm
 .have e':(n,k')=(x,k):=by simpa [q] using e
  cases e';rcases hk with z|z
  .subst z;exact .inr hm
  .subst z;exact .inl hm
theorem pC:∀ (names:List (Str×NameKind)) (h:Heap) (et:List (Str×Addr)) (x:Str) (c:Addr),(cellsFrom h.objs.size names et).lookup x=some c->et.lookup x=some c\/(h.objs.size<=c/\(pushCells h names).IsCell c none)
 |[],_,_,_,_,e=>.inl e
 |(name,kind)::r,h,et,x,c,e=>by
  unfold cellsFrom at e;unfold pushCells;split at e
  .rename_i hk;rw[aD hk];have lM:(h.push { cls:=.type "cell",data:=.cell none }).objs.size=h.objs.size+1:=ig ..;rw[<-lM] at e;rcases pC r _ _ x c e with z|⟨z1,z2⟩
   .rw[iB] at z;cases hx:x==name with
    |true=>
     rw[hx] at z;cases z;exact .inr ⟨aW _,_,pushCells_keeps r _ _ _ (cR _ rfl),rfl⟩
    |false=>rw[hx] at z;exact .inl z
   .exact .inr ⟨by lia,z2⟩
  .rename_i hk;rw[au hk];exact pC r h et x c e
theorem uH:∀ (names:List (Str×NameKind)) (n:Nat) (et:List (Str×Addr)) (x:Str),(x,NameKind.cell)∈names->∃c,n<=c/\(cellsFrom n names et).lookup x=some c:=by
 have up:∀ (names:List (Str×NameKind)) (n m:Nat) (et:List (Str×Addr)) (x:Str) (c:Addr),et.lookup x=some c->m<=c->m<=n->∃c',m<=c'/\(cellsFrom n names et).lookup x=some c':=by
  intro names;induction names with
  |nil=>intro n m et x c e h _;exact⟨c,h,e⟩
  |cons y r ih=>
   intro n m et x c e h hm;obtain⟨name,kind⟩:=y;unfold cellsFrom;split
   .cases hx:x==name with
    |true=>exact ih (n+1) m _ x n (by rw[iB,hx]) hm (by lia)
    |false=>exact ih (n+1) m _ x c (by rw[iB,hx];exact e) h (by lia)
   .exact ih n m et x c e h hm
 intro names;induction names with
 |nil=>intro n et x h;cases h
 |cons y r ih=>
  intro n et x h;obtain⟨name,kind⟩:=y;unfold cellsFrom;rcases bW.mp h with z|z
  .cases z;rw[aD (by decide)];exact up r (n+1) n _ x n (by rw[iB];simp) (aW _) (by lia)
  .split
   .obtain⟨c,h1,h2⟩:=ih (n+1) ((name,n)::et) x z;exact⟨c,by lia,h2⟩
   .exact ih n et x z
theorem lD:∀ (names:List (Str×NameKind)) (n:Nat) (et:List (Str×Addr)) (x:Str) (c:Addr),et.lookup x=some c->(x,NameKind.cell)∉names->(cellsFrom n names et).lookup x=some c
 |[],_,_,_,_,e,_=>e
 |(name,kind)::r,n,et,x,c,e,h=>by
  have hr:(x,NameKind.cell)∉r:=fun z=>h (du _ z);unfold cellsFrom;split
  .rename_i hk;have uI:(x==name)=false:=by
    cases hx:x==name with
    |false=>rfl
    |true=>
     have e1:x=name:=by simpa using hx
     have e2:kind=.cell:=by simpa using hk
     exact absurd (by rw[e1,e2];exact bZ) h
   exact lD r (n+1) _ x c (by rw[iB,uI];exact e) hr
  .exact lD r n et x c e hr
theorem pD:∀ (names:List (Str×NameKind)) (n:Nat) (et:List (Str×Addr)),(∀x y c,et.lookup x=some c->et.lookup y=some c->x=y)->(∀x c,et.lookup x=some c->c<n)->∀x y c,(cellsFrom n names et).lookup x=some c->(cellsFrom n names et).lookup y=some c->x=y
 |[],_,_,hi,_=>hi
 |(name,kind)::r,n,et,hi,hl=>by
  unfold cellsFrom;split
  .refine pD r (n+1) _ (fun x y c h1 h2=>?_) (fun x c h=>?_)
   .rw[iB] at h1 h2;cases hx:x==name <;> cases hy:y==name <;> rw[hx] at h1 <;> rw[hy] at h2
    .exact hi x y c h1 h2
    .cases h2;exact absurd (hl x _ h1) (ii _)
    .cases h1;exact absurd (hl y _ h2) (ii _)
    .have e1:x=name:=by simpa using hx
     have e2:y=name:=by simpa using hy
     rw[e1,e2]
   .rw[iB] at h;cases hx:x==name <;> rw[hx] at h
    .exact dN (hl x c h)
    .cases h;exact jD _
  .exact pD r n et hi hl
section
variable {X:Cx} {ag:List (Addr×Obj)} {σ:St} {H:Hp} {s:Shared} {NB:List Str} {src:List (Option Nat)} {scope:Scope} {cl:List (Str×Addr)} {fp:List Addr} {h₁:Heap} {t₁:Nat}
theorem Ka(I:aZ X ag σ H s)(S:iX NB src scope X)(c1:∀x c,cl.lookup x=some c->X.env.cells.lookup x=some c)(c2:∀x,(x,NameKind.free)∈scope.names->∃c,cl.lookup x=some c)(hf:∀b∈fp,ke X ag H b)(To:∀b∈fp,b<s.heap.objs.size){m:Str->Option Value}(hn:h₁.Ns s.heap.objs.size m)(hk:∀b o,s.heap.get? b=some o->h₁.get? b=some o)(si:∀x c,(cellsFrom (s.heap.objs.size+1) scope.names cl).lookup x=some c->cl.lookup x=some c\/(s.heap.objs.size<c/\h₁.IsCell c none)):
  aZ (Cd X NB scope (cellsFrom (s.heap.objs.size+1) scope.names cl) s.heap.objs.size s H fp) [] (M8 src σ) H { s with heap:=h₁,toks:=t₁ }:=by
 have JO:∀b∈uq X.stack,b∈X.env.locals::X.fs:=I.vQ;have F8:∀x c,cl.lookup x=some c->∃v,s.heap.IsCell c v:=fun x c e=>I.cell x c (c1 x c e);have YF:∀x c,cl.lookup x=some c->c<s.heap.objs.size:=fun x c e=>by obtain⟨v,o,ho,_⟩:=F8 x c e;exact bp ho
 refine⟨⟨I.ok.mod,S.kind,I.ok.glob,I.ok.blt,aW _,pD _ _ _ (fun x y c e1 e2=>I.ok.inj x y c (c1 x c e1) (c1 y c e2)) (fun x c e=>dN (YF x c e)),fun x hx=>?_,fun x c z e=>?_,I.ok.hd,I.ok.frames,.inl rfl,fun b hb=>⟨?_,fun x c e=>?_⟩,I.bs,aY I.ok.Jt I.sz,fun b o e hb=>?_,fun b hb=>?_,I.stack,I.vR⟩,
  rfl,I.bare,Un.kept hk,⟨m,hn,fun i x v e1 e2 e3=>?_⟩,fun x c e=>?_,I.cI.fresh (aW _),fun x c e=>?_,fun p hp=>absurd (show p∈([]:List (Addr×Obj)) from hp) (by simp),I.cI.kept hk,?_⟩
 .have Az:(x,NameKind.free)∈scope.names\/(x,NameKind.cell)∈scope.names:=by
   rcases hx with hx|hx
   .exact nB hx (.inl rfl)
   .exact nB hx (.inr rfl)
  by_cases hc:(x,NameKind.cell)∈scope.names
  .obtain⟨c,_,e⟩:=uH scope.names (s.heap.objs.size+1) cl x hc;exact⟨c,e⟩
  .rcases Az with z|z
   .obtain⟨c,e⟩:=c2 x z;exact⟨c,lD _ _ _ _ _ e hc⟩
   .exact absurd z hc
 .have hm:=kC (xM.mp z);obtain⟨c',h1,h2⟩:=uH scope.names (s.heap.objs.size+1) cl x hm;have e':(cellsFrom (s.heap.objs.size+1) scope.names cl).lookup x=some c:=e;rw[h2] at e';cases e';exact Nat.le_of_succ_le h1
 .exact bh (To b hb)
 .rcases si x c e with z|⟨z,_⟩
  .exact(hf b hb).2.2.2.2.1 x c (c1 x c z)
  .exact jJ (rM (To b hb) z)
 .rcases(hf b hb).2.2.2.1 with z|z
  .exact I.ok.Fv b o e z
  .exact absurd (cQ (bp e) (aY I.ok.Jt z)) (ii _)
 .intro z;rcases bW.mp (JO b z) with e|e
  .exact(hf b hb).2.1 e
  .exact(hf b hb).2.2.1 e
 .obtain⟨j,hj,hv⟩:=J_ e2;obtain⟨hN,hF⟩:=S.src i x j e1 hj;obtain⟨m0,Jw,hl0⟩:=I.loc;have Kb:=kC hF;have kx:=S.free _ Kb rfl;have Yk:SF X.env.scope x:=by
   rcases kx with z|z
   .exact .inr (.inl z)
   .exact .inr (.inr z)
  obtain⟨u,r,l⟩:=hl0 j x v hN hv Yk;refine⟨u,r,.inr ⟨v6 hF,?_⟩⟩;obtain⟨c,hc⟩:=c2 x Kb;have hnc:(x,NameKind.cell)∉scope.names:=fun z=>by
   have:=S.cells _ z rfl;rw[hF] at this;cases this
  refine⟨c,lD _ _ _ _ _ hc hnc,?_⟩;rcases l with ⟨Ce,_⟩|⟨_,c',e,z⟩
  .have Tp:X.env.scope.names.lookup x=some .local:=Ce;rcases kx with z|z <;> (rw[z] at Tp;cases Tp)
  .rw[c1 x c hc] at e;cases e;obtain⟨o,ho,hd⟩:=z;exact⟨o,hk _ _ ho,hd⟩
 .rcases si x c e with z|⟨_,z⟩
  .obtain⟨v,o,ho,hd⟩:=F8 x c z;exact⟨v,o,hk _ _ ho,hd⟩
  .exact⟨none,z⟩
 .rcases si x c e with z|⟨z,_⟩
  .exact I.lT x c (c1 x c z)
  .exact I.cI.fresh (kO z)
 .show (M8 src σ).length=NB.length;unfold M8;rw[aP];exact S.len
theorem aZ.Tq(I:aZ X ag σ H s)(J:aZ (Cd X NB scope cl C s H fp) [] σB H' s')(hf:∀b∈fp,ke X ag H b):aZ X ag σ H' s':=by
 refine I.SN (ch:=fp) J.os J.base J.cI J.bare fun b hb=>?_;obtain⟨_,f1,_,f3,f4,f5⟩:=hf b hb;exact⟨f3,f1,f4,f5⟩
end
def RQ(X:Cx)(Cf:List Expr)(t:TT):Prop:=
 ∀ (ag:List (Addr×Obj)) (s:Shared) (σ:St) (H:Hp) (Q:Bool->Hp->Prop),aZ X ag σ H s->t σ H Q->
  wpAny (model X.prog X.w) X.A (forIn Cf true fun c r=>if r=true then do let ok <- isTrue c X.env (eval c X.env);pure (ForInStep.yield ok) else pure (ForInStep.yield r)) (TP X ag σ Q) X.xe s
def YG:TT:=fun _ H Q=>Q true H
theorem ce:RQ X [] YG:=fun _ _ _ H _ I h=>wpAny_tests_nil ⟨H,I,h⟩
theorem eG(h:PT X c t):RQ X [c] t:=fun ag s σ H Q I q=>wpAny_tests_one (h ag s σ H Q I q)
def gJ(J:It)(g:TG)(tt:TT)(te:TE)(D:Addr)(dJ:Hp->Prop)(σB:St)(H1:Hp):Prop:=
 ∃W:Nat->Nat->St->Hp->Prop,(∃m,W 0 m σB H1)/\∀i m σ H,W i m σ H->(J.stop i H/\dJ H)\/(J.go i H/\∀x H',J.Ot i H x H'->g x σ H' fun σ2 H2=>tt σ2 H2 fun b H3=>
  if b=true then te σ2 H3 fun v H4=>∃ys,H4 D=some (.lst ys)/\ys.length<sizeLine/\∃m',m'<m/\W (i+1) m' σ2 (upd H4 D (.lst (ys++[v]))) else ∃m',m'<m/\W (i+1) m' σ2 H3)
theorem DD(hx:B.xe=fun _ _=>False)(hc:B.calm=true)(T:Ah B.prog B.w B.K tg J fp it tn)(hg:PG B tg g)(ht:RQ B Cf tt)(he:PE B EY te)(I:aZ B [] σB H1 s)(st:tn 0 s.heap)(hf:∀b∈fp,ke B [] H1 b)(hw:gJ J g tt te D dJ σB H1)(hR:∀σ' H' s',aZ B [] σ' H' s'->dJ H'->R (.ok .next) s'):
  codeAny (model B.prog B.w) B.A (.compLoop (.ListComp EY [⟨tg,kg,Cf,0⟩] scope pos) 0 (.ref it) (.ref D) B.env) R s:=by
 obtain⟨W,⟨m0,w0⟩,Fz⟩:=hw;have Ak:∀ {H':Hp},(∀b∈fp,H' b=none)->∀b∈fp,ke B [] H' b:=fun hn b hb=>⟨hn b hb,(hf b hb).2⟩
 refine codeAny_loop rfl (fun n s'=>∃i σ' H',aZ B [] σ' H' s'/\tn i s'.heap/\(∀b∈fp,H' b=none)/\W i n σ' H') ?_ m0 ⟨0,σB,H1,I,st,fun b hb=>(hf b hb).1,w0⟩;rintro n s3 ⟨i,σ3,H3,I3,Am,Ou,w3⟩;show wpAny _ B.A ((compTurn (.ListComp EY [⟨tg,kg,Cf,0⟩] scope pos) 0 (.ref it) (.ref D) B.env).onRaise (fun x=>do noteFrame x B.env;theTreesLotGoes x)) _ _ s3;refine wpAny_noted ?_;rw[compTurn_list];have nx:∀ {α:Type} {t:Sem α} {Q:α->Shared->Prop} {E':Value->Shared->Prop} {s:Shared},wpAny (model B.prog B.w) B.A t Q B.xe s->wpAny (model B.prog B.w) B.A t Q E' s:=fun h=>
  mj h (fun _ _ q=>q) fun _ _ z=>by rw[hx] at z;exact z.elim
 rcases Fz i n σ3 H3 w3 with ⟨stop,qn⟩|⟨go,step⟩
 .refine aE (mf (aE (dk (T.done B rfl rfl rfl hc i [] s3 σ3 H3 _ I3 (Ak Ou) Am stop) fun r s4 ⟨hr,I4⟩=>?_)));subst hr;exact wpAny_pure (hR σ3 H3 s4 I4 qn)
 .refine aE (mf (aE (dk (T.item B rfl rfl rfl hc i [] s3 σ3 H3 _ I3 (Ak Ou) Am go) fun r s4 ⟨u,hr,h4⟩=>?_)));subst hr;refine aE (dk h4 fun _ s5 ⟨x,H5,I5,r5,y5,xp,Yn⟩=>?_);have Yo:=I5.pinned (Ak Yn) (T.obj _ _ xp);refine aE (nx (dk (hg _ s5 σ3 H5 x u _ Yo r5 (step x H5 y5)) fun _ s6 ⟨σ6,H6,I6,q6⟩=>?_));have back:∀ {σ7:St} {H7:Hp} {s7:Shared} {m':Nat},aZ B ([]++rY fp s5.heap) σ7 H7 s7->m'<n->W (i+1) m' σ7 H7->∃m,m<n/\∃i σ' H',aZ B [] σ' H' s7/\tn i s7.heap/\(∀b∈fp,H' b=none)/\W i m σ' H':=fun {σ7 H7 s7 m'} I7 hm w7=>by
   refine⟨m',hm,i+1,σ7,H7,I7.nk,T.keep _ _ _ xp fun b hb o e=>(I7.pin (b,o) (jr _ (jr _ (jM hb e)))).1,fun b hb=>?_,w7⟩;obtain⟨o,e,d⟩:=T.obj _ _ xp b hb;exact(I7.pin (b,o) (jr _ (jr _ (jM hb e)))).2.1
  refine aE (nx (dk (ht _ s6 σ6 H6 _ I6 q6) fun ok s7 ⟨H7,I7,q7⟩=>?_));cases ok with
  |false=>
   rw[au cJ] at q7;obtain⟨m',hm,w7⟩:=q7;exact wpAny_pure ⟨rfl,back I7 hm w7⟩
  |true=>
   rw[aD rfl] at q7;refine aE (aE (nx (dk (he _ s7 σ6 H7 _ I7 q7) fun v s8 ⟨y,H8,I8,r8,ys,hD,hl,m',hm,w8⟩=>?_)));refine aE (nx (dk (eA _ s8 σ6 H8 (.ref D) [y] (.ref D) [v] (fun _ H9=>H9=upd H8 D (.lst (ys++[y]))) I8 rfl (.cons r8 .nil) ⟨D,ys,y,rfl,rfl,hD,hl,rfl⟩) fun _ s9 ⟨_,H9,I9,_,e9⟩=>?_));subst e9;exact wpAny_pure (wpAny_pure ⟨rfl,back I9 hm w8⟩)
theorem v7(hQ:Q { scope:=scope,locals:=s.heap.objs.size,globals:=globals,cells:=cellsFrom (s.heap.objs.size+1) scope.names cl,qual:=qual,func:=none,code:=outer.code,frame:=outer.frame,builtins:=outer.builtins }
   { s with heap:=pushCells (s.heap.push { cls:=.type "dict",data:=.dict #[] }) scope.names }):
  wpAny M A (newFunctionEnv scope globals cl [] qual none .none (some outer)) Q E s:=by
 simp only[newFunctionEnv,zH,jj];refine aE (wpAny_alloc ?_);refine aE (wpAny_layCells _ (fun name kind cells=>by cases hkc:kind==NameKind.cell <;> simp[hkc]) _ _ _ _ ?_);rw[show ({ s with heap:=s.heap.push { cls:=.type "dict",data:=.dict #[] } }:Shared).heap.objs.size=s.heap.objs.size+1 from ig ..];refine aE ?_;rw[vF];exact wpAny_pure (wpAny_pure hQ)
section
variable {X:Cx} {EY tg kg:Expr} {Cf:List Expr} {scope:Scope} {pos:Pos} {wi:TI} {g:TG} {tt:TT} {te:TE} {NB:List Str} {src:List (Option Nat)}
def F9(src:List (Option Nat))(wi:TI)(g:TG)(tt:TT)(te:TE):TE:=fun σ H Q=>wi σ H fun J H1=>∀D,H1 D=none->gJ J g tt te D (fun H'=>Q (.ref D) H') (M8 src σ) (upd H1 D (.lst []))
theorem sj{ag:List (Addr×Obj)}{σ:St}{H2:Hp}{s2:Shared}{J:It}{fp:List Addr}{it:Addr}{tn:Nat->Heap->Prop}{cl:List (Str×Addr)}{dJ:Addr->Hp->Prop}{E':Value->Shared->Prop}{RR:Value->Addr->Result->Shared->Prop}(S:iX NB src scope X)(hc:X.calm=true)(c1:∀x c,cl.lookup x=some c->X.env.cells.lookup x=some c)(c2:∀x,(x,NameKind.free)∈scope.names->∃c,cl.lookup x=some c)(hg:∀cl C s₃ H₃ fp,PG (Cd X NB scope cl C s₃ H₃ fp) tg g)(ht:∀cl C s₃ H₃ fp,RQ (Cd X NB scope cl C s₃ H₃ fp) Cf tt)(he:∀cl C s₃ H₃ fp,PE (Cd X NB scope cl C s₃ H₃ fp) EY te)(I2:aZ X ag σ H2 s2)(T:Ah X.prog X.w X.K tg J fp it tn)(t4:tn 0 s2.heap)(f2:∀b∈fp,ke X ag H2 b)(hw:∀D,H2 D=none->gJ J g tt te D (dJ D) (M8 src σ) (upd H2 D (.lst [])))(hR:∀D C H' s',ke X ag H' C->aZ X ag σ H' s'->(∃m,s'.heap.Ns C m)->dJ D H'->RR (.ref D) C (.ok .next) s'):
  wpAny (model X.prog X.w) X.A (newList []) (fun et s₃=>wpAny (model X.prog X.w) X.A (newFunctionEnv scope X.env.globals cl [] X.env.qual none .none (some X.env)) (fun Tt s₄=>
   codeAny (model X.prog X.w) X.A (.compStart (.ListComp EY [⟨tg,kg,Cf,0⟩] scope pos) 0 (.ref it) et { Tt with scope:=relabel scope X.env }) (RR et Tt.locals) s₄) E' s₃) E' s2:=by
 refine kI (v7 ?_);have I3:=I2.OK (ys:=[]) (its:=[]) (t':=s2.toks) .nil (de _);have hD:H2 s2.heap.objs.size=none:=I2.fresh;have fo:∀b∈fp,b<s2.heap.objs.size:=fun b hb=>by obtain⟨o,e,_⟩:=T.obj _ _ t4 b hb;exact bp e
 have up:∀ {b:Addr},b∈fp->upd H2 s2.heap.objs.size (.lst []) b=H2 b:=fun {b} hb=>ao (bh (fo b hb));have f3:∀b∈fp,ke X ag (upd H2 s2.heap.objs.size (.lst [])) b:=fun b hb=>⟨by rw[up hb];exact(f2 b hb).1,(f2 b hb).2⟩
 have lM:(s2.heap.push { cls:=.type "list",data:=.seq ([]:List Value).toArray }).objs.size=s2.heap.objs.size+1:=by rw[ig]
 generalize hs3:({ s2 with heap:=s2.heap.push { cls:=.type "list",data:=.seq ([]:List Value).toArray } }:Shared)=s3 at I3 |-;have hh3:s3.heap=s2.heap.push { cls:=.type "list",data:=.seq ([]:List Value).toArray }:=by rw[<-hs3]
 have fo3:∀b∈fp,b<s3.heap.objs.size:=fun b hb=>by rw[hh3,lM];exact dN (fo b hb)
 have Tu:(s3.heap.push { cls:=.type "dict",data:=.dict #[] }).objs.size=s3.heap.objs.size+1:=ig ..;have si:∀x c,(cellsFrom (s3.heap.objs.size+1) scope.names cl).lookup x=some c->cl.lookup x=some c\/(s3.heap.objs.size<c/\(pushCells (s3.heap.push { cls:=.type "dict",data:=.dict #[] }) scope.names).IsCell c none):=fun x c e=>by
  rw[<-Tu] at e;rcases pC _ _ _ _ _ e with z|⟨z1,z2⟩
  .exact .inl z
  .exact .inr ⟨by rw[Tu] at z1;exact z1,z2⟩
 have Tv:=(Heap.Ns.new s3.heap (.type "dict")).keeps (pushCells_keeps scope.names _);have keep:∀b o,s3.heap.get? b=some o->(pushCells (s3.heap.push { cls:=.type "dict",data:=.dict #[] }) scope.names).get? b=some o:=fun b o e=>pushCells_keeps _ _ b o (cg _ e);generalize hh1:pushCells (s3.heap.push { cls:=.type "dict",data:=.dict #[] }) scope.names=h₁ at si Tv keep |-;have IB:aZ (Cd X NB scope (cellsFrom (s3.heap.objs.size+1) scope.names cl) s3.heap.objs.size s3 (upd H2 s2.heap.objs.size (.lst [])) fp) [] (M8 src σ) (upd H2 s2.heap.objs.size (.lst [])) { s3 with heap:=h₁,toks:=s3.toks }:=
  Ka I3 S c1 c2 f3 fo3 Tv keep si
 have F_:tn 0 h₁:=T.keep 0 s2.heap h₁ t4 fun b hb o e=>keep b o (by rw[hh3];exact cg _ e);have fB:∀b∈fp,ke (Cd X NB scope (cellsFrom (s3.heap.objs.size+1) scope.names cl) s3.heap.objs.size s3 (upd H2 s2.heap.objs.size (.lst [])) fp) [] (upd H2 s2.heap.objs.size (.lst [])) b:=fun b hb=>by
  refine⟨(f3 b hb).1,bh (fo3 b hb),fun z=>?_,.inl hb,fun x c e=>(IB.ok.X7 b hb).2 x c e,fun p hp=>absurd (show p∈([]:List (Addr×Obj)) from hp) (by simp)⟩;rcases bW.mp (I3.vQ b z) with e|e
  .exact(f3 b hb).2.1 e
  .exact(f3 b hb).2.2.1 e
 have loop:codeAny (model X.prog X.w) X.A (.compLoop (.ListComp EY [⟨tg,kg,Cf,0⟩] scope pos) 0 (.ref it) (.ref s2.heap.objs.size) (compEnvC scope (cellsFrom (s3.heap.objs.size+1) scope.names cl) s3.heap.objs.size X.env)) (RR (.ref s2.heap.objs.size) s3.heap.objs.size)
   { s3 with heap:=h₁,toks:=s3.toks }:=by
  refine DD (B:=Cd X NB scope (cellsFrom (s3.heap.objs.size+1) scope.names cl) s3.heap.objs.size s3 (upd H2 s2.heap.objs.size (.lst [])) fp) rfl hc T (hg _ _ _ _ _) (ht _ _ _ _ _) (he _ _ _ _ _) IB F_ fB (hw _ hD) fun σ' H' s' J' q=>?_;obtain⟨m,hm,_⟩:=J'.loc;exact hR _ _ H' s' (I3.FA (aW _) J'.free) (I3.Tq J' f3) ⟨m,hm⟩ q
 exact codeAny_compStart_list loop (T.self _ 0 _ _ _ F_ loop)
theorem bV(S:iX NB src scope X)(hc:X.calm=true)(hi:PI X tg kg wi)(hg:∀cl C s₃ H₃ fp,PG (Cd X NB scope cl C s₃ H₃ fp) tg g)(ht:∀cl C s₃ H₃ fp,RQ (Cd X NB scope cl C s₃ H₃ fp) Cf tt)(he:∀cl C s₃ H₃ fp,PE (Cd X NB scope cl C s₃ H₃ fp) EY te)(hs:∀x,foldedSetIterable kg X.env x=pure x:=by intro _;rfl):PE X (.ListComp EY [⟨tg,kg,Cf,0⟩] scope pos) (F9 src wi g tt te):=by
 intro ag s σ H Q I h;obtain⟨cl,RS,c1,c2⟩:=my I.ok S;rw[eval_ListComp];refine wpAny_comprehension_free (use:=none) (cl:=cl) rfl hs RS S.kind S.names (dk (hi ag s σ H _ I h) fun v s1 h1=>dk h1 fun W0 s2 h2=>?_);obtain⟨it,fp,tn,J,H2,e,I2,T,t4,f2,hw⟩:=h2;subst e;refine sj (RR:=fun et C=>compPost (model X.prog X.w) X.A X.xe none (EP X ag σ Q) et C) S hc c1 c2 hg ht he I2 T t4 f2 hw fun D C H' s' fC I' hm q=>?_;obtain⟨m,hm⟩:=hm;refine⟨m,hm,fun h' sb=>⟨.ref D,H',?_,rfl,q⟩⟩;obtain⟨g0,g1,_,g3,g4,g5⟩:=fC;exact I'.turned (t':=s'.toks) (fun b o hb e=>(sb.2 b hb).trans e) g0 g1 g3 g4 g5
theorem dt{i:Nat}{y:Str}{py Tw:Pos}(S:iX NB src scope X)(hc:X.calm=true)(hi:PI X tg kg wi)(hg:∀cl C s₃ H₃ fp,PG (Cd X NB scope cl C s₃ H₃ fp) tg g)(ht:∀cl C s₃ H₃ fp,RQ (Cd X NB scope cl C s₃ H₃ fp) Cf tt)(he:∀cl C s₃ H₃ fp,PE (Cd X NB scope cl C s₃ H₃ fp) EY te)(hN:X.N.Nodup)(hix:X.N[i]?=some y)(hy:X.env.scope.names.lookup y=some .local)(hsw:swapsWith (.ListComp EY [⟨tg,kg,Cf,0⟩] scope pos) (some (.Name y py)) Tw.line X.env=pure true)(hs:∀x,foldedSetIterable kg X.env x=pure x:=by intro _;rfl):
  PS X (.Assign [.Name y py] (.ListComp EY [⟨tg,kg,Cf,0⟩] scope pos) Tw) (Om (F9 src wi g tt te) (bK i)):=by
 intro ag s σ H D0 I h;obtain⟨cl,RS,c1,c2⟩:=my I.ok S;rw[exec_Assign_Name_used _ _ _ _ hsw];refine aE (mf (aE ?_));show wpAny _ X.A (do let _ <- comprehension (.ListComp EY [⟨tg,kg,Cf,0⟩] scope pos) scope X.env _ (newList []) false (eval kg X.env) (some (assign (.Name y py) X.env))) _ _ s;refine aE (mj (wpAny_comprehension_free (use:=some (assign (.Name y py) X.env)) (Q:=fun _ s'=>SP X ag D0 .next s') (cl:=cl) rfl hs RS S.kind S.names
  (dk (hi ag s σ H _ I h) fun v s1 h1=>dk h1 fun W0 s2 h2=>?_)) (fun _ s' hq=>wpAny_pure (wpAny_pure hq)) fun _ _ e=>e)
 obtain⟨it,fp,tn,J,H2,e,I2,T,t4,f2,hw⟩:=h2;subst e;refine sj (RR:=fun et C=>compPost (model X.prog X.w) X.A X.xe (some (assign (.Name y py) X.env)) (fun _ s'=>SP X ag D0 .next s') et C) S hc c1 c2 hg ht he I2 T t4 f2 hw fun D C H' s' fC I' hm q=>?_;obtain⟨m,hm⟩:=hm;obtain⟨g0,g1,_,g3,g4,g5⟩:=fC;show wpAny _ X.A (assign (.Name y py) X.env (.ref D)) _ _ _;refine wpAny_assign_Name (ur I' hN hix (.inl hy) (v:=.ref D) rfl (fun Tf I'' sb=>?_) (.inr hy));obtain⟨a,sb,ha⟩:=sb;have uI:C≠a:=by
  rcases ha with z|z
  .rw[z];exact g1
  .exact fun z'=>g4 y a z z'.symm
 refine⟨m,hm.sameBut sb uI,fun h' sb'=>⟨_,H',I''.turned (t':=Tf.toks) (fun b o hb e=>(sb'.2 b hb).trans e) g0 g1 g3 g4 g5,q⟩⟩
end
structure Tx(P:Program)(w:World)(outer:List Env)(H:Hp)(s:Shared)(B:Heap)(p:Addr)(C a0:Value)(H':Hp)(s':Shared):Prop where
 os:s'.os=s.os
 bare:AllBare s'.gens
 cI:lA P w H' B
 keep:∀b o,s.heap.get? b=some o->H b=none->b∉uq outer->B.get? b=some o/\H' b=none
 frame:∀b o,s.heap.get? b=some o->H b=none->b∈uq outer->(∃sl,s'.heap.get? b=some { o with slots:=sl })/\H' b=none
 there:∀b o,s.heap.get? b=some o->H b≠none->∃o',B.get? b=some o'
 o_:∀b xs,H b=some (.tup xs)->H' b=some (.tup xs)
 rR:∀b o u,H b=some (.tV o u)->H' b=some (.tV o u)
 rS:∀b ps,H b=some (.qu ps)->∃more,H' b=some (.qu (ps++more))
 fl:Heap.FlyingW B outer p C a0 s'.heap
def Kc(P:Program)(w:World):xH:=fun outer H s E e s'=>∃p C a0 B H',e=.ref p/\Tx P w outer H s B p C a0 H' s'/\E C none H'
section
variable {P:Program} {w:World} {K:PySem.W.Frag} {mg:Str->Option Value} {base:Heap} {N:List Str} {qual:Str} {scope:Scope} {f:Addr} {cd:Value} {A:Around} {outer:List Env} {s:Shared} {H:Hp} {E:XK}
abbrev YH(h:Heap)(l:List Env):Heap:=PySem.W.hideAll h (uq l)
theorem Kd{l:List Env}{H1:Hp}{h:Heap}(ok:lA P w H1 h)(nf:∀b∈uq l,H1 b=none):lA P w H1 (YH h l):=fun a o e=>by
 refine(ok a o e).rQ (fun b u hb q=>vk _ q fun z=>?_) (fun _ q=>q) fun _ _ q=>q;have n:=nf b z;rcases hb with rfl|hb
 .rw[n] at e;cases e
 .rw[n] at hb;cases hb
theorem Ga{ag:List (Addr×Obj)}{σ:St}{H1:Hp}{s1:Shared}{h':Heap}{e:Addr}{C:Value}{vs:List Value}(I:aZ (qw (Kc P w) P w K mg base N qual scope f cd A outer s H E) ag σ H1 s1)(hx:Heap.MadeExcOf s1.heap h' e C vs)(q:E C none H1):
  (qw (Kc P w) P w K mg base N qual scope f cd A outer s H E).xe (.ref e) { s1 with heap:=h' }:=by
 have JO:uq (envOfC qual scope s.heap.objs.size f cd::outer)=s.heap.objs.size::uq outer:=rfl;have YI:=I.stack;refine wpAny_leaves_madeW (base:=YH s1.heap (envOfC qual scope s.heap.objs.size f cd::outer)) (h:=s1.heap) (L:=s.heap.objs.size) I.ok.frames rfl (fun b o z=>PySem.W.of_hideAll _ z)
  (PySem.W.funFrames_hide YI fun env he b hb=>l7.mpr ⟨env,he,hb⟩) hx fun h2 t x1 x2 x3 x4=>?_
 have inB:∀b o,s1.heap.get? b=some o->b∉uq outer->b<s.heap.objs.size->(YH s1.heap (envOfC qual scope s.heap.objs.size f cd::outer)).get? b=some o:=fun b o z hb fz=>
  vk _ z fun m=>by
   rw[JO] at m;rcases bW.mp m with z'|z'
   .exact absurd fz (by rw[z'];exact ii _)
   .exact hb z'
 refine⟨e,C,.ref t,_,H1,rfl,⟨I.os,I.bare,Kd I.cI I.vR,fun b o z n hb=>⟨inB b o (I.base.keep b o z n hb (by intro m;exact absurd (show b∈([]:List Addr) from m) (by simp))) hb (bp z),I.base.free b o z n (by intro m;exact absurd (show b∈([]:List Addr) from m) (by simp))⟩,
  fun b o z n hb=>⟨?_,I.base.free b o z n (by intro m;exact absurd (show b∈([]:List Addr) from m) (by simp))⟩,fun b o z n=>?_,I.base.o_,I.base.rR,I.base.rS,x1⟩,q⟩
 .obtain⟨sl,z1⟩:=I.base.slot b o z n hb (by intro m;exact absurd (show b∈([]:List Addr) from m) (by simp));obtain⟨_,o',Ad,nd⟩:=I.ok.pb.mem hb;have e':o'=o:=bX (Ad.symm.trans z);subst e';obtain⟨Tz,z2⟩:=x4 b _ (hx.keeps _ _ z1) nd;exact⟨Tz,z2⟩
 .have nfr:b∉uq (envOfC qual scope s.heap.objs.size f cd::outer):=fun m=>by
   rw[JO] at m;rcases bW.mp m with z'|z'
   .exact absurd (bp z) (by rw[z'];exact ii _)
   .exact n (I.ok.M2 b z')
  obtain⟨o',z1⟩:=I.base.there b o z (by intro m;exact absurd (show b∈([]:List Addr) from m) (by simp));exact⟨o',vk _ z1 nfr⟩
end
theorem Cg{P:Program}{w:World}{X:Cx}:jO (Kc P w) X E0:=fun _ _ _ _ _ _ _ h=>by
 obtain⟨_,_,_,_,_,_,_,q⟩:=h;exact q.elim
open PySem PySem.Spec PyProof.Rows PySem.W
abbrev bmV:List Value:=[.type "ValueError",.type "Exception",.type "BaseException",.type "object"]
structure v8(K:PySem.W.Frag)(C:Addr):Prop where
 ex:PySem.W.excIn K C bmV "ValueError.__new__"=true
 kp:PySem.W.keepIn K (.ref C)=true
 ga:PySem.W.findIn K (.ref C) "__getattribute__"=some (some (.builtin "BaseException.__getattribute__"))
 gt:PySem.W.findIn K (.ref C) "__getattr__"=some none
 cl:PySem.W.findIn K (.ref C) "__class__"=some (some (.builtin "object.__class__"))
 mo:PySem.W.mroIn K C (.type "object")=some true
 mb:PySem.W.mroIn K C (.type "BaseException")=some true
 ty:(PySem.W.clsIn K C).isSome=true
theorem Gb{K:PySem.W.Frag}{h:Heap}{C:Addr}{bmB:List Value}{M9:String}(X:K.In h)(q:PySem.W.excIn K C bmB M9=true):
  ∃bm N nm qn bs hdct sn sub ab col dd k0 k1 k2 k3 k5 mN,h.get? C=some (excClassObj nm qn C N bs bm hdct sn sub ab col dd k0 k1 k2 k3 k5 M9)/\h.Ns N mN/\mN "__init__"=none/\OwnTail h bmB bm:=by
 unfold PySem.W.excIn at q;split at q
 .rename_i dd cd sl ho;split at q
  .rename_i C' bm k0 k1 k2 k3 n k5 hm hs;simp only[gg,fP,zU] at q;obtain⟨⟨⟨⟨⟨rfl,rfl⟩,TC⟩,ht⟩,cI⟩,W5⟩:=q;obtain⟨nm,bs,mro,ns,qn,hd,sn,sub,ab,col,del⟩:=cd;dsimp only at hm TC cI W5;subst hm TC;have RT:sl=#[k0,k1,k2,k3,some (.builtin n),k5]:=by
    obtain⟨l⟩:=sl;simp only at hs;rw[hs]
   subst RT;exact⟨bm,ns,nm,qn,bs,hd,sn,sub,ab,col,dd,k0,k1,k2,k3,k5,_,X _ _ ho,.of_isNs (isNs_of_in X cI),nsMap_none_of_in X cI W5,tail_of_in X ht⟩
  .cases q
 .cases q
def YJ(p:Addr)(C:Value)(h:Heap):Prop:=∃o,h.get? p=some o/\o.cls=C
abbrev YK(p:Addr)(C:Value):HO:=.ext (YJ p C)
theorem cF.get(x:cF P w H h a o):∃u,h.get? a=some u:=by
 cases o with
 |lst xs=>obtain⟨_,_,_,_,e⟩:=x;exact⟨_,e⟩
 |tup xs=>obtain⟨_,_,_,ob,e,_⟩:=x;exact⟨_,e⟩
 |dK df=>obtain⟨_,_,_,_,o,_,_,e,_⟩:=x;exact⟨_,e⟩
 |dT df=>obtain⟨_,_,_,_,o,_,_,e,_⟩:=x;exact⟨_,e⟩
 |set S n=>obtain⟨o,_,_,_,e,_⟩:=x;exact⟨_,e⟩
 |ins C dx fs=>obtain⟨_,_,_,e,_⟩:=x;exact⟨_,e⟩
 |own y=>exact x
 |xd fs=>obtain⟨_,⟨_,_,_,e,_⟩,_⟩:=x;exact⟨_,e⟩
 |JM lo hi=>obtain⟨_,_,_,e⟩:=x;exact⟨_,e⟩
 |tV ob u=>obtain⟨e,_⟩:=x;exact⟨_,e⟩
 |qu ps=>exact⟨_,(show h.get? a=some _ from x)⟩
 |met f y=>exact⟨_,(show h.get? a=some _ from x)⟩
 |ext φ=>exact x.2.1
theorem lA.sk(x:lA P w H h)(e:h.get? a=none):H a=none:=by
 cases q:H a with
 |none=>rfl
 |some u=>obtain⟨o,z⟩:=(x a u q).get;rw[e] at z;cases z
theorem aZ.xN(I:aZ X ag σ H s)(k:∀b u,s.heap.get? b=some u->h'.get? b=some u)(hp:s.heap.get? a=none)(new:cF X.prog X.w (upd H a o) h' a o):
  aZ X ag σ (upd H a o) { s with heap:=h',toks:=t' }:=by
 have hn:=I.cI.sk hp;have ne:∀b u,s.heap.get? b=some u->b≠a:=fun b u e z=>by rw[z,hp] at e;cases e
 refine I.un ⟨fun b u e _ _ _=>k b u e,fun b u e _ _ _=>⟨u.slots,k b u e⟩,fun b u e n _=>by rw[ao (ne b u e)];exact n,fun b u e _=>⟨u,k b u e⟩,fun b xs e=>by rw[ao (ap e hn)];exact e,fun b u v e=>by rw[ao (ap e hn)];exact e,fun b ps e=>⟨#[],by rw[ao (ap e hn),e];simp⟩⟩ fun b u e=>?_;by_cases hb:b=a
 .subst hb;rw[af] at e;cases e;exact new
 .rw[ao hb] at e;exact(I.cI b u e).rQ (fun c v _ q=>k c v q) (fun c q=>by rw[ao (ap q hn)];exact q) fun c xs q=>by rw[ao (ap q hn)];exact q
section
variable {prog:Program} {w:World} {A:Around} {E:Value->Shared->Prop} {s:Shared} {K:PySem.W.Frag} {x C:Addr} {ox:Obj}
theorem Ch(hx:h.get? x=some ox)(hc:ox.cls=.ref C):PySem.W.Looks M h (typeOf (.ref x)) (.ref C):=hc ▸ (PySem.W.Looks.ld hx).andThen .now
open Builtin Builtin.ObjectAttr Builtin.Getset_descriptor in
theorem AA(X:K.In s.heap)(hx:s.heap.get? x=some ox)(hc:ox.cls=.ref C)(hm:PySem.W.mroIn K C (.type "object")=some true)(h:R (.ok (.ret (.ref C))) s):codeAny (model prog w) A (.call (.builtin "getset_descriptor.__get__") ⟨[.builtin "object.__class__",.ref x,tp],[]⟩) R s:=by
 obtain⟨hh,g,dr,t,os⟩:=s;have L0:=Ch (M:=model prog w) hx hc;have L1:=looks_mroIn (M:=model prog w) X hm;refine zO KF.slot_gs.plain KF.entry_gs (KF.slot_gs.check _ _ _ _ _ _ _ _ KF.type_class (KF.args_gs _ _ _) ?_);unfold Builtin.«getset_descriptor.__get__» descrGet;rw[dga_obj];refine aE (wpAny_pure ?_);unfold descrGetter descrCheckInstance descrNameAndClass isInstance;simp only[KF.owner_class];repeat lk
 refine⟨Code.quiet_builtin _ (by decide +kernel),oZ KF.entry_class ?_⟩;unfold Builtin.«object.__class__» shownTypeOf;repeat lk
 exact h
theorem DE{g d t os}(T:v8 K C)(X:K.In h)(hx:h.get? x=some ox)(hc:ox.cls=.ref C)(hq:Q (.done (.ret (.ref C))) ⟨h,g,d,t,os⟩):
  wpAny (model prog w) A (Builtin.«object.__getattribute__» ⟨[.ref x,.str "__class__" tk],[]⟩) Q E ⟨h,g,d,t,os⟩:=by
 have f5:=F.typeOf_bexc_args;have W6:(⟨h,g,d,t,os⟩:Shared).TypeIs (.builtin "object.__class__") "getset_descriptor":=Ff;have f5':=Ff;have f6:=F.slot_gs_get.lookup;have f7:=F.slot_gs_set.lookup;have L1:=looks_findIn (M:=model prog w) X T.cl;repeat (any_goals (first|assumption|(with_reducible refine z7 hx ?_;rw[hc])|with_reducible refine L1.at ?_|wp_step))
 refine AA (s:=⟨h,g,d,t,os⟩) X hx hc T.mo ?_;repeat (any_goals (first|assumption|wp_step))
theorem DG{g d t os}(T:v8 K C)(X:K.In h)(hx:h.get? x=some ox)(hc:ox.cls=.ref C)(hq:Q () ⟨h,g,d,t,os⟩):
  wpAny M A (checkBuiltinCall "BaseException.__getattribute__" ⟨[.ref x,TD],[]⟩) Q E ⟨h,g,d,t,os⟩:=by
 have hk:builtinKind "BaseException.__getattribute__"=some .slot:=by decide +kernel
 have OO:splitId "BaseException.__getattribute__"=some ("BaseException","__getattribute__"):=by decide +kernel
 have ha:=F.args_bexc_ga (.ref x) TD;have L1:=looks_mroIn (M:=M) X T.mb;simp only[checkBuiltinCall,hk,OO];refine aE ?_
 .unfold isInstance;repeat (first|(with_reducible refine z7 hx ?_;rw[hc])|with_reducible refine L1.at ?_|wp_step)
  exact hq
theorem OP{tk:Tok}{fill JU:Bool}{Q:Value->Shared->Prop}{h:Heap}{g d t os}(T:v8 K C)(X:K.In h)(hx:h.get? x=some ox)(hc:ox.cls=.ref C)(hq:Q (.ref C) ⟨h,g,d,t,os⟩):
  wpAny (model prog w) A (getAttrBy (.ref x) (.str "__class__" tk) fill JU) Q E ⟨h,g,d,t,os⟩:=by
 have f3:=F.attr_ValueError.ga.bind (.ref x);have TF:(JU&&onTheHeap (Value.builtin "BaseException.__getattribute__"))=false:=by cases JU <;> rfl
 have hx2:(Value.builtin "BaseException.__getattribute__"==Value.builtin "object.__getattribute__")=false:=by decide +kernel
 have hx1:(onTheHeap (Value.ref C)&&Value.builtin "BaseException.__getattribute__"==Value.builtin "object.__getattribute__")=false:=by rw[hx2];rfl
 have L1:=looks_findIn (M:=model prog w) X T.ga;have L2:=looks_findIn (M:=model prog w) X T.gt;repeat (any_goals (first|assumption|(with_reducible refine z7 hx ?_;rw[hc])|with_reducible refine L1.at ?_|with_reducible refine L2.at ?_|wp_step))
 refine zO F.attr_ValueError.ga.plain F.entry_bexc_ga (DG T X hx hc (DE T X hx hc ?_));repeat (any_goals (first|assumption|wp_step))
theorem Gc{Q:Option Value->Shared->Prop}{h:Heap}{g d t os}(T:v8 K C)(X:K.In h)(hx:h.get? x=some ox)(hc:ox.cls=.ref C)(hq:Q (some (.ref C)) ⟨h,g,d,t+1,os⟩):
  wpAny (model prog w) A (getAttr? (.ref x) "__class__") Q E ⟨h,g,d,t,os⟩:=by
 unfold getAttr?;repeat (any_goals (first|assumption|with_reducible apply OP T X hx hc|wp_step))
theorem Gd(T:v8 K C):PySem.W.KitX K (.ref x) (.ref C) (YJ x (.ref C)) where
 ty:=fun _ _ _ ⟨o,e,c⟩=>Ch e c
 it:=fun _ _ X _=>by
  obtain⟨cdD,JW⟩:=vf.mp T.ty;unfold clsIn at JW;split at JW
  .rename_i c' d' cd' X_ ho;intro A' Q' E' s' k q;unfold isType loadHead;exact aE (wpAny_loadPart (k _ _ (X _ _ ho)) (wpAny_pure q))
  .cases JW
 ne:=fun h tp dd its n sl X htp=>by
  obtain⟨cdD,JW⟩:=vf.mp T.ty;refine rC.mpr fun q=>?_;have e:C=tp:=Value.ref.inj (fP.mp q);subst e;unfold clsIn at JW;split at JW
  .rename_i c' d' cd' X_ ho;have z:=(X _ _ ho).symm.trans htp;cases z
  .cases JW
 ca:=fun {_ _ _ _ _ s} X ⟨o,e,c⟩ k=>by
  obtain⟨h,g,d,t,os⟩:=s;exact Gc T X e c k
end
section
variable {X:Cx}
inductive M_ (K:PySem.W.Frag) (H:Hp):V->Value->Prop where
 |of {v:V} {t:Value} (h:pq K H v t):M_ K H v t
 |exc {p C:Addr} (T:v8 K C) (e:H p=some (YK p (.ref C))):M_ K H (.ref p) (.ref C)
def YL(K:PySem.W.Frag):List V->Hp->VK->Prop:=fun xs H Q=>∃x c cv t b,xs=[x,c]/\(c=.ty cv/\PySem.W.kitOne K t (.type cv)=some b)/\M_ K H x t/\Q (.bl b) H
theorem hZ:fA X (.builtin "isinstance") (YL X.K):=by
 intro ag s σ H xs us Q I r h;obtain⟨x,c,cv,t,b,rfl,⟨rfl,e⟩,ty,q⟩:=h;obtain⟨u1,u2,rfl,r1,r2⟩:=r.two;obtain rfl:u2=Value.type cv:=r2;cases ty with
 |of ty=>exact Dw I r1 ty e fun tk=>⟨.bl b,H,I.tok tk,rfl,q⟩
 |@exc p C T ea=>
  obtain rfl:u1=Value.ref p:=r1;have p1:YJ p (.ref C) s.heap:=(I.cI p _ ea).1;exact j4 (Gd T) I.p_ p1 e (fun z=>nomatch z) fun tk=>⟨.bl b,H,I.tok tk,rfl,q⟩
end
section
variable {X:Cx} {x:Str} {C:Addr} {np jw pos:Pos} {e:Expr} {es:List Expr} {t:TA}
def OQ(q:Hp->Prop)(t:TA):TS:=fun _ σ H=>t σ H fun vs H1=>vs.length<=sizeLine/\q H1
theorem Ge{q:Hp->Prop}(hc:X.calm=true)(T:v8 X.K C)(hg:Gl X x)(hm:X.mg x=some (.ref C))(ha:PA X (e::es) t)(hxe:∀ (ag:List (Addr×Obj)) (σ:St) (H1:Hp) (s1:Shared) (h':Heap) (p:Addr) (vs:List Value),aZ X ag σ H1 s1->Heap.MadeExcOf s1.heap h' p (.ref C) vs->q H1->X.xe (.ref p) { s1 with heap:=h' })(Dx:(x==("__debug__":Str))=false:=by decide)(he:starEach (e::es) X.env=(false,eval e X.env)::starEach es X.env:=by rfl)(B7:(backTo jw (starEach (e::es) X.env)).any (·.1)=false:=by rfl):
  PS X (.Raise (some (.Call (.Name x np) (e::es) [] jw)) none pos) (OQ q t):=by
 intro ag s σ H D I h;obtain⟨bm,N,nm,qn,bs,hdct,sn,sub,ab,col,dd,k0,k1,k2,k3,k5,mN,hC,hN,W5,TL⟩:=Gb I.ok.mod.RG T.ex;refine wpAny_Raise_call_subT (C:=C) (nm:=nm) (q:=qn) (N:=N) (bs:=bs) (bm:=bm) (hdct:=hdct) (sn:=sn) (sub:=sub) (ab:=ab) (col:=col) (dd:=dd) (k0:=k0) (k1:=k1) (k2:=k2) (k3:=k3) (k5:=k5)
  Fg (mN:=mN) (TL.hasType Fg.hasBase) (I.ok.hd hc) B7 W5 (qL I hg hm ⟨rfl,?_⟩ Dx)
 have h1:=ha jw ag s σ H _ I h;rw[he] at h1 |-;exact zS (mj h1 (fun us s2 ⟨vs,H2,I2,r,hl,z⟩=>⟨rfl,(by show us.length<=sizeLine;rw[<-r.length];exact hl),I2.bk _ _ hC,hN.keeps I2.bk,TL.keeps I2.bk,fun h' p m=>hxe ag σ H2 s2 h' p us I2 m z⟩) fun _ _ y=>y)
end
section
variable {X:Cx} {CX:xH} {k:Nat} {f C:Addr} {fd:FuncData} {ps:List Str} {sp:Sp} {r6:List V} {ds:List Value} {E:St->XK} {x m:Str} {p pos mw:Pos} {e o:Expr} {es:List Expr} {ta:TE} {t:TA}
end
section
variable {X:Cx} {CX:xH} {k:Nat} {f:Addr} {fd:FuncData} {ps:List Str} {sp:Sp} {r6:List V} {ds:List Value} {E:XK} {x:Str} {p pos:Pos} {e:Expr} {es:List Expr} {t:TA}
end
section
variable {P:Program} {w:World} {K:PySem.W.Frag} {mg:Str->Option Value} {base:Heap}
theorem gv.okX{x qual:Str}{st:Stmt}{f:Addr}{fd:FuncData}{N ps:List Str}{k:Nat}{sp:Sp}(F:gv K x qual st f fd)(S:aT N ps (av st))(len:∀vs H Q E,sp vs H Q E->vs.length=ps.length)(r9:∀ (dY:Value) (A:Around) (outer:List Env) (s:Shared) (H:Hp) (vs:List V) (Q:VK) (E:XK),cB k (A.deeper (envOfC qual (av st) s.heap.objs.size f dY))->sp vs H Q E->
   ∃t,y0 (qw (Kc P w) P w K mg base N qual (av st) f dY A outer s H E) (b_ st) t/\t { nx:=fun _ H'=>Q .bz H',rt:=Q } (start N vs) H):bU P w K mg base (Kc P w) (k+1) f fd ps sp:=by
 obtain⟨oc,od,kV,mU,pm,an,dY,ct,uB,rfl,lk,qK⟩:=F.ex;exact FR lk qK S len fun A outer s H vs Q E hr EX=>r9 dY A outer s H vs Q E hr EX
end
section
variable {X:Cx} {ag:List (Addr×Obj)} {σ:St} {H:Hp} {s:Shared}
end
theorem Ke{h:Heap}{a:Addr}{m m':Str->Option Value}(x:h.Ns a m)(y:h.Ns a m'):m=m':=by
 obtain⟨o,es,ep,e,d,_,q⟩:=x;obtain⟨o',vS,SK,e',d',_,q'⟩:=y;rw[e] at e';cases e';rw[d] at d';cases d';funext z;rw[<-q z,q' z]
theorem aZ.TH{X:Cx}{ag:List (Addr×Obj)}{σ:St}{H:Hp}{s:Shared}{h':Heap}{m:Str->Option Value}{D:Addr}{o:HO}{t':Nat}(I:aZ X ag σ H s)(F:Fr X.base X.env.locals s.heap m)(F':Fr X.base X.env.locals h' m)(N':News X.base X.env.locals h' (jL X.base s.heap X.env.locals))(hD:s.heap.get? D=none)(new:cF X.prog X.w (upd H D o) h' D o):aZ X ag σ (upd H D o) { s with heap:=h',toks:=t' }:=by
 have hn:=I.cI.sk hD;have ne:∀b u,s.heap.get? b=some u->b≠D:=fun b u e z=>by rw[z,hD] at e;cases e
 have keep:∀b u,b≠X.env.locals->s.heap.get? b=some u->h'.get? b=some u:=fun b u hb e=>by
  cases q:X.base.get? b with
  |some v=>
   have:=I.bk b v q;rw[e] at this;cases this;exact F'.keep b _ q
  |none=>exact(N' (b,u) (kS hb q e)).1
 refine I.step (g':=s.gens) (d':=s.drawn) (ch:=[]) (fun _ z=>absurd z (by simp)) (fun b u hb _ _ e _=>keep b u hb e) (fun b u hb _ _ e _=>⟨u.slots,keep b u hb e⟩) (fun b u _ e n=>by rw[ao (ne b u e)];exact n) (fun b u _ e=>?_)
  (fun b xs e=>by rw[ao (ap e hn)];exact e) (fun b u v e=>by rw[ao (ap e hn)];exact e) (fun b ps e=>⟨#[],by rw[ao (ap e hn),e];simp⟩) (fun m1 hm=>by rw[Ke hm F.ns];exact F'.ns) (fun b u e=>?_) I.bare
 .by_cases hb:b=X.env.locals
  .obtain⟨o',_,_,q,_⟩:=F'.ns;exact⟨o',by rw[hb];exact q⟩
  .exact⟨u,keep b u hb e⟩
 .by_cases hb:b=D
  .subst hb;rw[af] at e;cases e;exact new
  .rw[ao hb] at e;refine(I.cI b u e).rQ (fun c v hc q=>keep c v ?_ q) (fun c q=>by rw[ao (ap q hn)];exact q) fun c xs q=>by rw[ao (ap q hn)];exact q
   rintro rfl;rcases hc with z|hc
   .have f:=I.free;rw[z,e] at f;cases f
   .rw[I.free] at hc;cases hc
theorem t_(I:aZ X ag σ H s)(N:News X.base X.env.locals h' ((D,o)::jL X.base s.heap X.env.locals))(fz:∀q∈jL X.base s.heap X.env.locals,q.1<D):s.heap.get? D=none:=by
 cases e:s.heap.get? D with
 |none=>rfl
 |some u=>
  obtain⟨_,n1,n2⟩:=N (D,o) bZ;exact absurd (fz (D,u) (kS n1 n2 e)) (ii _)
def Gf(K:PySem.W.Frag)(H:Hp)(a:Addr)(y:Int×Int):Prop:=bt K H a [.int y.1,.int y.2]
section
variable {X:Cx}
theorem AB(I:aZ X ag σ H s)(h:Gf X.K H a y):∃o n t u,s.heap.get? a=some o/\o.cls=.type "tuple"/\o.data=.seq #[.int y.1 t,.int y.2 u] n:=by
 obtain⟨its,r,p,_⟩:=I.tuple h;obtain⟨u1,u2,rfl,r1,r2⟩:=r.two;obtain⟨t,rfl⟩:=r1;obtain⟨t',rfl⟩:=r2;obtain⟨o,e,c,n,d⟩:=p;exact⟨o,n,t,t',e,c,d⟩
end
def OS(hs:Array Int)(i:Nat):Int:=(hs[i]?).getD 0
def gY(hs:Array Int)(t:SetTable)(h:Int):Option (Array Int×SetTable):=
 if t.gaveWay then none else
 match t.probe (OS hs) h (t.probeStart h) with
 |some (.empty j none)=>
  let q:=t.put j
  let Gg:=SetTable.insertAt hs q.2 h
  if q.1.fits Gg.size&&decide (Gg.size<=4096) then
   if q.1.tooFull then
    (match q.1.relaid Gg (SetTable.grown (hs.size+1)) with
    |some (t2,j8)=>
     let uv:=j8.filterMap (Gg[·]?)
     if uv.size==Gg.size&&t2.fits uv.size&&decide (SetTable.sizeAbove (SetTable.grown (hs.size+1))<=4096) then some (uv,t2) else none
    |none=>none)
   else some (Gg,q.1)
  else none
 |_=>none
def v9(led:Bool):List Int->Option (Array Int×SetTable):=fun l=>l.foldlM (fun q h=>gY q.1 q.2 h) (#[],SetTable.fresh 0 0 led)
def kY(h:Heap)(S:Addr)(hs:Array Int)(t:SetTable):Prop:=∃o es ep,h.get? S=some o/\o.cls=.type "set"/\(o.dict=none/\o.slots=#[])/\o.data=.set es ep t/\es.map (·.1)=hs/\t.fits es.size=true
section
variable {prog:Program} {w:World} {A:Around} {E:Value->Shared->Prop} {s:Shared} {S:Addr}
theorem OV(es:Array (Int×Value)):(fun i=>(es[i]?.map (·.1)).getD 0)=OS (es.map (·.1)):=by
 funext i;unfold OS;rw[Array.getElem?_map]
theorem nC(es:Array (Int×Value))(p:Nat)(x:Int×Value):(SetTable.insertAt es p x).map (·.1)=SetTable.insertAt (es.map (·.1)) p x.1:=by
 unfold SetTable.insertAt;simp
theorem pE(es:Array (Int×Value))(j8:Array Nat):(j8.filterMap (es[·]?)).map (·.1)=j8.filterMap ((es.map (·.1))[·]?):=by
 apply Array.ext';rw[vz,vh,vh,List.map_filterMap];congr 1;funext i;rw[Array.getElem?_map]
theorem AC(hS:kY s.heap S hs t)(hg:t.gaveWay=false)(hp:t.probe (OS hs) h (t.probeStart h)=some (.empty j none))(q:Q (.free j false) s):
  wpAny (model prog w) A (setSearch S x h true) Q E s:=by
 obtain⟨o,es,ep,ho,hc,hdi,hd,hm,hf⟩:=hS;unfold setSearch setSearchFrom;refine aE (vA ho hd hf ?_);dsimp only;rw[hg,au cJ];have Kg:t.probe (fun i=>(es[i]?.map (·.1)).getD 0) h (t.probeStart h)=some (.empty j none):=by rw[OV,hm];exact hp
 refine aE (wpAny_pure ?_);erw[Kg];exact wpAny_pure q
theorem DH(ho:s.heap.get? a=some o)(hc:o.cls=.type "tuple")(hd:o.data=.seq #[.int x t,.int y u] n)(q:Q true s):
  wpAny (model prog w) A (hashByValue 8 (.ref a)) Q E s:=by
 have hT:s.TypeIs (.ref a) "tuple":=⟨_,ho,hc⟩
 unfold hashByValue;refine aE (wpAny_specialOf hT PySem.F.slot_tuple_hash.lookup ?_);refine aE (jG ho hd ?_);refine aE ?_;show wpAny _ _ (forIn #[Value.int x t,Value.int y u] _ _) _ _ s;rw[<-Array.forIn_toList];refine wpAny_forIn_list _ (fun qv r s'=>r.1=none/\s'=s/\∀v∈qv,∃z k,v=Value.int z k) _ ?_ ?_ _ _ ⟨rfl,rfl,fun v hv=>?_⟩
 .rintro v qv r s' ⟨hr,rfl,pA⟩;obtain⟨z,k,rfl⟩:=pA v bZ;refine aE (wpAny_pure ?_);exact wpAny_pure ⟨rfl,rfl,fun u' ua=>pA u' (du _ ua)⟩
 .rintro⟨r1,r2⟩ s' ⟨hr,rfl,_⟩;have EZ:r1=none:=hr;subst EZ;exact wpAny_pure q
 .rcases bW.mp hv with z|z
  .exact⟨_,_,z⟩
  .rcases bW.mp z with z|z
   .exact⟨_,_,z⟩
   .cases z
theorem Ci(hS:kY s.heap S hs t)(hf:t'.fits vS.size=true)(hz:vS.size<=4096)(q:∀h',Heap.SameBut S s.heap h'->kY h' S (vS.map (·.1)) t'->Q () { s with heap:=h' }):wpAny (model prog w) A (storeSet S vS t') Q E s:=by
 obtain⟨o,es,ep,ho,hc,hdi,hd,hm,_⟩:=hS;refine wpAny_storeSet_of ho hd (q _ (Heap.SameBut.update s.heap S (Obj.putSet vS t')) ?_) (aY hz (by decide));have g:=zM (Obj.putSet vS t') ho (by rw[putSet_of vS t' hd];rfl);rw[putSet_of vS t' hd] at g;exact⟨_,vS,ep+1,g,hc,hdi,rfl,rfl,hf⟩
theorem Kh(hu:A.units<cLine)(hS:kY s.heap S hs t)(ho:s.heap.get? a=some o)(hc:o.cls=.type "tuple")(hd:o.data=.seq #[.int x tx,.int y ty] n)(uI:a≠S)(nj:gY hs t (tupleKeyHash (intKind prog w) [x,y])=some (hs',t'))(q:∀h' tk,Heap.SameBut S s.heap h'->kY h' S hs' t'->Q true { s with heap:=h',toks:=tk }):wpAny (model prog w) A (setAdd S (.ref a)) Q E s:=by
 have hk:IsTupleKey (intKind prog w) s.heap [x,y] a:=⟨o,_,n,ho,hc,hd,.cons (intKind_is _ _ _ _) (.cons (intKind_is _ _ _ _) .nil)⟩
 unfold setAdd;refine gC (aE (wpAny_pyHash_tuple hu hk ?_));generalize Ys:s.toks+([x,y].length+1)=tk;generalize hh:tupleKeyHash (intKind prog w) [x,y]=h at nj |-;have hS0:=hS;obtain⟨ob,es,ep,hb,YM,hbd,Js,hm,hf⟩:=hS;unfold setAddHashed setAddHashedIn;refine gC (aE (vA (s:={ s with toks:=tk }) hb Js hf ?_));dsimp only;have Na:byScan (.ref a) es=false:=by unfold byScan;rfl
 rw[Na,au cJ];unfold gY at nj;cases hg:t.gaveWay with
 |true=>rw[hg,aD rfl] at nj;cases nj
 |false=>
  rw[hg,au cJ] at nj;split at nj
  .rename_i j hp;dsimp only at nj;split at nj
   .rename_i W7;rw[gg,rq] at W7;refine aE (AC (s:={ s with toks:=tk }) hS0 hg hp ?_);dsimp only;refine aE (vA (s:={ s with toks:=tk }) hb Js hf ?_);dsimp only;have byv:∀ {kk:Bool->Sem Bool},wpAny (model prog w) A (kk true) Q E { s with toks:=tk }->wpAny (model prog w) A (if (t.put j).1.plain=true then hashByValue 8 (.ref a) >>= kk else pure true >>= kk) Q E { s with toks:=tk }:=fun {kk} hP=>by
     split
     .exact aE (DH (s:={ s with toks:=tk }) ho hc hd hP)
     .exact aE (wpAny_pure hP)
    refine byv ?_;simp only[jj];have lM:(SetTable.insertAt es (t.put j).2 (h,Value.ref a)).size=(SetTable.insertAt hs (t.put j).2 h).size:=by
     rw[<-hm,<-nC es (t.put j).2 (h,Value.ref a),jF]
    refine aE (Ci (s:={ s with toks:=tk }) hS0 (by rw[lM];exact W7.1) (by rw[lM];exact W7.2) fun h1 oB S1=>?_);rw[nC,hm] at S1;split at nj
    .rename_i YN;rw[show (!false&&(t.put j).1.tooFull)=true by rw[YN];rfl,aD rfl];split at nj
     .rename_i t2 j8 hr;split at nj
      .rename_i hq;rw[gg,gg,rq,fP] at hq;obtain⟨⟨Nb,W8⟩,hq3⟩:=hq;cases nj;have Jx:es.size=hs.size:=by rw[<-hm,jF]
       refine aE ?_;unfold setRelay;obtain⟨o1,DI,ep1,g1,g2,g3,g4,g5,g6⟩:=id S1;refine aE (vA (s:={ s with heap:=h1,toks:=tk }) g1 g4 g6 ?_);dsimp only;rw[Jx];rw[au (by (have h4:(4096:Nat)<=sizeLine:=by decide);lia)];refine aE ?_;rw[g5,hr];have AD:(j8.filterMap (DI[·]?)).size=DI.size:=by
        have e1:=congrArg Array.size (pE DI j8);rw[jF,g5] at e1;rw[e1,Nb,<-g5,jF]
       refine wpAny_of_eq (show _=(pure (j8.filterMap (DI[·]?),t'):Sem (Array (Int×Value)×SetTable)) from ?_) ?_
       .show (do
         let vS:=j8.filterMap (DI[·]?)
         if vS.size != DI.size then unsupported "internal:set-table-lost-an-element"
         pure (vS,t'):Sem (Array (Int×Value)×SetTable))=_
        simp[AD]
       dsimp only;have YO:DI.size<=4096:=by
        have e1:=congrArg Array.size g5;rw[jF] at e1;rw[e1];exact W7.2
       have hfm:(j8.filterMap (DI[·]?)).size=(j8.filterMap ((SetTable.insertAt hs (t.put j).2 h)[·]?)).size:=by
        have e1:=congrArg Array.size (pE DI j8);rw[jF,g5] at e1;exact e1
       refine Ci (s:={ s with heap:=h1,toks:=tk }) S1 (by rw[hfm];exact W8) (by rw[AD];exact YO) fun h2 mV S2=>?_;rw[pE,g5] at S2;exact wpAny_pure (q h2 tk (oB.trans mV) S2)
      .cases nj
     .cases nj
    .rename_i YN;cases nj;have YQ:(t.put j).1.tooFull=false:=by simpa using YN
     rw[show (!false&&(t.put j).1.tooFull)=false by rw[YQ];rfl,au cJ];exact wpAny_pure (q h1 tk oB S1)
   .cases nj
  .cases nj
end
section
variable {prog:Program} {w:World} {A:Around} {E:Value->Shared->Prop} {s:Shared} {S Ia l:Addr} {R:Result->Shared->Prop}
def jQ(h:Heap)(vs:List Value)(ys:List (Int×Int)):Prop:=vs.length=ys.length/\∀i v,vs[i]?=some v->∃a o n t u,v=.ref a/\h.get? a=some o/\o.cls=.type "tuple"/\o.data=.seq #[.int (ys.getD i (0,0)).1 t,.int (ys.getD i (0,0)).2 u] n
theorem jQ.keeps(p:jQ h vs ys)(k:∀b o,(∃xs n,o.data=.seq xs n)->h.get? b=some o->h'.get? b=some o):jQ h' vs ys:=
 ⟨p.1,fun i v e=>let ⟨a,o,n,t,u,e1,e2,c,d⟩:=p.2 i v e;⟨a,o,n,t,u,e1,k a o ⟨_,_,d⟩ e2,c,d⟩⟩
def gm(prog:Program)(w:World)(y:Int×Int):Int:=tupleKeyHash (intKind prog w) [y.1,y.2]
theorem Gh(hh:A.handled=none)(hu:A.units+1<cLine)(hlS:l≠S)(YR:l≠Ia)(YS:S≠Ia):
  ∀ (k i:Nat) (s:Shared) (hs:Array Int) (t:SetTable),vs.length-i=k->i<=vs.length->s.heap.IsListIter Ia l i->s.heap.IsList l vs.toArray->jQ s.heap vs ys->kY s.heap S hs t->
   ((ys.drop i).map (gm prog w)).foldlM (fun q h=>gY q.1 q.2 h) (hs,t)=some (hsN,tN)->
   (∀h' tk,(∀b o,b≠S->b≠Ia->s.heap.get? b=some o->h'.get? b=some o)->kY h' S hsN tN->R (.ok (.ret .none)) { s with heap:=h',toks:=tk })->
   codeAny (model prog w) A (.builtin "set.update.loop" ⟨[.ref S,.ref Ia],[]⟩) R s:=by
 intro k;induction k with
 |zero=>
  intro i s hs t hk hi xq hl hp hS hf hR;have e:i=vs.length:=by lia
  refine oZ Fc ?_;rw[vt ze _];show wpAny _ A.in1 (pyNext (.ref Ia) >>= _) _ _ s;refine aE (vj (show A.in1.handled=none from hh) xq hl (by simp;lia) fun h' eb=>?_);show wpAny _ A.in1 (ret Value.none) _ _ _;have hd:ys.drop i=[]:=by rw[List.drop_eq_nil_iff];have:=hp.1;lia
  rw[hd] at hf;cases hf;obtain⟨o,es,ep,q1,q2⟩:=hS;exact wpAny_pure (hR h' s.toks (fun b o hb Ki e=>eb b o Ki e) ⟨o,es,ep,eb S o YS q1,q2⟩)
 |succ k ih=>
  intro i s hs t hk hi xq hl hp hS hf hR;have fz:i<vs.length:=by lia
  refine oZ Fc ?_;rw[vt ze _];show wpAny _ A.in1 (pyNext (.ref Ia) >>= _) _ _ s;have hv:vs[i]?=some vs[i]:=bq fz;refine aE (rl xq hl (x:=vs[i]) (by simpa using hv) fun h1 OX oB=>?_);obtain⟨a,o,n,tx,ty,ea,eo,ec,ed⟩:=hp.2 i _ hv;rw[ea];have W9:∀b ob,(∃xs n,ob.data=.seq xs n)->s.heap.get? b=some ob->b≠Ia:=fun b ob ⟨xs,m,z⟩ e z'=>by
   obtain⟨oi,e1,_,d1⟩:=xq;rw[z',e1] at e;cases e;rw[d1] at z;cases z
  have kZ:jQ h1 vs ys:=hp.keeps fun b ob hb e=>(oB.2 b (W9 b ob hb e)).trans e;have hS1:kY h1 S hs t:=by
   obtain⟨oS,es,ep,q1,q2⟩:=hS;exact⟨oS,es,ep,(oB.2 S YS).trans q1,q2⟩
  have E2:h1.IsList l vs.toArray:=by
   obtain⟨ol,q1,q2⟩:=hl;exact⟨ol,(oB.2 l YR).trans q1,q2⟩
  have TJ:h1.get? a=some o:=(oB.2 a (W9 a o ⟨_,_,ed⟩ eo)).trans eo;have neS:∀b ob,(∃xs n,ob.data=.seq xs n)->h1.get? b=some ob->b≠S:=fun b ob ⟨xs,m,z⟩ e z'=>by
   obtain⟨oS,es,ep,q1,_,_,q4,_⟩:=hS1;rw[z',q1] at e;cases e;rw[q4] at z;cases z
  have E3:i<ys.length:=by have:=hp.1;lia
  have YT:ys.drop i=ys[i]::ys.drop (i+1):=oE E3;have hgy:ys.getD i (0,0)=ys[i]:=by rw[aS,bq E3];rfl
  rw[YT,eJ,List.foldlM_cons] at hf;cases nj:gY hs t (gm prog w ys[i]) with
  |none=>rw[nj] at hf;cases hf
  |some q=>
   obtain⟨uv,t2⟩:=q;rw[nj] at hf;have hf2:((ys.drop (i+1)).map (gm prog w)).foldlM (fun q h=>gY q.1 q.2 h) (uv,t2)=some (hsN,tN):=hf;show wpAny _ A.in1 (holding [Value.ref a] (setAdd S (.ref a)) >>= _) _ _ _;refine aE (gC (Kh (s:={ s with heap:=h1 }) (by show A.units+1<cLine;exact hu) hS1 TJ ec ed (neS a o ⟨_,_,ed⟩ TJ) (hs':=uv) (t':=t2) (by rw[hgy];exact nj) fun h2 tk mV S2=>?_));refine wpAny_pure ⟨plainId_quiet ze _,?_⟩;refine ih (i+1) { s with heap:=h2,toks:=tk } uv t2 (by lia) fz ?_ ?_ (kZ.keeps fun b ob hb e=>(mV.2 b (neS b ob hb e)).trans e) S2 hf2 fun h3 YU k3 S3=>?_
   .obtain⟨oi,q1,q2⟩:=OX;exact⟨oi,(mV.2 Ia (im YS)).trans q1,q2⟩
   .obtain⟨ol,q1,q2⟩:=E2;exact⟨ol,(mV.2 l hlS).trans q1,q2⟩
   .exact hR h3 YU (fun b ob hb Ki e=>k3 b ob hb Ki ((mV.2 b hb).trans ((oB.2 b Ki).trans e))) S3
theorem Gi{vs:List Value}{ys:List (Int×Int)}{hsN:Bool->Array Int}{tN:Bool->SetTable}{Q:Value->Shared->Prop}(hh:A.handled=none)(hu:A.units+8<cLine)(hl:s.heap.IsList l vs.toArray)(hp:jQ s.heap vs ys)(DJ:∀led,v9 led (ys.map (gm prog w))=some (hsN led,tN led))(h:∀ (led:Bool) (h':Heap) (tk:Nat),kY h' s.heap.objs.size (hsN led) (tN led)->(∀b o,b<s.heap.objs.size->s.heap.get? b=some o->h'.get? b=some o)->Q (.ref s.heap.objs.size) { s with heap:=h',toks:=tk }):
  wpAny (model prog w) A (call (.type "set") [.ref l]) Q E s:=by
 obtain⟨c,tl,abb⟩:=kF.mro;have c1:=kF.made;have c2:=kF.sub;refine wpAny_call (codeAny_of_tree ?_);show wpAny _ _ (callAny (.type "set") _) _ _ _;refine wpAny_pure ⟨Code.quiet_builtin _ (by decide +kernel),oZ PySem.F.entry_type_call ?_⟩;rw[Around.under_plain (weight_type_call_type "set" [.ref l] []) rfl];have c3:=kF.notType;have c4:=kF.canCreate;have c5:=PySem.F.typeCall_set_1 (.ref l);repeat (any_goals (first|assumption|wp_step))
 refine o5 (code_set_new_1 (.ref l) (E:=E) (Q₁:=fun obj s₁=>∃led:Bool,obj=.ref s.heap.objs.size/\s₁={ s with heap:=s.heap.push { cls:=.type "set",dict:=none,data:=.set #[] 0 (.fresh 0 0 led) } }) fun led=>⟨led,rfl,rfl⟩) fun r s₁ hr=>?_;cases r with
 |error e=>exact hr
 |ok fl=>
  cases fl with
  |next=>exact hr.elim
  |brk=>exact hr.elim
  |cont=>exact hr.elim
  |ret obj=>
   obtain⟨led,rfl,rfl⟩:=hr;generalize YV:s.heap.push { cls:=.type "set",dict:=none,data:=.set #[] 0 (.fresh 0 0 led) }=hS;have lM:hS.objs.size=s.heap.objs.size+1:=by rw[<-YV,ig]
   have gS:hS.get? s.heap.objs.size=some { cls:=.type "set",dict:=none,data:=.set #[] 0 (.fresh 0 0 led) }:=by rw[<-YV];exact cR _ rfl
   have up:∀b o,s.heap.get? b=some o->hS.get? b=some o:=fun b o e=>by rw[<-YV];exact cg _ e
   have hT:Shared.TypeIs { s with heap:=hS } (.ref s.heap.objs.size) "set":=⟨_,gS,rfl⟩
   have c6:=kF.init.lookup;have c7:=kF.init.bind (.ref s.heap.objs.size);repeat (any_goals (first|assumption|wp_step))
   refine o5 (zO (R:=wants (fun r s₂=>r=.none/\∃h' tk,s₂={ s with heap:=h',toks:=tk }/\kY h' s.heap.objs.size (hsN led) (tN led)/\
     (∀b o,b<s.heap.objs.size->s.heap.get? b=some o->h'.get? b=some o)) E) kF.init.plain PySem.F.entry_set_init (check_set_init_1 hT ?_)) fun r₂ s₂ TM=>?_
   .obtain⟨ol,Jy,RS,nl,W_⟩:=hl;obtain⟨abc,aa6,aa7,YW⟩:=ol;simp only at RS W_;subst RS;subst W_;have YX:=up _ _ Jy;have c8:=PySem.F.sub_list_set;have c9:=PySem.F.sub_list_frozenset;have c10:(Value.type "list"==Value.type "dict")=false:=by decide
    have E2:hS.IsList l vs.toArray:=⟨_,YX,rfl,nl,rfl⟩
    unfold Builtin.«set.__init__» noKeywords Builtin.Frozenset.updateFrom;generalize hPI:pyIter=PI
    wp_walk
    subst hPI;refine oR E2 ?_;refine aE (wpAny_runValue ?_);have fz:l<s.heap.objs.size:=bp Jy;refine Gh (l:=l) (vs:=vs) (ys:=ys) (hsN:=hsN led) (tN:=tN led) (by simp[hh]) (by simp;lia) (bh fz) (by rw[lM];exact bh (dN fz)) (by rw[lM];exact bh (jD _))
     (vs.length-0) 0 _ #[] (.fresh 0 0 led) rfl (de _) ⟨_,cR _ rfl,rfl,rfl⟩ (E2.push _) (hp.keeps fun b o _ e=>cg _ (up b o e)) ⟨_,#[],0,cg _ gS,rfl,⟨rfl,rfl⟩,rfl,by simp,rfl⟩ (DJ led) fun h' tk k S'=>?_
    show wpAny _ _ _ _ _ _;refine wpAny_pure ?_;show wpAny _ _ (ret Value.none) _ _ _;refine wpAny_pure ⟨rfl,h',tk,rfl,S',fun b o hb e=>?_⟩;exact k b o (bh hb) (by rw[lM];exact bh (dN hb)) (cg _ (up b o e))
   .cases r₂ with
    |error e=>exact TM
    |ok fl₂=>
     cases fl₂ with
     |next=>exact TM.elim
     |brk=>exact TM.elim
     |cont=>exact TM.elim
     |ret r=>
      obtain⟨rfl,h',tk,rfl,S',k⟩:=TM;repeat (any_goals (first|assumption|wp_step))
      exact h led h' tk S' k
end
open PySem
def Gj(l:List Nat):Nat:=l.foldl (fun a x=>a ||| (1 <<< x)) 0
theorem DK(l:List Nat)(a j:Nat):(l.foldl (fun a x=>a ||| (1 <<< x)) a).testBit j=(a.testBit j||l.contains j):=by
 induction l generalizing a with
 |nil=>simp
 |cons x xs ih=>
  rw[vD,ih,Nat.testBit_or,List.contains_cons];have:(1 <<< x).testBit j=(j==x):=by
   rw[Nat.one_shiftLeft,Nat.testBit_two_pow];by_cases h:x=j
   .simp[h]
   .have h':¬ j=x:=fun e=>h e.symm;simp[h,h']
  rw[this,Bool.or_assoc]
theorem qd(h:Gj l=2 ^ n-1)(hj:j<n):j∈l:=by
 have e:=DK l 0 j;have h':l.foldl (fun a x=>a ||| (1 <<< x)) 0=2 ^ n-1:=h;rw[h',Nat.testBit_two_pow_sub_one] at e;simp[hj] at e;exact e
def Gk(M:Nat):Nat->Nat->Nat
 |0,i=>i
 |n+1,i=>Gk M n ((i*5+1) % M)
theorem qO(M a:Nat):∀b i,Gk M (b+a) i=Gk M a (Gk M b i)
 |0,i=>by rw[vJ];rfl
 |b+1,i=>by
  rw[show b+1+a=(b+a)+1 by lia];show Gk M (b+a) _=Gk M a (Gk M b _);exact qO M a b _
def OY(M:Nat):Nat->Nat->List Nat
 |0,_=>[]
 |n+1,i=>i::OY M n ((i*5+1) % M)
theorem sq:∀ {n i},j∈OY M n i->∃k,k<n/\Gk M k i=j
 |0,_,h=>by cases h
 |n+1,i,h=>by
  rcases bW.mp h with z|z
  .exact⟨0,by lia,z.symm⟩
  .obtain⟨k,a,b⟩:=sq z;exact⟨k+1,by lia,b⟩
structure DL(M:Nat):Prop where
 all:Gj (OY M M 0)=2 ^ M-1
 back:Gk M M 0=0
theorem YY:DL 8:=⟨by decide +kernel,by decide +kernel⟩
theorem Nd:DL 32:=⟨by decide +kernel,by decide +kernel⟩
theorem Gm:DL 128:=⟨by decide +kernel,by decide +kernel⟩
theorem Gn:DL 512:=⟨by decide +kernel,by decide +kernel⟩
theorem DL.cover(R:DL M)(hi:i<M)(hj:j<M):∃n,n<M/\Gk M n i=j:=by
 obtain⟨a,ha,ea⟩:=sq (qd R.all hi);obtain⟨b,hb,eb⟩:=sq (qd R.all hj);by_cases h:a<=b
 .refine⟨b-a,by lia,?_⟩;rw[<-ea,<-qO,show a+(b-a)=b by lia,eb]
 .refine⟨M+b-a,by lia,?_⟩;rw[<-ea,<-qO,show a+(M+b-a)=M+b by lia,qO,R.back,eb]
def iD(mask:Nat):Nat->Nat×Nat->Nat×Nat
 |0,q=>q
 |n+1,q=>iD mask n (SetTable.leap mask q.1 q.2)
theorem uJ(m a:Nat):∀b q,iD m (b+a) q=iD m a (iD m b q)
 |0,q=>by rw[vJ];rfl
 |b+1,q=>by
  rw[show b+1+a=(b+a)+1 by lia];exact uJ m a b _
theorem xO:∀ {n:Nat} {q:Nat×Nat},q.1<m+1->(iD m n q).1<m+1
 |0,_,h=>h
 |n+1,q,h=>xO (n:=n) (ji _ (rL _))
theorem Cj:∀ {n:Nat} {q:Nat×Nat},(iD m n q).2=q.2 / 32 ^ n
 |0,_=>by simp[iD]
 |n+1,q=>by
  show (iD m n _).2=_;rw[Cj];show q.2 / 32 / 32 ^ n=_;rw[zq,Nat.pow_succ,Nat.mul_comm]
theorem uK:∀ {n i:Nat},iD m n (i,0)=(Gk (m+1) n i,0)
 |0,_=>rfl
 |n+1,i=>by
  show iD m n (SetTable.leap m i 0)=_;unfold SetTable.leap;simp only[Nat.zero_div,vM];exact uK
theorem qe(R:DL (m+1))(hi:i<m+1)(hp:p<2 ^ 64)(hj:j<m+1):∃n,n<m+14/\(iD m n (i,p)).1=j:=by
 have h1:=xO (m:=m) (n:=13) (q:=(i,p)) hi;have h2:(iD m 13 (i,p)).2=0:=by
  rw[Cj];exact Nat.div_eq_of_lt (cQ hp (by decide))
 obtain⟨n,hn,e⟩:=R.cover h1 hj;refine⟨13+n,by lia,?_⟩;rw[uJ];have:iD m 13 (i,p)=((iD m 13 (i,p)).1,0):=fQ rfl h2;rw[this,uK];exact e
theorem Ck(h:Int):SetTable.bits h<2 ^ 64:=by
 unfold SetTable.bits;have a:=oY h (show (2 ^ 64:Int)≠0 by decide);have b:=oN h (show (0:Int)<2 ^ 64 by decide);lia
theorem TN{M:Nat}{l:List Nat}(h:l.length<M):∃j,j<M/\j∉l:=by
 have key:∀ (a b:List Nat),a.Nodup->(∀x∈a,x∈b)->a.length<=b.length:=by
  intro a;induction a with
  |nil=>intro b _ _;exact de _
  |cons x xs ih=>
   intro b hn hs;obtain⟨h1,h2⟩:=hU.mp hn;have hx:x∈b:=hs x bZ;have:=ih (b.erase x) h2 fun y hy=>(List.mem_erase_of_ne (fun (e:y=x)=>h1 (e ▸ hy))).mpr (hs y (du _ hy));rw[Fn hx] at this;have:0<b.length:=zu hx;rw[dC];lia
 apply mY;intro FT;have:=key (List.range M) l lS fun x hx=>mY fun Ag=>FT ⟨x,bH.mp hx,Ag⟩;rw[cE] at this;lia
def AE(mask i p:Nat):SetTable.Probe:={ j:=i,more:=SetTable.runEnd mask i-i,i:=i,perturb:=p,dummy:=none }
theorem OZ(mask i:Nat):SetTable.runEnd mask i-i<=9:=by unfold SetTable.runEnd;split <;> lia
theorem v_{t:SetTable}(hd:t.dummies=#[])(j:Nat):t.slot j=.empty\/∃i,t.slot j=.live i/\t.place[i]?=some j:=by
 unfold SetTable.slot;dsimp only;split
 .rename_i h;exact .inr ⟨_,rfl,by simpa using h⟩
 .left;rw[hd];rfl
theorem AF{t:SetTable}(hd:t.dummies=#[]){j:Nat}(h:j∉t.place.toList):t.slot j=.empty:=by
 rcases v_ hd j with e|⟨i,_,e2⟩
 .exact e
 .exact absurd (by rw[<-oI] at e2;exact cZ e2) h
section
variable {t:SetTable} {hashAt:Nat->Int} {h:Int}
theorem Go(hd:t.dummies=#[])(hh:∀i,i<t.place.size->hashAt i≠h)(i p:Nat):∀ (r:Nat) (j h9:Nat),
  (∃j',SetTable.probe.go t hashAt h (h9+r+1) { j:=j,more:=r,i:=i,perturb:=p,dummy:=none }=some (.empty j' none))\/
  SetTable.probe.go t hashAt h (h9+r+1) { j:=j,more:=r,i:=i,perturb:=p,dummy:=none }=SetTable.probe.go t hashAt h h9 (AE t.mask (SetTable.leap t.mask i p).1 (SetTable.leap t.mask i p).2)
 |0,j,h9=>by
  rcases v_ hd j with e|⟨k,e,e2⟩
  .exact .inl ⟨j,by unfold SetTable.probe.go;rw[e]⟩
  .right;have hk:k<t.place.size:=(Fl.mp e2).1;conv=>lhs;unfold SetTable.probe.go
   rw[e];simp only[fP,hh k hk,gN];rfl
 |r+1,j,h9=>by
  rcases v_ hd j with e|⟨k,e,e2⟩
  .exact .inl ⟨j,by rw[show h9+(r+1)+1=(h9+r+1)+1 by lia];unfold SetTable.probe.go;rw[e]⟩
  .have hk:k<t.place.size:=(Fl.mp e2).1;have st:SetTable.probe.go t hashAt h (h9+(r+1)+1) { j:=j,more:=r+1,i:=i,perturb:=p,dummy:=none }=SetTable.probe.go t hashAt h (h9+r+1) { j:=j+1,more:=r,i:=i,perturb:=p,dummy:=none }:=by
    rw[show h9+(r+1)+1=(h9+r+1)+1 by lia];conv=>lhs;unfold SetTable.probe.go
    rw[e];simp only[fP,hh k hk,gN];rfl
   rw[st];exact Go hd hh i p r (j+1) h9
theorem Cm(hd:t.dummies=#[])(hh:∀i,i<t.place.size->hashAt i≠h):∀ (m:Nat) (i p h9:Nat),10*(m+1)<=h9->t.slot (iD t.mask m (i,p)).1=.empty->
  ∃j',SetTable.probe.go t hashAt h h9 (AE t.mask i p)=some (.empty j' none)
 |0,i,p,h9,hf,e=>by
  obtain⟨f,rfl⟩:∃f,h9=f+1:=⟨h9-1,by lia⟩
  refine⟨i,?_⟩;have e':t.slot i=.empty:=e;unfold SetTable.probe.go AE;dsimp only;rw[e']
 |m+1,i,p,h9,hf,e=>by
  have hr:=OZ t.mask i;obtain⟨f,Kj⟩:∃f,h9=f+(SetTable.runEnd t.mask i-i)+1:=⟨h9-(SetTable.runEnd t.mask i-i)-1,by lia⟩
  rcases Go (hashAt:=hashAt) (h:=h) hd hh i p (SetTable.runEnd t.mask i-i) i f with z|z
  .rw[Kj];exact z
  .rw[Kj];show ∃j',SetTable.probe.go t hashAt h _ { j:=i,more:=_,i:=i,perturb:=p,dummy:=none }=_;rw[z];exact Cm hd hh m _ _ f (by lia) e
theorem AG(R:DL (t.mask+1))(hd:t.dummies=#[])(hs:t.place.size<=t.mask)(hh:∀i,i<t.place.size->hashAt i≠h):∃j,t.probe hashAt h (t.probeStart h)=some (.empty j none):=by
 obtain⟨j,hj,hn⟩:=TN (M:=t.mask+1) (l:=t.place.toList) (by simpa using Nat.lt_succ_of_le hs);obtain⟨m,hm,e⟩:=qe R (ji (SetTable.bits h) (rL t.mask)) (Ck h) hj;refine Cm hd hh m _ _ _ ?_ (by rw[e];exact AF hd hn);unfold SetTable.turns;lia
end
theorem k4{α β:Type}{f:α->Option β}:∀ {l:List α},(∀q∈l,(f q).isSome=true)->(l.filterMap f).length=l.length
 |[],_=>rfl
 |q::l,h=>by
  have hq:=h q bZ;cases e:f q with
  |none=>rw[e] at hq;cases hq
  |some b=>rw[Fq e,dC,dC,k4 fun x hx=>h x (du _ hx)]
theorem uL:∀ (m h9 i p:Nat),m<h9->owner.getD (iD mask m (i,p)).1 (some 0)=none->∃j,SetTable.layClean.free mask owner h9 i p=some j/\owner.getD j (some 0)=none
 |m,0,_,_,h,_=>by lia
 |m,h9+1,i,p,h,e=>by
  unfold SetTable.layClean.free;cases hf:(List.range (SetTable.runEnd mask i+1-i)).find? fun k=>(owner.getD (i+k) (some 0)).isNone with
  |some k=>
   refine⟨i+k,rfl,?_⟩;have:=List.find?_some hf;simpa using this
  |none=>
   cases m with
   |zero=>
    have h0:(0:Nat)∈List.range (SetTable.runEnd mask i+1-i):=bH.mpr (by unfold SetTable.runEnd;split <;> lia);have:=zL.mp hf 0 h0;have e':owner.getD i (some 0)=none:=e;rw[vM,e'] at this;exact absurd rfl this
   |succ m=>
    exact uL m h9 _ _ (by lia) e
structure xP(M:Nat)(owner:Array (Option Nat))(k:Nat):Prop where
 size:owner.size=M
 cnt:owner.toList.countP Option.isSome=k
 lt:∀x,some x∈owner.toList->x<k
theorem AH{l:List (Option Nat)}{j:Nat}{x:Nat}(hj:l[j]?=some none):(l.set j (some x)).countP Option.isSome=l.countP Option.isSome+1:=by
 induction l generalizing j with
 |nil=>cases hj
 |cons a l ih=>
  cases j with
  |zero=>
   obtain rfl:a=none:=by simpa using hj
   simp
  |succ j=>
   rw[List.set_cons_succ,kK,kK,ih (by simpa using hj)];lia
theorem xP.one{mask:Nat}{owner:Array (Option Nat)}{k:Nat}(L:xP (mask+1) owner k)(R:DL (mask+1))(hk:k<mask+1)(h:Int):
  ∃j,SetTable.layClean.free mask owner (SetTable.turns mask) (SetTable.bits h % (mask+1)) (SetTable.bits h)=some j/\xP (mask+1) (owner.setIfInBounds j (some k)) (k+1):=by
 have FT:∃j,j<mask+1/\owner.toList[j]?=some none:=by
  apply mY;intro FT;have pA:∀x∈owner.toList,x.isSome=true:=by
   intro x hx;obtain⟨j,hj,e⟩:=kB.mp hx;cases x with
   |some _=>rfl
   |none=>
    refine absurd ⟨j,?_,?_⟩ FT
    .rw[<-L.size];simpa using hj
    .rw[bq hj,e]
  have:=List.countP_eq_length.mpr pA;rw[L.cnt,l0,L.size] at this;lia
 obtain⟨j0,hj0,e0⟩:=FT;obtain⟨m,hm,em⟩:=qe R (ji (SetTable.bits h) (rL mask)) (Ck h) hj0;obtain⟨j,ej,en⟩:=uL (mask:=mask) (owner:=owner) m (SetTable.turns mask) (SetTable.bits h % (mask+1)) (SetTable.bits h) (by unfold SetTable.turns;lia)
  (by rw[em,vd,<-oI,e0];rfl)
 refine⟨j,ej,?_⟩;have hjn:owner.toList[j]?=some none:=by
  rw[vd,<-oI] at en;cases hq:owner.toList[j]? with
  |none=>rw[hq] at en;cases en
  |some v=>rw[hq] at en;rw[show v=none from en]
 have qy:(owner.setIfInBounds j (some k)).toList=owner.toList.set j (some k):=by simp
 refine⟨by simp[L.size],by rw[qy,AH hjn,L.cnt],fun x hx=>?_⟩;rw[qy] at hx;rcases List.mem_or_eq_of_mem_set hx with z|z
 .exact dN (L.lt x z)
 .cases z;exact jD _
theorem Cn(R:DL (mask+1)):∀ (l:List Int) (owner:Array (Option Nat)) (k:Nat),xP (mask+1) owner k->k+l.length<=mask->
  ∃Gp,l.foldl (fun et h=>do
   let (owner,k) <- et
   let j <- SetTable.layClean.free mask owner (SetTable.turns mask) (SetTable.bits h % (mask+1)) (SetTable.bits h)
   pure (owner.setIfInBounds j (some k),k+1)) (some (owner,k))=some (Gp,k+l.length)/\xP (mask+1) Gp (k+l.length)
 |[],owner,k,L,_=>⟨owner,rfl,L⟩
 |h::l,owner,k,L,hl=>by
  rw[dC] at hl;obtain⟨j,ej,L'⟩:=L.one R (by lia) h;obtain⟨o',e,L2⟩:=Cn R l _ _ L' (by lia);refine⟨o',?_,by rw[dC,show k+(l.length+1)=k+1+l.length by lia];exact L2⟩;rw[vD];have:(do
   let (owner,k) <- some (owner,k)
   let j <- SetTable.layClean.free mask owner (SetTable.turns mask) (SetTable.bits h % (mask+1)) (SetTable.bits h)
   pure (owner.setIfInBounds j (some k),k+1):Option (Array (Option Nat)×Nat))=some (owner.setIfInBounds j (some k),k+1):=by
   show (SetTable.layClean.free mask owner (SetTable.turns mask) (SetTable.bits h % (mask+1)) (SetTable.bits h)).bind _=_;rw[ej];rfl
  rw[this,e,dC,show k+(l.length+1)=k+1+l.length by lia]
theorem xQ(R:DL (mask+1))(hs:Array Int)(h:hs.size<=mask):∃owner,SetTable.layClean mask hs=some owner/\xP (mask+1) owner hs.size:=by
 have L0:xP (mask+1) (Array.replicate (mask+1) none) 0:=⟨by simp,by simp[List.countP_replicate],fun x hx=>by simp at hx⟩
 obtain⟨o,e,L⟩:=Cn R hs.toList _ 0 L0 (by simpa using h);refine⟨o,?_,by simpa using L⟩;unfold SetTable.layClean;rw[<-Array.foldl_toList];have e':=congrArg (Option.map (·.1)) e;exact e'
theorem AI(L:xP M owner n):
  ((List.range M).filterMap fun j=>(owner.getD j none).map (j,·)).length=n/\∀q∈(List.range M).filterMap (fun j=>(owner.getD j none).map (j,·)),q.2<n:=by
 constructor
 .rw[<-L.cnt];have e:owner.toList=(List.range M).map fun j=>owner.getD j none:=by
   apply zY
   .simp[L.size]
   .intro i h1 h2;simp only[rF,zK,Array.getElem_toList];rw[vd,zg (by simpa using h1)];rfl
  conv=>rhs;rw[e]
  rw[z6];generalize List.range M=l;induction l with
  |nil=>rfl
  |cons a l ih=>
   rw[kK,<-ih];cases hq:owner.getD a none with
   |none=>rw[List.filterMap_cons_none (by rw[hq];rfl),show (Option.isSome ∘ fun j=>owner.getD j none) a=false by show (owner.getD a none).isSome=false;rw[hq];rfl];simp
   |some x=>rw[Fq (b:=(a,x)) (by rw[hq];rfl),show (Option.isSome ∘ fun j=>owner.getD j none) a=true by show (owner.getD a none).isSome=true;rw[hq];rfl];simp
 .intro q hq;obtain⟨j,_,e⟩:=l7.mp hq;cases hx:owner.getD j none with
  |none=>rw[hx] at e;cases e
  |some x=>
   rw[hx] at e;cases e;refine L.lt x ?_;rw[vd,<-oI] at hx;cases hy:owner.toList[j]? with
   |none=>rw[hy] at hx;cases hx
   |some v=>rw[hy] at hx;obtain rfl:v=some x:=hx;exact cZ hy
structure xR(hs:Array Int)(t:SetTable):Prop where
 dm:t.dummies=#[]
 sz:t.place.size=hs.size
 ms:(t.mask=7/\hs.size<=4)\/(t.mask=31/\hs.size<=18)\/(t.mask=127/\hs.size<=76)\/(t.mask=511/\hs.size<=306)
theorem xR.rnd(T:xR hs t):DL (t.mask+1):=by
 rcases T.ms with ⟨e,_⟩|⟨e,_⟩|⟨e,_⟩|⟨e,_⟩ <;> rw[e]
 .exact YY
 .exact Nd
 .exact Gm
 .exact Gn
theorem lU(xs:Array α)(p:Nat)(x:α):(SetTable.insertAt xs p x).size=xs.size+1:=by
 unfold SetTable.insertAt;simp;lia
theorem nE(h:y∈(SetTable.insertAt xs p x).toList):y=x\/y∈xs.toList:=by
 unfold SetTable.insertAt at h;rw[fX,oQ,zB,zB] at h;rcases bY.mp h with z|z
 .rcases bY.mp z with z|z
  .right;rw[List.extract_eq_drop_take] at z;exact oJ (j3 z)
  .left;simpa using z
 .right;rw[List.extract_eq_drop_take] at z;exact oJ (j3 z)
theorem AJ{hs:Array Int}{t:SetTable}{h:Int}(T:xR hs t)(hn:h∉hs.toList)(hl:hs.size<300):∃hs' t',gY hs t h=some (hs',t')/\xR hs' t'/\hs'.size=hs.size+1/\∀x∈hs'.toList,x=h\/x∈hs.toList:=by
 have YO:t.place.size<=t.mask:=by rw[T.sz];rcases T.ms with ⟨e,z⟩|⟨e,z⟩|⟨e,z⟩|⟨e,z⟩ <;> lia
 have hh:∀i,i<t.place.size->OS hs i≠h:=by
  intro i hi e;rw[T.sz] at hi;unfold OS at e;rw[zg hi] at e;exact hn (by rw[<-e];simp)
 obtain⟨j,hp⟩:=AG (hashAt:=OS hs) (h:=h) T.rnd T.dm YO hh;have hg:t.gaveWay=false:=by
  unfold SetTable.gaveWay;rcases T.ms with ⟨e,_⟩|⟨e,_⟩|⟨e,_⟩|⟨e,_⟩ <;> rw[e] <;> rfl
 have q1:(t.put j).1.place=SetTable.insertAt t.place (SetTable.below t.place j) j:=rfl;have q2:(t.put j).1.dummies=#[]:=by
  show (if SetTable.has t.dummies j=true then _ else t.dummies)=_;rw[T.dm];rfl
 have q3:(t.put j).1.mask=t.mask:=rfl;have s1:(SetTable.insertAt hs (t.put j).2 h).size=hs.size+1:=lU _ _ _;have s2:(t.put j).1.place.size=hs.size+1:=by rw[q1,lU,T.sz]
 have fl:(t.put j).1.fill=hs.size+1:=by unfold SetTable.fill;rw[s2,q2];rfl
 have fit:(t.put j).1.fits (SetTable.insertAt hs (t.put j).2 h).size=true:=by
  unfold SetTable.fits;rw[s1,s2,fl,q3];simp;rcases T.ms with ⟨e,z⟩|⟨e,z⟩|⟨e,z⟩|⟨e,z⟩ <;> lia
 unfold gY;rw[hg,au cJ,hp];dsimp only;rw[aD (by rw[fit,s1];simp;lia)];by_cases hf:(t.put j).1.tooFull=true
 .rw[aD hf];have Kj:=hf;unfold SetTable.tooFull at Kj;rw[fl,q3] at Kj;have hf2:(hs.size+1)*5>=t.mask*3:=by simpa using Kj
  have gr:SetTable.grown (hs.size+1)=(hs.size+1)*4:=by unfold SetTable.grown;rw[au (by lia)]
  obtain⟨m2,em2,YZ,R2⟩:∃m2,SetTable.sizeAbove (SetTable.grown (hs.size+1))=m2+1/\((m2=31/\hs.size+1<=18)\/(m2=127/\hs.size+1<=76)\/(m2=511/\hs.size+1<=306))/\DL (m2+1):=by
   rw[gr];rcases T.ms with ⟨e,z⟩|⟨e,z⟩|⟨e,z⟩|⟨e,z⟩
   .have:hs.size=4:=by lia
    exact⟨31,by rw[this];rfl,.inl ⟨rfl,by lia⟩,Nd⟩
   .have:hs.size=18:=by lia
    exact⟨127,by rw[this];rfl,.inr (.inl ⟨rfl,by lia⟩),Gm⟩
   .have:hs.size=76:=by lia
    exact⟨511,by rw[this];rfl,.inr (.inr ⟨rfl,by lia⟩),Gn⟩
   .lia
  have hm3:(SetTable.insertAt hs (t.put j).2 h).size<=m2:=by rw[s1];rcases YZ with ⟨e,z⟩|⟨e,z⟩|⟨e,z⟩ <;> lia
  obtain⟨owner,eo,L⟩:=xQ R2 (SetTable.insertAt hs (t.put j).2 h) hm3;obtain⟨TQ,Y0⟩:=AI L;rw[s1] at TQ Y0;generalize TU:(List.range (m2+1)).filterMap (fun j=>(owner.getD j none).map (j,·))=live at TQ Y0;have er:(t.put j).1.relaid (SetTable.insertAt hs (t.put j).2 h) (SetTable.grown (hs.size+1))=some ({ mask:=m2,place:=(live.map (·.1)).toArray,dummies:=#[],finger:=(t.put j).1.finger,led:=(t.put j).1.led,moves:=(t.put j).1.movedTo m2,plain:=(t.put j).1.plain },(live.map (·.2)).toArray):=by
   unfold SetTable.relaid SetTable.laid;rw[em2];simp only[Nat.add_sub_cancel];rw[eo];show some _=some _;rw[<-TU]
  rw[er];dsimp only;have AD:((live.map (·.2)).toArray.filterMap ((SetTable.insertAt hs (t.put j).2 h)[·]?)).size=hs.size+1:=by
   rw[<-l0,vh];show ((live.map (·.2)).filterMap _).length=_;rw[<-TQ,List.filterMap_map];refine k4 fun q hq=>?_;show ((SetTable.insertAt hs (t.put j).2 h)[q.2]?).isSome=true;rw[zg (by rw[s1];exact Y0 q hq)];rfl
  have emf:∀x,({ mask:=m2,place:=(live.map (·.1)).toArray,dummies:=#[],finger:=(t.put j).1.finger,led:=(t.put j).1.led,moves:=(t.put j).1.movedTo m2,plain:=(t.put j).1.plain }:SetTable).fits x=(decide (hs.size+1=x)&&decide (hs.size+1<=m2)):=by
   intro x;unfold SetTable.fits SetTable.fill;simp[TQ];rw[hV];simp
  rw[aD (by
   rw[AD,s1,emf,em2];have:hs.size+1<=m2:=by rw[<-s1];exact hm3
   simp[this];rcases YZ with ⟨e,z⟩|⟨e,z⟩|⟨e,z⟩ <;> lia)]
  refine⟨_,_,rfl,⟨rfl,?_,?_⟩,AD,fun x hx=>?_⟩
  .rw[AD];simp[TQ]
  .rw[AD];exact .inr YZ
  .rw[vh] at hx;obtain⟨k,_,ek⟩:=l7.mp hx;refine nE (p:=(t.put j).2) ?_;rw[<-oI] at ek;exact cZ ek
 .rw[au hf];refine⟨_,_,rfl,⟨q2,by rw[s2,s1],?_⟩,s1,fun x hx=>nE hx⟩;have Kj:¬ (hs.size+1)*5>=t.mask*3:=by
   intro z;refine hf ?_;unfold SetTable.tooFull;rw[fl,q3];simpa using z
  rw[s1,q3];rcases T.ms with ⟨e,z⟩|⟨e,z⟩|⟨e,z⟩|⟨e,z⟩ <;> lia
theorem qf:∀ (l:List Int) (hs:Array Int) (t:SetTable),xR hs t->(∀x∈l,x∉hs.toList)->l.Nodup->hs.size+l.length<=300->∃hs' t',l.foldlM (fun q h=>gY q.1 q.2 h) (hs,t)=some (hs',t')/\hs'.size=hs.size+l.length
 |[],hs,t,_,_,_,_=>⟨hs,t,rfl,rfl⟩
 |h::l,hs,t,T,hn,nd,hl=>by
  rw[dC] at hl;obtain⟨n1,n2⟩:=hU.mp nd;obtain⟨Gg,t1,e1,T1,z1,m1⟩:=AJ T (hn h bZ) (by lia);obtain⟨uv,t2,e2,z2⟩:=qf l Gg t1 T1 (fun x hx hy=>by
   rcases m1 x hy with e|e
   .exact n1 (e ▸ hx)
   .exact hn x (du _ hx) e) n2 (by lia)
  refine⟨uv,t2,?_,by rw[z2,z1,dC];lia⟩;rw[List.foldlM_cons];show (gY hs t h).bind _=_;rw[e1];exact e2
theorem DM(led:Bool)(nd:l.Nodup)(hl:l.length<=300):∃hs t,v9 led l=some (hs,t)/\hs.size=l.length:=by
 obtain⟨hs,t,e,z⟩:=qf l #[] (SetTable.fresh 0 0 led) ⟨rfl,rfl,.inl ⟨rfl,by decide⟩⟩ (fun x _ h=>by simp at h) nd (by simpa using hl);exact⟨hs,t,e,by simpa using z⟩
def Co:List Nat->Nat->Bool
 |[],_=>true
 |x::xs,et=>bif Nat.testBit et x then false else Co xs (et ||| (1 <<< x))
theorem xS:∀ (l:List Nat) (et:Nat),Co l et=true->l.Nodup/\∀x∈l,et.testBit x=false
 |[],_,_=>⟨jE,fun x h=>(nomatch h)⟩
 |x::xs,et,h=>by
  unfold Co at h;cases hb:et.testBit x with
  |true=>rw[hb] at h;cases h
  |false=>
   rw[hb] at h;obtain⟨nd,hx⟩:=xS xs _ h;have hor:∀y∈xs,et.testBit y=false/\y≠x:=by
    intro y hy;have:=hx y hy;rw[Nat.testBit_or,Nat.one_shiftLeft,Nat.testBit_two_pow] at this;rw[Bool.or_eq_false_iff] at this;exact⟨this.1,fun e=>by have:=this.2;simp[e] at this⟩
   refine⟨hU.mpr ⟨fun hm=>(hor x hm).2 rfl,nd⟩,fun y hy=>?_⟩;rcases bW.mp hy with z|z
   .rw[z];exact hb
   .exact(hor y z).1
def sr:List (Int×Int):=(List.range 32).flatMap fun a=>(List.range 32).map fun b=>(Int.ofNat a,Int.ofNat b)
def Nf(h:Int):Nat:=(h % 6554).toNat
theorem DN(P:Program)(w:World):Co (sr.map fun y=>Nf (gm P w y)) 0=true:=by kernel_rfl
theorem Cp(h1:0<=y.1/\y.1<32)(h2:0<=y.2/\y.2<32):y∈sr:=by
 unfold sr;refine zX.mpr ⟨y.1.toNat,bH.mpr (by lia),bn.mpr ⟨y.2.toNat,bH.mpr (by lia),fQ ?_ ?_⟩⟩
 .show ((y.1.toNat:Nat):Int)=y.1;lia
 .show ((y.2.toNat:Nat):Int)=y.2;lia
theorem lV:∀ {l:List α},(l.map f).Nodup->∀x∈l,∀y∈l,f x=f y->x=y
 |[],_,_,h,_,_,_=>by cases h
 |a::l,h,x,hx,y,hy,e=>by
  rw[eJ] at h;obtain⟨h1,h2⟩:=hU.mp h;rcases bW.mp hx with z|z <;> rcases bW.mp hy with z'|z'
  .rw[z,z']
  .exact absurd (bn.mpr ⟨y,z',by rw[<-e,z]⟩) h1
  .exact absurd (bn.mpr ⟨x,z,by rw[e,z']⟩) h1
  .exact lV h2 x z y z' e
theorem wc(hx:(0<=x.1/\x.1<32)/\(0<=x.2/\x.2<32))(hy:(0<=y.1/\y.1<32)/\(0<=y.2/\y.2<32))(e:gm P w x=gm P w y):x=y:=
 lV (xS _ _ (DN P w)).1 x (Cp hx.1 hx.2) y (Cp hy.1 hy.2) (congrArg Nf e)
theorem pF:∀ {l:List α},l.Nodup->(∀x∈l,∀y∈l,f x=f y->x=y)->(l.map f).Nodup
 |[],_,_=>jE
 |a::l,h,hf=>by
  obtain⟨h1,h2⟩:=hU.mp h;rw[eJ];refine hU.mpr ⟨fun z=>?_,pF h2 fun x hx y hy=>hf x (du _ hx) y (du _ hy)⟩;obtain⟨y,hy,e⟩:=bn.mp z;have:=hf y (du _ hy) a bZ e;exact h1 (this ▸ hy)
theorem xT{P:Program}{w:World}(led:Bool){ys:List (Int×Int)}(nd:ys.Nodup)(hr:∀y∈ys,(0<=y.1/\y.1<32)/\(0<=y.2/\y.2<32))(hl:ys.length<=300):
  ∃hs t,v9 led (ys.map (gm P w))=some (hs,t)/\hs.size=ys.length:=by
 obtain⟨hs,t,e,z⟩:=DM led (pF nd fun x hx y hy e=>wc (P:=P) (w:=w) (hr x hx) (hr y hy) e) (by rw[aP];exact hl);exact⟨hs,t,e,by rw[z,aP]⟩
theorem wd:∀ {as:List Addr} {its:List Value},bg (as.map V.ref) its->its=as.map Value.ref
 |[],_,r=>by cases r;rfl
 |a::as,_,r=>by
  cases r with
  |cons r rr=>
   obtain rfl:=(show _=Value.ref a from r)
   rw[wd rr];rfl
def Kk(D:Addr)(n:Nat):HO:=.ext fun h=>∃hs t,kY h D hs t/\hs.size=n
section
variable {X:Cx}
def TV(K:PySem.W.Frag):List V->Hp->VK->Prop:=fun xs H Q=>∃ (l:Addr) (as:List Addr) (ys:List (Int×Int)),xs=[.ref l]/\aV K H l (as.map V.ref)/\as.length=ys.length/\
 (∀i,i<ys.length->Gf K H (as.getD i 0) (ys.getD i (0,0)))/\ys.Nodup/\(∀y∈ys,(0<=y.1/\y.1<32)/\(0<=y.2/\y.2<32))/\ys.length<=300/\∀D,H D=none->Q (.ref D) (upd H D (Kk D ys.length))
theorem DO(hc:X.calm=true)(hu:X.A.units+8<cLine):fA X (.type "set") (TV X.K):=by
 intro ag s σ H xs us Q I r h;obtain⟨l,as,ys,rfl,hl,dz,hp,nd,rg,h3,q⟩:=h;obtain⟨u1,rfl,r1⟩:=r.one;obtain rfl:u1=Value.ref l:=r1;obtain⟨its,rv,pl,hz⟩:=I.list hl;have e:=wd rv;subst e;have hpi:jQ s.heap (as.map Value.ref) ys:=⟨by rw[aP,dz],fun i v hv=>by
  rw[bN] at hv;cases ea:as[i]? with
  |none=>rw[ea] at hv;cases hv
  |some a=>
   rw[ea] at hv;obtain rfl:Value.ref a=v:=bX hv;have hi:i<as.length:=(cY.mp ea).1;obtain⟨o,n,t,u,e1,c,d⟩:=AB I (hp i (by lia));have eg:as.getD i 0=a:=by rw[aS,ea];rfl
   rw[eg] at e1;exact⟨a,o,n,t,u,rfl,e1,c,d⟩⟩
 have DJ:∀led,∃q:Array Int×SetTable,v9 led (ys.map (gm X.prog X.w))=some q/\q.1.size=ys.length:=fun led=>
  let ⟨hs,t,e,z⟩:=xT (P:=X.prog) (w:=X.w) led nd rg h3;⟨(hs,t),e,z⟩
 refine Gi (I.ok.hd hc) hu pl.isList hpi (hsN:=fun led=>(DJ led).choose.1) (tN:=fun led=>(DJ led).choose.2) (fun led=>(DJ led).choose_spec.1) fun led h' tk S' k=>?_;refine⟨.ref s.heap.objs.size,_,I.xN (t':=tk) (o:=Kk s.heap.objs.size ys.length) (fun b u e=>k b u (bp e) e) (oM (aW _)) ⟨⟨_,_,S',(DJ led).choose_spec.2⟩,?_,fun h1 h2 ⟨hs,t,⟨o,es,ep,q1,q2⟩,z⟩ kk=>⟨hs,t,⟨o,es,ep,kk o q1,q2⟩,z⟩⟩,rfl,q _ I.fresh⟩;obtain⟨o,_,_,q1,_⟩:=S';exact⟨o,q1⟩
theorem xU:fA X (.builtin "len") (fun xs H Q=>∃D n,xs=[.ref D]/\H D=some (Kk D n)/\n<=4096/\Q (.int n) H):=by
 intro ag s σ H xs us Q I r h;obtain⟨D,n,rfl,e,hn,q⟩:=h;obtain⟨u1,rfl,r1⟩:=r.one;obtain rfl:u1=Value.ref D:=r1;obtain⟨⟨hs,t,⟨o,es,ep,q1,q2,q3,q4,q5,q6⟩,z⟩,_⟩:=(show cF X.prog X.w H s.heap D (Kk D n) from I.cI D _ e)
 have lM:es.size=n:=by rw[<-z,<-q5,jF]
 exact call_len_set q1 ⟨q2,q3.1,q3.2⟩ q4 q6 (by rw[lM];lia) ⟨.int n,H,I.tok _,⟨_,by rw[lM]⟩,q⟩
theorem xV:fA X (.type "range") (fun xs H Q=>∃n,xs=[.int n]/\∀p,H p=none->Q (.ref p) (upd H p (.JM 0 n))):=by
 intro ag s σ H xs us Q I r h;obtain⟨n,rfl,q⟩:=h;obtain⟨u1,rfl,t,rfl⟩:=r.one;refine call_range_1 ⟨.ref s.heap.objs.size,_,I.laid (o:=.JM 0 n) (fun b u e=>cg _ e) (aW _) ⟨_,_,_,cR _ rfl⟩,rfl,q _ I.fresh⟩
theorem AK(hc:X.calm=true):fA X (.type "list") (fun xs H Q=>∃ (p:Addr) (n:Nat),xs=[.ref p]/\H p=some (.JM 0 n)/\n<=1000/\∀l,H l=none->Q (.ref l) (upd H l (.lst ((List.range n).map fun (i:Nat)=>V.int i)))):=by
 intro ag s σ H xs us Q I r h;obtain⟨p,n,rfl,e,hn,q⟩:=h;obtain⟨u1,rfl,r1⟩:=r.one;obtain rfl:u1=Value.ref p:=r1;obtain⟨t,u,v,hp⟩:=(show cF X.prog X.w H s.heap p (.JM 0 n) from I.cI p _ e)
 refine call_list_range (n:=n) (I.ok.hd hc) (show IsRange s.heap p 0 n 1 t u v from hp) (small_one (by lia) (by lia) (by lia) (by lia)) (by rw[rangeSize_one];split <;> lia) (by lia) fun h' tk et c k g it=>?_;obtain⟨i1,i2⟩:=it;refine⟨.ref s.heap.objs.size,_,I.xN (t':=tk) (o:=.lst ((List.range n).map fun (i:Nat)=>V.int i)) (fun b u e=>k b u e) (oM (aW _)) ⟨?_,et.toList,c,?_,by simpa using g⟩,rfl,q _ I.fresh⟩
 .rw[aP,cE];exact aY hn (by decide)
 .have go:∀ (m:Nat) (l:List Value),l.length=m->(∀ (j:Nat) v,l[j]?=some v->∃t,v=Value.int (0+(j:Int)*1) t)->bg ((List.range m).map fun (i:Nat)=>V.int i) l:=by
   intro m;induction m with
   |zero=>intro l hl _;cases l with
    |nil=>exact .nil
    |cons _ _=>cases hl
   |succ m ih=>
    intro l hl hv;have uI:l≠[]:=by intro z;rw[z] at hl;cases hl
    have el:l=l.dropLast++[l.getLast uI]:=(List.dropLast_concat_getLast uI).symm;rw[iQ,cK,el];have W_:l.dropLast.length=m:=by rw[List.length_dropLast,hl];rfl
    refine bg.append (ih _ W_ fun j v hj=>hv j v ?_) (.cons ?_ .nil)
    .rw[el];have DP:j<l.dropLast.length:=(cY.mp hj).1;rw[i6 DP];exact hj
    .obtain⟨t,ht⟩:=hv m (l.getLast uI) (by
      rw[List.getLast_eq_getElem,bq (by lia:m<l.length)];simp[hl])
     exact⟨t,by rw[ht];simp⟩
  exact go n et.toList (by simpa using i1) fun j v hj=>i2 j v (by simpa using hj)
end
def gK(e:V->V->Bool):List V->List V->Bool
 |[],[]=>true
 |x::xs,y::ys=>e x y&&gK e xs ys
 |_,_=>false
theorem h_:∀ {xs ys:List V},xs.length=ys.length->gK e xs ys=(List.range xs.length).all fun i=>e (xs.getD i .bz) (ys.getD i .bz)
 |[],[],_=>rfl
 |x::xs,y::ys,h=>by
  have h':xs.length=ys.length:=by simpa using h
  rw[gK,h_ h',dC,oG,jI,vN];rfl
 |[],_::_,h=>by simp at h
 |_::_,[],h=>by simp at h
theorem pG:∀ {xs ys:List V},xs.length≠ys.length->gK e xs ys=false
 |[],[],h=>absurd rfl h
 |x::xs,y::ys,h=>by
  have h':xs.length≠ys.length:=fun z=>h (by simp[z]);rw[gK,pG h',z_]
 |[],_::_,_=>rfl
 |_::_,[],_=>rfl
section
variable {X:Cx}
def O0(X:Cx)(H:Hp)(e:V->V->Bool)(x y:V):Prop:=∀ (ag:List (Addr×Obj)) (s:Shared) (σ:St) (A:Around) (u v:Value),aZ X ag σ H s->A.units+1<cLine->b8 x u->b8 y v->SeqAt.EqAt A s u v (e x y)
theorem DQ{H:Hp}{x y:V}(fx:cT x=true)(fy:cT y=true):O0 X H iH x y:=fun _ _ _ _ _ _ _ _ rx ry=>se rx ry fx fy
def TW(X:Cx)(neg:Bool)(e:V->V->Bool):R2:=fun x y H Q=>∃p q xs ys,x=.ref p/\y=.ref q/\aV X.K H p xs/\aV X.K H q ys/\(∀i,i<xs.length->i<ys.length->O0 X H e (xs.getD i .bz) (ys.getD i .bz))/\Q (.bl (if neg then !gK e xs ys else gK e xs ys)) H
theorem xW(I:aZ X ag σ H s)(hu:A.units+1<cLine)(rx:bg xs us)(ry:bg ys vs)(he:∀i,i<xs.length->i<ys.length->O0 X H e (xs.getD i .bz) (ys.getD i .bz)):∀j (h1:j<us.toArray.size) (h2:j<vs.toArray.size),SeqAt.EqAt A s us.toArray[j] vs.toArray[j] (e (xs.getD j .bz) (ys.getD j .bz)):=by
 intro j h1 h2;have j1:j<xs.length:=by rw[rx.length];simpa using h1
 have j2:j<ys.length:=by rw[ry.length];simpa using h2
 have e1:xs[j]?=some (xs.getD j .bz):=by rw[aS,bq j1];rfl
 have e2:ys[j]?=some (ys.getD j .bz):=by rw[aS,bq j2];rfl
 obtain⟨u,TX,ru⟩:=rx.get e1;obtain⟨v,Kl,rv⟩:=ry.get e2;have eu:us.toArray[j]=u:=by
  have:us[j]?=some us.toArray[j]:=by simp at h1 |-
  rw[TX] at this;exact(bX this).symm
 have ev:vs.toArray[j]=v:=by
  have:vs[j]?=some vs.toArray[j]:=by simp at h2 |-
  rw[Kl] at this;exact(bX this).symm
 rw[eu,ev];exact he j j1 j2 ag s σ A u v I hu ru rv
theorem AL{e:V->V->Bool}(hu:X.A.units+2<cLine):j6 X (compareOp .NotEq) (TW X true e):=by
 intro ag s σ H x y v u Q I rx ry h;obtain⟨p,q,xs,ys,rfl,rfl,hp,hq,he,k⟩:=h;obtain rfl:v=Value.ref p:=rx;obtain rfl:u=Value.ref q:=ry;obtain⟨us,r1,p1,_⟩:=I.list hp;obtain⟨vs,r2,p2,_⟩:=I.list hq;by_cases hl:xs.length=ys.length
 .refine SeqAt.RcNeAt.lists (e:=fun i=>e (xs.getD i .bz) (ys.getD i .bz)) p1.isList p2.isList (by simp only[bQ];rw[<-r1.length,<-r2.length];exact hl) (by lia) (xW I (by show X.A.units+1+1<cLine;lia) r1 r2 he) _ _ _ _ ⟨.bl _,H,I,rfl,?_⟩;rw[show us.toArray.size=xs.length by rw[bQ,r1.length],<-h_ hl];exact k
 .refine SeqAt.RcNeAt.lists_lengths p1.isList p2.isList (by simp only[bQ];rw[<-r1.length,<-r2.length];simpa using hl) (by lia) _ _ _ _ ⟨.bl _,H,I,rfl,?_⟩;have k':=k;rw[pG hl] at k';exact k'
theorem O1(hu:X.A.units+2<cLine):j6 X (compareOp .Eq) (TW X false e):=by
 intro ag s σ H x y v u Q I rx ry h;obtain⟨p,q,xs,ys,rfl,rfl,hp,hq,he,k⟩:=h;obtain rfl:v=Value.ref p:=rx;obtain rfl:u=Value.ref q:=ry;obtain⟨us,r1,p1,_⟩:=I.list hp;obtain⟨vs,r2,p2,_⟩:=I.list hq;by_cases hl:xs.length=ys.length
 .refine SeqAt.eq_listAt (e:=fun i=>e (xs.getD i .bz) (ys.getD i .bz)) p1.isList p2.isList (by simp only[bQ];rw[<-r1.length,<-r2.length];exact hl) (by lia) (xW I (by show X.A.units+1+1<cLine;lia) r1 r2 he) ⟨.bl _,H,I,rfl,?_⟩;rw[show us.toArray.size=xs.length by rw[bQ,r1.length],<-h_ hl];exact k
 .refine SeqAt.eq_list_lengthsAt p1.isList p2.isList (by simp only[bQ];rw[<-r1.length,<-r2.length];simpa using hl) (by lia) ⟨.bl _,H,I,rfl,?_⟩;have k':=k;rw[pG hl] at k';exact k'
theorem uM(hc:X.calm=true):fA X (.builtin "any") (fun xs H Q=>∃ (p:Addr) (bs:List Bool),xs=[.ref p]/\aV X.K H p (bs.map V.bl)/\Q (.bl (bs.any id)) H):=by
 intro ag s σ H xs us Q I r h;obtain⟨p,bs,rfl,hp,q⟩:=h;obtain⟨u1,rfl,r1⟩:=r.one;obtain rfl:u1=Value.ref p:=r1;obtain⟨its,rv,pl,hz⟩:=I.list hp;have AM:its=bs.map Value.bool:=by
  have go:∀ (bs:List Bool) (its:List Value),bg (bs.map V.bl) its->its=bs.map Value.bool:=by
   intro bs;induction bs with
   |nil=>intro its r;cases r;rfl
   |cons b bs ih=>
    intro its r;cases r with
    |cons r rr=>
     obtain rfl:=(show _=Value.bool b from r)
     rw[ih _ rr];rfl
  exact go bs its rv
 subst AM;obtain⟨ob,Y1,_⟩:=id pl.isList;have fz:p<s.heap.objs.size:=bp Y1;refine call_any_walk (oR pl.isList ⟨s.heap.objs.size,_,_,_,_,_,fun i=>bs.getD i false,rfl,Walks.list (show X.A.in1.handled=none from I.ok.hd hc) _ p (bh fz) _,⟨⟨_,cR _ rfl,rfl,rfl⟩,pl.isList.push _⟩,fun i v s1 Q' E' hv hq=>?_,fun h' tk k=>?_⟩)
 .have Ao:(bs.map Value.bool)[i]?=some v:=by simpa using hv
  rw[bN] at Ao;cases eb:bs[i]? with
  |none=>rw[eb] at Ao;cases Ao
  |some b=>
   rw[eb] at Ao;obtain rfl:Value.bool b=v:=bX Ao;have:bs.getD i false=b:=by rw[aS,eb];rfl
   have J0:Q' b s1:=by rw[<-this];exact hq
   exact wpAny_pure J0
 .have keep:∀b o,s.heap.get? b=some o->h'.get? b=some o:=fun b o e=>k b o (by simpa using bh (bp e)) (cg _ e);refine⟨.bl (bs.any id),H,I.kept (t':=tk) keep,?_,q⟩;show Value.bool _=Value.bool _;congr 1;have go:∀ (bs:List Bool),((List.range bs.length).any fun i=>bs.getD i false)=bs.any id:=by
   intro bs;induction bs with
   |nil=>rfl
   |cons b bs ih=>
    rw[dC,oG,kN,List.any_map,kN,<-ih];rfl
  rw[<-go bs];simp
end
def uN(c:Addr)(qual:Str):HO:=.ext fun h=>h.CodeRec (.ref c) qual
theorem Gq(x:h.CodeRec (.ref c) qual):cF P w H h c (uN c qual):=by
 refine⟨x,?_,?_⟩
 .obtain⟨c',o,vs,t,e,ho,_⟩:=x;cases e;exact⟨o,ho⟩
 .rintro h1 h2 ⟨c',o,vs,t,e,ho,r⟩ k;cases e;exact⟨c,o,vs,t,rfl,k o ho,r⟩
def Ng(f:Addr)(qual:Str)(params:Arguments)(body:Expr)(scope:Scope)(cells:List (Str×Addr))(c:Addr)(h:Heap):Prop:=
 ∃ (k6:List (Str×Addr)) (pm Cq:Value),(∀x a,k6.lookup x=some a->cells.lookup x=some a)/\(∀x,(x,NameKind.free)∈scope.names->∃a,k6.lookup x=some a)/\
  h.get? f=some (PySem.W.kla_obj "<lambda>" qual params body scope k6 pm c Cq)
def AN(f:Addr)(qual:Str)(params:Arguments)(body:Expr)(scope:Scope)(cells:List (Str×Addr))(c:Addr):HO:=.ext (Ng f qual params body scope cells c)
theorem Cr(x:Ng f qual params body scope cells c h):
  cF P w H h f (AN f qual params body scope cells c):=by
 refine⟨x,?_,?_⟩
 .obtain⟨_,_,_,_,_,e⟩:=x;exact⟨_,e⟩
 .rintro h1 h2 ⟨k6,pm,Cq,a,b,e⟩ k;exact⟨k6,pm,Cq,a,b,k _ e⟩
def Gr(lp:Pos)(qual:Str)(P:Addr)(H:Hp):Prop:=H P=some (.qu #[])\/∃c,H P=some (.qu #[rawInt lp.line,rawInt lp.col,.ref c])/\H c=some (uN c qual)
structure Km(X:Cx)(c P:Addr):Prop where
 code:X.env.code=.ref c
 hd:PySem.W.CodeHd X.base c P
 bm:∃bm o,X.mg "__builtins__"=some (.ref bm)/\bm≠builtinsNs/\bm≠mainGlobals/\X.base.get? bm=some o/\o.cls=.type "module"/\o.dict=some builtinsNs/\o.data=.plain
def Y2(lp:Pos)(qual:Str)(P:Addr)(params:Arguments)(body:Expr)(scope:Scope)(cells:List (Str×Addr)):TE:=fun _ H Q=>Gr lp qual P H/\
 ∀ (f c:Addr) (H2:Hp),Gr lp qual P H2->(∀b o,H b=some o->b≠P->H2 b=some o)->H2 c=some (uN c qual)->H2 f=some (AN f qual params body scope cells c)->Q (.ref f) H2
theorem xX{lp:Pos}{c:Addr}:TriplesOk (#[rawInt lp.line,rawInt lp.col,.ref c]:Array Value).toList:=trivial
theorem DR:codeAmong lp (#[rawInt lp.line,rawInt lp.col,.ref c]:Array Value).toList=some (.ref c):=by
 show (if ((lp.line:Int)==(lp.line:Int)&&(lp.col:Int)==(lp.col:Int))=true then some (Value.ref c) else _)=_;simp
section
variable {X:Cx} {c P:Addr} {params:Arguments} {body:Expr} {scope:Scope} {lp:Pos} {NB:List Str} {src:List (Option Nat)}
theorem Km.at(C:Km X c P)(I:aZ X ag σ H s)(hP:H P=some (.qu ps)):s.heap.BuiltinsAt X.mg P:=by
 obtain⟨bm,o,b1,b2,b3,b4,b5,b6,b7⟩:=C.bm;refine⟨bm,o,b1,b2,b3,fun z=>?_,I.bk _ _ b4,b5,b6,b7⟩;have:=(I.bs _ _ b4).2;rw[z,hP] at this;cases this
theorem aZ.Nh(I:aZ X ag σ H s):s.heap.Ns mainGlobals X.mg:=I.mod.glob.keeps I.bk
theorem O2(C:Km X c P)(S:iX NB src scope X)(Y3:defaultsOf params X.env=([],[]):=by rfl):PE X (.Lambda params body scope lp) (Y2 lp (X.env.qual++"<lambda>") P params body scope X.env.cells):=by
 intro ag s σ H Q I h;obtain⟨tab,h⟩:=h;obtain⟨k6,ecl,c1,c2⟩:=my I.ok S;refine PySem.W.kla_eval Y3 ?_;have lM:∀b o,s.heap.get? b=some o->b<s.heap.objs.size:=fun b o e=>bp e;rcases tab with hP|⟨c',hP,ut⟩
 .-- the first time
  have TY:s.heap.get? P=some (PySem.W.tabObj #[]):=I.cI P _ hP;have hPL:X.env.locals≠P:=fun z=>by have f:=I.free;rw[z,hP] at f;cases f
  have hPg:mainGlobals≠P:=fun z=>by
   obtain⟨o,es,ep,e,d,_⟩:=I.mod.glob;have:=(I.bs _ _ e).2;rw[z,hP] at this;cases this
  refine PySem.W.kla_makeFunction (mg:=X.mg) ecl I.ok.glob I.Nh C.code (C.hd.keeps I.bk) TY (by trivial) rfl hPg (C.at I hP) fun c' Cq h' tk hx Ko fz Y4 htb=>?_;have Kp:∀b o,b≠P->s.heap.get? b=some o->(h'.push (PySem.W.kla_obj "<lambda>" (X.env.qual++"<lambda>") params body scope k6 ((X.mg "__name__").getD .none) c' Cq)).get? b=some o:=fun b o hb e=>cg _ (hx b o hb e);have hcP:c'≠P:=jJ (cQ (lM _ _ TY) Ko);have hfP:h'.objs.size≠P:=jJ (cQ (lM _ _ TY) (aY Ko (kO fz)));have hfc:h'.objs.size≠c':=jJ fz;have nf:H h'.objs.size=none:=I.cI.fresh (by lia);have nc:H c'=none:=I.cI.fresh Ko
  let H2:Hp:=upd (upd (upd H P (.qu #[rawInt lp.line,rawInt lp.col,.ref c'])) c' (uN c' (X.env.qual++"<lambda>"))) h'.objs.size (AN h'.objs.size (X.env.qual++"<lambda>") params body scope X.env.cells c')
  have eP:H2 P=some (.qu #[rawInt lp.line,rawInt lp.col,.ref c']):=by
   show upd _ _ _ _=_;rw[ao hfP.symm,ao hcP.symm,af]
  have ec:H2 c'=some (uN c' (X.env.qual++"<lambda>")):=by
   show upd _ _ _ _=_;rw[ao hfc.symm,af]
  have ef:H2 h'.objs.size=some (AN h'.objs.size (X.env.qual++"<lambda>") params body scope X.env.cells c'):=af;have eo:∀b,b≠P->b≠c'->b≠h'.objs.size->H2 b=H b:=fun b h1 h2 h3=>by
   show upd _ _ _ _=_;rw[ao h3,ao h2,ao h1]
  have xr:∀b o,H b=some o->b≠P->H2 b=some o:=fun b o e hb=>by
   rw[eo b hb (ap e nc) (ap e nf)];exact e
  have I2:aZ X ag σ H2 { s with heap:=h'.push (PySem.W.kla_obj "<lambda>" (X.env.qual++"<lambda>") params body scope k6 ((X.mg "__name__").getD .none) c' Cq),toks:=tk }:=by
   refine I.step (g':=s.gens) (d':=s.drawn) (ch:=[]) (fun _ z=>absurd z (by simp)) (fun b o _ _ _ e n=>Kp b o (fun z=>by rw[z,hP] at n;cases n) e) (fun b o _ _ _ e n=>⟨o.slots,Kp b o (fun z=>by rw[z,hP] at n;cases n) e⟩)
    (fun b o _ e n=>?_) (fun b o _ e=>?_) (fun b xs e=>xr b _ e fun z=>by rw[z,hP] at e;cases e) (fun b o u e=>xr b _ e fun z=>by rw[z,hP] at e;cases e) (fun b ps e=>?_) (fun m hm=>?_) (fun b o e=>?_) I.bare
   .rw[eo b (fun z=>by rw[z,hP] at n;cases n) (bh (cQ (lM b o e) Ko)) (bh (cQ (lM b o e) (aY Ko (kO fz))))];exact n
   .by_cases hb:b=P
    .exact⟨_,by rw[hb];exact cg _ htb⟩
    .exact⟨o,Kp b o hb e⟩
   .by_cases hb:b=P
    .rw[hb] at e |-;rw[hP] at e;cases e;exact⟨#[rawInt lp.line,rawInt lp.col,.ref c'],by rw[eP];simp⟩
    .exact⟨#[],by rw[xr b _ e hb];simp⟩
   .exact(hm.extBut hx hPL).push _
   .by_cases hbf:b=h'.objs.size
    .subst hbf;rw[ef] at e;cases e;exact Cr ⟨k6,_,Cq,c1,c2,cR _ rfl⟩
    .by_cases YM:b=c'
     .subst YM;rw[ec] at e;cases e;refine Gq ?_;obtain⟨c₂,oc,vs,t,e2,WY,r⟩:=Y4;exact⟨c₂,oc,vs,t,e2,cg _ WY,r⟩
     .by_cases Y5:b=P
      .subst Y5;rw[eP] at e;cases e;exact cg _ htb
      .rw[eo b Y5 YM hbf] at e;refine(I.cI b o e).rQ (fun d u hd q=>Kp d u ?_ q) (fun d q=>xr d _ q fun z=>by rw[z,hP] at q;cases q) fun d xs q=>xr d _ q fun z=>by rw[z,hP] at q;cases q
       rintro rfl;rcases hd with z|z
       .exact Y5 z.symm
       .rw[hP] at z;cases z
  exact⟨.ref h'.objs.size,H2,I2,rfl,h _ c' H2 (.inr ⟨c',eP,ec⟩) xr ec ef⟩
 .-- again
  have TY:s.heap.get? P=some (PySem.W.tabObj #[rawInt lp.line,rawInt lp.col,.ref c']):=I.cI P _ hP;refine PySem.W.kla_makeFunctionHit (mg:=X.mg) ecl I.ok.glob I.Nh C.code (C.hd.keeps I.bk) TY xX DR (C.at I hP) fun Cq h' tk hk Ko=>?_;have nf:H h'.objs.size=none:=I.cI.fresh Ko
  let H2:Hp:=upd H h'.objs.size (AN h'.objs.size (X.env.qual++"<lambda>") params body scope X.env.cells c')
  have ef:H2 h'.objs.size=some (AN h'.objs.size (X.env.qual++"<lambda>") params body scope X.env.cells c'):=af;have xr:∀b o,H b=some o->H2 b=some o:=fun b o e=>by
   show upd _ _ _ _=_;rw[ao (ap e nf)];exact e
  have Kp:∀b o,s.heap.get? b=some o->(h'.push (PySem.W.kla_obj "<lambda>" (X.env.qual++"<lambda>") params body scope k6 ((X.mg "__name__").getD .none) c' Cq)).get? b=some o:=fun b o e=>cg _ (hk b o e);have I2:aZ X ag σ H2 { s with heap:=h'.push (PySem.W.kla_obj "<lambda>" (X.env.qual++"<lambda>") params body scope k6 ((X.mg "__name__").getD .none) c' Cq),toks:=tk }:=by
   refine I.step (g':=s.gens) (d':=s.drawn) (ch:=[]) (fun _ z=>absurd z (by simp)) (fun b o _ _ _ e n=>Kp b o e) (fun b o _ _ _ e n=>⟨o.slots,Kp b o e⟩)
    (fun b o _ e n=>?_) (fun b o _ e=>⟨o,Kp b o e⟩) (fun b xs e=>xr b _ e) (fun b o u e=>xr b _ e) (fun b ps e=>⟨#[],by rw[xr b _ e];simp⟩) (fun m hm=>(hm.keeps hk).push _) (I.cI.laid Kp Ko (Cr ⟨k6,_,Cq,c1,c2,cR _ rfl⟩)) I.bare
   .show upd _ _ _ _=_;rw[ao (bh (cQ (lM b o e) Ko))];exact n
  exact⟨.ref h'.objs.size,H2,I2,rfl,h _ c' H2 (.inr ⟨c',xr _ _ hP,xr _ _ ut⟩) (fun b o e _=>xr b o e) (xr _ _ ut) ef⟩
end
def Gs(X:Cx)(id:String)(ks:List Str)(r:St->List V->List V->Hp->VK->Prop):Prop:=
 ∀ (ag:List (Addr×Obj)) (s:Shared) (σ:St) (H:Hp) (vs zs:List V) (us ws:List Value) (Q:VK),aZ X ag σ H s->bg vs us->bg zs ws->r σ vs zs H Q->
  wpAny (model X.prog X.w) X.A (call (.builtin id) us (ks.zip ws)) (EP X ag σ Q) X.xe s
def Y6(r:St->List V->List V->Hp->VK->Prop)(t tk:TA):TE:=fun σ H Q=>t σ H fun vs H1=>tk σ H1 fun zs H2=>r σ vs zs H2 Q
section
variable {X:Cx} {x:Str} {p pos:Pos} {e:Expr} {es:List Expr} {FQ:List Keyword} {t tk:TA} {id:String} {ks:List Str} {r:St->List V->List V->Hp->VK->Prop}
theorem DS(hc:Gs X id ks r)(hg:Gl X x)(hm:X.mg x=none)(hv:bootBuiltins x=some (.builtin id))(ha:PA X (e::es) t)(hkw:PK X FQ tk)(hn:x≠"__name__":=by decide)(Dx:(x==("__debug__":Str))=false:=by decide)(hks:(backToKw pos (keywordEach FQ X.env)).filterMap (·.1)=ks:=by rfl)(he:backTo pos (starEach (e::es) X.env)=(false,eval e X.env)::backTo pos (starEach es X.env):=by rfl)(sf:(backTo pos (starEach (e::es) X.env)).any (·.1)=false:=by rfl)(pA:(backToKw pos (keywordEach FQ X.env)).all (·.1.isSome)=true:=by rfl)(FT:(backToKw pos (keywordEach FQ X.env)).any (·.1.isNone)=false:=by rfl):PE X (.Call (.Name x p) (e::es) FQ pos) (Y6 r t tk):=by
 intro ag s σ H Q I h;refine rE (mr I hg hm hv ?_ hn Dx);refine PyProof.Rows.callWith_kw (dk (ha pos ag s σ H _ I h) fun us s1 ⟨vs,H1,I1,r1,q1⟩=>?_) he sf pA FT;refine dk (hkw pos ag s1 σ H1 _ I1 q1) fun ws s2 ⟨zs,H2,I2,rz,q2⟩=>?_;rw[hks];exact hc ag s2 σ H2 vs zs us ws Q I2 r1 rz q2
end
def O4(za zb:Int)(ns out:List Int):Prop:=∃ps:List (Int×Int),ps.Perm (ns.map fun z=>((z-za) % zb,z))/\out=ps.map (·.2)/\ps.Pairwise fun p q=>p.1<=q.1
def O5(X:Cx)(qual:Str)(params:Arguments)(body:Expr)(scope:Scope)(ia ib:Nat):St->List V->List V->Hp->VK->Prop:=fun σ vs zs H Q=>
 ∃ (l f c:Addr) (ns:List Int) (za zb:Int),vs=[.ref l]/\zs=[.ref f]/\aV X.K H l (ns.map V.int)/\ns.length<64/\H f=some (AN f qual params body scope X.env.cells c)/\H c=some (uN c qual)/\
  σ[ia]?=some (some (.int za))/\σ[ib]?=some (some (.int zb))/\0<zb/\∀ (r:Addr) (out:List Int),H r=none->O4 za zb ns out->Q (.ref r) (upd H r (.lst (out.map V.int)))
theorem uO:∀ {ns:List Int} {vs:List Value},bg (ns.map V.int) vs->IntsAre vs ns
 |[],_,.nil=>.nil
 |_::_,_,.cons ⟨t,e⟩ r=>by subst e;exact .cons _ t (uO r)
structure TZ(X:Cx)(qual:Str)(params:Arguments)(body:Expr)(scope:Scope)(y a b:Str)(ia ib:Nat):Prop where
 bd:∃p1 p2 p3 p4 p5,body=.BinOp (.BinOp (.Name y p1) .Sub (.Name a p2) p3) .Mod (.Name b p4) p5
 bind:∀k6 pm c Cq v,bindArgs (PySem.W.kla_fn "<lambda>" qual params body scope k6 pm (.ref c) Cq) ⟨[v],[]⟩=pure [(y,v)]
 na:X.N[ia]?=some a
 nb:X.N[ib]?=some b
 ca:X.env.scope.names.lookup a=some .cell
 cb:X.env.scope.names.lookup b=some .cell
 ly:scope.names.lookup y=some .local
 fa:scope.names.lookup a=some .free
 fb:scope.names.lookup b=some .free
 ma:(a,NameKind.free)∈scope.names
 mb:(b,NameKind.free)∈scope.names
 O6:∀z∈scope.names,z.2≠.cell
 kind:scope.kind=.function
 co:scope.isCoroutine=false
 gen:scope.isGenerator=false
 dy:(y==("__debug__":Str))=false
 da:(a==("__debug__":Str))=false/\(a==("__classdict__":Str))=false
 db:(b==("__debug__":Str))=false/\(b==("__classdict__":Str))=false
theorem AO(S:TZ X qual params body scope y a b ia ib)(hr:cB k X.A):
  Gs X "sorted" ["key"] (O5 X qual params body scope ia ib):=by
 intro ag s σ H vs zs us ws Q I r rz h;obtain⟨l,f,c,ns,za,zb,rfl,rfl,hl,T4,hf,hc,sa,sb,hb0,q⟩:=h;obtain⟨u1,rfl,r1⟩:=r.one;obtain rfl:u1=Value.ref l:=r1;obtain⟨w1,rfl,Xa⟩:=rz.one;obtain rfl:w1=Value.ref f:=Xa;obtain⟨its,rv,pl,hz⟩:=I.list hl;have hI:=uO rv;obtain⟨m,F⟩:=I.fr;obtain⟨p1,p2,p3,p4,p5,rfl⟩:=S.bd;obtain⟨k6,pm,Cq,c1,c2,To⟩:=(I.cI f _ hf).1;have hcr:s.heap.CodeRec (.ref c) qual:=(I.cI c _ hc).1;obtain⟨m',hn',hlk⟩:=I.loc;have T5:∃ca ta,k6.lookup a=some ca/\s.heap.IsCell ca (some (.int za ta)):=by
  obtain⟨u,⟨ta,rfl⟩,lk⟩:=hlk ia a (.int za) S.na sa (.inr (.inl S.ca));obtain⟨ca,e1⟩:=c2 a S.ma;rcases lk with ⟨z,_⟩|⟨_,ca',e2,e3⟩
  .have z':X.env.scope.names.lookup a=some .local:=z;rw[S.ca] at z';cases z'
  .have e4:=c1 a ca e1;rw[e2] at e4;cases e4;exact⟨ca,ta,e1,e3⟩
 have T6:∃cb tb,k6.lookup b=some cb/\s.heap.IsCell cb (some (.int zb tb)):=by
  obtain⟨u,⟨tb,rfl⟩,lk⟩:=hlk ib b (.int zb) S.nb sb (.inr (.inl S.cb));obtain⟨cb,e1⟩:=c2 b S.mb;rcases lk with ⟨z,_⟩|⟨_,cb',e2,e3⟩
  .have z':X.env.scope.names.lookup b=some .local:=z;rw[S.cb] at z';cases z'
  .have e4:=c1 b cb e1;rw[e2] at e4;cases e4;exact⟨cb,tb,e1,e3⟩
 obtain⟨ca,ta,ea,ha⟩:=T5;obtain⟨cb,tb,eb,hb⟩:=T6;have Xb:∀b' (o:Obj),s.heap.get? b'=some o->(∀es ep,o.data≠.dict es ep)->b'≠X.env.locals:=fun b' o e d z=>by
  obtain⟨o',es,ep,e',d',_⟩:=F.ns;rw[z,e'] at e;cases e;exact d _ _ d'
 have len:(ns.map fun z=>(z-za) % zb).length=its.length:=by rw[aP,hI.length]
 refine ksk_sorted (b:=false) (f:=.ref f) (kz:=ns.map fun z=>(z-za) % zb) F Fu pl.isList len (by rw[hI.length];exact T4) (ksk_s1 _ _) (fun x=>ksk_l1 _ _) (fun x=>ksk_t1 _ _) ?_ ?_
 .-- one key
  intro i v k hv hk h tk own F' N';have at_:∀b' u,b'≠X.env.locals->s.heap.get? b'=some u->h.get? b'=some u:=fun b' u uI e=>by
   cases z:X.base.get? b' with
   |some o=>
    have:=I.bk b' o z;rw[e] at this;cases this;exact F'.keep b' _ z
   |none=>exact(N' (b',u) (iz _ (kS uI z e))).1
  have Y7:=at_ f _ (Xb f _ To (by intro es ep z;cases z)) To;have Y8:h.CodeRec (.ref c) qual:=by
   obtain⟨c0,o,vs0,t0,e0,ho,hd,hv0⟩:=hcr;refine⟨c0,o,vs0,t0,e0,at_ _ _ (Xb _ _ ho (by rw[hd];intro es ep z;cases z)) ho,hd,hv0⟩
  have DC:h.IsCell ca (some (.int za ta)):=by
   obtain⟨o,ho,hd⟩:=ha;exact⟨o,at_ _ _ (Xb _ _ ho (by rw[hd];intro es ep z;cases z)) ho,hd⟩
  have xt:h.IsCell cb (some (.int zb tb)):=by
   obtain⟨o,ho,hd⟩:=hb;exact⟨o,at_ _ _ (Xb _ _ ho (by rw[hd];intro es ep z;cases z)) ho,hd⟩
  obtain⟨z,tz,rfl,rfl⟩:∃z tz,v=.int z tz/\k=(z-za) % zb:=by
   obtain⟨n,t,e⟩:=hI.all v (cZ hv);refine⟨n,t,e,?_⟩;rw[bN] at hk;have hn:=hI.nums;have e1:(its.map numOf)[i]?=some n:=by rw[bN,hv,e];rfl
   rw[hn] at e1;rw[e1] at hk;exact(bX hk).symm
  have T7:X.A.in1.in1.depth<recursionLimit:=by
   have:=hr.dp;show X.A.depth<_;lia
  refine wpAny_call (PySem.W.kla_callFunE T7 Y7 rfl S.co S.gen rfl Y8 ?_);rw[S.bind];refine wpAny_pure (wpAny_newFunctionEnv S.O6 (fun x hx=>by rw[cC.mp hx];exact S.ly) (fun h₁ y3 hsb=>⟨((I.ok.mod.nolimit).keeps F'.keep).fresh _ hsb,?_⟩) S.kind);have T8:∀b o,h.get? b=some o->h₁.get? b=some o:=fun b o e=>hsb.extBut b o (bh (bp e)) (cg _ e);have ha₁:=DC.keeps T8;have hb₁:=xt.keeps T8;refine PySem.W.kla_codeExpr ?_;refine wpAny_BinOp (wpAny_BinOp ?_);refine o9 (zN S.kind S.ly y3 (v:=.int z tz) (by simp) ?_) S.dy;refine o9 (zV S.kind S.fa ea ha₁ ?_ S.da.2) S.da.1;refine sub_int ?_;refine o9 (zV S.kind S.fb eb hb₁ ?_ S.db.2) S.db.1;refine mod_int' (by lia) ?_;rw[zf _ (by lia)];refine KskEnd.intro (news':=jL X.base s.heap X.env.locals++own) ⟨F'.ns.keeps T8,fun b o e=>T8 b o (F'.keep b o e),F'.above⟩ (fun p hp=>⟨T8 _ _ (N' p hp).1,(N' p hp).2⟩) fun p hp=>hp
 .-- the list
  intro D h' tk out cc F' N' fz Y9;have hD:=t_ I N' fz;obtain⟨ps,hp,ho,hs⟩:=Y9;have Kb:∀p∈ps,∃n t,p.2=.int n t:=fun p Kg=>by
   have:=hp.mem_iff.mp Kg;exact hI.all _ (rG this).2
  have T9:((ns.map fun z=>(z-za) % zb).zip its).map (fun p=>(p.1,numOf p.2))=ns.map fun z=>((z-za) % zb,z):=by
   have hn:=hI.nums;rw[<-hn];have go:∀ (l:List Value),((((l.map numOf).map fun z=>(z-za) % zb).zip l).map fun p=>(p.1,numOf p.2))=(l.map numOf).map fun z=>((z-za) % zb,z):=by
    intro l;induction l with
    |nil=>rfl
    |cons x l ih=>simp only[eJ,List.zip_cons_cons,ih]
   exact go its
  have F6:bg ((ps.map fun p=>(p.1,numOf p.2)).map (fun p=>V.int p.2)) (ps.map Prod.snd):=by
   have go:∀ (l:List (Int×Value)),(∀p∈l,∃n t,p.2=.int n t)->bg ((l.map fun p=>(p.1,numOf p.2)).map (fun p=>V.int p.2)) (l.map Prod.snd):=by
    intro l;induction l with
    |nil=>intro _;exact .nil
    |cons x l ih=>
     intro hx;refine .cons ?_ (ih fun p hp=>hx p (du _ hp));obtain⟨n,t,e⟩:=hx x bZ;show ∃t,x.2=Value.int (numOf x.2) t;rw[e];exact⟨t,rfl⟩
   exact go ps Kb
  have DT:O4 za zb ns ((ps.map fun p=>(p.1,numOf p.2)).map (·.2)):=by
   refine⟨ps.map fun p=>(p.1,numOf p.2),?_,rfl,?_⟩
   .rw[<-T9];exact hp.map _
   .refine jt.mpr (hs.imp fun {p q} z=>?_);simpa using z
  have hDo:h'.get? D=some (seqObj "list" out cc):=(N' _ bZ).1;have I2:aZ X ag σ (upd H D (.lst (((ps.map fun p=>(p.1,numOf p.2)).map (·.2)).map V.int))) { s with heap:=h',toks:=tk }:=by
   refine I.TH F F' (fun p hp=>N' p (du _ hp)) hD ⟨?_,ps.map Prod.snd,cc,?_,?_⟩
   .have h1:=hp.length_eq;rw[List.length_zip,len,Nat.min_self] at h1;simp only[aP];rw[h1,hI.length];exact aY (kO T4) (by decide)
   .have ev:=F6;simp only[cy] at ev |-;exact ev
   .rw[hDo,<-ho]
  exact⟨.ref D,_,I2,rfl,q D _ (I.cI.sk hD) DT⟩
def wf(mg:Str->Option Value)(base:Heap):Prop:=∃bm o,mg "__builtins__"=some (.ref bm)/\bm≠builtinsNs/\bm≠mainGlobals/\base.get? bm=some o/\o.cls=.type "module"/\o.dict=some builtinsNs/\o.data=.plain
def Cs(ts:List Addr)(H:Hp):Prop:=(∀P∈ts,H P=some (.qu #[]))/\∀b,H b=none\/(b∈ts/\H b=some (.qu #[]))\/∃o xs,H b=some (.tV o (.lst xs))
theorem DU{P:Program}{w:World}{K:PySem.W.Frag}{mg mb:Str->Option Value}{CX:xH}{k:Nat}{fa a:Addr}{fd:FuncData}{x:Str}{sp:Sp}{s₁:Shared}{vs:List Value}{ns:List Int}{ts:List Addr}(KX:K.In s₁.heap)(y3:s₁.heap.Ns mainGlobals mg)(hb:s₁.heap.Ns builtinsNs mb)(hbb:∀x:Str,x≠"__name__"->mb x=bootBuiltins x)(Y_:s₁.heap.NoLimit)(hg:s₁.gens=#[])(hbm:wf mg s₁.heap)(T_:∀P∈ts,s₁.heap.get? P=some (PySem.W.tabObj #[]))(qK:∀P∈ts,∃c,PySem.W.codeHdIn K c P=true)(Ua:∀P∈ts,K.lookup P=none)(ha:s₁.heap.get? a=some { cls:=.type "list",data:=.seq vs.toArray })(hi:IntsAre vs ns)(hl:ns.length<=sizeLine)(hr:cB k callerA)(F:∀base:Heap,K.In base->base.Ns mainGlobals mg->wf mg base->bU P w K mg base CX k fa fd [x] sp)(Ub:∀ (s:Shared) (u:Value),BindsTo s fd ⟨[u],[]⟩ [(x,u)])(EX:∀H:Hp,Cs ts H->aV K H a (ns.map V.int)->sp [.ref a] H (fun v _=>v=.bl true) fun _ _ _=>False)(Za:∀H e s',CX [] H s₁ (fun _ _ _=>False) e s'->False):
  codeAny (model P w) callerA (.call (.ref fa) ⟨[.ref a],[]⟩) (fun r s'=>r=.ok (.ret (.bool true))/\OldK s₁.heap s'.heap/\s'.os=s₁.os/\AllBare s'.gens) s₁:=by
 have rv:=pB hi;have Zb:=hi.length;have hat:a∉ts:=fun z=>by
  have:=T_ a z;rw[ha] at this;cases this
 have Uc:∀H:Hp,Cs ts H->aV K H a (ns.map V.int)->lA P w H s₁.heap->(∀b,H b≠none->b=a\/b∈ts)->(H a≠none->K.lookup a=none)->
   codeAny (model P w) callerA (.call (.ref fa) ⟨[.ref a],[]⟩) (fun r s'=>r=.ok (.ret (.bool true))/\OldK s₁.heap s'.heap/\s'.os=s₁.os/\AllBare s'.gens) s₁:=by
  intro H hO hS cI hA hK;have wg:∀ {b:Addr} {o:Obj},s₁.heap.get? b=some o->H b=none->(tY s₁.heap H).get? b=some o:=fun e n=>Ft e n;have RM:∀ {b:Addr} {o:Obj},s₁.heap.get? b=some o->(∀v n,o.data≠.seq v n)->(∀v,o.data≠.fields v)->H b=none:=fun {b o} e d1 d2=>by
   cases q:H b with
   |none=>rfl
   |some u=>
    rcases hA b (by rw[q];simp) with e'|e'
    .subst e';rw[ha] at e;cases e;exact absurd rfl (d1 _ _)
    .rw[T_ b e'] at e;cases e;exact absurd rfl (d2 _)
  have Xc:∀ {b:Addr} {m:Str->Option Value},s₁.heap.Ns b m->(tY s₁.heap H).Ns b m:=fun {b m} ⟨o,es,ep,e,d,r⟩=>⟨o,es,ep,wg e (RM e (by rw[d];intro v n z;cases z) (by rw[d];intro v z;cases z)),d,r⟩
  have hKb:K.In (tY s₁.heap H):=fun b o e=>wg (KX b o e) (by
   cases q:H b with
   |none=>rfl
   |some u=>
    rcases hA b (by rw[q];simp) with e'|e'
    .subst e';rw[hK (by rw[q];simp)] at e;cases e
    .rw[Ua b e'] at e;cases e)
  have hB:wf mg (tY s₁.heap H):=by
   obtain⟨bm,o,b1,b2,b3,b4,b5,b6,b7⟩:=hbm;exact⟨bm,o,b1,b2,b3,wg b4 (RM b4 (by rw[b7];intro v n z;cases z) (by rw[b7];intro v z;cases z)),b5,b6,b7⟩
  have hM:Mod K mg (tY s₁.heap H):=⟨hKb,Xc y3,⟨mb,Xc hb,hbb⟩,let ⟨mc,h1,h2⟩:=Y_;⟨mc,Xc h1,h2⟩⟩
  have e0:At P w K mg (tY s₁.heap H) callerA [] s₁ H:=⟨rfl,hM,fun b o e=>JN e,o4 (Dp _ _),trivial,fun b hb=>absurd (show b∈([]:List Addr) from hb) (by simp),cI,.of_eq hg⟩
  refine o5 ((F _ hKb (Xc y3) hB).run callerA [] s₁ H ⟨[.ref a],[]⟩ [.ref a] [.ref a] _ _ hr e0 (Ub s₁ (.ref a)) (.cons rfl .nil) (EX H hO hS)) fun r s' h=>?_;cases r with
  |error e=>exact(Za H e s' h).elim
  |ok fl=>
   cases fl with
   |next=>exact False.elim h
   |brk=>exact False.elim h
   |cont=>exact False.elim h
   |ret u=>
    obtain⟨v,H',os,bare,un,Ud,r',q⟩:=h;have q':v=.bl true:=q;subst q';obtain rfl:u=Value.bool true:=r';refine⟨rfl,⟨fun b o e=>?_,fun b o e=>un.there b o e (by simp)⟩,os,bare⟩;cases q:H b with
    |none=>exact .inl (un.keep b o e q (by intro z;exact absurd (show b∈([]:List Addr) from z) (by simp)) (by simp))
    |some u=>
     rcases hO.2 b with z|⟨zt,z⟩|⟨ob,xs,z⟩
     .rw[q] at z;cases z
     .obtain⟨more,z2⟩:=un.rS b _ z;have e1:=T_ b zt;rw[e] at e1;cases e1;have e2:s'.heap.get? b=some { cls:=.none,data:=.fields (#[]++more) }:=Ud b _ z2;obtain⟨c,hc⟩:=qK b zt;obtain⟨oc,vsc,_,_,_,_,_,_,_,g1,g2,g3,g4,_⟩:=PySem.W.codeHd_of_K KX hc;exact .inr (.inl ⟨⟨c,oc,vsc,g1,g2,g3,g4⟩,rfl,#[],more,rfl,e2⟩)
     .have z2:=un.rR b ob _ z;obtain⟨e1,_⟩:=cI b _ z;obtain⟨e2,_⟩:=Ud b _ z2;rw[e] at e1;cases e1;exact .inl e2
 have aa8:∀ (H:Hp),(∀P∈ts,H P=some (.qu #[]))->True:=fun _ _=>trivial
 classical
 cases hk:K.lookup a with
 |some o=>
  have e:=KX a o hk;rw[ha] at e;cases e;refine Uc (fun b=>if b∈ts then some (.qu #[]) else none) ⟨fun P hP=>aD hP,fun b=>?_⟩ (.inr ⟨_,vs.toArray,_,hk,rfl,rfl,rfl,by rw[bQ,Zb];exact hl,by simpa using rv⟩) (fun b u z=>?_) (fun b z=>?_) fun z=>absurd (au hat) z
  .by_cases hb:b∈ts
   .exact .inr (.inl ⟨hb,aD hb⟩)
   .exact .inl (au hb)
  .by_cases hb:b∈ts
   .have z':=(aD hb).symm.trans z;cases z';exact T_ b hb
   .have z':=(au hb).symm.trans z;cases z'
  .by_cases hb:b∈ts
   .exact .inr hb
   .exact absurd (au hb) z
 |none=>
  refine Uc (fun b=>if b=a then some (.tV { cls:=.type "list",data:=.seq vs.toArray } (.lst (ns.map V.int))) else if b∈ts then some (.qu #[]) else none) ⟨fun P hP=>?_,fun b=>?_⟩ (.inl (.inr ⟨{ cls:=.type "list",data:=.seq vs.toArray },aD rfl⟩)) (fun b u z=>?_) (fun b z=>?_) fun _=>hk
  .have:P≠a:=fun z=>hat (z ▸ hP);show (if P=a then _ else if P∈ts then _ else _)=_;rw[au this,aD hP]
  .by_cases hb:b=a
   .exact .inr (.inr ⟨_,_,aD hb⟩)
   .by_cases ht:b∈ts
    .exact .inr (.inl ⟨ht,by show (if b=a then _ else if b∈ts then _ else _)=_;rw[au hb,aD ht]⟩)
    .exact .inl (by show (if b=a then _ else if b∈ts then _ else _)=_;rw[au hb,au ht])
  .by_cases hb:b=a
   .have z':=(aD hb).symm.trans z;cases z';subst hb;exact⟨ha,by rw[aP];exact hl,vs,_,rv,ha⟩
   .have z1:(if b∈ts then some (HO.qu #[]) else none)=some u:=(au hb).symm.trans z;by_cases ht:b∈ts
    .rw[aD ht] at z1;cases z1;exact T_ b ht
    .rw[au ht] at z1;cases z1
  .by_cases hb:b=a
   .exact .inl hb
   .by_cases ht:b∈ts
    .exact .inr ht
    .exact absurd (by show (if b=a then _ else if b∈ts then _ else _)=_;rw[au hb,au ht]) z
theorem Gu{l:PySem.W.OpenLaw}{n k:Nat}{q:Program}{uG:List Str}{XP:(Str->Option Value)->Heap->Prop}{YP:World->Heap->Prop}{d:DefRec}{K:Params->PySem.W.Frag}{CX:World->xH}{sp:World->Sp}{x:Str}{ts:List Addr}(hn:l.most=some n)(RL:n<=sizeLine)(Tl:d.params.defaults=[])(hr:cB k callerA)(hY:∀ (w:World) (h:Heap),YP w h->(K w.params).In h)(hT:∀ (w:World) (h:Heap),YP w h->∀P∈ts,h.get? P=some (PySem.W.tabObj #[]))(qK:∀ (w:World),∀P∈ts,∃c,PySem.W.codeHdIn (K w.params) c P=true)(Ua:∀ (w:World),∀P∈ts,(K w.params).lookup P=none)(F:∀ (w:World) (mg:Str->Option Value) (fa:Addr) (h:Heap),(K w.params).In h->h.Ns mainGlobals mg->mg d.name=some (.ref fa)->
   ∃fd:FuncData,(∀ (s:Shared) (u:Value),BindsTo s fd ⟨[u],[]⟩ [(x,u)])/\
    ∀base:Heap,(K w.params).In base->base.Ns mainGlobals mg->wf mg base->bU l.prog w (K w.params) mg base (CX w) k fa fd [x] (sp w))(EX:∀ (w:World) (H:Hp) (a:Addr) (ns:List Int),ns.length<=n->Cs ts H->aV (K w.params) H a (ns.map V.int)->sp w [.ref a] H (fun v _=>v=.bl true) fun _ _ _=>False)(Za:∀ (w:World) (H:Hp) (s:Shared) (e:Value) (s':Shared),CX w [] H s (fun _ _ _=>False) e s'->False):
  PySem.W.WalkO q uG XP YP l.row.toRowW d [] (fun f vs=>PySem.call f vs):=by
 refine Att.xL hn Tl fun w s₀ s₁ mg mb fa o pm cd mU a vs ns G Y ho hd abd Tn ON F7 dz hg=>?_;have KX:=hY w _ Y;obtain⟨fd,hb,hF⟩:=F w mg fa _ KX G.T.g Tn;have hB:wf mg s₁.heap:=by
  obtain⟨bm,ob,b1,b2,b3,b4,b5,b6⟩:=G.T.bmain;refine⟨bm,ob,b1,b2,fun z=>?_,b3,b4,b5,b6⟩;obtain⟨o',es,ep,e,SI,_⟩:=G.T.g;rw[z,e] at b3;cases b3;rw[SI] at b6;cases b6
 exact DU KX G.T.g G.T.b G.T.builtins G.T.nolimit hg hB (hT w _ Y) (qK w) (Ua w) ON F7 (aY dz RL) hr hF hb (fun H hO hS=>EX w H a ns dz hO hS) fun H e s'=>Za w H s₁ e s'
structure AQ(K:PySem.W.Frag)(x qual:Str)(st:Stmt)(f:Addr)(fd:FuncData)(c:Addr):Prop where
 ex:∃ (oc:Value) (od:Option Addr) (kV mU pm:Value) (an:Option Addr) (ct:Value) (uB:Array (Option Value)),
  fd=PySem.W.fnOf x qual (dZ st) (b_ st) (av st) .none kV mU pm an (.ref c) ct/\K.lookup f=some ⟨oc,od,.func fd,uB⟩/\PySem.W.codeIn K (.ref c) qual=true
 kp:PySem.W.keepIn K (.ref f)=true
theorem AQ.fun{K:PySem.W.Frag}{x qual:Str}{st:Stmt}{f:Addr}{fd:FuncData}{c:Addr}(F:AQ K x qual st f fd c):gv K x qual st f fd:=by
 obtain⟨oc,od,kV,mU,pm,an,ct,uB,e,lk,qK⟩:=F.ex;exact⟨⟨oc,od,kV,mU,pm,an,_,ct,uB,e,lk,qK⟩,F.kp⟩
section
variable {P:Program} {w:World} {K:PySem.W.Frag} {mg:Str->Option Value} {base:Heap}
theorem AQ.ok{x qual:Str}{st:Stmt}{f:Addr}{fd:FuncData}{c:Addr}{N ps:List Str}{k:Nat}{sp:Sp}(F:AQ K x qual st f fd c)(S:aT N ps (av st))(len:∀vs H Q E,sp vs H Q E->vs.length=ps.length)(r9:∀ (A:Around) (outer:List Env) (s:Shared) (H:Hp) (vs:List V) (Q:VK) (E:XK),cB k (A.deeper (envOfC qual (av st) s.heap.objs.size f (.ref c)))->sp vs H Q E->
   ∃t,y0 (qw bv P w K mg base N qual (av st) f (.ref c) A outer s H E).M6 (b_ st) t/\t { nx:=fun _ H'=>Q .bz H',rt:=Q } (start N vs) H):bU P w K mg base bv (k+1) f fd ps sp:=by
 obtain⟨oc,od,kV,mU,pm,an,ct,uB,rfl,lk,qK⟩:=F.ex;refine FR lk qK S len fun A outer s H vs Q E hr EX=>?_;obtain⟨t,h,q⟩:=r9 A outer s H vs Q E hr EX;exact⟨t,h.M6,q⟩
theorem Kq{x qual:Str}{st:Stmt}{f c:Addr}{oc:Value}{od an:Option Addr}{uB:Array (Option Value)}{kV mU pm ct:Value}(l:K.lookup f=some ⟨oc,od,.func (PySem.W.fnOf x qual (dZ st) (b_ st) (av st) .none kV mU pm an (.ref c) ct),uB⟩)(qK:PySem.W.codeIn K (.ref c) qual=true)(kp:PySem.W.keepIn K (.ref f)=true):AQ K x qual st f (PySem.W.fnOf x qual (dZ st) (b_ st) (av st) .none kV mU pm an (.ref c) ct) c:=⟨⟨oc,od,kV,mU,pm,an,ct,uB,rfl,l,qK⟩,kp⟩
theorem Kr(kb:K.In base)(hb:wf mg base)(hc:PySem.W.codeHdIn K c P'=true):
  Km (qw CX P w K mg base N qual scope f (.ref c) A outer s H E).M6 c P':=⟨rfl,PySem.W.codeHd_of_K kb hc,hb⟩
end
def qP(sc Zc:Scope)(y:Str×NameKind):Bool:=match y.2 with
 |.cell=>(match sc.names.lookup y.1 with|some .cell=>true|_=>false)
 |.local=>(match sc.names.lookup y.1 with|some .local=>true|_=>false)
 |.free=>(match Zc.names.lookup y.1 with|some .cell=>true|some .free=>true|_=>false)
 |_=>true
def Gv(NB:List Str)(src:List (Option Nat))(sc:Scope)(N:List Str)(i:Nat):Bool:=match NB[i]?,src[i]? with
 |some x,some (some j)=>(N[j]?==some x)&&(match sc.names.lookup x with|some .free=>true|_=>false)
 |_,_=>true
def Cu(sc:Scope):Bool:=match sc.kind with|.function=>true|_=>false
def Gw(NB:List Str)(src:List (Option Nat))(sc Zc:Scope)(N:List Str):Bool:=
 Cu sc&&decide NB.Nodup&&(src.length==NB.length)&&(sc.names.all (qP sc Zc))&&(List.range NB.length).all (Gv NB src sc N)
theorem bJ(h:Gw NB src sc X.env.scope X.N=true):iX NB src sc X:=by
 unfold Gw at h;simp only[gg,rq,fP,hG] at h;obtain⟨⟨⟨⟨h1,h2⟩,h3⟩,h4⟩,h5⟩:=h;refine⟨?_,h2,h3,fun y hy z=>?_,fun y hy z=>?_,fun y hy z=>?_,fun i x j e1 e2=>?_⟩
 .unfold Cu at h1;split at h1
  .assumption
  .cases h1
 .have:=h4 y hy;obtain⟨n,k⟩:=y;obtain rfl:k=.cell:=z;dsimp only[qP] at this |-;split at this
  .assumption
  .cases this
 .have:=h4 y hy;obtain⟨n,k⟩:=y;obtain rfl:k=.local:=z;dsimp only[qP] at this |-;split at this
  .assumption
  .cases this
 .have:=h4 y hy;obtain⟨n,k⟩:=y;obtain rfl:k=.free:=z;dsimp only[qP] at this |-;split at this
  .exact .inl (by assumption)
  .exact .inr (by assumption)
  .cases this
 .have hi:i<NB.length:=(cY.mp e1).1;have:=h5 i (bH.mpr hi);unfold Gv at this;rw[e1,e2] at this;simp only[gg,fP] at this;refine⟨this.1,?_⟩;have t2:=this.2;split at t2
  .assumption
  .cases t2
theorem dh{K:PySem.W.Frag}{a D:Addr}{xs:List V}{g:TG}{tt:TT}{te:TE}{dJ:Hp->Prop}{σB:St}{H0:Hp}(Pv:Nat->List V->St->Hp->Prop)(h0:Pv 0 [] σB H0)(hl:∀i ys σ H,i<=xs.length->Pv i ys σ H->aV K H a xs)(hs:∀i x ys σ H (Kt:V->St->Hp->Prop) (Kf:St->Hp->Prop),xs[i]?=some x->Pv i ys σ H->
   (∀v σ2 H4,H4 D=some (.lst ys)->ys.length<sizeLine->Pv (i+1) (ys++[v]) σ2 (upd H4 D (.lst (ys++[v])))->Kt v σ2 H4)->(∀σ2 H3,Pv (i+1) ys σ2 H3->Kf σ2 H3)->
   g x σ H fun σ2 H2=>tt σ2 H2 fun b H3=>if b=true then te σ2 H3 fun v H4=>Kt v σ2 H4 else Kf σ2 H3)(hd:∀ys σ H,Pv xs.length ys σ H->dJ H):gJ (Dr K a) g tt te D dJ σB H0:=by
 refine⟨fun i m σ H=>m=xs.length-i/\i<=xs.length/\∃ys,Pv i ys σ H,⟨xs.length,by simp,de _,[],h0⟩,?_⟩;rintro i m σ H ⟨rfl,hi,ys,p⟩;have q:=hl i ys σ H hi p;by_cases fz:i<xs.length
 .refine .inr ⟨⟨xs,xs[i],q,by simp[fz]⟩,?_⟩;rintro x H' ⟨rfl,y⟩;exact hs i x ys σ _ (fun v σ2 H4=>∃ys,H4 D=some (.lst ys)/\ys.length<sizeLine/\∃m',m'<xs.length-i/\m'=xs.length-(i+1)/\i+1<=xs.length/\∃xY,Pv (i+1) xY σ2 (upd H4 D (.lst (ys++[v]))))
   (fun σ2 H3=>∃m',m'<xs.length-i/\m'=xs.length-(i+1)/\i+1<=xs.length/\∃xY,Pv (i+1) xY σ2 H3) (y xs q) p
   (fun v σ2 H4 z1 z2 z3=>⟨ys,z1,z2,_,by lia,rfl,fz,_,z3⟩) (fun σ2 H3 z=>⟨_,by lia,rfl,fz,_,z⟩)
 .have e:i=xs.length:=by lia
  subst e;exact .inl ⟨⟨xs,q,aW _⟩,hd ys σ H p⟩
theorem eT{lo:Int}{n:Nat}{D:Addr}{g:TG}{tt:TT}{te:TE}{dJ:Hp->Prop}{σB:St}{H0:Hp}(Pv:Nat->List V->St->Hp->Prop)(h0:Pv 0 [] σB H0)(hs:∀i ys σ H (Kt:V->St->Hp->Prop) (Kf:St->Hp->Prop),i<n->Pv i ys σ H->
   (∀v σ2 H4,H4 D=some (.lst ys)->ys.length<sizeLine->Pv (i+1) (ys++[v]) σ2 (upd H4 D (.lst (ys++[v])))->Kt v σ2 H4)->(∀σ2 H3,Pv (i+1) ys σ2 H3->Kf σ2 H3)->
   g (.int (lo+i)) σ H fun σ2 H2=>tt σ2 H2 fun b H3=>if b=true then te σ2 H3 fun v H4=>Kt v σ2 H4 else Kf σ2 H3)(hd:∀ys σ H,Pv n ys σ H->dJ H):gJ (EW lo n) g tt te D dJ σB H0:=by
 refine⟨fun i m σ H=>m=n-i/\i<=n/\∃ys,Pv i ys σ H,⟨n,by simp,de _,[],h0⟩,?_⟩;rintro i m σ H ⟨rfl,hi,ys,p⟩;by_cases fz:i<n
 .refine .inr ⟨fz,?_⟩;rintro x H' ⟨rfl,rfl⟩;exact hs i ys σ _ (fun v σ2 H4=>∃ys,H4 D=some (.lst ys)/\ys.length<sizeLine/\∃m',m'<n-i/\m'=n-(i+1)/\i+1<=n/\∃xY,Pv (i+1) xY σ2 (upd H4 D (.lst (ys++[v]))))
   (fun σ2 H3=>∃m',m'<n-i/\m'=n-(i+1)/\i+1<=n/\∃xY,Pv (i+1) xY σ2 H3) fz p
   (fun v σ2 H4 z1 z2 z3=>⟨ys,z1,z2,_,by lia,rfl,fz,_,z3⟩) (fun σ2 H3 z=>⟨_,by lia,rfl,fz,_,z⟩)
 .have e:i=n:=by lia
  subst e;exact .inl ⟨aW _,hd ys σ H p⟩
section
variable {κ:Type} [DecidableEq κ]
def iI(df:List (κ×V))(k:κ):Option V:=(df.find? fun kv=>decide (kv.1=k)).map (·.2)
def sA(df:List (κ×V))(k:κ)(v:V):List (κ×V):=
 if (df.any fun kv=>decide (kv.1=k))=true then df.map (fun kv=>if kv.1=k then (kv.1,v) else kv) else df++[(k,v)]
theorem eU{p:κ×V}{r:List (κ×V)}{k:κ}(e:p.1=k):iI (p::r) k=some p.2:=by simp[iI,oW,e]
theorem eV{p:κ×V}{r:List (κ×V)}{k:κ}(e:¬ p.1=k):iI (p::r) k=iI r k:=by simp[iI,oW,e]
theorem nF(k:κ):∀df:List (κ×V),(df.any fun kv=>decide (kv.1=k))=(iI df k).isSome
 |[]=>rfl
 |p::r=>by
  rw[kN];by_cases e:p.1=k
  .simp only[eU e,cx e,Bool.true_or,zH]
  .rw[eV e,di e,Bool.false_or];exact nF k r
theorem xZ(k j:κ)(y:V):∀df:List (κ×V),iI (df.map fun kv=>if kv.1=k then (kv.1,y) else kv) j=(iI df j).map fun x=>if j=k then y else x
 |[]=>rfl
 |p::r=>by
  have ih:=xZ k j y r;rw[eJ];by_cases h:p.1=k
  .rw[aD h];by_cases e:p.1=j
   .rw[eU (p:=(p.1,y)) e,eU e,oU,aD (e.symm.trans h)]
   .rw[eV (p:=(p.1,y)) e,eV e,ih]
  .rw[au h];by_cases e:p.1=j
   .rw[eU (p:=p) e,eU e,oU,au (fun z=>h (e.trans z))]
   .rw[eV (p:=p) e,eV e,ih]
theorem uP(k j:κ)(y:V):∀df:List (κ×V),iI df k=none->iI (df++[(k,y)]) j=if j=k then some y else iI df j
 |[],_=>by
  by_cases e:k=j
  .rw[aD e.symm];exact eU (p:=(k,y)) e
  .rw[au (fun z=>e z.symm)];exact eV (p:=(k,y)) e
 |p::r,hn=>by
  rw[List.cons_append];have hk:¬ p.1=k:=fun z=>by rw[eU z] at hn;cases hn
  rw[eV hk] at hn;have ih:=uP k j y r hn;by_cases e:p.1=j
  .rw[eU e,eU e,au (fun z=>hk (e.trans z))]
  .rw[eV e,eV e,ih]
theorem Gx(df:List (κ×V))(k j:κ)(y:V):iI (sA df k y) j=if j=k then some y else iI df j:=by
 unfold sA;by_cases a:(df.any fun kv=>decide (kv.1=k))=true
 .rw[aD a,xZ];rw[nF] at a;by_cases e:j=k
  .obtain⟨x,hx⟩:=vf.mp a;rw[aD e,e,hx,oU,aD rfl]
  .rw[au e];cases iI df j with
   |none=>rfl
   |some x=>rw[oU,au e]
 .rw[au a];refine uP k j y df ?_;rw[nF] at a;cases q:iI df k with
  |none=>rfl
  |some x=>rw[q] at a;exact(a rfl).elim
theorem x_(df:List (κ×V))(k:κ)(v:V):(sA df k v).length<=df.length+1:=by
 unfold sA;split
 .rw[aP];lia
 .rw[cn,dC,List.length_nil];lia
theorem ni.pH(r:ni o u):o.isSome=u.isSome:=by
 cases o with
 |none=>cases u with
  |none=>rfl
  |some _=>exact(show False from r).elim
 |some _=>cases u with
  |none=>exact(show False from r).elim
  |some _=>rfl
theorem KV.val{df:List (κ×V)}{vs:List (κ×Value)}(r:KV df vs)(k:κ):ni (iI df k) (valueAt vs k):=by
 unfold KV at r;induction r with
 |nil=>exact True.intro
 |@cons p q ps qs h t ih=>
  obtain⟨h1,h2⟩:=h;by_cases e:p.1=k
  .have e':q.1=k:=h1.symm.trans e;have b:valueAt (q::qs) k=some q.2:=by simp[valueAt,oW,e']
   rw[eU e,b];exact h2
  .have e':¬ q.1=k:=fun z=>e (h1.trans z);have b:valueAt (q::qs) k=valueAt qs k:=by simp[valueAt,oW,e']
   rw[eV e,b];exact ih
end
theorem Ni(r:b8 (kV k) u):(cq P w).is k u=true:=by
 cases k with
 |inl i=>obtain⟨t,e⟩:=(show ∃t,u=Value.int i t from r);subst e;exact xw P w i t
 |inr x=>obtain⟨t,e⟩:=(show ∃t,u=Value.str x t from r);subst e;exact xx P w x t
theorem uQ:∀ {ks:List iC} {us:List Value},bg (ks.map kV) us->ItemsAre (cq P w) ks us
 |[],_,r=>by rw[List.map_nil] at r;cases r;exact .nil
 |k::ks,_,r=>by
  rw[eJ] at r;cases r with
  |cons h t=>exact .cons (Ni h) (uQ t)
abbrev KT(H:Hp):List (List iC×V)->List (List iC×Addr×Value)->Prop:=Paired fun p q=>p.1=q.1/\H q.2.1=some (.tup (p.1.map kV))/\b8 p.2 q.2.2
theorem KT.val{H:Hp}{df:List (List iC×V)}{xs:List (List iC×Addr×Value)}(r:KT H df xs)(k:List iC):ni (iI df k) ((atKey xs k).map (·.2)):=by
 induction r with
 |nil=>exact True.intro
 |@cons p q ps qs h t ih=>
  obtain⟨h1,_,h2⟩:=h;by_cases e:p.1=k
  .have e':q.1=k:=h1.symm.trans e;have b:atKey (q::qs) k=some q.2:=by simp[atKey,oW,e']
   rw[eU e,b];exact h2
  .have e':¬ q.1=k:=fun z=>e (h1.trans z);have b:atKey (q::qs) k=atKey qs k:=by simp[atKey,oW,e']
   rw[eV e,b];exact ih
theorem KT.Zd(r:KT H df xs)(k:List iC)(ry:b8 y u):
  KT H (df.map fun kv=>if kv.1=k then (kv.1,y) else kv) (xs.map (putAt k u)):=by
 induction r with
 |nil=>exact .nil
 |@cons p q ps qs h t ih=>
  rw[eJ,eJ];refine .cons ?_ ih;obtain⟨h1,h2,h3⟩:=h;unfold putAt;by_cases e:p.1=k
  .rw[aD e,aD (h1.symm.trans e)];exact⟨h1,h2,ry⟩
  .rw[au e,au (fun z=>e (h1.trans z))];exact⟨h1,h2,h3⟩
theorem KT.put(r:KT H df xs)(k:List iC)(hb:H b=some (.tup (k.map kV)))(ry:b8 y u):
  KT H (sA df k y) (storedH xs k b u):=by
 have e:(df.any fun kv=>decide (kv.1=k))=(atKey xs k).isSome:=by
  rw[nF,(r.val k).pH,Option.isSome_map]
 unfold sA storedH;rw[e];by_cases q:(atKey xs k).isSome=true
 .rw[aD q,aD q];exact r.Zd k ry
 .rw[au q,au q];exact Paired.snoc r ⟨rfl,hb,ry⟩
theorem KT.keeps(r:KT H df xs)(ht:∀b ys,H b=some (.tup ys)->H' b=some (.tup ys)):KT H' df xs:=
 Paired.Od r fun _ _ z=>⟨z.1,ht _ _ z.2.1,z.2.2⟩
section
variable {P:Program} {w:World} {H:Hp} {h:Heap} {a:Addr}
theorem Nj(ok:lA P w H h)(e:Rd H a u):cF P w H h a u:=e.ok ok
theorem Ue(ok:lA P w H h)(e:Rd H a (.dK df)):df.length<=sizeLine/\(a==sysModules)=false/\∃vs,KV df vs/\h.DictOf (cq P w) a vs:=
 show cF P w H h a (.dK df) from Nj ok e
theorem pI(ok:lA P w H h)(e:H a=some (.tup (ks.map kV))):(tupleKind (cq P w)).is h ks a:=by
 obtain⟨_,its,r,o,h1,h2,n,h3,_⟩:=(show cF P w H h a (.tup (ks.map kV)) from ok a _ e)
 exact⟨o,its.toArray,n,h1,h2,h3,by simpa using uQ r⟩
theorem Uf(ok:lA P w H h)(e:Rd H a (.dT df)):df.length<=sizeLine/\(a==sysModules)=false/\
  ∃xs,KT H df xs/\h.DictOfH (tupleKind (cq P w)) a xs:=by
 obtain⟨z,y,xs,r,o,es,ep,h1,h2,h3,h4,h5⟩:=(show cF P w H h a (.dT df) from Nj ok e)
 refine⟨z,y,xs,r,o,es,ep,h1,h2,h3,h4,fun x hx=>?_,h5⟩;have all:∀ {l:List (List iC×V)} {m:List (List iC×Addr×Value)},KT H l m->∀x∈m,(tupleKind (cq P w)).is h x.1 x.2.1:=by
  intro l m q;induction q with
  |nil=>intro x hx;exact nomatch hx
  |@cons p q ps qs hq t ih=>
   intro x hx;rcases bW.mp hx with e|hx
   .subst e;exact pI ok (by rw[<-hq.1];exact hq.2.1)
   .exact ih x hx
 exact all r x hx
end
def Gy(H:Hp)(a:Addr)(y:V)(r:Option V):Prop:=
 (∃df k,Rd H a (.dK df)/\y=kV k/\r=iI df k)\/∃df k b,Rd H a (.dT df)/\y=.ref b/\H b=some (.tup (k.map kV))/\r=iI df k
theorem Gy.t(e:H a=some (.dT df))(eb:H b=some (.tup (k.map kV))):Gy H a (.ref b) (iI df k):=.inr ⟨df,k,b,.inl e,rfl,eb,rfl⟩
section
variable {X:Cx} {ag:List (Addr×Obj)} {σ:St} {H:Hp} {s:Shared} {a:Addr} {y v:V} {u r:Value} {o:Option V} {A:Around} {E:Value->Shared->Prop}
theorem aZ.big(I:aZ X ag σ H s):sysModules<s.heap.objs.size:=by
 have h:mainGlobals<s.heap.objs.size:=(I.mod.glob.keeps I.bk).lt;exact rM (by decide) h
theorem Ze(hu:A.units+1<cLine)(I:aZ X ag σ H s)(g:Gy H a y o)(ry:b8 y u)(h:∀s',aZ X ag σ H s'->Q (.bool o.isSome) s'):
  wpAny (model X.prog X.w) A (compareOp .In u (.ref a)) Q E s:=by
 rcases g with ⟨df,k,e,ey,l⟩|⟨df,k,b,e,ey,eb,l⟩
 .subst ey;obtain⟨z,hd,vs,Zf,dd⟩:=Ue I.cI e;refine wpAny_in_of (Ni ry) hd dd.mapOf ?_;rw[<-(Zf.val k).pH,<-l];exact h _ (I.tok _)
 .subst ey;cases (show u=Value.ref b from ry);obtain⟨z,hd,xs,Zf,dd⟩:=Uf I.cI e;refine wpAny_in_heap (tupleKind_room_in1 hu) (pI I.cI eb) hd dd ?_;have q:=(Zf.val k).pH;rw[Option.isSome_map] at q;rw[<-q,<-l];exact h _ (I.tok _)
end
section
variable {X:Cx} {ag:List (Addr×Obj)} {σ:St} {H:Hp} {s:Shared} {a:Addr} {df:List (iC×V)} {k:iC} {u:Value} {A:Around} {E:Value->Shared->Prop}
end
def Ug(ty td:TE):TE:=fun σ H Q=>ty σ H fun y H1=>td σ H1 fun x H2=>∃a o,x=.ref a/\Gy H2 a y o/\Q (.bl o.isSome) H2
section
variable {X:Cx} {o i e value:Expr} {pos Dq OB:Pos} {td ty tv:TE}
theorem O7(hu:X.A.units+1<cLine)(hi:PE X i ty)(ho:PE X o td):PC X .In i o (Ug ty td):=by
 intro ag s σ H Q I h;refine dk (hi ag s σ H _ I h) fun iv s1 ⟨y,H1,I1,ry,q1⟩=>dk (ho ag s1 σ H1 _ I1 q1) fun u s2 ⟨x,H2,I2,rx,a,ov,ex,g,q2⟩=>?_;subst ex;obtain rfl:u=Value.ref a:=rx;exact Ze hu I2 g ry fun s3 I3=>⟨.bl ov.isSome,H2,I3,rfl,q2⟩
end
theorem Gz{P:Program}{w:World}{H:Hp}(h:Heap)(hb:sysModules<h.objs.size):cF P w H (h.push { cls:=.type "dict",data:=.dict #[] }) h.objs.size (.dK []):=
 ⟨de _,ng.mpr (im (bh hb)),[],.nil,Heap.DictOf.new h⟩
def GA:TE:=fun _ H Q=>∀p,H p=none->Q (.ref p) (upd H p (.dK []))
section
variable {X:Cx} {pos:Pos}
theorem GB:PE X (.Dict [] [] pos) GA:=fun ag s σ H Q I h=>
 wpAny_Dict_empty ⟨.ref s.heap.objs.size,_,I.laid (a:=s.heap.objs.size) (o:=.dK []) (t':=s.toks) (fun _ _ q=>cg _ q) (aW _) (Gz s.heap I.big),rfl,h _ (I.cI.fresh (aW _))⟩
end
section
variable {X:Cx} {ag:List (Addr×Obj)} {σ:St} {H:Hp} {s:Shared} {a:Addr} {y d:V} {u r:Value} {o:Option V} {A:Around} {E:Value->Shared->Prop}
end
section
variable {X:Cx} {o e f:Expr} {mw jw:Pos} {td ty tx:TE}
end
section
variable {X:Cx} {ag:List (Addr×Obj)} {σ:St} {H:Hp} {s:Shared} {a:Addr} {df:List (iC×V)} {A:Around} {E:Value->Shared->Prop}
end
section
variable {X:Cx} {ag:List (Addr×Obj)} {σ:St} {H:Hp} {s:Shared} {a:Addr} {y:V} {u:Value} {A:Around} {E:Value->Shared->Prop}
end
section
variable {X:Cx}
end
section
variable {κ:Type} [DecidableEq κ]
end
section
variable {X:Cx}
theorem mz:∀ {xs:List V} {its:List Value},bg xs its->xs.all cT=true->its.countP (uC x)=xs.countP (fun z=>iH z x)
 |[],_,.nil,_=>rfl
 |y::xs,_,.cons (b:=u) r rr,f=>by
  have fy:cT y=true:=by rw[jI,gg] at f;exact f.1
  have fx:xs.all cT=true:=by rw[jI,gg] at f;exact f.2
  have h1:[u].any (uC x)=[y].any (fun z=>iH z x):=lB (.cons r .nil) (by simp[fy]);have h2:uC x u=iH y x:=by simpa using h1
  rw[kK,kK,mz rr fx,h2]
def GC:V->List V->Hp->VK->Prop:=fun x vs H Q=>∃ (l:Addr) (xs:List V) (y:V),x=.ref l/\vs=[y]/\H l=some (.lst xs)/\cT y=true/\xs.all cT=true/\Q (.int (xs.countP fun z=>iH z y)) H
theorem GD:RP X "list.count" GC:=by
 intro ag s σ H x vs v us Q I rx rv h;obtain⟨l,xs,y,rfl,rfl,hH,fy,fs,q⟩:=h;cases rx;obtain⟨u,rfl,ru⟩:=rv.one;obtain⟨z,its,n,r,hl,e⟩:=I.t9 hH;refine jK F.slot_list_count ⟨_,e,rfl⟩ F.entry_list_count (F.args_list_count_2 _ _) (SeqAt.list_countAt l its.toArray n none #[] u (uC y)) ⟨e,fun w hw=>iW ru fy r fs w (by simpa using hw),?_⟩;refine⟨.int _,H,I.tok _,⟨s.toks,?_⟩,q⟩;rw[show its.toArray.toList=its by simp,mz r fs]
end
section
variable {prog:Program} {w:World} {A:Around} {E:Value->Shared->Prop} {s:Shared}
theorem sB(xq:s.heap.IsTupleIter it t i)(ht:s.heap.IsTuple t xs)(hx:xs[i]?=some x)(q:∀h',h'.IsTupleIter it t (i+1)->Heap.SameBut it s.heap h'->Q x { s with heap:=h' }):wpAny (model prog w) A (Builtin.SmallTypes.nextOf (.ref it)) Q E s:=by
 obtain⟨o,h1,h2,h3⟩:=id xq;obtain⟨p,k1,_,n,k3⟩:=ht;unfold Builtin.SmallTypes.nextOf;refine aE (oH (name:=Str.ofString "__next__") xq.typeIs F.slot_tuple_iterator_next (l_ F.slot_tuple_iterator_next xq.typeIs F.entry_tuple_iterator_next ?_ (F.args_tuple_iterator_next_1 _)));change wpAny _ _ (field (.ref it) 0 >>= _) _ _ s;refine aE (fN h1 h3 (x:=.ref t) rfl ?_);change wpAny _ _ (if (Value.ref t==Value.none)=true then _ else _) _ _ s;rw[au (by exact cJ)];change wpAny _ _ (field (.ref it) 1 >>= _) _ _ s;refine aE (fN h1 h3 (x:=.int i 0) rfl ?_);change wpAny _ _ (seqItems? (.ref t) >>= _) _ _ s;refine aE (jG k1 k3 ?_);simp only[i8,hx];refine aE (wpAny_setField h1 h3 (by simp) (wpAny_pure ⟨x,rfl,wpAny_pure (q _ ?_ (Heap.SameBut.update ..))⟩));refine⟨_,zM _ h1 (Obj.isFreed_of_fields (Obj.data_mapFields h3 _)),(Obj.cls_mapFields ..).trans h2,?_⟩;rw[Obj.data_mapFields h3];simp[rawInt]
theorem DV(hh:A.handled=none)(xq:s.heap.IsTupleIter it t i)(ht:s.heap.IsTuple t xs)(hx:xs[i]?=none)(q:∀h' e,Heap.ExtBut it s.heap h'->(∃o,h'.get? e=some o/\o.cls=.type "StopIteration")->E (.ref e) { s with heap:=h' }):wpAny (model prog w) A (Builtin.SmallTypes.nextOf (.ref it)) Q E s:=by
 obtain⟨o,h1,h2,h3⟩:=id xq;obtain⟨p,k1,_,n,k3⟩:=ht;unfold Builtin.SmallTypes.nextOf;refine aE (oH (name:=Str.ofString "__next__") xq.typeIs F.slot_tuple_iterator_next (l_ F.slot_tuple_iterator_next xq.typeIs F.entry_tuple_iterator_next ?_ (F.args_tuple_iterator_next_1 _)));change wpAny _ _ (field (.ref it) 0 >>= _) _ _ s;refine aE (fN h1 h3 (x:=.ref t) rfl ?_);change wpAny _ _ (if (Value.ref t==Value.none)=true then _ else _) _ _ s;rw[au (by exact cJ)];change wpAny _ _ (field (.ref it) 1 >>= _) _ _ s;refine aE (fN h1 h3 (x:=.int i 0) rfl ?_);change wpAny _ _ (seqItems? (.ref t) >>= _) _ _ s;refine aE (jG k1 k3 ?_);simp only[i8,hx];refine aE (ij (aE (wpAny_setField h1 h3 (by simp) ?stop)));case stop=>
  change wpAny _ _ (newExc (.type "StopIteration") [] >>= _) _ _ _;refine aE ?_;simp only[newExc,newTuple];refine aE (kI (aE (m:=firstArgMember _ _) (wpAny_of_eq (a:=Value.none) (by simp only[firstArgMember];rfl) (kI ?_ (by size_fits)))) (by size_fits));simp only[raiseNew];refine aE (wpAny_handled ?_);rw[show A.in1.handled=none from hh];exact aE (wpAny_pure (wpAny_throw (q _ _ (fun b u hb z=>cg _ (cg _ ((zE _ _ (im hb)).trans z))) ⟨_,cR _ rfl,rfl⟩)))
end
section
variable {X:Cx}
end
section
variable {X:Cx} {tg:Expr}
end
theorem wm:typeLookup (.type "list") "keys"=pure none:=by rw[typeLookup_type,builtinLookup_eq_fast];kernel_rfl
theorem qz:typeLookup (.type "list") "__getattr__"=pure none:=by rw[typeLookup_type,builtinLookup_eq_fast];kernel_rfl
theorem sC(l:Addr)(u:Tok)(items:Array Value)(n:Nat):
  Meets (Builtin.«object.__getattribute__» ⟨[.ref l,.str "keys" u],[]⟩) (fun A R s=>s.heap.get? l=some { cls:=.type "list",data:=.seq items n }/\raisesAttr (.ref l) "keys" A R s):=
 Meets.of_wp fun prog w A R s hs=>by
  obtain⟨hp,g,d,tk,os⟩:=s;obtain⟨hl,hs⟩:=hs;have hT:(⟨hp,g,d,tk,os⟩:Shared).TypeIs (.ref l) "list":=⟨_,hl,rfl⟩
  have f1:=wm;unfold Builtin.«object.__getattribute__»;repeat (any_goals (first|assumption|wp_step))
  exact wpAny_raiseAttrError hs.1 hs.2 (attrMsg_fits (by decide +kernel) (by decide +kernel))
theorem O8(hA:A.handled=none)(hl:s.heap.get? l=some { cls:=.type "list",data:=.seq items n })(h:∀h' tk,(∀b o,s.heap.get? b=some o->h'.get? b=some o)->Q none { s with heap:=h',toks:=tk }):wpAny (model prog w) A (getAttr? (.ref l) "keys") Q E s:=by
 obtain⟨hp,g,d,tk,os⟩:=s;have hT:∀tk,(⟨hp,g,d,tk,os⟩:Shared).TypeIs (.ref l) "list":=fun _=>⟨_,hl,rfl⟩
 have f1:=sub_AttributeError;have f3:=F.slot_list_getattribute.lookup;have f4:=F.slot_list_getattribute.bind (.ref l);have f5:=qz;unfold getAttr? getAttrBy?;refine aE (wpAny_mkText ?_);refine aE (vO ?_);unfold getAttrBy;repeat (any_goals (first|assumption|((with_reducible show wpAny _ _ (call (Value.builtin "list.__getattribute__") _ _) _ _ _);refine jK F.slot_list_getattribute (hT _) F.entry_list_ga (F.args_list_getattribute_2 _ _) (sC l _ items n) ⟨hl,hA,fun h' tk' e hx=>?_⟩)|wp_step))
 obtain⟨t',u',he⟩:=hx.there;show wpAny _ _ (getattributeRaised _ _ _ _ _ _ _) _ _ _;unfold getattributeRaised;repeat (any_goals (first|assumption|wp_step))
 exact h _ _ hx.keeps
theorem qg:entryFor table "dict.update.loop"=some Builtin.«dict.update.loop»:=entryFor_of_tree (by kernel_rfl)
theorem jb:plainId "dict.update.loop"=true:=by decide +kernel
section
variable {prog:Program} {w:World} {A:Around} {E:Value->Shared->Prop} {s:Shared} {R:Result->Shared->Prop} {l d Ia:Addr}
end
section
variable {prog:Program} {w:World} {A:Around} {E:Value->Shared->Prop} {s:Shared} {l:Addr}
end
section
variable {X:Cx}
theorem uR(hc:X.calm=true):fA X (.builtin "all") (fun xs H Q=>∃ (p:Addr) (bs:List Bool),xs=[.ref p]/\aV X.K H p (bs.map V.bl)/\Q (.bl (bs.all id)) H):=by
 intro ag s σ H xs us Q I r h;obtain⟨p,bs,rfl,hp,q⟩:=h;obtain⟨u1,rfl,r1⟩:=r.one;obtain rfl:u1=Value.ref p:=r1;obtain⟨its,rv,pl,hz⟩:=I.list hp;have AM:its=bs.map Value.bool:=by
  have go:∀ (bs:List Bool) (its:List Value),bg (bs.map V.bl) its->its=bs.map Value.bool:=by
   intro bs;induction bs with
   |nil=>intro its r;cases r;rfl
   |cons b bs ih=>
    intro its r;cases r with
    |cons r rr=>
     obtain rfl:=(show _=Value.bool b from r)
     rw[ih _ rr];rfl
  exact go bs its rv
 subst AM;obtain⟨ob,Y1,_⟩:=id pl.isList;have fz:p<s.heap.objs.size:=bp Y1;refine call_all_walk (oR pl.isList ⟨s.heap.objs.size,_,_,_,_,_,fun i=>bs.getD i true,rfl,Walks.list (show X.A.in1.handled=none from I.ok.hd hc) _ p (bh fz) _,⟨⟨_,cR _ rfl,rfl,rfl⟩,pl.isList.push _⟩,fun i v s1 Q' E' hv hq=>?_,fun h' tk k=>?_⟩)
 .have Ao:(bs.map Value.bool)[i]?=some v:=by simpa using hv
  rw[bN] at Ao;cases eb:bs[i]? with
  |none=>rw[eb] at Ao;cases Ao
  |some b=>
   rw[eb] at Ao;obtain rfl:Value.bool b=v:=bX Ao;have:bs.getD i true=b:=by rw[aS,eb];rfl
   have J0:Q' b s1:=by rw[<-this];exact hq
   exact wpAny_pure J0
 .have keep:∀b o,s.heap.get? b=some o->h'.get? b=some o:=fun b o e=>k b o (by simpa using bh (bp e)) (cg _ e);refine⟨.bl (bs.all id),H,I.kept (t':=tk) keep,?_,q⟩;show Value.bool _=Value.bool _;congr 1;have go:∀ (bs:List Bool),((List.range bs.length).all fun i=>bs.getD i true)=bs.all id:=by
   intro bs;induction bs with
   |nil=>rfl
   |cons b bs ih=>
    rw[dC,oG,jI,vN,jI,<-ih];rfl
  rw[<-go bs];simp
def Ks:V->List V->Hp->VK->Prop:=fun x vs H Q=>∃ (l:Addr) (ns:List Int) (z:Int),x=.ref l/\vs=[.int z]/\H l=some (.lst (ns.map V.int))/\z∈ns/\Q .bz (upd H l (.lst ((ns.eraseIdx (ns.idxOf z)).map V.int)))
theorem ints_of:∀ {ns:List Int} {its:List Value},bg (ns.map V.int) its->∀i (h:i<its.length) (h':i<ns.length),∃t,its[i]=Value.int ns[i] t
 |[],_,.nil,i,h,_=>by simp at h
 |n::ns,_,.cons ⟨t,e⟩ r,0,_,_=>⟨t,e⟩
 |n::ns,_,.cons _ r,i+1,h,h'=>ints_of r i (by simpa using h) (by simpa using h')
def isI(z:Int)(v:Value):Bool:=match v with
 |.int y _=>y==z
 |_=>false
theorem DW:RP X "list.remove" Ks:=by
 intro ag s σ H x vs v us Q I rx rv h;obtain⟨l,ns,z,rfl,rfl,hH,hz,q⟩:=h;cases rx;obtain⟨u,rfl,ru⟩:=rv.one;obtain⟨t,rfl⟩:=ru;obtain⟨zz,its,n,r,hl,e⟩:=I.t9 hH;have dz:its.length=ns.length:=by have:=r.length;rw[aP] at this;exact this.symm
 have hj:ns.idxOf z<ns.length:=Fp.mpr hz;have at_:∀i (h:i<its.length),∃t,its[i]=Value.int (ns[i]'(by lia)) t:=fun i h=>ints_of r i h (by lia);refine jK F.slot_list_remove ⟨_,e,rfl⟩ F.entry_list_remove (F.args_list_remove_2 _ _)
  (MeetsSeq.list_remove l its.toArray n (.int z t) (isI z) (fun y hy=>?_) (ns.idxOf z) (by simpa [dz] using hj) ?_ (fun m hm fz=>?_) (by rw[bQ,dz];rw[aP] at zz;exact zz)) ⟨e,?_⟩
 .obtain⟨i,hi,rfl⟩:=kB.mp (show y∈its by simpa using hy);obtain⟨t',e'⟩:=at_ i hi;rw[e'];exact MeetsSeq.EqGives.int _ _ _ _
 .obtain⟨t',e'⟩:=at_ (ns.idxOf z) (by lia);have e2:its.toArray[ns.idxOf z]'(by simpa [dz] using hj)=its[ns.idxOf z]'(by lia):=by simp
  rw[e2,e'];show (ns[ns.idxOf z]==z)=true;rw[List.getElem_idxOf];simp
 .obtain⟨t',e'⟩:=at_ m (by simpa using hm);have e2:its.toArray[m]=its[m]'(by simpa using hm):=by simp
  rw[e2,e'];show (ns[m]==z)=false;have:=List.not_of_lt_findIdx (p:=(·==z)) (xs:=ns) (i:=m) fz;simpa using this
 .refine⟨.bz,_,I.J5 (its':=its.eraseIdx (ns.idxOf z)) hH e ?_ ?_ ?_,rfl,q⟩
  .show its.toArray.eraseIdxIfInBounds _=_;rw[Fd]
  .have em:∀ (l:List Int) (j:Nat),(l.eraseIdx j).map V.int=(l.map V.int).eraseIdx j:=by
    intro l;induction l with
    |nil=>intro j;rfl
    |cons y l ih=>
     intro j;cases j with
     |zero=>rfl
     |succ j=>simp only[List.eraseIdx_cons_succ,eJ,ih]
   rw[em];exact r.eraseIdx _
  .rw[aP,List.length_eraseIdx];rw[aP] at zz;split <;> lia
end
structure cu(P:Program)(w:World)(K:PySem.W.Frag)(mg:Str->Option Value)(base:Heap)(CX:xH)(k:Nat)(x:Str)(ps:List Str)(sp:Sp):Prop where
 ex:∃f fd,mg x=some (.ref f)/\PySem.W.keepIn K (.ref f)=true/\j7 K fd ps []/\bU P w K mg base CX k f fd ps sp
theorem az(C:cu X.prog X.w X.K X.mg X.base CX k x ps sp)(hr:cB k X.A)(hx:jO CX X E)(ha:PA X (e::es) t)(hg:Gl X x:=by rfl)(Dx:(x==("__debug__":Str))=false:=by decide)(he:starEach (e::es) X.env=(false,eval e X.env)::starEach es X.env:=by rfl)(B7:(backTo pos (starEach es X.env)).any (·.1)=false:=by rfl):
  PE X (.Call (.Name x p) (e::es) [] pos) (qb sp [] E t):=by
 obtain⟨f,fd,a,b,c,d⟩:=C.ex;exact JZ d hr hg a b c .nil hx ha Dx he B7
theorem aj(h:H D=none):aA H (upd H D o):=fun b u e=>by rw[ao (ap e h)];exact e
def aB(p:Addr)(H H':Hp):Prop:=∀b o,H b=some o->b≠p->H' b=some o
theorem aB.refl:aB p H H:=fun _ _ h _=>h
theorem aB.trans(a:aB p H H1)(b:aB p H1 H2):aB p H H2:=fun c o h n=>b c o (a c o h n) n
theorem aB.upd:aB p H (upd H p o):=fun b u h n=>by rw[ao n];exact h
theorem aB.of(s:aA H H'):aB p H H':=fun b o h _=>s b o h
theorem aB.free(s:aB p H H')(hp:H' p≠none)(h:H' q=none):H q=none:=by
 cases z:H q with
 |none=>rfl
 |some o=>
  by_cases e:q=p
  .subst e;exact absurd h hp
  .rw[s q o z e] at h;cases h
theorem eH(h:j<n):FU n (j:Int)=some j:=by
 unfold FU;rw[aD (by lia),aD (by lia)];simp
theorem DX(h:as.length=n):(as++[t]).getD j 0=if j=n then t else as.getD j 0:=by
 rw[aS,aS];by_cases hj:j=n
 .subst hj;subst h;rw[aD rfl,kn (aW _),jh];rfl
 .rw[au hj];by_cases fz:j<as.length
  .rw[i6 fz]
  .rw[kn (by lia),cj (by simp;lia),cj (by lia)]
def Holds(H:Hp)(as:List Addr)(n:Nat)(o:Nat->HO):Prop:=as.length=n/\∀j,j<n->H (as.getD j 0)=some (o j)
theorem Holds.nil:Holds H [] 0 o:=⟨rfl,fun j hj=>absurd hj (by lia)⟩
theorem Holds.snoc(h:Holds H as n o)(ht:H t=some (o n)):Holds H (as++[t]) (n+1) o:=by
 refine⟨by rw[cn,h.1];rfl,fun j hj=>?_⟩;rw[DX h.1];by_cases e:j=n
 .rw[aD e,e];exact ht
 .rw[au e];exact h.2 j (by lia)
theorem Holds.mono(h:Holds H as n o)(e:∀j,j<n->H (as.getD j 0)=some (o j)->H' (as.getD j 0)=some (o j)):Holds H' as n o:=⟨h.1,fun j hj=>e j hj (h.2 j hj)⟩
end L2
namespace PyProof.Rows
open PySem
def jc:Bool->Keyed->Array Keyed->Nat->Nat->Nat->StateT SortSt Sem (Option Nat):=sortPriv% PySem.Builtin.gallop
def sD:Array Keyed->Array Keyed->StateT SortSt Sem (Array Keyed):=sortPriv% PySem.Builtin.mergeLo
def sG:Array Keyed->Array Keyed->StateT SortSt Sem (Array Keyed):=sortPriv% PySem.Builtin.mergeHi
def jo:Nat->StateT SortSt Sem Unit:=sortPriv% PySem.Builtin.setMinGallop
def ya(prog:Program)(w:World)(A:Around)(s:Shared)(κ:SortKind)(a₀:Array Keyed):Prop:=
 ∀x y,x∈a₀.toList->y∈a₀.toList->∀ (Q:Bool->Shared->Prop) (E:Value->Shared->Prop),(∀b,Q b s)->wpAny (model prog w) A (keyLt' κ x.1 y.1) Q E s
structure SQ(κ:SortKind)(a₀:Array Keyed)(pd:Array (Nat×Nat×Nat))(st:SortSt):Prop where
 perm:(arrOf st).Perm a₀
 kind:kindOf st=κ
 failed:failedOf st=none
 pend:pendingOf st=pd
section
variable {prog:Program} {w:World} {A:Around} {E:Value->Shared->Prop} {s:Shared} {κ:SortKind} {a₀:Array Keyed} {pd:Array (Nat×Nat×Nat)}
theorem SQ.size{st:SortSt}(h:SQ κ a₀ pd st):(arrOf st).size=a₀.size:=h.perm.size_eq
theorem SQ.setArr{st:SortSt}(h:SQ κ a₀ pd st){xs:Array Keyed}(hp:xs.Perm (arrOf st)):SQ κ a₀ pd (setArr st xs):=⟨hp.trans h.perm,h.kind,h.failed,h.pend⟩
theorem SQ.at{st:SortSt}(h:SQ κ a₀ pd st){i:Nat}(hi:i<a₀.size):∃p,(arrOf st)[i]?=some p/\p∈a₀.toList:=by
 have ub:i<(arrOf st).size:=by rw[h.size];exact hi
 exact⟨(arrOf st)[i],dU _ i ub,(mX.mp h.perm).mem_iff.mp (by simp)⟩
theorem sI{st:SortSt}{x y:Keyed}{Q:Option Bool->SortSt->Prop}(hC:ya prog w A s κ a₀)(hk:kindOf st=κ)(hx:x∈a₀.toList)(hy:y∈a₀.toList)(h:∀b,Q (some b) st):wpS (model prog w) A E s (lt' x y) Q st:=by
 rw[lt'_eq];refine aJ (iS ?_);rw[hk];refine aJ (mn (vO (hC x y hx hy _ _ fun b=>⟨rfl,?_⟩)));exact a_ (h b)
theorem bS{st:SortSt}{arr:Array Keyed}{i:Nat}{p:Keyed}{Q:Keyed->SortSt->Prop}(hi:arr[i]?=some p)(h:Q p st):wpS (model prog w) A E s (elem' arr i) Q st:=by
 rw[elem'_eq,hi];exact a_ h
theorem gn{st:SortSt}{i j:Nat}{Q:Option Bool->SortSt->Prop}(hC:ya prog w A s κ a₀)(hB:SQ κ a₀ pd st)(hi:i<a₀.size)(hj:j<a₀.size)(h:∀b,Q (some b) st):wpS (model prog w) A E s (ltAt' i j) Q st:=by
 obtain⟨p,e1,m1⟩:=hB.at hi;obtain⟨q,e2,m2⟩:=hB.at hj;rw[ltAt'_eq];refine aJ (iS ?_);exact aJ (bS e1 (aJ (bS e2 (sI hC hB.kind m1 m2 h))))
theorem iJ{st:SortSt}{i j:Nat}{Q:Unit->SortSt->Prop}(hB:SQ κ a₀ pd st)(h:∀bw,SQ κ a₀ pd bw->Q () bw):wpS (model prog w) A E s (reverseSlice' i j) Q st:=by
 rw[reverseSlice'_eq];exact ik (h _ (hB.setArr (mirror_perm _ _ _ _)))
theorem GE{st:SortSt}{i j:Nat}{Q:Unit->SortSt->Prop}(hB:SQ κ a₀ pd st)(h:∀bw,SQ κ a₀ pd bw->Q () bw):wpS (model prog w) A E s (moveDown' i j) Q st:=by
 rw[moveDown'_eq];exact ik (h _ (hB.setArr (bubble_perm _ _ _)))
theorem Ku{st:SortSt}{lo n ok:Nat}{Q:Bool->SortSt->Prop}(hC:ya prog w A s κ a₀)(hn:lo+n<=a₀.size)(hB:SQ κ a₀ pd st)(h:∀bw,SQ κ a₀ pd bw->Q true bw):wpS (model prog w) A E s (binarySort' lo n ok) Q st:=by
 rw[binarySort'_eq];refine aJ (eC (gE (I:=fun _ c bw=>c=(none,())/\SQ κ a₀ pd bw) (Q:=fun c bw=>c=(none,())/\SQ κ a₀ pd bw) ?_ (fun c bw hh=>hh) ⟨rfl,hB⟩) ?_)
 .rintro k c bw hk1 RU ⟨rfl,Zg⟩;dsimp only;refine aJ (eC (gE (I:=fun _ c O9=>(∃l r,c=(none,l,r)/\r<=k)/\SQ κ a₀ pd O9) (Q:=fun c O9=>(∃l r,c=(none,l,r)/\r<=k)/\SQ κ a₀ pd O9) ?_ (fun c bw hh=>hh) ⟨⟨_,_,rfl,aW _⟩,Zg⟩) ?_)
  .rintro x c t4 _ _ ⟨⟨l,r,rfl,hr⟩,uc⟩;dsimp only;by_cases Cv:l>=r
   .rw[aD Cv];exact a_ ⟨⟨_,_,rfl,hr⟩,uc⟩
   .rw[au Cv];refine aJ (gn hC uc (by lia) (by lia) fun b=>?_);cases b
    .exact a_ ⟨⟨_,_,rfl,hr⟩,uc⟩
    .exact a_ ⟨⟨_,_,rfl,by lia⟩,uc⟩
  .rintro c t4 ⟨⟨l,r,rfl,hr⟩,uc⟩;dsimp only;exact aJ (GE uc fun Am qA=>a_ ⟨rfl,qA⟩)
 .rintro c bw ⟨rfl,Zg⟩;exact a_ (h bw Zg)
end
theorem AR(left:Bool)(key:Keyed)(arr:Array Keyed)(base n mB:Nat):jc left key arr base n mB=(do
 let wn (i:Nat):StateT SortSt Sem (Option Bool):=do
  let x <- elem' arr (base+i)
  if left then lt' x key else return (<-lt' key x).map (!·)
 let mut lastofs:=0
 let mut ofs:=1
 let mut lo:=0
 let mut hi:=0
 let some right <- wn mB|return none
 if right then
  let sJ:=n-mB
  for _ in [0:n] do
   if ofs>=sJ then break
   let some more <- wn (mB+ofs)|return none
   if !more then break
   lastofs:=ofs
   ofs:=2*ofs+1
  lo:=mB+lastofs+1
  hi:=mB+min ofs sJ
 else
  let sJ:=mB+1
  for _ in [0:n] do
   if ofs>=sJ then break
   let some GJ <- wn (mB-ofs)|return none
   if GJ then break
   lastofs:=ofs
   ofs:=2*ofs+1
  lo:=mB+1-min ofs sJ
  hi:=mB-lastofs
 for _ in [0:n] do
  if lo>=hi then break
  let m:=lo+(hi-lo) / 2
  let some more <- wn m|return none
  if more then lo:=m+1 else hi:=m
 return some hi):=rfl
section
variable {prog:Program} {w:World} {A:Around} {E:Value->Shared->Prop} {s:Shared} {κ:SortKind} {a₀:Array Keyed} {pd:Array (Nat×Nat×Nat)}
theorem iY{st:SortSt}{left:Bool}{key:Keyed}{arr:Array Keyed}{j:Nat}{Q:Option Bool->SortSt->Prop}(hC:ya prog w A s κ a₀)(hk:kindOf st=κ)(t6:key∈a₀.toList)(qh:∀x∈arr.toList,x∈a₀.toList)(hj:j<arr.size)(h:∀b,Q (some b) st):
  wpS (model prog w) A E s (do
  let x <- elem' arr j
  if left then lt' x key else return (<-lt' key x).map (!·)) Q st:=by
 have hm:arr[j]∈a₀.toList:=qh _ (by simp);refine aJ (bS (dU arr j hj) ?_);cases left
 .rw[au (by decide)];exact aJ (sI hC hk t6 hm fun b=>a_ (h (!b)))
 .rw[aD rfl];exact sI hC hk hm t6 h
theorem gQ{st:SortSt}{left:Bool}{key:Keyed}{arr:Array Keyed}{base n mB:Nat}{Q:Option Nat->SortSt->Prop}(hC:ya prog w A s κ a₀)(hk:kindOf st=κ)(t6:key∈a₀.toList)(qh:∀x∈arr.toList,x∈a₀.toList)(hn:base+n<=arr.size)(hh:mB<n)(h:∀k,k<=n->Q (some k) st):wpS (model prog w) A E s (jc left key arr base n mB) Q st:=by
 rw[AR];refine aJ (iY hC hk t6 qh (by lia) fun right=>?_);cases right
 .dsimp only;rw[au (by decide)];refine aJ (eC (gE (I:=fun _ c bw=>(∃l o,c=(none,l,o))/\st=bw) (Q:=fun c bw=>(∃l o,c=(none,l,o))/\st=bw) ?_ (fun c bw hh=>hh) ⟨⟨_,_,rfl⟩,rfl⟩) ?_)
  .rintro x c bw _ _ ⟨⟨l,o,rfl⟩,rfl⟩;dsimp only;by_cases Cv:o>=mB+1
   .rw[aD Cv];exact a_ ⟨⟨_,_,rfl⟩,rfl⟩
   .rw[au Cv];refine aJ (iY hC hk t6 qh (by lia) fun GJ=>?_);cases GJ
    .exact a_ ⟨⟨_,_,rfl⟩,rfl⟩
    .exact a_ ⟨⟨_,_,rfl⟩,rfl⟩
  .rintro c bw ⟨⟨l,o,rfl⟩,rfl⟩;dsimp only;refine aJ (eC (gE (I:=fun _ c bw=>(∃l u,c=(none,l,u)/\u<=n)/\st=bw) (Q:=fun c bw=>(∃l u,c=(none,l,u)/\u<=n)/\st=bw) ?_ (fun c bw hh=>hh) ⟨⟨_,_,rfl,by lia⟩,rfl⟩) ?_)
   .rintro x c bw _ _ ⟨⟨l,u,rfl,hu⟩,rfl⟩;dsimp only;by_cases Cv:l>=u
    .rw[aD Cv];exact a_ ⟨⟨_,_,rfl,hu⟩,rfl⟩
    .rw[au Cv];refine aJ (iY hC hk t6 qh (by lia) fun more=>?_);cases more
     .exact a_ ⟨⟨_,_,rfl,by lia⟩,rfl⟩
     .exact a_ ⟨⟨_,_,rfl,hu⟩,rfl⟩
   .rintro c bw ⟨⟨l,u,rfl,hu⟩,rfl⟩;exact a_ (h u hu)
 .dsimp only;rw[aD rfl];refine aJ (eC (gE (I:=fun _ c bw=>(∃l o,c=(none,l,o))/\st=bw) (Q:=fun c bw=>(∃l o,c=(none,l,o))/\st=bw) ?_ (fun c bw hh=>hh) ⟨⟨_,_,rfl⟩,rfl⟩) ?_)
  .rintro x c bw _ _ ⟨⟨l,o,rfl⟩,rfl⟩;dsimp only;by_cases Cv:o>=n-mB
   .rw[aD Cv];exact a_ ⟨⟨_,_,rfl⟩,rfl⟩
   .rw[au Cv];refine aJ (iY hC hk t6 qh (by lia) fun more=>?_);cases more
    .exact a_ ⟨⟨_,_,rfl⟩,rfl⟩
    .exact a_ ⟨⟨_,_,rfl⟩,rfl⟩
  .rintro c bw ⟨⟨l,o,rfl⟩,rfl⟩;dsimp only;refine aJ (eC (gE (I:=fun _ c bw=>(∃l u,c=(none,l,u)/\u<=n)/\st=bw) (Q:=fun c bw=>(∃l u,c=(none,l,u)/\u<=n)/\st=bw) ?_ (fun c bw hh=>hh) ⟨⟨_,_,rfl,by lia⟩,rfl⟩) ?_)
   .rintro x c bw _ _ ⟨⟨l,u,rfl,hu⟩,rfl⟩;dsimp only;by_cases Cv:l>=u
    .rw[aD Cv];exact a_ ⟨⟨_,_,rfl,hu⟩,rfl⟩
    .rw[au Cv];refine aJ (iY hC hk t6 qh (by lia) fun more=>?_);cases more
     .exact a_ ⟨⟨_,_,rfl,by lia⟩,rfl⟩
     .exact a_ ⟨⟨_,_,rfl,hu⟩,rfl⟩
   .rintro c bw ⟨⟨l,u,rfl,hu⟩,rfl⟩;exact a_ (h u hu)
end
structure SM(κ:SortKind)(ar:Array Keyed)(pd:Array (Nat×Nat×Nat))(st:SortSt):Prop where
 arr:arrOf st=ar
 kind:kindOf st=κ
 failed:failedOf st=none
 pend:pendingOf st=pd
abbrev qB:=Option (Array Keyed)
abbrev uS:=StateT SortSt Sem
def yb{τ:Type}(c:Bool)(d:Prop)[Decidable d](r:Array Keyed)(t:τ):uS (ForInStep (qB×τ)):=if c then pure (.done (some r,t)) else if d then pure (.done (none,t)) else pure (.yield (none,t))
def mgO{α β γ:Type}(N:Nat)(f:Nat->qB×α×β×γ×Nat×Nat->uS (ForInStep (qB×α×β×γ×Nat×Nat)))(g:qB×α×β×γ×Nat×Nat×Nat->uS (ForInStep (qB×α×β×γ×Nat×Nat×Nat)))(s:qB×α×β×γ×Nat):uS (ForInStep (qB×α×β×γ×Nat)):=do
 let t <- forIn [0:N] ((none,s.2.1,s.2.2.1,s.2.2.2.1,0,0):qB×α×β×γ×Nat×Nat) fun _ t=>f s.2.2.2.2 t
 match t.1 with
 |some r=>pure (.done (some r,t.2.1,t.2.2.1,t.2.2.2.1,s.2.2.2.2))
 |none=>do
  liftM (rule "list.sort.gallop")
  let u <- forIn [0:N] ((none,t.2.1,t.2.2.1,t.2.2.2.1,s.2.2.2.2+1,t.2.2.2.2.1,t.2.2.2.2.2):qB×α×β×γ×Nat×Nat×Nat) fun _ u=>g u
  match u.1 with
  |some r=>pure (.done (some r,u.2.1,u.2.2.1,u.2.2.2.1,u.2.2.2.2.1))
  |none=>do
   jo (u.2.2.2.2.1+1)
   pure (.yield (none,u.2.1,u.2.2.1,u.2.2.2.1,u.2.2.2.2.1+1))
def Xd{α β γ:Type}(N:Nat)(f:Nat->qB×α×β×γ×Nat×Nat->uS (ForInStep (qB×α×β×γ×Nat×Nat)))(g:qB×α×β×γ×Nat×Nat×Nat->uS (ForInStep (qB×α×β×γ×Nat×Nat×Nat)))(x:α)(y:β)(z:γ):uS (Array Keyed):=do
 let st <- get
 let s <- forIn [0:N] ((none,x,y,z,gallopOf st):qB×α×β×γ×Nat) fun _ s=>mgO N f g s
 match s.1 with
 |some r=>pure r
 |none=>liftM (unsupported "internal:list.sort.merge-bound")
section
variable {prog:Program} {w:World} {A:Around} {E:Value->Shared->Prop} {s:Shared} {κ:SortKind} {a₀:Array Keyed} {pd:Array (Nat×Nat×Nat)} {ar:Array Keyed} {F:Array Keyed->Prop}
def GP{τ:Type}(κ:SortKind)(ar:Array Keyed)(pd:Array (Nat×Nat×Nat))(F:Array Keyed->Prop)(D J:τ->Prop)(r:ForInStep (qB×τ))(st:SortSt):Prop:=SM κ ar pd st/\
 ((∃x t,r=.done (some x,t)/\F x)\/(∃t,r=.done (none,t)/\D t)\/∃t,r=.yield (none,t)/\J t)
theorem gp{τ:Type}{D J:τ->Prop}{st:SortSt}{x:Array Keyed}{t:τ}(m:SM κ ar pd st)(h:F x):wpS (model prog w) A E s (pure (.done (some x,t))) (GP κ ar pd F D J) st:=a_ ⟨m,.inl ⟨_,_,rfl,h⟩⟩
theorem jx{τ:Type}{D J:τ->Prop}{c:Bool}{d:Prop}[Decidable d]{r:Array Keyed}{t:τ}{st:SortSt}(m:SM κ ar pd st)(h1:c=true->F r)(h2:c=false->D t/\J t):wpS (model prog w) A E s (yb c d r t) (GP κ ar pd F D J) st:=by
 unfold yb;cases c
 .rw[au cJ];split
  .exact a_ ⟨m,.inr (.inl ⟨_,rfl,(h2 rfl).1⟩)⟩
  .exact a_ ⟨m,.inr (.inr ⟨_,rfl,(h2 rfl).2⟩)⟩
 .rw[aD rfl];exact gp m (h1 rfl)
theorem pJ{τ:Type}{D:τ->Prop}{J:Nat->τ->Prop}{N:Nat}{f:qB×τ->uS (ForInStep (qB×τ))}{t:τ}{st:SortSt}{Q:qB×τ->SortSt->Prop}(m:SM κ ar pd st)(hJ:J 0 t)(up:∀t,J N t->D t)(b:∀t st,SM κ ar pd st->∀i,J i t->wpS (model prog w) A E s (f (none,t)) (GP κ ar pd F D (J (i+1))) st)(h1:∀x t bw,SM κ ar pd bw->F x->Q (some x,t) bw)(h2:∀t bw,SM κ ar pd bw->D t->Q (none,t) bw):wpS (model prog w) A E s (forIn [0:N] ((none,t):qB×τ) fun _ c=>f c) Q st:=by
 refine gE (I:=fun i c bw=>c.1=none/\SM κ ar pd bw/\J i c.2) ?_ ?_ ⟨rfl,m,hJ⟩
 .rintro i ⟨_,t⟩ bw _ _ ⟨rfl,m',j⟩;refine eC (b t bw m' i j) ?_;rintro r t4 ⟨m2,⟨x,t,rfl,h⟩|⟨t,rfl,h⟩|⟨t,rfl,h⟩⟩
  .exact h1 _ _ _ m2 h
  .exact h2 _ _ m2 h
  .exact⟨rfl,m2,h⟩
 .rintro⟨_,t⟩ bw ⟨rfl,m',j⟩;rw[Nat.max_eq_right (de _)] at j;exact h2 _ _ m' (up _ j)
theorem Cw{α β γ:Type}{N:Nat}{f:Nat->qB×α×β×γ×Nat×Nat->uS (ForInStep (qB×α×β×γ×Nat×Nat))}{g:qB×α×β×γ×Nat×Nat×Nat->uS (ForInStep (qB×α×β×γ×Nat×Nat×Nat))}{x:α}{y:β}{z:γ}{J:Nat->α->β->γ->Prop}{st:SortSt}{Q:Array Keyed->SortSt->Prop}(m:SM κ ar pd st)(h0:J 0 x y z)(dn:∀i k x y z,J (i+k) x y z->J i x y z)(no:∀x y z,¬ J N x y z)(N1:1<=N)(hf:∀mg n k x y z p st,SM κ ar pd st->J (n+k) x y z->wpS (model prog w) A E s (f mg (none,x,y,z,p)) (GP κ ar pd F (fun t=>J (n+1) t.1 t.2.1 t.2.2.1) fun t=>J (n+(k+1)) t.1 t.2.1 t.2.2.1) st)(hg:∀n x y z p st,SM κ ar pd st->J n x y z->wpS (model prog w) A E s (g (none,x,y,z,p)) (GP κ ar pd F (fun t=>J n t.1 t.2.1 t.2.2.1) fun t=>J n t.1 t.2.1 t.2.2.1) st)(h:∀x bw,F x->SM κ ar pd bw->Q x bw):wpS (model prog w) A E s (Xd N f g x y z) Q st:=by
 unfold Xd;refine aJ (iS ?_);refine aJ (pJ (F:=F) (D:=fun _=>False) (J:=fun n (t:α×β×γ×Nat)=>J n t.1 t.2.1 t.2.2.1) m h0 (fun t h=>no _ _ _ h) ?_ (fun x t st m hx=>a_ (h _ _ hx m)) fun t st m j=>j.elim);intro t st m i j;unfold mgO;refine aJ (pJ (F:=F) (D:=fun t=>J (i+1) t.1 t.2.1 t.2.2.1) (J:=fun n (t:α×β×γ×Nat×Nat)=>J (i+n) t.1 t.2.1 t.2.2.1) m j (fun t h=>dn _ (N-1) _ _ _ (by rw[show i+1+(N-1)=i+N by lia];exact h)) (fun t st m n j=>hf _ _ _ _ _ _ _ _ m j) (fun x t st m hx=>gp m hx) ?_);intro t st m j;refine aJ (mn (ij ⟨rfl,?_⟩));refine aJ (pJ (F:=F) (D:=fun t=>J (i+1) t.1 t.2.1 t.2.2.1) (J:=fun n (t:α×β×γ×Nat×Nat×Nat)=>J (i+1) t.1 t.2.1 t.2.2.1) m j (fun _ h=>h) (fun t st m n j=>hg _ _ _ _ _ _ m j) (fun x t st m hx=>gp m hx) ?_);intro t st m j;refine aJ (ik ?_);exact a_ ⟨⟨m.arr,m.kind,m.failed,m.pend⟩,.inr (.inr ⟨_,rfl,j⟩)⟩
end
abbrev k7(a b out:Array Keyed)(ia ib:Nat):=out++a.extract ia a.size++b.extract ib b.size
abbrev wo(a b out:Array Keyed)(ia ib:Nat):=out++b.extract ib b.size++a.extract ia a.size
abbrev Nk ρ:=qB×Array Keyed×Nat×Nat×ρ
def loW(a b:Array Keyed)(mg:Nat)(t:Nk (Nat×Nat)):uS (ForInStep (Nk (Nat×Nat))):=do
 let x <- elem' b t.2.2.2.1
 let y <- elem' a t.2.2.1
 let some w <- lt' x y|pure (.done (some (k7 a b t.2.1 t.2.2.1 t.2.2.2.1),t.2.1,t.2.2.1,t.2.2.2.1,t.2.2.2.2.1,t.2.2.2.2.2))
 if w then do
  let x <- elem' b t.2.2.2.1
  yb (t.2.2.2.1+1==b.size) (t.2.2.2.2.2+1>=mg) (k7 a b (t.2.1.push x) t.2.2.1 (t.2.2.2.1+1)) (t.2.1.push x,t.2.2.1,t.2.2.2.1+1,0,t.2.2.2.2.2+1)
 else do
  let x <- elem' a t.2.2.1
  yb (t.2.2.1+1+1==a.size) (t.2.2.2.2.1+1>=mg) (wo a b (t.2.1.push x) (t.2.2.1+1) t.2.2.2.1) (t.2.1.push x,t.2.2.1+1,t.2.2.2.1,t.2.2.2.2.1+1,0)
def Zh(a b out:Array Keyed)(ia ib mg ac bc:Nat):uS (ForInStep (Nk (Nat×Nat×Nat))):=do
 let x <- elem' a ia
 yb (ia+1+1==a.size) ((ac<7&&bc<7)=true) (wo a b (out.push x) (ia+1) ib) (out.push x,ia+1,ib,mg,ac,bc)
def Zi(a b out:Array Keyed)(ia ib mg ac bc:Nat):uS (ForInStep (Nk (Nat×Nat×Nat))):=do
 let x <- elem' b ib
 if ib+1==b.size then pure (.done (some (k7 a b (out.push x) ia (ib+1)),out.push x,ia,ib+1,mg,ac,bc))
 else do
  let y <- elem' a ia
  let some k <- jc true y b (ib+1) (b.size-(ib+1)) 0|pure (.done (some (k7 a b (out.push x) ia (ib+1)),out.push x,ia,ib+1,mg,ac,bc))
  if k > 0 then
   if ib+1+k==b.size then pure (.done (some (k7 a b (out.push x++b.extract (ib+1) (ib+1+k)) ia (ib+1+k)),out.push x++b.extract (ib+1) (ib+1+k),ia,ib+1+k,mg,ac,k))
   else Zh a b (out.push x++b.extract (ib+1) (ib+1+k)) ia (ib+1+k) mg ac k
  else Zh a b (out.push x) ia (ib+1) mg ac k
def Zj(a b out:Array Keyed)(ia ib mg ac bc:Nat):uS (ForInStep (Nk (Nat×Nat×Nat))):=do
 jo mg
 let y <- elem' b ib
 let some k <- jc false y a ia (a.size-ia) 0|pure (.done (some (k7 a b out ia ib),out,ia,ib,mg,ac,bc))
 if k > 0 then
  if ia+k+1==a.size then pure (.done (some (wo a b (out++a.extract ia (ia+k)) (ia+k) ib),out++a.extract ia (ia+k),ia+k,ib,mg,k,bc))
  else if ia+k==a.size then pure (.done (some (k7 a b (out++a.extract ia (ia+k)) (ia+k) ib),out++a.extract ia (ia+k),ia+k,ib,mg,k,bc))
  else Zi a b (out++a.extract ia (ia+k)) (ia+k) ib mg k bc
 else Zi a b out ia ib mg k bc
def loG(a b:Array Keyed)(t:Nk (Nat×Nat×Nat)):uS (ForInStep (Nk (Nat×Nat×Nat))):=
 if t.2.2.2.2.1 > 1 then Zj a b t.2.1 t.2.2.1 t.2.2.2.1 (t.2.2.2.2.1-1) t.2.2.2.2.2.1 t.2.2.2.2.2.2 else Zj a b t.2.1 t.2.2.1 t.2.2.2.1 t.2.2.2.2.1 t.2.2.2.2.2.1 t.2.2.2.2.2.2
theorem yc(a b:Array Keyed):sD a b=(do
 liftM (rule "list.sort.merge-lo")
 let x <- elem' b 0
 if 1==b.size then pure (k7 a b #[x] 0 1) else if 0+1==a.size then pure (wo a b #[x] 0 1) else Xd (a.size+b.size) (loW a b) (loG a b) #[x] 0 1):=by kernel_rfl
def PI(a b out:Array Keyed)(ia ib:Nat):Prop:=out.toList.Perm (a.toList.take ia++b.toList.take ib)
theorem iZ{l:List Keyed}{i:Nat}(h:i<l.length):l.take (i+1)=l.take i++[l[i]]:=by rw[fZ,bq h];rfl
theorem PI.uT{a b out:Array Keyed}{ia ib:Nat}(h:PI a b out ia ib)(hi:ia<a.size):PI a b (out.push a[ia]) (ia+1) ib:=by
 unfold PI at h |-;rw[oQ,iZ (by simpa using hi),dH];refine(h.append_right _).trans ?_;rw[dH];refine lR _ ?_;have:a.toList[ia]'(by simpa using hi)=a[ia]:=by simp
 rw[this];exact jq
theorem PI.uU{a b out:Array Keyed}{ia ib:Nat}(h:PI a b out ia ib)(hi:ib<b.size):PI a b (out.push b[ib]) ia (ib+1):=by
 unfold PI at h |-;rw[oQ,iZ (by simpa using hi),<-dH];have:b.toList[ib]'(by simpa using hi)=b[ib]:=by simp
 rw[this];exact h.append_right _
theorem eW{a:Array Keyed}{i j:Nat}:(a.extract i j).toList=(a.toList.drop i).take (j-i):=by
 rw[zB,List.extract_eq_take_drop]
theorem PI.DY{a b out:Array Keyed}{ia ib:Nat}(h:PI a b out ia ib)(k:Nat):PI a b (out++a.extract ia (ia+k)) (ia+k) ib:=by
 unfold PI at h |-;rw[fX,eW,Nat.add_sub_cancel_left,List.take_add,dH];refine(h.append_right _).trans ?_;rw[dH];exact lR _ jq
theorem PI.DZ{a b out:Array Keyed}{ia ib:Nat}(h:PI a b out ia ib)(k:Nat):PI a b (out++b.extract ib (ib+k)) ia (ib+k):=by
 unfold PI at h |-;rw[fX,eW,Nat.add_sub_cancel_left,List.take_add,<-dH];exact h.append_right _
theorem PI.done{a b out:Array Keyed}{ia ib:Nat}(h:PI a b out ia ib):(out++a.extract ia a.size++b.extract ib b.size).Perm (a++b):=by
 rw[mX];unfold PI at h;rw[fX,fX,fX,eW,eW];have e1:(a.toList.drop ia).take (a.size-ia)=a.toList.drop ia:=rf (by simp);have e2:(b.toList.drop ib).take (b.size-ib)=b.toList.drop ib:=rf (by simp);rw[e1,e2];refine((h.append_right _).append_right _).trans ?_;conv=>rhs;rw[<-p7 ia a.toList,<-p7 ib b.toList]
 rw[dH,dH,dH];refine lR _ ?_;rw[<-dH,<-dH];exact zw _ jq
theorem PI.last{a b out:Array Keyed}{ia ib:Nat}(h:PI a b out ia ib):(out++b.extract ib b.size++a.extract ia a.size).Perm (a++b):=by
 refine Array.Perm.trans ?_ h.done;rw[mX];rw[fX,fX,fX,fX,dH,dH];exact lR _ jq
section
variable {prog:Program} {w:World} {A:Around} {E:Value->Shared->Prop} {s:Shared} {κ:SortKind} {a₀:Array Keyed} {pd:Array (Nat×Nat×Nat)} {ar:Array Keyed} {a b out:Array Keyed} {ia ib mg ac bc n:Nat} {st:SortSt}
def JL(a b:Array Keyed)(n:Nat)(out:Array Keyed)(ia ib:Nat):Prop:=PI a b out ia ib/\ia+1<a.size/\ib<b.size/\n<=ia+ib
abbrev GL{ρ:Type}(κ:SortKind)(ar:Array Keyed)(pd:Array (Nat×Nat×Nat))(a b:Array Keyed)(n m:Nat):ForInStep (Nk ρ)->SortSt->Prop:=GP κ ar pd (fun x=>x.Perm (a++b)) (fun t=>JL a b n t.1 t.2.1 t.2.2.1) fun t=>JL a b m t.1 t.2.1 t.2.2.1
theorem Cy(hB:SM κ ar pd st)(h:JL a b n out ia ib):wpS (model prog w) A E s (Zh a b out ia ib mg ac bc) (GL κ ar pd a b n n) st:=by
 obtain⟨p,la,lb,li⟩:=h;refine aJ (bS (dU a ia (by lia)) ?_);have p:=p.uT (show ia<a.size by lia);refine jx hB (fun _=>p.last) fun f=>?_;have g:=oT f;have j:JL a b n (out.push a[ia]) (ia+1) ib:=⟨p,by lia,lb,by lia⟩
 exact⟨j,j⟩
theorem Cz(hC:ya prog w A s κ a₀)(ha:∀x∈a.toList,x∈a₀.toList)(hb:∀x∈b.toList,x∈a₀.toList)(hB:SM κ ar pd st)(h:JL a b n out ia ib):wpS (model prog w) A E s (Zi a b out ia ib mg ac bc) (GL κ ar pd a b n n) st:=by
 obtain⟨p,la,lb,li⟩:=h;refine aJ (bS (dU b ib lb) ?_);have p:=p.uU lb;split
 .exact gp hB p.done
 next f=>
 have g:ib+1≠b.size:=by simpa using f
 refine aJ (bS (dU a ia (by lia)) ?_);refine aJ (gQ hC hB.kind (ha _ (by simp)) hb (by lia) (by lia) fun k hk=>?_);dsimp only;split
 .split
  .exact gp hB (p.DZ k).done
  next f=>
  have g:ib+1+k≠b.size:=by simpa using f
  exact Cy hB ⟨p.DZ k,la,by lia,by lia⟩
 .exact Cy hB ⟨p,la,by lia,by lia⟩
theorem Kv(hC:ya prog w A s κ a₀)(ha:∀x∈a.toList,x∈a₀.toList)(hb:∀x∈b.toList,x∈a₀.toList)(hB:SM κ ar pd st)(h:JL a b n out ia ib):wpS (model prog w) A E s (Zj a b out ia ib mg ac bc) (GL κ ar pd a b n n) st:=by
 obtain⟨p,la,lb,li⟩:=h;refine aJ (ik ?_);refine aJ (bS (dU b ib lb) ?_);have uc:SM κ ar pd (SortSt.mk' (kindOf st) (arrOf st) (pendingOf st) mg (failedOf st)):=⟨hB.arr,hB.kind,hB.failed,hB.pend⟩
 refine aJ (gQ hC uc.kind (hb _ (by simp)) ha (by lia) (by lia) fun k hk=>?_);dsimp only;split
 .split
  .exact gp uc (p.DY k).last
  next f=>
  split
  .exact gp uc (p.DY k).done
  next f'=>
  have g:ia+k+1≠a.size:=by simpa using f
  have g':ia+k≠a.size:=by simpa using f'
  exact Cz hC ha hb uc ⟨p.DY k,by lia,lb,by lia⟩
 .exact Cz hC ha hb uc ⟨p,la,lb,li⟩
theorem Kw{k:Nat}(hC:ya prog w A s κ a₀)(ha:∀x∈a.toList,x∈a₀.toList)(hb:∀x∈b.toList,x∈a₀.toList)(hB:SM κ ar pd st)(h:JL a b (n+k) out ia ib){q:Nat×Nat}:wpS (model prog w) A E s (loW a b mg (none,out,ia,ib,q)) (GL κ ar pd a b (n+1) (n+(k+1))) st:=by
 obtain⟨p,la,lb,li⟩:=h;refine aJ (bS (dU b ib lb) (aJ (bS (dU a ia (by lia)) (aJ (sI hC hB.kind (hb _ (by simp)) (ha _ (by simp)) fun w=>?_)))));cases w
 .refine aJ (bS (dU a ia (by lia)) ?_);have p:=p.uT (show ia<a.size by lia);refine jx hB (fun _=>p.last) fun f=>?_;have g:=oT f;exact⟨⟨p,by dsimp only;lia,lb,by dsimp only;lia⟩,p,by dsimp only;lia,lb,by dsimp only;lia⟩
 .refine aJ (bS (dU b ib lb) ?_);have p:=p.uU lb;refine jx hB (fun _=>p.done) fun f=>?_;have g:=oT f;exact⟨⟨p,la,by dsimp only at g |-;lia,by dsimp only;lia⟩,p,la,by dsimp only at g |-;lia,by dsimp only;lia⟩
theorem yd{Q:Array Keyed->SortSt->Prop}(hC:ya prog w A s κ a₀)(hB:SM κ ar pd st)(ha:∀x∈a.toList,x∈a₀.toList)(hb:∀x∈b.toList,x∈a₀.toList)(a1:1<=a.size)(b1:1<=b.size)(h:∀out bw,out.Perm (a++b)->SM κ ar pd bw->Q out bw):wpS (model prog w) A E s (sD a b) Q st:=by
 rw[yc];refine aJ (mn (ij ⟨rfl,?_⟩));refine aJ (bS (dU b 0 (by lia)) ?_);have p0:PI a b #[b[0]] 0 1:=by
  have:PI a b #[] 0 0:=by unfold PI;simp
  exact this.uU (by lia)
 split
 .exact a_ (h _ _ p0.done hB)
 next f=>
 split
 .exact a_ (h _ _ p0.last hB)
 next f'=>
 have g:1≠b.size:=by simpa using f
 have g':0+1≠a.size:=by simpa using f'
 refine Cw (J:=JL a b) hB ⟨p0,by lia,by lia,by lia⟩ (fun i k x y z h=>⟨h.1,h.2.1,h.2.2.1,by have:=h.2.2.2;lia⟩) (fun x y z h=>by have:=h.2;lia) (by lia) (fun mg n k x y z p st m j=>Kw hC ha hb m j) (fun n x y z p st m j=>?_) h;unfold loG;split <;> exact Kv hC ha hb m j
end
abbrev k8(a b out:Array Keyed)(na nb:Nat):=a.extract 0 na++b.extract 0 nb++out.reverse
abbrev qQ(a b out:Array Keyed)(na nb:Nat):=b.extract 0 nb++a.extract 0 na++out.reverse
abbrev Nl ρ:=qB×Nat×Nat×Array Keyed×ρ
def hiW(a b:Array Keyed)(mg:Nat)(t:Nl (Nat×Nat)):uS (ForInStep (Nl (Nat×Nat))):=do
 let x <- elem' b (t.2.2.1-1)
 let y <- elem' a (t.2.1-1)
 let some w <- lt' x y|pure (.done (some (k8 a b t.2.2.2.1 t.2.1 t.2.2.1),t.2.1,t.2.2.1,t.2.2.2.1,t.2.2.2.2.1,t.2.2.2.2.2))
 if w then do
  let x <- elem' a (t.2.1-1)
  yb (t.2.1-1==0) (t.2.2.2.2.1+1>=mg) (k8 a b (t.2.2.2.1.push x) (t.2.1-1) t.2.2.1) (t.2.1-1,t.2.2.1,t.2.2.2.1.push x,t.2.2.2.2.1+1,0)
 else do
  let x <- elem' b (t.2.2.1-1)
  yb (t.2.2.1-1==1) (t.2.2.2.2.2+1>=mg) (qQ a b (t.2.2.2.1.push x) t.2.1 (t.2.2.1-1)) (t.2.1,t.2.2.1-1,t.2.2.2.1.push x,0,t.2.2.2.2.2+1)
def Zk(a b:Array Keyed)(na nb:Nat)(out:Array Keyed)(mg ac bc:Nat):uS (ForInStep (Nl (Nat×Nat×Nat))):=do
 let x <- elem' a (na-1)
 yb (na-1==0) ((ac<7&&bc<7)=true) (k8 a b (out.push x) (na-1) nb) (na-1,nb,out.push x,mg,ac,bc)
def Zl(a b:Array Keyed)(na nb:Nat)(out:Array Keyed)(mg ac bc:Nat):uS (ForInStep (Nl (Nat×Nat×Nat))):=do
 let x <- elem' b (nb-1)
 if nb-1==1 then pure (.done (some (qQ a b (out.push x) na (nb-1)),na,nb-1,out.push x,mg,ac,bc))
 else do
  let y <- elem' a (na-1)
  let some k <- jc true y b 0 (nb-1) (nb-1-1)|pure (.done (some (k8 a b (out.push x) na (nb-1)),na,nb-1,out.push x,mg,ac,bc))
  if nb-1-k > 0 then
   if k==1 then pure (.done (some (qQ a b (out.push x++(b.extract k (nb-1)).reverse) na k),na,k,out.push x++(b.extract k (nb-1)).reverse,mg,ac,nb-1-k))
   else if k==0 then pure (.done (some (k8 a b (out.push x++(b.extract k (nb-1)).reverse) na k),na,k,out.push x++(b.extract k (nb-1)).reverse,mg,ac,nb-1-k))
   else Zk a b na k (out.push x++(b.extract k (nb-1)).reverse) mg ac (nb-1-k)
  else Zk a b na (nb-1) (out.push x) mg ac (nb-1-k)
def Zm(a b:Array Keyed)(na nb:Nat)(out:Array Keyed)(mg ac bc:Nat):uS (ForInStep (Nl (Nat×Nat×Nat))):=do
 jo mg
 let y <- elem' b (nb-1)
 let some k <- jc false y a 0 na (na-1)|pure (.done (some (k8 a b out na nb),na,nb,out,mg,ac,bc))
 if na-k > 0 then
  if k==0 then pure (.done (some (k8 a b (out++(a.extract k na).reverse) k nb),k,nb,out++(a.extract k na).reverse,mg,na-k,bc))
  else Zl a b k nb (out++(a.extract k na).reverse) mg (na-k) bc
 else Zl a b na nb out mg (na-k) bc
def hiG(a b:Array Keyed)(t:Nl (Nat×Nat×Nat)):uS (ForInStep (Nl (Nat×Nat×Nat))):=
 if t.2.2.2.2.1 > 1 then Zm a b t.2.1 t.2.2.1 t.2.2.2.1 (t.2.2.2.2.1-1) t.2.2.2.2.2.1 t.2.2.2.2.2.2 else Zm a b t.2.1 t.2.2.1 t.2.2.2.1 t.2.2.2.2.1 t.2.2.2.2.2.1 t.2.2.2.2.2.2
theorem ye(a b:Array Keyed):sG a b=(do
 liftM (rule "list.sort.merge-hi")
 let x <- elem' a (a.size-1)
 if a.size-1==0 then pure (k8 a b #[x] (a.size-1) b.size) else if b.size==1 then pure (qQ a b #[x] (a.size-1) b.size) else Xd (a.size+b.size) (hiW a b) (hiG a b) (a.size-1) b.size #[x]):=by kernel_rfl
def PH(a b out:Array Keyed)(na nb:Nat):Prop:=out.toList.Perm (a.toList.drop na++b.toList.drop nb)
theorem PH.uT{a b out:Array Keyed}{na nb:Nat}(h:PH a b out na nb)(h1:1<=na)(hi:na-1<a.size):PH a b (out.push a[na-1]) (na-1) nb:=by
 unfold PH at h |-;have e:a.toList.drop (na-1)=a[na-1]::a.toList.drop na:=by
  have:=oE (l:=a.toList) (i:=na-1) (by simpa using hi);rw[this,Nat.sub_add_cancel h1];simp
 rw[oQ,e];refine(h.append_right _).trans ?_;exact jq
theorem PH.uU{a b out:Array Keyed}{na nb:Nat}(h:PH a b out na nb)(h1:1<=nb)(hi:nb-1<b.size):PH a b (out.push b[nb-1]) na (nb-1):=by
 unfold PH at h |-;have e:b.toList.drop (nb-1)=b[nb-1]::b.toList.drop nb:=by
  have:=oE (l:=b.toList) (i:=nb-1) (by simpa using hi);rw[this,Nat.sub_add_cancel h1];simp
 rw[oQ,e];refine(h.append_right _).trans ?_;rw[dH];exact lR _ jq
theorem nG{l:List Keyed}{i j:Nat}(h:i<=j):l.drop i=(l.drop i).take (j-i)++l.drop j:=by
 have:=(p7 (j-i) (l.drop i)).symm;rw[List.drop_drop,show i+(j-i)=j by lia] at this;exact this
theorem PH.DY{a b out:Array Keyed}{na nb:Nat}(h:PH a b out na nb){k:Nat}(hk:k<=na):PH a b (out++(a.extract k na).reverse) k nb:=by
 unfold PH at h |-;rw[fX,zA,eW];conv=>rhs;rw[nG hk]
 refine((h.append_left _).trans ?_ |> fun z=>(List.Perm.trans jq ((zP _).append_right _)).trans z);rw[dH]
theorem PH.DZ{a b out:Array Keyed}{na nb:Nat}(h:PH a b out na nb){k:Nat}(hk:k<=nb):PH a b (out++(b.extract k nb).reverse) na k:=by
 unfold PH at h |-;rw[fX,zA,eW];conv=>rhs;rw[nG hk]
 refine(h.append_right _).trans ?_;rw[dH];refine lR _ ?_;exact jq.trans ((zP _).append_right _)
theorem Uh{a:Array Keyed}{j:Nat}:(a.extract 0 j).toList=a.toList.take j:=by rw[eW,z9,Nat.sub_zero]
theorem PH.done{a b out:Array Keyed}{na nb:Nat}(h:PH a b out na nb):(a.extract 0 na++b.extract 0 nb++out.reverse).Perm (a++b):=by
 rw[mX];unfold PH at h;rw[fX,fX,fX,zA,Uh,Uh];conv=>rhs;rw[<-p7 na a.toList,<-p7 nb b.toList]
 refine(lR _ ((zP _).trans h)).trans ?_;rw[dH,dH];refine lR _ ?_;rw[<-dH,<-dH];exact zw _ jq
theorem PH.first{a b out:Array Keyed}{na nb:Nat}(h:PH a b out na nb):(b.extract 0 nb++a.extract 0 na++out.reverse).Perm (a++b):=by
 refine Array.Perm.trans ?_ h.done;rw[mX];rw[fX,fX,fX,fX];exact zw _ jq
section
variable {prog:Program} {w:World} {A:Around} {E:Value->Shared->Prop} {s:Shared} {κ:SortKind} {a₀:Array Keyed} {pd:Array (Nat×Nat×Nat)} {ar:Array Keyed} {a b out:Array Keyed} {na nb mg ac bc n:Nat} {st:SortSt}
def JH(a b:Array Keyed)(n na nb:Nat)(out:Array Keyed):Prop:=PH a b out na nb/\1<=na/\2<=nb/\na<=a.size/\nb<=b.size/\n+na+nb<=a.size+b.size
abbrev GH{ρ:Type}(κ:SortKind)(ar:Array Keyed)(pd:Array (Nat×Nat×Nat))(a b:Array Keyed)(n m:Nat):ForInStep (Nl ρ)->SortSt->Prop:=GP κ ar pd (fun x=>x.Perm (a++b)) (fun t=>JH a b n t.1 t.2.1 t.2.2.1) fun t=>JH a b m t.1 t.2.1 t.2.2.1
theorem CA(hB:SM κ ar pd st)(p:PH a b out na nb)(la:1<=na)(lb:2<=nb)(ma:na<=a.size)(mb:nb<=b.size)(li:n+na+nb<=a.size+b.size+1):wpS (model prog w) A E s (Zk a b na nb out mg ac bc) (GH κ ar pd a b n n) st:=by
 refine aJ (bS (dU a (na-1) (by lia)) ?_);have p:=p.uT la (show na-1<a.size by lia);refine jx hB (fun _=>p.done) fun f=>?_;have g:=oT f;have j:JH a b n (na-1) nb (out.push a[na-1]):=⟨p,by lia,lb,by lia,mb,by lia⟩
 exact⟨j,j⟩
theorem CC(hC:ya prog w A s κ a₀)(ha:∀x∈a.toList,x∈a₀.toList)(hb:∀x∈b.toList,x∈a₀.toList)(hB:SM κ ar pd st)(h:JH a b n na nb out):wpS (model prog w) A E s (Zl a b na nb out mg ac bc) (GH κ ar pd a b n n) st:=by
 obtain⟨p,la,lb,ma,mb,li⟩:=h;refine aJ (bS (dU b (nb-1) (by lia)) ?_);have p:=p.uU (show 1<=nb by lia) (show nb-1<b.size by lia);split
 .exact gp hB p.first
 next f=>
 have g:nb-1≠1:=by simpa using f
 refine aJ (bS (dU a (na-1) (by lia)) ?_);refine aJ (gQ hC hB.kind (ha _ (by simp)) hb (by lia) (by lia) fun k hk=>?_);dsimp only;split
 .split
  .exact gp hB (p.DZ hk).first
  next f=>
  split
  .exact gp hB (p.DZ hk).done
  next f'=>
  have g:k≠1:=by simpa using f
  have g':k≠0:=by simpa using f'
  exact CA hB (p.DZ hk) la (by lia) ma (by lia) (by lia)
 .exact CA hB p la (by lia) ma (by lia) (by lia)
theorem Kx(hC:ya prog w A s κ a₀)(ha:∀x∈a.toList,x∈a₀.toList)(hb:∀x∈b.toList,x∈a₀.toList)(hB:SM κ ar pd st)(h:JH a b n na nb out):wpS (model prog w) A E s (Zm a b na nb out mg ac bc) (GH κ ar pd a b n n) st:=by
 obtain⟨p,la,lb,ma,mb,li⟩:=h;refine aJ (ik ?_);refine aJ (bS (dU b (nb-1) (by lia)) ?_);have uc:SM κ ar pd (SortSt.mk' (kindOf st) (arrOf st) (pendingOf st) mg (failedOf st)):=⟨hB.arr,hB.kind,hB.failed,hB.pend⟩
 refine aJ (gQ hC uc.kind (hb _ (by simp)) ha (by lia) (by lia) fun k hk=>?_);dsimp only;split
 .split
  .exact gp uc (p.DY hk).done
  next f=>
  have g:k≠0:=by simpa using f
  exact CC hC ha hb uc ⟨p.DY hk,by lia,lb,by lia,mb,by lia⟩
 .exact CC hC ha hb uc ⟨p,la,lb,ma,mb,li⟩
theorem Ky{k:Nat}(hC:ya prog w A s κ a₀)(ha:∀x∈a.toList,x∈a₀.toList)(hb:∀x∈b.toList,x∈a₀.toList)(hB:SM κ ar pd st)(h:JH a b (n+k) na nb out){q:Nat×Nat}:wpS (model prog w) A E s (hiW a b mg (none,na,nb,out,q)) (GH κ ar pd a b (n+1) (n+(k+1))) st:=by
 obtain⟨p,la,lb,ma,mb,li⟩:=h;refine aJ (bS (dU b (nb-1) (by lia)) (aJ (bS (dU a (na-1) (by lia)) (aJ (sI hC hB.kind (hb _ (by simp)) (ha _ (by simp)) fun w=>?_)))));cases w
 .refine aJ (bS (dU b (nb-1) (by lia)) ?_);have p:=p.uU (show 1<=nb by lia) (show nb-1<b.size by lia);refine jx hB (fun _=>p.first) fun f=>?_;have g:nb-1≠1:=oT f;have j:JH a b (n+(k+1)) na (nb-1) (out.push b[nb-1]):=⟨p,la,by lia,ma,by lia,by lia⟩
  exact⟨⟨p,la,j.2.2.1,ma,j.2.2.2.2.1,by have:=j.2.2.2.2.2;dsimp only;lia⟩,j⟩
 .refine aJ (bS (dU a (na-1) (by lia)) ?_);have p:=p.uT la (show na-1<a.size by lia);refine jx hB (fun _=>p.done) fun f=>?_;have g:na-1≠0:=oT f;have j:JH a b (n+(k+1)) (na-1) nb (out.push a[na-1]):=⟨p,by lia,lb,by lia,mb,by lia⟩
  exact⟨⟨p,j.2.1,lb,j.2.2.2.1,mb,by have:=j.2.2.2.2.2;dsimp only;lia⟩,j⟩
theorem yf{Q:Array Keyed->SortSt->Prop}(hC:ya prog w A s κ a₀)(hB:SM κ ar pd st)(ha:∀x∈a.toList,x∈a₀.toList)(hb:∀x∈b.toList,x∈a₀.toList)(a1:1<=a.size)(b1:1<=b.size)(h:∀out bw,out.Perm (a++b)->SM κ ar pd bw->Q out bw):wpS (model prog w) A E s (sG a b) Q st:=by
 rw[ye];refine aJ (mn (ij ⟨rfl,?_⟩));refine aJ (bS (dU a (a.size-1) (by lia)) ?_);have p0:PH a b #[a[a.size-1]] (a.size-1) b.size:=by
  have:PH a b #[] a.size b.size:=by unfold PH;simp
  exact this.uT a1 (by lia)
 split
 .exact a_ (h _ _ p0.done hB)
 next f=>
 split
 .exact a_ (h _ _ p0.first hB)
 next f'=>
 have g:a.size-1≠0:=by simpa using f
 have g':b.size≠1:=by simpa using f'
 refine Cw (J:=JH a b) hB ⟨p0,by lia,by lia,by lia,by lia,by lia⟩ (fun i k x y z h=>⟨h.1,h.2.1,h.2.2.1,h.2.2.2.1,h.2.2.2.2.1,by have:=h.2.2.2.2.2;lia⟩) (fun x y z h=>by have:=h.2;lia) (by lia) (fun mg n k x y z p st m j=>Ky hC ha hb m j) (fun n x y z p st m j=>?_) h;unfold hiG;split <;> exact Kx hC ha hb m j
end
section
variable {prog:Program} {w:World} {A:Around} {E:Value->Shared->Prop} {s:Shared} {κ:SortKind} {a₀:Array Keyed} {pd:Array (Nat×Nat×Nat)}
theorem D5{st:SortSt}{lo pK:Nat}{Q:Option Nat->SortSt->Prop}(hC:ya prog w A s κ a₀)(hn:lo+pK<=a₀.size)(h1:1<=pK)(hB:SQ κ a₀ pd st)(h:∀n bw,SQ κ a₀ pd bw->1<=n->n<=pK->Q (some n) bw):wpS (model prog w) A E s (countRun' lo pK) Q st:=by
 rw[countRun'_eq];refine aJ (eC (gE (I:=fun i c bw=>SQ κ a₀ pd bw/\∃m,c=(none,m)/\m=i) (Q:=fun c bw=>SQ κ a₀ pd bw/\∃m,c=(none,m)/\1<=m/\m<=pK) ?_ ?_ ⟨hB,_,rfl,rfl⟩) ?_)
 .rintro i c RV RX E3 ⟨GK,m,rfl,rfl⟩;dsimp only;refine aJ (gn hC GK (by lia) (by lia) fun b1=>?_);cases b1
  .exact a_ ⟨GK,_,rfl,rfl⟩
  .exact a_ ⟨GK,_,rfl,by lia,by lia⟩
 .rintro c RV ⟨GK,m,rfl,rfl⟩;exact⟨GK,_,rfl,by lia,by lia⟩
 .rintro c RV ⟨GK,n,rfl,n1,n2⟩;dsimp only;by_cases e1:(n==pK)=true
  .rw[aD e1];exact a_ (h n RV GK n1 n2)
  rw[au e1];have g1:¬ (n=pK):=by simpa using e1
  by_cases e2:n > 1
  .rw[aD e2];refine aJ (gn hC GK (by lia) (by lia) fun b2=>?_);cases b2
   .dsimp only;rw[au (by decide)];refine aJ (iJ GK fun t4 uc=>?_);refine aJ (mn (ij ⟨rfl,?_⟩));refine aJ (eC (gE (I:=fun i c bw=>SQ κ a₀ pd bw/\∃m q,c=(none,m,q)/\m=i) (Q:=fun c bw=>SQ κ a₀ pd bw/\∃m q,c=(none,m,q)/\1<=m/\m<=pK) ?_ ?_ ⟨uc,_,_,rfl,rfl⟩) ?_)
    .rintro i c Am RX E3 ⟨qA,m,q,rfl,rfl⟩;dsimp only;refine aJ (gn hC qA (by lia) (by lia) fun b3=>?_);cases b3
     .dsimp only;rw[au (by decide)];refine aJ (gn hC qA (by lia) (by lia) fun b4=>?_);cases b4
      .exact a_ ⟨qA,_,_,rfl,rfl⟩
      .exact a_ ⟨qA,_,_,rfl,by lia,by lia⟩
     .dsimp only;rw[aD rfl];split
      .exact aJ (iJ qA fun tX O_=>a_ ⟨O_,_,_,rfl,rfl⟩)
      .exact a_ ⟨qA,_,_,rfl,rfl⟩
    .rintro c Am ⟨qA,m,q,rfl,rfl⟩;exact⟨qA,_,_,rfl,by lia,by lia⟩
    .rintro c Am ⟨qA,m,q,rfl,m1,m2⟩;dsimp only;split
     .refine aJ (iJ qA fun tX O_=>?_);refine aJ (iJ O_ fun xp Pa=>?_);refine aJ (eC (gE (I:=fun i c bw=>SQ κ a₀ pd bw/\∃m,c=(none,m)/\m=i) (Q:=fun c bw=>SQ κ a₀ pd bw/\∃m,c=(none,m)/\1<=m/\m<=pK) ?_ ?_ ⟨Pa,_,rfl,rfl⟩) ?_)
      .rintro i c AS RX E3 ⟨mC,m,rfl,rfl⟩;dsimp only;refine aJ (gn hC mC (by lia) (by lia) fun b6=>?_);cases b6
       .exact a_ ⟨mC,_,rfl,rfl⟩
       .exact a_ ⟨mC,_,rfl,by lia,by lia⟩
      .rintro c AS ⟨mC,m,rfl,rfl⟩;exact⟨mC,_,rfl,by lia,by lia⟩
      .rintro c AS ⟨mC,m,rfl,h1,h2⟩;exact a_ (h m AS mC h1 h2)
     .refine aJ (iJ qA fun xp Pa=>?_);refine aJ (eC (gE (I:=fun i c bw=>SQ κ a₀ pd bw/\∃m,c=(none,m)/\m=i) (Q:=fun c bw=>SQ κ a₀ pd bw/\∃m,c=(none,m)/\1<=m/\m<=pK) ?_ ?_ ⟨Pa,_,rfl,rfl⟩) ?_)
      .rintro i c AS RX E3 ⟨mC,m,rfl,rfl⟩;dsimp only;refine aJ (gn hC mC (by lia) (by lia) fun b6=>?_);cases b6
       .exact a_ ⟨mC,_,rfl,rfl⟩
       .exact a_ ⟨mC,_,rfl,by lia,by lia⟩
      .rintro c AS ⟨mC,m,rfl,rfl⟩;exact⟨mC,_,rfl,by lia,by lia⟩
      .rintro c AS ⟨mC,m,rfl,h1,h2⟩;exact a_ (h m AS mC h1 h2)
   .exact a_ (h n RV GK n1 n2)
  .rw[au e2];have uc:=GK;refine aJ (mn (ij ⟨rfl,?_⟩));refine aJ (eC (gE (I:=fun i c bw=>SQ κ a₀ pd bw/\∃m q,c=(none,m,q)/\m=i) (Q:=fun c bw=>SQ κ a₀ pd bw/\∃m q,c=(none,m,q)/\1<=m/\m<=pK) ?_ ?_ ⟨uc,_,_,rfl,rfl⟩) ?_)
   .rintro i c Am RX E3 ⟨qA,m,q,rfl,rfl⟩;dsimp only;refine aJ (gn hC qA (by lia) (by lia) fun b3=>?_);cases b3
    .dsimp only;rw[au (by decide)];refine aJ (gn hC qA (by lia) (by lia) fun b4=>?_);cases b4
     .exact a_ ⟨qA,_,_,rfl,rfl⟩
     .exact a_ ⟨qA,_,_,rfl,by lia,by lia⟩
    .dsimp only;rw[aD rfl];split
     .exact aJ (iJ qA fun tX O_=>a_ ⟨O_,_,_,rfl,rfl⟩)
     .exact a_ ⟨qA,_,_,rfl,rfl⟩
   .rintro c Am ⟨qA,m,q,rfl,rfl⟩;exact⟨qA,_,_,rfl,by lia,by lia⟩
   .rintro c Am ⟨qA,m,q,rfl,m1,m2⟩;dsimp only;split
    .refine aJ (iJ qA fun tX O_=>?_);refine aJ (iJ O_ fun xp Pa=>?_);refine aJ (eC (gE (I:=fun i c bw=>SQ κ a₀ pd bw/\∃m,c=(none,m)/\m=i) (Q:=fun c bw=>SQ κ a₀ pd bw/\∃m,c=(none,m)/\1<=m/\m<=pK) ?_ ?_ ⟨Pa,_,rfl,rfl⟩) ?_)
     .rintro i c AS RX E3 ⟨mC,m,rfl,rfl⟩;dsimp only;refine aJ (gn hC mC (by lia) (by lia) fun b6=>?_);cases b6
      .exact a_ ⟨mC,_,rfl,rfl⟩
      .exact a_ ⟨mC,_,rfl,by lia,by lia⟩
     .rintro c AS ⟨mC,m,rfl,rfl⟩;exact⟨mC,_,rfl,by lia,by lia⟩
     .rintro c AS ⟨mC,m,rfl,h1,h2⟩;exact a_ (h m AS mC h1 h2)
    .refine aJ (iJ qA fun xp Pa=>?_);refine aJ (eC (gE (I:=fun i c bw=>SQ κ a₀ pd bw/\∃m,c=(none,m)/\m=i) (Q:=fun c bw=>SQ κ a₀ pd bw/\∃m,c=(none,m)/\1<=m/\m<=pK) ?_ ?_ ⟨Pa,_,rfl,rfl⟩) ?_)
     .rintro i c AS RX E3 ⟨mC,m,rfl,rfl⟩;dsimp only;refine aJ (gn hC mC (by lia) (by lia) fun b6=>?_);cases b6
      .exact a_ ⟨mC,_,rfl,rfl⟩
      .exact a_ ⟨mC,_,rfl,by lia,by lia⟩
     .rintro c AS ⟨mC,m,rfl,rfl⟩;exact⟨mC,_,rfl,by lia,by lia⟩
     .rintro c AS ⟨mC,m,rfl,h1,h2⟩;exact a_ (h m AS mC h1 h2)
end
abbrev RY:=Nat×Nat×Nat
def jy:List RY->Nat->Nat->Prop
 |[],s,e=>s=e
 |r::rs,s,e=>r.1=s/\1<=r.2.1/\jy rs (s+r.2.1) e
theorem jy.le:∀ {l:List RY} {s e:Nat},jy l s e->s<=e
 |[],_,_,h=>o4 h
 |r::rs,s,e,⟨_,h2,h3⟩=>by have:=h3.le;lia
theorem jy.two:∀ {l:List RY} {s e i:Nat} {x y:RY},jy l s e->l[i]?=some x->l[i+1]?=some y->
  x.1+x.2.1=y.1/\y.1+y.2.1<=e/\1<=x.2.1/\1<=y.2.1/\∀p,jy ((l.set i (x.1,x.2.1+y.2.1,p)).eraseIdx (i+1)) s e
 |r::q::rs,s,e,0,x,y,⟨h1,h2,h3,h4,h5⟩,hx,hy=>by
  obtain rfl:=bX hx;obtain rfl:=bX hy;have:=h5.le;refine⟨by lia,by lia,h2,h4,fun p=>⟨h1,by show 1<=r.2.1+q.2.1;lia,?_⟩⟩;show jy rs (s+(r.2.1+q.2.1)) e;rw[<-Nat.add_assoc];exact h5
 |r::rs,s,e,i+1,x,y,⟨h1,h2,h3⟩,hx,hy=>by
  obtain⟨a1,a2,a3,a4,a5⟩:=jy.two (i:=i) h3 hx hy;exact⟨a1,a2,a3,a4,fun p=>⟨h1,h2,a5 p⟩⟩
theorem jy.push:∀ {l:List RY} {s e n p:Nat},jy l s e->1<=n->jy (l++[(e,n,p)]) s (e+n)
 |[],s,e,n,p,h,hn=>⟨h.symm,hn,by rw[h];rfl⟩
 |r::rs,s,e,n,p,⟨h1,h2,h3⟩,hn=>⟨h1,h2,jy.push h3 hn⟩
theorem jy.pw:∀ {l:List RY} {s e:Nat} (i p:Nat),jy l s e->jy (l.modify i fun r=>(r.1,r.2.1,p)) s e
 |[],s,e,i,p,h=>by cases i <;> exact h
 |r::rs,s,e,0,p,⟨h1,h2,h3⟩=>⟨h1,h2,h3⟩
 |r::rs,s,e,i+1,p,⟨h1,h2,h3⟩=>⟨h1,h2,jy.pw i p h3⟩
theorem Kz{M:Model}{A:Around}{E:Value->Shared->Prop}{s:Shared}{σ:Type}{x:σ}{Q:PUnit->σ->Prop}{st:σ}(h:Q ⟨⟩ x):wpS M A E s (set x:StateT σ Sem PUnit) Q st:=by
 unfold wpS;rw[StateT.run_set];exact wpAny_pure ⟨rfl,h⟩
theorem yg(i:Nat):mergeAt' i=(do
 let s <- get
 let (some (sa,na,Ui),some (sb,nb,_)):=((pendingOf s)[i]?,(pendingOf s)[i+1]?)|unsupported "internal:list.sort.pending"
 set (setPending s (((pendingOf s).setIfInBounds i (sa,na+nb,Ui)).eraseIdxIfInBounds (i+1)))
 let some k <- jc false (<-elem' (arrOf s) sb) (arrOf s) sa na 0|return false
 let (sa,na):=(sa+k,na-k)
 if na==0 then return true
 let some nb <- jc true (<-elem' (arrOf s) (sa+na-1)) (arrOf s) sb nb (nb-1)|return false
 if nb==0 then return true
 let x:=(arrOf s).extract sa sb
 let y:=(arrOf s).extract sb (sb+nb)
 let merged <- if na<=nb then sD x y else sG x y
 modify fun s=>setArr s (merged.toList.zipIdx.foldl (fun a (p,j)=>a.setIfInBounds (sa+j) p) (arrOf s))
 return (failedOf (<-get)).isNone):=rfl
theorem sO{sa:Nat}:∀ (l:List Keyed) (k:Nat) (arr:Array Keyed),sa+k+l.length<=arr.size->
  ((l.zipIdx k).foldl (fun (a:Array Keyed) (x:Keyed×Nat)=>a.setIfInBounds (sa+x.2) x.1) arr).toList=arr.toList.take (sa+k)++l++arr.toList.drop (sa+k+l.length)
 |[],k,arr,_=>by simp
 |x::l,k,arr,h=>by
  rw[dC] at h;have hs:sa+k<arr.toList.length:=by rw[l0];lia
  rw[zW,vD,sO l (k+1) _ (by rw[Array.size_setIfInBounds];lia),Fk];dsimp only;have e1:(arr.toList.set (sa+k) x).take (sa+(k+1))=arr.toList.take (sa+k)++[x]:=by
   rw[<-Nat.add_assoc,fZ,rh hs,List.take_set_of_le (aW _)];rfl
  have e2:(arr.toList.set (sa+k) x).drop (sa+(k+1)+l.length)=arr.toList.drop (sa+k+(x::l).length):=by
   rw[List.drop_set_of_lt (by lia),dC];congr 1;lia
  rw[e1,e2,dH,dH,dH];rfl
section
variable {prog:Program} {w:World} {A:Around} {E:Value->Shared->Prop} {s:Shared} {κ:SortKind} {a₀:Array Keyed}
def SR(κ:SortKind)(a₀:Array Keyed)(lo:Nat)(st:SortSt):Prop:=∃pd,SQ κ a₀ pd st/\jy pd.toList 0 lo/\lo<=a₀.size
theorem k9{st:SortSt}{i lo:Nat}{Q:Bool->SortSt->Prop}(hC:ya prog w A s κ a₀)(hB:SR κ a₀ lo st)(hi:i+1<(pendingOf st).size)(h:∀bw,SR κ a₀ lo bw->Q true bw):wpS (model prog w) A E s (mergeAt' i) Q st:=by
 obtain⟨pd,hq,hr,W4⟩:=hB;rw[hq.pend] at hi;rw[yg];refine aJ (iS ?_);have e1:pd[i]?=some pd[i]:=dU pd i (by lia);have e2:pd[i+1]?=some pd[i+1]:=dU pd (i+1) hi;obtain⟨a1,a2,a3,a4,a5⟩:=hr.two (i:=i) (x:=pd[i]) (y:=pd[i+1]) (by simpa using e1) (by simpa using e2);rw[hq.pend,e1,e2];revert a1 a2 a3 a4 a5;generalize pd[i]=x;generalize pd[i+1]=y;obtain⟨sa,na,pw⟩:=x;obtain⟨sb,nb,pw2⟩:=y;intro a1 a2 a3 a4 a5;dsimp only at a1 a2 a3 a4 a5 |-;obtain⟨KA,Uj⟩:∃KA,KA=(pd.setIfInBounds i (sa,na+nb,pw)).eraseIdxIfInBounds (i+1):=⟨_,rfl⟩
 have EZ:jy KA.toList 0 lo:=by
  rw[Uj,Array.toList_eraseIdxIfInBounds,Fk];exact a5 pw
 refine aJ (Kz ?_);rw[<-Uj];have Nb:SM κ (arrOf st) KA (setPending st KA):=⟨rfl,hq.kind,hq.failed,rfl⟩
 have lM:=hq.size;have qh:∀x∈(arrOf st).toList,x∈a₀.toList:=fun x hx=>(mX.mp hq.perm).mem_iff.mp hx;have dJ:∀bw,SM κ (arrOf st) KA bw->SR κ a₀ lo bw:=fun bw m=>⟨KA,⟨by rw[m.arr];exact hq.perm,m.kind,m.failed,m.pend⟩,EZ,W4⟩
 refine aJ (bS (dU (arrOf st) sb (by lia)) ?_);refine aJ (gQ hC Nb.kind (qh _ (by simp)) qh (by lia) (by lia) fun k hk=>?_);dsimp only;by_cases f1:(na-k==0)=true
 .rw[aD f1];exact a_ (h _ (dJ _ Nb))
 rw[au f1];have g1:¬ (na-k=0):=by simpa using f1
 refine aJ (bS (dU (arrOf st) (sa+k+(na-k)-1) (by lia)) ?_);refine aJ (gQ hC Nb.kind (qh _ (by simp)) qh (by lia) (by lia) fun k2 RU=>?_);dsimp only;by_cases f2:(k2==0)=true
 .rw[aD f2];exact a_ (h _ (dJ _ Nb))
 rw[au f2];have g2:¬ (k2=0):=by simpa using f2
 have hx:∀x∈((arrOf st).extract (sa+k) sb).toList,x∈a₀.toList:=fun x hx=>qh x (by rw[eW] at hx;exact oJ (j3 hx));have hy:∀x∈((arrOf st).extract sb (sb+k2)).toList,x∈a₀.toList:=fun x hx=>qh x (by rw[eW] at hx;exact oJ (j3 hx));have sx:((arrOf st).extract (sa+k) sb).size=sb-(sa+k):=by rw[Array.size_extract];lia
 have sy:((arrOf st).extract sb (sb+k2)).size=k2:=by rw[Array.size_extract];lia
 have last:∀ (out:Array Keyed) (bw:SortSt),out.Perm ((arrOf st).extract (sa+k) sb++(arrOf st).extract sb (sb+k2))->SM κ (arrOf st) KA bw->wpS (model prog w) A E s (do
   modify fun s=>setArr s (out.toList.zipIdx.foldl (fun a (p,j)=>a.setIfInBounds (sa+k+j) p) (arrOf s))
   return (failedOf (<-get)).isNone) Q bw:=by
  intro out bw hp m;refine aJ (ik ?_);refine aJ (iS (a_ ?_));have osz:out.toList.length=sb-(sa+k)+k2:=by
   rw[l0,hp.size_eq,Array.size_append,sx,sy]
  have wl:=sO (sa:=sa+k) out.toList 0 (arrOf bw) (by rw[m.arr,osz];lia);have pm:(out.toList.zipIdx.foldl (fun a (p,j)=>a.setIfInBounds (sa+k+j) p) (arrOf bw)).Perm (arrOf st):=by
   rw[mX];refine(rJ wl).trans ?_;rw[m.arr,osz,vM];have Kg:=mX.mp hp;rw[fX,eW,eW] at Kg;refine((Kg.append_left _).append_right _).trans ?_;have e1:(arrOf st).toList.drop (sa+k)=((arrOf st).toList.drop (sa+k)).take (sb-(sa+k))++(arrOf st).toList.drop sb:=nG (by lia);have e2:(arrOf st).toList.drop sb=((arrOf st).toList.drop sb).take (sb+k2-sb)++(arrOf st).toList.drop (sb+k2):=nG (by lia);have e3:sa+k+(sb-(sa+k)+k2)=sb+k2:=by lia
   rw[e3];refine rJ ?_;conv=>rhs;rw[<-p7 (sa+k) (arrOf st).toList,e1,e2]
   simp only[dH]
  have hf:(failedOf bw).isNone=true:=by rw[m.failed];rfl
  show Q (failedOf bw).isNone _;rw[hf];exact h _ ⟨KA,⟨pm.trans hq.perm,m.kind,m.failed,m.pend⟩,EZ,W4⟩
 by_cases f3:na-k<=k2
 .rw[aD f3];exact aJ (yd hC Nb hx hy (by lia) (by lia) fun out bw hp m=>last out bw hp m)
 .rw[au f3];exact aJ (yf hC Nb hx hy (by lia) (by lia) fun out bw hp m=>last out bw hp m)
theorem yh{c:Prop}[Decidable c]{x:Nat}:(if c then x-1 else x)<=x:=by split <;> lia
theorem SR.pw{lo:Nat}{st:SortSt}(h:SR κ a₀ lo st)(i p:Nat):SR κ a₀ lo (setPending st ((pendingOf st).modify i fun r=>(r.1,r.2.1,p))):=by
 obtain⟨pd,hq,hr,hl⟩:=h;refine⟨_,⟨hq.perm,hq.kind,hq.failed,rfl⟩,?_,hl⟩;show jy ((pendingOf st).modify i fun r=>(r.1,r.2.1,p)).toList 0 lo;rw[hq.pend,Array.toList_modify];exact hr.pw i p
theorem SR.push{lo n:Nat}{st:SortSt}(h:SR κ a₀ lo st)(h1:1<=n)(hn:lo+n<=a₀.size):SR κ a₀ (lo+n) (setPending st ((pendingOf st).push (lo,n,0))):=by
 obtain⟨pd,hq,hr,hl⟩:=h;refine⟨_,⟨hq.perm,hq.kind,hq.failed,rfl⟩,?_,hn⟩;show jy ((pendingOf st).push (lo,n,0)).toList 0 (lo+n);rw[hq.pend,oQ];exact hr.push h1
theorem D6{st:SortSt}{Q:Unit->SortSt->Prop}(hC:ya prog w A s κ a₀)(hp:(arrOf st).Perm a₀)(hk:kindOf st=κ)(hf:failedOf st=none)(hpd:pendingOf st=#[])(h:∀bw,(arrOf bw).Perm a₀->failedOf bw=none->Q () bw):wpS (model prog w) A E s sortRuns' Q st:=by
 have h0:SR κ a₀ 0 st:=⟨#[],⟨hp,hk,hf,hpd⟩,rfl,de _⟩
 have lM:(arrOf st).size=a₀.size:=hp.size_eq;rw[sortRuns'_eq];refine aJ (iS ?_);dsimp only;rw[lM];refine aJ (eC (gE (I:=fun _ c bw=>∃lo,c=(none,lo)/\SR κ a₀ lo bw) (Q:=fun c bw=>∃lo,c=(none,lo)/\SR κ a₀ lo bw) ?_ (fun c bw hh=>hh) ⟨0,rfl,h0⟩) ?_)
 .rintro i c RV _ _ ⟨lo,rfl,hR⟩;dsimp only;by_cases e1:lo>=a₀.size
  .rw[aD e1];exact a_ ⟨lo,rfl,hR⟩
  rw[au e1];have W4:lo<a₀.size:=by lia
  obtain⟨pd,hq,hr,hl⟩:=hR;refine aJ (D5 hC (by lia) (by lia) hq fun n t4 W8 n1 n2=>?_);dsimp only;by_cases hm:n<minRun' a₀.size a₀.size 0
  .rw[aD hm];refine aJ (mn (ij ⟨rfl,?_⟩));refine aJ (Ku hC (by lia) W8 fun Am hq3=>?_);simp only[vH,kG,gN];have AT:SR κ a₀ lo Am:=⟨pd,hq3,hr,hl⟩
   refine aJ (iS ?_);cases hb:(pendingOf Am).back? with
   |none=>
    dsimp only;exact aJ (ik (a_ ⟨_,rfl,AT.push (by lia) (by lia)⟩))
   |some r=>
    obtain⟨s1,n1',pw1⟩:=r;dsimp only;refine aJ (eC (gE (I:=fun _ c bw=>c=(none,())/\SR κ a₀ lo bw) (Q:=fun c bw=>c=(none,())/\SR κ a₀ lo bw) ?_ (fun c bw hh=>hh) ⟨rfl,AT⟩) ?_)
    .rintro x c tX _ _ ⟨rfl,qR⟩;refine aJ (iS ?_);by_cases hs:(pendingOf tX).size > 1
     .rw[aD hs,dU (pendingOf tX) ((pendingOf tX).size-2) (by lia)];generalize (pendingOf tX)[(pendingOf tX).size-2]=r4;obtain⟨_,_,Uk⟩:=r4;dsimp only;split
      .exact a_ ⟨rfl,qR⟩
      .refine aJ (k9 hC qR (by lia) fun xp KB=>?_);simp only[vH,kG,gN];exact a_ ⟨rfl,KB⟩
     .rw[au hs];exact a_ ⟨rfl,qR⟩
    .rintro c tX ⟨rfl,qR⟩;dsimp only;exact aJ (ik (aJ (ik (a_ ⟨_,rfl,(qR.pw _ _).push (by lia) (by lia)⟩))))
  .rw[au hm];have AT:SR κ a₀ lo t4:=⟨pd,W8,hr,hl⟩
   refine aJ (iS ?_);cases hb:(pendingOf t4).back? with
   |none=>
    dsimp only;exact aJ (ik (a_ ⟨_,rfl,AT.push (by lia) (by lia)⟩))
   |some r=>
    obtain⟨s1,n1',pw1⟩:=r;dsimp only;refine aJ (eC (gE (I:=fun _ c bw=>c=(none,())/\SR κ a₀ lo bw) (Q:=fun c bw=>c=(none,())/\SR κ a₀ lo bw) ?_ (fun c bw hh=>hh) ⟨rfl,AT⟩) ?_)
    .rintro x c tX _ _ ⟨rfl,qR⟩;refine aJ (iS ?_);by_cases hs:(pendingOf tX).size > 1
     .rw[aD hs,dU (pendingOf tX) ((pendingOf tX).size-2) (by lia)];generalize (pendingOf tX)[(pendingOf tX).size-2]=r4;obtain⟨_,_,Uk⟩:=r4;dsimp only;split
      .exact a_ ⟨rfl,qR⟩
      .refine aJ (k9 hC qR (by lia) fun xp KB=>?_);simp only[vH,kG,gN];exact a_ ⟨rfl,KB⟩
     .rw[au hs];exact a_ ⟨rfl,qR⟩
    .rintro c tX ⟨rfl,qR⟩;dsimp only;exact aJ (ik (aJ (ik (a_ ⟨_,rfl,(qR.pw _ _).push (by lia) (by lia)⟩))))
 .rintro c RV ⟨lo,rfl,hR⟩;dsimp only;refine aJ (eC (gE (I:=fun _ c bw=>c=(none,())/\SR κ a₀ lo bw) (Q:=fun c bw=>c=(none,())/\SR κ a₀ lo bw) ?_ (fun c bw hh=>hh) ⟨rfl,hR⟩) ?_)
  .rintro x c tX _ _ ⟨rfl,qR⟩;refine aJ (iS ?_);by_cases hs:(pendingOf tX).size<=1
   .rw[aD hs];exact a_ ⟨rfl,qR⟩
   rw[au hs];refine aJ (k9 hC qR ?_ fun xp KB=>?_)
   .exact fq (Nat.succ_le_succ yh) (show (pendingOf tX).size-2+1<(pendingOf tX).size by lia)
   .simp only[vH,kG,gN];exact a_ ⟨rfl,KB⟩
  .rintro c tX ⟨rfl,pd,hq,_⟩;exact a_ (h _ hq.perm hq.failed)
end
end PyProof.Rows
namespace L2
open PySem PySem.Spec PyProof.Rows PySem.W
def jR(h:Heap)(vs:List Value):Prop:=∀v∈vs,∃a o n x t y u,v=Value.ref a/\h.get? a=some o/\o.cls=.type "tuple"/\o.data=.seq #[.int x t,.int y u] n
theorem jR.o_{h:Heap}:∀ {vs:List Value},jR h vs->∃fs,KatTups h vs fs/\fs.length=vs.length/\∀v∈fs,∃n t,v=Value.int n t
 |[],_=>⟨[],trivial,rfl,fun v hv=>nomatch hv⟩
 |v::vs,hp=>by
  obtain⟨fs,k1,k2,k3⟩:=jR.o_ (vs:=vs) fun b hb=>hp b (du _ hb);obtain⟨a,o,n,x,t,y,u,rfl,e,c,d⟩:=hp v bZ;refine⟨.int x t::fs,KatTups.cons e c d rfl k1,by simp[k2],fun v hv=>?_⟩;rcases bW.mp hv with z|z
  .exact⟨x,t,z⟩
  .exact k3 v z
section
variable {prog:Program} {w:World} {A:Around} {E:Value->Shared->Prop} {s:Shared}
theorem D7{vs:List Value}(hp:jR s.heap vs):ya prog w A s (tuples' true) (vs.toArray.zip vs.toArray):=by
 have mem:∀x∈(vs.toArray.zip vs.toArray).toList,x.1∈vs:=by
  intro x hx;rw[Array.toList_zip] at hx;exact(rG hx).1
 intro x y hx hy Q E' q;obtain⟨a,o,n,x1,t1,x2,t2,e1,eo,_,ed⟩:=hp x.1 (mem x hx);obtain⟨b,o',n',y1,u1,y2,u2,e2,eo',_,ed'⟩:=hp y.1 (mem y hy);rw[e1,e2];refine kat_lt eo ed eo' ed' (kat_cons (Aa ?_));by_cases h1:x1=y1
 .rw[fP.mpr h1];refine kat_yes (kat_cons (Aa ?_));by_cases h2:x2=y2
  .rw[fP.mpr h2];exact kat_yes (kat_nil (q _))
  .rw[ng.mpr h2];exact kat_no (kat_one _ _ (lt_int (q _)))
 .rw[ng.mpr h1];exact kat_no (oneLt_int (q _))
theorem KC{vs:List Value}:((vs.toArray.zip vs.toArray).map (·.2)).toList=vs:=by
 rw[vz,Array.toList_zip];show (vs.zip vs).map (·.2)=vs;rw[<-List.unzip_snd,List.unzip_zip_right (aW _)]
theorem qC{a:Addr}{vs:List Value}{n:Nat}{P:PySem.Fin->Shared->Prop}(ho:s.heap.get? a=some (seqObj "list" vs.toArray n))(hp:jR s.heap vs)(hz:vs.length<=4096)(h:∀ (out:Array Value),out.toList.Perm vs->P (.done (.ret .none)) { s with heap:=sortedHeap s.heap a vs out }):
  wpAny (model prog w) A (Builtin.«list.sort» ⟨[.ref a],[]⟩) P E s:=by
 rw[list_sort_plain];have ha:a<s.heap.objs.size:=bp ho;have RT:vs.toArray.size<=sizeLine:=by rw[bQ,kP];lia
 refine aE (listItems_at ho rfl ?_);refine aE (listUpdate_at ho rfl ?_ RT (de _));obtain⟨e1,RZ⟩:∃e1,(s.heap.update a (Obj.mapSeq fun _=>#[])).get? a=some (seqObj "list" #[] e1):=⟨_,rN ho (fun _=>#[])⟩
 refine aE (seqEpoch_at RZ rfl ?_);refine aE (wpAny_newTuple ?_ (by show vs.length<=_;rw[kP];lia));refine aE (wpAny_newList ?_ (de _));refine gC ?_;have Nm:(((s.heap.update a (Obj.mapSeq fun _=>#[])).push (seqObj "tuple" vs.toArray 0)).push (seqObj "list" #[] 0)).get? a=some (seqObj "list" #[] e1):=by
  rw[gy _ _ _ (by rw[iR,iP];exact bh (dN ha)),gy _ _ _ (by rw[iP];exact bh ha)];exact RZ
 have Nn:jR (((s.heap.update a (Obj.mapSeq fun _=>#[])).push (seqObj "tuple" vs.toArray 0)).push (seqObj "list" #[] 0)) vs:=by
  intro v hv;obtain⟨b,o,n,x,t,y,u,ev,e,c,d⟩:=hp v hv;have hb:b<s.heap.objs.size:=bp e;have uI:b≠a:=by
   rintro rfl;rw[ho] at e;cases e;exact absurd (Value.type.inj c) (by decide)
  refine⟨b,o,n,x,t,y,u,ev,?_,c,d⟩;rw[gy _ _ _ (by rw[iR,iP];exact bh (dN hb)),gy _ _ _ (by rw[iP];exact bh hb),kE _ _ _ _ uI];exact e
 show wpAny (model prog w) A _ P E { s with heap:=((s.heap.update a (Obj.mapSeq fun _=>#[])).push (seqObj "tuple" vs.toArray 0)).push (seqObj "list" #[] 0) };dsimp only;have dJ:∀bw:SortSt,(arrOf bw).Perm (vs.toArray.zip vs.toArray)->P (.done (.ret .none)) { s with heap:=sortedHeap s.heap a vs ((arrOf bw).map (·.2)) }:=by
  intro bw Xe;refine h _ ?_;have:=(mX.mp Xe).map (·.2);rw[<-vz,<-vz,KC] at this;exact this
 have zsz:(vs.toArray.zip vs.toArray).size=vs.length:=by simp
 by_cases h2:vs.toArray.size<2
 .rw[aD h2,aD h2];refine aE (wpAny_pure ?_);rw[StateT.run_pure];refine aE (wpAny_pure ?_);dsimp only;refine aE (seqEpoch_at Nm rfl ?_);refine aE (listUpdate_at Nm rfl ?_ (de _) (by show ((vs.toArray.zip vs.toArray).map (·.2)).size<=_;rw[jF,zsz,kP];lia));simp only[bne_self_eq_false,kG,gN];exact wpAny_pure (dJ (SortSt.mk' general' (vs.toArray.zip vs.toArray) #[] 7 none) (Array.Perm.refl _))
 .rw[au h2,au h2];have dz:2<=vs.length:=by rw[bQ] at h2;lia
  obtain⟨fs,k1,k2,k3⟩:=Nn.o_;refine aE (kat_kind (T:=.type "int") k1 (by lia) (fun v hv=>?_) rfl ?_)
  .obtain⟨m,t,rfl⟩:=k3 v hv;exact .now
  refine aE (mj (D6 (a₀:=vs.toArray.zip vs.toArray) (κ:=tuples' true) (st:=SortSt.mk' (tuples' true) (vs.toArray.zip vs.toArray) #[] 7 none)
   (Q:=fun _ bw=>(arrOf bw).Perm (vs.toArray.zip vs.toArray)/\failedOf bw=none) (D7 Nn) (Array.Perm.refl _) rfl rfl rfl fun bw b1 b2=>⟨b1,b2⟩) ?_ fun _ _ e=>e)
  rintro⟨⟨⟩,bw⟩ s' ⟨rfl,Xe,hf⟩;dsimp only;refine aE (seqEpoch_at Nm rfl ?_);refine aE (listUpdate_at Nm rfl ?_ (de _) (by refine aY (o4 ((jF ..).trans (Xe.size_eq.trans zsz))) ?_;rw[kP];lia));rw[hf];simp only[bne_self_eq_false,kG,gN];exact wpAny_pure (dJ bw Xe)
theorem wq{l:Addr}{vs:List Value}{Q:Value->Shared->Prop}(hl:s.heap.IsList l vs.toArray)(hp:jR s.heap vs)(hz:vs.length<=4096)(h:∀ (out:Array Value),out.toList.Perm vs->Q (.ref (s.heap.objs.size+1)) { s with heap:=sortedAll s.heap vs out }):
  wpAny (model prog w) A (call (.builtin "sorted") [.ref l]) Q E s:=by
 have RT:vs.length<=sizeLine:=by rw[kP];lia
 refine Calls.call_function_entry kind_sorted plain_sorted entry_sorted (args_sorted1 _) ?_;unfold Builtin.«sorted»;refine aE (m:=checkCount "sorted" 1 1 _) (wpAny_pure ?_);refine aE (collect_list hl ?_ RT);refine aE (wpAny_newList ?_ RT);have lM:((s.heap.push (seqObj "list" #[] 0)).update s.heap.objs.size (Obj.mapSeq (·++vs.toArray))).objs.size=s.heap.objs.size+1:=by
  rw[iP,iR]
 have EV:(((s.heap.push (seqObj "list" #[] 0)).update s.heap.objs.size (Obj.mapSeq (·++vs.toArray))).push (seqObj "list" vs.toArray 0)).get? (s.heap.objs.size+1)=some (seqObj "list" vs.toArray 0):=by
  rw[<-lM];exact cR _ rfl
 have km:jR (((s.heap.push (seqObj "list" #[] 0)).update s.heap.objs.size (Obj.mapSeq (·++vs.toArray))).push (seqObj "list" vs.toArray 0)) vs:=by
  intro v hv;obtain⟨b,o,n,x,t,y,u,ev,e,c,d⟩:=hp v hv;have hb:b<s.heap.objs.size:=bp e;refine⟨b,o,n,x,t,y,u,ev,?_,c,d⟩;rw[gy _ _ _ (by rw[lM];exact bh (dN hb)),kE _ _ _ _ (bh hb),gy _ _ _ (bh hb)];exact e
 show wpAny _ _ _ _ _ { s with heap:=((s.heap.push (seqObj "list" #[] 0)).update s.heap.objs.size (Obj.mapSeq (·++vs.toArray))).push (seqObj "list" vs.toArray 0) };rw[lM];refine aE (gC (l_ slot_list_sort ⟨_,EV,rfl⟩ entry_list_sort (qC EV km hz fun out a1=>⟨_,rfl,?_⟩) (args_list_sort _)));exact wpAny_pure ⟨_,rfl,h out a1⟩
end
theorem nI:∀ {as:List Addr} {its:List Value},bg (as.map V.ref) its->its=as.map Value.ref
 |[],_,r=>by cases r;rfl
 |a::as,_,r=>by
  cases r with
  |cons r rr=>
   obtain rfl:=(show _=Value.ref a from r)
   rw[nI rr];rfl
theorem uV:∀ {as:List Addr},bg (as.map V.ref) (as.map Value.ref)
 |[]=>.nil
 |_::_=>.cons rfl uV
theorem D8{as:List Addr}{vs:List Value}(h:vs.Perm (as.map Value.ref)):∃y4:List Addr,vs=y4.map Value.ref/\y4.Perm as:=by
 let un:Value->Addr:=fun v=>match v with|.ref a=>a|_=>0
 refine⟨vs.map un,?_,?_⟩
 .rw[cy];have:∀v∈vs,(Value.ref ∘ un) v=v:=by
   intro v hv;obtain⟨a,_,rfl⟩:=bn.mp (h.mem_iff.mp hv);rfl
  conv=>lhs;rw[<-mi vs]
  exact js fun v hv=>(this v hv).symm
 .have:=h.map un;rw[cy] at this;have e:as.map (un ∘ Value.ref)=as:=by
   conv=>rhs;rw[<-mi as]
   exact js fun a _=>rfl
  rw[e] at this;exact this
def GN(K:PySem.W.Frag):List V->Hp->VK->Prop:=fun xs H Q=>∃ (l:Addr) (as:List Addr),xs=[.ref l]/\aV K H l (as.map V.ref)/\(∀a∈as,∃x y:Int,bt K H a [.int x,.int y])/\as.length<=4096/\
 ∀ (D:Addr) (y4:List Addr),H D=none->y4.Perm as->Q (.ref D) (upd H D (.lst (y4.map V.ref)))
theorem AU{X:Cx}:fA X (.builtin "sorted") (GN X.K):=by
 intro ag s σ H xs us Q I r h;obtain⟨l,as,rfl,hl,hp,hz,q⟩:=h;obtain⟨u1,rfl,r1⟩:=r.one;obtain rfl:u1=Value.ref l:=r1;obtain⟨its,rv,pl,_⟩:=I.list hl;have AM:=nI rv;subst AM;have hpv:jR s.heap (as.map Value.ref):=by
  intro v hv;obtain⟨a,ha,rfl⟩:=bn.mp hv;obtain⟨x,y,KD⟩:=hp a ha;obtain⟨its,r,⟨o,e,c,n,d⟩,_⟩:=I.tuple KD;obtain⟨u1,u2,rfl,r1,r2⟩:=r.two;obtain⟨t,rfl⟩:=r1;obtain⟨t',rfl⟩:=r2;exact⟨a,o,n,x,t,y,t',rfl,e,c,d⟩
 refine wq pl.isList hpv (by rw[aP];exact hz) fun out Ul=>?_;obtain⟨y4,eo,pa⟩:=D8 Ul;have DT:out=(y4.map Value.ref).toArray:=by rw[<-eo]
 subst DT;have Pb:((s.heap.push (seqObj "list" #[] 0)).update s.heap.objs.size (Obj.mapSeq (·++(as.map Value.ref).toArray))).objs.size=s.heap.objs.size+1:=by rw[iP,iR]
 have k1:∀b u,s.heap.get? b=some u->(((s.heap.push (seqObj "list" #[] 0)).update s.heap.objs.size (Obj.mapSeq (·++(as.map Value.ref).toArray))).push (seqObj "list" (as.map Value.ref).toArray 0)).get? b=some u:=fun b u e=>by
  have hb:b<s.heap.objs.size:=bp e;rw[gy _ _ _ (by rw[Pb];exact bh (dN hb)),kE _ _ _ _ (bh hb),gy _ _ _ (bh hb)];exact e
 have EV:(((s.heap.push (seqObj "list" #[] 0)).update s.heap.objs.size (Obj.mapSeq (·++(as.map Value.ref).toArray))).push (seqObj "list" (as.map Value.ref).toArray 0)).get? (s.heap.objs.size+1)=some (seqObj "list" (as.map Value.ref).toArray 0):=by
  rw[<-Pb];exact cR _ rfl
 have D9:(((s.heap.push (seqObj "list" #[] 0)).update s.heap.objs.size (Obj.mapSeq (·++(as.map Value.ref).toArray))).push (seqObj "list" (as.map Value.ref).toArray 0)).objs.size=s.heap.objs.size+2:=by rw[iR,Pb]
 show EP X ag σ Q (.ref (s.heap.objs.size+1)) { s with heap:=sortedHeap (((s.heap.push (seqObj "list" #[] 0)).update s.heap.objs.size (Obj.mapSeq (·++(as.map Value.ref).toArray))).push (seqObj "list" (as.map Value.ref).toArray 0)) (s.heap.objs.size+1) (as.map Value.ref) (y4.map Value.ref).toArray };revert k1 EV D9;generalize ((s.heap.push (seqObj "list" #[] 0)).update s.heap.objs.size (Obj.mapSeq (·++(as.map Value.ref).toArray))).push (seqObj "list" (as.map Value.ref).toArray 0)=h1;intro k1 EV D9;obtain⟨e1,RZ⟩:∃e1,(h1.update (s.heap.objs.size+1) (Obj.mapSeq fun _=>(#[]:Array Value))).get? (s.heap.objs.size+1)=some (seqObj "list" #[] e1):=⟨_,rN EV (fun _=>#[])⟩
 have Nm:(((h1.update (s.heap.objs.size+1) (Obj.mapSeq fun _=>(#[]:Array Value))).push (seqObj "tuple" (as.map Value.ref).toArray 0)).push (seqObj "list" #[] 0)).get? (s.heap.objs.size+1)=some (seqObj "list" #[] e1):=by
  rw[gy _ _ _ (by rw[iR,iP,D9];exact bh (dN (jD _))),gy _ _ _ (by rw[iP,D9];exact bh (jD _))];exact RZ
 obtain⟨e2,ho7⟩:∃e2,(sortedHeap h1 (s.heap.objs.size+1) (as.map Value.ref) (y4.map Value.ref).toArray).get? (s.heap.objs.size+1)=some (seqObj "list" (y4.map Value.ref).toArray e2):=⟨_,rN Nm (fun _=>(y4.map Value.ref).toArray)⟩
 have keep:∀b u,s.heap.get? b=some u->(sortedHeap h1 (s.heap.objs.size+1) (as.map Value.ref) (y4.map Value.ref).toArray).get? b=some u:=fun b u e=>by
  have hb:b<s.heap.objs.size:=bp e;unfold sortedHeap;rw[kE _ _ _ _ (bh (dN hb)),gy _ _ _ (by rw[iR,iP,D9];exact bh (dN (dN (dN hb)))),gy _ _ _ (by rw[iP,D9];exact bh (dN (dN hb))),kE _ _ _ _ (bh (dN hb))];exact k1 b u e
 have yi:s.heap.get? (s.heap.objs.size+1)=none:=oM (by lia);refine⟨.ref (s.heap.objs.size+1),_,I.xN (t':=s.toks) (o:=.lst (y4.map V.ref)) keep yi ⟨?_,y4.map Value.ref,e2,uV,ho7⟩,rfl,q _ y4 (I.cI.sk yi) pa⟩;rw[aP,pa.length_eq];exact aY hz (by decide)
open PySem PySem.Spec PyProof.Rows
theorem cW(sb:Heap.SameBut c h h')(n:b≠c)(e:h.get? b=some o):h'.get? b=some o:=(sb.2 b n).trans e
theorem gu(r:h.IsTupleIter it t k)(sb:Heap.SameBut c h h')(n:it≠c):h'.IsTupleIter it t k:=r.at fun o e=>cW sb n e
theorem sQ(r:h.IsTuple t xs)(sb:Heap.SameBut c h h')(n:t≠c):h'.IsTuple t xs:=let ⟨o,e,z⟩:=r;⟨o,cW sb n e,z⟩
section
variable {prog:Program} {w:World} {A:Around} {E:Value->Shared->Prop} {s:Shared}
theorem D_{z ti tq i1 i2 t1 t2:Addr}{k:Nat}{xs ys:Array Value}{x y a b:Value}{Q:Value->Shared->Prop}(dj:ZipApart z ti tq i1 i2 t1 t2)(gz:IsZip s.heap z ti tq .none)(gi:IsPair s.heap ti (.ref i1) (.ref i2))(gq:IsPair s.heap tq a b)(r1:s.heap.IsTupleIter i1 t1 k)(r2:s.heap.IsTupleIter i2 t2 k)(g1:s.heap.IsTuple t1 xs)(g2:s.heap.IsTuple t2 ys)(ex:xs[k]?=some x)(ey:ys[k]?=some y)(q:∀h',IsZip h' z ti tq (rawInt s.heap.objs.size)->IsPair h' tq x y->h'.IsTupleIter i1 t1 (k+1)->h'.IsTupleIter i2 t2 (k+1)->IsPair h' s.heap.objs.size x y->(∀c o,c≠z->c≠tq->c≠i1->c≠i2->s.heap.get? c=some o->h'.get? c=some o)->Q (.ref s.heap.objs.size) { s with heap:=h' }):
  wpAny (model prog w) A (Builtin.«zip.__next__» ⟨[.ref z],[]⟩) (fun dJ s'=>∃v,dJ=.done (.ret v)/\Q v s') E s:=by
 change wpAny _ _ (field (.ref z) 2 >>= _) _ _ _;refine aE (fN gz rfl (x:=.bool false) rfl ?_);change wpAny _ _ (field (.ref z) 3 >>= _) _ _ _;refine aE (fN gz rfl (x:=.ref ti) rfl (aE (jG gi rfl ?_)));change wpAny _ _ (Builtin.SmallTypes.ownedTupleIsFree (.ref z) >>= _) _ _ _;refine aE ?_;unfold Builtin.SmallTypes.ownedTupleIsFree;refine aE (fN gz rfl (x:=.none) rfl (wpAny_pure ?_));simp only[jj];refine aE (ij (aE (fN gz rfl (x:=.ref tq) rfl ?_)));refine aE (rD gz (by simp) fun m1 KE oB=>?_);replace KE:IsZip m1 z ti tq .ellipsis:=KE;refine aE ?_;simp only[zW,List.zipIdx_nil,vC,vF];refine aE (aE (wpAny_onRaise ?_));change wpAny _ _ (Builtin.SmallTypes.nextOf (.ref i1) >>= _) _ _ _;refine aE (sB (gu r1 oB dj.i1z) (sQ g1 oB dj.l1z) ex fun m2 r12 mV=>wpAny_pure ?_);have gq2:IsPair m2 tq a b:=cW mV dj.TOi1 (cW oB dj.TOz gq);refine aE (jG gq2 rfl (aE (wpAny_updateSeq_pair gq2 fun m3 Zn KG=>?_)));replace Zn:IsPair m3 tq x b:=Zn;refine aE (wpAny_letGo (wpAny_pure ?_));refine aE (aE (wpAny_onRaise ?_));change wpAny _ _ (Builtin.SmallTypes.nextOf (.ref i2) >>= _) _ _ _;refine aE (sB (gu (gu (gu r2 oB dj.i2z) mV dj.i12.symm) KG dj.TOi2.symm) (sQ (sQ (sQ g2 oB dj.l2z) mV dj.l2i1) KG dj.l2TO) ey fun m4 r24 Um=>wpAny_pure ?_);have gq4:IsPair m4 tq x b:=cW Um dj.TOi2 Zn;refine aE (jG gq4 rfl (aE (wpAny_updateSeq_pair gq4 fun m5 Xf Uo=>?_)));replace Xf:IsPair m5 tq x y:=Xf;refine aE (wpAny_letGo (wpAny_pure (wpAny_pure ?_)));refine aE (jG Xf rfl (aE (wpAny_newTuple ?_)));have sz:m5.objs.size=s.heap.objs.size:=by rw[Uo.1,Um.1,KG.1,mV.1,oB.1]
 have gz5:IsZip m5 z ti tq .ellipsis:=cW Uo dj.TOz.symm (cW Um dj.i2z.symm (cW KG dj.TOz.symm (cW mV dj.i1z.symm KE)));have kp5:∀c o,c≠z->c≠tq->c≠i1->c≠i2->s.heap.get? c=some o->m5.get? c=some o:=fun c o c1 c2 c3 c4 e=>
  cW Uo c2 (cW Um c4 (cW KG c2 (cW mV c3 (cW oB c1 e))))
 have r15:m5.IsTupleIter i1 t1 (k+1):=gu (gu (gu r12 KG dj.TOi1.symm) Um dj.i12) Uo dj.TOi1.symm;have r25:m5.IsTupleIter i2 t2 (k+1):=gu r24 Uo dj.TOi2.symm;have zl:z<m5.objs.size:=bp gz5;change wpAny _ _ (Builtin.SmallTypes.ownedTupleHandOut (.ref z) (.ref m5.objs.size) >>= _) _ _ _;refine aE ?_;unfold Builtin.SmallTypes.ownedTupleHandOut;have gz6:IsZip (m5.push { cls:=.type "tuple",data:=.seq #[x,y] }) z ti tq .ellipsis:=cg _ gz5;refine aE (rD gz6 (by simp) fun m7 Zo sb7=>?_);replace Zo:IsZip m7 z ti tq (rawInt m5.objs.size):=Zo;refine rD Zo (by simp) fun m8 Xg sb8=>?_;replace Xg:IsZip m8 z ti tq (rawInt m5.objs.size):=Xg;have up:∀c o,c≠z->m5.get? c=some o->m8.get? c=some o:=fun c o c1 e=>cW sb8 c1 (cW sb7 c1 (cg _ e));have gp8:IsPair m8 m5.objs.size x y:=cW sb8 (jJ zl) (cW sb7 (jJ zl) (cR _ rfl));rw[sz] at Xg gp8;refine wpAny_pure ⟨_,rfl,?_⟩;change Q (.ref m5.objs.size) _;rw[sz];exact q m8 Xg (up _ _ dj.TOz Xf) (r15.at fun o e=>up _ o dj.i1z e) (r25.at fun o e=>up _ o dj.i2z e) gp8 fun c o c1 c2 c3 c4 e=>up c o c1 (kp5 c o c1 c2 c3 c4 e)
theorem GQ(hh:A.handled=none)(dj:ZipApart z ti tq i1 i2 t1 t2)(gz:IsZip s.heap z ti tq .none)(gi:IsPair s.heap ti (.ref i1) (.ref i2))(r1:s.heap.IsTupleIter i1 t1 k)(g1:s.heap.IsTuple t1 xs)(ex:xs[k]?=none)(q:∀h' e,(∀c o,c≠z->c≠i1->s.heap.get? c=some o->h'.get? c=some o)->(∃o,h'.get? e=some o/\o.cls=.type "StopIteration")->E (.ref e) { s with heap:=h' }):
  wpAny (model prog w) A (Builtin.«zip.__next__» ⟨[.ref z],[]⟩) Q E s:=by
 change wpAny _ _ (field (.ref z) 2 >>= _) _ _ _;refine aE (fN gz rfl (x:=.bool false) rfl ?_);change wpAny _ _ (field (.ref z) 3 >>= _) _ _ _;refine aE (fN gz rfl (x:=.ref ti) rfl (aE (jG gi rfl ?_)));change wpAny _ _ (Builtin.SmallTypes.ownedTupleIsFree (.ref z) >>= _) _ _ _;refine aE ?_;unfold Builtin.SmallTypes.ownedTupleIsFree;refine aE (fN gz rfl (x:=.none) rfl (wpAny_pure ?_));simp only[jj];refine aE (ij (aE (fN gz rfl (x:=.ref tq) rfl ?_)));refine aE (rD gz (by simp) fun m1 KE oB=>?_);replace KE:IsZip m1 z ti tq .ellipsis:=KE;refine aE ?_;simp only[zW,List.zipIdx_nil,vC,vF];refine aE (aE (wpAny_onRaise ?_));change wpAny _ _ (Builtin.SmallTypes.nextOf (.ref i1) >>= _) _ _ _;refine aE (DV hh (gu r1 oB dj.i1z) (sQ g1 oB dj.l1z) ex fun m2 e mV he=>?_);obtain⟨oe,Zp,hce⟩:=he;have Xh:IsZip m2 z ti tq .ellipsis:=mV _ _ dj.i1z.symm KE;have nez:e≠z:=fun y=>by subst y;rw[Xh] at Zp;cases Zp;simp at hce
 exact rD Xh (by simp) fun m3 _ KG=>q m3 e (fun c o c1 c3 y=>cW KG c1 (mV _ _ c3 (cW oB c1 y))) ⟨oe,cW KG nez Zp,hce⟩
theorem AV(dj:ZipApart z ti tq i1 i2 t1 t2)(gz:IsZip s.heap z ti tq .none)(gi:IsPair s.heap ti (.ref i1) (.ref i2))(gq:IsPair s.heap tq a b)(r1:s.heap.IsTupleIter i1 t1 k)(r2:s.heap.IsTupleIter i2 t2 k)(g1:s.heap.IsTuple t1 xs)(g2:s.heap.IsTuple t2 ys)(ex:xs[k]?=some x)(ey:ys[k]?=some y)(q:∀h',IsZip h' z ti tq (rawInt s.heap.objs.size)->IsPair h' tq x y->h'.IsTupleIter i1 t1 (k+1)->h'.IsTupleIter i2 t2 (k+1)->IsPair h' s.heap.objs.size x y->(∀c o,c≠z->c≠tq->c≠i1->c≠i2->s.heap.get? c=some o->h'.get? c=some o)->Q (some (.ref s.heap.objs.size)) { s with heap:=h' }):
  wpAny (model prog w) A (pyNext (.ref z)) Q E s:=by
 have ty:s.TypeIs (.ref z) "zip":=⟨_,gz,rfl⟩
 unfold pyNext;refine aE (vO (oH (name:=Str.ofString "__next__") ty F.slot_zip_next (l_ F.slot_zip_next ty F.entry_zip_next ?_ (F.args_zip_next_1 _))));exact D_ dj gz gi gq r1 r2 g1 g2 ex ey fun h' a1 a2 a3 a4 a5 a6=>wpAny_pure (q h' a1 a2 a3 a4 a5 a6)
theorem AW(hh:A.handled=none)(dj:ZipApart z ti tq i1 i2 t1 t2)(gz:IsZip s.heap z ti tq .none)(gi:IsPair s.heap ti (.ref i1) (.ref i2))(r1:s.heap.IsTupleIter i1 t1 k)(g1:s.heap.IsTuple t1 xs)(ex:xs[k]?=none)(q:∀h',(∀c o,c≠z->c≠i1->s.heap.get? c=some o->h'.get? c=some o)->Q none { s with heap:=h' }):wpAny (model prog w) A (pyNext (.ref z)) Q E s:=by
 have ty:s.TypeIs (.ref z) "zip":=⟨_,gz,rfl⟩
 unfold pyNext;refine aE (vO (oH (name:=Str.ofString "__next__") ty F.slot_zip_next (l_ F.slot_zip_next ty F.entry_zip_next (GQ hh dj gz gi r1 g1 ex fun h' e hk he=>?_) (F.args_zip_next_1 _))));obtain⟨o,ho,hc⟩:=he;exact aE (wpAny_isInstance (T:="StopIteration") (b:=true) ⟨o,ho,hc⟩ isSubtype_stop (wpAny_pure (q _ hk)))
abbrev zT(t:Addr):Obj:={ cls:=.type "tuple_iterator",data:=.fields #[.ref t,.int 0 0] }
abbrev Xi(h:Heap)(t1 t2:Addr):Heap:=((h.push (zT t1)).push (zT t2)).push { cls:=.type "tuple",data:=.seq #[.ref h.objs.size,.ref (h.push (zT t1)).objs.size] }
abbrev Xj(h:Heap)(t1 t2:Addr):Heap:=(Xi h t1 t2).push { cls:=.type "tuple",data:=.seq #[.none,.none] }
abbrev R3(h:Heap)(t1 t2:Addr):Heap:=(Xj h t1 t2).push { cls:=.type "zip",data:=.fields #[.none,.bool false,.bool false,.ref ((h.push (zT t1)).push (zT t2)).objs.size,.ref (Xi h t1 t2).objs.size] }
theorem GR(t1 t2:Addr)(xs ys:Array Value):
  Meets (Builtin.«zip.__new__» ⟨[.type "zip",.ref t1,.ref t2],[]⟩) (fun _ R s=>s.heap.IsTuple t1 xs/\s.heap.IsTuple t2 ys/\R (.ok (.ret (.ref (Xj s.heap t1 t2).objs.size))) { s with heap:=R3 s.heap t1 t2 }):=
 .of_wp fun prog w A R s h=>by
  obtain⟨hp,g,d,tk,os⟩:=s;obtain⟨g1,g2,h⟩:=h;have abe:=sub_zip;have gA:Heap.IsTuple (Shared.heap ⟨hp,g,d,tk,os⟩) t1 xs:=g1;have gB:Heap.IsTuple (Shared.heap ⟨hp.push (zT t1),g,d,tk,os⟩) t2 ys:=let ⟨o,e,z⟩:=g2;⟨o,cg _ e,z⟩
  wp_walk using zZ gA,zZ gB
  exact⟨_,rfl,h⟩
theorem Ea(g1:s.heap.IsTuple t1 xs)(g2:s.heap.IsTuple t2 ys)(q:∀h',IsZip h' (s.heap.objs.size+4) (s.heap.objs.size+2) (s.heap.objs.size+3) .none->IsPair h' (s.heap.objs.size+2) (.ref s.heap.objs.size) (.ref (s.heap.objs.size+1))->IsPair h' (s.heap.objs.size+3) .none .none->
   h'.IsTupleIter s.heap.objs.size t1 0->h'.IsTupleIter (s.heap.objs.size+1) t2 0->(∀c o,s.heap.get? c=some o->h'.get? c=some o)->Q (.ref (s.heap.objs.size+4)) { s with heap:=h' }):
  wpAny (model prog w) A (call (.type "zip") [.ref t1,.ref t2]) Q E s:=by
 refine callType_new F.called_zip (by decide) (F.typeCall_zip_2 _ _) (F.newCall_zip_2 _ _) (fun obj=>F.args_object_init_3 obj _ _) F.entry_zip_new (GR t1 t2 xs ys) ⟨g1,g2,?_⟩;have n1:(s.heap.push (zT t1)).objs.size=s.heap.objs.size+1:=ig ..;have n2:((s.heap.push (zT t1)).push (zT t2)).objs.size=s.heap.objs.size+2:=by rw[ig,n1]
 have n3:(Xi s.heap t1 t2).objs.size=s.heap.objs.size+3:=by rw[ig,n2]
 have n4:(Xj s.heap t1 t2).objs.size=s.heap.objs.size+4:=by rw[ig,n3]
 have e5:(R3 s.heap t1 t2).get? (Xj s.heap t1 t2).objs.size=some _:=cR _ rfl;have e4:(R3 s.heap t1 t2).get? (Xi s.heap t1 t2).objs.size=some _:=cg _ (cR _ rfl);have e3:(R3 s.heap t1 t2).get? ((s.heap.push (zT t1)).push (zT t2)).objs.size=some _:=cg _ (cg _ (cR _ rfl));have e2:(R3 s.heap t1 t2).get? (s.heap.push (zT t1)).objs.size=some _:=cg _ (cg _ (cg _ (cR _ rfl)));have e1:(R3 s.heap t1 t2).get? s.heap.objs.size=some _:=cg _ (cg _ (cg _ (cg _ (cR _ rfl))));change _/\_;rw[n2,n3,n4] at e5;rw[n1,n2] at e3;rw[n3] at e4;rw[n1] at e2;rw[n4];exact⟨⟨_,e5,rfl⟩,q _ e5 e3 e4 ⟨_,e1,rfl,rfl⟩ ⟨_,e2,rfl,rfl⟩ fun c o y=>
  cg _ (cg _ (cg _ (cg _ (cg _ y))))⟩
end
theorem aZ.KH{X:Cx}{ag:List (Addr×Obj)}{σ:St}{H:Hp}{s:Shared}{h':Heap}{t':Nat}{ch:List Addr}(I:aZ X ag σ H s)(fe:∀e∈ch,ke X ag H e)(k:∀b o,b∉ch->s.heap.get? b=some o->h'.get? b=some o):aZ X ag σ H { s with heap:=h',toks:=t' }:=by
 have M4:∀b u,H b=some u->b∉ch:=fun b u e z=>by rw[(fe b z).1] at e;cases e
 refine I.step (g':=s.gens) (d':=s.drawn) (ch:=ch) (fun b hb=>?_) (fun b o _ _ hc e _=>k b o hc e) (fun b o _ _ hc e _=>⟨o.slots,k b o hc e⟩) (fun _ _ _ _ n=>n) (fun b o hc e=>⟨o,k b o hc e⟩) (fun _ _ e=>e) (fun _ _ _ e=>e) (fun b ps e=>⟨#[],by rw[e];simp⟩) (fun m hm=>?_) (fun b u e=>?_) I.bare
 .obtain⟨_,f1,_,f3,f4,f5⟩:=fe b hb;exact⟨f3,f1,f4,f5⟩
 .obtain⟨o,es,ep,ho,r⟩:=hm;exact⟨o,es,ep,k _ o (fun z=>(fe _ z).2.1 rfl) ho,r⟩
 .refine(I.cI b u e).rQ (fun c v hc q=>k c v ?_ q) (fun _ q=>q) fun _ _ q=>q;rcases hc with z|z
  .rw[z];exact M4 b u e
  .exact M4 c _ z
theorem aZ.KI{X:Cx}{ag:List (Addr×Obj)}{σ:St}{H:Hp}{s:Shared}{h':Heap}{p:Addr}{t':Nat}{ch:List Addr}{xs:List V}{its:List Value}(I:aZ X ag σ H s)(fe:∀e∈ch,ke X ag H e)(k:∀b o,b∉ch->s.heap.get? b=some o->h'.get? b=some o)(hp:s.heap.objs.size<=p)(hl:xs.length<=sizeLine)(r:bg xs its)(ht:h'.get? p=some { cls:=.type "tuple",data:=.seq its.toArray }):aZ X ag σ (upd H p (.tup xs)) { s with heap:=h',toks:=t' }:=by
 have hn:=I.cI.fresh hp;have ne:∀b o,s.heap.get? b=some o->b≠p:=fun b o q=>bh (cQ (bp q) hp);have M4:∀b u,H b=some u->b∉ch:=fun b u e z=>by rw[(fe b z).1] at e;cases e
 refine I.step (g':=s.gens) (d':=s.drawn) (ch:=ch) (fun b hb=>?_) (fun b o _ _ hb q _=>k b o hb q) (fun b o _ _ hb q _=>⟨o.slots,k b o hb q⟩) (fun b o hb q n=>by rw[ao (ne b o q)];exact n) (fun b o hb q=>⟨o,k b o hb q⟩)
  (fun b ys q=>by rw[ao (ap q hn)];exact q) (fun b o u q=>by rw[ao (ap q hn)];exact q) (fun b ps q=>⟨#[],by rw[ao (ap q hn),q];simp⟩) (fun m hm=>?_) (fun b o q=>?_) I.bare
 .obtain⟨_,f1,_,f3,f4,f5⟩:=fe b hb;exact⟨f3,f1,f4,f5⟩
 .obtain⟨o,es,ep,q,d,r'⟩:=hm;exact⟨o,es,ep,k _ _ (fun z=>(fe _ z).2.1 rfl) q,d,r'⟩
 .by_cases hb:b=p
  .subst hb;rw[af] at q;cases q;exact⟨hl,its,r,_,ht,rfl,_,rfl,rfl⟩
  .rw[ao hb] at q;refine(I.cI b o q).rQ (fun c u hc z=>k c u ?_ z) (fun c z=>by rw[ao (ap z hn)];exact z) fun c ys z=>by rw[ao (ap z hn)];exact z
   rcases hc with rfl|hc
   .exact M4 _ _ q
   .exact M4 _ _ hc
def R5(K:PySem.W.Frag)(a b:Addr):It:=
 ⟨fun i H=>∃xs ys x y,bt K H a xs/\bt K H b ys/\xs[i]?=some x/\ys[i]?=some y,fun i H v H'=>∃p x y,v=.ref p/\H p=none/\H'=upd H p (.tup [x,y])/\(∀xs,bt K H a xs->xs[i]?=some x)/\∀ys,bt K H b ys->ys[i]?=some y,fun i H=>∃xs,bt K H a xs/\xs.length<=i⟩
theorem GS{P:Program}{w:World}{K:PySem.W.Frag}{es:List Expr}{x1:Nat}{pos:Pos}(a b z ti tq i1 i2:Addr)(dj:ZipApart z ti tq i1 i2 a b):
  Ah P w K (.Tuple es x1 pos) (R5 K a b) [z,ti,tq,i1,i2] z (fun i h=>IsZip h z ti tq .none/\IsPair h ti (.ref i1) (.ref i2)/\(∃u v,IsPair h tq u v)/\h.IsTupleIter i1 a i/\h.IsTupleIter i2 b i) where
 mem:=by simp
 obj:=fun i h st c hc=>by
  obtain⟨gz,gi,⟨u,v,gq⟩,⟨o1,q1,c1,d1⟩,⟨o2,q2,c2,d2⟩⟩:=st;simp only[bW,kJ,kQ] at hc;rcases hc with rfl|rfl|rfl|rfl|rfl
  .exact⟨_,gz,fun v z=>by have z':Data.fields _=Data.cell v:=z;cases z'⟩
  .exact⟨_,gi,fun v z=>by have z':Data.seq _ _=Data.cell v:=z;cases z'⟩
  .exact⟨_,gq,fun v z=>by have z':Data.seq _ _=Data.cell v:=z;cases z'⟩
  .exact⟨o1,q1,fun v z=>by rw[d1] at z;cases z⟩
  .exact⟨o2,q2,fun v z=>by rw[d2] at z;cases z⟩
 keep:=fun i h h' st k=>by
  obtain⟨gz,gi,⟨u,v,gq⟩,r1,r2⟩:=st;exact⟨k z (by simp) _ gz,k ti (by simp) _ gi,⟨u,v,k tq (by simp) _ gq⟩,r1.at fun o q=>k i1 (by simp) o q,r2.at fun o q=>k i2 (by simp) o q⟩
 item:=by
  intro X hP hw hK hc i ag s σ H E I hf st hg;subst hP hw hK;obtain⟨xs,ys,x,y,hx,hy,ex,ey⟩:=hg;obtain⟨us,rx,px,_⟩:=I.tuple hx;obtain⟨vs,ry,py,_⟩:=I.tuple hy;obtain⟨u,hu,ru⟩:=rx.get ex;obtain⟨v,hv,rv⟩:=ry.get ey;obtain⟨gz,gi,⟨u0,v0,gq⟩,r1,r2⟩:=st;refine AV dj gz gi gq r1 r2 (show s.heap.IsTuple a us.toArray from px) (show s.heap.IsTuple b vs.toArray from py) (x:=u) (y:=v) (by simpa using hu) (by simpa using hv) fun h1 KE gq1 r11 r21 gp1 kp=>?_;refine⟨_,rfl,wpAny_letOwnedTupleGo_zip KE fun h2 Xh mV=>?_⟩;have zl:z<s.heap.objs.size:=bp gz;have nz:s.heap.objs.size≠z:=jJ zl;have R7:∀c o,c∉[z,tq,i1,i2]->s.heap.get? c=some o->h2.get? c=some o:=fun c o hc e=>by
   simp only[bW,kJ,kQ,not_or] at hc;exact cW mV hc.1 (kp c o hc.1 hc.2.1 hc.2.2.1 hc.2.2.2 e)
  have gi2:IsPair h2 ti (.ref i1) (.ref i2):=R7 _ _ (by simp only[bW,kJ,kQ,not_or];exact⟨dj.TIz,dj.TITO,dj.TIi1,dj.TIi2⟩) gi;have fe:∀e∈[z,tq,i1,i2],ke X ag H e:=fun e he=>hf e (by simp only[bW,kJ,kQ] at he |-;rcases he with h|h|h|h <;> simp[h]);have I2:aZ X ag σ (upd H s.heap.objs.size (.tup [x,y])) { s with heap:=h2,toks:=s.toks }:=
   I.KI (its:=[u,v]) fe R7 (aW _) (by show 2<=sizeLine;decide) (.cons ru (.cons rv .nil)) (cW mV nz gp1)
  refine⟨.ref s.heap.objs.size,_,I2,rfl,⟨_,x,y,rfl,I.cI.fresh (aW _),rfl,fun zs hz=>by rw[I.gO hz hx];exact ex,fun zs hz=>by rw[I.gO hz hy];exact ey⟩,⟨Xh,gi2,⟨u,v,cW mV dj.TOz gq1⟩,gu r11 mV dj.i1z,gu r21 mV dj.i2z⟩,fun c hc=>?_⟩;have f0:=(hf c hc).1;have cl:c<s.heap.objs.size:=by
   simp only[bW,kJ,kQ] at hc;rcases hc with rfl|rfl|rfl|rfl|rfl
   .exact zl
   .exact bp gi
   .exact bp gq
   .obtain⟨o,q,_⟩:=r1;exact bp q
   .obtain⟨o,q,_⟩:=r2;exact bp q
  rw[ao (bh cl)];exact f0
 done:=by
  intro X hP hw hK hc i ag s σ H E I hf st hg;subst hP hw hK;obtain⟨xs,hx,hi⟩:=hg;obtain⟨us,rx,px,_⟩:=I.tuple hx;obtain⟨gz,gi,⟨u0,v0,gq⟩,r1,r2⟩:=st;have hl:=rx.length;refine AW (I.ok.hd hc) dj gz gi r1 (show s.heap.IsTuple a us.toArray from px) (by simp;lia) fun h' kp=>⟨rfl,?_⟩
  have fe:∀e∈[z,i1],ke X ag H e:=fun e he=>hf e (by simp only[bW,kJ,kQ] at he |-;rcases he with h|h <;> simp[h]);refine I.KH (t':=s.toks) fe fun c o hc e=>?_;simp only[bW,kJ,kQ,not_or] at hc;exact kp c o hc.1 hc.2 e
 self:=fun _ _ _ _ _ st h=>wpAny_pyIter_zip st.1 h
section
variable {X:Cx}
def Up(K:PySem.W.Frag)(ta:TA):TI:=fun σ H R=>ta σ H fun vs H1=>∃a b xs ys,vs=[.ref a,.ref b]/\bt K H1 a xs/\bt K H1 b ys/\xs.length=ys.length/\R (R5 K a b) H1
theorem CD{es:List Expr}{x1:Nat}{OB:Pos}{a b:Expr}{ta:TA}{p pos:Pos}(hg:Gl X "zip")(hm:X.mg "zip"=none)(ha:PA X [a,b] ta)(hs:starEach [a,b] X.env=[(false,eval a X.env),(false,eval b X.env)]:=by rfl)(uv:starEach [b] X.env=[(false,eval b X.env)]:=by rfl):
  PI X (.Tuple es x1 OB) (.Call (.Name "zip" p) [a,b] [] pos) (Up X.K ta):=by
 intro ag s σ H R I h;refine Call_ (mr I hg hm PyProof.Rows.boot_zip (vc (dk (ha pos ag s σ H _ I h) fun us s1 ⟨vs,H1,I1,r1,q1⟩=>?_) (by rw[hs,uv]) (by rw[uv];rfl)));obtain⟨l,m,xs,ys,rfl,hl,hm',KD,q⟩:=q1;obtain⟨u1,u2,rfl,ru1,ru2⟩:=r1.two;obtain rfl:u1=Value.ref l:=ru1;obtain rfl:u2=Value.ref m:=ru2;obtain⟨its,rv,pt,_⟩:=I1.tuple hl;obtain⟨kX,rv2,RH,_⟩:=I1.tuple hm';have fz:l<s1.heap.objs.size:=by obtain⟨o,e,_⟩:=pt;exact bp e
 have GT:m<s1.heap.objs.size:=by obtain⟨o,e,_⟩:=RH;exact bp e
 refine Ea (show s1.heap.IsTuple l its.toArray from pt) (show s1.heap.IsTuple m kX.toArray from RH) fun h' gz gi gq r1 r2 k=>?_;refine wpAny_pyIter_zip gz ?_;have I2:aZ X ag σ H1 { s1 with heap:=h' }:=I1.kept (t':=s1.toks) k;refine⟨s1.heap.objs.size+4,[s1.heap.objs.size+4,s1.heap.objs.size+2,s1.heap.objs.size+3,s1.heap.objs.size,s1.heap.objs.size+1],_,_,H1,rfl,I2,GS l m _ _ _ _ _ (zipApart_new fz GT),⟨gz,gi,⟨_,_,gq⟩,r1,r2⟩,fun b hb=>?_,q⟩;have xt:s1.heap.objs.size<=b:=by
  simp only[bW,kJ,kQ] at hb;rcases hb with rfl|rfl|rfl|rfl|rfl
  .exact vx _ _
  .exact vx _ _
  .exact vx _ _
  .exact aW _
  .exact vx _ _
 exact I1.FA xt (I1.cI.fresh xt)
theorem GU{K:PySem.W.Frag}{a b D:Addr}{xs ys:List V}{g:TG}{tt:TT}{te:TE}{dJ:Hp->Prop}{σB:St}{H0:Hp}(KD:xs.length=ys.length)(Pv:Nat->List V->St->Hp->Prop)(h0:Pv 0 [] σB H0)(hl:∀i zs σ H,i<=xs.length->Pv i zs σ H->bt K H a xs/\bt K H b ys)(hs:∀i x y p zs σ H (Kt:V->St->Hp->Prop) (Kf:St->Hp->Prop),xs[i]?=some x->ys[i]?=some y->Pv i zs σ H->H p=none->
   (∀v σ2 H4,H4 D=some (.lst zs)->zs.length<sizeLine->Pv (i+1) (zs++[v]) σ2 (upd H4 D (.lst (zs++[v])))->Kt v σ2 H4)->(∀σ2 H3,Pv (i+1) zs σ2 H3->Kf σ2 H3)->
   g (.ref p) σ (upd H p (.tup [x,y])) fun σ2 H2=>tt σ2 H2 fun b H3=>if b=true then te σ2 H3 fun v H4=>Kt v σ2 H4 else Kf σ2 H3)(hd:∀zs σ H,Pv xs.length zs σ H->dJ H):gJ (R5 K a b) g tt te D dJ σB H0:=by
 refine⟨fun i m σ H=>m=xs.length-i/\i<=xs.length/\∃zs,Pv i zs σ H,⟨xs.length,by simp,de _,[],h0⟩,?_⟩;rintro i m σ H ⟨rfl,hi,zs,p⟩;obtain⟨q1,q2⟩:=hl i zs σ H hi p;by_cases fz:i<xs.length
 .have GT:i<ys.length:=by lia
  refine .inr ⟨⟨xs,ys,xs[i],ys[i],q1,q2,by simp[fz],by simp[GT]⟩,?_⟩;rintro v H' ⟨pp,x,y,rfl,hn,rfl,Kl,Uq⟩;exact hs i x y pp zs σ _ (fun v σ2 H4=>∃zs,H4 D=some (.lst zs)/\zs.length<sizeLine/\∃m',m'<xs.length-i/\m'=xs.length-(i+1)/\i+1<=xs.length/\∃y6,Pv (i+1) y6 σ2 (upd H4 D (.lst (zs++[v]))))
   (fun σ2 H3=>∃m',m'<xs.length-i/\m'=xs.length-(i+1)/\i+1<=xs.length/\∃y6,Pv (i+1) y6 σ2 H3) (Kl xs q1) (Uq ys q2) p hn
   (fun v σ2 H4 z1 z2 z3=>⟨zs,z1,z2,_,by lia,rfl,fz,_,z3⟩) (fun σ2 H3 z=>⟨_,by lia,rfl,fz,_,z⟩)
 .have e:i=xs.length:=by lia
  subst e;exact .inl ⟨⟨xs,q1,aW _⟩,hd zs σ H p⟩
theorem sR(rx:bg xs us)(ry:bg ys vs)(fx:xs.all cT=true)(fy:ys.all cT=true):
  ∀j (h1:j<us.toArray.size) (h2:j<vs.toArray.size),SeqAt.EqAt A s us.toArray[j] vs.toArray[j] (iH (xs.getD j .bz) (ys.getD j .bz)):=by
 intro j h1 h2;have j1:j<xs.length:=by rw[rx.length];simpa using h1
 have j2:j<ys.length:=by rw[ry.length];simpa using h2
 have e1:xs[j]?=some (xs.getD j .bz):=by rw[aS,bq j1];rfl
 have e2:ys[j]?=some (ys.getD j .bz):=by rw[aS,bq j2];rfl
 obtain⟨u,TX,ru⟩:=rx.get e1;obtain⟨v,Kl,rv⟩:=ry.get e2;have eu:us.toArray[j]=u:=by
  have:us[j]?=some us.toArray[j]:=by simp at h1 |-
  rw[TX] at this;exact(bX this).symm
 have ev:vs.toArray[j]=v:=by
  have:vs[j]?=some vs.toArray[j]:=by simp at h2 |-
  rw[Kl] at this;exact(bX this).symm
 rw[eu,ev];exact se ru rv (hG.mp fx _ (cZ e1)) (hG.mp fy _ (cZ e2))
theorem yj(I:aZ X ag σ H s)(hu:A.units+1<cLine)(ha:bt X.K H a xs)(hb:bt X.K H b ys)(hl:xs.length=ys.length)(fx:xs.all cT=true)(fy:ys.all cT=true):
  SeqAt.EqAt A s (.ref a) (.ref b) (gK iH xs ys):=by
 by_cases qS:a=b
 .subst qS;have e1:=I.gO ha hb;subst e1;have e2:gK iH xs xs=true:=by
   clear ha hb hl fy;induction xs with
   |nil=>rfl
   |cons x xs ih=>
    rw[jI,gg] at fx;rw[gK,ih fx.2,vI];cases x <;> first|rfl|(show (_==_)=true;simp)|exact absurd (show false=true from fx.1) cJ
  rw[e2];exact SeqAt.EqAt.same _
 .obtain⟨us,r1,p1,_⟩:=I.tuple ha;obtain⟨vs,r2,p2,_⟩:=I.tuple hb;have h:=SeqAt.RcAt.tuples (A:=A) (s:=s) (l:=a) (b:=b) (e:=fun i=>iH (xs.getD i .bz) (ys.getD i .bz)) (show s.heap.IsTuple a us.toArray from p1) (show s.heap.IsTuple b vs.toArray from p2) (by lia)
   (sR r1 r2 fx fy)
  refine SeqAt.EqAt.of_refs qS ?_;have er:((List.range (min us.toArray.size vs.toArray.size)).all (fun i=>iH (xs.getD i .bz) (ys.getD i .bz))&&us.toArray.size==vs.toArray.size)=gK iH xs ys:=by
   rw[bQ,bQ,<-r1.length,<-r2.length,<-hl,Nat.min_self,beq_self_eq_true,vI,h_ hl]
  rw[er] at h;exact h
theorem AX{p q:Int×Int}:gK iH [.int p.1,.int p.2] [.int q.1,.int q.2]=decide (p=q):=by
 obtain⟨a,b⟩:=p;obtain⟨c,d⟩:=q;show ((a==c)&&((b==d)&&true))=decide ((a,b)=(c,d));by_cases h1:a=c <;> by_cases h2:b=d <;> simp[h1,h2]
def Ur(K:PySem.W.Frag)(neg:Bool):R2:=fun x y H Q=>∃ (p l:Addr) (u:Int×Int) (as:List Addr) (ps:List (Int×Int)),x=.ref p/\y=.ref l/\bt K H p [.int u.1,.int u.2]/\aV K H l (as.map V.ref)/\as.length=ps.length/\(∀i,i<ps.length->bt K H (as.getD i 0) [.int (ps.getD i (0,0)).1,.int (ps.getD i (0,0)).2])/\
 Q (.bl (if neg then !decide (u∈ps) else decide (u∈ps))) H
open Classical in
theorem CF(I:aZ X ag σ H s):∀ {as:List Addr} {ps:List (Int×Int)},as.length=ps.length->(∀i,i<ps.length->bt X.K H (as.getD i 0) [.int (ps.getD i (0,0)).1,.int (ps.getD i (0,0)).2])->
  ((as.map Value.ref).any fun v=>decide (∃a,v=Value.ref a/\bt X.K H a [.int u.1,.int u.2]))=decide (u∈ps)
 |[],[],_,_=>by simp
 |a::as,p::ps,hl,h=>by
  have ih:=CF I (u:=u) (as:=as) (ps:=ps) (by simpa using hl) (fun i hi=>h (i+1) (by simpa using hi));have h0:bt X.K H a [.int p.1,.int p.2]:=h 0 (by simp);rw[eJ,kN,ih];have e:decide (∃b,Value.ref a=Value.ref b/\bt X.K H b [.int u.1,.int u.2])=decide (u=p):=by
   rw[hV,l6,l6];constructor
   .rintro⟨b,e,hb⟩;cases e;have:=I.gO h0 hb;have e1:p.1=u.1:=V.int.inj (jH this).1;have e2:p.2=u.2:=V.int.inj (jH (jH this).2).1;exact fQ e1.symm e2.symm
   .rintro rfl;exact⟨a,rfl,h0⟩
  rw[e];by_cases z:u=p
  .simp[z]
  .simp[z]
open Classical in
theorem GV{ag:List (Addr×Obj)}{σ:St}{H:Hp}{s:Shared}{A:Around}(I:aZ X ag σ H s)(hu:A.units+1<cLine){p:Addr}{u:Int×Int}(hp:bt X.K H p [.int u.1,.int u.2]){as:List Addr}{ps:List (Int×Int)}(hl:as.length=ps.length)(h:∀i,i<ps.length->bt X.K H (as.getD i 0) [.int (ps.getD i (0,0)).1,.int (ps.getD i (0,0)).2]):∀v∈as.map Value.ref,SeqAt.EqAt A s v (.ref p) (decide (∃a,v=Value.ref a/\bt X.K H a [.int u.1,.int u.2])):=by
 intro v hv;obtain⟨a,ha,rfl⟩:=bn.mp hv;obtain⟨i,hi,e⟩:=kB.mp ha;have hq:=h i (by lia);have ea:as.getD i 0=a:=by rw[aS,bq hi];exact e
 rw[ea] at hq;have z:=yj (A:=A) I hu hq hp rfl rfl rfl;rw[AX] at z;have e:decide (∃b,Value.ref a=Value.ref b/\bt X.K H b [.int u.1,.int u.2])=decide (ps.getD i (0,0)=u):=by
  rw[hV,l6,l6];constructor
  .rintro⟨b,e,hb⟩;cases e;have:=I.gO hq hb;exact fQ (V.int.inj (jH this).1) (V.int.inj (jH (jH this).2).1)
  .intro e;rw[<-e];exact⟨a,rfl,hq⟩
 rw[e];exact z
open Classical in
theorem uW(hu:X.A.units+2<cLine):j6 X (compareOp .NotIn) (Ur X.K true):=by
 intro ag s σ H x y v u Q I rx ry h;obtain⟨p,l,w,as,ps,rfl,rfl,hp,hl,dz,hps,q⟩:=h;obtain rfl:v=Value.ref p:=rx;obtain rfl:u=Value.ref l:=ry;obtain⟨its,r,pl,_⟩:=I.list hl;have e:=nI r;subst e;refine z0 (fun v=>decide (∃a,v=Value.ref a/\bt X.K H a [.int w.1,.int w.2])) pl.isList (fun y hy=>GV I (by show X.A.units+1+1<cLine;lia) hp dz hps y (by simpa using hy)) ⟨.bl _,H,I,rfl,?_⟩;rw[show (as.map Value.ref).toArray.any (fun v=>decide (∃a,v=Value.ref a/\bt X.K H a [.int w.1,.int w.2]))=(as.map Value.ref).any (fun v=>decide (∃a,v=Value.ref a/\bt X.K H a [.int w.1,.int w.2])) by simp,CF I dz hps];exact q
def Us(K:PySem.W.Frag)(t:Oj):TG:=fun v σ H Q=>∃a x y,v=.ref a/\aV K H a [x,y]/\t [x,y] σ H Q
theorem KJ{es:List Expr}{k:Nat}{t:Oj}{pos:Pos}(hc:X.calm=true)(h:SY X es t)(hn:(assignEach es X.env).length=2:=by rfl)(nj:(assignEach es X.env).findIdx? (·.1)=none:=by rfl):PG X (.Tuple es k pos) (Us X.K t):=by
 intro ag s σ H v u Q I r hw;obtain⟨a,x,y,e1,hq,hw⟩:=hw;subst e1;cases r;obtain⟨its,rv,ht,hz⟩:=I.list hq;obtain⟨u1,u2,rfl,r1,r2⟩:=rv.two;have fz:a≠s.heap.objs.size:=by
  obtain⟨o,ho,_⟩:=ht.isList;exact bh (bp ho)
 rw[assign_Tuple];refine aE (mf ?_);unfold unpack;rw[hn,nj];refine aE (gC ?_);unfold unpackItems;refine aE ?_;unfold notIterableAtAll;refine aE (wpAny_specialOf ht.isList.typeIs slot_list_iter.lookup (wpAny_pure ?_));simp only[kG,gN];refine aE (gC (oR ht.isList ?_));have hL0:(s.heap.push { cls:=.type "list_iterator",data:=.fields #[.ref a,.int 0 0] }).IsList a [u1,u2].toArray:=ht.isList.push _;refine aE (gC ?_);change wpAny _ _ (pyNext (.ref s.heap.objs.size) >>= _) _ _ _;refine aE (rl (it:=s.heap.objs.size) (l:=a) (i:=0) (s:={ s with heap:=s.heap.push { cls:=.type "list_iterator",data:=.fields #[.ref a,.int 0 0] } }) ⟨_,cR _ rfl,rfl,rfl⟩ hL0 (x:=u1) rfl fun h1 it1 oB=>?_);refine aE (gC ?_);change wpAny _ _ (pyNext (.ref s.heap.objs.size) >>= _) _ _ _;have wu:h1.IsList a [u1,u2].toArray:=hL0.extBut oB.extBut fz;refine aE (rl (s:={ s with heap:=h1 }) it1 wu (x:=u2) rfl fun h2 it2 mV=>?_);have R8:h2.IsList a [u1,u2].toArray:=wu.extBut mV.extBut fz;refine aE (gC (wpAny_pure (wpAny_pure (wpAny_pure ?_))));rw[au (by simp)];refine aE (gC (vj (s:={ s with heap:=h2 }) (I.ok.hd hc) it2 R8 rfl fun h3 eb3=>?_));simp only[Option.isSome_none,kG,gN];refine wpAny_pure ?_;have I1:aZ X ag σ H { s with heap:=h3 }:=I.kept (t':=s.toks) fun b o e=>by
  have nb:b≠s.heap.objs.size:=bh (bp e);exact eb3 b o nb (mV.extBut b o nb (oB.extBut b o nb (cg _ e)))
 exact h ag _ σ H [x,y] _ Q I1 (.cons r1 (.cons r2 .nil)) hw
end
theorem yk{h:Heap}{vs:List Value}{out:Array Value}:(∃e,(sortedAll h vs out).get? (h.objs.size+1)=some (seqObj "list" out e))/\∀b u,h.get? b=some u->(sortedAll h vs out).get? b=some u:=by
 have Pb:((h.push (seqObj "list" #[] 0)).update h.objs.size (Obj.mapSeq (·++vs.toArray))).objs.size=h.objs.size+1:=by rw[iP,iR]
 have k1:∀b u,h.get? b=some u->(((h.push (seqObj "list" #[] 0)).update h.objs.size (Obj.mapSeq (·++vs.toArray))).push (seqObj "list" vs.toArray 0)).get? b=some u:=fun b u e=>by
  have hb:b<h.objs.size:=bp e;rw[gy _ _ _ (by rw[Pb];exact bh (dN hb)),kE _ _ _ _ (bh hb),gy _ _ _ (bh hb)];exact e
 have EV:(((h.push (seqObj "list" #[] 0)).update h.objs.size (Obj.mapSeq (·++vs.toArray))).push (seqObj "list" vs.toArray 0)).get? (h.objs.size+1)=some (seqObj "list" vs.toArray 0):=by
  rw[<-Pb];exact cR _ rfl
 have D9:(((h.push (seqObj "list" #[] 0)).update h.objs.size (Obj.mapSeq (·++vs.toArray))).push (seqObj "list" vs.toArray 0)).objs.size=h.objs.size+2:=by rw[iR,Pb]
 unfold sortedAll;revert k1 EV D9;generalize ((h.push (seqObj "list" #[] 0)).update h.objs.size (Obj.mapSeq (·++vs.toArray))).push (seqObj "list" vs.toArray 0)=h1;intro k1 EV D9;obtain⟨e1,RZ⟩:∃e1,(h1.update (h.objs.size+1) (Obj.mapSeq fun _=>(#[]:Array Value))).get? (h.objs.size+1)=some (seqObj "list" #[] e1):=⟨_,rN EV (fun _=>#[])⟩
 have Nm:(((h1.update (h.objs.size+1) (Obj.mapSeq fun _=>(#[]:Array Value))).push (seqObj "tuple" vs.toArray 0)).push (seqObj "list" #[] 0)).get? (h.objs.size+1)=some (seqObj "list" #[] e1):=by
  rw[gy _ _ _ (by rw[iR,iP,D9];exact bh (dN (jD _))),gy _ _ _ (by rw[iP,D9];exact bh (jD _))];exact RZ
 refine⟨⟨_,rN Nm (fun _=>out)⟩,fun b u e=>?_⟩;have hb:b<h.objs.size:=bp e;unfold sortedHeap;rw[kE _ _ _ _ (bh (dN hb)),gy _ _ _ (by rw[iR,iP,D9];exact bh (dN (dN (dN hb)))),gy _ _ _ (by rw[iP,D9];exact bh (dN (dN hb))),kE _ _ _ _ (bh (dN hb))];exact k1 b u e
end L2
namespace fJ
abbrev Ts:=List (Int×Int)
def T(ts:Ts)(a b:Nat):Prop:=(((a:Nat):Int),((b:Nat):Int))∈ts
instance (ts:Ts) (a b:Nat):Decidable (T ts a b):=inferInstanceAs (Decidable (_∈_))
def dS(ts:Ts):Nat->Nat->Nat->Prop
 |0,a,b=>a=b
 |k+1,a,b=>∃c,dS ts k a c/\T ts c b
theorem dS.trans(h:dS ts k a b):∀ {l:Nat} {c:Nat},dS ts l b c->dS ts (k+l) a c
 |0,_,e=>by cases e;exact h
 |l+1,_,⟨d,w,t⟩=>⟨d,h.trans w,t⟩
theorem dS.one(h:T ts a b):dS ts 1 a b:=⟨a,rfl,h⟩
theorem dS.cons(h:T ts a b)(w:dS ts k b c):dS ts (k+1) a c:=by
 have:=(dS.one h).trans w;rwa [Nat.add_comm] at this
def nJ(ts:Ts)(a b d:Nat):Prop:=dS ts d a b/\∀k,dS ts k a b->d<=k
theorem nJ.uniq(h:nJ ts a b d)(g:nJ ts a b e):d=e:=Nat.le_antisymm (h.2 _ g.1) (g.2 _ h.1)
theorem Pc{ts:Ts}{a b:Nat}:∀k,dS ts k a b->∃d,nJ ts a b d:=by
 intro k;induction k using Nat.strongRecOn with
 |ind k ih=>
  intro w;by_cases h:∃j,j<k/\dS ts j a b
  .obtain⟨j,hj,wj⟩:=h;exact ih j hj wj
  .exact⟨k,w,fun j wj=>mY fun z=>h ⟨j,by lia,wj⟩⟩
open Classical in
noncomputable def far(ts:Ts)(a b:Nat):Nat:=if h:∃d,nJ ts a b d then h.choose else 0
theorem AY(h:nJ ts a b d):far ts a b=d:=by
 unfold far;have hx:∃d,nJ ts a b d:=⟨d,h⟩
 rw[dif_pos hx];exact hx.choose_spec.uniq h
theorem Pd{ts:Ts}{a b k:Nat}(w:dS ts k a b):nJ ts a b (far ts a b):=by
 obtain⟨d,h⟩:=Pc k w;rw[AY h];exact h
structure cA(n:Nat)(ts:Ts):Prop where
 n1:2<=n
 n2:n<=32
 nd:ts.Nodup
 rg:∀t∈ts,(0<=t.1/\t.1<n)/\(0<=t.2/\t.2<n)
 ne:∀t∈ts,t.1≠t.2
 Eb:∀h:Int,(ts.filter fun t=>decide (t.1=h)).length=(ts.filter fun t=>decide (t.2=h)).length
 most:∀h:Int,(ts.filter fun t=>decide (t.1=h)).length<=8
 con:∀a b,a<n->b<n->∃k,dS ts k a b
theorem Ec(f:α->Int):∀ (l:List α) (n:Nat),(∀x∈l,0<=f x/\f x<n)->(∀h:Int,(l.filter fun t=>decide (f t=h)).length<=8)->l.length<=8*n:=by
 intro l n;induction n generalizing l with
 |zero=>
  intro h _;cases l with
  |nil=>simp
  |cons x xs=>have:=h x bZ;lia
 |succ n ih=>
  intro h h8;have e:l.length=(l.filter fun t=>decide (f t=(n:Int))).length+(l.filter fun t=>!decide (f t=(n:Int))).length:=by
   induction l with
   |nil=>rfl
   |cons x xs ih2=>
    have:=ih2 (fun y hy=>h y (du _ hy)) (fun hh=>aY (by rw[c_];split <;> simp) (h8 hh));by_cases q:f x=(n:Int) <;> simp[c_,q] <;> lia
  have i2:=ih (l.filter fun t=>!decide (f t=(n:Int))) (fun x hx=>by
   have a:=h x (cS.mp hx |>.1);have b:=(cS.mp hx).2;simp at b;lia) (fun hh=>by
   refine aY ?_ (h8 hh);exact(vq.filter _).length_le)
  have:=h8 (n:Int);lia
theorem cA.len(F:cA n ts):ts.length<=256:=by
 have:=Ec (·.1) ts n (fun t ht=>(F.rg t ht).1) F.most;have:=F.n2;lia
theorem cA.Xk(F:cA n ts)(h:T ts a b):a<n/\b<n/\a≠b:=by
 have q:=F.rg _ h;have q2:=F.ne _ h;refine⟨by have:=q.1;simp at this;lia,by have:=q.2;simp at this;lia,fun e=>q2 (by rw[e])⟩
theorem cA.Zq{n:Nat}{ts:Ts}(F:cA n ts){a b:Nat}(ha:a<n)(hb:b<n):nJ ts a b (far ts a b):=
 let ⟨_,w⟩:=F.con a b ha hb;Pd w
def bj(n:Nat)(ts:Ts)(h:Nat):List Nat:=((List.range n).map fun s=>(h+s) % n).filter fun o=>decide (T ts h o)
theorem fK(F:cA n ts)(hh:h<n):o∈bj n ts h↔T ts h o:=by
 unfold bj;rw[cS,rq];refine⟨fun z=>z.2,fun z=>⟨?_,z⟩⟩;obtain⟨_,h2,_⟩:=F.Xk z;refine bn.mpr ⟨if h<=o then o-h else o+n-h,bH.mpr (by split <;> lia),?_⟩;split
 .rw[show h+(o-h)=o by lia,jC h2]
 .rw[show h+(o+n-h)=o+n by lia,Nat.add_mod_right,jC h2]
theorem dL(F:cA n ts)(hh:h<n)(ho:o∈bj n ts h):o<n:=(F.Xk ((fK F hh).mp ho)).2.1
def key(n h o:Nat):Int:=((o:Int)-(h:Int)) % (n:Int)
theorem pI(hh:h<n)(hs:s<n):key n h ((h+s) % n)=(s:Int):=by
 unfold key;by_cases c:h+s<n
 .rw[jC c,show (((h+s:Nat):Int)-(h:Int))=(s:Int) by lia];exact Int.emod_eq_of_lt (by lia) (by lia)
 .have e:(h+s) % n=h+s-n:=by
   rw[Nat.mod_eq_sub_mod (by lia),jC (by lia)]
  rw[e,show ((((h+s-n:Nat)):Int)-(h:Int))=(s:Int)-(n:Int) by lia,Int.sub_emod_right];exact Int.emod_eq_of_lt (by lia) (by lia)
theorem qi(hh:h<n):(bj n ts h).Pairwise fun a b=>key n h a<key n h b:=by
 unfold bj;refine List.Pairwise.filter _ ?_;refine jt.mpr ?_;refine List.Pairwise.imp_of_mem ?_ (List.pairwise_lt_range (n:=n));intro a b ha hb qS;rw[pI hh (bH.mp ha),pI hh (bH.mp hb)];lia
theorem qj{α:Type}{k:α->Int}:∀ {a b:List α},a.Pairwise (fun x y=>k x<k y)->b.Pairwise (fun x y=>k x<k y)->(∀x,x∈a↔x∈b)->a=b
 |[],[],_,_,_=>rfl
 |[],y::ys,_,_,h=>absurd ((h y).mpr bZ) (by simp)
 |x::xs,[],_,_,h=>absurd ((h x).mp bZ) (by simp)
 |x::xs,y::ys,ha,hb,h=>by
  obtain⟨a1,a2⟩:=rp.mp ha;obtain⟨b1,b2⟩:=rp.mp hb;have e:x=y:=by
   rcases bW.mp ((h x).mp bZ) with z|z
   .exact z
   .rcases bW.mp ((h y).mpr bZ) with z'|z'
    .exact z'.symm
    .have q1:=b1 x z;have q2:=a1 y z';lia
  subst e;refine congrArg (x::·) (qj a2 b2 fun z=>⟨fun hz=>?_,fun hz=>?_⟩)
  .rcases bW.mp ((h z).mp (du _ hz)) with q|q
   .subst q;exact absurd (a1 _ hz) (by lia)
   .exact q
  .rcases bW.mp ((h z).mpr (du _ hz)) with q|q
   .subst q;exact absurd (b1 _ hz) (by lia)
   .exact q
structure y7(n:Nat)(ts:Ts)(s i:Nat)(R:List Nat)(f:Nat->Nat):Prop where
 nd:R.Nodup
 lt:∀x∈R,x<n
 st:s∈R
 z:f s=0
 wk:∀x∈R,dS ts (f x) s x
 up:R.Pairwise fun a b=>f a<=f b
 bd:∀u,R[i]?=some u->∀x∈R,f x<=f u+1
 cl:∀j u,j<i->R[j]?=some u->∀v,T ts u v->v∈R/\f v<=f u+1
theorem y7.start(hs:s<n):y7 n ts s 0 [s] (fun _=>0):=
 ⟨by simp,fun x hx=>by simp at hx;lia,by simp,rfl,fun x hx=>by simp at hx;subst hx;rfl,by simp,fun u _ x _=>by lia,fun j u h=>absurd h (by lia)⟩
def put(f:Nat->Nat)(v k:Nat):Nat->Nat:=fun y=>if y=v then k else f y
theorem i0:put f v k v=k:=by simp[put]
theorem fV(h:x≠v):put f v k x=f x:=by simp[put,h]
theorem y7.add(B:y7 n ts s i R f)(hu:R[i]?=some u)(hv:v<n)(t:T ts u v)(hn:v∉R):y7 n ts s i (R++[v]) (put f v (f u+1)):=by
 have hur:u∈R:=cZ hu;have nv:∀x∈R,x≠v:=fun x hx e=>hn (e ▸ hx);have hi:i<R.length:=(cY.mp hu).1;refine⟨?_,fun x hx=>?_,iz _ B.st,by rw[fV (nv s B.st)];exact B.z,fun x hx=>?_,?_,fun w hw x hx=>?_,fun j w hj hw x hx=>?_⟩
 .rw[l8];exact⟨B.nd,by simp,fun a ha b hb e=>by simp at hb;subst hb;exact hn (e ▸ ha)⟩
 .rcases bY.mp hx with z|z
  .exact B.lt x z
  .simp at z;lia
 .rcases bY.mp hx with z|z
  .rw[fV (nv x z)];exact B.wk x z
  .simp at z;subst z;rw[i0];exact⟨u,B.wk u hur,t⟩
 .rw[List.pairwise_append];refine⟨B.up.imp_of_mem fun {a b} ha hb h=>by rw[fV (nv a ha),fV (nv b hb)];exact h,by simp,fun a ha b hb=>?_⟩;simp at hb;subst hb;rw[fV (nv a ha),i0];exact B.bd u hu a ha
 .have Zr:w=u:=by
   rw[i6 hi,hu] at hw;exact(bX hw).symm
  subst Zr;rw[fV (nv w hur)];rcases bY.mp hx with z|z
  .rw[fV (nv x z)];exact B.bd w hu x z
  .simp at z;subst z;rw[i0];exact aW _
 .rw[i6 (by lia)] at hw;obtain⟨a,b⟩:=B.cl j w hj hw x hx;refine⟨iz _ a,?_⟩;rw[fV (nv x a),fV (nv w (cZ hw))];exact b
theorem y7.next(B:y7 n ts s i R f)(hu:R[i]?=some u)(h:∀v,T ts u v->v∈R/\f v<=f u+1):y7 n ts s (i+1) R f:=by
 refine⟨B.nd,B.lt,B.st,B.z,B.wk,B.up,fun w hw x hx=>?_,fun j w hj hw v hv=>?_⟩
 .have h1:=B.bd u hu x hx;have h2:f u<=f w:=by
   have hi:i<R.length:=(cY.mp hu).1;have ub:i+1<R.length:=(cY.mp hw).1;have:=Fm.mp B.up i (i+1) hi ub (by lia);rw[bq hi] at hu;rw[bq ub] at hw;rw[bX hu,bX hw] at this;exact this
  lia
 .by_cases e:j=i
  .subst e;rw[hu] at hw;cases hw;exact h v hv
  .exact B.cl j w (by lia) hw v hv
theorem fc:∀ {n:Nat} {R:List Nat},R.Nodup->(∀x∈R,x<n)->R.length<=n:=by
 intro n R hn hl;have key:∀ (a b:List Nat),a.Nodup->(∀x∈a,x∈b)->a.length<=b.length:=by
  intro a;induction a with
  |nil=>intro b _ _;exact de _
  |cons x xs ih=>
   intro b hn hs;obtain⟨h1,h2⟩:=hU.mp hn;have hx:x∈b:=hs x bZ;have:=ih (b.erase x) h2 fun y hy=>(List.mem_erase_of_ne (fun (e:y=x)=>h1 (e ▸ hy))).mpr (hs y (du _ hy));rw[Fn hx] at this;have:0<b.length:=zu hx;rw[dC];lia
 have:=key R (List.range n) hn fun x hx=>bH.mpr (hl x hx);rwa [cE] at this
theorem y7.done(B:y7 n ts s i R f)(F:cA n ts)(hi:R.length<=i)(hx:x<n):x∈R/\f x=far ts s x:=by
 have cl:∀u∈R,∀v,T ts u v->v∈R/\f v<=f u+1:=fun u hu v hv=>by
  obtain⟨j,hj,e⟩:=kB.mp hu;exact B.cl j u (by lia) (by rw[bq hj,e]) v hv
 have walk:∀k x,dS ts k s x->x∈R/\f x<=k:=by
  intro k;induction k with
  |zero=>intro x e;cases e;exact⟨B.st,by rw[B.z];exact aW _⟩
  |succ k ih=>
   rintro x ⟨c,w,t⟩;obtain⟨c1,c2⟩:=ih c w;obtain⟨d1,d2⟩:=cl c c1 x t;exact⟨d1,by lia⟩
 obtain⟨k,w⟩:=F.con s x (B.lt s B.st) hx;obtain⟨m,_⟩:=walk k x w;exact⟨m,(AY ⟨B.wk x m,fun k w=>(walk k x w).2⟩).symm⟩
theorem dS.mono(h:∀t∈ts,t∈Zt):∀ {k a b:Nat},dS ts k a b->dS Zt k a b
 |0,_,_,e=>e
 |_+1,_,_,⟨c,w,t⟩=>⟨c,w.mono h,h _ t⟩
structure y8(n:Nat)(ts:Ts):Prop where
 nd:ts.Nodup
 rg:∀t∈ts,(0<=t.1/\t.1<n)/\(0<=t.2/\t.2<n)
 ne:∀t∈ts,t.1≠t.2
 Eb:∀h:Int,(ts.filter fun t=>decide (t.1=h)).length=(ts.filter fun t=>decide (t.2=h)).length
 most:∀h:Int,(ts.filter fun t=>decide (t.1=h)).length<=8
theorem cA.pre(F:cA n ts):y8 n ts:=⟨F.nd,F.rg,F.ne,F.Eb,F.most⟩
theorem y8.lN(P:y8 n ts)(n1:2<=n)(n2:n<=32)(c:∀a b,a<n->b<n->∃k,dS ts k a b):cA n ts:=⟨n1,n2,P.nd,P.rg,P.ne,P.Eb,P.most,c⟩
theorem cA.perm(F:cA n ts)(p:Zt.Perm ts):cA n Zt:=
  ⟨F.n1,F.n2,p.nodup_iff.mpr F.nd,fun t ht=>F.rg t (p.mem_iff.mp ht),fun t ht=>F.ne t (p.mem_iff.mp ht),fun h=>by rw[(p.filter _).length_eq,(p.filter _).length_eq];exact F.Eb h,
   fun h=>by rw[(p.filter _).length_eq];exact F.most h,fun a b ha hb=>let ⟨k,w⟩:=F.con a b ha hb;⟨k,w.mono fun t ht=>p.mem_iff.mpr ht⟩⟩
theorem cA.app(F:cA n ts)(P:y8 n (ts++us)):cA n (ts++us):=
 P.lN F.n1 F.n2 fun a b ha hb=>let ⟨k,w⟩:=F.con a b ha hb;⟨k,w.mono fun t ht=>iz _ ht⟩
def pk(c k:Nat):Nat:=if k=0 then c-1 else k-1
abbrev ci(x:Nat):Int:=(x:Int)
def sU(xs:List Nat):Ts:=(List.range xs.length).map fun k=>(ci (xs.getD (pk xs.length k) 0),ci (xs.getD k 0))
theorem dF{xs:List Nat}{k:Nat}(h:k<xs.length):xs.getD k 0=xs[k]:=by rw[aS,bq h];rfl
theorem CG(xs:List Nat):(sU xs).map (·.2)=xs.map ci:=by
 unfold sU;rw[cy];apply zY
 .simp
 .intro i h1 h2;simp only[rF,zK,Function.comp];rw[dF (by simpa using h2)]
theorem CH(xs:List Nat):((sU xs).map (·.1)).Perm (xs.map ci):=by
 cases hx:xs with
 |nil=>exact me _
 |cons y ys=>
  rw[<-hx];have hl:xs.length=ys.length+1:=by rw[hx];rfl
  have e:(sU xs).map (·.1)=ci (xs.getD (xs.length-1) 0)::(xs.take (xs.length-1)).map ci:=by
   unfold sU;rw[cy];apply zY
   .simp;lia
   .intro i h1 h2;simp only[rF,zK,Function.comp];cases i with
    |zero=>rfl
    |succ i=>
     have hi:i+1<xs.length:=by simpa using h1
     simp only[List.getElem_cons_succ,rF,List.getElem_take];unfold pk;rw[au (by lia),show i+1-1=i by lia,dF (by lia)]
  rw[e];have:xs.map ci=(xs.take (xs.length-1)).map ci++[ci (xs.getD (xs.length-1) 0)]:=by
   conv=>lhs;rw[<-p7 (xs.length-1) xs]
   rw[cK];congr 1;rw[oE (by lia),List.drop_eq_nil_of_le (by lia),dF (by lia)];rfl
  rw[this];exact(List.perm_append_singleton _ _).symm
theorem jz(ts:Ts)(h:Int):(ts.filter fun t=>decide (t.1=h)).length=(ts.map (·.1)).count h:=by
 induction ts with
 |nil=>rfl
 |cons t ts ih=>by_cases e:t.1=h <;> simp[c_,vE,e,ih]
theorem pL(ts:Ts)(h:Int):(ts.filter fun t=>decide (t.2=h)).length=(ts.map (·.2)).count h:=by
 induction ts with
 |nil=>rfl
 |cons t ts ih=>by_cases e:t.2=h <;> simp[c_,vE,e,ih]
theorem ym{xs:List Nat}(h:xs.Nodup):(xs.map ci).Nodup:=by
 refine jt.mpr (h.imp fun {a b} qS e=>qS ?_);exact cD e
theorem nK:∀ {l:List α},(l.map f).Nodup->l.Nodup
 |[],_=>jE
 |a::l,h=>by
  rw[eJ] at h;obtain⟨h1,h2⟩:=hU.mp h;exact hU.mpr ⟨fun z=>h1 (bn.mpr ⟨a,z,rfl⟩),nK h2⟩
theorem nM(h:t∈sU xs):∃k,k<xs.length/\t=(ci (xs.getD (pk xs.length k) 0),ci (xs.getD k 0)):=by
 obtain⟨k,hk,rfl⟩:=bn.mp h;exact⟨k,bH.mp hk,rfl⟩
theorem uX(h:k<c):pk c k<c:=by unfold pk;split <;> lia
theorem lE{xs:List Nat}{k:Nat}(h:k<xs.length):xs.getD k 0∈xs:=by rw[dF h];exact dv h
theorem lF{xs:List Nat}(nd:xs.Nodup){i j:Nat}(hi:i<xs.length)(hj:j<xs.length)(e:xs[i]=xs[j]):i=j:=by
 have pw:=Fm.mp nd;rcases Nat.lt_trichotomy i j with z|z|z
 .exact absurd e (pw i j hi hj z)
 .exact z
 .exact absurd e.symm (pw j i hj hi z)
theorem ww{n:Nat}{xs:List Nat}(nd:xs.Nodup)(lt:∀x∈xs,x<n)(c2:2<=xs.length):y8 n (sU xs)/\∀h:Int,((sU xs).filter fun t=>decide (t.1=h)).length<=1:=by
 have Zu:((sU xs).map (·.2)).Nodup:=by rw[CG];exact ym nd
 have one:∀h:Int,((sU xs).filter fun t=>decide (t.1=h)).length<=1:=fun h=>by
  rw[jz,(CH xs).count_eq];exact List.nodup_iff_count.mp (ym nd) h
 refine⟨⟨nK Zu,fun t ht=>?_,fun t ht=>?_,fun h=>?_,fun h=>aY (one h) (by decide)⟩,one⟩
 .obtain⟨k,hk,rfl⟩:=nM ht;have h1:=lt _ (lE (uX hk));have h2:=lt _ (lE hk);simp only[ci];lia
 .obtain⟨k,hk,rfl⟩:=nM ht;intro e;have e':xs.getD (pk xs.length k) 0=xs.getD k 0:=cD e;rw[dF (uX hk),dF hk] at e';have:=lF nd (uX hk) hk e';unfold pk at this;split at this <;> lia
 .rw[jz,pL,(CH xs).count_eq,CG]
theorem qT(P:y8 n ts)(Q:y8 n us)(hd:∀t∈us,t∉ts)(hm:∀h:Int,(ts.filter fun t=>decide (t.1=h)).length+(us.filter fun t=>decide (t.1=h)).length<=8):y8 n (ts++us):=by
 refine⟨l8.mpr ⟨P.nd,Q.nd,fun a ha b hb e=>hd b hb (e ▸ ha)⟩,fun t ht=>?_,fun t ht=>?_,fun h=>?_,fun h=>?_⟩
 .rcases bY.mp ht with z|z
  .exact P.rg t z
  .exact Q.rg t z
 .rcases bY.mp ht with z|z
  .exact P.ne t z
  .exact Q.ne t z
 .rw[ft,ft,cn,cn,P.Eb,Q.Eb]
 .rw[ft,cn];exact hm h
theorem Ed(P:y8 n ts)(nd:xs.Nodup)(lt:∀x∈xs,x<n)(c2:2<=xs.length)(hf:∀t∈sU xs,(ts.filter fun u=>decide (u.1=t.1)).length<=7)(hn:∀t∈sU xs,t∉ts):y8 n (ts++sU xs):=by
 obtain⟨Q,one⟩:=ww nd lt c2;refine qT P Q hn fun h=>?_;by_cases z:(sU xs).filter (fun t=>decide (t.1=h))=[]
 .rw[z];simpa using P.most h
 .obtain⟨t,ht⟩:=List.exists_mem_of_ne_nil _ z;obtain⟨h1,h2⟩:=cS.mp ht;have e:t.1=h:=by simpa using h2
  have a:=hf t h1;rw[e] at a;have:=one h;lia
theorem No(hk:k<xs.length):T (sU xs) (xs.getD (pk xs.length k) 0) (xs.getD k 0):=bn.mpr ⟨k,bH.mpr hk,rfl⟩
theorem AZ(i:Nat):∀ (d:Nat),i+d<xs.length->dS (sU xs) d (xs.getD i 0) (xs.getD (i+d) 0)
 |0,_=>rfl
 |d+1,h=>by
  refine⟨_,AZ i d (by lia),?_⟩;have:=No (xs:=xs) (k:=i+(d+1)) h;unfold pk at this;rw[au (by lia)] at this;exact this
theorem uY{n:Nat}{xs:List Nat}(n1:2<=n)(n2:n<=32)(pm:xs.Perm (List.range n)):cA n (sU xs):=by
 have hl:xs.length=n:=by rw[pm.length_eq,cE]
 have nd:xs.Nodup:=pm.nodup_iff.mpr lS;have lt:∀x∈xs,x<n:=fun x hx=>bH.mp (pm.mem_iff.mp hx);refine(ww nd lt (by lia)).1.lN n1 n2 fun a b ha hb=>?_;obtain⟨i,hi,ei⟩:=kB.mp (pm.mem_iff.mpr (bH.mpr ha));obtain⟨j,hj,ej⟩:=kB.mp (pm.mem_iff.mpr (bH.mpr hb));have w1:=AZ (xs:=xs) i (xs.length-1-i) (by lia);have t0:=No (xs:=xs) (k:=0) (by lia);have w3:=AZ (xs:=xs) 0 j (by lia);rw[show i+(xs.length-1-i)=xs.length-1 by lia] at w1;rw[show pk xs.length 0=xs.length-1 from rfl] at t0;rw[vJ] at w3;have w:=w1.trans (dS.cons t0 w3);rw[dF hi,dF hj,ei,ej] at w;exact⟨_,w⟩
theorem sV:∀ (hs:List Nat) (ts:Ts),hs.Nodup->(∀h∈hs,8<=(ts.filter fun t=>decide (t.1=ci h)).length)->8*hs.length<=ts.length
 |[],_,_,_=>by simp
 |h::hs,ts,nd,hf=>by
  obtain⟨h1,h2⟩:=hU.mp nd;have e:ts.length=(ts.filter fun t=>decide (t.1=ci h)).length+(ts.filter fun t=>!decide (t.1=ci h)).length:=by
   clear hf;induction ts with
   |nil=>rfl
   |cons x xs ih2=>by_cases q:x.1=ci h <;> simp[c_,q] <;> lia
  have a:=hf h bZ;have ih:=sV hs (ts.filter fun t=>!decide (t.1=ci h)) h2 fun x hx=>by
   refine aY (hf x (du _ hx)) (o4 ?_);rw[List.filter_filter];congr 1;refine vv fun t _=>?_;by_cases q:t.1=ci x
   .have:¬ t.1=ci h:=fun z=>h1 (by have:=cD (z.symm.trans q);exact this ▸ hx);simp[q];rw[q] at this;exact this
   .simp[q]
  rw[dC];lia
structure sX(n:Nat)(os:List Nat)(k:Nat)(ts:Ts):Prop where
 pre:y8 n ts
 ends:∀t∈ts,∃a b,a∈os.take k/\b∈os.take k/\t=(ci a,ci b)
 con:∀a b,a∈os.take k->b∈os.take k->∃j,dS ts j a b
 len:ts.length+2=2*k
theorem sX.start(h:0<os.length):sX n os 1 []:=by
 refine⟨⟨jE,(fun t h=>nomatch h),(fun t h=>nomatch h),fun h=>rfl,fun h=>by simp⟩,(fun t h=>nomatch h),fun a b ha hb=>?_,rfl⟩;cases os with
 |nil=>simp at h
 |cons o os=>
  simp at ha hb;exact⟨0,by rw[ha,hb];rfl⟩
theorem sX.free{n:Nat}{os:List Nat}{k:Nat}{ts:Ts}(T:sX n os k ts)(nd:os.Nodup)(hk:k<=os.length):∃h∈os.take k,(ts.filter fun t=>decide (t.1=ci h)).length<8:=by
 apply mY;intro FT;have:=sV (os.take k) ts (nd.sublist (rA _ _)) fun h hh=>mY fun z=>FT ⟨h,hh,by lia⟩;have hl:=T.len;rw[g_,vB hk] at this;lia
theorem sX.add(Tr:sX n os k ts)(nd:os.Nodup)(lt:∀x∈os,x<n)(hv:os[k]?=some v)(hs:s∈os.take k)(hd:(ts.filter fun t=>decide (t.1=ci s)).length<8):sX n os (k+1) (ts++[(ci s,ci v),(ci v,ci s)]):=by
 have tk:os.take (k+1)=os.take k++[v]:=by rw[fZ,hv];rfl
 have nd1:(os.take k++[v]).Nodup:=by rw[<-tk];exact nd.sublist (rA _ _)
 have vn:v∉os.take k:=fun z=>(l8.mp nd1).2.2 v z v (by simp) rfl;have sv:s≠v:=fun e=>vn (e ▸ hs);have vm:v∈os:=cZ hv;have sl:=lt s (j3 hs);have vl:=lt v vm;have Zv:∀t∈ts,t.1≠ci v/\t.2≠ci v:=fun t ht=>by
  obtain⟨a,b,ha,hb,rfl⟩:=Tr.ends t ht;exact⟨fun e=>vn (cD e ▸ ha),fun e=>vn (cD e ▸ hb)⟩
 have Q:y8 n [(ci s,ci v),(ci v,ci s)]:=by
  have Ut:ci s≠ci v:=fun e=>sv (cD e);refine⟨?_,fun t ht=>?_,fun t ht=>?_,fun h=>?_,fun h=>aY (fW _ _) (by simp)⟩
  .simp[Ut]
  .simp at ht;rcases ht with rfl|rfl <;> (simp only[ci];lia)
  .simp at ht;rcases ht with rfl|rfl
   .exact Ut
   .exact Ut.symm
  .by_cases a:ci s=h <;> by_cases b:ci v=h <;> simp[c_,a,b]
 have P2:y8 n (ts++[(ci s,ci v),(ci v,ci s)]):=by
  refine qT Tr.pre Q (fun t ht z=>?_) fun h=>?_
  .simp at ht;rcases ht with rfl|rfl
   .exact(Zv _ z).2 rfl
   .exact(Zv _ z).1 rfl
  .have Ut:ci s≠ci v:=fun e=>sv (cD e);by_cases a:ci s=h
   .subst a;have b:¬ ci v=ci s:=Ut.symm;simp only[c_,decide_true,jj,di b];simp;lia
   .by_cases b:ci v=h
    .subst b;have z:ts.filter (fun t=>decide (t.1=ci v))=[]:=vg.mpr fun t ht=>by simpa using (Zv t ht).1
     rw[z];exact aY (Nat.add_le_add_left (fW _ _) _) (by simp)
    .have:=Tr.pre.most h;simp[c_,a,b];exact this
 have up:∀t∈ts,t∈ts++[(ci s,ci v),(ci v,ci s)]:=fun t ht=>iz _ ht;have t1:T (ts++[(ci s,ci v),(ci v,ci s)]) s v:=jr _ (by simp);have t2:T (ts++[(ci s,ci v),(ci v,ci s)]) v s:=jr _ (by simp);have toS:∀a,a∈os.take k++[v]->∃j,dS (ts++[(ci s,ci v),(ci v,ci s)]) j a s:=fun a ha=>by
  rcases bY.mp ha with z|z
  .obtain⟨j,w⟩:=Tr.con a s z hs;exact⟨j,w.mono up⟩
  .simp at z;subst z;exact⟨1,dS.one t2⟩
 have ofS:∀b,b∈os.take k++[v]->∃j,dS (ts++[(ci s,ci v),(ci v,ci s)]) j s b:=fun b hb=>by
  rcases bY.mp hb with z|z
  .obtain⟨j,w⟩:=Tr.con s b hs z;exact⟨j,w.mono up⟩
  .simp at z;subst z;exact⟨1,dS.one t1⟩
 refine⟨P2,fun t ht=>?_,fun a b ha hb=>?_,?_⟩
 .rw[tk];rcases bY.mp ht with z|z
  .obtain⟨a,b,ha,hb,e⟩:=Tr.ends t z;exact⟨a,b,iz _ ha,iz _ hb,e⟩
  .simp at z;rcases z with rfl|rfl
   .exact⟨s,v,iz _ hs,by simp,rfl⟩
   .exact⟨v,s,by simp,iz _ hs,rfl⟩
 .rw[tk] at ha hb;obtain⟨i,w1⟩:=toS a ha;obtain⟨j,w2⟩:=ofS b hb;exact⟨i+j,w1.trans w2⟩
 .have:=Tr.len;rw[cn];simp;lia
theorem sX.lN(Tr:sX n os n ts)(n1:2<=n)(n2:n<=32)(pm:os.Perm (List.range n)):cA n ts:=by
 have hl:os.length=n:=by rw[pm.length_eq,cE]
 refine Tr.pre.lN n1 n2 fun a b ha hb=>Tr.con a b ?_ ?_
 .rw[rf (by lia)];exact pm.mem_iff.mpr (bH.mpr ha)
 .rw[rf (by lia)];exact pm.mem_iff.mpr (bH.mpr hb)
theorem mD(hh:h<n):(bj n ts h).Nodup:=(qi hh).imp fun {a b} qS e=>by subst e;lia
end fJ
namespace L2
open PySem PySem.Spec PyProof.Rows
section
variable {X:Cx}
theorem yn:∀ {ns:List Int} {its:List Value},bg (ns.map V.int) its->∃xs:List (Int×Tok),its=xs.map (fun p=>Value.int p.1 p.2)/\xs.map (·.1)=ns
 |[],_,r=>by cases r;exact⟨[],rfl,rfl⟩
 |n::ns,_,r=>by
  cases r with
  |cons r rr=>
   obtain⟨t,rfl⟩:=(show ∃t,_=Value.int n t from r)
   obtain⟨xs,rfl,e⟩:=yn rr;exact⟨(n,t)::xs,rfl,by rw[eJ,e]⟩
def Uu(K:PySem.W.Frag):List V->Hp->VK->Prop:=fun xs H Q=>∃ (l:Addr) (ns:List Int),xs=[.ref l]/\aV K H l (ns.map V.int)/\ns≠[]/\∀M,M∈ns->(∀a∈ns,a<=M)->Q (.int M) H
theorem uZ(hc:X.calm=true):fA X (.builtin "max") (Uu X.K):=by
 intro ag s σ H xs us Q I r h;obtain⟨l,ns,rfl,hl,uI,q⟩:=h;obtain⟨u1,rfl,r1⟩:=r.one;obtain rfl:u1=Value.ref l:=r1;obtain⟨its,rv,pl,_⟩:=I.list hl;obtain⟨ps,rfl,rfl⟩:=yn rv;have hi:intItems ps.toArray=(ps.map (fun p=>Value.int p.1 p.2)).toArray:=by unfold intItems;simp
 have lM:0<ps.toArray.size:=by
  cases ps with
  |nil=>exact absurd rfl uI
  |cons p ps=>simp
 refine max_intList (I.ok.hd hc) (xs:=ps.toArray) (by rw[hi];exact pl.isList) lM fun v h' tk hv hk=>?_;obtain⟨t,rfl⟩:=intItems_at hv;obtain⟨h1,h2⟩:=argBest_gt (numAt ps.toArray) (ps.toArray.size-1);have num:∀j,j<ps.length->numAt ps.toArray j∈ps.map (·.1)/\numAt ps.toArray j=(ps.map (·.1)).getD j 0:=fun j hj=>by
  have e:numAt ps.toArray j=ps[j].1:=by unfold numAt;simp[bq hj]
  refine⟨by rw[e];exact bn.mpr ⟨_,dv hj,rfl⟩,?_⟩;rw[e,aS,bN,bq hj];rfl
 have hb:argBest (fun i j=>decide (numAt ps.toArray i > numAt ps.toArray j)) (ps.toArray.size-1)<ps.length:=by
  have:ps.toArray.size=ps.length:=by simp
  lia
 refine⟨.int _,H,I.kept (t':=tk) hk,⟨t,rfl⟩,q _ (num _ hb).1 fun a ha=>?_⟩;obtain⟨j,hj,e⟩:=kB.mp ha;rw[aP] at hj;have:=h2 j (by (have:ps.toArray.size=ps.length:=by simp);lia);rw[(num j hj).2,aS,bq (by rw[aP];exact hj)] at this;rw[<-e];exact this
end
end L2
namespace fJ
abbrev pM(u:Int×Int):Int×Int:=(u.2,u.1)
def dM(ps:Ts):Ts:=ps.flatMap fun u=>[u,pM u]
theorem jS:dM (ps++qs)=dM ps++dM qs:=List.flatMap_append
theorem ic:∀ {ps:Ts},(dM ps).Perm (ps++ps.map pM)
 |[]=>me _
 |u::ps=>by
  have ih:=ic (ps:=ps);show (u::pM u::dM ps).Perm (u::(ps++pM u::ps.map pM));refine List.Perm.cons _ ?_;exact(ih.cons _).trans List.perm_middle.symm
theorem jd:∀ {ps:Ts},(dM ps).length=2*ps.length
 |[]=>rfl
 |u::ps=>by
  have ih:=jd (ps:=ps);show (dM ps).length+2=2*(ps.length+1);lia
theorem CI(h:u∈dM ps):pM u∈dM ps:=by
 obtain⟨v,hv,hu⟩:=zX.mp h;refine zX.mpr ⟨v,hv,?_⟩;rcases bW.mp hu with e|e
 .rw[e];exact du _ (cC.mpr rfl)
 .rw[cC.mp e];exact bZ
theorem nN:u∈dM ps↔u∈ps\/pM u∈ps:=by
 rw[(ic (ps:=ps)).mem_iff,bY];refine or_congr Iff.rfl ⟨fun h=>?_,fun h=>bn.mpr ⟨_,h,rfl⟩⟩;obtain⟨v,hv,rfl⟩:=bn.mp h;exact hv
theorem CJ:((dM ps).map pM).Perm (dM ps):=by
 refine((ic (ps:=ps)).map pM).trans (List.Perm.trans ?_ (ic (ps:=ps)).symm);rw[cK,cy];have e:ps.map (pM ∘ pM)=ps:=(js fun u _=>rfl).trans (mi ps);rw[e];exact jq
def Ee(x:Nat):List Nat->Bool
 |[]=>false
 |y::ys=>Nat.beq x y||Ee x ys
theorem sY:∀ {ys:List Nat},Ee x ys=true↔x∈ys
 |[]=>by simp[Ee]
 |y::ys=>by
  unfold Ee;rw[rK,sY (ys:=ys),bW];exact or_congr ⟨fun h=>vi h,fun h=>by rw[h];exact vL y⟩ Iff.rfl
def Xl:List Nat->Bool
 |[]=>true
 |x::xs=>!Ee x xs&&Xl xs
theorem GW:∀ {xs:List Nat},Xl xs=true->xs.Nodup
 |[],_=>jE
 |x::xs,h=>by
  unfold Xl at h;rw[gg] at h;refine hU.mpr ⟨fun z=>?_,GW h.2⟩;rw[sY.mpr z] at h;exact absurd h.1 (by decide)
def yo:List Nat->Bool
 |x::y::r=>Nat.ble x y&&yo (y::r)
 |_=>true
theorem GX:∀ {xs:List Nat},yo xs=true->xs.Pairwise (·<=·)
 |[],_=>List.Pairwise.nil
 |[x],_=>List.pairwise_singleton _ _
 |x::y::r,h=>by
  unfold yo at h;rw[gg] at h;have ih:=GX h.2;refine rp.mpr ⟨fun z hz=>?_,ih⟩;have h1:=rk h.1;rcases bW.mp hz with e|e
  .rw[e];exact h1
  .exact aY h1 ((rp.mp ih).1 z e)
abbrev i4(q:Nat×Nat):Int×Int:=((q.1:Int),(q.2:Int))
def Uv(qs:List (Nat×Nat)):List Nat:=qs.flatMap fun q=>[64*q.1+q.2,64*q.2+q.1]
def KL(c:Nat):Int×Int:=(((c / 64:Nat):Int),((c % 64:Nat):Int))
theorem A0(h:b<64):KL (64*a+b)=((a:Int),(b:Int)):=by
 unfold KL;rw[show (64*a+b) / 64=a by lia,show (64*a+b) % 64=b by lia]
theorem qU:∀ {qs:List (Nat×Nat)},(∀q∈qs,q.1<64/\q.2<64)->(Uv qs).map KL=dM (qs.map i4)
 |[],_=>rfl
 |q::qs,h=>by
  have ih:=qU (qs:=qs) fun x hx=>h x (du _ hx);obtain⟨h1,h2⟩:=h q bZ;show KL (64*q.1+q.2)::KL (64*q.2+q.1)::(Uv qs).map KL=i4 q::pM (i4 q)::dM (qs.map i4);rw[ih,A0 h2,A0 h1]
def b1(b:Bool):Nat:=cond b 1 0
def lO(h:Nat):List (Nat×Nat)->Nat
 |[]=>0
 |q::qs=>b1 (Nat.beq q.1 h)+(b1 (Nat.beq q.2 h)+lO h qs)
theorem wz{h:Nat}:∀ {qs:List (Nat×Nat)},((dM (qs.map i4)).filter fun t=>decide (t.1=(h:Int))).length=lO h qs
 |[]=>rfl
 |q::qs=>by
  have ih:=wz (h:=h) (qs:=qs);have e:∀a:Nat,(if decide ((a:Int)=(h:Int))=true then 1 else 0)=b1 (Nat.beq a h):=fun a=>by
   by_cases c:a=h
   .subst c;rw[aD (by simp),vL];rfl
   .rw[au (by simp;lia),show Nat.beq a h=false from rC.mpr fun z=>c (vi z)];rfl
  show ((i4 q::pM (i4 q)::dM (qs.map i4)).filter _).length=b1 (Nat.beq q.1 h)+(b1 (Nat.beq q.2 h)+lO h qs);rw[<-ih,<-e q.1,<-e q.2,c_,c_];split <;> split <;> simp <;> lia
def GY(n:Nat)(qs:List (Nat×Nat)):Bool:=Nat.ble 2 n&&(Nat.ble n 32&&(Xl (Uv qs)&&(qs.all (fun q=>Nat.blt q.1 n&&(Nat.blt q.2 n&&!Nat.beq q.1 q.2))&&((List.range n).all (fun h=>Nat.ble (lO h qs) 8) &&
 (List.range n).all (fun v=>Nat.beq v 0||(List.range v).reverse.any (fun u=>Ee (64*u+v) (Uv qs)))))))
theorem mE(h:Nat.blt a b=true):a<b:=rk h
theorem GZ(h:GY n qs=true):cA n (dM (qs.map i4))/\∀q∈qs,q.1<64/\q.2<64:=by
 unfold GY at h;simp only[gg,hG,bH,rK,ky,List.mem_reverse] at h;obtain⟨h1,h2,h3,h4,h5,h6⟩:=h;have h1:=rk h1;have h2:=rk h2;have Uw:∀q∈qs,q.1<64/\q.2<64:=fun q hq=>⟨by have:=mE (h4 q hq).1;lia,by have:=mE (h4 q hq).2.1;lia⟩
 have mem:∀t∈dM (qs.map i4),∃q∈qs,t=i4 q\/t=pM (i4 q):=fun t ht=>by
  rcases nN.mp ht with z|z
  .obtain⟨q,hq,e⟩:=bn.mp z;exact⟨q,hq,.inl e.symm⟩
  .obtain⟨q,hq,e⟩:=bn.mp z;exact⟨q,hq,.inr (by rw[e])⟩
 have rg:∀t∈dM (qs.map i4),((0<=t.1/\t.1<n)/\(0<=t.2/\t.2<n))/\t.1≠t.2:=fun t ht=>by
  obtain⟨q,hq,e⟩:=mem t ht;have a:=mE (h4 q hq).1;have b:=mE (h4 q hq).2.1;have c:q.1≠q.2:=fun z=>by have:=(h4 q hq).2.2;rw[z,vL] at this;exact absurd this (by decide)
  rcases e with rfl|rfl
  .exact⟨⟨⟨by show (0:Int)<=(q.1:Int);lia,by show (q.1:Int)<n;lia⟩,by show (0:Int)<=(q.2:Int);lia,by show (q.2:Int)<n;lia⟩,by show ((q.1:Nat):Int)≠(q.2:Nat);lia⟩
  .exact⟨⟨⟨by show (0:Int)<=(q.2:Int);lia,by show (q.2:Int)<n;lia⟩,by show (0:Int)<=(q.1:Int);lia,by show (q.1:Int)<n;lia⟩,by show ((q.2:Nat):Int)≠(q.1:Nat);lia⟩
 have Eb:∀h:Int,((dM (qs.map i4)).filter fun t=>decide (t.1=h)).length=((dM (qs.map i4)).filter fun t=>decide (t.2=h)).length:=fun h=>by
  rw[<-(CJ (ps:=qs.map i4)).filter (fun t=>decide (t.1=h)) |>.length_eq,oX,aP];rfl
 have nd:(dM (qs.map i4)).Nodup:=by
  rw[<-qU Uw];refine List.Pairwise.map _ (fun a b qS e=>qS ?_) (rc.mp (GW h3));have e1:a / 64=b / 64:=cD (congrArg Prod.fst e);have e2:a % 64=b % 64:=cD (congrArg Prod.snd e);lia
 refine⟨⟨h1,h2,nd,fun t ht=>(rg t ht).1,fun t ht=>(rg t ht).2,Eb,fun h=>?_,fun a b ha hb=>?_⟩,Uw⟩
 .by_cases c:0<=h/\h<n
  .have:=rk (h5 h.toNat (by lia));rw[<-wz,kD c.1] at this;exact this
  .have e:(dM (qs.map i4)).filter (fun t=>decide (t.1=h))=[]:=vg.mpr fun t ht e=>c ((show t.1=h from dB e) ▸ (rg t ht).1.1);rw[e];exact de _
 .have Az:∀v,v<n->(∃k,dS (dM (qs.map i4)) k 0 v)/\∃k,dS (dM (qs.map i4)) k v 0:=by
   intro v;induction v using Nat.strongRecOn with
   |ind v ih=>
    intro hv;rcases h6 v hv with e|⟨u,hu,t1⟩
    .have e:=vi e;subst e;exact⟨⟨0,rfl⟩,0,rfl⟩
    .obtain⟨⟨k,w⟩,l,w'⟩:=ih u hu (by lia);have t:T (dM (qs.map i4)) u v:=by
      have:=bn.mpr ⟨_,sY.mp t1,A0 (a:=u) (b:=v) (by lia)⟩;rw[qU Uw] at this;exact this
     have t':T (dM (qs.map i4)) v u:=CI t;exact⟨⟨k+1,u,w,t⟩,l+1,dS.cons t' w'⟩
  obtain⟨_,k,w⟩:=Az a ha;obtain⟨⟨l,w'⟩,_⟩:=Az b hb;exact⟨_,w.trans w'⟩
def sZ(f b:Nat):List (Nat×Nat):=(List.range f).flatMap fun at_=>(List.range (b ^ f)).flatMap fun h=>(List.range (b-h / b ^ at_ % b-1)).map fun k=>(h,h+(k+1)*b ^ at_)
def Ux(f b h:Nat):List Nat:=(List.range f).map fun k=>h / b ^ k % b
def unl(f b o p:Nat):Nat:=((List.range f).filter fun k=>!Nat.beq ((Ux f b o).getD k 0) ((Ux f b p).getD k 0)).length
def A1(f b:Nat):List Nat:=(List.range (b ^ f)).flatMap fun o=>((List.range (b ^ f)).filter fun p=>Nat.beq (unl f b o p) 1).map fun p=>64*o+p
def A2(f b:Nat):Ts:=(A1 f b).map KL
def CK(f b:Nat):Bool:=GY (b ^ f) (sZ f b)&&((Uv (sZ f b)).isPerm (A1 f b)&&yo (A1 f b))
theorem A3:(List.range 6).all (fun f=>(List.range 6).all fun b=>Nat.blt f 1||(Nat.blt b 2||(Nat.blt 32 (b ^ f)||CK f b)))=true:=by decide +kernel
theorem A4(f1:1<=f)(f2:f<=5)(b1:2<=b)(b2:b<=5)(hm:b ^ f<=32):cA (b ^ f) (dM ((sZ f b).map i4))/\(dM ((sZ f b).map i4)).Perm (A2 f b)/\(A2 f b).Pairwise (fun u v=>64*u.1+u.2<=64*v.1+v.2):=by
 have:=hG.mp (hG.mp A3 f (bH.mpr (by lia))) b (bH.mpr (by lia));rw[rK,rK,rK] at this;rcases this with z|z|z|z
 .have:=mE z;lia
 .have:=mE z;lia
 .have:=mE z;lia
 .unfold CK at z;rw[gg,gg] at z;obtain⟨h1,h2,h3⟩:=z;obtain⟨F,Uw⟩:=GZ h1;refine⟨F,?_,?_⟩
  .rw[<-qU Uw];exact(List.isPerm_iff.mp h2).map KL
  .unfold A2;rw[jt];refine(GX h3).imp fun {a b} h=>?_;unfold KL;show 64*((a / 64:Nat):Int)+((a % 64:Nat):Int)<=64*((b / 64:Nat):Int)+((b % 64:Nat):Int);lia
def pr:List Nat->Nat
 |[]=>1
 |n::ns=>n*pr ns
def xu(m st n:Nat):List (Nat×Nat):=((List.range m).filter fun h=>decide (h / st % n+1<n)).map fun h=>(h,h+st)
def bx(m:Nat):Nat->List Nat->List (Nat×Nat)
 |_,[]=>[]
 |st,n::ns=>xu m st n++bx m (st*n) ns
def mH(ns:List Nat):List (Nat×Nat):=bx (pr ns) 1 ns
def KM:Nat->List Nat->Nat->Nat->Prop
 |_,[],_,_=>False
 |st,n::ns,a,b=>(a / st % n+1<n/\b=a+st)\/KM (st*n) ns a b
theorem CL:q∈xu m st n↔q.1<m/\q.1 / st % n+1<n/\q.2=q.1+st:=by
 unfold xu;rw[bn];constructor
 .rintro⟨h,hh,rfl⟩;obtain⟨h1,h2⟩:=cS.mp hh;exact⟨bH.mp h1,dB h2,rfl⟩
 .rintro⟨h1,h2,h3⟩;exact⟨q.1,cS.mpr ⟨bH.mpr h1,cx h2⟩,fQ rfl h3.symm⟩
theorem wA:∀ {ns:List Nat} {st:Nat},q∈bx m st ns↔q.1<m/\KM st ns q.1 q.2
 |[],st=>⟨fun h=>(nomatch h),fun h=>h.2.elim⟩
 |n::ns,st=>by
  unfold bx KM;rw[bY,CL,wA (ns:=ns)];constructor
  .rintro(⟨a,b,c⟩|⟨a,b⟩)
   .exact⟨a,.inl ⟨b,c⟩⟩
   .exact⟨a,.inr b⟩
  .rintro⟨a,⟨b,c⟩|b⟩
   .exact .inl ⟨a,b,c⟩
   .exact .inr ⟨a,b⟩
abbrev U(ns:List Nat):Nat->Nat->Prop:=KM 1 ns
theorem wB:∀ {ns:List Nat} {st a b:Nat},0<st->(∀n∈ns,0<n)->(KM st ns a b↔a % st=b % st/\U ns (a / st) (b / st))
 |[],st,a,b,h,_=>⟨fun z=>z.elim,fun z=>z.2.elim⟩
 |n::ns,st,a,b,h,hn=>by
  have Jw:=hn n bZ;have y3:∀n∈ns,0<n:=fun x hx=>hn x (du _ hx);show (_\/KM (st*n) ns a b)↔a % st=b % st/\(_\/KM (1*n) ns (a / st) (b / st))
  rw[Nat.one_mul,wB (rO h Jw) y3,wB Jw y3,Nat.div_one,zq a st n,zq b st n,Nat.mod_mul,Nat.mod_mul];have e1:=kL a st;have e2:=kL b st;constructor
  .rintro(⟨c,rfl⟩|⟨c,d⟩)
   .refine⟨by rw[Nat.add_mod_right],.inl ⟨c,by rw[Nat.add_div_right _ h]⟩⟩
   .have m1:a % st=b % st:=by
     have:=congrArg (· % st) c;simp only[Nat.add_mul_mod_self_left,Nat.mod_mod] at this;exact this
    refine⟨m1,.inr ⟨?_,d⟩⟩;rw[m1] at c;exact Nat.eq_of_mul_eq_mul_left h (Nat.add_left_cancel c)
  .rintro⟨m1,⟨c,d⟩|⟨c,d⟩⟩
   .refine .inl ⟨c,?_⟩;rw[<-e2,d,<-m1,Nat.mul_add,vP,Nat.add_right_comm,e1]
   .exact .inr ⟨by rw[m1,c],d⟩
theorem A5(h:∀x∈n::ns,0<x):U (n::ns) a b↔(a % n+1<n/\b=a+1)\/(a % n=b % n/\U ns (a / n) (b / n)):=by
 show (_\/KM (1*n) ns a b)↔_;rw[Nat.one_mul,wB (h n bZ) fun x hx=>h x (du _ hx),Nat.div_one]
theorem A6(h:a % n+1<n):(a+1) / n=a / n/\(a+1) % n=a % n+1:=by
 have e:=kL a n;have e2:a+1=n*(a / n)+(a % n+1):=by lia
 have hn:0<n:=by lia
 rw[e2,Nat.mul_add_div hn,Nat.mul_add_mod,Nat.div_eq_of_lt h,jC h];exact⟨rfl,rfl⟩
theorem Uy:∀ {ns:List Nat} {a b:Nat},(∀x∈ns,0<x)->U ns a b->a<pr ns->a<b/\b<pr ns
 |[],a,b,_,h,_=>h.elim
 |n::ns,a,b,hn,h,ha=>by
  have Jw:=hn n bZ;have y3:∀n∈ns,0<n:=fun x hx=>hn x (du _ hx);have DC:a<n*pr ns:=ha;have hq:a / n<pr ns:=Nat.div_lt_of_lt_mul DC;show a<b/\b<n*pr ns;rcases(A5 hn).mp h with ⟨c,rfl⟩|⟨c,d⟩
  .refine⟨by lia,?_⟩;have e:=kL a n;have:=vo n hq;rw[Nat.succ_eq_add_one,Nat.mul_add,vP] at this;lia
  .obtain⟨i1,i2⟩:=Uy y3 d hq;refine⟨?_,?_⟩
   .have e1:=kL a n;have e2:=kL b n;have:=Fh i1 Jw;lia
   .have e2:=kL b n;have hm:=ji b Jw;have:=vo n i2;rw[Nat.succ_eq_add_one,Nat.mul_add,vP] at this;lia
theorem G0:∀ {ns:List Nat} {v:Nat},(∀x∈ns,0<x)->0<v->v<pr ns->∃u,u<v/\U ns u v
 |[],v,_,h1,h2=>by have h2:v<1:=h2;lia
 |n::ns,v,hn,h1,h2=>by
  have Jw:=hn n bZ;have y3:∀n∈ns,0<n:=fun x hx=>hn x (du _ hx);have lv:=ji v Jw;have ev:=kL v n;by_cases c:v % n=0
  .have hq:0<v / n:=by
    rcases zI (v / n) with z|z
    .rw[z,c] at ev;simp at ev;lia
    .exact z
   obtain⟨u,hu,uu⟩:=G0 (v:=v / n) y3 hq (Nat.div_lt_of_lt_mul h2);refine⟨n*u,?_,(A5 hn).mpr (.inr ⟨by rw[Nat.mul_mod_right,c],by rw[Nat.mul_div_cancel_left _ Jw];exact uu⟩)⟩;have:=Fh hu Jw;lia
  .have hv:v-1=n*(v / n)+(v % n-1):=by lia
   have hm:(v-1) % n=v % n-1:=by rw[hv,Nat.mul_add_mod,jC (by lia)]
   exact⟨v-1,by lia,(A5 hn).mpr (.inl ⟨by lia,by lia⟩)⟩
theorem CM:∀ {ns:List Nat} {st a b:Nat},(∀x∈ns,0<x)->KM st ns a b->a+st<=b
 |[],st,a,b,_,h=>h.elim
 |n::ns,st,a,b,hn,h=>by
  rcases h with ⟨_,rfl⟩|h
  .exact aW _
  .have:=CM (fun x hx=>hn x (du _ hx)) h;have h1:=Nat.le_mul_of_pos_right st (hn n bZ);lia
theorem Ef:(xu m st n).Nodup:=by
 unfold xu;refine rc.mpr (jt.mpr ?_);exact(rc.mp (lS.sublist vq)).imp fun {a b} h e=>h (congrArg Prod.fst e)
theorem yp:∀ {ns:List Nat} {st:Nat},0<st->(∀x∈ns,2<=x)->(bx m st ns).Nodup
 |[],_,_,_=>jE
 |n::ns,st,h,hn=>by
  have RL:=hn n bZ;have y3:∀x∈ns,2<=x:=fun x hx=>hn x (du _ hx);refine l8.mpr ⟨Ef,yp (rO h (by lia)) y3,fun x hx y hy e=>?_⟩;subst e;have h1:=(CL.mp hx).2.2;have h2:=CM (fun x hx=>by have:=y3 x hx;lia) (wA.mp hy).2;have h3:=vo st RL;lia
theorem Eg(nd:ps.Nodup)(h:∀u∈ps,u.1<u.2):(dM ps).Nodup:=by
 refine(ic (ps:=ps)).nodup_iff.mpr (l8.mpr ⟨nd,?_,fun x hx y hy e=>?_⟩)
 .refine rc.mpr (jt.mpr ((rc.mp nd).imp fun {a b} qS e=>qS ?_));exact fQ (congrArg Prod.snd e) (congrArg Prod.fst e)
 .subst e;obtain⟨u,hu,rfl⟩:=bn.mp hy;have h1:=h _ hx;have h2:=h u hu;have h1:u.2<u.1:=h1;lia
theorem Eh{qs:List (Nat×Nat)}(h:qs.Nodup):(qs.map i4).Nodup:=by
 refine rc.mpr (jt.mpr ((rc.mp h).imp fun {a b} qS e=>qS ?_));exact fQ (cD (congrArg Prod.fst e)) (cD (congrArg Prod.snd e))
theorem qk:∀ {a b:List (Nat×Nat)},lO h (a++b)=lO h a+lO h b
 |[],b=>by show lO h b=0+_;lia
 |q::a,b=>by
  have:=qk (h:=h) (a:=a) (b:=b);show b1 _+(b1 _+lO h (a++b))=b1 _+(b1 _+lO h a)+lO h b;lia
theorem Np:b1 (Nat.beq a b)=if a=b then 1 else 0:=by
 by_cases c:a=b
 .subst c;rw[aD rfl,vL];rfl
 .rw[au c,show Nat.beq a b=false from rC.mpr fun z=>c (vi z)];rfl
theorem CN:∀ {L:List Nat},L.Nodup->lO h (L.map fun x=>(x,x+st))<=(if h∈L then 1 else 0)+(if st<=h/\h-st∈L then 1 else 0)
 |[],_=>de _
 |x::L,nd=>by
  obtain⟨n1,n2⟩:=hU.mp nd;have ih:=CN (h:=h) (st:=st) n2;show b1 (Nat.beq x h)+(b1 (Nat.beq (x+st) h)+lO h (L.map fun x=>(x,x+st)))<=_;rw[Np,Np];have e1:(if h∈x::L then 1 else 0)=(if x=h then 1 else 0)+(if h∈L then 1 else 0):=by
   by_cases c:x=h
   .subst c;rw[aD bZ,aD rfl,au n1]
   .rw[au c];by_cases d:h∈L
    .rw[aD (du _ d),aD d]
    .rw[au d,au (fun z=>(bW.mp z).elim (fun z=>c z.symm) d)]
  have e2:(if st<=h/\h-st∈x::L then 1 else 0)=(if x+st=h then 1 else 0)+(if st<=h/\h-st∈L then 1 else 0):=by
   by_cases c:x+st=h
   .have e:h-st=x:=by lia
    rw[aD c,e,aD ⟨by lia,bZ⟩,au (fun z=>n1 z.2)]
   .rw[au c];by_cases d:st<=h/\h-st∈L
    .rw[aD d,aD ⟨d.1,du _ d.2⟩]
    .rw[au d,au];rintro⟨z1,z2⟩;rcases bW.mp z2 with z|z
     .lia
     .exact d ⟨z1,z⟩
  rw[e1,e2];lia
def wt:List Nat->Nat
 |[]=>0
 |n::ns=>(if n=2 then 1 else 2)+wt ns
theorem KN(hs:0<st):lO h (xu m st n)<=if n=2 then 1 else 2:=by
 have c:=CN (h:=h) (st:=st) (L:=(List.range m).filter fun h=>decide (h / st % n+1<n)) (lS.sublist vq);refine aY c ?_;by_cases e:n=2
 .rw[aD e];by_cases c1:h∈(List.range m).filter fun h=>decide (h / st % n+1<n)
  .rw[aD c1,au]
   .lia
   .rintro⟨z1,z2⟩;have d1:h / st % n+1<n:=dB (cS.mp c1).2;have d2:(h-st) / st % n+1<n:=dB (cS.mp z2).2;have d3:h / st=(h-st) / st+1:=by
     have:=Nat.add_div_right (h-st) hs;rw[show h-st+st=h by lia] at this;exact this
    obtain⟨_,d4⟩:=A6 d2;rw[<-d3] at d4;lia
  .rw[au c1];split <;> lia
 .rw[au e];split <;> split <;> lia
theorem G4:∀ {ns:List Nat} {st:Nat},0<st->(∀x∈ns,0<x)->lO h (bx m st ns)<=wt ns
 |[],_,_,_=>aW _
 |n::ns,st,hs,hn=>by
  show lO h (xu m st n++bx m (st*n) ns)<=_+wt ns;rw[qk];have h1:=KN (m:=m) (n:=n) (h:=h) hs;have h2:=G4 (m:=m) (h:=h) (ns:=ns) (st:=st*n) (rO hs (hn n bZ)) fun x hx=>hn x (du _ hx);lia
theorem G5:∀ {ns:List Nat},(∀x∈ns,2<=x)->3 ^ wt ns<=pr ns*pr ns
 |[],_=>aW _
 |n::ns,hn=>by
  have ih:=G5 (ns:=ns) fun x hx=>hn x (du _ hx);have h2:=hn n bZ;show 3 ^ ((if n=2 then 1 else 2)+wt ns)<=n*pr ns*(n*pr ns);rw[Nat.pow_add,Nat.mul_mul_mul_comm];refine z8 ?_ ih;by_cases c:n=2
  .rw[aD c,c];decide
  .rw[au c];have:3<=n:=by lia
   exact z8 this this
theorem Uz(hn:∀x∈ns,2<=x)(hp:pr ns<=32):wt ns<=8:=by
 refine mY fun z=>?_;have h1:3 ^ 9<=3 ^ wt ns:=Nat.pow_le_pow_right (by decide) (by lia);have h2:=G5 hn;have h3:pr ns*pr ns<=32*32:=z8 hp hp;have h4:(3:Nat) ^ 9=19683:=by decide
 lia
theorem G6{ns:List Nat}(hn:∀x∈ns,2<=x)(h0:ns≠[])(hp:pr ns<=32):cA (pr ns) (dM ((mH ns).map i4)):=by
 have Pe:∀x∈ns,0<x:=fun x hx=>by have:=hn x hx;lia
 have q:∀q∈mH ns,q.1<q.2/\q.2<pr ns:=fun q hq=>by
  obtain⟨a,b⟩:=wA.mp hq;exact Uy Pe b a
 have n1:2<=pr ns:=by
  cases ns with
  |nil=>exact absurd rfl h0
  |cons n ns=>
   have h2:=hn n bZ;have:∀ {l:List Nat},(∀x∈l,2<=x)->1<=pr l:=fun {l}=>by
    induction l with
    |nil=>intro _;exact aW _
    |cons x l ih=>intro hl;exact rO (by have:=hl x bZ;lia) (ih fun y hy=>hl y (du _ hy))
   have h3:=this (l:=ns) fun x hx=>hn x (du _ hx);show 2<=n*pr ns;exact aY h2 (Nat.le_mul_of_pos_right n h3)
 have mem:∀t∈dM ((mH ns).map i4),∃q∈mH ns,t=i4 q\/t=pM (i4 q):=fun t ht=>by
  rcases nN.mp ht with z|z
  .obtain⟨q,hq,e⟩:=bn.mp z;exact⟨q,hq,.inl e.symm⟩
  .obtain⟨q,hq,e⟩:=bn.mp z;exact⟨q,hq,.inr (by rw[e])⟩
 have rg:∀t∈dM ((mH ns).map i4),((0<=t.1/\t.1<pr ns)/\(0<=t.2/\t.2<pr ns))/\t.1≠t.2:=fun t ht=>by
  obtain⟨p,hq,e⟩:=mem t ht;obtain⟨a,b⟩:=q p hq;rcases e with rfl|rfl
  .exact⟨⟨⟨by show (0:Int)<=(p.1:Int);lia,by show (p.1:Int)<(pr ns:Int);lia⟩,by show (0:Int)<=(p.2:Int);lia,by show (p.2:Int)<(pr ns:Int);lia⟩,by show ((p.1:Nat):Int)≠(p.2:Nat);lia⟩
  .exact⟨⟨⟨by show (0:Int)<=(p.2:Int);lia,by show (p.2:Int)<(pr ns:Int);lia⟩,by show (0:Int)<=(p.1:Int);lia,by show (p.1:Int)<(pr ns:Int);lia⟩,by show ((p.2:Nat):Int)≠(p.1:Nat);lia⟩
 have nd:(dM ((mH ns).map i4)).Nodup:=Eg (Eh (yp (by decide) hn)) fun u hu=>by
  obtain⟨p,hq,rfl⟩:=bn.mp hu;have:=(q p hq).1;show (p.1:Int)<(p.2:Int);lia
 refine⟨n1,hp,nd,fun t ht=>(rg t ht).1,fun t ht=>(rg t ht).2,fun h=>?_,fun h=>?_,fun a b ha hb=>?_⟩
 .rw[<-(CJ (ps:=(mH ns).map i4)).filter (fun t=>decide (t.1=h)) |>.length_eq,oX,aP];rfl
 .by_cases c:0<=h/\h<pr ns
  .have:=G4 (m:=pr ns) (h:=h.toNat) (ns:=ns) (st:=1) (by decide) Pe;have e:=wz (h:=h.toNat) (qs:=mH ns);rw[kD c.1] at e;rw[e];exact aY this (Uz hn hp)
  .have e:(dM ((mH ns).map i4)).filter (fun t=>decide (t.1=h))=[]:=vg.mpr fun t ht e=>c ((show t.1=h from dB e) ▸ (rg t ht).1.1);rw[e];exact de _
 .have Az:∀v,v<pr ns->(∃k,dS (dM ((mH ns).map i4)) k 0 v)/\∃k,dS (dM ((mH ns).map i4)) k v 0:=by
   intro v;induction v using Nat.strongRecOn with
   |ind v ih=>
    intro hv;rcases zI v with e|e
    .subst e;exact⟨⟨0,rfl⟩,0,rfl⟩
    .obtain⟨u,hu,uu⟩:=G0 Pe e hv;obtain⟨⟨k,w⟩,l,w'⟩:=ih u hu (by lia);have t:T (dM ((mH ns).map i4)) u v:=nN.mpr (.inl (bn.mpr ⟨(u,v),wA.mpr ⟨by show u<pr ns;lia,uu⟩,rfl⟩));have t':T (dM ((mH ns).map i4)) v u:=CI t;exact⟨⟨k+1,u,w,t⟩,l+1,dS.cons t' w'⟩
  obtain⟨_,k,w⟩:=Az a ha;obtain⟨⟨l,w'⟩,_⟩:=Az b hb;exact⟨_,w.trans w'⟩
end fJ
namespace jT
open PySem L2
def iK(i:Nat):Stmt:=PySem.Challenge.pw_neverwait_k26_whole_named_anew.main.body.getD i (.Pass ⟨0,0,0,0⟩)
abbrev A7:Stmt:=iK 11
abbrev wC:Stmt:=iK 12
abbrev A8:Stmt:=iK 13
abbrev Pf:Stmt:=iK 15
structure Bl(mg:Str->Option Value):Prop where
 Nq:mg "isinstance"=none
 int:mg "int"=none
 bool:mg "bool"=none
 tup:mg "tuple"=none
 lst:mg "list"=none
 str:mg "str"=none
 set:mg "set"=none
 len:mg "len"=none
 range:mg "range"=none
 sorted:mg "sorted"=none
 any:mg "any"=none
 max:mg "max"=none
 min:mg "min"=none
 abf:mg "ValueError"=none
 all:mg "all"=none
def G7(K:PySem.W.Frag)(H:Hp)(x:V):Prop:=∃t,M_ K H x t/\(PySem.W.kitOne K t (.type "int")=some false\/(PySem.W.kitOne K t (.type "int")=some true/\PySem.W.kitOne K t (.type "bool")=some true))
theorem ql:PySem.W.kitOne K (.type "int") (.type "int")=some true:=by kernel_rfl
theorem nP:PySem.W.kitOne K (.type "int") (.type "bool")=some false:=by kernel_rfl
inductive Wh (K:PySem.W.Frag) (H:Hp):V->Option Int->Prop where
 |int (i:Int):Wh K H (.int i) (some i)
 |no {x:V} (h:G7 K H x):Wh K H x none
def qV(K:PySem.W.Frag):Sp:=fun vs H Q _=>∃x o,vs=[x]/\Wh K H x o/\Q (.bl o.isSome) H
section
variable {P:Program} {w:World} {K:PySem.W.Frag} {mg:Str->Option Value} {base:Heap}
theorem KO:aT ["thing"] ["thing"] (av A7):=cV (by decide +kernel)
theorem G8(F:gv K "is_whole" "is_whole" A7 f fd)(B:Bl mg):bU P w K mg base bv 1 f fd ["thing"] (qV K):=by
 refine F.ok KO (fun vs H Q E h=>?_) (fun dY A outer s H vs Q E hr h=>?_)
 .obtain⟨x,o,rfl,_⟩:=h;rfl
 .obtain⟨x,o,rfl,W,k⟩:=h;refine⟨_,ak (aM (pc (aI hZ (by rfl) B.Nq pZ (aa (pv 0) (aa (i9 (v:=.ty "int") rfl B.int PyProof.Rows.boot_int rfl) ae)))
   (rW (Oh (aI hZ (by rfl) B.Nq pZ (aa (pv 0) (aa (i9 (v:=.ty "bool") rfl B.bool PyProof.Rows.boot_bool rfl) ae))))))),?_⟩
  cases W with
  |int i=>
   refine⟨_,rfl,_,_,_,.type "int",true,rfl,⟨rfl,ql⟩,.of (.int _),true,rfl,?_⟩;exact⟨_,rfl,_,_,_,.type "int",false,rfl,⟨rfl,nP⟩,.of (.int _),false,rfl,k⟩
  |no h=>
   obtain⟨t,ty,h|⟨h1,h2⟩⟩:=h
   .exact⟨_,rfl,_,_,_,t,false,rfl,⟨rfl,h⟩,ty,false,rfl,k⟩
   .refine⟨_,rfl,_,_,_,t,true,rfl,⟨rfl,h1⟩,ty,true,rfl,?_⟩;exact⟨_,rfl,_,_,_,t,true,rfl,⟨rfl,h2⟩,ty,true,rfl,k⟩
def eX(o:Option Int)(lo hi:Int):Bool:=match o with
 |some i=>decide (lo<=i)&&decide (i<=hi)
 |none=>false
def nQ(K:PySem.W.Frag):Sp:=fun vs H Q _=>∃x o lo hi,vs=[x,.int lo,.int hi]/\Wh K H x o/\Q (.bl (eX o lo hi)) H
theorem G9:aT ["thing","least","most"] ["thing","least","most"] (av wC):=cV (by decide +kernel)
theorem Ei(F:gv K "is_whole_within" "is_whole_within" wC f fd)(W:cu P w K mg base bv 1 "is_whole" ["thing"] (qV K)):bU P w K mg base bv 2 f fd ["thing","least","most"] (nQ K):=by
 refine F.ok G9 (fun vs H Q E h=>?_) (fun dY A outer s H vs Q E hr h=>?_)
 .obtain⟨x,o,lo,hi,rfl,_⟩:=h;rfl
 .obtain⟨x,o,lo,hi,rfl,wh,k⟩:=h;refine⟨_,ak (aM (pc (az W hr aL (aa (pv 0) ae)) (rW (FH B4 B4 (pv 1) (pv 0) (pv 2))))),?_⟩;refine⟨_,rfl,x,o,rfl,wh,?_⟩;cases wh with
  |no h=>exact⟨false,rfl,k⟩
  |int i=>
   refine⟨true,rfl,_,rfl,_,rfl,_,_,rfl,rfl,_,rfl,?_⟩;show if decide (lo<=i)=true then _ else _
   have k':Q (.bl (decide (lo<=i)&&decide (i<=hi))) H:=k;by_cases h:lo<=i
   .rw[cx h] at k' |-;exact⟨_,rfl,_,_,rfl,rfl,k'⟩
   .rw[di h] at k' |-;exact k'
def nR(K:PySem.W.Frag):Sp:=fun vs H Q _=>∃x o n,vs=[.int n,x]/\Wh K H x o/\Q (.bl (eX o 0 (n-1))) H
theorem KQ:aT ["many","thing"] ["many","thing"] (av A8):=cV (by decide +kernel)
theorem G_(F:gv K "is_house" "is_house" A8 f fd)(W:cu P w K mg base bv 2 "is_whole_within" ["thing","least","most"] (nQ K)):bU P w K mg base bv 3 f fd ["many","thing"] (nR K):=by
 refine F.ok KQ (fun vs H Q E h=>?_) (fun dY A outer s H vs Q E hr h=>?_)
 .obtain⟨x,o,n,rfl,_⟩:=h;rfl
 .obtain⟨x,o,n,rfl,wh,k⟩:=h;refine⟨_,ak (aM (az W hr aL (aa (pv 1) (aa aq (aa (bu mv (pv 0) aq) ae))))),?_⟩;exact⟨_,rfl,_,rfl,_,_,rfl,rfl,x,o,0,n-1,rfl,wh,k⟩
inductive Rw (K:PySem.W.Frag) (H:Hp):V->Option (List V)->Prop where
 |tup {p:Addr} {xs:List V} (h:H p=some (.tup xs)):Rw K H (.ref p) (some xs)
 |no {x:V} {t:Value} (ty:M_ K H x t) (h:PySem.W.kitOne K t (.type "tuple")=some false):Rw K H x none
def Nr(o:Option (List V))(m:Int):Bool:=match o with
 |some xs=>decide ((xs.length:Int)=m)
 |none=>false
theorem wD:PySem.W.kitOne K (.type "tuple") (.type "tuple")=some true:=by kernel_rfl
def yq(K:PySem.W.Frag):Sp:=fun vs H Q _=>∃x o m,vs=[x,.int m]/\Rw K H x o/\Q (.bl (Nr o m)) H
theorem UA:aT ["thing","length"] ["thing","length"] (av Pf):=cV (by decide +kernel)
theorem Pg(F:gv K "is_row" "is_row" Pf f fd)(B:Bl mg):bU P w K mg base bv 1 f fd ["thing","length"] (yq K):=by
 refine F.ok UA (fun vs H Q E h=>?_) (fun dY A outer s H vs Q E hr h=>?_)
 .obtain⟨x,o,m,rfl,_⟩:=h;rfl
 .obtain⟨x,o,m,rfl,W,k⟩:=h;refine⟨_,ak (aM (pc (aI hZ (by rfl) B.Nq pZ (aa (pv 0) (aa (i9 (v:=.ty "tuple") rfl B.tup m9 rfl) ae)))
   (rW (gh eN (aI aF (by rfl) B.len cp (aa (pv 0) ae)) (pv 1) (aR _))))),?_⟩
  cases W with
  |@tup p xs h=>
   refine⟨_,rfl,_,_,_,.type "tuple",true,rfl,⟨rfl,wD⟩,.of (.tup h),true,rfl,?_⟩;refine⟨_,rfl,_,_,rfl,.inr (bt.of h),_,rfl,rfl,?_⟩;have e:decide (V.int ((xs.length:Nat):Int)=V.int m)=decide (((xs.length:Nat):Int)=m):=by simp
   rw[e];exact k
  |no ty h=>exact⟨_,rfl,_,_,_,_,false,rfl,⟨rfl,h⟩,ty,false,rfl,k⟩
end
theorem bD(s:aA H H')(hD:H D=none):aA H (upd H' D o):=fun b u e=>by rw[ao (ap e hD)];exact s b u e
abbrev IV(ns:List Int):List V:=ns.map V.int
abbrev NV(ns:List Nat):List V:=ns.map fun (x:Nat)=>V.int (x:Int)
theorem dI(G:St->Hp->Prop)(hr:∀σ H,G σ H->u D σ H)(ht:∀N:St->Hp->Prop,(∀σ H,G σ H->N σ H)->t { D with nx:=N } σ H):SW t u D σ H:=ht _ hr
abbrev Zs:=List (Addr×(Int×Int))
abbrev ud(u:Int×Int):HO:=.tup [.int u.1,.int u.2]
def zr(zs:Zs):List V:=zs.map fun z=>V.ref z.1
def zp(zs:Zs):List (Int×Int):=zs.map (·.2)
def PO(H:Hp)(zs:Zs):Prop:=∀z∈zs,H z.1=some (ud z.2)
theorem ff:zr (a++b)=zr a++zr b:=cK
theorem fh:zp (a++b)=zp a++zp b:=cK
theorem dA:(zr a).length=a.length:=aP _
theorem bT:(zp a).length=a.length:=aP _
theorem nU:zr a=(a.map (·.1)).map V.ref:=by unfold zr;rw[cy];rfl
theorem pN{zs:Zs}{i:Nat}{x:V}(h:(zr zs)[i]?=some x):∃z,zs[i]?=some z/\x=.ref z.1:=by
 unfold zr at h;rw[bN] at h;cases e:zs[i]? with
 |none=>rw[e] at h;cases h
 |some z=>rw[e] at h;exact⟨z,rfl,(bX h).symm⟩
theorem PO.nil:PO H []:=fun z hz=>(nomatch hz)
theorem PO.same(h:PO H zs)(s:aA H H'):PO H' zs:=fun z hz=>s _ _ (h z hz)
theorem PO.putL(h:PO H zs)(e:H D=some (.lst xs)):PO (upd H D o) zs:=fun z hz=>by
 have:=h z hz;rw[ao (by rintro rfl;rw[e] at this;cases this)];exact this
theorem PO.putN(h:PO H zs)(e:H D=none):PO (upd H D o) zs:=h.same (aj e)
theorem PO.append(h:PO H a)(h':PO H b):PO H (a++b):=fun z hz=>(bY.mp hz).elim (h z) (h' z)
theorem PO.one(h:H p=some (ud u)):PO H [(p,u)]:=fun z hz=>by rw[cC.mp hz];exact h
theorem yr{zs:Zs}{i:Nat}(h:i<zs.length):(zs.map (·.1)).getD i 0=zs[i].1:=by
 rw[aS,bN,bq h];rfl
theorem CO(h:i<zs.length):(zp zs).getD i (0,0)=zs[i].2:=by
 unfold zp;rw[aS,bN,bq h];rfl
theorem Ej{H:Hp}{zs:Zs}(ho:PO H zs){as:List Addr}(h:as.Perm (zs.map (·.1))):∃y6:Zs,y6.Perm zs/\as=y6.map (·.1):=by
 classical
 let f:Addr->Int×Int:=fun a=>match H a with
  |some (.tup [.int x,.int y])=>(x,y)
  |_=>(0,0)
 have e:(zs.map (·.1)).map (fun a=>(a,f a))=zs:=by
  rw[cy];conv=>rhs;rw[<-mi zs]
  refine js fun z hz=>?_;have:=ho z hz;show (z.1,f z.1)=z;have e2:f z.1=z.2:=by
   show (match H z.1 with|some (.tup [.int x,.int y])=>(x,y)|_=>(0,0))=z.2;rw[this]
  rw[e2]
 refine⟨as.map fun a=>(a,f a),?_,?_⟩
 .have:=h.map (fun a=>(a,f a));rw[e] at this;exact this
 .rw[cy];exact(mi as).symm
abbrev Ord(us:List (Int×Int)):Prop:=us=us
theorem KR{K:PySem.W.Frag}{H:Hp}{l:Addr}{zs:Zs}{Q:VK}(hl:H l=some (.lst (zr zs)))(ho:PO H zs)(hz:zs.length<=4096)(hb:∀u∈zp zs,0<=u.2/\u.2<64)(q:∀ (D:Addr) (y6:Zs),H D=none->y6.Perm zs->Ord (zp y6)->Q (.ref D) (upd H D (.lst (zr y6)))):GN K [.ref l] H Q:=by
 refine⟨l,zs.map (·.1),rfl,aV.of (by rw[<-nU];exact hl),fun a ha=>?_,by rw[aP];exact hz,fun D y4 hD hp=>?_⟩
 .obtain⟨z,hz,rfl⟩:=bn.mp ha;exact⟨_,_,bt.of (ho z hz)⟩
 .obtain⟨y6,h1,rfl⟩:=Ej ho hp;rw[<-nU];exact q D y6 hD h1 rfl
theorem nV(F:Nat->Int×Int)(bE:St->Prop)(hD:H0 D=none)(hn:n<=100000)(h0:bE σB)(hs:∀i σ H (R:V->St->Hp->Prop) (Kf:St->Hp->Prop),i<n->bE σ->aA H0 H->(∀σ2 p,bE σ2->H p=none->R (.ref p) σ2 (upd H p (ud (F i))))->g (.int (lo+i)) σ H fun σ2 H2=>tt σ2 H2 fun b H3=>if b=true then te σ2 H3 fun v H4=>R v σ2 H4 else Kf σ2 H3)(hd:∀zs H,aA H0 H->H D=some (.lst (zr zs))->PO H zs->zp zs=(List.range n).map F->(∀z∈zs,H0 z.1=none)->dJ H):gJ (EW lo n) g tt te D dJ σB (upd H0 D (.lst [])):=by
 refine eT (fun i ys σ H=>bE σ/\aA H0 H/\H D=some (.lst ys)/\∃zs:Zs,ys=zr zs/\PO H zs/\zp zs=(List.range i).map F/\∀z∈zs,H0 z.1=none) ⟨h0,aj hD,af,[],rfl,PO.nil,rfl,fun z hz=>nomatch hz⟩ ?_ ?_
 .rintro i ys σ H Kt Kf hi ⟨sh,sm,d8,zs,rfl,po,ep,fr⟩ kt kf;have hl:zs.length=i:=by rw[<-bT,ep,aP,cE]
  refine hs i σ H Kt Kf hi sh sm (fun σ2 p mI hp=>?_)
  .have nD:D≠p:=ap d8 hp;refine kt _ _ _ (by rw[ao nD];exact d8) (by rw[dA,hl];exact cQ hi (aY hn (by decide))) ⟨mI,bD (sm.trans (aj hp)) hD,af,zs++[(p,F i)],?_,?_,?_,?_⟩
   .rw[ff];rfl
   .refine PO.putL (xs:=zr zs) ?_ (by rw[ao nD];exact d8);exact(po.putN hp).append (PO.one af)
   .rw[fh,ep,iQ,cK];rfl
   .intro z hz;rcases bY.mp hz with z'|z'
    .exact fr z z'
    .rw[cC.mp z'];exact sm.free hp
 .rintro ys σ H ⟨_,sm,d8,zs,rfl,po,ep,fr⟩;exact hd zs H sm d8 po ep fr
theorem yt{K:PySem.W.Frag}{a D:Addr}{A9:Zs}{g:TG}{tt:TT}{te:TE}{dJ:Hp->Prop}{σB:St}{H0:Hp}(F:Int×Int->Int×Int)(bE:St->Prop)(ha:H0 a=some (.lst (zr A9)))(Ph:PO H0 A9)(hD:H0 D=none)(hn:A9.length<=100000)(h0:bE σB)(hs:∀z σ H (R:V->St->Hp->Prop) (Kf:St->Hp->Prop),z∈A9->bE σ->aA H0 H->H z.1=some (ud z.2)->(∀σ2 p,bE σ2->H p=none->R (.ref p) σ2 (upd H p (ud (F z.2))))->g (.ref z.1) σ H fun σ2 H2=>tt σ2 H2 fun b H3=>if b=true then te σ2 H3 fun v H4=>R v σ2 H4 else Kf σ2 H3)(hd:∀zs H,aA H0 H->H D=some (.lst (zr zs))->PO H zs->zp zs=(zp A9).map F->(∀z∈zs,H0 z.1=none)->dJ H):gJ (Dr K a) g tt te D dJ σB (upd H0 D (.lst [])):=by
 refine dh (xs:=zr A9) (fun i ys σ H=>bE σ/\aA H0 H/\H D=some (.lst ys)/\∃zs:Zs,ys=zr zs/\PO H zs/\zp zs=((zp A9).take i).map F/\∀z∈zs,H0 z.1=none) ⟨h0,aj hD,af,[],rfl,PO.nil,rfl,fun z hz=>nomatch hz⟩ (fun i ys σ H _ z=>aV.of (z.2.1 _ _ ha)) ?_ ?_
 .rintro i x ys σ H Kt Kf hx ⟨sh,sm,d8,zs,rfl,po,ep,fr⟩ kt kf;obtain⟨z,hz,rfl⟩:=pN hx;have hi:i<A9.length:=(cY.mp hz).1;have qW:z∈A9:=cZ hz;have hl:zs.length=i:=by rw[<-bT,ep,aP,g_,bT];lia
  refine hs z σ H Kt Kf qW sh sm (sm _ _ (Ph z qW)) (fun σ2 p mI hp=>?_)
  .have nD:D≠p:=ap d8 hp;refine kt _ _ _ (by rw[ao nD];exact d8) (by rw[dA,hl];exact cQ hi (aY hn (by decide))) ⟨mI,bD (sm.trans (aj hp)) hD,af,zs++[(p,F z.2)],?_,?_,?_,?_⟩
   .rw[ff];rfl
   .refine PO.putL (xs:=zr zs) ?_ (by rw[ao nD];exact d8);exact(po.putN hp).append (PO.one af)
   .have e2:(zp A9)[i]?=some z.2:=by unfold zp;rw[bN,hz];rfl
    rw[fh,ep,fZ,e2,zG,cK];rfl
   .intro z hz;rcases bY.mp hz with z'|z'
    .exact fr z z'
    .rw[cC.mp z'];exact sm.free hp
 .rintro ys σ H ⟨_,sm,d8,zs,rfl,po,ep,fr⟩;rw[dA,<-bT,iA] at ep;exact hd zs H sm d8 po ep fr
open fJ
abbrev CP:Stmt:=lC (iK 20) 0
abbrev Ha:Stmt:=lC (iK 20) 1
abbrev Pj:Stmt:=lC (iK 20) 3
abbrev Pk:Stmt:=lC (iK 20) 4
abbrev Hb:Stmt:=lC (iK 20) 6
abbrev A_:Stmt:=lC (iK 20) 8
structure Er(K:PySem.W.Frag)(mg:Str->Option Value)(x:Str)(C:Addr):Prop where
 at_:mg x=some (.ref C)
 ok:v8 K C
theorem n12:¬ (("house_count":Str)="tie_list"):=by decide +kernel
theorem n13:¬ (("house_count":Str)="out_lists"):=by decide +kernel
theorem n14:¬ (("house_count":Str)="distances"):=by decide +kernel
theorem n34:¬ (("out_lists":Str)="distances"):=by decide +kernel
def nX(n:Int)(tl ol ds:Addr):List (Str×V):=dX "distances" (.ref ds) (dX "out_lists" (.ref ol) (dX "tie_list" (.ref tl) (dX "house_count" (.int n) [])))
theorem CQ(n:Int)(tl ol ds:Addr):(nX n tl ol ds).lookup ("house_count":Str)=some (.int n):=by
 unfold nX;rw[bR,au n14,bR,au n13,bR,au n12,bR,aD rfl]
theorem nY(n:Int)(tl ol ds:Addr){m:Str}(h1:¬ m="house_count")(h2:¬ m="tie_list")(h3:¬ m="out_lists")(h4:¬ m="distances"):(nX n tl ol ds).lookup m=none:=by
 unfold nX;rw[bR,au h4,bR,au h3,bR,au h2,bR,au h1];all_goals rfl
theorem CS(n:Int)(tl ol ds:Addr):(nX n tl ol ds).lookup ("out_lists":Str)=some (.ref ol):=by
 unfold nX;rw[bR,au n34,bR,aD rfl]
theorem CU(n:Int)(tl ol ds:Addr):(nX n tl ol ds).lookup ("distances":Str)=some (.ref ds):=by
 unfold nX;rw[bR,aD rfl]
def cX(H:Hp)(L:Addr->Prop)(l:Addr)(n:Nat)(r:Nat->List Nat):Prop:=∃bs:List Addr,H l=some (.lst (bs.map V.ref))/\(∀b∈bs,L b)/\Holds H bs n (fun h=>.lst (NV (r h)))
theorem cX.keep(R:cX H L l n r)(hl:L l)(k:∀b o,L b->H b=some o->H' b=some o):cX H' L l n r:=
 let ⟨bs,a,b,c⟩:=R
 ⟨bs,k _ _ hl a,b,c.mono fun j hj e=>k _ _ (b _ (by rw[aS,bq (by rw[c.1];exact hj)];exact dv _)) e⟩
theorem cX.row(R:cX H L l n r)(hh:h<n):∃ (bs:List Addr) (b:Addr),H l=some (.lst (bs.map V.ref))/\(bs.map V.ref)[h]?=some (V.ref b)/\H b=some (.lst (NV (r h)))/\L b:=by
 obtain⟨bs,a,b,c⟩:=R;have hl:h<bs.length:=by rw[c.1];exact hh
 refine⟨bs,bs[h],a,by rw[bN,bq hl];rfl,?_,b _ (dv _)⟩;have:=c.2 h hh;rw[aS,bq hl] at this;exact this
def KS(H:Hp)(L:Addr->Prop)(tl:Addr)(ts:Ts):Prop:=L tl/\∃zs:Zs,H tl=some (.lst (zr zs))/\PO H zs/\(∀z∈zs,L z.1)/\(zp zs).Perm ts/\Ord (zp zs)
theorem KS.keep(h:KS H L tl ts)(k:∀b o,L b->H b=some o->H' b=some o):KS H' L tl ts:=
 let ⟨a,zs,b,c,d,e⟩:=h;⟨a,zs,k _ _ a b,fun z hz=>k _ _ (d z hz) (c z hz),d,e⟩
structure dw(C:Addr)(H:Hp)(L:Addr->Prop)(p:Addr)(n:Nat)(ts:Ts):Prop where
 lN:cA n ts
 ob:∃dx tl ol ds,H p=some (.ins C dx (nX n tl ol ds))/\L ol/\L ds/\cX H L ol n (bj n ts)/\cX H L ds n (fun h=>(List.range n).map (far ts h))/\KS H L tl ts
theorem dw.keep(N:dw C H L p n ts)(k:∀b o,L b->H b=some o->H' b=some o)(kp:∀o,H p=some o->H' p=some o):dw C H' L p n ts:=
 let ⟨dx,tl,ol,ds,a,l1,l2,b,c,d⟩:=N.ob
 ⟨N.lN,dx,tl,ol,ds,kp _ a,l1,l2,b.keep l1 k,c.keep l2 k,d.keep k⟩
theorem dw.same(N:dw C H L p n ts)(s:aA H H'):dw C H' L p n ts:=N.keep (fun b o _ e=>s b o e) (fun o e=>s _ o e)
structure NT(K:PySem.W.Frag)(mg:Str->Option Value)(C:Addr):Prop where
 cl:FN K C
 nH:jm K C "house_count"
 nT:jm K C "tie_list"
 nO:jm K C "out_lists"
 nD:jm K C "distances"
 mgC:mg "Net"=some (.ref C)
structure nZ(P:Program)(w:World)(K:PySem.W.Frag)(mg:Str->Option Value)(base:Heap)(CX:xH)(k:Nat)(C:Addr)(x:Str)(ps:List Str)(sp:Sp):Prop where
 ex:∃f fd,JX K C x f/\j7 K fd ps []/\bU P w K mg base CX k f fd ps sp
section
variable {P:Program} {w:World} {K:PySem.W.Frag} {mg:Str->Option Value} {base:Heap}
theorem KU:aT ["self","thing"] ["self","thing"] (av A_):=cV (by decide +kernel)
theorem Ek{i n:Nat}(h:i<n):eX (some (i:Int)) 0 ((n:Int)-1)=true:=by unfold eX;simp;lia
def n0(C:Addr):Sp:=fun vs H Q _=>∃ (L:Addr->Prop) (p:Addr) (n:Nat) (ts:Ts) (i:Nat),vs=[.ref p,.int i]/\dw C H L p n ts/\i<n/\Q .bz H
theorem El{f C:Addr}{fd:FuncData}(F:gv K "check_house" "Net.check_house" A_ f fd)(T:NT K mg C)(HH:cu P w K mg base bv 3 "is_house" ["many","thing"] (nR K)):
  bU P w K mg base bv 4 f fd ["self","thing"] (n0 C):=by
 refine F.ok KU (fun vs H Q E h=>?_) (fun dY A outer s H vs Q E hr h=>?_)
 .obtain⟨L,p,n,ts,i,rfl,_⟩:=h;rfl
 .obtain⟨L,p,n,ts,i,rfl,N,hi,k⟩:=h;obtain⟨dx,tl,ol,ds,h1,_⟩:=N.ob;refine⟨_,ak (bA (fT (dq (az HH hr aL (aa (kW (pv 0) rfl) (aa (pv 1) ae))))) f8 aQ),?_⟩;refine⟨_,rfl,p,C,dx,_,_,rfl,h1,T.cl,T.nH,CQ _ _ _ _,_,rfl,_,some (i:Int),n,rfl,.int _,_,rfl,?_⟩;rw[Ek hi];exact cG k
theorem Pm(n:Int)(tl ol ds:Addr):(nX n tl ol ds).lookup ("check_house":Str)=none:=nY n tl ol ds (by decide +kernel) (by decide +kernel) (by decide +kernel) (by decide +kernel)
theorem Pn(n:Int)(tl ol ds:Addr):(nX n tl ol ds).lookup ("far":Str)=none:=nY n tl ol ds (by decide +kernel) (by decide +kernel) (by decide +kernel) (by decide +kernel)
theorem Po{xs:List Nat}{i:Nat}(h:i<xs.length):(NV xs)[i]?=some (.int ((xs[i]:Nat):Int)):=by rw[bN,bq h];rfl
theorem aO:(NV xs).length=xs.length:=aP _
theorem UB:aT ["self","house"] ["self","house"] (av Pj):=cV (by decide +kernel)
def s_(C:Addr):Sp:=fun vs H Q _=>∃ (L:Addr->Prop) (p:Addr) (n:Nat) (ts:Ts) (i:Nat),vs=[.ref p,.int i]/\dw C H L p n ts/\i<n/\∀r H',aA H H'->H r=none->H' r=some (.lst (NV (bj n ts i)))->Q (.ref r) H'
theorem KW(F:gv K "out" "Net.out" Pj f fd)(T:NT K mg C)(B:Bl mg)(M:nZ P w K mg base bv 4 C "check_house" ["self","thing"] (n0 C)):
  bU P w K mg base bv 5 f fd ["self","house"] (s_ C):=by
 obtain⟨fM,Zw,mM,bM,GM⟩:=M.ex;refine F.ok UB (fun vs H Q E h=>?_) (fun dY A outer s H vs Q E hr h=>?_)
 .obtain⟨L,p,n,ts,i,rfl,_⟩:=h;rfl
 .obtain⟨L,p,n,ts,i,rfl,N,hi,k2⟩:=h;obtain⟨dx,tl,ol,ds,h1,_,_,R,_⟩:=N.ob;refine⟨_,ai (cU (iG (pv 0) T.cl mM GM hr bM .nil aL (aa (pv 1) ae)))
   (ak (aM (cL jP (by rfl) B.lst oF (aa (aG aH (kW (pv 0) rfl) (pv 1) (fun _ _=>rfl)) ae)))),?_⟩
  refine⟨_,rfl,p,dx,_,rfl,h1,Pm _ _ _ _,_,rfl,L,p,n,ts,i,rfl,N,hi,?_⟩;obtain⟨bs,b,r1,r2,r3,_⟩:=R.row hi;exact⟨_,rfl,p,C,dx,_,_,rfl,h1,T.cl,T.nO,CS _ _ _ _,_,rfl,ol,_,_,_,rfl,rfl,aV.of r1,am r2,b,_,rfl,.inl (aV.of r3),fun l hl=>k2 l _ (aj hl) hl af⟩
theorem UC:aT ["self","one","other"] ["self","one","other"] (av Pk):=cV (by decide +kernel)
def wE(C:Addr):Sp:=fun vs H Q _=>∃ (L:Addr->Prop) (p:Addr) (n:Nat) (ts:Ts) (i j:Nat),vs=[.ref p,.int i,.int j]/\dw C H L p n ts/\i<n/\j<n/\Q (.int (far ts i j:Nat)) H
theorem KY(F:gv K "far" "Net.far" Pk f fd)(T:NT K mg C)(M:nZ P w K mg base bv 4 C "check_house" ["self","thing"] (n0 C)):
  bU P w K mg base bv 5 f fd ["self","one","other"] (wE C):=by
 obtain⟨fM,Zw,mM,bM,GM⟩:=M.ex;refine F.ok UC (fun vs H Q E h=>?_) (fun dY A outer s H vs Q E hr h=>?_)
 .obtain⟨L,p,n,ts,i,j,rfl,_⟩:=h;rfl
 .obtain⟨L,p,n,ts,i,j,rfl,N,hi,hj,k⟩:=h;obtain⟨dx,tl,ol,ds,h1,_,_,_,R,_⟩:=N.ob;refine⟨_,ai (cU (iG (pv 0) T.cl mM GM hr bM .nil aL (aa (pv 1) ae)))
   (ai (cU (iG (pv 0) T.cl mM GM hr bM .nil aL (aa (pv 2) ae)))
   (ak (aM (aG aH (aG aH (kW (pv 0) rfl) (pv 1) (fun _ _=>rfl)) (pv 2) (fun _ _=>rfl))))),?_⟩
  refine⟨_,rfl,p,dx,_,rfl,h1,Pm _ _ _ _,_,rfl,L,p,n,ts,i,rfl,N,hi,?_⟩;refine⟨_,rfl,p,dx,_,rfl,h1,Pm _ _ _ _,_,rfl,L,p,n,ts,j,rfl,N,hj,?_⟩;obtain⟨bs,b,r1,r2,r3,_⟩:=R.row hi;have hg:(NV ((List.range n).map (far ts i)))[j]?=some (.int (far ts i j:Nat)):=by
   rw[bN,bN,fw hj];rfl
  exact⟨_,rfl,p,C,dx,_,_,rfl,h1,T.cl,T.nD,CU _ _ _ _,_,rfl,ds,_,_,_,rfl,rfl,aV.of r1,am r2,_,rfl,b,_,_,_,rfl,rfl,aV.of r3,am hg,k⟩
end
open PySem L2 fJ
abbrev Ba:Stmt:=iK 21
abbrev Pp:Stmt:=iK 22
abbrev Pq:Stmt:=iK 23
section
variable {P:Program} {w:World} {K:PySem.W.Frag} {mg:Str->Option Value} {base:Heap}
abbrev Ps:Stmt:=iK 14
theorem UD:aT ["many","one","other"] ["many","one","other"] (av Ps):=cV (by decide +kernel)
def He:Sp:=fun vs H Q _=>∃ (n a b:Int),vs=[.int n,.int a,.int b]/\0<=a/\a<n/\0<=b/\b<n/\a≠b/\Q (.bl true) H
theorem Pu(F:gv K "are_unlike_houses" "are_unlike_houses" Ps f fd)(HH:cu P w K mg base bv 3 "is_house" ["many","thing"] (nR K)):
  bU P w K mg base bv 4 f fd ["many","one","other"] He:=by
 refine F.ok UD (fun vs H Q E h=>?_) (fun dY A outer s H vs Q E hr h=>?_)
 .obtain⟨n,a,b,rfl,_⟩:=h;rfl
 .obtain⟨n,a,b,rfl,a1,a2,b1,b2,uI,k⟩:=h;refine⟨_,ak (aM (pc (az HH hr aL (aa (pv 0) (aa (pv 1) ae))) (pc (az HH hr aL (aa (pv 0) (aa (pv 2) ae))) (rW (gh qa (pv 1) (pv 2) (aR _)))))),?_⟩;refine⟨_,rfl,_,rfl,_,_,n,rfl,.int a,_,rfl,?_⟩;rw[aD (show eX (some a) 0 (n-1)=true by unfold eX;simp;lia)];refine⟨_,rfl,_,rfl,_,_,n,rfl,.int b,_,rfl,?_⟩;rw[aD (show eX (some b) 0 (n-1)=true by unfold eX;simp;lia)];refine⟨_,rfl,_,rfl,rfl,?_⟩;have e:(!decide (V.int a=V.int b))=true:=by simp[uI]
  rw[e];exact k
theorem UE:aT ["many","thing"] ["many","thing"] (av Pp):=cV (by decide +kernel)
def Hg:Sp:=fun vs H Q _=>∃ (n:Int) (p:Addr) (a b:Int),vs=[.int n,.ref p]/\H p=some (.tup [.int a,.int b])/\0<=a/\a<n/\0<=b/\b<n/\a≠b/\Q (.bl true) H
theorem Pw(F:gv K "is_tie" "is_tie" Pp f fd)(R:cu P w K mg base bv 1 "is_row" ["thing","length"] (yq K))(U:cu P w K mg base bv 4 "are_unlike_houses" ["many","one","other"] He):
  bU P w K mg base bv 5 f fd ["many","thing"] Hg:=by
 refine F.ok UE (fun vs H Q E h=>?_) (fun dY A outer s H vs Q E hr h=>?_)
 .obtain⟨n,p,a,b,rfl,_⟩:=h;rfl
 .obtain⟨n,p,a,b,rfl,hp,a1,a2,b1,b2,uI,k⟩:=h;refine⟨_,ak (aM (pc (az R (hr.mono (by decide)) aL (aa (pv 1) (aa aq ae)))
   (rW (az U hr aL (aa (pv 0) (aa (aG bf (pv 1) aq (fun _ _=>rfl)) (aa (aG bf (pv 1) aq (fun _ _=>rfl)) ae))))))),?_⟩
  refine⟨_,rfl,_,_,_,rfl,.tup hp,true,rfl,?_⟩;exact⟨_,rfl,_,rfl,p,_,_,_,rfl,rfl,bt.of hp,am (j:=0) rfl,_,rfl,p,_,_,_,rfl,rfl,bt.of hp,am (j:=1) rfl,n,a,b,rfl,a1,a2,b1,b2,uI,k⟩
theorem CV:aT ["many","ties","tie"] ["many","ties"] (av Ba):=cV (by decide +kernel)
theorem Hh:PySem.W.kitOne K (.type "list") (.type "list")=some true:=by kernel_rfl
structure ip(H:Hp)(l:Addr)(n:Nat)(zs:Zs):Prop where
 lN:cA n (zp zs)
 at_:H l=some (.lst (zr zs))
 po:PO H zs
theorem ip.same(h:ip H l n zs)(s:aA H H'):ip H' l n zs:=⟨h.lN,s _ _ h.at_,h.po.same s⟩
def lG:Sp:=fun vs H Q _=>∃ (n:Nat) (l:Addr) (zs:Zs),vs=[.int n,.ref l]/\ip H l n zs/\∀H',aA H H'->Q .bz H'
theorem Hi(F:gv K "check_ties" "check_ties" Ba f fd)(B:Bl mg)(gF:∃t,mg "FEWEST_HOUSES"=some (.int 2 t))(gM:∃t,mg "MOST_HOUSES"=some (.int 32 t))(W:cu P w K mg base bv 2 "is_whole_within" ["thing","least","most"] (nQ K))(T:cu P w K mg base bv 5 "is_tie" ["many","thing"] Hg):
  bU P w K mg base bv 6 f fd ["many","ties"] lG:=by
 obtain⟨tF,gF⟩:=gF;obtain⟨tM,gM⟩:=gM;refine F.ok CV (fun vs H Q E h=>?_) (fun dY A outer s H vs Q E hr h=>?_)
 .obtain⟨n,l,zs,rfl,_⟩:=h;rfl
 .refine⟨_,ai (bA (fT (dq (az W (hr.mono (by decide)) aL (aa (pv 0) (aa (vT (v:=.int 2) rfl gF ⟨_,rfl⟩) (aa (vT (v:=.int 32) rfl gM ⟨_,rfl⟩) ae)))))) f8 aQ)
   (ai (bA (fT (dq (aI hZ (by rfl) B.Nq pZ (aa (pv 1) (aa (i9 (v:=.ty "list") rfl B.lst oF rfl) ae))))) f8 aQ)
   (ai (cP dO rfl (bP (pv 1)) (aw (i:=2) CV.nd rfl aU) (ak (bA (fT (dq (az T hr aL (aa (pv 0) (aa (pv 2) ae))))) f8 aQ)))
   (ak (bA (aK qa (aI xU (by rfl) B.len cp (aa (cL (DO rfl (by have:=hr.un;show (A.deeper _).units+8<_;lia)) (by rfl) B.set PyProof.Rows.boot_set (aa (pv 1) ae)) ae)) (aI aF (by rfl) B.len cp (aa (pv 1) ae)) (aR _)) f8 aQ)))),?_⟩
  obtain⟨n,l,zs,rfl,tt,k⟩:=h;obtain⟨fi,hl,po⟩:=id tt;have n1:=fi.n1;have n2:=fi.n2;refine⟨_,rfl,_,_,2,32,rfl,.int n,_,rfl,?_⟩;rw[show eX (some (n:Int)) 2 32=true by unfold eX;simp;lia];refine cG ?_;refine⟨_,rfl,_,_,_,.type "list",true,rfl,⟨rfl,Hh⟩,.of (.lst hl),_,rfl,cG ?_⟩;refine⟨_,rfl,l,rfl,⟨_,aV.of hl⟩,hW (K:=K) (a:=l) (xs:=zr zs) (fun i σ H2=>H2=H/\∃v,σ=[some (.int n),some (.ref l),v]) ⟨rfl,none,rfl⟩ (fun i σ H2 _ ⟨e,_⟩=>by rw[e];exact aV.of hl) ?_ ?_⟩
  .rintro i x σ H2 hx ⟨rfl,v,rfl⟩;obtain⟨z,hz,rfl⟩:=pN hx;have qW:z∈zs:=cZ hz;have hzp:z.2∈zp zs:=bn.mpr ⟨z,qW,rfl⟩;have r:=fi.rg _ hzp;exact⟨_,rfl,_,rfl,n,_,_,_,rfl,po z qW,r.1.1,r.1.2,r.2.1,r.2.2,fi.ne _ hzp,_,rfl,cG ⟨rfl,_,rfl⟩⟩
  .rintro σ H2 ⟨rfl,v,rfl⟩;have dz:(zp zs).length<=256:=fi.len;refine⟨_,rfl,l,zs.map (·.1),zp zs,rfl,aV.of (by rw[<-nU];exact hl),by rw[aP,bT],fun i hi=>?_,fi.nd,fun y hy=>?_,by lia,fun D hD=>?_⟩
   .rw[bT] at hi;rw[yr hi,CO hi];exact bt.of (po _ (dv hi))
   .have r:=fi.rg _ hy;lia
   .have nl:l≠D:=ap hl hD;refine⟨D,_,rfl,af,by lia,_,rfl,l,zr zs,rfl,.inl (aV.of (by rw[ao nl];exact hl)),rfl,_,rfl,?_⟩;have ez:(!decide (V.int (((zp zs).length:Nat):Int)=V.int (((zr zs).length:Nat):Int)))=false:=by rw[bT,dA];simp
    rw[ez];exact cG (k _ (aj hD))
end
abbrev yu:Stmt:=iK 24
section
variable {P:Program} {w:World} {K:PySem.W.Frag} {mg:Str->Option Value} {base:Heap}
theorem pO(S:St->Prop)(p q:Int×Int->Int)(h:Int)(hD:H D=none)(hl:H l=some (.lst (zr zs)))(po:PO H zs)(hn:zs.length<=1000)(s0:S σB)(hg:∀z σ H2 (Kt:V->St->Hp->Prop) (Kf:St->Hp->Prop),z∈zs->S σ->H2 z.1=some (ud z.2)->(∀σ2,S σ2->p z.2=h->Kt (.int (q z.2)) σ2 H2)->(∀σ2,S σ2->p z.2≠h->Kf σ2 H2)->
   g (.ref z.1) σ H2 fun σ2 H2=>tt σ2 H2 fun b H3=>if b=true then te σ2 H3 fun v H4=>Kt v σ2 H4 else Kf σ2 H3)(hd:dJ (upd H D (.lst (IV (((zp zs).filter fun y=>decide (p y=h)).map q))))):gJ (Dr K l) g tt te D dJ σB (upd H D (.lst [])):=by
 have nl:l≠D:=ap hl hD;have tk:∀ {i:Nat} {z:Addr×(Int×Int)},zs[i]?=some z->(zp zs).take (i+1)=(zp zs).take i++[z.2]:=fun {i z} hz=>by
  rw[fZ,show (zp zs)[i]?=some z.2 by unfold zp;rw[bN,hz];rfl];rfl
 refine dh (xs:=zr zs) (fun i ys σ H2=>S σ/\ys=IV ((((zp zs).take i).filter fun y=>decide (p y=h)).map q)/\H2=upd H D (.lst ys)) ⟨s0,by simp,rfl⟩ (fun i ys σ H2 _ ⟨_,_,e⟩=>by rw[e];exact aV.of (by rw[ao nl];exact hl)) ?_ ?_
 .rintro i x ys σ H2 Kt Kf hx ⟨hS,ey,rfl⟩ kt kf;obtain⟨z,hz,rfl⟩:=pN hx;have qW:z∈zs:=cZ hz;have hp:=po z qW;have na:z.1≠D:=ap hp hD;have hi:i<zs.length:=(cY.mp hz).1;refine hg z σ _ Kt Kf qW hS (by rw[ao na];exact hp) (fun σ2 s2 e=>?_) (fun σ2 s2 e=>?_)
  .refine kt _ _ _ af ?_ ⟨s2,?_,?_⟩
   .rw[ey,aP,aP];exact fq (fW _ _) (fq (vp _ _) (cQ (show i<1000 by lia) (by decide)))
   .rw[ey,tk hz,ft,cK];have:decide (p z.2=h)=true:=by simp[e]
    simp[c_,this]
   .rw[lz]
  .refine kf _ _ ⟨s2,?_,rfl⟩;have:decide (p z.2=h)=false:=by simp[e]
   rw[ey,tk hz,ft];simp[c_,this]
 .rintro ys σ H2 ⟨_,ey,rfl⟩;rw[dA,<-bT,iA] at ey;rw[ey];exact hd
theorem R_:(["one","other","house"]:List Str).Nodup:=by decide +kernel
theorem CW:aT ["many","ties","house","leading_out","leading_in"] ["many","ties"] (av Pq):=cV (by decide +kernel)
theorem Px(F:gv K "check_balance" "check_balance" Pq f fd)(B:Bl mg)(gM:∃t,mg "MOST_TIES_OUT"=some (.int 8 t)):
  bU P w K mg base bv 1 f fd ["many","ties"] lG:=by
 obtain⟨tM,gM⟩:=gM;refine F.ok CW (fun vs H Q E h=>?_) (fun dY A outer s H vs Q E hr h=>?_)
 .obtain⟨n,l,zs,rfl,_⟩:=h;rfl
 .obtain⟨n,l,zs,rfl,T,k⟩:=h;have fi:=T.lN;have n1:=fi.n1;have n2:=fi.n2;have dz:zs.length<=256:=by have:=fi.len;rw[bT] at this;exact this
  refine'⟨_,ak (cP dO rfl (bC rfl B.range (aa (pv 0) ae)) (aw (i:=2) CW.nd rfl bL)
   (ai (aN (i:=3) CW.nd rfl aU (aI aF (by rfl) B.len cp (aa ?c1 ae)))
   (ai (aN (i:=4) CW.nd rfl aU (aI aF (by rfl) B.len cp (aa ?c2 ae)))
   (ai (bA (aK qa (pv 3) (pv 4) (aR _)) f8 aQ)
   (ak (bA (aK B5 (pv 3) (vT (v:=.int 8) rfl gM ⟨_,rfl⟩) (aR _)) f8 aQ)))))),?_⟩
  case c1=>
   refine' bV (g:=Af K 2 (ju (bK 0) (ju (bK 1) Ae))) (NB:=["one","other","house"]) (src:=[none,none,some 2]) (bJ (by kernel_rfl)) rfl (bP (pv 1)) ?g ?t ?e;case g=>exact fun cl C s₃ H₃ fp=>fu (n:=2) rfl (ba (aw (i:=0) R_ rfl aU bL) (ba (aw (i:=1) R_ rfl aU bL) dE))
   case t=>exact fun cl C s₃ H₃ fp=>eG (aK eN (pv 0) (pv 2) (aR _))
   case e=>exact fun cl C s₃ H₃ fp=>pv 0
  case c2=>
   refine' bV (g:=Af K 2 (ju (bK 0) (ju (bK 1) Ae))) (NB:=["one","other","house"]) (src:=[none,none,some 2]) (bJ (by kernel_rfl)) rfl (bP (pv 1)) ?g ?t ?e;case g=>exact fun cl C s₃ H₃ fp=>fu (n:=2) rfl (ba (aw (i:=0) R_ rfl aU bL) (ba (aw (i:=1) R_ rfl aU bL) dE))
   case t=>exact fun cl C s₃ H₃ fp=>eG (aK eN (pv 1) (pv 2) (aR _))
   case e=>exact fun cl C s₃ H₃ fp=>pv 1
  refine⟨_,rfl,n,rfl,by lia,by lia,dg (n:=n) (lo:=0) (fun i σ H2=>aA H H2/\∃a b c,σ=[some (.int n),some (.ref l),a,b,c]) ⟨aA.refl _,none,none,none,rfl⟩ ?_ ?_⟩
  .rintro i σ H2 hi ⟨sm,a,b,c,rfl⟩;have T2:=T.same sm;refine⟨_,rfl,l,rfl,⟨_,aV.of T2.at_⟩,fun D hD=>pO (fun σ=>∃a b,σ=[a,b,some (.int (0+(i:Int)))]) (·.1) (·.1) (0+(i:Int)) hD T2.at_ T2.po (by lia) ⟨_,_,rfl⟩ ?_ ?_⟩
   .rintro z σ H3 Kt Kf hj ⟨x,y,rfl⟩ ha kt kf;refine⟨z.1,_,rfl,bt.of ha,rfl,_,_,rfl,_,_,rfl,rfl,?_⟩;refine⟨_,rfl,_,rfl,rfl,_,rfl,?_⟩;refine eI (fun e=>?_) (fun e=>?_)
    .exact⟨_,rfl,kt _ ⟨_,_,rfl⟩ (by simpa using e)⟩
    .exact kf _ ⟨_,_,rfl⟩ (by simpa using e)
   .refine⟨D,_,rfl,.inl (aV.of af),?_⟩;have Em:=bD (o:=.lst (IV (((zp zs).filter fun y=>decide (y.1=0+(i:Int))).map (·.1)))) (sm.trans (aA.refl _)) (H:=H) (by cases z:H D with|none=>rfl|some o=>rw[sm _ _ z] at hD;cases hD);have T3:=T.same Em;refine⟨_,rfl,l,rfl,⟨_,aV.of T3.at_⟩,fun D' hD'=>pO (fun σ=>∃a b,σ=[a,b,some (.int (0+(i:Int)))]) (·.2) (·.2) (0+(i:Int)) hD' T3.at_ T3.po (by lia) ⟨_,_,rfl⟩ ?_ ?_⟩
    .rintro z σ H3 Kt Kf hj ⟨x,y,rfl⟩ ha kt kf;refine⟨z.1,_,rfl,bt.of ha,rfl,_,_,rfl,_,_,rfl,rfl,?_⟩;refine⟨_,rfl,_,rfl,rfl,_,rfl,?_⟩;refine eI (fun e=>?_) (fun e=>?_)
     .exact⟨_,rfl,kt _ ⟨_,_,rfl⟩ (by simpa using e)⟩
     .exact kf _ ⟨_,_,rfl⟩ (by simpa using e)
    .refine⟨D',_,rfl,.inl (aV.of af),?_⟩;rw[eK] at *;have q1:(IV (((zp zs).filter fun y=>decide (y.1=(i:Int))).map (·.1))).length=(IV (((zp zs).filter fun y=>decide (y.2=(i:Int))).map (·.2))).length:=by
      rw[aP,aP,aP,aP];exact fi.Eb i
     have q2:(IV (((zp zs).filter fun y=>decide (y.1=(i:Int))).map (·.1))).length<=8:=by
      rw[aP,aP];exact fi.most i
     refine⟨_,rfl,_,rfl,rfl,_,rfl,?_⟩;rw[<-q1];rw[show (!decide (V.int (((IV (((zp zs).filter fun y=>decide (y.1=(i:Int))).map (·.1))).length:Nat):Int)=V.int (((IV (((zp zs).filter fun y=>decide (y.1=(i:Int))).map (·.1))).length:Nat):Int)))=false by simp];refine cG ?_;refine⟨_,rfl,_,_,rfl,rfl,_,rfl,?_⟩;rw[show decide ((((IV (((zp zs).filter fun y=>decide (y.1=(i:Int))).map (·.1))).length:Nat):Int) > 8)=false by rw[rd];lia];exact cG ⟨Em.trans (aj hD'),_,_,_,rfl⟩
  .rintro σ H2 ⟨sm,a,b,c,rfl⟩;exact k H2 sm
end
def KZ:Expr:=match (b_ yu).getD 1 (.Pass ⟨0,0,0,0⟩) with
 |.Return (some (.Call _ _ (k::_) _)) _=>k.value
 |_=>.Name "x" ⟨0,0,0,0⟩
def K0:Arguments:=match KZ with
 |.Lambda a _ _ _=>a
 |_=>{ posonlyargs:=[],args:=[],vararg:=none,kwonlyargs:=[],kw_defaults:=[],kwarg:=none,defaults:=[] }
def K1:Expr:=match KZ with
 |.Lambda _ b _ _=>b
 |e=>e
def UF:Scope:=match KZ with
 |.Lambda _ _ s _=>s
 |_=>{ kind:=.function,names:=[],isGenerator:=false,isCoroutine:=false }
def Py:Pos:=match KZ with
 |.Lambda _ _ _ p=>p
 |_=>⟨0,0,0,0⟩
def Nt:Str:=("houses_out":Str)++".<locals>."++"<lambda>"
abbrev pP(Pt:Addr)(H:Hp):Prop:=Gr Py Nt Pt H
def yv(Pt:Addr)(H H':Hp):Prop:=∀b o,H b=some o->b≠Pt->H' b=some o
theorem yv.of(a:aA H H'):yv Pt H H':=fun c o h _=>a c o h
theorem pP.not(t:pP Pt H)(h:H b=some o)(n:∀ps,o≠.qu ps):b≠Pt:=by
 rintro rfl;rcases t with z|⟨c,z,_⟩ <;> · rw[h] at z;exact n _ (bX z)
theorem pP.same(t:pP Pt H)(e:aA H H'):pP Pt H':=by
 rcases t with z|⟨c,z,y⟩
 .exact .inl (e _ _ z)
 .exact .inr ⟨c,e _ _ z,e _ _ y⟩
theorem K2{n a b h:Int}(hn:0<n)(a0:0<=a)(a1:a<n)(b0:0<=b)(b1:b<n)(e:(a-h) % n=(b-h) % n):a=b:=by
 have h1:=Int.emod_emod_of_dvd (a-h) (Int.dvd_refl n);have q:(a-b) % n=0:=by
  have:a-b=(a-h)-(b-h):=by lia
  rw[this,Int.sub_emod,e,Int.sub_self,Int.zero_emod]
 obtain⟨c,hc⟩:=Int.dvd_of_emod_eq_zero q;have c0:c=0:=by
  rcases Int.lt_trichotomy c 0 with z|z|z
  .have:n*c<=n*(-1):=Fe (by lia) (by lia);lia
  .exact z
  .have:n*1<=n*c:=Fe (by lia) (by lia);lia
 rw[c0] at hc;lia
theorem ue{ts:Ts}{h:Int}(nd:ts.Nodup):((ts.filter fun y=>decide (y.1=h)).map (·.2)).Nodup:=by
 refine L2.pF (nd.filter _) fun x hx y hy e=>?_;have a:=(cS.mp hx).2;have b:=(cS.mp hy).2;simp at a b;exact fQ (a.trans b.symm) e
theorem Eo{n:Nat}{ts:Ts}{h:Nat}(F:cA n ts)(hh:h<n){out:List Int}(ko:O4 (h:Int) (n:Int) ((ts.filter fun y=>decide (y.1=(h:Int))).map (·.2)) out):out.map V.int=NV (bj n ts h):=by
 obtain⟨ps,hp,rfl,hs⟩:=ko;have DT:(ps.map (·.2)).Perm ((ts.filter fun y=>decide (y.1=(h:Int))).map (·.2)):=by
  have:=hp.map (·.2);rw[cy] at this;refine this.trans (rJ ?_);conv=>rhs;rw[<-mi ((ts.filter fun y=>decide (y.1=(h:Int))).map (·.2))]
  rfl
 have mem:∀z,z∈ps.map (·.2)↔((h:Int),z)∈ts:=fun z=>by
  rw[DT.mem_iff,bn];constructor
  .rintro⟨y,hy,rfl⟩;obtain⟨y1,y2⟩:=cS.mp hy;have:y.1=(h:Int):=by simpa using y2
   rw[<-this];exact y1
  .intro hz;exact⟨_,cS.mpr ⟨hz,by simp⟩,rfl⟩
 have nd:(ps.map (·.2)).Nodup:=DT.nodup_iff.mpr (ue F.nd);have key:∀q∈ps,q.1=(q.2-(h:Int)) % (n:Int):=fun q hq=>by
  obtain⟨z,_,e⟩:=bn.mp (hp.mem_iff.mp hq);rw[<-e]
 have hn:(0:Int)<n:=by have:=F.n1;lia
 have sorted:(ps.map (·.2)).Pairwise fun x y=>(x-(h:Int)) % (n:Int)<(y-(h:Int)) % (n:Int):=by
  refine jt.mpr ?_;have Zu:=jt.mp nd;refine(hs.and Zu).imp_of_mem fun {x y} hx hy KD=>?_;have l1:=KD.1;rw[key x hx,key y hy] at l1;have ax:=F.rg _ ((mem x.2).mp (bn.mpr ⟨x,hx,rfl⟩));have ay:=F.rg _ ((mem y.2).mp (bn.mpr ⟨y,hy,rfl⟩));have ne:(x.2-(h:Int)) % (n:Int)≠(y.2-(h:Int)) % (n:Int):=fun z=>KD.2 (K2 hn ax.2.1 ax.2.2 ay.2.1 ay.2.2 z);lia
 have e:ps.map (·.2)=(bj n ts h).map fun (o:Nat)=>(o:Int):=by
  refine qj (k:=fun z=>(z-(h:Int)) % (n:Int)) sorted ?_ fun z=>?_
  .refine jt.mpr ?_;exact qi hh
  .rw[mem,bn];constructor
   .intro hz;have r:=F.rg _ hz;refine⟨z.toNat,(fK F hh).mpr ?_,by lia⟩;show (((h:Nat):Int),((z.toNat:Nat):Int))∈ts;rw[show ((z.toNat:Nat):Int)=z by lia];exact hz
   .rintro⟨o,ho,rfl⟩;exact(fK F hh).mp ho
 rw[e,cy];rfl
section
variable {P:Program} {w:World} {K:PySem.W.Frag} {mg:Str->Option Value} {base:Heap}
theorem Hj:aT ["many","ties","house","others"] ["many","ties","house"] (av yu):=cV (by decide +kernel)
def wF(Pt:Addr):Sp:=fun vs H Q _=>∃ (n:Nat) (l:Addr) (h:Nat) (zs:Zs),vs=[.int n,.ref l,.int h]/\h<n/\ip H l n zs/\pP Pt H/\
 ∀ (r:Addr) (H':Hp),pP Pt H'->yv Pt H H'->H r=none->H' r=some (.lst (NV (bj n (zp zs) h)))->Q (.ref r) H'
theorem K3(F:AQ K "houses_out" "houses_out" yu f fd c)(B:Bl mg)(kb:K.In base)(hb:wf mg base)(hc:PySem.W.codeHdIn K c Pt=true):
  bU P w K mg base bv 1 f fd ["many","ties","house"] (wF Pt):=by
 refine F.ok Hj (fun vs H Q E h=>?_) (fun A outer s H vs Q E hr h=>?_)
 .obtain⟨n,l,h,zs,rfl,_⟩:=h;rfl
 .obtain⟨n,l,h,zs,rfl,hh,T,tb,k⟩:=h;have fi:=T.lN;have n1:=fi.n1;have dz:zs.length<=256:=by have:=fi.len;rw[bT] at this;exact this
  have LS:TZ (qw bv P w K mg base ["many","ties","house","others"] "houses_out" (av yu) f (.ref c) A outer s H E).M6 Nt K0 K1 UF "other" "house" "many" 2 0:=
   ⟨⟨_,_,_,_,_,rfl⟩,fun _ _ _ _ _=>rfl,rfl,rfl,rfl,rfl,rfl,rfl,rfl,by decide +kernel,by decide +kernel,by decide +kernel,rfl,rfl,rfl,by decide,⟨by decide,by decide⟩,⟨by decide,by decide⟩⟩
  refine'⟨_,ai (dt (i:=3) (g:=Af K 2 (ju (bK 0) (ju (bK 1) Ae))) (NB:=["one","other","house"]) (src:=[none,none,some 2]) (bJ (by kernel_rfl)) rfl (bP (pv 1)) ?g ?t ?e Hj.nd rfl rfl rfl)
   (ak (aM (DS (AO LS hr) rfl B.sorted zk (aa (pv 3) ae) (J1 (O2 (NB:=["other","house","many"]) (src:=[none,some 2,some 0]) (Kr kb hb hc) (bJ (by kernel_rfl))) OC)))),?_⟩
  case g=>exact fun cl C s₃ H₃ fp=>fu (n:=2) rfl (ba (aw (i:=0) R_ rfl aU bL) (ba (aw (i:=1) R_ rfl aU bL) dE))
  case t=>exact fun cl C s₃ H₃ fp=>eG (aK eN (pv 0) (pv 2) (aR _))
  case e=>exact fun cl C s₃ H₃ fp=>pv 1
  refine⟨_,rfl,l,rfl,⟨_,aV.of T.at_⟩,fun D hD=>pO (fun σ=>∃a b,σ=[a,b,some (.int (h:Int))]) (·.1) (·.2) (h:Int) hD T.at_ T.po (by lia) ⟨_,_,rfl⟩ ?_ ?_⟩
  .rintro z σ H3 Kt Kf hj ⟨x,y,rfl⟩ ha kt kf;refine⟨z.1,_,rfl,bt.of ha,rfl,_,_,rfl,_,_,rfl,rfl,?_⟩;refine⟨_,rfl,_,rfl,rfl,_,rfl,?_⟩;refine eI (fun e=>?_) (fun e=>?_)
   .exact⟨_,rfl,kt _ ⟨_,_,rfl⟩ (by simpa using e)⟩
   .exact kf _ ⟨_,_,rfl⟩ (by simpa using e)
  .generalize B_:((zp zs).filter fun y=>decide (y.1=(h:Int))).map (·.2)=os;have Jy:os.length<=8:=by rw[<-B_,aP];exact fi.most h
   have sm:aA H (upd H D (.lst (IV os))):=aj hD;refine⟨_,rfl,tb.same sm,fun f' c' H2 Zx xr ut Kj=>?_⟩;have t2:pP Pt H2:=Zx;have iq:H2 D=some (.lst (IV os)):=xr _ _ af ((tb.same sm).not af nofun);refine⟨D,f',c',os,h,n,rfl,rfl,aV.of iq,(by lia),Kj,ut,rfl,rfl,by lia,fun r out EZ ko=>?_⟩;rw[<-B_] at ko;rw[Eo fi hh ko];have Em:aA H2 (upd H2 r (.lst (NV (bj n (zp zs) h)))):=aj EZ;refine k r _ (t2.same Em) (fun b o e hb=>Em _ _ (xr b o (sm _ _ e) hb)) ?_ af;cases z:H r with
   |none=>rfl
   |some o=>
    by_cases hP:r=Pt
    .rcases t2 with q|⟨_,q,_⟩ <;> · rw[<-hP,EZ] at q;cases q
    .rw[xr r o (sm _ _ z) hP] at EZ;cases EZ
end
abbrev Hk:Stmt:=iK 25
abbrev Bb:Stmt:=iK 26
def lP(n:Nat)(R:List Nat)(f:Nat->Nat):List V:=(List.range n).map fun x=>if x∈R then V.int ((f x:Nat):Int) else .bz
theorem k_:(lP n R f).length=n:=by unfold lP;rw[aP,cE]
theorem lc(h:x<n):(lP n R f)[x]?=some (if x∈R then V.int ((f x:Nat):Int) else .bz):=by
 unfold lP;rw[bN,fw h];rfl
theorem Bc(hs:s<n):(List.replicate n V.bz).set s (V.int 0)=lP n [s] (fun _=>0):=by
 apply i7;intro x;by_cases hx:x<n
 .rw[lc hx];by_cases e:x=s
  .subst e;rw[rh (by rw[kr];exact hx),aD (by simp)];rfl
  .rw[rm (fun z=>e z.symm),lZ,aD hx,au (by simp[e])]
 .rw[cj (by rw[j5,kr];lia),cj (by rw[k_];lia)]
theorem Hl(hv:v<n):(lP n R f).set v (V.int ((k:Nat):Int))=lP n (R++[v]) (put f v k):=by
 apply i7;intro x;by_cases hx:x<n
 .rw[lc hx];by_cases e:x=v
  .subst e;rw[rh (by rw[k_];exact hx),aD (by simp),i0]
  .rw[rm (fun z=>e z.symm),lc hx,fV e];by_cases h:x∈R
   .rw[aD h,aD (iz _ h)]
   .rw[au h,au (fun z=>(bY.mp z).elim h fun z=>e (by simpa using z))]
 .rw[cj (by rw[j5,k_];lia),cj (by rw[k_];lia)]
def UG(σ:St):Nat:=match σ[4]? with
 |some (some (V.int z))=>z.toNat
 |_=>0
theorem nbO:(["others"]:List Str).Nodup:=by decide +kernel
def tj(H:Hp)(ol:Addr)(n:Nat)(ts:Ts):Prop:=∃bs:List Addr,H ol=some (.lst (bs.map V.ref))/\Holds H bs n (fun h=>.lst (NV (bj n ts h)))
theorem tj.same(x:tj H ol n ts)(e:aA H H'):tj H' ol n ts:=let ⟨bs,a,b⟩:=x;⟨bs,e _ _ a,b.mono fun _ _ z=>e _ _ z⟩
theorem Nu{as:List Addr}{i:Nat}{x:V}(h:(as.map V.ref)[i]?=some x):i<as.length/\x=.ref (as.getD i 0):=by
 rw[bN] at h;cases e:as[i]? with
 |none=>rw[e] at h;cases h
 |some a=>
  rw[e] at h;refine⟨(cY.mp e).1,?_⟩;rw[aS,e];exact(bX h).symm
section
variable {P:Program} {w:World} {K:PySem.W.Frag} {mg:Str->Option Value} {base:Heap}
theorem mJ:aT ["out_lists","start","distances","reached","at","house","other"] ["out_lists","start"] (av Hk):=cV (by decide +kernel)
def wG:Sp:=fun vs H Q _=>∃ (ol:Addr) (n s:Nat) (ts:Ts),vs=[.ref ol,.int s]/\cA n ts/\s<n/\tj H ol n ts/\
 ∀ (r:Addr) (H':Hp),aA H H'->H r=none->H' r=some (.lst (NV ((List.range n).map (far ts s))))->Q (.ref r) H'
theorem K4{f:Addr}{fd:FuncData}(F:gv K "distances_from" "distances_from" Hk f fd)(B:Bl mg):bU P w K mg base bv 1 f fd ["out_lists","start"] wG:=by
 refine F.ok mJ (fun vs H Q E h=>?_) (fun dY A outer s H vs Q E hr h=>?_)
 .obtain⟨ol,n,s,ts,rfl,_⟩:=h;rfl
 .obtain⟨ol,n,st,ts,rfl,fi,hs,O,k⟩:=h;have n1:=fi.n1;have n2:=fi.n2;refine'⟨_,ai (dt (i:=2) (g:=bK 0) (NB:=["others"]) (src:=[none]) (bJ (by kernel_rfl)) rfl (bP (pv 0)) ?g ?t ?e mJ.nd rfl rfl rfl)
   (ai (dW aq (iT (pv 2) (pv 1) eS))
   (ai (aN (i:=3) mJ.nd rfl aU (cm (aa (pv 1) ae)))
   (ai (aN (i:=4) mJ.nd rfl aU aq)
   (ai (xD dO (aK iV (pv 4) (aI aF (by rfl) B.len cp (aa (pv 3) ae)) (aR _))
    (ai (aN (i:=5) mJ.nd rfl aU (aG aH (pv 3) (pv 4) (fun _ _=>rfl)))
    (ai (cP dO rfl (bP (aG aH (pv 0) (pv 5) (fun _ _=>rfl))) (aw (i:=6) mJ.nd rfl aU)
     (ak (bA (aK rZ (aG aH (pv 2) (pv 6) (fun _ _=>rfl)) cN (aR _))
      (ai (dW (bu dP (aG aH (pv 2) (pv 5) (fun _ _=>rfl)) aq) (iT (pv 2) (pv 6) eS))
      (ak (cU (hX g9 m6 mZ eA (pv 3) (aa (pv 6) ae))))) aQ)))
    (ak (Op (i:=4) mJ.nd rfl aU aq Oq)))))
   (ak (aM (pv 2))))))),?_⟩
  case g=>exact fun cl C s₃ H₃ fp=>aw (i:=0) nbO rfl aU bL
  case t=>exact fun cl C s₃ H₃ fp=>ce
  case e=>exact fun cl C s₃ H₃ fp=>cN
  obtain⟨bs,Jy,UH,Na⟩:=id O;refine⟨_,rfl,ol,rfl,⟨_,aV.of Jy⟩,fun D hD=>?_⟩;have nol:ol≠D:=ap Jy hD;refine dh (xs:=bs.map V.ref) (fun i ys σ H2=>(∃a,σ=[a])/\ys=List.replicate i V.bz/\H2=upd H D (.lst ys)) ⟨⟨_,rfl⟩,rfl,rfl⟩ (fun i ys σ H2 _ ⟨_,_,e⟩=>by rw[e];exact aV.of (by rw[ao nol];exact Jy)) ?_ ?_
  .rintro i x ys σ H2 Kt Kf hx ⟨⟨a,rfl⟩,rfl,rfl⟩ kt kf;have hi:=(Nu hx).1;refine kt _ _ _ af ?_ ⟨⟨_,rfl⟩,?_,by rw[lz]⟩
   .rw[kr];exact cQ hi (by rw[UH];exact aY n2 (by decide))
   .rw[List.replicate_succ']
  .rintro ys σ H2 ⟨_,rfl,rfl⟩;rw[aP,UH];refine⟨_,rfl,_,rfl,D,_,st,st,rfl,rfl,af,by rw[kr];exact eH hs,?_⟩;rw[lz,Bc hs];refine⟨_,rfl,by show 1<=sizeLine;decide,fun R hR=>?_⟩;have E4:D≠R:=ap (H:=upd H D (.lst (lP n [st] (fun _=>0)))) af hR;have K5:H R=none:=by rw[ao E4.symm] at hR;exact hR
   refine xF (fun σ H2=>∃ (i:Nat) (Rs:List Nat) (f:Nat->Nat),i<=Rs.length/\y7 n ts st i Rs f/\(∃a b,σ=[some (.ref ol),some (.int st),some (.ref D),some (.ref R),some (.int (i:Int)),a,b])/\aA H H2/\H2 D=some (.lst (lP n Rs f))/\H2 R=some (.lst (NV Rs)))
    (fun σ _=>n-UG σ) ⟨0,[st],fun _=>0,de _,y7.start hs,⟨none,none,rfl⟩,bD (aj hD) K5,?_,af⟩ ?_ ?_
   .rw[ao E4,af]
   .rintro σ H2 ⟨i,Rs,f,hi,Bf,⟨a,b,rfl⟩,sm,iq,Pz⟩;have hRn:Rs.length<=n:=fc Bf.nd Bf.lt;refine⟨_,rfl,_,rfl,R,_,rfl,.inl (aV.of Pz),_,_,rfl,rfl,_,rfl,?_⟩;rw[aO];by_cases qh:i<Rs.length
    .rw[show decide ((i:Int)<((Rs.length:Nat):Int))=true by simp;lia];refine fU ?_;have hu:Rs[i]?=some Rs[i]:=bq qh;generalize Rs[i]=u at hu;have yw:u<n:=Bf.lt u (cZ hu);have Zy:(NV Rs)[i]?=some (.int (u:Int)):=by rw[bN,hu];rfl
     refine⟨_,rfl,_,rfl,R,_,_,_,rfl,rfl,aV.of Pz,am Zy,?_⟩;have PB:(bs.map V.ref)[u]?=some (.ref (bs.getD u 0)):=by
      rw[bN,aS,bq (by rw[UH];exact yw)];rfl
     have PD:=sm _ _ (Na _ yw);refine⟨_,rfl,_,rfl,ol,_,_,_,rfl,rfl,aV.of (sm _ _ Jy),am PB,_,rfl,⟨_,aV.of PD⟩,?_⟩;have nbD:bs.getD u 0≠D:=ap (Na _ yw) hD;have nbR:bs.getD u 0≠R:=ap (Na _ yw) K5;refine hW (K:=K) (xs:=NV (bj n ts u)) (fun j σ H3=>∃ (iE:List Nat) (f':Nat->Nat),y7 n ts st i iE f'/\iE[i]?=some u/\(∀v∈(bj n ts u).take j,v∈iE/\f' v<=f' u+1)/\
      (∃b,σ=[some (.ref ol),some (.int st),some (.ref D),some (.ref R),some (.int (i:Int)),some (.int (u:Int)),b])/\aA H H3/\H3 D=some (.lst (lP n iE f'))/\H3 R=some (.lst (NV iE)))
      ⟨Rs,f,Bf,hu,fun v hv=>by simp at hv,⟨_,rfl⟩,sm,iq,Pz⟩ (fun j σ H3 _ ⟨_,_,_,_,_,_,Ep,_⟩=>aV.of (Ep _ _ (Na _ yw))) ?_ ?_
     .rintro j x σ H3 hx ⟨iE,f',wH,ua,dn,⟨b',rfl⟩,Ep,pQ,AT⟩;rw[bN] at hx;cases hv:(bj n ts u)[j]? with
      |none=>rw[hv] at hx;cases hx
      |some v=>
       rw[hv] at hx;obtain rfl:V.int ((v:Nat):Int)=x:=bX hx;have PF:v∈bj n ts u:=cZ hv;have Hm:v<n:=dL fi yw PF;have Zz:T ts u v:=(fK fi yw).mp PF;have tk:(bj n ts u).take (j+1)=(bj n ts u).take j++[v]:=by rw[fZ,hv];rfl
       have Es:u∈iE:=cZ ua;refine⟨_,rfl,_,rfl,D,_,_,_,rfl,rfl,aV.of pQ,am (lc Hm),rfl,_,rfl,?_⟩;by_cases yx:v∈iE
       .rw[aD yx];refine cG ⟨iE,f',wH,ua,fun x hx=>?_,⟨_,rfl⟩,Ep,pQ,AT⟩;rw[tk] at hx;rcases bY.mp hx with z|z
        .exact dn x z
        .simp at z;subst z;exact⟨yx,wH.bd u ua _ yx⟩
       .rw[au yx];refine fU ?_;have ZA:(lP n iE f')[u]?=some (.int ((f' u:Nat):Int)):=by rw[lc yw,aD Es]
        refine⟨_,rfl,_,rfl,D,_,_,_,rfl,rfl,aV.of pQ,am ZA,_,_,rfl,rfl,_,rfl,_,rfl,D,_,_,_,rfl,rfl,pQ,by rw[k_];exact eH Hm,?_⟩;have e1:(lP n iE f').set v (.int (((f' u:Nat):Int)+1))=lP n (iE++[v]) (put f' v (f' u+1)):=by
         rw[show ((f' u:Nat):Int)+1=((f' u+1:Nat):Int) by lia,Hl Hm]
        rw[e1];have qR:(upd H3 D (.lst (lP n (iE++[v]) (put f' v (f' u+1))))) R=some (.lst (NV iE)):=by rw[ao E4.symm];exact AT
        have Hn:iE.length<=n:=fc wH.nd wH.lt;refine⟨_,rfl,.inl ⟨rfl,_,aV.of qR⟩,_,rfl,R,_,_,rfl,rfl,qR,by rw[aO];exact cQ (show iE.length<33 by lia) (by decide),?_⟩;have ub:i<iE.length:=(cY.mp ua).1;have ZB:u≠v:=fun z=>yx (z ▸ Es);refine⟨iE++[v],put f' v (f' u+1),wH.add ua Hm Zz yx,by rw[i6 ub];exact ua,fun x hx=>?_,⟨_,rfl⟩,bD (bD Ep hD) K5,?_,?_⟩
        .rw[fV ZB];rw[tk] at hx;rcases bY.mp hx with z|z
         .obtain⟨q1,q2⟩:=dn x z;exact⟨iz _ q1,by rw[fV (fun (z:x=v)=>yx (z ▸ q1))];exact q2⟩
         .simp at z;subst z;exact⟨by simp,by rw[i0];exact aW _⟩
        .rw[ao E4,af]
        .rw[af];show _=some (HO.lst (NV (iE++[v])));rw[show NV (iE++[v])=NV iE++[.int (v:Int)] by unfold NV;rw[cK];rfl]
     .rintro σ H3 ⟨iE,f',wH,ua,dn,⟨b',rfl⟩,Ep,pQ,AT⟩;rw[aO,iA] at dn;have ub:i<iE.length:=(cY.mp ua).1;have Hn:iE.length<=n:=fc wH.nd wH.lt;refine⟨_,rfl,_,_,rfl,rfl,⟨⟨i+1,iE,f',ub,wH.next ua (fun v t=>dn v ((fK fi yw).mpr t)),⟨_,_,rfl⟩,Ep,pQ,AT⟩,?_⟩⟩;show n-((i:Int)+1).toNat<n-(i:Int).toNat;lia
    .rw[show decide ((i:Int)<((Rs.length:Nat):Int))=false by rw[rd];lia];have e:lP n Rs f=NV ((List.range n).map (far ts st)):=by
      unfold lP NV;rw[cy];refine js fun x hx=>?_;obtain⟨q1,q2⟩:=Bf.done fi (by lia) (bH.mp hx);rw[aD q1,q2];rfl
     rw[e] at iq;refine cG ⟨_,rfl,k D H2 sm hD iq⟩
   .rintro σ H2 Q1 Q2 imp ⟨v,e1,v2,e2,p,ys,e3,e4,i1,i2,e5,e6,kk,e7,q⟩;exact⟨v,e1,v2,e2,p,ys,e3,e4,i1,i2,e5,e6,kk,e7,imp _ _ q⟩
end
theorem UI:(["row"]:List Str).Nodup:=by decide +kernel
section
variable {P:Program} {w:World} {K:PySem.W.Frag} {mg:Str->Option Value} {base:Heap}
theorem K6:aT ["distances"] ["distances"] (av Bb):=cV (by decide +kernel)
def wI:Sp:=fun vs H Q _=>∃ (l:Addr) (ds:List Addr) (n:Nat) (o:Nat->List V),vs=[.ref l]/\H l=some (.lst (ds.map V.ref))/\n<=32/\Holds H ds n (fun j=>.lst (o j))/\(∀j,j<n->∀x∈o j,∃i,x=.int i)/\∀H',aA H H'->Q .bz H'
theorem Hq(F:gv K "check_reached" "check_reached" Bb f fd)(B:Bl mg):bU P w K mg base bv 1 f fd ["distances"] wI:=by
 refine F.ok K6 (fun vs H Q E h=>?_) (fun dY A outer s H vs Q E hr h=>?_)
 .obtain⟨l,ds,n,o,rfl,_⟩:=h;rfl
 .obtain⟨l,ds,n,o,rfl,hl,n2,hh,hx,k⟩:=h;refine'⟨_,ak (bA (dq (aI (uM rfl) (by rfl) B.any PyProof.Rows.boot_any (aa ?c ae))) f8 aQ),?_⟩;case c=>
   refine' bV (g:=bK 0) (te:=gw (RN K false) (tC .bz) (aX 0)) (NB:=["row"]) (src:=[none]) (bJ (by kernel_rfl)) rfl (bP (pv 0)) ?g ?t ?e;case g=>exact fun cl C s₃ H₃ fp=>aw (i:=0) UI rfl aU bL
   case t=>exact fun cl C s₃ H₃ fp=>ce
   case e=>exact fun cl C s₃ H₃ fp=>gh uD cN (pv 0) rfl
  refine⟨_,rfl,l,rfl,⟨_,aV.of hl⟩,fun D hD=>?_⟩;have nl:l≠D:=ap hl hD;refine dh (xs:=ds.map V.ref) (fun i ys σ H2=>(∃a,σ=[a])/\ys=(List.replicate i false).map V.bl/\H2=upd H D (.lst ys)) ⟨⟨_,rfl⟩,rfl,rfl⟩ (fun i ys σ H2 _ ⟨_,_,e⟩=>by rw[e];exact aV.of (by rw[ao nl];exact hl)) ?_ ?_
  .rintro i x ys σ H2 Kt Kf hxi ⟨⟨a,rfl⟩,rfl,rfl⟩ kt kf;obtain⟨hi,rfl⟩:=Nu hxi;rw[hh.1] at hi;have hd:=hh.2 i hi;have nd:ds.getD i 0≠D:=ap hd hD;have q1:(o i).all cT=true:=hG.mpr fun x Ag=>by obtain⟨z,rfl⟩:=hx i hi x Ag;rfl
   have q2:qN .bz (o i)=false:=by
    unfold qN;rw[zR];intro x Ag;obtain⟨z,rfl⟩:=hx i hi x Ag;exact fun z=>by cases z
   refine⟨_,rfl,_,_,rfl,.inl (aV.of (by rw[ao nd];exact hd)),rfl,q1,?_⟩;refine kt _ _ _ af ?_ ⟨⟨_,rfl⟩,?_,by rw[lz]⟩
   .rw[aP,kr];exact cQ hi (aY n2 (by decide))
   .rw[List.replicate_succ',cK,q2];rfl
  .rintro ys σ H2 ⟨_,rfl,rfl⟩;refine⟨D,_,rfl,aV.of af,_,rfl,?_⟩;have e:(List.replicate (ds.map V.ref).length false).any id=false:=by
    rw[zR];intro x Ag;rw[(List.mem_replicate.mp Ag).2];decide
   rw[e];exact cG (k _ (aj hD))
end
theorem nb2:(["one","other"]:List Str).Nodup:=by decide +kernel
theorem UJ:(["house","many","ties"]:List Str).Nodup:=by decide +kernel
theorem ZC:(["house","self"]:List Str).Nodup:=by decide +kernel
def n5(p Pt:Addr)(H H':Hp):Prop:=∀b o,H b=some o->b≠p->b≠Pt->H' b=some o
theorem ip.mono(h:ip H l n zs)(e:n5 p Pt H H')(hp:H p=some (.ins C dx fs))(tb:pP Pt H):ip H' l n zs:=
 ⟨h.lN,e _ _ h.at_ (gG h.at_ hp (by intro z;cases z)) (tb.not h.at_ nofun),fun z hz=>e _ _ (h.po z hz) (gG (h.po z hz) hp (by intro z;cases z)) (tb.not (h.po z hz) nofun)⟩
theorem pP.mono(t:pP Pt H)(e:∀b o,H b=some o->b≠p->H' b=some o)(hp:H p=some (.ins C dx fs)):pP Pt H':=by
 rcases t with z|⟨c,z,y⟩
 .exact .inl (e _ _ z (gG z hp (by intro q;cases q)))
 .exact .inr ⟨c,e _ _ z (gG z hp (by intro q;cases q)),e _ _ y (gG y hp (by intro q;cases q))⟩
theorem pP.full(t:pP Pt H):H Pt≠none:=by
 rcases t with z|⟨c,z,y⟩ <;> rw[z] <;> intro q <;> cases q
theorem n5.free(s:n5 p Pt H H')(hp:H' p≠none)(tb:pP Pt H')(h:H' r=none):H r=none:=by
 cases z:H r with
 |none=>rfl
 |some o=>
  by_cases e1:r=p
  .subst e1;exact absurd h hp
  .by_cases e2:r=Pt
   .subst e2;exact absurd h tb.full
   .rw[s r o z e1 e2] at h;cases h
theorem UK(h:k [] H):dQ σ H k:=h
theorem lH{H:Hp}{p:Addr}{o:HO}(h:H p=some o):H p≠none:=by rw[h];intro z;cases z
section
variable {P:Program} {w:World} {K:PySem.W.Frag} {mg:Str->Option Value} {base:Heap}
theorem PJ:aT ["self","many","ties"] ["self","many","ties"] (av CP):=cV (by decide +kernel)
def Bd(C Pt:Addr):Sp:=fun vs H Q E=>∃ (p dx:Addr) (n:Nat) (l:Addr) (zs:Zs),vs=[.ref p,.int n,.ref l]/\H p=some (.ins C dx [])/\ip H l n zs/\pP Pt H/\
  ∀H',dw C H' (fun a=>H a=none) p n (zp zs)->pP Pt H'->n5 p Pt H H'->Q .bz H'
theorem K7{f C Pt:Addr}{fd:FuncData}(F:gv K "__init__" "Net.__init__" CP f fd)(T:NT K mg C)(B:Bl mg)(CT:cu P w K mg base bv 6 "check_ties" ["many","ties"] lG)(CB:cu P w K mg base bv 1 "check_balance" ["many","ties"] lG)(HO':cu P w K mg base bv 1 "houses_out" ["many","ties","house"] (wF Pt))(DF:cu P w K mg base bv 1 "distances_from" ["out_lists","start"] wG)(CR:cu P w K mg base bv 1 "check_reached" ["distances"] wI):
  bU P w K mg base bv 7 f fd ["self","many","ties"] (Bd C Pt):=by
 refine F.ok PJ (fun vs H Q E h=>?_) (fun dY A outer s H vs Q E hr h=>?_)
 .obtain⟨p,dx,n,l,zs,rfl,_⟩:=h;rfl
 .have CY:cB 1 _:=hr.mono (by decide);refine'⟨_,ai (cU (az CT hr aL (aa (pv 1) (aa (pv 2) ae))))
   (ai (cU (az CB CY aL (aa (pv 1) (aa (pv 2) ae))))
   (ai (vX (pv 0) (pv 1) rfl)
   (ai (vX (pv 0) (aI AU (by rfl) B.sorted zk (aa ?c1 ae)) rfl)
   (ai (vX (pv 0) ?c2 rfl)
   (ai (vX (pv 0) ?c3 rfl)
   (ak (cU (az CR CY aL (aa (kW (pv 0) rfl) ae))))))))),?_⟩
  case c1=>
   refine' bV (g:=Af K 2 (ju (bK 0) (ju (bK 1) Ae))) (te:=kh (bi (aX 0) (bi (aX 1) dQ))) (NB:=["one","other"]) (src:=[none,none]) (bJ (by kernel_rfl)) rfl (bP (pv 2)) ?g ?t ?e;case g=>exact fun cl C s₃ H₃ fp=>fu (n:=2) rfl (ba (aw (i:=0) nb2 rfl aU bL) (ba (aw (i:=1) nb2 rfl aU bL) dE))
   case t=>exact fun cl C s₃ H₃ fp=>ce
   case e=>exact fun cl C s₃ H₃ fp=>br (aa (pv 0) (aa (pv 1) ae))
  case c2=>
   refine' bV (g:=bK 0) (te:=qb (wF Pt) [] E0 (bi (aX 1) (bi (aX 2) (bi (aX 0) dQ)))) (NB:=["house","many","ties"]) (src:=[none,some 1,some 2]) (bJ (by kernel_rfl)) rfl (bC rfl B.range (aa (pv 1) ae)) ?g ?t ?e;case g=>exact fun cl C s₃ H₃ fp=>aw (i:=0) UJ rfl aU bL
   case t=>exact fun cl C s₃ H₃ fp=>ce
   case e=>exact fun cl C s₃ H₃ fp=>az HO' CY aL (aa (pv 1) (aa (pv 2) (aa (pv 0) ae)))
  case c3=>
   refine' bV (g:=bK 0) (te:=qb wG [] E0 (bi (OA K (aX 1) "out_lists") (bi (aX 0) dQ))) (NB:=["house","self"]) (src:=[none,some 0]) (bJ (by kernel_rfl)) rfl (bC rfl B.range (aa (pv 1) ae)) ?g ?t ?e;case g=>exact fun cl C s₃ H₃ fp=>aw (i:=0) ZC rfl aU bL
   case t=>exact fun cl C s₃ H₃ fp=>ce
   case e=>exact fun cl C s₃ H₃ fp=>az DF CY aL (aa (kW (pv 1) rfl) (aa (pv 0) ae))
  obtain⟨p,dx,n,l,zs,rfl,hp,TT,tb,k⟩:=h;have fi:=TT.lN;have n1:=fi.n1;have n2:=fi.n2;have dz:zs.length<=256:=by have:=fi.len;rw[bT] at this;exact this
  refine⟨_,rfl,_,rfl,n,l,zs,rfl,TT,fun H1 s1=>?_⟩;refine⟨_,rfl,_,rfl,n,l,zs,rfl,TT.same s1,fun H2 s2=>?_⟩;have y9:aA H H2:=s1.trans s2;refine⟨_,rfl,_,rfl,p,C,dx,[],rfl,y9 _ _ hp,T.cl,T.nH,(by show 0<1000;decide),?_⟩
  let G1:Hp:=upd H2 p (.ins C dx (dX "house_count" (.int n) []))
  have d1:n5 p Pt H G1:=fun b o e h1 _=>by show upd _ _ _ _=_;rw[ao h1];exact y9 _ _ e
  have Xm:G1 p=some (.ins C dx (dX "house_count" (.int n) [])):=af;have ZD:ip G1 l n zs:=TT.mono d1 hp tb;have ZE:pP Pt G1:=tb.mono (fun b o e h1=>by show upd _ _ _ _=_;rw[ao h1];exact y9 _ _ e) hp;refine⟨_,rfl,l,rfl,⟨_,aV.of ZD.at_⟩,fun D hD=>?_⟩;refine yt (fun y=>y) (fun σ=>∃a b,σ=[a,b]) ZD.at_ ZD.po hD (by lia) ⟨_,_,rfl⟩ ?_ ?_
  .rintro z σ H3 R Kf hz ⟨a,b,rfl⟩ _ ha kk;refine⟨_,_,rfl,bt.of ha,rfl,_,_,rfl,_,_,rfl,rfl,?_⟩;exact⟨_,rfl,_,rfl,by show 2<=sizeLine;decide,fun t ht=>kk _ _ ⟨_,_,rfl⟩ ht⟩
  .intro kj H3 sm pQ ZF ez fr2;rw[List.map_id'] at ez;have OL:kj.length=zs.length:=by rw[<-bT,ez,bT]
   refine UK ?_;refine KR pQ ZF (by lia) (fun u hu=>by have:=(fi.rg u (ez ▸ hu)).2;lia) fun tl Sa ZG pm ord=>?_;have ZH:H tl=none:=d1.free (lH Xm) ZE (sm.free ZG);have Ou:∀z∈Sa,H z.1=none:=fun z hz=>d1.free (lH Xm) ZE (fr2 z (pm.mem_iff.mp hz));have ZI:H3 p=some (.ins C dx (dX "house_count" (.int n) [])):=sm _ _ Xm;have PL:p≠tl:=ap ZI ZG;refine⟨_,rfl,p,C,dx,_,rfl,by rw[ao PL];exact ZI,T.cl,T.nT,by show 1<1000;decide,?_⟩
   let G2:Hp:=upd (upd H3 tl (.lst (zr Sa))) p (.ins C dx (dX "tie_list" (.ref tl) (dX "house_count" (.int n) [])))
   have q2:∀b o,H3 b=some o->b≠p->G2 b=some o:=fun b o e h1=>by
    show upd _ _ _ _=_;rw[ao h1,ao (ap e ZG)];exact e
   have d2:n5 p Pt H G2:=fun b o e h1 h2=>q2 _ _ (sm _ _ (d1 _ _ e h1 h2)) h1;have g2t:G2 tl=some (.lst (zr Sa)):=by show upd _ _ _ _=_;rw[ao PL.symm,af]
   have ZJ:PO G2 Sa:=fun z hz=>q2 _ _ (ZF z (pm.mem_iff.mp hz)) (gG (ZF z (pm.mem_iff.mp hz)) ZI (by intro z;cases z));have PM:G2 p=some (.ins C dx (dX "tie_list" (.ref tl) (dX "house_count" (.int n) []))):=af;have TT2:ip G2 l n zs:=TT.mono d2 hp tb;have PN:pP Pt G2:=ZE.mono (fun b o e h1=>q2 _ _ (sm _ _ e) h1) Xm;refine⟨_,rfl,n,rfl,by lia,by lia,fun D2 iq=>?_⟩;refine eT (n:=n) (lo:=0) (fun i ys σ H4=>(∃a,σ=[a,some (.int n),some (.ref l)])/\∃bs:List Addr,ys=bs.map V.ref/\(∀b∈bs,H b=none)/\Holds H4 bs i (fun h=>.lst (NV (bj n (zp zs) h)))/\yv Pt G2 H4/\pP Pt H4/\H4 D2=some (.lst ys)/\∀b∈bs,b≠D2)
    ⟨⟨_,rfl⟩,[],rfl,(fun _ h=>nomatch h),Holds.nil,yv.of (aj iq),PN.same (aj iq),af,(fun _ h=>nomatch h)⟩ ?_ ?_
   .rintro i ys σ H4 Kt Kf hi ⟨⟨a,rfl⟩,bs,rfl,ZK,hb,tm,Sb,Be,ZL⟩ kt kf;have TT4:ip H4 l n zs:=TT2.mono (p:=p) (fun b o e _ h2=>tm _ _ e h2) PM PN;have Sc:=tm _ _ PM (PN.not PM nofun);refine⟨_,rfl,_,rfl,_,rfl,n,l,i,zs,by rw[eK];rfl,hi,TT4,Sb,fun r H5 t5 xp K8 Et=>?_⟩;have ZM:H r=none:=n5.free (fun b o e h1 h2=>tm _ _ (d2 _ _ e h1 h2) h2) (lH Sc) Sb K8;have Xn:H5 D2=some (.lst (bs.map V.ref)):=xp _ _ Be (Sb.not Be nofun);have UL:r≠D2:=by rintro rfl;rw[Be] at K8;cases K8
    have lW:∀b o xY,H5 b=some o->b≠D2->(upd H5 D2 xY) b=some o:=fun b o xY e h=>by rw[ao h];exact e
    refine kt _ _ _ Xn (by rw[aP,hb.1];exact cQ hi (aY n2 (by decide))) ⟨⟨_,rfl⟩,bs++[r],by rw[cK];rfl,?_,?_,?_,?_,af,?_⟩
    .intro b xt;rcases bY.mp xt with z|z
     .exact ZK b z
     .rw[cC.mp z];exact ZM
    .refine Holds.snoc (hb.mono fun j hj e=>?_) (lW _ _ _ Et UL);refine lW _ _ _ (xp _ _ e (Sb.not e nofun)) (ZL _ ?_);rw[aS,bq (by rw[hb.1];exact hj)];exact dv _
    .intro b o e h;exact lW _ _ _ (xp _ _ (tm _ _ e h) h) (ap e iq)
    .rcases t5 with z|⟨c,z,y⟩
     .exact .inl (lW _ _ _ z (gG z Xn (by intro q;cases q)))
     .exact .inr ⟨c,lW _ _ _ z (gG z Xn (by intro q;cases q)),lW _ _ _ y (gG y Xn (by intro q;cases q))⟩
    .intro b xt;rcases bY.mp xt with z|z
     .exact ZL b z
     .rw[cC.mp z];exact UL
   .rintro ys σ H4 ⟨_,bs,rfl,ZK,hb,tm,Sb,Be,ZL⟩;have Sc:H4 p=some (.ins C dx (dX "tie_list" (.ref tl) (dX "house_count" (.int n) []))):=tm _ _ PM (PN.not PM nofun);have ZN:H D2=none:=d2.free (lH PM) PN iq;refine⟨_,rfl,p,C,dx,_,rfl,Sc,T.cl,T.nO,by have h1:=eQ "tie_list" (V.ref tl) (dX "house_count" (V.int n) []);have h2:=eQ "house_count" (V.int n) [];simp at h2;lia,?_⟩
    let G3:Hp:=upd H4 p (.ins C dx (dX "out_lists" (.ref D2) (dX "tie_list" (.ref tl) (dX "house_count" (.int n) []))))
    have q3:∀b o,H4 b=some o->b≠p->G3 b=some o:=fun b o e h1=>by show upd _ _ _ _=_;rw[ao h1];exact e
    have PP:G3 p=some (.ins C dx (dX "out_lists" (.ref D2) (dX "tie_list" (.ref tl) (dX "house_count" (.int n) [])))):=af;have d3:n5 p Pt H G3:=fun b o e h1 h2=>q3 _ _ (tm _ _ (d2 _ _ e h1 h2) h2) h1;have ZO:pP Pt G3:=Sb.mono q3 Sc;have hb3:Holds G3 bs n (fun h=>.lst (NV (bj n (zp zs) h))):=hb.mono fun j hj e=>q3 _ _ e (gG e Sc (by intro z;cases z));have ZP:G3 D2=some (.lst (bs.map V.ref)):=q3 _ _ Be (gG Be Sc (by intro z;cases z));have O3:tj G3 D2 n (zp zs):=⟨bs,ZP,hb3⟩
    refine⟨_,rfl,n,rfl,by lia,by lia,fun D3 Hr=>?_⟩;refine eT (n:=n) (lo:=0) (fun i ys σ H6=>(∃a,σ=[a,some (.ref p)])/\∃ds:List Addr,ys=ds.map V.ref/\(∀b∈ds,H b=none)/\Holds H6 ds i (fun s=>.lst (NV ((List.range n).map (far (zp zs) s))))/\aA G3 H6/\H6 D3=some (.lst ys)/\∀b∈ds,b≠D3)
     ⟨⟨_,rfl⟩,[],rfl,(fun _ h=>nomatch h),Holds.nil,aj Hr,af,(fun _ h=>nomatch h)⟩ ?_ ?_
    .rintro i ys σ H6 Kt Kf hi ⟨⟨a,rfl⟩,ds,rfl,ZQ,hd,Bh,Jz,Ta⟩ kt kf;refine⟨_,rfl,p,C,dx,_,_,rfl,Bh _ _ PP,T.cl,T.nO,by rw[bR,aD rfl],_,rfl,D2,n,i,zp zs,by rw[eK];rfl,fi,hi,O3.same Bh,fun r H7 ZR PQ UM=>?_⟩;have e7D:H7 D3=some (.lst (ds.map V.ref)):=ZR _ _ Jz;have UL:r≠D3:=by rintro rfl;rw[Jz] at PQ;cases PQ
     have ZM:H r=none:=n5.free (fun b o e h1 h2=>Bh _ _ (d3 _ _ e h1 h2)) (lH (Bh _ _ PP)) (ZO.same Bh) PQ;have lW:∀b o xY,H7 b=some o->b≠D3->(upd H7 D3 xY) b=some o:=fun b o xY e h=>by rw[ao h];exact e
     refine kt _ _ _ e7D (by rw[aP,hd.1];exact cQ hi (aY n2 (by decide))) ⟨⟨_,rfl⟩,ds++[r],by rw[cK];rfl,?_,?_,?_,af,?_⟩
     .intro b xt;rcases bY.mp xt with z|z
      .exact ZQ b z
      .rw[cC.mp z];exact ZM
     .refine Holds.snoc (hd.mono fun j hj e=>?_) (lW _ _ _ UM UL);refine lW _ _ _ (ZR _ _ e) (Ta _ ?_);rw[aS,bq (by rw[hd.1];exact hj)];exact dv _
     .intro b o e;exact lW _ _ _ (ZR _ _ (Bh _ _ e)) (ap e Hr)
     .intro b xt;rcases bY.mp xt with z|z
      .exact Ta b z
      .rw[cC.mp z];exact UL
    .rintro ys σ H6 ⟨_,ds,rfl,ZQ,hd,Bh,Jz,Ta⟩;have UN:=Bh _ _ PP;refine⟨_,rfl,p,C,dx,_,rfl,UN,T.cl,T.nD,by have h1:=eQ "tie_list" (V.ref tl) (dX "house_count" (V.int n) []);have h2:=eQ "house_count" (V.int n) [];have h3:=eQ "out_lists" (V.ref D2) (dX "tie_list" (V.ref tl) (dX "house_count" (V.int n) []));simp at h2;lia,?_⟩;have q4:∀b o u,H6 b=some o->b≠p->(upd H6 p u) b=some o:=fun b o u e h1=>by rw[ao h1];exact e
     refine⟨_,rfl,p,C,dx,_,_,rfl,af,T.cl,T.nD,by rw[bR,aD rfl],D3,ds,n,fun s=>NV ((List.range n).map (far (zp zs) s)),rfl,q4 _ _ _ Jz (gG Jz UN (by intro z;cases z)),n2,hd.mono fun j hj e=>q4 _ _ _ e (gG e UN (by intro z;cases z)),fun j hj x hx=>?_,fun H8 s8=>?_⟩
     .obtain⟨y,hy,rfl⟩:=bn.mp hx;exact⟨_,rfl⟩
     .have up:∀b o,G3 b=some o->b≠p->H8 b=some o:=fun b o e h1=>s8 _ _ (q4 _ _ _ (Bh _ _ e) h1);have ZS:H D3=none:=d3.free (lH PP) ZO Hr;have upT:∀b o,G2 b=some o->b≠p->b≠Pt->H8 b=some o:=fun b o e h1 h2=>up _ _ (q3 _ _ (tm _ _ e h2) h1) h1;refine k H8 ⟨fi,dx,tl,D2,D3,s8 _ _ af,ZN,ZS,⟨bs,up _ _ ZP (gG ZP PP (by intro z;cases z)),ZK,hb3.mono fun j hj e=>up _ _ e (gG e PP (by intro z;cases z))⟩,
       ⟨ds,s8 _ _ (q4 _ _ _ Jz (gG Jz UN (by intro z;cases z))),ZQ,hd.mono fun j hj e=>s8 _ _ (q4 _ _ _ e (gG e UN (by intro z;cases z)))⟩,
       ⟨ZH,Sa,upT _ _ g2t PL.symm (PN.not g2t nofun),fun z hz=>upT _ _ (ZJ z hz) (gG (ZJ z hz) PM (by intro z;cases z)) (PN.not (ZJ z hz) nofun),Ou,((show (zp Sa).Perm (zp kj) from pm.map _).trans (rJ ez)),ord⟩⟩ ?_ fun b o e h1 h2=>up _ _ (d3 _ _ e h1 h2) h1
      exact ZO.mono up PP
end
theorem lI:NV xs++[.int (x:Int)]=NV (xs++[x]):=by unfold NV;rw[cK];rfl
theorem n6{xs:List Nat}{i:Nat}{x:V}(h:(NV xs)[i]?=some x):∃y,xs[i]?=some y/\x=.int (y:Int):=by
 unfold NV at h;rw[bN] at h;cases e:xs[i]? with
 |none=>rw[e] at h;cases h
 |some z=>rw[e] at h;exact⟨z,rfl,(bX h).symm⟩
end jT
namespace L2
open PySem PySem.Spec PyProof.Rows
section
variable {X:Cx}
def UO(X:Cx)(H:Hp)(d:Nat)(x y:V):Prop:=∀ (ag:List (Addr×Obj)) (s:Shared) (σ:St) (A:Around) (u v:Value),aZ X ag σ H s->A.units+d<cLine->b8 x u->b8 y v->SeqAt.EqAt A s u v true
theorem CZ:UO X H 0 (.int i) (.int i):=by
 intro ag s σ A u v I hu rx ry;have h:=se (A:=A) (s:=s) rx ry rfl rfl;rw[show iH (.int i) (.int i)=true by show decide (i=i)=true;simp] at h;exact h
theorem u4(I:aZ X ag σ H s)(hu:A.units+d<cLine)(rx:bg xs us)(ry:bg ys vs)(he:∀i,i<xs.length->i<ys.length->UO X H d (xs.getD i .bz) (ys.getD i .bz)):∀j (h1:j<us.toArray.size) (h2:j<vs.toArray.size),SeqAt.EqAt A s us.toArray[j] vs.toArray[j] true:=by
 intro j h1 h2;have j1:j<xs.length:=by rw[rx.length];simpa using h1
 have j2:j<ys.length:=by rw[ry.length];simpa using h2
 have e1:xs[j]?=some (xs.getD j .bz):=by rw[aS,bq j1];rfl
 have e2:ys[j]?=some (ys.getD j .bz):=by rw[aS,bq j2];rfl
 obtain⟨u,TX,ru⟩:=rx.get e1;obtain⟨v,Kl,rv⟩:=ry.get e2;have eu:us.toArray[j]=u:=by
  have:us[j]?=some us.toArray[j]:=by simp at h1 |-
  rw[TX] at this;exact(bX this).symm
 have ev:vs.toArray[j]=v:=by
  have:vs[j]?=some vs.toArray[j]:=by simp at h2 |-
  rw[Kl] at this;exact(bX this).symm
 rw[eu,ev];exact he j j1 j2 ag s σ A u v I hu ru rv
theorem tu:(List.range n).all (fun _=>true)=true:=hG.mpr fun _ _=>rfl
def PR(X:Cx)(neg:Bool)(d:Nat):R2:=fun x y H Q=>∃p q xs ys,x=.ref p/\y=.ref q/\bt X.K H p xs/\bt X.K H q ys/\xs.length=ys.length/\(∀i,i<xs.length->i<ys.length->UO X H d (xs.getD i .bz) (ys.getD i .bz))/\Q (.bl (!neg)) H
theorem K9{d:Nat}(hu:X.A.units+(d+1)<cLine):j6 X (compareOp .NotEq) (PR X true d):=by
 intro ag s σ H x y v u Q I rx ry h;obtain⟨p,q,xs,ys,rfl,rfl,hp,hq,hl,he,k⟩:=h;obtain rfl:v=Value.ref p:=rx;obtain rfl:u=Value.ref q:=ry;obtain⟨us,r1,p1,_⟩:=I.tuple hp;obtain⟨vs,r2,p2,_⟩:=I.tuple hq;have e:(us.toArray.size==vs.toArray.size)=true:=by simp only[bQ];rw[<-r1.length,<-r2.length,hl];simp
 refine SeqAt.RcNeAt.tuples (e:=fun _=>true) (show s.heap.IsTuple p us.toArray from p1) (show s.heap.IsTuple q vs.toArray from p2) (by lia) (u4 I (by show X.A.units+1+d<cLine;lia) r1 r2 he) _ _ _ _ ⟨.bl _,H,I,rfl,?_⟩;rw[tu,e];exact k
def UP(X:Cx)(neg:Bool)(d:Nat):R2:=fun x y H Q=>∃p q xs ys,x=.ref p/\y=.ref q/\aV X.K H p xs/\aV X.K H q ys/\xs.length=ys.length/\(∀i,i<xs.length->i<ys.length->UO X H d (xs.getD i .bz) (ys.getD i .bz))/\Q (.bl (!neg)) H
theorem K_{d:Nat}(hu:X.A.units+(d+1)<cLine):j6 X (compareOp .NotEq) (UP X true d):=by
 intro ag s σ H x y v u Q I rx ry h;obtain⟨p,q,xs,ys,rfl,rfl,hp,hq,hl,he,k⟩:=h;obtain rfl:v=Value.ref p:=rx;obtain rfl:u=Value.ref q:=ry;obtain⟨us,r1,p1,_⟩:=I.list hp;obtain⟨vs,r2,p2,_⟩:=I.list hq;refine SeqAt.RcNeAt.lists (e:=fun _=>true) p1.isList p2.isList (by simp only[bQ];rw[<-r1.length,<-r2.length];exact hl) (by lia) (u4 I (by show X.A.units+1+d<cLine;lia) r1 r2 he) _ _ _ _ ⟨.bl _,H,I,rfl,?_⟩;rw[tu];exact k
end
end L2
namespace jT
open PySem L2 fJ
section
variable {P:Program} {w:World} {K:PySem.W.Frag} {mg:Str->Option Value} {base:Heap}
theorem PU:aT ["self"] ["self"] (av Ha):=cV (by decide +kernel)
def Bi(C:Addr):Sp:=fun vs H Q _=>∃ (L:Addr->Prop) (p:Addr) (n:Nat) (ts:Ts),vs=[.ref p]/\dw C H L p n ts/\Q (.int n) H
theorem La{f C:Addr}{fd:FuncData}(F:gv K "many" "Net.many" Ha f fd)(T:NT K mg C):bU P w K mg base bv 1 f fd ["self"] (Bi C):=by
 refine F.ok PU (fun vs H Q E h=>?_) (fun dY A outer s H vs Q E hr h=>?_)
 .obtain⟨L,p,n,ts,rfl,_⟩:=h;rfl
 .obtain⟨L,p,n,ts,rfl,N,k⟩:=h;obtain⟨dx,tl,ol,ds,h1,_⟩:=N.ob;refine⟨_,ak (aM (kW (pv 0) rfl)),?_⟩;exact⟨_,rfl,p,C,dx,_,_,rfl,h1,T.cl,T.nH,CQ _ _ _ _,k⟩
end
end jT
namespace L2
open PySem PySem.Spec PyProof.Rows
def tw(P:Program)(w:World)(h:Heap)(vs:List Value)(ps:List (List iC×Addr×Value)):Prop:=vs.length=ps.length/\∀ (i:Nat) (v:Value),vs[i]?=some v->∃ (a:Addr) (o:Obj) (n:Nat) (b:Addr) (k:List iC) (x:Value),v=Value.ref a/\h.get? a=some o/\o.cls=.type "tuple"/\o.data=.seq #[.ref b,x] n/\(tupleKind (cq P w)).is h k b/\ps[i]?=some (k,b,x)
theorem yy(x:(tupleKind (cq P w)).is h k b)(q:∀b o,(∃xs n,o.data=.seq xs n)->h.get? b=some o->h'.get? b=some o):(tupleKind (cq P w)).is h' k b:=by
 obtain⟨o,its,n,h1,h2,h3,h4⟩:=x;exact⟨o,its,n,q _ _ ⟨_,_,h3⟩ h1,h2,h3,h4⟩
theorem tw.keeps (x : tw P w h vs ps) (k : ∀ b o,(∃ xs n,o.data = .seq xs n)->h.get? b = some o->h'.get? b = some o) : tw P w h' vs ps :=
 ⟨x.1,fun i v hv=>let ⟨a,o,n,b,kk,y,e1,e2,e3,e4,e5,e6⟩:=x.2 i v hv; ⟨a,o,n,b,kk,y,e1,k a o ⟨_,_,e4⟩ e2,e3,e4,yy e5 k,e6⟩⟩
theorem tD{P:Program}{w:World}{h h':Heap}{d:Addr}{xs:List (List iC×Addr×Value)}(x:h.DictOfH (tupleKind (cq P w)) d xs)(kd:∀o,h.get? d=some o->h'.get? d=some o)(q:∀b o,(∃xs n,o.data=.seq xs n)->h.get? b=some o->h'.get? b=some o):h'.DictOfH (tupleKind (cq P w)) d xs:=by
 obtain⟨o,es,ep,h1,h2,h3,h4,h5,h6⟩:=x;exact⟨o,es,ep,kd _ h1,h2,h3,h4,fun y hy=>yy (h5 y hy) q,h6⟩
section
variable {prog:Program} {w:World} {A:Around} {E:Value->Shared->Prop} {s:Shared} {R:Result->Shared->Prop} {l d Ia:Addr}
theorem Bj{vs:List Value}{ps:List (List iC×Addr×Value)}(hh:A.handled=none)(hu:A.units+4<cLine)(hlD:l≠d)(YR:l≠Ia)(ZT:d≠Ia):
  ∀ (k i:Nat) (j:Int) (t:Tok) (s:Shared) (df:List (List iC×Addr×Value)),vs.length-i=k->i<=vs.length->s.heap.IsListIter Ia l i->s.heap.IsList l vs.toArray->tw prog w s.heap vs ps->s.heap.DictOfH (tupleKind (cq prog w)) d df->df.length+k<=4096->
   (∀h' tk,(∀b o,b≠d->b≠Ia->s.heap.get? b=some o->h'.get? b=some o)->h'.DictOfH (tupleKind (cq prog w)) d ((ps.drop i).foldl (fun m p=>storedH m p.1 p.2.1 p.2.2) df)->R (.ok (.ret .none)) { s with heap:=h',toks:=tk })->
   codeAny (model prog w) A (.builtin "dict.update.loop" ⟨[.ref d,.ref Ia,.int j t,.none],[]⟩) R s:=by
 intro k;induction k with
 |zero=>
  intro i j t s df hk hi xq hl hp hD hz hR;refine oZ qg ?_;rw[vt jb _];show wpAny _ A.in1 (pyNext (.ref Ia) >>= _) _ _ s;refine aE (vj (show A.in1.handled=none from hh) xq hl (by simp;lia) fun h' eb=>?_);have hd:ps.drop i=[]:=by rw[List.drop_eq_nil_iff];have:=hp.1;lia
  have hR':=hR h' s.toks (fun b o hb Ki e=>eb b o Ki e);rw[hd] at hR';refine aE (wpAny_pure (wpAny_pure (hR' ?_)));refine tD hD (fun o e=>eb d o ZT e) fun b o hb e=>eb b o (fun z=>?_) e;obtain⟨oi,e1,_,d1⟩:=xq;obtain⟨xs,m,hb⟩:=hb;rw[z,e1] at e;cases e;rw[d1] at hb;cases hb
 |succ k ih=>
  intro i j t s df hk hi xq hl hp hD hz hR;have fz:i<vs.length:=by lia
  refine oZ qg ?_;rw[vt jb _];show wpAny _ A.in1 (pyNext (.ref Ia) >>= _) _ _ s;have hv:vs[i]?=some vs[i]:=bq fz;refine aE (rl xq hl (x:=vs[i]) (by simpa using hv) fun h1 OX oB=>?_);have W9:∀b ob,(∃xs n,ob.data=.seq xs n)->s.heap.get? b=some ob->b≠Ia:=fun b ob ⟨xs,m,z⟩ e z'=>by
   obtain⟨oi,e1,_,d1⟩:=xq;rw[z',e1] at e;cases e;rw[d1] at z;cases z
  have k1:∀b ob,(∃xs n,ob.data=.seq xs n)->s.heap.get? b=some ob->h1.get? b=some ob:=fun b ob hb e=>(oB.2 b (W9 b ob hb e)).trans e;have kZ:tw prog w h1 vs ps:=hp.keeps k1;have mW:h1.DictOfH (tupleKind (cq prog w)) d df:=tD hD (fun o e=>(oB.2 d ZT).trans e) k1;have E2:h1.IsList l vs.toArray:=by
   obtain⟨ol,q1,q2⟩:=hl;exact⟨ol,(oB.2 l YR).trans q1,q2⟩
  obtain⟨a,o,n,b,kk,x,ea,TJ,ec,ed,ek,ep⟩:=kZ.2 i _ hv;rw[ea];have neD:∀b ob,(∃xs n,ob.data=.seq xs n)->h1.get? b=some ob->b≠d:=fun b ob ⟨xs,m,z⟩ e z'=>by
   obtain⟨oS,es,SK,q1,_,q4,_⟩:=mW;rw[z',q1] at e;cases e;rw[q4] at z;cases z
  have hT:Shared.TypeIs { s with heap:=h1 } (.ref a) "tuple":=⟨o,TJ,ec⟩
  refine aE (gC ?_);show wpAny _ A.in1 (Sem.tryCatch (Builtin.Dict.pairItems (.ref a)) _ >>= _) _ _ _;refine aE (wpAny_tryCatch ?_);unfold Builtin.Dict.pairItems;refine aE (rP hT ?_);rw[aD (by decide)];refine aE (jG TJ ed (wpAny_pure ?_));show wpAny _ A.in1 (holding [.ref b,x] (dictSet d (.ref b) x)) _ _ _;refine gC (wpAny_dictSet_heap (s:={ s with heap:=h1 }) (show A.in1.units<cLine from by show A.units+1<cLine;lia) ek mW (fun h2 iq mV=>?_) (aY (by lia:df.length<=4096) (by decide)));refine wpAny_pure ⟨plainId_quiet jb _,?_⟩;have E3:i<ps.length:=by have:=hp.1;lia
  have YT:ps.drop i=(kk,b,x)::ps.drop (i+1):=by
   rw[oE E3];have:ps[i]?=some ps[i]:=bq E3;rw[this] at ep;rw[bX ep]
  have dz:(storedH df kk b x).length<=df.length+1:=by
   unfold storedH;split
   .rw[aP];lia
   .rw[cn];simp
  have k2:∀b ob,(∃xs n,ob.data=.seq xs n)->h1.get? b=some ob->h2.get? b=some ob:=fun b ob hb e=>(mV.2 b (neD b ob hb e)).trans e;refine ih (i+1) _ _ { s with heap:=h2,toks:=_ } (storedH df kk b x) (by lia) fz ?_ ?_ (kZ.keeps k2) iq (by lia) fun h3 YU k3 D3=>?_
  .obtain⟨oi,q1,q2⟩:=OX;exact⟨oi,(mV.2 Ia (im ZT)).trans q1,q2⟩
  .obtain⟨ol,q1,q2⟩:=E2;exact⟨ol,(mV.2 l hlD).trans q1,q2⟩
  .refine hR h3 YU (fun b ob hb Ki e=>k3 b ob hb Ki ((mV.2 b hb).trans ((oB.2 b Ki).trans e))) ?_;rw[YT];exact D3
end
section
variable {prog:Program} {w:World} {A:Around} {E:Value->Shared->Prop} {s:Shared} {l:Addr}
theorem PV(h:Heap):(h.push { cls:=.type "dict",data:=.dict #[] }).DictOfH (tupleKind (cq P w)) h.objs.size []:=
 ⟨_,#[],0,cR _ rfl,⟨rfl,rfl,rfl⟩,rfl,rfl,(fun x hx=>nomatch hx),jE⟩
theorem Bk(hh:A.handled=none)(hu:A.units+8<cLine)(hl:s.heap.get? l=some { cls:=.type "list",data:=.seq vs.toArray n })(hp:tw prog w s.heap vs ps)(hz:vs.length<=4096)(h:∀h' tk,h'.DictOfH (tupleKind (cq prog w)) s.heap.objs.size (ps.foldl (fun m p=>storedH m p.1 p.2.1 p.2.2) [])->(∀b o,s.heap.get? b=some o->h'.get? b=some o)->Q (.ref s.heap.objs.size) { s with heap:=h',toks:=tk }):
  wpAny (model prog w) A (call (.type "dict") [.ref l]) Q E s:=by
 refine callType_codes (Q₁:=fun obj s₁=>obj=.ref s.heap.objs.size/\s₁={ s with heap:=s.heap.push { cls:=.type "dict",data:=.dict #[] } }) F.kt_called_dict (F.kt_typeCall_dict_1 _) F.entry_dict_init (kt_code_dict_new _ ⟨rfl,rfl⟩) ?_;rintro obj s₁ ⟨rfl,rfl⟩;have Nv:(s.heap.push { cls:=.type "dict",data:=.dict #[] }).DictOf (cq prog w) s.heap.objs.size []:=Heap.DictOf.new s.heap;have si:(s.heap.push { cls:=.type "dict",data:=.dict #[] }).DictOfH (tupleKind (cq prog w)) s.heap.objs.size []:=PV s.heap;have lM:(s.heap.push { cls:=.type "dict",data:=.dict #[] }).objs.size=s.heap.objs.size+1:=ig ..;have up:∀b o,s.heap.get? b=some o->(s.heap.push { cls:=.type "dict",data:=.dict #[] }).get? b=some o:=fun b o e=>cg _ e;have fz:l<s.heap.objs.size:=bp hl;refine⟨Nv.typeIs,F.args_dict_init_2 _ _,?_⟩;generalize (s.heap.push { cls:=.type "dict",data:=.dict #[] })=hD at *;have hT:Shared.TypeIs { s with heap:=hD } (.ref l) "list":=⟨_,up _ _ hl,rfl⟩
 unfold Builtin.«dict.__init__»;refine aE ?_;unfold Builtin.Dict.selfAndRest;refine aE (wpAny_notOrdered_dict Nv.typeIs (wpAny_pure ?_));show wpAny _ _ (Builtin.Dict.updateFrom "dict.__init__" s.heap.objs.size (.ref l) [] .none) _ _ _;unfold Builtin.Dict.updateFrom;refine aE (rP hT ?_);rw[aD (by decide)];refine aE (O8 (s:={ s with heap:=hD }) (show A.in1.handled=none from hh) (up _ _ hl) fun h1 tk1 k1=>?_);have E2:h1.get? l=some { cls:=.type "list",data:=.seq vs.toArray n }:=k1 _ _ (up _ _ hl);have wu:h1.IsList l vs.toArray:=⟨_,E2,rfl,n,rfl⟩
 rw[aD (by rfl)];refine aE (ij ?_);refine aE (oR (s:={ s with heap:=h1,toks:=tk1 }) wu ?_);have ZU:s.heap.objs.size<h1.objs.size:=by
  obtain⟨o,es,ep,q1,q2⟩:=si;exact bp (k1 _ _ q1)
 refine wpAny_pure ⟨plainId_quiet jb _,?_⟩;refine Bj (l:=l) (vs:=vs) (ps:=ps) (Ia:=h1.objs.size) (show A.in1.handled=none from hh) (show A.units+1+4<cLine by lia) (bh fz) (bh (rM fz ZU)) (bh ZU) vs.length 0 0 0 _ [] (by simp) (de _) ⟨_,cR _ rfl,rfl,rfl⟩ ?_ ?_ ?_ (by simpa using hz) fun h2 Bm k2 D2=>?_
 .exact⟨_,cg _ E2,rfl,n,rfl⟩
 .exact hp.keeps fun b o _ e=>cg _ (k1 _ _ (up _ _ e))
 .exact tD si (fun o e=>cg _ (k1 _ _ e)) fun b o _ e=>cg _ (k1 _ _ e)
 .refine⟨rfl,h h2 Bm D2 fun b o e=>k2 b o (bh (bp e)) (bh (rM (bp e) ZU)) (cg _ (k1 _ _ (up _ _ e)))⟩
end
abbrev TK:=List iC×Addr×V
def dG(m:List (List iC×V))(ps:List TK):List (List iC×V):=ps.foldl (fun m p=>sA m p.1 p.2.2) m
inductive KP (H:Hp):List TK->List (List iC×Addr×Value)->Prop where
 |nil:KP H [] []
 |cons {k:List iC} {b:Addr} {v:V} {u:Value} {ps:List TK} {us:List (List iC×Addr×Value)} (hb:H b=some (.tup (k.map kV))) (r:b8 v u) (t:KP H ps us):KP H ((k,b,v)::ps) ((k,b,u)::us)
theorem KP.fold:∀ {ps:List TK} {us:List (List iC×Addr×Value)} {m:List (List iC×V)} {m':List (List iC×Addr×Value)},KP H ps us->KT H m m'->KT H (dG m ps) (us.foldl (fun m p=>storedH m p.1 p.2.1 p.2.2) m')
 |[],_,_,_,.nil,r=>r
 |(k,b,v)::ps,_,m,m',.cons (us:=us) hb rv t,r=>by
  have:=KP.fold (ps:=ps) (us:=us) t (r.put k hb rv);exact this
theorem qm:∀ (ps:List TK) (m:List (List iC×V)),(dG m ps).length<=m.length+ps.length
 |[],m=>by show m.length<=_;simp
 |p::ps,m=>by
  have h1:=qm ps (sA m p.1 p.2.2);have h2:=x_ m p.1 p.2.2;show (dG (sA m p.1 p.2.2) ps).length<=_;rw[dC];lia
theorem yz(ok:lA P w H h):∀ (ts:List Addr) (ps:List TK),ts.length=ps.length->(∀i,i<ps.length->∃k b v,ps[i]?=some (k,b,v)/\H (ts.getD i 0)=some (.tup [.ref b,v])/\H b=some (.tup (k.map kV)))->
  ∃us:List (List iC×Addr×Value),KP H ps us/\tw P w h (ts.map Value.ref) us
 |[],[],_,_=>⟨[],.nil,rfl,fun i v hv=>by simp at hv⟩
 |[],_::_,e,_=>by simp at e
 |_::_,[],e,_=>by simp at e
 |t::ts,(k,b,v)::ps,e,hs=>by
  obtain⟨us,r,T⟩:=yz ok ts ps (by simpa using e) fun i hi=>by
   obtain⟨k',b',v',h1,h2,h3⟩:=hs (i+1) (by simp;lia);exact⟨k',b',v',by simpa using h1,by simpa using h2,h3⟩
  obtain⟨k0,b0,v0,g1,g2,g3⟩:=hs 0 (by simp);have g1':(k,b,v)=(k0,b0,v0):=by simpa using g1
  cases g1';have g2':H t=some (.tup [.ref b,v]):=by simpa using g2
  obtain⟨_,its,rv,o,q1,q2,n,q3⟩:=ok t _ g2';cases rv with
  |cons ra rr=>
   cases rr with
   |cons rb rr2=>
    cases rr2;rename_i ka vb;obtain rfl:ka=Value.ref b:=ra;refine⟨(k,b,vb)::us,.cons g3 rb r,by simp[T.1],fun i x hx=>?_⟩;cases i with
    |zero=>
     have Ag:Value.ref t=x:=by simpa using hx
     exact⟨t,o,n,b,k,vb,Ag.symm,q1,q2,q3.1,pI ok g3,rfl⟩
    |succ i=>exact T.2 i x (by simpa using hx)
section
variable {X:Cx}
def PX:List V->Hp->VK->Prop:=fun xs H Q=>∃ (l:Addr) (ts:List Addr) (ps:List TK),xs=[.ref l]/\H l=some (.lst (ts.map V.ref))/\ts.length=ps.length/\(∀i,i<ps.length->∃k b v,ps[i]?=some (k,b,v)/\H (ts.getD i 0)=some (.tup [.ref b,v])/\H b=some (.tup (k.map kV)))/\ps.length<=4096/\
 ∀D,H D=none->Q (.ref D) (upd H D (.dT (dG [] ps)))
theorem Bo(hc:X.calm=true)(hu:X.A.units+8<cLine):fA X (.type "dict") PX:=by
 intro ag s σ H xs us Q I r h;obtain⟨l,ts,ps,rfl,hl,dz,ht,hz,q⟩:=h;obtain⟨u1,rfl,r1⟩:=r.one;obtain rfl:u1=Value.ref l:=r1;obtain⟨z,its,n,rv,_,e⟩:=I.t9 hl;have AM:its=ts.map Value.ref:=wd rv;subst AM;obtain⟨vs,kv,T⟩:=yz I.cI ts ps dz ht;refine Bk (I.ok.hd hc) hu e T (by rw[aP,dz];exact hz) fun h' tk D k=>?_;have hs:sysModules<s.heap.objs.size:=rM (by decide:sysModules<mainGlobals) (I.mod.glob.keeps I.bk).lt;have nf:=I.cI.fresh (aW s.heap.objs.size);have I2:aZ X ag σ (upd H s.heap.objs.size (.dT (dG [] ps))) { s with heap:=h',toks:=tk }:=by
  obtain⟨o,es,ep,h1,h2,h3,h4,_,h6⟩:=D;refine I.xN (t':=tk) k (oM (aW _)) ⟨?_,?_,_,KT.keeps (KP.fold kv .nil) fun b ys eb=>?_,o,es,ep,h1,h2,h3,h4,h6⟩
  .have:=qm ps [];exact aY this (aY (by simpa using hz) (by decide:4096<=sizeLine))
  .rw[ng];exact jJ hs
  .rw[ao (ap eb nf)];exact eb
 exact⟨.ref s.heap.objs.size,_,I2,rfl,q _ nf⟩
def Nw:R2:=fun x y H Q=>∃a b xs ys,x=.ref a/\y=.ref b/\H a=some (.tup xs)/\H b=some (.tup ys)/\xs.length+ys.length<=sizeLine/\∀r H',aA H H'->H' r=some (.tup (xs++ys))->Q (.ref r) H'
theorem qX:j6 X (binaryOp .Add) Nw:=by
 intro ag s σ H x y v u Q I rx ry h;obtain⟨a,b,xs,ys,rfl,rfl,ha,hb,hz,q⟩:=h;cases rx;cases ry;obtain⟨its,r1,p1,_⟩:=I.tuple (bt.of ha);obtain⟨kX,r2,p2,_⟩:=I.tuple (bt.of hb);obtain⟨⟨cls,dd,data,sl⟩,ho,hc,n,hd⟩:=id p1;obtain⟨⟨abg,ZV,data2,Tz⟩,Sd,hc2,n2,Xo⟩:=id p2;simp only at hc hd hc2 Xo;subst hc hd hc2 Xo;have e:its.toArray++kX.toArray=(its++kX).toArray:=by simp
 by_cases hv:xs=[]
 .subst hv;have hi:its=[]:=r1.nu.mpr rfl;exact concat_meets ⟨_,ho,rfl⟩ ⟨_,Sd,rfl⟩ Ab seq_tuple_add zn zm (zj _ _)
   (tuple_addW0 a b its.toArray kX.toArray n n2 dd ZV sl Tz (by simp[hi])) ⟨ho,Sd,⟨.ref b,H,I,rfl,q b H (aA.refl _) hb⟩⟩
 .have hi:its≠[]:=fun z=>hv (r1.nu.mp z);by_cases hw:ys=[]
  .subst hw;have hj:kX=[]:=r2.nu.mpr rfl;exact concat_meets ⟨_,ho,rfl⟩ ⟨_,Sd,rfl⟩ Ab seq_tuple_add zn zm (zj _ _)
    (tuple_addW1 a b its.toArray kX.toArray n n2 dd ZV sl Tz (by simpa using hi) (by simp[hj])) ⟨ho,Sd,⟨.ref a,H,I,rfl,q a H (aA.refl _) (by rw[rH];exact ha)⟩⟩
  .have hj:kX≠[]:=fun z=>hw (r2.nu.mp z);refine concat_meets ⟨_,ho,rfl⟩ ⟨_,Sd,rfl⟩ Ab seq_tuple_add zn zm (zj _ _)
    (tuple_addW2 a b its.toArray kX.toArray n n2 dd ZV sl Tz (by simpa using hi) (by simpa using hj) (by rw[bQ,bQ,<-r1.length,<-r2.length];exact hz)) ⟨ho,Sd,?_⟩
   rw[e];have nf:=I.cI.fresh (aW s.heap.objs.size);refine⟨.ref s.heap.objs.size,_,I.laid (t':=s.toks) (o:=.tup (xs++ys)) (fun b ob q=>cg _ q) (aW _) ?_,rfl,q _ _ (aj nf) af⟩;exact⟨by rw[cn];exact hz,_,r1.append r2,kR.new _ _⟩
theorem n8{prog:Program}{w:World}{A:Around}{E:Value->Shared->Prop}{s:Shared}{t sl:Addr}{items:Array Value}{vl vu:Value}{lo hi:Option Int}{Q:Value->Shared->Prop}(ht:IsTup s.heap t items)(hs:s.heap.IsSliceOf sl vl vu .none)(pl:IsPart vl lo)(pu:IsPart vu hi)(hw:HT.e_ items.size 0 lo=0/\HT.e_ items.size items.size hi=items.size)(h:Q (.ref t) s):wpAny (model prog w) A (getItem (.ref t) (.ref sl)) Q E s:=by
 obtain⟨os,B_,W2,Jv⟩:=id hs;have Yu:s.TypeIs (.ref sl) "slice":=⟨os,B_,W2⟩
 unfold getItem;try with_reducible refine gC ?_
 first|refine aE (wpAny_pure ?_)|skip
 refine aE (wpAny_sequenceKey ht.typeIs (by decide) ?_);refine aE (oH (name:=Str.ofString "__getitem__") ht.typeIs um
  (l_ um ht.typeIs entry_tuple_getitem ?_ (args_tuple_getitem _ _)))
 show wpAny _ _ (Builtin.Tuple.tupleItemsOf (.ref t) >>= _) _ _ s;refine aE (tupleItemsOf_ ht ?_);refine aE (rP Yu ?_);rw[aD (by decide)];refine aE (HT.jv hs pl pu ?_);have ZW:(((HT.e_ items.size 0 lo:Nat):Int)==0&&(1:Int)==1&&(HT.e_ items.size items.size hi-HT.e_ items.size 0 lo)==items.size)=true:=by
  rw[hw.1,hw.2];simp
 show wpAny _ _ (if (((HT.e_ items.size 0 lo:Nat):Int)==0&&(1:Int)==1&&(HT.e_ items.size items.size hi-HT.e_ items.size 0 lo)==items.size)=true then _ else _) _ _ s;rw[aD ZW];refine aE (Q:=_) (m:=Builtin.Tuple.tupleIsExact (.ref t)) ?_;unfold Builtin.Tuple.tupleIsExact;refine aE (rP ht.typeIs ?_);refine wpAny_pure ?_;rw[aD (by decide)];exact aE (ij (wpAny_pure ⟨_,rfl,wpAny_pure h⟩))
def ZX:V->Option Int->Option Int->Hp->VK->Prop:=fun x lo hi H Q=>∃a xs,x=.ref a/\H a=some (.tup xs)/\∀r H',aA H H'->H' r=some (.tup (nq xs lo hi))->Q (.ref r) H'
theorem Hv{xs:List V}{lo hi:Option Int}(hw:HT.e_ xs.length 0 lo=0/\HT.e_ xs.length xs.length hi=xs.length):nq xs lo hi=xs:=by
 unfold nq;rw[hw.1,hw.2,Nat.sub_zero,z9,iA]
theorem je:W3 X ZX:=by
 intro ag s σ H x v vl vu lo hi sl Q I rx hs pl pu h;obtain⟨a,xs,rfl,hx,q⟩:=h;by_cases hw:HT.e_ xs.length 0 lo=0/\HT.e_ xs.length xs.length hi=xs.length
 .cases rx;obtain⟨its,r,ht,hz⟩:=I.tuple (bt.of hx);have dz:its.toArray.size=xs.length:=by rw[bQ];exact r.length.symm
  refine⟨"tuple",_,um.lookup,ht.typeIs,?_⟩;exact n8 ht hs pl pu (by rw[dz];exact hw) ⟨.ref a,H,I,rfl,q a H (aA.refl _) (by rw[Hv hw];exact hx)⟩
 .exact OG ag s σ H _ v vl vu lo hi sl Q I rx hs pl pu ⟨a,xs,rfl,bt.of hx,hw,fun p hp=>q p _ (aj hp) af⟩
end
end L2
namespace fJ
abbrev iM(ts:Ts)(h:Int):Nat:=(ts.filter fun t=>decide (t.1=h)).length
theorem wJ:iM (ts++us) h=iM ts h+iM us h:=by unfold iM;rw[ft,cn]
theorem qY:iM [(a,b),(b,a)] h=(if a=h then 1 else 0)+(if b=h then 1 else 0):=by
 unfold iM;by_cases c1:a=h <;> by_cases c2:b=h <;> simp[c1,c2]
theorem Lb:iM (dM (ps++[(a,b)])) h=iM (dM ps) h+((if a=h then 1 else 0)+(if b=h then 1 else 0)):=by
 rw[jS,wJ];exact congrArg _ qY
theorem Lc:dM [(a,b)]=[(a,b),(b,a)]:=rfl
theorem Ld(ha:a<n)(hb:b<n)(qS:a≠b):y8 n [(ci a,ci b),(ci b,ci a)]:=by
 have ne:ci a≠ci b:=fun e=>qS (cD e);refine⟨?_,?_,?_,?_,?_⟩
 .rw[hU];refine⟨fun h=>?_,by simp⟩;have:=cC.mp h;exact ne (congrArg Prod.fst this)
 .intro t ht;rcases bW.mp ht with rfl|ht
  .exact⟨⟨by lia,by lia⟩,⟨by lia,by lia⟩⟩
  .rw[cC.mp ht];exact⟨⟨by lia,by lia⟩,⟨by lia,by lia⟩⟩
 .intro t ht;rcases bW.mp ht with rfl|ht
  .exact ne
  .rw[cC.mp ht];exact fun e=>ne e.symm
 .intro h;by_cases c1:ci a=h <;> by_cases c2:ci b=h <;> simp[c1,c2]
 .intro h;have:=qY (a:=ci a) (b:=ci b) (h:=h);show iM [(ci a,ci b),(ci b,ci a)] h<=8;rw[this];split <;> split <;> lia
theorem cA.pair(F:cA n (dM ps))(ha:a<n)(hb:b<n)(qS:a≠b)(h1:(ci a,ci b)∉ps)(h2:(ci b,ci a)∉ps)(d1:iM (dM ps) (ci a)<=7)(d2:iM (dM ps) (ci b)<=7):cA n (dM (ps++[(ci a,ci b)])):=by
 rw[jS,Lc];have ne:ci a≠ci b:=fun e=>qS (cD e);refine F.app (qT F.pre (Ld ha hb qS) (fun t ht=>?_) fun h=>?_)
 .rcases bW.mp ht with rfl|ht
  .exact fun z=>(nN.mp z).elim h1 h2
  .rw[cC.mp ht];exact fun z=>(nN.mp z).elim h2 h1
 .show iM (dM ps) h+iM [(ci a,ci b),(ci b,ci a)] h<=8;rw[qY];have m:=F.most h;by_cases c1:ci a=h
  .subst c1;rw[aD rfl,au (fun e=>ne e.symm)];lia
  .by_cases c2:ci b=h
   .subst c2;rw[au c1,aD rfl];lia
   .rw[au c1,au c2];exact m
theorem u5:∀ {ps:Ts} {h:Int},(∀u∈ps,u.1≠u.2)->(ps.filter fun u=>decide (u.1=h)||decide (u.2=h)).length=iM (dM ps) h
 |[],_,_=>rfl
 |u::ps,h,hn=>by
  have ih:=u5 (ps:=ps) (h:=h) fun v hv=>hn v (du _ hv);have hu:=hn u bZ;have e:dM (u::ps)=[u,pM u]++dM ps:=rfl;rw[e,wJ,c_,<-ih];obtain⟨a,b⟩:=u;have d:iM [(a,b),pM (a,b)] h=(if a=h then 1 else 0)+(if b=h then 1 else 0):=qY;rw[d];have qS:a≠b:=hu;by_cases c1:a=h
  .have c2:¬ b=h:=fun z=>qS (c1.trans z.symm);simp[c1,c2];lia
  .by_cases c2:b=h
   .simp[c1,c2];lia
   .simp[c1,c2]
theorem Le(P:y8 n ts):y8 n (ts.map pM):=by
 have fl:∀h:Int,((ts.map pM).filter fun t=>decide (t.1=h)).length=(ts.filter fun t=>decide (t.2=h)).length:=fun h=>by
  rw[oX,aP];rfl
 have fl2:∀h:Int,((ts.map pM).filter fun t=>decide (t.2=h)).length=(ts.filter fun t=>decide (t.1=h)).length:=fun h=>by
  rw[oX,aP];rfl
 refine⟨?_,fun t ht=>?_,fun t ht=>?_,fun h=>?_,fun h=>?_⟩
 .refine jt.mpr (P.nd.imp fun {x y} KD e=>KD ?_);have e1:=congrArg Prod.fst e;have e2:=congrArg Prod.snd e;exact fQ e2 e1
 .obtain⟨u,hu,rfl⟩:=bn.mp ht;exact⟨(P.rg u hu).2,(P.rg u hu).1⟩
 .obtain⟨u,hu,rfl⟩:=bn.mp ht;exact fun e=>P.ne u hu e.symm
 .rw[fl,fl2,P.Eb]
 .rw[fl,<-P.Eb];exact P.most h
theorem PY(h:3<=m)(hk:k<m):pk m (pk m k)≠k:=by
 unfold pk;split <;> split <;> lia
theorem yA(n1:3<=n)(n2:n<=32)(pm:xs.Perm (List.range n)):cA n (dM (sU xs)):=by
 have F:=uY (by lia) n2 pm;have nd:xs.Nodup:=pm.nodup_iff.mpr lS;have hl:xs.length=n:=by rw[pm.length_eq,cE]
 have lt:∀x∈xs,x<n:=fun x hx=>bH.mp (pm.mem_iff.mp hx);obtain⟨P,one⟩:=ww nd lt (by lia);have Q:=Le P;refine cA.perm ?_ ic;refine F.app (qT P Q (fun t ht hm=>?_) fun h=>?_)
 .obtain⟨u,hu,rfl⟩:=bn.mp ht;obtain⟨k,hk,rfl⟩:=nM hu;obtain⟨j,hj,e⟩:=nM hm;have e1:xs.getD k 0=xs.getD (pk xs.length j) 0:=cD (congrArg Prod.fst e);have e2:xs.getD (pk xs.length k) 0=xs.getD j 0:=cD (congrArg Prod.snd e);have pj:=uX hj;have pk':=uX hk;rw[dF hk,dF pj] at e1;rw[dF pk',dF hj] at e2;have i1:=lF nd hk pj e1;have i2:=lF nd pk' hj e2;rw[<-i2] at i1;exact PY (by lia) hk i1.symm
 .have o1:=one h;have e:((sU xs).map pM).filter (fun t=>decide (t.1=h))=((sU xs).filter fun t=>decide (t.2=h)).map pM:=by rw[oX];rfl
  rw[e,aP,<-P.Eb];lia
theorem yB{ps:Ts}:(dM (ps.map pM)).Perm (dM ps):=by
 have e:(ps.map pM).map pM=ps:=by
  rw[cy];conv=>rhs;rw[<-mi ps]
  exact js fun u _=>rfl
 refine ic.trans ?_;rw[e];exact jq.trans ic.symm
def Eu(xs:List Nat):Ts:=(List.range xs.length).map fun k=>(ci (xs.getD k 0),ci (xs.getD ((k+1) % xs.length) 0))
theorem Hw:((List.range m).map fun k=>(k+1) % m).Perm (List.range m):=by
 cases m with
 |zero=>exact me _
 |succ m=>
  rw[iQ,cK,List.map_singleton,Nat.mod_self];have e:(List.range m).map (fun k=>(k+1) % (m+1))=(List.range m).map (·+1):=js fun k hk=>jC (by have:=bH.mp hk;lia);rw[e];refine jq.trans ?_;rw[<-iQ,oG];exact me _
theorem pR:(Eu xs).Perm (sU xs):=by
 have h:=(Hw (m:=xs.length)).map fun k=>(ci (xs.getD (pk xs.length k) 0),ci (xs.getD k 0))
 rw[cy] at h;refine List.Perm.trans (rJ ?_) h;unfold Eu;refine js fun k hk=>?_;have Ce:=bH.mp hk;have:pk xs.length ((k+1) % xs.length)=k:=by
  by_cases c:k+1=xs.length
  .rw[c,Nat.mod_self];unfold pk;rw[aD rfl];lia
  .rw[jC (by lia)];unfold pk;rw[au (by lia)];lia
 show _=(ci (xs.getD (pk xs.length ((k+1) % xs.length)) 0),ci (xs.getD ((k+1) % xs.length) 0));rw[this]
theorem cA.round(F:cA n ts)(nd:xs.Nodup)(lt:∀x∈xs,x<n)(c2:2<=xs.length)(hf:∀x∈xs,iM ts (ci x)<=7)(hn:∀t∈Eu xs,t∉ts):cA n (ts++Eu xs):=by
 have P:=Ed F.pre nd lt c2 (fun t ht=>?_) (fun t ht=>hn t (pR.mem_iff.mpr ht))
 .exact(F.app P).perm (lR _ pR)
 .obtain⟨k,hk,rfl⟩:=nM ht;exact hf _ (lE (uX hk))
end fJ
namespace jT
open PySem L2 fJ
abbrev PZ:Stmt:=iK 34
abbrev Hy:Stmt:=iK 35
abbrev Bp:Stmt:=iK 36
structure Se(mg:Str->Option Value):Prop where
 abs:mg "abs"=none
 divmod:mg "divmod"=none
 dict:mg "dict"=none
 zip:mg "zip"=none
 repr:mg "repr"=none
theorem pS{e:V->V->Bool}:∀ {xs:List V},gK e xs []=decide (xs=[])
 |[]=>rfl
 |x::xs=>by simp[gK]
def bB(H:Hp)(p:Addr):Prop:=∃a b:Int,H p=some (.lst [.int a,.int b])/\0<=a/\0<=b/\b<4294967296
theorem bB.same{H H':Hp}{p:Addr}(h:bB H p)(s:aA H H'):bB H' p:=let ⟨a,b,e,r⟩:=h;⟨a,b,s _ _ e,r⟩
theorem bB.full{H:Hp}{p:Addr}(h:bB H p):H p≠none:=by obtain⟨a,b,e,_⟩:=h;rw[e];intro z;cases z
theorem bB.ne{H:Hp}{p q:Addr}(h:bB H p)(e:H q=none):q≠p:=by rintro rfl;exact h.full e
theorem bB.put{H:Hp}{p q:Addr}{o:HO}(h:bB H p)(n:p≠q):bB (upd H q o) p:=let ⟨a,b,e,r⟩:=h;⟨a,b,by rw[ao n];exact e,r⟩
theorem bB.neT{H:Hp}{p q:Addr}{xs:List V}(h:bB H p)(e:H q=some (.tup xs)):q≠p:=by rintro rfl;obtain⟨a,b,z,_⟩:=h;rw[e] at z;cases z
theorem PO.lX{H H':Hp}{p:Addr}{zs:Zs}(h:PO H zs)(s:aB p H H')(hp:bB H p):PO H' zs:=fun z hz=>s _ _ (h z hz) (hp.neT (h z hz))
theorem _root_.L2.aV.same{K:PySem.W.Frag}{H H':Hp}{a:Addr}{xs:List V}(h:aV K H a xs)(s:aA H H'):aV K H' a xs:=by
 rcases h with (h|⟨o,h⟩)|h
 .exact .inl (.inl (s _ _ h))
 .exact .inl (.inr ⟨o,s _ _ h⟩)
 .exact .inr h
theorem mK:(["_law_k","_law_left","_law_pot_here"]:List Str).Nodup:=by decide +kernel
section
variable {P:Program} {w:World} {K:PySem.W.Frag} {mg:Str->Option Value} {base:Heap}
theorem yC:aT ["_law_script","_law_k","_law_cell","_law_rest"] ["_law_script","_law_k"] (av PZ):=cV (by decide +kernel)
def Hz(K:PySem.W.Frag):Sp:=fun vs H Q _=>∃ (a:Addr) (ns:List Int) (k:Nat),vs=[.ref a,.int k]/\aV K H a (ns.map V.int)/\k<64/\∀ (r:Addr) (H':Hp),aA H H'->H r=none->bB H' r->Q (.ref r) H'
theorem P0{f:Addr}{fd:FuncData}(F:gv K "_law_pot" "_law_pot" PZ f fd)(B:Bl mg)(B2:Se mg):bU P w K mg base bv 1 f fd ["_law_script","_law_k"] (Hz K):=by
 refine F.ok yC (fun vs H Q E h=>?_) (fun dY A outer s H vs Q E hr h=>?_)
 .obtain⟨a,ns,k,rfl,_⟩:=h;rfl
 .obtain⟨a,ns,k,rfl,hS,hk,q⟩:=h;refine⟨_,(ai (dW (br (aa aq (aa aq ae))) (fu (n:=2) rfl (ba (aw (i:=2) yC.nd rfl aU) (ba (aw (i:=3) yC.nd rfl aU) dE))))
   (ai (bA (aK (AL (e:=iH) hr.u) (pv 0) (cm ae) (aR _)) (ak (aN (i:=2) yC.nd rfl aU (aI FK (by rfl) B2.abs PyProof.Rows.boot_abs (aa (aG aH (pv 0) (bu iU (pv 1) (aI aF (by rfl) B.len cp (aa (pv 0) ae))) (fun _ _=>rfl)) ae)))) aQ)
   (ai (bA (aK iV (pv 1) (aI aF (by rfl) B.len cp (aa (pv 0) ae)) (aR _)) (ak (aN (i:=3) yC.nd rfl aU (aI (ph rfl) (by rfl) B.max rj (aa aq (aa (bu mv (pv 2) (bu FE aq aq)) ae))))) aQ)
   (ak (aM (cm (aa (pv 3) (aa (bu dP (bu dP (bu iU (bu jN (bu dP (bu iU (pv 2) aq) aq) (bu dP (pv 1) aq)) aq) (bu jN aq (pv 1))) aq) ae)))))))),?_⟩
  refine⟨by show 2<=sizeLine;decide,fun T0 Sf=>⟨T0,_,rfl,bt.of af,rfl,_,_,rfl,_,_,rfl,rfl,?_⟩⟩;have sT:=aj (o:=.tup [.int 0,.int 0]) Sf;dsimp only;refine dI (fun σ Hc=>aA H Hc/\∃c:Int,0<=c/\σ=[some (.ref a),some (.int k),some (.int c),some (.int 0)]) ?_ ?_
  .rintro σ Hc ⟨sc,c,c0,rfl⟩;have m0:0<=c % 2147483579:=oY _ (by decide);have m1:c % 2147483579<2147483579:=oN _ (by decide);refine dI (fun σ Hd=>Hd=Hc/\∃d:Int,0<=d/\σ=[some (.ref a),some (.int k),some (.int c),some (.int d)]) ?_ ?_
   .rintro σ Hd ⟨rfl,d,d0,rfl⟩;refine⟨_,rfl,_,rfl,_,_,rfl,rfl,(by show (0:Int)<2147483579;decide),_,_,rfl,rfl,_,rfl,_,_,rfl,rfl,_,_,rfl,rfl,.inl ⟨by lia,by lia⟩,_,_,rfl,rfl,(by show (0:Int)<2147483579;decide),_,rfl,_,_,rfl,rfl,.inl ⟨by decide,by decide⟩,_,_,rfl,rfl,_,_,rfl,rfl,by show 2<=sizeLine;decide,fun r EZ=>?_⟩;have v0:0<=(c % 2147483579+1)*((k:Int)+1) % 2147483579:=oY _ (by decide);have v1:(c % 2147483579+1)*((k:Int)+1) % 2147483579<2147483579:=oN _ (by decide);refine q r _ (sc.trans (aj EZ)) (sc.free EZ) ⟨_,_,af,d0,?_,?_⟩
    .generalize (c % 2147483579+1)*((k:Int)+1) % 2147483579=z at *;lia
    .generalize (c % 2147483579+1)*((k:Int)+1) % 2147483579=z at *;lia
   .intro N hN;refine⟨_,rfl,_,rfl,a,_,rfl,.inl (hS.same sc),_,_,rfl,rfl,_,rfl,eI (fun e=>?_) (fun e=>hN _ _ ⟨rfl,0,by decide,rfl⟩)⟩;exact⟨_,rfl,_,_,rfl,rfl,⟨by decide,by decide,by decide⟩,_,_,rfl,rfl,0,_,rfl,hN _ _ ⟨rfl,_,by split <;> lia,rfl⟩⟩
  .intro N hN;refine⟨_,rfl,by show 0<=sizeLine;decide,fun E1 UQ=>?_⟩;have sE:=sT.trans (aj (o:=.lst []) UQ);have S1:=hS.same sE;refine⟨a,E1,_,[],rfl,rfl,S1,aV.of af,fun i h1 h2=>absurd h2 (by simp),_,rfl,?_⟩;rw[aD rfl,pS];by_cases e:ns.map V.int=[]
   .rw[cx e];exact cG (hN _ _ ⟨sE,0,by decide,rfl⟩)
   .rw[di e];have hl:0<ns.length:=by
     rcases ns with _|⟨x,xs⟩
     .exact absurd rfl e
     .simp
    have hm:k % ns.length<ns.length:=ji _ hl;refine fU ⟨_,rfl,_,rfl,_,rfl,a,_,rfl,.inl S1,_,_,rfl,rfl,(by show (0:Int)<(((ns.map V.int).length:Nat):Int);rw[aP];lia),a,_,_,.int ns[k % ns.length],rfl,rfl,S1,?_,_,rfl,hN _ _ ⟨sE,_,?_,rfl⟩⟩
    .rw[aP];have:((k:Int) % ((ns.length:Nat):Int))=((k % ns.length:Nat):Int):=rfl;rw[this];exact am (by rw[bN,bq hm];rfl)
    .split <;> lia
theorem HA:aT ["_law_pot_here","_law_many","_law_digit"] ["_law_pot_here","_law_many"] (av Hy):=cV (by decide +kernel)
def fv:Sp:=fun vs H Q _=>∃ (p:Addr) (m:Nat),vs=[.ref p,.int m]/\0<m/\m<1000000/\bB H p/\∀ (d:Nat) (H':Hp),d<m->aB p H H'->bB H' p->Q (.int d) H'
theorem Lf{f:Addr}{fd:FuncData}(F:gv K "_law_take" "_law_take" Hy f fd)(B2:Se mg):bU P w K mg base bv 1 f fd ["_law_pot_here","_law_many"] fv:=by
 refine F.ok HA (fun vs H Q E h=>?_) (fun dY A outer s H vs Q E hr h=>?_)
 .obtain⟨p,m,rfl,_⟩:=h;rfl
 .obtain⟨p,m',rfl,m0',m1',⟨a,b,hp,a0,b0,b1⟩,q'⟩:=h;generalize hm:((m':Nat):Int)=m;have m0:0<m:=by lia
  have m1:m<1000000:=by lia
  have q:∀ (d a b:Int) (H':Hp),0<=d->d<m->0<=a->0<=b->b<4294967296->aB p H H'->H' p=some (.lst [.int a,.int b])->Q (.int d) H':=fun d a b H' h1 h2 h3 h4 h5 h6 h7=>by
   have:=q' d.toNat H' (by lia) h6 ⟨a,b,h7,h3,h4,h5⟩;rw[kD h1] at this;exact this
  refine⟨_,(ai (bA (aK B5 (aG aH (pv 0) aq (fun _ _=>rfl)) aq (aR _)) (ai (dW (aI xG (by rfl) B2.divmod PyProof.Rows.boot_divmod (aa (aG aH (pv 0) aq (fun _ _=>rfl)) (aa (pv 1) ae))) (fu (n:=2) rfl (ba (iT (pv 0) aq eS) (ba (aw (i:=2) HA.nd rfl aU) dE))))
    (ak (aM (pv 2)))) aQ)
   (ai (dW (bu iU (bu dP (bu jN (aG aH (pv 0) aq (fun _ _=>rfl)) aq) aq) aq) (iT (pv 0) aq eS))
   (ak (aM (bu iU (bu vV (bu iU (bu jN (aG aH (pv 0) aq (fun _ _=>rfl)) (aG aH (pv 0) aq (fun _ _=>rfl))) aq) aq) (pv 1)))))),?_⟩
  have g0:FV [V.int a,V.int b] 0=some (.int a):=am (j:=0) rfl;have g1:FV [V.int a,V.int b] 1=some (.int b):=am (j:=1) rfl;refine⟨_,rfl,p,_,_,_,rfl,rfl,aV.of hp,g0,_,_,rfl,rfl,_,rfl,?_⟩;refine eI (fun e=>?_) (fun e=>?_)
  .refine⟨_,rfl,p,_,_,_,rfl,rfl,aV.of hp,g0,_,rfl,_,_,rfl,⟨m0,by lia⟩,fun t ht=>?_⟩;have npt:p≠t:=ap hp ht;refine⟨t,_,rfl,bt.of af,rfl,_,_,rfl,?_⟩;refine⟨_,rfl,p,_,0,0,rfl,rfl,by rw[ao npt];exact hp,eH (j:=0) (by show 0<2;decide),_,_,rfl,rfl,_,rfl,?_⟩;exact q _ _ _ _ (oY _ (by lia)) (oN _ m0) (Int.ediv_nonneg a0 (by lia)) b0 b1 (fun c o e n=>by rw[ao n,ao (ap e ht)];exact e) af
  .refine⟨_,rfl,p,_,_,_,rfl,rfl,aV.of hp,g1,_,_,rfl,rfl,.inl ⟨by lia,by lia⟩,_,_,rfl,rfl,_,_,rfl,rfl,(by show (0:Int)<2147483587;decide),?_⟩;refine⟨_,rfl,p,_,1,1,rfl,rfl,hp,eH (j:=1) (by show 1<2;decide),?_⟩;have c0:0<=(b*48283+10007) % 2147483587:=oY _ (by decide);have c1:(b*48283+10007) % 2147483587<2147483587:=oN _ (by decide);refine⟨_,rfl,p,_,_,_,rfl,rfl,aV.of af,am (j:=1) rfl,_,rfl,p,_,_,_,rfl,rfl,aV.of af,am (j:=1) rfl,_,_,rfl,rfl,.inl ⟨by lia,by lia⟩,_,_,rfl,rfl,(by show (0:Int)<2147483549;decide),_,_,rfl,rfl,⟨by decide,by decide⟩,_,rfl,_,_,rfl,rfl,m0,?_⟩;exact q _ _ _ _ (oY _ (by lia)) (oN _ m0) a0 c0 (by lia) aB.upd af
theorem lf:∀ {xs:List Nat} {k:Nat},(NV xs).eraseIdx k=NV (xs.eraseIdx k)
 |[],_=>rfl
 |x::xs,0=>rfl
 |x::xs,k+1=>congrArg (V.int (x:Nat)::·) (lf (xs:=xs) (k:=k))
theorem tE:∀ {ls:List Nat} {k:Nat} (hk:k<ls.length),(ls[k]::ls.eraseIdx k).Perm ls
 |x::xs,0,_=>me _
 |x::xs,k+1,h=>(List.Perm.swap x _ _).trans ((tE (ls:=xs) (k:=k) (by simpa using h)).cons x)
theorem HB{xs ls:List Nat}{k v:Nat}{r:List Nat}(p:(xs++ls).Perm r)(h:ls[k]?=some v):(xs++[v]++ls.eraseIdx k).Perm r:=by
 refine List.Perm.trans ?_ p;rw[dH];refine lR _ ?_;obtain⟨hk,e⟩:=cY.mp h;subst e;exact tE hk
theorem C0:aT ["_law_pot_here","_law_many","_law_left"] ["_law_pot_here","_law_many"] (av Bp):=cV (by decide +kernel)
def lJ:Sp:=fun vs H Q _=>∃ (p:Addr) (m:Nat),vs=[.ref p,.int m]/\m<=300/\bB H p/\∀ (r:Addr) (xs:List Nat) (H':Hp),aB p H H'->bB H' p->H r=none->H' r=some (.lst (NV xs))->xs.Perm (List.range m)->Q (.ref r) H'
theorem HC{f:Addr}{fd:FuncData}(F:gv K "_law_order" "_law_order" Bp f fd)(B:Bl mg)(D:cu P w K mg base bv 1 "_law_take" ["_law_pot_here","_law_many"] fv):bU P w K mg base bv 2 f fd ["_law_pot_here","_law_many"] lJ:=by
 refine F.ok C0 (fun vs H Q E h=>?_) (fun dY A outer s H vs Q E hr h=>?_)
 .obtain⟨p,m,rfl,_⟩:=h;rfl
 .obtain⟨p,m,rfl,hm,hp,q⟩:=h;refine'⟨_,(ai (aN (i:=2) C0.nd rfl bL (cL (AK rfl) (by rfl) B.lst oF (aa (cL xV (by rfl) B.range PyProof.Rows.boot_range (aa (pv 1) ae)) ae)))
   (ak (aM ?c1))),?_⟩
  case c1=>
   refine' bV (g:=(bK 0)) (te:=(Yy K "list" F5 (aX 1) (bi (qb fv [] E0 (bi (aX 2) (bi (J2 (fun xs H Q=>∃p ys,xs=[V.ref p]/\(aV K H p ys\/bt K H p ys)/\Q (.int ys.length) H) (bi (aX 1) dQ)) dQ))) dQ))) (NB:=["_law_k","_law_left","_law_pot_here"]) (src:=[none,some 2,some 0]) (bJ (by kernel_rfl)) rfl (bC rfl B.range (aa (pv 1) ae)) ?g ?t ?e;case g=>exact fun cl C s₃ H₃ fp=>(aw (i:=0) mK rfl aU bL)
   case t=>exact fun cl C s₃ H₃ fp=>ce
   case e=>exact fun cl C s₃ H₃ fp=>(hX g9 zy zx sg (pv 1) (aa (az D hr aL (aa (pv 2) (aa (aI aF (by rfl) B.len cp (aa (pv 1) ae)) ae))) ae))
  refine⟨_,rfl,m,rfl,fun R hR=>⟨R,m,rfl,af,by lia,fun L hL=>?_⟩⟩;have s0:aA H (upd (upd H R (.JM 0 m)) L (.lst (NV (List.range m)))):=(aj hR).trans (aj hL);have hLH:H L=none:=(aj hR).free hL;refine⟨_,rfl,m,rfl,by lia,by lia,fun D' hD=>?_⟩;have ZY:H D'=none:=s0.free hD;have npL:L≠p:=hp.ne hLH;have Lg:D'≠p:=hp.ne ZY;have ZZ:L≠D':=ap af hD;refine eT (n:=m) (lo:=0) (fun i ys σ H2=>(∃k,σ=[k,some (.ref L),some (.ref p)])/\aB p H H2/\bB H2 p/\∃ls xs:List Nat,H2 L=some (.lst (NV ls))/\H2 D'=some (.lst ys)/\ys=NV xs/\(xs++ls).Perm (List.range m)/\xs.length=i)
   ⟨⟨_,rfl⟩,aB.of (s0.trans (aj hD)),(hp.same s0).same (aj hD),List.range m,[],by rw[ao ZZ,af],af,rfl,me _,rfl⟩ ?_ ?_
  .rintro i ys σ H2 Kt Kf hi ⟨⟨k',rfl⟩,sm,km,ls,xs,R8,iq,rfl,pm,xl⟩ kt kf;have ll:ls.length=m-i:=by have:=pm.length_eq;rw[cn,cE] at this;lia
   refine⟨_,rfl,.inl ⟨rfl,_,aV.of R8⟩,_,rfl,_,rfl,L,_,rfl,.inl (aV.of R8),p,_,rfl,by rw[aO];lia,by rw[aO];lia,km,fun d H3 hd s3 oC=>?_⟩;rw[aO] at hd;have hv:ls[d]?=some ls[d]:=bq hd;refine⟨L,_,(d:Int),d,.int (ls[d]:Nat),rfl,rfl,s3 _ _ R8 npL,by lia,by lia,(nw (eH (by rw[aO];exact hd))).1,by unfold NV;rw[bN,hv];rfl,?_⟩;refine kt _ _ _ (by rw[ao ZZ.symm];exact s3 _ _ iq Lg) (by rw[aO,xl];exact cQ (show i<301 by lia) (by decide)) ⟨⟨_,rfl⟩,fun b o e n=>?_,?_,ls.eraseIdx d,xs++[ls[d]],by rw[ao ZZ,af,lf],af,by rw[lI],HB pm hv,by rw[cn,xl];rfl⟩
   .rw[ao (ap e ZY),ao (ap e hLH)];exact s3 _ _ (sm _ _ e n) n
   .exact(oC.put npL.symm).put Lg.symm
  .rintro ys σ H2 ⟨_,sm,km,ls,xs,R8,iq,rfl,pm,xl⟩;have ll:ls=[]:=by
    have:=pm.length_eq;rw[cn,cE,xl] at this;exact List.length_eq_zero_iff.mp (by lia)
   subst ll;rw[rH] at pm;exact q D' xs H2 sm km ZY iq pm
end
abbrev HD:Stmt:=iK 37
abbrev HE:Stmt:=iK 38
theorem yD:(["_law_one","_law_many"]:List Str).Nodup:=by decide +kernel
theorem lh{α:Type}{x:α}:∀ {k:Nat},(List.replicate k [x]).flatten=List.replicate k x
 |0=>rfl
 |k+1=>by rw[nh,rB,lh,nh];rfl
theorem gL{A B:Prop}{b:Bool}(hb:b=true)(h:A):if b=true then A else B:=by rw[aD hb];exact h
theorem f9{A B:Prop}{b:Bool}(hb:b=false)(h:B):if b=true then A else B:=by rw[au (by rw[hb];decide)];exact h
def qo(H:Hp)(D:Addr)(ts:Ts)(H2:Hp):Prop:=aA H H2/\∃zs:Zs,H2 D=some (.lst (zr zs))/\PO H2 zs/\zp zs=ts
theorem wK{lo:Int}{n:Nat}{D:Addr}{g:TG}{tt:TT}{te:TE}{dJ:Hp->Prop}{σB:St}{H0:Hp}(c:Nat->Bool)(bE:St->Prop)(hD:H0 D=none)(hn:n<=1000)(h0:bE σB)(hs:∀x σ H (Kt:V->St->Hp->Prop) (Kf:St->Hp->Prop),x<n->bE σ->aA H0 H->(∀σ2 H2,bE σ2->aA H H2->c x=true->Kt (.int (lo+(x:Nat))) σ2 H2)->(∀σ2 H2,bE σ2->aA H H2->c x=false->Kf σ2 H2)->
   g (.int (lo+(x:Nat))) σ H fun σ2 H2=>tt σ2 H2 fun b H3=>if b=true then te σ2 H3 fun v H4=>Kt v σ2 H4 else Kf σ2 H3)(hd:∀H,aA H0 H->H D=some (.lst (((List.range n).filter c).map fun (x:Nat)=>V.int (lo+(x:Int))))->dJ H):gJ (EW lo n) g tt te D dJ σB (upd H0 D (.lst [])):=by
 refine eT (fun i ys σ H=>bE σ/\aA H0 H/\H D=some (.lst ys)/\ys=((List.range i).filter c).map fun (x:Nat)=>V.int (lo+(x:Int))) ⟨h0,aj hD,af,rfl⟩ ?_ ?_
 .rintro i ys σ H Kt Kf hi ⟨sh,sm,d8,rfl⟩ kt kf;refine hs i σ H Kt Kf hi sh sm (fun σ2 H2 mI s2 e=>?_) (fun σ2 H2 mI s2 e=>?_)
  .refine kt _ _ _ (s2 _ _ d8) ?_ ⟨mI,bD (sm.trans s2) hD,af,?_⟩
   .rw[aP];refine fq (fW _ _) ?_;rw[cE];exact cQ (show i<1000 by lia) (by decide)
   .rw[iQ,ft,cK];simp[c_,e]
  .refine kf _ _ ⟨mI,sm.trans s2,s2 _ _ d8,?_⟩;rw[iQ,ft];simp[c_,e]
 .rintro ys σ H ⟨_,sm,d8,rfl⟩;exact hd H sm d8
theorem pT:∀ {xs:List Nat} {j x:Nat},(NV xs).set j (.int (x:Int))=NV (xs.set j x)
 |[],_,_=>rfl
 |y::ys,0,x=>rfl
 |y::ys,j+1,x=>congrArg (V.int (y:Int)::·) (pT (xs:=ys) (j:=j) (x:=x))
theorem dR{xs:List Nat}{j:Nat}(h:j<xs.length):(NV xs)[j]?=some (.int ((xs.getD j 0:Nat):Int)):=by
 unfold NV;rw[bN,aS,bq h];rfl
def gx(n:Nat)(ps:Ts):List Nat:=(List.range n).map fun (h:Nat)=>iM (dM ps) (ci h)
theorem jA{n:Nat}{ps:Ts}:(gx n ps).length=n:=by unfold gx;rw[aP,cE]
theorem tG{n:Nat}{ps:Ts}{h:Nat}(hh:h<n):(gx n ps).getD h 0=iM (dM ps) (ci h):=by
 unfold gx;rw[aS,bN,fw hh];rfl
theorem HF{n:Nat}{ps:Ts}{a b:Nat}(ha:a<n)(hb:b<n)(qS:a≠b):((gx n ps).set a (iM (dM ps) (ci a)+1)).set b (iM (dM ps) (ci b)+1)=gx n (ps++[(ci a,ci b)]):=by
 have ne:∀x y:Nat,ci x=ci y->x=y:=fun x y e=>cD e;refine i7 fun i=>?_;by_cases hi:i<n
 .have g:∀qs:Ts,(gx n qs)[i]?=some (iM (dM qs) (ci i)):=fun qs=>by unfold gx;rw[bN,fw hi];rfl
  rw[g,Lb,oO,oO,g,j5,jA];by_cases c1:b=i
  .subst c1;rw[aD rfl,aD hb,au (fun z=>qS (ne _ _ z)),aD rfl,vJ]
  .rw[au c1,au (fun z=>c1 (ne _ _ z))];by_cases c2:a=i
   .subst c2;rw[aD rfl,aD ha,aD rfl]
   .rw[au c2,au (fun z=>c2 (ne _ _ z))];rfl
 .rw[cj (by rw[j5,j5,jA];lia),cj (by rw[jA];lia)]
theorem HG{n:Nat}:List.replicate n (V.int 0)=NV (gx n []):=by
 refine i7 fun i=>?_;unfold NV gx;rw[cy,lZ,bN];by_cases hi:i<n
 .rw[aD hi,fw hi];rfl
 .rw[au hi,cj (by rw[cE];lia)];rfl
section
variable {P:Program} {w:World} {K:PySem.W.Frag} {mg:Str->Option Value} {base:Heap}
theorem wL:aT ["_law_pairs","_law_ties","_law_one","_law_other_here"] ["_law_pairs"] (av HD):=cV (by decide +kernel)
def Bq:Sp:=fun vs H Q _=>∃ (l:Addr) (zs:Zs),vs=[.ref l]/\H l=some (.lst (zr zs))/\PO H zs/\zs.length<=1000/\∀ (r:Addr) (y6:Zs) (H':Hp),aA H H'->H r=none->H' r=some (.lst (zr y6))->PO H' y6->zp y6=dM (zp zs)->Q (.ref r) H'
theorem Lh{f:Addr}{fd:FuncData}(F:gv K "_law_both" "_law_both" HD f fd):bU P w K mg base bv 1 f fd ["_law_pairs"] Bq:=by
 refine F.ok wL (fun vs H Q E h=>?_) (fun dY A outer s H vs Q E hr h=>?_)
 .obtain⟨l,zs,rfl,_⟩:=h;rfl
 .obtain⟨l,zs,rfl,hl,po,hz,q⟩:=h;refine⟨_,(ai (aN (i:=1) wL.nd rfl aU (cm ae))
   (ai (cP dO rfl (bP (pv 0)) (fu (n:=2) rfl (ba (aw (i:=2) wL.nd rfl aU) (ba (aw (i:=3) wL.nd rfl aU) dE)))
    (ak (cU (hX g9 zi zh pz (pv 1) (aa (cm (aa (br (aa (pv 2) (aa (pv 3) ae))) (aa (br (aa (pv 3) (aa (pv 2) ae))) ae))) ae)))))
   (ak (aM (pv 1))))),?_⟩
  refine⟨by show 0<=sizeLine;decide,fun D hD=>?_⟩;have s0:=aj (o:=.lst []) hD;refine⟨_,rfl,l,rfl,⟨_,aV.of (s0 _ _ hl)⟩,hW (K:=K) (xs:=zr zs) (fun i σ H2=>(∃x y,σ=[some (.ref l),some (.ref D),x,y])/\qo H D (dM ((zp zs).take i)) H2) ⟨⟨_,_,rfl⟩,s0,[],af,PO.nil,rfl⟩ (fun i σ H2 _ z=>aV.of (z.2.1 _ _ hl)) ?_ ?_⟩
  .rintro i x σ H2 hx ⟨⟨x',y',rfl⟩,sm,kj,iq,Ev,ez⟩;obtain⟨z,T9,rfl⟩:=pN hx;have hi:i<zs.length:=(cY.mp T9).1;have hzz:=sm _ _ (po z (cZ T9));obtain⟨za,a,b⟩:=z;refine⟨za,_,rfl,bt.of hzz,rfl,_,_,rfl,_,_,rfl,rfl,?_⟩;refine⟨_,rfl,.inl ⟨rfl,_,aV.of iq⟩,_,rfl,_,rfl,by show 2<=sizeLine;decide,fun t1 h1=>⟨_,rfl,_,rfl,by show 2<=sizeLine;decide,fun t2 h2=>⟨by show 2<=sizeLine;decide,fun L hL=>?_⟩⟩⟩;have u1:=aj (o:=ud (a,b)) h1;have u2:=aj (o:=ud (b,a)) h2;have u3:=aj (o:=.lst [.ref t1,.ref t2]) hL;have g1:=u3 _ _ (u2 _ _ (af (H:=H2) (a:=t1) (o:=ud (a,b))));have g2:=u3 _ _ (af (H:=upd H2 t1 (ud (a,b))) (a:=t2) (o:=ud (b,a)));have s3:=(u1.trans u2).trans u3;have OL:kj.length=2*i:=by
    have:=congrArg List.length ez;rw[bT,jd,g_,bT] at this;lia
   have gD:=s3 _ _ iq;refine⟨D,L,_,_,rfl,rfl,gD,af,?_,⟨_,_,rfl⟩,bD (sm.trans s3) hD,kj++[(t1,(a,b)),(t2,(b,a))],?_,?_,?_⟩
   .rw[dA,OL];exact aY (show 2*i+2<=2002 by lia) (by decide)
   .rw[af,ff];rfl
   .refine PO.putL (xs:=zr kj) ((Ev.same s3).append fun z hz=>?_) gD;rcases bW.mp hz with rfl|hz
    .exact g1
    .rw[cC.mp hz];exact g2
   .rw[fh,ez];have tk:(zp zs).take (i+1)=(zp zs).take i++[(a,b)]:=by
     rw[fZ];unfold zp;rw[bN,T9];rfl
    rw[tk,jS];rfl
  .rintro σ H2 ⟨⟨x',y',rfl⟩,sm,kj,iq,Ev,ez⟩;rw[dA,<-bT,iA] at ez;exact⟨_,rfl,q D kj H2 sm hD iq Ev ez⟩
theorem pU:aT ["_law_pot_here","_law_n","_law_pairs","_law_many","_law_house","_law_some","_law_one"] ["_law_pot_here","_law_n"] (av HE):=cV (by decide +kernel)
def mL:Sp:=fun vs H Q _=>∃ (p:Addr) (n:Nat),vs=[.ref p,.int n]/\2<=n/\n<=32/\bB H p/\∀ (r:Addr) (zs:Zs) (H':Hp),aB p H H'->bB H' p->H r=none->H' r=some (.lst (zr zs))->PO H' zs->cA n (dM (zp zs))->(∀u∈zp zs,u.1<u.2)->Q (.ref r) H'
theorem Li{f:Addr}{fd:FuncData}(F:gv K "_law_tree" "_law_tree" HE f fd)(B:Bl mg)(D:cu P w K mg base bv 1 "_law_take" ["_law_pot_here","_law_many"] fv):bU P w K mg base bv 2 f fd ["_law_pot_here","_law_n"] mL:=by
 refine F.ok pU (fun vs H Q E h=>?_) (fun dY A outer s H vs Q E hr h=>?_)
 .obtain⟨p,n,rfl,_⟩:=h;rfl
 .obtain⟨p,n,rfl,n1,n2,hp,q⟩:=h;refine'⟨_,(ai (aN (i:=2) pU.nd rfl aU (cm ae))
   (ai (aN (i:=3) pU.nd rfl bL (bu vZ (cm (aa aq ae)) (pv 1)))
   (ai (cP dO rfl (pe rfl B.range (aa aq (aa (pv 1) ae))) (aw (i:=4) pU.nd rfl aU)
    (ai (dt (i:=5) (g:=(bK 0)) (tt:=(ja (gw (tW fun i j=>.bl (decide (i<j))) (gw (ki K) (aX 1) (aX 0)) (tC (.int 8))))) (te:=(aX 0)) (NB:=["_law_one","_law_many"]) (src:=[none,some 3]) (bJ (by kernel_rfl)) rfl (bC rfl B.range (aa (pv 4) ae)) ?g1 ?t1 ?e1 pU.nd rfl rfl rfl)
    (ai (aN (i:=6) pU.nd rfl aU (aG aH (pv 5) (az D hr aL (aa (pv 0) (aa (aI aF (by rfl) B.len cp (aa (pv 5) ae)) ae))) (fun _ _=>rfl)))
    (ai (cU (hX g9 m6 mZ eA (pv 2) (aa (br (aa (pv 6) (aa (pv 4) ae))) ae)))
    (ai (dW (bu dP (aG aH (pv 3) (pv 6) (fun _ _=>rfl)) aq) (iT (pv 3) (pv 6) eS))
    (ak (dW (bu dP (aG aH (pv 3) (pv 4) (fun _ _=>rfl)) aq) (iT (pv 3) (pv 4) eS))))))))
   (ak (aM (pv 2)))))),?_⟩
  case g1=>exact fun cl C s₃ H₃ fp=>(aw (i:=0) yD rfl aU bL)
  case t1=>exact fun cl C s₃ H₃ fp=>eG (aK iV (aG aH (pv 1) (pv 0) (fun _ _=>rfl)) aq (aR _))
  case e1=>exact fun cl C s₃ H₃ fp=>(pv 0)
  refine⟨by show 0<=sizeLine;decide,fun Pr Nx=>?_⟩;have sP:=aj (o:=.lst []) Nx;refine⟨by show 1<=sizeLine;decide,fun L1 wu=>⟨_,rfl,L1,_,_,rfl,rfl,af,by lia,by lia,by rw[i8,kq];exact aY (show 1*n<=32 by lia) (by decide),fun M hM=>?_⟩⟩;rw[i8,lh,HG];have s1:=sP.trans (aj (o:=.lst [.int 0]) wu);have s2:=s1.trans (aj (o:=.lst (NV (gx n []))) hM);have gP:(upd (upd (upd H Pr (.lst [])) L1 (.lst [.int 0])) M (.lst (NV (gx n [])))) Pr=some (.lst (zr [])):=aj hM _ _ (aj wu _ _ af);have gM:(upd (upd (upd H Pr (.lst [])) L1 (.lst [.int 0])) M (.lst (NV (gx n [])))) M=some (.lst (NV (gx n []))):=af;have nPM:Pr≠M:=ap (aj wu _ _ af) hM;have hMH:H M=none:=s1.free hM;generalize upd (upd (upd H Pr _) L1 _) M _=H0 at *;refine⟨_,rfl,1,(n:Int),rfl,⟨by decide,by decide,by lia,by lia⟩,?_⟩;rw[show ((n:Int)-1).toNat=n-1 by lia];refine dg (lo:=1) (n:=n-1) (fun i σ Hc=>∃zs:Zs,(∃a b c,σ=[some (.ref p),some (.int n),some (.ref Pr),some (.ref M),a,b,c])/\aB p H Hc/\bB Hc p/\Hc Pr=some (.lst (zr zs))/\PO Hc zs/\Hc M=some (.lst (NV (gx n (zp zs))))/\sX n (List.range n) (i+1) (dM (zp zs))/\∀u∈zp zs,u.1<u.2)
   ⟨[],⟨none,none,none,rfl⟩,aB.of s2,hp.same s2,gP,PO.nil,gM,sX.start (by rw[cE];lia),fun u hu=>nomatch hu⟩ ?_ ?_
  .rintro i σ Hc hi ⟨zs,⟨a,b,c,rfl⟩,sc,jB,P1,po,P3,Tr,yo⟩;have e1:(1:Int)+(i:Int)=((i+1:Nat):Int):=by lia
   rw[e1];have Xp:zs.length=i:=by have:=Tr.len;rw[jd,bT] at this;lia
   refine⟨_,rfl,((i+1:Nat):Int),rfl,by lia,by lia,fun D1 mW=>?_⟩;rw[show (((i+1:Nat):Int)).toNat=i+1 from rfl];refine wK (lo:=0) (n:=i+1) (fun x=>decide (iM (dM (zp zs)) (ci x)<8)) (fun σ=>∃a,σ=[a,some (.ref M)]) mW (by lia) ⟨_,rfl⟩ ?_ ?_
   .rintro x σ H4 Kt Kf hx ⟨a',rfl⟩ tm kt kf;rw[eK] at kt |-;have Ag:x<(gx n (zp zs)).length:=by rw[jA];lia
    refine⟨_,rfl,_,rfl,M,_,_,_,rfl,rfl,aV.of (tm _ _ P3),am (dR Ag),_,_,rfl,rfl,_,rfl,?_⟩;have ed:=tG (ps:=zp zs) (show x<n by lia);refine eI (fun e=>?_) (fun e=>?_)
    .exact⟨_,rfl,kt _ _ ⟨_,rfl⟩ (aA.refl _) (cx (by have:=dB e;lia))⟩
    .exact kf _ _ ⟨_,rfl⟩ (aA.refl _) (di (fun z=>e (cx (by lia))))
   .intro H4 tm Be;have e0:((((List.range (i+1)).filter fun x=>decide (iM (dM (zp zs)) (ci x)<8)).map fun (x:Nat)=>V.int (0+(x:Int))))=NV ((List.range (i+1)).filter fun x=>decide (iM (dM (zp zs)) (ci x)<8)):=js fun x _=>by rw[eK]
    rw[e0] at Be;obtain⟨h0,hh0,dd0⟩:=Tr.free lS (by rw[cE];lia);have tk:(List.range n).take (i+1)=List.range (i+1):=by rw[List.take_range,vB (by lia)]
    rw[tk] at hh0;have ne:0<((List.range (i+1)).filter fun x=>decide (iM (dM (zp zs)) (ci x)<8)).length:=zu (cS.mpr ⟨hh0,cx dd0⟩);have le:((List.range (i+1)).filter fun x=>decide (iM (dM (zp zs)) (ci x)<8)).length<=i+1:=aY (fW _ _) (by rw[cE];exact aW _);generalize HI:(List.range (i+1)).filter (fun x=>decide (iM (dM (zp zs)) (ci x)<8))=fs at *;have n9:=jB.same tm;refine⟨_,rfl,_,rfl,_,rfl,D1,_,rfl,.inl (aV.of Be),p,_,rfl,by rw[aO];exact ne,by rw[aO];lia,n9,fun d H5 hd s5 u6=>?_⟩;rw[aO] at hd;have nD1:D1≠p:=jB.ne mW;have hv:fs[d]?=some fs[d]:=bq hd;refine⟨D1,_,_,_,rfl,rfl,aV.of (s5 _ _ Be nD1),am (dR hd),?_⟩;have Xq:fs.getD d 0∈fs:=by rw[aS,hv];exact dv _
    generalize fs.getD d 0=sv at *;rw[<-HI] at Xq;obtain⟨Gg,uv⟩:=cS.mp Xq;have hsv:sv<i+1:=bH.mp Gg;have hsd:iM (dM (zp zs)) (ci sv)<8:=dB uv;have P5:Pr≠p:=hp.ne Nx;have JA:M≠p:=hp.ne hMH;have UR:=s5 _ _ (tm _ _ P1) P5;have Z0:=s5 _ _ (tm _ _ P3) JA;have Br:PO H5 zs:=(po.same tm).lX s5 n9;refine⟨_,rfl,.inl ⟨rfl,_,aV.of UR⟩,_,rfl,_,rfl,by show 2<=sizeLine;decide,fun t ht=>?_⟩;have st:=aj (o:=ud (ci sv,ci (i+1))) ht;refine⟨Pr,_,_,rfl,rfl,st _ _ UR,by rw[dA,Xp];exact cQ (show i<33 by lia) (by decide),?_⟩;have Ny:(upd (upd H5 t (ud (ci sv,ci (i+1)))) Pr (.lst (zr zs++[.ref t]))) M=some (.lst (NV (gx n (zp zs)))):=by rw[ao nPM.symm];exact st _ _ Z0
    have US:sv<(gx n (zp zs)).length:=by rw[jA];lia
    refine⟨_,rfl,_,rfl,M,_,_,_,rfl,rfl,aV.of Ny,am (dR US),_,_,rfl,rfl,_,rfl,_,rfl,M,_,(sv:Int),sv,rfl,rfl,Ny,eH (by rw[aO];exact US),?_⟩;have e2:(NV (gx n (zp zs))).set sv (V.int ((((gx n (zp zs)).getD sv 0:Nat):Int)+1))=NV ((gx n (zp zs)).set sv (iM (dM (zp zs)) (ci sv)+1)):=by
     rw[tG (by lia)];exact pT (x:=iM (dM (zp zs)) (ci sv)+1)
    have hkn:i+1<((gx n (zp zs)).set sv (iM (dM (zp zs)) (ci sv)+1)).length:=by rw[j5,jA];lia
    have ek:((gx n (zp zs)).set sv (iM (dM (zp zs)) (ci sv)+1)).getD (i+1) 0=iM (dM (zp zs)) (ci (i+1)):=by
     rw[aS,rm (by lia),<-aS,tG (by lia)]
    have Xr:(upd (upd H5 t (ud (ci sv,ci (i+1)))) Pr (.lst (zr zs++[.ref t]))) Pr=some (.lst (zr zs++[.ref t])):=af;have o6:∀b,b≠Pr->(upd (upd H5 t (ud (ci sv,ci (i+1)))) Pr (.lst (zr zs++[.ref t]))) b=(upd H5 t (ud (ci sv,ci (i+1)))) b:=fun b n=>ao n;have E5:PO (upd (upd H5 t (ud (ci sv,ci (i+1)))) Pr (.lst (zr zs++[.ref t]))) (zs++[(t,(ci sv,ci (i+1)))]):=PO.putL (xs:=zr zs) ((Br.same st).append (PO.one af)) (st _ _ UR);generalize upd (upd H5 t (ud (ci sv,ci (i+1)))) Pr _=H6 at *;generalize Lj:upd H6 M _=H7;have gM7:H7 M=some (.lst (NV ((gx n (zp zs)).set sv (iM (dM (zp zs)) (ci sv)+1)))):=by rw[<-Lj,af];exact congrArg (fun l=>some (HO.lst l)) e2
    have o7:∀b,b≠M->H7 b=H6 b:=fun b n=>by rw[<-Lj,ao n]
    refine⟨_,rfl,_,rfl,M,_,_,_,rfl,rfl,aV.of gM7,am (dR hkn),_,_,rfl,rfl,_,rfl,_,rfl,M,_,((i+1:Nat):Int),i+1,rfl,rfl,gM7,eH (by rw[aO];exact hkn),?_⟩;generalize hH8:upd H7 M _=H8;have e3:(NV ((gx n (zp zs)).set sv (iM (dM (zp zs)) (ci sv)+1))).set (i+1) (V.int (((((gx n (zp zs)).set sv (iM (dM (zp zs)) (ci sv)+1)).getD (i+1) 0:Nat):Int)+1))=NV (gx n (zp zs++[(ci sv,ci (i+1))])):=by
     rw[ek,<-HF (by lia) (by lia) (by lia)];exact pT (x:=iM (dM (zp zs)) (ci (i+1))+1)
    have gM8:H8 M=some (.lst (NV (gx n (zp zs++[(ci sv,ci (i+1))])))):=by rw[<-hH8,af];exact congrArg (fun l=>some (HO.lst l)) e3
    have o8:∀b,b≠M->H8 b=H6 b:=fun b n=>by rw[<-hH8,ao n];exact o7 b n
    have ez:zp (zs++[(t,(ci sv,ci (i+1)))])=zp zs++[(ci sv,ci (i+1))]:=by rw[fh];rfl
    refine⟨zs++[(t,(ci sv,ci (i+1)))],⟨_,_,_,rfl⟩,fun b o e n=>?_,?_,?_,fun z hz=>?_,by rw[ez];exact gM8,?_,fun u hu=>?_⟩
    .rw[o8 _ (ap e hMH),o6 _ (ap e Nx)];exact st _ _ (s5 _ _ (tm _ _ (sc _ _ e n)) n)
    .obtain⟨x,y,e,r⟩:=u6.same st;exact⟨x,y,by rw[o8 _ JA.symm,o6 _ P5.symm];exact e,r⟩
    .rw[o8 _ nPM,Xr,ff];rfl
    .have g:=E5 z hz;rw[o8 _ (by rintro e;rw[e,Ny] at g;cases g)];exact g
    .rw[ez,jS];exact Tr.add lS (fun x hx=>bH.mp hx) (fw (by lia)) (by rw[tk];exact Gg) hsd
    .rw[ez] at hu;rcases bY.mp hu with z|z
     .exact yo u z
     .rw[cC.mp z];show ((sv:Nat):Int)<((i+1:Nat):Int);lia
  .rintro σ Hc ⟨zs,⟨a,b,c,rfl⟩,sc,jB,P1,po,P3,Tr,yo⟩;rw[show n-1+1=n by lia] at Tr;exact⟨_,rfl,q Pr zs Hc sc jB Nx P1 po (Tr.lN n1 n2 (me _)) yo⟩
end
end jT
namespace L2
open PySem PySem.Spec PyProof.Rows
def P6(K:PySem.W.Frag):List V->Hp->VK->Prop:=fun xs H Q=>∃ (l:Addr) (ns:List Int),xs=[.ref l]/\aV K H l (ns.map V.int)/\ns.length<64/\∀ (D:Addr) (P7:List Int),H D=none->P7.Perm ns->P7.Pairwise (·<=·)->Q (.ref D) (upd H D (.lst (P7.map V.int)))
theorem Bs{X:Cx}:fA X (.builtin "sorted") (P6 X.K):=by
 intro ag s σ H xs us Q I r h;obtain⟨l,ns,rfl,hl,T4,q⟩:=h;obtain⟨u1,rfl,r1⟩:=r.one;obtain rfl:u1=Value.ref l:=r1;obtain⟨its,rv,pl,_⟩:=I.list hl;have ia:=Ax rv;refine sorted_ints pl.isList ia (by rw[ia.length];exact T4) fun out P7 a1 a2 a3=>?_;obtain⟨⟨e,ho⟩,keep⟩:=yk (h:=s.heap) (vs:=its) (out:=out);have yi:s.heap.get? (s.heap.objs.size+1)=none:=oM (Nat.le_succ _);have eo:out=out.toList.toArray:=by simp
 refine⟨.ref (s.heap.objs.size+1),_,I.xN (t':=s.toks) (o:=.lst (P7.map V.int)) keep yi ⟨?_,out.toList,e,pB a1,by rw[ho]⟩,rfl,q _ P7 (I.cI.sk yi) a2 a3⟩;rw[aP,a2.length_eq];exact aY (kO T4) (by decide)
theorem yE{K:PySem.W.Frag}{a D:Addr}{xs:List V}{g:TG}{tt:TT}{te:TE}{dJ:Hp->Prop}{σB:St}{H0:Hp}(Pv:Nat->List V->St->Hp->Prop)(h0:Pv 0 [] σB H0)(hl:∀i ys σ H,i<=xs.length->Pv i ys σ H->bt K H a xs)(hs:∀i x ys σ H (Kt:V->St->Hp->Prop) (Kf:St->Hp->Prop),xs[i]?=some x->Pv i ys σ H->
   (∀v σ2 H4,H4 D=some (.lst ys)->ys.length<sizeLine->Pv (i+1) (ys++[v]) σ2 (upd H4 D (.lst (ys++[v])))->Kt v σ2 H4)->(∀σ2 H3,Pv (i+1) ys σ2 H3->Kf σ2 H3)->
   g x σ H fun σ2 H2=>tt σ2 H2 fun b H3=>if b=true then te σ2 H3 fun v H4=>Kt v σ2 H4 else Kf σ2 H3)(hd:∀ys σ H,Pv xs.length ys σ H->dJ H):gJ (RJ K a) g tt te D dJ σB H0:=by
 refine⟨fun i m σ H=>m=xs.length-i/\i<=xs.length/\∃ys,Pv i ys σ H,⟨xs.length,by simp,de _,[],h0⟩,?_⟩;rintro i m σ H ⟨rfl,hi,ys,p⟩;have q:=hl i ys σ H hi p;by_cases fz:i<xs.length
 .refine .inr ⟨⟨xs,xs[i],q,by simp[fz]⟩,?_⟩;rintro x H' ⟨rfl,y⟩;exact hs i x ys σ _ (fun v σ2 H4=>∃ys,H4 D=some (.lst ys)/\ys.length<sizeLine/\∃m',m'<xs.length-i/\m'=xs.length-(i+1)/\i+1<=xs.length/\∃xY,Pv (i+1) xY σ2 (upd H4 D (.lst (ys++[v]))))
   (fun σ2 H3=>∃m',m'<xs.length-i/\m'=xs.length-(i+1)/\i+1<=xs.length/\∃xY,Pv (i+1) xY σ2 H3) (y xs q) p
   (fun v σ2 H4 z1 z2 z3=>⟨ys,z1,z2,_,by lia,rfl,fz,_,z3⟩) (fun σ2 H3 z=>⟨_,by lia,rfl,fz,_,z⟩)
 .have e:i=xs.length:=by lia
  subst e;exact .inl ⟨⟨xs,q,aW _⟩,hd ys σ H p⟩
end L2
namespace jT
open PySem L2 fJ
abbrev HJ:Stmt:=iK 39
theorem tH:(["_law_house","_law_pairs"]:List Str).Nodup:=by decide +kernel
theorem uf:(["_law_pair","_law_house"]:List Str).Nodup:=by decide +kernel
theorem Lk{K:PySem.W.Frag}{a D:Addr}{zs:Zs}{g:TG}{tt:TT}{te:TE}{dJ:Hp->Prop}{σB:St}{H0:Hp}(c:Int×Int->Bool)(bE:St->Prop)(ha:H0 a=some (.lst (zr zs)))(hD:H0 D=none)(hn:zs.length<=1000)(h0:bE σB)(hs:∀z σ H (Kt:V->St->Hp->Prop) (Kf:St->Hp->Prop),z∈zs->bE σ->aA H0 H->(∀σ2 H2,bE σ2->aA H H2->c z.2=true->Kt (.ref z.1) σ2 H2)->(∀σ2 H2,bE σ2->aA H H2->c z.2=false->Kf σ2 H2)->
   g (.ref z.1) σ H fun σ2 H2=>tt σ2 H2 fun b H3=>if b=true then te σ2 H3 fun v H4=>Kt v σ2 H4 else Kf σ2 H3)(hd:∀H,aA H0 H->H D=some (.lst (zr (zs.filter fun z=>c z.2)))->dJ H):gJ (Dr K a) g tt te D dJ σB (upd H0 D (.lst [])):=by
 refine dh (xs:=zr zs) (fun i ys σ H=>bE σ/\aA H0 H/\H D=some (.lst ys)/\ys=zr ((zs.take i).filter fun z=>c z.2)) ⟨h0,aj hD,af,rfl⟩ (fun i ys σ H _ z=>aV.of (z.2.1 _ _ ha)) ?_ ?_
 .rintro i x ys σ H Kt Kf hx ⟨sh,sm,d8,rfl⟩ kt kf;obtain⟨z,hz,rfl⟩:=pN hx;have hi:i<zs.length:=(cY.mp hz).1;have tk:zs.take (i+1)=zs.take i++[z]:=by rw[fZ,hz];rfl
  refine hs z σ H Kt Kf (cZ hz) sh sm (fun σ2 H2 mI s2 e=>?_) (fun σ2 H2 mI s2 e=>?_)
  .refine kt _ _ _ (s2 _ _ d8) ?_ ⟨mI,bD (sm.trans s2) hD,af,?_⟩
   .rw[dA];exact fq (fW _ _) (fq (vp _ _) (cQ (show i<1000 by lia) (by decide)))
   .rw[tk,ft,ff];simp[c_,e,zr]
  .refine kf _ _ ⟨mI,sm.trans s2,s2 _ _ d8,?_⟩;rw[tk,ft];simp[c_,e]
 .rintro ys σ H ⟨_,sm,d8,rfl⟩;rw[dA,iA] at d8;exact hd H sm d8
theorem Ew{zs:Zs}{c:Int×Int->Bool}:zp (zs.filter fun z=>c z.2)=(zp zs).filter c:=by
 unfold zp;rw[oX];rfl
theorem ug{zs:Zs}{c:Int×Int->Bool}:(zr (zs.filter fun z=>c z.2)).length=((zp zs).filter c).length:=by rw[dA,<-bT,Ew]
theorem Ll{x:Int}{u:Int×Int}:qN (.int x) [.int u.1,.int u.2]=(decide (u.1=x)||decide (u.2=x)):=by
 unfold qN;rw[hV];simp[iH]
theorem P8{a b:Int}{ns:List Int}(pm:ns.Perm [a,b])(so:ns.Pairwise (·<=·)):∃x y,ns=[x,y]/\x<=y/\(x=a\/x=b)/\(y=a\/y=b):=by
 have hl:=pm.length_eq
 match ns,hl with
 |[x,y],_=>
  have hx:x∈[a,b]:=pm.mem_iff.mp (by simp);have hy:y∈[a,b]:=pm.mem_iff.mp (by simp);refine⟨x,y,rfl,?_,by simpa using hx,by simpa using hy⟩;exact(rp.mp so).1 y (by simp)
section
variable {P:Program} {w:World} {K:PySem.W.Frag} {mg:Str->Option Value} {base:Heap}
theorem Nz{H:Hp}{zs:Zs}(po:PO H zs):zs.length=(zp zs).length/\∀i,i<(zp zs).length->bt K H ((zs.map (·.1)).getD i 0) [.int ((zp zs).getD i (0,0)).1,.int ((zp zs).getD i (0,0)).2]:=by
 refine⟨bT.symm,fun i hi=>?_⟩;rw[bT] at hi;rw[yr hi,CO hi];exact bt.of (po _ (dv hi))
theorem pV:aT ["_law_pot_here","_law_n","_law_pairs","_law_k","_law_one","_law_other_here","_law_full"] ["_law_pot_here","_law_n"] (av HJ):=cV (by decide +kernel)
theorem Lm{f:Addr}{fd:FuncData}(F:gv K "_law_mesh" "_law_mesh" HJ f fd)(B:Bl mg)(D:cu P w K mg base bv 1 "_law_take" ["_law_pot_here","_law_many"] fv)(TR:cu P w K mg base bv 2 "_law_tree" ["_law_pot_here","_law_n"] mL):bU P w K mg base bv 3 f fd ["_law_pot_here","_law_n"] mL:=by
 refine F.ok pV (fun vs H Q E h=>?_) (fun dY A outer s H vs Q E hr h=>?_)
 .obtain⟨p,n,rfl,_⟩:=h;rfl
 .obtain⟨p,n,rfl,n1,n2,hp,q⟩:=h;have h1:cB 1 _:=hr.mono (by decide);refine'⟨_,(ai (aN (i:=2) pV.nd rfl bL (az TR hr aL (aa (pv 0) (aa (pv 1) ae))))
   (ai (cP dO rfl (bC rfl B.range (aa (az D h1 aL (aa (pv 0) (aa aq ae))) ae)) (aw (i:=3) pV.nd rfl aU)
    (ai (dW (aI Bs (by rfl) B.sorted zk (aa (cm (aa (az D h1 aL (aa (pv 0) (aa (pv 1) ae))) (aa (az D h1 aL (aa (pv 0) (aa (pv 1) ae))) ae))) ae)) (KJ rfl (ba (aw (i:=4) pV.nd rfl aU) (ba (aw (i:=5) pV.nd rfl aU) dE))))
    (ai (aN (i:=6) pV.nd rfl aU (gh B5 (aI (uZ rfl) (by rfl) B.max rj (aa ?c1 ae)) aq (aR _)))
    (ak (bA (PW.pt (io (aK qa (pv 4) (pv 5) (aR _)) (io (aK (uW hr.u) (br (aa (pv 4) (aa (pv 5) ae))) (pv 2) rfl) (gU (fT (dq (pv 6))))))) (ak (cU (hX g9 m6 mZ eA (pv 2) (aa (br (aa (pv 4) (aa (pv 5) ae))) ae)))) aQ)))))
   (ak (aM (pv 2))))),?_⟩
  case c1=>
   refine' bV (g:=(bK 0)) (te:=(J2 (fun xs H Q=>∃p ys,xs=[V.ref p]/\(aV K H p ys\/bt K H p ys)/\Q (.int ys.length) H) (bi (F9 [none,some 0] (M7 K (aX 1)) (bK 0) (ja (gw (RN K false) (aX 1) (aX 0))) (aX 0)) dQ))) (NB:=["_law_house","_law_pairs"]) (src:=[none,some 2]) (bJ (by kernel_rfl)) rfl (rX (br (aa (pv 4) (aa (pv 5) ae)))) ?g ?t ?e;case g=>exact fun cl C s₃ H₃ fp=>(aw (i:=0) tH rfl bL aU)
   case t=>exact fun cl C s₃ H₃ fp=>ce
   case e=>
    intro cl C s₃ H₃ fp;refine'(aI aF (by rfl) B.len cp (aa ?c2 ae));case c2=>
     refine' bV (g:=(bK 0)) (tt:=(ja (gw (RN K false) (aX 1) (aX 0)))) (te:=(aX 0)) (NB:=["_law_pair","_law_house"]) (src:=[none,some 0]) (bJ (by kernel_rfl)) rfl (bP (pv 1)) ?g ?t ?e;case g=>exact fun cl C s₃ H₃ fp=>(aw (i:=0) uf rfl aU bL)
     case t=>exact fun cl C s₃ H₃ fp=>eG (aK uD (pv 1) (pv 0) rfl)
     case e=>exact fun cl C s₃ H₃ fp=>(pv 0)
  refine⟨_,rfl,_,rfl,p,n,rfl,n1,n2,hp,fun Pr A9 H1 s1 kZ Nx hP1 Xs F1 Z1=>?_⟩;have P5:Pr≠p:=hp.ne Nx;refine⟨_,rfl,p,10,rfl,by decide,by decide,kZ,fun d H2 hd s2 km=>⟨(d:Int),rfl,by lia,by lia,dg (n:=d) (lo:=0) (fun i σ Hc=>∃zs:Zs,(∃a b c e,σ=[some (.ref p),some (.int n),some (.ref Pr),a,b,c,e])/\aB p H Hc/\bB Hc p/\Hc Pr=some (.lst (zr zs))/\PO Hc zs/\cA n (dM (zp zs))/\∀u∈zp zs,u.1<u.2) ⟨A9,⟨_,_,_,_,rfl⟩,s1.trans s2,km,s2 _ _ hP1 P5,Xs.lX s2 kZ,F1,Z1⟩ ?_ ?_⟩⟩
  .rintro i σ Hc hi ⟨zs,⟨x3,x4,x5,x6,rfl⟩,sc,jB,P1,po,Fi,yo⟩;refine⟨_,rfl,_,rfl,p,n,rfl,by lia,by lia,jB,fun d1 H3 h3 s3 oC=>⟨_,rfl,_,rfl,p,n,rfl,by lia,by lia,oC,fun d2 H4 h4 s4 n9=>⟨by show 2<=sizeLine;decide,fun L hL=>⟨L,[(d1:Int),(d2:Int)],rfl,aV.of af,by show 2<64;decide,fun S P7 hS pm so=>?_⟩⟩⟩⟩;obtain⟨x,y,rfl,xy,hx,hy⟩:=P8 pm so;obtain⟨a,b,rfl,rfl,han,UT⟩:∃a b:Nat,x=(a:Int)/\y=(b:Int)/\a<n/\b<n:=⟨x.toNat,y.toNat,by lia,by lia,by lia,by lia⟩
   have sL:=aj (o:=.lst [.int (d1:Int),.int (d2:Int)]) hL;have sS:=aj (o:=.lst ([(a:Int),(b:Int)].map V.int)) hS;refine⟨S,_,_,rfl,aV.of af,_,_,rfl,_,_,rfl,rfl,?_⟩;have s5:aB p H _:=((sc.trans s3).trans s4).trans (aB.of (sL.trans sS));have u6:=n9.same (sL.trans sS);have UR:=sS _ _ (sL _ _ (s4 _ _ (s3 _ _ P1 P5) P5));have Br:=((po.lX s3 jB).lX s4 oC).same (sL.trans sS);generalize upd (upd H4 L _) S _=H5 at *;have Xp:zs.length<=256:=by have:=Fi.len;rw[jd,bT] at this;lia
   refine⟨_,rfl,_,rfl,by show 2<=sizeLine;decide,fun T hT=>⟨T,rfl,⟨_,bt.of af⟩,fun D1 mW=>?_⟩⟩;have sT:=aj (o:=.tup [.int (a:Int),.int (b:Int)]) hT;have gT:(upd H5 T (.tup [.int (a:Int),.int (b:Int)])) T=some (.tup [.int (a:Int),.int (b:Int)]):=af;have Xr:=sT _ _ UR;have E5:=Br.same sT;have s6:aB p H _:=s5.trans (aB.of sT);have Nn:=u6.same sT;generalize upd H5 T _=H6 at *;refine yE (xs:=[.int (a:Int),.int (b:Int)]) (fun i ys σ H7=>(∃x,σ=[x,some (.ref Pr)])/\aA H6 H7/\H7 D1=some (.lst ys)/\ys=(([a,b].take i).map fun (h:Nat)=>((iM (dM (zp zs)) (ci h):Nat):Int)).map V.int) ⟨⟨_,rfl⟩,aj mW,af,rfl⟩ (fun i ys σ H7 _ z=>bt.of (z.2.1 _ _ gT)) ?_ ?_
   .rintro j v ys σ H7 Kt Kf hv ⟨⟨x',rfl⟩,JB,NA,rfl⟩ kt kf;obtain⟨h,hh,rfl⟩:∃h:Nat,[a,b][j]?=some h/\v=.int (h:Int):=by
     match j,hv with
     |0,hv=>exact⟨a,rfl,by simpa using hv.symm⟩
     |1,hv=>exact⟨b,rfl,by simpa using hv.symm⟩
    have hj:j<2:=(cY.mp hh).1;have UU:=JB _ _ Xr;refine⟨_,rfl,Pr,rfl,⟨_,aV.of UU⟩,fun D2 iq=>?_⟩;refine Lk (fun u=>decide (u.1=ci h)||decide (u.2=ci h)) (fun σ=>∃a,σ=[a,some (.int (h:Int))]) UU iq (by lia) ⟨_,rfl⟩ ?_ ?_
    .rintro z σ H8 Kt' Kf' hz ⟨a',rfl⟩ Sg kt' kf';have hz8:=Sg _ _ ((E5.same JB) z hz);refine⟨_,rfl,_,rfl,z.1,_,rfl,.inr (bt.of hz8),rfl,rfl,_,rfl,?_⟩;have e:=Ll (x:=ci h) (u:=z.2);refine eI (fun c=>?_) (fun c=>?_)
     .exact⟨_,rfl,kt' _ _ ⟨_,rfl⟩ (aA.refl _) (e ▸ c)⟩
     .exact kf' _ _ ⟨_,rfl⟩ (aA.refl _) (by rw[<-e];simpa using c)
    .intro H8 Sg UV;have eL:(zr (zs.filter fun z=>decide (z.2.1=ci h)||decide (z.2.2=ci h))).length=((zp zs).filter fun u=>decide (u.1=ci h)||decide (u.2=ci h)).length:=ug (c:=fun u=>decide (u.1=ci h)||decide (u.2=ci h));have eD:=u5 (ps:=zp zs) (h:=ci h) fun u hu=>by have:=yo u hu;lia
     refine⟨D2,_,rfl,.inl (aV.of UV),kt _ _ _ (Sg _ _ NA) ?_ ⟨⟨_,rfl⟩,bD (JB.trans Sg) mW,af,?_⟩⟩
     .rw[aP,aP];exact fq (vp _ _) (cQ (show j<3 by lia) (by decide))
     .rw[fZ,hh,zG,cK,cK,eL,eD];rfl
   .rintro ys σ H7 ⟨_,JB,NA,rfl⟩;have Z2:H7 D1=some (.lst ([((iM (dM (zp zs)) (ci a):Nat):Int),((iM (dM (zp zs)) (ci b):Nat):Int)].map V.int)):=NA;refine⟨D1,_,rfl,aV.of Z2,by simp,fun M hM pA=>⟨_,_,rfl,rfl,?_⟩⟩;have s7:aB p H H7:=s6.trans (aB.of JB);have JC:=Nn.same JB;have UU:=JB _ _ Xr;have Ln:=E5.same JB;have da:=pA _ (by simp:((iM (dM (zp zs)) (ci a):Nat):Int)∈_);have db:=pA ((iM (dM (zp zs)) (ci b):Nat):Int) (by simp);refine⟨_,rfl,_,rfl,rfl,_,rfl,?_⟩;by_cases qS:a=b
    .refine f9 (by subst qS;simp) (cG ?_);exact⟨zs,⟨_,_,_,_,rfl⟩,s7,JC,UU,Ln,Fi,yo⟩
    refine gL (by simp;lia) ⟨_,rfl,_,rfl,by show 2<=sizeLine;decide,fun t ht=>?_⟩;have st:=aj (o:=ud ((a:Int),(b:Int))) ht;have Si:=st _ _ UU;have HK:=Ln.same st;obtain⟨l1,l2⟩:=Nz (K:=K) HK;refine⟨_,rfl,t,Pr,((a:Int),(b:Int)),zs.map (fun z:Addr×Int×Int=>z.1),zp zs,rfl,rfl,bt.of af,by rw[<-nU];exact aV.of Si,by rw[aP];exact l1,l2,_,rfl,?_⟩;have s8:aB p H _:=s7.trans (aB.of st);have E6:=JC.same st;generalize upd H7 t _=H8 at *;by_cases qh:((a:Int),(b:Int))∈zp zs
    .refine f9 (by simp[qh]) (cG ?_);exact⟨zs,⟨_,_,_,_,rfl⟩,s8,E6,Si,HK,Fi,yo⟩
    refine gL (by simp[qh]) ⟨_,rfl,_,rfl,?_⟩;by_cases NC:(7:Int)<M
    .refine f9 (by simp[NC]) ?_;exact⟨zs,⟨_,_,_,_,rfl⟩,s8,E6,Si,HK,Fi,yo⟩
    .refine gL (by simp[NC]) ?_;refine⟨_,rfl,.inl ⟨rfl,_,aV.of Si⟩,_,rfl,_,rfl,by show 2<=sizeLine;decide,fun t2 yF=>?_⟩;have t4:=aj (o:=ud ((a:Int),(b:Int))) yF;refine⟨Pr,_,_,rfl,rfl,t4 _ _ Si,by rw[dA];exact fq Xp (by decide),zs++[(t2,((a:Int),(b:Int)))],⟨_,_,_,_,rfl⟩,fun c o e m=>?_,?_,?_,?_,?_,?_⟩
     .rw[ao (ap e Nx)];exact t4 _ _ (s8 _ _ e m)
     .exact(E6.same t4).put P5.symm
     .rw[af,ff];rfl
     .exact PO.putL (xs:=zr zs) ((HK.same t4).append (PO.one af)) (t4 _ _ Si)
     .rw[fh];refine Fi.pair han UT qS qh (fun z=>?_) (by lia) (by lia);have:=yo _ z;simp at this;lia
     .intro u hu;rw[fh] at hu;rcases bY.mp hu with z|z
      .exact yo u z
      .rw[cC.mp z];show (a:Int)<(b:Int);lia
  .rintro σ Hc ⟨zs,⟨x3,x4,x5,x6,rfl⟩,sc,jB,P1,po,Fi,yo⟩;exact⟨_,rfl,q Pr zs Hc sc jB Nx P1 po Fi yo⟩
end
end jT
namespace fJ
def UW(m:Nat)(ns:List Nat)(i:Nat):List (Nat×Nat):=(List.range i).flatMap fun j=>xu m (pr (ns.take j)) (ns.getD j 0)
theorem gZ{α:Type}{f:Nat->List α}{n:Nat}:(List.range (n+1)).flatMap f=(List.range n).flatMap f++f n:=by
 rw[iQ,List.flatMap_append];simp
theorem wM:∀ {ns:List Nat} {x:Nat},pr (ns++[x])=pr ns*x
 |[],x=>by show x*1=1*x;lia
 |n::ns,x=>by show n*pr (ns++[x])=n*pr ns*x;rw[wM,Nat.mul_assoc]
theorem HL{m:Nat}:∀ {ns:List Nat} {st:Nat},bx m st ns=(List.range ns.length).flatMap fun j=>xu m (st*pr (ns.take j)) (ns.getD j 0)
 |[],st=>rfl
 |n::ns,st=>by
  show xu m st n++bx m (st*n) ns=_;rw[dC,oG,List.flatMap_cons,HL (ns:=ns)];congr 1
  .show xu m st n=xu m (st*1) n;rw[vP]
  .rw[List.flatMap_map];congr 1;funext j;show _=xu m (st*(n*pr (ns.take j))) (ns.getD j 0);rw[Nat.mul_assoc]
theorem k4{α:Type}{g:Nat->List α}{M:Nat}(hg:∀x,(g x).length<=M):∀ {m:Nat},((List.range m).flatMap g).length<=m*M
 |0=>de _
 |m+1=>by rw[gZ,cn,vK];have:=hg m;have:=k4 hg (m:=m);lia
theorem C1{m st n:Nat}:(xu m st n).length<=m:=by unfold xu;rw[aP];exact aY (fW _ _) (by simp)
def yG(b at_ h:Nat):List (Nat×Nat):=(List.range (b-h / b ^ at_ % b-1)).map fun k=>(h,h+(k+1)*b ^ at_)
theorem tI{b at_ h:Nat}(hb:b<=5):(yG b at_ h).length<=5:=by unfold yG;rw[aP,cE];lia
end fJ
namespace jT
open PySem L2 fJ
abbrev P9:Stmt:=iK 40
abbrev Bt:Stmt:=iK 41
def HM(ns:List Nat):Prop:=1<=ns.length/\ns.length<=5/\(∀x∈ns,2<=x/\x<=8)/\pr ns<=32
theorem lj:(["_law_house","_law_stride","_law_side"]:List Str).Nodup:=by decide +kernel
theorem lm:(["_law_more","_law_house","_law_stride"]:List Str).Nodup:=by decide +kernel
theorem jU:∀ {ns:List Nat} {i:Nat},(∀x∈ns,1<=x)->pr (ns.take i)<=pr ns
 |[],i,_=>by rw[List.take_nil];exact aW _
 |n::ns,0,h=>by
  show 1<=n*pr ns;have:∀ {l:List Nat},(∀x∈l,1<=x)->1<=pr l:=fun {l}=>by
   induction l with
   |nil=>intro _;exact aW _
   |cons x l ih=>intro hl;exact rO (hl x bZ) (ih fun y hy=>hl y (du _ hy))
  exact this (l:=n::ns) h
 |n::ns,i+1,h=>by
  show n*pr (ns.take i)<=n*pr ns;exact vo n (jU fun x hx=>h x (du _ hx))
theorem Ex{lo:Int}{n:Nat}{D:Addr}{g:TG}{tt:TT}{te:TE}{dJ:Hp->Prop}{σB:St}{H0:Hp}(c:Nat->Bool)(F:Nat->Int×Int)(bE:St->Prop)(hD:H0 D=none)(hn:n<=1000)(h0:bE σB)(hs:∀i σ H (R:V->St->Hp->Prop) (Kf:St->Hp->Prop),i<n->bE σ->aA H0 H->(∀σ2 p,bE σ2->H p=none->c i=true->R (.ref p) σ2 (upd H p (ud (F i))))->(∀σ2,bE σ2->c i=false->Kf σ2 H)->g (.int (lo+i)) σ H fun σ2 H2=>tt σ2 H2 fun b H3=>if b=true then te σ2 H3 fun v H4=>R v σ2 H4 else Kf σ2 H3)(hd:∀zs H,aA H0 H->H D=some (.lst (zr zs))->PO H zs->zp zs=((List.range n).filter c).map F->dJ H):gJ (EW lo n) g tt te D dJ σB (upd H0 D (.lst [])):=by
 refine eT (fun i ys σ H=>bE σ/\aA H0 H/\H D=some (.lst ys)/\∃zs:Zs,ys=zr zs/\PO H zs/\zp zs=((List.range i).filter c).map F) ⟨h0,aj hD,af,[],rfl,PO.nil,rfl⟩ ?_ ?_
 .rintro i ys σ H Kt Kf hi ⟨sh,sm,d8,zs,rfl,po,ep⟩ kt kf;have hl:zs.length<=i:=by
   rw[<-bT,ep,aP];exact aY (fW _ _) (by rw[cE];exact aW _)
  refine hs i σ H Kt Kf hi sh sm (fun σ2 p mI hp e=>?_) (fun σ2 mI e=>?_)
  .have nD:D≠p:=ap d8 hp;refine kt _ _ _ (by rw[ao nD];exact d8) (by rw[dA];exact fq (show zs.length<=1000 by lia) (by decide)) ⟨mI,bD (sm.trans (aj hp)) hD,af,zs++[(p,F i)],?_,?_,?_⟩
   .rw[ff];rfl
   .refine PO.putL (xs:=zr zs) ?_ (by rw[ao nD];exact d8);exact(po.putN hp).append (PO.one af)
   .rw[fh,ep,iQ,ft,cK];simp[c_,e,zp]
  .refine kf _ _ ⟨mI,sm,d8,zs,rfl,po,?_⟩;rw[ep,iQ,ft];simp[c_,e]
 .rintro ys σ H ⟨_,sm,d8,zs,rfl,po,ep⟩;exact hd zs H sm d8 po ep
theorem qo.ext{H H2 H3:Hp}{D:Addr}{ts us:Ts}{kj zs:Zs}(hD:H D=none)(sm:aA H H2)(h1:H2 D=some (.lst (zr kj)))(Ev:PO H2 kj)(ez:zp kj=ts)(s3:aA H2 H3)(po:PO H3 zs)(e:zp zs=us):qo H D (ts++us) (upd H3 D (.lst (zr kj++zr zs))):=
 ⟨bD (sm.trans s3) hD,kj++zs,by rw[af,ff],PO.putL (xs:=zr kj) ((Ev.same s3).append po) (s3 _ _ h1),by rw[fh,ez,e]⟩
section
variable {P:Program} {w:World} {K:PySem.W.Frag} {mg:Str->Option Value} {base:Heap}
theorem qp:aT ["_law_sides","_law_many","_law_side","_law_pairs","_law_stride"] ["_law_sides"] (av P9):=cV (by decide +kernel)
def ND(H:Hp)(m:Nat)(ts:Ts)(Q:V->Hp->Prop):Prop:=∀ (t r:Addr) (zs:Zs) (H':Hp),aA H H'->H t=none->H r=none->H' t=some (.tup [.int m,.ref r])->H' r=some (.lst (zr zs))->PO H' zs->zp zs=ts->Q (.ref t) H'
def HN:Sp:=fun vs H Q _=>∃ (a:Addr) (ns:List Nat),vs=[.ref a]/\H a=some (.tup (NV ns))/\HM ns/\ND H (pr ns) ((mH ns).map i4) Q
theorem P_{f:Addr}{fd:FuncData}(F:gv K "_law_box" "_law_box" P9 f fd)(B:Bl mg):bU P w K mg base bv 1 f fd ["_law_sides"] HN:=by
 refine F.ok qp (fun vs H Q E h=>?_) (fun dY A outer s H vs Q E hr h=>?_)
 .obtain⟨a,ns,rfl,_⟩:=h;rfl
 .obtain⟨a,ns,rfl,ha,⟨hl0,hl,hn,hm⟩,k⟩:=h;refine'⟨_,(ai (aN (i:=1) qp.nd rfl aU aq)
   (ai (cP dO rfl (rX (pv 0)) (aw (i:=2) qp.nd rfl bL)
    (ak (aN (i:=1) qp.nd rfl aU (bu jN (pv 1) (pv 2)))))
   (ai (aN (i:=3) qp.nd rfl aU (cm ae))
   (ai (aN (i:=4) qp.nd rfl bL aq)
   (ai (cP dO rfl (rX (pv 0)) (aw (i:=2) qp.nd rfl bL)
    (ai (cU (hX g9 zi zh pz (pv 3) (aa ?c1 ae)))
    (ak (aN (i:=4) qp.nd rfl bL (bu jN (pv 4) (pv 2))))))
   (ak (aM (br (aa (pv 1) (aa (pv 3) ae)))))))))),?_⟩
  case c1=>
   refine' bV (g:=(bK 0)) (tt:=(ja (gw (tW fun i j=>.bl (decide (i<j))) (gw (rI (fun _ j=>0<j) fun i j=>.int (i % j)) (gw (rI Ow fun i j=>.int (i / j)) (aX 0) (aX 1)) (aX 2)) (gw (tW fun i j=>.int (i-j)) (aX 2) (tC (.int 1)))))) (te:=(kh (bi (aX 0) (bi (gw (tW fun i j=>.int (i+j)) (aX 0) (aX 1)) dQ)))) (NB:=["_law_house","_law_stride","_law_side"]) (src:=[none,some 4,some 2]) (bJ (by kernel_rfl)) rfl (bC rfl B.range (aa (pv 1) ae)) ?g ?t ?e;case g=>exact fun cl C s₃ H₃ fp=>(aw (i:=0) lj rfl aU bL)
   case t=>exact fun cl C s₃ H₃ fp=>eG (aK iV (bu iU (bu vV (pv 0) (pv 1)) (pv 2)) (bu mv (pv 2) aq) (aR _))
   case e=>exact fun cl C s₃ H₃ fp=>(br (aa (pv 0) (aa (bu dP (pv 0) (pv 1)) ae)))
  have Z3:∀x∈ns,1<=x:=fun x hx=>by have:=hn x hx;lia
  refine⟨_,rfl,a,rfl,⟨_,bt.of ha⟩,vU (K:=K) (xs:=NV ns) (fun i σ H2=>H2=H/\∃x2,σ=[some (.ref a),some (.int ((pr (ns.take i):Nat):Int)),x2,none,none]) ⟨rfl,_,rfl⟩ (fun i σ H2 _ z=>by rw[z.1];exact bt.of ha) ?_ ?_⟩
  .rintro i x σ H2 hx ⟨rfl,x2,rfl⟩;obtain⟨n,hv,rfl⟩:=n6 hx;have hnn:=hn n (cZ hv);have nj:=jU (ns:=ns) (i:=i) Z3;have tk:ns.take (i+1)=ns.take i++[n]:=by rw[fZ,hv];rfl
   rw[tk,wM];exact⟨_,rfl,_,rfl,_,_,rfl,rfl,.inr ⟨by lia,by lia⟩,rfl,_,rfl⟩
  rintro σ H2 ⟨rfl,x2,rfl⟩;rw[aO,iA];refine⟨by show 0<=sizeLine;decide,fun D hD=>?_⟩;have s0:=aj (o:=.lst []) hD;refine⟨_,rfl,a,rfl,⟨_,bt.of (s0 _ _ ha)⟩,vU (K:=K) (xs:=NV ns) (fun i σ Hc=>(∃x2,σ=[some (.ref a),some (.int ((pr ns:Nat):Int)),x2,some (.ref D),some (.int ((pr (ns.take i):Nat):Int))])/\qo H2 D ((UW (pr ns) ns i).map i4) Hc) ⟨⟨_,rfl⟩,s0,[],af,PO.nil,rfl⟩ (fun i σ Hc _ z=>bt.of (z.2.1 _ _ ha)) ?_ ?_⟩
  .rintro i x σ Hc hx ⟨⟨x3,rfl⟩,sm,kj,iq,Ev,NF⟩;obtain⟨n,hv,rfl⟩:=n6 hx;have hi:i<ns.length:=(cY.mp hv).1;have hnn:=hn n (cZ hv);have nj:=jU (ns:=ns) (i:=i) Z3;have abh:1<=pr (ns.take i):=jU (ns:=ns.take i) (i:=0) fun x hx=>Z3 x (j3 hx);have gd:ns.getD i 0=n:=by rw[aS,hv];rfl
   have tk:ns.take (i+1)=ns.take i++[n]:=by rw[fZ,hv];rfl
   rw[tk,wM];have eB:UW (pr ns) ns (i+1)=UW (pr ns) ns i++xu (pr ns) (pr (ns.take i)) n:=by unfold UW;rw[gZ,gd]
   have zl:kj.length<=160:=by
    rw[<-bT,NF,aP];exact aY (k4 (M:=32) fun j=>aY C1 hm) (by lia)
   rw[eB,cK];generalize pr (ns.take i)=st at *;refine⟨_,rfl,.inl ⟨rfl,_,aV.of iq⟩,_,rfl,((pr ns:Nat):Int),rfl,by lia,by lia,fun L hL=>?_⟩;refine Ex (lo:=0) (n:=pr ns) (fun h=>decide (h / st % n+1<n)) (fun h=>i4 (h,h+st)) (fun σ=>∃x,σ=[x,some (.int (st:Int)),some (.int (n:Int))]) hL (by lia) ⟨_,rfl⟩ ?_ ?_
   .rintro j σ H4 R Kf hj ⟨x,rfl⟩ tm kt kf;have Z4:((0:Int)+(j:Int)) / (st:Int) % (n:Int)=(((j / st % n:Nat)):Int):=by rw[eK];rfl
    refine⟨_,rfl,_,rfl,_,_,rfl,rfl,⟨by lia,by lia⟩,_,rfl,_,_,rfl,rfl,(by show (0:Int)<(n:Int);lia),_,rfl,_,_,rfl,rfl,_,_,rfl,rfl,_,rfl,?_⟩;rw[Z4];refine eI (fun c=>?_) (fun c=>?_)
    .have c:=dB c;refine⟨_,rfl,_,rfl,_,rfl,_,_,rfl,rfl,by show 2<=sizeLine;decide,fun t ht=>?_⟩;rw[eK];exact kt _ _ ⟨_,rfl⟩ ht (cx (by lia))
    .exact kf _ ⟨_,rfl⟩ (di fun z=>c (cx (by lia)))
   .intro zs H4 s4 Z5 Z6 Xt;have e4:zp zs=(xu (pr ns) st n).map i4:=by rw[Xt];unfold xu;rw[cy];rfl
    have l4:zs.length<=32:=by rw[<-bT,e4,aP];exact aY C1 hm
    refine⟨D,L,_,_,rfl,rfl,s4 _ _ iq,Z5,by rw[dA,dA];exact aY (show _<=192 by lia) (by decide),?_⟩;exact⟨_,rfl,_,rfl,_,_,rfl,rfl,.inr ⟨by lia,by lia⟩,⟨_,rfl⟩,qo.ext hD sm iq Ev NF s4 Z6 e4⟩
  .rintro σ Hc ⟨⟨x3,rfl⟩,sm,kj,iq,Ev,NF⟩;refine⟨_,rfl,_,rfl,by show 2<=sizeLine;decide,fun t ht=>?_⟩;have st:=aj (o:=.tup [.int ((pr ns:Nat):Int),.ref D]) ht;refine k t D kj _ (sm.trans st) (sm.free ht) hD af (st _ _ iq) (Ev.same st) ?_;rw[NF,aO];unfold mH UW;rw[HL];simp only[Nat.one_mul]
theorem g7:aT ["_law_figures","_law_base","_law_many","_law_k","_law_pairs","_law_stride","_law_house","_law_figure"] ["_law_figures","_law_base"] (av Bt):=cV (by decide +kernel)
def wN:Sp:=fun vs H Q _=>∃f b:Nat,vs=[.int f,.int b]/\1<=f/\f<=5/\2<=b/\b<=5/\b ^ f<=32/\ND H (b ^ f) ((sZ f b).map i4) Q
theorem HP{f:Addr}{fd:FuncData}(F:gv K "_law_words" "_law_words" Bt f fd)(B:Bl mg):bU P w K mg base bv 1 f fd ["_law_figures","_law_base"] wN:=by
 refine F.ok g7 (fun vs H Q E h=>?_) (fun dY A outer s H vs Q E hr h=>?_)
 .obtain⟨f,b,rfl,_⟩:=h;rfl
 .obtain⟨f,b,rfl,f1,f2,b1,b2,hm,k⟩:=h;refine'⟨_,(ai (aN (i:=2) g7.nd rfl aU aq)
   (ai (cP dO rfl (bC rfl B.range (aa (pv 0) ae)) (aw (i:=3) g7.nd rfl aU)
    (ak (aN (i:=2) g7.nd rfl aU (bu jN (pv 2) (pv 1)))))
   (ai (aN (i:=4) g7.nd rfl aU (cm ae))
   (ai (aN (i:=5) g7.nd rfl bL aq)
   (ai (cP dO rfl (bC rfl B.range (aa (pv 0) ae)) (aw (i:=3) g7.nd rfl aU)
    (ai (cP dO rfl (bC rfl B.range (aa (pv 2) ae)) (aw (i:=6) g7.nd rfl bL)
     (ai (aN (i:=7) g7.nd rfl aU (bu iU (bu vV (pv 6) (pv 5)) (pv 1)))
     (ak (cU (hX g9 zi zh pz (pv 4) (aa ?c1 ae))))))
    (ak (aN (i:=5) g7.nd rfl bL (bu jN (pv 5) (pv 1))))))
   (ak (aM (br (aa (pv 2) (aa (pv 4) ae)))))))))),?_⟩
  case c1=>
   refine' bV (g:=(bK 0)) (te:=(kh (bi (aX 1) (bi (gw (tW fun i j=>.int (i+j)) (aX 1) (gw (rI JS fun i j=>.int (i*j)) (aX 0) (aX 2))) dQ)))) (NB:=["_law_more","_law_house","_law_stride"]) (src:=[none,some 6,some 5]) (bJ (by kernel_rfl)) rfl (pe rfl B.range (aa aq (aa (bu mv (pv 1) (pv 7)) ae))) ?g ?t ?e;case g=>exact fun cl C s₃ H₃ fp=>(aw (i:=0) lm rfl aU bL)
   case t=>exact fun cl C s₃ H₃ fp=>ce
   case e=>exact fun cl C s₃ H₃ fp=>(br (aa (pv 1) (aa (bu dP (pv 1) (bu jN (pv 0) (pv 2))) ae)))
  have hpw:∀i,i<=f->b ^ i<=32:=fun i hi=>aY (Nat.pow_le_pow_right (by lia) hi) hm;refine⟨_,rfl,(f:Int),rfl,by lia,by lia,dg (n:=f) (lo:=0) (fun i σ H2=>H2=H/\∃x3,σ=[some (.int f),some (.int b),some (.int ((b ^ i:Nat):Int)),x3,none,none,none,none]) ⟨rfl,_,rfl⟩ ?_ ?_⟩
  .rintro i σ H2 hi ⟨rfl,x3,rfl⟩;have hbi:=hpw i (by lia);refine⟨_,rfl,_,rfl,_,_,rfl,rfl,.inr ⟨by lia,by lia⟩,rfl,some (.int (0+(i:Int))),?_⟩;rw[Nat.pow_succ];rfl
  rintro σ H2 ⟨rfl,x3,rfl⟩;refine⟨by show 0<=sizeLine;decide,fun D hD=>?_⟩;refine⟨_,rfl,(f:Int),rfl,by lia,by lia,dg (n:=f) (lo:=0) (fun i σ Hc=>(∃x3 x6 x7,σ=[some (.int f),some (.int b),some (.int ((b ^ f:Nat):Int)),x3,some (.ref D),some (.int ((b ^ i:Nat):Int)),x6,x7])/\qo H2 D (((List.range i).flatMap fun at_=>(List.range (b ^ f)).flatMap (yG b at_)).map i4) Hc) ⟨⟨_,_,_,rfl⟩,aj hD,[],af,PO.nil,rfl⟩ ?_ ?_⟩
  .rintro i σ Hc hi ⟨⟨x3,x6,x7,rfl⟩,Pi⟩;have hbi:=hpw i (by lia);have hbp:0<b ^ i:=Nat.pow_pos (by lia);refine⟨_,rfl,((b ^ f:Nat):Int),rfl,by lia,by lia,dg (n:=b ^ f) (lo:=0) (fun j σ H4=>(∃x3 x6 x7,σ=[some (.int f),some (.int b),some (.int ((b ^ f:Nat):Int)),x3,some (.ref D),some (.int ((b ^ i:Nat):Int)),x6,x7])/\qo H2 D ((((List.range i).flatMap fun at_=>(List.range (b ^ f)).flatMap (yG b at_))++(List.range j).flatMap (yG b i)).map i4) H4) ⟨⟨_,_,_,rfl⟩,by simpa using Pi⟩ ?_ ?_⟩
   .rintro j σ H4 hj ⟨⟨x3,x6,x7,rfl⟩,tm,zs4,Z7,Z6,Xt⟩;have Z4:((0:Int)+(j:Int)) / ((b ^ i:Nat):Int) % (b:Int)=((j / b ^ i % b:Nat):Int):=by rw[eK];rfl
    have fz:j / b ^ i % b<b:=ji _ (by lia);refine⟨_,rfl,_,rfl,_,_,rfl,rfl,⟨by lia,by lia⟩,_,rfl,_,_,rfl,rfl,(by show (0:Int)<(b:Int);lia),?_⟩;change bK 7 (V.int (((0:Int)+(j:Int)) / ((b ^ i:Nat):Int) % (b:Int))) _ _ _;rw[Z4];refine⟨_,rfl,.inl ⟨rfl,_,aV.of Z7⟩,_,rfl,_,rfl,_,_,rfl,rfl,1,_,rfl,⟨by lia,by lia,by lia,by lia⟩,fun L hL=>?_⟩;have hn:((b:Int)-((j / b ^ i % b:Nat):Int)-1).toNat=b-j / b ^ i % b-1:=by lia
    rw[hn];have zl:zs4.length<=1000:=by
     have e:=congrArg List.length Xt;rw[bT,aP,cn] at e;have z3:∀at_,((List.range (b ^ f)).flatMap (yG b at_)).length<=160:=fun at_=>aY (k4 fun x=>tI b2) (by lia);have z4:=k4 (m:=i) z3;have z5:=k4 (m:=j) fun x=>tI (at_:=i) (h:=x) b2;lia
    refine nV (lo:=1) (fun c=>i4 (j,j+(c+1)*b ^ i)) (fun σ=>∃x,σ=[x,some (.int (j:Int)),some (.int ((b ^ i:Nat):Int))]) hL (by lia) ⟨_,by rw[eK];rfl⟩ ?_ ?_
    .rintro c σ H5 R Kf hc ⟨x,rfl⟩ wO kt;have hq:(1+(c:Int))*((b ^ i:Nat):Int)=(((c+1)*b ^ i:Nat):Int):=by rw[Int.add_comm];exact(Int.natCast_mul _ _).symm
     refine⟨_,rfl,_,rfl,_,rfl,_,rfl,_,_,rfl,rfl,.inr ⟨by lia,by lia⟩,_,_,rfl,rfl,by show 2<=sizeLine;decide,fun t ht=>?_⟩;rw[hq];exact kt _ _ ⟨_,rfl⟩ ht
    .intro zs H5 s5 hL5 Br Xu _;have e5:zp zs=(yG b i j).map i4:=by rw[Xu];unfold yG;rw[cy];rfl
     have l5:zs.length<=5:=by rw[<-bT,e5,aP];exact tI b2
     refine⟨D,L,_,_,rfl,rfl,s5 _ _ Z7,hL5,by rw[dA,dA];exact aY (show _<=1005 by lia) (by decide),⟨_,_,_,rfl⟩,?_⟩;rw[gZ,<-dH,cK];exact qo.ext hD tm Z7 Z6 Xt s5 Br e5
   .rintro σ H4 ⟨⟨x3,x6,x7,rfl⟩,P4⟩;refine⟨_,rfl,_,rfl,_,_,rfl,rfl,.inr ⟨by lia,by lia⟩,⟨x3,x6,x7,?_⟩,?_⟩
    .rw[Nat.pow_succ];rfl
    .rw[gZ];exact P4
  .rintro σ Hc ⟨⟨x3,x6,x7,rfl⟩,sm,kj,iq,Ev,NF⟩;refine⟨_,rfl,_,rfl,by show 2<=sizeLine;decide,fun t ht=>?_⟩;have st:=aj (o:=.tup [.int ((b ^ f:Nat):Int),.ref D]) ht;exact k t D kj _ (sm.trans st) (sm.free ht) hD af (st _ _ iq) (Ev.same st) NF
end
abbrev Qa:Stmt:=iK 42
theorem n_:(["_law_k","_law_order_here","_law_n"]:List Str).Nodup:=by decide +kernel
theorem Ey:(["_law_k","_law_some"]:List Str).Nodup:=by decide +kernel
theorem HQ:(["_law_tie"]:List Str).Nodup:=by decide +kernel
theorem uh:(["_law_one","_law_begins"]:List Str).Nodup:=by decide +kernel
theorem yH:(["_law_tie","_law_ties"]:List Str).Nodup:=by decide +kernel
theorem ln{xs:List V}{k:Nat}:nq xs none (some (k:Int))=xs.take k:=by
 have h1:HT.e_ xs.length 0 none=0:=rfl;have h2:HT.e_ xs.length xs.length (some (k:Int))=min k xs.length:=by
  unfold HT.e_;simp;try lia
 unfold nq;rw[h1,h2,z9,Nat.sub_zero,List.take_eq_take_iff];simp;try lia
theorem oa{xs:List V}{k:Nat}:nq xs (some (k:Int)) none=xs.drop k:=by
 have h1:HT.e_ xs.length 0 (some (k:Int))=min k xs.length:=by
  unfold HT.e_;simp;try lia
 have h2:HT.e_ xs.length xs.length none=xs.length:=rfl;unfold nq;rw[h1,h2];by_cases c:k<=xs.length
 .rw[vB c];exact rf (by rw[l9];exact aW _)
 .rw[Nat.min_eq_right (by lia),List.drop_of_length_le (aW _),List.drop_of_length_le (by lia),List.take_nil]
theorem wP{β:Type}{K:PySem.W.Frag}{a D:Addr}{g:TG}{tt:TT}{te:TE}{dJ:Hp->Prop}{σB:St}{H0:Hp}(ms:List β)(e G:β->V)(bE:St->Prop)(ha:H0 a=some (.lst (ms.map e)))(hD:H0 D=none)(hn:ms.length<=1000)(h0:bE σB)(hs:∀m σ H (R:V->St->Hp->Prop) (Kf:St->Hp->Prop),m∈ms->bE σ->aA H0 H->(∀σ2 H2,bE σ2->aA H H2->R (G m) σ2 H2)->
   g (e m) σ H fun σ2 H2=>tt σ2 H2 fun b H3=>if b=true then te σ2 H3 fun v H4=>R v σ2 H4 else Kf σ2 H3)(hd:∀H,aA H0 H->H D=some (.lst (ms.map G))->dJ H):gJ (Dr K a) g tt te D dJ σB (upd H0 D (.lst [])):=by
 refine dh (xs:=ms.map e) (fun i ys σ H=>bE σ/\aA H0 H/\H D=some (.lst ys)/\ys=(ms.take i).map G) ⟨h0,aj hD,af,rfl⟩ (fun i ys σ H _ z=>aV.of (z.2.1 _ _ ha)) ?_ ?_
 .rintro i x ys σ H Kt Kf hx ⟨sh,sm,d8,rfl⟩ kt kf;rw[bN] at hx;cases hz:ms[i]? with
  |none=>rw[hz] at hx;cases hx
  |some m=>
   rw[hz] at hx;obtain rfl:e m=x:=bX hx;refine hs m σ H Kt Kf (cZ hz) sh sm (fun σ2 H2 mI s2=>?_);refine kt _ _ _ (s2 _ _ d8) ?_ ⟨mI,bD (sm.trans s2) hD,af,?_⟩
   .rw[aP];exact fq (m_ _ _) (fq hn (by decide))
   .rw[fZ,hz,zG,cK];rfl
 .rintro ys σ H ⟨_,sm,d8,rfl⟩;rw[aP,iA] at d8;exact hd H sm d8
theorem u7{h:Int}:∀ {ts:Ts},((ts.map fun u=>V.int u.1).countP fun z=>iH z (.int h))=iM ts h
 |[]=>rfl
 |u::ts=>by
  rw[eJ,kK,u7,show u::ts=[u]++ts from rfl,wJ];have e:iH (.int u.1) (.int h)=decide (u.1=h):=by rw[hV];simp[iH]
  rw[e];unfold iM;by_cases c:u.1=h <;> simp[c] <;> lia
section
variable {P:Program} {w:World} {K:PySem.W.Frag} {mg:Str->Option Value} {base:Heap}
theorem qq:aT ["_law_pot_here","_law_n","_law_order_here","_law_ties","_law_turn","_law_some","_law_more","_law_begins"] ["_law_pot_here","_law_n"] (av Qa):=cV (by decide +kernel)
def HR:Sp:=fun vs H Q _=>∃ (p:Addr) (n:Nat),vs=[.ref p,.int n]/\2<=n/\n<=32/\bB H p/\∀ (r:Addr) (zs:Zs) (H':Hp),aB p H H'->bB H' p->H r=none->H' r=some (.lst (zr zs))->PO H' zs->cA n (zp zs)->Q (.ref r) H'
theorem Qb{f:Addr}{fd:FuncData}(F:gv K "_law_one_way" "_law_one_way" Qa f fd)(B:Bl mg)(D:cu P w K mg base bv 1 "_law_take" ["_law_pot_here","_law_many"] fv)(OR:cu P w K mg base bv 2 "_law_order" ["_law_pot_here","_law_many"] lJ):bU P w K mg base bv 3 f fd ["_law_pot_here","_law_n"] HR:=by
 refine F.ok qq (fun vs H Q E h=>?_) (fun dY A outer s H vs Q E hr h=>?_)
 .obtain⟨p,n,rfl,_⟩:=h;rfl
 .obtain⟨p,n,rfl,n1,n2,hp,q⟩:=h;have h1:cB 1 _:=hr.mono (by decide);refine'⟨_,(ai (aN (i:=2) qq.nd rfl bL (az OR hr aL (aa (pv 0) (aa (pv 1) ae))))
   (ai (aN (i:=3) qq.nd rfl bL ?c1)
   (ai (cP dO rfl (bC rfl B.range (aa (az D h1 aL (aa (pv 0) (aa aq ae))) ae)) (aw (i:=4) qq.nd rfl aU)
    (ai (aN (i:=5) qq.nd rfl bL (fE Cc (az OR hr aL (aa (pv 0) (aa (pv 1) ae))) gW (gX (bu dP aq (az D h1 aL (aa (pv 0) (aa (aI (uw rfl) (by rfl) B.min PyProof.Rows.boot_min (aa aq (aa (bu mv (pv 1) aq) ae))) ae)))))))
    (ai (dt (i:=6) (g:=(bK 0)) (te:=(kh (bi (gw (ki K) (aX 1) (aX 0)) (bi (gw (ki K) (aX 1) (gw (rI (fun _ j=>0<j) fun i j=>.int (i % j)) (gw (tW fun i j=>.int (i+j)) (aX 0) (tC (.int 1))) (J2 (fun xs H Q=>∃p ys,xs=[V.ref p]/\(aV K H p ys\/bt K H p ys)/\Q (.int ys.length) H) (bi (aX 1) dQ)))) dQ)))) (NB:=["_law_k","_law_some"]) (src:=[none,some 5]) (bJ (by kernel_rfl)) rfl (bC rfl B.range (aa (aI aF (by rfl) B.len cp (aa (pv 5) ae)) ae)) ?g2 ?t2 ?e2 qq.nd rfl rfl rfl)
    (ai (aN (i:=7) qq.nd rfl bL ?c3)
    (ak (bA (PW.pt (io (dq (aI (uR rfl) (by rfl) B.all PyProof.Rows.boot_all (aa ?c5 ae))) (gU (aK iV (aI (uZ rfl) (by rfl) B.max rj (aa ?c4 ae)) aq (aR _))))) (ak (aN (i:=3) qq.nd rfl bL (bu OM (pv 3) (pv 6)))) aQ))))))
   (ak (aM (pv 3)))))),?_⟩
  case c1=>
   refine' bV (g:=(bK 0)) (te:=(kh (bi (gw (ki K) (aX 1) (aX 0)) (bi (gw (ki K) (aX 1) (gw (rI (fun _ j=>0<j) fun i j=>.int (i % j)) (gw (tW fun i j=>.int (i+j)) (aX 0) (tC (.int 1))) (aX 2))) dQ)))) (NB:=["_law_k","_law_order_here","_law_n"]) (src:=[none,some 2,some 1]) (bJ (by kernel_rfl)) rfl (bC rfl B.range (aa (pv 1) ae)) ?g ?t ?e;case g=>exact fun cl C s₃ H₃ fp=>(aw (i:=0) n_ rfl aU bL)
   case t=>exact fun cl C s₃ H₃ fp=>ce
   case e=>exact fun cl C s₃ H₃ fp=>(br (aa (aG aH (pv 1) (pv 0) (fun _ _=>rfl)) (aa (aG aH (pv 1) (bu iU (bu dP (pv 0) aq) (pv 2)) (fun _ _=>rfl)) ae)))
  case g2=>exact fun cl C s₃ H₃ fp=>(aw (i:=0) Ey rfl aU bL)
  case t2=>exact fun cl C s₃ H₃ fp=>ce
  case e2=>exact fun cl C s₃ H₃ fp=>(br (aa (aG aH (pv 1) (pv 0) (fun _ _=>rfl)) (aa (aG aH (pv 1) (bu iU (bu dP (pv 0) aq) (aI aF (by rfl) B.len cp (aa (pv 1) ae))) (fun _ _=>rfl)) ae)))
  case c3=>
   refine' bV (g:=(bK 0)) (te:=(gw (Dz K) (aX 0) (tC (.int 0)))) (NB:=["_law_tie"]) (src:=[none]) (bJ (by kernel_rfl)) rfl (bP (pv 3)) ?g ?t ?e;case g=>exact fun cl C s₃ H₃ fp=>(aw (i:=0) HQ rfl aU bL)
   case t=>exact fun cl C s₃ H₃ fp=>ce
   case e=>exact fun cl C s₃ H₃ fp=>(aG bf (pv 0) aq (fun _ _=>rfl))
  case c4=>
   refine' bV (g:=(bK 0)) (te:=(Yy K "list" GC (aX 1) (bi (aX 0) dQ))) (NB:=["_law_one","_law_begins"]) (src:=[none,some 7]) (bJ (by kernel_rfl)) rfl (bP (pv 5)) ?g ?t ?e;case g=>exact fun cl C s₃ H₃ fp=>(aw (i:=0) uh rfl aU bL)
   case t=>exact fun cl C s₃ H₃ fp=>ce
   case e=>exact fun cl C s₃ H₃ fp=>(hX g9 PySem.F.slot_list_count PySem.F.type_list_count GD (pv 1) (aa (pv 0) ae))
  case c5=>
   refine' bV (g:=(bK 0)) (te:=(gw (Ur K true) (aX 0) (aX 1))) (NB:=["_law_tie","_law_ties"]) (src:=[none,some 3]) (bJ (by kernel_rfl)) rfl (bP (pv 6)) ?g ?t ?e;case g=>exact fun cl C s₃ H₃ fp=>(aw (i:=0) yH rfl aU bL)
   case t=>exact fun cl C s₃ H₃ fp=>ce
   case e=>exact fun cl C s₃ H₃ fp=>(gh (uW hr.u) (pv 0) (pv 1) rfl)
  refine⟨_,rfl,_,rfl,p,n,rfl,by lia,hp,fun O xs H1 s1 kZ hO hO1 pm=>?_⟩;have xl:xs.length=n:=by have:=pm.length_eq;rwa [cE] at this
  refine⟨_,rfl,(n:Int),rfl,by lia,by lia,fun T0 Sf=>?_⟩;refine nV (lo:=0) (n:=n) (fun k=>(ci (xs.getD k 0),ci (xs.getD ((k+1) % xs.length) 0))) (fun σ=>∃x,σ=[x,some (.ref O),some (.int n)]) Sf (by lia) ⟨_,rfl⟩ ?_ ?_
  .rintro k σ H2 R Kf hk ⟨x,rfl⟩ Em kt;have e1:(0:Int)+(k:Int)=((k:Nat):Int):=eK _;have e2:(((k:Nat):Int)+1) % (n:Int)=(((k+1) % n:Nat):Int):=by lia
   have RU:(k+1) % n<n:=ji _ (by lia);have hO2:=Em _ _ hO1;rw[e1];rw[xl] at kt;refine⟨_,rfl,_,rfl,O,_,_,_,rfl,rfl,aV.of hO2,am (dR (by lia)),_,rfl,_,rfl,_,_,rfl,rfl,_,rfl,_,_,rfl,rfl,(by show (0:Int)<(n:Int);lia),O,_,_,_,rfl,rfl,aV.of hO2,by rw[e2];exact am (dR (by lia)),by show 2<=sizeLine;decide,fun t ht=>?_⟩;exact kt _ _ ⟨_,rfl⟩ ht
  intro A9 H2 s2 hT2 Ev NF _;have F2:cA n (zp A9):=by
   rw[NF];refine(uY n1 n2 pm).perm ?_;have:=pR (xs:=xs);unfold Eu at this;rw[xl] at this |-;exact this
  have UX:H T0=none:=mY fun z=>by
   cases e:H T0 with
   |none=>exact z e
   |some o=>
    by_cases c:T0=p
    .subst c;obtain⟨x,y,e',_⟩:=kZ;rw[Sf] at e';cases e'
    .rw[s1 _ _ e c] at Sf;cases Sf
  have km:=kZ.same s2;refine⟨_,rfl,p,6,rfl,by decide,by decide,km,fun d H3 hd s3 oC=>⟨(d:Int),rfl,by lia,by lia,dg (n:=d) (lo:=0) (fun i σ Hc=>∃ (T:Addr) (zs:Zs),(∃a b c e,σ=[some (.ref p),some (.int n),some (.ref O),some (.ref T),a,b,c,e])/\aB p H Hc/\bB Hc p/\H T=none/\Hc T=some (.lst (zr zs))/\PO Hc zs/\cA n (zp zs)) ⟨T0,A9,⟨_,_,_,_,rfl⟩,(s1.trans (aB.of s2)).trans s3,oC,UX,s3 _ _ hT2 (hp.ne UX),Ev.lX s3 km,F2⟩ ?_ ?_⟩⟩
  .rintro i σ Hc hi ⟨T,zs,⟨x4,x5,x6,x7,rfl⟩,sc,jB,hT,Z8,po,Fi⟩;have nTp:T≠p:=hp.ne hT;have Xp:zs.length<=256:=by have:=Fi.len;rwa [bT] at this
   refine⟨_,rfl,_,rfl,p,n,rfl,by lia,jB,fun L ys H4 s4 n9 hL Z5 Z9=>?_⟩;have yl:ys.length=n:=by have:=Z9.length_eq;rwa [cE] at this
   have nLp:L≠p:=jB.ne hL;have em:(if (n:Int)-1<5 then (n:Int)-1 else 5)=((min 5 (n-1):Nat):Int):=by split <;> lia
   refine⟨_,rfl,_,rfl,_,_,rfl,rfl,5,_,rfl,p,min 5 (n-1),by rw[em];rfl,by lia,by lia,n9,fun d2 H5 Xo s5 u6=>?_⟩;have abi:d2<5/\d2<n-1:=by lia
   have e3:(2:Int)+(d2:Int)=((2+d2:Nat):Int):=by lia
   refine⟨_,_,rfl,rfl,_,rfl,L,_,rfl,aV.of (s5 _ _ Z5 nLp),fun S hS=>?_⟩;rw[e3,ln,<-o0];have sS:=aj (o:=.lst (NV (ys.take (2+d2)))) hS;have Sj:(upd H5 S (.lst (NV (ys.take (2+d2))))) S=some (.lst (NV (ys.take (2+d2)))):=af;have s6:aB p H _:=((sc.trans s4).trans s5).trans (aB.of sS);have Nn:=u6.same sS;have hT6:=sS _ _ (s5 _ _ (s4 _ _ Z8 nTp) nTp);have E5:=((po.lX s4 jB).lX s5 n9).same sS;have cnd:(ys.take (2+d2)).Nodup:=(Z9.nodup_iff.mpr lS).sublist (rA _ _);have clt:∀x∈ys.take (2+d2),x<n:=fun x hx=>bH.mp (Z9.mem_iff.mp (j3 hx));have cl:(ys.take (2+d2)).length=2+d2:=by rw[g_];lia
   generalize ys.take (2+d2)=cs at *;generalize upd H5 S _=H6 at *;refine⟨_,rfl,S,_,rfl,.inl (aV.of Sj),(((NV cs).length:Nat):Int),rfl,by lia,by rw[aO];lia,fun M hM=>?_⟩;rw[i8,aO];refine nV (lo:=0) (n:=cs.length) (fun k=>(ci (cs.getD k 0),ci (cs.getD ((k+1) % cs.length) 0))) (fun σ=>∃x,σ=[x,some (.ref S)]) hM (by lia) ⟨_,rfl⟩ ?_ ?_
   .rintro k σ H7 R Kf hk ⟨x,rfl⟩ JB kt;have e1:(0:Int)+(k:Int)=((k:Nat):Int):=eK _;have e2:(((k:Nat):Int)+1) % (((NV cs).length:Nat):Int)=(((k+1) % cs.length:Nat):Int):=by rw[aO];lia
    have RU:(k+1) % cs.length<cs.length:=ji _ (by lia);have HS:=JB _ _ Sj;rw[e1];refine⟨_,rfl,_,rfl,S,_,_,_,rfl,rfl,aV.of HS,am (dR (by lia)),_,rfl,_,rfl,_,_,rfl,rfl,_,rfl,S,_,rfl,.inl (aV.of HS),_,_,rfl,rfl,(by show (0:Int)<(((NV cs).length:Nat):Int);rw[aO];lia),S,_,_,_,rfl,rfl,aV.of HS,by rw[e2];exact am (dR (by lia)),by show 2<=sizeLine;decide,fun t ht=>?_⟩;exact kt _ _ ⟨_,rfl⟩ ht
   intro ms H7 s7 Ez poM ezM _;have ecy:zp ms=Eu cs:=ezM;have ml:ms.length=cs.length:=by rw[<-bT,ezM,aP,cE]
   have Z_:=s7 _ _ hT6;have Ln:=E5.same s7;have HS:=s7 _ _ Sj;refine⟨_,rfl,T,rfl,⟨_,aV.of Z_⟩,fun Bg hB=>?_⟩;refine wP zs (fun z=>V.ref z.1) (fun z=>V.int z.2.1) (fun σ=>∃x,σ=[x]) Z_ hB (by lia) ⟨_,rfl⟩ ?_ ?_
   .rintro z σ H8 R Kf hz ⟨x,rfl⟩ Sg kt;exact⟨_,rfl,z.1,_,0,_,rfl,rfl,bt.of (Sg _ _ (Ln z hz)),rfl,kt _ _ ⟨_,rfl⟩ (aA.refl _)⟩
   intro H8 s8 hB8;have hT8:=s8 _ _ Z_;have Lo:=s8 _ _ Ez;have Xv:=s8 _ _ HS;have HK:=Ln.same s8;have UY:=poM.same s8;have Xw:aB p H H8:=(s6.trans (aB.of s7)).trans (aB.of s8);have E6:=(Nn.same s7).same s8;refine⟨_,rfl,M,rfl,⟨_,aV.of Lo⟩,fun Al hAl=>?_⟩;refine wP ms (fun z=>V.ref z.1) (fun z=>V.bl (!decide (z.2∈zp zs))) (fun σ=>∃x,σ=[x,some (.ref T)]) Lo hAl (by lia) ⟨_,rfl⟩ ?_ ?_
   .rintro z σ H9 R Kf hz ⟨x,rfl⟩ sm9 kt;obtain⟨l1,l2⟩:=Nz (K:=K) (HK.same sm9);exact⟨_,rfl,_,rfl,z.1,T,z.2,zs.map (fun z:Addr×Int×Int=>z.1),zp zs,rfl,rfl,bt.of (sm9 _ _ (UY z hz)),by rw[<-nU];exact aV.of (sm9 _ _ hT8),by rw[aP];exact l1,l2,kt _ _ ⟨_,rfl⟩ (aA.refl _)⟩
   intro H9 s9 hA9;have aaa:H9 Al=some (.lst ((ms.map fun z=>!decide (z.2∈zp zs)).map V.bl)):=by rw[hA9,cy];rfl
   refine⟨Al,_,rfl,aV.of aaa,_,rfl,?_⟩;have hT9:=s9 _ _ hT8;have po9:=HK.same s9;have Sk:aB p H H9:=Xw.trans (aB.of s9);have JD:=E6.same s9;refine eI (fun c1=>?_) (fun c1=>?_)
   .have hS9:=s9 _ _ Xv;have hB9:=s9 _ _ hB8;refine⟨_,rfl,S,rfl,⟨_,aV.of hS9⟩,fun Ct hC=>?_⟩;refine wP cs (fun (x:Nat)=>V.int (x:Int)) (fun (x:Nat)=>V.int ((iM (zp zs) (ci x):Nat):Int)) (fun σ=>∃x,σ=[x,some (.ref Bg)]) hS9 hC (by lia) ⟨_,rfl⟩ ?_ ?_
    .rintro x σ Bu R Kf hx ⟨x',rfl⟩ aab kt;have UZ:=aab _ _ hB9;refine⟨_,rfl,.inl ⟨rfl,_,aV.of UZ⟩,_,rfl,Bg,_,_,rfl,rfl,UZ,rfl,?_,?_⟩
     .rw[vN];exact hG.mpr fun z _=>rfl
     .have e:=u7 (ts:=zp zs) (h:=ci x);unfold zp at e;rw[cy] at e;have e':(zs.map fun z=>V.int z.2.1).countP (fun z=>iH z (.int (ci x)))=iM (zp zs) (ci x):=e;rw[show V.int (x:Int)=V.int (ci x) from rfl,e'];exact kt _ _ ⟨_,rfl⟩ (aA.refl _)
    intro Bu qZ aac;have U0:Bu Ct=some (.lst ((cs.map fun (x:Nat)=>((iM (zp zs) (ci x):Nat):Int)).map V.int)):=by rw[aac,cy];rfl
    refine⟨Ct,_,rfl,aV.of U0,fun z=>?_,fun Mx hMx pA=>⟨_,_,rfl,rfl,_,rfl,?_⟩⟩
    .have:=congrArg List.length z;rw[aP,cl] at this;simp at this
    have Qc:aB p H Bu:=Sk.trans (aB.of qZ);have Qd:=JD.same qZ;have U1:=qZ _ _ hT9;have Lp:=po9.same qZ;refine eI (fun c2=>?_) (fun c2=>?_)
    .have aad:=qZ _ _ (s9 _ _ Lo);refine⟨_,rfl,_,rfl,T,M,_,_,rfl,rfl,U1,aad,by rw[dA,dA];exact aY (show _<=300 by lia) (by decide),fun N hN=>?_⟩;have sN:=aj (o:=.lst (zr zs++zr ms)) hN;have hNH:H N=none:=mY fun z=>by
      cases e:H N with
      |none=>exact z e
      |some o=>
       by_cases c:N=p
       .subst c;obtain⟨x,y,e',_⟩:=Qd;rw[hN] at e';cases e'
       .rw[Qc _ _ e c] at hN;cases hN
     refine⟨N,zs++ms,⟨_,_,_,_,rfl⟩,Qc.trans (aB.of sN),Qd.same sN,hNH,by rw[af,ff],(Lp.append ((UY.same s9).same qZ)).same sN,?_⟩;rw[fh,ecy];refine Fi.round cnd clt (by lia) (fun x hx=>?_) (fun t ht=>?_)
     .have h7:((iM (zp zs) (ci x):Nat):Int)<=Mx:=pA _ (bn.mpr ⟨x,hx,rfl⟩);have h8:Mx<8:=dB c2;lia
     .rw[<-ecy] at ht;obtain⟨z,hz,rfl⟩:=bn.mp ht;have:=hG.mp c1 _ (bn.mpr ⟨z,hz,rfl⟩);simpa using this
    .exact⟨T,zs,⟨_,_,_,_,rfl⟩,Qc,Qd,hT,U1,Lp,Fi⟩
   .refine cG ?_;exact⟨T,zs,⟨_,_,_,_,rfl⟩,Sk,JD,hT,hT9,po9,Fi⟩
  .rintro σ Hc ⟨T,zs,⟨x4,x5,x6,x7,rfl⟩,sc,jB,hT,Z8,po,Fi⟩;exact⟨_,rfl,q T zs Hc sc jB hT Z8 po Fi⟩
end
end jT
namespace L2
open PySem PySem.Spec PyProof.Rows
def C2:List Nat->TA
 |[]=>dQ
 |n::ns=>bi (tC (.int (n:Nat))) (C2 ns)
def HU:List (List Nat)->TA
 |[]=>dQ
 |c::cs=>bi (kh (C2 c)) (HU cs)
def rdN:Expr->Option Nat
 |.Constant (.int (.ofNat n)) _ _=>some n
 |_=>none
def Lq:List Expr->Option (List Nat)
 |[]=>some []
 |e::es=>(rdN e).bind fun n=>(Lq es).map (n::·)
def HV:List Expr->Option (List (List Nat))
 |[]=>some []
 |.Tuple es _ _::r=>(Lq es).bind fun c=>(HV r).map (c::·)
 |_=>none
theorem Qe{e:Expr}{n:Nat}(h:rdN e=some n):∃j pos,e=.Constant (.int (n:Nat)) j pos:=by
 unfold rdN at h;split at h
 .cases h;exact⟨_,_,rfl⟩
 .cases h
theorem C3{X:Cx}:∀ {es:List Expr} {ns:List Nat},Lq es=some ns->PA X es (C2 ns)
 |[],ns,h=>by cases h;exact ae
 |e::es,ns,h=>by
  unfold Lq at h;obtain⟨n,h1,h2⟩:=Option.bind_eq_some_iff.mp h;obtain⟨ms,h3,rfl⟩:=re.mp h2;obtain⟨j,pos,rfl⟩:=Qe h1;exact aa aq (C3 h3)
theorem wQ{X:Cx}:∀ {es:List Expr} {cs:List (List Nat)},HV es=some cs->PA X es (HU cs)
 |[],cs,h=>by cases h;exact ae
 |e::r,cs,h=>by
  unfold HV at h;split at h
  .cases h;contradiction
  .rename_i es _ _ r' e';cases e';obtain⟨n,h1,h2⟩:=Option.bind_eq_some_iff.mp h;obtain⟨ms,h3,rfl⟩:=re.mp h2;exact aa (br (C3 h1)) (wQ h3)
  .cases h
end L2
namespace jT
open PySem L2 fJ
abbrev HW:Stmt:=iK 43
theorem qD:(["_law_k","_law_order_here"]:List Str).Nodup:=by decide +kernel
theorem Lr{xs:List Nat}{k:Nat}(h:k<xs.length):FV (NV xs) ((k:Int)-1)=some (.int ((xs.getD (fJ.pk xs.length k) 0:Nat):Int)):=by
 unfold fJ.pk;by_cases k0:k=0
 .subst k0;rw[aD rfl];have e:NV xs=NV (xs.take (xs.length-1))++[.int ((xs.getD (xs.length-1) 0:Nat):Int)]:=by
   rw[lI];congr 1;conv=>lhs;rw[<-p7 (xs.length-1) xs]
   rw[oE (by lia),List.drop_eq_nil_of_le (by lia),dF (by lia)]
  rw[e];exact FX _ _
 .rw[au k0,show (k:Int)-1=((k-1:Nat):Int) by lia];exact am (by rw[dF (by lia)];exact Po (by lia))
theorem HX:∀ {ns:List Nat} {σ:St} {H:Hp} {Q:List V->Hp->Prop},Q (NV ns) H->C2 ns σ H Q
 |[],σ,H,Q,h=>h
 |n::ns,σ,H,Q,h=>HX (ns:=ns) (Q:=fun xs H2=>Q (.int (n:Nat)::xs) H2) h
theorem Bv:∀ {cs:List (List Nat)} {σ:St} {H:Hp} {Q:List V->Hp->Prop},(∀c∈cs,c.length<=5)->(∀ (as:List Addr) (H':Hp),aA H H'->as.length=cs.length->(∀i,i<cs.length->H' (as.getD i 0)=some (.tup (NV (cs.getD i []))))->Q (as.map V.ref) H')->HU cs σ H Q
 |[],σ,H,Q,_,h=>h [] H (aA.refl _) rfl fun i hi=>nomatch hi
 |c::cs,σ,H,Q,hc,h=>by
  refine HX (ns:=c) ⟨?_,fun t ht=>?_⟩
  .rw[aO];exact aY (hc c bZ) (by decide)
  refine Bv (cs:=cs) (fun c ut=>hc c (du _ ut)) fun as H' s l e=>?_;refine h (t::as) H' ((aj ht).trans s) (congrArg (·+1) l) fun i hi=>?_;cases i with
  |zero=>exact s _ _ af
  |succ i=>exact e i (Nat.lt_of_succ_lt_succ hi)
section
variable {P:Program} {w:World} {K:PySem.W.Frag} {mg:Str->Option Value} {base:Heap}
theorem lq:aT ["_law_pot_here","_law_way","_law_n","_law_order_here","_law_sides","_law_pairs","_law_figures","_law_base"] ["_law_pot_here"] (av HW):=cV (by decide +kernel)
def HY(p:Addr)(H:Hp)(Q:V->Hp->Prop):Prop:=∀ (t r:Addr) (n:Nat) (zs:Zs) (H':Hp),aB p H H'->bB H' p->H t=none->H' t=some (.tup [.int n,.ref r])->H r=none->H' r=some (.lst (zr zs))->PO H' zs->cA n (zp zs)->Q (.ref t) H'
def HZ:Sp:=fun vs H Q _=>∃ (p:Addr),vs=[.ref p]/\bB H p/\HY p H Q
theorem HY.go{p r t:Addr}{H H2:Hp}{Q:V->Hp->Prop}{n:Nat}{zs:Zs}(k:HY p H Q)(s:aB p H H2)(hp:bB H2 p)(hr:H r=none)(ui:H2 r=some (.lst (zr zs)))(po:PO H2 zs)(F:cA n (zp zs))(ht:H2 t=none):Q (.ref t) (upd H2 t (.tup [.int n,.ref r])):=
 k t r n zs _ (s.trans (aB.of (aj ht))) (hp.same (aj ht)) (s.free hp.full ht) af hr (aj ht _ _ ui) (po.putN ht) F
abbrev bd(i:Nat):Stmt:=(b_ HW).getD i (.Pass ⟨0,0,0,0⟩)
def ifT:Stmt->Expr
 |.If c _ _ _=>c
 |_=>.Constant .none 0 ⟨0,0,0,0⟩
def Xx(i:Nat):Stmt->Stmt
 |.If _ b _ _=>b.getD i (.Pass ⟨0,0,0,0⟩)
 |_=>.Pass ⟨0,0,0,0⟩
theorem H_:∃DI q1 q2 q3 q4 es2 a1 a2 k a3 a4 a5 j a6 a7 q5 q6 q7 q8 U2 Xy,b_ HW=[bd 0,bd 1,bd 2,bd 3,.If (ifT (bd 4)) [.Assign [.Name "_law_sides" q1] (.List DI q2) q3,Xx 1 (bd 4),Xx 2 (bd 4)] [] q4,
   .If (ifT (bd 5)) [.Assign [.Tuple [.Name "_law_figures" a1,.Name "_law_base" a2] k a3] (.Subscript (.List es2 q5) (.Call (.Name "_law_take" a4) [.Name "_law_pot_here" a5,.Constant (.int 9) j a6] [] a7) q6) q7,Xx 1 (bd 5),Xx 2 (bd 5)] [] q8,bd 6,bd 7]/\HV DI=some U2/\HV es2=some Xy/\U2=[[5],[8],[2,2],[3,3],[3,4],[2,3,4],[3,3,3],[2,2,2,2,2],[4,8]]/\Xy=[[1,3],[1,5],[2,2],[2,3],[2,4],[2,5],[3,3],[4,2],[5,2]]:=
 ⟨_,_,_,_,_,_,_,_,_,_,_,_,_,_,_,_,_,_,_,[[5],[8],[2,2],[3,3],[3,4],[2,3,4],[3,3,3],[2,2,2,2,2],[4,8]],[[1,3],[1,5],[2,2],[2,3],[2,4],[2,5],[3,3],[4,2],[5,2]],rfl,by decide +kernel,by decide +kernel,rfl,rfl⟩
theorem Qf{f:Addr}{fd:FuncData}(F:gv K "_law_net" "_law_net" HW f fd)(B:Bl mg)(D:cu P w K mg base bv 1 "_law_take" ["_law_pot_here","_law_many"] fv)(OR:cu P w K mg base bv 2 "_law_order" ["_law_pot_here","_law_many"] lJ)(TR:cu P w K mg base bv 2 "_law_tree" ["_law_pot_here","_law_n"] mL)(ME:cu P w K mg base bv 3 "_law_mesh" ["_law_pot_here","_law_n"] mL)(BO:cu P w K mg base bv 1 "_law_both" ["_law_pairs"] Bq)(BX:cu P w K mg base bv 1 "_law_box" ["_law_sides"] HN)(WO:cu P w K mg base bv 1 "_law_words" ["_law_figures","_law_base"] wN)(OW:cu P w K mg base bv 3 "_law_one_way" ["_law_pot_here","_law_n"] HR):bU P w K mg base bv 4 f fd ["_law_pot_here"] HZ:=by
 refine F.ok lq (fun vs H Q E h=>?_) (fun dY A outer s H vs Q E hr h=>?_)
 .obtain⟨p,rfl,_⟩:=h;rfl
 .obtain⟨p,rfl,hp,q⟩:=h;have h1:cB 1 _:=hr.mono (by decide);have h2:cB 2 _:=hr.mono (by decide);obtain⟨DI,q1,q2,q3,q4,es2,a1,a2,k,a3,a4,a5,j,a6,a7,q5,q6,q7,q8,U2,Xy,eb,aae,aaf,U3,U4⟩:=H_;rw[eb];refine'⟨_,(ai (aN (i:=1) lq.nd rfl aU (az D h1 aL (aa (pv 0) (aa aq ae))))
   (ai (aN (i:=2) lq.nd rfl aU (bu dP aq (az D h1 aL (aa (pv 0) (aa (aG aH (cm (aa aq (aa aq (aa aq ae)))) (az D h1 aL (aa (pv 0) (aa aq ae))) (fun _ _=>rfl)) ae)))))
   (ai (bA (aK iV (pv 1) aq (aR _)) (ak (aM (br (aa (pv 2) (aa (az BO h1 aL (aa (az TR h2 aL (aa (pv 0) (aa (pv 2) ae))) ae)) ae))))) aQ)
   (ai (bA (aK eN (pv 1) aq (aR _)) (ai (aN (i:=3) lq.nd rfl bL (az OR h2 aL (aa (pv 0) (aa (aI (ph rfl) (by rfl) B.max rj (aa aq (aa (pv 2) ae))) ae))))
    (ak (aM (br (aa (aI aF (by rfl) B.len cp (aa (pv 3) ae)) (aa (az BO h1 aL (aa ?c1 ae)) ae)))))) aQ)
   (ai (bA (aK eN (pv 1) aq (aR _)) (ai (aN (i:=4) lq.nd rfl aU (cm (wQ aae)))
    (ai (dW (az BX h1 aL (aa (aG aH (pv 4) (az D h1 aL (aa (pv 0) (aa aq ae))) (fun _ _=>rfl)) ae)) (fu (n:=2) rfl (ba (aw (i:=2) lq.nd rfl aU) (ba (aw (i:=5) lq.nd rfl aU) dE))))
    (ak (aM (br (aa (pv 2) (aa (az BO h1 aL (aa (pv 5) ae)) ae))))))) aQ)
   (ai (bA (aK eN (pv 1) aq (aR _)) (ai (dW (aG aH (cm (wQ aaf)) (az D h1 aL (aa (pv 0) (aa aq ae))) (fun _ _=>rfl)) (fu (n:=2) rfl (ba (aw (i:=6) lq.nd rfl aU) (ba (aw (i:=7) lq.nd rfl aU) dE))))
    (ai (dW (az WO h1 aL (aa (pv 6) (aa (pv 7) ae))) (fu (n:=2) rfl (ba (aw (i:=2) lq.nd rfl aU) (ba (aw (i:=5) lq.nd rfl aU) dE))))
    (ak (aM (br (aa (pv 2) (aa (az BO h1 aL (aa (pv 5) ae)) ae))))))) aQ)
   (ai (bA (aK eN (pv 1) aq (aR _)) (ak (aM (br (aa (pv 2) (aa (az BO h1 aL (aa (az ME hr aL (aa (pv 0) (aa (pv 2) ae))) ae)) ae))))) aQ)
   (ak (aM (br (aa (pv 2) (aa (az OW hr aL (aa (pv 0) (aa (pv 2) ae))) ae)))))))))))),?_⟩
  case c1=>
   refine' bV (g:=(bK 0)) (te:=(kh (bi (gw (ki K) (aX 1) (aX 0)) (bi (gw (ki K) (aX 1) (gw (tW fun i j=>.int (i-j)) (aX 0) (tC (.int 1)))) dQ)))) (NB:=["_law_k","_law_order_here"]) (src:=[none,some 3]) (bJ (by kernel_rfl)) rfl (bC rfl B.range (aa (aI aF (by rfl) B.len cp (aa (pv 3) ae)) ae)) ?g ?t ?e;case g=>exact fun cl C s₃ H₃ fp=>(aw (i:=0) qD rfl aU bL)
   case t=>exact fun cl C s₃ H₃ fp=>ce
   case e=>exact fun cl C s₃ H₃ fp=>(br (aa (aG aH (pv 1) (pv 0) (fun _ _=>rfl)) (aa (aG aH (pv 1) (bu mv (pv 0) aq) (fun _ _=>rfl)) ae)))
  refine⟨_,rfl,p,8,rfl,by decide,by decide,hp,fun wy H1 hw s1 kZ=>⟨_,rfl,by show 3<=sizeLine;decide,fun L hL=>⟨_,rfl,p,3,rfl,by decide,by decide,kZ.same (aj hL),fun d1 H2 hd1 s2 km=>?_⟩⟩⟩;have nL:L≠p:=kZ.ne hL;obtain⟨mm,em,mm1,mm2⟩:∃m:Nat,([V.int 3,.int 9,.int 31]:List V)[d1]?=some (.int m)/\0<m/\m<=31:=by
   match d1,hd1 with
   |0,_=>exact⟨3,rfl,by decide,by decide⟩
   |1,_=>exact⟨9,rfl,by decide,by decide⟩
   |2,_=>exact⟨31,rfl,by decide,by decide⟩
  refine⟨L,_,_,_,rfl,rfl,aV.of (s2 _ _ af nL),am em,p,mm,rfl,mm1,by lia,km,fun d2 H3 Xo s3 oC=>?_⟩;have e2:(2:Int)+(d2:Int)=((2+d2:Nat):Int):=by lia
  refine⟨_,_,rfl,rfl,?_⟩;change bK 2 (V.int ((2:Int)+(d2:Int))) _ _ _;rw[e2];have n1:2<=2+d2:=by lia
  have n2:2+d2<=32:=by lia
  generalize 2+d2=n at *;have sH:aB p H H3:=((s1.trans (aB.of (aj hL))).trans s2).trans s3;clear s1 s2 s3 kZ km hL nL;refine⟨_,rfl,_,_,rfl,rfl,_,rfl,eI (fun c=>?_) (fun c0=>?_)⟩
  .refine⟨_,rfl,_,rfl,_,rfl,p,n,rfl,n1,n2,oC,fun r zs H4 s4 n9 K8 wR po F4 _=>?_⟩;have zl:zs.length<=256:=by have:=F4.len;rw[jd,bT] at this;lia
   refine⟨r,zs,rfl,wR,po,by lia,fun r2 kj H5 s5 Et Qg Br e5=>⟨by show 2<=sizeLine;decide,fun t ht=>?_⟩⟩;exact q.go ((sH.trans s4).trans (aB.of s5)) (n9.same s5) ((sH.trans s4).free n9.full Et) Qg Br (by rw[e5];exact F4) ht
  refine⟨_,rfl,rfl,_,rfl,eI (fun c=>?_) (fun c1=>?_)⟩
  .have em:(if (3:Int)<(n:Int) then (n:Int) else 3)=((max 3 n:Nat):Int):=by split <;> lia
   refine⟨_,rfl,_,rfl,3,_,rfl,p,max 3 n,by rw[em];rfl,by lia,oC,fun O xs H4 s4 n9 hO hO4 pm=>?_⟩;have m1:3<=max 3 n:=by lia
   have m2:max 3 n<=32:=by lia
   generalize max 3 n=m at *;have xl:xs.length=m:=by have:=pm.length_eq;rwa [cE] at this
   refine⟨_,rfl,O,_,rfl,.inl (aV.of hO4),_,rfl,O,_,rfl,.inl (aV.of hO4),(((NV xs).length:Nat):Int),rfl,by lia,by rw[aO];lia,fun R hR=>?_⟩;rw[i8,aO];refine nV (lo:=0) (n:=xs.length) (fun k=>pM (ci (xs.getD (pk xs.length k) 0),ci (xs.getD k 0))) (fun σ=>∃x,σ=[x,some (.ref O)]) hR (by lia) ⟨_,rfl⟩ ?_ ?_
   .rintro k σ H5 R' Kf hk ⟨x,rfl⟩ wO kt;have hO5:=wO _ _ hO4;rw[eK];refine⟨_,rfl,_,rfl,O,_,_,_,rfl,rfl,aV.of hO5,am (dR hk),_,rfl,_,rfl,_,_,rfl,rfl,O,_,_,_,rfl,rfl,aV.of hO5,Lr hk,by show 2<=sizeLine;decide,fun t ht=>?_⟩;exact kt _ _ ⟨_,rfl⟩ ht
   intro zs H5 s5 KB Br Xu _;have ez:zp zs=(sU xs).map pM:=by rw[Xu];unfold sU;rw[cy];rfl
   have zl:zs.length<=32:=by rw[<-bT,Xu,aP,cE];lia
   refine⟨R,zs,rfl,KB,Br,by lia,fun r2 kj H6 s6 PQ Ib E5 e6=>⟨by show 2<=sizeLine;decide,fun t ht=>?_⟩⟩;rw[xl];refine q.go ((sH.trans s4).trans (aB.of (s5.trans s6))) ((n9.same s5).same s6) ((sH.trans s4).free n9.full (s5.free PQ)) Ib E5 ?_ ht;rw[e6,ez];exact(yA m1 m2 pm).perm yB
  refine⟨_,rfl,rfl,_,rfl,eI (fun c=>?_) (fun c2=>?_)⟩
  .refine Bv (cs:=U2) (by rw[U3];decide) fun as H4 s4 la ea=>⟨?_,fun S hS=>?_⟩
   .rw[aP,la,U3];show 9<=sizeLine;decide
   have sS:=aj (o:=.lst (as.map V.ref)) hS;refine⟨_,rfl,_,rfl,p,9,rfl,by decide,by decide,(oC.same s4).same sS,fun d H5 hd s5 u6=>?_⟩;have had:as[d]?=some (as.getD d 0):=by rw[aS,bq (by rw[la,U3];exact hd)];rfl
   have nS:S≠p:=(oC.same s4).ne hS;have ga:=ea d (by rw[U3];exact hd);have U5:=s5 _ _ (sS _ _ ga) ((oC.same s4).neT ga);have sd:∀d,d<9->HM (([[5],[8],[2,2],[3,3],[3,4],[2,3,4],[3,3,3],[2,2,2,2,2],[4,8]]:List (List Nat)).getD d []):=by unfold HM;decide
   have sd:=sd d hd;rw[<-U3] at sd;refine⟨S,_,_,_,rfl,rfl,aV.of (s5 _ _ af nS),am (by rw[bN,had];rfl),_,_,rfl,U5,sd,fun t r zs H6 s6 ht PQ ht6 Ib E5 e6=>?_⟩;refine⟨t,_,rfl,bt.of ht6,rfl,_,_,rfl,_,_,rfl,rfl,?_⟩;generalize y3:List.getD U2 d []=ns at sd U5 e6;clear ga ea;have Fb:=G6 (fun x hx=>(sd.2.2.1 x hx).1) (by rintro rfl;exact absurd sd.1 (by decide)) sd.2.2.2;have zl:zs.length<=256:=by have:=Fb.len;rw[<-e6,jd,bT] at this;lia
   refine⟨_,rfl,_,rfl,r,zs,rfl,Ib,E5,by lia,fun r2 kj H7 s7 UM Qh Ln e7=>⟨by show 2<=sizeLine;decide,fun t ht=>?_⟩⟩;refine q.go ((((sH.trans (aB.of (s4.trans sS))).trans s5)).trans (aB.of (s6.trans s7))) ((u6.same s6).same s7) (((sH.trans (aB.of (s4.trans sS))).trans s5).free u6.full (s6.free UM)) Qh Ln ?_ ht;rw[e7,e6];exact Fb
  refine⟨_,rfl,rfl,_,rfl,eI (fun c=>?_) (fun c3=>?_)⟩
  .refine Bv (cs:=Xy) (by rw[U4];decide) fun as H4 s4 la ea=>⟨?_,fun S hS=>?_⟩
   .rw[aP,la,U4];show 9<=sizeLine;decide
   have sS:=aj (o:=.lst (as.map V.ref)) hS;refine⟨_,rfl,p,9,rfl,by decide,by decide,(oC.same s4).same sS,fun d H5 hd s5 u6=>?_⟩;have had:as[d]?=some (as.getD d 0):=by rw[aS,bq (by rw[la,U4];exact hd)];rfl
   have nS:S≠p:=(oC.same s4).ne hS;have ga:=ea d (by rw[U4];exact hd);have U5:=s5 _ _ (sS _ _ ga) ((oC.same s4).neT ga);have sd:∀d,d<9->∃f b:Nat,([[1,3],[1,5],[2,2],[2,3],[2,4],[2,5],[3,3],[4,2],[5,2]]:List (List Nat)).getD d []=[f,b]/\1<=f/\f<=5/\2<=b/\b<=5/\b ^ f<=32:=fun d hd=>
    ⟨(([[1,3],[1,5],[2,2],[2,3],[2,4],[2,5],[3,3],[4,2],[5,2]]:List (List Nat)).getD d []).getD 0 0,(([[1,3],[1,5],[2,2],[2,3],[2,4],[2,5],[3,3],[4,2],[5,2]]:List (List Nat)).getD d []).getD 1 0,by revert d;decide⟩
   obtain⟨fg,b,es,f1,f2,b1,b2,hm⟩:=sd d hd;rw[U4,es] at U5;refine⟨S,_,_,_,rfl,rfl,aV.of (s5 _ _ af nS),am (by rw[bN,had];rfl),_,_,rfl,bt.of U5,rfl,_,_,rfl,_,_,rfl,rfl,?_⟩;refine⟨_,rfl,_,rfl,fg,b,rfl,f1,f2,b1,b2,hm,fun t r zs H6 s6 ht PQ ht6 Ib E5 e6=>?_⟩;refine⟨t,_,rfl,bt.of ht6,rfl,_,_,rfl,_,_,rfl,rfl,?_⟩;have Fb:=(A4 f1 f2 b1 b2 hm).1;have zl:zs.length<=256:=by have:=Fb.len;rw[<-e6,jd,bT] at this;lia
   refine⟨_,rfl,_,rfl,r,zs,rfl,Ib,E5,by lia,fun r2 kj H7 s7 UM Qh Ln e7=>⟨by show 2<=sizeLine;decide,fun t ht=>?_⟩⟩;refine q.go ((((sH.trans (aB.of (s4.trans sS))).trans s5)).trans (aB.of (s6.trans s7))) ((u6.same s6).same s7) (((sH.trans (aB.of (s4.trans sS))).trans s5).free u6.full (s6.free UM)) Qh Ln ?_ ht;rw[e7,e6];exact Fb
  refine⟨_,rfl,rfl,_,rfl,eI (fun c=>?_) (fun c4=>?_)⟩
  .refine⟨_,rfl,_,rfl,_,rfl,p,n,rfl,n1,n2,oC,fun r zs H4 s4 n9 K8 wR po F4 _=>?_⟩;have zl:zs.length<=256:=by have:=F4.len;rw[jd,bT] at this;lia
   refine⟨r,zs,rfl,wR,po,by lia,fun r2 kj H5 s5 Et Qg Br e5=>⟨by show 2<=sizeLine;decide,fun t ht=>?_⟩⟩;exact q.go ((sH.trans s4).trans (aB.of s5)) (n9.same s5) ((sH.trans s4).free n9.full Et) Qg Br (by rw[e5];exact F4) ht
  refine⟨_,rfl,_,rfl,_,rfl,p,n,rfl,n1,n2,oC,fun r zs H4 s4 n9 K8 wR po F4=>⟨by show 2<=sizeLine;decide,fun t ht=>?_⟩⟩;exact q.go (sH.trans s4) n9 (sH.free oC.full K8) wR po F4 ht
end
abbrev Bw:Stmt:=iK 44
theorem qE:(["_law_step","_law_house","_law_n"]:List Str).Nodup:=by decide +kernel
theorem lr:(["_law_there","_law_house","_law_known"]:List Str).Nodup:=by decide +kernel
theorem C4{lo:Int}{n:Nat}{D:Addr}{g:TG}{tt:TT}{te:TE}{dJ:Hp->Prop}{σB:St}{H0:Hp}(G:Nat->V)(bE:St->Prop)(hD:H0 D=none)(hn:n<=1000)(h0:bE σB)(hs:∀x σ H (R:V->St->Hp->Prop) (Kf:St->Hp->Prop),x<n->bE σ->aA H0 H->(∀σ2 H2,bE σ2->aA H H2->R (G x) σ2 H2)->g (.int (lo+(x:Nat))) σ H fun σ2 H2=>tt σ2 H2 fun b H3=>if b=true then te σ2 H3 fun v H4=>R v σ2 H4 else Kf σ2 H3)(hd:∀H,aA H0 H->H D=some (.lst ((List.range n).map G))->dJ H):gJ (EW lo n) g tt te D dJ σB (upd H0 D (.lst [])):=by
 refine eT (fun i ys σ H=>bE σ/\aA H0 H/\H D=some (.lst ys)/\ys=(List.range i).map G) ⟨h0,aj hD,af,rfl⟩ ?_ ?_
 .rintro i ys σ H Kt Kf hi ⟨sh,sm,d8,rfl⟩ kt kf;refine hs i σ H Kt Kf hi sh sm (fun σ2 H2 mI s2=>?_);refine kt _ _ _ (s2 _ _ d8) ?_ ⟨mI,bD (sm.trans s2) hD,af,by rw[iQ,cK];rfl⟩;rw[aP,cE];exact cQ (show i<1000 by lia) (by decide)
 .rintro ys σ H ⟨_,sm,d8,rfl⟩;exact hd H sm d8
theorem Lu{β:Type}{K:PySem.W.Frag}{a D:Addr}{g:TG}{tt:TT}{te:TE}{dJ:Hp->Prop}{σB:St}{H0:Hp}(ms:List β)(e:β->V)(c:β->Bool)(bE:St->Prop)(ha:H0 a=some (.lst (ms.map e)))(hD:H0 D=none)(hn:ms.length<=1000)(h0:bE σB)(hs:∀m σ H (Kt:V->St->Hp->Prop) (Kf:St->Hp->Prop),m∈ms->bE σ->aA H0 H->(∀σ2 H2,bE σ2->aA H H2->c m=true->Kt (e m) σ2 H2)->(∀σ2 H2,bE σ2->aA H H2->c m=false->Kf σ2 H2)->
   g (e m) σ H fun σ2 H2=>tt σ2 H2 fun b H3=>if b=true then te σ2 H3 fun v H4=>Kt v σ2 H4 else Kf σ2 H3)(hd:∀H,aA H0 H->H D=some (.lst ((ms.filter c).map e))->dJ H):gJ (Dr K a) g tt te D dJ σB (upd H0 D (.lst [])):=by
 refine dh (xs:=ms.map e) (fun i ys σ H=>bE σ/\aA H0 H/\H D=some (.lst ys)/\ys=((ms.take i).filter c).map e) ⟨h0,aj hD,af,rfl⟩ (fun i ys σ H _ z=>aV.of (z.2.1 _ _ ha)) ?_ ?_
 .rintro i x ys σ H Kt Kf hx ⟨sh,sm,d8,rfl⟩ kt kf;rw[bN] at hx;cases hz:ms[i]? with
  |none=>rw[hz] at hx;cases hx
  |some m=>
   rw[hz] at hx;obtain rfl:e m=x:=bX hx;have tk:ms.take (i+1)=ms.take i++[m]:=by rw[fZ,hz];rfl
   refine hs m σ H Kt Kf (cZ hz) sh sm (fun σ2 H2 mI s2 hc=>?_) (fun σ2 H2 mI s2 hc=>?_)
   .refine kt _ _ _ (s2 _ _ d8) ?_ ⟨mI,bD (sm.trans s2) hD,af,by rw[tk,ft];simp[c_,hc]⟩;rw[aP];exact fq (aY (fW _ _) (m_ _ _)) (fq hn (by decide))
   .exact kf _ _ ⟨mI,sm.trans s2,s2 _ _ d8,by rw[tk,ft];simp[c_,hc]⟩
 .rintro ys σ H ⟨_,sm,d8,rfl⟩;rw[aP,iA] at d8;exact hd H sm d8
def Bm(u:Int×Int):List iC:=[.inl u.1,.inl u.2]
theorem yI{k:List iC}:∀ {ps:List TK} {m:List (List iC×V)},(iI (dG m ps) k).isSome=true↔(iI m k).isSome=true\/k∈ps.map fun p:TK=>p.1
 |[],m=>by unfold dG;simp
 |p::ps,m=>by
  have ih:=yI (k:=k) (ps:=ps) (m:=sA m p.1 p.2.2);rw[show dG m (p::ps)=dG (sA m p.1 p.2.2) ps from rfl,ih,Gx];by_cases c:k=p.1
  .rw[aD c];simp[c]
  .rw[au c,eJ];simp[c]
theorem Lv{u:Int×Int}{ts:Ts}:Bm u∈ts.map Bm↔u∈ts:=by
 constructor
 .intro h;obtain⟨v,hv,e⟩:=bn.mp h;unfold Bm at e;injection e with e1 e2;injection e2 with e2 _;rw[show u=v from fQ (Sum.inl.inj e1).symm (Sum.inl.inj e2).symm];exact hv
 .exact fun h=>bn.mpr ⟨u,h,rfl⟩
theorem Lw{n:Nat}{ts:Ts}(F:cA n ts){h:Nat}(hh:h<n):((List.range (n-1)).map fun s=>(h+(s+1)) % n).filter (fun o=>decide ((ci h,ci o)∈ts))=bj n ts h:=by
 unfold bj;obtain⟨m,rfl⟩:∃m,n=m+1:=⟨n-1,by lia⟩
 have e0:(h+0) % (m+1)=h:=jC hh;rw[oG,eJ,c_,cy,e0];have nt:¬ T ts h h:=fun z=>F.ne _ z rfl;rw[au (fun z=>nt (dB z)),show m+1-1=m from rfl];exact vv fun o _=>ku.mpr Iff.rfl
section
variable {P:Program} {w:World} {K:PySem.W.Frag} {mg:Str->Option Value} {base:Heap}
theorem og:aT ["_law_n","_law_ties","_law_known","_law_found","_law_house","_law_round_it"] ["_law_n","_law_ties"] (av Bw):=cV (by decide +kernel)
def wS:Sp:=fun vs H Q _=>∃ (n:Nat) (l:Addr) (zs:Zs),vs=[.int n,.ref l]/\H l=some (.lst (zr zs))/\PO H zs/\cA n (zp zs)/\∀ (r:Addr) (H':Hp),aA H H'->H r=none->cX H' (fun a=>H a=none) r n (bj n (zp zs))->Q (.ref r) H'
theorem Ic{f:Addr}{fd:FuncData}(F:gv K "_law_outs" "_law_outs" Bw f fd)(B:Bl mg)(B2:Se mg):bU P w K mg base bv 1 f fd ["_law_n","_law_ties"] wS:=by
 refine F.ok og (fun vs H Q E h=>?_) (fun dY A outer s H vs Q E hr h=>?_)
 .obtain⟨n,l,zs,rfl,_⟩:=h;rfl
 .obtain⟨n,l,zs,rfl,hl,po,Fi,q⟩:=h;have n1:=Fi.n1;have n2:=Fi.n2;have zl:zs.length<=256:=by have:=Fi.len;rwa [bT] at this
  refine'⟨_,(ai (aN (i:=2) og.nd rfl bL (cL (Bo rfl hr.u) (by rfl) B2.dict PyProof.Rows.boot_dict (aa ?c1 ae)))
   (ai (aN (i:=3) og.nd rfl aU (cm ae))
   (ai (cP dO rfl (bC rfl B.range (aa (pv 0) ae)) (aw (i:=4) og.nd rfl bL)
    (ai (dt (i:=5) (g:=(bK 0)) (te:=(gw (rI (fun _ j=>0<j) fun i j=>.int (i % j)) (gw (tW fun i j=>.int (i+j)) (aX 1) (aX 0)) (aX 2))) (NB:=["_law_step","_law_house","_law_n"]) (src:=[none,some 4,some 0]) (bJ (by kernel_rfl)) rfl (pe rfl B.range (aa aq (aa (pv 0) ae))) ?g2 ?t2 ?e2 og.nd rfl rfl rfl)
    (ak (cU (hX g9 m6 mZ eA (pv 3) (aa ?c3 ae))))))
   (ak (aM (pv 3)))))),?_⟩
  case c1=>
   refine' bV (g:=(bK 0)) (te:=(kh (bi (aX 0) (bi (tC (.bl true)) dQ)))) (NB:=["_law_tie"]) (src:=[none]) (bJ (by kernel_rfl)) rfl (bP (pv 1)) ?g ?t ?e;case g=>exact fun cl C s₃ H₃ fp=>(aw (i:=0) HQ rfl aU bL)
   case t=>exact fun cl C s₃ H₃ fp=>ce
   case e=>exact fun cl C s₃ H₃ fp=>(br (aa (pv 0) (aa gI ae)))
  case g2=>exact fun cl C s₃ H₃ fp=>(aw (i:=0) qE rfl aU bL)
  case t2=>exact fun cl C s₃ H₃ fp=>ce
  case e2=>exact fun cl C s₃ H₃ fp=>(bu iU (bu dP (pv 1) (pv 0)) (pv 2))
  case c3=>
   refine' bV (g:=(bK 0)) (tt:=(tB (Ug (kh (bi (aX 1) (bi (aX 0) dQ))) (aX 2)))) (te:=(aX 0)) (NB:=["_law_there","_law_house","_law_known"]) (src:=[none,some 4,some 2]) (bJ (by kernel_rfl)) rfl (bP (pv 5)) ?g ?t ?e;case g=>exact fun cl C s₃ H₃ fp=>(aw (i:=0) lr rfl aU bL)
   case t=>exact fun cl C s₃ H₃ fp=>eG (Og (O7 hr.u (br (aa (pv 1) (aa (pv 0) ae))) (pv 2)))
   case e=>exact fun cl C s₃ H₃ fp=>(pv 0)
  refine⟨_,rfl,l,rfl,⟨_,aV.of hl⟩,fun D1 mW=>?_⟩;refine dh (xs:=zr zs) (fun i ys σ H2=>(∃x,σ=[x])/\aA H H2/\H2 D1=some (.lst ys)/\∃as:List Addr,ys=as.map V.ref/\as.length=i/\∀j,j<i->∃z,zs[j]?=some z/\H2 (as.getD j 0)=some (.tup [.ref z.1,.bl true])) ⟨⟨_,rfl⟩,aj mW,af,[],rfl,rfl,fun j hj=>absurd hj (kA _)⟩ (fun i ys σ H2 _ z=>aV.of (z.2.1 _ _ hl)) ?_ ?_
  .rintro i x ys σ H2 Kt Kf hx ⟨⟨x',rfl⟩,sm,d8,as,rfl,al,ah⟩ kt kf;obtain⟨z,hz,rfl⟩:=pN hx;have hi:i<zs.length:=(cY.mp hz).1;refine⟨_,rfl,by show 2<=sizeLine;decide,fun t ht=>?_⟩;have st:=aj (o:=.tup [.ref z.1,.bl true]) ht;have nD:D1≠t:=ap d8 ht;refine kt _ _ _ (st _ _ d8) (by rw[aP,al];exact cQ (show i<1000 by lia) (by decide)) ⟨⟨_,rfl⟩,bD (sm.trans st) mW,af,as++[t],by rw[cK];rfl,by rw[cn,al];rfl,fun j hj=>?_⟩;by_cases c:j<i
   .obtain⟨z',e1,e2⟩:=ah j c;refine⟨z',e1,?_⟩;have e3:=st _ _ e2;rw[aS,i6 (by lia),<-aS,ao (by rintro e;rw[e,st _ _ d8] at e3;cases e3)];exact e3
   .obtain rfl:j=i:=by lia
    refine⟨z,hz,?_⟩;rw[aS,kn (by lia),al,jh];show (upd _ D1 _) t=_;rw[ao nD.symm];exact af
  rintro ys σ H2 ⟨_,s2,iq,as,rfl,al,ah⟩;rw[dA] at al ah;refine⟨D1,as,zs.map fun z=>(Bm z.2,z.1,V.bl true),rfl,iq,by rw[aP];exact al,fun i hi=>?_,by rw[aP];lia,fun Kn hK=>?_⟩
  .rw[aP] at hi;obtain⟨z,e1,e2⟩:=ah i hi;exact⟨Bm z.2,z.1,.bl true,by rw[bN,e1];rfl,e2,s2 _ _ (po z (cZ e1))⟩
  have U6:∀u:Int×Int,(iI (dG [] (zs.map fun z=>(Bm z.2,z.1,V.bl true))) (Bm u)).isSome=decide (u∈zp zs):=fun u=>by
   rw[hV,yI,cy,rq];have e:((fun p:TK=>p.1) ∘ fun z:Addr×Int×Int=>(Bm z.2,z.1,V.bl true))=Bm ∘ fun z:Addr×Int×Int=>z.2:=rfl;rw[e,<-cy];have:=Lv (u:=u) (ts:=zp zs);unfold zp at this |-;rw[this];simp[iI]
  have sK:=aj (o:=.dT (dG [] (zs.map fun z=>(Bm z.2,z.1,V.bl true)))) hK;have hKK:(upd H2 Kn (.dT (dG [] (zs.map fun z=>(Bm z.2,z.1,V.bl true))))) Kn=some (.dT (dG [] (zs.map fun z=>(Bm z.2,z.1,V.bl true)))):=af;generalize dG [] _=kd at *;refine⟨by show 0<=sizeLine;decide,fun R hR=>?_⟩;have s3:aA H _:=s2.trans sK;have hK3:=aj (o:=.lst []) hR _ _ hKK;have hRH:=s3.free hR;have s4:=s3.trans (aj (o:=.lst []) hR);refine⟨_,rfl,(n:Int),rfl,by lia,by lia,dg (n:=n) (lo:=0) (fun i σ Hc=>(∃a b,σ=[some (.int n),some (.ref l),some (.ref Kn),some (.ref R),a,b])/\aA H Hc/\Hc Kn=some (.dT kd)/\∃bs:List Addr,Hc R=some (.lst (bs.map V.ref))/\(∀b∈bs,H b=none/\b≠R)/\Holds Hc bs i fun h=>.lst (NV (bj n (zp zs) h))) ⟨⟨_,_,rfl⟩,s4,hK3,[],af,fun b hb=>(nomatch hb),Holds.nil⟩ ?_ ?_⟩
  .rintro i σ Hc hi ⟨⟨x4,x5,rfl⟩,sc,Xz,bs,U7,fr,hb⟩;have nKR:Kn≠R:=by rintro rfl;rw[Xz] at U7;cases U7
   rw[eK];refine⟨_,rfl,1,(n:Int),rfl,⟨by decide,by decide,by lia,by lia⟩,fun D2 iq=>?_⟩;rw[show ((n:Int)-1).toNat=n-1 by lia];refine C4 (lo:=1) (n:=n-1) (fun s=>V.int (((i+(s+1)) % n:Nat):Int)) (fun σ=>∃x,σ=[x,some (.int (i:Nat)),some (.int n)]) iq (by lia) ⟨_,rfl⟩ ?_ ?_
   .rintro x σ H4 R' Kf hx ⟨x',rfl⟩ tm kt;have e:((i:Int)+(1+(x:Int))) % (n:Int)=(((i+(x+1)) % n:Nat):Int):=by lia
    refine⟨_,rfl,_,rfl,_,_,rfl,rfl,_,rfl,_,_,rfl,rfl,(by show (0:Int)<(n:Int);lia),?_⟩;have:=kt [some (.int (1+(x:Int))),some (.int (i:Nat)),some (.int n)] H4 ⟨_,rfl⟩ (aA.refl _);rw[<-e] at this;exact this
   intro H4 s4 Be;have U8:H4 D2=some (.lst (((List.range (n-1)).map fun s=>(i+(s+1)) % n).map fun (x:Nat)=>V.int (x:Int))):=by rw[Be,cy];rfl
   have qR:=s4 _ _ U7;refine⟨_,rfl,.inl ⟨rfl,_,aV.of qR⟩,_,rfl,D2,rfl,⟨_,aV.of U8⟩,fun D3 pQ=>?_⟩;refine Lu ((List.range (n-1)).map fun s=>(i+(s+1)) % n) (fun (x:Nat)=>V.int (x:Int)) (fun o=>decide ((ci i,ci o)∈zp zs)) (fun σ=>∃x,σ=[x,some (.int (i:Nat)),some (.ref Kn)]) U8 pQ (by rw[aP,cE];lia) ⟨_,rfl⟩ ?_ ?_
   .rintro m σ H5 Kt Kf hm ⟨x',rfl⟩ wO kt kf;refine⟨_,rfl,_,rfl,by show 2<=sizeLine;decide,fun t ht=>?_⟩;have st:=aj (o:=.tup [.int (i:Int),.int (m:Int)]) ht;have hK5:=st _ _ (wO _ _ (s4 _ _ Xz));refine⟨_,rfl,Kn,_,rfl,Gy.t (k:=Bm (ci i,ci m)) hK5 af,_,rfl,?_⟩;rw[U6];refine eI (fun c=>?_) (fun c=>?_)
    .exact⟨_,rfl,kt _ _ ⟨_,rfl⟩ st c⟩
    .exact kf _ _ ⟨_,rfl⟩ st (by simpa using c)
   intro H5 s5 wT;rw[Lw Fi hi] at wT;have KB:=s5 _ _ qR;have bl:bs.length=i:=hb.1;have E4:D3≠R:=by rintro rfl;rw[qR] at pQ;cases pQ
   refine⟨R,_,_,rfl,rfl,KB,by rw[aP,bl];exact cQ (show i<33 by lia) (by decide),⟨_,_,rfl⟩,bD ((sc.trans s4).trans s5) hRH,?_,bs++[D3],by rw[af,cK];rfl,fun b xt=>?_,?_⟩
   .rw[ao nKR];exact s5 _ _ (s4 _ _ Xz)
   .rcases bY.mp xt with z|z
    .exact fr b z
    .rw[cC.mp z];exact⟨(sc.trans s4).free pQ,E4⟩
   .refine Holds.snoc (hb.mono fun j hj e=>?_) (by rw[ao E4];exact wT);have e5:=s5 _ _ (s4 _ _ e);have hm:bs.getD j 0∈bs:=by rw[aS,bq (by lia)];exact dv _
    rw[ao (fr _ hm).2];exact e5
  .rintro σ Hc ⟨⟨x4,x5,rfl⟩,sc,Xz,bs,U7,fr,hb⟩;exact⟨_,rfl,q R Hc sc hRH ⟨bs,U7,fun b xt=>(fr b xt).1,hb⟩⟩
end
end jT
theorem eY{P:Prop}(h:∀G:Prop,(P->G)->G):P:=h P id
namespace jT
open PySem L2 fJ
abbrev Bx:Stmt:=iK 45
theorem iu:(["_law_house","_law_home","_law_many","_law_outs_here"]:List Str).Nodup:=by decide +kernel
def oV:Option Nat->V
 |none=>.bz
 |some k=>.int (k:Int)
theorem aB.put{p a:Addr}{H H':Hp}{o:HO}(s:aB p H H')(e:H a=none):aB p H (upd H' a o):=fun b o' h n=>by
 rw[ao (ap h e)];exact s _ _ h n
section
variable {P:Program} {w:World} {K:PySem.W.Frag} {mg:Str->Option Value} {base:Heap}
theorem g8:aT ["_law_pot_here","_law_n","_law_outs_here","_law_many","_law_homes","_law_stand_here","_law_crowd","_law_k","_law_home","_law_some","_law_house"] ["_law_pot_here","_law_n","_law_outs_here"] (av Bx):=cV (by decide +kernel)
structure mP(n:Nat)(ts:Ts)(homes:List Nat)(st:List (Option Nat)):Prop where
 len:homes.length=st.length
 le:st.length<=16
 hs:∀x∈homes,x<n
 ss:∀y,some y∈st->y<n
 NG:∀y,y<n->st.count (some y)<=(bj n ts y).length
 ne:∀j y,st.getD j none=some y->homes.getD j 0≠y
def wU:Sp:=fun vs H Q _=>∃ (p:Addr) (n:Nat) (r:Addr) (ts:Ts) (L:Addr->Prop),vs=[.ref p,.int n,.ref r]/\2<=n/\n<=32/\bB H p/\cX H L r n (bj n ts)/\L r/\¬ L p/\
 ∀ (t a b:Addr) (homes:List Nat) (st:List (Option Nat)) (H':Hp),aB p H H'->bB H' p->H' t=some (.tup [.ref a,.ref b])->H' a=some (.tup (NV homes))->H' b=some (.tup (st.map oV))->mP n ts homes st->Q (.ref t) H'
theorem Ie{f:Addr}{fd:FuncData}(F:gv K "_law_stand" "_law_stand" Bx f fd)(B:Bl mg)(D:cu P w K mg base bv 1 "_law_take" ["_law_pot_here","_law_many"] fv):bU P w K mg base bv 2 f fd ["_law_pot_here","_law_n","_law_outs_here"] wU:=by
 refine F.ok g8 (fun vs H Q E h=>?_) (fun dY A outer s H vs Q E hr h=>?_)
 .refine eY fun fk cM=>?_;obtain⟨p,n,r,ts,L,rfl,_⟩:=h;refine cM ?_;clear cM fk;rfl
 .refine eY fun fk cM=>?_;obtain⟨p,n,r,ts,L,rfl,n1,n2,hp,R0,Lx,Ig,q⟩:=h;refine cM ?_;clear cM fk;refine'⟨_,(ai (aN (i:=3) g8.nd rfl bL (bu vZ (cm (aa aq ae)) (pv 1)))
   (ai (On (i:=4) (j:=5) rfl g8.nd rfl rfl (by decide) rfl rfl (aa (cm ae) (aa (cm ae) ae)) (by rfl))
   (ai (aN (i:=6) g8.nd rfl aU (az D hr aL (aa (pv 0) (aa aq ae))))
   (ai (cP dO rfl (bC rfl B.range (aa (az D hr aL (aa (pv 0) (aa aq ae))) ae)) (aw (i:=7) g8.nd rfl aU)
    (ai (aN (i:=8) g8.nd rfl bL (az D hr aL (aa (pv 0) (aa (pv 1) ae))))
    (ai (dt (i:=9) (g:=(bK 0)) (tt:=(SS (ja (gw (Yq) (aX 0) (aX 1))) (ja (gw (tW fun i j=>.bl (decide (i<j))) (gw (ki K) (aX 2) (aX 0)) (J2 (fun xs H Q=>∃p ys,xs=[V.ref p]/\(aV K H p ys\/bt K H p ys)/\Q (.int ys.length) H) (bi (gw (ki K) (aX 3) (aX 0)) dQ)))))) (te:=(aX 0)) (NB:=["_law_house","_law_home","_law_many","_law_outs_here"]) (src:=[none,some 8,some 3,some 2]) (bJ (by kernel_rfl)) rfl (bC rfl B.range (aa (pv 1) ae)) ?g1 ?t1 ?e1 g8.nd rfl rfl rfl)
    (ai (bA (aK eN (pv 6) aq (aR _)) (ak (aN (i:=9) g8.nd rfl aU (fE Cc (pv 9) gW (gX aq)))) aQ)
    (ai (aN (i:=10) g8.nd rfl aU cN)
    (ai (bA (PW.pt (io (aK (AL (e:=iH) hr.u) (pv 9) (cm ae) (aR _)) (gU (aK B5 (az D hr aL (aa (pv 0) (aa aq ae))) aq (aR _))))) (ai (aN (i:=10) g8.nd rfl aU (aG aH (pv 9) (az D hr aL (aa (pv 0) (aa (aI aF (by rfl) B.len cp (aa (pv 9) ae)) ae))) (fun _ _=>rfl)))
     (ak (dW (bu dP (aG aH (pv 3) (pv 10) (fun _ _=>rfl)) aq) (iT (pv 3) (pv 10) eS)))) aQ)
    (ai (cU (hX g9 m6 mZ eA (pv 4) (aa (pv 8) ae)))
    (ak (cU (hX g9 m6 mZ eA (pv 5) (aa (pv 10) ae)))))))))))
   (ak (aM (br (aa (cL d_ (by rfl) B.tup m9 (aa (pv 4) ae)) (aa (cL d_ (by rfl) B.tup m9 (aa (pv 5) ae)) ae))))))))),?_⟩
  case g1=>exact fun cl C s₃ H₃ fp=>(aw (i:=0) iu rfl aU bL)
  case t1=>exact fun cl C s₃ H₃ fp=>eG (PW.pt (io (aK qa (pv 0) (pv 1) (aR _)) (gU (aK iV (aG aH (pv 2) (pv 0) (fun _ _=>rfl)) (aI aF (by rfl) B.len cp (aa (aG aH (pv 3) (pv 0) (fun _ _=>rfl)) ae)) (aR _)))))
  case e1=>exact fun cl C s₃ H₃ fp=>(pv 0)
  refine⟨by show 1<=sizeLine;decide,fun L1 wu=>⟨_,rfl,L1,_,_,rfl,rfl,af,by lia,by lia,by rw[i8,kq];exact aY (show 1*n<=32 by lia) (by decide),fun M hM=>?_⟩⟩;rw[i8,lh];have eM:List.replicate n (V.int 0)=NV (List.replicate n 0):=by unfold NV;rw[zJ];rfl
  rw[eM];refine⟨by show 0<=sizeLine;decide,fun Hs U9=>⟨by show 0<=sizeLine;decide,fun St Sl=>⟨_,_,rfl,?_⟩⟩⟩;have s1:=aj (o:=.lst [.int 0]) wu;have s2:=s1.trans (aj (o:=.lst (NV (List.replicate n 0))) hM);have s3:=s2.trans (aj (o:=.lst []) U9);have s4:=s3.trans (aj (o:=.lst []) Sl);have fM:=s1.free hM;have fH:=s2.free U9;have fS:=s3.free Sl;have gM:=aj (o:=.lst []) Sl _ _ (aj (o:=.lst []) U9 _ _ (af (H:=upd H L1 (.lst [.int 0])) (a:=M) (o:=.lst (NV (List.replicate n 0)))));have gH:=aj (o:=.lst []) Sl _ _ (af (H:=upd (upd H L1 (.lst [.int 0])) M (.lst (NV (List.replicate n 0)))) (a:=Hs) (o:=.lst []));have gS:=af (H:=upd (upd (upd H L1 (.lst [.int 0])) M (.lst (NV (List.replicate n 0)))) Hs (.lst [])) (a:=St) (o:=.lst []);have nMH:M≠Hs:=ap af U9;have nMS:M≠St:=ap (aj U9 _ _ af) Sl;have nHS:Hs≠St:=ap af Sl;have JA:=hp.ne fM;have Qi:=hp.ne fH;have Qj:=hp.ne fS;generalize upd (upd (upd (upd H L1 _) M _) Hs _) St _=H1 at *;have kZ:=hp.same s4;refine⟨_,rfl,p,2,rfl,by decide,by decide,kZ,fun cr H2 hcr s5 km=>⟨_,rfl,p,17,rfl,by decide,by decide,km,fun d H3 hd s6 oC=>⟨(d:Int),rfl,by lia,by lia,?_⟩⟩⟩;refine dg (n:=d) (lo:=0) (fun i σ Hc=>∃ (ms homes:List Nat) (st:List (Option Nat)),(∃a b c e,σ=[some (.ref p),some (.int n),some (.ref r),some (.ref M),some (.ref Hs),some (.ref St),some (.int (cr:Int)),a,b,c,e])/\aB p H Hc/\bB Hc p/\Hc M=some (.lst (NV ms))/\ms.length=n/\Hc Hs=some (.lst (NV homes))/\Hc St=some (.lst (st.map oV))/\homes.length=i/\st.length=i/\(∀x∈homes,x<n)/\(∀j y,st.getD j none=some y->homes.getD j 0≠y)/\(∀y,some y∈st->y<n)/\∀y,y<n->st.count (some y)=ms.getD y 0/\ms.getD y 0<=(bj n ts y).length)
   ⟨List.replicate n 0,[],[],⟨_,_,_,_,rfl⟩,((aB.of s4).trans s5).trans s6,oC,s6 _ _ (s5 _ _ gM JA) JA,kr,s6 _ _ (s5 _ _ gH Qi) Qi,s6 _ _ (s5 _ _ gS Qj) Qj,rfl,rfl,fun x hx=>(nomatch hx),(fun j y e=>by simp at e),fun y hy=>(nomatch hy),fun y hy=>by rw[aS,lZ,aD hy];exact⟨rfl,de _⟩⟩ ?_ ?_
  .intro i σ Hc hi i5;refine eY fun fk cM=>?_;obtain⟨ms,homes,st,⟨x7,x8,x9,Sm,rfl⟩,sc,jB,P3,ml,XA,XB,E2,OL,PB,UT,PD,U_⟩:=i5;refine cM ?_;clear cM fk;refine⟨_,rfl,_,rfl,p,n,rfl,by lia,by lia,jB,fun home H4 Va s7 n9=>?_⟩;have sH4:=sc.trans s7;have hM4:=s7 _ _ P3 JA;have R4:cX H4 L r n (bj n ts):=R0.keep Lx fun b o l e=>sH4 b o e fun z=>Ig (z ▸ l);obtain⟨bs,b1,b2,b3⟩:=R4;refine⟨_,rfl,(n:Int),rfl,by lia,by lia,fun D1 mW=>?_⟩;refine wK (lo:=0) (n:=n) (fun x=>decide (x≠home)&&decide (ms.getD x 0<(bj n ts x).length)) (fun σ=>∃a,σ=[a,some (.int (home:Int)),some (.ref M),some (.ref r)]) mW (by lia) ⟨_,rfl⟩ ?_ ?_
   .rintro x σ H5 Kt Kf hx ⟨a',rfl⟩ wO kt kf;rw[eK] at kt |-;refine⟨_,rfl,_,rfl,rfl,_,rfl,?_⟩;refine eI (fun c=>?_) (fun c=>?_)
    .have c:x≠home:=by have:=c;simp at this;lia
     have gb:(bs.map V.ref)[x]?=some (.ref (bs.getD x 0)):=by
      rw[bN,aS,bq (by rw[b3.1];exact hx)];rfl
     refine⟨_,rfl,_,rfl,M,_,_,_,rfl,rfl,aV.of (wO _ _ hM4),am (dR (by lia)),_,rfl,_,rfl,r,_,_,_,rfl,rfl,aV.of (wO _ _ b1),am gb,_,_,rfl,.inl (aV.of (wO _ _ (b3.2 x hx))),_,_,rfl,rfl,_,rfl,?_⟩;rw[aO];refine eI (fun c2=>?_) (fun c2=>?_)
     .have c2:=dB c2;exact⟨_,rfl,kt _ _ ⟨_,rfl⟩ (aA.refl _) (by rw[cx c,cx (show ms.getD x 0<(bj n ts x).length by lia)];rfl)⟩
     .exact kf _ _ ⟨_,rfl⟩ (aA.refl _) (by rw[di (show ¬ ms.getD x 0<(bj n ts x).length from fun z=>c2 (cx (by lia))),z_])
    .have c:x=home:=by have:=c;simp at this;lia
     refine cG (kf _ _ ⟨_,rfl⟩ (aA.refl _) (by simp[c]))
   intro H5 s8 wT;have e0:∀c:Nat->Bool,(((List.range n).filter c).map fun (x:Nat)=>V.int (0+(x:Int)))=NV ((List.range n).filter c):=fun c=>js fun x _=>by rw[eK]
   rw[e0] at wT;have HI:∀x∈(List.range n).filter (fun x=>decide (x≠home)&&decide (ms.getD x 0<(bj n ts x).length)),x<n/\ms.getD x 0<(bj n ts x).length/\x≠home:=fun x hx=>⟨bH.mp (cS.mp hx).1,dB (oK.mp (cS.mp hx).2).2,dB (oK.mp (cS.mp hx).2).1⟩
   have hfl:((List.range n).filter (fun x=>decide (x≠home)&&decide (ms.getD x 0<(bj n ts x).length))).length<=32:=aY (fW _ _) (by rw[cE];exact n2);generalize (List.range n).filter _=fs at *;have JE:=sH4.trans (aB.of s8);have u6:=n9.same s8;have Z0:=s8 _ _ hM4;have hH5:=s8 _ _ (s7 _ _ XA Qi);have hS5:=s8 _ _ (s7 _ _ XB Qj);have fD1:=sH4.free n9.full mW;clear s7 s8 P3 XA XB hM4 b1 b2 b3 jB sc;dsimp only;refine dI (fun σ H6=>∃ (S:Addr) (fs:List Nat),(∃a,σ=[some (.ref p),some (.int n),some (.ref r),some (.ref M),some (.ref Hs),some (.ref St),some (.int (cr:Int)),a,some (.int (home:Int)),some (.ref S),Sm])/\aA H5 H6/\H6 S=some (.lst (NV fs))/\S≠p/\(∀x∈fs,x<n/\ms.getD x 0<(bj n ts x).length/\x≠home)/\fs.length<=32) ?_ ?_
   .intro σ H6 i5;refine eY fun fk cM=>?_;obtain⟨S,fs,⟨x7,rfl⟩,s9,Sj,nS,HI,hfl⟩:=i5;refine cM ?_;clear cM fk;have sH6:=JE.trans (aB.of s9);have Nn:=u6.same s9;have Ny:=s9 _ _ Z0;have hH6:=s9 _ _ hH5;have aag:=s9 _ _ hS5;refine dI (fun σ H7=>H7=H6/\σ=[some (.ref p),some (.int n),some (.ref r),some (.ref M),some (.ref Hs),some (.ref St),some (.int (cr:Int)),x7,some (.int (home:Int)),some (.ref S),some .bz]) ?_ (fun N hN=>hN _ _ ⟨rfl,rfl⟩);rintro σ H7 ⟨rfl,rfl⟩;refine dI (fun σ H7=>∃ (o:Option Nat) (Sn:List Nat),(∃a,σ=[some (.ref p),some (.int n),some (.ref r),some (.ref M),some (.ref Hs),some (.ref St),some (.int (cr:Int)),a,some (.int (home:Int)),some (.ref S),some (oV o)])/\aB p H H7/\bB H7 p/\H7 M=some (.lst (NV Sn))/\Sn.length=n/\H7 Hs=some (.lst (NV homes))/\H7 St=some (.lst (st.map oV))/\(∀y,o=some y->y<n/\home≠y)/\∀y,y<n->(st++[o]).count (some y)=Sn.getD y 0/\Sn.getD y 0<=(bj n ts y).length) ?_ ?_
    .intro σ H7 i5;refine eY fun fk cM=>?_;obtain⟨o,Sn,⟨x7',rfl⟩,NH,JC,Ez,ml',Lj,HS,ho,aah⟩:=i5;refine cM ?_;clear cM fk;refine⟨_,rfl,.inl ⟨rfl,_,aV.of Lj⟩,_,rfl,Hs,_,_,rfl,rfl,Lj,by rw[aO];exact cQ (show homes.length<33 by lia) (by decide),?_⟩;have Xv:(upd H7 Hs (.lst (NV homes++[.int (home:Int)]))) St=some (.lst (st.map oV)):=by rw[ao nHS.symm];exact HS
     refine⟨_,rfl,.inl ⟨rfl,_,aV.of Xv⟩,_,rfl,St,_,_,rfl,rfl,Xv,by rw[aP];exact cQ (show st.length<33 by lia) (by decide),?_⟩;refine⟨Sn,homes++[home],st++[o],⟨_,_,_,_,rfl⟩,aB.put (aB.put NH fH) fS,(JC.put Qi.symm).put Qj.symm,by rw[ao nMS,ao nMH];exact Ez,ml',by rw[ao nHS,af,lI],by rw[af,cK];rfl,by rw[cn,E2];rfl,by rw[cn,OL];rfl,fun x hx=>?_,fun j y e=>?_,fun y hy=>?_,aah⟩
     .rcases bY.mp hx with z|z
      .exact PB x z
      .rw[cC.mp z];exact Va
     .rcases Nat.lt_trichotomy j st.length with c|c|c
      .rw[aS,i6 c,<-aS] at e;rw[aS,i6 (by lia),<-aS];exact UT j y e
      .rw[aS,kn (by lia),c,jh] at e;rw[aS,kn (by lia),show j-homes.length=0 by lia];exact(ho y e).2
      .rw[aS,cj (by rw[cn];exact c)] at e;cases e
     .rcases bY.mp hy with z|z
      .exact PD y z
      .exact(ho y (cC.mp z).symm).1
    .intro N hN;refine⟨_,rfl,by show 0<=sizeLine;decide,fun E1 UQ=>?_⟩;have sE:=aj (o:=.lst []) UQ;refine⟨S,E1,_,[],rfl,rfl,aV.of (sE _ _ Sj),aV.of af,fun i h1 h2=>absurd h2 (by simp),_,rfl,?_⟩;rw[aD rfl,pS];have NH:=sH6.trans (aB.of sE);have JC:=Nn.same sE;have Ez:=sE _ _ Ny;have Lj:=sE _ _ hH6;have HS:=sE _ _ aag;have hL7:=sE _ _ Sj;have hc0:∀y,y<n->(st++[none]).count (some y)=ms.getD y 0/\ms.getD y 0<=(bj n ts y).length:=fun y hy=>by rw[List.count_append,List.count_singleton,au (by simp),vM];exact U_ y hy
     by_cases e:NV fs=[]
     .rw[cx e];exact cG (cG (hN _ _ ⟨none,ms,⟨_,rfl⟩,NH,JC,Ez,ml,Lj,HS,fun y hy=>(nomatch hy),hc0⟩))
     .rw[di e];have hl:0<fs.length:=by
       rcases fs with _|⟨x,xs⟩
       .exact absurd rfl e
       .simp
      refine fU ⟨_,rfl,p,6,rfl,by decide,by decide,JC,fun d6 H8 hd6 s8 E6=>⟨_,_,rfl,rfl,_,rfl,eI (fun c=>?_) (fun c=>?_)⟩⟩
      .refine⟨_,rfl,_,rfl,_,rfl,S,_,rfl,.inl (aV.of (s8 _ _ hL7 nS)),p,_,rfl,by rw[aO];exact hl,by rw[aO];lia,E6,fun d7 H9 hd7 Vb JD=>?_⟩;rw[aO] at hd7;have hv:fs[d7]?=some fs[d7]:=bq hd7;have Xq:fs.getD d7 0∈fs:=by rw[aS,hv];exact dv _
       refine⟨S,_,_,_,rfl,rfl,aV.of (Vb _ _ (s8 _ _ hL7 nS) nS),am (dR hd7),?_⟩;obtain⟨hyn,hyc,hye⟩:=HI _ Xq;generalize fs.getD d7 0=y at *;have Sk:=(NH.trans s8).trans Vb;have So:=Vb _ _ (s8 _ _ Ez JA) JA;have Sq:y<ms.length:=by lia
       refine⟨_,rfl,_,rfl,M,_,_,_,rfl,rfl,aV.of So,am (dR Sq),_,_,rfl,rfl,_,rfl,_,rfl,M,_,(y:Int),y,rfl,rfl,So,eH (by rw[aO];exact Sq),?_⟩;refine hN _ _ ⟨some y,ms.set y (ms.getD y 0+1),⟨_,rfl⟩,aB.put Sk fM,JD.put JA.symm,?_,by rw[j5];exact ml,?_,?_,(fun z hz=>by cases hz;exact⟨hyn,hye.symm⟩),fun z hz=>?_⟩
       .rw[af];exact congrArg (fun l=>some (HO.lst l)) (pT (x:=ms.getD y 0+1))
       .rw[ao nMH.symm];exact Vb _ _ (s8 _ _ Lj Qi) Qi
       .rw[ao nMS.symm];exact Vb _ _ (s8 _ _ HS Qj) Qj
       .rw[List.count_append,List.count_singleton,aS,oO];obtain⟨g1,g2⟩:=U_ z hz;by_cases c:y=z
        .subst c;rw[aD (by simp),aD rfl,aD Sq];exact⟨congrArg (·+1) g1,hyc⟩
        .rw[au (by simp[c]),au c,<-aS];exact⟨g1,g2⟩
      .exact hN _ _ ⟨none,ms,⟨_,rfl⟩,NH.trans s8,E6,s8 _ _ Ez JA,ml,s8 _ _ Lj Qi,s8 _ _ HS Qj,fun y hy=>(nomatch hy),hc0⟩
   .intro N hN;refine⟨_,rfl,rfl,_,rfl,eI (fun c=>?_) (fun c=>hN _ _ ⟨D1,fs,⟨_,rfl⟩,aA.refl _,wT,hp.ne fD1,HI,hfl⟩)⟩;refine⟨_,rfl,_,rfl,D1,_,rfl,aV.of wT,fun S hS=>?_⟩;have e3:nq (NV fs) none (some 3)=NV (fs.take 3):=by rw[show (3:Int)=((3:Nat):Int) from rfl,ln];unfold NV;rw[o0]
    refine hN _ _ ⟨S,fs.take 3,⟨_,rfl⟩,aj hS,by rw[af,e3],u6.ne hS,fun x hx=>HI x (j3 hx),aY (m_ _ _) hfl⟩
  .intro σ Hc i5;refine eY fun fk cM=>?_;obtain⟨ms,homes,st,⟨x7,x8,x9,Sm,rfl⟩,sc,jB,P3,ml,XA,XB,E2,OL,PB,UT,PD,U_⟩:=i5;refine cM ?_;clear cM fk;refine⟨_,rfl,Hs,_,rfl,.inl ⟨aV.of XA,fun a ha=>?_⟩⟩;have sa:=aj (o:=.tup (NV homes)) ha;refine⟨_,rfl,St,_,rfl,.inl ⟨aV.of (sa _ _ XB),fun b hb=>⟨by show 2<=sizeLine;decide,fun t ht=>?_⟩⟩⟩;have sb:=aj (o:=.tup (st.map oV)) hb;have bw:=aj (o:=.tup [.ref a,.ref b]) ht;exact q t a b homes st _ (((sc.trans (aB.of sa)).trans (aB.of sb)).trans (aB.of bw)) (((jB.same sa).same sb).same bw) af (bw _ _ (sb _ _ af)) (bw _ _ af) ⟨by lia,by lia,PB,PD,(fun y hy=>by rw[(U_ y hy).1];exact(U_ y hy).2),UT⟩
end
end jT
namespace L2
open PySem PySem.Spec PyProof.Rows
section
variable {X:Cx}
theorem Ly(hu:X.A.units+2<cLine):j6 X (compareOp .Eq) (fun x y H Q=>∃ (p q:Addr) (xs:List V),x=.ref p/\y=.ref q/\bt X.K H p xs/\bt X.K H q []/\Q (.bl xs.isEmpty) H):=by
 intro ag s σ H x y v u Q I rx ry h;obtain⟨p,q,xs,rfl,rfl,hp,hq,k⟩:=h;obtain rfl:v=Value.ref p:=rx;obtain rfl:u=Value.ref q:=ry;obtain⟨us,r1,p1,_⟩:=I.tuple hp;obtain⟨vs,r2,p2,_⟩:=I.tuple hq;obtain rfl:vs=[]:=r2.nu.mpr rfl;refine SeqAt.eq_tupleAt (e:=fun _=>true) (show s.heap.IsTuple p us.toArray from p1) (show s.heap.IsTuple q #[] from p2) (by lia) (fun j h1 h2=>absurd h2 (kA _)) ⟨.bl _,H,I,rfl,?_⟩;have e:(us.toArray.size==(#[]:Array Value).size)=xs.isEmpty:=by
  rw[hV];simp only[bQ,List.isEmpty_iff];rw[<-r1.length];simp
 rw[tu,e,Ac];exact k
end
section
variable {X:Cx} {es:List Expr} {t:TA} {pos:Pos}
def NI(t:TA):TE:=fun σ H Q=>t σ H fun xs H1=>xs.length<=sizeLine/\∀p,H1 p=none->sysModules≠p->Q (.ref p) (upd H1 p (.lst xs))
theorem Lz(h:PA X es t):PE X (.List es pos) (NI t):=by
 intro ag s σ H Q I hq;refine wpAny_List_spliced (dk (h pos ag s σ H _ I hq) fun us s1 ⟨xs,H1,I1,r,z,q⟩=>⟨by rw[<-r.length];exact z,?_⟩);have hf:H1 s1.heap.objs.size=none:=I1.cI.fresh (aW _);refine⟨.ref s1.heap.objs.size,upd H1 s1.heap.objs.size (.lst xs),I1.laid (t':=s1.toks) (fun b u e=>cg _ e) (aW _) ?_,rfl,q _ hf (bh I1.big)⟩;exact⟨z,us,0,r,cR _ rfl⟩
theorem By:fA X (.type "list") (fun xs H Q=>∃p ys,xs=[.ref p]/\H p=some (.tup ys)/\∀l,H l=none->sysModules≠l->Q (.ref l) (upd H l (.lst ys))):=by
 intro ag s σ H xs us Q I r h;obtain⟨p,ys,rfl,hq,q⟩:=h;obtain⟨u,rfl,rx⟩:=r.one;cases rx;obtain⟨its,r',pl,hz⟩:=I.tuple (bt.of hq);have dz:=r'.length;obtain⟨o,ho,hc,n,hd⟩:=pl;exact call_list_seq p (.inr rfl) ho hc hd (fun h' c' kp e=>⟨.ref s.heap.objs.size,_,I.laid (t':=s.toks) kp (aW _) (show cF X.prog X.w _ h' _ (.lst ys) from ⟨hz,its,c',r',e⟩),rfl,q _ (I.cI.fresh (aW _)) (bh I.big)⟩) (by simp only[bQ] <;> lia)
end
inductive F2 (R:V->PyData->Prop):List V->List PyData->Prop where
 |nil:F2 R [] []
 |cons {x:V} {d:PyData} {xs:List V} {ds:List PyData} (h:R x d) (hs:F2 R xs ds):F2 R (x::xs) (d::ds)
theorem F2.mono{R S:V->PyData->Prop}(k:∀x d,R x d->S x d):∀ {xs:List V} {ds:List PyData},F2 R xs ds->F2 S xs ds
 |_,_,.nil=>.nil
 |_,_,.cons h hs=>.cons (k _ _ h) (F2.mono k hs)
def oh(L:Addr->Prop)(H:Hp)(x:V)(d:PyData):Prop:=
 (x=.bz/\d=.none)\/(∃c,x=.bl c/\d=.bool c)\/(∃i:Int,x=.int i/\d=.int i/\((-1<=i/\i<=33)\/i=10 ^ 59))\/(∃z:Str,x=.str z/\d=.str z/\(z="w"\/z=""))\/(∃a,x=.ref a/\d=.dict []/\L a/\H a=some (.dK []))
def Sh(L:Addr->Prop)(H:Hp):Nat->V->PyData->Prop
 |0=>oh L H
 |k+1=>fun x d=>oh L H x d\/(∃a xs ds,x=.ref a/\d=.tuple ds/\L a/\H a=some (.tup xs)/\F2 (Sh L H k) xs ds)\/(∃a xs ds,x=.ref a/\d=.list ds/\L a/\H a=some (.lst xs)/\F2 (Sh L H k) xs ds/\sysModules≠a)
def jV(L:Addr->Prop)(H H':Hp):Prop:=∀a o,L a->H a=some o->(∀ps,o≠.qu ps)->H' a=some o
theorem jV.of{L:Addr->Prop}{H H':Hp}(s:aA H H'):jV L H H':=fun _ _ _ e _=>s _ _ e
theorem oh.keep{L:Addr->Prop}{H H':Hp}{x:V}{d:PyData}(h:oh L H x d)(k:jV L H H'):oh L H' x d:=by
 rcases h with h|h|h|h|⟨a,e1,e2,l,e3⟩
 .exact .inl h
 .exact .inr (.inl h)
 .exact .inr (.inr (.inl h))
 .exact .inr (.inr (.inr (.inl h)))
 .exact .inr (.inr (.inr (.inr ⟨a,e1,e2,l,k a _ l e3 nofun⟩)))
theorem Sh.keep{L:Addr->Prop}{H H':Hp}(k:jV L H H'):∀ {n:Nat} {x:V} {d:PyData},Sh L H n x d->Sh L H' n x d
 |0,x,d,h=>oh.keep h k
 |n+1,x,d,h=>by
  rcases h with h|⟨a,xs,ds,e1,e2,l,e3,hs⟩|⟨a,xs,ds,e1,e2,l,e3,hs,ns⟩
  .exact .inl (oh.keep h k)
  .exact .inr (.inl ⟨a,xs,ds,e1,e2,l,k a _ l e3 nofun,hs.mono fun x d=>Sh.keep k⟩)
  .exact .inr (.inr ⟨a,xs,ds,e1,e2,l,k a _ l e3 nofun,hs.mono fun x d=>Sh.keep k,ns⟩)
theorem Sh.up{L:Addr->Prop}{H:Hp}:∀ {n:Nat} {x:V} {d:PyData},Sh L H n x d->Sh L H (n+1) x d
 |0,x,d,h=>.inl h
 |n+1,x,d,h=>by
  rcases h with h|⟨a,xs,ds,e1,e2,l,e3,hs⟩|⟨a,xs,ds,e1,e2,l,e3,hs,ns⟩
  .exact .inl h
  .exact .inr (.inl ⟨a,xs,ds,e1,e2,l,e3,hs.mono fun x d=>Sh.up⟩)
  .exact .inr (.inr ⟨a,xs,ds,e1,e2,l,e3,hs.mono fun x d=>Sh.up,ns⟩)
theorem oh.facts{L:Addr->Prop}{H:Hp}{x:V}{d:PyData}(h:oh L H x d):d.showable=true/\d.depth<=1/\d.leavesShort 64=true/\d.weight<=200:=by
 rcases h with ⟨_,rfl⟩|⟨c,_,rfl⟩|⟨i,_,rfl,h|rfl⟩|⟨z,_,rfl,rfl|rfl⟩|⟨a,_,rfl,_⟩
 rotate_left
 .cases c <;> decide +kernel
 .have all:∀n:Nat,n<35->(PyData.int ((n:Int)-1)).showable=true/\(PyData.int ((n:Int)-1)).depth<=1/\(PyData.int ((n:Int)-1)).leavesShort 64=true/\(PyData.int ((n:Int)-1)).weight<=200:=by decide +kernel
  obtain⟨n,rfl,hn⟩:∃n:Nat,i=(n:Int)-1/\n<35:=⟨(i+1).toNat,by lia,by lia⟩
  exact all n hn
 all_goals decide +kernel
section
variable {X:Cx} {ag:List (Addr×Obj)} {σ:St} {H:Hp} {s:Shared} {L:Addr->Prop}
end
def Sw(L:Addr->Prop)(H:Hp)(n W:Nat)(x:V):Prop:=∃d,Sh L H n x d/\d.weight<=W
section
variable {L:Addr->Prop} {H H':Hp} {n W:Nat} {x:V}
theorem Sw.keep(h:Sw L H n W x)(k:jV L H H'):Sw L H' n W x:=let ⟨d,a,b⟩:=h;⟨d,a.keep k,b⟩
theorem Sw.up(h:Sw L H n W x):Sw L H (n+1) W x:=let ⟨d,a,b⟩:=h;⟨d,a.up,b⟩
theorem Sw.le{V:Nat}(h:Sw L H n W x)(l:W<=V):Sw L H n V x:=let ⟨d,a,b⟩:=h;⟨d,a,aY b l⟩
theorem oj{d:PyData}(h:oh L H x d):∀ {n:Nat},Sw L H n 200 x
 |0=>⟨d,h,(oh.facts h).2.2.2⟩
 |_+1=>⟨d,.inl h,(oh.facts h).2.2.2⟩
theorem Vc{R:V->PyData->Prop}{xs:List V}(hR:∀x∈xs,∃d,R x d/\d.weight<=W):∃ds,F2 R xs ds/\PyData.weightAll ds<=xs.length*(W+1):=by
 induction xs with
 |nil=>exact⟨[],.nil,by unfold PyData.weightAll;exact de _⟩
 |cons x xs ih=>
  obtain⟨d,h1,h2⟩:=hR x bZ;obtain⟨ds,g1,g2⟩:=ih fun y hy=>hR y (du _ hy);exact⟨d::ds,.cons h1 g1,by unfold PyData.weightAll;rw[dC,vK];lia⟩
theorem wV{a:Addr}{xs:List V}(l:L a)(h:H a=some (.tup xs))(hs:∀x∈xs,Sw L H n W x):Sw L H (n+1) (xs.length*(W+1)) (.ref a):=
 let ⟨ds,hs,hw⟩:=Vc hs;⟨_,.inr (.inl ⟨a,xs,ds,rfl,rfl,l,h,hs⟩),by unfold PyData.weight;exact hw⟩
theorem Ih{a:Addr}{xs:List V}(l:L a)(ns:sysModules≠a)(h:H a=some (.lst xs))(hs:∀x∈xs,Sw L H n W x):Sw L H (n+1) (xs.length*(W+1)) (.ref a):=
 let ⟨ds,hs,hw⟩:=Vc hs;⟨_,.inr (.inr ⟨a,xs,ds,rfl,rfl,l,h,hs,ns⟩),by unfold PyData.weight;exact hw⟩
theorem iw{i:Int}(h:(-1<=i/\i<=33)\/i=10 ^ 59):Sw L H n 200 (.int i):=oj (.inr (.inr (.inl ⟨i,rfl,rfl,h⟩)))
theorem tJ:Sw L H n 200 .bz:=oj (.inl ⟨rfl,rfl⟩)
theorem Ii{z:Str}(h:z="w"\/z=""):Sw L H n 200 (.str z):=oj (.inr (.inr (.inr (.inl ⟨z,rfl,rfl,h⟩))))
theorem Vd{b:Bool}:Sw L H n 200 (.bl b):=oj (.inr (.inl ⟨b,rfl,rfl⟩))
theorem Qk{a:Addr}(l:L a)(h:H a=some (.dK [])):Sw L H n 200 (.ref a):=oj (.inr (.inr (.inr (.inr ⟨a,rfl,rfl,l,h⟩))))
end
end L2
namespace jT
open PySem L2 fJ
abbrev iN:=Option (Option Int)
inductive En (K:PySem.W.Frag) (H:Hp):V->iN->Prop where
 |bz:En K H .bz none
 |th {x:V} {o:Option Int} (h:x≠.bz) (w:Wh K H x o):En K H x (some o)
def EB(K:PySem.W.Frag)(H:Hp)(xs:List V)(es:List iN):Prop:=xs.length=es.length/\∀i,i<es.length->En K H (xs.getD i .bz) (es.getD i none)
inductive Th (K:PySem.W.Frag) (H:Hp):V->Option (List iN)->Prop where
 |tup {p:Addr} {xs:List V} {es:List iN} (h:H p=some (.tup xs)) (e:EB K H xs es):Th K H (.ref p) (some es)
 |no {x:V} {t:Value} (ty:M_ K H x t) (h:PySem.W.kitOne K t (.type "tuple")=some false):Th K H x none
section
variable {K:PySem.W.Frag}
theorem u8{H:Hp}{x:V}{t:Value}(ty:M_ K H x t)(h:PySem.W.kitOne K t (.type "int")=some false\/(PySem.W.kitOne K t (.type "int")=some true/\PySem.W.kitOne K t (.type "bool")=some true)):Wh K H x none:=.no ⟨t,ty,h⟩
theorem _root_.L2.Sh.en{L:Addr->Prop}{H:Hp}{n:Nat}{x:V}{d:PyData}(h:Sh L H n x d):∃e,∀H',jV L H H'->En K H' x e:=by
 have at_:oh L H x d->∃e,∀H',jV L H H'->En K H' x e:=fun h=>by
  rcases h with ⟨rfl,_⟩|⟨c,rfl,_⟩|⟨i,rfl,_⟩|⟨z,rfl,_⟩|⟨a,rfl,_,l,h⟩
  .exact⟨none,fun H' _=>.bz⟩
  .exact⟨some none,fun H' _=>.th (fun z=>by cases z) (u8 (.of (.bl _)) (.inr ⟨by kernel_rfl,by kernel_rfl⟩))⟩
  .exact⟨some (some i),fun H' _=>.th (fun z=>by cases z) (.int i)⟩
  .exact⟨some none,fun H' _=>.th (fun z=>by cases z) (u8 (.of (.str _)) (.inl (by kernel_rfl)))⟩
  .exact⟨some none,fun H' k=>.th (fun z=>by cases z) (u8 (.of (.dK (k a _ l h nofun))) (.inl (by kernel_rfl)))⟩
 match n,h with
 |0,h=>exact at_ h
 |n+1,h=>
  rcases h with h|⟨a,xs,ds,rfl,_,l,h,_⟩|⟨a,xs,ds,rfl,_,l,h,_⟩
  .exact at_ h
  .exact⟨some none,fun H' k=>.th (fun z=>by cases z) (u8 (.of (.tup (k a _ l h nofun))) (.inl (by kernel_rfl)))⟩
  .exact⟨some none,fun H' k=>.th (fun z=>by cases z) (u8 (.of (.lst (k a _ l h nofun))) (.inl (by kernel_rfl)))⟩
theorem Ij{L:Addr->Prop}{H:Hp}{n:Nat}:∀ {xs:List V} {ds:List PyData},F2 (Sh L H n) xs ds->∃es:List iN,∀H',jV L H H'->EB K H' xs es
 |[],[],.nil=>⟨[],fun H' _=>⟨rfl,fun i hi=>(nomatch hi)⟩⟩
 |x::xs,d::ds,.cons h hs=>by
  obtain⟨e,he⟩:=h.en (K:=K);obtain⟨es,Jx⟩:=Ij hs;refine⟨e::es,fun H' k=>⟨by rw[dC,dC,(Jx H' k).1],fun i hi=>?_⟩⟩;cases i with
  |zero=>exact he H' k
  |succ i=>exact(Jx H' k).2 i (Nat.lt_of_succ_lt_succ hi)
theorem _root_.L2.Sh.th{L:Addr->Prop}{H:Hp}{n:Nat}{x:V}{d:PyData}(h:Sh L H n x d):∃o,∀H',jV L H H'->Th K H' x o:=by
 have at_:oh L H x d->∃o,∀H',jV L H H'->Th K H' x o:=fun h=>by
  rcases h with ⟨rfl,_⟩|⟨c,rfl,_⟩|⟨i,rfl,_⟩|⟨z,rfl,_⟩|⟨a,rfl,_,l,h⟩
  .exact⟨none,fun H' _=>.no (.of .bz) (by kernel_rfl)⟩
  .exact⟨none,fun H' _=>.no (.of (.bl _)) (by kernel_rfl)⟩
  .exact⟨none,fun H' _=>.no (.of (.int _)) (by kernel_rfl)⟩
  .exact⟨none,fun H' _=>.no (.of (.str _)) (by kernel_rfl)⟩
  .exact⟨none,fun H' k=>.no (.of (.dK (k a _ l h nofun))) (by kernel_rfl)⟩
 match n,h with
 |0,h=>exact at_ h
 |n+1,h=>
  rcases h with h|⟨a,xs,ds,rfl,_,l,h,hs⟩|⟨a,xs,ds,rfl,_,l,h,_⟩
  .exact at_ h
  .obtain⟨es,Jx⟩:=Ij (K:=K) hs;exact⟨some es,fun H' k=>.tup (k a _ l h nofun) (Jx H' k)⟩
  .exact⟨none,fun H' k=>.no (.of (.lst (k a _ l h nofun))) (by kernel_rfl)⟩
end
abbrev Ql:Stmt:=iK 30
abbrev Bz:Stmt:=iK 29
theorem Ve(n:Int)(tl ol ds:Addr):(nX n tl ol ds).lookup ("out":Str)=none:=nY n tl ol ds (by decide +kernel) (by decide +kernel) (by decide +kernel) (by decide +kernel)
theorem C5{xs:List Nat}:(NV xs).all cT=true:=hG.mpr fun x hx=>by obtain⟨y,_,rfl⟩:=bn.mp hx;rfl
abbrev XC:=Option (Str×List Nat)
def tK(n:Nat)(ts:Ts)(h:Nat):iN->Bool
 |some (some i)=>qN (.int i) (NV (bj n ts h))
 |_=>false
def y_(st:List (Option Nat))(es:List iN)(i h j:Nat):Bool:=decide (st.getD j none=some h)&&decide (es.getD j none=es.getD i none)
def tL(n:Nat)(ts:Ts)(st:List (Option Nat))(es:List iN)(i:Nat):XC:=match st.getD i none with
 |none=>if es.getD i none=none then none else some ("none",[i])
 |some h=>if tK n ts h (es.getD i none)=true then ((List.range i).find? (y_ st es i h)).map fun j=>("twice",[j,i]) else some ("tie",[i])
def u9(n:Nat)(ts:Ts)(st:List (Option Nat)):Option (List iN)->XC
 |none=>some ("row",[])
 |some es=>if es.length=st.length then (List.range st.length).findSome? (tL n ts st es) else some ("row",[])
def Sr(H:Hp):XC->V->Prop
 |none,r=>r=.bz
 |some (s,l),r=>∃a,r=.ref a/\H a=some (.tup (.str s::NV l))
theorem Sr.same{H H':Hp}{o:XC}{r:V}(h:Sr H o r)(s:aA H H'):Sr H' o r:=by
 cases o with
 |none=>exact h
 |some q=>obtain⟨a,e,g⟩:=h;exact⟨a,e,s _ _ g⟩
theorem C6{α:Type}{f:Nat->Option α}{n:Nat}(h:∀j,j<n->f j=none):(List.range n).findSome? f=none:=ve.mpr fun j hj=>h j (bH.mp hj)
theorem C7{α:Type}{f:Nat->Option α}{i:Nat}{r:α}(h:f i=some r)(hb:∀j,j<i->f j=none):∀ {n:Nat},i<n->(List.range n).findSome? f=some r
 |0,hi=>absurd hi (kA _)
 |n+1,hi=>by
  rw[iQ,List.findSome?_append];by_cases c:i<n
  .rw[C7 h hb c];rfl
  .obtain rfl:i=n:=by lia
   rw[C6 hb];simp[h]
theorem LA{n:Nat}{ts:Ts}{st:List (Option Nat)}{es:List iN}{j h:Nat}(hw:tL n ts st es j=none)(hj:st.getD j none=some h):∃z,es.getD j none=some (some z):=by
 unfold tL at hw;rw[hj] at hw;by_cases c:tK n ts h (es.getD j none)=true
 .match e:es.getD j none with
  |none=>rw[e] at c;cases c
  |some none=>rw[e] at c;cases c
  |some (some z)=>exact⟨z,rfl⟩
 .dsimp only at hw;rw[au c] at hw;cases hw
theorem eZ{st:List (Option Nat)}{i:Nat}(h:i<st.length):(st.map oV)[i]?=some (oV (st.getD i none)):=by
 rw[bN,aS,bq h];rfl
theorem NJ{xs:List V}{i:Nat}(h:i<xs.length):xs[i]?=some (xs.getD i .bz):=by
 rw[aS,bq h];rfl
theorem Ik{o:Option Nat}{h:Nat}:Oz (oV o) (.int (h:Int))=true:=by cases o <;> rfl
theorem NK{o:Option Nat}{h:Nat}:decide (oV o=V.int (h:Int))=decide (o=some h):=by
 cases o with
 |none=>exact ku.mpr ⟨(fun z=>by cases z),(fun z=>by cases z)⟩
 |some y=>exact ku.mpr ⟨(fun z=>by injection z with z;exact congrArg some (cD z)),(fun z=>by cases z;rfl)⟩
theorem Qm{K:PySem.W.Frag}{H:Hp}{x:V}{i:Int}(h:Wh K H x (some i)):x=.int i:=by cases h;rfl
theorem Vf{K:PySem.W.Frag}{H:Hp}{x:V}{i:Int}(h:En K H x (some (some i))):x=.int i:=by
 cases h with
 |th _ w=>exact Qm w
section
variable {P:Program} {w:World} {K:PySem.W.Frag} {mg:Str->Option Value} {base:Heap}
theorem Th.row{H:Hp}{x:V}{o:Option (List iN)}(h:Th K H x o):∃o',Rw K H x o'/\∀m,Nr o' m=match o with|none=>false|some es=>decide (((es.length:Nat):Int)=m):=by
 cases h with
 |@tup p xs es h e=>exact⟨some xs,.tup h,fun m=>by show decide (((xs.length:Nat):Int)=m)=_;rw[e.1]⟩
 |no ty h=>exact⟨none,.no ty h,fun m=>rfl⟩
theorem En.wh{H:Hp}{x:V}{e:iN}(h:En K H x e):Wh K H x e.join:=by
 cases h with
 |bz=>exact u8 (.of .bz) (.inl (by kernel_rfl))
 |th _ w=>exact w
theorem C8:aT ["net","stand","row","letter","house","goes","ahead"] ["net","stand","row","letter"] (av Ql):=cV (by decide +kernel)
def Il(K:PySem.W.Frag)(C:Addr):Sp:=fun vs H Q _=>∃ (L:Addr->Prop) (p:Addr) (n:Nat) (ts:Ts) (sa:Addr) (st:List (Option Nat)) (a:Addr) (xs:List V) (es:List iN) (i:Nat),vs=[.ref p,.ref sa,.ref a,.int i]/\dw C H L p n ts/\H sa=some (.tup (st.map oV))/\st.length<=16/\(∀y,some y∈st->y<n)/\H a=some (.tup xs)/\(∀H',aA H H'->EB K H' xs es)/\es.length=st.length/\i<st.length/\(∀j,j<i->tL n ts st es j=none)/\∀r H',aA H H'->Sr H' (tL n ts st es i) r->Q r H'
theorem Qn{f C:Addr}{fd:FuncData}(F:gv K "wrong_of_letter" "wrong_of_letter" Ql f fd)(B:Bl mg)(T:NT K mg C)(IW:cu P w K mg base bv 1 "is_whole" ["thing"] (qV K))(MO:nZ P w K mg base bv 5 C "out" ["self","house"] (s_ C)):bU P w K mg base bv 6 f fd ["net","stand","row","letter"] (Il K C):=by
 obtain⟨fO,fdO,mO,bO,GO⟩:=MO.ex;refine F.ok C8 (fun vs H Q E h=>?_) (fun dY A outer s H vs Q E hr h=>?_)
 .obtain⟨L,p,n,ts,sa,st,a,xs,es,i,rfl,_⟩:=h;rfl
 .obtain⟨L,p,n,ts,sa,st,a,xs,es,i,rfl,N,ie,sl,hss,ha,hE,el,hi,hw,q⟩:=h;have h1:cB 1 _:=hr.mono (by decide);refine⟨_,(ai (aN (i:=4) C8.nd rfl aU (aG bf (pv 1) (pv 3) (fun _ _=>rfl)))
   (ai (aN (i:=5) C8.nd rfl aU (aG bf (pv 2) (pv 3) (fun _ _=>rfl)))
   (ai (bA (aK rZ (pv 4) cN (aR _)) (ak (aM (xC (aK rZ (pv 5) cN (aR _)) cN (br (aa mq (aa (pv 3) ae)))))) aQ)
   (ai (bA (PW.pt (xB (fT (dq (az IW h1 aL (aa (pv 5) ae)))) (rV (aK nA (pv 5) (iG (pv 0) T.cl mO GO hr bO .nil aL (aa (pv 4) ae)) rfl)))) (ak (aM (br (aa mq (aa (pv 3) ae))))) aQ)
   (ai (cP dO rfl (bC rfl B.range (aa (pv 3) ae)) (aw (i:=6) C8.nd rfl aU)
    (ak (bA (PW.pt (io (aK eN (aG bf (pv 1) (pv 6) (fun _ _=>rfl)) (pv 4) (aR _)) (gU (aK eN (aG bf (pv 2) (pv 6) (fun _ _=>rfl)) (pv 5) (aR _))))) (ak (aM (br (aa mq (aa (pv 6) (aa (pv 3) ae)))))) aQ)))
   (ak (aM cN))))))),?_⟩
  have E0':=hE H (aA.refl _);have xl:xs.length=st.length:=by rw[E0'.1];exact el
  have e1:=E0'.2 i (by lia);refine⟨_,rfl,_,rfl,sa,_,_,_,rfl,rfl,bt.of ie,am (eZ hi),?_⟩;refine⟨_,rfl,_,rfl,a,_,_,_,rfl,rfl,bt.of ha,am (NJ (by lia)),?_⟩;generalize hx:xs.getD i .bz=x at *;cases ho:st.getD i none with
  |none=>
   have we:tL n ts st es i=if es.getD i none=none then none else some (("none":Str),[i]):=by unfold tL;rw[ho]
   refine⟨_,rfl,rfl,_,rfl,fU ⟨_,rfl,rfl,_,rfl,?_⟩⟩;generalize es.getD i none=e at *;cases e1 with
   |bz=>exact fU (q _ _ (aA.refl _) (by rw[we];rfl))
   |th hn w=>
    refine f9 (by simp[hn]) ⟨_,rfl,by show 2<=sizeLine;decide,fun t ht=>q _ _ (aj ht) ?_⟩;rw[we,au (by simp)];exact⟨t,rfl,af⟩
  |some h=>
   have hh:h<n:=hss h (by rw[<-ho,aS,bq hi];exact dv _);have we:tL n ts st es i=if tK n ts h (es.getD i none)=true then ((List.range i).find? (y_ st es i h)).map (fun j=>(("twice":Str),[j,i])) else some (("tie":Str),[i]):=by unfold tL;rw[ho]
   have tie:∀H',aA H H'->tK n ts h (es.getD i none)=false->JQ (kh (bi (tC (.str "tie")) (bi (aX 3) dQ))) { nx:=fun _ H'=>Q .bz H',rt:=Q } [some (.ref p),some (.ref sa),some (.ref a),some (.int i),some (.int (h:Int)),some x,none] H':=fun H' s' hb=>by
    refine⟨_,rfl,by show 2<=sizeLine;decide,fun t ht=>q _ _ (s'.trans (aj ht)) ?_⟩;rw[we,au (by rw[hb];decide)];exact⟨t,rfl,af⟩
   refine⟨_,rfl,rfl,_,rfl,f9 rfl ?_⟩;refine⟨_,rfl,x,_,rfl,e1.wh,_,rfl,?_⟩
   match ee:es.getD i none with
   |none=>exact fU (fU (tie H (aA.refl _) (by rw[ee];rfl)))
   |some none=>exact fU (fU (tie H (aA.refl _) (by rw[ee];rfl)))
   |some (some z)=>
   rw[ee] at e1;obtain rfl:=Vf e1;obtain⟨dx,tl,ol,ds,hN,_⟩:=N.ob;refine cG ⟨_,rfl,_,rfl,p,dx,_,rfl,hN,Ve _ _ _ _,_,rfl,L,p,n,ts,h,rfl,N,hh,fun r H4 s4 K8 wR=>⟨r,_,rfl,.inl (aV.of wR),rfl,C5,_,rfl,?_⟩⟩;cases qh:qN (.int z) (NV (bj n ts h)) with
   |false=>exact fU (tie H4 s4 (by rw[ee];exact qh))
   |true=>
   refine cG ?_;refine⟨_,rfl,_,rfl,by lia,by lia,?_⟩;refine dg (n:=i) (lo:=0) (fun k σ Hc=>(∃b,σ=[some (.ref p),some (.ref sa),some (.ref a),some (.int i),some (.int (h:Int)),some (.int z),b])/\aA H Hc/\∀j,j<k->y_ st es i h j=false) ⟨⟨_,rfl⟩,s4,fun j hj=>absurd hj (kA _)⟩ ?_ ?_
   .rintro k σ Hc hk ⟨⟨b,rfl⟩,sc,JF⟩;rw[eK];refine⟨_,rfl,_,rfl,sa,_,_,_,rfl,rfl,bt.of (sc _ _ ie),am (eZ (by lia)),_,rfl,Ik,_,rfl,?_⟩;rw[NK];have nxt:y_ st es i h k=false->(∃b,[some (V.ref p),some (.ref sa),some (.ref a),some (.int i),some (.int (h:Int)),some (.int z),some (.int (k:Int))]=[some (.ref p),some (.ref sa),some (.ref a),some (.int i),some (.int (h:Int)),some (.int z),b])/\aA H Hc/\∀j,j<k+1->y_ st es i h j=false:=fun hf=>⟨⟨_,rfl⟩,sc,fun j hj=>by
     by_cases c:j<k
     .exact JF j c
     .obtain rfl:j=k:=by lia
      exact hf⟩
    by_cases c:st.getD k none=some h
    .rw[cx c];obtain⟨z2,ez⟩:=LA (hw k hk) c;have ex:xs.getD k .bz=.int z2:=Vf (by have:=(hE Hc sc).2 k (by lia);rw[ez] at this;exact this);refine fU ⟨_,rfl,_,rfl,a,_,_,_,rfl,rfl,bt.of (sc _ _ ha),am (by rw[NJ (by lia),ex]),_,rfl,rfl,_,rfl,?_⟩;have ea:y_ st es i h k=decide (V.int z2=V.int z):=by
      unfold y_;rw[cx c,Ac,ez,ee];exact ku.mpr ⟨(fun y=>by cases y;rfl),(fun y=>by cases y;rfl)⟩
     rw[<-ea];cases RU:y_ st es i h k with
     |false=>exact cG (nxt RU)
     |true=>
      refine fU ⟨_,rfl,_,rfl,by show 3<=sizeLine;decide,fun t ht=>q _ _ (sc.trans (aj ht)) ?_⟩;rw[we,aD (by rw[ee];exact qh),List.find?_range_eq_some.mpr ⟨RU,bH.mpr hk,fun j hj=>by rw[JF j hj];rfl⟩];exact⟨t,rfl,af⟩
    .rw[di c];exact cG (cG (nxt (by unfold y_;rw[di c];rfl)))
   .rintro σ Hc ⟨⟨b,rfl⟩,sc,JF⟩;refine q _ _ sc ?_;rw[we,aD (by rw[ee];exact qh),List.find?_range_eq_none.mpr fun j hj=>by rw[JF j hj];rfl];rfl
theorem wW:aT ["net","homes","stand","thing","letter","fault"] ["net","homes","stand","thing"] (av Bz):=cV (by decide +kernel)
def on(K:PySem.W.Frag)(C:Addr):Sp:=fun vs H Q _=>∃ (L:Addr->Prop) (p:Addr) (n:Nat) (ts:Ts) (ha:Addr) (homes:List Nat) (sa:Addr) (st:List (Option Nat)) (x:V) (o:Option (List iN)),vs=[.ref p,.ref ha,.ref sa,x]/\dw C H L p n ts/\H ha=some (.tup (NV homes))/\homes.length=st.length/\H sa=some (.tup (st.map oV))/\st.length<=16/\(∀y,some y∈st->y<n)/\(∀H',aA H H'->Th K H' x o)/\∀r H',aA H H'->Sr H' (u9 n ts st o) r->Q r H'
theorem Im{f C:Addr}{fd:FuncData}(F:gv K "wrong" "wrong" Bz f fd)(B:Bl mg)(RW:cu P w K mg base bv 1 "is_row" ["thing","length"] (yq K))(WL:cu P w K mg base bv 6 "wrong_of_letter" ["net","stand","row","letter"] (Il K C)):bU P w K mg base bv 7 f fd ["net","homes","stand","thing"] (on K C):=by
 refine F.ok wW (fun vs H Q E h=>?_) (fun dY A outer s H vs Q E hr h=>?_)
 .obtain⟨L,p,n,ts,ha,homes,sa,st,x,o,rfl,_⟩:=h;rfl
 .obtain⟨L,p,n,ts,ha,homes,sa,st,x,o,rfl,N,j9,hl,ie,sl,hss,hx,q⟩:=h;have h1:cB 1 _:=hr.mono (by decide);refine⟨_,(ai (bA (fT (dq (az RW h1 aL (aa (pv 3) (aa (aI aF (by rfl) B.len cp (aa (pv 1) ae)) ae))))) (ak (aM (br (aa mq ae)))) aQ)
   (ai (cP dO rfl (bC rfl B.range (aa (aI aF (by rfl) B.len cp (aa (pv 1) ae)) ae)) (aw (i:=4) wW.nd rfl aU)
    (ai (aN (i:=5) wW.nd rfl aU (az WL hr aL (aa (pv 0) (aa (pv 2) (aa (pv 3) (aa (pv 4) ae))))))
    (ak (bA (aK i_ (pv 5) cN (aR _)) (ak (aM (pv 5))) aQ))))
   (ak (aM cN)))),?_⟩
  have TF:=hx H (aA.refl _);obtain⟨o',Rx,eR⟩:=TF.row;refine⟨_,rfl,_,rfl,ha,_,rfl,.inr (bt.of j9),x,o',_,rfl,Rx,_,rfl,?_⟩;rw[eR,aO,hl];have row:u9 n ts st o=some (("row":Str),[])->JQ (kh (bi (tC (.str "row")) dQ)) { nx:=fun _ H'=>Q .bz H',rt:=Q } [some (.ref p),some (.ref ha),some (.ref sa),some x,none,none] H:=fun hb=>by
   refine⟨by show 1<=sizeLine;decide,fun t ht=>q _ _ (aj ht) ?_⟩;rw[hb];exact⟨t,rfl,af⟩
  cases TF with
  |no ty h=>exact fU (row rfl)
  |@tup a xs es yJ en=>
  by_cases el:es.length=st.length
  rotate_left
  .exact gL (by simp;lia) (row (by show (if es.length=st.length then _ else _)=_;rw[au el]))
  have wb:u9 n ts st (some es)=(List.range st.length).findSome? (tL n ts st es):=by show (if es.length=st.length then _ else _)=_;rw[aD el]
  have XD:∀H',aA H H'->EB K H' xs es:=fun H' s=>by
   have:=hx H' s;cases this with
   |@tup _ xs' _ h' e'=>
    have:=s _ _ yJ;rw[this] at h';cases h';exact e'
  refine f9 (by simp;lia) ?_;refine⟨_,rfl,ha,_,rfl,.inr (bt.of j9),_,rfl,by lia,by rw[aO];lia,?_⟩;rw[aO,hl];refine dg (n:=st.length) (lo:=0) (fun k σ Hc=>(∃u v,σ=[some (.ref p),some (.ref ha),some (.ref sa),some (.ref a),u,v])/\aA H Hc/\∀j,j<k->tL n ts st es j=none) ⟨⟨_,_,rfl⟩,aA.refl _,fun j hj=>absurd hj (kA _)⟩ ?_ ?_
  .rintro k σ Hc hk ⟨⟨u,v,rfl⟩,sc,JF⟩;rw[eK];refine⟨_,rfl,_,rfl,_,rfl,_,rfl,L,p,n,ts,sa,st,a,xs,es,k,rfl,N.same sc,sc _ _ ie,sl,hss,sc _ _ yJ,fun H' s'=>XD H' (sc.trans s'),el,hk,JF,fun r H2 s2 ui=>?_⟩;cases hw:tL n ts st es k with
   |none=>
    rw[hw] at ui;obtain rfl:r=.bz:=ui;refine⟨_,rfl,rfl,_,rfl,cG ⟨⟨_,_,rfl⟩,sc.trans s2,fun j hj=>?_⟩⟩;by_cases c:j<k
    .exact JF j c
    .obtain rfl:j=k:=by lia
     exact hw
   |some rs=>
    have hb:u9 n ts st (some es)=some rs:=by rw[wb];exact C7 hw JF hk
    have k2:=q r H2 (sc.trans s2) (by rw[hb,<-hw];exact ui);rw[hw] at ui;obtain⟨b,rfl,_⟩:=ui;exact⟨_,rfl,rfl,_,rfl,gL rfl ⟨_,rfl,k2⟩⟩
  .rintro σ Hc ⟨⟨u,v,rfl⟩,sc,JF⟩;exact q _ _ sc (by rw[wb,C6 JF];rfl)
end
theorem qr{bs:List Addr}{h:Nat}(hh:h<bs.length):(bs.map V.ref)[h]?=some (.ref (bs.getD h 0)):=by
 rw[bN,aS,bq hh];rfl
abbrev BA:Stmt:=iK 46
theorem Io:(["_law_row_here"]:List Str).Nodup:=by decide +kernel
theorem lw{cs:List Addr}{j:Nat}(h:j<cs.length):cs.getD j 0∈cs:=by rw[aS,bq h];exact dv _
theorem Ip{cs:List Addr}{i j:Nat}(nd:cs.Nodup)(hi:i<cs.length)(hj:j<cs.length)(ne:i≠j):cs.getD i 0≠cs.getD j 0:=by
 rw[aS,bq hi,aS,bq hj];exact fun e=>ne ((vy nd).mp e)
theorem oq{n:Nat}{ts:Ts}{h:Nat}:(bj n ts h).length<=n:=by
 unfold bj;exact aY (fW _ _) (by rw[aP,cE];exact aW _)
theorem BB{n:Nat}{ts:Ts}{h x:Nat}(n1:0<n)(hx:x∈bj n ts h):x<n:=by
 obtain⟨s,_,rfl⟩:=bn.mp (cS.mp hx).1;exact ji _ n1
theorem wX{P P':Nat->Bool}{i:Nat}(he:∀j,j≠i->P' j=P j)(hi:P i=false):∀ {m:Nat},i<m->(List.range m).countP P'=(List.range m).countP P+(if P' i=true then 1 else 0)
 |0,h=>absurd h (kA _)
 |m+1,h=>by
  rw[iQ,List.countP_append,List.countP_append,List.countP_singleton,List.countP_singleton];by_cases c:i<m
  .rw[wX he hi c,he m (by lia)];lia
  .obtain rfl:i=m:=by lia
   rw[show (List.range i).countP P'=(List.range i).countP P from zQ fun j hj=>by rw[he j (by have:=bH.mp hj;lia)],hi];simp
theorem Iq{P P':Nat->Bool}(h:∀j,P j=true->P' j=true){m:Nat}:(List.range m).countP P<=(List.range m).countP P':=List.countP_mono_left fun j _=>h j
theorem Qo{P P':Nat->Bool}{i:Nat}(h:∀j,P j=true->P' j=true)(hi:P i=false)(ub:P' i=true){m:Nat}(hm:i<m):(List.range m).countP P<(List.range m).countP P':=by
 have a:=wX (P:=P) (P':=fun j=>if j=i then true else P j) (i:=i) (fun j hj=>au hj) hi hm;have b:=Iq (P:=fun j=>if j=i then true else P j) (P':=P') (m:=m) fun j hj=>by
  by_cases c:j=i
  .rw[c];exact ub
  .rw[au c] at hj;exact h j hj
 rw[aD rfl,aD rfl] at a;lia
theorem Qp{st:List (Option Nat)}:st=(List.range st.length).map fun j=>st.getD j none:=by
 apply i7;intro i;by_cases h:i<st.length
 .rw[bN,fw h];simp[aS,h]
 .rw[cj (by lia),cj (by rw[aP,cE];lia)]
theorem LB{st:List (Option Nat)}{o:Option Nat}:st.count o=(List.range st.length).countP fun j=>decide (st.getD j none=o):=by
 have e:st.count o=((List.range st.length).map fun j=>st.getD j none).count o:=congrArg _ Qp;rw[e,List.count_eq_countP,z6];exact zQ fun j _=>by simp
def tO(st fs:List (Option Nat))(h j:Nat):Bool:=decide (st.getD j none=some h)&&(fs.getD j none).isSome
structure mQ(n:Nat)(ts:Ts)(st fs:List (Option Nat))(ls:Nat->List Nat):Prop where
 len:fs.length=st.length
 nd:∀h,h<n->(ls h).Nodup
 sub:∀h,h<n->∀x∈ls h,x∈bj n ts h
 cnt:∀h,h<n->(ls h).length+(List.range st.length).countP (tO st fs h)=(bj n ts h).length
 out:∀j y,fs.getD j none=some y->∃h,h<n/\st.getD j none=some h/\y∈bj n ts h/\y∉ls h
 inj:∀j k y,j≠k->fs.getD j none=some y->fs.getD k none=some y->st.getD j none≠st.getD k none
theorem wY{m j:Nat}:(List.replicate m (none:Option Nat)).getD j none=none:=by
 rw[aS,lZ];split <;> rfl
theorem mQ.start{n:Nat}{ts:Ts}{st:List (Option Nat)}:mQ n ts st (List.replicate st.length none) (bj n ts):=
 ⟨kr,fun h hh=>mD hh,fun h _ x hx=>hx,fun h _=>by
  rw[show (List.range st.length).countP (tO st (List.replicate st.length none) h)=0 from List.countP_eq_zero.mpr fun j _=>by unfold tO;rw[wY];simp];rfl,(fun j y hy=>by rw[wY] at hy;cases hy),(fun j k y _ hy=>by rw[wY] at hy;cases hy)⟩
theorem mR{fs:List (Option Nat)}{i j:Nat}{o:Option Nat}(hi:i<fs.length):(fs.set i o).getD j none=if j=i then o else fs.getD j none:=by
 rw[aS,oO];by_cases c:i=j
 .subst c;rw[aD rfl,aD hi,aD rfl];rfl
 .rw[au c,au (fun z=>c z.symm),aS]
theorem mQ.step{n:Nat}{ts:Ts}{st fs:List (Option Nat)}{ls:Nat->List Nat}(I:mQ n ts st fs ls){i h y:Nat}{l:List Nat}(hi:i<st.length)(hs:st.getD i none=some h)(hh:h<n)(hf:fs.getD i none=none)(hy:y∈ls h)(l1:l.Nodup)(l2:∀x∈l,x∈ls h/\x≠y)(l3:l.length+1=(ls h).length):mQ n ts st (fs.set i (some y)) fun k=>if k=h then l else ls k:=by
 have ub:i<fs.length:=by rw[I.len];exact hi
 refine⟨by rw[j5];exact I.len,fun k hk=>?_,fun k hk x hx=>?_,fun k hk=>?_,fun j z hz=>?_,fun j k z ne h1 h2=>?_⟩
 .split
  .exact l1
  .exact I.nd k hk
 .split at hx
  .rename_i e;subst e;exact I.sub k hk x (l2 x hx).1
  .exact I.sub k hk x hx
 .have c:=wX (P:=tO st fs k) (P':=tO st (fs.set i (some y)) k) (i:=i) (fun j hj=>by unfold tO;rw[mR ub,au hj]) (by unfold tO;rw[hf];simp) hi;have e:tO st (fs.set i (some y)) k i=decide (k=h):=by
   unfold tO;rw[mR ub,aD rfl,hs,zH,vI];exact ku.mpr ⟨(fun z=>(bX z).symm),(fun z=>by rw[z])⟩
  rw[e] at c;have:=I.cnt k hk;by_cases ck:k=h
  .subst ck;rw[aD rfl,c,cx rfl,aD rfl];lia
  .rw[au ck,c,di ck,au (by decide)];lia
 .rw[mR ub] at hz;split at hz
  .rename_i e;subst e;cases hz;refine⟨h,hh,hs,I.sub h hh _ hy,?_⟩;rw[aD rfl];exact fun m=>(l2 _ m).2 rfl
  .obtain⟨k,a,b,c,d⟩:=I.out j z hz;refine⟨k,a,b,c,fun m=>d ?_⟩;split at m
   .rename_i e;subst e;exact(l2 _ m).1
   .exact m
 .rw[mR ub] at h1 h2;by_cases c1:j=i
  .subst c1;rw[aD rfl] at h1;rw[au (fun z=>ne z.symm)] at h2;cases h1;obtain⟨k',_,b,_,d⟩:=I.out k y h2;rw[hs,b];exact fun e=>d (by cases e;exact hy)
  .rw[au c1] at h1;by_cases c2:k=i
   .subst c2;rw[aD rfl] at h2;cases h2;obtain⟨k',_,b,_,d⟩:=I.out j y h1;rw[hs,b];exact fun e=>d (by cases e;exact hy)
   .rw[au c2] at h2;exact I.inj j k z ne h1 h2
theorem mQ.full{n:Nat}{ts:Ts}{st fs:List (Option Nat)}{ls:Nat->List Nat}(I:mQ n ts st fs ls){i h:Nat}(hi:i<st.length)(hs:st.getD i none=some h)(hh:h<n)(hf:fs.getD i none=none)(NG:st.count (some h)<=(bj n ts h).length):0<(ls h).length:=by
 have a:=I.cnt h hh;rw[LB] at NG;have b:=Qo (P:=tO st fs h) (P':=fun j=>decide (st.getD j none=some h)) (i:=i) (fun j hj=>(oK.mp hj).1) (by unfold tO;rw[hf];simp) (cx hs) hi;lia
structure Hd(n:Nat)(ts:Ts)(st fs:List (Option Nat)):Prop where
 len:fs.length=st.length
 bz:∀j,st.getD j none=none->fs.getD j none=none
 out:∀j h,st.getD j none=some h->∃y,fs.getD j none=some y/\y∈bj n ts h
 inj:∀j k y,j≠k->fs.getD j none=some y->fs.getD k none=some y->st.getD j none≠st.getD k none
theorem mQ.done{n:Nat}{ts:Ts}{st fs:List (Option Nat)}{ls:Nat->List Nat}(I:mQ n ts st fs ls)(h:∀j,st.getD j none≠none->fs.getD j none≠none):Hd n ts st fs:=by
 refine⟨I.len,fun j hj=>?_,fun j k hk=>?_,I.inj⟩
 .match e:fs.getD j none with
  |none=>rfl
  |some y=>obtain⟨k,_,b,_⟩:=I.out j y e;rw[hj] at b;cases b
 .match e:fs.getD j none with
  |none=>exact absurd e (h j (by rw[hk];exact fun z=>by cases z))
  |some y=>
   obtain⟨k',_,b,c,_⟩:=I.out j y e;rw[hk] at b;cases b;exact⟨y,rfl,c⟩
def wZ(homes:List Nat)(fs:List (Option Nat)):List (Option Nat):=(List.range fs.length).map fun j=>if fs.getD j none=some (homes.getD j 0) then none else fs.getD j none
theorem q0{homes:List Nat}{fs:List (Option Nat)}:(wZ homes fs).length=fs.length:=by unfold wZ;rw[aP,cE]
theorem BC{l:List Nat}{d:Nat}(nd:l.Nodup)(hd:d<l.length):l[d]∈l/\(l.eraseIdx d).Nodup/\(∀x∈l.eraseIdx d,x∈l/\x≠l[d])/\(l.eraseIdx d).length+1=l.length:=by
 refine⟨dv _,nd.sublist (List.eraseIdx_sublist _ _),fun x hx=>⟨List.mem_of_mem_eraseIdx hx,?_⟩,by rw[List.length_eraseIdx_of_lt hd];lia⟩;obtain⟨i,hi,ne,e⟩:=List.mem_eraseIdx_iff_getElem.mp hx;rw[<-e];exact fun z=>ne ((vy nd).mp z)
def EC(fs:List (Option Nat))(m:Nat):List (Option Nat):=fs++List.replicate (m-fs.length) none
theorem C9{fs:List (Option Nat)}{m:Nat}(h:fs.length<m)(o:Option Nat):EC (fs++[o]) m=(EC fs m).set fs.length o:=by
 unfold EC;rw[cn,kq,dH,show m-fs.length=(m-(fs.length+1))+1 by lia,nh,List.set_append_right _ _ (aW _),jh];rfl
theorem Qq{fs:List (Option Nat)}{m:Nat}:(EC fs m).getD fs.length none=none:=by
 unfold EC;rw[aS,kn (aW _),lZ];split <;> rfl
theorem LC{fs:List (Option Nat)}{m:Nat}(h:fs.length<m):EC (fs++[none]) m=EC fs m:=by
 rw[C9 h];unfold EC;rw[show m-fs.length=(m-(fs.length+1))+1 by lia,nh,List.set_append_right _ _ (aW _),jh];rfl
theorem Ir{fs:List (Option Nat)}:EC fs fs.length=fs:=by unfold EC;rw[jh];simp
theorem Qr{fs:List (Option Nat)}{o:Option Nat}{j:Nat}:(fs++[o]).getD j none=if j=fs.length then o else fs.getD j none:=by
 rw[aS];by_cases c:j<fs.length
 .rw[i6 c,au (by lia),aS]
 .rw[kn (by lia)];by_cases e:j=fs.length
  .rw[aD e,e,jh];rfl
  .rw[au e,cj (by rw[kq];lia),aS,cj (by lia)]
abbrev Iu:Stmt:=iK 47
def jW(n:Nat)(R:List Nat)(f:Nat->Nat):List Nat:=(List.range n).map fun x=>if x∈R then f x else n
theorem Iv{n:Nat}{R:List Nat}{f:Nat->Nat}:(jW n R f).length=n:=by unfold jW;rw[aP,cE]
theorem yK{n:Nat}{R:List Nat}{f:Nat->Nat}{x:Nat}(h:x<n):(NV (jW n R f))[x]?=some (.int ((if x∈R then f x else n:Nat):Int)):=by
 unfold NV jW;rw[bN,bN,fw h];rfl
theorem BF{n s:Nat}(hs:s<n):(NV (List.replicate n n)).set s (V.int 0)=NV (jW n [s] (fun _=>0)):=by
 rw[show V.int 0=V.int ((0:Nat):Int) from rfl,pT];congr 1;apply i7;intro x;unfold jW;by_cases hx:x<n
 .rw[oO,bN,fw hx,kr,lZ,aD hx];by_cases c:s=x
  .subst c;simp[hx]
  .have c':¬ x=s:=fun z=>c z.symm;rw[au c];simp[c']
 .rw[cj (by rw[j5,kr];lia),cj (by rw[aP,cE];lia)]
theorem Iw{n v k:Nat}{R:List Nat}{f:Nat->Nat}(hv:v<n):(NV (jW n R f)).set v (V.int ((k:Nat):Int))=NV (jW n (R++[v]) (put f v k)):=by
 rw[pT];congr 1;apply i7;intro x;unfold jW;by_cases hx:x<n
 .rw[oO,bN,bN,fw hx,aP,cE];by_cases c:v=x
  .subst c;simp[hx,put]
  .have c':¬ x=v:=fun z=>c z.symm;rw[au c];simp[put,c']
 .rw[cj (by rw[j5,aP,cE];lia),cj (by rw[aP,cE];lia)]
def Vg(σ:St):Nat:=match σ[6]? with
 |some (some (V.int i))=>i.toNat
 |_=>0
section
variable {P:Program} {w:World} {K:PySem.W.Frag} {mg:Str->Option Value} {base:Heap}
theorem jX:aT ["_law_n","_law_outs_here","_law_found","_law_begin","_law_row_here","_law_line","_law_at","_law_here","_law_there"] ["_law_n","_law_outs_here"] (av Iu):=cV (by decide +kernel)
def BG:Sp:=fun vs H Q _=>∃ (L:Addr->Prop) (o:Addr) (n:Nat) (ts:Ts),vs=[.int n,.ref o]/\cA n ts/\cX H L o n (bj n ts)/\∀ (r:Addr) (H':Hp),aA H H'->H r=none->cX H' (fun b=>H b=none) r n (fun h=>(List.range n).map (far ts h))->Q (.ref r) H'
theorem LG{f:Addr}{fd:FuncData}(F:gv K "_law_far" "_law_far" Iu f fd)(B:Bl mg):bU P w K mg base bv 1 f fd ["_law_n","_law_outs_here"] BG:=by
 refine F.ok jX (fun vs H Q E h=>?_) (fun dY A outer s H vs Q E hr h=>?_)
 .refine eY fun fk cM=>?_;obtain⟨L,o,n,ts,rfl,_⟩:=h;refine cM ?_;clear cM fk;rfl
 .refine eY fun fk cM=>?_;obtain⟨L,o,n,ts,rfl,fi,O,q⟩:=h;refine cM ?_;clear cM fk;have n1:=fi.n1;have n2:=fi.n2;refine⟨_,(ai (aN (i:=2) jX.nd rfl aU (cm ae))
   (ai (cP dO rfl (bC rfl B.range (aa (pv 0) ae)) (aw (i:=3) jX.nd rfl aU)
    (ai (aN (i:=4) jX.nd rfl aU (bu vZ (cm (aa (pv 0) ae)) (pv 0)))
    (ai (dW aq (iT (pv 4) (pv 3) eS))
    (ai (aN (i:=5) jX.nd rfl aU (cm (aa (pv 3) ae)))
    (ai (aN (i:=6) jX.nd rfl aU aq)
    (ai (xD dO (aK iV (pv 6) (aI aF (by rfl) B.len cp (aa (pv 5) ae)) (aR _)) (ai (aN (i:=7) jX.nd rfl aU (aG aH (pv 5) (pv 6) (fun _ _=>rfl)))
     (ai (cP dO rfl (bP (aG aH (pv 1) (pv 7) (fun _ _=>rfl))) (aw (i:=8) jX.nd rfl aU)
      (ak (bA (aK eN (aG aH (pv 4) (pv 8) (fun _ _=>rfl)) (pv 0) (aR _)) (ai (dW (bu dP (aG aH (pv 4) (pv 7) (fun _ _=>rfl)) aq) (iT (pv 4) (pv 8) eS))
       (ak (cU (hX g9 m6 mZ eA (pv 5) (aa (pv 8) ae))))) aQ)))
     (ak (aN (i:=6) jX.nd rfl aU (bu dP (pv 6) aq))))))
    (ak (cU (hX g9 m6 mZ eA (pv 2) (aa (pv 4) ae))))))))))
   (ak (aM (pv 2))))),?_⟩
  refine eY fun fk cM=>?_;obtain⟨bs,Jy,hbL,UH,Na⟩:=O;refine cM ?_;clear cM fk;refine⟨by show 0<=sizeLine;decide,fun F hF=>?_⟩;have sF:=aj (o:=.lst []) hF;refine⟨_,rfl,(n:Int),rfl,by lia,by lia,dg (n:=n) (lo:=0) (fun i σ Hc=>(∃a b c d e g,σ=[some (.int (n:Int)),some (.ref o),some (.ref F),a,b,c,d,e,g])/\aA H Hc/\∃ds:List Addr,Hc F=some (.lst (ds.map V.ref))/\(∀b∈ds,H b=none/\b≠F)/\ds.length=i/\∀j,j<i->Hc (ds.getD j 0)=some (.lst (NV ((List.range n).map (far ts j))))) ⟨⟨_,_,_,_,_,_,rfl⟩,sF,[],af,fun b hb=>(nomatch hb),rfl,fun j hj=>absurd hj (kA _)⟩ ?_ ?_⟩
  rotate_left
  .intro σ Hc i5;refine eY fun fk cM=>?_;obtain⟨⟨a,b,c,d,e,g,rfl⟩,sc,ds,u_,Jv,dl,XE⟩:=i5;refine cM ?_;clear cM fk;exact⟨_,rfl,q F Hc sc hF ⟨ds,u_,fun b hb=>(Jv b hb).1,dl,XE⟩⟩
  .intro b σ Hc hb i5;refine eY fun fk cM=>?_;obtain⟨⟨_,_,_,_,_,_,rfl⟩,sc,ds,u_,Jv,dl,XE⟩:=i5;refine cM ?_;clear cM fk;rw[eK];refine⟨_,rfl,by show 1<=sizeLine;decide,fun L1 wu=>⟨_,rfl,L1,_,_,rfl,rfl,af,by lia,by lia,by rw[i8,kq];exact aY (show 1*n<=32 by lia) (by decide),fun D hD=>?_⟩⟩;rw[i8,lh];have eM:List.replicate n (V.int (n:Int))=NV (List.replicate n n):=by unfold NV;rw[zJ]
   rw[eM];have s1:=sc.trans (aj (o:=.lst [.int (n:Int)]) wu);have hFD:F≠D:=ap ((aj (o:=.lst [.int (n:Int)]) wu) _ _ u_) hD;have fD:=s1.free hD;have dsD:∀c∈ds,c≠D:=fun c hc=>by
    rintro rfl;exact absurd hD (by
     obtain⟨j,hj,e⟩:=rn hc;have:(upd Hc L1 (.lst [.int (n:Int)])) c=some (.lst (NV ((List.range n).map (far ts j)))):=(aj wu) _ _ (by have:=XE j (by lia);rw[aS,bq hj,vw,e] at this;exact this);rw[this];exact fun z=>by cases z)
   have hF1:=(aj (o:=.lst [.int (n:Int)]) wu) _ _ u_;have Vh:∀j,j<b->(upd Hc L1 (.lst [.int (n:Int)])) (ds.getD j 0)=some (.lst (NV ((List.range n).map (far ts j)))):=fun j hj=>(aj wu) _ _ (XE j hj);generalize upd Hc L1 _=H1 at *;refine⟨_,rfl,_,rfl,D,_,b,b,rfl,rfl,af,by rw[aO,kr];exact eH hb,?_⟩;rw[lz,BF hb];refine⟨_,rfl,by show 1<=sizeLine;decide,fun R hR=>?_⟩;have E4:D≠R:=ap (H:=upd H1 D (.lst (NV (jW n [b] (fun _=>0))))) af hR;have K5:H1 R=none:=by rw[ao E4.symm] at hR;exact hR
   have fR:=s1.free K5;have hFR:F≠R:=ap hF1 K5;have dsR:∀c∈ds,c≠R:=fun c hc=>by
    rintro rfl;obtain⟨j,hj,e⟩:=rn hc;have:=Vh j (by lia);rw[aS,bq hj,vw,e,K5] at this;cases this
   have sm0:aA H1 (upd (upd H1 D (.lst (NV (jW n [b] (fun _=>0))))) R (.lst [.int (b:Int)])):=bD (aj hD) K5;have aai:=s1 _ _ Jy;have Vi:∀u,u<n->H1 (bs.getD u 0)=some (.lst (NV (bj n ts u))):=fun u hu=>s1 _ _ (Na u hu);refine xF (fun σ H2=>∃ (i:Nat) (Rs:List Nat) (f:Nat->Nat),i<=Rs.length/\y7 n ts b i Rs f/\(∀x∈Rs,f x<Rs.length)/\(∃u v,σ=[some (.int (n:Int)),some (.ref o),some (.ref F),some (.int (b:Int)),some (.ref D),some (.ref R),some (.int (i:Int)),u,v])/\aA H1 H2/\H2 D=some (.lst (NV (jW n Rs f)))/\H2 R=some (.lst (NV Rs)))
    (fun σ _=>n-Vg σ) ⟨0,[b],fun _=>0,de _,y7.start hb,fun x hx=>Nat.zero_lt_one,⟨_,_,rfl⟩,sm0,?_,af⟩ ?_ ?_
   .rw[ao E4,af]
   .intro σ H2 i5;refine eY fun fk cM=>?_;obtain⟨i,Rs,f,hi,Bf,fl,⟨u',v',rfl⟩,sm,iq,Pz⟩:=i5;refine cM ?_;clear cM fk;have hRn:Rs.length<=n:=fc Bf.nd Bf.lt;refine⟨_,rfl,_,rfl,R,_,rfl,.inl (aV.of Pz),_,_,rfl,rfl,_,rfl,?_⟩;rw[aO];by_cases qh:i<Rs.length
    .rw[show decide ((i:Int)<((Rs.length:Nat):Int))=true by simp;lia];refine fU ?_;have hu:Rs[i]?=some Rs[i]:=bq qh;generalize Rs[i]=u at hu;have yw:u<n:=Bf.lt u (cZ hu);have Zy:(NV Rs)[i]?=some (.int (u:Int)):=by rw[bN,hu];rfl
     refine⟨_,rfl,_,rfl,R,_,_,_,rfl,rfl,aV.of Pz,am Zy,?_⟩;have PB:=qr (bs:=bs) (h:=u) (by rw[UH];exact yw);have PD:=sm _ _ (Vi _ yw);refine⟨_,rfl,_,rfl,o,_,_,_,rfl,rfl,aV.of (sm _ _ aai),am PB,_,rfl,⟨_,aV.of PD⟩,?_⟩;refine hW (K:=K) (xs:=NV (bj n ts u)) (fun j σ H3=>∃ (iE:List Nat) (f':Nat->Nat),y7 n ts b i iE f'/\(∀x∈iE,f' x<iE.length)/\iE[i]?=some u/\(∀v∈(bj n ts u).take j,v∈iE/\f' v<=f' u+1)/\
      (∃c,σ=[some (.int (n:Int)),some (.ref o),some (.ref F),some (.int (b:Int)),some (.ref D),some (.ref R),some (.int (i:Int)),some (.int (u:Int)),c])/\aA H1 H3/\H3 D=some (.lst (NV (jW n iE f')))/\H3 R=some (.lst (NV iE)))
      ⟨Rs,f,Bf,fl,hu,fun v hv=>by simp at hv,⟨_,rfl⟩,sm,iq,Pz⟩ (fun j σ H3 _ ⟨_,_,_,_,_,_,_,Ep,_⟩=>aV.of (Ep _ _ (Vi _ yw))) ?_ ?_
     .intro j x σ H3 hx i5;refine eY fun fk cM=>?_;obtain⟨iE,f',wH,Ss,ua,dn,⟨b',rfl⟩,Ep,pQ,AT⟩:=i5;refine cM ?_;clear cM fk;obtain⟨v,hv,rfl⟩:=n6 hx;have PF:v∈bj n ts u:=cZ hv;have Hm:v<n:=dL fi yw PF;have Zz:T ts u v:=(fK fi yw).mp PF;have tk:(bj n ts u).take (j+1)=(bj n ts u).take j++[v]:=by rw[fZ,hv];rfl
      have Es:u∈iE:=cZ ua;have Hn:iE.length<=n:=fc wH.nd wH.lt;refine⟨_,rfl,_,rfl,D,_,_,_,rfl,rfl,aV.of pQ,am (yK Hm),_,rfl,rfl,_,rfl,?_⟩;by_cases yx:v∈iE
      .rw[aD yx];have ne:f' v≠n:=by have:=Ss v yx;lia
       refine f9 (by simp;lia) ⟨iE,f',wH,Ss,ua,fun x hx=>?_,⟨_,rfl⟩,Ep,pQ,AT⟩;rw[tk] at hx;rcases bY.mp hx with z|z
       .exact dn x z
       .simp at z;subst z;exact⟨yx,wH.bd u ua _ yx⟩
      .rw[au yx];refine gL (by simp) ?_;have ZA:(NV (jW n iE f'))[u]?=some (.int ((f' u:Nat):Int)):=by rw[yK yw,aD Es]
       refine⟨_,rfl,_,rfl,D,_,_,_,rfl,rfl,aV.of pQ,am ZA,_,_,rfl,rfl,_,rfl,_,rfl,D,_,_,_,rfl,rfl,pQ,by rw[aO,Iv];exact eH Hm,?_⟩;have e1:(NV (jW n iE f')).set v (.int (((f' u:Nat):Int)+1))=NV (jW n (iE++[v]) (put f' v (f' u+1))):=by
        rw[show ((f' u:Nat):Int)+1=((f' u+1:Nat):Int) by lia,Iw Hm]
       rw[e1];have qR:(upd H3 D (.lst (NV (jW n (iE++[v]) (put f' v (f' u+1)))))) R=some (.lst (NV iE)):=by rw[ao E4.symm];exact AT
       refine⟨_,rfl,.inl ⟨rfl,_,aV.of qR⟩,_,rfl,R,_,_,rfl,rfl,qR,by rw[aO];exact cQ (show iE.length<33 by lia) (by decide),?_⟩;have ub:i<iE.length:=(cY.mp ua).1;have ZB:u≠v:=fun z=>yx (z ▸ Es);refine⟨iE++[v],put f' v (f' u+1),wH.add ua Hm Zz yx,fun x hx=>?_,by rw[i6 ub];exact ua,fun x hx=>?_,⟨_,rfl⟩,bD (bD Ep hD) K5,?_,?_⟩
       .rw[cn,kq];rcases bY.mp hx with z|z
        .rw[fV (fun (y:x=v)=>yx (y ▸ z))];have:=Ss x z;lia
        .simp at z;subst z;rw[i0];have:=Ss u Es;lia
       .rw[fV ZB];rw[tk] at hx;rcases bY.mp hx with z|z
        .obtain⟨q1,q2⟩:=dn x z;exact⟨iz _ q1,by rw[fV (fun (z:x=v)=>yx (z ▸ q1))];exact q2⟩
        .simp at z;subst z;exact⟨by simp,by rw[i0];exact aW _⟩
       .rw[ao E4,af]
       .rw[af,lI]
     .intro σ H3 i5;refine eY fun fk cM=>?_;obtain⟨iE,f',wH,Ss,ua,dn,⟨b',rfl⟩,Ep,pQ,AT⟩:=i5;refine cM ?_;clear cM fk;rw[aO,iA] at dn;have ub:i<iE.length:=(cY.mp ua).1;have Hn:iE.length<=n:=fc wH.nd wH.lt;refine⟨_,rfl,_,_,rfl,rfl,⟨⟨i+1,iE,f',ub,wH.next ua (fun v t=>dn v ((fK fi yw).mpr t)),Ss,⟨_,_,rfl⟩,Ep,pQ,AT⟩,?_⟩⟩;show n-((i:Int)+1).toNat<n-(i:Int).toNat;lia
    .rw[show decide ((i:Int)<((Rs.length:Nat):Int))=false by rw[rd];lia];have e:jW n Rs f=(List.range n).map (far ts b):=by
      unfold jW;refine js fun x hx=>?_;obtain⟨q1,q2⟩:=Bf.done fi (by lia) (bH.mp hx);rw[aD q1,q2]
     rw[e] at iq;have XF:=sm _ _ hF1;refine cG ⟨_,rfl,.inl ⟨rfl,_,aV.of XF⟩,_,rfl,F,_,_,rfl,rfl,XF,by rw[aP,dl];exact cQ (show b<33 by lia) (by decide),?_⟩;refine⟨⟨_,_,_,_,_,_,rfl⟩,fun c ob ec=>?_,ds++[D],by rw[af,cK];rfl,fun c hc=>?_,by rw[cn,dl];rfl,fun j hj=>?_⟩
     .rw[ao (ap ec hF)];exact sm _ _ (s1 _ _ ec)
     .rcases bY.mp hc with z|z
      .exact Jv c z
      .rw[cC.mp z];exact⟨fD,hFD.symm⟩
     .by_cases c:j<b
      .have m:=lw (cs:=ds) (j:=j) (by lia);have e:(ds++[D]).getD j 0=ds.getD j 0:=by rw[aS,aS,i6 (by lia)]
       rw[e,ao (Jv _ m).2];exact sm _ _ (Vh j c)
      .obtain rfl:j=b:=by lia
       have e:(ds++[D]).getD j 0=D:=by rw[aS,kn (by lia),dl,jh];rfl
       rw[e,ao hFD.symm];exact iq
   .intro σ H2 Q1 Q2 imp i5;refine eY fun fk cM=>?_;obtain⟨v,e1,v2,e2,p,ys,e3,e4,i1,i2,e5,e6,kk,e7,q⟩:=i5;refine cM ?_;clear cM fk;exact⟨v,e1,v2,e2,p,ys,e3,e4,i1,i2,e5,e6,kk,e7,imp _ _ q⟩
theorem lK:aT ["_law_pot_here","_law_outs_here","_law_stand_here","_law_left","_law_found","_law_house","_law_there"] ["_law_pot_here","_law_outs_here","_law_stand_here"] (av BA):=cV (by decide +kernel)
def w4:Sp:=fun vs H Q _=>∃ (p:Addr) (r:Addr) (n:Nat) (ts:Ts) (L:Addr->Prop) (sa:Addr) (homes:List Nat) (st:List (Option Nat)),vs=[.ref p,.ref r,.ref sa]/\cA n ts/\1<=n/\n<=32/\bB H p/\cX H L r n (bj n ts)/\H sa=some (.tup (st.map oV))/\mP n ts homes st/\
 ∀ (t:Addr) (fs:List (Option Nat)) (H':Hp),aB p H H'->bB H' p->H' t=some (.tup (fs.map oV))->Hd n ts st fs->Q (.ref t) H'
theorem Ix{f:Addr}{fd:FuncData}(F:gv K "_law_right" "_law_right" BA f fd)(B:Bl mg)(D:cu P w K mg base bv 1 "_law_take" ["_law_pot_here","_law_many"] fv):bU P w K mg base bv 2 f fd ["_law_pot_here","_law_outs_here","_law_stand_here"] w4:=by
 refine F.ok lK (fun vs H Q E h=>?_) (fun dY A outer s H vs Q E hr h=>?_)
 .obtain⟨p,r,n,ts,L,sa,homes,st,rfl,_⟩:=h;rfl
 .obtain⟨p,r,n,ts,L,sa,homes,st,rfl,Fi,n1,n2,hp,R0,ie,SD,q⟩:=h;refine'⟨_,(ai (dt (i:=3) (g:=(bK 0)) (te:=(J2 (fun xs H Q=>∃p ys,xs=[V.ref p]/\(aV K H p ys\/bt K H p ys)/\∀l,H l=none->Q (.ref l) (upd H l (.lst ys))) (bi (aX 0) dQ))) (NB:=["_law_row_here"]) (src:=[none]) (bJ (by kernel_rfl)) rfl (bP (pv 1)) ?g1 ?t1 ?e1 lK.nd rfl rfl rfl)
   (ai (aN (i:=4) lK.nd rfl aU (cm ae))
   (ai (cP dO rfl (rX (pv 2)) (aw (i:=5) lK.nd rfl aU)
    (ai (aN (i:=6) lK.nd rfl aU cN)
    (ai (bA (aK i_ (pv 5) cN (aR _)) (ak (aN (i:=6) lK.nd rfl aU (hX g9 zy zx sg (aG aH (pv 3) (pv 5) (fun _ _=>rfl)) (aa (az D hr aL (aa (pv 0) (aa (aI aF (by rfl) B.len cp (aa (aG aH (pv 3) (pv 5) (fun _ _=>rfl)) ae)) ae))) ae)))) aQ)
    (ak (cU (hX g9 m6 mZ eA (pv 4) (aa (pv 6) ae)))))))
   (ak (aM (cL d_ (by rfl) B.tup m9 (aa (pv 4) ae))))))),?_⟩
  case g1=>exact fun cl C s₃ H₃ fp=>(aw (i:=0) Io rfl aU bL)
  case t1=>exact fun cl C s₃ H₃ fp=>ce
  case e1=>exact fun cl C s₃ H₃ fp=>(cL jP (by rfl) B.lst oF (aa (pv 0) ae))
  obtain⟨bs,b1,b2,b3⟩:=R0;have bl:bs.length=n:=b3.1;refine⟨_,rfl,r,rfl,⟨_,aV.of b1⟩,fun D1 mW=>?_⟩;refine dh (K:=K) (xs:=bs.map V.ref) (fun i ys σ H2=>(∃a,σ=[a])/\aA H H2/\H2 D1=some (.lst ys)/\∃cs:List Addr,ys=cs.map V.ref/\cs.length=i/\cs.Nodup/\(∀c∈cs,H c=none/\c≠D1/\H2 c≠none)/\∀j,j<i->H2 (cs.getD j 0)=some (.lst (NV (bj n ts j))))
   ⟨⟨_,rfl⟩,aj mW,af,[],rfl,rfl,jE,fun c hc=>(nomatch hc),fun j hj=>absurd hj (kA _)⟩ (fun i ys σ H2 _ z=>aV.of (z.2.1 _ _ b1)) ?_ ?_
  .rintro i x ys σ H2 Kt Kf hx ⟨⟨a,rfl⟩,sm,d8,cs,rfl,cl,nd,hc,ui⟩ kt kf;have hi:i<n:=by have:=(cY.mp hx).1;rw[aP] at this;lia
   obtain rfl:V.ref (bs.getD i 0)=x:=by rw[qr (by lia)] at hx;exact bX hx
   refine⟨_,rfl,_,_,rfl,.inl (aV.of (sm _ _ (b3.2 i hi))),fun l hl=>?_⟩;have nD:D1≠l:=ap d8 hl;have nl:∀c∈cs,c≠l:=fun c ut=>by rintro rfl;exact(hc c ut).2.2 hl
   refine kt _ _ _ (by rw[ao nD];exact d8) (by rw[aP,cl];exact cQ (show i<33 by lia) (by decide)) ⟨⟨_,rfl⟩,bD (sm.trans (aj hl)) mW,af,cs++[l],by rw[cK];rfl,by rw[cn,cl];rfl,?_,fun c ut=>?_,fun j hj=>?_⟩
   .exact l8.mpr ⟨nd,by simp,fun a ha b hb=>by rw[cC.mp hb];exact nl a ha⟩
   .rcases bY.mp ut with z|z
    .exact⟨(hc c z).1,(hc c z).2.1,by rw[ao (hc c z).2.1,ao (nl c z)];exact(hc c z).2.2⟩
    .rw[cC.mp z];exact⟨sm.free hl,nD.symm,by rw[ao nD.symm,af];exact fun z=>by cases z⟩
   .by_cases c:j<i
    .have m:=lw (cs:=cs) (j:=j) (by lia);have e:(cs++[l]).getD j 0=cs.getD j 0:=by rw[aS,aS,i6 (by lia)]
     rw[e,ao (hc _ m).2.1,ao (nl _ m)];exact ui j c
    .obtain rfl:j=i:=by lia
     have e:(cs++[l]).getD j 0=l:=by rw[aS,kn (by lia),cl,jh];rfl
     rw[e,ao nD.symm,af]
  rintro ys σ H2 ⟨⟨a,rfl⟩,sm,d8,cs,rfl,cl,nd,hc,ui⟩;rw[aP,bl] at cl ui;have fD:H D1=none:=mW;have cH:∀h,h<n->H (cs.getD h 0)=none/\cs.getD h 0≠D1:=fun h hh=>⟨(hc _ (lw (by lia))).1,(hc _ (lw (by lia))).2.1⟩
  dsimp only;refine⟨by show 0<=sizeLine;decide,fun Fo LH=>?_⟩;have sF:=aj (o:=.lst []) LH;have fF:=sm.free LH;have XG:Fo≠D1:=(ap d8 LH).symm;have Qs:∀h,h<n->cs.getD h 0≠Fo:=fun h hh=>ap (ui h hh) LH;have LJ:=hp.ne fF;have Lg:=hp.ne fD;have Iy:∀h,h<n->cs.getD h 0≠p:=fun h hh=>hp.ne (cH h hh).1;have BH:=hp.neT ie;refine⟨_,rfl,sa,rfl,⟨_,bt.of ((sm.trans sF) _ _ ie)⟩,vU (K:=K) (xs:=st.map oV) (fun i σ Hc=>∃ (ls:Nat->List Nat) (fs:List (Option Nat)),(∃u v,σ=[some (.ref p),some (.ref r),some (.ref sa),some (.ref D1),some (.ref Fo),u,v])/\aB p H Hc/\bB Hc p/\Hc D1=some (.lst (cs.map V.ref))/\Hc Fo=some (.lst (fs.map oV))/\fs.length=i/\(∀j,j<i->st.getD j none≠none->fs.getD j none≠none)/\mQ n ts st (EC fs st.length) ls/\∀h,h<n->Hc (cs.getD h 0)=some (.lst (NV (ls h))))
   ⟨bj n ts,[],⟨_,_,rfl⟩,aB.of (sm.trans sF),hp.same (sm.trans sF),sF _ _ d8,af,rfl,fun j hj=>absurd hj (kA _),mQ.start,fun h hh=>sF _ _ (ui h hh)⟩ (fun i σ Hc _ z=>by obtain⟨_,_,_,z,_⟩:=z;exact bt.of (z _ _ ie BH)) ?_ ?_⟩
  .rintro i x σ Hc hx ⟨ls,fs,⟨u,v,rfl⟩,sc,jB,yL,u_,fl,HI,LI,zc⟩;have hi:i<st.length:=by have:=(cY.mp hx).1;rwa [aP] at this
   rw[eZ hi] at hx;obtain rfl:=bX hx;have hoi:st[i]?=some (st.getD i none):=by rw[aS,bq hi];rfl
   have hom:st.getD i none∈st:=cZ hoi;generalize ho:st.getD i none=o at *;have i16:i<16:=cQ hi SD.le;refine dI (fun σ H7=>H7=Hc/\σ=[some (.ref p),some (.ref r),some (.ref sa),some (.ref D1),some (.ref Fo),some (oV o),some .bz]) ?_ (fun N hN=>hN _ _ ⟨rfl,rfl⟩);rintro σ H7 ⟨rfl,rfl⟩;refine dI (fun σ H8=>∃ (ls:Nat->List Nat) (o':Option Nat),(σ=[some (.ref p),some (.ref r),some (.ref sa),some (.ref D1),some (.ref Fo),some (oV o),some (oV o')])/\aB p H H8/\bB H8 p/\H8 D1=some (.lst (cs.map V.ref))/\H8 Fo=some (.lst (fs.map oV))/\(o≠none->o'≠none)/\mQ n ts st (EC (fs++[o']) st.length) ls/\∀h,h<n->H8 (cs.getD h 0)=some (.lst (NV (ls h)))) ?_ ?_
   .rintro σ H8 ⟨ls',o',rfl,s8,E6,UV,XH,Ad,LI',aaj⟩;refine⟨_,rfl,.inl ⟨rfl,_,aV.of XH⟩,_,rfl,Fo,_,_,rfl,rfl,XH,by rw[aP,fl];exact cQ (show i<33 by lia) (by decide),?_⟩;refine⟨ls',fs++[o'],⟨_,_,rfl⟩,aB.put s8 fF,E6.put LJ.symm,by rw[ao XG.symm];exact UV,by rw[af,cK];rfl,by rw[cn,fl];rfl,fun j hj hn=>?_,LI',fun h hh=>?_⟩
    .rw[Qr];by_cases c:j=fs.length
     .rw[aD c];refine Ad (fun z=>hn ?_);rw[c,fl];exact ho.trans z
     .rw[au c];exact HI j (by lia) hn
    .rw[ao (Qs h hh)];exact aaj h hh
   .intro N hN;cases o with
    |none=>exact⟨_,rfl,rfl,_,rfl,cG (hN _ _ ⟨ls,none,rfl,sc,jB,yL,u_,(fun z=>absurd rfl z),by rw[LC (by lia)];exact LI,zc⟩)⟩
    |some h=>
     have hh:h<n:=SD.ss h hom;have g1:=zc h hh;have pf:(EC fs st.length).getD i none=none:=by rw[<-fl];exact Qq
     have lp:0<(ls h).length:=LI.full hi ho hh pf (SD.NG h hh);have lu:(ls h).length<=32:=by have:=oq (n:=n) (ts:=ts) (h:=h);have:=LI.cnt h hh;lia
     have ch:=qr (bs:=cs) (h:=h) (by lia);refine⟨_,rfl,rfl,_,rfl,gL rfl ?_⟩;refine⟨_,rfl,_,rfl,D1,_,_,_,rfl,rfl,aV.of yL,am ch,.inl ⟨rfl,_,aV.of g1⟩,_,rfl,_,rfl,_,rfl,D1,_,_,_,rfl,rfl,aV.of yL,am ch,_,_,rfl,.inl (aV.of g1),p,_,rfl,by rw[aO];exact lp,by rw[aO];lia,jB,fun d H9 hd s9 JD=>?_⟩;rw[aO] at hd;have hv:(ls h)[d]?=some (ls h)[d]:=bq hd;refine⟨_,_,(d:Int),d,.int ((ls h)[d]:Nat),rfl,rfl,s9 _ _ g1 (Iy h hh),by lia,by lia,(nw (eH (by rw[aO];exact hd))).1,by unfold NV;rw[bN,hv];rfl,?_⟩;refine hN _ _ ⟨fun k=>if k=h then (ls h).eraseIdx d else ls k,some (ls h)[d],rfl,aB.put (sc.trans s9) (cH h hh).1,JD.put (Iy h hh).symm,by rw[ao (cH h hh).2.symm];exact s9 _ _ yL Lg,by rw[ao (Qs h hh).symm];exact s9 _ _ u_ LJ,(fun _ z=>by cases z),?_,fun k hk=>?_⟩
     .obtain⟨q1,q2,q3,q4⟩:=BC (LI.nd h hh) hd;rw[C9 (by lia),fl];exact LI.step hi ho hh pf q1 q2 q3 q4
     dsimp only;by_cases c:k=h
     .subst c;rw[aD rfl,af,lf]
     .rw[au c,ao (Ip nd (by lia) (by lia) c)];exact s9 _ _ (zc k hk) (Iy k hk)
  .rintro σ Hc ⟨ls,fs,⟨u,v,rfl⟩,sc,jB,yL,u_,fl,HI,LI,zc⟩;refine⟨_,rfl,Fo,_,rfl,.inl ⟨aV.of u_,fun t ht=>?_⟩⟩;have bw:=aj (o:=.tup (fs.map oV)) ht;rw[aP] at fl HI;refine q t fs _ (sc.trans (aB.of bw)) (jB.same bw) af ?_;rw[<-fl,Ir] at LI;refine LI.done fun j hj=>HI j ?_ hj;rcases mh j st.length with c|c
   .exact c
   .exact absurd (by rw[aS,cj c];rfl) hj
end
abbrev BI:Stmt:=iK 3
abbrev Qt:Stmt:=iK 2
theorem gf:(["letter","net","homes","stand","handing"]:List Str).Nodup:=by decide +kernel
noncomputable def jY(ts:Ts)(homes:List Nat)(st fs:List (Option Nat))(j:Nat):Bool:=match st.getD j none with
 |none=>false
 |some h=>decide (far ts h (homes.getD j 0)<=far ts ((fs.getD j none).getD 0) (homes.getD j 0))
noncomputable def ledL(ts:Ts)(homes:List Nat)(st fs:List (Option Nat))(i:Nat):List Nat:=(List.range i).filter (jY ts homes st fs)
structure yM(n:Nat)(homes:List Nat)(st fs:List (Option Nat)):Prop where
 l1:homes.length=st.length
 l2:fs.length=st.length
 l3:st.length<=16
 hs:∀j,j<st.length->homes.getD j 0<n
 bz:∀j,st.getD j none=none->fs.getD j none=none
 out:∀j h,st.getD j none=some h->h<n/\∃y,fs.getD j none=some y/\y<n/\y≠h
theorem Hd.goes{n:Nat}{ts:Ts}{homes:List Nat}{st fs:List (Option Nat)}(F:cA n ts)(S:mP n ts homes st)(d:Hd n ts st fs):yM n homes st fs:=by
 refine⟨S.len,d.len,S.le,fun j hj=>S.hs _ ?_,d.bz,fun j h e=>?_⟩
 .rw[aS,bq (by rw[S.len];exact hj)];exact dv _
 .have hj:j<st.length:=by
   rcases mh j st.length with c|c
   .exact c
   .rw[aS,cj c] at e;cases e
  have hh:=S.ss h (by rw[<-e,aS,bq hj];exact dv _);obtain⟨y,a,b⟩:=d.out j h e;refine⟨hh,y,a,dL F hh b,fun z=>?_⟩;have:=F.ne _ ((fK F hh).mp b);exact this (by show ci h=ci y;rw[z])
theorem Iz{n:Nat}{ts:Ts}{a b:Nat}(h:b<n):(NV ((List.range n).map (far ts a)))[b]?=some (.int ((far ts a b:Nat):Int)):=by
 unfold NV;rw[bN,bN,fw h];rfl
section
variable {P:Program} {w:World} {K:PySem.W.Frag} {mg:Str->Option Value} {base:Heap}
theorem w5:aT ["net","homes","stand","handing","letter","house","goes"] ["net","homes","stand","handing","letter"] (av BI):=cV (by decide +kernel)
def q9(C:Addr):Sp:=fun vs H Q _=>∃ (L:Addr->Prop) (p:Addr) (n:Nat) (ts:Ts) (ha:Addr) (homes:List Nat) (sa:Addr) (st:List (Option Nat)) (fa:Addr) (fs:List (Option Nat)) (j:Nat),vs=[.ref p,.ref ha,.ref sa,.ref fa,.int j]/\dw C H L p n ts/\H ha=some (.tup (NV homes))/\H sa=some (.tup (st.map oV))/\H fa=some (.tup (fs.map oV))/\yM n homes st fs/\j<st.length/\Q (.bl (jY ts homes st fs j)) H
theorem IA{f C:Addr}{fd:FuncData}(F:gv K "is_led" "is_led" BI f fd)(B:Bl mg)(T:NT K mg C)(MF:nZ P w K mg base bv 5 C "far" ["self","one","other"] (wE C)):bU P w K mg base bv 6 f fd ["net","homes","stand","handing","letter"] (q9 C):=by
 obtain⟨fF,fdF,mF,bF,GF⟩:=MF.ex;refine F.ok w5 (fun vs H Q E h=>?_) (fun dY A outer s H vs Q E hr h=>?_)
 .obtain⟨L,p,n,ts,ha,homes,sa,st,fa,fs,j,rfl,_⟩:=h;rfl
 .obtain⟨L,p,n,ts,ha,homes,sa,st,fa,fs,j,rfl,N,j9,ie,kl,G,hj,q⟩:=h;refine⟨_,(ai (aN (i:=5) w5.nd rfl aU (aG bf (pv 2) (pv 4) (fun _ _=>rfl)))
   (ai (aN (i:=6) w5.nd rfl aU (aG bf (pv 3) (pv 4) (fun _ _=>rfl)))
   (ai (bA (PW.pt (xB (aK rZ (pv 6) cN (aR _)) (rV (aK eN (pv 6) (pv 5) (aR _))))) (ak (aM gI)) aQ)
   (ak (aM (gh S_ (iG (pv 0) T.cl mF GF hr bF .nil aL (aa (pv 6) (aa (aG bf (pv 1) (pv 4) (fun _ _=>rfl)) ae))) (iG (pv 0) T.cl mF GF hr bF .nil aL (aa (pv 5) (aa (aG bf (pv 1) (pv 4) (fun _ _=>rfl)) ae))) (aR _))))))),?_⟩
  have l2:=G.l2;have l1:=G.l1;refine⟨_,rfl,_,rfl,sa,_,_,_,rfl,rfl,bt.of ie,am (eZ hj),?_⟩;refine⟨_,rfl,_,rfl,fa,_,_,_,rfl,rfl,bt.of kl,am (eZ (by lia)),?_⟩;obtain⟨dx,tl,ol,ds,hN,_⟩:=N.ob;have hh:=dR (xs:=homes) (j:=j) (by lia);unfold jY at q;cases ho:st.getD j none with
  |none=>
   rw[ho] at q;rw[G.bz j ho];exact⟨_,rfl,rfl,_,rfl,fU (fU q)⟩
  |some h=>
   obtain⟨hn,y,ey,hy,ne⟩:=G.out j h ho;rw[ho] at q;rw[ey] at q |-;refine⟨_,rfl,rfl,_,rfl,f9 rfl ⟨_,rfl,_,rfl,rfl,_,rfl,f9 ?_ ?_⟩⟩
   .exact di fun z=>by injection z with z;exact ne (cD z)
   refine⟨_,rfl,p,dx,_,rfl,hN,Pn _ _ _ _,_,rfl,_,rfl,_,rfl,ha,_,_,_,rfl,rfl,bt.of j9,am hh,L,p,n,ts,y,_,rfl,N,hy,G.hs j hj,?_⟩;refine⟨_,rfl,p,dx,_,rfl,hN,Pn _ _ _ _,_,rfl,_,rfl,_,rfl,ha,_,_,_,rfl,rfl,bt.of j9,am hh,L,p,n,ts,h,_,rfl,N,hn,G.hs j hj,?_⟩;refine⟨_,_,rfl,rfl,?_⟩;show Q (.bl (decide (((far ts h (homes.getD j 0):Nat):Int)<=((far ts y (homes.getD j 0):Nat):Int)))) H;rw[show decide (((far ts h (homes.getD j 0):Nat):Int)<=((far ts y (homes.getD j 0):Nat):Int))=decide (far ts h (homes.getD j 0)<=far ts ((some y).getD 0) (homes.getD j 0)) from ku.mpr (by rw[vw];lia)];exact q
theorem Vj:aT ["net","homes","stand","handing"] ["net","homes","stand","handing"] (av Qt):=cV (by decide +kernel)
def yN(C:Addr):Sp:=fun vs H Q _=>∃ (L:Addr->Prop) (p:Addr) (n:Nat) (ts:Ts) (ha:Addr) (homes:List Nat) (sa:Addr) (st:List (Option Nat)) (fa:Addr) (fs:List (Option Nat)),vs=[.ref p,.ref ha,.ref sa,.ref fa]/\dw C H L p n ts/\H ha=some (.tup (NV homes))/\H sa=some (.tup (st.map oV))/\H fa=some (.tup (fs.map oV))/\yM n homes st fs/\∀r H',aA H H'->H r=none->H' r=some (.lst (NV (ledL ts homes st fs st.length)))->Q (.ref r) H'
theorem Qu{f C:Addr}{fd:FuncData}(F:gv K "led" "led" Qt f fd)(B:Bl mg)(IL:cu P w K mg base bv 6 "is_led" ["net","homes","stand","handing","letter"] (q9 C)):bU P w K mg base bv 7 f fd ["net","homes","stand","handing"] (yN C):=by
 refine F.ok Vj (fun vs H Q E h=>?_) (fun dY A outer s H vs Q E hr h=>?_)
 .obtain⟨L,p,n,ts,ha,homes,sa,st,fa,fs,rfl,_⟩:=h;rfl
 .obtain⟨L,p,n,ts,ha,homes,sa,st,fa,fs,rfl,N,j9,ie,kl,G,q⟩:=h;refine'⟨_,(ak (aM ?c1)),?_⟩;case c1=>
   refine' bV (g:=(bK 0)) (tt:=(tB (qb (q9 C) [] E0 (bi (aX 1) (bi (aX 2) (bi (aX 3) (bi (aX 4) (bi (aX 0) dQ)))))))) (te:=(aX 0)) (NB:=["letter","net","homes","stand","handing"]) (src:=[none,some 0,some 1,some 2,some 3]) (bJ (by kernel_rfl)) rfl (bC rfl B.range (aa (aI aF (by rfl) B.len cp (aa (pv 1) ae)) ae)) ?g ?t ?e;case g=>exact fun cl C s₃ H₃ fp=>(aw (i:=0) gf rfl aU bL)
   case t=>exact fun cl C s₃ H₃ fp=>eG (dq (az IL hr aL (aa (pv 1) (aa (pv 2) (aa (pv 3) (aa (pv 4) (aa (pv 0) ae)))))))
   case e=>exact fun cl C s₃ H₃ fp=>(pv 0)
  have l3:=G.l3;refine⟨_,rfl,ha,_,rfl,.inr (bt.of j9),_,rfl,by lia,by rw[aO,G.l1];lia,fun D1 mW=>?_⟩;rw[aO,G.l1];refine wK (lo:=0) (n:=st.length) (jY ts homes st fs) (fun σ=>∃b,σ=[b,some (.ref p),some (.ref ha),some (.ref sa),some (.ref fa)]) mW (by lia) ⟨_,rfl⟩ ?_ ?_
  .rintro j σ H5 Kt Kf hj ⟨b',rfl⟩ wO kt kf;rw[eK] at kt |-;refine⟨_,rfl,_,rfl,_,rfl,_,rfl,_,rfl,L,p,n,ts,ha,homes,sa,st,fa,fs,j,rfl,N.same wO,wO _ _ j9,wO _ _ ie,wO _ _ kl,G,hj,_,rfl,?_⟩;cases hk:jY ts homes st fs j with
   |false=>exact cG (kf _ _ ⟨_,rfl⟩ (aA.refl _) hk)
   |true=>exact fU ⟨_,rfl,kt _ _ ⟨_,rfl⟩ (aA.refl _) hk⟩
  .intro H5 s5 wT;refine q D1 H5 s5 mW ?_;rw[wT];exact congrArg (fun l=>some (HO.lst l)) (js fun x _=>by rw[eK])
end
abbrev BJ:Stmt:=iK 48
theorem qF:(["_law_i","_law_stand_here"]:List Str).Nodup:=by decide +kernel
theorem gR:(["_law_there","_law_far_here","_law_homes","_law_i","_law_near"]:List Str).Nodup:=by decide +kernel
theorem w6{K:PySem.W.Frag}{a D:Addr}{os:List Nat}{g:TG}{tt:TT}{te:TE}{dJ:Hp->Prop}{σB:St}{H0:Hp}(c:Nat->Bool)(bE:St->Prop)(ha:H0 a=some (.lst (NV os)))(hD:H0 D=none)(hn:os.length<=1000)(h0:bE σB)(hs:∀x σ H (Kt:V->St->Hp->Prop) (Kf:St->Hp->Prop),x∈os->bE σ->aA H0 H->(∀σ2 H2,bE σ2->aA H H2->c x=true->Kt (.int (x:Nat)) σ2 H2)->(∀σ2 H2,bE σ2->aA H H2->c x=false->Kf σ2 H2)->
   g (.int (x:Nat)) σ H fun σ2 H2=>tt σ2 H2 fun b H3=>if b=true then te σ2 H3 fun v H4=>Kt v σ2 H4 else Kf σ2 H3)(hd:∀H,aA H0 H->H D=some (.lst (NV (os.filter c)))->dJ H):gJ (Dr K a) g tt te D dJ σB (upd H0 D (.lst [])):=by
 refine dh (xs:=NV os) (fun i ys σ H=>bE σ/\aA H0 H/\H D=some (.lst ys)/\ys=NV ((os.take i).filter c)) ⟨h0,aj hD,af,rfl⟩ (fun i ys σ H _ z=>aV.of (z.2.1 _ _ ha)) ?_ ?_
 .rintro i x ys σ H Kt Kf hx ⟨sh,sm,d8,rfl⟩ kt kf;obtain⟨y,hy,rfl⟩:=n6 hx;have tk:os.take (i+1)=os.take i++[y]:=by rw[fZ,hy];rfl
  refine hs y σ H Kt Kf (cZ hy) sh sm (fun σ2 H2 mI s2 e=>?_) (fun σ2 H2 mI s2 e=>?_)
  .refine kt _ _ _ (s2 _ _ d8) ?_ ⟨mI,bD (sm.trans s2) hD,af,?_⟩
   .rw[aO];exact fq (aY (fW _ _) (m_ _ _)) (fq hn (by decide))
   .rw[tk,ft,show [y].filter c=[y] by simp[c_,e],lI]
  .refine kf _ _ ⟨mI,sm.trans s2,s2 _ _ d8,?_⟩;rw[tk,ft,show [y].filter c=[] by simp[c_,e],rH]
 .rintro ys σ H ⟨_,sm,d8,rfl⟩;rw[aO,iA] at d8;exact hd H sm d8
theorem IC{α β:Type}{f:α->β}:∀ {l:List α} {k:Nat},(l.eraseIdx k).map f=(l.map f).eraseIdx k
 |[],_=>rfl
 |x::l,0=>rfl
 |x::l,k+1=>congrArg (f x::·) (IC (l:=l) (k:=k))
theorem iZ{os:List Nat}{k j:Nat}(h:os[k]?=some j):os.take (k+1)=os.take k++[j]:=by rw[fZ,h];rfl
theorem Vk{xs:List Nat}{y:Nat}(hy:y∈xs):∃k,k<xs.length/\xs[k]?=some y/\(((xs.map fun (x:Nat)=>(x:Int)).eraseIdx ((xs.map fun (x:Nat)=>(x:Int)).idxOf (y:Int))).map V.int)=NV (xs.eraseIdx k):=by
 have hm:(y:Int)∈xs.map fun (x:Nat)=>(x:Int):=bn.mpr ⟨y,hy,rfl⟩;have hl:=Fp.mpr hm;have hg:=List.getElem_idxOf hl;generalize (xs.map fun (x:Nat)=>(x:Int)).idxOf (y:Int)=k at *;have hl':k<xs.length:=by rwa [aP] at hl
 refine⟨k,hl',?_,?_⟩
 .rw[rF] at hg;rw[bq hl',cD hg]
 .rw[<-lf];rw[show NV xs=(xs.map fun (x:Nat)=>(x:Int)).map V.int by unfold NV;rw[cy];rfl];exact IC
theorem ID{fs:List (Option Nat)}{i:Nat}{o:Option Nat}:(fs.map oV).set i (oV o)=(fs.set i o).map oV:=(List.map_set).symm
section
variable {P:Program} {w:World} {K:PySem.W.Frag} {mg:Str->Option Value} {base:Heap}
theorem jg:aT ["_law_pot_here","_law_outs_here","_law_far_here","_law_homes","_law_stand_here","_law_left","_law_found","_law_order_here","_law_i","_law_near","_law_good"] ["_law_pot_here","_law_outs_here","_law_far_here","_law_homes","_law_stand_here"] (av BJ):=cV (by decide +kernel)
def w9:Sp:=fun vs H Q _=>∃ (p r fr:Addr) (n:Nat) (ts:Ts) (L L':Addr->Prop) (ha sa:Addr) (homes:List Nat) (st:List (Option Nat)),vs=[.ref p,.ref r,.ref fr,.ref ha,.ref sa]/\cA n ts/\bB H p/\cX H L r n (bj n ts)/\cX H L' fr n (fun h=>(List.range n).map (far ts h))/\L' fr/\¬ L' p/\H ha=some (.tup (NV homes))/\H sa=some (.tup (st.map oV))/\mP n ts homes st/\
 ∀ (t:Addr) (fs:List (Option Nat)) (H':Hp),aB p H H'->bB H' p->H' t=some (.tup (fs.map oV))->Hd n ts st fs->Q (.ref t) H'
theorem IF{f:Addr}{fd:FuncData}(F:gv K "_law_eager" "_law_eager" BJ f fd)(B:Bl mg)(D:cu P w K mg base bv 1 "_law_take" ["_law_pot_here","_law_many"] fv)(OR:cu P w K mg base bv 2 "_law_order" ["_law_pot_here","_law_many"] lJ):bU P w K mg base bv 3 f fd ["_law_pot_here","_law_outs_here","_law_far_here","_law_homes","_law_stand_here"] w9:=by
 refine F.ok jg (fun vs H Q E h=>?_) (fun dY A outer s H vs Q E hr h=>?_)
 .refine eY fun fk cM=>?_;obtain⟨p,r,fr,n,ts,L,L',ha,sa,homes,st,rfl,_⟩:=h;refine cM ?_;clear cM fk;rfl
 .refine eY fun fk cM=>?_;obtain⟨p,r,fr,n,ts,L,L',ha,sa,homes,st,rfl,Fi,hp,R0,RF,hLf,Ig,j9,ie,SD,q⟩:=h;refine cM ?_;clear cM fk;have h1:cB 1 _:=hr.mono (by decide);have n1:=Fi.n1;have n2:=Fi.n2;refine'⟨_,(ai (dt (i:=5) (g:=(bK 0)) (te:=(J2 (fun xs H Q=>∃p ys,xs=[V.ref p]/\(aV K H p ys\/bt K H p ys)/\∀l,H l=none->Q (.ref l) (upd H l (.lst ys))) (bi (aX 0) dQ))) (NB:=["_law_row_here"]) (src:=[none]) (bJ (by kernel_rfl)) rfl (bP (pv 1)) ?g1 ?t1 ?e1 jg.nd rfl rfl rfl)
   (ai (aN (i:=6) jg.nd rfl aU (bu vZ (cm (aa cN ae)) (aI aF (by rfl) B.len cp (aa (pv 4) ae))))
   (ai (dt (i:=7) (g:=(bK 0)) (tt:=(ja (gw (fun x y H Q=>y=.bz/\Q (.bl (!decide (x=.bz))) H) (gw (Dz K) (aX 1) (aX 0)) (tC .bz)))) (te:=(aX 0)) (NB:=["_law_i","_law_stand_here"]) (src:=[none,some 4]) (bJ (by kernel_rfl)) rfl (bP (az OR hr aL (aa (pv 0) (aa (aI aF (by rfl) B.len cp (aa (pv 4) ae)) ae)))) ?g2 ?t2 ?e2 jg.nd rfl rfl rfl)
   (ai (cP dO rfl (bP (pv 7)) (aw (i:=8) jg.nd rfl bL)
    (ai (aN (i:=9) jg.nd rfl bL (aG aH (aG aH (pv 2) (aG bf (pv 4) (pv 8) (fun _ _=>rfl)) (fun _ _=>rfl)) (aG bf (pv 3) (pv 8) (fun _ _=>rfl)) (fun _ _=>rfl)))
    (ai (dt (i:=10) (g:=(bK 0)) (tt:=(ja (gw (tW fun i j=>.bl (decide (i<j))) (gw (ki K) (gw (ki K) (aX 1) (aX 0)) (gw (Dz K) (aX 2) (aX 3))) (aX 4)))) (te:=(aX 0)) (NB:=["_law_there","_law_far_here","_law_homes","_law_i","_law_near"]) (src:=[none,some 2,some 3,some 8,some 9]) (bJ (by kernel_rfl)) rfl (bP (aG aH (pv 5) (aG bf (pv 4) (pv 8) (fun _ _=>rfl)) (fun _ _=>rfl))) ?g3 ?t3 ?e3 jg.nd rfl rfl rfl)
    (ak (bA (aK (AL (e:=iH) hr.u) (pv 10) (cm ae) (aR _)) (ai (dW (aG aH (pv 10) (az D h1 aL (aa (pv 0) (aa (aI aF (by rfl) B.len cp (aa (pv 10) ae)) ae))) (fun _ _=>rfl)) (iT (pv 6) (pv 8) eS))
     (ak (cU (hX g9 PySem.F.slot_list_remove PySem.F.type_list_remove DW (aG aH (pv 5) (aG bf (pv 4) (pv 8) (fun _ _=>rfl)) (fun _ _=>rfl)) (aa (aG aH (pv 6) (pv 8) (fun _ _=>rfl)) ae))))) aQ)))))
   (ai (cP dO rfl (bP (pv 7)) (aw (i:=8) jg.nd rfl bL)
    (ak (bA (aK rZ (aG aH (pv 6) (pv 8) (fun _ _=>rfl)) cN (aR _)) (ak (dW (hX g9 zy zx sg (aG aH (pv 5) (aG bf (pv 4) (pv 8) (fun _ _=>rfl)) (fun _ _=>rfl)) (aa (az D h1 aL (aa (pv 0) (aa (aI aF (by rfl) B.len cp (aa (aG aH (pv 5) (aG bf (pv 4) (pv 8) (fun _ _=>rfl)) (fun _ _=>rfl)) ae)) ae))) ae)) (iT (pv 6) (pv 8) eS))) aQ)))
   (ak (aM (cL d_ (by rfl) B.tup m9 (aa (pv 6) ae))))))))),?_⟩
  case g1=>exact fun cl C s₃ H₃ fp=>(aw (i:=0) Io rfl aU bL)
  case t1=>exact fun cl C s₃ H₃ fp=>ce
  case e1=>exact fun cl C s₃ H₃ fp=>(cL jP (by rfl) B.lst oF (aa (pv 0) ae))
  case g2=>exact fun cl C s₃ H₃ fp=>(aw (i:=0) qF rfl aU bL)
  case t2=>exact fun cl C s₃ H₃ fp=>eG (aK i_ (aG bf (pv 1) (pv 0) (fun _ _=>rfl)) cN (aR _))
  case e2=>exact fun cl C s₃ H₃ fp=>(pv 0)
  case g3=>exact fun cl C s₃ H₃ fp=>(aw (i:=0) gR rfl aU bL)
  case t3=>exact fun cl C s₃ H₃ fp=>eG (aK iV (aG aH (aG aH (pv 1) (pv 0) (fun _ _=>rfl)) (aG bf (pv 2) (pv 3) (fun _ _=>rfl)) (fun _ _=>rfl)) (pv 4) (aR _))
  case e3=>exact fun cl C s₃ H₃ fp=>(pv 0)
  obtain⟨bs,b1,b2,b3⟩:=R0;have bl:bs.length=n:=b3.1;refine⟨_,rfl,r,rfl,⟨_,aV.of b1⟩,fun D1 mW=>?_⟩;refine dh (K:=K) (xs:=bs.map V.ref) (fun i ys σ H2=>(∃a,σ=[a])/\aA H H2/\H2 D1=some (.lst ys)/\∃cs:List Addr,ys=cs.map V.ref/\cs.length=i/\cs.Nodup/\(∀c∈cs,H c=none/\c≠D1/\H2 c≠none)/\∀j,j<i->H2 (cs.getD j 0)=some (.lst (NV (bj n ts j))))
   ⟨⟨_,rfl⟩,aj mW,af,[],rfl,rfl,jE,fun c hc=>(nomatch hc),fun j hj=>absurd hj (kA _)⟩ (fun i ys σ H2 _ z=>aV.of (z.2.1 _ _ b1)) ?_ ?_
  .intro i x ys σ H2 Kt Kf hx i5 kt kf;refine eY fun fk cM=>?_;obtain⟨⟨a,rfl⟩,sm,d8,cs,rfl,cl,nd,hc,ui⟩:=i5;refine cM ?_;clear cM fk;have hi:i<n:=by have:=(cY.mp hx).1;rw[aP] at this;lia
   obtain rfl:V.ref (bs.getD i 0)=x:=by rw[qr (by lia)] at hx;exact bX hx
   refine⟨_,rfl,_,_,rfl,.inl (aV.of (sm _ _ (b3.2 i hi))),fun l hl=>?_⟩;have nD:D1≠l:=ap d8 hl;have nl:∀c∈cs,c≠l:=fun c ut=>by rintro rfl;exact(hc c ut).2.2 hl
   refine kt _ _ _ (by rw[ao nD];exact d8) (by rw[aP,cl];exact cQ (show i<33 by lia) (by decide)) ⟨⟨_,rfl⟩,bD (sm.trans (aj hl)) mW,af,cs++[l],by rw[cK];rfl,by rw[cn,cl];rfl,?_,fun c ut=>?_,fun j hj=>?_⟩
   .exact l8.mpr ⟨nd,by simp,fun a ha b hb=>by rw[cC.mp hb];exact nl a ha⟩
   .rcases bY.mp ut with z|z
    .exact⟨(hc c z).1,(hc c z).2.1,by rw[ao (hc c z).2.1,ao (nl c z)];exact(hc c z).2.2⟩
    .rw[cC.mp z];exact⟨sm.free hl,nD.symm,by rw[ao nD.symm,af];exact fun z=>by cases z⟩
   .by_cases c:j<i
    .have m:=lw (cs:=cs) (j:=j) (by lia);have e:(cs++[l]).getD j 0=cs.getD j 0:=by rw[aS,aS,i6 (by lia)]
     rw[e,ao (hc _ m).2.1,ao (nl _ m)];exact ui j c
    .obtain rfl:j=i:=by lia
     have e:(cs++[l]).getD j 0=l:=by rw[aS,kn (by lia),cl,jh];rfl
     rw[e,ao nD.symm,af]
  intro ys σ H2 i5;refine eY fun fk cM=>?_;obtain⟨⟨a,rfl⟩,sm,d8,cs,rfl,cl,nd,hc,ui⟩:=i5;refine cM ?_;clear cM fk;rw[aP,bl] at cl ui;have fD:H D1=none:=mW;have cH:∀h,h<n->H (cs.getD h 0)=none/\cs.getD h 0≠D1:=fun h hh=>⟨(hc _ (lw (by lia))).1,(hc _ (lw (by lia))).2.1⟩
  have ED:=SD.le;have BH:=hp.neT ie;have E7:=hp.neT j9;have Lg:=hp.ne fD;have Iy:∀h,h<n->cs.getD h 0≠p:=fun h hh=>hp.ne (cH h hh).1;dsimp only;refine⟨by show 1<=sizeLine;decide,fun L1 wu=>⟨_,rfl,sa,_,rfl,.inr (bt.of ((sm.trans (aj wu)) _ _ ie)),L1,_,_,rfl,rfl,af,by lia,by rw[aP];lia,by rw[i8,kq,aP];exact aY (show 1*st.length<=32 by lia) (by decide),fun Fo LH=>?_⟩⟩;rw[i8,lh,aP];have eM:List.replicate st.length V.bz=(List.replicate st.length none).map oV:=by rw[zJ];rfl
  rw[eM];have Vl:=aj (o:=.lst [.bz]) wu;have sm1:=sm.trans Vl;have fF:=sm1.free LH;have LJ:=hp.ne fF;have XG:Fo≠D1:=(ap (Vl _ _ d8) LH).symm;have Qs:∀h,h<n->cs.getD h 0≠Fo:=fun h hh=>ap (Vl _ _ (ui h hh)) LH;have sF:=aj (o:=.lst ((List.replicate st.length none).map oV)) LH;have gF:=af (H:=upd H2 L1 (.lst [.bz])) (a:=Fo) (o:=.lst ((List.replicate st.length none).map oV));have gD:=sF _ _ (Vl _ _ d8);have gc:∀h,h<n->_:=fun h hh=>sF _ _ (Vl _ _ (ui h hh));have Em:=sm1.trans sF;generalize upd (upd H2 L1 _) Fo _=H3 at *;have oC:=hp.same Em;refine⟨_,rfl,_,rfl,sa,_,rfl,.inr (bt.of (Em _ _ ie)),p,st.length,by rw[aP];rfl,by lia,oC,fun od Su H4 s4 n9 fod zd pm=>?_⟩;refine⟨_,rfl,⟨_,aV.of zd⟩,fun D2 iq=>?_⟩;have abj:Su.length=st.length:=by rw[pm.length_eq,cE]
  have EE:=s4 _ _ (Em _ _ ie) BH;refine w6 (os:=Su) (fun i=>(st.getD i none).isSome) (fun σ=>∃b,σ=[b,some (.ref sa)]) zd iq (by lia) ⟨_,rfl⟩ ?_ ?_
  .rintro x σ H5 Kt Kf hx ⟨b',rfl⟩ wO kt kf;have XI:x<st.length:=bH.mp (pm.mem_iff.mp hx);refine⟨_,rfl,_,rfl,sa,_,_,_,rfl,rfl,bt.of (wO _ _ EE),am (eZ XI),rfl,_,rfl,?_⟩;cases ho:st.getD x none with
   |none=>exact cG (kf _ _ ⟨_,rfl⟩ (aA.refl _) (by rw[ho];rfl))
   |some h=>exact gL rfl ⟨_,rfl,kt _ _ ⟨_,rfl⟩ (aA.refl _) (by rw[ho];rfl)⟩
  intro H5 s5 wT;have osn:(Su.filter fun i=>(st.getD i none).isSome).Nodup:=(pm.nodup_iff.mpr lS).sublist (vq);have osm:∀j,j∈Su.filter (fun i=>(st.getD i none).isSome)↔j<st.length/\st.getD j none≠none:=fun j=>by
   rw[cS,pm.mem_iff,bH];cases st.getD j none <;> simp
  have uB:(Su.filter fun i=>(st.getD i none).isSome).length<=16:=aY (fW _ _) (by lia);generalize (Su.filter fun i=>(st.getD i none).isSome)=os at *;have JG:aB p H3 H5:=s4.trans (aB.of s5);have JE:aB p H H5:=(aB.of Em).trans JG;have fD2:H D2=none:=((aB.of Em).trans s4).free n9.full iq;have Vm:=hp.ne fD2;have u6:=n9.same s5;have n2D:D2≠D1:=(ap (s4 _ _ gD Lg) iq).symm;have n2F:D2≠Fo:=(ap (s4 _ _ gF LJ) iq).symm;have n2c:∀h,h<n->cs.getD h 0≠D2:=fun h hh=>ap (s4 _ _ (gc h hh) (Iy h hh)) iq;have iat:∀ {k i},(NV os)[k]?=some i->∃j h,i=V.int ((j:Nat):Int)/\os[k]?=some j/\j<st.length/\st.getD j none=some h/\h<n:=fun {k i} hk=>by
   obtain⟨j,hj,rfl⟩:=n6 hk;obtain⟨jl,jn⟩:=(osm j).mp (cZ hj);cases ho:st.getD j none with
   |none=>exact absurd ho jn
   |some h=>exact⟨j,h,rfl,hj,jl,ho,SD.ss h (by rw[<-ho,aS,bq jl];exact dv _)⟩
  dsimp only;refine⟨_,rfl,D2,rfl,⟨_,aV.of wT⟩,hW (K:=K) (xs:=NV os) (fun k σ Hc=>(∃ (ls:Nat->List Nat) (fs:List (Option Nat)),(∃a b c,σ=[some (.ref p),some (.ref r),some (.ref fr),some (.ref ha),some (.ref sa),some (.ref D1),some (.ref Fo),some (.ref D2),a,b,c])/\aB p H Hc/\bB Hc p/\Hc D1=some (.lst (cs.map V.ref))/\Hc Fo=some (.lst (fs.map oV))/\Hc D2=some (.lst (NV os))/\mQ n ts st fs ls/\(∀h,h<n->Hc (cs.getD h 0)=some (.lst (NV (ls h))))/\∀j,fs.getD j none≠none->j∈os.take k)) ⟨bj n ts,_,⟨_,_,_,rfl⟩,JE,u6,JG _ _ gD Lg,JG _ _ gF LJ,wT,mQ.start,fun h hh=>JG _ _ (gc h hh) (Iy h hh),fun j hj=>absurd wY hj⟩ (fun k σ Hc _ z=>by obtain⟨_,_,_,_,_,_,_,z,_⟩:=z;exact aV.of z) ?_ ?_⟩
  .intro k i σ Hc hk i5;refine eY fun fk cM=>?_;obtain⟨ls,fs,⟨a8,a9,a10,rfl⟩,sc,jB,yL,u_,LK,LI,zc,qy⟩:=i5;refine cM ?_;clear cM fk;refine eY fun fk cM=>?_;obtain⟨j,h,rfl,hj,jl,ho,hh⟩:=iat hk;refine cM ?_;clear cM fk;have jf:fs.getD j none=none:=by
    cases e:fs.getD j none with
    |none=>rfl
    |some y=>
     have:=qy j (by rw[e];exact fun z=>by cases z);obtain⟨i',ub,ei⟩:=rn this;rw[g_] at ub;rw[List.getElem_take] at ei;have XJ:=(cY.mp hj).2;have:=(vy osn).mp (ei.trans XJ.symm);lia
   have fl:=LI.len;have IG:=sc _ _ ie BH;have Vn:=sc _ _ j9 E7;have oi:(st.map oV)[j]?=some (.int (h:Int)):=by rw[eZ jl,ho];rfl
   have hm:homes.getD j 0<n:=SD.hs _ (by rw[aS,bq (by rw[SD.len];exact jl)];exact dv _);have hh':=dR (xs:=homes) (j:=j) (by rw[SD.len];exact jl);have RFc:cX Hc L' fr n (fun h=>(List.range n).map (far ts h)):=RF.keep hLf fun b o l e=>sc b o e fun z=>Ig (z ▸ l);obtain⟨es,e1,e2,e3⟩:=RFc;have ge:∀k,k<n->(es.map V.ref)[k]?=some (.ref (es.getD k 0)):=fun k hk=>qr (by rw[e3.1];exact hk);have ch:=qr (bs:=cs) (h:=h) (by lia);refine⟨_,rfl,_,rfl,_,rfl,sa,_,_,_,rfl,rfl,bt.of IG,am oi,fr,_,_,_,rfl,rfl,aV.of e1,am (ge h hh),_,rfl,_,rfl,ha,_,_,_,rfl,rfl,bt.of Vn,am hh',_,_,_,_,rfl,rfl,aV.of (e3.2 h hh),am (Iz hm),?_⟩;refine⟨_,rfl,_,rfl,_,rfl,sa,_,_,_,rfl,rfl,bt.of IG,am oi,D1,_,_,_,rfl,rfl,aV.of yL,am ch,_,rfl,⟨_,aV.of (zc h hh)⟩,fun D3 pQ=>?_⟩;have lsn:∀x∈ls h,x<n:=fun x hx=>BB (by lia) (LI.sub h hh x hx);have lsl:(ls h).length<=32:=by have:=oq (n:=n) (ts:=ts) (h:=h);have:=LI.cnt h hh;lia
   refine w6 (os:=ls h) (fun y=>decide (far ts y (homes.getD j 0)<far ts h (homes.getD j 0))) (fun σ=>∃b,σ=[b,some (.ref fr),some (.ref ha),some (.int (j:Int)),some (.int ((far ts h (homes.getD j 0):Nat):Int))]) (zc h hh) pQ (by lia) ⟨_,rfl⟩ ?_ ?_
   .rintro x σ H6 Kt Kf hx ⟨b',rfl⟩ Bh kt kf;refine⟨_,rfl,_,rfl,fr,_,_,_,rfl,rfl,aV.of (Bh _ _ e1),am (ge x (lsn x hx)),_,rfl,_,rfl,ha,_,_,_,rfl,rfl,bt.of (Bh _ _ Vn),am hh',_,_,_,_,rfl,rfl,aV.of (Bh _ _ (e3.2 x (lsn x hx))),am (Iz hm),_,rfl,_,_,rfl,rfl,_,rfl,?_⟩;refine eI (fun c=>?_) (fun c=>?_)
    .exact⟨_,rfl,kt _ _ ⟨_,rfl⟩ (aA.refl _) (cx (by have:=dB c;lia))⟩
    .exact kf _ _ ⟨_,rfl⟩ (aA.refl _) (di fun z=>c (cx (by lia)))
   intro H6 s6 Jz;have gsm:∀x∈(ls h).filter (fun y=>decide (far ts y (homes.getD j 0)<far ts h (homes.getD j 0))),x∈ls h:=fun x hx=>(cS.mp hx).1;have gsl:((ls h).filter (fun y=>decide (far ts y (homes.getD j 0)<far ts h (homes.getD j 0)))).length<=32:=aY (fW _ _) lsl;generalize (ls h).filter _=gs at *;have s56:aB p Hc H6:=aB.of s6;dsimp only;refine⟨_,rfl,by show 0<=sizeLine;decide,fun E1 UQ=>?_⟩;have sE:=aj (o:=.lst []) UQ;refine⟨D3,E1,_,[],rfl,rfl,aV.of (sE _ _ Jz),aV.of af,fun i h1 h2=>absurd h2 (by simp),_,rfl,?_⟩;rw[aD rfl,pS];have s7:=s6.trans sE;have NA:=sE _ _ Jz;generalize upd H6 E1 _=H7 at *;have JC:=jB.same s7;have NH:=sc.trans (aB.of s7);have nD3:=jB.ne pQ;by_cases e:NV gs=[]
   .rw[cx e];exact cG ⟨ls,fs,⟨_,_,_,rfl⟩,NH,JC,s7 _ _ yL,s7 _ _ u_,s7 _ _ LK,LI,fun h hh=>s7 _ _ (zc h hh),fun j' DP=>by rw[iZ hj];exact iz _ (qy j' DP)⟩
   .rw[di e];have gl:0<gs.length:=by
     rcases gs with _|⟨x,xs⟩
     .exact absurd rfl e
     .simp
    refine fU ⟨_,rfl,_,rfl,_,rfl,D3,_,rfl,.inl (aV.of NA),p,_,rfl,by rw[aO];exact gl,by rw[aO];lia,JC,fun d H8 hd s8 E6=>?_⟩;rw[aO] at hd;have Sq:gs.getD d 0∈ls h:=gsm _ (by rw[aS,bq hd];exact dv _);have Xw:=NH.trans s8;have UV:=s8 _ _ (s7 _ _ yL) Lg;have XH:=s8 _ _ (s7 _ _ u_) LJ;have h28:=s8 _ _ (s7 _ _ LK) Vm;have hl8:∀h,h<n->H8 (cs.getD h 0)=some (.lst (NV (ls h))):=fun h hh=>s8 _ _ (s7 _ _ (zc h hh)) (Iy h hh);refine⟨D3,_,_,_,rfl,rfl,aV.of (s8 _ _ NA nD3),am (dR hd),_,rfl,_,rfl,Fo,_,(j:Int),j,rfl,rfl,XH,eH (by rw[aP];lia),?_⟩;generalize gs.getD d 0=y at *;obtain⟨kk,XJ,gk,ek⟩:=Vk Sq;have eF:(fs.map oV).set j (.int (y:Int))=(fs.set j (some y)).map oV:=ID (o:=some y);rw[eF];have gF9:(upd H8 Fo (.lst ((fs.set j (some y)).map oV))) Fo=some (.lst ((fs.set j (some y)).map oV)):=af;have hD9:(upd H8 Fo (.lst ((fs.set j (some y)).map oV))) D1=some (.lst (cs.map V.ref)):=by rw[ao XG.symm];exact UV
    have h29:(upd H8 Fo (.lst ((fs.set j (some y)).map oV))) D2=some (.lst (NV os)):=by rw[ao n2F];exact h28
    have hl9:∀h,h<n->(upd H8 Fo (.lst ((fs.set j (some y)).map oV))) (cs.getD h 0)=some (.lst (NV (ls h))):=fun h hh=>by rw[ao (Qs h hh)];exact hl8 h hh
    have aak:(upd H8 Fo (.lst ((fs.set j (some y)).map oV))) sa=some (.tup (st.map oV)):=by rw[ao (ap ie fF)];exact Xw _ _ ie BH
    have Sk:aB p H (upd H8 Fo (.lst ((fs.set j (some y)).map oV))):=aB.put Xw fF;have JD:=E6.put (o:=.lst ((fs.set j (some y)).map oV)) LJ.symm;generalize upd H8 Fo _=H9 at *;have fj:((fs.set j (some y)).map oV)[j]?=some (.int (y:Int)):=by rw[eZ (by rw[j5];lia),mR (by lia),aD rfl];rfl
    have gl9:H9 (cs.getD h 0)=some (.lst ((ls h).map (fun (x:Nat)=>(x:Int)) |>.map V.int)):=by rw[hl9 h hh,cy];rfl
    refine⟨_,rfl,_,rfl,_,rfl,sa,_,_,_,rfl,rfl,bt.of aak,am oi,D1,_,_,_,rfl,rfl,aV.of hD9,am ch,.inl ⟨rfl,_,aV.of (hl9 h hh)⟩,_,rfl,_,rfl,Fo,_,_,_,rfl,rfl,aV.of gF9,am fj,cs.getD h 0,_,(y:Int),rfl,rfl,gl9,bn.mpr ⟨y,Sq,rfl⟩,?_⟩;rw[ek];obtain⟨q1,q2,q3,q4⟩:=BC (LI.nd h hh) XJ;have ey:(ls h)[kk]=y:=by rw[bq XJ] at gk;exact bX gk
    rw[ey] at q1 q3;refine⟨fun k=>if k=h then (ls h).eraseIdx kk else ls k,fs.set j (some y),⟨_,_,_,rfl⟩,aB.put Sk (cH h hh).1,JD.put (Iy h hh).symm,by rw[ao (cH h hh).2.symm];exact hD9,by rw[ao (Qs h hh).symm];exact gF9,by rw[ao (n2c h hh).symm];exact h29,LI.step jl ho hh jf q1 q2 q3 q4,fun k' Ce=>?_,fun j' DP=>?_⟩
    .dsimp only;by_cases c:k'=h
     .subst c;rw[aD rfl,af]
     .rw[au c,ao (Ip nd (by lia) (by lia) c)];exact hl9 k' Ce
    .rw[iZ hj];rw[mR (by lia)] at DP;by_cases c:j'=j
     .rw[c];exact jr _ bZ
     .rw[au c] at DP;exact iz _ (qy j' DP)
  .intro σ Hc i5;refine eY fun fk cM=>?_;obtain⟨ls,fs,⟨a8,a9,a10,rfl⟩,sc,jB,yL,u_,LK,LI,zc,_⟩:=i5;refine cM ?_;clear cM fk;refine⟨_,rfl,D2,rfl,⟨_,aV.of LK⟩,hW (K:=K) (xs:=NV os) (fun k σ Hc=>(∃ (ls:Nat->List Nat) (fs:List (Option Nat)),(∃a b c,σ=[some (.ref p),some (.ref r),some (.ref fr),some (.ref ha),some (.ref sa),some (.ref D1),some (.ref Fo),some (.ref D2),a,b,c])/\aB p H Hc/\bB Hc p/\Hc D1=some (.lst (cs.map V.ref))/\Hc Fo=some (.lst (fs.map oV))/\Hc D2=some (.lst (NV os))/\mQ n ts st fs ls/\(∀h,h<n->Hc (cs.getD h 0)=some (.lst (NV (ls h))))/\∀j,j∈os.take k->fs.getD j none≠none)) ⟨ls,fs,⟨_,_,_,rfl⟩,sc,jB,yL,u_,LK,LI,zc,fun j hj=>by simp at hj⟩ (fun k σ Hc _ z=>by obtain⟨_,_,_,_,_,_,_,z,_⟩:=z;exact aV.of z) ?_ ?_⟩
   .intro k i σ Hc hk i5;refine eY fun fk cM=>?_;obtain⟨ls,fs,⟨a8,a9,a10,rfl⟩,sc,jB,yL,u_,LK,LI,zc,qy⟩:=i5;refine cM ?_;clear cM fk;refine eY fun fk cM=>?_;obtain⟨j,h,rfl,hj,jl,ho,hh⟩:=iat hk;refine cM ?_;clear cM fk;have fl:=LI.len;have IG:=sc _ _ ie BH;have oi:(st.map oV)[j]?=some (.int (h:Int)):=by rw[eZ jl,ho];rfl
    have ch:=qr (bs:=cs) (h:=h) (by lia);refine⟨_,rfl,_,rfl,Fo,_,_,_,rfl,rfl,aV.of u_,am (eZ (by lia)),rfl,_,rfl,?_⟩;cases jf:fs.getD j none with
    |some y=>
     refine f9 rfl ⟨ls,fs,⟨_,_,_,rfl⟩,sc,jB,yL,u_,LK,LI,zc,fun j' DP=>?_⟩;rw[iZ hj] at DP;rcases bY.mp DP with z|z
     .exact qy j' z
     .rw[cC.mp z,jf];exact fun z=>by cases z
    |none=>
     have g1:=zc h hh;have lp:0<(ls h).length:=LI.full jl ho hh jf (SD.NG h hh);have lu:(ls h).length<=32:=by have:=oq (n:=n) (ts:=ts) (h:=h);have:=LI.cnt h hh;lia
     refine fU ⟨_,rfl,_,rfl,_,rfl,sa,_,_,_,rfl,rfl,bt.of IG,am oi,D1,_,_,_,rfl,rfl,aV.of yL,am ch,.inl ⟨rfl,_,aV.of g1⟩,_,rfl,_,rfl,_,rfl,_,rfl,sa,_,_,_,rfl,rfl,bt.of IG,am oi,D1,_,_,_,rfl,rfl,aV.of yL,am ch,_,_,rfl,.inl (aV.of g1),p,_,rfl,by rw[aO];exact lp,by rw[aO];lia,jB,fun d H9 hd s9 JD=>?_⟩;rw[aO] at hd;have hv:(ls h)[d]?=some (ls h)[d]:=bq hd;have hF9:=s9 _ _ u_ LJ;refine⟨_,_,(d:Int),d,.int ((ls h)[d]:Nat),rfl,rfl,s9 _ _ g1 (Iy h hh),by lia,by lia,(nw (eH (by rw[aO];exact hd))).1,by unfold NV;rw[bN,hv];rfl,?_⟩;refine⟨_,rfl,_,rfl,Fo,_,(j:Int),j,rfl,rfl,by rw[ao (Qs h hh).symm];exact hF9,eH (by rw[aP];lia),?_⟩;have eF:(fs.map oV).set j (.int (((ls h)[d]:Nat):Int))=(fs.set j (some (ls h)[d])).map oV:=ID (o:=some (ls h)[d]);rw[eF,lf];obtain⟨q1,q2,q3,q4⟩:=BC (LI.nd h hh) hd;refine⟨fun k=>if k=h then (ls h).eraseIdx d else ls k,fs.set j (some (ls h)[d]),⟨_,_,_,rfl⟩,aB.put (aB.put (sc.trans s9) (cH h hh).1) fF,(JD.put (Iy h hh).symm).put LJ.symm,by rw[ao XG.symm,ao (cH h hh).2.symm];exact s9 _ _ yL Lg,af,by rw[ao n2F,ao (n2c h hh).symm];exact s9 _ _ LK Vm,LI.step jl ho hh jf q1 q2 q3 q4,fun k' Ce=>?_,fun j' DP=>?_⟩
     .dsimp only;rw[ao (Qs k' Ce)];by_cases c:k'=h
      .subst c;rw[aD rfl,af]
      .rw[au c,ao (Ip nd (by lia) (by lia) c)];exact s9 _ _ (zc k' Ce) (Iy k' Ce)
     .rw[iZ hj] at DP;rw[mR (by lia)];by_cases c:j'=j
      .rw[aD c];exact fun z=>by cases z
      .rw[au c];rcases bY.mp DP with z|z
       .exact qy j' z
       .exact absurd (cC.mp z) c
   .intro σ Hc i5;refine eY fun fk cM=>?_;obtain⟨ls,fs,⟨a8,a9,a10,rfl⟩,sc,jB,yL,u_,LK,LI,zc,qy⟩:=i5;refine cM ?_;clear cM fk;refine⟨_,rfl,Fo,_,rfl,.inl ⟨aV.of u_,fun t ht=>?_⟩⟩;have bw:=aj (o:=.tup (fs.map oV)) ht;rw[aO,iA] at qy;refine q t fs _ (sc.trans (aB.of bw)) (jB.same bw) af (LI.done fun j hj=>qy j ((osm j).mpr ⟨?_,hj⟩));rcases mh j st.length with c|c
    .exact c
    .exact absurd (by rw[aS,cj c];rfl) hj
end
end jT
namespace L2
open PySem PySem.Spec PyProof.Rows
inductive Ox where
 |bz|bl (b:Bool)|int (i:Int)|neg (i:Int)|pow (a b:Int)|str (s:Str)|EF|EG|IH|w_ (o:Ox)
inductive E8:Expr->Ox->Prop where
 |bz {a b}:E8 (.Constant .none a b) .bz
 |bl {c a b}:E8 (.Constant (.bool c) a b) (.bl c)
 |int {c a b}:E8 (.Constant (.int c) a b) (.int c)
 |str {c a b}:E8 (.Constant (.str c) a b) (.str c)
 |lst {a}:E8 (.List [] a) .EF
 |dct {a}:E8 (.Dict [] [] a) .EG
 |tup {a b}:E8 (.Tuple [] a b) .IH
 |neg {c a b d}:E8 (.UnaryOp .USub (.Constant (.int c) a b) d) (.neg c)
 |w_ {e o a b} (h:E8 e o):E8 (.Tuple [e] a b) (.w_ o)
inductive Sv:List Expr->List Ox->Prop where
 |nil:Sv [] []
 |cons {e o es os} (h:E8 e o) (hs:Sv es os):Sv (e::es) (o::os)
def XM:Ox->TE
 |.bz=>tC .bz
 |.bl b=>tC (.bl b)
 |.int i=>tC (.int i)
 |.neg i=>tUn (rU fun i=>.int (-i)) (tC (.int i))
 |.pow a b=>gw (rI S9 fun i j=>.int (i ^ j.toNat)) (tC (.int a)) (tC (.int b))
 |.str s=>tC (.str s)
 |.EF=>NI dQ
 |.EG=>GA
 |.IH=>kh dQ
 |.w_ o=>kh (bi (XM o) dQ)
def Qv:List Ox->TA->TA
 |[],t=>t
 |o::os,t=>bi (XM o) (Qv os t)
section
variable {X:Cx} {e:Expr} {es:List Expr} {o:Ox}
theorem NL(h:E8 e o):PE X e (XM o)/\∀es,starEach (e::es) X.env=(false,eval e X.env)::starEach es X.env:=by
 induction h with
 |bz=>exact⟨cN,fun _=>rfl⟩
 |bl=>exact⟨gI,fun _=>rfl⟩
 |int=>exact⟨aq,fun _=>rfl⟩
 |str=>exact⟨mq,fun _=>rfl⟩
 |lst=>exact⟨Lz ae,fun _=>rfl⟩
 |dct=>exact⟨GB,fun _=>rfl⟩
 |tup=>exact⟨br ae,fun _=>rfl⟩
 |neg=>exact⟨S6 Oy aq,fun _=>rfl⟩
 |w_ _ ih=>exact⟨br (aa ih.1 ae (ih.2 _)),fun _=>rfl⟩
theorem NN{os:List Ox}{r:List Expr}{t:TA}(h:Sv es os)(hr:PA X r t):PA X (es++r) (Qv os t):=by
 induction h with
 |nil=>exact hr
 |cons h _ ih=>exact aa (NL h).1 ih ((NL h).2 _)
end
def XN:Nat->Ox->Bool
 |_,.bz=>true
 |_,.bl _=>true
 |_,.int i=>decide (-1<=i/\i<=33)
 |_,.neg i=>decide (i=1)
 |_,.pow a b=>decide (a=10/\b=59)
 |_,.str s=>decide (s="w"\/s="")
 |n,.EF=>decide (1<=n)
 |_,.EG=>true
 |n,.IH=>decide (1<=n)
 |n,.w_ (.int i)=>decide (1<=n)&&decide (i=0)
 |_,.w_ _=>false
theorem yO{p a:Addr}{H:Hp}(hp:H p≠none)(h:H a=none):a≠p:=by rintro rfl;exact hp h
theorem EH{p:Addr}{H H':Hp}(hp:H p≠none)(s:aA H H'):H' p≠none:=fun z=>by
 cases e:H p with
 |none=>exact hp e
 |some ob=>rw[s _ _ e] at z;cases z
theorem Sw.ups{L:Addr->Prop}{H:Hp}{n m W:Nat}{x:V}(h:Sw L H n W x)(l:n<=m):Sw L H m W x:=by
 induction l with
 |refl=>exact h
 |step _ ih=>exact ih.up
def Pl(p:Addr)(H:Hp)(v:V):Prop:=(∀a,v≠.ref a)\/∃a o,v=.ref a/\a≠p/\H a=some o/\∀xs,o=.tup xs->xs.length<=1
theorem Pl.keep{p:Addr}{H H':Hp}{v:V}(h:Pl p H v)(s:∀a o,a≠p->H a=some o->H' a=some o):Pl p H' v:=by
 rcases h with h|⟨a,o,e,n,g,l⟩
 .exact .inl h
 .exact .inr ⟨a,o,e,n,s _ _ n g,l⟩
theorem aal{p:Addr}{σ:St}:∀ {o:Ox} {n:Nat} {H:Hp} {Q:V->Hp->Prop},XN n o=true->H p≠none->(∀v H',aA H H'->Sw (·≠p) H' n 201 v/\Pl p H' v->Q v H')->XM o σ H Q
 |.bz,n,H,Q,_,hp,k=>k _ _ (aA.refl _) ⟨tJ.le (by decide),.inl fun a z=>(nomatch z)⟩
 |.bl b,n,H,Q,_,hp,k=>k _ _ (aA.refl _) ⟨Vd.le (by decide),.inl fun a z=>(nomatch z)⟩
 |.int i,n,H,Q,h,hp,k=>k _ _ (aA.refl _) ⟨(iw (.inl (dB h))).le (by decide),.inl fun a z=>(nomatch z)⟩
 |.neg i,n,H,Q,h,hp,k=>⟨i,rfl,k _ _ (aA.refl _) ⟨(iw (.inl (by have:i=1:=dB h;lia))).le (by decide),.inl fun a z=>(nomatch z)⟩⟩
 |.pow a b,n,H,Q,h,hp,k=>by
  obtain⟨rfl,rfl⟩:a=10/\b=59:=dB h;exact⟨10,59,rfl,rfl,⟨by decide,by decide,by decide⟩,k _ _ (aA.refl _) ⟨(iw (.inr rfl)).le (by decide),.inl fun a z=>(nomatch z)⟩⟩
 |.str s,n,H,Q,h,hp,k=>k _ _ (aA.refl _) ⟨(Ii (dB h)).le (by decide),.inl fun a z=>(nomatch z)⟩
 |.EF,n,H,Q,h,hp,k=>⟨by show 0<=sizeLine;decide,fun a ha ns=>k _ _ (aj ha) ⟨((Ih (L:=(·≠p)) (H:=upd H a (.lst [])) (a:=a) (xs:=[]) (n:=0) (W:=0) (yO hp ha) ns af fun x hx=>(nomatch hx)).ups (dB h)).le (by decide),.inr ⟨a,_,rfl,yO hp ha,af,fun xs z=>(nomatch z)⟩⟩⟩
 |.EG,n,H,Q,h,hp,k=>fun a ha=>k _ _ (aj ha) ⟨(Qk (L:=(·≠p)) (H:=upd H a (.dK [])) (a:=a) (yO hp ha) af).le (by decide),.inr ⟨a,_,rfl,yO hp ha,af,fun xs z=>(nomatch z)⟩⟩
 |.IH,n,H,Q,h,hp,k=>⟨by show 0<=sizeLine;decide,fun a ha=>k _ _ (aj ha) ⟨((wV (L:=(·≠p)) (H:=upd H a (.tup [])) (a:=a) (xs:=[]) (n:=0) (W:=0) (yO hp ha) af fun x hx=>(nomatch hx)).ups (dB h)).le (by decide),.inr ⟨a,_,rfl,yO hp ha,af,fun xs z=>by cases z;exact de _⟩⟩⟩
 |.w_ (.int i),n,H,Q,h,hp,k=>by
  obtain⟨h1,h2⟩:=oK.mp h;obtain rfl:i=0:=dB h2;exact⟨by show 1<=sizeLine;decide,fun a ha=>k _ _ (aj ha) ⟨(wV (L:=(·≠p)) (H:=upd H a (.tup [.int 0])) (a:=a) (xs:=[.int 0]) (n:=0) (W:=200) (yO hp ha) af fun x hx=>by rw[cC.mp hx];exact iw (.inl (by decide))).ups (dB h1),.inr ⟨a,_,rfl,yO hp ha,af,fun xs z=>by cases z;exact aW _⟩⟩⟩
theorem II{p:Addr}{σ:St}{n:Nat}{t:TA}:∀ {os:List Ox} {H:Hp} {Q:List V->Hp->Prop},(∀o∈os,XN n o=true)->H p≠none->(∀vs H',aA H H'->vs.length=os.length->(∀v∈vs,Sw (·≠p) H' n 201 v/\Pl p H' v)->t σ H' fun xs H2=>Q (vs++xs) H2)->Qv os t σ H Q
 |[],H,Q,_,hp,k=>k [] H (aA.refl _) rfl fun v hv=>(nomatch hv)
 |o::os,H,Q,h,hp,k=>by
  refine aal (h o bZ) hp fun v H' s sh=>?_;refine II (os:=os) (fun o' ho=>h o' (du _ ho)) (EH hp s) fun vs H2 s2 hl hv=>?_;refine k (v::vs) H2 (s.trans s2) (congrArg (·+1) hl) fun x hx=>?_;rcases bW.mp hx with rfl|hx
  .exact⟨sh.1.keep (jV.of s2),sh.2.keep fun a o _ e=>s2 a o e⟩
  .exact hv x hx
end L2
namespace jT
open PySem L2 fJ
abbrev IJ:Stmt:=iK 49
abbrev BK:Stmt:=iK 50
theorem keepE{p:Addr}{H H':Hp}(s:aB p H H'):jV (·≠p) H H':=fun a o l e _=>s a o e l
theorem aam{L:Addr->Prop}{H:Hp}{n k:Nat}{o:Option Nat}(n2:n<=32)(h:∀y,o=some y->y<n):Sw L H k 200 (oV o):=by
 cases o with
 |none=>exact tJ
 |some y=>exact iw (.inl (by have:=h y rfl;lia))
section
variable {P:Program} {w:World} {K:PySem.W.Frag} {mg:Str->Option Value} {base:Heap}
theorem NO:aT ["_law_pot_here","_law_n","_law_odd_here"] ["_law_pot_here","_law_n"] (av IJ):=cV (by decide +kernel)
abbrev bo(i:Nat):Stmt:=(b_ IJ).getD i (.Pass ⟨0,0,0,0⟩)
theorem IK:∃es os q1 q2 q3 a1 a2 b1 b2 b3 b4,b_ IJ=[.Assign [.Name "_law_odd_here" q1] (.List (es++[.Name "_law_n" a1,.BinOp (.Constant (.int 10) b1 b2) .Pow (.Constant (.int 59) b3 b4) a2]) q2) q3,bo 1]/\Sv es os/\(∀o∈os,XN 1 o=true)/\os.length=8:=
 ⟨[_,_,_,_,_,_,_,_],[.bl true,.bl false,.str "w",.str "",.w_ (.int 0),.EF,.EG,.neg 1],_,_,_,_,_,_,_,_,_,rfl,.cons .bl (.cons .bl (.cons .str (.cons .str (.cons (.w_ .int) (.cons .lst (.cons .dct (.cons .neg .nil))))))),by decide +kernel,rfl⟩
def IM:Sp:=fun vs H Q _=>∃ (p:Addr) (n:Nat),vs=[.ref p,.int n]/\n<=32/\bB H p/\∀ (x:V) (H':Hp),aB p H H'->bB H' p->Sw (·≠p) H' 1 201 x->Q x H'
theorem Qw{f:Addr}{fd:FuncData}(F:gv K "_law_odd" "_law_odd" IJ f fd)(B:Bl mg)(D:cu P w K mg base bv 1 "_law_take" ["_law_pot_here","_law_many"] fv):bU P w K mg base bv 2 f fd ["_law_pot_here","_law_n"] IM:=by
 refine F.ok NO (fun vs H Q E h=>?_) (fun dY A outer s H vs Q E hr h=>?_)
 .obtain⟨p,n,rfl,_⟩:=h;rfl
 .obtain⟨p,n,rfl,n2,hp,q⟩:=h;obtain⟨es,os,q1,q2,q3,a1,a2,b1,b2,b3,b4,eb,Jx,B_,ol⟩:=IK;rw[eb];refine⟨_,(ai (aN (i:=2) NO.nd rfl aU (cm (NN Jx (aa (pv 1) (aa (bu FE aq aq) ae)))))
   (ak (aM (aG aH (pv 2) (az D hr aL (aa (pv 0) (aa aq ae))) (fun _ _=>rfl))))),?_⟩
  refine II (p:=p) (n:=1) B_ hp.full fun vs H3 sH vl hv=>?_;refine⟨_,rfl,_,_,rfl,rfl,⟨by decide,by decide,by decide⟩,?_,fun L hL=>?_⟩
  .rw[cn,vl,ol];show 10<=sizeLine;decide
  have oC:=hp.same sH;have nL:=oC.ne hL;have Uq:∀v∈vs++[.int (n:Int),.int (10 ^ 59)],Sw (·≠p) H3 1 201 v:=fun v Ao=>by
   rcases bY.mp Ao with z|z
   .exact(hv v z).1
   .rcases bW.mp z with rfl|z
    .exact(iw (.inl (by lia))).le (by decide)
    .rw[cC.mp z];exact(iw (.inr rfl)).le (by decide)
  have wl:(vs++[V.int (n:Int),.int (10 ^ 59)]).length=10:=by rw[cn,vl,ol];rfl
  change bK 2 (V.ref L) _ (upd H3 L (.lst (vs++[V.int (n:Int),.int (10 ^ 59)]))) _;generalize vs++[V.int (n:Int),.int (10 ^ 59)]=us at *;have sL:=aj (o:=.lst us) hL;refine⟨_,rfl,_,rfl,p,10,rfl,by decide,by decide,oC.same sL,fun d H4 hd s4 n9=>?_⟩;rw[<-wl] at hd;exact⟨L,_,_,us[d],rfl,rfl,aV.of (s4 _ _ af nL),am (bq hd),q _ H4 ((aB.of (sH.trans sL)).trans s4) n9 (((Uq _ (dv hd)).keep (jV.of sL)).keep (keepE s4))⟩
theorem C_:aT ["_law_pot_here","_law_way","_law_n","_law_outs_here","_law_stand_here","_law_thing","_law_at"] ["_law_pot_here","_law_way","_law_n","_law_outs_here","_law_stand_here","_law_thing"] (av BK):=cV (by decide +kernel)
def xa:Sp:=fun vs H Q _=>∃ (p:Addr) (E9 n:Nat) (r:Addr) (ts:Ts) (L:Addr->Prop) (sa:Addr) (homes:List Nat) (st:List (Option Nat)) (a:Addr) (xs:List V) (N e:Nat),vs=[.ref p,.int E9,.int n,.ref r,.ref sa,.ref a]/\1<=n/\n<=32/\bB H p/\cX H L r n (bj n ts)/\L r/\¬ L p/\H sa=some (.tup (st.map oV))/\mP n ts homes st/\H a=some (.tup xs)/\0<xs.length/\xs.length=st.length/\1<=N/\201<=e/\(∀x∈xs,Sw (·≠p) H N e x)/\
 ∀ (t:Addr) (k:Nat) (x:V) (H':Hp),aB p H H'->bB H' p->H' t=some (.tup [.int k,x])->k<xs.length->Sw (·≠p) H' N e x->Q (.ref t) H'
theorem IN{f:Addr}{fd:FuncData}(F:gv K "_law_other" "_law_other" BK f fd)(B:Bl mg)(D:cu P w K mg base bv 1 "_law_take" ["_law_pot_here","_law_many"] fv)(OD:cu P w K mg base bv 2 "_law_odd" ["_law_pot_here","_law_n"] IM):bU P w K mg base bv 3 f fd ["_law_pot_here","_law_way","_law_n","_law_outs_here","_law_stand_here","_law_thing"] xa:=by
 refine F.ok C_ (fun vs H Q E h=>?_) (fun dY A outer s H vs Q E hr h=>?_)
 .obtain⟨p,E9,n,r,ts,L,sa,homes,st,a,xs,N,e,rfl,_⟩:=h;rfl
 .obtain⟨p,E9,n,r,ts,L,sa,homes,st,a,xs,N,e,rfl,n1,n2,hp,R0,Lx,Ig,ie,SD,ha,x0,xl,hN,he,yJ,q⟩:=h;have h1:cB 1 _:=hr.mono (by decide);refine⟨_,(ai (aN (i:=6) C_.nd rfl aU (az D h1 aL (aa (pv 0) (aa (aI aF (by rfl) B.len cp (aa (pv 5) ae)) ae))))
   (ai (bA (aK eN (pv 1) aq (aR _)) (ak (aM (br (aa (pv 6) (aa cN ae))))) aQ)
   (ai (bA (aK eN (pv 1) aq (aR _)) (ak (aM (br (aa (pv 6) (aa (az OD hr aL (aa (pv 0) (aa (pv 2) ae))) ae))))) aQ)
   (ai (bA (PW.pt (io (aK iV (pv 1) aq (aR _)) (gU (aK i_ (aG bf (pv 4) (pv 6) (fun _ _=>rfl)) cN (aR _))))) (ak (aM (br (aa (pv 6) (aa (aG aH (aG aH (pv 3) (aG bf (pv 4) (pv 6) (fun _ _=>rfl)) (fun _ _=>rfl)) (az D h1 aL (aa (pv 0) (aa (aI aF (by rfl) B.len cp (aa (aG aH (pv 3) (aG bf (pv 4) (pv 6) (fun _ _=>rfl)) (fun _ _=>rfl)) ae)) ae))) (fun _ _=>rfl)) ae))))) aQ)
   (ai (bA (aK eN (pv 1) aq (aR _)) (ak (aM (br (aa (pv 6) (aa (aG bf (pv 4) (pv 6) (fun _ _=>rfl)) ae))))) aQ)
   (ai (bA (aK eN (pv 1) aq (aR _)) (ak (aM (br (aa (pv 6) (aa (aG bf (pv 5) (az D h1 aL (aa (pv 0) (aa (aI aF (by rfl) B.len cp (aa (pv 5) ae)) ae))) (fun _ _=>rfl)) ae))))) aQ)
   (ak (aM (br (aa (pv 6) (aa (az D h1 aL (aa (pv 0) (aa (pv 2) ae))) ae))))))))))),?_⟩
  have BH:=hp.neT ie;have E7:=hp.neT ha;have ED:=SD.le;refine⟨_,rfl,_,rfl,a,_,rfl,.inr (bt.of ha),p,_,rfl,x0,by lia,hp,fun k H1 hk s1 kZ=>?_⟩;have Ce:k<st.length:=by lia
  have dJ:∀ (x:V) (H2:Hp),aB p H H2->bB H2 p->Sw (·≠p) H2 N e x->∀t,H2 t=none->Q (.ref t) (upd H2 t (.tup [.int (k:Int),x])):=fun x H2 s2 km sw t ht=>
   q t k x _ (s2.trans (aB.of (aj ht))) (km.same (aj ht)) af hk (sw.keep (jV.of (aj ht)))
  have LM:=s1 _ _ ie BH;have NP:=s1 _ _ ha E7;refine⟨_,rfl,rfl,_,rfl,eI (fun c=>⟨_,rfl,by show 2<=sizeLine;decide,dJ _ H1 s1 kZ (tJ.le (by lia))⟩) (fun c=>?_)⟩;refine⟨_,rfl,rfl,_,rfl,eI (fun c=>?_) (fun c=>?_)⟩
  .exact⟨_,rfl,_,rfl,_,rfl,p,n,rfl,n2,kZ,fun x H2 s2 km sw=>⟨by show 2<=sizeLine;decide,dJ _ H2 (s1.trans s2) km ((sw.ups hN).le he)⟩⟩
  unfold Fx;dsimp only;refine dI (fun σ H7=>H7=H1/\σ=[some (.ref p),some (.int (E9:Int)),some (.int (n:Int)),some (.ref r),some (.ref sa),some (.ref a),some (.int (k:Int))]) ?_ ?_
  .rintro σ H7 ⟨rfl,rfl⟩;refine⟨_,rfl,rfl,_,rfl,eI (fun c=>?_) (fun c=>?_)⟩
   .exact⟨_,rfl,_,rfl,_,rfl,sa,_,_,_,rfl,rfl,bt.of LM,am (eZ Ce),by show 2<=sizeLine;decide,dJ _ _ s1 kZ ((aam n2 fun y hy=>SD.ss y (by rw[<-hy,aS,bq Ce];exact dv _)).le (by lia))⟩
   refine⟨_,rfl,rfl,_,rfl,eI (fun c=>?_) (fun c=>?_)⟩
   .refine⟨_,rfl,_,rfl,_,rfl,_,rfl,a,_,rfl,.inr (bt.of NP),p,_,rfl,x0,by lia,kZ,fun d H2 hd s2 km=>?_⟩;refine⟨a,_,_,_,rfl,rfl,bt.of (s2 _ _ NP E7),am (bq hd),by show 2<=sizeLine;decide,dJ _ H2 (s1.trans s2) km ((yJ _ (dv hd)).keep (keepE (s1.trans s2)))⟩
   .exact⟨_,rfl,_,rfl,_,rfl,p,n,rfl,n1,by lia,kZ,fun d H2 hd s2 km=>⟨by show 2<=sizeLine;decide,dJ _ H2 (s1.trans s2) km ((iw (.inl (by lia))).le (by lia))⟩⟩
  .intro N' hN';refine⟨_,rfl,_,_,rfl,rfl,_,rfl,eI (fun c=>?_) (fun c=>cG (hN' _ _ ⟨rfl,rfl⟩))⟩;refine⟨_,rfl,_,rfl,sa,_,_,_,rfl,rfl,bt.of LM,am (eZ Ce),rfl,_,rfl,?_⟩;cases ho:st.getD k none with
   |none=>exact cG (hN' _ _ ⟨rfl,rfl⟩)
   |some h=>
    have om:some h∈st:=by rw[<-ho,aS,bq Ce];exact dv _
    have hh:h<n:=SD.ss h om;have lp:0<(bj n ts h).length:=cQ (List.count_pos_iff.mpr om) (SD.NG h hh);have lu:=oq (n:=n) (ts:=ts) (h:=h);have R1:cX H1 L r n (bj n ts):=R0.keep Lx fun b o l e=>s1 b o e fun z=>Ig (z ▸ l);obtain⟨bs,b1,b2,b3⟩:=R1;have oi:(st.map oV)[k]?=some (.int (h:Int)):=by rw[eZ Ce,ho];rfl
    have gb:=qr (bs:=bs) (h:=h) (by rw[b3.1];exact hh);have hbL:bs.getD h 0≠p:=fun z=>Ig (z ▸ b2 _ (lw (by rw[b3.1];exact hh)));refine gL rfl ⟨_,rfl,_,rfl,_,rfl,_,rfl,sa,_,_,_,rfl,rfl,bt.of LM,am oi,r,_,_,_,rfl,rfl,aV.of b1,am gb,_,rfl,_,rfl,_,rfl,_,rfl,sa,_,_,_,rfl,rfl,bt.of LM,am oi,r,_,_,_,rfl,rfl,aV.of b1,am gb,_,_,rfl,.inl (aV.of (b3.2 h hh)),p,_,rfl,by rw[aO];exact lp,by rw[aO];lia,kZ,fun d H2 hd s2 km=>?_⟩;rw[aO] at hd;refine⟨_,_,_,_,rfl,rfl,aV.of (s2 _ _ (b3.2 h hh) hbL),am (dR hd),by show 2<=sizeLine;decide,dJ _ H2 (s1.trans s2) km ((iw (.inl ?_)).le (by lia))⟩;have:=BB (ts:=ts) (h:=h) (x:=(bj n ts h).getD d 0) n1 (by rw[aS,bq hd];exact dv _);lia
end
end jT
namespace L2
open PySem PySem.Spec PyProof.Rows
theorem IP{R:V->PyData->Prop}:∀ {xs:List V} {ds:List PyData},F2 R xs ds->∀x∈xs,∃d,R x d/\d.weight<=PyData.weightAll ds
 |_,_,.cons (d:=d) (ds:=ds) h hs,x,hx=>by
  have e:PyData.weightAll (d::ds)=d.weight+1+PyData.weightAll ds:=by rw[PyData.weightAll]
  rcases bW.mp hx with rfl|hx
  .exact⟨_,h,by lia⟩
  .obtain⟨d',a,b⟩:=IP hs x hx;exact⟨d',a,by lia⟩
end L2
namespace jT
open PySem L2 fJ
abbrev yP:Stmt:=iK 51
abbrev BL:Stmt:=iK 52
def Sx(p:Addr)(H:Hp)(N m e:Nat)(x:V):Prop:=∃a xs,x=.ref a/\a≠p/\H a=some (.tup xs)/\xs.length<=m/\∀y∈xs,Sw (·≠p) H N e y
def NT'(K:PySem.W.Frag)(H:Hp)(x:V):Prop:=∃t,M_ K H x t/\PySem.W.kitOne K t (.type "tuple")=some false
def BeR(K:PySem.W.Frag)(p:Addr)(H:Hp)(N m e:Nat)(x:V):Prop:=Sx p H (N+1) (m+1) e x\/Sx p H (N+1) 1 (m*(e+1)+201) x\/(NT' K H x/\Sw (·≠p) H (N+2) (m*(e+1)+201) x)
theorem Vo{K:PySem.W.Frag}{p:Addr}{H:Hp}{v:V}(h:Sw (·≠p) H 1 201 v)(pl:Pl p H v):Sx p H 1 1 201 v\/NT' K H v:=by
 obtain⟨d,sh,w⟩:=h;rcases sh with (⟨rfl,_⟩|⟨c,rfl,_⟩|⟨i,rfl,_⟩|⟨z,rfl,_⟩|⟨a,rfl,_,l,h⟩)|⟨a,xs,ds,rfl,rfl,l,h,hs⟩|⟨a,xs,ds,rfl,_,l,h,hs,_⟩
 .exact .inr ⟨_,.of .bz,by kernel_rfl⟩
 .exact .inr ⟨_,.of (.bl _),by kernel_rfl⟩
 .exact .inr ⟨_,.of (.int _),by kernel_rfl⟩
 .exact .inr ⟨_,.of (.str _),by kernel_rfl⟩
 .exact .inr ⟨_,.of (.dK h),by kernel_rfl⟩
 .have w':PyData.weightAll ds<=201:=by unfold PyData.weight at w;exact w
  refine .inl ⟨a,xs,rfl,l,h,?_,fun y hy=>?_⟩
  .rcases pl with pl|⟨a',o,ea,_,g,hl⟩
   .exact absurd rfl (pl a)
   .cases ea;rw[h] at g;cases g;exact hl xs rfl
  .obtain⟨d,a1,a2⟩:=IP hs y hy;exact Sw.up ⟨d,a1,aY a2 w'⟩
 .exact .inr ⟨_,.of (.lst h),by kernel_rfl⟩
def Vp:Stmt->Expr
 |.If t _ _ _=>t
 |_=>.Constant .none 0 ⟨0,0,0,0⟩
def ifR:Stmt->Expr
 |.If _ [.Return (some e) _] _ _=>e
 |_=>.Constant .none 0 ⟨0,0,0,0⟩
def aan:Expr->Expr
 |.Subscript _ i _=>i
 |_=>.Constant .none 0 ⟨0,0,0,0⟩
abbrev bb(i:Nat):Stmt:=(b_ yP).getD i (.Pass ⟨0,0,0,0⟩)
theorem EI:∃es os q1 q2 q3 q4 a1 a2 a3 b1 b2 b3,b_ yP=[bb 0,bb 1,.If (Vp (bb 2)) [.Return (some (.Subscript (.List (es++[.Call (.Name "list" b1) [.Name "_law_thing" b2] [] b3,.Tuple [.Name "_law_thing" a1] a2 a3]) q1) (aan (ifR (bb 2))) q2)) q3] [] q4,bb 3,bb 4,bb 5]/\Sv es os/\(∀o∈os,XN 1 o=true)/\os.length=6:=
 ⟨[_,_,_,_,_,_],[.bz,.int 3,.str "",.EG,.IH,.EF],_,_,_,_,_,_,_,_,_,_,rfl,.cons .bz (.cons .int (.cons .str (.cons .dct (.cons .tup (.cons .lst .nil))))),by decide +kernel,rfl⟩
section
variable {P:Program} {w:World} {K:PySem.W.Frag} {mg:Str->Option Value} {base:Heap}
theorem xb:aT ["_law_pot_here","_law_way","_law_n","_law_outs_here","_law_stand_here","_law_thing","_law_at","_law_one"] ["_law_pot_here","_law_way","_law_n","_law_outs_here","_law_stand_here","_law_thing"] (av yP):=cV (by decide +kernel)
def BM(K:PySem.W.Frag):Sp:=fun vs H Q _=>∃ (p:Addr) (E9 n:Nat) (r:Addr) (ts:Ts) (L:Addr->Prop) (sa:Addr) (homes:List Nat) (st:List (Option Nat)) (a:Addr) (xs:List V) (N m e:Nat),vs=[.ref p,.int E9,.int n,.ref r,.ref sa,.ref a]/\1<=n/\n<=32/\bB H p/\cX H L r n (bj n ts)/\L r/\¬ L p/\H sa=some (.tup (st.map oV))/\mP n ts homes st/\H a=some (.tup xs)/\xs.length<=m/\m<=17/\201<=e/\(∀x∈xs,Sw (·≠p) H N e x)/\
 ∀ (x:V) (H':Hp),aB p H H'->bB H' p->BeR K p H' N m e x->Q x H'
theorem LN{f:Addr}{fd:FuncData}(F:gv K "_law_bent" "_law_bent" yP f fd)(B:Bl mg)(D:cu P w K mg base bv 1 "_law_take" ["_law_pot_here","_law_many"] fv)(OT:cu P w K mg base bv 3 "_law_other" ["_law_pot_here","_law_way","_law_n","_law_outs_here","_law_stand_here","_law_thing"] xa):bU P w K mg base bv 4 f fd ["_law_pot_here","_law_way","_law_n","_law_outs_here","_law_stand_here","_law_thing"] (BM K):=by
 refine F.ok xb (fun vs H Q E h=>?_) (fun dY A outer s H vs Q E hr h=>?_)
 .obtain⟨p,E9,n,r,ts,L,sa,homes,st,a,xs,N,m,e,rfl,_⟩:=h;rfl
 .obtain⟨p,E9,n,r,ts,L,sa,homes,st,a,xs,N,m,e,rfl,n1,n2,hp,R0,Lx,Ig,ie,SD,ha,xl,m17,he,yJ,q⟩:=h;have h1:cB 1 _:=hr.mono (by decide);obtain⟨es,os,q1,q2,q3,q4,a1,a2,a3,b1,b2,b3,eb,Jx,B_,ol⟩:=EI;rw[eb];refine⟨_,(ai (bA (PW.pt (xB (aK eN (pv 1) aq (aR _)) (rV (aK (Ly hr.u) (pv 5) (br ae) (aR _))))) (ak (aM (bu qX (pv 5) (br (aa (aG aH (cm (aa cN (aa aq (aa aq (aa mq ae))))) (az D h1 aL (aa (pv 0) (aa aq ae))) (fun _ _=>rfl)) ae))))) aQ)
   (ai (bA (aK eN (pv 1) aq (aR _)) (ai (aN (i:=6) xb.nd rfl aU (az D h1 aL (aa (pv 0) (aa (aI aF (by rfl) B.len cp (aa (pv 5) ae)) ae))))
    (ak (aM (bu qX (fE je (pv 5) gW (gX (pv 6))) (fE je (pv 5) (gX (bu dP (pv 6) aq)) gW))))) aQ)
   (ai (bA (aK eN (pv 1) aq (aR _)) (ak (aM (aG aH (cm (NN Jx (aa (cL By (by rfl) B.lst oF (aa (pv 5) ae)) (aa (br (aa (pv 5) ae)) ae)))) (az D h1 aL (aa (pv 0) (aa aq ae))) (fun _ _=>rfl)))) aQ)
   (ai (bA (aK qa (aI aF (by rfl) B.len cp (aa (pv 5) ae)) (aI aF (by rfl) B.len cp (aa (pv 4) ae)) (aR _)) (ak (aM (pv 5))) aQ)
   (ai (dW (az OT hr aL (aa (pv 0) (aa (pv 1) (aa (pv 2) (aa (pv 3) (aa (pv 4) (aa (pv 5) ae))))))) (fu (n:=2) rfl (ba (aw (i:=6) xb.nd rfl aU) (ba (aw (i:=7) xb.nd rfl aU) dE))))
   (ak (aM (bu qX (bu qX (fE je (pv 5) gW (gX (pv 6))) (br (aa (pv 7) ae))) (fE je (pv 5) (gX (bu dP (pv 6) aq)) gW))))))))),?_⟩
  have BH:=hp.neT ie;have E7:=hp.neT ha;have dJ:∀ (r':Addr) (ys:List V) (H':Hp),aB p H H'->bB H' p->H' r'=some (.tup ys)->ys.length<=m+1->(∀y∈ys,y∈xs\/Sw (·≠p) H' (N+1) e y)->Q (.ref r') H':=fun r' ys H' s' Kg h' hl hy=>
   q _ H' s' Kg (.inl ⟨r',ys,rfl,Kg.neT h',h',hl,fun y z=>(hy y z).elim (fun z=>((yJ y z).keep (keepE s')).up) id⟩)
  have more:∀H4,aA H H4->JQ (gw Nw (aX 5) (kh (bi (gw (ki K) (Tc (bi (tC .bz) (bi (tC (.int 0)) (bi (tC (.int 1)) (bi (tC (.str "w")) dQ))))) (qb fv [] E0 (bi (aX 0) (bi (tC (.int 4)) dQ)))) dQ))) { nx:=fun _ H'=>Q .bz H',rt:=Q } [some (.ref p),some (.int (E9:Int)),some (.int (n:Int)),some (.ref r),some (.ref sa),some (.ref a),none,none] H4:=fun H4 s4=>by
   have n9:=hp.same s4;refine⟨_,rfl,by show 4<=sizeLine;decide,fun C hC=>⟨_,rfl,p,4,rfl,by decide,by decide,n9.same (aj hC),fun d H5 hd s5 u6=>?_⟩⟩;have hCp:=n9.ne hC;have all:∀d,d<4->∃v,([V.bz,.int 0,.int 1,.str "w"]:List V)[d]?=some v/\∀ (H':Hp),Sw (·≠p) H' (N+1) 200 v:=fun d hd=>by
    match d,hd with
    |0,_=>exact⟨_,rfl,fun H'=>tJ⟩
    |1,_=>exact⟨_,rfl,fun H'=>iw (.inl (by decide))⟩
    |2,_=>exact⟨_,rfl,fun H'=>iw (.inl (by decide))⟩
    |3,_=>exact⟨_,rfl,fun H'=>Ii (.inl rfl)⟩
   obtain⟨v,hv,shv⟩:=all d hd;refine⟨C,_,_,v,rfl,rfl,aV.of (s5 _ _ af hCp),am hv,by show 1<=sizeLine;decide,fun t2 yF=>?_⟩;have s6:=aj (o:=.tup [v]) yF;have JE:aB p H _:=(((aB.of s4).trans (aB.of (aj hC))).trans s5).trans (aB.of s6);refine⟨a,t2,_,[v],rfl,rfl,JE _ _ ha E7,af,aY (show _<=18 from Nat.add_le_add_right (aY xl m17) 1) (by decide),fun r' H6 s7 h6=>?_⟩;refine dJ r' _ H6 (JE.trans (aB.of s7)) ((u6.same s6).same s7) h6 (by rw[cn];exact Nat.add_le_add_right xl 1) fun x hx=>?_;rcases bY.mp hx with z|z
   .exact .inl z
   .rw[cC.mp z];exact .inr ((shv H6).le (by lia))
  refine⟨_,rfl,rfl,_,rfl,eI (fun c1=>fU (more _ (aA.refl _))) (fun c1=>?_)⟩;refine⟨_,rfl,by show 0<=sizeLine;decide,fun t0 ht0=>?_⟩;have s0:=aj (o:=.tup []) ht0;refine⟨a,t0,_,rfl,rfl,bt.of (s0 _ _ ha),bt.of af,_,rfl,eI (fun c2=>more _ s0) (fun c2=>?_)⟩;have x0:0<xs.length:=by
   rcases xs with _|⟨x,xs⟩
   .exact absurd rfl c2
   .simp
  have Ph:=hp.same s0;generalize upd H t0 _=H0 at *;have XO:=s0 _ _ ha;have Vq:=s0 _ _ ie;unfold Fx;refine⟨_,rfl,rfl,_,rfl,eI (fun c3=>?_) (fun c3=>?_)⟩
  .refine⟨_,rfl,_,rfl,a,_,rfl,.inr (bt.of XO),p,_,rfl,x0,by lia,Ph,fun k H1 hk s1 kZ=>?_⟩;have NQ:=(aB.of s0).trans s1;have NP:=NQ _ _ ha E7;have ea:(k:Int)+1=((k+1:Nat):Int):=by lia
   refine⟨_,rfl,_,rfl,_,rfl,a,_,rfl,NP,fun r1 H6 s6 h6=>?_⟩;refine⟨_,rfl,_,rfl,_,_,rfl,rfl,_,rfl,a,_,rfl,s6 _ _ NP,fun r2 H7 s7 h7=>⟨r1,r2,_,_,rfl,rfl,s7 _ _ h6,h7,?_,fun r3 H8 s8 h8=>?_⟩⟩
   .rw[ln,ea,oa,l9];have:=m_ k xs;exact aY (show _<=40 by lia) (by decide)
   .rw[ln,ea,oa] at h8;refine dJ r3 _ H8 (NQ.trans (aB.of ((s6.trans s7).trans s8))) (((kZ.same s6).same s7).same s8) h8 ?_ fun x hx=>.inl ?_
    .rw[cn,g_,l9];lia
    .exact(bY.mp hx).elim j3 oJ
  refine⟨_,rfl,rfl,_,rfl,eI (fun c4=>?_) (fun c4=>?_)⟩
  .refine II (p:=p) (n:=1) B_ Ph.full fun vs H1 s1 vl hv=>?_;have NQ:=s0.trans s1;have kZ:=Ph.same s1;refine⟨_,rfl,a,xs,rfl,NQ _ _ ha,fun l hl ns=>⟨_,rfl,by show 1<=sizeLine;decide,fun t ht=>?_⟩⟩;have s2:=aj (o:=.lst xs) hl;have km:=kZ.same s2;have s3:=aj (o:=.tup [.ref a]) ht;have nl:=kZ.ne hl;have nt:=km.ne ht;have gl:=s3 _ _ (af (H:=H1) (a:=l) (o:=.lst xs));have gt:=af (H:=upd H1 l (.lst xs)) (a:=t) (o:=.tup [.ref a]);have sH3:=(NQ.trans s2).trans s3;have E_:=s2.trans s3;have oC:=km.same s3;generalize upd (upd H1 l _) t _=H3 at *;refine⟨by rw[cn,vl,ol];show 8<=sizeLine;decide,fun Ls hLs=>?_⟩;have wl:(vs++[V.ref l,.ref t]).length=8:=by rw[cn,vl,ol];rfl
   have s4:=aj (o:=.lst (vs++[V.ref l,.ref t])) hLs;have nLs:=oC.ne hLs;refine⟨_,rfl,p,8,rfl,by decide,by decide,oC.same s4,fun d H5 hd s5 u6=>?_⟩;rw[<-wl] at hd;have JE:=(aB.of (sH3.trans s4)).trans s5;have k3:∀b o,b≠p->H3 b=some o->H5 b=some o:=fun b o n e=>s5 _ _ (s4 _ _ e) n;refine⟨Ls,_,_,(vs++[V.ref l,.ref t])[d],rfl,rfl,aV.of (s5 _ _ af nLs),am (bq hd),q _ H5 JE u6 ?_⟩;have hm:=dv hd;generalize (vs++[V.ref l,.ref t])[d]=v at *;have wx:xs.length*(e+1)<=m*(e+1):=Nat.mul_le_mul_right _ xl;have hx5:∀x∈xs,Sw (·≠p) H5 N e x:=fun x hx=>(yJ x hx).keep (keepE JE);rcases bY.mp hm with z|z
   .obtain⟨sw,pl⟩:=hv v z;have sw5:Sw (·≠p) H5 1 201 v:=sw.keep fun b o n e _=>k3 b o n (E_ _ _ e);rcases Vo (K:=K) sw5 (pl.keep fun b o n e=>k3 b o n (E_ _ _ e)) with ⟨b,ys,rfl,nb,hb,hl',hy⟩|nt'
    .exact .inl ⟨b,ys,rfl,nb,hb,by lia,fun y JI=>((hy y JI).ups (by lia)).le he⟩
    .exact .inr (.inr ⟨nt',(sw5.ups (by lia)).le (by lia)⟩)
   .rcases bW.mp z with rfl|z
    .have g5:=k3 _ _ nl gl;exact .inr (.inr ⟨⟨_,.of (.lst g5),by kernel_rfl⟩,((Ih (L:=(·≠p)) nl ns g5 hx5).up).le (by lia)⟩)
    .rw[cC.mp z];have g5:=k3 _ _ nt gt;refine .inr (.inl ⟨t,_,rfl,nt,g5,aW 1,fun y hy=>?_⟩);rw[cC.mp hy];exact(wV (L:=(·≠p)) E7 (JE _ _ ha E7) hx5).le (by lia)
  refine⟨_,rfl,a,_,rfl,.inr (bt.of XO),_,rfl,sa,_,rfl,.inr (bt.of Vq),rfl,_,rfl,eI (fun c5=>?_) (fun c5=>?_)⟩
  .exact⟨_,rfl,dJ a xs H0 (aB.of s0) Ph XO (by lia) fun y hy=>.inl hy⟩
  have xe:xs.length=st.length:=by
   rw[aP] at c5;simp at c5;lia
  have R1:cX H0 L r n (bj n ts):=R0.keep Lx fun b o l e=>s0 b o e;refine⟨_,rfl,_,rfl,_,rfl,_,rfl,_,rfl,_,rfl,p,E9,n,r,ts,L,sa,homes,st,a,xs,N+1,e,rfl,n1,n2,Ph,R1,Lx,Ig,Vq,SD,XO,x0,xe,by lia,he,fun x hx=>((yJ x hx).keep (jV.of s0)).up,fun t k x H1 s1 kZ ht hk sw=>?_⟩;have NQ:=(aB.of s0).trans s1;have NP:=NQ _ _ ha E7;refine⟨t,_,rfl,bt.of ht,rfl,_,_,rfl,_,_,rfl,rfl,?_⟩;have ea:(k:Int)+1=((k+1:Nat):Int):=by lia
  refine⟨_,rfl,_,rfl,_,rfl,a,_,rfl,NP,fun r1 H2 s2 g1=>?_⟩;rw[ln] at g1;refine⟨_,rfl,by show 1<=sizeLine;decide,fun t' ht'=>?_⟩;have s3:=aj (o:=.tup [x]) ht';refine⟨r1,t',_,[x],rfl,rfl,s3 _ _ g1,af,?_,fun r2 H4 s4 g2=>?_⟩
  .have:=m_ k xs;rw[kq];exact aY (show _<=40 by lia) (by decide)
  have Qx:=(s2.trans s3).trans s4;refine⟨_,rfl,_,rfl,_,_,rfl,rfl,_,rfl,a,_,rfl,Qx _ _ NP,fun r3 H5 s5 g3=>⟨r2,r3,_,_,rfl,rfl,s5 _ _ g2,g3,?_,fun r4 H6 s6 g4=>?_⟩⟩
  .rw[ea,oa,cn,l9,kq];have:=m_ k xs;exact aY (show _<=60 by lia) (by decide)
  .rw[ea,oa] at g4;have s26:=(Qx.trans s5).trans s6;refine dJ r4 _ H6 (NQ.trans (aB.of s26)) (kZ.same s26) g4 ?_ fun y hy=>?_
   .rw[cn,cn,g_,l9,kq];lia
   .rcases bY.mp hy with z|z
    .rcases bY.mp z with z|z
     .exact .inl (j3 z)
     .rw[cC.mp z];exact .inr (sw.keep (jV.of s26))
    .exact .inl (oJ z)
theorem xc:aT ["_law_pot_here","_law_ways","_law_n","_law_outs_here","_law_stand_here","_law_thing","_law_way"] ["_law_pot_here","_law_ways","_law_n","_law_outs_here","_law_stand_here","_law_thing"] (av BL):=cV (by decide +kernel)
def Bn:Nat->Nat
 |0=>3232
 |i+1=>2*Bn i+202
def Tg(K:PySem.W.Frag)(p:Addr)(H:Hp)(i:Nat)(x:V):Prop:=(∃m e,Sx p H i m e x/\201<=e/\e<=Bn i/\m<=16+i/\m*(e+1)<=Bn i)\/(NT' K H x/\Sw (·≠p) H (i+1) (Bn i) x)
theorem Tg.next{p:Addr}{H:Hp}{i:Nat}{x:V}(h:Tg K p H i x):Tg K p H (i+1) x:=by
 have b:Bn (i+1)=2*Bn i+202:=rfl;rcases h with ⟨m,e,⟨a,xs,e1,e2,e3,e4,e5⟩,h1,h2,h3,h4⟩|⟨h1,h2⟩
 .exact .inl ⟨m,e,⟨a,xs,e1,e2,e3,e4,fun y hy=>(e5 y hy).up⟩,h1,by lia,by lia,by lia⟩
 .exact .inr ⟨h1,h2.up.le (by lia)⟩
theorem Tg.aao{p:Addr}{H:Hp}{i m e:Nat}{x:V}(h:BeR K p H i m e x)(h1:201<=e)(h2:e<=Bn i)(h3:m<=16+i)(h4:m*(e+1)<=Bn i):Tg K p H (i+1) x:=by
 have b:Bn (i+1)=2*Bn i+202:=rfl;rcases h with h|h|⟨h,h'⟩
 .exact .inl ⟨m+1,e,h,h1,by lia,by lia,by rw[vK];lia⟩
 .exact .inl ⟨1,_,h,by lia,by lia,by lia,by lia⟩
 .exact .inr ⟨h,h'.le (by lia)⟩
def xf:Sp:=fun vs H Q _=>∃ (p wa:Addr) (ws:List Nat) (n:Nat) (r:Addr) (ts:Ts) (L:Addr->Prop) (sa:Addr) (homes:List Nat) (st:List (Option Nat)) (x0:V),vs=[.ref p,.ref wa,.int n,.ref r,.ref sa,x0]/\H wa=some (.lst (NV ws))/\wa≠p/\ws.length=2/\1<=n/\n<=32/\bB H p/\cX H L r n (bj n ts)/\L r/\¬ L p/\H sa=some (.tup (st.map oV))/\mP n ts homes st/\Sx p H 0 16 201 x0/\
 ∀ (x:V) (H':Hp),aB p H H'->bB H' p->Sw (·≠p) H' 3 20000 x->Q x H'
theorem IQ{f:Addr}{fd:FuncData}(F:gv K "_law_twice_bent" "_law_twice_bent" BL f fd)(B:Bl mg)(BE:cu P w K mg base bv 4 "_law_bent" ["_law_pot_here","_law_way","_law_n","_law_outs_here","_law_stand_here","_law_thing"] (BM K)):bU P w K mg base bv 5 f fd ["_law_pot_here","_law_ways","_law_n","_law_outs_here","_law_stand_here","_law_thing"] xf:=by
 refine F.ok xc (fun vs H Q E h=>?_) (fun dY A outer s H vs Q E hr h=>?_)
 .obtain⟨p,wa,ws,n,r,ts,L,sa,homes,st,x0,rfl,_⟩:=h;rfl
 .obtain⟨p,wa,ws,n,r,ts,L,sa,homes,st,x0,rfl,hwa,nwa,wl,n1,n2,hp,R0,Lx,Ig,ie,SD,T0,q⟩:=h;refine⟨_,(ai (cP dO rfl (bP (pv 1)) (aw (i:=6) xc.nd rfl aU)
    (ak (bA (PW.pt (io (aK iV (pv 6) aq (aR _)) (gU (dq (aI hZ (by rfl) B.Nq pZ (aa (pv 5) (aa (i9 (v:=.ty "tuple") rfl B.tup m9 rfl) ae))))))) (ak (aN (i:=5) xc.nd rfl aU (az BE hr aL (aa (pv 0) (aa (pv 6) (aa (pv 2) (aa (pv 3) (aa (pv 4) (aa (pv 5) ae))))))))) aQ)))
   (ak (aM (pv 5)))),?_⟩
  have BH:=hp.neT ie;refine⟨_,rfl,wa,rfl,⟨_,aV.of hwa⟩,hW (K:=K) (xs:=NV ws) (fun i σ Hc=>∃x,(∃u,σ=[some (.ref p),some (.ref wa),some (.int (n:Int)),some (.ref r),some (.ref sa),some x,u])/\aB p H Hc/\bB Hc p/\Tg K p Hc i x) ⟨x0,⟨_,rfl⟩,aB.refl,hp,.inl ⟨16,201,T0,by decide,by decide,by decide,by decide⟩⟩ (fun i σ Hc _ z=>by obtain⟨_,_,z,_⟩:=z;exact aV.of (z _ _ hwa nwa)) ?_ ?_⟩
  .rintro i wv σ Hc hw ⟨x,⟨u,rfl⟩,sc,jB,tg⟩;obtain⟨E9,Zr,rfl⟩:=n6 hw;have hi:i<2:=by rw[<-wl];exact(cY.mp Zr).1
   refine⟨_,rfl,_,_,rfl,rfl,_,rfl,eI (fun c=>?_) (fun c=>cG ⟨x,⟨_,rfl⟩,sc,jB,tg.next⟩)⟩;rcases id tg with ⟨m,e,⟨a,xs,rfl,na,ha,xl,yJ⟩,h1,h2,h3,h4⟩|⟨⟨t,ty,kt⟩,_⟩
   .refine⟨_,rfl,_,_,_,.type "tuple",true,rfl,⟨rfl,wD⟩,.of (.tup ha),_,rfl,fU ?_⟩;have R1:cX Hc L r n (bj n ts):=R0.keep Lx fun b o l e=>sc b o e fun z=>Ig (z ▸ l);exact⟨_,rfl,_,rfl,_,rfl,_,rfl,_,rfl,_,rfl,p,E9,n,r,ts,L,sa,homes,st,a,xs,i,m,e,rfl,n1,n2,jB,R1,Lx,Ig,sc _ _ ie BH,SD,ha,xl,by lia,h1,yJ,fun y H2 s2 km be=>⟨y,⟨_,rfl⟩,sc.trans s2,km,Tg.aao be h1 h2 h3 h4⟩⟩
   .exact⟨_,rfl,_,_,_,t,false,rfl,⟨rfl,kt⟩,ty,_,rfl,cG ⟨x,⟨_,rfl⟩,sc,jB,tg.next⟩⟩
  .rintro σ Hc ⟨x,⟨u,rfl⟩,sc,jB,tg⟩;rw[aO,wl] at tg;have b2:Bn 2<=20000:=by decide
   refine⟨_,rfl,q x Hc sc jB ?_⟩;rcases tg with ⟨m,e,⟨a,xs,rfl,na,ha,xl,yJ⟩,h1,h2,h3,h4⟩|⟨_,sw⟩
   .exact(wV (L:=(·≠p)) na ha yJ).le (aY (Nat.mul_le_mul_right _ xl) (by lia))
   .exact sw.le b2
end
end jT
namespace L2
open PySem PySem.Spec PyProof.Rows
def Da:V->List V->Hp->VK->Prop:=fun x vs H Q=>∃ (l:Addr) (xs:List V) (y:V),x=.ref l/\vs=[y]/\H l=some (.tup xs)/\cT y=true/\xs.all cT=true/\Q (.int (xs.countP fun z=>iH z y)) H
theorem EJ{X:Cx}:RP X "tuple.count" Da:=by
 intro ag s σ H x vs v us Q I rx rv h;obtain⟨l,xs,y,rfl,rfl,hH,fy,fs,q⟩:=h;cases rx;obtain⟨u,rfl,ru⟩:=rv.one;obtain⟨its,r,⟨o,e,hc,n,d⟩,_⟩:=I.tuple (bt.of hH);obtain⟨oc,od,odt,uB⟩:=o;obtain rfl:oc=.type "tuple":=hc;obtain rfl:odt=.seq its.toArray n:=d;refine jK F.slot_tuple_count ⟨_,e,rfl⟩ F.entry_tuple_count (F.args_tuple_count_2 _ _) (SeqAt.tuple_countAt l its.toArray n od uB u (uC y)) ⟨e,fun w hw=>iW ru fy r fs w (by simpa using hw),?_⟩;refine⟨.int _,H,I.tok _,⟨s.toks,?_⟩,q⟩;rw[show its.toArray.toList=its by simp,mz r fs]
def Vr(r:V->List V->Hp->VK->Prop)(to:TE)(t:TA):TE:=fun σ H Q=>to σ H fun x H1=>(∃p xs,x=.ref p/\H1 p=some (.tup xs))/\t σ H1 fun xs H2=>r x xs H2 Q
theorem Qy{X:Cx}{o e:Expr}{es:List Expr}{to:TE}{t:TA}{name:Str}{mw jw:Pos}{id:String}{r:V->List V->Hp->VK->Prop}(pa:PlainAttrs "tuple")(slot:Slot "tuple" name id)(Yz:typeOf (.builtin id)=pure (.type "method_descriptor"))(hm:MtR X id r)(ho:PE X o to)(ha:PA X (e::es) t)(FZ:attributeBase o name X.env (eval o X.env)=eval o X.env:=by rfl)(OJ:((backTo jw (starEach (e::es) X.env)).all (fun x=>!x.1)&&(backToKw jw (keywordEach [] X.env)).all (fun x=>x.1.isSome)
   && decide ((e::es).length+([]:List Keyword).length+(if ([]:List Keyword).isEmpty then 0 else 1)<30))=true:=by rfl)(F0:(mw.endLine==jw.line)=true:=by rfl)(hs:starEach (e::es) X.env=(false,eval e X.env)::starEach es X.env:=by rfl)(sf:(backTo jw (starEach es X.env)).any (·.1)=false:=by rfl):
  PE X (.Call (.Attribute o name mw) (e::es) [] jw) (Vr r to t):=by
 intro ag s σ H Q I h;refine wpAny_Call_method_late FZ OJ F0 rfl (dk (ho ag s σ H _ I h) fun v s1 ⟨x,H1,I1,r1,ty,q1⟩=>?_);obtain⟨p,xs,rfl,hp⟩:=ty;cases r1;obtain⟨_,_,_,ob,e1,e2,_,_,e3⟩:=(show cF X.prog X.w H1 s1.heap p (.tup xs) from I1.cI p _ hp)
 refine⟨"tuple",id,pa,slot,Yz,⟨ob,e1,e2⟩,fun a z=>by cases z;exact⟨ob,e1,e3⟩,?_⟩;have hA:=ha jw ag s1 σ H1 _ I1 q1;rw[hs] at hA |-;refine Calls.callWith_builtin (by show (false||(backTo jw (starEach es X.env)).any (·.1))=false;rw[sf] <;> rfl) (zS ?_);exact dk hA fun us s2 ⟨vs,H2,I2,r2,q2⟩=>hm ag s2 σ H2 (.ref p) vs (.ref p) us Q I2 rfl r2 q2
theorem LO{K:PySem.W.Frag}{a b:Addr}{xs ys:List V}{g:TG}{tb:TS}{D:xA}{σ:St}{H:Hp}(KD:xs.length=ys.length)(Pv:Nat->St->Hp->Prop)(h0:Pv 0 σ H)(hl:∀i σ H,i<=xs.length->Pv i σ H->bt K H a xs/\bt K H b ys)(hs:∀i x y p σ H,xs[i]?=some x->ys[i]?=some y->Pv i σ H->H p=none->g (.ref p) σ (upd H p (.tup [x,y])) fun σ2 H2=>tb { D with nx:=Pv (i+1),ct:=Pv (i+1),bk:=D.nx } σ2 H2)(hd:∀σ H,Pv xs.length σ H->D.nx σ H):
  ∃W:Nat->Nat->St->Hp->Prop,(∃m,W 0 m σ H)/\∀i m σ H,W i m σ H->
   ((R5 K a b).stop i H/\D.nx σ H)\/((R5 K a b).go i H/\∃N:St->Hp->Prop,(∀σ' H',N σ' H'->∃m',m'<m/\W (i+1) m' σ' H')/\∀x H',(R5 K a b).Ot i H x H'->g x σ H' fun σ2 H2=>tb { D with nx:=N,ct:=N,bk:=D.nx } σ2 H2):=by
 refine⟨fun i m σ H=>m=xs.length-i/\i<=xs.length/\Pv i σ H,⟨xs.length,by simp,de _,h0⟩,?_⟩;rintro i m σ H ⟨rfl,hi,p⟩;obtain⟨q1,q2⟩:=hl i σ H hi p;by_cases fz:i<xs.length
 .have GT:i<ys.length:=by lia
  refine .inr ⟨⟨xs,ys,xs[i],ys[i],q1,q2,by simp[fz],by simp[GT]⟩,Pv (i+1),fun σ' H' p'=>⟨xs.length-(i+1),by lia,rfl,fz,p'⟩,?_⟩;rintro v H' ⟨pp,x,y,rfl,hn,rfl,Kl,Uq⟩;exact hs i x y pp σ _ (Kl xs q1) (Uq ys q2) p hn
 .have e:i=xs.length:=by lia
  subst e;exact .inl ⟨⟨xs,q1,aW _⟩,hd σ H p⟩
end L2
namespace jT
open PySem L2 fJ
abbrev tP:Stmt:=iK 28
theorem mS:(["house","thing","net"]:List Str).Nodup:=by decide +kernel
theorem NR(n:Int)(tl ol ds:Addr):(nX n tl ol ds).lookup ("many":Str)=none:=nY n tl ol ds (by decide +kernel) (by decide +kernel) (by decide +kernel) (by decide +kernel)
def JJ(n home:Nat):iN->Bool
 |none=>true
 |some o=>eX o 0 ((n:Int)-1)&&!decide (o=some (home:Int))
def xg(es:List iN)(h:Nat):Nat:=es.countP fun e=>decide (e=some (some (h:Int)))
def F_(n:Nat)(ts:Ts)(homes:List Nat)(es:List iN):Bool:=
 decide (es.length=homes.length)&&((List.range homes.length).all (fun i=>JJ n (homes.getD i 0) (es.getD i none))&&(List.range n).all fun h=>decide (xg es h<=(bj n ts h).length))
def tQ(n:Nat)(ts:Ts)(homes:List Nat):Option (List iN)->Bool
 |none=>false
 |some es=>F_ n ts homes es
theorem Qz{n:Nat}{ts:Ts}{homes:List Nat}{es:List iN}{i:Nat}(hi:i<homes.length)(h:JJ n (homes.getD i 0) (es.getD i none)=false):F_ n ts homes es=false:=by
 unfold F_;have:(List.range homes.length).all (fun i=>JJ n (homes.getD i 0) (es.getD i none))=false:=by
  rw[rC];intro z;have:=hG.mp z i (bH.mpr hi);rw[h] at this;cases this
 rw[this];simp
theorem Db{n:Nat}{ts:Ts}{homes:List Nat}{es:List iN}(hl:es.length=homes.length)(h:∀i,i<homes.length->JJ n (homes.getD i 0) (es.getD i none)=true):F_ n ts homes es=(List.range n).all fun h=>decide (xg es h<=(bj n ts h).length):=by
 unfold F_;rw[cx hl,hG.mpr fun i hi=>h i (bH.mp hi)];rfl
theorem LP{K:PySem.W.Frag}{H:Hp}{n home:Nat}{x:V}{e:iN}(h:En K H x e)(k:JJ n home e=true):cT x=true/\∀m:Nat,iH x (.int (m:Int))=decide (e=some (some (m:Int))):=by
 cases h with
 |bz=>exact⟨rfl,fun m=>by simp[iH]⟩
 |@th _ o hn w=>
  cases w with
  |int i=>exact⟨rfl,fun m=>by rw[hV];simp[iH]⟩
  |no _=>cases k
theorem IR{K:PySem.W.Frag}{H:Hp}{n:Nat}(hf:Nat->Nat):∀ {xs:List V} {es:List iN},EB K H xs es->(∀i,i<es.length->JJ n (hf i) (es.getD i none)=true)->xs.all cT=true/\∀m:Nat,(xs.countP fun z=>iH z (.int (m:Int)))=xg es m:=by
 intro xs;induction xs generalizing hf with
 |nil=>
  intro es h k;obtain⟨hl,he⟩:=h;obtain rfl:es=[]:=List.length_eq_zero_iff.mp hl.symm;exact⟨rfl,fun m=>rfl⟩
 |cons x xs ih=>
  intro es h k;obtain⟨hl,he⟩:=h;cases es with
  |nil=>cases hl
  |cons e es=>
   obtain⟨f1,f2⟩:=LP (he 0 (rL _)) (k 0 (rL _));obtain⟨g1,g2⟩:=ih (fun i=>hf (i+1)) ⟨o3 hl,fun i hi=>he (i+1) (Nat.succ_lt_succ hi)⟩ fun i hi=>k (i+1) (Nat.succ_lt_succ hi);refine⟨by rw[jI];exact oK.mpr ⟨f1,g1⟩,fun m=>?_⟩;unfold xg at g2 |-;rw[kK,kK,g2 m];have:=f2 m;have f2':iH x (.int (m:Int))=decide (e=some (some (m:Int))):=this;rw[f2']
section
variable {P:Program} {w:World} {K:PySem.W.Frag} {mg:Str->Option Value} {base:Heap}
theorem pW:aT ["net","homes","thing","home","house"] ["net","homes","thing"] (av tP):=cV (by decide +kernel)
def lL(K:PySem.W.Frag)(C:Addr):Sp:=fun vs H Q _=>∃ (L:Addr->Prop) (p:Addr) (n:Nat) (ts:Ts) (ha:Addr) (homes:List Nat) (x:V) (o:Option (List iN)),vs=[.ref p,.ref ha,x]/\dw C H L p n ts/\H ha=some (.tup (NV homes))/\homes.length<=16/\(∀H',aA H H'->Th K H' x o)/\∀H',aA H H'->Q (.bl (tQ n ts homes o)) H'
theorem BN{f C:Addr}{fd:FuncData}(F:gv K "is_stand" "is_stand" tP f fd)(B:Bl mg)(B2:Se mg)(T:NT K mg C)(RW:cu P w K mg base bv 1 "is_row" ["thing","length"] (yq K))(HO:cu P w K mg base bv 3 "is_house" ["many","thing"] (nR K))(MM:nZ P w K mg base bv 1 C "many" ["self"] (Bi C))(MO:nZ P w K mg base bv 5 C "out" ["self","house"] (s_ C)):bU P w K mg base bv 6 f fd ["net","homes","thing"] (lL K C):=by
 obtain⟨fM,Zw,mM,bM,GM⟩:=MM.ex;obtain⟨fO,fdO,mO,bO,GO⟩:=MO.ex;refine F.ok pW (fun vs H Q E h=>?_) (fun dY A outer s H vs Q E hr h=>?_)
 .obtain⟨L,p,n,ts,ha,homes,x,o,rfl,_⟩:=h;rfl
 .obtain⟨L,p,n,ts,ha,homes,x,o,rfl,N,j9,hl,hx,q⟩:=h;have h1:cB 1 _:=hr.mono (by decide);have h3:cB 3 _:=hr.mono (by decide);refine'⟨_,(ai (bA (fT (dq (az RW h1 aL (aa (pv 2) (aa (aI aF (by rfl) B.len cp (aa (pv 1) ae)) ae))))) (ak (aM gI)) aQ)
   (ai (cP dO rfl (CD rfl B2.zip (aa (pv 1) (aa (pv 2) ae))) (fu (n:=2) rfl (ba (aw (i:=3) pW.nd rfl aU) (ba (aw (i:=4) pW.nd rfl aU) dE)))
    (ak (bA (PW.pt (io (aK i_ (pv 4) cN (aR _)) (gU (fT (PW.pt (io (dq (az HO h3 aL (aa (xI (pv 0) T.cl mM GM h1 bM .nil aL) (aa (pv 4) ae)))) (gU (aK qa (pv 4) (pv 3) (aR _))))))))) (ak (aM gI)) aQ)))
   (ak (aM (aI (uR rfl) (by rfl) B.all PyProof.Rows.boot_all (aa ?c1 ae)))))),?_⟩
  case c1=>
   refine' bV (g:=(bK 0)) (te:=(gw (tW fun i j=>.bl (decide (i<=j))) (Vr Da (aX 1) (bi (aX 0) dQ)) (J2 (fun xs H Q=>∃p ys,xs=[V.ref p]/\(aV K H p ys\/bt K H p ys)/\Q (.int ys.length) H) (bi (FO C "out" (s_ C) [] E0 (aX 2) (bi (aX 0) dQ)) dQ)))) (NB:=["house","thing","net"]) (src:=[none,some 2,some 0]) (bJ (by kernel_rfl)) rfl (bC rfl B.range (aa (xI (pv 0) T.cl mM GM h1 bM .nil aL) ae)) ?g ?t ?e;case g=>exact fun cl C s₃ H₃ fp=>(aw (i:=0) mS rfl aU bL)
   case t=>exact fun cl C s₃ H₃ fp=>ce
   case e=>exact fun cl C s₃ H₃ fp=>(gh B4 (Qy PySem.F.plainAttrs_tuple PySem.F.slot_tuple_count PySem.F.type_tuple_count EJ (pv 1) (aa (pv 0) ae)) (aI aF (by rfl) B.len cp (aa (iG (pv 2) T.cl mO GO hr bO .nil aL (aa (pv 0) ae)) ae)) (aR _))
  have n2:=N.lN.n2;obtain⟨o',Rx,eR⟩:=(hx H (aA.refl _)).row;refine⟨_,rfl,_,rfl,ha,_,rfl,.inr (bt.of j9),x,o',_,rfl,Rx,_,rfl,?_⟩;rw[eR,aO];have TF:=hx H (aA.refl _);cases TF with
  |no ty h=>exact fU (q H (aA.refl _))
  |@tup a xs es yJ en=>
  obtain⟨el,_⟩:=id en;by_cases dz:es.length=homes.length
  rotate_left
  .refine gL (by simp;lia) ?_;have e:tQ n ts homes (some es)=false:=by show F_ n ts homes es=false;unfold F_;rw[di dz];rfl
   have:=q H (aA.refl _);rw[e] at this;exact this
  refine f9 (by simp;lia) ?_;have XD:∀H',aA H H'->EB K H' xs es:=fun H' s=>by
   have:=hx H' s;cases this with
   |@tup _ xs' _ h' e'=>
    have:=s _ _ yJ;rw[this] at h';cases h';exact e'
  refine⟨_,rfl,_,rfl,ha,a,_,_,rfl,bt.of j9,bt.of yJ,by rw[aO];lia,?_⟩;refine LO (K:=K) (xs:=NV homes) (ys:=xs) (by rw[aO];lia) (fun i σ Hc=>(∃u v,σ=[some (.ref p),some (.ref ha),some (.ref a),u,v])/\aA H Hc/\∀j,j<i->JJ n (homes.getD j 0) (es.getD j none)=true) ⟨⟨_,_,rfl⟩,aA.refl _,fun j hj=>absurd hj (kA _)⟩ (fun i σ Hc _ z=>⟨bt.of (z.2.1 _ _ j9),bt.of (z.2.1 _ _ yJ)⟩) ?_ ?_
  .rintro i hv y pp σ Hc hx1 hy ⟨⟨u,v,rfl⟩,sc,ok⟩ hpp;obtain⟨home,hh,rfl⟩:=n6 hx1;have hi:i<homes.length:=(cY.mp hh).1;have eh:homes.getD i 0=home:=by rw[aS,hh];rfl
   have ey:xs.getD i .bz=y:=by rw[aS,hy];rfl
   have sp:=aj (o:=.tup [.int (home:Int),y]) hpp;have e1:=(XD _ (sc.trans sp)).2 i (by lia);rw[ey] at e1;have N2:=N.same (sc.trans sp);refine⟨pp,_,rfl,bt.of af,rfl,_,_,rfl,_,_,rfl,rfl,?_⟩;have kok:∀H',aA H H'->JJ n home (es.getD i none)=true->((∃u v,[some (V.ref p),some (.ref ha),some (.ref a),some (.int (home:Int)),some y]=[some (.ref p),some (.ref ha),some (.ref a),u,v])/\aA H H'/\∀j,j<i+1->JJ n (homes.getD j 0) (es.getD j none)=true):=fun H' s k=>⟨⟨_,_,rfl⟩,s,fun j hj=>by
    by_cases c:j<i
    .exact ok j c
    .obtain rfl:j=i:=by lia
     rw[eh];exact k⟩
   have kno:∀H',aA H H'->JJ n home (es.getD i none)=false->Q (.bl false) H':=fun H' s k=>by
    have:=q H' s;rw[show tQ n ts homes (some es)=false from Qz hi (by rw[eh];exact k)] at this;exact this
   generalize es.getD i none=e at *;generalize upd Hc pp _=H2 at *;have s2:=sc.trans sp;cases e1 with
   |bz=>exact⟨_,rfl,rfl,_,rfl,cG (cG (kok _ s2 rfl))⟩
   |@th _ oo uI W=>
    refine⟨_,rfl,rfl,_,rfl,?_⟩;refine gL (by simp[uI]) ?_;obtain⟨dx,tl,ol,ds,hN,_⟩:=N2.ob;refine⟨_,rfl,p,dx,_,rfl,hN,NR _ _ _ _,L,p,n,ts,rfl,N2,_,rfl,y,oo,(n:Int),rfl,W,_,rfl,?_⟩;by_cases cw:eX oo 0 ((n:Int)-1)=true
    .rw[cw];cases W with
     |no h=>cases cw
     |int z=>
      refine fU ⟨_,rfl,_,rfl,rfl,_,rfl,?_⟩;by_cases cz:z=(home:Int)
      .subst cz;refine gL (by simp) (kno _ s2 ?_);show (eX (some (home:Int)) 0 ((n:Int)-1)&&!decide (some (home:Int)=some (home:Int)))=false;simp
      .refine f9 (by simp[cz]) (kok _ s2 ?_);show (eX (some z) 0 ((n:Int)-1)&&!decide (some z=some (home:Int)))=true;rw[cw];simp[cz]
    .have cw':=rC.mpr cw;rw[cw'];refine cG (fU (kno _ s2 ?_));show (eX oo 0 ((n:Int)-1)&&!decide (oo=some (home:Int)))=false;rw[cw'];rfl
  .rintro σ Hc ⟨⟨u,v,rfl⟩,sc,ok⟩;rw[aO] at ok;have Nc:=N.same sc;obtain⟨dx,tl,ol,ds,hN,_⟩:=Nc.ob;obtain⟨fl,ct⟩:=IR (n:=n) (fun i=>homes.getD i 0) (XD Hc sc) fun i hi=>ok i (by lia);refine⟨_,rfl,p,dx,_,rfl,hN,NR _ _ _ _,L,p,n,ts,rfl,Nc,(n:Int),rfl,by lia,by lia,fun D1 mW=>?_⟩;rw[i8];refine C4 (lo:=0) (n:=n) (fun h=>V.bl (decide (xg es h<=(bj n ts h).length))) (fun σ=>∃u,σ=[u,some (.ref a),some (.ref p)]) mW (by lia) ⟨_,rfl⟩ ?_ ?_
   .rintro h σ H3 R Kf hh ⟨u',rfl⟩ sm kt;rw[eK];have N3:=N.same (sc.trans sm);obtain⟨dx,tl,ol,ds,hN,_⟩:=N3.ob;have ha3:=(sc.trans sm) _ _ yJ;refine⟨_,rfl,⟨a,xs,rfl,ha3⟩,_,rfl,a,xs,_,rfl,rfl,ha3,rfl,fl,?_⟩;rw[ct h];refine⟨_,rfl,p,dx,_,rfl,hN,Ve _ _ _ _,_,rfl,L,p,n,ts,h,rfl,N3,hh,fun r H4 s4 K8 wR=>⟨r,_,rfl,.inl (aV.of wR),_,_,rfl,rfl,?_⟩⟩;rw[aO];have:=kt [some (.int (h:Int)),some (.ref a),some (.ref p)] H4 ⟨_,rfl⟩ s4;have e:decide (((xg es h:Nat):Int)<=(((bj n ts h).length:Nat):Int))=decide (xg es h<=(bj n ts h).length):=ku.mpr (by lia);rw[<-e] at this;exact this
   .intro H3 s3 pQ;have Hr:H3 D1=some (.lst (((List.range n).map fun h=>decide (xg es h<=(bj n ts h).length)).map V.bl)):=by rw[pQ,cy];rfl
    refine⟨D1,_,rfl,aV.of Hr,?_⟩;have:=q H3 (sc.trans s3);rw[show tQ n ts homes (some es)=_ from Db dz ok] at this;rw[vN];exact this
end
end jT
namespace L2
open PySem PySem.Spec PyProof.Rows
def XQ(xs ys:List V):Bool:=(List.range (min xs.length ys.length)).all (fun i=>iH (xs.getD i .bz) (ys.getD i .bz))&&xs.length==ys.length
def rTF(K:PySem.W.Frag)(neg:Bool):R2:=fun x y H Q=>∃ (p q:Addr) (xs ys:List V),x=.ref p/\y=.ref q/\bt K H p xs/\bt K H q ys/\xs.all cT=true/\ys.all cT=true/\Q (.bl (if neg then !XQ xs ys else XQ xs ys)) H
section
variable {X:Cx}
theorem Dc(hu:X.A.units+2<cLine):j6 X (compareOp .NotEq) (rTF X.K true):=by
 intro ag s σ H x y v u Q I rx ry h;obtain⟨p,q,xs,ys,rfl,rfl,hp,hq,fx,fy,k⟩:=h;obtain rfl:v=Value.ref p:=rx;obtain rfl:u=Value.ref q:=ry;obtain⟨us,r1,p1,_⟩:=I.tuple hp;obtain⟨vs,r2,p2,_⟩:=I.tuple hq;refine SeqAt.RcNeAt.tuples (e:=fun i=>iH (xs.getD i .bz) (ys.getD i .bz)) (show s.heap.IsTuple p us.toArray from p1) (show s.heap.IsTuple q vs.toArray from p2) (by lia) (sR r1 r2 fx fy) _ _ _ _ ⟨.bl _,H,I,rfl,?_⟩;rw[bQ,bQ,<-r1.length,<-r2.length];exact k
end
end L2
namespace jT
open PySem L2 fJ
theorem BP{a b:Option Nat}(h:oV a=oV b):a=b:=by
 cases a <;> cases b
 .rfl
 .cases h
 .cases h
 .injection h with h;exact congrArg some (cD h)
theorem xh{a:Option Nat}:cT (oV a)=true:=by cases a <;> rfl
theorem LQ{a:Option Nat}:iH (oV a) (oV a)=true:=by
 cases a
 .rfl
 .show ((_:Int)==_)=true;simp
theorem ot{fs:List (Option Nat)}:(fs.map oV).all cT=true:=hG.mpr fun v hv=>by obtain⟨o,_,rfl⟩:=bn.mp hv;exact xh
theorem yQ{fs:List (Option Nat)}:XQ (fs.map oV) (fs.map oV)=true:=by
 unfold XQ;rw[beq_self_eq_true,vI,hG];intro i hi;have hi:i<fs.length:=by have:=bH.mp hi;rw[aP,Nat.min_self] at this;exact this
 rw[aS,eZ hi];exact LQ
def fO:iN->Option Nat
 |some (some i)=>some i.toNat
 |_=>none
theorem Vs{K:PySem.W.Frag}{H:Hp}{n:Nat}{ts:Ts}{st:List (Option Nat)}{xs:List V}{es:List iN}(E:EB K H xs es)(h:u9 n ts st (some es)=none):∃fs:List (Option Nat),xs=fs.map oV/\Hd n ts st fs:=by
 obtain⟨hl,he⟩:=E;unfold u9 at h;dsimp only at h;split at h
 .next el=>
  have hw:∀i,i<st.length->tL n ts st es i=none:=fun i hi=>ve.mp h i (bH.mpr hi);have hN:∀i,i<st.length->st.getD i none=none->es.getD i none=none:=fun i hi e=>by
   have:=hw i hi;unfold tL at this;rw[e] at this;dsimp only at this;split at this
   .next z=>exact z
   .cases this
  have hS:∀i k,i<st.length->st.getD i none=some k->(∃y:Nat,es.getD i none=some (some (y:Int))/\y∈bj n ts k)/\∀j,j<i->¬ (st.getD j none=some k/\es.getD j none=es.getD i none):=fun i k hi e=>by
   have:=hw i hi;unfold tL at this;rw[e] at this;dsimp only at this;split at this
   .next z=>
    refine⟨?_,fun j hj ⟨a,b⟩=>?_⟩
    .cases c:es.getD i none with
     |none=>rw[c] at z;cases z
     |some o=>
      cases o with
      |none=>rw[c] at z;cases z
      |some m=>
       rw[c] at z;have z:qN (.int m) (NV (bj n ts k))=true:=z;unfold qN at z;obtain⟨v,hv,ev⟩:=ky.mp z;obtain⟨y,hy,rfl⟩:=bn.mp hv;have:m=(y:Int):=by
        have:(((y:Nat):Int)==m)=true\/(m==((y:Nat):Int))=true:=by first|exact .inl ev|exact .inr ev
        rcases this with t|t <;> simp at t <;> lia
       exact⟨y,by rw[this],hy⟩
    .rw[zo,zL] at this;exact this j (bH.mpr hj) (by unfold y_;rw[cx a,cx b];rfl)
   .cases this
  have gF:∀i,(((List.range st.length).map fun i=>fO (es.getD i none))).getD i none=if i<st.length then fO (es.getD i none) else none:=fun i=>by
   by_cases c:i<st.length
   .rw[aD c,aS,bN,fw c];rfl
   .rw[au c,aS,cj (by rw[aP,cE];lia)];rfl
  have lt:∀ {i o},st.getD i none=some o->i<st.length:=fun {i o} e=>by
   rcases mh i st.length with c|c
   .exact c
   .rw[aS,cj c] at e;cases e
  refine⟨(List.range st.length).map fun i=>fO (es.getD i none),?_,by rw[aP,cE],fun j hj=>?_,fun j k hj=>?_,?_⟩
  .rw[cy];refine i7 fun i=>?_;by_cases c:i<st.length
   .rw[bN,fw c];have:=he i (by lia);rw[aS,bq (by lia),vw] at this;rw[bq (by lia)];refine congrArg some ?_;show xs[i]=oV (fO (es.getD i none));generalize xs[i]=x at this |-;cases e:st.getD i none with
    |none=>
     rw[hN i c e] at this |-;cases this;rfl
    |some k=>
     obtain⟨⟨y,ey,_⟩,_⟩:=hS i k c e;rw[ey] at this |-;cases this with
     |th _ w=>exact Qm w
   .rw[cj (by lia),cj (by rw[aP,cE];lia)]
  .rw[gF];by_cases c:j<st.length
   .rw[aD c,hN j c hj];rfl
   .rw[au c]
  .have c:=lt hj;obtain⟨⟨y,ey,hy⟩,_⟩:=hS j k c hj;exact⟨y,by rw[gF,aD c,ey];rfl,hy⟩
  .have key:∀j k y,j<k->((List.range st.length).map fun i=>fO (es.getD i none)).getD j none=some y->((List.range st.length).map fun i=>fO (es.getD i none)).getD k none=some y->st.getD j none≠st.getD k none:=fun j k y jk a b z=>by
    rw[gF] at a b;have ck:k<st.length:=by
     rcases mh k st.length with c|c
     .exact c
     .rw[au (by lia)] at b;cases b
    rw[aD (by lia)] at a;rw[aD ck] at b;cases e:st.getD k none with
    |none=>rw[hN k ck e] at b;cases b
    |some h=>
     obtain⟨⟨y1,e1,_⟩,no⟩:=hS k h ck e;obtain⟨⟨y2,e2,_⟩,_⟩:=hS j h (by lia) (z.trans e);rw[e1] at b;rw[e2] at a;have b:some ((y1:Int).toNat)=some y:=b;have a:some ((y2:Int).toNat)=some y:=a;have:y1=y2:=by have:=a.trans b.symm;simp at this;lia
     exact no j jk ⟨z.trans e,by rw[e1,e2,this]⟩
   intro j k y ne a b;rcases Nat.lt_or_gt_of_ne ne with c|c
   .exact key j k y c a b
   .exact fun z=>key k j y c b a z.symm
 .cases h
abbrev sSB:Stmt:=iK 32
abbrev sBe:Stmt:=iK 31
theorem ou:(["home","goes"]:List Str).Nodup:=by decide +kernel
theorem LR{homes:List Nat}{fs:List (Option Nat)}{i:Nat}(h:i<fs.length):((wZ homes fs).map oV)[i]?=some (if fs.getD i none=some (homes.getD i 0) then V.bz else oV (fs.getD i none)):=by
 unfold wZ;rw[bN,bN,fw h];show some (oV (if _ then none else _))=_;split <;> rfl
section
variable {P:Program} {w:World} {K:PySem.W.Frag} {mg:Str->Option Value} {base:Heap}
theorem aap:aT ["homes","handing"] ["homes","handing"] (av sSB):=cV (by decide +kernel)
def QA:Sp:=fun vs H Q _=>∃ (ha fa:Addr) (homes:List Nat) (fs:List (Option Nat)),vs=[.ref ha,.ref fa]/\H ha=some (.tup (NV homes))/\H fa=some (.tup (fs.map oV))/\homes.length=fs.length/\fs.length<=16/\∀t H',aA H H'->H' t=some (.tup ((wZ homes fs).map oV))->Q (.ref t) H'
theorem Vt{f:Addr}{fd:FuncData}(F:gv K "stand_behind" "stand_behind" sSB f fd)(B:Bl mg)(B2:Se mg):bU P w K mg base bv 1 f fd ["homes","handing"] QA:=by
 refine F.ok aap (fun vs H Q E h=>?_) (fun dY A outer s H vs Q E hr h=>?_)
 .obtain⟨ha,fa,homes,fs,rfl,_⟩:=h;rfl
 .obtain⟨ha,fa,homes,fs,rfl,j9,kl,hl,ED,q⟩:=h;refine'⟨_,(ak (aM (cL d_ (by rfl) B.tup m9 (aa ?c1 ae)))),?_⟩;case c1=>
   refine' bV (g:=(Af K 2 (ju (bK 0) (ju (bK 1) Ae)))) (te:=(tIf (ja (gw (rEq) (aX 1) (aX 0))) (tC .bz) (aX 1))) (NB:=["home","goes"]) (src:=[none,none]) (bJ (by kernel_rfl)) rfl (CD rfl B2.zip (aa (pv 0) (aa (pv 1) ae))) ?g ?t ?e;case g=>exact fun cl C s₃ H₃ fp=>(fu (n:=2) rfl (ba (aw (i:=0) ou rfl aU bL) (ba (aw (i:=1) ou rfl aU bL) dE)))
   case t=>exact fun cl C s₃ H₃ fp=>ce
   case e=>exact fun cl C s₃ H₃ fp=>(xC (aK eN (pv 1) (pv 0) (aR _)) cN (pv 1))
  refine⟨_,rfl,_,rfl,ha,fa,_,_,rfl,bt.of j9,bt.of kl,by rw[aO,aP];lia,fun D4 Be=>?_⟩;refine GU (K:=K) (xs:=NV homes) (ys:=fs.map oV) (by rw[aO,aP];lia) (fun i zz σ H3=>(∃u v,σ=[u,v])/\aA H H3/\H3 D4=some (.lst zz)/\zz=((wZ homes fs).map oV).take i) ⟨⟨_,_,rfl⟩,aj Be,af,rfl⟩ (fun i zz σ H _ z=>⟨bt.of (z.2.1 _ _ j9),bt.of (z.2.1 _ _ kl)⟩) ?_ ?_
  .rintro i x y pp zz σ H5 Kt Kf hx hy ⟨⟨u,v,rfl⟩,wO,wT,rfl⟩ hpp kt kf;have hil:i<fs.length:=by have:=(cY.mp hx).1;rw[aO] at this;lia
   rw[dR (by lia)] at hx;obtain rfl:=bX hx;rw[eZ hil] at hy;obtain rfl:=bX hy;have sp:=aj (o:=.tup [.int ((homes.getD i 0:Nat):Int),oV (fs.getD i none)]) hpp;have one:=LR (homes:=homes) (fs:=fs) hil;have lt:(((wZ homes fs).map oV).take i).length<sizeLine:=fq (m_ _ _) (by rw[aP,q0];exact fq ED (by decide));refine⟨pp,_,rfl,bt.of af,rfl,_,_,rfl,_,_,rfl,rfl,?_⟩;refine⟨_,rfl,_,rfl,Ik,_,rfl,?_⟩;rw[NK];have go:∀v,((wZ homes fs).map oV)[i]?=some v->∀σ2,(∃u v,σ2=[u,v])->Kt v σ2 (upd H5 pp (.tup [.int ((homes.getD i 0:Nat):Int),oV (fs.getD i none)])):=fun v hv σ2 sh=>kt v σ2 _ (sp _ _ wT) lt ⟨sh,bD (wO.trans sp) Be,af,by rw[fZ,hv];rfl⟩;by_cases c:fs.getD i none=some (homes.getD i 0)
   .rw[aD c] at one;rw[cx c];exact fU (go _ one _ ⟨_,_,rfl⟩)
   .rw[au c] at one;rw[di c];exact cG ⟨_,rfl,go _ one _ ⟨_,_,rfl⟩⟩
  .rintro zz σ H5 ⟨_,wO,wT,rfl⟩;rw[aO,show homes.length=((wZ homes fs).map oV).length by rw[aP,q0];exact hl,iA] at wT;refine⟨D4,_,rfl,.inl ⟨aV.of wT,fun t ht=>?_⟩⟩;exact q t _ (wO.trans (aj ht)) af
theorem aaq:aT ["net","homes","stand","handing"] ["net","homes","stand","handing"] (av sBe):=cV (by decide +kernel)
def LU(K:PySem.W.Frag)(C CE:Addr):Sp:=fun vs H Q E=>∃ (L:Addr->Prop) (p:Addr) (n:Nat) (ts:Ts) (ha:Addr) (homes:List Nat) (sa:Addr) (st:List (Option Nat)) (x:V) (o:Option (List iN)),vs=[.ref p,.ref ha,.ref sa,x]/\dw C H L p n ts/\H ha=some (.tup (NV homes))/\homes.length=st.length/\H sa=some (.tup (st.map oV))/\st.length<=16/\(∀y,some y∈st->y<n)/\(∀H',aA H H'->Th K H' x o)/\
 (∀e,u9 n ts st o=some e->∀H',aA H H'->E (.ref CE) none H')/\(u9 n ts st o=none->∀ (fa:Addr) (fs:List (Option Nat)),x=.ref fa->H fa=some (.tup (fs.map oV))->Hd n ts st fs->∀t H',aA H H'->H' t=some (.tup ((wZ homes fs).map oV))->Q (.ref t) H')
theorem NS{H:Hp}{n:Nat}{ts:Ts}{st:List (Option Nat)}{x:V}{o:Option (List iN)}(h:Th K H x o)(e:u9 n ts st o=none):∃ (fa:Addr) (fs:List (Option Nat)),x=.ref fa/\H fa=some (.tup (fs.map oV))/\Hd n ts st fs:=by
 cases h with
 |tup h E=>
  obtain⟨fs,rfl,d⟩:=Vs E e;exact⟨_,fs,rfl,h,d⟩
 |no _ _=>cases e
theorem Vu{f C CE:Addr}{fd:FuncData}(F:gv K "behind" "behind" sBe f fd)(e:Er K mg "NoHanding" CE)(WR:cu P w K mg base bv 7 "wrong" ["net","homes","stand","thing"] (on K C))(SB:cu P w K mg base bv 1 "stand_behind" ["homes","handing"] QA):bU P w K mg base (Kc P w) 8 f fd ["net","homes","stand","handing"] (LU K C CE):=by
 refine F.okX aaq (fun vs H Q E h=>?_) (fun dY A outer s H vs Q E hr h=>?_)
 .obtain⟨L,p,n,ts,ha,homes,sa,st,x,o,rfl,_⟩:=h;rfl
 .obtain⟨L,p,n,ts,ha,homes,sa,st,x,o,rfl,N,j9,hl,ie,ED,ss,th,k1,k2⟩:=h;have h1:cB 1 _:=hr.mono (by decide);have h7:cB 7 _:=hr;refine⟨_,(ai (bA (aK i_ (az WR h7 aL (aa (pv 0) (aa (pv 1) (aa (pv 2) (aa (pv 3) ae))))) cN (aR _)) (ak (Ge (q:=fun H1=>E (.ref CE) none H1) rfl e.ok rfl e.at_ (aa mq ae) (fun _ _ _ _ _ _ _ I m q=>Ga I m q))) aQ)
   (ak (aM (az SB h1 aL (aa (pv 1) (aa (pv 3) ae)))))),?_⟩
  refine⟨_,rfl,_,rfl,_,rfl,_,rfl,L,p,n,ts,ha,homes,sa,st,x,o,rfl,N,j9,hl,ie,ED,ss,th,fun r H2 s2 rs=>?_⟩;cases hw:u9 n ts st o with
  |some e=>
   rw[hw] at rs;obtain⟨a,rfl,_⟩:=rs;exact⟨rfl,_,rfl,gL rfl ⟨by show 1<=sizeLine;decide,k1 e hw H2 s2⟩⟩
  |none=>
   rw[hw] at rs;obtain rfl:=rs;refine⟨rfl,_,rfl,cG ?_⟩;obtain⟨fa,fs,rfl,kl,d⟩:=NS (th H (aA.refl _)) hw;exact⟨_,rfl,_,rfl,ha,fa,homes,fs,rfl,s2 _ _ j9,s2 _ _ kl,by rw[hl,d.len],by rw[d.len];exact ED,fun t H3 s3 ht=>k2 hw fa fs rfl kl d t H3 (s2.trans s3) ht⟩
end
abbrev Os:=List (Addr×Option Nat×Option Nat)
abbrev oP(u:Option Nat×Option Nat):List V:=[oV u.1,oV u.2]
theorem NU{a b:Option Nat}:iH (oV a) (oV b)=decide (a=b):=by
 cases a <;> cases b <;> first|rfl|skip
 rename_i x y;show ((x:Int)==(y:Int))=decide (some x=some y);by_cases h:x=y
 .subst h;simp
 .rw[di (by simpa using h)];exact ng.mpr fun z=>h (cD z)
theorem Dd{u:Option Nat×Option Nat}:(oP u).all cT=true:=by
 show (cT (oV u.1)&&(cT (oV u.2)&&true))=true;rw[xh,xh];rfl
theorem Vv{p q:Option Nat×Option Nat}:gK iH (oP p) (oP q)=decide (p=q):=by
 obtain⟨a,b⟩:=p;obtain⟨c,d⟩:=q;show (iH (oV a) (oV c)&&(iH (oV b) (oV d)&&true))=decide ((a,b)=(c,d));rw[NU,NU];by_cases h1:a=c <;> by_cases h2:b=d <;> simp[h1,h2]
theorem QB{p q:Option Nat×Option Nat}(h:oP p=oP q):p=q:=fQ (BP (jH h).1) (BP (jH (jH h).2).1)
def NW(K:PySem.W.Frag):R2:=fun x y H Q=>∃ (p l:Addr) (u:Option Nat×Option Nat) (zs:Os),x=.ref p/\y=.ref l/\bt K H p (oP u)/\aV K H l (zs.map fun z=>V.ref z.1)/\(∀z∈zs,bt K H z.1 (oP z.2))/\Q (.bl (!decide (u∈zs.map (·.2)))) H
section
open PySem.Spec PyProof.Rows
variable {X:Cx}
open Classical in
theorem LV(hu:X.A.units+2<cLine):j6 X (compareOp .NotIn) (NW X.K):=by
 intro ag s σ H x y v u Q I rx ry h;obtain⟨p,l,w,zs,rfl,rfl,hp,hl,hz,q⟩:=h;obtain rfl:v=Value.ref p:=rx;obtain rfl:u=Value.ref l:=ry;obtain⟨its,r,pl,_⟩:=I.list hl;have e:=nI (as:=zs.map (·.1)) (by rw[cy];exact r);subst e;have fe:∀z∈zs,decide (∃a,Value.ref z.1=Value.ref a/\bt X.K H a (oP w))=decide (z.2=w):=fun z qW=>by
  rw[hV,l6,l6];constructor
  .rintro⟨a,e,ha⟩;cases e;exact QB (I.gO (hz z qW) ha)
  .intro e;rw[<-e];exact⟨_,rfl,hz z qW⟩
 refine z0 (fun v=>decide (∃a,v=Value.ref a/\bt X.K H a (oP w))) pl.isList (fun y hy=>?_) ⟨.bl _,H,I,rfl,?_⟩
 .rw[List.mem_toArray,cy] at hy;obtain⟨z,qW,rfl⟩:=bn.mp hy;have:=yj (A:=X.A.in1) I (by show X.A.units+1+1<cLine;lia) (hz z qW) hp rfl Dd Dd;rw[Vv,<-fe z qW] at this;exact this
 .have:(List.map Value.ref (zs.map (·.1))).toArray.any (fun v=>decide (∃a,v=Value.ref a/\bt X.K H a (oP w)))=decide (w∈zs.map (·.2)):=by
   rw[List.any_toArray,hV,ky,l6,bn];constructor
   .rintro⟨y,hy,c⟩;rw[cy] at hy;obtain⟨z,qW,rfl⟩:=bn.mp hy;exact⟨z,qW,dB ((fe z qW).symm.trans c)⟩
   .rintro⟨z,qW,e⟩;exact⟨Value.ref z.1,by rw[cy];exact bn.mpr ⟨z,qW,rfl⟩,(fe z qW).trans (cx e)⟩
  rw[this];exact q
end
abbrev sIE:Stmt:=iK 4
theorem nbG:(["other","self","home","own"]:List Str).Nodup:=by decide +kernel
theorem fL:(["letter","stand","handing","led_letters"]:List Str).Nodup:=by decide +kernel
theorem jZ:(["other","house","nearing"]:List Str).Nodup:=by decide +kernel
theorem NX{x:Nat}:∀ {xs:List Nat},qN (.int (x:Int)) (NV xs)=decide (x∈xs)
 |[]=>rfl
 |y::ys=>by
  have ih:=NX (x:=x) (xs:=ys);unfold qN NV at *;rw[eJ,kN,ih];by_cases e:y=x
  .subst e;simp[iH]
  .have e':¬ x=y:=fun z=>e z.symm;have e2:¬ (y:Int)=(x:Int):=fun z=>e (cD z);have e3:¬ (x:Int)=(y:Int):=fun z=>e' (cD z);simp[iH,e',e2,e3]
noncomputable def qt(n:Nat)(ts:Ts)(i j:Nat):List Nat:=(bj n ts i).filter fun o=>decide (far ts o j<far ts i j)
noncomputable def Fa(ts:Ts)(homes:List Nat)(st fs:List (Option Nat))(m:Nat):List (Option Nat×Option Nat):=((List.range m).filter fun j=>!jY ts homes st fs j).map fun j=>(st.getD j none,fs.getD j none)
noncomputable def NY(n:Nat)(ts:Ts)(homes:List Nat)(st fs:List (Option Nat))(i:Nat):Bool:=(qt n ts ((st.getD i none).getD 0) (homes.getD i 0)).any fun y=>!decide ((st.getD i none,some y)∈Fa ts homes st fs st.length)
noncomputable def NZ(n:Nat)(ts:Ts)(homes:List Nat)(st fs:List (Option Nat))(ls:List Nat):Bool:=!ls.any (NY n ts homes st fs)
theorem tR{ts:Ts}{homes:List Nat}{st fs:List (Option Nat)}{m i:Nat}(h:i∈ledL ts homes st fs m):i<m/\jY ts homes st fs i=true:=⟨bH.mp (cS.mp h).1,(cS.mp h).2⟩
theorem De{ts:Ts}{homes:List Nat}{st fs:List (Option Nat)}{m i:Nat}(h:i<m):qN (.int (i:Int)) (NV (ledL ts homes st fs m))=jY ts homes st fs i:=by
 rw[NX];cases e:jY ts homes st fs i with
 |true=>exact cx (cS.mpr ⟨bH.mpr h,e⟩)
 |false=>exact di fun z=>by rw[(tR z).2] at e;cases e
theorem yR{ts:Ts}{homes:List Nat}{st fs:List (Option Nat)}{i:Nat}:Fa ts homes st fs (i+1)=Fa ts homes st fs i++if jY ts homes st fs i=true then [] else [(st.getD i none,fs.getD i none)]:=by
 unfold Fa;rw[iQ,ft,cK,c_];cases jY ts homes st fs i <;> rfl
theorem Vw(n:Int)(tl ol ds:Addr):(nX n tl ol ds).lookup ("good":Str)=none:=nY n tl ol ds (by decide +kernel) (by decide +kernel) (by decide +kernel) (by decide +kernel)
theorem Df{β:Type}{K:PySem.W.Frag}{a D:Addr}{g:TG}{tt:TT}{te:TE}{dJ:Hp->Prop}{σB:St}{H0:Hp}(ms:List β)(e:β->V)(c:β->Bool)(G:β->V)(bE:St->Prop)(ha:H0 a=some (.lst (ms.map e)))(hD:H0 D=none)(hn:ms.length<=1000)(h0:bE σB)(hs:∀m σ H (Kt:V->St->Hp->Prop) (Kf:St->Hp->Prop),m∈ms->bE σ->aA H0 H->(∀σ2 H2,bE σ2->aA H H2->c m=true->Kt (G m) σ2 H2)->(∀σ2 H2,bE σ2->aA H H2->c m=false->Kf σ2 H2)->
   g (e m) σ H fun σ2 H2=>tt σ2 H2 fun b H3=>if b=true then te σ2 H3 fun v H4=>Kt v σ2 H4 else Kf σ2 H3)(hd:∀H,aA H0 H->H D=some (.lst ((ms.filter c).map G))->dJ H):gJ (Dr K a) g tt te D dJ σB (upd H0 D (.lst [])):=by
 refine dh (xs:=ms.map e) (fun i ys σ H=>bE σ/\aA H0 H/\H D=some (.lst ys)/\ys=((ms.take i).filter c).map G) ⟨h0,aj hD,af,rfl⟩ (fun i ys σ H _ z=>aV.of (z.2.1 _ _ ha)) ?_ ?_
 .rintro i x ys σ H Kt Kf hx ⟨sh,sm,d8,rfl⟩ kt kf;rw[bN] at hx;obtain⟨y,hy,rfl⟩:=re.mp hx;have tk:ms.take (i+1)=ms.take i++[y]:=by rw[fZ,hy];rfl
  refine hs y σ H Kt Kf (cZ hy) sh sm (fun σ2 H2 mI s2 e=>?_) (fun σ2 H2 mI s2 e=>?_)
  .refine kt _ _ _ (s2 _ _ d8) ?_ ⟨mI,bD (sm.trans s2) hD,af,?_⟩
   .rw[aP];exact fq (aY (fW _ _) (m_ _ _)) (fq hn (by decide))
   .rw[tk,ft,cK,c_,e];rfl
  .refine kf _ _ ⟨mI,sm.trans s2,s2 _ _ d8,?_⟩;rw[tk,ft,c_,e];simp
 .rintro ys σ H ⟨_,sm,d8,rfl⟩;rw[aP,iA] at d8;exact hd H sm d8
section
variable {P:Program} {w:World} {K:PySem.W.Frag} {mg:Str->Option Value} {base:Heap}
theorem IT:aT ["self","house","home","own"] ["self","house","home"] (av Hb):=cV (by decide +kernel)
def xi(C:Addr):Sp:=fun vs H Q _=>∃ (L:Addr->Prop) (p:Addr) (n:Nat) (ts:Ts) (i j:Nat),vs=[.ref p,.int i,.int j]/\dw C H L p n ts/\i<n/\j<n/\∀r H',aA H H'->H r=none->H' r=some (.lst (NV (qt n ts i j)))->Q (.ref r) H'
theorem IU{f C:Addr}{fd:FuncData}(F:gv K "good" "Net.good" Hb f fd)(T:NT K mg C)(M:nZ P w K mg base bv 5 C "far" ["self","one","other"] (wE C)):
  bU P w K mg base bv 6 f fd ["self","house","home"] (xi C):=by
 obtain⟨fM,Zw,mM,bM,GM⟩:=M.ex;refine F.ok IT (fun vs H Q E h=>?_) (fun dY A outer s H vs Q E hr h=>?_)
 .obtain⟨L,p,n,ts,i,j,rfl,_⟩:=h;rfl
 .obtain⟨L,p,n,ts,i,j,rfl,N,hi,hj,k2⟩:=h;obtain⟨dx,tl,ol,ds,h1,_,_,RO,R,_⟩:=N.ob;have fi:=N.lN;have n2:=fi.n2;refine'⟨_,ai (aN (i:=3) IT.nd rfl bL (iG (pv 0) T.cl mM GM hr bM .nil aL (aa (pv 1) (aa (pv 2) ae))))
   (ak (aM ?c)),?_⟩
  case c=>
   refine' bV (g:=bK 0) (tt:=ja (gw (tW fun i j=>.bl (decide (i<j))) (gw (ki K) (gw (ki K) (OA K (aX 1) "distances") (aX 0)) (aX 2)) (aX 3))) (te:=aX 0) (NB:=["other","self","home","own"]) (src:=[none,some 0,some 2,some 3]) (bJ (by kernel_rfl)) rfl (bP (aG aH (kW (pv 0) rfl) (pv 1) (fun _ _=>rfl))) ?g ?t ?e;case g=>exact fun cl C s₃ H₃ fp=>aw (i:=0) nbG rfl aU bL
   case t=>exact fun cl C s₃ H₃ fp=>eG (aK iV (aG aH (aG aH (kW (pv 1) rfl) (pv 0) (fun _ _=>rfl)) (pv 2) (fun _ _=>rfl)) (pv 3) (aR _))
   case e=>exact fun cl C s₃ H₃ fp=>pv 0
  refine⟨_,rfl,p,dx,_,rfl,h1,Pn _ _ _ _,_,rfl,_,rfl,L,p,n,ts,i,j,rfl,N,hi,hj,?_⟩;obtain⟨bs,b,r1,r2,r3,_⟩:=RO.row hi;refine⟨_,rfl,p,C,dx,_,_,rfl,h1,T.cl,T.nO,CS _ _ _ _,_,rfl,ol,_,_,_,rfl,rfl,aV.of r1,am r2,b,rfl,⟨_,aV.of r3⟩,fun D hD=>?_⟩;have nb:b≠D:=ap r3 hD;refine dh (xs:=NV (bj n ts i)) (fun m ys σ H2=>(∃a,σ=[a,some (.ref p),some (.int (j:Int)),some (.int ((far ts i j:Nat):Int))])/\ys=NV (((bj n ts i).take m).filter fun o=>decide (far ts o j<far ts i j))/\H2=upd H D (.lst ys)) ⟨⟨_,rfl⟩,by simp,rfl⟩ (fun m ys σ H2 _ ⟨_,_,e⟩=>by rw[e];exact aV.of (by rw[ao nb];exact r3)) ?_ ?_
  .rintro m x ys σ H2 Kt Kf hx ⟨⟨a,rfl⟩,ey,rfl⟩ kt kf;obtain⟨v,hv,rfl⟩:=n6 hx;have PF:v∈bj n ts i:=cZ hv;have Hm:v<n:=dL fi hi PF;have sm:aA H (upd H D (.lst ys)):=aj hD;obtain⟨bs2,b2,q1,q2,q3,_⟩:=R.row Hm;have hg:(NV ((List.range n).map (far ts v)))[j]?=some (.int (far ts v j:Nat)):=by
    rw[bN,bN,fw hj];rfl
   have tk:(bj n ts i).take (m+1)=(bj n ts i).take m++[v]:=by rw[fZ,hv];rfl
   have hm:m<(bj n ts i).length:=(cY.mp hv).1;refine⟨_,rfl,p,C,dx,_,_,rfl,sm _ _ h1,T.cl,T.nD,CU _ _ _ _,_,rfl,ds,_,_,_,rfl,rfl,aV.of (sm _ _ q1),am q2,_,rfl,b2,_,_,_,rfl,rfl,aV.of (sm _ _ q3),am hg,_,rfl,_,_,rfl,rfl,_,rfl,?_⟩;refine eI (fun e=>?_) (fun e=>?_)
   .refine⟨_,rfl,kt _ _ _ af ?_ ⟨⟨_,rfl⟩,?_,by rw[lz]⟩⟩
    .rw[ey,aO];refine fq (fW _ _) (fq (vp _ _) (cQ (show m<33 from ?_) (by decide)));have:(bj n ts i).length<=n:=aY (fW _ _) (by simp);lia
    .have:decide (far ts v j<far ts i j)=true:=by simp at e |-;lia
     rw[ey,tk,ft,lI];simp[c_,this]
   .refine kf _ _ ⟨⟨_,rfl⟩,?_,rfl⟩;have:decide (far ts v j<far ts i j)=false:=by simp at e |-;lia
    rw[ey,tk,ft];simp[c_,this]
  .rintro ys σ H2 ⟨_,ey,rfl⟩;rw[aO,iA] at ey;refine k2 D _ (aj hD) hD ?_;rw[af,ey];rfl
theorem IX:aT ["net","homes","stand","handing","led_letters","nearing","letter","house"] ["net","homes","stand","handing"] (av sIE):=cV (by decide +kernel)
def QC(C:Addr):Sp:=fun vs H Q _=>∃ (L:Addr->Prop) (p:Addr) (n:Nat) (ts:Ts) (ha:Addr) (homes:List Nat) (sa:Addr) (st:List (Option Nat)) (fa:Addr) (fs:List (Option Nat)),vs=[.ref p,.ref ha,.ref sa,.ref fa]/\dw C H L p n ts/\H ha=some (.tup (NV homes))/\H sa=some (.tup (st.map oV))/\H fa=some (.tup (fs.map oV))/\yM n homes st fs/\∀H',aA H H'->Q (.bl (NZ n ts homes st fs (ledL ts homes st fs st.length))) H'
theorem Vx{f C:Addr}{fd:FuncData}(F:gv K "is_eager" "is_eager" sIE f fd)(B:Bl mg)(T:NT K mg C)(LE:cu P w K mg base bv 7 "led" ["net","homes","stand","handing"] (yN C))(MG:nZ P w K mg base bv 6 C "good" ["self","house","home"] (xi C)):bU P w K mg base bv 8 f fd ["net","homes","stand","handing"] (QC C):=by
 obtain⟨fG,fdG,mG,bG,GG⟩:=MG.ex;refine F.ok IX (fun vs H Q E h=>?_) (fun dY A outer s H vs Q E hr h=>?_)
 .obtain⟨L,p,n,ts,ha,homes,sa,st,fa,fs,rfl,_⟩:=h;rfl
 .obtain⟨L,p,n,ts,ha,homes,sa,st,fa,fs,rfl,N,j9,ie,kl,G,q⟩:=h;have h6:cB 6 _:=hr.mono (by decide);refine'⟨_,(ai (aN (i:=4) IX.nd rfl bL (az LE hr aL (aa (pv 0) (aa (pv 1) (aa (pv 2) (aa (pv 3) ae))))))
   (ai (aN (i:=5) IX.nd rfl bL ?c1)
   (ai (cP dO rfl (bP (pv 4)) (aw (i:=6) IX.nd rfl aU)
    (ai (aN (i:=7) IX.nd rfl bL (aG bf (pv 2) (pv 6) (fun _ _=>rfl)))
    (ak (bA (dq (aI (uM rfl) (by rfl) B.any PyProof.Rows.boot_any (aa ?c2 ae))) (ak (aM gI)) aQ))))
   (ak (aM gI))))),?_⟩
  case c1=>
   refine' bV (g:=(bK 0)) (tt:=(ja (gw (RN K true) (aX 0) (aX 3)))) (te:=(kh (bi (gw (Dz K) (aX 1) (aX 0)) (bi (gw (Dz K) (aX 2) (aX 0)) dQ)))) (NB:=["letter","stand","handing","led_letters"]) (src:=[none,some 2,some 3,some 4]) (bJ (by kernel_rfl)) rfl (bC rfl B.range (aa (aI aF (by rfl) B.len cp (aa (pv 1) ae)) ae)) ?g ?t ?e;case g=>exact fun cl C s₃ H₃ fp=>(aw (i:=0) fL rfl aU bL)
   case t=>exact fun cl C s₃ H₃ fp=>eG (aK nA (pv 0) (pv 3) rfl)
   case e=>exact fun cl C s₃ H₃ fp=>(br (aa (aG bf (pv 1) (pv 0) (fun _ _=>rfl)) (aa (aG bf (pv 2) (pv 0) (fun _ _=>rfl)) ae)))
  case c2=>
   refine' bV (g:=(bK 0)) (te:=(gw (NW K) (kh (bi (aX 1) (bi (aX 0) dQ))) (aX 2))) (NB:=["other","house","nearing"]) (src:=[none,some 7,some 5]) (bJ (by kernel_rfl)) rfl (bP (iG (pv 0) T.cl mG GG h6 bG .nil aL (aa (pv 7) (aa (aG bf (pv 1) (pv 6) (fun _ _=>rfl)) ae)))) ?g ?t ?e;case g=>exact fun cl C s₃ H₃ fp=>(aw (i:=0) jZ rfl aU bL)
   case t=>exact fun cl C s₃ H₃ fp=>ce
   case e=>exact fun cl C s₃ H₃ fp=>(gh (LV hr.u) (br (aa (pv 1) (aa (pv 0) ae))) (pv 2) rfl)
  have l1:=G.l1;have l2:=G.l2;have l3:=G.l3;refine⟨_,rfl,_,rfl,_,rfl,_,rfl,L,p,n,ts,ha,homes,sa,st,fa,fs,rfl,N,j9,ie,kl,G,fun r1 H1 s1 nr1 CY=>?_⟩;dsimp only;have N1:=N.same s1;refine⟨_,rfl,ha,_,rfl,.inr (bt.of (s1 _ _ j9)),_,rfl,by lia,by rw[aO];lia,fun D1 mW=>?_⟩;rw[aO,l1];refine eT (n:=st.length) (fun i ys σ H2=>(∃b,σ=[b,some (.ref sa),some (.ref fa),some (.ref r1)])/\aA H1 H2/\H2 D1=some (.lst ys)/\∃zs:Os,ys=zs.map (fun z=>V.ref z.1)/\zs.map (·.2)=Fa ts homes st fs i/\∀z∈zs,z.1≠D1/\H2 z.1=some (.tup (oP z.2))) ⟨⟨_,rfl⟩,aj mW,af,[],rfl,rfl,fun z hz=>(nomatch hz)⟩ ?_ ?_
  .rintro j ys σ H2 Kt Kf hj ⟨⟨b,rfl⟩,sm,d8,zs,rfl,ez,hz⟩ kt kf;rw[eK];have hS2:=sm _ _ (s1 _ _ ie);have XF:=sm _ _ (s1 _ _ kl);refine⟨_,rfl,_,rfl,r1,_,rfl,.inl (aV.of (sm _ _ CY)),rfl,C5,_,rfl,?_⟩;cases hk:jY ts homes st fs j with
   |true=>
    refine f9 (by show (!qN _ _)=false;rw[De hj,hk];rfl) (kf _ _ ⟨⟨_,rfl⟩,sm,d8,zs,rfl,?_,hz⟩);rw[ez,yR,hk];simp
   |false=>
    refine gL (by show (!qN _ _)=true;rw[De hj,hk];rfl) ⟨_,rfl,_,rfl,sa,_,_,_,rfl,rfl,bt.of hS2,am (eZ hj),_,rfl,_,rfl,fa,_,_,_,rfl,rfl,bt.of XF,am (eZ (by lia)),by show 2<=sizeLine;decide,fun t ht=>?_⟩;have nD:D1≠t:=ap d8 ht;refine kt _ _ _ (by rw[ao nD];exact d8) ?_ ⟨⟨_,rfl⟩,bD (sm.trans (aj ht)) mW,af,zs++[(t,st.getD j none,fs.getD j none)],by rw[cK];rfl,?_,fun z qW=>?_⟩
    .rw[aP,<-aP (f:=(·.2)),ez];unfold Fa;rw[aP];exact fq (fW _ _) (by rw[cE];exact cQ (show j<17 by lia) (by decide))
    .rw[cK,ez,yR,hk];rfl
    .rcases bY.mp qW with c|c
     .obtain⟨a,b⟩:=hz z c;exact⟨a,by rw[ao a,ao (ap b ht)];exact b⟩
     .rw[cC.mp c];exact⟨nD.symm,by rw[ao nD.symm,af]⟩
  .rintro ys σ H2 ⟨_,sm,d8,zs,rfl,ez,hz⟩;dsimp only;have s2:=s1.trans sm;refine⟨_,rfl,r1,rfl,⟨_,aV.of (sm _ _ CY)⟩,hW (K:=K) (xs:=NV (ledL ts homes st fs st.length)) (fun k σ Hc=>(∃a b,σ=[some (.ref p),some (.ref ha),some (.ref sa),some (.ref fa),some (.ref r1),some (.ref D1),a,b])/\aA H2 Hc/\((ledL ts homes st fs st.length).take k).any (NY n ts homes st fs)=false) ⟨⟨_,_,rfl⟩,aA.refl _,rfl⟩ (fun k σ Hc _ z=>aV.of (z.2.1 _ _ (sm _ _ CY))) ?_ ?_⟩
   .rintro k x σ Hc hk ⟨⟨a,b,rfl⟩,sc,LW⟩;obtain⟨i,hi,rfl⟩:=n6 hk;have him:=cZ hi;obtain⟨il,ib⟩:=tR him;have sHc:=s2.trans sc;have Nc:=N.same sHc;obtain⟨dx,tl,ol,ds,hN,_⟩:=Nc.ob;have tk:(ledL ts homes st fs st.length).take (k+1)=(ledL ts homes st fs st.length).take k++[i]:=by rw[fZ,hi];rfl
    refine⟨_,rfl,_,rfl,sa,_,_,_,rfl,rfl,bt.of (sHc _ _ ie),am (eZ il),?_⟩;cases ho:st.getD i none with
    |none=>unfold jY at ib;rw[ho] at ib;cases ib
    |some h=>
     obtain⟨hn,_⟩:=G.out i h ho;refine⟨_,rfl,p,dx,_,rfl,hN,Vw _ _ _ _,_,rfl,_,rfl,_,rfl,ha,_,_,_,rfl,rfl,bt.of (sHc _ _ j9),am (dR (by lia)),L,p,n,ts,h,homes.getD i 0,rfl,Nc,hn,G.hs i il,fun r3 H3 s3 nr3 hr3=>?_⟩;have lg:(qt n ts h (homes.getD i 0)).length<=n:=aY (fW _ _) oq;have n2:=N.lN.n2;refine⟨r3,rfl,⟨_,aV.of hr3⟩,fun D3 pQ=>?_⟩;refine Df (qt n ts h (homes.getD i 0)) (fun y=>V.int (y:Nat)) (fun _=>true) (fun y=>.bl (!decide ((some h,some y)∈Fa ts homes st fs st.length))) (fun σ=>∃b,σ=[b,some (.int (h:Int)),some (.ref D1)]) hr3 pQ (by lia) ⟨_,rfl⟩ ?_ ?_
     .rintro y σ H4 Kt Kf hy ⟨b',rfl⟩ tm kt kf;refine⟨_,rfl,_,rfl,by show 2<=sizeLine;decide,fun t ht=>⟨_,rfl,t,D1,(some h,some y),zs,rfl,rfl,bt.of af,aV.of ?_,fun z qW=>bt.of ?_,?_⟩⟩
      .exact(sc.trans (s3.trans (tm.trans (aj ht)))) _ _ d8
      .exact(sc.trans (s3.trans (tm.trans (aj ht)))) _ _ (hz z qW).2
      .rw[ez];exact kt _ _ ⟨_,rfl⟩ (aj ht) rfl
     .intro H5 s5 wT;rw[List.filter_eq_self.mpr fun _ _=>rfl] at wT;have sc5:=sc.trans (s3.trans s5);refine⟨D3,(qt n ts h (homes.getD i 0)).map fun y=>!decide ((some h,some y)∈Fa ts homes st fs st.length),rfl,aV.of (by rw[wT,cy];rfl),_,rfl,?_⟩;have ee:((qt n ts h (homes.getD i 0)).map fun y=>!decide ((some h,some y)∈Fa ts homes st fs st.length)).any id=NY n ts homes st fs i:=by
       unfold NY;rw[ho,List.any_map];rfl
      rw[ee];cases hb:NY n ts homes st fs i with
      |true=>
       refine fU ?_;have:NZ n ts homes st fs (ledL ts homes st fs st.length)=false:=by
        unfold NZ;rw[ky.mpr ⟨i,him,hb⟩];rfl
       rw[<-this];exact q H5 (s2.trans sc5)
      |false=>
       refine cG ⟨⟨_,_,rfl⟩,sc5,?_⟩;rw[tk,List.any_append,LW,kN,hb];rfl
   .rintro σ Hc ⟨⟨a,b,rfl⟩,sc,LW⟩;rw[aO,iA] at LW;have:NZ n ts homes st fs (ledL ts homes st fs st.length)=true:=by
     unfold NZ;rw[LW];rfl
    rw[<-this];exact q Hc (s2.trans sc)
end
end jT
namespace fJ
def ren(xs:List Nat)(t:Int×Int):Int×Int:=(ci (xs.getD t.1.toNat 0),ci (xs.getD t.2.toNat 0))
theorem eE{n:Nat}{xs:List Nat}(pm:xs.Perm (List.range n)){a b:Nat}(ha:a<n)(hb:b<n)(e:xs.getD a 0=xs.getD b 0):a=b:=by
 have xl:xs.length=n:=by have:=pm.length_eq;rwa [cE] at this
 rw[dF (by lia),dF (by lia)] at e;exact lF (pm.nodup_iff.mpr lS) (by lia) (by lia) e
theorem lY{n:Nat}{xs:List Nat}(pm:xs.Perm (List.range n)){a:Nat}(ha:a<n):xs.getD a 0<n:=by
 have xl:xs.length=n:=by have:=pm.length_eq;rwa [cE] at this
 exact bH.mp (pm.mem_iff.mp (lE (by lia)))
theorem pX{n:Nat}{xs:List Nat}(pm:xs.Perm (List.range n)){b:Nat}(hb:b<n):∃a,a<n/\xs.getD a 0=b:=by
 have xl:xs.length=n:=by have:=pm.length_eq;rwa [cE] at this
 obtain⟨a,ha,e⟩:=kB.mp (pm.mem_iff.mpr (bH.mpr hb));exact⟨a,by lia,by rw[dF ha];exact e⟩
theorem N0{xs:List Nat}{ts:Ts}{a b:Nat}(h:T ts a b):T (ts.map (ren xs)) (xs.getD a 0) (xs.getD b 0):=bn.mpr ⟨_,h,rfl⟩
theorem yS{xs:List Nat}{ts:Ts}{a:Nat}:∀ {k b:Nat},dS ts k a b->dS (ts.map (ren xs)) k (xs.getD a 0) (xs.getD b 0)
 |0,b,h=>congrArg (fun x=>xs.getD x 0) (show a=b from h)
 |k+1,b,⟨c,w,t⟩=>⟨_,yS w,N0 t⟩
theorem e8{α β:Type}{f:α->β}{c:β->Bool}{d:α->Bool}:∀ {l:List α},(∀x∈l,c (f x)=d x)->((l.map f).filter c).length=(l.filter d).length
 |[],_=>rfl
 |x::l,h=>by
  rw[eJ,c_,c_,h x bZ];have ih:=e8 (l:=l) fun y hy=>h y (du _ hy);split <;> simp[ih]
theorem cA.ren{n:Nat}{ts:Ts}{xs:List Nat}(F:cA n ts)(pm:xs.Perm (List.range n)):cA n (ts.map (ren xs)):=by
 have N4:∀t∈ts,∃a b:Nat,a<n/\b<n/\t=(ci a,ci b):=fun t ht=>by
  obtain⟨⟨a0,a1⟩,⟨b0,b1⟩⟩:=F.rg t ht;exact⟨t.1.toNat,t.2.toNat,by lia,by lia,fQ (kD a0).symm (kD b0).symm⟩
 have c1:∀h:Int,(∃a,a<n/\h=ci (xs.getD a 0))\/∀a,a<n->ci (xs.getD a 0)≠h:=fun h=>by
  by_cases z:∃a,a<n/\h=ci (xs.getD a 0)
  .exact .inl z
  .exact .inr fun a ha e=>z ⟨a,ha,e.symm⟩
 have cf:∀h:Int,((ts.map (fJ.ren xs)).filter fun t=>decide (t.1=h)).length=((ts.map (fJ.ren xs)).filter fun t=>decide (t.2=h)).length/\((ts.map (fJ.ren xs)).filter fun t=>decide (t.1=h)).length<=8:=fun h=>by
  rcases c1 h with ⟨a,ha,rfl⟩|no
  .rw[e8 (d:=fun t=>decide (t.1=ci a)) fun t ht=>?_,e8 (d:=fun t=>decide (t.2=ci a)) fun t ht=>?_]
   .exact⟨F.Eb _,F.most _⟩
   .obtain⟨x,y,hx,hy,rfl⟩:=N4 t ht;exact ku.mpr ⟨fun e=>congrArg ci (eE pm hy ha (cD e)),fun e=>by have:=cD e;show ci (xs.getD y 0)=_;rw[this]⟩
   .obtain⟨x,y,hx,hy,rfl⟩:=N4 t ht;exact ku.mpr ⟨fun e=>congrArg ci (eE pm hx ha (cD e)),fun e=>by have:=cD e;show ci (xs.getD x 0)=_;rw[this]⟩
  .rw[e8 (d:=fun _=>false) fun t ht=>?_,e8 (d:=fun _=>false) fun t ht=>?_]
   .have z:ts.filter (fun _=>false)=[]:=vg.mpr fun x _ q=>nomatch q;rw[z];exact⟨rfl,de _⟩
   .obtain⟨x,y,hx,hy,rfl⟩:=N4 t ht;exact di (no y hy)
   .obtain⟨x,y,hx,hy,rfl⟩:=N4 t ht;exact di (no x hx)
 refine⟨F.n1,F.n2,?_,fun t ht=>?_,fun t ht=>?_,fun h=>(cf h).1,fun h=>(cf h).2,fun a b ha hb=>?_⟩
 .refine(jt.mpr (F.nd.imp_of_mem fun {t u} ht hu ne e=>ne ?_));obtain⟨x,y,hx,hy,rfl⟩:=N4 t ht;obtain⟨x',y',Ag,JI,rfl⟩:=N4 u hu;have e1:x=x':=eE pm hx Ag (cD (congrArg Prod.fst e));have e2:y=y':=eE pm hy JI (cD (congrArg Prod.snd e));rw[e1,e2]
 .obtain⟨u,hu,rfl⟩:=bn.mp ht;obtain⟨x,y,hx,hy,rfl⟩:=N4 u hu;have:=lY pm hx;have:=lY pm hy;exact⟨⟨by show (0:Int)<=ci _;lia,by show ci (xs.getD x 0)<_;lia⟩,⟨by show (0:Int)<=ci _;lia,by show ci (xs.getD y 0)<_;lia⟩⟩
 .obtain⟨u,hu,rfl⟩:=bn.mp ht;have:=F.ne u hu;obtain⟨x,y,hx,hy,rfl⟩:=N4 u hu;intro e;exact this (congrArg ci (eE pm hx hy (cD e)))
 .obtain⟨a',DC,rfl⟩:=pX pm ha;obtain⟨b',xt,rfl⟩:=pX pm hb;obtain⟨k,w⟩:=F.con a' b' DC xt;exact⟨k,yS w⟩
end fJ
namespace jT
open PySem L2 fJ
structure Rn(n:Nat)(ts ix:Ts)(xs:List Nat):Prop where
 f:cA n ts
 f2:cA n ix
 pm:xs.Perm (List.range n)
 tie:∀a b,a<n->b<n->(T ix (xs.getD a 0) (xs.getD b 0)↔T ts a b)
theorem Rn.of{n:Nat}{ts ix:Ts}{xs:List Nat}(F:cA n ts)(pm:xs.Perm (List.range n))(p:ix.Perm (ts.map (ren xs))):Rn n ts ix xs:=by
 refine⟨F,(F.ren pm).perm p,pm,fun a b ha hb=>⟨fun h=>?_,fun h=>p.mem_iff.mpr (N0 h)⟩⟩;obtain⟨t,ht,e⟩:=bn.mp (p.mem_iff.mp h);obtain⟨⟨a0,a1⟩,⟨b0,b1⟩⟩:=F.rg t ht;have e1:=eE pm (by lia) ha (cD (congrArg Prod.fst e));have e2:=eE pm (by lia) hb (cD (congrArg Prod.snd e));have:t=((a:Int),(b:Int)):=fQ (by show t.1=_;lia) (by show t.2=_;lia);rw[this] at ht;exact ht
section
variable {n:Nat} {ts ix:Ts} {xs:List Nat}
theorem Rn.walk(R:Rn n ts ix xs){a:Nat}(ha:a<n):∀ {k b:Nat},b<n->(dS ix k (xs.getD a 0) (xs.getD b 0)↔dS ts k a b)
 |0,b,hb=>⟨fun h=>eE R.pm ha hb h,fun h=>congrArg (fun x=>xs.getD x 0) (show a=b from h)⟩
 |k+1,b,hb=>by
  constructor
  .rintro⟨c,w,t⟩;obtain⟨c',ut,rfl⟩:=pX R.pm (R.f2.Xk t).1;exact⟨c',(R.walk ha ut).mp w,(R.tie c' b ut hb).mp t⟩
  .rintro⟨c,w,t⟩;have hc:=(R.f.Xk t).1;exact⟨_,(R.walk ha hc).mpr w,(R.tie c b hc hb).mpr t⟩
theorem Rn.far(R:Rn n ts ix xs){a b:Nat}(ha:a<n)(hb:b<n):far ix (xs.getD a 0) (xs.getD b 0)=far ts a b:=by
 obtain⟨w,m⟩:=R.f.Zq ha hb;exact AY ⟨(R.walk ha hb).mpr w,fun k h=>m k ((R.walk ha hb).mp h)⟩
theorem Rn.out(R:Rn n ts ix xs){h y:Nat}(hh:h<n)(hy:y<n):xs.getD y 0∈bj n ix (xs.getD h 0)↔y∈bj n ts h:=by
 rw[fK R.f2 (lY R.pm hh),fK R.f hh];exact R.tie h y hh hy
theorem Rn.aar(R:Rn n ts ix xs){h:Nat}(hh:h<n):(bj n ix (xs.getD h 0)).Perm ((bj n ts h).map fun y=>xs.getD y 0):=by
 refine(List.perm_ext_iff_of_nodup (mD (lY R.pm hh)) (jt.mpr ((mD hh).imp_of_mem fun {a b} ha hb ne e=>ne (eE R.pm (dL R.f hh ha) (dL R.f hh hb) e)))).mpr fun z=>?_;rw[bn];constructor
 .intro hz;obtain⟨y,hy,rfl⟩:=pX R.pm (dL R.f2 (lY R.pm hh) hz);exact⟨y,(R.out hh hy).mp hz,rfl⟩
 .rintro⟨y,hy,rfl⟩;exact(R.out hh (dL R.f hh hy)).mpr hy
theorem Rn.len(R:Rn n ts ix xs){h:Nat}(hh:h<n):(bj n ix (xs.getD h 0)).length=(bj n ts h).length:=by
 rw[(R.aar hh).length_eq,aP]
def iO(xs:List Nat)(st:List (Option Nat)):List (Option Nat):=st.map fun o=>o.map fun y=>xs.getD y 0
def va(xs homes:List Nat):List Nat:=homes.map fun y=>xs.getD y 0
theorem d5{st:List (Option Nat)}{j:Nat}:(iO xs st).getD j none=(st.getD j none).map fun y=>xs.getD y 0:=by
 unfold iO;rw[aS,bN,aS];cases st[j]? <;> rfl
theorem fm{st:List (Option Nat)}:(iO xs st).length=st.length:=aP _
theorem ow{homes:List Nat}:(va xs homes).length=homes.length:=aP _
theorem oy{homes:List Nat}{j:Nat}(h:j<homes.length):(va xs homes).getD j 0=xs.getD (homes.getD j 0) 0:=by
 unfold va;rw[aS,bN,bq h,show homes.getD j 0=homes[j] by rw[aS,bq h];rfl];rfl
theorem Rn.led(R:Rn n ts ix xs){homes:List Nat}{st fs:List (Option Nat)}(G:yM n homes st fs)(j:Nat):jY ix (va xs homes) (iO xs st) (iO xs fs) j=jY ts homes st fs j:=by
 unfold jY;rw[d5,d5];cases e:st.getD j none with
 |none=>rfl
 |some h=>
  have hj:j<st.length:=by
   rcases mh j st.length with c|c
   .exact c
   .rw[aS,cj c] at e;cases e
  obtain⟨hn,y,ey,hy,_⟩:=G.out j h e;have hm:=G.hs j hj;rw[ey,oy (by rw[G.l1];exact hj)];show decide (fJ.far ix (xs.getD h 0) (xs.getD (homes.getD j 0) 0)<=fJ.far ix (xs.getD y 0) (xs.getD (homes.getD j 0) 0))=_;rw[R.far hn hm,R.far hy hm];rfl
theorem Rn.ledL(R:Rn n ts ix xs){homes:List Nat}{st fs:List (Option Nat)}(G:yM n homes st fs)(m:Nat):ledL ix (va xs homes) (iO xs st) (iO xs fs) m=jT.ledL ts homes st fs m:=by
 unfold jT.ledL;exact vv fun j _=>R.led G j
theorem IY{st:List (Option Nat)}{j h:Nat}(e:st.getD j none=some h):j<st.length:=by
 rcases mh j st.length with c|c
 .exact c
 .rw[aS,cj c] at e;cases e
theorem i3{st:List (Option Nat)}{j z:Nat}(e:(iO xs st).getD j none=some z):∃y,st.getD j none=some y/\xs.getD y 0=z:=by
 rw[d5] at e;obtain⟨y,a,b⟩:=re.mp e;exact⟨y,a,b⟩
theorem IZ{st:List (Option Nat)}{j:Nat}(e:(iO xs st).getD j none=none):st.getD j none=none:=by
 rw[d5,zo] at e;exact e
theorem Rn.nr(R:Rn n ts ix xs){homes:List Nat}{st fs:List (Option Nat)}(G:yM n homes st fs){h y:Nat}(hh:h<n)(hy:y<n)(m:Nat):(some (xs.getD h 0),some (xs.getD y 0))∈Fa ix (va xs homes) (iO xs st) (iO xs fs) m↔(some h,some y)∈Fa ts homes st fs m:=by
 unfold Fa;rw[bn,bn];constructor
 .rintro⟨j,hj,e⟩;obtain⟨j1,j2⟩:=cS.mp hj;rw[R.led G] at j2;obtain⟨h',e1,e2⟩:=i3 (show (iO xs st).getD j none=some (xs.getD h 0) from congrArg Prod.fst e);obtain⟨y',e3,e4⟩:=i3 (show (iO xs fs).getD j none=some (xs.getD y 0) from congrArg Prod.snd e);obtain⟨hn,y'',e5,JI,_⟩:=G.out j h' e1;rw[e3] at e5;cases e5;rw[eE R.pm hn hh e2] at e1;rw[eE R.pm JI hy e4] at e3;exact⟨j,cS.mpr ⟨j1,j2⟩,by rw[e1,e3]⟩
 .rintro⟨j,hj,e⟩;obtain⟨j1,j2⟩:=cS.mp hj;have e1:st.getD j none=some h:=congrArg Prod.fst e;have e2:fs.getD j none=some y:=congrArg Prod.snd e;exact⟨j,cS.mpr ⟨j1,by rw[R.led G];exact j2⟩,by rw[d5,d5,e1,e2];rfl⟩
theorem Rn.ea(R:Rn n ts ix xs){homes:List Nat}{st fs:List (Option Nat)}(G:yM n homes st fs):NZ n ix (va xs homes) (iO xs st) (iO xs fs) (jT.ledL ix (va xs homes) (iO xs st) (iO xs fs) (iO xs st).length)=NZ n ts homes st fs (jT.ledL ts homes st fs st.length):=by
 rw[fm,R.ledL G];unfold NZ;congr 1;rw[hV,ky,ky];have key:∀i∈jT.ledL ts homes st fs st.length,(NY n ix (va xs homes) (iO xs st) (iO xs fs) i=true↔NY n ts homes st fs i=true):=fun i hi=>by
  obtain⟨il,ib⟩:=tR hi;cases e:st.getD i none with
  |none=>unfold jY at ib;rw[e] at ib;cases ib
  |some h=>
   obtain⟨hn,_⟩:=G.out i h e;have hm:=G.hs i il;unfold NY;rw[d5,e,oy (by rw[G.l1];exact il),fm,ky,ky];show (∃z,z∈qt n ix (xs.getD h 0) (xs.getD (homes.getD i 0) 0)/\(!decide ((some (xs.getD h 0),some z)∈_))=true)↔∃y,y∈qt n ts h (homes.getD i 0)/\_;constructor
   .rintro⟨z,hz,c⟩;obtain⟨z1,z2⟩:=cS.mp hz;obtain⟨y,hy,rfl⟩:=pX R.pm (dL R.f2 (lY R.pm hn) z1);have z2:=dB z2;rw[R.far hy hm,R.far hn hm] at z2;refine⟨y,cS.mpr ⟨(R.out hn hy).mp z1,cx z2⟩,?_⟩;rw[zU,rd] at c |-;exact fun w=>c ((R.nr G hn hy _).mpr w)
   .rintro⟨y,JI,c⟩;obtain⟨y1,y2⟩:=cS.mp JI;have hy:=dL R.f hn y1;have y2:=dB y2;refine⟨xs.getD y 0,cS.mpr ⟨(R.out hn hy).mpr y1,cx (by rw[R.far hy hm,R.far hn hm];exact y2)⟩,?_⟩;rw[zU,rd] at c |-;exact fun w=>c ((R.nr G hn hy _).mp w)
 exact⟨fun ⟨i,hi,c⟩=>⟨i,hi,(key i hi).mp c⟩,fun ⟨i,hi,c⟩=>⟨i,hi,(key i hi).mpr c⟩⟩
theorem Rn.hd(R:Rn n ts ix xs){st fs:List (Option Nat)}(ss:∀j h,st.getD j none=some h->h<n)(d:Hd n ts st fs):Hd n ix (iO xs st) (iO xs fs):=by
 have fl:∀j y,fs.getD j none=some y->∃h,h<n/\y<n/\st.getD j none=some h:=fun j y e=>by
  cases c:st.getD j none with
  |none=>rw[d.bz j c] at e;cases e
  |some h=>
   obtain⟨y',e',m⟩:=d.out j h c;rw[e] at e';cases e';exact⟨h,ss j h c,dL R.f (ss j h c) m,rfl⟩
 refine⟨by rw[fm,fm,d.len],fun j hj=>?_,fun j z hj=>?_,fun j k z ne a b=>?_⟩
 .rw[d5,d.bz j (IZ hj)];rfl
 .obtain⟨h,e,rfl⟩:=i3 hj;obtain⟨y,ey,hy⟩:=d.out j h e;exact⟨xs.getD y 0,by rw[d5,ey];rfl,(R.out (ss j h e) (dL R.f (ss j h e) hy)).mpr hy⟩
 .obtain⟨y,e1,rfl⟩:=i3 a;obtain⟨y',e2,e3⟩:=i3 b;obtain⟨h1,p1,q1,r1⟩:=fl j y e1;obtain⟨h2,p2,q2,r2⟩:=fl k y' e2;rw[eE R.pm q2 q1 e3] at e2;intro z;rw[d5,d5,r1,r2] at z;injection z with z;exact d.inj j k y ne e1 e2 (by rw[r1,r2,eE R.pm p1 p2 z])
theorem mT{st:List (Option Nat)}(ss:∀y,some y∈st->y<n){j h:Nat}(e:st.getD j none=some h):h<n:=by
 have hj:=IY e;exact ss h (by rw[<-e,aS,bq hj];exact dv _)
theorem LX{st:List (Option Nat)}{z:Nat}(h:some z∈st):∃j,st.getD j none=some z:=by
 obtain⟨j,hj,e⟩:=rn h;exact⟨j,by rw[aS,bq hj,e];rfl⟩
theorem Dg(pm:xs.Perm (List.range n)){y:Nat}(hy:y<n):∀ {st:List (Option Nat)},(∀z,some z∈st->z<n)->(iO xs st).count (some (xs.getD y 0))=st.count (some y)
 |[],_=>rfl
 |o::st,h=>by
  have ih:=Dg pm hy (st:=st) fun z hz=>h z (du _ hz);unfold iO at ih |-;rw[eJ,vE,vE,ih];congr 1;cases o with
  |none=>rfl
  |some z=>
   have hz:=h z bZ;show (if (some (xs.getD z 0)==some (xs.getD y 0))=true then 1 else 0)=_;by_cases c:z=y
   .subst c;simp
   .rw[au (by simpa using fun e=>c (eE pm hz hy e)),au (by simpa using c)]
theorem Rn.aas(R:Rn n ts ix xs){homes:List Nat}{st:List (Option Nat)}(S:mP n ts homes st):mP n ix (va xs homes) (iO xs st):=by
 refine⟨by rw[fm,ow,S.len],by rw[fm];exact S.le,fun x hx=>?_,fun z hz=>?_,fun z hz=>?_,fun j z e w=>?_⟩
 .obtain⟨y,hy,rfl⟩:=bn.mp hx;exact lY R.pm (S.hs y hy)
 .obtain⟨j,e⟩:=LX hz;obtain⟨y,e1,rfl⟩:=i3 e;exact lY R.pm (mT S.ss e1)
 .obtain⟨y,hy,rfl⟩:=pX R.pm hz;rw[Dg R.pm hy S.ss,R.len hy];exact S.NG y hy
 .obtain⟨y,e1,rfl⟩:=i3 e;have hj:=IY e1;rw[oy (by rw[S.len];exact hj)] at w;have hm:homes.getD j 0<n:=S.hs _ (by rw[aS,bq (by rw[S.len];exact hj)];exact dv _);exact S.ne j y e1 (eE R.pm hm (mT S.ss e1) w)
theorem Rn.nx(R:Rn n ts ix xs){homes:List Nat}{fs:List (Option Nat)}(hl:homes.length=fs.length)(hs:∀x∈homes,x<n)(hf:∀j y,fs.getD j none=some y->y<n):wZ (va xs homes) (iO xs fs)=iO xs (wZ homes fs):=by
 refine i7 fun j=>?_;unfold wZ;rw[fm];unfold iO;rw[cy];by_cases c:j<fs.length
 .rw[bN,bN,fw c];refine congrArg some ?_;show (if (iO xs fs).getD j none=some ((va xs homes).getD j 0) then none else (iO xs fs).getD j none)=Option.map _ (if fs.getD j none=some (homes.getD j 0) then none else fs.getD j none);rw[d5,oy (by lia)];have hm:homes.getD j 0<n:=hs _ (by rw[aS,bq (by lia)];exact dv _);cases e:fs.getD j none with
  |none=>rfl
  |some y=>
   have hy:=hf j y e;rw[oU];by_cases c:y=homes.getD j 0
   .subst c;rw[aD rfl,aD rfl];rfl
   .rw[au (fun z=>c (eE R.pm hy hm (bX z))),au (fun z=>c (bX z))];rfl
 .rw[cj (by rw[aP,cE];lia),cj (by rw[aP,cE];lia)]
def pY(n:Nat)(xs:List Nat):iN->iN
 |some (some i)=>if 0<=i/\i<n then some (some ((xs.getD i.toNat 0:Nat):Int)) else some (some i)
 |e=>e
theorem LY(pm:xs.Perm (List.range n)){e e':iN}(h:pY n xs e=pY n xs e'):e=e':=by
 have rg:∀i:Int,0<=i/\i<n->0<=((xs.getD i.toNat 0:Nat):Int)/\((xs.getD i.toNat 0:Nat):Int)<n:=fun i hi=>by
  have:=lY pm (a:=i.toNat) (by lia);lia
 match e,e',h with
 |none,none,_=>rfl
 |none,some none,h=>cases h
 |some none,none,h=>cases h
 |some none,some none,_=>rfl
 |none,some (some i),h=>unfold pY at h;dsimp only at h;split at h <;> cases h
 |some none,some (some i),h=>unfold pY at h;dsimp only at h;split at h <;> cases h
 |some (some i),none,h=>unfold pY at h;dsimp only at h;split at h <;> cases h
 |some (some i),some none,h=>unfold pY at h;dsimp only at h;split at h <;> cases h
 |some (some i),some (some k),h=>
  unfold pY at h;dsimp only at h;by_cases c1:0<=i/\i<n
  .rw[aD c1] at h;by_cases c2:0<=k/\k<n
   .rw[aD c2] at h;injection h with h;injection h with h;have:=eE pm (a:=i.toNat) (b:=k.toNat) (by lia) (by lia) (cD h);rw[show i=k by lia]
   .rw[au c2] at h;injection h with h;injection h with h;have:=rg i c1;exact absurd (h ▸ this) c2
  .rw[au c1] at h;by_cases c2:0<=k/\k<n
   .rw[aD c2] at h;injection h with h;injection h with h;have:=rg k c2;exact absurd (h ▸ this) c1
   .rw[au c2] at h;exact h
theorem yT{e:iN}:pY n xs e=none↔e=none:=by
 match e with
 |none=>exact⟨fun _=>rfl,fun _=>rfl⟩
 |some none=>exact⟨(fun h=>by cases h),(fun h=>by cases h)⟩
 |some (some i)=>
  unfold pY;dsimp only;constructor
  .intro h;split at h <;> cases h
  .intro h;cases h
theorem oz{es:List iN}{j:Nat}:(es.map (pY n xs)).getD j none=pY n xs (es.getD j none):=by
 rw[aS,bN,aS];cases es[j]? <;> rfl
theorem yU{i:Int}{l:List Nat}:qN (.int i) (NV l)=true↔∃y∈l,i=(y:Int):=by
 unfold qN;rw[ky];constructor
 .rintro⟨v,hv,e⟩;obtain⟨y,hy,rfl⟩:=bn.mp hv;have:(((y:Nat):Int)==i)=true\/(i==((y:Nat):Int))=true:=by first|exact .inl e|exact .inr e
  refine⟨y,hy,?_⟩;rcases this with t|t <;> simp at t <;> lia
 .rintro⟨y,hy,rfl⟩;exact⟨.int (y:Int),bn.mpr ⟨y,hy,rfl⟩,by show ((y:Int)==(y:Int))=true;simp⟩
theorem Rn.step(R:Rn n ts ix xs){h:Nat}(hh:h<n)(e:iN):tK n ix (xs.getD h 0) (pY n xs e)=tK n ts h e:=by
 match e with
 |none=>rfl
 |some none=>rfl
 |some (some i)=>
  by_cases c:0<=i/\i<n
  .have e1:pY n xs (some (some i))=some (some ((xs.getD i.toNat 0:Nat):Int)):=aD c;rw[e1,hV];show qN _ _=true↔qN _ _=true;rw[yU,yU];have hy:i.toNat<n:=by lia
   constructor
   .rintro⟨z,hz,ez⟩;have ez:=cD ez;subst ez;exact⟨i.toNat,(R.out hh hy).mp hz,by lia⟩
   .rintro⟨y,JI,rfl⟩;exact⟨_,(R.out hh (dL R.f hh JI)).mpr JI,rfl⟩
  .have e1:pY n xs (some (some i))=some (some i):=au c;rw[e1,hV];show qN _ _=true↔qN _ _=true;rw[yU,yU];constructor
   .rintro⟨z,hz,rfl⟩;exact absurd ⟨by lia,by have:=dL R.f2 (lY R.pm hh) hz;lia⟩ c
   .rintro⟨z,hz,rfl⟩;exact absurd ⟨by lia,by have:=dL R.f hh hz;lia⟩ c
theorem Rn.wr(R:Rn n ts ix xs){st:List (Option Nat)}(ss:∀y,some y∈st->y<n)(o:Option (List iN)):u9 n ix (iO xs st) (o.map fun es=>es.map (pY n xs))=u9 n ts st o:=by
 cases o with
 |none=>rfl
 |some es=>
  show (if (es.map (pY n xs)).length=(iO xs st).length then _ else _)=if es.length=st.length then _ else _
  rw[aP,fm];by_cases c:es.length=st.length
  .rw[aD c,aD c];have key:∀i,tL n ix (iO xs st) (es.map (pY n xs)) i=tL n ts st es i:=fun i=>by
    unfold tL;rw[d5];cases e:st.getD i none with
    |none=>
     show (if _ then _ else _)=if _ then _ else _
     rw[oz];by_cases c:es.getD i none=none
     .rw[aD (yT.mpr c),aD c]
     .rw[au (fun z=>c (yT.mp z)),au c]
    |some h=>
     have hn:=mT ss e;show (if tK n ix (xs.getD h 0) _=true then _ else _)=if _ then _ else _
     rw[oz,R.step hn];have ea:∀j,y_ (iO xs st) (es.map (pY n xs)) i (xs.getD h 0) j=y_ st es i h j:=fun j=>by
      unfold y_;rw[d5,oz,oz];congr 1
      .refine ku.mpr ⟨fun z=>?_,fun z=>by rw[z];rfl⟩;obtain⟨y,e1,e2⟩:=re.mp z;rw[e1,eE R.pm (mT ss e1) hn e2]
      .exact ku.mpr ⟨LY R.pm,fun z=>by rw[z]⟩
     rw[show y_ (iO xs st) (es.map (pY n xs)) i (xs.getD h 0)=y_ st es i h from funext ea]
   rw[show tL n ix (iO xs st) (es.map (pY n xs))=tL n ts st es from funext key]
  .rw[au c,au c]
end
end jT
namespace L2
open PySem PySem.Spec PyProof.Rows
end L2
namespace jT
open PySem L2 fJ
abbrev sNm:Stmt:=iK 53
abbrev sRw:Stmt:=iK 54
theorem lQ:(["_law_one","_law_n","_law_order_here"]:List Str).Nodup:=by decide +kernel
def I0(n:Nat)(xs:List Nat)(e:iN)(v:V):V:=match e with
 |some (some i)=>if 0<=i/\i<n then .int ((xs.getD i.toNat 0:Nat):Int) else .int i
 |_=>v
theorem Vy{K:PySem.W.Frag}{H:Hp}{n:Nat}{xs:List Nat}{v:V}{e:iN}(h:En K H v e):En K H (I0 n xs e v) (pY n xs e):=by
 cases h with
 |bz=>exact .bz
 |@th _ o hn w=>
  cases w with
  |int i=>
   by_cases c:0<=i/\i<n
   .rw[show I0 n xs (some (some i)) (.int i)=.int ((xs.getD i.toNat 0:Nat):Int) from aD c,show pY n xs (some (some i))=some (some ((xs.getD i.toNat 0:Nat):Int)) from aD c];exact .th (fun z=>by cases z) (.int _)
   .rw[show I0 n xs (some (some i)) (.int i)=.int i from au c,show pY n xs (some (some i))=some (some i) from au c];exact .th (fun z=>by cases z) (.int _)
  |no h=>exact .th hn (.no h)
def JK(n:Nat)(xs:List Nat)(es:List iN)(vs:List V):List V:=(List.range vs.length).map fun i=>I0 n xs (es.getD i none) (vs.getD i .bz)
theorem QD{K:PySem.W.Frag}{H:Hp}{n:Nat}{xs:List Nat}{vs:List V}{es:List iN}(h:EB K H vs es):EB K H (JK n xs es vs) (es.map (pY n xs)):=by
 obtain⟨hl,he⟩:=h;refine⟨by unfold JK;rw[aP,aP,cE,hl],fun i hi=>?_⟩;rw[aP] at hi;have e:(JK n xs es vs).getD i .bz=I0 n xs (es.getD i none) (vs.getD i .bz):=by
  unfold JK;rw[aS,bN,fw (by lia)];rfl
 rw[e,oz];exact Vy (he i hi)
theorem I_{n:Nat}{xs homes:List Nat}(hs:∀x∈homes,x<n):JK n xs (homes.map fun y:Nat=>some (some (y:Int))) (NV homes)=NV (va xs homes):=by
 refine i7 fun i=>?_;unfold JK;by_cases c:i<homes.length
 .rw[bN,fw (by rw[aO];exact c),dR (by rw[ow];exact c),oy c];have hm:homes.getD i 0<n:=hs _ (by rw[aS,bq c];exact dv _);have e1:(homes.map fun y:Nat=>(some (some (y:Int)):iN)).getD i none=some (some ((homes.getD i 0:Nat):Int)):=by
   rw[aS,bN,bq c,show homes.getD i 0=homes[i] by rw[aS,bq c];rfl];rfl
  refine congrArg some ?_;show I0 n xs _ _=_;rw[e1];exact aD ⟨by lia,by lia⟩
 .rw[cj (by rw[aP,cE,aO];lia),cj (by rw[aO,ow];lia)]
theorem EK{K:PySem.W.Frag}{H:Hp}{homes:List Nat}:EB K H (NV homes) (homes.map fun y:Nat=>some (some (y:Int))):=by
 refine⟨by rw[aO,aP],fun i hi=>?_⟩;rw[aP] at hi;have e1:(homes.map fun y:Nat=>(some (some (y:Int)):iN)).getD i none=some (some ((homes.getD i 0:Nat):Int)):=by
  rw[aS,bN,bq hi,show homes.getD i 0=homes[i] by rw[aS,bq hi];rfl];rfl
 rw[e1,aS,dR hi];exact .th (fun z=>by cases z) (.int _)
def eO(o:Option Nat):iN:=o.map fun y=>some (y:Int)
theorem BQ{st:List (Option Nat)}{i:Nat}:(st.map eO).getD i none=eO (st.getD i none):=by
 rw[aS,bN,aS];cases st[i]? <;> rfl
theorem QE{K:PySem.W.Frag}{H:Hp}{st:List (Option Nat)}:EB K H (st.map oV) (st.map eO):=by
 refine⟨by rw[aP,aP],fun i hi=>?_⟩;rw[aP] at hi;rw[BQ,aS,eZ hi];cases st.getD i none with
 |none=>exact .bz
 |some y=>exact .th (fun z=>by cases z) (.int _)
theorem Ja{n:Nat}{xs:List Nat}{st:List (Option Nat)}(ss:∀j y,st.getD j none=some y->y<n):JK n xs (st.map eO) (st.map oV)=(iO xs st).map oV:=by
 refine i7 fun i=>?_;unfold JK;by_cases c:i<st.length
 .rw[bN,fw (by rw[aP];exact c),eZ (by rw[fm];exact c),d5];refine congrArg some ?_;show I0 n xs _ _=_;have e2:(st.map oV).getD i .bz=oV (st.getD i none):=by rw[aS,eZ c];rfl
  rw[BQ,e2];cases e:st.getD i none with
  |none=>rfl
  |some y=>exact aD ⟨by lia,by have:=ss i y e;lia⟩
 .rw[cj (by rw[aP,cE,aP];lia),cj (by rw[aP,fm];lia)]
theorem Vz{K:PySem.W.Frag}{H:Hp}{v:V}{e:iN}(h:En K H v e):v=.bz/\e=none\/∃o,e=some o/\Wh K H v o:=by
 cases h with
 |bz=>exact .inl ⟨rfl,rfl⟩
 |th h w=>exact .inr ⟨_,rfl,w⟩
section
variable {P:Program} {w:World} {K:PySem.W.Frag} {mg:Str->Option Value} {base:Heap}
theorem aat:aT ["_law_n","_law_order_here","_law_thing"] ["_law_n","_law_order_here","_law_thing"] (av sNm):=cV (by decide +kernel)
def LZ(K:PySem.W.Frag):Sp:=fun vs H Q _=>∃ (n:Nat) (od:Addr) (xs:List Nat) (v:V) (e:iN),vs=[.int n,.ref od,v]/\H od=some (.lst (NV xs))/\xs.length=n/\En K H v e/\Q (I0 n xs e v) H
theorem VA{f:Addr}{fd:FuncData}(F:gv K "_law_named" "_law_named" sNm f fd)(B:Bl mg):bU P w K mg base bv 1 f fd ["_law_n","_law_order_here","_law_thing"] (LZ K):=by
 refine F.ok aat (fun vs H Q E h=>?_) (fun dY A outer s H vs Q E hr h=>?_)
 .obtain⟨n,od,xs,v,e,rfl,_⟩:=h;rfl
 .obtain⟨n,od,xs,v,e,rfl,zd,xl,en,q⟩:=h;refine⟨_,(ai (bA (PW.pt (io (dq (aI hZ (by rfl) B.Nq pZ (aa (pv 2) (aa (i9 (v:=.ty "int") rfl B.int PyProof.Rows.boot_int rfl) ae)))) (io (fT (dq (aI hZ (by rfl) B.Nq pZ (aa (pv 2) (aa (i9 (v:=.ty "bool") rfl B.bool PyProof.Rows.boot_bool rfl) ae))))) (gU (FI B4 iV aq (pv 2) (pv 0)))))) (ak (aM (aG aH (pv 1) (pv 2) (fun _ _=>rfl)))) aQ)
   (ak (aM (pv 2)))),?_⟩
  rcases Vz en with ⟨rfl,rfl⟩|⟨o,rfl,W⟩
  .exact⟨_,rfl,_,_,_,.type "NoneType",false,rfl,⟨rfl,by kernel_rfl⟩,.of .bz,_,rfl,cG (cG ⟨_,rfl,q⟩)⟩
  cases W with
  |int i=>
   refine⟨_,rfl,_,_,_,.type "int",true,rfl,⟨rfl,ql⟩,.of (.int _),_,rfl,fU ?_⟩;refine⟨_,rfl,_,_,_,.type "int",false,rfl,⟨rfl,nP⟩,.of (.int _),_,rfl,fU ?_⟩;by_cases c:0<=i/\i<n
   .have e1:I0 n xs (some (some i)) (.int i)=.int ((xs.getD i.toNat 0:Nat):Int):=aD c;rw[e1] at q;refine⟨_,rfl,_,_,rfl,rfl,_,rfl,gL (cx c.1) ⟨_,rfl,_,_,rfl,rfl,_,rfl,gL (cx c.2) ⟨_,rfl,_,rfl,od,_,_,_,rfl,rfl,aV.of zd,?_,q⟩⟩⟩;have:=am (dR (xs:=xs) (j:=i.toNat) (by lia));rw[kD c.1] at this;exact this
   .have e1:I0 n xs (some (some i)) (.int i)=.int i:=au c;rw[e1] at q;refine⟨_,rfl,_,_,rfl,rfl,_,rfl,eI (fun c1=>⟨_,rfl,_,_,rfl,rfl,_,rfl,f9 (di fun z=>c ⟨dB c1,z⟩) ⟨_,rfl,q⟩⟩) (fun c1=>⟨_,rfl,cG ⟨_,rfl,q⟩⟩)⟩
  |no h=>
   obtain⟨t,ty,h|⟨h1,h2⟩⟩:=h
   .exact⟨_,rfl,_,_,_,t,false,rfl,⟨rfl,h⟩,ty,_,rfl,cG (cG ⟨_,rfl,q⟩)⟩
   .refine⟨_,rfl,_,_,_,t,true,rfl,⟨rfl,h1⟩,ty,_,rfl,fU ?_⟩;exact⟨_,rfl,_,_,_,t,true,rfl,⟨rfl,h2⟩,ty,_,rfl,cG (cG ⟨_,rfl,q⟩)⟩
theorem aau:aT ["_law_n","_law_order_here","_law_row_here"] ["_law_n","_law_order_here","_law_row_here"] (av sRw):=cV (by decide +kernel)
def QF(K:PySem.W.Frag):Sp:=fun vs H Q _=>∃ (n:Nat) (od:Addr) (xs:List Nat) (x:V) (o:Option (List iN)),vs=[.int n,.ref od,x]/\H od=some (.lst (NV xs))/\xs.length=n/\(∀H',aA H H'->Th K H' x o)/\(o=none->Q x H)/\
 ∀ (a:Addr) (vs:List V) (es:List iN),x=.ref a->o=some es->H a=some (.tup vs)->vs.length=es.length/\vs.length<=20000/\∀t H',aA H H'->H' t=some (.tup (JK n xs es vs))->Q (.ref t) H'
theorem VB{f:Addr}{fd:FuncData}(F:gv K "_law_row" "_law_row" sRw f fd)(B:Bl mg)(NM:cu P w K mg base bv 1 "_law_named" ["_law_n","_law_order_here","_law_thing"] (LZ K)):bU P w K mg base bv 2 f fd ["_law_n","_law_order_here","_law_row_here"] (QF K):=by
 refine F.ok aau (fun vs H Q E h=>?_) (fun dY A outer s H vs Q E hr h=>?_)
 .obtain⟨n,od,xs,x,o,rfl,_⟩:=h;rfl
 .obtain⟨n,od,xs,x,o,rfl,zd,xl,th,k1,k2⟩:=h;have h1:cB 1 _:=hr;refine'⟨_,(ai (bA (dq (aI hZ (by rfl) B.Nq pZ (aa (pv 2) (aa (i9 (v:=.ty "tuple") rfl B.tup m9 rfl) ae)))) (ak (aM (cL d_ (by rfl) B.tup m9 (aa ?c1 ae)))) aQ)
   (ak (aM (pv 2)))),?_⟩
  case c1=>
   refine' bV (g:=(bK 0)) (te:=(qb (LZ K) [] E0 (bi (aX 1) (bi (aX 2) (bi (aX 0) dQ))))) (NB:=["_law_one","_law_n","_law_order_here"]) (src:=[none,some 0,some 1]) (bJ (by kernel_rfl)) rfl (rX (pv 2)) ?g ?t ?e;case g=>exact fun cl C s₃ H₃ fp=>(aw (i:=0) lQ rfl aU bL)
   case t=>exact fun cl C s₃ H₃ fp=>ce
   case e=>exact fun cl C s₃ H₃ fp=>(az NM h1 aL (aa (pv 1) (aa (pv 2) (aa (pv 0) ae))))
  cases th H (aA.refl _) with
  |no ty h=>exact⟨_,rfl,_,_,_,_,false,rfl,⟨rfl,h⟩,ty,_,rfl,cG ⟨_,rfl,k1 rfl⟩⟩
  |@tup a vs es ha en=>
   obtain⟨_,vl,q⟩:=k2 a vs es rfl rfl ha;refine⟨_,rfl,_,_,_,.type "tuple",true,rfl,⟨rfl,wD⟩,.of (.tup ha),_,rfl,fU ?_⟩;refine⟨_,rfl,a,rfl,⟨_,bt.of ha⟩,fun D hD=>?_⟩;refine yE (K:=K) (xs:=vs) (fun i ys σ H2=>(∃b,σ=[b,some (.int (n:Int)),some (.ref od)])/\aA H H2/\H2 D=some (.lst ys)/\ys=(List.range i).map fun i=>I0 n xs (es.getD i none) (vs.getD i .bz)) ⟨⟨_,rfl⟩,aj hD,af,rfl⟩ (fun i ys σ H2 _ z=>bt.of (z.2.1 _ _ ha)) ?_ ?_
   .rintro i v ys σ H2 Kt Kf hv ⟨⟨b,rfl⟩,sm,iq,rfl⟩ kt kf;have hi:=(cY.mp hv).1;have ev:vs.getD i .bz=v:=by rw[aS,hv];rfl
    have e2:EB K H2 vs es:=by
     cases th H2 sm with
     |@tup _ VC vS DC en'=>
      have:VC=vs:=by have:=sm _ _ ha;rw[DC] at this;injection this with this;injection this
      rw[<-this];exact en'
    have env:En K H2 v (es.getD i none):=by rw[<-ev];exact e2.2 i (by rw[<-e2.1];exact hi)
    refine⟨_,rfl,_,rfl,_,rfl,n,od,xs,v,es.getD i none,rfl,sm _ _ zd,xl,env,?_⟩;refine kt _ _ _ iq (by rw[aP,cE];exact cQ (show i<20000 by lia) (by decide)) ⟨⟨_,rfl⟩,bD sm hD,af,?_⟩;rw[iQ,cK,List.map_singleton,ev]
   .rintro ys σ H2 ⟨_,sm,iq,rfl⟩;exact⟨D,_,rfl,.inl ⟨aV.of iq,fun t ht=>q t _ (sm.trans (aj ht)) af⟩⟩
end
end jT
namespace L2
open PySem PySem.Spec PyProof.Rows
section
variable {X:Cx}
theorem L3{H:Hp}{z:Str}:UO X H 0 (.str z) (.str z):=by
 intro ag s σ A u v I hu rx ry;have h:=se (A:=A) (s:=s) rx ry rfl rfl;rw[show iH (.str z) (.str z)=true by show (z==z)=true;simp] at h;exact h
theorem QG(hu:X.A.units+2<cLine):j6 X (compareOp .NotEq) (fun x y H Q=>Yq x y H Q\/PR X true 0 x y H Q):=by
 intro ag s σ H x y v u Q I rx ry h;rcases h with h|h
 .exact qa ag s σ H x y v u Q I rx ry h
 .exact K9 (by lia) ag s σ H x y v u Q I rx ry h
end
end L2
namespace jT
open PySem L2 fJ
theorem aav{K:PySem.W.Frag}{H:Hp}{o:Option Nat}:En K H (oV o) (eO o):=by
 cases o with
 |none=>exact .bz
 |some y=>exact .th (fun z=>by cases z) (.int _)
theorem EL{K:PySem.W.Frag}{H:Hp}{a:Addr}{fs:List (Option Nat)}(h:H a=some (.tup (fs.map oV))):Th K H (.ref a) (some (fs.map eO)):=by
 refine .tup h ⟨by rw[aP,aP],fun i hi=>?_⟩;rw[aP] at hi;have e:(fs.map eO).getD i none=eO (fs.getD i none):=by
  rw[aS,bN,aS,bq hi];rfl
 rw[e,aS,eZ hi];exact aav
theorem xj{n:Nat}{ts:Ts}{homes:List Nat}{st:List (Option Nat)}(S:mP n ts homes st):tQ n ts homes (some (st.map eO))=true:=by
 show F_ n ts homes (st.map eO)=true;have len:=S.len;rw[Db (by rw[aP,len]) fun i hi=>?_,hG]
 .intro h hh;refine cx (aY ?_ (S.NG h (bH.mp hh)));unfold xg List.count;rw[z6];refine o4 (zQ fun x _=>?_);cases x with
  |none=>simp[eO]
  |some y=>simp[eO];lia
 .have e:(st.map eO).getD i none=eO (st.getD i none):=by
   rw[aS,bN,bq (by lia),aS,bq (by lia)];rfl
  rw[e];cases ho:st.getD i none with
  |none=>rfl
  |some y=>
   have hy:y<n:=S.ss y (by rw[<-ho,aS,bq (by lia)];exact dv _);have ne:=S.ne i y ho;show (eX (some (y:Int)) 0 ((n:Int)-1)&&!decide (some (y:Int)=some ((homes.getD i 0:Nat):Int)))=true;rw[di (fun z=>by injection z with z;exact ne (cD z).symm)];unfold eX;simp;lia
theorem QH{X:Cx}{H:Hp}{s:Str}{l:List Nat}{Q:VK}{a b:Addr}(ha:H a=some (.tup (.str s::NV l)))(hb:H b=some (.tup (.str s::NV l)))(q:Q (.bl false) H):PR X true 0 (.ref a) (.ref b) H Q:=by
 refine⟨a,b,_,_,rfl,rfl,bt.of ha,bt.of hb,rfl,fun i h1 _=>?_,q⟩;cases i with
 |zero=>exact L3
 |succ i=>
  have hi:i<l.length:=by rw[dC,aO] at h1;lia
  have e:(V.str s::NV l).getD (i+1) .bz=.int ((l.getD i 0:Nat):Int):=by
   rw[aS,List.getElem?_cons_succ,dR hi];rfl
  rw[e];exact CZ
theorem VD{n:Nat}{ts:Ts}{st:List (Option Nat)}{es:List iN}(h:u9 n ts st (some es)=none):∃fs:List (Option Nat),es=fs.map eO:=by
 unfold u9 at h;dsimp only at h;split at h
 .next el=>
  have hw:∀i,i<st.length->tL n ts st es i=none:=fun i hi=>ve.mp h i (bH.mpr hi);refine⟨es.map fO,?_⟩;rw[cy];refine i7 fun i=>?_;rw[bN];by_cases c:i<es.length
  .rw[bq c];refine congrArg some ?_;have:=hw i (by lia);have eg:es.getD i none=es[i]:=by rw[aS,bq c];rfl
   unfold tL at this;rw[eg] at this;generalize es[i]=e at *;cases hs:st.getD i none with
   |none=>
    rw[hs] at this;dsimp only at this;split at this
    .next z=>rw[z];rfl
    .cases this
   |some h=>
    rw[hs] at this;dsimp only at this;split at this
    .next z=>
     match e,z with
     |some (some m),z=>
      obtain⟨y,_,rfl⟩:=yU.mp (show qN (.int m) (NV (bj n ts h))=true from z);show some (some (y:Int))=some (some (((y:Int).toNat:Nat):Int));rw[i8]
     |some none,z=>cases z
     |none,z=>cases z
    .cases this
  .rw[cj (by lia)];rfl
 .cases h
abbrev sSm:Stmt:=iK 55
theorem VE{K:PySem.W.Frag}{H:Hp}{v:V}{o:Option Nat}(h:En K H v (eO o)):v=oV o:=by
 cases o with
 |none=>
  have h:En K H v none:=h;cases h;rfl
 |some y=>
  have h:En K H v (some (some (y:Int))):=h;cases h with
  |th _ w=>exact Qm w
theorem oA{H:Hp}{a:Addr}{fs gs:List (Option Nat)}(h:H a=some (.tup (fs.map oV)))(h':H a=some (.tup (gs.map oV))):fs=gs:=by
 rw[h] at h';injection h' with h';injection h' with h';exact(List.map_inj_right fun _ _=>BP).mp h'
theorem VF{K:PySem.W.Frag}{H:Hp}{a:Addr}{fs gs:List (Option Nat)}(h:Th K H (.ref a) (some (gs.map eO)))(ha:H a=some (.tup (fs.map oV))):fs=gs:=by
 cases h with
 |@tup _ vs es DC en=>
  refine oA ha (DC.trans ?_);refine congrArg (fun x=>some (HO.tup x)) (i7 fun i=>?_);obtain⟨hl,he⟩:=en;rw[aP] at hl;by_cases c:i<gs.length
  .rw[eZ c,bq (by lia)];have:=he i (by rw[aP];exact c);rw[BQ,aS,bq (by lia)] at this;exact congrArg some (VE this)
  .rw[cj (by lia),cj (by rw[aP];lia)]
theorem VG{n:Nat}{ts:Ts}{st fs:List (Option Nat)}(F:cA n ts)(ss:∀y,some y∈st->y<n)(d:Hd n ts st fs)(j y:Nat)(e:fs.getD j none=some y):y<n:=by
 cases c:st.getD j none with
 |none=>rw[d.bz j c] at e;cases e
 |some h=>
  obtain⟨y',e',m⟩:=d.out j h c;rw[e] at e';cases e';exact dL F (mT ss c) m
theorem VH{n:Nat}{homes:List Nat}{fs:List (Option Nat)}(hf:∀j y,fs.getD j none=some y->y<n)(j y:Nat)(e:(wZ homes fs).getD j none=some y):y<n:=by
 have hj:j<fs.length:=by have:=IY e;rwa [q0] at this
 unfold wZ at e;rw[aS,bN,fw hj] at e;have e:(if fs.getD j none=some (homes.getD j 0) then none else fs.getD j none)=some y:=e;split at e
 .cases e
 .exact hf j y e
section
variable {P:Program} {w:World} {K:PySem.W.Frag} {mg:Str->Option Value} {base:Heap}
theorem QI:aT ["_law_n","_law_order_here","_law_nets","_law_homes","_law_stand_here","_law_thing","_law_more","_law_told"] ["_law_n","_law_order_here","_law_nets","_law_homes","_law_stand_here","_law_thing"] (av sSm):=cV (by decide +kernel)
def QJ(K:PySem.W.Frag)(C:Addr):Sp:=fun vs H Q _=>∃ (L LL:Addr->Prop) (n:Nat) (ts ix:Ts) (xs:List Nat) (od nt p1 p2 ha sa:Addr) (homes:List Nat) (st:List (Option Nat)) (x:V) (o:Option (List iN)),vs=[.int n,.ref od,.ref nt,.ref ha,.ref sa,x]/\H od=some (.lst (NV xs))/\H nt=some (.tup [.ref p1,.ref p2])/\dw C H L p1 n ts/\dw C H LL p2 n ix/\Rn n ts ix xs/\H ha=some (.tup (NV homes))/\H sa=some (.tup (st.map oV))/\mP n ts homes st/\(∀H',aA H H'->Th K H' x o)/\(∀H',aA H H'->∀a vs,x=.ref a->H' a=some (.tup vs)->vs.length<=20000)/\∀H',aA H H'->Q (.bl true) H'
theorem VI{f C CE:Addr}{fd:FuncData}(F:gv K "_law_same" "_law_same" sSm f fd)(RW:cu P w K mg base bv 2 "_law_row" ["_law_n","_law_order_here","_law_row_here"] (QF K))(IS:cu P w K mg base bv 6 "is_stand" ["net","homes","thing"] (lL K C))(WR:cu P w K mg base bv 7 "wrong" ["net","homes","stand","thing"] (on K C))(BE:cu P w K mg base (Kc P w) 8 "behind" ["net","homes","stand","handing"] (LU K C CE))(LD:cu P w K mg base bv 7 "led" ["net","homes","stand","handing"] (yN C))(IE:cu P w K mg base bv 8 "is_eager" ["net","homes","stand","handing"] (QC C)):bU P w K mg base bv 9 f fd ["_law_n","_law_order_here","_law_nets","_law_homes","_law_stand_here","_law_thing"] (QJ K C):=by
 refine F.ok QI (fun vs H Q E h=>?_) (fun dY A outer s H vs Q E hr h=>?_)
 .obtain⟨L,LL,n,ts,ix,xs,od,nt,p1,p2,ha,sa,homes,st,x,o,rfl,_⟩:=h;rfl
 .obtain⟨L,LL,n,ts,ix,xs,od,nt,p1,p2,ha,sa,homes,st,x,o,rfl,zd,hnt,N1,N2,R,j9,ie,SD,th,tl,q⟩:=h;have h2:cB 2 _:=hr.mono (by decide);have h6:cB 6 _:=hr.mono (by decide);have h7:cB 7 _:=hr.mono (by decide);refine⟨_,(ai (aN (i:=6) QI.nd rfl aU (cm (aa (az RW h2 aL (aa (pv 0) (aa (pv 1) (aa (pv 3) ae)))) (aa (az RW h2 aL (aa (pv 0) (aa (pv 1) (aa (pv 4) ae)))) (aa (az RW h2 aL (aa (pv 0) (aa (pv 1) (aa (pv 5) ae)))) ae)))))
   (ai (bA (PW.pt (xB (fT (dq (az IS h6 aL (aa (aG bf (pv 2) aq (fun _ _=>rfl)) (aa (pv 3) (aa (pv 4) ae)))))) (rV (fT (dq (az IS h6 aL (aa (aG bf (pv 2) aq (fun _ _=>rfl)) (aa (aG aH (pv 6) aq (fun _ _=>rfl)) (aa (aG aH (pv 6) aq (fun _ _=>rfl)) ae))))))))) (ak (aM gI)) aQ)
   (ai (aN (i:=7) QI.nd rfl aU (az WR h7 aL (aa (aG bf (pv 2) aq (fun _ _=>rfl)) (aa (pv 3) (aa (pv 4) (aa (pv 5) ae))))))
   (ai (bA (aK (QG hr.u) (az WR h7 aL (aa (aG bf (pv 2) aq (fun _ _=>rfl)) (aa (aG aH (pv 6) aq (fun _ _=>rfl)) (aa (aG aH (pv 6) aq (fun _ _=>rfl)) (aa (aG aH (pv 6) aq (fun _ _=>rfl)) ae))))) (pv 7) (aR _)) (ak (aM gI)) aQ)
   (ai (bA (aK i_ (pv 7) cN (aR _)) (ak (aM gI)) aQ)
   (ai (bA (aK (Dc hr.u) (az BE hr Cg (aa (aG bf (pv 2) aq (fun _ _=>rfl)) (aa (aG aH (pv 6) aq (fun _ _=>rfl)) (aa (aG aH (pv 6) aq (fun _ _=>rfl)) (aa (aG aH (pv 6) aq (fun _ _=>rfl)) ae))))) (az RW h2 aL (aa (pv 0) (aa (pv 1) (aa (az BE hr Cg (aa (aG bf (pv 2) aq (fun _ _=>rfl)) (aa (pv 3) (aa (pv 4) (aa (pv 5) ae))))) ae)))) (aR _)) (ak (aM gI)) aQ)
   (ai (bA (aK (K_ (d:=0) (Nat.lt_of_succ_lt hr.u)) (az LD h7 aL (aa (aG bf (pv 2) aq (fun _ _=>rfl)) (aa (aG aH (pv 6) aq (fun _ _=>rfl)) (aa (aG aH (pv 6) aq (fun _ _=>rfl)) (aa (aG aH (pv 6) aq (fun _ _=>rfl)) ae))))) (az LD h7 aL (aa (aG bf (pv 2) aq (fun _ _=>rfl)) (aa (pv 3) (aa (pv 4) (aa (pv 5) ae))))) (aR _)) (ak (aM gI)) aQ)
   (ak (aM (gh eN (az IE hr aL (aa (aG bf (pv 2) aq (fun _ _=>rfl)) (aa (aG aH (pv 6) aq (fun _ _=>rfl)) (aa (aG aH (pv 6) aq (fun _ _=>rfl)) (aa (aG aH (pv 6) aq (fun _ _=>rfl)) ae))))) (az IE hr aL (aa (aG bf (pv 2) aq (fun _ _=>rfl)) (aa (pv 3) (aa (pv 4) (aa (pv 5) ae))))) (aR _))))))))))),?_⟩
  have xl:xs.length=n:=by have:=R.pm.length_eq;rwa [cE] at this
  have ED:=SD.le;have sl:=SD.len;have S2:=R.aas SD;refine dI (fun σ H4=>∃ (M t1 t2:Addr) (v3:V),σ=[some (.int (n:Int)),some (.ref od),some (.ref nt),some (.ref ha),some (.ref sa),some x,some (.ref M),none]/\aA H H4/\H4 M=some (.lst [.ref t1,.ref t2,v3])/\H4 t1=some (.tup (NV (va xs homes)))/\H4 t2=some (.tup ((iO xs st).map oV))/\(∀H',aA H4 H'->Th K H' v3 (o.map fun es=>es.map (pY n xs)))/\∀a vs es,x=.ref a->o=some es->H a=some (.tup vs)->∃t,v3=.ref t/\H4 t=some (.tup (JK n xs es vs))) ?_ ?_
  rotate_left
  .intro N hN;refine⟨_,rfl,_,rfl,_,rfl,n,od,xs,.ref ha,some (homes.map fun y:Nat=>(some (some (y:Int)):iN)),rfl,zd,xl,fun H' s'=>.tup (s' _ _ j9) EK,(fun z=>by cases z),fun a vs es e1 e2 e3=>?_⟩;cases e1;cases e2;rw[j9] at e3;cases e3;refine⟨by rw[aO,aP],by rw[aO];lia,fun t1 H1 s1 Jb=>?_⟩;rw[I_ SD.hs] at Jb;refine⟨_,rfl,_,rfl,_,rfl,n,od,xs,.ref sa,some (st.map eO),rfl,s1 _ _ zd,xl,fun H' s'=>.tup (s' _ _ (s1 _ _ ie)) QE,(fun z=>by cases z),fun a vs es e1 e2 e3=>?_⟩;cases e1;cases e2;rw[s1 _ _ ie] at e3;cases e3;refine⟨by rw[aP,aP],by rw[aP];lia,fun t2 H2 s2 yF=>?_⟩;rw[Ja fun j y e=>mT SD.ss e] at yF;have y9:=s1.trans s2;refine⟨_,rfl,_,rfl,_,rfl,n,od,xs,x,o,rfl,y9 _ _ zd,xl,fun H' s'=>th H' (y9.trans s'),fun z=>⟨by show 3<=sizeLine;decide,fun M hM=>hN _ _ ⟨M,t1,t2,x,rfl,y9.trans (aj hM),af,(aj hM) _ _ (s2 _ _ Jb),(aj hM) _ _ yF,fun H' s'=>?_,fun a vs es _ e2=>by rw[z] at e2;cases e2⟩⟩,fun a vs es e1 e2 e3=>?_⟩
   .have:=th H' ((y9.trans (aj hM)).trans s');rw[z] at this |-;exact this
   .have en:∀H',aA H2 H'->EB K H' vs es:=fun H' s'=>by
     have:=th H' (y9.trans s');rw[e1,e2] at this;cases this with
     |@tup _ VC vS DC en'=>
      have:VC=vs:=by have:=s' _ _ e3;rw[DC] at this;injection this with this;injection this
      rw[<-this];exact en'
    refine⟨(en H2 (aA.refl _)).1,tl H2 y9 a vs e1 e3,fun t3 H3 s3 EM=>⟨by show 3<=sizeLine;decide,fun M hM=>?_⟩⟩;have E_:=y9.trans s3;have sM:=aj (o:=.lst [.ref t1,.ref t2,.ref t3]) hM;refine hN _ _ ⟨M,t1,t2,.ref t3,rfl,E_.trans sM,af,sM _ _ (s3 _ _ (s2 _ _ Jb)),sM _ _ (s3 _ _ yF),fun H' s'=>?_,fun a' VC vS e1' e2' e3'=>⟨t3,rfl,?_⟩⟩
    .rw[e2];exact .tup (s' _ _ (sM _ _ EM)) (QD (en H' ((s3.trans sM).trans s')))
    .rw[e1] at e1';cases e1';rw[e2] at e2';cases e2';have:VC=vs:=by have:=y9 _ _ e3';rw[e3] at this;injection this with this;injection this with this;exact this.symm
     rw[this];exact sM _ _ EM
  rintro σ H4 ⟨M,t1,t2,v3,rfl,Dh,gM,L4,L5,QK,hv3⟩;have EN:=Dh _ _ hnt;have L6:=Dh _ _ j9;have EE:=Dh _ _ ie;have XR:=N1.same Dh;have XS:=N2.same Dh;have th4:∀H',aA H4 H'->Th K H' x o:=fun H' s'=>th H' (Dh.trans s');have l2:(va xs homes).length=(iO xs st).length:=by rw[ow,fm,sl]
  have Jc:(iO xs st).length<=16:=by rw[fm];exact ED
  refine dI (fun σ H6=>σ=[some (.int (n:Int)),some (.ref od),some (.ref nt),some (.ref ha),some (.ref sa),some x,some (.ref M),none]/\aA H4 H6) ?_ ?_
  rotate_left
  .intro N hN;refine⟨_,rfl,nt,_,_,_,rfl,rfl,bt.of EN,am (j:=0) rfl,_,rfl,_,rfl,L,p1,n,ts,ha,homes,.ref sa,some (st.map eO),rfl,XR,L6,by lia,fun H' s'=>EL (s' _ _ EE),fun H5 s5=>⟨_,rfl,f9 (by rw[xj SD];rfl) ?_⟩⟩;refine⟨_,rfl,nt,_,_,_,rfl,rfl,bt.of (s5 _ _ EN),am (j:=1) rfl,_,rfl,M,_,_,_,rfl,rfl,aV.of (s5 _ _ gM),am (j:=0) rfl,_,rfl,M,_,_,_,rfl,rfl,aV.of (s5 _ _ gM),am (j:=1) rfl,LL,p2,n,ix,t1,va xs homes,.ref t2,some ((iO xs st).map eO),rfl,XS.same s5,s5 _ _ L4,by rw[ow];lia,fun H' s'=>EL (s' _ _ (s5 _ _ L5)),fun H6 s6=>⟨_,rfl,f9 (by rw[xj S2];rfl) (hN _ _ ⟨rfl,s5.trans s6⟩)⟩⟩
  rintro σ H6 ⟨rfl,s6⟩;have Ny:=s6 _ _ gM;refine dI (fun σ H7=>∃uj,σ=[some (.int (n:Int)),some (.ref od),some (.ref nt),some (.ref ha),some (.ref sa),some x,some (.ref M),some uj]/\aA H6 H7/\Sr H7 (u9 n ts st o) uj) ?_ ?_
  rotate_left
  .intro N hN;exact⟨_,rfl,nt,_,_,_,rfl,rfl,bt.of (s6 _ _ EN),am (j:=0) rfl,_,rfl,_,rfl,_,rfl,L,p1,n,ts,ha,homes,sa,st,x,o,rfl,XR.same s6,s6 _ _ L6,sl,s6 _ _ EE,ED,SD.ss,fun H' s'=>th4 H' (s6.trans s'),fun uj H7 s7 VJ=>hN _ _ ⟨uj,rfl,s7,VJ⟩⟩
  rintro σ H7' ⟨uj,rfl,s7,VJ⟩;have QL:=s6.trans s7;have Ez:=s7 _ _ Ny;refine dI (fun σ H8=>σ=[some (.int (n:Int)),some (.ref od),some (.ref nt),some (.ref ha),some (.ref sa),some x,some (.ref M),some uj]/\aA H7' H8) ?_ ?_
  rotate_left
  .intro N hN;refine⟨_,rfl,nt,_,_,_,rfl,rfl,bt.of (QL _ _ EN),am (j:=1) rfl,_,rfl,M,_,_,_,rfl,rfl,aV.of Ez,am (j:=0) rfl,_,rfl,M,_,_,_,rfl,rfl,aV.of Ez,am (j:=1) rfl,_,rfl,M,_,_,_,rfl,rfl,aV.of Ez,am (j:=2) rfl,LL,p2,n,ix,t1,va xs homes,t2,iO xs st,v3,(o.map fun es=>es.map (pY n xs)),rfl,XS.same QL,QL _ _ L4,l2,QL _ _ L5,Jc,S2.ss,fun H' s'=>QK H' (QL.trans s'),fun VL H8 s8 VM=>⟨_,rfl,?_⟩⟩;rw[R.wr SD.ss] at VM;have L7:=VJ.same s8;cases hw:u9 n ts st o with
   |none=>
    rw[hw] at VM L7;obtain rfl:VL=.bz:=VM;obtain rfl:uj=.bz:=L7;exact .inl ⟨rfl,_,rfl,cG (hN _ _ ⟨rfl,s8⟩)⟩
   |some r=>
    obtain⟨z,l⟩:=r;rw[hw] at VM L7;obtain⟨a1,rfl,g1⟩:=VM;obtain⟨a2,rfl,g2⟩:=L7;exact .inr (QH g1 g2 ⟨_,rfl,cG (hN _ _ ⟨rfl,s8⟩)⟩)
  rintro σ H8 ⟨rfl,s8⟩;have BR:=QL.trans s8;have VN:=VJ.same s8;have Lo:=s8 _ _ Ez;refine dI (fun σ H9=>σ=[some (.int (n:Int)),some (.ref od),some (.ref nt),some (.ref ha),some (.ref sa),some x,some (.ref M),some uj]/\H8=H9/\u9 n ts st o=none/\uj=.bz) ?_ ?_
  rotate_left
  .intro N hN;cases hw:u9 n ts st o with
   |some r=>
    obtain⟨z,l⟩:=r;rw[hw] at VN;obtain⟨a2,rfl,g2⟩:=VN;exact⟨_,rfl,rfl,_,rfl,gL rfl (q H8 (Dh.trans BR))⟩
   |none=>
    rw[hw] at VN;obtain rfl:uj=.bz:=VN;exact⟨_,rfl,rfl,_,rfl,cG (hN _ _ ⟨rfl,rfl,hw,rfl⟩)⟩
  rintro σ _ ⟨rfl,rfl,hw,rfl⟩;obtain⟨es,rfl⟩:∃es,o=some es:=by
   cases o with
   |none=>cases hw
   |some es=>exact⟨es,rfl⟩
  obtain⟨fs,rfl⟩:=VD hw;obtain⟨fa,Fs,rfl,kl,d⟩:=NS (th H (aA.refl _)) hw;obtain rfl:Fs=fs:=VF (th H (aA.refl _)) kl;have G:=d.goes R.f SD;have d2:=R.hd (fun j h=>mT SD.ss) d;have G2:=d2.goes R.f2 S2;have hf:=VG R.f SD.ss d;obtain⟨t3,rfl,EM⟩:=hv3 fa _ _ rfl rfl kl;rw[Ja hf] at EM;have fl:=d.len;have EO:=BR _ _ EN;have N18:=XR.same BR;have N28:=XS.same BR;have QM:=BR _ _ L4;have QN:=BR _ _ L5;have QO:=BR _ _ EM;have QP:=BR _ _ L6;have QQ:=BR _ _ EE;have QR:=BR _ _ (Dh _ _ kl);have aaw:=BR _ _ (Dh _ _ zd);have th8:∀H',aA H8 H'->Th K H' (.ref fa) (some (Fs.map eO)):=fun H' s'=>th4 H' (BR.trans s');have aax:∀H',aA H8 H'->Th K H' (.ref t3) ((some (Fs.map eO)).map fun es=>es.map (pY n xs)):=fun H' s'=>QK H' (BR.trans s');have s08:=Dh.trans BR;clear Dh s6 s7 QL s8 BR hv3 Ny Ez gM EN L6 EE XR XS L4 L5 EM th4 QK VJ VN kl;refine dI (fun σ H9=>σ=[some (.int (n:Int)),some (.ref od),some (.ref nt),some (.ref ha),some (.ref sa),some (.ref fa),some (.ref M),some .bz]/\aA H8 H9) ?_ ?_
  rotate_left
  .intro N hN;refine⟨_,rfl,nt,_,_,_,rfl,rfl,bt.of EO,am (j:=1) rfl,_,rfl,M,_,_,_,rfl,rfl,aV.of Lo,am (j:=0) rfl,_,rfl,M,_,_,_,rfl,rfl,aV.of Lo,am (j:=1) rfl,_,rfl,M,_,_,_,rfl,rfl,aV.of Lo,am (j:=2) rfl,LL,p2,n,ix,t1,va xs homes,t2,iO xs st,.ref t3,_,rfl,N28,QM,l2,QN,Jc,S2.ss,aax,(fun e he=>by rw[R.wr SD.ss,hw] at he;cases he),fun _ fa' N5 e tS d' u H9 s9 hu=>?_⟩;cases e;obtain rfl:N5=iO xs Fs:=oA tS QO;clear tS d';refine⟨_,rfl,_,rfl,_,rfl,nt,_,_,_,rfl,rfl,bt.of (s9 _ _ EO),am (j:=0) rfl,_,rfl,_,rfl,_,rfl,L,p1,n,ts,ha,homes,sa,st,.ref fa,_,rfl,N18.same s9,s9 _ _ QP,sl,s9 _ _ QQ,ED,SD.ss,(fun H' s'=>th8 H' (s9.trans s')),(fun e he=>by rw[hw] at he;cases he),fun _ fa' N5 e tS d' u2 Bu qZ XT=>?_⟩;cases e;obtain rfl:N5=Fs:=oA tS (s9 _ _ QR);clear tS d';refine⟨n,od,xs,.ref u2,some ((wZ homes N5).map eO),rfl,qZ _ _ (s9 _ _ aaw),xl,(fun H' s'=>EL (s' _ _ XT)),(fun z=>by cases z),fun a vs es e1 e2 e3=>?_⟩;cases e1;cases e2;rw[XT] at e3;cases e3;refine⟨by rw[aP,aP],by rw[aP,q0];lia,fun u3 L8 Di VO=>?_⟩;rw[Ja (VH hf)] at VO;rw[R.nx (by lia) SD.hs hf] at hu;exact⟨u,u3,_,_,rfl,rfl,bt.of (Di _ _ (qZ _ _ hu)),bt.of VO,ot,ot,_,rfl,f9 (by rw[yQ];rfl) (hN _ _ ⟨rfl,(s9.trans qZ).trans Di⟩)⟩
  rintro σ H9 ⟨rfl,s9⟩;have So:=s9 _ _ Lo;refine dI (fun σ Bu=>σ=[some (.int (n:Int)),some (.ref od),some (.ref nt),some (.ref ha),some (.ref sa),some (.ref fa),some (.ref M),some .bz]/\aA H9 Bu) ?_ ?_
  rotate_left
  .intro N hN;refine⟨_,rfl,nt,_,_,_,rfl,rfl,bt.of (s9 _ _ EO),am (j:=1) rfl,_,rfl,M,_,_,_,rfl,rfl,aV.of So,am (j:=0) rfl,_,rfl,M,_,_,_,rfl,rfl,aV.of So,am (j:=1) rfl,_,rfl,M,_,_,_,rfl,rfl,aV.of So,am (j:=2) rfl,LL,p2,n,ix,t1,va xs homes,t2,iO xs st,t3,iO xs Fs,rfl,N28.same s9,s9 _ _ QM,s9 _ _ QN,s9 _ _ QO,G2,fun r1 Bu qZ _ CY=>?_⟩;have EQ:=s9.trans qZ;refine⟨_,rfl,nt,_,_,_,rfl,rfl,bt.of (EQ _ _ EO),am (j:=0) rfl,_,rfl,_,rfl,_,rfl,L,p1,n,ts,ha,homes,sa,st,fa,Fs,rfl,N18.same EQ,EQ _ _ QP,EQ _ _ QQ,EQ _ _ QR,G,fun r2 L8 Di _ ui=>?_⟩;rw[fm,R.ledL G] at CY;exact⟨r1,r2,_,_,rfl,rfl,aV.of (Di _ _ CY),aV.of ui,rfl,(fun i hi _=>by rw[aS,dR (by rwa [aO] at hi)];exact CZ),_,rfl,cG (hN _ _ ⟨rfl,qZ.trans Di⟩)⟩
  rintro σ Bu ⟨rfl,qZ⟩;have EQ:=s9.trans qZ;have QS:=EQ _ _ Lo;refine⟨_,rfl,nt,_,_,_,rfl,rfl,bt.of (EQ _ _ EO),am (j:=1) rfl,_,rfl,M,_,_,_,rfl,rfl,aV.of QS,am (j:=0) rfl,_,rfl,M,_,_,_,rfl,rfl,aV.of QS,am (j:=1) rfl,_,rfl,M,_,_,_,rfl,rfl,aV.of QS,am (j:=2) rfl,LL,p2,n,ix,t1,va xs homes,t2,iO xs st,t3,iO xs Fs,rfl,N28.same EQ,EQ _ _ QM,EQ _ _ QN,EQ _ _ QO,G2,fun L8 Di=>?_⟩;have Sy:=EQ.trans Di;refine⟨_,rfl,nt,_,_,_,rfl,rfl,bt.of (Sy _ _ EO),am (j:=0) rfl,_,rfl,_,rfl,_,rfl,L,p1,n,ts,ha,homes,sa,st,fa,Fs,rfl,N18.same Sy,Sy _ _ QP,Sy _ _ QQ,Sy _ _ QR,G,fun XU y9=>?_⟩;rw[R.ea G];refine⟨rfl,?_⟩;rw[cx rfl];exact q _ (s08.trans (Sy.trans y9))
end
abbrev sFw:Stmt:=iK 56
theorem ER:(["_law_i","_law_last"]:List Str).Nodup:=by decide +kernel
theorem Jd{n:Nat}{ts:Ts}{st fs:List (Option Nat)}(d:Hd n ts st fs):u9 n ts st (some (fs.map eO))=none:=by
 have len:=d.len;have ge:∀i,(fs.map eO).getD i none=eO (fs.getD i none):=fun i=>by
  by_cases c:i<fs.length
  .rw[aS,bN,aS,bq c];rfl
  .rw[aS,cj (by rw[aP];lia),aS,cj (by lia)];rfl
 unfold u9;dsimp only;rw[aD (by rw[aP,len]),ve];intro i hi;unfold tL;cases e:st.getD i none with
 |none=>
  dsimp only;rw[aD (by rw[ge,d.bz i e];rfl)]
 |some h=>
  obtain⟨y,ey,hy⟩:=d.out i h e;dsimp only;rw[aD ?_,zo,zL]
  .intro j hj z;unfold y_ at z;obtain⟨z1,z2⟩:=oK.mp z;have z1:=dB z1;have z2:=dB z2;rw[ge,ge,ey] at z2;obtain⟨y2,ey2,_⟩:=d.out j h z1;rw[ey2] at z2;have:y2=y:=by
    have z2:some (some (y2:Int))=some (some (y:Int)):=z2;injection z2 with z2;injection z2 with z2;exact cD z2
   subst this;exact d.inj j i y2 (by have:=bH.mp hj;lia) ey2 ey (z1.trans e.symm)
  .rw[ge,ey];show qN (.int (y:Int)) (NV (bj n ts h))=true;unfold qN;exact ky.mpr ⟨.int (y:Int),bn.mpr ⟨y,hy,rfl⟩,by show ((y:Int)==(y:Int))=true;simp⟩
theorem jp{α:Type}{l:List α}{m j:Nat}{z:α}:(l.take m).getD j z=if j<m then l.getD j z else z:=by
 rw[aS,List.getElem?_take];split
 .rw[aS]
 .rfl
theorem L9{xs:List Nat}{m:Nat}:(NV xs).take m=NV (xs.take m):=(o0).symm
theorem mP.take{n:Nat}{ts:Ts}{homes:List Nat}{st:List (Option Nat)}(S:mP n ts homes st)(m:Nat):mP n ts (homes.take m) (st.take m):=by
 refine⟨by rw[g_,g_,S.len],by rw[g_];have:=S.le;lia,fun x hx=>S.hs x (j3 hx),fun x hx=>S.ss x (j3 hx),fun y hy=>aY ((rA m st).count_le _) (S.NG y hy),fun j y e=>?_⟩;rw[jp] at e |-;by_cases c:j<m
 .rw[aD c] at e |-;exact S.ne j y e
 .rw[au c] at e;cases e
theorem Hd.take{n:Nat}{ts:Ts}{st fs:List (Option Nat)}(d:Hd n ts st fs)(m:Nat):Hd n ts (st.take m) (fs.take m):=by
 refine⟨by rw[g_,g_,d.len],fun j e=>?_,fun j h e=>?_,fun j k y ne e1 e2=>?_⟩
 .rw[jp] at e |-;by_cases c:j<m
  .rw[aD c] at e |-;exact d.bz j e
  .rw[au c]
 .rw[jp] at e |-;by_cases c:j<m
  .rw[aD c] at e |-;exact d.out j h e
  .rw[au c] at e;cases e
 .rw[jp] at e1 e2 |-;rw[jp];by_cases c:j<m
  .by_cases c':k<m
   .rw[aD c] at e1 |-;rw[aD c'] at e2 |-;exact d.inj j k y ne e1 e2
   .rw[au c'] at e2;cases e2
  .rw[au c] at e1;cases e1
theorem L_{homes:List Nat}{fs:List (Option Nat)}{m:Nat}:wZ (homes.take m) (fs.take m)=(wZ homes fs).take m:=by
 unfold wZ;rw[g_,<-o0,List.take_range];refine js fun j hj=>?_;have hj:=bH.mp hj;have hjm:j<m:=by lia
 rw[jp,jp,aD hjm,aD hjm]
theorem Je{ts:Ts}{homes:List Nat}{st fs:List (Option Nat)}{m:Nat}(hm:st.length=m+1):ledL ts (homes.take m) (st.take m) (fs.take m) (st.take m).length=(ledL ts homes st fs st.length).filter fun i=>decide (i<m):=by
 unfold ledL;rw[g_,hm,vB (by lia),List.filter_filter,iQ,ft];rw[show [m].filter (fun a=>decide (a<m)&&jY ts homes st fs a)=[] by rw[c_,di (ii m)];rfl,rH];refine vv fun j hj=>?_;have hj:=bH.mp hj;rw[cx hj,Ac];unfold jY;rw[jp,jp,jp,aD hj,aD hj,aD hj]
theorem VP{xs:List Nat}:gK iH (NV xs) (NV xs)=true:=by
 rw[h_ rfl,hG];intro i hi;rw[aS,dR (by rw[<-aO];exact bH.mp hi)];show ((_:Int)==_)=true;simp
theorem yV{xs:List Nat}{i:Nat}(h:i<(NV xs).length):cT ((NV xs).getD i .bz)=true:=by
 rw[aS,dR (by rw[<-aO];exact h)];rfl
section
variable {P:Program} {w:World} {K:PySem.W.Frag} {mg:Str->Option Value} {base:Heap}
theorem Ma:aT ["_law_net_here","_law_homes","_law_stand_here","_law_handing","_law_last","_law_less","_law_told"] ["_law_net_here","_law_homes","_law_stand_here","_law_handing"] (av sFw):=cV (by decide +kernel)
def QT(C:Addr):Sp:=fun vs H Q _=>∃ (L:Addr->Prop) (n:Nat) (ts:Ts) (p ha sa fa:Addr) (homes:List Nat) (st fs:List (Option Nat)),vs=[.ref p,.ref ha,.ref sa,.ref fa]/\dw C H L p n ts/\cA n ts/\H ha=some (.tup (NV homes))/\H sa=some (.tup (st.map oV))/\mP n ts homes st/\H fa=some (.tup (fs.map oV))/\Hd n ts st fs/\∀H',aA H H'->Q (.bl true) H'
theorem VQ{f C CE:Addr}{fd:FuncData}(F:gv K "_law_fewer" "_law_fewer" sFw f fd)(B:Bl mg)(IS:cu P w K mg base bv 6 "is_stand" ["net","homes","thing"] (lL K C))(WR:cu P w K mg base bv 7 "wrong" ["net","homes","stand","thing"] (on K C))(BE:cu P w K mg base (Kc P w) 8 "behind" ["net","homes","stand","handing"] (LU K C CE))(LD:cu P w K mg base bv 7 "led" ["net","homes","stand","handing"] (yN C)):bU P w K mg base bv 9 f fd ["_law_net_here","_law_homes","_law_stand_here","_law_handing"] (QT C):=by
 refine F.ok Ma (fun vs H Q E h=>?_) (fun dY A outer s H vs Q E hr h=>?_)
 .obtain⟨L,n,ts,p,ha,sa,fa,homes,st,fs,rfl,_⟩:=h;rfl
 .obtain⟨L,n,ts,p,ha,sa,fa,homes,st,fs,rfl,N,Fi,j9,ie,SD,kl,d,q⟩:=h;have h6:cB 6 _:=hr.mono (by decide);have h7:cB 7 _:=hr.mono (by decide);refine'⟨_,(ai (aN (i:=4) Ma.nd rfl bL (bu mv (aI aF (by rfl) B.len cp (aa (pv 2) ae)) aq))
   (ai (bA (aK iV (pv 4) aq (aR _)) (ak (aM gI)) aQ)
   (ai (aN (i:=5) Ma.nd rfl aU (br (aa (fE je (pv 1) gW (gX (pv 4))) (aa (fE je (pv 2) gW (gX (pv 4))) (aa (fE je (pv 3) gW (gX (pv 4))) ae)))))
   (ai (bA (PW.pt (xB (fT (dq (az IS h6 aL (aa (pv 0) (aa (aG bf (pv 5) aq (fun _ _=>rfl)) (aa (aG bf (pv 5) aq (fun _ _=>rfl)) ae)))))) (rV (aK i_ (az WR h7 aL (aa (pv 0) (aa (aG bf (pv 5) aq (fun _ _=>rfl)) (aa (aG bf (pv 5) aq (fun _ _=>rfl)) (aa (aG bf (pv 5) aq (fun _ _=>rfl)) ae))))) cN (aR _))))) (ak (aM gI)) aQ)
   (ai (bA (aK (Dc hr.u) (az BE hr Cg (aa (pv 0) (aa (aG bf (pv 5) aq (fun _ _=>rfl)) (aa (aG bf (pv 5) aq (fun _ _=>rfl)) (aa (aG bf (pv 5) aq (fun _ _=>rfl)) ae))))) (fE je (az BE hr Cg (aa (pv 0) (aa (pv 1) (aa (pv 2) (aa (pv 3) ae))))) gW (gX (pv 4))) (aR _)) (ak (aM gI)) aQ)
   (ai (aN (i:=6) Ma.nd rfl aU (az LD h7 aL (aa (pv 0) (aa (pv 1) (aa (pv 2) (aa (pv 3) ae))))))
   (ak (aM (gh (O1 (e:=iH) hr.u) (az LD h7 aL (aa (pv 0) (aa (aG bf (pv 5) aq (fun _ _=>rfl)) (aa (aG bf (pv 5) aq (fun _ _=>rfl)) (aa (aG bf (pv 5) aq (fun _ _=>rfl)) ae))))) ?c1 (aR _)))))))))),?_⟩
  case c1=>
   refine' bV (g:=(bK 0)) (tt:=(ja (gw (tW fun i j=>.bl (decide (i<j))) (aX 0) (aX 1)))) (te:=(aX 0)) (NB:=["_law_i","_law_last"]) (src:=[none,some 4]) (bJ (by kernel_rfl)) rfl (bP (pv 6)) ?g ?t ?e;case g=>exact fun cl C s₃ H₃ fp=>(aw (i:=0) ER rfl aU bL)
   case t=>exact fun cl C s₃ H₃ fp=>eG (aK iV (pv 0) (pv 1) (aR _))
   case e=>exact fun cl C s₃ H₃ fp=>(pv 0)
  have ED:=SD.le;have sl:=SD.len;have fl:=d.len;refine dI (fun σ H1=>H=H1/\σ=[some (.ref p),some (.ref ha),some (.ref sa),some (.ref fa),some (.int (((st.length:Nat):Int)-1)),none,none]) ?_ ?_
  rotate_left
  .intro N hN;refine⟨_,rfl,sa,_,rfl,.inr (bt.of ie),_,_,rfl,rfl,?_⟩;rw[aP];exact hN _ _ ⟨rfl,rfl⟩
  rintro σ _ ⟨rfl,rfl⟩;rcases zI st.length with c|c
  .exact⟨_,rfl,_,_,rfl,rfl,_,rfl,gL (cx (by lia)) (q H (aA.refl _))⟩
  obtain⟨m,hm⟩:∃m:Nat,st.length=m+1:=⟨st.length-1,by lia⟩
  have em:((st.length:Nat):Int)-1=(m:Int):=by lia
  refine dI (fun σ H1=>H=H1/\σ=[some (.ref p),some (.ref ha),some (.ref sa),some (.ref fa),some (.int (m:Int)),none,none]) ?_ ?_
  rotate_left
  .intro N hN;exact⟨_,rfl,_,_,rfl,rfl,_,rfl,f9 (di (by lia)) (hN _ _ ⟨rfl,by rw[em]⟩)⟩
  rintro σ _ ⟨rfl,rfl⟩;clear c em;have S2:=SD.take m;have d2:=d.take m;have G:=d.goes Fi SD;have G2:=d2.goes Fi S2;have l2:=S2.len;have Jc:=S2.le;refine dI (fun σ H2=>∃ (T t1 t2 t3:Addr),σ=[some (.ref p),some (.ref ha),some (.ref sa),some (.ref fa),some (.int (m:Int)),some (.ref T),none]/\aA H H2/\H2 T=some (.tup [.ref t1,.ref t2,.ref t3])/\H2 t1=some (.tup (NV (homes.take m)))/\H2 t2=some (.tup ((st.take m).map oV))/\H2 t3=some (.tup ((fs.take m).map oV))) ?_ ?_
  rotate_left
  .intro N hN;refine⟨_,rfl,_,rfl,_,rfl,ha,_,rfl,j9,fun t1 H1 s1 Jb=>⟨_,rfl,_,rfl,_,rfl,sa,_,rfl,s1 _ _ ie,fun t2 H2 s2 yF=>⟨_,rfl,_,rfl,_,rfl,fa,_,rfl,(s1.trans s2) _ _ kl,fun t3 H3 s3 EM=>⟨by show 3<=sizeLine;decide,fun T hT=>?_⟩⟩⟩⟩;rw[ln,L9] at Jb;rw[ln,<-o0] at yF EM;have sT:=aj (o:=.tup [.ref t1,.ref t2,.ref t3]) hT;exact hN _ _ ⟨T,t1,t2,t3,rfl,((s1.trans s2).trans s3).trans sT,af,sT _ _ (s3 _ _ (s2 _ _ Jb)),sT _ _ (s3 _ _ yF),sT _ _ EM⟩
  rintro σ H2 ⟨T,t1,t2,t3,rfl,s2,hT,Jb,yF,EM⟩;have th3:∀H',aA H2 H'->Th K H' (.ref t3) (some ((fs.take m).map eO)):=fun H' s'=>EL (s' _ _ EM);refine dI (fun σ H3=>σ=[some (.ref p),some (.ref ha),some (.ref sa),some (.ref fa),some (.int (m:Int)),some (.ref T),none]/\aA H2 H3) ?_ ?_
  rotate_left
  .intro N' hN;refine⟨_,rfl,_,rfl,T,_,_,_,rfl,rfl,bt.of (hT),am (j:=0) rfl,_,rfl,T,_,_,_,rfl,rfl,bt.of (hT),am (j:=1) rfl,L,p,n,ts,t1,homes.take m,.ref t2,some ((st.take m).map eO),rfl,N.same s2,Jb,by lia,fun H' s'=>EL (s' _ _ yF),fun H5 s5=>⟨_,rfl,f9 (by rw[xj S2];rfl) ?_⟩⟩;have W6:=s5 _ _ hT;refine⟨_,rfl,_,rfl,T,_,_,_,rfl,rfl,bt.of (W6),am (j:=0) rfl,_,rfl,T,_,_,_,rfl,rfl,bt.of (W6),am (j:=1) rfl,_,rfl,T,_,_,_,rfl,rfl,bt.of (W6),am (j:=2) rfl,L,p,n,ts,t1,homes.take m,t2,st.take m,.ref t3,some ((fs.take m).map eO),rfl,N.same (s2.trans s5),s5 _ _ Jb,l2,s5 _ _ yF,Jc,S2.ss,fun H' s'=>th3 H' (s5.trans s'),fun r H6 s6 rs=>?_⟩;rw[Jd d2] at rs;obtain rfl:r=.bz:=rs;exact⟨rfl,_,rfl,cG (hN _ _ ⟨rfl,s5.trans s6⟩)⟩
  rintro σ H3 ⟨rfl,s3⟩;have s23:=s2.trans s3;have hT3:=s3 _ _ hT;refine dI (fun σ H4=>σ=[some (.ref p),some (.ref ha),some (.ref sa),some (.ref fa),some (.int (m:Int)),some (.ref T),none]/\aA H3 H4) ?_ ?_
  rotate_left
  .intro N' hN;refine⟨_,rfl,_,rfl,T,_,_,_,rfl,rfl,bt.of (hT3),am (j:=0) rfl,_,rfl,T,_,_,_,rfl,rfl,bt.of (hT3),am (j:=1) rfl,_,rfl,T,_,_,_,rfl,rfl,bt.of (hT3),am (j:=2) rfl,L,p,n,ts,t1,homes.take m,t2,st.take m,.ref t3,some ((fs.take m).map eO),rfl,N.same s23,s3 _ _ Jb,l2,s3 _ _ yF,Jc,S2.ss,(fun H' s'=>th3 H' (s3.trans s')),(fun e he=>by rw[Jd d2] at he;cases he),fun _ fa' N5 e tS d' u H9 s9 hu=>?_⟩;cases e;obtain rfl:N5=fs.take m:=oA tS (s3 _ _ EM);clear tS d';have VR:=s23.trans s9;refine⟨_,rfl,_,rfl,_,rfl,_,rfl,L,p,n,ts,ha,homes,sa,st,.ref fa,some (fs.map eO),rfl,N.same VR,VR _ _ j9,sl,VR _ _ ie,ED,SD.ss,(fun H' s'=>EL (s' _ _ (VR _ _ kl))),(fun e he=>by rw[Jd d] at he;cases he),fun _ fa' N5 e tS d' u2 Bu qZ XT=>?_⟩;cases e;obtain rfl:N5=fs:=oA tS (VR _ _ kl);clear tS d';refine⟨_,rfl,_,rfl,u2,_,rfl,XT,fun u3 L8 Di VO=>?_⟩;rw[ln,<-o0] at VO;rw[L_] at hu;exact⟨u,u3,_,_,rfl,rfl,bt.of (Di _ _ (qZ _ _ hu)),bt.of VO,ot,ot,_,rfl,f9 (by rw[yQ];rfl) (hN _ _ ⟨rfl,(s9.trans qZ).trans Di⟩)⟩
  rintro σ H4 ⟨rfl,s4⟩;have Qx:=s23.trans s4;refine dI (fun σ H5=>∃r,σ=[some (.ref p),some (.ref ha),some (.ref sa),some (.ref fa),some (.int (m:Int)),some (.ref T),some (.ref r)]/\aA H4 H5/\H5 r=some (.lst (NV (ledL ts homes st fs st.length)))) ?_ ?_
  rotate_left
  .intro N' hN;exact⟨_,rfl,_,rfl,_,rfl,_,rfl,L,p,n,ts,ha,homes,sa,st,fa,fs,rfl,N.same Qx,Qx _ _ j9,Qx _ _ ie,Qx _ _ kl,G,fun r H5 s5 _ Et=>hN _ _ ⟨r,rfl,s5,Et⟩⟩
  rintro σ H5 ⟨r,rfl,s5,Et⟩;have JG:=(s3.trans s4).trans s5;have s25:=s2.trans JG;have QU:=JG _ _ hT;refine⟨_,rfl,_,rfl,T,_,_,_,rfl,rfl,bt.of (QU),am (j:=0) rfl,_,rfl,T,_,_,_,rfl,rfl,bt.of (QU),am (j:=1) rfl,_,rfl,T,_,_,_,rfl,rfl,bt.of (QU),am (j:=2) rfl,L,p,n,ts,t1,homes.take m,t2,st.take m,t3,fs.take m,rfl,N.same s25,JG _ _ Jb,JG _ _ yF,JG _ _ EM,G2,fun r1 H6 s6 _ CY=>?_⟩;refine⟨_,rfl,r,rfl,⟨_,aV.of (s6 _ _ Et)⟩,fun D hD=>?_⟩;refine w6 (os:=ledL ts homes st fs st.length) (fun i=>decide (i<m)) (fun σ=>∃b,σ=[b,some (.int (m:Int))]) (s6 _ _ Et) hD (aY (fW _ _) (by rw[cE];lia)) ⟨_,rfl⟩ ?_ ?_
  .rintro x σ H7 Kt Kf hx ⟨b',rfl⟩ s7 kt kf;refine⟨_,rfl,_,rfl,_,_,rfl,rfl,_,rfl,eI (fun c=>?_) (fun c=>?_)⟩
   .exact⟨_,rfl,kt _ _ ⟨_,rfl⟩ (aA.refl _) (cx (by have:=dB c;lia))⟩
   .exact kf _ _ ⟨_,rfl⟩ (aA.refl _) (di fun z=>c (cx (by lia)))
  intro H7 s7 NA;rw[Je hm] at CY;refine⟨r1,D,_,_,rfl,rfl,aV.of (s7 _ _ CY),aV.of NA,fun i h1 h2=>DQ (yV h1) (yV h2),?_⟩;have e:(if false then !gK iH (NV ((ledL ts homes st fs st.length).filter fun i=>decide (i<m))) (NV ((ledL ts homes st fs st.length).filter fun i=>decide (i<m))) else gK iH (NV ((ledL ts homes st fs st.length).filter fun i=>decide (i<m))) (NV ((ledL ts homes st fs st.length).filter fun i=>decide (i<m))))=true:=VP;rw[e];exact q _ ((s25.trans s6).trans s7)
end
abbrev BS:Stmt:=iK 57
theorem BU:(["_law_at","_law_ties"]:List Str).Nodup:=by decide +kernel
theorem d9:(["_law_one","_law_other_here","_law_order_here"]:List Str).Nodup:=by decide +kernel
theorem dw.weak{C p:Addr}{H:Hp}{L L':Addr->Prop}{n:Nat}{ts:Ts}(N:dw C H L p n ts)(k:∀b,L b->L' b):dw C H L' p n ts:=by
 refine eY fun fk cM=>?_;obtain⟨F',dx',tl,ol,ds,q1,q2,q3,⟨b1,c1,d1,e1⟩,⟨b2,c2,d2,e2⟩,⟨a3,zs,b3,c3,d3,e3⟩⟩:=N;refine cM ?_;clear cM fk;exact⟨F',dx',tl,ol,ds,q1,k _ q2,k _ q3,⟨b1,c1,fun b hb=>k b (d1 b hb),e1⟩,⟨b2,c2,fun b hb=>k b (d2 b hb),e2⟩,⟨k _ a3,zs,b3,c3,fun z hz=>k _ (d3 z hz),e3⟩⟩
theorem Jf{R:V->PyData->Prop}:∀ {xs:List V} {ds:List PyData},F2 R xs ds->xs.length<=PyData.weightAll ds
 |_,_,.nil=>de _
 |_,_,.cons _ hs=>by
  have:=Jf hs;unfold PyData.weightAll;rw[dC];lia
theorem QV{L:Addr->Prop}{H:Hp}{n W:Nat}{a:Addr}{vs:List V}(h:Sw L H (n+1) W (.ref a))(e:H a=some (.tup vs)):vs.length<=W:=by
 obtain⟨d,sh,w⟩:=h;rcases sh with (⟨z,_⟩|⟨c,z,_⟩|⟨i,z,_⟩|⟨y,z,_⟩|⟨b,z,_,_,g⟩)|⟨b,xs,ds,z,rfl,_,g,hs⟩|⟨b,xs,ds,z,_,_,g,_⟩
 .cases z
 .cases z
 .cases z
 .cases z
 .cases z;rw[e] at g;cases g
 .cases z;rw[e] at g;cases g;unfold PyData.weight at w;exact aY (Jf hs) w
 .cases z;rw[e] at g;cases g
theorem ES{zs:Zs}{ys:List Nat}(pm:ys.Perm (List.range zs.length)):(ys.map fun i=>zs.getD i (0,(0,0))).Perm zs:=by
 have:=pm.map fun i=>zs.getD i (0,(0,0));rwa [show (List.range zs.length).map (fun i=>zs.getD i (0,(0,0)))=zs from i7 fun i=>by
  by_cases c:i<zs.length
  .rw[bN,fw c,bq c];exact congrArg some (by show zs.getD i (0,(0,0))=_;rw[aS,bq c];rfl)
  .rw[cj (by rw[aP,cE];lia),cj (by lia)]] at this
theorem Mb{zs:Zs}{ys:List Nat}:(ys.filter fun _=>true).map (fun i=>V.ref (zs.getD i (0,(0,0))).1)=zr (ys.map fun i=>zs.getD i (0,(0,0))):=by
 rw[List.filter_eq_self.mpr fun _ _=>rfl];unfold zr;rw[cy];rfl
section
variable {P:Program} {w:World} {K:PySem.W.Frag} {mg:Str->Option Value} {base:Heap}
def Jg(K:PySem.W.Frag)(H:Hp)(a:Addr)(xs:List V):Prop:=(∃o,H a=some (.tV o (.lst xs)))\/(∀H':Hp,aV K H' a xs)
theorem Jg.seq{H:Hp}{a:Addr}{xs:List V}(h:Jg K H a xs):aV K H a xs:=by
 rcases h with ⟨o,h⟩|h
 .exact .inl (.inr ⟨o,h⟩)
 .exact h H
theorem Jg.mono{H H':Hp}{a:Addr}{xs:List V}(h:Jg K H a xs)(e:∀o u,H a=some (.tV o u)->H' a=some (.tV o u)):Jg K H' a xs:=by
 rcases h with ⟨o,h⟩|h
 .exact .inl ⟨o,e _ _ h⟩
 .exact .inr h
theorem pP.keepE{p Pt:Addr}{H H':Hp}(t:pP Pt H)(s:aB p H H')(hp:bB H p):pP Pt H':=by
 obtain⟨a,b,e,_⟩:=hp;rcases t with z|⟨c,z,y⟩
 .exact .inl (s _ _ z (by rintro rfl;rw[z] at e;cases e))
 .exact .inr ⟨c,s _ _ z (by rintro rfl;rw[z] at e;cases e),s _ _ y (by rintro rfl;rw[y] at e;cases e)⟩
theorem iF:aT ["_law_script","_law_k","_law_pot_here","_law_ways","_law_is_right","_law_n","_law_ties","_law_outs_here","_law_homes","_law_stand_here","_law_handing","_law_thing","_law_order_here","_law_turned","_law_nets"] ["_law_script"] (av BS):=cV (by decide +kernel)
def Dj(K:PySem.W.Frag)(Pt:Addr):Sp:=fun vs H Q _=>∃ (a:Addr) (ns:List Int),vs=[.ref a]/\Jg K H a (ns.map V.int)/\ns.length<=63/\pP Pt H/\∀H',Q (.bl true) H'
theorem QW{f C Pt fI:Addr}{fd fdI:FuncData}(F:gv K "law" "law" BS f fd)(B:Bl mg)(T:NT K mg C)(M:Mk K C fI)(bI:j7 K fdI ["self","many","ties"] [])(GI:bU P w K mg base bv 7 fI fdI ["self","many","ties"] (Bd C Pt))(PT:cu P w K mg base bv 1 "_law_pot" ["_law_script","_law_k"] (Hz K))(TK:cu P w K mg base bv 1 "_law_take" ["_law_pot_here","_law_many"] fv)(NE:cu P w K mg base bv 4 "_law_net" ["_law_pot_here"] HZ)(OU:cu P w K mg base bv 1 "_law_outs" ["_law_n","_law_ties"] wS)(LF:cu P w K mg base bv 1 "_law_far" ["_law_n","_law_outs_here"] BG)(ST:cu P w K mg base bv 2 "_law_stand" ["_law_pot_here","_law_n","_law_outs_here"] wU)(RI:cu P w K mg base bv 2 "_law_right" ["_law_pot_here","_law_outs_here","_law_stand_here"] w4)(EA:cu P w K mg base bv 3 "_law_eager" ["_law_pot_here","_law_outs_here","_law_far_here","_law_homes","_law_stand_here"] w9)(TB:cu P w K mg base bv 5 "_law_twice_bent" ["_law_pot_here","_law_ways","_law_n","_law_outs_here","_law_stand_here","_law_thing"] xf)(OD:cu P w K mg base bv 2 "_law_order" ["_law_pot_here","_law_many"] lJ)(SM:cu P w K mg base bv 9 "_law_same" ["_law_n","_law_order_here","_law_nets","_law_homes","_law_stand_here","_law_thing"] (QJ K C))(FW:cu P w K mg base bv 9 "_law_fewer" ["_law_net_here","_law_homes","_law_stand_here","_law_handing"] (QT C)):
  bU P w K mg base bv 10 f fd ["_law_script"] (Dj K Pt):=by
 refine F.ok iF (fun vs H Q E h=>?_) (fun dY A outer s H vs Q E hr h=>?_)
 .obtain⟨a,ns,rfl,_⟩:=h;rfl
 .refine eY fun fk cM=>?_;obtain⟨a,ns,rfl,hS,y3,tb,q⟩:=h;refine cM ?_;clear cM fk;have h1:cB 1 _:=hr.mono (by decide);have h2:cB 2 _:=hr.mono (by decide);have h3:cB 3 _:=hr.mono (by decide);have h4:cB 4 _:=hr.mono (by decide);have h5:cB 5 _:=hr.mono (by decide);have h8:cB 8 _:=hr.mono (by decide);refine'⟨_,(ai (cP dO rfl (bC rfl B.range (aa (aI (ph rfl) (by rfl) B.max rj (aa aq (aa (aI (uw rfl) (by rfl) B.min PyProof.Rows.boot_min (aa aq (aa (aI aF (by rfl) B.len cp (aa (pv 0) ae)) ae))) ae))) ae)) (aw (i:=1) iF.nd rfl aU)
    (ai (aN (i:=2) iF.nd rfl aU (az PT h1 aL (aa (pv 0) (aa (pv 1) ae))))
    (ai (aN (i:=3) iF.nd rfl aU (cm (aa (az TK h1 aL (aa (pv 2) (aa aq ae))) (aa (az TK h1 aL (aa (pv 2) (aa aq ae))) ae))))
    (ai (aN (i:=4) iF.nd rfl aU (gh eN (az TK h1 aL (aa (pv 2) (aa aq ae))) aq (aR _)))
    (ai (dW (az NE h4 aL (aa (pv 2) ae)) (fu (n:=2) rfl (ba (aw (i:=5) iF.nd rfl aU) (ba (aw (i:=6) iF.nd rfl bL) dE))))
    (ai (aN (i:=7) iF.nd rfl aU (az OU h1 aL (aa (pv 5) (aa (pv 6) ae))))
    (ai (dW (az ST h2 aL (aa (pv 2) (aa (pv 5) (aa (pv 7) ae)))) (fu (n:=2) rfl (ba (aw (i:=8) iF.nd rfl aU) (ba (aw (i:=9) iF.nd rfl aU) dE))))
    (ai (aN (i:=10) iF.nd rfl aU (az EA h3 aL (aa (pv 2) (aa (pv 7) (aa (az LF h1 aL (aa (pv 5) (aa (pv 7) ae))) (aa (pv 8) (aa (pv 9) ae)))))))
    (ai (bA (dq (pv 4)) (ak (aN (i:=10) iF.nd rfl aU (az RI h2 aL (aa (pv 2) (aa (pv 7) (aa (pv 9) ae)))))) aQ)
    (ai (aN (i:=11) iF.nd rfl aU (az TB h5 aL (aa (pv 2) (aa (pv 3) (aa (pv 5) (aa (pv 7) (aa (pv 9) (aa (pv 10) ae))))))))
    (ai (aN (i:=12) iF.nd rfl bL (az OD h2 aL (aa (pv 2) (aa (pv 5) ae))))
    (ai (dt (i:=13) (g:=(bK 0)) (te:=(gw (ki K) (aX 1) (aX 0))) (NB:=["_law_at","_law_ties"]) (src:=[none,some 6]) (bJ (by kernel_rfl)) rfl (bP (az OD h2 aL (aa (pv 2) (aa (aI aF (by rfl) B.len cp (aa (pv 6) ae)) ae)))) ?g1 ?t1 ?e1 iF.nd rfl rfl rfl)
    (ai (aN (i:=14) iF.nd rfl aU (br (aa (B8 M GI h8 rfl T.mgC bI .nil aL (aa (pv 5) (aa (pv 6) ae))) (aa (B8 M GI h8 rfl T.mgC bI .nil aL (aa (pv 5) (aa ?c2 ae))) ae))))
    (ai (bA (fT (dq (az SM hr aL (aa (pv 5) (aa (pv 12) (aa (pv 14) (aa (pv 8) (aa (pv 9) (aa (pv 11) ae))))))))) (ak (aM gI)) aQ)
    (ak (bA (fT (dq (az FW hr aL (aa (aG bf (pv 14) aq (fun _ _=>rfl)) (aa (pv 8) (aa (pv 9) (aa (pv 10) ae))))))) (ak (aM gI)) aQ))))))))))))))))
   (ak (aM gI))),?_⟩
  case g1=>exact fun cl C s₃ H₃ fp=>(aw (i:=0) BU rfl aU bL)
  case t1=>exact fun cl C s₃ H₃ fp=>ce
  case e1=>exact fun cl C s₃ H₃ fp=>(aG aH (pv 1) (pv 0) (fun _ _=>rfl))
  case c2=>
   refine' bV (g:=(Af K 2 (ju (bK 0) (ju (bK 1) Ae)))) (te:=(kh (bi (gw (ki K) (aX 2) (aX 0)) (bi (gw (ki K) (aX 2) (aX 1)) dQ)))) (NB:=["_law_one","_law_other_here","_law_order_here"]) (src:=[none,none,some 12]) (bJ (by kernel_rfl)) rfl (bP (pv 13)) ?g ?t ?e;case g=>exact fun cl C s₃ H₃ fp=>(fu (n:=2) rfl (ba (aw (i:=0) d9 rfl aU bL) (ba (aw (i:=1) d9 rfl aU bL) dE)))
   case t=>exact fun cl C s₃ H₃ fp=>ce
   case e=>exact fun cl C s₃ H₃ fp=>(br (aa (aG aH (pv 2) (pv 0) (fun _ _=>rfl)) (aa (aG aH (pv 2) (pv 1) (fun _ _=>rfl)) ae)))
  refine⟨_,rfl,a,_,rfl,.inl hS.seq,6,_,rfl,2,_,rfl,_,rfl,?_⟩;obtain⟨j,hj,j1⟩:∃j:Int,(if (if (((ns.map V.int).length:Nat):Int)<6 then (((ns.map V.int).length:Nat):Int) else 6) > 2 then (if (((ns.map V.int).length:Nat):Int)<6 then (((ns.map V.int).length:Nat):Int) else 6) else 2)=j/\1<=j/\j<=6:=⟨_,rfl,by split <;> split <;> lia⟩
  rw[hj];refine⟨by lia,by lia,dg (n:=j.toNat) (lo:=0) (fun k σ H2=>(∃x1 x2 x3 x4 x5 x6 x7 x8 x9 Sm VS Sz QX N6,σ=[some (.ref a),x1,x2,x3,x4,x5,x6,x7,x8,x9,Sm,VS,Sz,QX,N6])/\Jg K H2 a (ns.map V.int)/\pP Pt H2) ⟨⟨_,_,_,_,_,_,_,_,_,_,_,_,_,_,rfl⟩,hS,tb⟩ ?_ ?_⟩
  rotate_left
  .rintro σ H2 _;exact q H2
  .intro k σ H2 hk i5;refine eY fun fk cM=>?_;obtain⟨⟨x1,x2,x3,x4,x5,x6,x7,x8,x9,Sm,VS,Sz,QX,N6,rfl⟩,S2,t2⟩:=i5;refine cM ?_;clear cM fk;refine⟨_,rfl,_,rfl,a,ns,k,by rw[eK];rfl,S2.seq,by lia,fun p H3 s3 np p3=>?_⟩;have S3:Jg K H3 a (ns.map V.int):=S2.mono fun o u e=>s3 _ _ e;have t3:=t2.same s3;have np3:∀ {o u},H3 a=some (.tV o u)->a≠p:=fun e z=>by subst z;obtain⟨x,y,e',_⟩:=p3;rw[e] at e';cases e'
   refine⟨_,rfl,p,20,rfl,by decide,by decide,p3,fun w1 H4 hw1 s4 p4=>⟨_,rfl,p,20,rfl,by decide,by decide,p4,fun w2 H4' hw2 s4' p4'=>⟨by show 2<=sizeLine;decide,fun WA hWA=>?_⟩⟩⟩;have nW:=p4'.ne hWA;have sW:=aj (o:=.lst [.int (w1:Int),.int (w2:Int)]) hWA;have VT:(upd H4' WA (.lst [.int (w1:Int),.int (w2:Int)])) WA=some (.lst (NV [w1,w2])):=af;have s3W:aB p H3 (upd H4' WA (.lst [.int (w1:Int),.int (w2:Int)])):=(s4.trans s4').trans (aB.of sW);refine⟨_,rfl,p,2,rfl,by decide,by decide,p4'.same sW,fun dd H0 hdd s0 p0=>⟨rfl,?_⟩⟩;generalize decide (V.int (dd:Int)=V.int 1)=ir;have s30:aB p H3 H0:=s3W.trans s0;have hW0:=s0 _ _ VT nW;refine⟨_,rfl,p,rfl,p0,fun tn r n zs H5 s5 p5 htn aay hrn Et Br Fi=>?_⟩;have XV:r≠p:=p0.ne hrn;have n1:1<=n:=by have:=Fi.n1;lia
   have nle:=Fi.n2;refine⟨tn,_,rfl,bt.of aay,rfl,_,_,rfl,_,_,rfl,rfl,?_⟩;refine⟨_,rfl,_,rfl,n,r,zs,rfl,Et,Br,Fi,fun oo H6 s6 XW R6=>?_⟩;have p6:=p5.same s6;refine⟨_,rfl,_,rfl,_,rfl,p,n,oo,zp zs,_,rfl,Fi.n1,Fi.n2,p6,R6,XW,p5.full,fun Zx ha sa homes st H8 s8 p8 yF j9 ie SD=>?_⟩;refine⟨Zx,_,rfl,bt.of yF,rfl,_,_,rfl,_,_,rfl,rfl,?_⟩;have VU:aB p H5 H8:=(aB.of s6).trans s8;have RO:cX H8 (fun b=>H5 b=none) oo n (bj n (zp zs)):=R6.keep XW fun b o l e=>s8 b o e fun z=>p5.full (z ▸ l);have XX:∀Hc,aB p H8 Hc->cX Hc (fun b=>H5 b=none) oo n (bj n (zp zs)):=fun Hc sc=>RO.keep XW fun b o l e=>sc b o e fun z=>p5.full (z ▸ l);have s38:aB p H3 H8:=(s30.trans s5).trans VU;have t8:=t3.keepE s38 p3;have S8:Jg K H8 a (ns.map V.int):=S3.mono fun o u e=>s38 _ _ e (np3 e);have hr8:=VU _ _ Et XV;have HK:=Br.lX VU p5;have hW8:=(s5.trans VU) _ _ hW0 nW;have ED:=SD.le;have E7:ha≠p:=p8.neT j9;have BH:sa≠p:=p8.neT ie;have na:∀ {o u},H8 a=some (.tV o u)->a≠p:=fun e z=>by subst z;obtain⟨x,y,e',_⟩:=p8;rw[e] at e';cases e'
   clear S3 t3 np3 s3W s30 hW0 VT s38 VU s5 s8 s6 R6 Br;refine dI (fun σ Hx=>H8=Hx/\σ=[some (.ref a),some (.int (0+(k:Int))),some (.ref p),some (.ref WA),some (.bl ir),some (.int (n:Int)),some (.ref r),some (.ref oo),some (.ref ha),some (.ref sa),Sm,VS,Sz,QX,N6]) ?_ (fun N hN=>hN _ _ ⟨rfl,rfl⟩);rintro σ _ ⟨rfl,rfl⟩;refine dI (fun σ H9=>∃ (fa:Addr) (fs:List (Option Nat)),σ=[some (.ref a),some (.int (0+(k:Int))),some (.ref p),some (.ref WA),some (.bl ir),some (.int (n:Int)),some (.ref r),some (.ref oo),some (.ref ha),some (.ref sa),some (.ref fa),VS,Sz,QX,N6]/\aB p H8 H9/\bB H9 p/\H9 fa=some (.tup (fs.map oV))/\Hd n (zp zs) st fs) ?_ ?_
   rotate_left
   .intro N hN;refine⟨_,rfl,_,rfl,_,rfl,_,rfl,_,oo,n,zp zs,rfl,Fi,RO,fun fr H9 s9 hfr R9=>?_⟩;have e9:=aB.of (p:=p) s9;exact⟨_,rfl,_,rfl,p,oo,fr,n,zp zs,_,_,ha,sa,homes,st,rfl,Fi,p8.same s9,XX _ e9,R9,hfr,p8.full,s9 _ _ j9,s9 _ _ ie,SD,fun fa fs Bu qZ p10 kl hd=>hN _ _ ⟨fa,fs,rfl,e9.trans qZ,p10,kl,hd⟩⟩
   intro σ H9 i5;refine eY fun fk cM=>?_;obtain⟨fa,fs,rfl,s9,p9,kl,hd⟩:=i5;refine cM ?_;clear cM fk;refine dI (fun σ H9=>∃ (fa:Addr) (fs:List (Option Nat)),σ=[some (.ref a),some (.int (0+(k:Int))),some (.ref p),some (.ref WA),some (.bl ir),some (.int (n:Int)),some (.ref r),some (.ref oo),some (.ref ha),some (.ref sa),some (.ref fa),VS,Sz,QX,N6]/\aB p H8 H9/\bB H9 p/\H9 fa=some (.tup (fs.map oV))/\Hd n (zp zs) st fs) ?_ ?_
   rotate_left
   .intro N hN;refine⟨_,rfl,_,rfl,eI (fun c=>?_) (fun c=>hN _ _ ⟨fa,fs,rfl,s9,p9,kl,hd⟩)⟩;exact⟨_,rfl,_,rfl,_,rfl,p,oo,n,zp zs,_,sa,homes,st,rfl,Fi,n1,Fi.n2,p9,XX _ s9,s9 _ _ ie BH,SD,fun fa fs Bu qZ p10 kl hd=>hN _ _ ⟨fa,fs,rfl,s9.trans qZ,p10,kl,hd⟩⟩
   clear kl hd p9 s9;intro σ H1 i5;refine eY fun fk cM=>?_;obtain⟨fa,fs,rfl,s1,kZ,kl,hd⟩:=i5;refine cM ?_;clear cM fk;have fl:=hd.len;have Xa:Sx p H1 0 16 201 (.ref fa):=⟨fa,_,rfl,kZ.neT kl,kl,by rw[aP];lia,fun v hv=>by
    obtain⟨o,ho,rfl⟩:=bn.mp hv;cases o with
    |none=>exact(tJ).le (by lia)
    |some y=>
     obtain⟨j,hj,ej⟩:=rn ho;have gj:fs.getD j none=some y:=by rw[aS,bq hj,ej];rfl
     have hy:y<n:=by
      cases hs:st.getD j none with
      |none=>rw[hd.bz j hs] at gj;cases gj
      |some h=>
       obtain⟨y',e',m'⟩:=hd.out j h hs;rw[gj] at e';cases e';exact BB n1 m'
     have n2:=Fi.n2;exact(iw (.inl ⟨by lia,by lia⟩)).le (by lia)⟩
   refine dI (fun σ H2=>∃ (xv:V),σ=[some (.ref a),some (.int (0+(k:Int))),some (.ref p),some (.ref WA),some (.bl ir),some (.int (n:Int)),some (.ref r),some (.ref oo),some (.ref ha),some (.ref sa),some (.ref fa),some xv,Sz,QX,N6]/\aB p H1 H2/\bB H2 p/\Sw (·≠p) H2 3 20000 xv) ?_ ?_
   rotate_left
   .intro N hN;exact⟨_,rfl,_,rfl,_,rfl,_,rfl,_,rfl,_,rfl,p,WA,[w1,w2],n,oo,zp zs,_,sa,homes,st,.ref fa,rfl,s1 _ _ hW8 nW,nW,rfl,n1,Fi.n2,kZ,XX _ s1,XW,p5.full,s1 _ _ ie BH,SD,Xa,fun xv H2 s2 km sw=>hN _ _ ⟨xv,rfl,s2,km,sw⟩⟩
   intro σ H2' i5;refine eY fun fk cM=>?_;obtain⟨xv,rfl,s2,km,sw⟩:=i5;refine cM ?_;clear cM fk;have nfa:=kZ.neT kl;refine dI (fun σ Ho=>∃ (od:Addr) (xs:List Nat),σ=[some (.ref a),some (.int (0+(k:Int))),some (.ref p),some (.ref WA),some (.bl ir),some (.int (n:Int)),some (.ref r),some (.ref oo),some (.ref ha),some (.ref sa),some (.ref fa),some xv,some (.ref od),QX,N6]/\aB p H2' Ho/\bB Ho p/\Ho od=some (.lst (NV xs))/\od≠p/\xs.Perm (List.range n)) ?_ ?_
   rotate_left
   .intro N hN;exact⟨_,rfl,_,rfl,p,n,rfl,by lia,km,fun od xs Ho so XY aaz zd pm=>hN _ _ ⟨od,xs,rfl,so,XY,zd,km.ne aaz,pm⟩⟩
   intro σ Ho i5;refine eY fun fk cM=>?_;obtain⟨od,xs,rfl,so,XY,zd,nod,pm⟩:=i5;refine cM ?_;clear cM fk;have XZ:=(s1.trans s2).trans so;have hro:=XZ _ _ hr8 XV;have poo:PO Ho zs:=HK.lX XZ p8;have zl:zs.length<=256:=by have:=Fi.len;rwa [bT] at this
   refine dI (fun σ Ht=>∃ (D:Addr) (ys:List Nat),σ=[some (.ref a),some (.int (0+(k:Int))),some (.ref p),some (.ref WA),some (.bl ir),some (.int (n:Int)),some (.ref r),some (.ref oo),some (.ref ha),some (.ref sa),some (.ref fa),some xv,some (.ref od),some (.ref D),N6]/\aB p Ho Ht/\bB Ht p/\Ht D=some (.lst (zr (ys.map fun i=>zs.getD i (0,(0,0)))))/\D≠p/\ys.Perm (List.range zs.length)) ?_ ?_
   rotate_left
   .intro N hN;refine⟨_,rfl,_,rfl,r,_,rfl,.inl (aV.of hro),p,(zr zs).length,rfl,by rw[dA];lia,XY,fun td ys Ht bw X0 abk htd SA=>⟨_,rfl,⟨_,aV.of htd⟩,fun D hD=>?_⟩⟩;rw[dA] at SA;have yl:ys.length=zs.length:=by have:=SA.length_eq;rwa [cE] at this
    refine Df ys (fun y=>V.int (y:Nat)) (fun _=>true) (fun i=>V.ref (zs.getD i (0,(0,0))).1) (fun σ=>∃b,σ=[b,some (.ref r)]) htd hD (by lia) ⟨_,rfl⟩ ?_ ?_
    .rintro x σ H6 Kt Kf hx ⟨b',rfl⟩ Bh kt kf;have XI:x<zs.length:=bH.mp (SA.mem_iff.mp hx);refine⟨_,rfl,_,rfl,r,_,_,_,rfl,rfl,aV.of (Bh _ _ (bw _ _ hro XV)),am (j:=x) ?_,kt _ _ ⟨_,rfl⟩ (aA.refl _) rfl⟩;unfold zr;rw[bN,bq XI,aS,bq XI];rfl
    intro Hu su hDu;rw[Mb] at hDu;exact hN _ _ ⟨D,ys,rfl,bw.trans (aB.of su),X0.same su,hDu,X0.ne hD,SA⟩
   intro σ Ht i5;refine eY fun fk cM=>?_;obtain⟨D,ys,rfl,bw,X0,hDt,nD,SA⟩:=i5;refine cM ?_;clear cM fk;have s2t:=so.trans bw;have QY:=XZ.trans bw;have pk:=ES SA;generalize hz1:(ys.map fun i=>zs.getD i (0,(0,0)))=SC at hDt pk;have X1:PO Ht zs:=HK.lX QY p8;have Xs:PO Ht SC:=fun z hz=>X1 z (pk.mem_iff.mp hz);have z1l:SC.length<=256:=by rw[pk.length_eq];exact zl
   have pk2:(zp SC).Perm (zp zs):=pk.map _;have hrt:=QY _ _ hr8 XV;have tt:=t8.keepE QY p8;have VV:=bw _ _ zd nod;have swt:=sw.keep (keepE s2t);have aaA:=(s2.trans s2t) _ _ kl nfa;have aaB:=QY _ _ j9 E7;have aaC:=QY _ _ ie BH;have St:Jg K Ht a (ns.map V.int):=S8.mono fun o u e=>QY _ _ e (na e);have xl:xs.length=n:=by have:=pm.length_eq;rwa [cE] at this
   have rg1:∀z∈SC,∃i j:Nat,i<n/\j<n/\z.2=((i:Int),(j:Int)):=fun z hz=>by
    obtain⟨⟨a0,a1⟩,⟨b0,b1⟩⟩:=Fi.rg z.2 (pk2.mem_iff.mp (bn.mpr ⟨z,hz,rfl⟩));exact⟨z.2.1.toNat,z.2.2.toNat,by lia,by lia,fQ (kD a0).symm (kD b0).symm⟩
   clear XZ QY s2t so bw XY s1 s2 km kZ kl j9 ie zd hro poo sw Xa X1 hr8 HK hW8 RO XX S8 t8 p8 p5 p6 X0;refine dI (fun σ Hf=>∃ (nT px py:Addr) (L L2:Addr->Prop) (kj:Zs),σ=[some (.ref a),some (.int (0+(k:Int))),some (.ref p),some (.ref WA),some (.bl ir),some (.int (n:Int)),some (.ref r),some (.ref oo),some (.ref ha),some (.ref sa),some (.ref fa),some xv,some (.ref od),some (.ref D),some (.ref nT)]/\(∀b o,Ht b=some o->(∀ps,o≠.qu ps)->Hf b=some o)/\pP Pt Hf/\Hf nT=some (.tup [.ref px,.ref py])/\dw C Hf L px n (zp zs)/\dw C Hf L2 py n (zp kj)/\zp kj=(zp SC).map (ren xs)) ?_ ?_
   rotate_left
   .intro N hN;refine⟨_,rfl,_,rfl,fun px dx nx ndx nex=>?_⟩;have sN:aA Ht (upd (upd Ht dx (.own px)) px (.ins C dx [])):=(aj (o:=.own px) ndx).trans (aj (D:=px) (o:=.ins C dx []) (by rw[ao nex.symm];exact nx));have gpx:(upd (upd Ht dx (.own px)) px (.ins C dx [])) px=some (.ins C dx []):=af;have X1:PO Ht zs:=fun z hz=>Xs z (pk.mem_iff.mpr hz);refine⟨px,dx,n,r,zs,rfl,gpx,⟨Fi,sN _ _ hrt,X1.same sN⟩,tt.same sN,fun Bu N10 t10 qZ=>⟨rfl,?_⟩⟩;have tN:=tt.same sN;have nPx:px≠Pt:=fun z=>tt.full (z ▸ nx);have X2:∀b o,Ht b=some o->(∀ps,o≠.qu ps)->Bu b=some o:=fun b o e nt=>qZ b o (sN _ _ e) (ap e nx) (tt.not e nt);have aaD:dw C Bu (fun b=>Ht b=none/\b≠Pt) px n (zp zs):=N10.weak fun b l=>⟨sN.free l,fun z=>tN.full (z ▸ l)⟩
    have VW:=X2 _ _ hDt nofun;have VX:=X2 _ _ VV nofun;have Lp:PO Bu SC:=fun z hz=>X2 _ _ (Xs z hz) nofun;refine⟨_,rfl,_,rfl,D,rfl,⟨_,aV.of VW⟩,fun D2 iq=>?_⟩;refine yt (ren xs) (fun σ=>∃a b,σ=[a,b,some (.ref od)]) VW Lp iq (by lia) ⟨_,_,rfl⟩ ?_ ?_
    .rintro z σ H6 R Kf hz ⟨u,v,rfl⟩ s6 hz6 kk;refine eY fun fk cM=>?_;obtain⟨i,j,hi,hj,e⟩:=rg1 z hz;refine cM ?_;clear cM fk;rw[e] at hz6 kk;have VY:=s6 _ _ VX;refine⟨_,_,rfl,bt.of hz6,rfl,_,_,rfl,_,_,rfl,rfl,?_⟩;exact⟨_,rfl,_,rfl,od,_,_,_,rfl,rfl,aV.of VY,am (dR (by lia)),_,rfl,_,rfl,od,_,_,_,rfl,rfl,aV.of VY,am (dR (by lia)),by show 2<=sizeLine;decide,fun t ht=>kk _ t ⟨_,_,rfl⟩ ht⟩
    intro kj L8 Di aaE aaF ez fr2;have R2:Rn n (zp zs) (zp kj) xs:=Rn.of Fi pm (by rw[ez];exact pk2.map _);intro py dy ny ndy ney;have sM:aA L8 (upd (upd L8 dy (.own py)) py (.ins C dy [])):=(aj (o:=.own py) ndy).trans (aj (D:=py) (o:=.ins C dy []) (by rw[ao ney.symm];exact ny));have gpy:(upd (upd L8 dy (.own py)) py (.ins C dy [])) py=some (.ins C dy []):=af;have t11:=t10.same Di;refine⟨py,dy,n,D2,kj,rfl,gpy,⟨R2.f2,sM _ _ aaE,aaF.same sM⟩,t11.same sM,fun XU N12 t12 y9=>⟨rfl,?_⟩⟩;have tM:=t11.same sM;have R7:∀b o,L8 b=some o->b≠Pt->XU b=some o:=fun b o e nt=>y9 b o (sM _ _ e) (ap e ny) nt;have aaG:dw C XU (fun b=>L8 b=none/\b≠Pt) py n (zp kj):=N12.weak fun b l=>⟨sM.free l,fun z=>tM.full (z ▸ l)⟩
    have N1:dw C XU (fun b=>Ht b=none/\b≠Pt) px n (zp zs):=(aaD.same Di).keep (fun b o l e=>R7 b o e l.2) (fun o e=>R7 px o e nPx);refine⟨by show 2<=sizeLine;decide,fun nT X3=>?_⟩;have sT:=aj (o:=.tup [.ref px,.ref py]) X3;exact hN _ _ ⟨nT,px,py,_,_,kj,rfl,fun b o e nt=>sT _ _ (R7 _ _ (Di _ _ (X2 _ _ e nt)) (tt.not e nt)),t12.same sT,af,N1.same sT,aaG.same sT,ez⟩
   intro σ Hf i5;refine eY fun fk cM=>?_;obtain⟨nT,px,py,L,L2,kj,rfl,kf,tf,X3,N1,N2,ez⟩:=i5;refine cM ?_;clear cM fk;have R2:Rn n (zp zs) (zp kj) xs:=Rn.of Fi pm (by rw[ez];exact pk2.map _);have aaH:=kf _ _ VV nofun;have VZ:=kf _ _ aaB nofun;have V0:=kf _ _ aaC nofun;have aaI:=kf _ _ aaA nofun;have swf:Sw (·≠p) Hf 3 20000 xv:=swt.keep fun b o _ e nt=>kf b o e nt;obtain⟨oth,hth⟩:∃oth,∀H',jV (·≠p) Hf H'->Th K H' xv oth:=by
    obtain⟨_,sh,_⟩:=swf;exact sh.th
   refine⟨_,rfl,_,rfl,_,rfl,_,rfl,_,rfl,_,rfl,L,L2,n,zp zs,zp kj,xs,od,nT,px,py,ha,sa,homes,st,xv,oth,rfl,aaH,X3,N1,N2,R2,VZ,V0,SD,fun H' s'=>hth H' (jV.of s'),fun H' s' a' vs e1 e2=>?_,fun H13 E_=>⟨_,rfl,cG ?_⟩⟩
   .subst e1;exact QV (swf.keep (jV.of s')) e2
   exact⟨_,rfl,nT,_,_,_,rfl,rfl,bt.of (E_ _ _ X3),am (j:=0) rfl,_,rfl,_,rfl,_,rfl,L,n,zp zs,px,ha,sa,fa,homes,st,fs,rfl,N1.same E_,Fi,E_ _ _ VZ,E_ _ _ V0,SD,E_ _ _ aaI,hd,fun H14 Dh=>⟨_,rfl,cG ⟨⟨_,_,_,_,_,_,_,_,_,_,_,_,_,_,rfl⟩,St.mono fun o u e=>Dh _ _ (E_ _ _ (kf _ _ e nofun)),(tf.same E_).same Dh⟩⟩⟩
end
def FD(K:PySem.W.Frag)(n:Str)(st:Stmt):Prop:=∃ (f:Addr) (oc:Value) (od an:Option Addr) (sl:Array (Option Value)) (kV dc pm cd ct:Value),PySem.W.nsIn K mainGlobals n=some (some (.ref f))/\K.lookup f=some ⟨oc,od,.func (PySem.W.fnOf n n (dZ st) (b_ st) (av st) .none kV dc pm an cd ct),sl⟩/\PySem.W.codeIn K cd n=true/\PySem.W.keepIn K (.ref f)=true
def FC(K:PySem.W.Frag)(n:Str)(st:Stmt)(c:Addr):Prop:=∃ (f:Addr) (oc:Value) (od an:Option Addr) (sl:Array (Option Value)) (kV dc pm ct:Value),PySem.W.nsIn K mainGlobals n=some (some (.ref f))/\K.lookup f=some ⟨oc,od,.func (PySem.W.fnOf n n (dZ st) (b_ st) (av st) .none kV dc pm an (.ref c) ct),sl⟩/\PySem.W.codeIn K (.ref c) n=true/\PySem.W.keepIn K (.ref f)=true
def MD(K:PySem.W.Frag)(C:Addr)(n q:Str)(st:Stmt):Prop:=∃ (f:Addr) (oc:Value) (od an:Option Addr) (sl:Array (Option Value)) (kV dc pm cd ct:Value),PySem.W.findIn K (.ref C) n=some (some (.ref f))/\PySem.W.isFn K (.ref f)=true/\K.lookup f=some ⟨oc,od,.func (PySem.W.fnOf n q (dZ st) (b_ st) (av st) .none kV dc pm an cd ct),sl⟩/\PySem.W.codeIn K cd q=true/\PySem.W.keepIn K (.ref f)=true
section
variable {P:Program} {w:World} {K:PySem.W.Frag} {mg:Str->Option Value} {base h:Heap} {n q:Str} {st:Stmt} {f c C:Addr} {oc kV dc pm cd ct:Value} {od an:Option Addr} {sl:Array (Option Value)} {CX:xH} {k:Nat} {ps:List Str} {sp:Sp}
theorem FD.mk(a:PySem.W.nsIn K mainGlobals n=some (some (.ref f)))(l:K.lookup f=some ⟨oc,od,.func (PySem.W.fnOf n n (dZ st) (b_ st) (av st) .none kV dc pm an cd ct),sl⟩)(d:PySem.W.codeIn K cd n=true)(k:PySem.W.keepIn K (.ref f)=true):FD K n st:=⟨f,oc,od,an,sl,kV,dc,pm,cd,ct,a,l,d,k⟩
theorem FC.mk(a:PySem.W.nsIn K mainGlobals n=some (some (.ref f)))(l:K.lookup f=some ⟨oc,od,.func (PySem.W.fnOf n n (dZ st) (b_ st) (av st) .none kV dc pm an (.ref c) ct),sl⟩)(d:PySem.W.codeIn K (.ref c) n=true)(k:PySem.W.keepIn K (.ref f)=true):FC K n st c:=⟨f,oc,od,an,sl,kV,dc,pm,ct,a,l,d,k⟩
theorem MD.mk(a:PySem.W.findIn K (.ref C) n=some (some (.ref f)))(i:PySem.W.isFn K (.ref f)=true)(l:K.lookup f=some ⟨oc,od,.func (PySem.W.fnOf n q (dZ st) (b_ st) (av st) .none kV dc pm an cd ct),sl⟩)(d:PySem.W.codeIn K cd q=true)(k:PySem.W.keepIn K (.ref f)=true):MD K C n q st:=⟨f,oc,od,an,sl,kV,dc,pm,cd,ct,a,i,l,d,k⟩
def BD(n q:Str)(st:Stmt)(ps:List Str):Prop:=∀ (kV mU pm:Value) (an:Option Addr) (dY ct:Value) (us:List Value),us.length=ps.length->bindArgs (PySem.W.fnOf n q (dZ st) (b_ st) (av st) .none kV mU pm an dY ct) ⟨us,[]⟩=pure (ps.zip us)
theorem FD.iL(X:K.In h)(G:h.Ns mainGlobals mg)(D:FD K n st)(b:BD n n st ps)(o:∀ {f fd},gv K n n st f fd->bU P w K mg base CX k f fd ps sp):cu P w K mg base CX k n ps sp:=by
 obtain⟨f,_,_,_,_,_,_,_,_,_,a,l,d,kp⟩:=D;have F:=v4 (x:=n) (qual:=n) (st:=st) l d kp;exact⟨⟨f,_,kM X G a,kp,F.binds b,o F⟩⟩
theorem FC.iL(X:K.In h)(G:h.Ns mainGlobals mg)(D:FC K n st c)(b:BD n n st ps)(o:∀ {f fd},AQ K n n st f fd c->bU P w K mg base CX k f fd ps sp):cu P w K mg base CX k n ps sp:=by
 obtain⟨f,_,_,_,_,_,_,_,_,a,l,d,kp⟩:=D;have F:=Kq (x:=n) (qual:=n) (st:=st) l d kp;exact⟨⟨f,_,kM X G a,kp,F.fun.binds b,o F⟩⟩
theorem MD.iL(D:MD K C n q st)(b:BD n q st ps)(o:∀ {f fd},gv K n q st f fd->bU P w K mg base CX k f fd ps sp):nZ P w K mg base CX k C n ps sp:=by
 obtain⟨f,_,_,_,_,_,_,_,_,_,a,i,l,d,kp⟩:=D;have F:=v4 (x:=n) (qual:=q) (st:=st) l d kp;exact⟨⟨f,_,⟨a,i,kp⟩,F.binds b,o F⟩⟩
end
theorem tT{α:Type}{P:List α->Prop}(h:∀a0,P [a0])(l:List α)(e:l.length=1):P l:=by
 cases l with
 |nil=>cases e
 |cons a t=>cases t with
  |nil=>exact h a
  |cons b t=>cases e
theorem f_{α:Type}{P:List α->Prop}(h:∀a0 a1,P [a0,a1])(l:List α)(e:l.length=2):P l:=by
 cases l with
 |nil=>cases e
 |cons a t=>exact tT (P:=fun t=>P (a::t)) (h a) t (o3 e)
theorem j_{α:Type}{P:List α->Prop}(h:∀a0 a1 a2,P [a0,a1,a2])(l:List α)(e:l.length=3):P l:=by
 cases l with
 |nil=>cases e
 |cons a t=>exact f_ (P:=fun t=>P (a::t)) (h a) t (o3 e)
theorem tU{α:Type}{P:List α->Prop}(h:∀a0 a1 a2 a3,P [a0,a1,a2,a3])(l:List α)(e:l.length=4):P l:=by
 cases l with
 |nil=>cases e
 |cons a t=>exact j_ (P:=fun t=>P (a::t)) (h a) t (o3 e)
theorem Jh{α:Type}{P:List α->Prop}(h:∀a0 a1 a2 a3 a4,P [a0,a1,a2,a3,a4])(l:List α)(e:l.length=5):P l:=by
 cases l with
 |nil=>cases e
 |cons a t=>exact tU (P:=fun t=>P (a::t)) (h a) t (o3 e)
theorem Dk{α:Type}{P:List α->Prop}(h:∀a0 a1 a2 a3 a4 a5,P [a0,a1,a2,a3,a4,a5])(l:List α)(e:l.length=6):P l:=by
 cases l with
 |nil=>cases e
 |cons a t=>exact Jh (P:=fun t=>P (a::t)) (h a) t (o3 e)
theorem QZ{l:PySem.W.OpenLaw}{w:World}{K:PySem.W.Frag}{h:Heap}{mg:Str->Option Value}{fa:Addr}(X:K.In h)(G:h.Ns mainGlobals mg)(kl:mg "law"=some (.ref fa)){C cO Pt lx:Addr}{qG uk qH:Tok}(aC:PySem.W.nsIn K mainGlobals "Net"=some (some (.ref C)))(yW:PySem.W.nsIn K mainGlobals "NoHanding"=some (some (.ref lx)))(Mc:FD K "is_whole" A7)(Ji:FD K "is_whole_within" wC)(Md:FD K "is_house" A8)(V1:FD K "is_row" Pf)(V2:FD K "are_unlike_houses" Ps)(V3:FD K "is_tie" Pp)(Me:FD K "check_ties" Ba)(V4:FD K "check_balance" Pq)(Q0:FC K "houses_out" yu cO)(Q3:FD K "distances_from" Hk)(Mf:FD K "check_reached" Bb)(V5:FD K "wrong_of_letter" Ql)(Mg:FD K "wrong" Bz)(Mh:FD K "is_led" BI)(V6:FD K "led" Qt)(aaJ:FD K "is_eager" sIE)(aaK:FD K "stand_behind" sSB)(aaL:FD K "behind" sBe)(aaM:FD K "is_stand" tP)(V7:FD K "_law_pot" PZ)(Q4:FD K "_law_take" Hy)(Mi:FD K "_law_order" Bp)(Q5:FD K "_law_both" HD)(Q6:FD K "_law_tree" HE)(Q7:FD K "_law_mesh" HJ)(V8:FD K "_law_box" P9)(Mj:FD K "_law_words" Bt)(V9:FD K "_law_one_way" Qa)(V_:FD K "_law_net" HW)(Ml:FD K "_law_outs" Bw)(Mm:FD K "_law_stand" Bx)(Mn:FD K "_law_right" BA)(Q8:FD K "_law_far" Iu)(Mo:FD K "_law_eager" BJ)(Wa:FD K "_law_odd" IJ)(Mp:FD K "_law_other" BK)(Q9:FD K "_law_bent" yP)(Mq:FD K "_law_twice_bent" BL)(aaN:FD K "_law_named" sNm)(aaO:FD K "_law_row" sRw)(aaP:FD K "_law_same" sSm)(aaQ:FD K "_law_fewer" sFw)(Wb:FD K "law" BS)(Q_:MD K C "__init__" "Net.__init__" CP)(Mr:MD K C "check_house" "Net.check_house" A_)(Wc:MD K C "far" "Net.far" Pk)(Ra:MD K C "good" "Net.good" Hb)(Wd:MD K C "out" "Net.out" Pj)(Rb:MD K C "many" "Net.many" Ha)(pg:PySem.W.plainGet K C Str.empty=true)(aaR:PySem.W.hasDictIn K C=true)(po:PySem.W.plainOver K C=true)(sa:PySem.W.findIn K (.ref C) "__setattr__"=some (some (.builtin "object.__setattr__")))(mk:PySem.W.makesIn K C=true)(kc:PySem.W.keepIn K (.ref C)=true)(nH:PySem.W.findIn K (.ref C) "house_count"=some none)(nT:PySem.W.findIn K (.ref C) "tie_list"=some none)(nO:PySem.W.findIn K (.ref C) "out_lists"=some none)(nD:PySem.W.findIn K (.ref C) "distances"=some none)(xk:PySem.W.nsIn K mainGlobals "isinstance"=some none)(We:PySem.W.nsIn K mainGlobals "int"=some none)(Rc:PySem.W.nsIn K mainGlobals "bool"=some none)(Ms:PySem.W.nsIn K mainGlobals "tuple"=some none)(Re:PySem.W.nsIn K mainGlobals "list"=some none)(Wf:PySem.W.nsIn K mainGlobals "str"=some none)(Wg:PySem.W.nsIn K mainGlobals "set"=some none)(Wi:PySem.W.nsIn K mainGlobals "len"=some none)(Mt:PySem.W.nsIn K mainGlobals "range"=some none)(Jj:PySem.W.nsIn K mainGlobals "sorted"=some none)(Wj:PySem.W.nsIn K mainGlobals "any"=some none)(Wk:PySem.W.nsIn K mainGlobals "max"=some none)(Wl:PySem.W.nsIn K mainGlobals "min"=some none)(xm:PySem.W.nsIn K mainGlobals "ValueError"=some none)(Wm:PySem.W.nsIn K mainGlobals "all"=some none)(Wn:PySem.W.nsIn K mainGlobals "abs"=some none)(Jk:PySem.W.nsIn K mainGlobals "divmod"=some none)(Rf:PySem.W.nsIn K mainGlobals "dict"=some none)(Wo:PySem.W.nsIn K mainGlobals "zip"=some none)(Rg:PySem.W.nsIn K mainGlobals "repr"=some none)(qI:PySem.W.nsIn K mainGlobals "FEWEST_HOUSES"=some (some (.int 2 qG)))(ul:PySem.W.nsIn K mainGlobals "MOST_HOUSES"=some (some (.int 32 uk)))(qJ:PySem.W.nsIn K mainGlobals "MOST_TIES_OUT"=some (some (.int 8 qH)))(yX:v8 K lx)(Rh:PySem.W.codeHdIn K cO Pt=true):
  ∃fd:FuncData,(∀ (s:Shared) (v:Value),BindsTo s fd ⟨[v],[]⟩ [("_law_script",v)])/\∀base:Heap,K.In base->base.Ns mainGlobals mg->wf mg base->bU l.prog w K mg base bv 10 fa fd ["_law_script"] (Dj K Pt):=by
 obtain⟨aa9,oc,od,an,sl,kV,dc,pm,cd,ct,Wp,Wq,Wr,Ws⟩:=Wb;have e:=kl.symm.trans (kM X G Wp);cases e;have Wt:=v4 (x:="law") (qual:="law") (st:=BS) Wq Wr Ws;obtain⟨f_i,oci,odi,ani,sli,kVi,dci,pmi,cdi,cti,a_i,i_i,l_i,d_i,k_i⟩:=Q_;have yY:=v4 (x:="__init__") (qual:="Net.__init__") (st:=CP) l_i d_i k_i;have Jl:=yY.binds (ps:=["self","many","ties"]) fun _ _ _ _ _ _=>j_ fun _ _ _=>rfl;have MK:Mk K C f_i:=⟨mk,a_i,i_i,kc⟩
 have B:Bl mg:=⟨fY X G xk,fY X G We,fY X G Rc,fY X G Ms,fY X G Re,fY X G Wf,fY X G Wg,fY X G Wi,fY X G Mt,fY X G Jj,fY X G Wj,fY X G Wk,fY X G Wl,fY X G xm,fY X G Wm⟩
 have T:NT K mg C:=⟨⟨pg,aaR,po,sa⟩,nH,nT,nO,nD,kM X G aC⟩
 have B2:Se mg:=⟨fY X G Wn,fY X G Jk,fY X G Rf,fY X G Wo,fY X G Rg⟩
 refine⟨PySem.W.fnOf "law" "law" (dZ BS) (b_ BS) (av BS) .none kV dc pm an cd ct,fun s v=>.of_eq rfl,fun base kb nb hb=>?_⟩;have Dl:cu l.prog w K mg base bv 1 "is_whole" ["thing"] (qV K):=FD.iL X G Mc (fun _ _ _ _ _ _=>tT fun _=>rfl) fun Mu=>G8 Mu B;have yZ:cu l.prog w K mg base bv 2 "is_whole_within" ["thing","least","most"] (nQ K):=FD.iL X G Ji (fun _ _ _ _ _ _=>j_ fun _ _ _=>rfl) fun Jm=>Ei Jm Dl;have xn:cu l.prog w K mg base bv 3 "is_house" ["many","thing"] (nR K):=FD.iL X G Md (fun _ _ _ _ _ _=>f_ fun _ _=>rfl) fun Mv=>G_ Mv yZ;have Jn:cu l.prog w K mg base bv 1 "is_row" ["thing","length"] (yq K):=FD.iL X G V1 (fun _ _ _ _ _ _=>f_ fun _ _=>rfl) fun Wu=>Pg Wu B;have Wv:cu l.prog w K mg base bv 4 "are_unlike_houses" ["many","one","other"] He:=FD.iL X G V2 (fun _ _ _ _ _ _=>j_ fun _ _ _=>rfl) fun Ww=>Pu Ww xn;have Wx:cu l.prog w K mg base bv 5 "is_tie" ["many","thing"] Hg:=FD.iL X G V3 (fun _ _ _ _ _ _=>f_ fun _ _=>rfl) fun Wy=>Pw Wy Jn Wv;have Mw:cu l.prog w K mg base bv 6 "check_ties" ["many","ties"] lG:=FD.iL X G Me (fun _ _ _ _ _ _=>f_ fun _ _=>rfl) fun My=>Hi My B ⟨_,kM X G qI⟩ ⟨_,kM X G ul⟩ yZ Wx;have Wz:cu l.prog w K mg base bv 1 "check_balance" ["many","ties"] lG:=FD.iL X G V4 (fun _ _ _ _ _ _=>f_ fun _ _=>rfl) fun WB=>Px WB B ⟨_,kM X G qJ⟩;have Ri:cu l.prog w K mg base bv 1 "houses_out" ["many","ties","house"] (wF Pt):=FC.iL X G Q0 (fun _ _ _ _ _ _=>j_ fun _ _ _=>rfl) fun Rj=>K3 Rj B kb hb Rh;have Rk:cu l.prog w K mg base bv 1 "distances_from" ["out_lists","start"] wG:=FD.iL X G Q3 (fun _ _ _ _ _ _=>f_ fun _ _=>rfl) fun Rl=>K4 Rl B;have Mz:cu l.prog w K mg base bv 1 "check_reached" ["distances"] wI:=FD.iL X G Mf (fun _ _ _ _ _ _=>tT fun _=>rfl) fun MA=>Hq MA B;have Rm:bU l.prog w K mg base bv 7 f_i _ ["self","many","ties"] (Bd C Pt):=K7 yY T B Mw Wz Ri Rk Mz;have Dm:nZ l.prog w K mg base bv 4 C "check_house" ["self","thing"] (n0 C):=MD.iL Mr (fun _ _ _ _ _ _=>f_ fun _ _=>rfl) fun ET=>El ET T xn;have N7:nZ l.prog w K mg base bv 5 C "far" ["self","one","other"] (wE C):=MD.iL Wc (fun _ _ _ _ _ _=>j_ fun _ _ _=>rfl) fun MB=>KY MB T Dm;have Ro:nZ l.prog w K mg base bv 6 C "good" ["self","house","home"] (xi C):=MD.iL Ra (fun _ _ _ _ _ _=>j_ fun _ _ _=>rfl) fun Jo=>IU Jo T N7;have N8:nZ l.prog w K mg base bv 5 C "out" ["self","house"] (s_ C):=MD.iL Wd (fun _ _ _ _ _ _=>f_ fun _ _=>rfl) fun MC=>KW MC T B Dm;have Rp:nZ l.prog w K mg base bv 1 C "many" ["self"] (Bi C):=MD.iL Rb (fun _ _ _ _ _ _=>tT fun _=>rfl) fun Jp=>La Jp T;have WC:cu l.prog w K mg base bv 6 "wrong_of_letter" ["net","stand","row","letter"] (Il K C):=FD.iL X G V5 (fun _ _ _ _ _ _=>tU fun _ _ _ _=>rfl) fun WD=>Qn WD B T Dl N8;have xo:cu l.prog w K mg base bv 7 "wrong" ["net","homes","stand","thing"] (on K C):=FD.iL X G Mg (fun _ _ _ _ _ _=>tU fun _ _ _ _=>rfl) fun MH=>Im MH B Jn WC;have MI:cu l.prog w K mg base bv 6 "is_led" ["net","homes","stand","handing","letter"] (q9 C):=FD.iL X G Mh (fun _ _ _ _ _ _=>Jh fun _ _ _ _ _=>rfl) fun MJ=>IA MJ B T N7;have Jq:cu l.prog w K mg base bv 7 "led" ["net","homes","stand","handing"] (yN C):=FD.iL X G V6 (fun _ _ _ _ _ _=>tU fun _ _ _ _=>rfl) fun WE=>Qu WE B MI;have aaS:cu l.prog w K mg base bv 8 "is_eager" ["net","homes","stand","handing"] (QC C):=FD.iL X G aaJ (fun _ _ _ _ _ _=>tU fun _ _ _ _=>rfl) fun aaT=>Vx aaT B T Jq Ro;have aaU:cu l.prog w K mg base bv 1 "stand_behind" ["homes","handing"] QA:=FD.iL X G aaK (fun _ _ _ _ _ _=>f_ fun _ _=>rfl) fun aaV=>Vt aaV B B2;have WF:cu l.prog w K mg base (Kc l.prog w) 8 "behind" ["net","homes","stand","handing"] (LU K C lx):=FD.iL X G aaL (fun _ _ _ _ _ _=>tU fun _ _ _ _=>rfl) fun aaW=>Vu aaW ⟨kM X G yW,yX⟩ xo aaU;have WG:cu l.prog w K mg base bv 6 "is_stand" ["net","homes","thing"] (lL K C):=FD.iL X G aaM (fun _ _ _ _ _ _=>j_ fun _ _ _=>rfl) fun aaX=>BN aaX B B2 T Jn xn Rp N8;have WH:cu l.prog w K mg base bv 1 "_law_pot" ["_law_script","_law_k"] (Hz K):=FD.iL X G V7 (fun _ _ _ _ _ _=>f_ fun _ _=>rfl) fun WI=>P0 WI B B2;have iy:cu l.prog w K mg base bv 1 "_law_take" ["_law_pot_here","_law_many"] fv:=FD.iL X G Q4 (fun _ _ _ _ _ _=>f_ fun _ _=>rfl) fun Rq=>Lf Rq B2;have q_:cu l.prog w K mg base bv 2 "_law_order" ["_law_pot_here","_law_many"] lJ:=FD.iL X G Mi (fun _ _ _ _ _ _=>f_ fun _ _=>rfl) fun ML=>HC ML B iy;have Rr:cu l.prog w K mg base bv 1 "_law_both" ["_law_pairs"] Bq:=FD.iL X G Q5 (fun _ _ _ _ _ _=>tT fun _=>rfl) fun Rt=>Lh Rt;have Jr:cu l.prog w K mg base bv 2 "_law_tree" ["_law_pot_here","_law_n"] mL:=FD.iL X G Q6 (fun _ _ _ _ _ _=>f_ fun _ _=>rfl) fun Ru=>Li Ru B iy;have Rv:cu l.prog w K mg base bv 3 "_law_mesh" ["_law_pot_here","_law_n"] mL:=FD.iL X G Q7 (fun _ _ _ _ _ _=>f_ fun _ _=>rfl) fun Ry=>Lm Ry B iy Jr;have WJ:cu l.prog w K mg base bv 1 "_law_box" ["_law_sides"] HN:=FD.iL X G V8 (fun _ _ _ _ _ _=>tT fun _=>rfl) fun WK=>P_ WK B;have MN:cu l.prog w K mg base bv 1 "_law_words" ["_law_figures","_law_base"] wN:=FD.iL X G Mj (fun _ _ _ _ _ _=>f_ fun _ _=>rfl) fun MP=>HP MP B;have WM:cu l.prog w K mg base bv 3 "_law_one_way" ["_law_pot_here","_law_n"] HR:=FD.iL X G V9 (fun _ _ _ _ _ _=>f_ fun _ _=>rfl) fun WN=>Qb WN B iy q_;have WP:cu l.prog w K mg base bv 4 "_law_net" ["_law_pot_here"] HZ:=FD.iL X G V_ (fun _ _ _ _ _ _=>tT fun _=>rfl) fun WQ=>Qf WQ B iy q_ Jr Rv Rr WJ MN WM;have MQ:cu l.prog w K mg base bv 1 "_law_outs" ["_law_n","_law_ties"] wS:=FD.iL X G Ml (fun _ _ _ _ _ _=>f_ fun _ _=>rfl) fun MR=>Ic MR B B2;have MS:cu l.prog w K mg base bv 2 "_law_stand" ["_law_pot_here","_law_n","_law_outs_here"] wU:=FD.iL X G Mm (fun _ _ _ _ _ _=>j_ fun _ _ _=>rfl) fun MT=>Ie MT B iy;have MU:cu l.prog w K mg base bv 2 "_law_right" ["_law_pot_here","_law_outs_here","_law_stand_here"] w4:=FD.iL X G Mn (fun _ _ _ _ _ _=>j_ fun _ _ _=>rfl) fun MV=>Ix MV B iy;have Rz:cu l.prog w K mg base bv 1 "_law_far" ["_law_n","_law_outs_here"] BG:=FD.iL X G Q8 (fun _ _ _ _ _ _=>f_ fun _ _=>rfl) fun RA=>LG RA B;have MW:cu l.prog w K mg base bv 3 "_law_eager" ["_law_pot_here","_law_outs_here","_law_far_here","_law_homes","_law_stand_here"] w9:=FD.iL X G Mo (fun _ _ _ _ _ _=>Jh fun _ _ _ _ _=>rfl) fun MX=>IF MX B iy q_;have WS:cu l.prog w K mg base bv 2 "_law_odd" ["_law_pot_here","_law_n"] IM:=FD.iL X G Wa (fun _ _ _ _ _ _=>f_ fun _ _=>rfl) fun WT=>Qw WT B iy;have MY:cu l.prog w K mg base bv 3 "_law_other" ["_law_pot_here","_law_way","_law_n","_law_outs_here","_law_stand_here","_law_thing"] xa:=FD.iL X G Mp (fun _ _ _ _ _ _=>Dk fun _ _ _ _ _ _=>rfl) fun MZ=>IN MZ B iy WS;have RB:cu l.prog w K mg base bv 4 "_law_bent" ["_law_pot_here","_law_way","_law_n","_law_outs_here","_law_stand_here","_law_thing"] (BM K):=FD.iL X G Q9 (fun _ _ _ _ _ _=>Dk fun _ _ _ _ _ _=>rfl) fun RC=>LN RC B iy MY;have M0:cu l.prog w K mg base bv 5 "_law_twice_bent" ["_law_pot_here","_law_ways","_law_n","_law_outs_here","_law_stand_here","_law_thing"] xf:=FD.iL X G Mq (fun _ _ _ _ _ _=>Dk fun _ _ _ _ _ _=>rfl) fun M1=>IQ M1 B RB;have aaY:cu l.prog w K mg base bv 1 "_law_named" ["_law_n","_law_order_here","_law_thing"] (LZ K):=FD.iL X G aaN (fun _ _ _ _ _ _=>j_ fun _ _ _=>rfl) fun aaZ=>VA aaZ B;have aa0:cu l.prog w K mg base bv 2 "_law_row" ["_law_n","_law_order_here","_law_row_here"] (QF K):=FD.iL X G aaO (fun _ _ _ _ _ _=>j_ fun _ _ _=>rfl) fun aa1=>VB aa1 B aaY;have aa2:cu l.prog w K mg base bv 9 "_law_same" ["_law_n","_law_order_here","_law_nets","_law_homes","_law_stand_here","_law_thing"] (QJ K C):=FD.iL X G aaP (fun _ _ _ _ _ _=>Dk fun _ _ _ _ _ _=>rfl) fun aa3=>VI aa3 aa0 WG xo WF Jq aaS;have aa4:cu l.prog w K mg base bv 9 "_law_fewer" ["_law_net_here","_law_homes","_law_stand_here","_law_handing"] (QT C):=FD.iL X G aaQ (fun _ _ _ _ _ _=>tU fun _ _ _ _=>rfl) fun aa5=>VQ aa5 B WG xo WF Jq;exact QW Wt B T MK Jl Rm WH iy WP MQ Rz MS MU MW M0 q_ aa2 aa4
theorem WU(h:((List.range 2000).any fun c=>PySem.W.codeHdIn K c P)=true):∃c,PySem.W.codeHdIn K c P=true:=
 let ⟨c,_,e⟩:=ky.mp h;⟨c,e⟩
theorem RD(hO:Cs ts H)(h:aV K H a xs):Jg K H a xs:=by
 rcases h with h|h
 .rcases h with h|⟨o,h⟩
  .rcases hO.2 a with z|⟨_,z⟩|⟨o,ys,z⟩ <;> · rw[h] at z;cases z
  .exact .inl ⟨o,h⟩
 .exact .inr fun H'=>.inr h
theorem walk{l:PySem.W.OpenLaw}{q:Program}{uG:List Str}{XP:(Str->Option Value)->Heap->Prop}{YP:World->Heap->Prop}{d:DefRec}{K:Params->PySem.W.Frag}{Pt:Addr}(hn:l.most=some 63)(Tl:d.params.defaults=[])(hY:∀ (w:World) (h:Heap),YP w h->(K w.params).In h)(hT:∀ (w:World) (h:Heap),YP w h->∀P∈[Pt],h.get? P=some (PySem.W.tabObj #[]))(qK:∀ (w:World),((List.range 2000).any fun c=>PySem.W.codeHdIn (K w.params) c Pt)=true)(Ua:∀ (w:World),(K w.params).lookup Pt=none)(F:∀ (w:World) (mg:Str->Option Value) (fa:Addr) (h:Heap),(K w.params).In h->h.Ns mainGlobals mg->mg d.name=some (.ref fa)->
   ∃fd:FuncData,(∀ (s:Shared) (u:Value),BindsTo s fd ⟨[u],[]⟩ [("_law_script",u)])/\∀base:Heap,(K w.params).In base->base.Ns mainGlobals mg->wf mg base->bU l.prog w (K w.params) mg base bv 10 fa fd ["_law_script"] (Dj (K w.params) Pt)):
  PySem.W.WalkO q uG XP YP l.row.toRowW d [] (fun f vs=>PySem.call f vs):=
 Gu (n:=63) (k:=10) (x:="_law_script") (ts:=[Pt]) (K:=K) (CX:=fun _=>bv) (sp:=fun w=>(Dj (K w.params) Pt)) hn (by decide) Tl ⟨rfl,by decide,by decide,rfl⟩ hY hT
  (fun w P hP=>by rw[cC.mp hP];exact WU (qK w)) (fun w P hP=>by rw[cC.mp hP];exact Ua w) F
  (fun w H a ns hl hO hS=>⟨a,ns,rfl,RD hO hS,hl,.inl (hO.1 _ (by simp)),fun _=>rfl⟩) fun _ _ _ _ _ z=>z
end jT
open PySem PySem.W PyProof.Rows
namespace PySem.W.Fast
def tw10719210504518878791:=trivial
def tw14077110377028271702:=trivial
def tw11135110749979858031:=trivial
def tw15385605045720929904:=trivial
def tw4863945396633504786:=trivial
def tw9028620194537386728:=trivial
def tw192663649305263250:=trivial
def tw3602782049576430409:=trivial
def tw3878532027016167447:=trivial
def tw748304407421151039:=trivial
def tw7934892966490779514:=trivial
def tw1453572101347483968:=trivial
def tw12514057469027633124:=trivial
def tw17974004299192566170:=trivial
def tw5184627001842803888:=trivial
def tw5369897303293643518:=trivial
def tw18004135515265709487:=trivial
def tw17099552539785671267:=trivial
def tw6018827901236575895:=trivial
def tw8877667990580768987:=trivial
def tw13657838527266379561:=trivial
def tw7589797114319404129:=trivial
def tw17035291147206925281:=trivial
def tw5939511636486955272:=trivial
def tw9805435299119527806:=trivial
def tw732552638524409367:=trivial
def tw13039002943225504197:=trivial
def tw16853692919650865905:=trivial
def tw11910584926904815143:=trivial
def tw6745343695564348455:=trivial
def tw3296625392703886811:=trivial
def tw10511041540148358687:=trivial
def tw4634314119211049959:=trivial
def tw6322833995256350270:=trivial
def tw8056738276984291685:=trivial
def tw3529036784622476812:=trivial
def tw8126002197805767932:=trivial
def tw13358791409127827761:=trivial
def tw6210553110638961097:=trivial
def tw7189827235238665563:=trivial
def tw11511774547745843507:=trivial
def tw6067694225231880684:=trivial
def tw14753713753157051987:=trivial
def tw8912985566044915028:=trivial
def tw7014161714306623271:=trivial
def tw1985526512106502443:=trivial
def tw11121492254542064426:=trivial
def tw16576319424193782574:=trivial
def tw17201411973858338920:=trivial
def tw13792295911104995217:=trivial
def tw1398355395730992314:=trivial
def tw16556754605791986216:=trivial
def tw4268556207056471445:=trivial
def tw4035769251498612602:=trivial
def tw8661771195491813368:=trivial
def tw4585344037043804063:=trivial
def tw7079591289230730584:=trivial
def tw3830096007967745995:=trivial
def tw5257903475546881261:=trivial
def tw16222206471077652600:=trivial
def tw813760816967532824:=trivial
def tw10831612763638272146:=trivial
def tw14615529235801432895:=trivial
def tw13615636608445407493:=trivial
def tw2679368911078696512:=trivial
def tw9144931979479665989:=trivial
def tw12373459949065211721:=trivial
def tw17766759574781701809:=trivial
def tw6739917258300195301:=trivial
def tw7763884639697143241:=trivial
def tw15537121135712504463:=trivial
def tw9958774482112064234:=trivial
def tw4366916541278830630:=trivial
def tw13483225989045688633:=trivial
def tw10649721180863059947:=trivial
def tw17134325633346285324:=trivial
def tw9903945813555322055:=trivial
def tw2931115482257832443:=trivial
def tw2707733939460687897:=trivial
def tw13438956198754230690:=trivial
def tw12108231386781149521:=trivial
def tw11229274293229432266:=trivial
def tw17463343438767071708:=trivial
def tw11483001804435513379:=trivial
def tw14428511461858343791:=trivial
def tw11515841796015882462:=trivial
def tw11673687247258769229:=trivial
def tw2141503832058390213:=trivial
def tw14483759522522125476:=trivial
def tw17002770760441037067:=trivial
def tw6995697052010141153:=trivial
def tw878557709773442642:=trivial
def tw16389235958389069944:=trivial
def tw18324854880540972250:=trivial
def tw13269029044802822727:=trivial
def tw9940964808818183485:=trivial
def tw2561915591270894729:=trivial
def tw10699167080296828710:=trivial
def tw18247115073425725351:=trivial
def tw2365553658658102363:=trivial
def tw15022041645723894364:=trivial
def tw12450459530992169303:=trivial
def tw684682593121480944:=trivial
def tw6480518642936218767:=trivial
def tw14595431772038439872:=trivial
def tw15203028169236496579:=trivial
def tw1785281258008937781:=trivial
def tw425488126571022539:=trivial
def tw9743711618107271315:=trivial
def tw7508813199975241456:=trivial
def tw2217936167567855468:=trivial
def tw11245636934999170025:=trivial
def tw8612866291475253360:=trivial
def tw15314113868258715972:=trivial
def tw2452567317105538471:=trivial
def tw4980841753782557693:=trivial
def tw15855233908046187302:=trivial
def tw15346601045297089799:=trivial
def tw5543307593209815284:=trivial
def tw14098555068429446738:=trivial
def tw3333049563997979123:=trivial
def tw15449382853302888757:=trivial
def tw16102147014569249740:=trivial
def tw8440360597161563867:=trivial
def tw7498617808858435673:=trivial
def tw16925813383490025189:=trivial
def tw8959821697111449270:=trivial
def tw12670203105699326867:=trivial
def tw4467959435693203801:=trivial
def tw8919422042634722053:=trivial
def tw6652321279158795942:=trivial
def tw7721759767683385807:=trivial
def tw8355951639748974757:=trivial
def tw2676008395047199344:=trivial
def tw11672532042893347024:=trivial
def tw7680952685265879259:=trivial
def tw8335647643252643511:=trivial
def tw3300242324948220691:=trivial
def tw15155164008441488507:=trivial
def tw5639027105537740454:=trivial
def tw14751406657963312557:=trivial
def tw10133713097795746675:=trivial
def tw10719540125752742746:=trivial
def tw9607253913357947026:=trivial
def tw10654669783328670106:=trivial
def tw12078980374169291329:=trivial
def tw501238870823302577:=trivial
def tw12001528369157450531:=trivial
def tw17856692883061646055:=trivial
def tw4667216599854722086:=trivial
def tw13868821643789420644:=trivial
def tw9615821126289194255:=trivial
def tw9101235952681256823:=trivial
def tw9257621821071724780:=trivial
def tw16401243132461661395:=trivial
def tw5522419249590607411:=trivial
def tw16444494129541052821:=trivial
def tw4195505216883493554:=trivial
def tw9640760803637273252:=trivial
def tw8423709773377386802:=trivial
def tw2050234728641133888:=trivial
def tw15137536080912966291:=trivial
def tw8188722867066850310:=trivial
def tw3204397330271322907:=trivial
def tw14907648213880733900:=trivial
def tw4079837503425313787:=trivial
def tw18394725021632480149:=trivial
def tw7132772902523905084:=trivial
def tw4350897162856895346:=trivial
def tw16724747559264381518:=trivial
def tw5062015605002745666:=trivial
def tw5122657227223861550:=trivial
def tw13574249305105346189:=trivial
def tw11267955524375161732:=trivial
def tw11696295688983013026:=trivial
def tw13107755684744639209:=trivial
def tw13304016927502856774:=trivial
def tw539850747753276106:=trivial
def tw15305492594213136934:=trivial
def tw6480650133603748841:=trivial
def tw18202836625068075711:=trivial
def tw1565528492965850395:=trivial
def tw5793232934103107484:=trivial
def tw18325413495974029751:=trivial
def tw7991138599524947068:=trivial
def tw17947472614174500044:=trivial
def tw14131902671396173114:=trivial
def tw11586733066502144018:=trivial
def tw2041572923898941646:=trivial
def tw9430613717866152235:=trivial
def tw2772616701563268967:=trivial
def tw13574425533838983985:=trivial
def tw15107617492366584103:=trivial
def tw14171010486355918150:=trivial
def tw14554313275191331821:=trivial
def tw17578974139883566852:=trivial
def tw1645057562208909350:=trivial
def tw755802064582248592:=trivial
def tw4389683823646524725:=trivial
def tw9698079080298395284:=trivial
def tw1378607037618903372:=trivial
def tw9300355131525503570:=trivial
def tw12279180503027984317:=trivial
def tw10659601998554633745:=trivial
def tw14519787922164665930:=trivial
def tw17055152198974355276:=trivial
def tw2981269488250312193:=trivial
def tw11792121718277862799:=trivial
def tw958173379048706183:=trivial
def tw12318565705650148458:=trivial
def tw13662155348172123918:=trivial
def tw13911713541386858963:=trivial
def tw8199689460318626171:=trivial
def tw11043418957771612475:=trivial
def tw2463383578387986132:=trivial
def tw14144812100145903709:=trivial
def tw13126013173458534657:=trivial
def tw13497560908697553297:=trivial
def tw10636432702520497031:=trivial
def tw17774466631007076516:=trivial
def tw485683477223889664:=trivial
def tw6058261076204084505:=trivial
def tw16636565933623407922:=trivial
def tw2160169022279385002:=trivial
def tw1353441770915236002:=trivial
def tw5288477133456418848:=trivial
def tw17411893772049775127:=trivial
def tw9433965707509002002:=trivial
def tw13827023066549317235:=trivial
def tw15064034141641149258:=trivial
def tw3608311278838611382:=trivial
def tw7432266079928831662:=trivial
def tw2350840810176207853:=trivial
def tw16090136861275012184:=trivial
def tw18267995444974254090:=trivial
def tw3657093409618284098:=trivial
def tw815075095518256747:=trivial
def tw15471240801176257554:=trivial
def tw6179016339362262854:=trivial
def tw4388352958218428090:=trivial
def tw11860983932604694758:=trivial
def tw13754844291118566298:=trivial
def tw6354813261438780130:=trivial
def tw10702692818497862709:=trivial
def tw16753627598376203190:=trivial
def tw2867114138793709433:=trivial
def tw2562970504215803025:=trivial
def tw17691397530880677003:=trivial
def tw1711958864608261599:=trivial
def tw8079559694999869109:=trivial
def tw15593185362888248489:=trivial
def tw14194576055680696690:=trivial
def tw7590867867436781507:=trivial
def tw10258628016042927188:=trivial
def tw14326793612221492150:=trivial
def tw15593716338922840689:=trivial
def tw1675357840125883186:=trivial
def tw968057071895131976:=trivial
def tw47513768463347084:=trivial
def tw919112915470317236:=trivial
def tw9210767952977552654:=trivial
def tw1612050464113562189:=trivial
def tw10001171604866941389:=trivial
def tw1782531413442507856:=trivial
def tw9906201717256759298:=trivial
def tw5608633169809689126:=trivial
def tw16183496004748236794:=trivial
def tw2671882801715788172:=trivial
def tw6802930825912900555:=trivial
def tw6273132142850355615:=trivial
def tw6929381139684468083:=trivial
def tw1001686958091334845:=trivial
def tw1260805855587780722:=trivial
def tw11116390563825846723:=trivial
def tw2599483736400816397:=trivial
def tw9378621551693056017:=trivial
def tw2508701777680654820:=trivial
def tw4068969728271465703:=trivial
def tw7338519904729312722:=trivial
def tw2410489959630473077:=trivial
def tw6180427446897298499:=trivial
def tw4417344497051031394:=trivial
def tw13066196259540925253:=trivial
def tw15444596019370855794:=trivial
def tw347388652640946336:=trivial
def tw12714998137011724660:=trivial
def tw2907960930136677452:=trivial
def tw14822082748340751029:=trivial
def tw9648983978922299219:=trivial
def tw13023301267610704611:=trivial
def tw12842752977296509463:=trivial
def tw5801622424400846033:=trivial
def tw2205886439785469444:=trivial
def tw15007261912926707248:=trivial
def tw11014854598276554805:=trivial
def tw16218693103779545211:=trivial
def tw17717240511952136408:=trivial
def tw15773260448365998711:=trivial
def tw10242798097524695039:=trivial
def tw12112331035510379366:=trivial
def tw15190136013198615262:=trivial
def tw18422705424344027706:=trivial
def tw12741161369192333763:=trivial
def tw11031745911276466848:=trivial
def tw15940725406110316720:=trivial
def tw17427630397080943408:=trivial
def tw15344325989757264845:=trivial
def tw16547019919898285213:=trivial
def tw9371915847037612986:=trivial
def tw11756815144889660572:=trivial
def tw11781392130132236479:=trivial
def tw1877989990179773186:=trivial
def tw15141648375986743371:=trivial
def tw1938406061618891573:=trivial
def tw5195152406345905498:=trivial
def tw9201525525276348900:=trivial
def tw13427200990180259743:=trivial
def tw8880330854587039174:=trivial
def tw2914082908949484568:=trivial
def tw3548597944809798426:=trivial
def tw17369446972804099175:=trivial
def tw12076941354675216503:=trivial
def tw12053962774125200491:=trivial
def tw6810027711022390893:=trivial
def tw2507624805152518252:=trivial
def tw7607094945025540686:=trivial
def tw8078810993092966901:=trivial
def tw4099919025864807505:=trivial
def tw6706755366287232173:=trivial
def tw8283734405908264923:=trivial
def tw16378099936551254937:=trivial
def tw15764835420514232508:=trivial
def tw18428065173262906886:=trivial
def tw6239100042390922849:=trivial
def tw12172426326140925873:=trivial
def tw16382665820054452197:=trivial
def tw5961123609372301770:=trivial
def tw5346218048487515041:=trivial
def tw7958010786072982344:=trivial
def tw6525302565805406706:=trivial
def tw13336391797492434759:=trivial
def tw16767294263225445315:=trivial
def tw17331944101724764504:=trivial
def tw18221528977185073822:=trivial
def tw4529465610651364030:=trivial
def tw18239315983103789392:=trivial
def tw15797644512070951132:=trivial
def tw14771291057990360491:=trivial
def tw3041345860319851923:=trivial
def tw2872866673530300913:=trivial
def tw10853909860985969813:=trivial
def tw12679612053211839221:=trivial
def tw9295665391182924041:=trivial
def tw7734957383397836408:=trivial
def tw12526606092416253838:=trivial
def tw2825690457980497216:=trivial
def tw16044672549541739071:=trivial
def tw6519885866909394384:=trivial
def tw13524858919310687735:=trivial
def tw6311376083483111383:=trivial
def tw18299928839200915202:=trivial
def tw6529200371009396431:=trivial
def tw8432374887935451020:=trivial
def tw10803097813601708292:=trivial
def tw18036951515482511458:=trivial
def tw960303666871318329:=trivial
def tw4482597307135503392:=trivial
def tw10096366352193492238:=trivial
def tw12591827875116940585:=trivial
end PySem.W.Fast
set_option maxRecDepth 100000 in
set_option maxHeartbeats 0 in
theorem PySem.Challenge.cw_neverwait_k26_whole_named_anew_holds : PySem.Challenge.rw_neverwait_k26_whole_named_anew.Holds := by
 w_on; o_law; k_head; (case hw=>w_witness2)
 k_fill
 refine jT.walk (l:=PySem.Challenge.rw_neverwait_k26_whole_named_anew) (Pt:=_) rfl rfl (fun w h Y=>PySem.W.km_in_of Y) (fun w h Y=>PySem.W.km_tabs_of Y) ?cd ?kt ?F;case F =>
  intro w mg fa h KX G Tn;refine' jT.QZ (Pt:=_) KX G Tn ?_ ?_ ?_ ?_ ?_ ?_ ?_ ?_ ?_ ?_ ?_ ?_ ?_ ?_ ?_ ?_ ?_ ?_ ?_ ?_ ?_ ?_ ?_ ?_ ?_ ?_ ?_ ?_ ?_ ?_ ?_ ?_ ?_ ?_ ?_ ?_ ?_ ?_ ?_ ?_ ?_ ?_ ?_ ?_ ?_ ?_ ?_ ?_ ?_ ?_ ?_ ?_ ?_ ?_ ?_ ?_ ?_ ?_ ?_ ?_ ?_ ?_ ?_ ?_ ?_ ?_ ?_ ?_ ?_ ?_ ?_ ?_ ?_ ?_ ?_ ?_ ?_ ?_ ?_ ?_ ?_ ?_ ?_ ?_ ?_ ?_;all_goals first
   | (refine' jT.FD.mk ?a ?l ?d ?k; (case a=>k_is); (case l=>k_is); (case d=>k_is); (case k=>k_is))
   | (refine' jT.FC.mk ?a ?l ?d ?k; (case a=>k_is); (case l=>k_is); (case d=>k_is); (case k=>k_is))
   | (refine' jT.MD.mk ?a ?i ?l ?d ?k; (case a=>k_is); (case i=>k_is); (case l=>k_is); (case d=>k_is); (case k=>k_is))
   | k_is
   | kernel_rfl
   | exact ⟨by kernel_rfl,by k_is,by k_is,by k_is,by k_is,by k_is,by k_is,by kernel_rfl⟩
   | skip
 case kt=>intro w; kernel_rfl
 case cd=>intro w; kernel_rfl
