import PyProof.Rows.All
import Wide.All
import OpenK.AllK
import Wide.FinOn
import Lean
import PyProof.EqAt
import PyProof.EqKinds
import PyProof.TupleCall
import PySem.Challenge.RW_neverwait_k52_home_led_waited
set_option Elab.async false
set_option linter.all false
set_option maxRecDepth 100000
set_option maxHeartbeats 8000000
def bh:=@List.getD_eq_getElem?_getD
def aB:=@List.length_map
def bD:=@List.getElem?_eq_getElem
def bN:=@Nat.lt_of_lt_of_le
def b9:=@List.mem_cons_of_mem
def bO:=@List.getElem?_map
def bY:=@List.length_append
def aS:=@PySem.wpAny_bind
def cz:=@List.mem_cons_self
def aI:=@PyProof.Rows.wpS_bind
def ak:=@if_neg
def bg:=@List.mem_append
def cD:=@List.getElem?_eq_some_iff
def ap:=@if_pos
def aW:=@List.mem_map
def cw:=@PySem.Heap.get?_push_of_some
def aZ:=@Nat.ne_of_lt
def bR:=@List.mem_singleton
def a7:=@Nat.le_trans
def bS:=@List.size_toArray
def bE:=@Option.some.inj
def cm:=@Bool.false_ne_true
def a8:=@Nat.le_refl
def cE:=@List.mem_of_getElem?
def di:=@PySem.F.plainAttrs_list
def bG:=@List.mem_range
def bn:=@PySem.Heap.lt_size
def bT:=@List.map_append
def aO:=@PyProof.Rows.wpS_pure
def cF:=@Nat.lt_succ_of_lt
def cG:=@List.length_range
def cJ:=@List.append_assoc
def dG:=@PySem.Heap.get?_push_size
def fk:=@PySem.F.type_list_append
def fm:=@PySem.F.slot_list_append
def cn:=@List.mem_cons
def dU:=@Array.toList_append
def dk:=@List.length_cons
def cX:=@List.nodup_cons
def cY:=@List.mem_filter
def fq:=@List.getElem?_eq_none
def dq:=@PySem.PassesOwn.never
def dt:=@PySem.boot_len
def cS:=@List.map_cons
def eG:=@of_decide_eq_true
def eI:=@List.take_add_one
def cZ:=@Int.ofNat.inj
def cK:=@getElem?_pos
def eJ:=@PySem.Heap.get?_push_ne
def ft:=@PySem.W.mg_none_of
def fL:=@List.map_congr_left
def eK:=@List.filter_cons
def dY:=@decide_eq_false
def gc:=@List.mem_append_left
def du:=@List.map_map
def dZ:=@decide_eq_true
def fu:=@List.lookup_cons
def il:=@List.perm_append_comm
def im:=@List.mem_append_right
def io:=@List.length_filter_le
def ge:=@List.filter_append
def c_:=@Nat.zero_le
def jn:=@Classical.byContradiction
def dH:=@Int.zero_add
def fN:=@List.getElem_mem
def ka:=@Array.perm_iff_toList_perm
def fO:=@PySem.Heap.size_update
def kd:=@List.getElem?_append_left
def gf:=@List.take_length
def gg:=@Bool.and_eq_true
def jo:=@PyProof.Rows.boot_list
def l7:=@List.nodup_iff_pairwise_ne
def iA:=@Option.toList_some
def iB:=@Nat.lt_of_le_of_lt
def eL:=@PyProof.Rows.wpS_forRange
def ni:=@PyProof.Rows.boot_isinstance
def ke:=@List.Perm.append_left
def ip:=@PySem.W.kia_one
def nj:=@List.drop_eq_getElem_cons
def gi:=@PySem.wpAny_holding
def kg:=@List.getElem?_range
def jp:=@List.pairwise_map
def jq:=@Int.toNat_natCast
def pO:=@Int.mul_le_mul_of_nonneg_left
def nk:=@PyProof.Rows.boot_sorted
def iq:=@List.nodup_nil
def kh:=@Int.emod_lt_of_pos
def nu:=@PyProof.Rows.boot_tuple
def jt:=@List.nodup_range
def pP:=@List.getElem?_append_right
def l8:=@PySem.mem_of_lookup
def l9:=@Int.toNat_of_nonneg
def ju:=@List.append_nil
def nw:=@List.take_append_drop
def ny:=@List.length_replicate
def l_:=@PySem.Heap.get?_update_ne
def md:=@PySem.F.called_set
def ki:=@Nat.lt_succ_self
def me:=@Bool.false_eq_true
def nz:=@List.mem_of_mem_take
def iC:=@List.nodup_append
def d5:=@beq_iff_eq
def gX:=@List.range_succ
def gY:=@Int.emod_nonneg
def gZ:=@Bool.eq_iff_iff
def jD:=@beq_eq_false_iff_ne
def jE:=@List.replicate_succ
def iD:=@List.all_eq_true
def g7:=@Array.size_map
def kZ:=@Array.getElem?_toList
def iE:=@Nat.div_add_mod
def iF:=@List.length_set
def iG:=@List.find?_cons
def dE:=@Prod.ext
def k4:=@List.mem_iff_getElem
def cV:=@PyProof.Rows.wpS_mono
def g8:=@Nat.lt_irrefl
def k5:=@Array.length_toList
def jF:=@PySem.wpAny_truthy_bool
def jG:=@Nat.mod_eq_of_lt
def jH:=@List.length_take
def nA:=@List.take_of_length_le
def nB:=@List.range_succ_eq_map
def k6:=@List.mem_filterMap
def nC:=@List.getElem?_set_self
def nE:=@List.filter_map
def jI:=@List.count_cons
def iH:=@List.any_cons
def iI:=@List.all_cons
def fe:=@PyProof.Rows.wpS_modify
def k7:=@Array.toList_push
def qP:=@Array.getD_eq_getD_getElem?
def jJ:=@PySem.wpAny_passesOwn
def nG:=@List.mem_of_mem_drop
def nI:=@List.getElem?_set_ne
def nJ:=@List.count_eq_countP
def iJ:=@Nat.le_of_lt
def k8:=@List.countP_cons
def vL:=@PyProof.Rows.F.plain_set_update_loop
def fP:=@PyProof.Rows.size_push'
def jK:=@PySem.W.mg_of
def qQ:=@Option.isSome_iff_exists
def jL:=@PySem.Heap.size_push
def nK:=@PySem.Heap.get?_none_of_le
def k9:=@ne_of_beq_false
def k_:=@List.countP_map
def qR:=@PySem.F.type_list_count
def qS:=@PySem.F.slot_list_count
def iK:=@List.map_id
def jM:=@PySem.wpAny_standAt
def jN:=@List.map_nil
def qT:=@List.length_pos_of_mem
def nM:=@List.flatten_cons
def qU:=@List.Perm.append_right
def qV:=@Array.toList_filterMap
def g9:=@PySem.wpAny_mono
def nP:=@PySem.wpAny_Call_Name_kw
def iL:=@PySem.sizeLine_eq
def qW:=@PyProof.Rows.boot_min
def qX:=@PyProof.Rows.boot_max
def qY:=@Nat.le_of_ble_eq_true
def qZ:=@Nat.eq_of_beq_eq_true
def nQ:=@List.getElem_map
def lc:=@List.cons.inj
def q8:=@PySem.wpAny_pyNext_list_item
def nR:=@PySem.wpAny_pyIter_list
def gu:=@if_false
def jO:=@Nat.mul_pos
def nU:=@List.of_mem_zip
def vM:=@PyProof.Rows.callWith_type1
def q9:=@decide_eq_true_iff
def nV:=@Nat.mul_le_mul
def q_:=@List.getElem_range
def vN:=@Array.getElem?_eq_getElem
def ra:=@decide_eq_true_eq
def gv:=@Ne.symm
def lg:=@Nat.mul_add
def rb:=@List.take_sublist
def rc:=@List.ext_getElem?
def lh:=@PySem.codeAny_mono
def nW:=@Nat.mul_assoc
def jP:=@PySem.wpAny_rule
def vO:=@List.getElem?_replicate
def rd:=@List.ext_getElem
def re:=@Array.toList_map
def nX:=@Nat.succ.inj
def nY:=@Nat.ne_of_gt
def nZ:=@Nat.le_of_eq
def vP:=@Nat.div_div_eq_div_mul
def vQ:=@List.filter_eq_nil_iff
def rf:=@PySem.wpAny_setState_of
def n0:=@PyProof.Rows.get?_update_seq
def rh:=@Nat.not_lt_zero
def rj:=@List.foldl_cons
def rm:=@List.Perm.of_eq
def rn:=@Int.natCast_mul
def vR:=@PyProof.Rows.boot_int
def fQ:=@PyProof.Rows.wpS_get
def n4:=@Nat.one_mul
def n6:=@Nat.mul_one
def vS:=@List.mem_erase_of_ne
def rp:=@List.Perm.refl
def vT:=@Array.toList_reverse
def vU:=@Array.toList_extract
def lj:=@PySem.wpAny_Name
def lm:=@PySem.call_meets
def vV:=@PySem.W.plainGet_of
def AX:=@PyProof.Rows.F.entry_set_update_loop
def vW:=@Nat.mul_le_mul_left
def vX:=@List.filter_sublist
def vY:=@List.filterMap_cons
def rq:=@PySem.wpAny_execs_nil
def rA:=@PySem.codeAny_builtin
def rB:=@PySem.SeqAt.EqAt.same
def rC:=@Bool.not_true
def vZ:=@PySem.wpAny_pyNext_list_end
def v9:=@PySem.W.callWith_K
def n8:=@Nat.mod_lt
def v_:=@List.filter_filter
def wa:=@PySem.wpAny_loadName_local
def wb:=@PySem.codeAny_call_builtin
def rD:=@Nat.zero_add
def rE:=@Nat.sub_self
def rF:=@Nat.mul_comm
def rG:=@Nat.lt_trans
def rH:=@Nat.beq_refl
def wc:=@List.reverse_perm
def wd:=@List.getElem?_set
def we:=@List.count_append
def wf:=@List.any_eq_false
def wg:=@Int.emod_eq_of_lt
def wm:=@Bool.eq_false_iff
def AY:=@List.eraseIdxIfInBounds_toArray
def wn:=@PySem.wpAny_loadName_free
def wo:=@List.mem_flatMap
def AZ:=@Int.mul_le_mul_of_nonneg_right
def rJ:=@Nat.le_succ
def wq:=@PySem.tupleKind_room_in1
def wr:=@PySem.SeqAt.EqAt.of_refs
def wu:=@Int.natCast_add
def A0:=@PySem.F.typeOf_object_class
def wv:=@PySem.wpAny_loadPart_at
def A1:=@Nat.mul_lt_mul_of_pos_left
def A2:=@Int.fmod_eq_emod_of_nonneg
def A3:=@Int.fdiv_eq_ediv_of_nonneg
def A4:=@Array.toList_setIfInBounds
def A5:=@Array.getElem?_eq_some_iff
def jQ:=@PyProof.Rows.wpS_lift
def A6:=@Nat.add_mul_mod_self_left
def A7:=@List.pairwise_iff_getElem
def A8:=@List.mem_or_eq_of_mem_set
def ww:=@PySem.wpAny_eqBool_int
def A9:=@List.length_erase_of_mem
def A_:=@List.filterMap_cons_some
def wx:=@Int.mul_assoc
namespace L2
open PySem PySem.Spec PyProof.Rows
abbrev fv:=Sum Int Str
def pQ:fv->Value->Bool
 |.inl k,v=>Value.isInt k v
 |.inr x,v=>Value.isStrOf x v
def QC(w:World):fv->Int
 |.inl k=>hashInt k
 |.inr x=>hashStr w x
theorem cx:∀ {k:fv} {v:Value},pQ k v=true->(∃i t,k=Sum.inl i/\v=Value.int i t)\/(∃x t,k=Sum.inr x/\v=Value.str x t)
 |.inl i,v,h=>by
  obtain⟨t,e⟩:=Value.isInt_shape (k:=i) (v:=v) h;exact .inl ⟨i,t,rfl,e⟩
 |.inr x,v,h=>by
  obtain⟨t,e⟩:=Value.isStrOf_shape (x:=x) (v:=v) h;exact .inr ⟨x,t,rfl,e⟩
theorem zq(i:Int)(t:Tok):pQ (.inl i) (.int i t)=true:=by simp[pQ,Value.isInt]
theorem zu(x:Str)(t:Tok):pQ (.inr x) (.str x t)=true:=by simp[pQ,Value.isStrOf]
theorem HC(a b:Int):decide ((Sum.inl a:fv)=Sum.inl b)=(a==b):=by
 by_cases e:a=b
 .subst e;simp
 .have h:¬ (Sum.inl a:fv)=Sum.inl b:=fun q=>e (Sum.inl.inj q);rw[dY h];exact(jD.mpr e).symm
theorem HD(a b:Str):decide ((Sum.inr a:fv)=Sum.inr b)=decide (a=b):=by
 by_cases e:a=b
 .subst e;simp
 .have h:¬ (Sum.inr a:fv)=Sum.inr b:=fun q=>e (Sum.inr.inj q);rw[dY h,dY e]
theorem HE(a:Int)(b:Str):decide ((Sum.inl a:fv)=Sum.inr b)=false:=dY (fun q=>nomatch q)
theorem HF(a:Str)(b:Int):decide ((Sum.inr a:fv)=Sum.inl b)=false:=dY (fun q=>nomatch q)
def cM(prog:Program)(w:World):PySem.KeyKind prog w fv where
 is:=pQ
 hash:=QC w
 inj:=fun v a b ha hb=>by
  rcases cx ha with ⟨i,t,rfl,rfl⟩|⟨x,t,rfl,rfl⟩
  .rcases cx hb with ⟨j,u,rfl,e⟩|⟨y,u,rfl,e⟩
   .injection e with e1 _;rw[e1]
   .exact nomatch e
  .rcases cx hb with ⟨j,u,rfl,e⟩|⟨y,u,rfl,e⟩
   .exact nomatch e
   .injection e with e1 _;rw[e1]
 byValue:=fun k v h=>by
  rcases cx h with ⟨i,t,rfl,rfl⟩|⟨x,t,rfl,rfl⟩ <;> rfl
 pyHash:=fun hv h=>by
  rcases cx hv with ⟨i,t,rfl,rfl⟩|⟨x,t,rfl,rfl⟩
  .exact wpAny_pyHash_int h
  .exact wpAny_pyHash_str h
 eqBool:=fun hu hv h=>by
  rcases cx hu with ⟨i,t,rfl,rfl⟩|⟨x,t,rfl,rfl⟩
  .rcases cx hv with ⟨j,u,rfl,rfl⟩|⟨y,u,rfl,rfl⟩
   .rw[HC] at h;exact ww h
   .rw[HE] at h;exact SeqAt.EqAt.int_str i t y u _ _ _ _ h
  .rcases cx hv with ⟨j,u,rfl,rfl⟩|⟨y,u,rfl,rfl⟩
   .rw[HF] at h;exact SeqAt.EqAt.str_int x t j u _ _ _ _ h
   .rw[HD] at h;exact wpAny_eqBool_str h
 «strs»:=fun k x t v h=>by
  rcases cx h with ⟨i,u,rfl,e⟩|⟨y,u,rfl,e⟩
  .exact nomatch e
  .injection e with e1 _
   subst e1
   cases v <;> rfl
theorem ub(prog:Program)(w:World)(i:Int)(t:Tok):(cM prog w).is (.inl i) (.int i t)=true:=zq i t
theorem uc(prog:Program)(w:World)(x:Str)(t:Tok):(cM prog w).is (.inr x) (.str x t)=true:=zu x t
inductive V where
 |bw|bl (b:Bool)|int (i:Int)|str (x:Str)|zw (b:Array UInt8)|GC (b:UInt64)|ref (a:Addr)|ty (n:String)
 deriving DecidableEq
def bi:V->Value->Prop
 |.bw,u=>u=Value.none
 |.bl b,u=>u=Value.bool b
 |.int i,u=>∃t,u=Value.int i t
 |.str x,u=>∃t,u=Value.str x t
 |.zw b,u=>∃t,u=Value.bytes b t
 |.GC b,u=>∃t,u=Value.float b t
 |.ref a,u=>u=Value.ref a
 |.ty n,u=>u=Value.type n
abbrev aX:List V->List Value->Prop:=Paired bi
theorem aX.length(r:aX xs us):xs.length=us.length:=Paired.length r
theorem aX.get:∀ {xs:List V} {us:List Value} {i:Nat} {x:V},aX xs us->xs[i]?=some x->∃u,us[i]?=some u/\bi x u
 |_,_,_,_,.nil,e=>by simp at e
 |_,_,0,_,.cons r _,e=>by simp at e;subst e;exact⟨_,rfl,r⟩
 |_,_,i+1,x,.cons _ t,e=>by
  obtain⟨u,h1,h2⟩:=aX.get (i:=i) (x:=x) t (by simpa using e);exact⟨u,by simpa using h1,h2⟩
theorem aX.set(r:bi x u):∀ {xs:List V} {us:List Value} (i:Nat),aX xs us->aX (xs.set i x) (us.set i u)
 |_,_,_,.nil=>.nil
 |_,_,0,.cons _ t=>.cons r t
 |_,_,i+1,.cons q t=>.cons q (aX.set r i t)
theorem aX.append:∀ {xs ys:List V} {us ws:List Value},aX xs us->aX ys ws->aX (xs++ys) (us++ws)
 |_,_,_,_,.nil,s=>s
 |_,_,_,_,.cons r t,s=>.cons r (aX.append t s)
def jj:Option V->Option Value->Prop
 |some v,some u=>bi v u
 |none,none=>True
 |_,_=>False
def KV{κ:Type}:List (κ×V)->List (κ×Value)->Prop:=Paired fun (p:κ×V) (q:κ×Value)=>p.1=q.1/\bi p.2 q.2
def kV:fv->V
 |.inl i=>.int i
 |.inr x=>.str x
inductive HO where
 |lst (xs:List V)
 |tup (xs:List V)
 |dK (be:List (fv×V))|dT (be:List (List fv×V))
 |set (S:Int->Bool) (n:Nat)
 |ins (C dx:Addr) (fs:List (Str×V))
 |own (x:Addr)
 |xd (fs:List (Str×V))
 |met (f x:Addr)
 |Ba (lo hi:Int)
 |tZ (o:Obj) (u:HO)
 |my (ps:Array Value)
 |ext (φ:Heap->Prop)
abbrev Hp:=Addr->Option HO
def upd(H:Hp)(a:Addr)(o:HO):Hp:=fun b=>if b=a then some o else H b
theorem ab:upd H a o a=some o:=by unfold upd;rw[ap rfl]
theorem am(h:b≠a):upd H a o b=H b:=by unfold upd;rw[ak h]
theorem kj:upd (upd H a o) a u=upd H a u:=by
 funext b;unfold upd;split <;> rfl
theorem d7{H:Hp}{a b:Addr}{o u:HO}(h:H a=some o)(h':H b=some u)(d:o≠u):a≠b:=by
 intro e;subst e;rw[h] at h';exact d (bE h')
theorem ai{H:Hp}{a b:Addr}{o:HO}(h:H a=some o)(h':H b=none):a≠b:=by
 intro e;subst e;rw[h] at h';cases h'
section
variable (P:Program) (w:World)
def lu(h:Heap)(a:Addr)(items:Array Value):Prop:=∃o,h.get? a=some o/\o.cls=.type "tuple"/\∃n,o.data=.seq items n/\o.dict=none
theorem lu.tup(p:lu h a items):IsTup h a items:=let ⟨o,e,c,n,d,_⟩:=p;⟨o,e,c,n,d⟩
theorem lu.new(h:Heap)(items:Array Value):lu (h.push { cls:=.type "tuple",data:=.seq items }) h.objs.size items:=⟨_,dG _ rfl,rfl,_,rfl,rfl⟩
def bU(H:Hp)(h:Heap)(a:Addr):HO->Prop
 |.lst xs=>xs.length<=sizeLine/\∃ (its:List Value) (n:Nat),aX xs its/\h.get? a=some { cls:=.type "list",data:=.seq its.toArray n }
 |.tup xs=>xs.length<=sizeLine/\∃its:List Value,aX xs its/\lu h a its.toArray
 |.dK be=>be.length<=sizeLine/\(a==sysModules)=false/\∃vs,KV be vs/\h.DictOf (cM P w) a vs
 |.dT be=>be.length<=sizeLine/\(a==sysModules)=false/\∃xs:List (List fv×Addr×Value),
   Paired (fun (p:List fv×V) (q:List fv×Addr×Value)=>p.1=q.1/\H q.2.1=some (.tup (p.1.map kV))/\bi p.2 q.2.2) be xs/\
   ∃o es ep,h.get? a=some o/\o.ExactDict/\o.data=.dict es ep/\es.toList=xs.map (entryOfKey (tupleKind (cM P w)))/\(xs.map (·.1)).Nodup
 |.set S n=>h.SetOf (intKind P w) a S n
 |.ins C dx fs=>H dx=some (.own a)/\fs.length<=1000/\dx≠a/\h.get? a=some (PySem.W.instObj C dx)/\
   ∃mA,h.Ns1 dx mA/\(∀f,jj (fs.lookup f) (mA f))/\PySem.Within mA (fs.map (·.1))
 |.own _=>∃o,h.get? a=some o
 |.xd fs=>∃mA,h.Ns1 a mA/\∀f,jj (fs.lookup f) (mA f)
 |.Ba lo hi=>∃t u v,h.get? a=some { cls:=.type "range",data:=.fields #[.int lo t,.int hi u,.int 1 v] }
 |.tZ o u=>h.get? a=some o/\bU H h a u
 |.my ps=>h.get? a=some { cls:=.none,data:=.fields ps }
 |.met f x=>h.get? a=some (PySem.W.methodObj (.ref f) (.ref x))
 |.ext φ=>φ h/\(∃o,h.get? a=some o)/\∀h1 h2:Heap,φ h1->(∀o,h1.get? a=some o->h2.get? a=some o)->φ h2
def jv(H:Hp)(h:Heap):Prop:=∀a o,H a=some o->bU P w H h a o
end
section
variable {P:Program} {w:World} {H H':Hp} {h h':Heap} {a:Addr} {o:HO}
theorem bU.lt(x:bU P w H h a o):a<h.objs.size:=by
 cases o with
 |lst xs=>obtain⟨_,_,_,_,e⟩:=x;exact bn e
 |tup xs=>obtain⟨_,_,_,p⟩:=x;exact p.tup.lt
 |dK be=>obtain⟨_,_,_,_,o,_,_,e,_⟩:=x;exact bn e
 |dT be=>obtain⟨_,_,_,_,o,_,_,e,_⟩:=x;exact bn e
 |set S n=>obtain⟨o,_,_,_,e,_⟩:=x;exact bn e
 |ins C dx fs=>obtain⟨_,_,_,e,_⟩:=x;exact bn e
 |own y=>obtain⟨_,e⟩:=x;exact bn e
 |xd fs=>obtain⟨_,⟨_,_,_,e,_⟩,_⟩:=x;exact bn e
 |Ba lo hi=>obtain⟨_,_,_,e⟩:=x;exact bn e
 |tZ ob u=>obtain⟨e,_⟩:=x;exact bn e
 |my ps=>exact bn (show h.get? a=some _ from x)
 |met f y=>exact bn (show h.get? a=some _ from x)
 |ext φ=>obtain⟨_,⟨_,e⟩,_⟩:=x;exact bn e
theorem Paired.HG:∀ {l₁:List α} {l₂:List β},Paired F l₁ l₂->(∀a b,F a b->G a b)->Paired G l₁ l₂
 |_,_,.nil,_=>.nil
 |_,_,.cons r t,f=>.cons (f _ _ r) (Paired.HG t f)
theorem bU.ud(x:bU P w H h a o)(k:∀b u,(b=a\/H b=some (.own a))->h.get? b=some u->h'.get? b=some u)(ho:∀b,H b=some (.own a)->H' b=some (.own a))(ht:∀b xs,H b=some (.tup xs)->H' b=some (.tup xs)):bU P w H' h' a o:=by
 induction o with
 |lst xs=>obtain⟨z,its,n,r,e⟩:=x;exact⟨z,its,n,r,k _ _ (.inl rfl) e⟩
 |tup xs=>obtain⟨z,its,r,ob,e,c⟩:=x;exact⟨z,its,r,ob,k _ _ (.inl rfl) e,c⟩
 |dK be=>obtain⟨z,y,vs,r,ob,es,ep,e,c⟩:=x;exact⟨z,y,vs,r,ob,es,ep,k _ _ (.inl rfl) e,c⟩
 |dT be=>
  obtain⟨z,y,xs,r,ob,es,ep,e,c⟩:=x;exact⟨z,y,xs,Paired.HG r fun p q z=>⟨z.1,ht _ _ z.2.1,z.2.2⟩,ob,es,ep,k _ _ (.inl rfl) e,c⟩
 |set S n=>obtain⟨ob,es,ep,t,e,c⟩:=x;exact⟨ob,es,ep,t,k _ _ (.inl rfl) e,c⟩
 |ins C dx fs=>
  obtain⟨d,z,ne,e,mA,⟨od,es,ep,e2,c⟩,r⟩:=x;exact⟨ho _ d,z,ne,k _ _ (.inl rfl) e,mA,⟨od,es,ep,k _ _ (.inr d) e2,c⟩,r⟩
 |own y=>obtain⟨ob,e⟩:=x;exact⟨ob,k _ _ (.inl rfl) e⟩
 |xd fs=>obtain⟨mA,⟨od,es,ep,e,c⟩,r⟩:=x;exact⟨mA,⟨od,es,ep,k _ _ (.inl rfl) e,c⟩,r⟩
 |Ba lo hi=>obtain⟨t,u,v,e⟩:=x;exact⟨t,u,v,k _ _ (.inl rfl) e⟩
 |tZ ob u ih=>obtain⟨e,q⟩:=x;exact⟨k _ _ (.inl rfl) e,ih q⟩
 |my ps=>
  have e:h.get? a=some { cls:=.none,data:=.fields ps }:=x;show h'.get? a=some { cls:=.none,data:=.fields ps };exact k a _ (.inl rfl) e
 |met f y=>
  have e:h.get? a=some (PySem.W.methodObj (.ref f) (.ref y)):=x;show h'.get? a=some (PySem.W.methodObj (.ref f) (.ref y));exact k a _ (.inl rfl) e
 |ext φ=>obtain⟨p,⟨o,e⟩,st⟩:=x;exact⟨st _ _ p fun o q=>k _ _ (.inl rfl) q,⟨o,k _ _ (.inl rfl) e⟩,st⟩
theorem jv.lt(x:jv P w H h)(e:H a=some o):a<h.objs.size:=(x a o e).lt
theorem jv.fresh(x:jv P w H h)(e:h.objs.size<=a):H a=none:=by
 cases q:H a with
 |none=>rfl
 |some u=>exact absurd (bN (x.lt q) e) (g8 _)
theorem jv.kept(x:jv P w H h)(k:∀b u,h.get? b=some u->h'.get? b=some u):jv P w H h':=fun a o e=>
 (x a o e).ud (fun b u _ q=>k b u q) (fun _ q=>q) fun _ _ q=>q
theorem jv.laid(x:jv P w H h)(k:∀b u,h.get? b=some u->h'.get? b=some u)(hp:h.objs.size<=a)(new:bU P w (upd H a o) h' a o):jv P w (upd H a o) h':=fun b u e=>by
 have hn:=x.fresh hp;by_cases hb:b=a
 .subst hb;rw[ab] at e;cases e;exact new
 .rw[am hb] at e;exact(x b u e).ud (fun c v _ q=>k c v q) (fun c q=>by rw[am (ai q hn)];exact q) fun c xs q=>by rw[am (ai q hn)];exact q
end
def Rd(H:Hp)(a:Addr)(u:HO):Prop:=H a=some u\/∃o,H a=some (.tZ o u)
theorem Rd.ok(r:Rd H a u)(x:jv P w H h):bU P w H h a u:=by
 rcases r with r|⟨o,r⟩
 .exact x a u r
 .obtain⟨_,q⟩:=x a _ r;exact q
def Ll:Option HO->Prop
 |some (.lst _)=>True
 |some (.dK _)=>True
 |some (.dT _)=>True
 |some (.set _ _)=>True
 |some (.ins _ _ _)=>True
 |some (.ext _)=>True
 |_=>False
section
variable {P:Program} {w:World} {H:Hp} {h h':Heap} {x e:Addr} {o':HO}
theorem jv.write(ok:jv P w H h)(mu:Ll (H x))(he:e=x\/H e=some (.own x))(k:∀b u,b≠e->h.get? b=some u->h'.get? b=some u)(KG:∃u,h'.get? e=some u)(new:bU P w (upd H x o') h' x o'):jv P w (upd H x o') h':=fun b u q=>by
 have Lm:∀c y,H c=some (.own y)->c≠x:=fun c y r z=>by subst z;rw[r] at mu;exact mu
 have QD:∀c xs,H c=some (.tup xs)->c≠x:=fun c xs r z=>by subst z;rw[r] at mu;exact mu
 by_cases hb:b=x
 .subst hb;rw[ab] at q;cases q;exact new
 .rw[am hb] at q;by_cases DO:b=e
  .have q':H b=some (.own x):=by
    rcases he with z|z
    .exact absurd (DO.trans z) hb
    .rw[DO];exact z
   rw[q] at q';cases q';obtain⟨v,hv⟩:=KG;exact⟨v,by rw[DO];exact hv⟩
  .refine(ok b u q).ud (fun c v hc r=>k c v ?_ r) (fun c r=>by rw[am (Lm c b r)];exact r) fun c xs r=>by rw[am (QD c xs r)];exact r
   rcases hc with rfl|hc
   .exact DO
   .rintro rfl;rcases he with z|z
    .exact Lm c b hc z
    .rw[hc] at z;cases z;exact hb rfl
end
structure Un(fs ex:List Addr)(H H':Hp)(h h':Heap):Prop where
 keep:∀b o,h.get? b=some o->H b=none->b∉fs->b∉ex->h'.get? b=some o
 slot:∀b o,h.get? b=some o->H b=none->b∈fs->b∉ex->∃sl,h'.get? b=some { o with slots:=sl }
 free:∀b o,h.get? b=some o->H b=none->b∉ex->H' b=none
 there:∀b o,h.get? b=some o->b∉ex->∃o',h'.get? b=some o'
 n_:∀b xs,H b=some (.tup xs)->H' b=some (.tup xs)
 rK:∀b o u,H b=some (.tZ o u)->H' b=some (.tZ o u)
 rM:∀b ps,H b=some (.my ps)->∃more,H' b=some (.my (ps++more))
section
variable {fs W7 ex ex':List Addr} {H H1 H2:Hp} {h h1 h2 h':Heap} {a x e:Addr} {o:HO}
theorem Un.any(u:Un fs ex H H1 h h1)(q:h.get? b=some ob)(n:H b=none)(hx:b∉ex):∃sl,h1.get? b=some { ob with slots:=sl }:=by
 by_cases hb:b∈fs
 .exact u.slot b ob q n hb hx
 .exact⟨ob.slots,u.keep b ob q n hb hx⟩
theorem Un.kept(k:∀b u,h.get? b=some u->h'.get? b=some u):Un fs ex H H h h':=
 ⟨fun b ob q _ _ _=>k b ob q,fun b ob q _ _ _=>⟨ob.slots,k b ob q⟩,fun _ _ _ n _=>n,fun b ob q _=>⟨ob,k b ob q⟩,fun _ _ q=>q,fun _ _ _ q=>q,fun _ ps q=>⟨#[],by rw[q];simp⟩⟩
theorem Un.refl:Un fs ex H H h h:=Un.kept fun _ _ q=>q
theorem Un.laid(k:∀b u,h.get? b=some u->h'.get? b=some u)(hp:h.objs.size<=a)(hn:H a=none):Un fs ex H (upd H a o) h h' where
 keep:=fun b u q _ _ _=>k b u q
 slot:=fun b u q _ _ _=>⟨u.slots,k b u q⟩
 free:=fun b u q n _=>by rw[am (aZ (bN (bn q) hp))];exact n
 there:=fun b u q _=>⟨u,k b u q⟩
 n_:=fun b xs q=>by rw[am (ai q hn)];exact q
 rK:=fun b u xs q=>by rw[am (ai q hn)];exact q
 rM:=fun b ps q=>⟨#[],by rw[am (ai q hn),q];simp⟩
theorem Un.write(mu:Ll (H x))(he:e=x\/H e=some (.own x))(k:∀b u,b≠e->h.get? b=some u->h'.get? b=some u)(KG:∃u,h'.get? e=some u):Un fs ex H (upd H x o) h h':=by
 have hx:∀b,H b=none->b≠x:=fun b n z=>by subst z;rw[n] at mu;exact mu
 have hb:∀b,H b=none->b≠e:=fun b n z=>by
  subst z;rcases he with r|r
  .exact hx b n r
  .rw[n] at r;cases r
 have hm:∀b u,H b=some u->¬ Ll (some u)->b≠x:=fun b u q nm z=>by subst z;rw[q] at mu;exact nm mu
 refine⟨fun b u q n _ _=>k b u (hb b n) q,fun b u q n _ _=>⟨u.slots,k b u (hb b n) q⟩,fun b u q n _=>by rw[am (hx b n)];exact n,fun b u q _=>?_,
  fun b xs q=>by rw[am (hm b _ q fun z=>z)];exact q,fun b u xs q=>by rw[am (hm b _ q fun z=>z)];exact q,fun b ps q=>⟨#[],by rw[am (hm b _ q fun z=>z),q];simp⟩⟩
 by_cases DO:b=e
 .subst DO;exact KG
 .exact⟨u,k b u DO q⟩
end
def Ph(h:Heap)(H:Hp):List Addr:=(List.range h.objs.size).filter fun a=>(H a).isSome
def pq(h:Heap)(H:Hp):Heap:=PySem.W.hideAll h (Ph h H)
theorem zx(h:Heap)(H:Hp):(pq h H).objs.size=h.objs.size:=PySem.W.hideAll_size _ _
theorem Bb(e:h.get? b=some o)(n:H b=none):(pq h H).get? b=some o:=
 PySem.W.hideAll_get _ e fun hm=>by
  have q:(H b).isSome=true:=(cY.mp hm).2;rw[n] at q;simp at q
theorem D9(e:(pq h H).get? b=some o):h.get? b=some o/\H b=none:=by
 have e':h.get? b=some o:=PySem.W.of_hideAll (Ph h H) e;refine⟨e',?_⟩;cases q:H b with
 |none=>rfl
 |some x=>
  have hm:b∈Ph h H:=cY.mpr ⟨bG.mpr (bn e'),by simp[q]⟩;have z:(pq h H).get? b=none:=PySem.W.hideAll_none (Ph h H) hm;rw[z] at e;cases e
def g_(g h:Heap)(L:Addr):List (Addr×Obj):=(List.range h.objs.size).filterMap fun a=>if a=L\/(g.get? a).isSome=true then none else (h.get? a).map fun o=>(a,o)
theorem iM(h1:a≠L)(h2:g.get? a=none)(h3:h.get? a=some o):(a,o)∈g_ g h L:=
 k6.mpr ⟨a,bG.mpr (bn h3),by simp[h1,h2,h3]⟩
theorem oa(hp:p∈g_ g h L):p.1≠L/\g.get? p.1=none/\h.get? p.1=some p.2:=by
 obtain⟨b,_,e⟩:=k6.mp hp;split at e
 .cases e
 .rename_i hn;cases q:h.get? b with
  |none=>rw[q] at e;simp at e
  |some u=>
   rw[q] at e;simp only[Option.map_some,Option.some.injEq] at e;subst e;refine⟨fun z=>hn (.inl z),?_,q⟩;show g.get? b=none;cases r:g.get? b with
   |none=>rfl
   |some v=>exact(hn (.inr (by simp[r]))).elim
theorem Bc:News g L h (g_ g h L):=fun p hp=>let ⟨a,b,c⟩:=oa hp;⟨c,a,b⟩
structure Mod(K:PySem.W.Frag)(mg:Str->Option Value)(base:Heap):Prop where
 Ln:K.In base
 glob:base.Ns mainGlobals mg
 blt:∃mb,base.Ns builtinsNs mb/\∀x:Str,x≠"__name__"->mb x=bootBuiltins x
 nolimit:base.NoLimit
structure Cx where
 prog:Program
 w:World
 K:PySem.W.Frag
 mg:Str->Option Value
 base:Heap
 A:Around
 N:List Str
 s₀:Shared
 H₀:Hp
 env:Env
 outer:List Env
 stack:List Env
 ex:List Addr
 fn:Str->Bool
 calm:Bool
 pn:List (Addr×Obj)
 xe:Value->Shared->Prop
def AH(l:List Env):List Addr:=l.filterMap (·.frame)
abbrev Cx.fs(X:Cx):List Addr:=AH X.outer
def Lo(sc:Scope)(x:Str):Prop:=sc.names.lookup x=some .local\/sc.names.lookup x=some .cell\/sc.names.lookup x=some .free
def Lp(sc:Scope)(x:Str):Prop:=sc.names.lookup x=some .local\/sc.names.lookup x=some .cell
def QE(env:Env)(h:Heap)(m:Str->Option Value)(x:Str)(u:Value):Prop:=
 (env.kindOf x=some .local/\m x=some u)\/((env.kindOf x=some .cell\/env.kindOf x=some .free)/\∃c,env.cells.lookup x=some c/\h.IsCell c (some u))
structure Cx.Ok(X:Cx):Prop where
 mod:Mod X.K X.mg X.base
 kind:X.env.scope.kind=.function
 glob:X.env.globals=mainGlobals
 blt:X.env.builtins=builtinsNs
 above:X.s₀.heap.objs.size<=X.env.locals
 inj:∀x y c,X.env.cells.lookup x=some c->X.env.cells.lookup y=some c->x=y
 has:∀x,(X.env.kindOf x=some .cell\/X.env.kindOf x=some .free)->∃c,X.env.cells.lookup x=some c
 Lr:∀x c,X.fn x=true->X.env.cells.lookup x=some c->X.s₀.heap.objs.size<=c
 hd:X.calm=true->X.A.handled=none
 frames:X.A.frames=some X.stack
 KH:X.stack=X.outer\/(X.stack=X.env::X.outer/\X.env.frame=some X.env.locals)
 QF:∀b∈X.ex,b≠X.env.locals/\∀x c,X.env.cells.lookup x=some c->c≠b
 bs:∀b o,X.base.get? b=some o->X.s₀.heap.get? b=some o/\X.H₀ b=none
 DP:X.base.objs.size<=X.s₀.heap.objs.size
 Bd:∀b o,X.base.get? b=some o->b∉X.ex
 D_:∀b∈X.ex,b∉X.fs
 mz:X.s₀.heap.FunFrames X.base X.outer
 HI:∀b∈X.fs,X.H₀ b=none
structure aM(X:Cx)(ae:List (Addr×Obj))(σ:List (Option V))(H:Hp)(s:Shared):Prop where
 ok:X.Ok
 os:s.os=X.s₀.os
 bare:AllBare s.gens
 base:Un X.fs X.ex X.H₀ H X.s₀.heap s.heap
 loc:∃m,s.heap.Ns X.env.locals m/\∀ (i:Nat) (x:Str) (v:V),X.N[i]?=some x->σ[i]?=some (some v)->Lo X.env.scope x->∃u,bi v u/\QE X.env s.heap m x u
 cell:∀x c,X.env.cells.lookup x=some c->∃v,s.heap.IsCell c v
 free:H X.env.locals=none
 jw:∀x c,X.env.cells.lookup x=some c->H c=none
 pin:∀p∈X.pn++ae,s.heap.get? p.1=some p.2/\H p.1=none/\p.1≠X.env.locals/\p.1∉X.fs/\∀v,p.2.data≠.cell v
 ck:jv X.prog X.w H s.heap
 len:σ.length=X.N.length
section
variable {X:Cx} {ae:List (Addr×Obj)} {σ:List (Option V)} {H H':Hp} {s:Shared} {h':Heap}
theorem Cx.Ok.QG(ok:X.Ok)(e:X.base.get? b=some o):b∉X.fs:=fun hb=>by
 have:=(ok.mz.mem hb).1;rw[e] at this;cases this
theorem aM.bs(I:aM X ae σ H s):∀b o,X.base.get? b=some o->s.heap.get? b=some o/\H b=none:=fun b o e=>
 ⟨I.base.keep b o (I.ok.bs b o e).1 (I.ok.bs b o e).2 (I.ok.QG e) (I.ok.Bd b o e),I.base.free b o (I.ok.bs b o e).1 (I.ok.bs b o e).2 (I.ok.Bd b o e)⟩
theorem aM.bk(I:aM X ae σ H s):∀b o,X.base.get? b=some o->s.heap.get? b=some o:=fun b o e=>(I.bs b o e).1
theorem aM.mod(I:aM X ae σ H s):Mod X.K X.mg X.base:=I.ok.mod
theorem aM.mB(I:aM X ae σ H s):X.K.In s.heap:=I.ok.mod.Ln.keeps I.bk
theorem aM.fr(I:aM X ae σ H s):∃m,Fr X.base X.env.locals s.heap m:=
 let ⟨m,hn,_⟩:=I.loc
 ⟨m,hn,I.bk,a7 I.ok.DP I.ok.above⟩
theorem aM.lt(I:aM X ae σ H s):X.env.locals<s.heap.objs.size:=let ⟨_,hn,_⟩:=I.loc;hn.lt
theorem aM.sz(I:aM X ae σ H s):X.s₀.heap.objs.size<=s.heap.objs.size:=a7 I.ok.above (iJ I.lt)
theorem aM.QH(I:aM X ae σ H s)(h:s.heap.objs.size<=a):a∉X.fs:=fun hb=>by
 obtain⟨_,o,ho,_⟩:=I.ok.mz.mem hb;exact absurd (bN (bn ho) (a7 I.sz h)) (g8 _)
theorem aM.HJ(I:aM X ae σ H s):∀x c,X.env.cells.lookup x=some c->c≠X.env.locals:=fun x c e z=>by
 obtain⟨v,o,ho,hd⟩:=I.cell x c e;obtain⟨m,⟨o',es,ep,Ea,Lu,_⟩,_⟩:=I.loc;rw[z,Ea] at ho;cases ho;rw[Lu] at hd;cases hd
theorem aM.mz(I:aM X ae σ H s):s.heap.FunFrames X.base X.outer:=by
 have all:∀ (l:List Env),(∀b∈AH l,b∈X.fs)->X.s₀.heap.FunFrames X.base l->s.heap.FunFrames X.base l:=by
  intro l;induction l with
  |nil=>intro _ _;trivial
  |cons env r ih=>
   intro hs hl;obtain⟨hk,⟨L,o,hf,hn,ho,hd⟩,hr⟩:=hl;have hL:L∈X.fs:=hs L (by unfold AH;rw[vY,hf];exact cz);obtain⟨sl,e⟩:=I.base.slot L o ho (I.ok.HI L hL) hL fun z=>I.ok.D_ L z hL;exact⟨hk,⟨L,_,hf,hn,e,hd⟩,ih (fun b hb=>hs b (by unfold AH;rw[vY,hf];exact b9 _ hb)) hr⟩
 exact all X.outer (fun _ hb=>hb) I.ok.mz
theorem aM.stack(I:aM X ae σ H s):s.heap.FunFrames X.base X.stack:=by
 rcases I.ok.KH with e|⟨e,hf⟩
 .rw[e];exact I.mz
 .rw[e];obtain⟨m,hn,_⟩:=I.loc;refine .cons (by rw[I.ok.kind];decide) hf hn ?_ I.mz;exact nK (a7 I.ok.DP I.ok.above)
theorem aM.rN(I:aM X ae σ H s):∀b∈AH X.stack,b∈X.env.locals::X.fs:=fun b hb=>by
 rcases I.ok.KH with e|⟨e,hf⟩
 .rw[e] at hb;exact b9 _ hb
 .rw[e] at hb;unfold AH at hb;rw[vY,hf] at hb;exact hb
theorem aM.xS(I:aM X ae σ H s):∀b∈AH X.stack,H b=none:=fun b hb=>by
 rcases cn.mp (I.rN b hb) with e|hb
 .rw[e];exact I.free
 .obtain⟨_,o,ho,_⟩:=I.ok.mz.mem hb;exact I.base.free b o ho (I.ok.HI b hb) fun z=>I.ok.D_ b z hb
theorem aM.step{g':Array GenState}{t':Nat}{d':Drawn}{ch:List Addr}(I:aM X ae σ H s)(DQ:∀b∈ch,(b∈X.ex\/X.s₀.heap.objs.size<=b)/\b≠X.env.locals/\(∀x c,X.env.cells.lookup x=some c->c≠b)/\∀p∈X.pn++ae,p.1≠b)(keep:∀b o,b≠X.env.locals->b∉X.fs->b∉ch->s.heap.get? b=some o->H b=none->h'.get? b=some o)(slot:∀b o,b≠X.env.locals->b∈X.fs->b∉ch->s.heap.get? b=some o->H b=none->∃sl,h'.get? b=some { o with slots:=sl })(free:∀b o,b∉ch->s.heap.get? b=some o->H b=none->H' b=none)(there:∀b o,b∉ch->s.heap.get? b=some o->∃o',h'.get? b=some o')(n_:∀b xs,H b=some (.tup xs)->H' b=some (.tup xs))(rK:∀b o u,H b=some (.tZ o u)->H' b=some (.tZ o u))(rM:∀b ps,H b=some (.my ps)->∃more,H' b=some (.my (ps++more)))(ns:∀m,s.heap.Ns X.env.locals m->h'.Ns X.env.locals m)(ck:jv X.prog X.w H' h')(hg:AllBare g'):
  aM X ae σ H' { s with heap:=h',gens:=g',drawn:=d',toks:=t' }:=by
 have U3:∀b o,X.s₀.heap.get? b=some o->b≠X.env.locals:=fun b o e=>aZ (bN (bn e) I.ok.above);have Pi:∀b o,X.s₀.heap.get? b=some o->b∉X.ex->b∉ch:=fun b o e hx hb=>by
  rcases(DQ b hb).1 with z|z
  .exact hx z
  .exact absurd (bN (bn e) z) (g8 _)
 have GD:∀x c,X.env.cells.lookup x=some c->∀v,s.heap.IsCell c v->h'.IsCell c v:=fun x c e v ⟨o,ho,hd⟩=>by
  have Lv:c∉ch:=fun z=>(DQ c z).2.2.1 x c e rfl;by_cases hc:c∈X.fs
  .obtain⟨sl,q⟩:=slot c o (I.HJ x c e) hc Lv ho (I.jw x c e);exact⟨_,q,hd⟩
  .exact⟨o,keep c o (I.HJ x c e) hc Lv ho (I.jw x c e),hd⟩
 refine⟨I.ok,I.os,hg,⟨fun b o e n hb hx=>?_,fun b o e n hb hx=>?_,fun b o e n hx=>?_,fun b o e hx=>?_,fun b xs e=>n_ b xs (I.base.n_ b xs e),fun b o xs e=>rK b o xs (I.base.rK b o xs e),fun b ps e=>?_⟩,?_,fun x c e=>?_,?_,fun x c e=>?_,fun p hp=>?_,ck,I.len⟩
 .exact keep b o (U3 b o e) hb (Pi b o e hx) (I.base.keep b o e n hb hx) (I.base.free b o e n hx)
 .obtain⟨sl,e1⟩:=I.base.slot b o e n hb hx;obtain⟨QI,e2⟩:=slot b _ (U3 b o e) hb (Pi b o e hx) e1 (I.base.free b o e n hx);exact⟨QI,e2⟩
 .obtain⟨o',e1⟩:=I.base.there b o e hx;exact free b o' (Pi b o e hx) e1 (I.base.free b o e n hx)
 .obtain⟨o',e1⟩:=I.base.there b o e hx;exact there b o' (Pi b o e hx) e1
 .obtain⟨m1,e1⟩:=I.base.rM b ps e;obtain⟨m2,e2⟩:=rM b _ e1;exact⟨m1++m2,by rw[e2,Array.append_assoc]⟩
 .obtain⟨m,hn,hl⟩:=I.loc;refine⟨m,ns m hn,fun i x v e1 e2 e3=>?_⟩;obtain⟨u,r,l⟩:=hl i x v e1 e2 e3;refine⟨u,r,?_⟩;rcases l with l|⟨k,c,e,z⟩
  .exact .inl l
  .exact .inr ⟨k,c,e,GD x c e _ z⟩
 .obtain⟨v,z⟩:=I.cell x c e;exact⟨v,GD x c e v z⟩
 .obtain⟨m,⟨o,_,_,ho,_⟩,_⟩:=I.loc;exact free _ o (fun z=>(DQ _ z).2.1 rfl) ho I.free
 .obtain⟨v,o,ho,hd⟩:=I.cell x c e;exact free c o (fun z=>(DQ c z).2.2.1 x c e rfl) ho (I.jw x c e)
 .obtain⟨e,n,ne,nf,d⟩:=I.pin p hp;have Lv:p.1∉ch:=fun z=>(DQ p.1 z).2.2.2 p hp rfl;exact⟨keep p.1 p.2 ne nf Lv e n,free p.1 p.2 Lv e n,ne,nf,d⟩
theorem aM.un{t':Nat}(I:aM X ae σ H s)(u:Un X.fs [] H H' s.heap h')(ck:jv X.prog X.w H' h'):aM X ae σ H' { s with heap:=h',toks:=t' }:=by
 obtain⟨m,⟨o,es,ep,ho,r⟩,_⟩:=id I.loc;obtain⟨sl,hL⟩:=u.any ho I.free (by simp);exact I.step (g':=s.gens) (d':=s.drawn) (ch:=[]) (fun _ z=>nomatch z) (fun b o _ hb _ e n=>u.keep b o e n hb (by simp)) (fun b o _ hb _ e n=>u.slot b o e n hb (by simp)) (fun b o _ e n=>u.free b o e n (by simp)) (fun b o _ e=>u.there b o e (by simp)) u.n_ u.rK u.rM (fun m' hm=>by
  obtain⟨o',vC,Pj,Ea,r'⟩:=hm;rw[ho] at Ea;cases Ea;exact⟨_,vC,Pj,hL,r'⟩) ck I.bare
theorem aM.call{g':Array GenState}{t':Nat}{d':Drawn}{ch:List Addr}(I:aM X ae σ H s)(u:Un (AH X.stack) ch H H' s.heap h')(ck:jv X.prog X.w H' h')(hg:AllBare g')(DQ:∀b∈ch,(b∈X.ex\/X.s₀.heap.objs.size<=b)/\b≠X.env.locals/\(∀x c,X.env.cells.lookup x=some c->c≠b)/\∀p∈X.pn++ae,p.1≠b):
  aM X ae σ H' { s with heap:=h',gens:=g',drawn:=d',toks:=t' }:=by
 obtain⟨m,⟨o,es,ep,ho,r⟩,_⟩:=id I.loc;obtain⟨sl,hL⟩:=u.any ho I.free fun z=>(DQ _ z).2.1 rfl;exact I.step (ch:=ch) DQ (fun b o hL hb hc e n=>u.keep b o e n (fun z=>(cn.mp (I.rN b z)).elim hL hb) hc) (fun b o _ _ hc e n=>u.any e n hc) (fun b o hc e n=>u.free b o e n hc) (fun b o hc e=>u.there b o e hc) u.n_ u.rK u.rM (fun m' hm=>by
  obtain⟨o',vC,Pj,Ea,r'⟩:=hm;rw[ho] at Ea;cases Ea;exact⟨_,vC,Pj,hL,r'⟩) ck hg
theorem aM.turned{t':Nat}{it:Addr}(I:aM X ae σ H s)(k:∀b o,b≠it->s.heap.get? b=some o->h'.get? b=some o)(hn:H it=none)(hL:it≠X.env.locals)(h1:it∈X.ex\/X.s₀.heap.objs.size<=it)(h2:∀x c,X.env.cells.lookup x=some c->c≠it)(h3:∀p∈X.pn++ae,p.1≠it):aM X ae σ H { s with heap:=h',toks:=t' }:=by
 have U4:∀b u,H b=some u->b≠it:=fun b u e z=>by rw[z,hn] at e;cases e
 refine I.step (g':=s.gens) (d':=s.drawn) (ch:=[it]) (fun b hb=>?_) (fun b o _ _ hc e _=>k b o (fun z=>hc (by simp[z])) e) (fun b o _ _ hc e _=>⟨o.slots,k b o (fun z=>hc (by simp[z])) e⟩) (fun _ _ _ _ n=>n)
  (fun b o hc e=>⟨o,k b o (fun z=>hc (by simp[z])) e⟩) (fun _ _ e=>e) (fun _ _ _ e=>e) (fun b ps e=>⟨#[],by rw[e];simp⟩) (fun m hm=>?_) (fun b u e=>?_) I.bare
 .have e:b=it:=by simpa using hb
  subst e;exact⟨h1,hL,h2,h3⟩
 .obtain⟨o,es,ep,ho,r⟩:=hm;exact⟨o,es,ep,k _ o (gv hL) ho,r⟩
 .refine(I.ck b u e).ud (fun c v hc q=>k c v ?_ q) (fun _ q=>q) fun _ _ q=>q;rcases hc with z|z
  .rw[z];exact U4 b u e
  .exact U4 c _ z
theorem aM.tok(I:aM X ae σ H s)(t:Nat):aM X ae σ H { s with toks:=t }:=I.un (h':=s.heap) (t':=t) Un.refl I.ck
theorem aM.kept(I:aM X ae σ H s)(k:∀b u,s.heap.get? b=some u->h'.get? b=some u):aM X ae σ H { s with heap:=h',toks:=t' }:=I.un (Un.kept k) (I.ck.kept k)
theorem aM.laid(I:aM X ae σ H s)(k:∀b u,s.heap.get? b=some u->h'.get? b=some u)(hp:s.heap.objs.size<=a)(new:bU X.prog X.w (upd H a o) h' a o):
  aM X ae σ (upd H a o) { s with heap:=h',toks:=t' }:=I.un (Un.laid k hp (I.ck.fresh hp)) (I.ck.laid k hp new)
theorem aM.write(I:aM X ae σ H s)(mu:Ll (H x))(he:e=x\/H e=some (.own x))(k:∀b u,b≠e->s.heap.get? b=some u->h'.get? b=some u)(KG:∃u,h'.get? e=some u)(new:bU X.prog X.w (upd H x o) h' x o):aM X ae σ (upd H x o) { s with heap:=h',toks:=t' }:=I.un (Un.write mu he k KG) (I.ck.write mu he k KG new)
theorem aM.xT(I:aM X ae σ H s)(h:∀p∈Lw,s.heap.get? p.1=some p.2/\H p.1=none/\p.1≠X.env.locals/\p.1∉X.fs/\∀v,p.2.data≠.cell v):aM X Lw σ H s:=
 ⟨I.ok,I.os,I.bare,I.base,I.loc,I.cell,I.free,I.jw,fun p hp=>(bg.mp hp).elim (fun z=>I.pin p (gc _ z)) (h p),I.ck,I.len⟩
theorem ue{N:List Str}(hN:N.Nodup){i j:Nat}{x:Str}(a:N[i]?=some x)(b:N[j]?=some x):i=j:=by
 obtain⟨h1,e1⟩:=cD.mp a;obtain⟨h2,e2⟩:=cD.mp b;exact(List.getElem_inj hN).mp (e1.trans e2.symm)
theorem pR{M:Model}{A:Around}{E:Value->Shared->Prop}{i:Nat}{x:Str}{v:V}{u:Value}{Q:Unit->Shared->Prop}(I:aM X ae σ H s)(hN:X.N.Nodup)(hi:X.N[i]?=some x)(hx:Lp X.env.scope x)(r:bi v u)(h:∀s',aM X ae (σ.set i (some v)) H s'->(∃a,Heap.SameBut a s.heap s'.heap/\(a=X.env.locals\/X.env.cells.lookup x=some a))->Q () s')(hf:X.fn x=true\/X.env.scope.names.lookup x=some .local:=by first|exact .inl rfl|exact .inr rfl|assumption):wpAny M A (storeName X.env x u) Q E s:=by
 obtain⟨m,hn,hl⟩:=id I.loc;have QJ:(X.env.scope.kind==.class||(X.env.scope.kind==.module&&X.env.locals != X.env.globals))=false:=by rw[I.ok.kind];rfl
 have hiσ:i<σ.length:=by rw[I.len];exact(cD.mp hi).1
 have HJ:=I.HJ;have xU:∀ {a:Addr} {h':Heap},(∃o,s.heap.get? a=some o/\H a=none)->Heap.SameBut a s.heap h'->jv X.prog X.w H h':=fun {a h'} ha hs b ob e=>by
  obtain⟨_,_,GE⟩:=ha;refine(I.ck b ob e).ud (fun c w' hc q=>(hs.2 c ?_).trans q) (fun _ q=>q) fun _ _ q=>q;rintro rfl;rcases hc with rfl|hc
  .rw[GE] at e;cases e
  .rw[GE] at hc;cases hc
 rcases hx with hk|hk
 .refine wpAny_storeName_local hk hn (fun h' GG hs=>?_) QJ;obtain⟨oL,_,_,AI,_⟩:=id hn;refine h _ ⟨I.ok,I.os,I.bare,⟨fun b o e n hb hx=>?_,fun b o e n hb hx=>?_,I.base.free,fun b o e hx=>?_,I.base.n_,I.base.rK,I.base.rM⟩,⟨_,GG,fun j y v' e1 e2 e3=>?_⟩,fun y c e=>?_,I.free,I.jw,fun p hp=>?_,xU ⟨oL,AI,I.free⟩ hs,by simpa using I.len⟩ ⟨_,hs,.inl rfl⟩
  .exact(hs.2 b (aZ (bN (bn e) I.ok.above))).trans (I.base.keep b o e n hb hx)
  .obtain⟨sl,e1⟩:=I.base.slot b o e n hb hx;exact⟨sl,(hs.2 b (aZ (bN (bn e) I.ok.above))).trans e1⟩
  .obtain⟨o',e1⟩:=I.base.there b o e hx;exact⟨o',(hs.2 b (aZ (bN (bn e) I.ok.above))).trans e1⟩
  .by_cases hj:j=i
   .subst hj;rw[hi] at e1;cases e1;rw[nC hiσ] at e2;cases e2;exact⟨u,r,.inl ⟨hk,by simp⟩⟩
   .rw[nI (gv hj)] at e2;obtain⟨u',r',q⟩:=hl j y v' e1 e2 e3;refine⟨u',r',?_⟩;rcases q with ⟨k,e⟩|⟨k,c,e,z⟩
    .refine .inl ⟨k,?_⟩;have:y≠x:=fun e=>hj (ue hN e1 (e ▸ hi));simp[this,e]
    .exact .inr ⟨k,c,e,z.sameBut hs (HJ y c e)⟩
  .obtain⟨w',z⟩:=I.cell y c e;exact⟨w',z.sameBut hs (HJ y c e)⟩
  .obtain⟨e,n,ne,nf,d⟩:=I.pin p hp;exact⟨(hs.2 p.1 ne).trans e,n,ne,nf,d⟩
 .have QK:X.fn x=true:=by
   rcases hf with z|z
   .exact z
   .rw[z] at hk;cases hk
  obtain⟨c,hc⟩:=I.ok.has x (.inl hk);obtain⟨w',z⟩:=I.cell x c hc;refine wpAny_storeName_cell I.ok.kind hk hc z (fun h' HK hs=>?_);obtain⟨oc,Pk,QL⟩:=id z;refine h { s with heap:=h' } ⟨I.ok,I.os,I.bare,⟨fun b o e n hb hx=>?_,fun b o e n hb hx=>?_,I.base.free,fun b o e hx=>?_,I.base.n_,I.base.rK,I.base.rM⟩,⟨m,hn.sameBut hs (gv (HJ x c hc)),fun j y v' e1 e2 e3=>?_⟩,fun y c' e=>?_,I.free,I.jw,fun p hp=>?_,xU ⟨oc,Pk,I.jw x c hc⟩ hs,by simpa using I.len⟩ ⟨c,hs,.inr hc⟩
  .exact(hs.2 b (aZ (bN (bn e) (I.ok.Lr x c QK hc)))).trans (I.base.keep b o e n hb hx)
  .obtain⟨sl,e1⟩:=I.base.slot b o e n hb hx;exact⟨sl,(hs.2 b (aZ (bN (bn e) (I.ok.Lr x c QK hc)))).trans e1⟩
  .obtain⟨o',e1⟩:=I.base.there b o e hx;exact⟨o',(hs.2 b (aZ (bN (bn e) (I.ok.Lr x c QK hc)))).trans e1⟩
  .by_cases hj:j=i
   .subst hj;rw[hi] at e1;cases e1;rw[nC hiσ] at e2;cases e2;exact⟨u,r,.inr ⟨.inl hk,c,hc,HK⟩⟩
   .rw[nI (gv hj)] at e2;obtain⟨u',r',q⟩:=hl j y v' e1 e2 e3;refine⟨u',r',?_⟩;rcases q with q|⟨k,c',e,z'⟩
    .exact .inl q
    .refine .inr ⟨k,c',e,z'.sameBut hs ?_⟩;rintro rfl;exact hj (ue hN e1 (I.ok.inj _ _ _ e hc ▸ hi))
  .by_cases U5:c'=c
   .subst U5;exact⟨_,HK⟩
   .obtain⟨w2,z2⟩:=I.cell y c' e;exact⟨w2,z2.sameBut hs U5⟩
  .obtain⟨e,n,ne,nf,d⟩:=I.pin p hp;refine⟨(hs.2 p.1 ?_).trans e,n,ne,nf,d⟩;intro q;rw[q,Pk] at e;have q':oc=p.2:=bE e;exact d w' (by rw[<-q'];exact QL)
theorem iN(I:aM X ae σ H s)(hN:X.N.Nodup)(hi:X.N[i]?=some x)(hx:Lp X.env.scope x)(r:bi v u)(h:∀s',aM X ae (σ.set i (some v)) H s'->Q () s')(hf:X.fn x=true\/X.env.scope.names.lookup x=some .local:=by first|exact .inl rfl|exact .inr rfl|assumption):wpAny M A (storeName X.env x u) Q E s:=
 pR I hN hi hx r (fun s' I' _=>h s' I') hf
theorem aM.Lx(I:aM X ae σ H s)(ho:s'.os=s.os)(u:Un (AH X.stack) ch H H' s.heap s'.heap)(ck:jv X.prog X.w H' s'.heap)(hg:AllBare s'.gens)(DQ:∀b∈ch,(b∈X.ex\/X.s₀.heap.objs.size<=b)/\b≠X.env.locals/\(∀x c,X.env.cells.lookup x=some c->c≠b)/\∀p∈X.pn++ae,p.1≠b):aM X ae σ H' s':=by
 obtain⟨h',g',d',t',o'⟩:=s';have e:o'=s.os:=ho;subst e;exact I.call (g':=g') (t':=t') (d':=d') u ck hg DQ
end
abbrev XK:=Value->Option Addr->Hp->Prop
abbrev St:=List (Option V)
abbrev VK:=V->Hp->Prop
abbrev TE:=St->Hp->VK->Prop
abbrev TT:=St->Hp->(Bool->Hp->Prop)->Prop
abbrev TA:=St->Hp->(List V->Hp->Prop)->Prop
structure uf where
 nx:St->Hp->Prop
 rt:VK
 bk:St->Hp->Prop:=fun _ _=>False
 ct:St->Hp->Prop:=fun _ _=>False
abbrev TS:=uf->St->Hp->Prop
def EP(X:Cx)(ae:List (Addr×Obj))(σ:St)(Q:VK)(u:Value)(s':Shared):Prop:=∃v H',aM X ae σ H' s'/\bi v u/\Q v H'
def TP(X:Cx)(ae:List (Addr×Obj))(σ:St)(Q:Bool->Hp->Prop)(b:Bool)(s':Shared):Prop:=∃H',aM X ae σ H' s'/\Q b H'
def AP(X:Cx)(ae:List (Addr×Obj))(σ:St)(Q:List V->Hp->Prop)(us:List Value)(s':Shared):Prop:=∃vs H',aM X ae σ H' s'/\aX vs us/\Q vs H'
def SP(X:Cx)(ae:List (Addr×Obj))(D:uf)(f:Flow)(s':Shared):Prop:=
 match f with
 |.next=>∃σ' H',aM X ae σ' H' s'/\D.nx σ' H'
 |.brk=>∃σ' H',aM X ae σ' H' s'/\D.bk σ' H'
 |.cont=>∃σ' H',aM X ae σ' H' s'/\D.ct σ' H'
 |.ret u=>∃v σ' H',aM X ae σ' H' s'/\bi v u/\D.rt v H'
def PE(X:Cx)(e:Expr)(t:TE):Prop:=
 ∀ (ae:List (Addr×Obj)) (s:Shared) (σ:St) (H:Hp) (Q:VK),aM X ae σ H s->t σ H Q->wpAny (model X.prog X.w) X.A (eval e X.env) (EP X ae σ Q) X.xe s
def PT(X:Cx)(e:Expr)(t:TT):Prop:=
 ∀ (ae:List (Addr×Obj)) (s:Shared) (σ:St) (H:Hp) (Q:Bool->Hp->Prop),aM X ae σ H s->t σ H Q->wpAny (model X.prog X.w) X.A (isTrue e X.env (eval e X.env)) (TP X ae σ Q) X.xe s
def PW(X:Cx)(e:Expr)(t:TT):Prop:=
 ∀ (xV:Sem Value) (ae:List (Addr×Obj)) (s:Shared) (σ:St) (H:Hp) (Q:Bool->Hp->Prop),aM X ae σ H s->t σ H Q->wpAny (model X.prog X.w) X.A (isTrue e X.env xV) (TP X ae σ Q) X.xe s
theorem PW.pt(h:PW X e t):PT X e t:=h _
def PA(X:Cx)(es:List Expr)(t:TA):Prop:=
 ∀ (pos:Pos) (ae:List (Addr×Obj)) (s:Shared) (σ:St) (H:Hp) (Q:List V->Hp->Prop),aM X ae σ H s->t σ H Q->wpAny (model X.prog X.w) X.A (spliced (backTo pos (starEach es X.env))) (AP X ae σ Q) X.xe s
def PS(X:Cx)(st:Stmt)(t:TS):Prop:=
 ∀ (ae:List (Addr×Obj)) (s:Shared) (σ:St) (H:Hp) (D:uf),aM X ae σ H s->t D σ H->wpAny (model X.prog X.w) X.A (exec st X.env) (SP X ae D) X.xe s
def wy(X:Cx)(st:List Stmt)(t:TS):Prop:=
 ∀ (ae:List (Addr×Obj)) (s:Shared) (σ:St) (H:Hp) (D:uf),aM X ae σ H s->t D σ H->wpAny (model X.prog X.w) X.A (execs st X.env) (SP X ae D) X.xe s
theorem cs(h:wpAny M A t Q E s)(hQ:∀a s,Q a s->Q' a s):wpAny M A t Q' E s:=g9 h hQ fun _ _ x=>x
section
variable {X:Cx}
def aT(i:Nat):TE:=fun σ H Q=>∃v,σ[i]?=some (some v)/\Q v H
def tC(v:V):TE:=fun _ H Q=>Q v H
theorem HL(hN:X.N[i]?=some x)(hv:Lo X.env.scope x)(hd:(x==("__debug__":Str))=false:=by decide)(o5:(x==("__classdict__":Str))=false:=by decide):PE X (.Name x pos) (aT i):=by
 intro ae s σ H Q I h;obtain⟨v,e,h⟩:=h;obtain⟨m,hn,hl⟩:=I.loc;obtain⟨u,r,l⟩:=hl i x v hN e hv;have dN:EP X ae σ Q u s:=⟨v,H,I,r,h⟩
 rcases l with ⟨hk,hm⟩|⟨hk,c,hc,xW⟩
 .exact lj (wa I.ok.kind hk hn hm dN) hd
 .rcases hk with hk|hk
  .exact lj (wpAny_loadName_cell I.ok.kind hk hc xW dN) hd
  .exact lj (wn I.ok.kind hk hc xW dN o5) hd
theorem aj{i j pos}:PE X (.Constant (.int i) j pos) (tC (.int i)):=fun _ _ _ H _ I h=>wpAny_Constant_int ⟨.int i,H,I.tok _,⟨_,rfl⟩,h⟩
theorem pS{b j pos}:PE X (.Constant (.bool b) j pos) (tC (.bl b)):=fun _ _ _ H _ I h=>Constant_bool ⟨.bl b,H,I,rfl,h⟩
theorem d8{j pos}:PE X (.Constant .none j pos) (tC .bw):=fun _ _ _ H _ I h=>Constant_none ⟨.bw,H,I,rfl,h⟩
def Gl(X:Cx)(x:Str):Prop:=X.env.kindOf x=some .globalImplicit
theorem rO(I:aM X ae σ H s)(hg:Gl X x)(hm:X.mg x=some u)(h:Q u s)(hd:(x==("__debug__":Str))=false:=by decide):wpAny (model X.prog X.w) X.A (eval (.Name x pos) X.env) Q E s:=
 Calls.Name_function_global I.ok.kind hg (Calls.loadGlobal_global (by rw[I.ok.glob];exact I.mod.glob.keeps I.bk) hm h) hd
theorem lw(I:aM X ae σ H s)(hg:Gl X x)(hm:X.mg x=none)(hv:bootBuiltins x=some u)(h:Q u s)(hn:x≠"__name__":=by decide)(hd:(x==("__debug__":Str))=false:=by decide):wpAny (model X.prog X.w) X.A (eval (.Name x pos) X.env) Q E s:=by
 obtain⟨mb,h1,h2⟩:=I.mod.blt;exact Calls.Name_function_global I.ok.kind hg (Calls.loadGlobal_builtin (by rw[I.ok.glob];exact I.mod.glob.keeps I.bk) hm (by rw[I.ok.blt];exact h1.keeps I.bk) ((h2 x hn).trans hv) h) hd
theorem rP(hg:Gl X x)(hm:X.mg x=some u)(r:bi v u)(hd:(x==("__debug__":Str))=false:=by decide):PE X (.Name x pos) (tC v):=
 fun _ _ _ H _ I h=>rO I hg hm ⟨v,H,I,r,h⟩ hd
theorem hE(hg:Gl X x)(hm:X.mg x=none)(hv:bootBuiltins x=some u)(r:bi v u)(hn:x≠"__name__":=by decide)(hd:(x==("__debug__":Str))=false:=by decide):PE X (.Name x pos) (tC v):=
 fun _ _ _ H _ I h=>lw I hg hm hv ⟨v,H,I,r,h⟩ hn hd
variable {a b:Expr} {ta tb:TE} {pos:Pos}
def PC(X:Cx)(op:CmpOp)(a b:Expr)(t:TE):Prop:=
 ∀ (ae:List (Addr×Obj)) (s:Shared) (σ:St) (H:Hp) (Q:VK),aM X ae σ H s->t σ H Q->
  wpAny (model X.prog X.w) X.A (eval a X.env) (fun v s₁=>wpAny (model X.prog X.w) X.A (eval b X.env) (fun u s₂=>wpAny (model X.prog X.w) X.A (compareOp op v u) (EP X ae σ Q) X.xe s₂) X.xe s₁) X.xe s
theorem ug(b:Expr){op:CmpOp}(h:op≠.In)(h2:op≠.NotIn):behindInMarks op b=false:=by
 have e1:(op==CmpOp.In)=false:=by cases op <;> first|rfl|exact absurd rfl h
 have e2:(op==CmpOp.NotIn)=false:=by cases op <;> first|rfl|exact absurd rfl h2
 cases b <;> simp[behindInMarks,e1,e2]
def QM(ta:TE):TE:=fun σ H Q=>ta σ H fun x H1=>Q (.bl (decide (x=.bw))) H1
def Ly(ta:TE):TE:=fun σ H Q=>ta σ H fun x H1=>Q (.bl (!decide (x=.bw))) H1
theorem bi.uh{x:V}{v:Value}(r:bi x v):(v==Value.none)=decide (x=.bw):=by
 cases x with
 |bw=>cases r;rfl
 |bl _=>cases r;rfl
 |int _=>obtain⟨t,rfl⟩:=r;rfl
 |str _=>obtain⟨t,rfl⟩:=r;rfl
 |zw _=>obtain⟨t,rfl⟩:=r;rfl
 |GC _=>obtain⟨t,rfl⟩:=r;rfl
 |ref _=>cases r;rfl
 |ty _=>cases r;rfl
theorem HP{j mC}(ha:PE X a ta):PC X .Is a (.Constant .none j mC) (QM ta):=by
 intro ae s σ H Q I h;refine cs (ha ae s σ H _ I h) fun v s1 ⟨x,H1,I1,r1,q1⟩=>?_;exact Constant_none (is_none_gen ⟨.bl _,H1,I1,by rw[r1.uh];rfl,q1⟩)
theorem Eb{j mC}(ha:PE X a ta):PC X .IsNot a (.Constant .none j mC) (Ly ta):=by
 intro ae s σ H Q I h;refine cs (ha ae s σ H _ I h) fun v s1 ⟨x,H1,I1,r1,q1⟩=>?_;exact Constant_none (isnot_none_gen ⟨.bl _,H1,I1,by rw[r1.uh];rfl,q1⟩)
def tB(t:TE):TT:=fun σ H Q=>t σ H fun x H1=>∃c,x=.bl c/\Q c H1
theorem HQ{op:CmpOp}{t:TE}(h:PC X op a b t)(h1:behindInMarks op b=false:=by first|exact ug _ (by decide) (by decide)|rfl):PE X (.Compare a [op] [b] pos) t:=fun ae s σ H Q I hw=>wpAny_Compare1 (h ae s σ H Q I hw) h1
theorem Be(h:PC X op a b t)(h1:behindInMarks op b=false:=by first|exact ug _ (by decide) (by decide)|rfl):PT X (.Compare a [op] [b] pos) (tB t):=by
 intro ae s σ H Q I hw;refine wpAny_isTrue_Compare1 (cs (h ae s σ H _ I hw) fun v s1 h1=>cs h1 fun u s2 h2=>cs h2 fun c s3 ⟨x,H1,I1,r1,q1⟩=>?_) h1;obtain⟨d,rfl,q⟩:=q1;cases r1;exact jF ⟨H1,I1,q⟩
theorem dQ(h:PE X e t)(he:∀xV,isTrue e X.env xV=(do let v <- xV;standAt e.pos;holding [v] (truthy v)):=by intro _;rfl):PT X e (tB t):=by
 intro ae s σ H Q I hw;refine isTrue_plain (cs (h ae s σ H _ I hw) fun v s1 ⟨x,H1,I1,r1,q1⟩=>?_) (he _);obtain⟨d,rfl,q⟩:=q1;cases r1;exact jF ⟨H1,I1,q⟩
variable {tA Pl:TT} {km:List Expr}
def Lz(t u:TT):TT:=fun σ H Q=>t σ H fun c H1=>if c=true then u σ H1 Q else Q false H1
def U6(t u:TT):TT:=fun σ H Q=>t σ H fun c H1=>if c=true then Q true H1 else u σ H1 Q
def QN(t:TT):TT:=fun σ H Q=>t σ H fun c H1=>Q (!c) H1
theorem gj(ha:PT X a tA):PW X (.BoolOp .And [a] pos) tA:=by
 intro wh ae s σ H Q I h;refine isTrue_and (cs (ha ae s σ H Q I h) fun c s1 e=>?_);cases c with
 |true=>exact isTrue_and_nil e
 |false=>exact e
theorem oe(ha:PT X a tA):PW X (.BoolOp .Or [a] pos) tA:=by
 intro wh ae s σ H Q I h;refine isTrue_or (cs (ha ae s σ H Q I h) fun c s1 e=>?_);cases c with
 |false=>exact isTrue_or_nil e
 |true=>exact e
theorem gw(ha:PT X a tA)(hb:PW X (.BoolOp .And (b::km) pos) Pl):PW X (.BoolOp .And (a::b::km) pos) (Lz tA Pl):=by
 intro wh ae s σ H Q I h;refine isTrue_and (cs (ha ae s σ H _ I h) fun c s1 ⟨H1,I1,q1⟩=>?_);cases c with
 |true=>exact hb wh ae s1 σ H1 Q I1 q1
 |false=>exact⟨H1,I1,q1⟩
theorem og(ha:PT X a tA)(hb:PW X (.BoolOp .Or (b::km) pos) Pl):PW X (.BoolOp .Or (a::b::km) pos) (U6 tA Pl):=by
 intro wh ae s σ H Q I h;refine isTrue_or (cs (ha ae s σ H _ I h) fun c s1 ⟨H1,I1,q1⟩=>?_);cases c with
 |true=>exact⟨H1,I1,q1⟩
 |false=>exact hb wh ae s1 σ H1 Q I1 q1
theorem hU(ha:PT X a tA):PT X (.UnaryOp .Not a pos) (QN tA):=by
 intro ae s σ H Q I h;exact isTrue_not (ha ae s σ H (fun c H1=>Q (!c) H1) I h)
def LB(ta tb:TE):TE:=fun σ H Q=>ta σ H fun x H1=>∃c,x=.bl c/\if c=true then tb σ H1 Q else Q (.bl false) H1
def QO(ta tb:TE):TE:=fun σ H Q=>ta σ H fun x H1=>∃c,x=.bl c/\if c=true then Q (.bl true) H1 else tb σ H1 Q
def LC(ta:TE):TE:=fun σ H Q=>ta σ H fun x H1=>∃c,x=.bl c/\Q (.bl (!c)) H1
theorem jR{op}(h:PE X a t):PE X (.BoolOp op [a] pos) t:=fun ae s σ H Q I hw=>BoolOp_one (h ae s σ H Q I hw)
theorem jS(ha:PE X a ta)(hb:PE X (.BoolOp .And (b::km) pos) tb):PE X (.BoolOp .And (a::b::km) pos) (LB ta tb):=by
 intro ae s σ H Q I h;refine BoolOp_and (cs (ha ae s σ H _ I h) fun v s1 ⟨x,H1,I1,r1,q1⟩=>?_);obtain⟨c,rfl,q1⟩:=q1;cases r1;refine jF ?_;cases c with
 |true=>exact hb ae s1 σ H1 Q I1 q1
 |false=>exact⟨.bl false,H1,I1,rfl,q1⟩
theorem LF(ha:PE X a ta)(hb:PE X (.BoolOp .Or (b::km) pos) tb):PE X (.BoolOp .Or (a::b::km) pos) (QO ta tb):=by
 intro ae s σ H Q I h;refine BoolOp_or (cs (ha ae s σ H _ I h) fun v s1 ⟨x,H1,I1,r1,q1⟩=>?_);obtain⟨c,rfl,q1⟩:=q1;cases r1;refine jF ?_;cases c with
 |false=>exact hb ae s1 σ H1 Q I1 q1
 |true=>exact⟨.bl true,H1,I1,rfl,q1⟩
theorem HR(ha:PE X a ta):PE X (.UnaryOp .Not a pos) (LC ta):=by
 intro ae s σ H Q I h;refine UnaryOp_ (cs (ha ae s σ H _ I h) fun v s1 ⟨x,H1,I1,r1,q1⟩=>?_);obtain⟨c,rfl,q1⟩:=q1;cases r1;exact not_of (jF ⟨.bl (!c),H1,I1,rfl,q1⟩)
def W8(t:TT)(ta tb:TE):TE:=fun σ H Q=>t σ H fun c H1=>if c=true then ta σ H1 Q else tb σ H1 Q
theorem Bg(hc:PT X c tA)(ha:PE X a ta)(hb:PE X b tb):PE X (.IfExp c a b pos) (W8 tA ta tb):=by
 intro ae s σ H Q I h;refine wpAny_IfExp (cs (hc ae s σ H _ I h) fun d s1 ⟨H1,I1,q1⟩=>?_);cases d with
 |true=>exact ha ae s1 σ H1 Q I1 q1
 |false=>exact hb ae s1 σ H1 Q I1 q1
end
def aQ(K:PySem.W.Frag)(H:Hp)(a:Addr)(xs:List V):Prop:=
 Rd H a (.lst xs)\/
  ∃ (o:Obj) (its:Array Value) (n:Nat),K.lookup a=some o/\o.cls=.type "list"/\o.dict=none/\o.data=.seq its n/\its.size<=sizeLine/\aX xs its.toList
def bZ(K:PySem.W.Frag)(H:Hp)(a:Addr)(xs:List V):Prop:=
 Rd H a (.tup xs)\/
  ∃ (o:Obj) (its:Array Value) (n:Nat),K.lookup a=some o/\o.cls=.type "tuple"/\o.data=.seq its n/\its.size<=sizeLine/\aX xs its.toList
def QP:Value->Option V
 |.none=>some .bw
 |.bool b=>some (.bl b)
 |.int i _=>some (.int i)
 |.str x _=>some (.str x)
 |.bytes b _=>some (.zw b)
 |.float b _=>some (.GC b)
 |.ref a=>some (.ref a)
 |.type n=>some (.ty n)
 |_=>none
theorem bi.abs(r:bi x u):QP u=some x:=by
 cases x with
 |bw=>cases r;rfl
 |bl _=>cases r;rfl
 |int _=>obtain⟨t,rfl⟩:=r;rfl
 |str _=>obtain⟨t,rfl⟩:=r;rfl
 |zw _=>obtain⟨t,rfl⟩:=r;rfl
 |GC _=>obtain⟨t,rfl⟩:=r;rfl
 |ref _=>cases r;rfl
 |ty _=>cases r;rfl
theorem bi.inj(r:bi x u)(q:bi y u):x=y:=bE (r.abs.symm.trans q.abs)
theorem aX.inj:∀ {xs ys:List V} {us:List Value},aX xs us->aX ys us->xs=ys
 |_,_,_,.nil,.nil=>rfl
 |_,_,_,.cons r t,.cons r' t'=>by rw[r.inj r',aX.inj t t']
section
variable {X:Cx} {ae:List (Addr×Obj)} {σ:St} {H:Hp} {s:Shared} {a:Addr} {xs ys:List V}
theorem aQ.of{K:PySem.W.Frag}(h:H a=some (.lst xs)):aQ K H a xs:=.inl (.inl h)
theorem bZ.of{K:PySem.W.Frag}(h:H a=some (.tup xs)):bZ K H a xs:=.inl (.inl h)
theorem aM.list(I:aM X ae σ H s)(h:aQ X.K H a xs):∃its:List Value,aX xs its/\PlainL s.heap a its.toArray/\xs.length<=sizeLine:=by
 rcases h with h|⟨o,its,n,hk,hc,hd,hs,hz,r⟩
 .obtain⟨z,its,n,r,e⟩:=h.ok I.ck;exact⟨its,r,⟨_,n,e,rfl,rfl,rfl⟩,z⟩
 .refine⟨its.toList,r,⟨o,n,I.mB a o hk,hc,hd,by simpa using hs⟩,?_⟩;have e:=r.length;simp only[k5] at e;lia
theorem aM.tuple(I:aM X ae σ H s)(h:bZ X.K H a xs):∃its:List Value,aX xs its/\IsTup s.heap a its.toArray/\xs.length<=sizeLine:=by
 rcases h with h|⟨o,its,n,hk,hc,hs,hz,r⟩
 .obtain⟨z,its,r,p⟩:=h.ok I.ck;exact⟨its,r,p.tup,z⟩
 .refine⟨its.toList,r,⟨o,I.mB a o hk,hc,n,by simpa using hs⟩,?_⟩;have e:=r.length;simp only[k5] at e;lia
theorem aM.Bh(I:aM X ae σ H s)(h:aQ X.K H a xs)(h':aQ X.K H a ys):xs=ys:=by
 obtain⟨its,r,⟨o,n,e,_,_,d⟩,_⟩:=I.list h;obtain⟨its',r',⟨o',n',e',_,_,d'⟩,_⟩:=I.list h';rw[e] at e';cases e';rw[d] at d';injection d' with d1 _;have:its=its':=by simpa using congrArg Array.toList d1
 subst this;exact r.inj r'
theorem aM.i9(I:aM X ae σ H s)(h:bZ X.K H a xs)(h':bZ X.K H a ys):xs=ys:=by
 obtain⟨its,r,⟨o,e,_,n,d⟩,_⟩:=I.tuple h;obtain⟨its',r',⟨o',e',_,n',d'⟩,_⟩:=I.tuple h';rw[e] at e';cases e';rw[d] at d';injection d' with d1 _;have:its=its':=by simpa using congrArg Array.toList d1
 subst this;exact r.inj r'
end
abbrev Cx.pu(X:Cx)(E:Value->Shared->Prop):Cx:={ X with xe:=E }
abbrev Cx.GJ(X:Cx):Cx:=X.pu fun _ _=>False
theorem Cx.Ok.pu{X:Cx}(ok:X.Ok)(E:Value->Shared->Prop):(X.pu E).Ok:=
 ⟨ok.mod,ok.kind,ok.glob,ok.blt,ok.above,ok.inj,ok.has,ok.Lr,ok.hd,ok.frames,ok.KH,ok.QF,ok.bs,ok.DP,ok.Bd,ok.D_,ok.mz,ok.HI⟩
theorem Cx.Ok.iO{X:Cx}{E:Value->Shared->Prop}(ok:(X.pu E).Ok):X.Ok:=
 ⟨ok.mod,ok.kind,ok.glob,ok.blt,ok.above,ok.inj,ok.has,ok.Lr,ok.hd,ok.frames,ok.KH,ok.QF,ok.bs,ok.DP,ok.Bd,ok.D_,ok.mz,ok.HI⟩
section
variable {X:Cx} {ae:List (Addr×Obj)} {σ:St} {H:Hp} {s:Shared} {E:Value->Shared->Prop}
theorem aM.pu(I:aM X ae σ H s)(E:Value->Shared->Prop):aM (X.pu E) ae σ H s:=⟨I.ok.pu E,I.os,I.bare,I.base,I.loc,I.cell,I.free,I.jw,I.pin,I.ck,I.len⟩
theorem aM.iO(I:aM (X.pu E) ae σ H s):aM X ae σ H s:=⟨I.ok.iO,I.os,I.bare,I.base,I.loc,I.cell,I.free,I.jw,I.pin,I.ck,I.len⟩
theorem SP.iO(h:SP (X.pu E) ae D f s'):SP X ae D f s':=by
 cases f with
 |next=>obtain⟨σ',H',I,q⟩:=h;exact⟨σ',H',I.iO,q⟩
 |brk=>obtain⟨σ',H',I,q⟩:=h;exact⟨σ',H',I.iO,q⟩
 |cont=>obtain⟨σ',H',I,q⟩:=h;exact⟨σ',H',I.iO,q⟩
 |ret u=>obtain⟨v,σ',H',I,r,q⟩:=h;exact⟨v,σ',H',I.iO,r,q⟩
theorem wy.GJ{st:List Stmt}{t:TS}(h:wy X.GJ st t):wy X st t:=fun ae s σ H D I hw=>
 g9 (h ae s σ H D (I.pu _) hw) (fun _ _ q=>q.iO) fun _ _ z=>False.elim z
end
section
variable {X:Cx} {st:Stmt} {km:List Stmt} {t u:TS} {e:Expr} {te:TE} {pos:Pos}
def LH:TS:=fun D σ H=>D.nx σ H
def Ec(t u:TS):TS:=fun D σ H=>t { D with nx:=u D } σ H
theorem a9:wy X [] LH:=fun _ _ σ H _ I h=>rq ⟨σ,H,I,h⟩
theorem ah(h1:PS X st t)(h2:wy X km u):wy X (st::km) (Ec t u):=by
 intro ae s σ H D I h;refine wpAny_execs_cons (cs (h1 ae s σ H { D with nx:=u D } I h) fun f s1 q=>?_);cases f with
 |next=>
  obtain⟨σ',H',I',q⟩:=q;exact h2 ae s1 σ' H' D I' q
 |ret v=>exact q
 |brk=>exact q
 |cont=>exact q
theorem ao(h1:PS X st t):wy X [st] t:=by
 intro ae s σ H D I h;refine wpAny_execs_cons (cs (h1 ae s σ H D I h) fun f s1 q=>?_);cases f with
 |next=>exact rq q
 |ret v=>exact q
 |brk=>exact q
 |cont=>exact q
theorem aM.quiet(I:aM X ae σ H s):interactive X.env=false:=by simp[interactive,I.ok.kind]
def LJ(te:TE):TS:=fun D σ H=>te σ H fun _ H1=>D.nx σ H1
theorem bK(he:PE X e te)(hs:swapsWith e none pos.line X.env=pure false:=by rfl):PS X (.Expr e pos) (LJ te):=by
 intro ae s σ H D I h;exact wpAny_Expr_any (cs (he ae s σ H _ I h) fun v s1 ⟨x,H1,I1,r1,q1⟩=>⟨σ,H1,I1,q1⟩) I.quiet hs
def QQ(te:TE):TS:=fun D σ H=>te σ H D.rt
theorem aV(he:PE X e te):PS X (.Return (some e) pos) (QQ te):=by
 intro ae s σ H D I h;exact wpAny_Return_some (cs (he ae s σ H _ I h) fun v s1 ⟨x,H1,I1,r1,q1⟩=>⟨x,σ,H1,I1,r1,q1⟩)
def LK(c:TT)(t u:TS):TS:=fun D σ H=>c σ H fun b H1=>if b=true then t D σ H1 else u D σ H1
theorem b8(hc:PT X c tc)(ha:wy X a t)(hb:wy X b u):PS X (.If c a b pos) (LK tc t u):=by
 intro ae s σ H D I h;refine wpAny_If (cs (hc ae s σ H _ I h) fun d s1 ⟨H1,I1,q1⟩=>?_);cases d with
 |true=>exact ha ae s1 σ H1 D I1 q1
 |false=>exact hb ae s1 σ H1 D I1 q1
def HS:TS:=fun _ _ _=>False
theorem dW:wy X sts HS:=fun _ _ _ _ _ _ h=>h.elim
end
abbrev TG:=V->St->Hp->(St->Hp->Prop)->Prop
abbrev HU:=List V->St->Hp->(St->Hp->Prop)->Prop
def PG(X:Cx)(HV:Expr)(t:TG):Prop:=
 ∀ (ae:List (Addr×Obj)) (s:Shared) (σ:St) (H:Hp) (v:V) (u:Value) (Q:St->Hp->Prop),aM X ae σ H s->bi v u->t v σ H Q->
  wpAny (model X.prog X.w) X.A (assign HV X.env u) (fun _ s'=>∃σ' H',aM X ae σ' H' s'/\Q σ' H') X.xe s
def LM(X:Cx)(ts:List Expr)(t:HU):Prop:=
 ∀ (ae:List (Addr×Obj)) (s:Shared) (σ:St) (H:Hp) (vs:List V) (us:List Value) (Q:St->Hp->Prop),aM X ae σ H s->aX vs us->t vs σ H Q->
  wpAny (model X.prog X.w) X.A (assignInOrder ((assignEach ts X.env).map (·.2)) us) (fun _ s'=>∃σ' H',aM X ae σ' H' s'/\Q σ' H') X.xe s
abbrev LN:=V->V->V->Hp->(Hp->Prop)->Prop
def LO(X:Cx)(t:LN):Prop:=
 ∀ (ae:List (Addr×Obj)) (s:Shared) (σ:St) (H:Hp) (o i v:V) (ov iv u:Value) (Q:Hp->Prop),aM X ae σ H s->bi o ov->bi i iv->bi v u->t o i v H Q->
  wpAny (model X.prog X.w) X.A (setItem ov iv u) (fun _ s'=>∃H',aM X ae σ H' s'/\Q H') X.xe s
abbrev QR:=V->V->Hp->VK->Prop
def U7(X:Cx)(op:Operator)(t:QR):Prop:=
 ∀ (ae:List (Addr×Obj)) (s:Shared) (σ:St) (H:Hp) (x y:V) (v u:Value) (Q:VK),aM X ae σ H s->bi x v->bi y u->t x y H Q->
  wpAny (model X.prog X.w) X.A (inplaceOp op v u) (EP X ae σ Q) X.xe s
section
variable {X:Cx} {pos:Pos}
def bb(i:Nat):TG:=fun v σ H Q=>Q (σ.set i (some v)) H
theorem au(hN:X.N.Nodup)(hi:X.N[i]?=some x)(hx:Lp X.env.scope x)(hf:X.fn x=true\/X.env.scope.names.lookup x=some .local:=by first|exact .inl rfl|exact .inr rfl|assumption):PG X (.Name x pos) (bb i):=by
 intro ae s σ H v u Q I r h;exact wpAny_assign_Name (iN I hN hi hx r (fun s' I'=>⟨_,H,I',h⟩) hf)
def rQ:HU:=fun vs σ H Q=>vs=[]/\Q σ H
def eZ(t:TG)(u:HU):HU:=fun vs σ H Q=>∃v r,vs=v::r/\t v σ H fun σ' H'=>u r σ' H' Q
theorem de:LM X [] rQ:=by
 intro ae s σ H vs us Q I r h;obtain⟨e,h⟩:=h;subst e;cases r;exact assignInOrder_nil ⟨σ,H,I,h⟩
theorem aY(h1:PG X e t)(h2:LM X es u)(hs:(assignEach (e::es) X.env).map (·.2)=assign e X.env::(assignEach es X.env).map (·.2):=by rfl):LM X (e::es) (eZ t u):=by
 intro ae s σ H vs us Q I r h;obtain⟨v,vr,e1,h⟩:=h;subst e1;cases r with
 |cons r rr=>
  rw[hs];refine assignInOrder_cons (cs (h1 ae s σ H _ _ _ I r h) fun _ s1 ⟨σ1,H1,I1,q1⟩=>?_);exact h2 ae s1 σ1 H1 _ _ Q I1 rr q1
def rR(K:PySem.W.Frag)(n:Nat)(t:HU):TG:=fun v σ H Q=>∃a xs,v=.ref a/\bZ K H a xs/\xs.length=n/\t xs σ H Q
theorem eN(hc:X.calm=true)(h:LM X es t)(hn:(assignEach es X.env).length=n:=by rfl)(jT:(assignEach es X.env).findIdx? (·.1)=none:=by rfl):PG X (.Tuple es k pos) (rR X.K n t):=by
 intro ae s σ H v u Q I r hw;obtain⟨a,xs,e1,hq,hl,hw⟩:=hw;subst e1;cases r;obtain⟨its,rv,ht,hz⟩:=I.tuple hq;refine assign_Tuple_tuple (I.ok.hd hc) ht (by simp[hn,<-hl,rv.length]) jT fun h' hx=>?_;have I1:aM X ae σ H { s with heap:=h' }:=I.kept (t':=s.toks) fun b o e=>hx b o (aZ (bn e)) e;exact h ae _ σ H xs _ Q I1 (by simpa using rv) hw
def QS(to ti:TE)(t:LN):TG:=fun v σ H Q=>to σ H fun o H1=>ti σ H1 fun i H2=>t o i v H2 fun H3=>Q σ H3
theorem hV(ho:PE X o to)(hi:PE X i ti)(hs:LO X t)(ha:∀v,assign (.Subscript o i pos) X.env v=(do
   let ov <- holding [v] (eval o X.env)
   let iv <- holding [v,ov] (eval i X.env)
   standAt pos
   holding [v,ov,iv] (setItem ov iv v)
   release [v,ov,iv] []):=by intro _;rfl):PG X (.Subscript o i pos) (QS to ti t):=by
 intro ae s σ H v u Q I r h;rw[ha];refine aS (gi (cs (ho ae s σ H _ I h) fun ov s1 ⟨x,H1,I1,r1,q1⟩=>?_));refine aS (gi (cs (hi ae s1 σ H1 _ I1 q1) fun iv s2 ⟨y,H2,I2,r2,q2⟩=>?_));refine aS (jM (aS (gi (cs (hs ae s2 σ H2 x y v ov iv u _ I2 r1 r2 r q2) fun _ s3 ⟨H3,I3,q3⟩=>?_))));exact wpAny_release ⟨σ,H3,I3,q3⟩
def Ed(te:TE)(g:TG):TS:=fun D σ H=>te σ H fun x H1=>g x σ H1 D.nx
theorem d9(he:PE X e te)(hg:PG X tg g)(hs:swapsWithSole [tg] e pos.line X.env=pure false:=by rfl)(hw:swappedStores [tg] e X.env=pure none:=by rfl)(h1:(assignEach [tg] X.env).map (·.2)=[assign tg X.env]:=by rfl):PS X (.Assign [tg] e pos) (Ed te g):=by
 intro ae s σ H D I h;refine wpAny_Assign_stores (cs (he ae s σ H _ I h) fun v s1 ⟨x,H1,I1,r1,q1⟩=>?_) hs hw;rw[h1];exact cs (hg ae s1 σ H1 x v _ I1 r1 q1) fun _ s2 q=>q
theorem aw(hN:X.N.Nodup)(hi:X.N[i]?=some x)(hx:Lp X.env.scope x)(he:PE X e te)(hs:swapsWith e (some (.Name x mC)) pos.line X.env=pure false:=by rfl)(hf:X.fn x=true\/X.env.scope.names.lookup x=some .local:=by first|exact .inl rfl|exact .inr rfl|assumption):
  PS X (.Assign [.Name x mC] e pos) (Ed te (bb i)):=by
 intro ae s σ H D I h;refine wpAny_Assign_Name (cs (he ae s σ H _ I h) fun v s1 ⟨y,H1,I1,r1,q1⟩=>?_) hs;exact iN I1 hN hi hx r1 (fun s2 I2=>⟨_,H1,I2,q1⟩) hf
def QT(i j:Nat)(ta:TA):TS:=fun D σ H=>ta σ H fun vs H1=>∃v w,vs=[v,w]/\D.nx ((σ.set i (some v)).set j (some w)) H1
theorem Bi{kt k2 o9}(hc:X.calm=true)(hN:X.N.Nodup)(hi:X.N[i]?=some x)(hj:X.N[j]?=some y)(W9:i≠j)(hx:X.env.scope.names.lookup x=some .local)(hy:X.env.scope.names.lookup y=some .local)(ha:PA X [a,b] ta)(hw:swappedStores [.Tuple [.Name x px,.Name y py] kt pt] (.Tuple [a,b] k2 o9) X.env=pure (some [x,y]))(hs:swapsWithSole [.Tuple [.Name x px,.Name y py] kt pt] (.Tuple [a,b] k2 o9) pos.line X.env=pure false:=by rfl):
  PS X (.Assign [.Tuple [.Name x px,.Name y py] kt pt] (.Tuple [a,b] k2 o9) pos) (QT i j ta):=by
 intro ae s σ H D I h;rw[exec_Assign_arm];refine aS (jM ?_);rw[hs];refine aS (wpAny_pure ?_);rw[ak (by decide)];refine aS (Tuple_ (cs (ha _ ae s σ H _ I h) fun us s1 ⟨vs,H1,I1,r1,q1⟩=>?_));obtain⟨v,w,e1,q1⟩:=q1;subst e1;obtain⟨u1,u2,rfl,rv,zy⟩:∃u1 u2,us=[u1,u2]/\bi v u1/\bi w u2:=by
  cases r1 with
  |cons p q=>
   cases q with
   |cons p' q'=>
    cases q';exact⟨_,_,rfl,p,p'⟩
 refine wpAny_newObj_type ?_ (by show 2<=sizeLine;decide);have I2:aM X ae σ H1 { s1 with heap:=s1.heap.push { cls:=.type "tuple",data:=.seq [u1,u2].toArray } }:=I1.kept (t':=s1.toks) fun b o e=>cw _ e;rw[hw];refine aS (wpAny_pure ?_);show wpAny (model X.prog X.w) X.A (do rule "assign.swapped-stores";let items <- unpackItems (.ref s1.heap.objs.size) 2 none;assignInOrder [fun v=>bindName X.env y v,fun v=>bindName X.env x v] items.reverse;pure Flow.next) _ _ _;refine aS (jP (aS (unpackItems_tuple (items:=#[u1,u2]) (I.ok.hd hc) (IsTup.new s1.heap _) fun h' Bj=>?_)));have I3:=I2.kept (h':=h') (t':=s1.toks) fun b o e=>Bj b o (aZ (bn e)) e;show wpAny _ _ (assignInOrder [fun v=>bindName X.env y v,fun v=>bindName X.env x v] [u2,u1] >>= fun _=>pure Flow.next) _ _ _;refine aS (assignInOrder_cons (wpAny_bindName (iN I3 hN hj (.inl hy) zy (fun s2 I4=>?_) (.inr hy))));refine assignInOrder_cons (wpAny_bindName (iN I4 hN hi (.inl hx) rv (fun s3 I5=>assignInOrder_nil (wpAny_pure ?_)) (.inr hx)));rw[List.set_comm _ _ (gv W9)] at I5;exact⟨_,H1,I5,q1⟩
def QU(i:Nat)(te:TE)(ti:QR):TS:=fun D σ H=>∃x,σ[i]?=some (some x)/\te σ H fun y H1=>ti x y H1 fun z H2=>D.nx (σ.set i (some z)) H2
theorem HX(hN:X.N.Nodup)(hi:X.N[i]?=some x)(hx:Lp X.env.scope x)(he:PE X e te)(ho:U7 X op ti)(hf:X.fn x=true\/X.env.scope.names.lookup x=some .local:=by first|exact .inl rfl|exact .inr rfl|assumption):
  PS X (.AugAssign (.Name x mC) op e pos) (QU i te ti):=by
 intro ae s σ H D I h;obtain⟨v,e1,h⟩:=h;obtain⟨m,hn,hl⟩:=I.loc;have QV:Lo X.env.scope x:=by rcases hx with k|k;exact .inl k;exact .inr (.inl k)
 obtain⟨u,r,l⟩:=hl i x v hi e1 QV;refine wpAny_AugAssign_Name ?_;have go:wpAny (model X.prog X.w) X.A (eval e X.env) (fun w s₂=>wpAny (model X.prog X.w) X.A (inplaceOp op u w) (fun r s₃=>wpAny (model X.prog X.w) X.A (storeName X.env x r) (fun _=>SP X ae D .next) X.xe s₃) X.xe s₂) X.xe s:=by
  refine cs (he ae s σ H _ I h) fun w s1 ⟨y,H1,I1,r1,q1⟩=>?_;refine cs (ho ae s1 σ H1 v y u w _ I1 r r1 q1) fun z s2 ⟨zv,H2,I2,r2,q2⟩=>?_;exact iN I2 hN hi hx r2 (fun s3 I3=>⟨_,H2,I3,q2⟩) hf
 rcases l with ⟨hk,hm⟩|⟨hk,c,hc,xW⟩
 .exact wa I.ok.kind hk hn hm go
 .rcases hk with hk|hk
  .exact wpAny_loadName_cell I.ok.kind hk hc xW go
  .rcases hx with k|k
   .have:X.env.scope.names.lookup x=some .free:=hk;rw[k] at this;cases this
   .have:X.env.scope.names.lookup x=some .free:=hk;rw[k] at this;cases this
def W_(f:Int->Int->Int):QR:=fun x y H Q=>∃i j,x=.int i/\y=.int j/\Q (.int (f i j)) H
theorem HY:U7 X .Add (W_ fun i j=>i+j):=by
 intro ae s σ H x y v u Q I r1 r2 h;obtain⟨i,j,e1,e2,q⟩:=h;subst e1;subst e2;obtain⟨t,rfl⟩:=r1;obtain⟨t',rfl⟩:=r2;exact iadd_int ⟨.int _,H,I.tok _,⟨_,rfl⟩,q⟩
def Bk(c:TT)(tb:TS):TS:=fun D σ H=>∃W:Nat->St->Hp->Prop,(∃m,W m σ H)/\∀m σ H,W m σ H->
 c σ H fun b H1=>if b=true then ∃N:St->Hp->Prop,(∀σ' H',N σ' H'->∃m',m'<m/\W m' σ' H')/\tb { D with nx:=N,ct:=N,bk:=D.nx } σ H1 else D.nx σ H1
theorem ui(hp:PassesOwn (model X.prog X.w) X.A X.env X.xe)(hc:PT X c tc)(hb:wy X body tb):PS X (.While c body [] pos) (Bk tc tb):=by
 intro ae s σ H D I h;obtain⟨W,⟨m0,w0⟩,Bm⟩:=h;refine wpAny_While (codeAny_whileLoop (fun n s'=>∃σ' H',aM X ae σ' H' s'/\W n σ' H') ?_ m0 ⟨σ,H,I,w0⟩);rintro n s1 ⟨σ1,H1,I1,w1⟩;refine jJ hp (cs (hc ae s1 σ1 H1 _ I1 (Bm n σ1 H1 w1)) fun b s2 ⟨H2,I2,q2⟩=>?_);cases b with
 |true=>
  obtain⟨N,hN,q2⟩:=q2;rw[ap rfl];refine jJ hp (cs (hb ae s2 σ1 H2 _ I2 q2) fun f s3 q3=>?_);cases f with
  |next=>
   obtain⟨σ3,H3,I3,n3⟩:=q3;obtain⟨m',hm,w3⟩:=hN σ3 H3 n3;exact⟨m',hm,σ3,H3,I3,w3⟩
  |cont=>
   obtain⟨σ3,H3,I3,n3⟩:=q3;obtain⟨m',hm,w3⟩:=hN σ3 H3 n3;exact⟨m',hm,σ3,H3,I3,w3⟩
  |brk=>exact q3
  |ret v=>exact q3
 |false=>
  rw[ak cm];exact rq ⟨σ1,H2,I2,q2⟩
end
structure It where
 go:Nat->Hp->Prop
 KI:Nat->Hp->V->Hp->Prop
 stop:Nat->Hp->Prop
def kn(X:Cx)(ae:List (Addr×Obj))(H:Hp)(b:Addr):Prop:=
 H b=none/\b≠X.env.locals/\b∉X.fs/\(b∈X.ex\/X.s₀.heap.objs.size<=b)/\(∀x c,X.env.cells.lookup x=some c->c≠b)/\∀p∈X.pn++ae,p.1≠b
theorem aM.Ee(I:aM X ae σ H s)(hb:s.heap.objs.size<=b)(hn:H' b=none):kn X ae H' b:=by
 refine⟨hn,nY (bN I.lt hb),I.QH hb,.inr (a7 I.sz hb),fun x c e z=>?_,fun p hp z=>?_⟩
 .obtain⟨v,q⟩:=I.cell x c e;exact absurd (bN q.lt (by rw[z];exact hb)) (g8 _)
 .exact absurd (bN (bn (I.pin p hp).1) (by rw[z];exact hb)) (g8 _)
structure zA(P:Program)(w:World)(K:PySem.W.Frag)(tg:Expr)(J:It)(fp:List Addr)(it:Addr)(tn:Nat->Heap->Prop):Prop where
 mem:it∈fp
 obj:∀i h,tn i h->∀b∈fp,∃o,h.get? b=some o/\∀v,o.data≠.cell v
 keep:∀i h h',tn i h->(∀b∈fp,∀o,h.get? b=some o->h'.get? b=some o)->tn i h'
 item:∀ (X:Cx),X.prog=P->X.w=w->X.K=K->X.calm=true->∀ (i:Nat) (ae:List (Addr×Obj)) (s:Shared) (σ:St) (H:Hp) (E:Value->Shared->Prop),aM X ae σ H s->(∀b∈fp,kn X ae H b)->tn i s.heap->J.go i H->
  wpAny (model P w) X.A (pyNext (.ref it)) (fun r s1=>∃u,r=some u/\
   wpAny (model P w) X.A (letOwnedTupleGo tg (.ref it) u) (fun _ s2=>∃x H',aM X ae σ H' s2/\bi x u/\J.KI i H x H'/\tn (i+1) s2.heap/\∀b∈fp,H' b=none) E s1) E s
 done:∀ (X:Cx),X.prog=P->X.w=w->X.K=K->X.calm=true->∀ (i:Nat) (ae:List (Addr×Obj)) (s:Shared) (σ:St) (H:Hp) (E:Value->Shared->Prop),aM X ae σ H s->(∀b∈fp,kn X ae H b)->tn i s.heap->J.stop i H->
  wpAny (model P w) X.A (pyNext (.ref it)) (fun r s1=>r=none/\aM X ae σ H s1) E s
 self:∀ (A:Around) (i:Nat) (s:Shared) (Q:Value->Shared->Prop) (E:Value->Shared->Prop),tn i s.heap->Q (.ref it) s->wpAny (model P w) A (pyIter (.ref it)) Q E s
abbrev TI:=St->Hp->(It->Hp->Prop)->Prop
def U8(X:Cx)(ae:List (Addr×Obj))(σ:St)(tg:Expr)(R:It->Hp->Prop)(Pm:Value)(s2:Shared):Prop:=
 ∃ (it:Addr) (fp:List Addr) (tn:Nat->Heap->Prop) (J:It) (H':Hp),Pm=.ref it/\aM X ae σ H' s2/\zA X.prog X.w X.K tg J fp it tn/\tn 0 s2.heap/\(∀b∈fp,kn X ae H' b)/\R J H'
def PI(X:Cx)(tg iy:Expr)(wi:TI):Prop:=
 ∀ (ae:List (Addr×Obj)) (s:Shared) (σ:St) (H:Hp) (R:It->Hp->Prop),aM X ae σ H s->wi σ H R->
  wpAny (model X.prog X.w) X.A (eval iy X.env) (fun v s1=>wpAny (model X.prog X.w) X.A (pyIter v) (U8 X ae σ tg R) X.xe s1) X.xe s
theorem Bn(ho:s.heap.get? it=some o)(hc:o.cls=.type n)(hd:o.data=.fields vs)(hn:["enumerate","zip","dict_itemiterator","dict_reverseitemiterator","odict_iterator","itertools.zip_longest","itertools.pairwise"].contains n=false)(hQ:Q () s):wpAny M A (letOwnedTupleGo tg (.ref it) u) Q E s:=by
 unfold letOwnedTupleGo;cases tg <;> first
  |exact wpAny_pure hQ
  |(cases u <;> first
    |exact wpAny_pure hQ
    |(refine aS (wpAny_load ho ?_);rw[hc,hd];show wpAny M A (if (["enumerate","zip","dict_itemiterator","dict_reverseitemiterator","odict_iterator","itertools.zip_longest","itertools.pairwise"].contains n&&vs[0]?==some (rawInt _))=true then _ else _) Q E s;rw[ak (by intro h;rw[hn,Bool.false_and] at h;cases h)];exact wpAny_pure hQ))
def AJ(K:PySem.W.Frag)(a:Addr):It:=
 ⟨fun i H=>∃xs x,aQ K H a xs/\xs[i]?=some x,fun i H x H'=>H'=H/\∀xs,aQ K H a xs->xs[i]?=some x,fun i H=>∃xs,aQ K H a xs/\xs.length<=i⟩
def LP(K:PySem.W.Frag)(a:Addr):It:=
 ⟨fun i H=>∃xs x,bZ K H a xs/\xs[i]?=some x,fun i H x H'=>H'=H/\∀xs,bZ K H a xs->xs[i]?=some x,fun i H=>∃xs,bZ K H a xs/\xs.length<=i⟩
def DR(lo:Int)(n:Nat):It:=⟨fun i _=>i<n,fun i H x H'=>H'=H/\x=.int (lo+i),fun i _=>n<=i⟩
theorem zB{P:Program}{w:World}{K:PySem.W.Frag}{tg:Expr}(a it:Addr):zA P w K tg (AJ K a) [it] it (fun i h=>h.IsListIter it a i) where
 mem:=by simp
 obj:=fun i h st b hb=>by
  have e:b=it:=by simpa using hb
  subst e;obtain⟨o,e,c,d⟩:=st;exact⟨o,e,fun v z=>by rw[d] at z;cases z⟩
 keep:=fun i h h' st k=>st.at fun o e=>k it (by simp) o e
 item:=by
  intro X hP hw hK hc i ae s σ H E I hf st hg;subst hP hw hK;obtain⟨xs,x,hq,hx⟩:=hg;obtain⟨its,rv,p,hz⟩:=I.list hq;obtain⟨u,hu,ru⟩:=rv.get hx;obtain⟨f0,f1,f2,f3,f4,f5⟩:=hf it (by simp);refine q8 st p.isList (x:=u) (by simpa using hu) fun h' a6 sb=>?_;have I1:aM X ae σ H { s with heap:=h' }:=I.turned (t':=s.toks) (fun b o hb e=>(sb.2 b hb).trans e) f0 f1 f3 f4 f5;obtain⟨o,e,c,d⟩:=id a6;exact⟨u,rfl,Bn (s:={ s with heap:=h' }) e c d (by decide) ⟨x,H,I1,ru,⟨rfl,fun ys hy=>by rw[I.Bh hy hq];exact hx⟩,a6,fun b hb=>(hf b hb).1⟩⟩
 done:=by
  intro X hP hw hK hc i ae s σ H E I hf st hg;subst hP hw hK;obtain⟨xs,hq,hx⟩:=hg;obtain⟨its,rv,p,hz⟩:=I.list hq;obtain⟨f0,f1,f2,f3,f4,f5⟩:=hf it (by simp);have hl:=rv.length;exact vZ (I.ok.hd hc) st p.isList (by simp;lia) fun h' eb=>⟨rfl,I.turned (t':=s.toks) (fun b o hb e=>eb b o hb e) f0 f1 f3 f4 f5⟩
 self:=fun _ _ _ _ _ st h=>wpAny_pyIter_listiter st h
theorem wz{P:Program}{w:World}{K:PySem.W.Frag}{tg:Expr}(a it:Addr):zA P w K tg (LP K a) [it] it (fun i h=>h.IsTupleIter it a i) where
 mem:=by simp
 obj:=fun i h st b hb=>by
  have e:b=it:=by simpa using hb
  subst e;obtain⟨o,e,c,d⟩:=st;exact⟨o,e,fun v z=>by rw[d] at z;cases z⟩
 keep:=fun i h h' st k=>st.at fun o e=>k it (by simp) o e
 item:=by
  intro X hP hw hK hc i ae s σ H E I hf st hg;subst hP hw hK;obtain⟨xs,x,hq,hx⟩:=hg;obtain⟨its,rv,p,hz⟩:=I.tuple hq;obtain⟨u,hu,ru⟩:=rv.get hx;obtain⟨f0,f1,f2,f3,f4,f5⟩:=hf it (by simp);refine wpAny_pyNext_tuple_item st (show s.heap.IsTuple a its.toArray from p) (x:=u) (by simpa using hu) fun h' a6 sb=>?_;have I1:aM X ae σ H { s with heap:=h' }:=I.turned (t':=s.toks) (fun b o hb e=>(sb.2 b hb).trans e) f0 f1 f3 f4 f5;obtain⟨o,e,c,d⟩:=id a6;exact⟨u,rfl,Bn (s:={ s with heap:=h' }) e c d (by decide) ⟨x,H,I1,ru,⟨rfl,fun ys hy=>by rw[I.i9 hy hq];exact hx⟩,a6,fun b hb=>(hf b hb).1⟩⟩
 done:=by
  intro X hP hw hK hc i ae s σ H E I hf st hg;subst hP hw hK;obtain⟨xs,hq,hx⟩:=hg;obtain⟨its,rv,p,hz⟩:=I.tuple hq;obtain⟨f0,f1,f2,f3,f4,f5⟩:=hf it (by simp);have hl:=rv.length;exact wpAny_pyNext_tuple_end (I.ok.hd hc) st (show s.heap.IsTuple a its.toArray from p) (by simp;lia) fun h' eb=>⟨rfl,I.turned (t':=s.toks) (fun b o hb e=>eb b o hb e) f0 f1 f3 f4 f5⟩
 self:=fun _ _ _ _ _ st h=>wpAny_pyIter_tupleiter st h
theorem wA{P:Program}{w:World}{K:PySem.W.Frag}{tg:Expr}(it:Addr)(lo:Int)(n:Nat):zA P w K tg (DR lo n) [it] it (fun i h=>IsRangeIter h it (lo+(i:Nat)*1) ((n:Int)-(i:Nat)) 1) where
 mem:=by simp
 obj:=fun i h st b hb=>by
  have e:b=it:=by simpa using hb
  subst e;exact⟨_,st,fun v z=>by
   have z':Data.fields _=Data.cell v:=z;cases z'⟩
 keep:=fun i h h' st k=>k it (by simp) _ st
 item:=by
  intro X hP hw hK hc i ae s σ H E I hf st hg;subst hP hw hK;obtain⟨f0,f1,f2,f3,f4,f5⟩:=hf it (by simp);have W:=Walks.range (prog:=X.prog) (w:=X.w) (I.ok.hd hc) it lo 1 n;refine W.item i s _ _ hg st fun v h' tk hv a6 kk=>?_;obtain⟨t,rfl⟩:=hv;have I1:aM X ae σ H { s with heap:=h',toks:=tk }:=I.turned (fun b o hb e=>kk b o (by simpa using hb) e) f0 f1 f3 f4 f5;refine⟨_,rfl,Bn (s:={ s with heap:=h',toks:=tk }) (n:="range_iterator") a6 rfl rfl (by decide) ⟨.int (lo+i),H,I1,⟨t,?_⟩,⟨rfl,rfl⟩,a6,fun b hb=>(hf b hb).1⟩⟩;rw[Int.mul_one]
 done:=by
  intro X hP hw hK hc i ae s σ H E I hf st hg;subst hP hw hK;obtain⟨f0,f1,f2,f3,f4,f5⟩:=hf it (by simp);exact wpAny_pyNext_range_end (I.ok.hd hc) st (by have:n<=i:=hg;lia) fun h' eb=>⟨rfl,I.turned (t':=s.toks) (fun b o hb e=>eb b o hb e) f0 f1 f3 f4 f5⟩
 self:=fun _ _ _ _ _ st h=>wpAny_pyIter_rangeiter st h
section
variable {X:Cx} {tg:Expr}
def LQ(K:PySem.W.Frag)(tl:TE):TI:=fun σ H R=>tl σ H fun x H1=>∃a,x=.ref a/\(∃xs,aQ K H1 a xs)/\R (AJ K a) H1
def QW(K:PySem.W.Frag)(tl:TE):TI:=fun σ H R=>tl σ H fun x H1=>∃a,x=.ref a/\(∃xs,bZ K H1 a xs)/\R (LP K a) H1
theorem bH{l:Expr}{tl:TE}(hl:PE X l tl):PI X tg l (LQ X.K tl):=by
 intro ae s σ H R I h;refine cs (hl ae s σ H _ I h) fun v s1 ⟨x,H1,I1,r1,q1⟩=>?_;obtain⟨a,e,⟨xs,hq⟩,q⟩:=q1;subst e;cases r1;obtain⟨its,rv,p,hz⟩:=I1.list hq;refine nR p.isList ?_;refine⟨s1.heap.objs.size,[s1.heap.objs.size],_,_,H1,rfl,I1.kept (t':=s1.toks) fun b o e=>cw _ e,zB a _,⟨_,dG _ rfl,rfl,rfl⟩,fun b hb=>?_,q⟩;have e:b=s1.heap.objs.size:=by simpa using hb
 subst e;exact I1.Ee (a8 _) (I1.ck.fresh (a8 _))
theorem wB{l:Expr}{tl:TE}(hl:PE X l tl):PI X tg l (QW X.K tl):=by
 intro ae s σ H R I h;refine cs (hl ae s σ H _ I h) fun v s1 ⟨x,H1,I1,r1,q1⟩=>?_;obtain⟨a,e,⟨xs,hq⟩,q⟩:=q1;subst e;cases r1;obtain⟨its,rv,p,hz⟩:=I1.tuple hq;refine wpAny_pyIter_tuple (show s1.heap.IsTuple a its.toArray from p) ?_;refine⟨s1.heap.objs.size,[s1.heap.objs.size],_,_,H1,rfl,I1.kept (t':=s1.toks) fun b o e=>cw _ e,wz a _,⟨_,dG _ rfl,rfl,rfl⟩,fun b hb=>?_,q⟩;have e:b=s1.heap.objs.size:=by simpa using hb
 subst e;exact I1.Ee (a8 _) (I1.ck.fresh (a8 _))
theorem uj{ae:List (Addr×Obj)}{σ:St}{H:Hp}{s:Shared}{R:It->Hp->Prop}{E:Value->Shared->Prop}{lo hi:Int}{t u v:Tok}{tk:Nat}(I:aM X ae σ H s)(h1:-(2 ^ 62)<=lo)(h2:lo<2 ^ 62)(h3:-(2 ^ 62)<=hi)(h4:hi<2 ^ 62)(q:R (DR lo (hi-lo).toNat) H):wpAny (model X.prog X.w) X.A (pyIter (.ref s.heap.objs.size)) (U8 X ae σ tg R) E { s with heap:=s.heap.push { cls:=.type "range",data:=.fields #[.int lo t,.int hi u,.int 1 v] },toks:=tk }:=by
 refine wpAny_pyIter_range (IsRange.new ..) (small_one h1 h2 h3 h4) ?_;have I1:aM X ae σ H { s with heap:=s.heap.push { cls:=.type "range",data:=.fields #[.int lo t,.int hi u,.int 1 v] },toks:=tk }:=I.kept fun b o e=>cw _ e;refine⟨(s.heap.push { cls:=.type "range",data:=.fields #[.int lo t,.int hi u,.int 1 v] }).objs.size,[(s.heap.push { cls:=.type "range",data:=.fields #[.int lo t,.int hi u,.int 1 v] }).objs.size],_,_,H,rfl,
  I1.kept (t':=tk) fun b o e=>cw _ e,wA _ lo (hi-lo).toNat,?_,fun b hb=>?_,q⟩
 .have e1:lo+((0:Nat):Int)*1=lo:=by simp
  have e2:(((hi-lo).toNat:Nat):Int)-((0:Nat):Int)=Builtin.Range.rangeSize lo hi 1:=by rw[rangeSize_one];split <;> lia
  show IsRangeIter _ _ (lo+((0:Nat):Int)*1) ((((hi-lo).toNat:Nat):Int)-((0:Nat):Int)) 1;rw[e1,e2];exact dG _ rfl
 .have e:b=(s.heap.push { cls:=.type "range",data:=.fields #[.int lo t,.int hi u,.int 1 v] }).objs.size:=by simpa using hb
  subst e;exact I1.Ee (a8 _) (I1.ck.fresh (a8 _))
def LR(ta:TA):TI:=fun σ H R=>ta σ H fun vs H1=>∃j:Int,vs=[.int j]/\-(2 ^ 62)<=j/\j<2 ^ 62/\R (DR 0 j.toNat) H1
def LU(ta:TA):TI:=fun σ H R=>ta σ H fun vs H1=>∃i j:Int,vs=[.int i,.int j]/\(-(2 ^ 62)<=i/\i<2 ^ 62/\-(2 ^ 62)<=j/\j<2 ^ 62)/\R (DR i (j-i).toNat) H1
theorem aU{a:Expr}{ta:TA}{p pos:Pos}(hg:Gl X "range")(hm:X.mg "range"=none)(ha:PA X [a] ta)(hs:starEach [a] X.env=[(false,eval a X.env)]:=by rfl):PI X tg (.Call (.Name "range" p) [a] [] pos) (LR ta):=by
 intro ae s σ H R I h;refine Call_ (lw I hg hm boot_range (vM (cs (ha pos ae s σ H _ I h) fun us s1 ⟨vs,H1,I1,r1,q1⟩=>?_) hs rfl));obtain⟨j,e,q1,q2,q⟩:=q1;subst e;cases r1 with
 |cons r rr=>
  cases rr;obtain⟨t,rfl⟩:=r;exact call_range_1 (uj I1 (by lia) (by lia) q1 q2 (by simpa using q))
theorem zC(hg:Gl X "range")(hm:X.mg "range"=none)(ha:PA X [a,b] ta)(hs:starEach [a,b] X.env=[(false,eval a X.env),(false,eval b X.env)]:=by rfl)(t3:starEach [b] X.env=[(false,eval b X.env)]:=by rfl):
  PI X tg (.Call (.Name "range" p) [a,b] [] pos) (LU ta):=by
 intro ae s σ H R I h;refine Call_ (lw I hg hm boot_range (vM (cs (ha pos ae s σ H _ I h) fun us s1 ⟨vs,H1,I1,r1,q1⟩=>?_) (by rw[hs,t3]) (by rw[t3];rfl)));obtain⟨i,j,e,⟨q1,q2,q3,q4⟩,q⟩:=q1;subst e;cases r1 with
 |cons r rr=>
  cases rr with
  |cons r' rr=>
   cases rr;obtain⟨t,rfl⟩:=r;obtain⟨t',rfl⟩:=r';exact call_range_2 (uj I1 q1 q2 q3 q4 q)
def QX(wi:TI)(g:TG)(tb:TS):TS:=fun D σ H=>wi σ H fun J H1=>∃W:Nat->Nat->St->Hp->Prop,(∃m,W 0 m σ H1)/\∀i m σ H,W i m σ H->
 (J.stop i H/\D.nx σ H)\/(J.go i H/\∃N:St->Hp->Prop,(∀σ' H',N σ' H'->∃m',m'<m/\W (i+1) m' σ' H')/\∀x H',J.KI i H x H'->g x σ H' fun σ2 H2=>tb { D with nx:=N,ct:=N,bk:=D.nx } σ2 H2)
def oh(fp:List Addr)(h:Heap):List (Addr×Obj):=fp.filterMap fun b=>(h.get? b).map fun o=>(b,o)
theorem hX(hb:b∈fp)(e:h.get? b=some o):(b,o)∈oh fp h:=k6.mpr ⟨b,hb,by rw[e];rfl⟩
theorem zD(hp:p∈oh fp h):p.1∈fp/\h.get? p.1=some p.2:=by
 obtain⟨b,hb,e⟩:=k6.mp hp;cases q:h.get? b with
 |none=>rw[q] at e;cases e
 |some o=>
  rw[q] at e;have e':(b,o)=p:=bE e;subst e';exact⟨hb,q⟩
theorem aM.pinned(I:aM X ae σ H s)(hf:∀b∈fp,kn X ae H b)(ho:∀b∈fp,∃o,s.heap.get? b=some o/\∀v,o.data≠.cell v):aM X (ae++oh fp s.heap) σ H s:=
 I.xT fun p hp=>(bg.mp hp).elim (fun z=>I.pin p (im _ z)) fun z=>by
  obtain⟨hb,e⟩:=zD z;obtain⟨f0,f1,f2,_⟩:=hf p.1 hb;obtain⟨o,e',d⟩:=ho p.1 hb;rw[e] at e';cases e';exact⟨e,f0,f1,f2,d⟩
theorem aM.kq(I:aM X (ae++pl) σ H s):aM X ae σ H s:=I.xT fun p hp=>I.pin p (im _ (gc _ hp))
theorem cA(hp:PassesOwn (model X.prog X.w) X.A X.env X.xe)(hc:X.calm=true)(hi:PI X tg iy wi)(hg:PG X tg g)(hb:wy X body tb)(hs:∀x,foldedSetIterable iy X.env x=pure x:=by intro _;rfl):PS X (.For tg iy body [] pos) (QX wi g tb):=by
 intro ae s σ H D I h;refine wpAny_For (cs (hi ae s σ H _ I h) fun v s1 h1=>cs h1 fun Pm s2 h2=>?_) hs;obtain⟨it,fp,tn,J,H2,e,I2,T,wC,f2,W,⟨m0,w0⟩,Bm⟩:=h2;subst e;have wD:∀ {H':Hp},(∀b∈fp,H' b=none)->∀b∈fp,kn X ae H' b:=fun hn b hb=>⟨hn b hb,(f2 b hb).2⟩
 refine codeAny_forLoop_any (fun n s'=>∃i σ' H',aM X ae σ' H' s'/\tn i s'.heap/\(∀b∈fp,H' b=none)/\W i n σ' H') ?_ m0 ⟨0,σ,H2,I2,wC,fun b hb=>(f2 b hb).1,w0⟩;rintro n s3 ⟨i,σ3,H3,I3,wE,HZ,w3⟩;rcases Bm i n σ3 H3 w3 with ⟨stop,qn⟩|⟨go,N,hN,step⟩
 .refine jJ hp (cs (T.done X rfl rfl rfl hc i ae s3 σ3 H3 X.xe I3 (wD HZ) wE stop) fun r s4 ⟨hr,I4⟩=>?_);subst hr;exact rq ⟨σ3,H3,I4,qn⟩
 .refine jJ hp (cs (T.item X rfl rfl rfl hc i ae s3 σ3 H3 X.xe I3 (wD HZ) wE go) fun r s4 ⟨u,hr,h4⟩=>?_);subst hr;refine jJ hp (cs h4 fun _ s5 ⟨x,H5,I5,r5,y5,t4,QY⟩=>?_);have QZ:=I5.pinned (wD QY) (T.obj _ _ t4);refine jJ hp (cs (hg _ s5 σ3 H5 x u _ QZ r5 (step x H5 y5)) fun _ s6 ⟨σ6,H6,I6,q6⟩=>?_);refine jJ hp (cs (hb _ s6 σ6 H6 _ I6 q6) fun f s7 q7=>?_);have again:∀ {σ7:St} {H7:Hp},aM X (ae++oh fp s5.heap) σ7 H7 s7->N σ7 H7->∃m,m<n/\∃i σ' H',aM X ae σ' H' s7/\tn i s7.heap/\(∀b∈fp,H' b=none)/\W i m σ' H':=fun {σ7 H7} I7 n7=>by
   obtain⟨m',hm,w7⟩:=hN σ7 H7 n7;refine⟨m',hm,i+1,σ7,H7,I7.kq,T.keep _ _ _ t4 fun b hb o e=>(I7.pin (b,o) (im _ (im _ (hX hb e)))).1,fun b hb=>?_,w7⟩;obtain⟨o,e,d⟩:=T.obj _ _ t4 b hb;exact(I7.pin (b,o) (im _ (im _ (hX hb e)))).2.1
  cases f with
  |next=>obtain⟨σ7,H7,I7,n7⟩:=q7;exact again I7 n7
  |cont=>obtain⟨σ7,H7,I7,n7⟩:=q7;exact again I7 n7
  |brk=>obtain⟨σ7,H7,I7,q7⟩:=q7;exact⟨σ7,H7,I7.kq,q7⟩
  |ret v=>obtain⟨x7,σ7,H7,I7,r7,q7⟩:=q7;exact⟨x7,σ7,H7,I7.kq,r7,q7⟩
end
theorem iP{K:PySem.W.Frag}{a:Addr}{xs:List V}{g:TG}{tb:TS}{D:uf}{σ:St}{H:Hp}(Pv:Nat->St->Hp->Prop)(h0:Pv 0 σ H)(hl:∀i σ H,i<=xs.length->Pv i σ H->aQ K H a xs)(hs:∀i x σ H,xs[i]?=some x->Pv i σ H->g x σ H fun σ2 H2=>tb { D with nx:=Pv (i+1),ct:=Pv (i+1),bk:=D.nx } σ2 H2)(hd:∀σ H,Pv xs.length σ H->D.nx σ H):
  ∃W:Nat->Nat->St->Hp->Prop,(∃m,W 0 m σ H)/\∀i m σ H,W i m σ H->
   ((AJ K a).stop i H/\D.nx σ H)\/((AJ K a).go i H/\∃N:St->Hp->Prop,(∀σ' H',N σ' H'->∃m',m'<m/\W (i+1) m' σ' H')/\∀x H',(AJ K a).KI i H x H'->g x σ H' fun σ2 H2=>tb { D with nx:=N,ct:=N,bk:=D.nx } σ2 H2):=by
 refine⟨fun i m σ H=>m=xs.length-i/\i<=xs.length/\Pv i σ H,⟨xs.length,by simp,c_ _,h0⟩,?_⟩;rintro i m σ H ⟨rfl,hi,p⟩;have q:=hl i σ H hi p;by_cases fw:i<xs.length
 .refine .inr ⟨⟨xs,xs[i],q,by simp[fw]⟩,Pv (i+1),fun σ' H' p'=>⟨xs.length-(i+1),by lia,rfl,fw,p'⟩,fun x H' y=>?_⟩;obtain⟨e,y⟩:=y;subst e;exact hs i x σ _ (y xs q) p
 .have e:i=xs.length:=by lia
  subst e;exact .inl ⟨⟨xs,q,a8 _⟩,hd σ H p⟩
theorem rT{K:PySem.W.Frag}{a:Addr}{xs:List V}{g:TG}{tb:TS}{D:uf}{σ:St}{H:Hp}(Pv:Nat->St->Hp->Prop)(h0:Pv 0 σ H)(hl:∀i σ H,i<=xs.length->Pv i σ H->bZ K H a xs)(hs:∀i x σ H,xs[i]?=some x->Pv i σ H->g x σ H fun σ2 H2=>tb { D with nx:=Pv (i+1),ct:=Pv (i+1),bk:=D.nx } σ2 H2)(hd:∀σ H,Pv xs.length σ H->D.nx σ H):
  ∃W:Nat->Nat->St->Hp->Prop,(∃m,W 0 m σ H)/\∀i m σ H,W i m σ H->
   ((LP K a).stop i H/\D.nx σ H)\/((LP K a).go i H/\∃N:St->Hp->Prop,(∀σ' H',N σ' H'->∃m',m'<m/\W (i+1) m' σ' H')/\∀x H',(LP K a).KI i H x H'->g x σ H' fun σ2 H2=>tb { D with nx:=N,ct:=N,bk:=D.nx } σ2 H2):=by
 refine⟨fun i m σ H=>m=xs.length-i/\i<=xs.length/\Pv i σ H,⟨xs.length,by simp,c_ _,h0⟩,?_⟩;rintro i m σ H ⟨rfl,hi,p⟩;have q:=hl i σ H hi p;by_cases fw:i<xs.length
 .refine .inr ⟨⟨xs,xs[i],q,by simp[fw]⟩,Pv (i+1),fun σ' H' p'=>⟨xs.length-(i+1),by lia,rfl,fw,p'⟩,fun x H' y=>?_⟩;obtain⟨e,y⟩:=y;subst e;exact hs i x σ _ (y xs q) p
 .have e:i=xs.length:=by lia
  subst e;exact .inl ⟨⟨xs,q,a8 _⟩,hd σ H p⟩
theorem cf{lo:Int}{n:Nat}{g:TG}{tb:TS}{D:uf}{σ:St}{H:Hp}(Pv:Nat->St->Hp->Prop)(h0:Pv 0 σ H)(hs:∀i σ H,i<n->Pv i σ H->g (.int (lo+i)) σ H fun σ2 H2=>tb { D with nx:=Pv (i+1),ct:=Pv (i+1),bk:=D.nx } σ2 H2)(hd:∀σ H,Pv n σ H->D.nx σ H):
  ∃W:Nat->Nat->St->Hp->Prop,(∃m,W 0 m σ H)/\∀i m σ H,W i m σ H->
   ((DR lo n).stop i H/\D.nx σ H)\/((DR lo n).go i H/\∃N:St->Hp->Prop,(∀σ' H',N σ' H'->∃m',m'<m/\W (i+1) m' σ' H')/\∀x H',(DR lo n).KI i H x H'->g x σ H' fun σ2 H2=>tb { D with nx:=N,ct:=N,bk:=D.nx } σ2 H2):=by
 refine⟨fun i m σ H=>m=n-i/\i<=n/\Pv i σ H,⟨n,by simp,c_ _,h0⟩,?_⟩;rintro i m σ H ⟨rfl,hi,p⟩;by_cases fw:i<n
 .refine .inr ⟨fw,Pv (i+1),fun σ' H' p'=>⟨n-(i+1),by lia,rfl,fw,p'⟩,fun x H' y=>?_⟩;obtain⟨e,y⟩:=y;subst e y;exact hs i σ _ fw p
 .have e:i=n:=by lia
  subst e;exact .inl ⟨a8 _,hd σ H p⟩
theorem Bo(Pv:St->Hp->Prop)(μ:St->Hp->Nat)(h0:Pv σ H)(hs:∀σ H,Pv σ H->c σ H fun b H1=>if b=true then tb { D with nx:=fun σ' H'=>Pv σ' H'/\μ σ' H'<μ σ H,ct:=fun σ' H'=>Pv σ' H'/\μ σ' H'<μ σ H,bk:=D.nx } σ H1 else D.nx σ H1)(mono:∀σ H Q Q',(∀b H1,Q b H1->Q' b H1)->c σ H Q->c σ H Q'):Bk c tb D σ H:=by
 refine⟨fun m σ H=>m=μ σ H/\Pv σ H,⟨_,rfl,h0⟩,?_⟩;rintro m σ H ⟨rfl,p⟩;refine mono σ H _ _ (fun b H1 q=>?_) (hs σ H p);cases b with
 |true=>exact⟨_,fun σ' H' ⟨p',l⟩=>⟨_,l,rfl,p'⟩,q⟩
 |false=>exact q
abbrev R2:=V->V->Hp->VK->Prop
def jx(X:Cx)(f:Value->Value->Sem Value)(r:R2):Prop:=
 ∀ (ae:List (Addr×Obj)) (s:Shared) (σ:St) (H:Hp) (x y:V) (v u:Value) (Q:VK),aM X ae σ H s->bi x v->bi y u->r x y H Q->
  wpAny (model X.prog X.w) X.A (f v u) (EP X ae σ Q) X.xe s
def Q0(X:Cx)(f:Value->Sem Value)(r:V->Hp->VK->Prop):Prop:=
 ∀ (ae:List (Addr×Obj)) (s:Shared) (σ:St) (H:Hp) (x:V) (v:Value) (Q:VK),aM X ae σ H s->bi x v->r x H Q->
  wpAny (model X.prog X.w) X.A (f v) (EP X ae σ Q) X.xe s
def eM(X:Cx)(f:Value)(r:List V->Hp->VK->Prop):Prop:=
 ∀ (ae:List (Addr×Obj)) (s:Shared) (σ:St) (H:Hp) (xs:List V) (us:List Value) (Q:VK),aM X ae σ H s->aX xs us->r xs H Q->
  wpAny (model X.prog X.w) X.A (call f us) (EP X ae σ Q) X.xe s
def gW(r:R2)(ta tb:TE):TE:=fun σ H Q=>ta σ H fun x H1=>tb σ H1 fun y H2=>r x y H2 Q
def Xa(r:V->Hp->VK->Prop)(ta:TE):TE:=fun σ H Q=>ta σ H fun x H1=>r x H1 Q
def rI(C:Int->Int->Prop)(g:Int->Int->V):R2:=fun x y H Q=>∃i j,x=.int i/\y=.int j/\C i j/\Q (g i j) H
def t6(g:Int->Int->V):R2:=fun x y H Q=>∃i j,x=.int i/\y=.int j/\Q (g i j) H
def rU(g:Int->V):V->Hp->VK->Prop:=fun x H Q=>∃i,x=.int i/\Q (g i) H
section
variable {X:Cx} {a b c:Expr} {ta tb tc:TE} {pos:Pos}
theorem H_(ha:PE X a ta)(hb:PE X b tb){ae:List (Addr×Obj)}{s:Shared}{σ:St}{H:Hp}{R:V->V->Hp->Prop}(I:aM X ae σ H s)(h:ta σ H fun x H1=>tb σ H1 fun y H2=>R x y H2){Q:Value->Shared->Prop}{f:Value->Value->Sem Value}(hf:∀v u s2 x y H2,aM X ae σ H2 s2->bi x v->bi y u->R x y H2->wpAny (model X.prog X.w) X.A (f v u) Q X.xe s2):
  wpAny (model X.prog X.w) X.A (eval a X.env) (fun v s₁=>wpAny (model X.prog X.w) X.A (eval b X.env) (fun u s₂=>wpAny (model X.prog X.w) X.A (f v u) Q X.xe s₂) X.xe s₁) X.xe s:=by
 refine cs (ha ae s σ H _ I h) fun v s1 ⟨x,H1,I1,r1,q1⟩=>?_;refine cs (hb ae s1 σ H1 _ I1 q1) fun u s2 ⟨y,H2,I2,r2,q2⟩=>?_;exact hf v u s2 x y H2 I2 r1 r2 q2
theorem aK{op:Operator}{r:R2}(ho:jx X (binaryOp op) r)(ha:PE X a ta)(hb:PE X b tb):PE X (.BinOp a op b pos) (gW r ta tb):=by
 intro ae s σ H Q I h;exact wpAny_BinOp (H_ ha hb I h fun v u s2 x y H2 I2 rx ry q=>ho ae s2 σ H2 x y v u Q I2 rx ry q)
theorem pT(ho:Q0 X (unaryOp op) r)(ha:PE X a ta):PE X (.UnaryOp op a pos) (Xa r ta):=by
 intro ae s σ H Q I h;exact UnaryOp_ (cs (ha ae s σ H _ I h) fun v s1 ⟨x,H1,I1,r1,q1⟩=>ho ae s1 σ H1 x v Q I1 r1 q1)
theorem LV{f:Value->Value->Sem Value}{C:Int->Int->Prop}{g:Int->Int->Int}(rule:∀ (i j:Int) (t u:Tok) (s:Shared) (Q:Value->Shared->Prop) (E:Value->Shared->Prop),C i j->Q (.int (g i j) s.toks) { s with toks:=s.toks+1 }->wpAny (model X.prog X.w) X.A (f (.int i t) (.int j u)) Q E s):
  jx X f (rI C fun i j=>.int (g i j)):=by
 intro ae s σ H x y v u Q I rx ry h;obtain⟨i,j,rfl,rfl,hc,q⟩:=h;obtain⟨t,rfl⟩:=rx;obtain⟨t',rfl⟩:=ry;exact rule i j t t' s _ _ hc ⟨.int (g i j),H,I.tok _,⟨_,rfl⟩,q⟩
theorem LW{f:Value->Value->Sem Value}{g:Int->Int->Int}(rule:∀ (i j:Int) (t u:Tok) (s:Shared) (Q:Value->Shared->Prop) (E:Value->Shared->Prop),Q (.int (g i j) s.toks) { s with toks:=s.toks+1 }->wpAny (model X.prog X.w) X.A (f (.int i t) (.int j u)) Q E s):
  jx X f (t6 fun i j=>.int (g i j)):=by
 intro ae s σ H x y v u Q I rx ry h;obtain⟨i,j,rfl,rfl,q⟩:=h;obtain⟨t,rfl⟩:=rx;obtain⟨t',rfl⟩:=ry;exact rule i j t t' s _ _ ⟨.int (g i j),H,I.tok _,⟨_,rfl⟩,q⟩
theorem Ef{f:Value->Value->Sem Value}{g:Int->Int->Bool}(rule:∀ (i j:Int) (t u:Tok) (s:Shared) (Q:Value->Shared->Prop) (E:Value->Shared->Prop),Q (.bool (g i j)) s->wpAny (model X.prog X.w) X.A (f (.int i t) (.int j u)) Q E s):
  jx X f (t6 fun i j=>.bl (g i j)):=by
 intro ae s σ H x y v u Q I rx ry h;obtain⟨i,j,rfl,rfl,q⟩:=h;obtain⟨t,rfl⟩:=rx;obtain⟨t',rfl⟩:=ry;exact rule i j t t' s _ _ ⟨.bl (g i j),H,I,rfl,q⟩
def Q3(i j:Int):Prop:=0<j/\j<1073741824
def Q4(i j:Int):Prop:=0<=j/\j<=1000000/\i.natAbs<2 ^ 64
def Bp(i j:Int):Prop:=(-(2 ^ 64)<i/\i<2 ^ 64)\/(-(2 ^ 64)<j/\j<2 ^ 64)
theorem Bp.ok(h:Bp i j):IntMulOk i j:=by
 rcases h with ⟨h1,h2⟩|⟨h1,h2⟩
 .exact .of_left (intBits_le_64 h1 h2)
 .exact .of_right (intBits_le_64 h1 h2)
theorem b_:jx X (binaryOp .Add) (t6 fun i j=>.int (i+j)):=LW fun _ _ _ _ _ _ _ q=>add_int q
theorem fR:jx X (binaryOp .Sub) (t6 fun i j=>.int (i-j)):=LW fun _ _ _ _ _ _ _ q=>sub_int q
theorem ff:jx X (binaryOp .Mult) (rI Bp fun i j=>.int (i*j)):=LV fun _ _ _ _ _ _ _ hc q=>mul_int q hc.ok
theorem rV:jx X (binaryOp .FloorDiv) (rI Q3 fun i j=>.int (i / j)):=LV fun i j _ _ _ _ _ hc q=>by
 have h1:(0:Int)<j:=hc.1;have h2:j<1073741824:=hc.2;exact floordiv_int (by lia) (by rw[A3 i (by lia)];exact q) (.inl (PyProof.noPylong_small (by lia)))
theorem fS:jx X (binaryOp .Mod) (rI (fun _ j=>0<j) fun i j=>.int (i % j)):=LV fun i j _ _ _ _ _ hc q=>by
 have h1:(0:Int)<j:=hc;exact mod_int' (by lia) (by rw[A2 i (by lia)];exact q)
theorem Ib:jx X (binaryOp .Pow) (rI Q4 fun i j=>.int (i ^ j.toNat)):=LV fun _ _ _ _ _ _ _ hc q=>pow_int_small hc.1 hc.2.1 hc.2.2 q
theorem Xb{f:Value->Sem Value}{g:Int->Int}(rule:∀ (i:Int) (t:Tok) (s:Shared) (Q:Value->Shared->Prop) (E:Value->Shared->Prop),Q (.int (g i) s.toks) { s with toks:=s.toks+1 }->wpAny (model X.prog X.w) X.A (f (.int i t)) Q E s):
  Q0 X f (rU fun i=>.int (g i)):=by
 intro ae s σ H x v Q I rx h;obtain⟨i,rfl,q⟩:=h;obtain⟨t,rfl⟩:=rx;exact rule i t s _ _ ⟨.int (g i),H,I.tok _,⟨_,rfl⟩,q⟩
theorem lx:Q0 X (unaryOp .USub) (rU fun i=>.int (-i)):=Xb fun _ _ _ _ _ q=>neg_int q
end
def Bq:V->V->Bool
 |.bw,.bw=>true|.bw,.int _=>true|.int _,.bw=>true|.bw,.bl _=>true|.bl _,.bw=>true|.bw,.str _=>true|.str _,.bw=>true
 |.int _,.int _=>true|.bl _,.bl _=>true|.str _,.str _=>true|.zw _,.zw _=>true
 |.int _,.str _=>true|.str _,.int _=>true|.bl _,.str _=>true|.str _,.bl _=>true
 |_,_=>false
def Q5:R2:=fun x y H Q=>Bq x y=true/\Q (.bl (decide (x=y))) H
def U9:R2:=fun x y H Q=>Bq x y=true/\Q (.bl (!decide (x=y))) H
theorem xX:decide (V.int i=V.int j)=(i==j):=by
 rw[gZ];simp
theorem Br:decide (V.bl i=V.bl j)=(i==j):=by
 rw[gZ];simp
theorem xY:decide (V.str i=V.str j)=(i==j):=by
 rw[gZ];simp
theorem xZ:decide (V.zw i=V.zw j)=(i.toList==j.toList):=by
 rw[gZ];cases i;cases j;simp
section
variable {X:Cx} {a b c:Expr} {ta tb tc:TE} {pos:Pos}
theorem bu(I:aM X ae σ H s)(q:Q (.bl k) H)(e:k=k'):EP X ae σ Q (.bool k') s:=by
 subst e;exact⟨.bl k,H,I,rfl,q⟩
theorem d_:jx X (compareOp .Eq) Q5:=by
 intro ae s σ H x y v u Q I rx ry h;obtain⟨hs,q⟩:=h;cases x with
 |bw=>
  cases rx;cases y with
  |bw=>cases ry;exact PySem.EqNone.eq_none_none (bu I q (by simp))
  |bl j=>cases ry;exact PySem.EqNone.eq_none_bool (bu I q (by simp))
  |int j=>obtain⟨t',rfl⟩:=ry;exact PySem.EqNone.eq_none_int (bu I q (by simp))
  |str j=>obtain⟨t',rfl⟩:=ry;exact PySem.EqNone.eq_none_str (bu I q (by simp))
  |_=>exact absurd (show false=true from hs) cm
 |bl i=>
  cases rx;cases y with
  |bw=>cases ry;exact PySem.EqNone.eq_bool_none (bu I q (by simp))
  |bl j=>cases ry;exact eq_bool (bu I q Br)
  |str j=>obtain⟨t',rfl⟩:=ry;exact PySem.EqMixed.eq_bool_str (bu I q (by simp))
  |_=>exact absurd (show false=true from hs) cm
 |int i=>
  obtain⟨t,rfl⟩:=rx;cases y with
  |bw=>cases ry;exact PySem.EqNone.eq_int_none (bu I q (by simp))
  |int j=>obtain⟨t',rfl⟩:=ry;exact eq_int (bu I q xX)
  |str j=>obtain⟨t',rfl⟩:=ry;exact PySem.EqMixed.eq_int_str (bu I q (by simp))
  |_=>exact absurd (show false=true from hs) cm
 |str i=>
  obtain⟨t,rfl⟩:=rx;cases y with
  |bw=>cases ry;exact PySem.EqNone.eq_str_none (bu I q (by simp))
  |bl j=>cases ry;exact PySem.EqMixed.eq_str_bool (bu I q (by simp))
  |int j=>obtain⟨t',rfl⟩:=ry;exact PySem.EqMixed.eq_str_int (bu I q (by simp))
  |str j=>obtain⟨t',rfl⟩:=ry;exact eq_str (bu I q xY)
  |_=>exact absurd (show false=true from hs) cm
 |zw i=>
  obtain⟨t,rfl⟩:=rx;cases y with
  |zw j=>obtain⟨t',rfl⟩:=ry;exact PySem.W.eq_bytes (bu I q xZ)
  |_=>exact absurd (show false=true from hs) cm
 |_=>cases y <;> exact absurd (show false=true from hs) cm
theorem pU:jx X (compareOp .NotEq) U9:=by
 intro ae s σ H x y v u Q I rx ry h;obtain⟨hs,q⟩:=h;cases x with
 |bw=>
  cases rx;cases y with
  |bw=>cases ry;exact PySem.EqNone.ne_none_none (bu I q (by simp))
  |bl j=>cases ry;exact PySem.EqNone.ne_none_bool (bu I q (by simp))
  |int j=>obtain⟨t',rfl⟩:=ry;exact PySem.EqNone.ne_none_int (bu I q (by simp))
  |str j=>obtain⟨t',rfl⟩:=ry;exact PySem.EqNone.ne_none_str (bu I q (by simp))
  |_=>exact absurd (show false=true from hs) cm
 |bl i=>
  cases rx;cases y with
  |bw=>cases ry;exact PySem.EqNone.ne_bool_none (bu I q (by simp))
  |bl j=>cases ry;exact ne_bool (bu I q (congrArg not Br))
  |str j=>obtain⟨t',rfl⟩:=ry;exact PySem.EqMixed.ne_bool_str (bu I q (by simp))
  |_=>exact absurd (show false=true from hs) cm
 |int i=>
  obtain⟨t,rfl⟩:=rx;cases y with
  |bw=>cases ry;exact PySem.EqNone.ne_int_none (bu I q (by simp))
  |int j=>obtain⟨t',rfl⟩:=ry;exact ne_int (bu I q (congrArg not xX))
  |str j=>obtain⟨t',rfl⟩:=ry;exact PySem.EqMixed.ne_int_str (bu I q (by simp))
  |_=>exact absurd (show false=true from hs) cm
 |str i=>
  obtain⟨t,rfl⟩:=rx;cases y with
  |bw=>cases ry;exact PySem.EqNone.ne_str_none (bu I q (by simp))
  |bl j=>cases ry;exact PySem.EqMixed.ne_str_bool (bu I q (by simp))
  |int j=>obtain⟨t',rfl⟩:=ry;exact PySem.EqMixed.ne_str_int (bu I q (by simp))
  |str j=>obtain⟨t',rfl⟩:=ry;exact ne_str (bu I q (congrArg not xY))
  |_=>exact absurd (show false=true from hs) cm
 |zw i=>
  obtain⟨t,rfl⟩:=rx;cases y with
  |zw j=>obtain⟨t',rfl⟩:=ry;exact PySem.W.ne_bytes (bu I q (congrArg not xZ))
  |_=>exact absurd (show false=true from hs) cm
 |_=>cases y <;> exact absurd (show false=true from hs) cm
theorem mf:jx X (compareOp .Lt) (t6 fun i j=>.bl (decide (i<j))):=Ef fun _ _ _ _ _ _ _ q=>lt_int q
theorem Bs:jx X (compareOp .LtE) (t6 fun i j=>.bl (decide (i<=j))):=Ef fun _ _ _ _ _ _ _ q=>le_int q
theorem Bt:jx X (compareOp .Gt) (t6 fun i j=>.bl (decide (j<i))):=Ef fun _ _ _ _ _ _ _ q=>gt_int q
theorem GK:jx X (compareOp .GtE) (t6 fun i j=>.bl (decide (j<=i))):=Ef fun _ _ _ _ _ _ _ q=>ge_int q
theorem wF:jx X (compareOp .Is) (fun x y H Q=>y=.bw/\Q (.bl (decide (x=.bw))) H):=by
 intro ae s σ H x y v u Q I rx ry h;obtain⟨rfl,q⟩:=h;cases ry;refine is_none_gen (bu I q ?_);cases x <;> first
  |(cases rx;rfl)
  |(obtain⟨t,rfl⟩:=rx;rfl)
theorem mR:jx X (compareOp .IsNot) (fun x y H Q=>y=.bw/\Q (.bl (!decide (x=.bw))) H):=by
 intro ae s σ H x y v u Q I rx ry h;obtain⟨rfl,q⟩:=h;cases ry;refine isnot_none_gen (bu I q ?_);cases x <;> first
  |(cases rx;rfl)
  |(obtain⟨t,rfl⟩:=rx;rfl)
theorem aP(b:Expr)(h:op≠.In:=by decide)(h2:op≠.NotIn:=by decide):behindInMarks op b=false:=by
 have e1:(op==CmpOp.In)=false:=by cases op <;> first|rfl|exact absurd rfl h
 have e2:(op==CmpOp.NotIn)=false:=by cases op <;> first|rfl|exact absurd rfl h2
 cases b <;> simp[behindInMarks,e1,e2]
theorem fG(ho:jx X (compareOp op) r)(ha:PE X a ta)(hb:PE X b tb)(hm:behindInMarks op b=false):PE X (.Compare a [op] [b] pos) (gW r ta tb):=by
 intro ae s σ H Q I h;exact wpAny_Compare1 (H_ ha hb I h fun v u s2 x y H2 I2 rx ry q=>ho ae s2 σ H2 x y v u Q I2 rx ry q) hm
def ku(t:TE):TT:=fun σ H Q=>t σ H fun x H'=>∃k,x=.bl k/\Q k H'
theorem aD(ho:jx X (compareOp op) r)(ha:PE X a ta)(hb:PE X b tb)(hm:behindInMarks op b=false):PT X (.Compare a [op] [b] pos) (ku (gW r ta tb)):=by
 intro ae s σ H Q I h;refine wpAny_isTrue_Compare1 (cs (ha ae s σ H _ I h) fun v s1 ⟨x,H1,I1,r1,q1⟩=>cs (hb ae s1 σ H1 _ I1 q1) fun u s2 ⟨y,H2,I2,r2,q2⟩=>
  cs (ho ae s2 σ H2 x y v u _ I2 r1 r2 q2) fun c s3 ⟨z,H3,I3,r3,k,e,q3⟩=>?_) hm
 subst e;cases r3;exact jF ⟨H3,I3,q3⟩
def Ic(r r':R2)(ta tb tc:TE):TE:=fun σ H Q=>ta σ H fun x H1=>tb σ H1 fun y H2=>r x y H2 fun z H3=>∃k,z=.bl k/\
 (if k=true then tc σ H3 fun w' H4=>r' y w' H4 Q else Q (.bl false) H3)
theorem Bu(ho:jx X (compareOp op) r)(Ea:jx X (compareOp U_) r')(ha:PE X a ta)(hb:PE X b tb)(hc:PE X c tc)(hm:lastMarks [op,U_] [b,c]=false:=by with_unfolding_all rfl):PE X (.Compare a [op,U_] [b,c] pos) (Ic r r' ta tb tc):=by
 intro ae s σ H Q I h;refine Compare_chain (cs (ha ae s σ H _ I h) fun v s1 ⟨x,H1,I1,r1,q1⟩=>chain_link (cs (hb ae s1 σ H1 _ I1 q1) fun u s2 ⟨y,H2,I2,r2,q2⟩=>
  cs (ho ae s2 σ H2 x y v u _ I2 r1 r2 q2) fun d s3 ⟨z,H3,I3,r3,k,e,q3⟩=>?_)) hm
 subst e;cases r3;refine jF ?_;cases k with
 |false=>exact ite_ff ⟨.bl false,H3,I3,rfl,q3⟩
 |true=>exact ite_tt (chain_last (cs (hc ae s3 σ H3 _ I3 q3) fun w' s4 ⟨z',H4,I4,r4,q4⟩=>Ea ae s4 σ H4 y z' u w' Q I4 r2 r4 q4))
theorem rW:(sizeLine:Nat)<2 ^ 63:=by rw[iL];decide
theorem pV(r:aX [x] us):∃u,us=[u]/\bi x u:=by
 cases r with
 |cons r1 r2=>cases r2;exact⟨_,rfl,r1⟩
theorem GN(r:aX [x,y] us):∃u w',us=[u,w']/\bi x u/\bi y w':=by
 cases r with
 |cons r1 r2=>
  cases r2 with
  |cons r3 r4=>cases r4;exact⟨_,_,rfl,r1,r3⟩
theorem Bv:eM X (.builtin "abs") (fun xs H Q=>∃i,xs=[.int i]/\Q (.int (if i<0 then -i else i)) H):=by
 intro ae s σ H xs us Q I r h;obtain⟨i,rfl,q⟩:=h;obtain⟨u,rfl,t,rfl⟩:=pV r;exact call_abs_int fun u tk=>⟨.int (if i<0 then -i else i),H,I.tok _,⟨_,rfl⟩,q⟩
theorem i_(hc:X.calm=true):eM X (.builtin "max") (fun xs H Q=>∃i j,xs=[.int i,.int j]/\Q (.int (if j > i then j else i)) H):=by
 intro ae s σ H xs us Q I r h;obtain⟨i,j,rfl,q⟩:=h;obtain⟨u,w',rfl,⟨t,rfl⟩,⟨t',rfl⟩⟩:=GN r;refine max_two_ints (I.ok.hd hc) fun h' tk k=>⟨_,H,I.kept k,?_,q⟩
 by_cases hj:j > i
 .rw[ap hj,ap hj];exact⟨_,rfl⟩
 .rw[ak hj,ak hj];exact⟨_,rfl⟩
theorem ja(hc:X.calm=true):eM X (.builtin "min") (fun xs H Q=>∃i j,xs=[.int i,.int j]/\Q (.int (if j<i then j else i)) H):=by
 intro ae s σ H xs us Q I r h;obtain⟨i,j,rfl,q⟩:=h;obtain⟨u,w',rfl,⟨t,rfl⟩,⟨t',rfl⟩⟩:=GN r;refine min_two_ints (I.ok.hd hc) fun h' tk k=>⟨_,H,I.kept k,?_,q⟩
 by_cases hj:j<i
 .rw[ap hj,ap hj];exact⟨_,rfl⟩
 .rw[ak hj,ak hj];exact⟨_,rfl⟩
theorem pW:eM X (.type "int") (fun xs H Q=>(∃i,xs=[.int i]/\Q (.int i) H)\/∃k,xs=[.bl k]/\Q (.int (if k then 1 else 0)) H):=by
 intro ae s σ H xs us Q I r h;rcases h with ⟨i,rfl,q⟩|⟨k,rfl,q⟩
 .obtain⟨u,rfl,t,rfl⟩:=pV r;exact call_int_int ⟨.int i,H,I,⟨_,rfl⟩,q⟩
 .obtain⟨u,rfl,r1⟩:=pV r;cases r1;exact call_int_bool ⟨.int (if k then 1 else 0),H,I.tok _,⟨_,rfl⟩,q⟩
end
structure wG(h:Heap)(x dx C:Addr)(mA:Str->Option Value):Prop where
 obj:h.get? x=some (PySem.W.instObj C dx)
 ns:h.Ns1 dx mA
 ne:dx≠x
theorem zE{h:Heap}{dx:Addr}{mA:Str->Option Value}(n:h.Ns1 dx mA):∃od,h.get? dx=some od/\∀name,PySem.W.lookIn name od=some (mA name):=by
 obtain⟨o,es,ep,ho,hd,hk,_,hm⟩:=n;refine⟨o,ho,fun name=>?_⟩;have e:=hm name;unfold nsFind findBy at e;rw[<-Array.find?_toList] at e;unfold PySem.W.lookIn;rw[hd];dsimp only;split
 .rename_i y q;rw[q] at e;exact congrArg some e
 .rename_i q;rw[q] at e;have a:es.toList.any (·.refKey)=false:=by
   rw[wf];intro y hy;obtain⟨z,t,pz⟩:=hk y (Array.mem_toList_iff.mp hy);simp[DictEntry.refKey,pz]
  have a':¬ es.toList.any (·.refKey)=true:=by rw[a];exact cm
  rw[ak a'];exact congrArg some e
theorem wG.look(I:wG h x dx C mA):∃od,PySem.W.InstAt h x (PySem.W.instObj C dx) C (some od)/\∀name,PySem.W.lookIn name od=some (mA name):=
 let ⟨od,ho,hl⟩:=zE I.ns
 ⟨od,⟨I.obj,rfl,rfl,ho⟩,hl⟩
section
variable {prog:Program} {w:World} {A:Around} {E:Value->Shared->Prop} {s:Shared} {K:PySem.W.Frag} {x dx C f:Addr} {mA:Str->Option Value} {name:Str} {v:Value}
theorem Eg(X:K.In s.heap)(I:wG s.heap x dx C mA)(hg:PySem.W.plainGet K C name=true)(hh:PySem.W.hasDictIn K C=true)(ha:PySem.W.findIn K (.ref C) name=some none)(hv:mA name=some v)(zF:PySem.W.handedIn v=true)(h:Q v { s with toks:=s.toks+1 }):
  wpAny (model prog w) A (getAttr (.ref x) name Eh) Q E s:=by
 obtain⟨od,J,hl⟩:=I.look;exact PySem.W.get_value X J (vV hg).1 (PySem.W.findObj_own hh ha rfl (by rw[hl,hv])) zF h
theorem Bw(X:K.In s.heap)(I:wG s.heap x dx C mA)(hg:PySem.W.plainGet K C name=true)(hf:PySem.W.findIn K (.ref C) name=some (some (.ref f)))(ht:PySem.W.isFn K (.ref f)=true)(hv:mA name=none)(h:Q (.ref f,[.ref x]) s):
  wpAny (model prog w) A (getMethod (.ref x) name pl) Q E s:=by
 obtain⟨od,J,hl⟩:=I.look;exact PySem.W.method_fn X J (vV hg).1 (vV hg).2 hf (d5.mp ht) (by show (PySem.W.lookIn name od).map (·.isSome)=some false;rw[hl,hv];rfl) h
theorem Ei(X:K.In s.heap)(I:wG s.heap x dx C mA)(hs:PySem.W.findIn K (.ref C) "__setattr__"=some (some (.builtin "object.__setattr__")))(hp:PySem.W.plainOver K C=true)(ht:PySem.W.takerIn K C name=some none)(hh:PySem.W.hasDictIn K C=true)(hw:PySem.Within mA ns)(hsz:ns.length<=sizeLine)(h:∀h',wG h' x dx C (fun y=>if y=name then some v else mA y)->Heap.SameBut dx s.heap h'->Q () { s with heap:=h',toks:=s.toks+2 }):
  wpAny (model prog w) A (setAttr (.ref x) name v) Q E s:=by
 obtain⟨od,J,hl⟩:=I.look;refine PySem.W.set_plain X J hs (PySem.W.osa_open (s:={ s with toks:=s.toks+1 }) (r:=none) X J hp ht fun b=>?_);obtain⟨cd,hc,Lu⟩:=PySem.W.any_some hh;have hx:s.heap.get? x=some ⟨.ref C,some dx,.plain,#[]⟩:=I.obj;refine aS (wpAny_pure (aS (aS (wpAny_loadPart hx (aS (PySem.W.Looks.here (s:={ s with toks:=s.toks+1 }) (PySem.W.looks_clsIn X hc) ?_))))));rw[Lu];refine wpAny_pure (a:=some dx) (aS (wpAny_pure (aS ?_)));refine wpAny_nsSet1 (s:={ s with toks:=s.toks+1 }) I.ns fun h' KJ t3=>?_;obtain⟨oD,esD,epD,Xc,LX,Ej⟩:=KJ.count (PySem.Within.cons name v hw);refine aS (wpAny_lookBehind Xc (by rw[LX];exact pastItsLine_dict (a7 Ej (by rw[dk];lia))) ?_);exact wpAny_pure (h _ ⟨(t3.2 _ (gv I.ne)).trans I.obj,KJ,I.ne⟩ t3)
theorem Bx(X:K.In s.heap)(hm:PySem.W.makesIn K C=true)(hi:PySem.W.findIn K (.ref C) "__init__"=some (some (.ref f)))(hf:PySem.W.typeIn K (.ref f)=some (.type "function"))(h:codeAny (model prog w) (A.under (.builtin "type.__call__" ⟨.ref C::vs,kw⟩)) (.call (.ref f) ⟨.ref (s.heap.objs.size+1)::vs,kw⟩) (PySem.W.InitBack (s.heap.objs.size+1) R)
   { s with heap:=(s.heap.push PySem.W.emptyDict).push (PySem.W.instObj C s.heap.objs.size) }):
  codeAny (model prog w) A (.call (.ref C) ⟨vs,kw⟩) R s:=by
 obtain⟨hh,g,d,t,os⟩:=s;exact PySem.W.make_core (PySem.W.makes_of X hm) (PySem.W.looks_findIn X hi) (fun self=>PySem.W.bind_fn X self hf) (.inl rfl) h
end
def cN(f:Str)(v:V):List (Str×V)->List (Str×V)
 |[]=>[(f,v)]
 |(g,x)::r=>if g=f then (g,v)::r else (g,x)::cN f v r
theorem bz(f g:Str)(v:V):∀fs:List (Str×V),(cN f v fs).lookup g=if g=f then some v else fs.lookup g
 |[]=>by
  show List.lookup g [(f,v)]=_;by_cases h:g=f
  .have hb:(g==f)=true:=d5.mpr h;simp only[List.lookup,hb,ap h]
  .have hb:(g==f)=false:=jD.mpr h;simp only[List.lookup,hb,ak h]
 |(k,x)::r=>by
  have ih:=bz f g v r;rw[show cN f v ((k,x)::r)=(if k=f then (k,v)::r else (k,x)::cN f v r) from rfl];by_cases hk:k=f
  .rw[ap hk];by_cases h:g=k
   .have hb:(g==k)=true:=d5.mpr h;simp only[List.lookup,hb,ap (h.trans hk)]
   .have hb:(g==k)=false:=jD.mpr h;simp only[List.lookup,hb,ak (fun e:g=f=>h (e.trans hk.symm))]
  .rw[ak hk];by_cases h:g=k
   .have hb:(g==k)=true:=d5.mpr h;simp only[List.lookup,hb,ak (fun e:g=f=>hk (h.symm.trans e))]
   .have hb:(g==k)=false:=jD.mpr h;simp only[List.lookup,hb];exact ih
theorem lz(f:Str)(v:V):∀fs:List (Str×V),f∈(cN f v fs).map (·.1)/\∀g,g∈fs.map (·.1)->g∈(cN f v fs).map (·.1)
 |[]=>⟨by simp[cN],fun g h=>by simp at h⟩
 |(k,x)::r=>by
  obtain⟨i1,i2⟩:=lz f v r;rw[show cN f v ((k,x)::r)=(if k=f then (k,v)::r else (k,x)::cN f v r) from rfl];by_cases hk:k=f
  .rw[ap hk];subst hk;exact⟨by simp,fun g h=>by simpa using h⟩
  .rw[ak hk];refine⟨?_,fun g h=>?_⟩
   .rw[cS];exact b9 _ i1
   .rw[cS] at h |-;rcases cn.mp h with e|e
    .exact cn.mpr (.inl e)
    .exact b9 _ (i2 g e)
theorem dw(f:Str)(v:V):∀fs:List (Str×V),(cN f v fs).length<=fs.length+1
 |[]=>by simp[cN]
 |(k,x)::r=>by
  have ih:=dw f v r;rw[show cN f v ((k,x)::r)=(if k=f then (k,v)::r else (k,x)::cN f v r) from rfl];by_cases hk:k=f
  .rw[ap hk,dk,dk];lia
  .rw[ak hk,dk,dk];lia
theorem jj.some_of(r:jj (some v) o):∃u,o=some u/\bi v u:=by
 cases o with
 |none=>exact(show False from r).elim
 |some u=>exact⟨u,rfl,r⟩
theorem jj.none_of(r:jj none o):o=none:=by
 cases o with
 |none=>rfl
 |some u=>exact(show False from r).elim
theorem zG(r:bi v u):PySem.W.handedIn u=true:=by
 cases v with
 |bw=>cases (show u=Value.none from r);rfl
 |bl b=>cases (show u=Value.bool b from r);rfl
 |int i=>obtain⟨t,e⟩:=(show ∃t,u=Value.int i t from r);cases e;rfl
 |str x=>obtain⟨t,e⟩:=(show ∃t,u=Value.str x t from r);cases e;rfl
 |zw b=>obtain⟨t,e⟩:=(show ∃t,u=Value.bytes b t from r);cases e;rfl
 |GC b=>obtain⟨t,e⟩:=(show ∃t,u=Value.float b t from r);cases e;rfl
 |ref a=>cases (show u=Value.ref a from r);rfl
 |ty n=>cases (show u=Value.type n from r);rfl
section
variable {P:Program} {w:World} {H H':Hp} {h h':Heap} {a C dx:Addr} {fs W7:List (Str×V)}
theorem mS(ck:jv P w H h)(e:H a=some (.ins C dx fs)):∃mA,wG h a dx C mA/\(∀f,jj (fs.lookup f) (mA f))/\PySem.Within mA (fs.map (·.1))/\fs.length<=1000/\H dx=some (.own a):=by
 obtain⟨d,z,ne,ob,mA,n,r,q⟩:=(show bU P w H h a (.ins C dx fs) from ck a _ e)
 exact⟨mA,⟨ob,n,ne⟩,r,q,z,d⟩
end
structure DS(K:PySem.W.Frag)(C:Addr):Prop where
 pg:PySem.W.plainGet K C Str.empty=true
 hd:PySem.W.hasDictIn K C=true
 po:PySem.W.plainOver K C=true
 sa:PySem.W.findIn K (.ref C) "__setattr__"=some (some (.builtin "object.__setattr__"))
theorem DS.get{K:PySem.W.Frag}{C:Addr}(c:DS K C)(f:Str):PySem.W.plainGet K C f=true:=c.pg
def gx(K:PySem.W.Frag)(C:Addr)(f:Str):Prop:=PySem.W.findIn K (.ref C) f=some none
theorem gx.LY{K:PySem.W.Frag}{C:Addr}{f:Str}(n:gx K C f):PySem.W.takerIn K C f=some none:=by
 unfold PySem.W.takerIn;rw[show PySem.W.findIn K (.ref C) f=some none from n];rfl
structure Ie(K:PySem.W.Frag)(C:Addr)(m:Str)(f:Addr):Prop where
 at_:PySem.W.findIn K (.ref C) m=some (some (.ref f))
 fn:PySem.W.isFn K (.ref f)=true
 kp:PySem.W.keepIn K (.ref f)=true
section
variable {X:Cx} {ae:List (Addr×Obj)} {σ:St} {H:Hp} {s:Shared} {a C dx:Addr} {fs:List (Str×V)} {f:Str} {v:V} {A:Around} {E:Value->Shared->Prop}
theorem wH(I:aM X ae σ H s)(e:H a=some (.ins C dx fs))(c:DS X.K C)(n:gx X.K C f)(l:fs.lookup f=some v)(h:∀u s',aM X ae σ H s'->bi v u->Q u s'):wpAny (model X.prog X.w) A (getAttr (.ref a) f b) Q E s:=by
 obtain⟨mA,O,r,_,_,_⟩:=mS I.ck e;obtain⟨u,hu,ru⟩:=jj.some_of (v:=v) (o:=mA f) (by rw[<-l];exact r f);exact Eg I.mB O (c.get f) c.hd n hu (zG ru) (h u _ (I.tok _) ru)
theorem wI(I:aM X ae σ H s)(e:H a=some (.ins C dx fs))(c:DS X.K C)(k:Ie X.K C m g)(l:fs.lookup m=none)(h:Q (.ref g,[.ref a]) s):wpAny (model X.prog X.w) A (getMethod (.ref a) m pl) Q E s:=by
 obtain⟨mA,O,r,_,_,_⟩:=mS I.ck e;have hn:mA m=none:=jj.none_of (by rw[<-l];exact r m);exact Bw I.mB O (c.get m) k.at_ k.fn hn h
theorem wJ(I:aM X ae σ H s)(e:H a=some (.ins C dx fs))(c:DS X.K C)(n:gx X.K C f)(hl:fs.length<1000)(ry:bi y u)(h:∀s',aM X ae σ (upd H a (.ins C dx (cN f y fs))) s'->Q () s'):wpAny (model X.prog X.w) A (setAttr (.ref a) f u) Q E s:=by
 obtain⟨mA,O,r,wi,_,ho⟩:=mS I.ck e;have hz:(fs.map (·.1)).length<=sizeLine:=by rw[aB,iL];lia
 refine Ei I.mB O c.sa c.po n.LY c.hd wi hz fun h' O' sb=>h _ ?_;have hd:∃o,h'.get? dx=some o:=let ⟨o,_,_,e',_⟩:=O'.ns;⟨o,e'⟩;refine I.write (x:=a) (e:=dx) (by rw[e];exact True.intro) (.inr ho) (fun b q hb z=>(sb.2 b hb).trans z) hd ?_;refine⟨by rw[am O.ne];exact ho,?_,O.ne,O'.obj,_,O'.ns,fun g=>?_,fun g hg=>?_⟩
 .have:=dw f y fs;lia
 .show jj ((cN f y fs).lookup g) (if g=f then some u else mA g);rw[bz];by_cases q:g=f
  .rw[ap q,ap q];exact ry
  .rw[ak q,ak q];exact r g
 .by_cases q:g=f
  .rw[q];exact(lz f y fs).1
  .refine(lz f y fs).2 g (wi g fun z=>hg ?_);show (if g=f then some u else mA g)=none;rw[ak q];exact z
theorem aM.made(I:aM X ae σ H s):aM X ae σ (upd (upd H s.heap.objs.size (.own (s.heap.objs.size+1))) (s.heap.objs.size+1) (.ins C s.heap.objs.size []))
  { s with heap:=(s.heap.push PySem.W.emptyDict).push (PySem.W.instObj C s.heap.objs.size) }:=by
 have e1:(s.heap.push PySem.W.emptyDict).get? s.heap.objs.size=some PySem.W.emptyDict:=dG s.heap rfl;have e2:((s.heap.push PySem.W.emptyDict).push (PySem.W.instObj C s.heap.objs.size)).get? (s.heap.objs.size+1)=some (PySem.W.instObj C s.heap.objs.size):=by
  have:=dG (s.heap.push PySem.W.emptyDict) (o:=PySem.W.instObj C s.heap.objs.size) rfl;rwa [jL] at this
 have e3:(s.heap.push PySem.W.emptyDict).Ns s.heap.objs.size (fun _=>none):=⟨PySem.W.emptyDict,#[],_,e1,rfl,(fun e he=>absurd he (by simp)),fun _=>rfl⟩
 have I1:=I.laid (a:=s.heap.objs.size) (o:=.own (s.heap.objs.size+1)) (h':=s.heap.push PySem.W.emptyDict) (t':=s.toks) (fun b u q=>cw _ q) (a8 _) ⟨_,e1⟩;refine I1.laid (a:=s.heap.objs.size+1) (o:=.ins C s.heap.objs.size []) (t':=s.toks) (fun b u q=>cw _ q) (nZ (jL _ _)) ?_;have ne:s.heap.objs.size≠s.heap.objs.size+1:=aZ (ki _);refine⟨by rw[am ne,ab],c_ _,ne,e2,fun _=>none,(Heap.Ns1.of_empty e3).at fun o q=>cw _ q,fun _=>True.intro,fun y hy=>absurd rfl hy⟩
theorem Ek(hb:attributeBase e f env (eval e env)=eval e env)(h:wpAny (model prog w) A (eval e env) (fun o s₁=>wpAny (model prog w) A (getAttr o f true) Q E s₁) E s):wpAny (model prog w) A (eval (.Attribute e f pos) env) Q E s:=
 Attribute_any_ h (by rw[arm_eval_Attribute,hb])
end
def LZ(K:PySem.W.Frag)(ta:TE)(f:Str):TE:=fun σ H Q=>ta σ H fun x H1=>∃a C dx fs v,x=.ref a/\H1 a=some (.ins C dx fs)/\DS K C/\gx K C f/\fs.lookup f=some v/\Q v H1
def Q6(K:PySem.W.Frag)(ta tv:TE)(f:Str):TS:=fun D σ H=>tv σ H fun y H1=>ta σ H1 fun x H2=>∃a C dx fs,x=.ref a/\H2 a=some (.ins C dx fs)/\DS K C/\gx K C f/\fs.length<1000/\
 D.nx σ (upd H2 a (.ins C dx (cN f y fs)))
section
variable {X:Cx} {o e value:Expr} {f:Str} {pos mC Q7:Pos} {ta tv:TE}
theorem rX(he:PE X e ta)(hb:attributeBase e f X.env (eval e X.env)=eval e X.env):PE X (.Attribute e f pos) (LZ X.K ta f):=by
 intro ae s σ H Q I h;refine Ek hb (cs (he ae s σ H _ I h) fun u s1 ⟨x,H1,I1,rx,a,C,dx,fs,v,ex,ea,c,n,l,q⟩=>?_);subst ex;obtain rfl:u=Value.ref a:=rx;exact wH I1 ea c n l fun u' s2 I2 ru=>⟨v,H1,I2,ru,q⟩
theorem rY(ha:PE X o ta)(hv:PE X value tv)(hs:swapsWith value (some (.Attribute o f mC)) pos.line X.env=pure false):PS X (.Assign [.Attribute o f mC] value pos) (Q6 X.K ta tv f):=by
 intro ae s σ H D I h;refine plainObj_wpAny_Assign_Attribute (cs (hv ae s σ H _ I h) fun u s1 ⟨y,H1,I1,ry,q⟩=>cs (ha ae s1 σ H1 _ I1 q) fun ov s2 ⟨x,H2,I2,rx,a,C,dx,fs,ex,ea,c,n,l,q2⟩=>?_) hs;subst ex;obtain rfl:ov=Value.ref a:=rx;exact wJ I2 ea c n l ry fun s3 I3=>⟨σ,_,I3,q2⟩
end
section
variable {X:Cx} {ae:List (Addr×Obj)} {σ:St} {H:Hp} {s:Shared} {A:Around} {E:Value->Shared->Prop} {Q:Value->Shared->Prop} {c:Value} {b:Bool}
inductive lB (K:PySem.W.Frag) (H:Hp):V->Value->Prop where
 |bw:lB K H .bw (.type "NoneType")
 |bl (x:Bool):lB K H (.bl x) (.type "bool")
 |int (i:Int):lB K H (.int i) (.type "int")
 |str (x:Str):lB K H (.str x) (.type "str")
 |GC (x:UInt64):lB K H (.GC x) (.type "float")
 |lst {a:Addr} {xs:List V} (e:H a=some (.lst xs)):lB K H (.ref a) (.type "list")
 |tZ {a:Addr} {o:Obj} {xs:List V} (e:H a=some (.tZ o (.lst xs))):lB K H (.ref a) (.type "list")
 |tup {a:Addr} {xs:List V} (e:H a=some (.tup xs)):lB K H (.ref a) (.type "tuple")
 |dK {a:Addr} {be:List (fv×V)} (e:H a=some (.dK be)):lB K H (.ref a) (.type "dict")
 |dT {a:Addr} {be:List (List fv×V)} (e:H a=some (.dT be)):lB K H (.ref a) (.type "dict")
 |ins {a C dx:Addr} {fs:List (Str×V)} (e:H a=some (.ins C dx fs)) (cl:DS K C) (ha:PySem.W.findIn K (.ref C) "__class__"=some (some (.builtin "object.__class__")))
   (hn:PySem.W.specialIn K (.builtin "object.__class__") "__get__"=some (some (.builtin "getset_descriptor.__get__"))) (Q8:PySem.W.takesIn K (.builtin "object.__class__")=some true)
   (hm:PySem.W.mroIn K C (.type "object")=some true):lB K H (.ref a) (.ref C)
theorem zH(I:aM X ae σ H s)(rx:bi x u)(ty:lB X.K H x t)(e:PySem.W.kitOne X.K t c=some b)(h:∀tk,Q (.bool b) { s with toks:=tk }):
  wpAny (model X.prog X.w) A (call (.builtin "isinstance") [u,c]) Q E s:=by
 cases ty with
 |bw=>cases (show u=Value.none from rx);exact ip PySem.W.kitx_none I.mB True.intro e (fun z=>nomatch z) h
 |bl y=>cases (show u=Value.bool y from rx);exact ip PySem.W.kitx_bool I.mB True.intro e (fun z=>nomatch z) h
 |int i=>obtain⟨t,q⟩:=(show ∃t,u=Value.int i t from rx);cases q;exact ip PySem.W.kitx_int I.mB True.intro e (fun z=>nomatch z) h
 |str y=>obtain⟨t,q⟩:=(show ∃t,u=Value.str y t from rx);cases q;exact ip PySem.W.kitx_str I.mB True.intro e (fun z=>nomatch z) h
 |GC y=>obtain⟨t,q⟩:=(show ∃t,u=Value.float y t from rx);cases q;exact ip PySem.W.kitx_float I.mB True.intro e (fun z=>nomatch z) h
 |@lst a xs ea=>
  cases (show u=Value.ref a from rx);obtain⟨_,_,n,_,h1⟩:=(show bU X.prog X.w H s.heap a (.lst xs) from I.ck a _ ea)
  exact ip PySem.W.kitx_list I.mB ⟨_,h1,rfl⟩ e (fun z=>nomatch z) h
 |@tZ a ob xs ea=>
  cases (show u=Value.ref a from rx);obtain⟨_,_,_,n,_,h1⟩:=(show bU X.prog X.w H s.heap a (.tZ ob (.lst xs)) from I.ck a _ ea)
  exact ip PySem.W.kitx_list I.mB ⟨_,h1,rfl⟩ e (fun z=>nomatch z) h
 |@tup a xs ea=>
  cases (show u=Value.ref a from rx);obtain⟨_,_,_,p⟩:=(show bU X.prog X.w H s.heap a (.tup xs) from I.ck a _ ea)
  obtain⟨o,h1,h2,_⟩:=p;exact ip PySem.W.kitx_tuple I.mB ⟨o,h1,h2⟩ e (fun z=>nomatch z) h
 |@dK a be ea=>
  cases (show u=Value.ref a from rx);obtain⟨_,_,vs,_,p⟩:=(show bU X.prog X.w H s.heap a (.dK be) from I.ck a _ ea)
  obtain⟨o,es,ep,h1,h2,_⟩:=p;exact ip PySem.W.kitx_dict I.mB ⟨o,h1,h2.1⟩ e (fun z=>nomatch z) h
 |@dT a be ea=>
  cases (show u=Value.ref a from rx);obtain⟨_,_,xs,_,o,es,ep,h1,h2,_⟩:=(show bU X.prog X.w H s.heap a (.dT be) from I.ck a _ ea)
  exact ip PySem.W.kitx_dict I.mB ⟨o,h1,h2.1⟩ e (fun z=>nomatch z) h
 |@ins a C dx fs ea cl ha hn Q8 hm=>
  cases (show u=Value.ref a from rx);obtain⟨mA,O,_⟩:=mS I.ck ea;obtain⟨od,J,_⟩:=O.look;exact ip (PySem.W.kitx_own (cl.get _) cl.hd ha hn Q8 hm) I.mB J e (fun z=>nomatch z) h
end
structure cI(k:Nat)(A:Around):Prop where
 hd:A.handled=none
 dp:A.depth+3*k+5<recursionLimit
 un:A.units+16*k+200<cLine
 gd:A.guards=some []
theorem cI.mono(r:cI k A)(h:j<=k):cI j A:=⟨r.hd,by have:=r.dp;lia,by have:=r.un;lia,r.gd⟩
theorem cI.deeper(r:cI (k+1) A)(env:Env):cI k (A.deeper env):=
 ⟨r.hd,by have:=r.dp;show A.depth+1+3*k+5<_;lia,by have:=r.un;show A.units+3+16*k+200<_;lia,r.gd⟩
theorem wK{A:Around}{C:Addr}{us:List Value}{kw:List (Str×Value)}:(A.under (.builtin "type.__call__" ⟨.ref C::us,kw⟩)).depth=A.depth+1:=by
 first|rfl|simp[Around.under,Code.weight,Code.isCreation,Code.isGuard,Code.isCaller,Code.frames,Code.isFrame,guardIds]
theorem wL{A:Around}{C:Addr}{us:List Value}{kw:List (Str×Value)}:(A.under (.builtin "type.__call__" ⟨.ref C::us,kw⟩)).units=A.units+1:=by
 first|rfl|simp[Around.under,Code.cUnits,Code.frames,Code.isFrame]
theorem cI.make(r:cI (k+1) A)(C:Addr)(us:List Value)(kw:List (Str×Value)):cI k (A.under (.builtin "type.__call__" ⟨.ref C::us,kw⟩)):=
 ⟨r.hd,by have:=r.dp;rw[wK];lia,by have:=r.un;rw[wL];lia,r.gd⟩
theorem cI.depth(r:cI k A):A.depth<recursionLimit:=by have:=r.dp;lia
theorem cI.u(r:cI k A)(h:n<=200:=by decide):A.units+n<cLine:=by have:=r.un;lia
def eO:TA:=fun _ H Q=>Q [] H
def bq(ta:TE)(tr:TA):TA:=fun σ H Q=>ta σ H fun x H1=>tr σ H1 fun xs H2=>Q (x::xs) H2
section
variable {X:Cx} {e:Expr} {es:List Expr} {te:TE} {t:TA} {pos:Pos}
theorem af:PA X [] eO:=fun _ _ _ _ H Q I h=>Calls.spliced_nil ⟨[],H,I,.nil,h⟩
theorem aa(ha:PE X e te)(hr:PA X es t)(hs:starEach (e::es) X.env=(false,eval e X.env)::starEach es X.env:=by rfl):PA X (e::es) (bq te t):=by
 intro pos ae s σ H Q I h;rw[hs];show wpAny _ _ (spliced ((false,eval e X.env)::backTo pos (starEach es X.env))) _ _ s;refine Calls.spliced_cons (cs (ha ae s σ H _ I h) fun u s1 ⟨x,H1,I1,r1,q1⟩=>?_);exact cs (hr pos ae s1 σ H1 _ I1 q1) fun us s2 ⟨xs,H2,I2,r2,q2⟩=>⟨x::xs,H2,I2,.cons r1 r2,q2⟩
def pA(t:TA):TE:=fun σ H Q=>t σ H fun xs H1=>xs.length<=sizeLine/\∀p,H1 p=none->Q (.ref p) (upd H1 p (.tup xs))
def Q9(t:TA):TE:=fun σ H Q=>t σ H fun xs H1=>xs.length<=sizeLine/\∀p,H1 p=none->Q (.ref p) (upd H1 p (.lst xs))
theorem cp{x1}(h:PA X es t):PE X (.Tuple es x1 pos) (pA t):=by
 intro ae s σ H Q I hq;refine wpAny_Tuple_spliced (cs (h pos ae s σ H _ I hq) fun us s1 ⟨xs,H1,I1,r,z,q⟩=>⟨by rw[<-r.length];exact z,?_⟩);have hf:H1 s1.heap.objs.size=none:=I1.ck.fresh (a8 _);refine⟨.ref s1.heap.objs.size,upd H1 s1.heap.objs.size (.tup xs),I1.laid (t':=s1.toks) (fun b u e=>cw _ e) (a8 _) ?_,rfl,q _ hf⟩;exact⟨z,us,r,⟨_,dG _ rfl,rfl,_,rfl,rfl⟩⟩
theorem bJ(h:PA X es t):PE X (.List es pos) (Q9 t):=by
 intro ae s σ H Q I hq;refine wpAny_List_spliced (cs (h pos ae s σ H _ I hq) fun us s1 ⟨xs,H1,I1,r,z,q⟩=>⟨by rw[<-r.length];exact z,?_⟩);have hf:H1 s1.heap.objs.size=none:=I1.ck.fresh (a8 _);refine⟨.ref s1.heap.objs.size,upd H1 s1.heap.objs.size (.lst xs),I1.laid (t':=s1.toks) (fun b u e=>cw _ e) (a8 _) ?_,rfl,q _ hf⟩;exact⟨z,us,0,r,dG _ rfl⟩
end
abbrev Sp:=List V->Hp->VK->XK->Prop
abbrev uk:=List Env->Hp->Shared->XK->Value->Shared->Prop
structure wM(P:Program)(w:World)(K:PySem.W.Frag)(mg:Str->Option Value)(base:Heap)(A:Around)(outer:List Env)(s:Shared)(H:Hp):Prop where
 frames:A.frames=some outer
 mod:Mod K mg base
 bs:∀b o,base.get? b=some o->s.heap.get? b=some o/\H b=none
 DP:base.objs.size<=s.heap.objs.size
 mz:s.heap.FunFrames base outer
 HI:∀b∈AH outer,H b=none
 ck:jv P w H s.heap
 bare:AllBare s.gens
def CE(outer:List Env)(P:Program)(w:World)(H:Hp)(s:Shared)(Q:VK)(u:Value)(s':Shared):Prop:=
 ∃v H',s'.os=s.os/\AllBare s'.gens/\Un (AH outer) [] H H' s.heap s'.heap/\jv P w H' s'.heap/\bi v u/\Q v H'
def CR(CX:uk)(outer:List Env)(P:Program)(w:World)(H:Hp)(s:Shared)(Q:VK)(E:XK)(r:Result)(s':Shared):Prop:=
 match r with
 |.ok (.ret u)=>CE outer P w H s Q u s'
 |.ok _=>False
 |.error e=>CX outer H s E e s'
structure bv(P:Program)(w:World)(K:PySem.W.Frag)(mg:Str->Option Value)(base:Heap)(CX:uk)(k:Nat)(f:Addr)(fd:FuncData)(ps:List Str)(sp:Sp):Prop where
 len:∀vs H Q E,sp vs H Q E->vs.length=ps.length
 run:∀ (A:Around) (outer:List Env) (s:Shared) (H:Hp) (args:Args) (us:List Value) (vs:List V) (Q:VK) (E:XK),cI k A->wM P w K mg base A outer s H->BindsTo s fd args (ps.zip us)->aX vs us->sp vs H Q E->
  codeAny (model P w) A (.call (.ref f) args) (CR CX outer P w H s Q E) s
theorem bv.imp{P:Program}{w:World}{K:PySem.W.Frag}{mg:Str->Option Value}{base:Heap}{CX:uk}{k:Nat}{f:Addr}{fd:FuncData}{ps:List Str}{sp Va:Sp}(F:bv P w K mg base CX k f fd ps sp)(h:∀vs H Q E,Va vs H Q E->sp vs H Q E):bv P w K mg base CX k f fd ps Va:=
 ⟨fun vs H Q E q=>F.len vs H Q E (h _ _ _ _ q),fun A outer s H args us vs Q E hr he hb hv hs=>F.run A outer s H args us vs Q E hr he hb hv (h _ _ _ _ hs)⟩
theorem wM.make{P:Program}{w:World}{K:PySem.W.Frag}{mg:Str->Option Value}{base:Heap}{A:Around}{outer:List Env}{s:Shared}{H:Hp}(e:wM P w K mg base A outer s H)(C:Addr)(us:List Value)(kw:List (Str×Value)):
  wM P w K mg base (A.under (.builtin "type.__call__" ⟨.ref C::us,kw⟩)) outer s H:=⟨by first|exact e.frames|(simpa [Around.under,Code.envs,Code.isFrame,pushEnvs] using e.frames),e.mod,e.bs,e.DP,e.mz,e.HI,e.ck,e.bare⟩
section
variable {X:Cx} {ae:List (Addr×Obj)} {σ:St} {H:Hp} {s s':Shared}
theorem aM.L3(I:aM X ae σ H s):wM X.prog X.w X.K X.mg X.base X.A X.stack s H:=
 ⟨I.ok.frames,I.ok.mod,I.bs,a7 I.ok.DP I.sz,I.stack,I.xS,I.ck,I.bare⟩
theorem aM.after(I:aM X ae σ H s)(h:CE X.stack X.prog X.w H s Q u s'):EP X ae σ Q u s':=by
 obtain⟨v,H',os,bare,un,ck,r,q⟩:=h;obtain⟨hh,g,d,t,Xd⟩:=s';obtain rfl:Xd=s.os:=os;exact⟨v,H',I.call (h':=hh) (g':=g) (d':=d) (t':=t) (ch:=[]) un ck bare (fun b z=>absurd z (by simp)),r,q⟩
end
def jy(sp:Sp)(pB:List V)(E:XK)(t:TA):TE:=fun σ H Q=>t σ H fun vs H1=>sp (vs++pB) H1 Q E
def L6(C:Addr)(m:Str)(sp:Sp)(pB:List V)(E:XK)(ta:TE)(t:TA):TE:=fun σ H Q=>ta σ H fun x H1=>∃a dx fs,x=.ref a/\H1 a=some (.ins C dx fs)/\fs.lookup m=none/\
 t σ H1 fun vs H2=>sp (x::(vs++pB)) H2 Q E
def L7(C:Addr)(sp:Sp)(pB:List V)(E:XK)(t:TA):TE:=fun σ H Q=>t σ H fun vs H1=>∀x dx,H1 x=none->H1 dx=none->dx≠x->
 sp (.ref x::(vs++pB)) (upd (upd H1 dx (.own x)) x (.ins C dx [])) (fun v H2=>v=.bw/\Q (.ref x) H2) E
def iQ(K:PySem.W.Frag)(fd:FuncData)(ps:List Str)(ds:List Value):Prop:=
 ∀ (s:Shared) (us:List Value),K.In s.heap->(us++ds).length=ps.length->BindsTo s fd ⟨us,[]⟩ (ps.zip (us++ds))
theorem iQ.all{K:PySem.W.Frag}{fd:FuncData}{ps:List Str}(h:∀us:List Value,us.length=ps.length->bindArgs fd ⟨us,[]⟩=pure (ps.zip us)):iQ K fd ps []:=fun s us _ hl=>by
 rw[ju] at hl |-;exact .of_eq (h us hl)
def jU(CX:uk)(X:Cx)(E:XK):Prop:=∀ (ae:List (Addr×Obj)) (σ:St) (H:Hp) (s:Shared) (e:Value) (s':Shared),aM X ae σ H s->CX X.stack H s E e s'->X.xe e s'
section
variable {X:Cx} {CX:uk} {k:Nat} {f C:Addr} {fd:FuncData} {ps:List Str} {sp:Sp} {pB:List V} {ds:List Value} {E:XK} {x m:Str} {p pos rZ:Pos} {e o:Expr} {es:List Expr} {ta:TE} {t:TA}
theorem By(F:bv X.prog X.w X.K X.mg X.base CX k f fd ps sp)(hr:cI k X.A)(hb:iQ X.K fd ps ds)(hd:aX pB ds)(hx:jU CX X E)(I:aM X ae σ H s)(r:aX vs us)(h:sp (vs++pB) H Q E):wpAny (model X.prog X.w) X.A (call (.ref f) us) (EP X ae σ Q) X.xe s:=by
 have r2:aX (vs++pB) (us++ds):=r.append hd;have hl:(us++ds).length=ps.length:=by rw[<-r2.length];exact F.len _ _ _ _ h
 refine wpAny_call (lh (F.run X.A X.stack s H ⟨us,[]⟩ (us++ds) (vs++pB) Q E hr I.L3 (hb s us I.mB hl) r2 h) fun r s' hq=>?_);cases r with
 |error e=>exact hx ae σ H s e s' I hq
 |ok fl=>
  cases fl with
  |ret u=>exact I.after hq
  |next=>exact False.elim hq
  |brk=>exact False.elim hq
  |cont=>exact False.elim hq
theorem El(F:bv X.prog X.w X.K X.mg X.base CX k f fd ps sp)(hr:cI k X.A)(hg:Gl X x)(hm:X.mg x=some (.ref f))(hk:PySem.W.keepIn X.K (.ref f)=true)(hb:iQ X.K fd ps ds)(hd:aX pB ds)(hx:jU CX X E)(ha:PA X (e::es) t)(Bz:(x==("__debug__":Str))=false:=by decide)(he:starEach (e::es) X.env=(false,eval e X.env)::starEach es X.env:=by rfl)(AK:(backTo pos (starEach es X.env)).any (·.1)=false:=by rfl):
  PE X (.Call (.Name x p) (e::es) [] pos) (jy sp pB E t):=by
 intro ae s σ H Q I h;refine nP (rO I hg hm ?_ Bz);refine v9 (h₀:=X.base) I.ok.mod.Ln hk (cs (ha pos ae s σ H _ I h) fun us s1 ⟨vs,H1,I1,r,q⟩=>⟨I1.mB,?_⟩) he AK;exact By F hr hb hd hx I1 r q
theorem mT(he:PE X o ta)(c:DS X.K C)(hm:Ie X.K C m f)(F:bv X.prog X.w X.K X.mg X.base CX k f fd ps sp)(hr:cI k X.A)(hb:iQ X.K fd ps ds)(hd:aX pB ds)(hx:jU CX X E)(ha:PA X (e::es) t)(jT:starEach (e::es) X.env=(false,eval e X.env)::starEach es X.env:=by rfl)(AK:(backTo pos (starEach es X.env)).any (·.1)=false:=by rfl)(ht:eval (.Call (.Attribute o m rZ) (e::es) [] pos) X.env=(do
   let ov <- eval o X.env
   standAt rZ.atName
   let (f,first) <- holding [ov] (getMethod ov m pl)
   callWith pos f first (backTo pos (starEach (e::es) X.env)) (backToKw pos (keywordEach [] X.env))):=by rfl):
  PE X (.Call (.Attribute o m rZ) (e::es) [] pos) (L6 C m sp pB E ta t):=by
 intro ae s σ H Q I h;refine PySem.W.methodCall_KW (pl:=pl) (cs (he ae s σ H _ I h) fun u s1 ⟨x,H1,I1,rx,a,dx,fs,ex,ea,l,q⟩=>?_) ht;subst ex;obtain rfl:u=Value.ref a:=rx;refine wI I1 ea c hm l ?_;refine v9 (first:=[.ref a]) (h₀:=X.base) I.ok.mod.Ln hm.kp (cs (ha pos ae s1 σ H1 _ I1 q) fun us s2 ⟨vs,H2,I2,r,q2⟩=>⟨I2.mB,?_⟩) jT AK;exact By (us:=.ref a::us) (vs:=.ref a::vs) F hr hb hd hx I2 (.cons rfl r) q2
structure Mk(K:PySem.W.Frag)(C f:Addr):Prop where
 makes:PySem.W.makesIn K C=true
 init:PySem.W.findIn K (.ref C) "__init__"=some (some (.ref f))
 fn:PySem.W.isFn K (.ref f)=true
 kp:PySem.W.keepIn K (.ref C)=true
theorem BA(M:Mk X.K C f)(F:bv X.prog X.w X.K X.mg X.base CX k f fd ps sp)(hr:cI (k+1) X.A)(hb:iQ X.K fd ps ds)(hd:aX pB ds)(hx:jU CX X E)(I:aM X ae σ H s)(r:aX vs us)(h:∀x dx,H x=none->H dx=none->dx≠x->sp (.ref x::(vs++pB)) (upd (upd H dx (.own x)) x (.ins C dx [])) (fun v H2=>v=.bw/\Q (.ref x) H2) E):
  wpAny (model X.prog X.w) X.A (call (.ref C) us) (EP X ae σ Q) X.xe s:=by
 have hq:=h (s.heap.objs.size+1) s.heap.objs.size (I.ck.fresh (rJ _)) (I.ck.fresh (a8 _)) (aZ (ki _));have I2:=aM.made (C:=C) I;have r2:aX (V.ref (s.heap.objs.size+1)::(vs++pB)) (Value.ref (s.heap.objs.size+1)::(us++ds)):=.cons rfl (r.append hd);have hl:(Value.ref (s.heap.objs.size+1)::us++ds).length=ps.length:=by
  have e:=r2.length;rw[F.len _ _ _ _ hq] at e;exact e.symm
 refine wpAny_call (Bx (f:=f) I.mB M.makes M.init (d5.mp M.fn) (lh (F.run _ X.stack _ _ ⟨Value.ref (s.heap.objs.size+1)::us,[]⟩ (Value.ref (s.heap.objs.size+1)::(us++ds)) _ _ E (hr.make C us [])
  (I2.L3.make C us []) (hb _ (Value.ref (s.heap.objs.size+1)::us) I2.mB hl) r2 hq) fun r s' Em=>?_))
 cases r with
 |error e=>exact hx ae σ _ _ e s' I2 Em
 |ok fl=>
  cases fl with
  |ret u=>
   obtain⟨v,H',I3,rv,ev,q3⟩:=I2.after Em;subst ev;exact⟨rv,⟨V.ref (s.heap.objs.size+1),H',I3,rfl,q3⟩⟩
  |next=>exact False.elim Em
  |brk=>exact False.elim Em
  |cont=>exact False.elim Em
theorem En(M:Mk X.K C f)(F:bv X.prog X.w X.K X.mg X.base CX k f fd ps sp)(hr:cI (k+1) X.A)(hg:Gl X x)(hm:X.mg x=some (.ref C))(hb:iQ X.K fd ps ds)(hd:aX pB ds)(hx:jU CX X E)(ha:PA X (e::es) t)(Bz:(x==("__debug__":Str))=false:=by decide)(he:starEach (e::es) X.env=(false,eval e X.env)::starEach es X.env:=by rfl)(AK:(backTo pos (starEach es X.env)).any (·.1)=false:=by rfl):
  PE X (.Call (.Name x p) (e::es) [] pos) (L7 C sp pB E t):=by
 intro ae s σ H Q I h;refine nP (rO I hg hm ?_ Bz);refine v9 (h₀:=X.base) I.ok.mod.Ln M.kp (cs (ha pos ae s σ H _ I h) fun us s1 ⟨vs,H1,I1,r,q⟩=>⟨I1.mB,?_⟩) he AK;exact BA M F hr hb hd hx I1 r q
end
def PK(X:Cx)(BB:List Keyword)(t:TA):Prop:=
 ∀ (pos:Pos) (ae:List (Addr×Obj)) (s:Shared) (σ:St) (H:Hp) (Q:List V->Hp->Prop),aM X ae σ H s->t σ H Q->wpAny (model X.prog X.w) X.A (evalAll ((backToKw pos (keywordEach BB X.env)).map (·.2))) (AP X ae σ Q) X.xe s
section
variable {X:Cx} {CX:uk} {k:Nat} {f C:Addr} {fd:FuncData} {ps ks:List Str} {sp:Sp} {E:XK} {x m:Str} {p pos rZ Q_:Pos} {e o:Expr} {es:List Expr} {BB:List Keyword} {te ta:TE} {t tk:TA} {nm:Option Str}
theorem Ig:PK X [] eO:=fun _ _ _ _ H Q I h=>wpAny_evalAll_nil ⟨[],H,I,.nil,h⟩
theorem Eo(ha:PE X e te)(hr:PK X BB t):PK X (⟨nm,e,Q_⟩::BB) (bq te t):=by
 intro pos ae s σ H Q I h;show wpAny _ _ (evalAll ((do let v <- eval e X.env;standAt pos;pure v)::(backToKw pos (keywordEach BB X.env)).map (·.2))) _ _ s;refine wpAny_evalAll_cons (aS (cs (ha ae s σ H _ I h) fun u s1 ⟨x,H1,I1,r1,q1⟩=>aS (jM (wpAny_pure ?_))));exact cs (hr pos ae s1 σ H1 _ I1 q1) fun us s2 ⟨xs,H2,I2,r2,q2⟩=>⟨x::xs,H2,I2,.cons r1 r2,q2⟩
variable {g:List Value->List Value->List Value} {gV:List V->List V->List V}
end
structure aH(N P:List Str)(sc:Scope):Prop where
 kind:sc.kind=.function
 co:sc.isCoroutine=false
 gen:sc.isGenerator=false
 nd:N.Nodup
 pre:N.take P.length=P
 par:∀x∈P,sc.names.lookup x=some .local\/sc.names.lookup x=some .cell
 Ih:∀y∈sc.names,y.2≠.free
theorem pX{kindOf:Str->Option NameKind}{x:Str}:∀ {binds:List (Str×Value)} {m:Str->Option Value},(∀v,(x,v)∉binds)->bindL kindOf binds m x=m x
 |[],_,_=>rfl
 |(n,v)::r,m,h=>by
  unfold bindL;rw[pX fun w hw=>h w (b9 _ hw)];split
  .have:x≠n:=by rintro rfl;exact h v cz
   simp[this]
  .rfl
theorem pY{kindOf:Str->Option NameKind}{x:Str}:∀ {binds:List (Str×Value)} {m:Str->Option Value},(∀v,(x,v)∉binds)->bindC kindOf binds m x=m x
 |[],_,_=>rfl
 |(n,v)::r,m,h=>by
  unfold bindC;rw[pY fun w hw=>h w (b9 _ hw)];split
  .rfl
  .have:x≠n:=by rintro rfl;exact h v cz
   simp[this]
theorem p9{kindOf:Str->Option NameKind}{x:Str}{v:Value}:∀ {P:List Str} {vs:List Value} {i:Nat} {m:Str->Option Value},P.Nodup->P[i]?=some x->vs[i]?=some v->kindOf x=some .local->
  bindL kindOf (P.zip vs) m x=some v
 |[],_,_,_,_,h,_,_=>by simp at h
 |_::_,[],_,_,_,_,h,_=>by simp at h
 |p::P,w::vs,0,m,nd,h1,h2,hk=>by
  simp at h1 h2;subst h1;subst h2;show bindL kindOf ((p,w)::P.zip vs) m p=_;unfold bindL;rw[pX fun v hv=>(cX.mp nd).1 (nU hv).1,ap hk];simp
 |p::P,w::vs,i+1,m,nd,h1,h2,hk=>by
  show bindL kindOf ((p,w)::P.zip vs) m x=_;unfold bindL;exact p9 (i:=i) (cX.mp nd).2 (by simpa using h1) (by simpa using h2) hk
theorem p_{kindOf:Str->Option NameKind}{x:Str}{v:Value}:∀ {P:List Str} {vs:List Value} {i:Nat} {m:Str->Option Value},P.Nodup->P[i]?=some x->vs[i]?=some v->kindOf x≠some .local->
  bindC kindOf (P.zip vs) m x=some v
 |[],_,_,_,_,h,_,_=>by simp at h
 |_::_,[],_,_,_,_,h,_=>by simp at h
 |p::P,w::vs,0,m,nd,h1,h2,hk=>by
  simp at h1 h2;subst h1;subst h2;show bindC kindOf ((p,w)::P.zip vs) m p=_;unfold bindC;rw[pY fun v hv=>(cX.mp nd).1 (nU hv).1,ak hk];simp
 |p::P,w::vs,i+1,m,nd,h1,h2,hk=>by
  show bindC kindOf ((p,w)::P.zip vs) m x=_;unfold bindC;exact p_ (i:=i) (cX.mp nd).2 (by simpa using h1) (by simpa using h2) hk
def start(N:List Str)(vs:List V):St:=vs.map some++List.replicate (N.length-vs.length) none
def r6(CX:uk)(P:Program)(w:World)(K:PySem.W.Frag)(mg:Str->Option Value)(base:Heap)(N:List Str)(qual:Str)(scope:Scope)(f:Addr)(cd:Value)(A:Around)(outer:List Env)(s:Shared)(H:Hp)(E:XK):Cx where
 prog:=P
 w:=w
 K:=K
 mg:=mg
 base:=base
 A:=A.deeper (envOfC qual scope s.heap.objs.size f cd)
 N:=N
 s₀:=s
 H₀:=H
 env:=envOfC qual scope s.heap.objs.size f cd
 outer:=outer
 stack:=envOfC qual scope s.heap.objs.size f cd::outer
 ex:=[]
 calm:=true
 fn:=fun _=>true
 pn:=[]
 xe:=fun e s'=>wpAny (model P w) (A.deeper (envOfC qual scope s.heap.objs.size f cd)) (leaving (envOfC qual scope s.heap.objs.size f cd) e) (fun _ L8=>CX outer H s E e L8) (fun e' L8=>CX outer H s E e' L8) s'
theorem ul{sc:Scope}{n:Nat}{x:Str}(h:sc.names.lookup x=some .cell):∃c,(cellsFrom n sc.names []).lookup x=some c:=by
 have q:=PySem.W.cellsFrom_some sc.names n [] (.inl h);exact qQ.mp q
theorem zI{CX:uk}{P:Program}{w:World}{K:PySem.W.Frag}{mg:Str->Option Value}{base:Heap}{N ps:List Str}{qual:Str}{scope:Scope}{f:Addr}{cd:Value}{A:Around}{outer:List Env}{s s1:Shared}{H:Hp}{E:XK}{us:List Value}{vs:List V}(S:aH N ps scope)(hd:A.handled=none)(e0:wM P w K mg base A outer s H)(hl:vs.length=ps.length)(r:aX vs us)(x:InCallC s s.heap.objs.size (bindL (envOfC qual scope s.heap.objs.size f cd).kindOf (ps.zip us) fun _=>none) (cellsFrom (s.heap.objs.size+1) scope.names []) (bindC (envOfC qual scope s.heap.objs.size f cd).kindOf (ps.zip us) fun _=>none) s1):
  aM (r6 CX P w K mg base N qual scope f cd A outer s H E) [] (start N vs) H s1:=by
 have AK:ps.length<=N.length:=by have:=congrArg List.length S.pre;rw[jH] at this;lia
 obtain⟨h1,tk,rfl,hk⟩:=x.done;have KL:∀b:Addr,b∉(r6 CX P w K mg base N qual scope f cd A outer s H E).ex:=fun b z=>absurd (show b∈([]:List Addr) from z) (by simp);refine⟨⟨e0.mod,S.kind,rfl,rfl,a8 _,fun y z c h1 h2=>?_,fun y hy=>?_,fun y c _ h=>?_,fun _=>hd,Around.frames_deeper e0.frames,.inr ⟨rfl,rfl⟩,fun b z=>absurd z (KL b),e0.bs,e0.DP,fun b _ _=>KL b,fun b z=>absurd z (KL b),e0.mz,e0.HI⟩,
  rfl,e0.bare,Un.kept hk,⟨_,x.toInCall.ns,fun i y v h1 h2 h3=>?_⟩,fun y c h=>⟨_,x.cell y c h⟩,e0.ck.fresh (a8 _),fun y c h=>?_,fun p hp=>absurd (show p∈([]:List (Addr×Obj)) from hp) (by simp),e0.ck.kept hk,?_⟩
 .exact name_of_addr x.apart (l8 h1) (l8 h2)
 .have hy:scope.names.lookup y=some .cell\/scope.names.lookup y=some .free:=hy;rcases hy with hy|hy
  .exact ul hy
  .exact absurd rfl (S.Ih _ (l8 hy))
 .exact iJ (x.above y c (l8 h))
 .have hi:i<vs.length:=by
   unfold start at h2;by_cases hi:i<vs.length
   .exact hi
   .rw[pP (by simpa using hi)] at h2;rw[vO] at h2;split at h2 <;> cases h2
  have ha:vs[i]?=some v:=by
   unfold start at h2;rw[kd (by simpa using hi),bO] at h2;cases e:vs[i]? with
   |none=>rw[e] at h2;cases h2
   |some a=>rw[e] at h2;cases h2;rfl
  obtain⟨u,hu,rv⟩:=r.get ha;have hp:ps[i]?=some y:=by
   rw[<-S.pre,List.getElem?_take_of_lt (by lia)];exact h1
  have Vb:ps.Nodup:=by rw[<-S.pre];exact S.nd.sublist (rb _ _)
  refine⟨u,rv,?_⟩;rcases S.par y (cE hp) with k|k
  .exact .inl ⟨k,p9 Vb hp hu k⟩
  .obtain⟨c,e⟩:=ul (n:=s.heap.objs.size+1) k;refine .inr ⟨.inl k,c,e,?_⟩;have q:=x.cell y c e;rw[p_ Vb hp hu (by show scope.names.lookup y≠_;rw[k];decide)] at q;exact q
 .exact e0.ck.fresh (iJ (x.above y c (l8 h)))
 .unfold start;show _=N.length;rw[bY,aB,ny];lia
theorem GO{CX:uk}{P:Program}{w:World}{K:PySem.W.Frag}{mg:Str->Option Value}{base:Heap}{k:Nat}{f:Addr}{name qual:Str}{params:Arguments}{body:List Stmt}{scope:Scope}{dV kV ky pm cT ct oc:Value}{an od:Option Addr}{vD:Array (Option Value)}{N ps:List Str}{sp:Sp}(lk:K.lookup f=some ⟨oc,od,.func (PySem.W.fnOf name qual params body scope dV kV ky pm an cT ct),vD⟩)(o5:PySem.W.codeIn K cT qual=true)(S:aH N ps scope)(len:∀vs H Q E,sp vs H Q E->vs.length=ps.length)(um:∀ (A:Around) (outer:List Env) (s:Shared) (H:Hp) (vs:List V) (Q:VK) (E:XK),cI k (A.deeper (envOfC qual scope s.heap.objs.size f cT))->sp vs H Q E->
   ∃t,wy (r6 CX P w K mg base N qual scope f cT A outer s H E) body t/\t { nx:=fun _ H'=>Q .bw H',rt:=Q } (start N vs) H):
  bv P w K mg base CX (k+1) f (PySem.W.fnOf name qual params body scope dV kV ky pm an cT ct) ps sp:=by
 refine⟨len,fun A outer s H args us vs Q E hr e0 hb r DT=>?_⟩;have hl:=len _ _ _ _ DT;have KX:K.In s.heap:=e0.mod.Ln.keeps fun b o e=>(e0.bs b o e).1;have lim:s.heap.NoLimit:=e0.mod.nolimit.keeps fun b o e=>(e0.bs b o e).1;have L9:∀y∈ps.zip us,scope.names.lookup y.1=some .local\/(scope.names.lookup y.1=some .cell/\((cellsFrom (s.heap.objs.size+1) scope.names []).lookup y.1).isSome=true):=fun ⟨n,v⟩ hy=>by
  rcases S.par n (nU hy).1 with q|q
  .exact .inl q
  .exact .inr ⟨q,PySem.W.cellsFrom_some _ _ _ (.inl q)⟩
 refine codeAny_call_function hr.depth (KX _ _ lk) rfl S.co S.gen rfl (PySem.W.codeRec_of KX o5) (hb _ _ _ _ ?_);refine wpAny_newFunctionEnv_cells S.kind L9 fun env he s1 x=>?_;subst he;refine⟨lim.keeps x.toInCall.keep,codeAny_func ?_⟩;obtain⟨t,ht,hq⟩:=um A outer s H vs Q E (hr.deeper _) DT;have I:aM (r6 CX P w K mg base N qual scope f cT A outer s H E) [] (start N vs) H s1:=zI S hr.hd e0 hl r x;refine g9 (ht [] s1 (start N vs) H _ I hq) (fun fl s' hs=>?_) fun e s' hs=>hs;have dN:∀ {σ':St} {H':Hp} {v:V} {u:Value},aM (r6 CX P w K mg base N qual scope f cT A outer s H E) [] σ' H' s'->bi v u->Q v H'->CE outer P w H s Q u s':=
  fun {σ' H' v u} J rv q=>⟨v,H',J.os,J.bare,J.base,J.ck,rv,q⟩
 cases fl with
 |ret u=>
  obtain⟨v,σ',H',J,rv,q⟩:=hs;exact dN J rv q
 |next=>
  obtain⟨σ',H',J,q⟩:=hs;exact dN (v:=V.bw) (u:=Value.none) J rfl q
 |brk=>
  obtain⟨_,_,_,q⟩:=hs;exact False.elim q
 |cont=>
  obtain⟨_,_,_,q⟩:=hs;exact False.elim q
section
variable {X:Cx} {x:Str} {p pos:Pos} {e:Expr} {es:List Expr} {t:TA} {id T:String} {r:List V->Hp->VK->Prop}
def L_(r:List V->Hp->VK->Prop)(t:TA):TE:=fun σ H Q=>t σ H fun vs H1=>r vs H1 Q
theorem az(hc:eM X (.builtin id) r)(hg:Gl X x)(hm:X.mg x=none)(hv:bootBuiltins x=some (.builtin id))(ha:PA X (e::es) t)(hn:x≠"__name__":=by decide)(Bz:(x==("__debug__":Str))=false:=by decide)(he:starEach (e::es) X.env=(false,eval e X.env)::starEach es X.env:=by rfl)(AK:(backTo pos (starEach es X.env)).any (·.1)=false:=by rfl):PE X (.Call (.Name x p) (e::es) [] pos) (L_ r t):=by
 intro ae s σ H Q I h;refine nP (lw I hg hm hv ?_ hn Bz);exact PyProof.Rows.callWith_builtin1 (cs (ha pos ae s σ H _ I h) fun us s1 ⟨vs,H1,I1,r1,q1⟩=>hc ae s1 σ H1 vs us Q I1 r1 q1) he AK
theorem bA(hc:eM X (.type T) r)(hg:Gl X x)(hm:X.mg x=none)(hv:bootBuiltins x=some (.type T))(ha:PA X (e::es) t)(hn:x≠"__name__":=by decide)(Bz:(x==("__debug__":Str))=false:=by decide)(he:starEach (e::es) X.env=(false,eval e X.env)::starEach es X.env:=by rfl)(AK:(backTo pos (starEach es X.env)).any (·.1)=false:=by rfl):PE X (.Call (.Name x p) (e::es) [] pos) (L_ r t):=by
 intro ae s σ H Q I h;refine nP (lw I hg hm hv ?_ hn Bz);exact vM (cs (ha pos ae s σ H _ I h) fun us s1 ⟨vs,H1,I1,r1,q1⟩=>hc ae s1 σ H1 vs us Q I1 r1 q1) he AK
end
end L2
namespace HT
open PySem PyProof.Rows
section
open PySem.SeqAt
open PySem.AutoSeq1 (wpAny_loadPart')
open PySem.MeetsSeq PySem.MeetsSeq2 PySem.MeetsSeq3
end
section
variable {prog:Program} {w:World} {A:Around} {E:Value->Shared->Prop} {s:Shared}
end
end HT
namespace L2
open PySem PySem.Spec PyProof.Rows
theorem wN{ns:List Int}:∀ {us:List Value},aX (ns.map V.int) us->IntsAre us ns:=by
 induction ns with
 |nil=>intro us r;rw[jN] at r;cases r;exact .nil
 |cons n ns ih=>
  intro us r;rw[cS] at r;cases r with
  |cons r1 r2=>
   obtain⟨t,e⟩:=r1;subst e;exact .cons n t (ih r2)
section
variable {X:Cx} {e:Expr} {te:TE} {lo hi:Option Expr} {tl th:TO} {pos p2:Pos}
end
def zJ(n:Nat)(i:Int):Option Nat:=if 0<=i then (if i<n then some i.toNat else none) else if -(n:Int)<=i then some (i+n).toNat else none
def oj{α:Type}(xs:List α)(i:Int):Option α:=(zJ xs.length i).bind fun j=>xs[j]?
theorem x5(h:zJ n i=some j):seqIndex? i n=some j/\j<n/\-(n:Int)<=i/\i<n:=by
 unfold zJ at h;by_cases h0:0<=i
 .rw[ap h0] at h;by_cases h1:i<n
  .rw[ap h1] at h;have e:i.toNat=j:=bE h;exact⟨by rw[seqIndex_of h0 h1,e],by lia,by lia,h1⟩
  .rw[ak h1] at h;cases h
 .rw[ak h0] at h;by_cases h1:-(n:Int)<=i
  .rw[ap h1] at h;have e:(i+n).toNat=j:=bE h;exact⟨by rw[seqIndex_neg (by lia) h1,e],by lia,h1,by lia⟩
  .rw[ak h1] at h;cases h
theorem x_(h:oj xs i=some v):∃j,seqIndex? i xs.length=some j/\xs[j]?=some v/\j<xs.length/\-(xs.length:Int)<=i/\i<xs.length:=by
 unfold oj at h;cases e:zJ xs.length i with
 |none=>rw[e] at h;cases h
 |some j=>
  rw[e] at h;obtain⟨h1,h2,h3,h4⟩:=x5 e;exact⟨j,h1,h,h2,h3,h4⟩
theorem aE{α:Type}{xs:List α}{j:Nat}{v:α}(h:xs[j]?=some v):oj xs (j:Int)=some v:=by
 have hj:j<xs.length:=(cD.mp h).1;have e:zJ xs.length (j:Int)=some j:=by
  unfold zJ;rw[ap (by lia),ap (by lia)];simp
 unfold oj;rw[e];exact h
theorem kA(xs:List α)(v:α):oj (xs++[v]) (-1)=some v:=by
 have hl:(xs++[v]).length=xs.length+1:=by simp
 have e:zJ (xs++[v]).length (-1)=some xs.length:=by
  unfold zJ;rw[hl,ak (by decide),ap (by lia)];congr 1;lia
 unfold oj;rw[e];show (xs++[v])[xs.length]?=some v;simp
def Ep(b:Expr):Prop:=∀o i,subscripted b false o i=operate [o,i] (getItem o i)
def Ra(X:Cx)(r:R2):Prop:=
 ∀ (value kB:Expr) (ae:List (Addr×Obj)) (s:Shared) (σ:St) (H:Hp) (x y:V) (v u:Value) (Q:VK),aM X ae σ H s->bi x v->bi y u->r x y H Q->
  subscripted kB false v u=operate [v,u] (getItem v u)->wpAny (model X.prog X.w) X.A (subscriptTail value kB v u) (EP X ae σ Q) X.xe s
def Xe(X:Cx)(id:String)(r:V->List V->Hp->VK->Prop):Prop:=
 ∀ (ae:List (Addr×Obj)) (s:Shared) (σ:St) (H:Hp) (x:V) (xs:List V) (v:Value) (us:List Value) (Q:VK),aM X ae σ H s->bi x v->aX xs us->r x xs H Q->
  wpAny (model X.prog X.w) X.A (call (.builtin id) (v::us)) (EP X ae σ Q) X.xe s
section
variable {X:Cx} {a b:Expr} {ta tb:TE} {pos:Pos}
theorem aN(hr:Ra X r)(ha:PE X a ta)(hb:PE X b tb)(hs:Ep b):PE X (.Subscript a b pos) (gW r ta tb):=by
 intro ae s σ H Q I h;exact Subscript_ (H_ ha hb I h fun v u s2 x y H2 I2 rx ry q=>hr a b ae s2 σ H2 x y v u Q I2 rx ry q (hs _ _))
def pC(K:PySem.W.Frag):R2:=fun x y H Q=>∃p xs i v,x=.ref p/\y=.int i/\aQ K H p xs/\oj xs i=some v/\Q v H
def zK(K:PySem.W.Frag):R2:=fun x y H Q=>∃p xs i v,x=.ref p/\y=.int i/\bZ K H p xs/\oj xs i=some v/\Q v H
theorem aF:Ra X (pC X.K):=by
 intro value kB ae s σ H x y v u Q I rx ry h hs;obtain⟨p,xs,i,z,rfl,rfl,hq,he,q⟩:=h;cases rx;obtain⟨t,rfl⟩:=ry;obtain⟨its,r,pl,hz⟩:=I.list hq;obtain⟨j,h1,h2,h3,h4,h5⟩:=x_ he;obtain⟨w,ew,zy⟩:=r.get h2;have hl:=r.length;have hn:=rW;have dN:EP X ae σ Q w s:=⟨z,H,I,zy,q⟩
 by_cases h0:0<=i
 .have hj:i.toNat=j:=by
   rw[seqIndex_of h0 h5] at h1;exact bE h1
  exact item_listR pl.isList h0 (by lia) (by rw[hj];simpa using ew) dN hs
 .have hj:(i+(its.toArray.size:Int)).toNat=j:=by
   rw[seqIndex_neg (by lia) h4] at h1;rw[bS,<-hl];exact bE h1
  exact subscriptTail_builtinR (x:=w) pl.isList.typeIs slot_list_getitem.lookup
   (wpAny_getItem_list_neg (Q:=fun r s'=>r=w/\EP X ae σ Q r s') pl.isList (by lia) (by rw[bS] <;> lia) (by lia) (by rw[hj];simpa using ew) ⟨rfl,dN⟩) hs
theorem bV:Ra X (zK X.K):=by
 intro value kB ae s σ H x y v u Q I rx ry h hs;obtain⟨p,xs,i,z,rfl,rfl,hq,he,q⟩:=h;cases rx;obtain⟨t,rfl⟩:=ry;obtain⟨its,r,pl,hz⟩:=I.tuple hq;obtain⟨j,h1,h2,h3,h4,h5⟩:=x_ he;obtain⟨w,ew,zy⟩:=r.get h2;have hl:=r.length;have hn:=rW;have dN:EP X ae σ Q w s:=⟨z,H,I,zy,q⟩
 exact subscriptTail_builtinR (x:=w) pl.typeIs slot_tuple_getitem.lookup
  (getItem_tuple (j:=j) (Q:=fun r s'=>r=w/\EP X ae σ Q r s') pl (by lia) (by lia) (by rw[bS,<-hl];exact h1) (by simpa using ew) ⟨rfl,dN⟩) hs
theorem wO(its:List Value)(n j:Nat)(u:Value):Obj.mapSeq (·.setIfInBounds j u) { cls:=.type "list",data:=.seq its.toArray n }={ cls:=.type "list",data:=.seq (its.set j u).toArray n }:=by
 simp[Obj.mapSeq]
theorem aM.lst(I:aM X ae σ H s)(h:H p=some (.lst xs)):
  ∃ (its:List Value) (n:Nat),aX xs its/\s.heap.get? p=some { cls:=.type "list",data:=.seq its.toArray n }/\xs.length<=sizeLine:=by
 obtain⟨z,its,n,r,e⟩:=I.ck p _ h;exact⟨its,n,r,e,z⟩
theorem aM.Ii{ae:List (Addr×Obj)}{σ:St}{H:Hp}{s:Shared}{p:Addr}{xs ys:List V}{its its':List Value}{n n':Nat}{f:Obj->Obj}(I:aM X ae σ H s)(h:H p=some (.lst xs))(ho:s.heap.get? p=some { cls:=.type "list",data:=.seq its.toArray n })(hf:f { cls:=.type "list",data:=.seq its.toArray n }={ cls:=.type "list",data:=.seq its'.toArray n' })(r:aX ys its')(hz:ys.length<=sizeLine)(t:Nat):
  aM X ae σ (upd H p (.lst ys)) { s with heap:=s.heap.update p f,toks:=t }:=by
 have e:(s.heap.update p f).get? p=some { cls:=.type "list",data:=.seq its'.toArray n' }:=by
  rw[Heap.get?_update_self f ho (by rw[hf] <;> rfl),hf]
 refine I.write (x:=p) (e:=p) (by rw[h];trivial) (.inl rfl) (fun b u hb q=>(Heap.get?_update_other _ _ (gv hb)).trans q) ⟨_,e⟩ ?_;exact⟨hz,its',n',r,e⟩
def Ma:V->V->V->Hp->(Hp->Prop)->Prop:=fun o i v H Q=>∃p xs k j,o=.ref p/\i=.int k/\H p=some (.lst xs)/\zJ xs.length k=some j/\Q (upd H p (.lst (xs.set j v)))
theorem ee:LO X Ma:=by
 intro ae s σ H o i v ov iv u Q I ro ri rv h;obtain⟨p,xs,k,j,rfl,rfl,hp,hj,q⟩:=h;cases ro;obtain⟨t,rfl⟩:=ri;obtain⟨its,n,r,ho,hz⟩:=I.lst hp;obtain⟨h1,h2,h3,h4⟩:=x5 hj;have hl:=r.length;have hn:=rW;have I':aM X ae σ (upd H p (.lst (xs.set j v))) { s with heap:=s.heap.update p (Obj.mapSeq (·.setIfInBounds j u)) }:=
  I.Ii hp ho (wO its n j u) (r.set rv j) (by rw[iF];exact hz) s.toks
 by_cases h0:0<=k
 .have hk:k.toNat=j:=by
   rw[seqIndex_of h0 h4] at h1;exact bE h1
  exact PySem.W.ki_setAt ho h0 (by lia) (by rw[bS,<-hl];exact h4) (by rw[hk];exact⟨_,I',q⟩)
 .have hk:(k+(its.toArray.size:Int)).toNat=j:=by
   rw[seqIndex_neg (by lia) h3] at h1;rw[bS,<-hl];exact bE h1
  exact PySem.W.ki_setBack ho (by lia) (by rw[bS,<-hl];exact h3) (by lia) (by rw[hk];exact⟨_,I',q⟩)
def dX:V->Bool
 |.bw=>true
 |.bl _=>true
 |.int _=>true
 |.str _=>true
 |_=>false
def j_:V->V->Bool
 |.bw,.bw=>true
 |.bl a,.bl b=>a==b
 |.bl a,.int b=>(if a then 1 else 0)==b
 |.int a,.bl b=>a==(if b then 1 else 0)
 |.int a,.int b=>a==b
 |.str a,.str b=>a==b
 |_,_=>false
theorem r9(ry:bi y u)(rx:bi x v)(fy:dX y=true)(fx:dX x=true):SeqAt.EqAt A s u v (j_ y x):=by
 cases y with
 |bw=>
  cases ry;cases x with
  |bw=>cases rx;exact rB _
  |bl b=>cases rx;exact SeqAt.EqAt.none_bool b
  |int b=>obtain⟨t,rfl⟩:=rx;exact SeqAt.EqAt.none_int b t
  |str b=>obtain⟨t,rfl⟩:=rx;exact SeqAt.EqAt.none_str b t
  |_=>exact absurd (show false=true from fx) cm
 |bl a=>
  cases ry;cases x with
  |bw=>cases rx;exact SeqAt.EqAt.bool_none a
  |bl b=>cases rx;exact SeqAt.EqAt.bool_bool a b
  |int b=>obtain⟨t,rfl⟩:=rx;exact SeqAt.EqAt.bool_int a b t
  |str b=>obtain⟨t,rfl⟩:=rx;exact SeqAt.EqAt.bool_str a b t
  |_=>exact absurd (show false=true from fx) cm
 |int a=>
  obtain⟨t',rfl⟩:=ry;cases x with
  |bw=>cases rx;exact SeqAt.EqAt.int_none a t'
  |bl b=>cases rx;exact SeqAt.EqAt.int_bool a t' b
  |int b=>obtain⟨t,rfl⟩:=rx;exact SeqAt.EqAt.int_int a t' b t
  |str b=>obtain⟨t,rfl⟩:=rx;exact SeqAt.EqAt.int_str a t' b t
  |_=>exact absurd (show false=true from fx) cm
 |str a=>
  obtain⟨t',rfl⟩:=ry;cases x with
  |bw=>cases rx;exact SeqAt.EqAt.str_none a t'
  |bl b=>cases rx;exact SeqAt.EqAt.str_bool a t' b
  |int b=>obtain⟨t,rfl⟩:=rx;exact SeqAt.EqAt.str_int a t' b t
  |str b=>obtain⟨t,rfl⟩:=rx;exact SeqAt.EqAt.str_str a t' b t
  |_=>exact absurd (show false=true from fx) cm
 |_=>exact absurd (show false=true from fy) cm
def zL(x:V)(u:Value):Bool:=match u with
 |.none=>j_ .bw x
 |.bool b=>j_ (.bl b) x
 |.int i _=>j_ (.int i) x
 |.str z _=>j_ (.str z) x
 |_=>false
theorem BC(r:bi y u)(f:dX y=true):zL x u=j_ y x:=by
 cases y with
 |bw=>cases r;rfl
 |bl b=>cases r;rfl
 |int i=>obtain⟨t,rfl⟩:=r;rfl
 |str z=>obtain⟨t,rfl⟩:=r;rfl
 |_=>exact absurd (show false=true from f) cm
theorem mU:∀ {xs:List V} {us:List Value},aX xs us->xs.all dX=true->us.any (zL x)=xs.any fun y=>j_ y x
 |_,_,.nil,_=>rfl
 |y::xs,u::us,.cons r t,f=>by
  rw[iI,gg] at f;rw[iH,iH,BC r f.1,mU t f.2]
theorem kC(rx:bi x v)(fx:dX x=true):∀ {xs:List V} {us:List Value},aX xs us->xs.all dX=true->∀u∈us,SeqAt.EqAt A s u v (zL x u)
 |_,_,.nil,_=>fun u hu=>by cases hu
 |y::xs,u::us,.cons r t,f=>fun u' hu=>by
  rw[iI,gg] at f;rcases cn.mp hu with rfl|hu
  .rw[BC r f.1];exact r9 r rx f.1 fx
  .exact kC rx fx t f.2 u' hu
def Pn(x:V)(xs:List V):Bool:=xs.any fun y=>j_ y x
def Vc(K:PySem.W.Frag)(AL:Bool):R2:=fun x y H Q=>∃p xs,y=.ref p/\(aQ K H p xs\/bZ K H p xs)/\dX x=true/\xs.all dX=true/\Q (.bl (if AL then !Pn x xs else Pn x xs)) H
theorem qa:jx X (compareOp .In) (Vc X.K false):=by
 intro ae s σ H x y v u Q I rx ry h;obtain⟨p,xs,rfl,hq,fx,fs,q⟩:=h;cases ry;rcases hq with hq|hq
 .obtain⟨its,r,pl,hz⟩:=I.list hq;refine SeqAt.in_listAt (zL x) pl.isList (fun w hw=>kC rx fx r fs w (by simpa using hw)) ⟨.bl _,H,I,rfl,?_⟩;rw[show its.toArray.any (zL x)=its.any (zL x) by simp,mU r fs];exact q
 .obtain⟨its,r,pl,hz⟩:=I.tuple hq;refine SeqAt.in_tupleAt (zL x) pl (fun w hw=>kC rx fx r fs w (by simpa using hw)) ⟨.bl _,H,I,rfl,?_⟩;rw[show its.toArray.any (zL x)=its.any (zL x) by simp,mU r fs];exact q
theorem aJ:eM X (.builtin "len") (fun xs H Q=>∃p ys,xs=[.ref p]/\(aQ X.K H p ys\/bZ X.K H p ys)/\Q (.int ys.length) H):=by
 intro ae s σ H xs us Q I r h;obtain⟨p,ys,rfl,hq,q⟩:=h;obtain⟨u,rfl,rx⟩:=pV r;cases rx;have hn:=rW;rcases hq with hq|hq
 .obtain⟨its,r',pl,hz⟩:=I.list hq;have dI:=r'.length;exact Calls.call_len_list pl.isList (by simp only[bS] <;> lia) ⟨.int ys.length,H,I.tok _,⟨s.toks+1,by rw[bS,dI]⟩,q⟩
 .obtain⟨its,r',pl,hz⟩:=I.tuple hq;have dI:=r'.length;exact len_tuple pl (by simp only[bS] <;> lia) ⟨.int ys.length,H,I.tok _,⟨s.toks+1,by rw[bS,dI]⟩,q⟩
theorem dB:eM X (.type "list") (fun xs H Q=>∃p ys,xs=[.ref p]/\(aQ X.K H p ys\/bZ X.K H p ys)/\∀l,H l=none->Q (.ref l) (upd H l (.lst ys))):=by
 intro ae s σ H xs us Q I r h;obtain⟨p,ys,rfl,hq,q⟩:=h;obtain⟨u,rfl,rx⟩:=pV r;cases rx;have dN:∀ (its:List Value),aX ys its->ys.length<=sizeLine->∀ (h':Heap) (c':Nat),(∀b o',s.heap.get? b=some o'->h'.get? b=some o')->
   h'.get? s.heap.objs.size=some { cls:=.type "list",dict:=none,data:=.seq its.toArray c',slots:=#[] }->EP X ae σ Q (.ref s.heap.objs.size) { s with heap:=h' }:=fun its r' hz h' c' kp e=>
  ⟨.ref s.heap.objs.size,_,I.laid (t':=s.toks) kp (a8 _) (show bU X.prog X.w _ h' _ (.lst ys) from ⟨hz,its,c',r',e⟩),rfl,q _ (I.ck.fresh (a8 _))⟩
 rcases hq with hq|hq
 .obtain⟨its,r',pl,hz⟩:=I.list hq;have dI:=r'.length;obtain⟨o,ho,hc,n,hd⟩:=pl.isList;exact call_list_seq p (.inl rfl) ho hc hd (fun h' c' kp e=>dN its r' hz h' c' kp e) (by simp only[bS] <;> lia)
 .obtain⟨its,r',pl,hz⟩:=I.tuple hq;have dI:=r'.length;obtain⟨o,ho,hc,n,hd⟩:=pl;exact call_list_seq p (.inr rfl) ho hc hd (fun h' c' kp e=>dN its r' hz h' c' kp e) (by simp only[bS] <;> lia)
theorem cU:eM X (.type "tuple") (fun xs H Q=>∃p ys,xs=[.ref p]/\((aQ X.K H p ys/\∀l,H l=none->Q (.ref l) (upd H l (.tup ys)))\/(bZ X.K H p ys/\Q (.ref p) H))):=by
 intro ae s σ H xs us Q I r h;obtain⟨p,ys,rfl,h⟩:=h;obtain⟨u,rfl,rx⟩:=pV r;cases rx;rcases h with ⟨hq,q⟩|⟨hq,q⟩
 .obtain⟨its,r',pl,hz⟩:=I.list hq;have dI:=r'.length;refine call_tuple_list pl.isList (fun h' kp=>?_) (by simp only[bS] <;> lia);have I1:aM X ae σ H { s with heap:=h' }:=I.kept (t':=s.toks) kp;have I2:aM X ae σ (upd H h'.objs.size (.tup ys)) { s with heap:=h'.push { cls:=.type "tuple",data:=.seq its.toArray } }:=
   I1.laid (t':=s.toks) (fun b o e=>cw _ e) (a8 _) (show bU X.prog X.w _ _ _ (.tup ys) from ⟨hz,its,r',lu.new _ _⟩)
  exact⟨.ref h'.objs.size,_,I2,rfl,q _ (I1.ck.fresh (a8 _))⟩
 .obtain⟨its,r',pl,hz⟩:=I.tuple hq;exact call_tuple_same pl ⟨.ref p,H,I,rfl,q⟩
def Vd(K:PySem.W.Frag)(T:String)(x:V)(H:Hp):Prop:=match x with
 |.str _=>T="str"
 |.int _=>T="int"
 |.ref p=>(T="list"/\∃xs,aQ K H p xs)\/(T="tuple"/\∃o,K.lookup p=some o/\o.cls=.type "tuple"/\o.dict=none)\/
   (T="dict"/\((∃be,H p=some (.dK be))\/∃be,H p=some (.dT be)))\/(T="set"/\∃S n,H p=some (.set S n))
 |_=>False
theorem Ij(I:aM X ae σ H s)(r:bi x v)(ty:Vd X.K T x H):
  s.TypeIs v T/\∀a,v=.ref a->∃ob,s.heap.get? a=some ob/\ob.dict=none:=by
 cases x with
 |str z=>
  obtain⟨t,rfl⟩:=r;cases (show T="str" from ty);exact⟨typeIs_str s z t,fun _ e=>nomatch e⟩
 |int i=>
  obtain⟨t,rfl⟩:=r;cases (show T="int" from ty);exact⟨typeIs_int s i t,fun _ e=>nomatch e⟩
 |ref p=>
  cases r;rcases ty with ⟨rfl,xs,hq⟩|⟨rfl,o,hk,hc,hd⟩|⟨rfl,hk⟩|⟨rfl,S,n,hk⟩
  .obtain⟨its,_,pl,_⟩:=I.list hq;refine⟨pl.isList.typeIs,fun a e=>?_⟩;cases e;obtain⟨o,n,e,c,hd,_⟩:=pl;exact⟨o,e,hd⟩
  .refine⟨⟨o,I.mB p o hk,hc⟩,fun a e=>?_⟩;cases e;exact⟨o,I.mB _ o hk,hd⟩
  .have z:∃o,s.heap.get? p=some o/\o.ExactDict:=by
    rcases hk with ⟨be,hk⟩|⟨be,hk⟩
    .obtain⟨_,_,_,_,o,_,_,e,ex,_⟩:=I.ck p _ hk;exact⟨o,e,ex⟩
    .obtain⟨_,_,_,_,o,_,_,e,ex,_⟩:=I.ck p _ hk;exact⟨o,e,ex⟩
   obtain⟨o,e,ex⟩:=z;refine⟨⟨o,e,ex.1⟩,fun a e2=>?_⟩;cases e2;exact⟨o,e,ex.2.1⟩
  .obtain⟨o,_,_,_,e,ex,_⟩:=I.ck p _ hk;refine⟨⟨o,e,ex.1⟩,fun a e2=>?_⟩;cases e2;exact⟨o,e,ex.2.1⟩
 |_=>exact False.elim ty
def Rb(K:PySem.W.Frag)(T:String)(r:V->List V->Hp->VK->Prop)(to:TE)(t:TA):TE:=fun σ H Q=>to σ H fun x H1=>Vd K T x H1/\t σ H1 fun xs H2=>r x xs H2 Q
variable {o e:Expr} {es:List Expr} {to:TE} {t:TA} {name:Str} {rZ r_:Pos} {T id:String} {r:V->List V->Hp->VK->Prop}
theorem dz(pa:PlainAttrs T)(slot:Slot T name id)(Xf:typeOf (.builtin id)=pure (.type "method_descriptor"))(hm:Xe X id r)(ho:PE X o to)(ha:PA X (e::es) t)(Mb:attributeBase o name X.env (eval o X.env)=eval o X.env:=by rfl)(Rc:((backTo r_ (starEach (e::es) X.env)).all (fun x=>!x.1)&&(backToKw r_ (keywordEach [] X.env)).all (fun x=>x.1.isSome)
   && decide ((e::es).length+([]:List Keyword).length+(if ([]:List Keyword).isEmpty then 0 else 1)<30))=true:=by rfl)(Mc:(rZ.endLine==r_.line)=true:=by rfl)(hs:starEach (e::es) X.env=(false,eval e X.env)::starEach es X.env:=by rfl)(wP:(backTo r_ (starEach es X.env)).any (·.1)=false:=by rfl):
  PE X (.Call (.Attribute o name rZ) (e::es) [] r_) (Rb X.K T r to t):=by
 intro ae s σ H Q I h;refine wpAny_Call_method_late Mb Rc Mc rfl (cs (ho ae s σ H _ I h) fun v s1 ⟨x,H1,I1,r1,ty,q1⟩=>?_);obtain⟨h1,h2⟩:=Ij I1 r1 ty;refine⟨T,id,pa,slot,Xf,h1,h2,?_⟩;have hA:=ha r_ ae s1 σ H1 _ I1 q1;rw[hs] at hA |-;refine Calls.callWith_builtin (by show (false||(backTo r_ (starEach es X.env)).any (·.1))=false;rw[wP] <;> rfl) (Calls.evalArgs_plain ?_);exact cs hA fun us s2 ⟨vs,H2,I2,r2,q2⟩=>hm ae s2 σ H2 x vs v us Q I2 r1 r2 q2
end
def Po(X:Cx)(id:String)(r:V->List V->Hp->VK->Prop):Prop:=
 ∀ (ae:List (Addr×Obj)) (s:Shared) (σ:St) (H:Hp) (x:V) (xs:List V) (v:Value) (us:List Value) (Q:VK),aM X ae σ H s->bi x v->aX xs us->r x xs H Q->
  wpAny (model X.prog X.w) X.A (call (.builtin id) (v::us)) (EP X ae σ Q) X.xe s
theorem aX.one{x:V}{us:List Value}(h:aX [x] us):∃u,us=[u]/\bi x u:=by
 cases h with
 |cons r h=>cases h;exact⟨_,rfl,r⟩
theorem aX.two{x y:V}{us:List Value}(h:aX [x,y] us):∃u v,us=[u,v]/\bi x u/\bi y v:=by
 cases h with
 |cons r h=>
  cases h with
  |cons q h=>cases h;exact⟨_,_,rfl,r,q⟩
theorem aX.eraseIdx:∀ {xs:List V} {us:List Value} (i:Nat),aX xs us->aX (xs.eraseIdx i) (us.eraseIdx i)
 |_,_,_,.nil=>.nil
 |_,_,0,.cons _ t=>t
 |_,_,i+1,.cons r t=>.cons r (aX.eraseIdx i t)
theorem aX.rep(h:aX xs us):∀k:Nat,aX (List.replicate k xs).flatten (List.replicate k us).flatten
 |0=>.nil
 |k+1=>by
  rw[jE,jE,nM,nM];exact aX.append h (aX.rep h k)
theorem qb:∀ (l:List α) (i:Nat),(l.eraseIdx i).length<=l.length
 |[],_=>a8 _
 |_::_,0=>rJ _
 |_::r,i+1=>Nat.succ_le_succ (qb r i)
theorem qc(its:List Value):∀ (k:Nat) (cR:List Value),
  List.foldl (fun x1 x2=>x1++x2) cR.toArray (List.replicate k its.toArray)=(cR++(List.replicate k its).flatten).toArray
 |0,cR=>by simp
 |k+1,cR=>by
  have e:cR.toArray++its.toArray=(cR++its).toArray:=by simp
  have e2:(cR++its)++(List.replicate k its).flatten=cR++(List.replicate (k+1) its).flatten:=by
   rw[jE,nM,cJ]
  rw[<-e2,<-qc its k (cR++its),<-e,jE,rj]
section
variable {X:Cx} {ae:List (Addr×Obj)} {σ:St} {H:Hp} {s:Shared} {l b:Addr} {xs ys zs:List V}
theorem aM.Ik{its its':List Value}{n:Nat}{f:Array Value->Array Value}{t':Nat}(I:aM X ae σ H s)(hH:H l=some (.lst xs))(e:s.heap.get? l=some { cls:=.type "list",data:=.seq its.toArray n })(hf:f its.toArray=its'.toArray)(hv:aX ys its')(hz:ys.length<=sizeLine):
  aM X ae σ (upd H l (.lst ys)) { s with heap:=s.heap.update l (Obj.mapSeq f),toks:=t' }:=by
 have q:=PySem.IsL.update e f;rw[hf] at q;refine I.write (x:=l) (e:=l) (by rw[hH];exact trivial) (.inl rfl) (fun b' u hb hu=>(Heap.get?_update_other s.heap (Obj.mapSeq f) (gv hb)).trans hu) ⟨_,q⟩ ?_;exact⟨hz,its',_,hv,q⟩
theorem aM.Il(I:aM X ae σ H s)(hv:aX ys its)(hz:ys.length<=sizeLine):
  aM X ae σ (upd H s.heap.objs.size (.lst ys)) { s with heap:=s.heap.push { cls:=.type "list",data:=.seq its.toArray },toks:=t' }:=
 I.laid (fun _ _ q=>cw _ q) (a8 _) ⟨hz,its,0,hv,dG _ rfl⟩
theorem aM.fresh(I:aM X ae σ H s):H s.heap.objs.size=none:=I.ck.fresh (a8 _)
theorem aM.wQ(I:aM X ae σ H s)(hH:H l=some (.lst xs)):xs.length<=sizeLine/\∃ (its:List Value) (n:Nat),aX xs its/\xs.length=its.length/\s.heap.get? l=some { cls:=.type "list",data:=.seq its.toArray n }:=by
 obtain⟨z,its,n,r,e⟩:=I.ck l _ hH;exact⟨z,its,n,r,r.length,e⟩
theorem BE(h:n<=sizeLine):Builtin.List.listTooLong n=false:=by
 unfold Builtin.List.listTooLong;exact dY (by lia)
end
section
variable {X:Cx}
def Er:V->List V->Hp->VK->Prop:=fun x vs H Q=>∃l xs y,x=.ref l/\vs=[y]/\H l=some (.lst xs)/\xs.length<sizeLine/\Q .bw (upd H l (.lst (xs++[y])))
theorem bB:Po X "list.append" Er:=by
 intro ae s σ H x vs v us Q I rx rv h;obtain⟨l,xs,y,rfl,rfl,hH,hz,q⟩:=h;cases rx;obtain⟨u,rfl,ru⟩:=rv.one;obtain⟨z,its,n,r,hl,e⟩:=I.wQ hH;refine lm F.slot_list_append ⟨_,e,rfl⟩ F.entry_list_append (F.args_list_append_2 _ _) (PySem.list_append l its.toArray n u (by rw[bS];lia)) ⟨e,?_⟩;refine⟨.bw,_,I.Ik (its':=its++[u]) hH e (by simp) (r.append (.cons ru .nil)) ?_,rfl,q⟩;rw[bY,List.length_singleton];lia
def BF:V->List V->Hp->VK->Prop:=fun x vs H Q=>∃l xs i k y,x=.ref l/\vs=[.int i]/\H l=some (.lst xs)/\-(2 ^ 63)<=i/\i<2 ^ 63/\seqIndex? i xs.length=some k/\xs[k]?=some y/\Q y (upd H l (.lst (xs.eraseIdx k)))
theorem uo:Po X "list.pop" BF:=by
 intro ae s σ H x vs v us Q I rx rv h;obtain⟨l,xs,i,k,y,rfl,rfl,hH,h1,h2,hk,hy,q⟩:=h;cases rx;obtain⟨u,rfl,ru⟩:=rv.one;obtain⟨t,rfl⟩:=ru;obtain⟨z,its,n,r,hl,e⟩:=I.wQ hH;obtain⟨w,hw,zy⟩:=r.get hy;refine lm F.slot_list_pop ⟨_,e,rfl⟩ F.entry_list_pop (F.args_list_pop_2 _ _)
  (MeetsSeq.list_pop_at l its.toArray n i t k w (fitsIndex_both h1 h2) (by rw[bS,<-hl];exact hk) (by rw[<-kZ];exact hw) (by rw[bS];lia)) ⟨e,?_⟩
 refine⟨y,_,I.Ik (its':=its.eraseIdx k) hH e ?_ (r.eraseIdx k) ?_,zy,q⟩
 .show its.toArray.eraseIdxIfInBounds k=(its.eraseIdx k).toArray;rw[AY]
 .have:=qb xs k;lia
def Re:R2:=fun x y H Q=>∃l b xs zs,x=.ref l/\y=.ref b/\H l=some (.lst xs)/\H b=some (.lst zs)/\xs.length+zs.length<=sizeLine/\∀p,H p=none->Q (.ref p) (upd H p (.lst (xs++zs)))
theorem gy:jx X (binaryOp .Add) Re:=by
 intro ae s σ H x y v u Q I rx ry h;obtain⟨l,b,xs,zs,rfl,rfl,hH,hB,hz,q⟩:=h;cases rx;cases ry;obtain⟨z,its,n,r,hl,e⟩:=I.wQ hH;obtain⟨z2,Md,n2,r2,AM,e2⟩:=I.wQ hB;refine PySem.P.add_list e e2 ?_ (by rw[bS,bS];lia);have ea:its.toArray++Md.toArray=(its++Md).toArray:=by simp
 rw[ea];exact⟨.ref _,_,I.Il (t':=s.toks) (r.append r2) (by rw[bY];lia),rfl,q _ I.fresh⟩
def Rf:R2:=fun x y H Q=>∃l k xs,x=.ref l/\y=.int k/\H l=some (.lst xs)/\-(2 ^ 63)<=k/\k<2 ^ 63/\xs.length*k.toNat<=sizeLine/\
 ∀p,H p=none->Q (.ref p) (upd H p (.lst (List.replicate k.toNat xs).flatten))
theorem Es(xs:List α)(k:Nat):(List.replicate k xs).flatten.length=k*xs.length:=by
 induction k with
 |zero=>simp
 |succ k ih=>rw[jE,nM,bY,ih,Nat.succ_mul,Nat.add_comm]
theorem BI:jx X (binaryOp .Mult) Rf:=by
 intro ae s σ H x y v u Q I rx ry h;obtain⟨l,k,xs,rfl,rfl,hH,h1,h2,hz,q⟩:=h;cases rx;obtain⟨t,rfl⟩:=ry;obtain⟨z,its,n,r,hl,e⟩:=I.wQ hH;have dI:its.toArray.size*k.toNat<=sizeLine:=by rw[bS,<-hl];exact hz
 have Rg:¬ its.toArray.size*k.toNat > (2 ^ 63-1) / 8:=by
  have:(sizeLine:Nat)<=(2 ^ 63-1) / 8:=by decide
  lia
 have Rh:¬ (!Builtin.List.listFitsIndex k)=true:=by
  rw[fitsIndex_both h1 h2];exact cm
 have Me:¬ Builtin.List.listTooLong (its.toArray.size*k.toNat)=true:=by
  rw[BE dI];exact cm
 have uq:List.foldl (fun x1 x2=>x1++x2) #[] (List.replicate (if its.toArray.isEmpty=true then 0 else k.toNat) its.toArray)=(List.replicate k.toNat its).flatten.toArray:=by
  have f0:∀m:Nat,List.foldl (fun x1 x2=>x1++x2) #[] (List.replicate m its.toArray)=(List.replicate m its).flatten.toArray:=fun m=>by
   have:=qc its m [];rw[List.nil_append] at this;exact this
  rw[f0];cases its with
  |nil=>simp
  |cons a r'=>rw[ak (by simp)]
 refine wpAny_binaryOp_repeat_ref (T:="list") (U:="int") (by decide) ⟨_,e,rfl⟩ (fun s'=>typeIs_int s' k t) noFill_list_mul F.fills_int_mul F.slot_int_rmul repeat_list F.slot_int_index.lookup
  (lm F.slot_int_rmul (typeIs_int s k t) F.entry_int_rmul (F.args_int_rmul_2 _ _) (int___rmul___int_list k t l its.toArray n)
   ⟨e,rfl,⟨_,e,rfl⟩,lm F.slot_list_mul ⟨_,e,rfl⟩ F.entry_list_mul (F.args_list_mul_2 _ _) (AutoListH.list___mul___list_int_3 l its.toArray n k t Rh Rg Me) ⟨e,?_⟩⟩)
 rw[uq];exact⟨.ref _,_,I.Il (t':=s.toks) (r.rep k.toNat) (by rw[Es,rF];exact hz),rfl,q _ I.fresh⟩
end
section
variable {prog:Program} {w:World} {A:Around} {E:Value->Shared->Prop} {s:Shared}
end
section
variable {X:Cx}
end
end L2
namespace Ve
open PySem PySem.W PySem.Calls PyProof.Rows
theorem mD:∀ (ns:List Int) (vs:List Value),WellAll P h vs (ns.map WData.int)->IntsAre vs ns:=by
 intro ns;induction ns with
 |nil=>
  intro vs w;rw[jN] at w;cases w;exact .nil
 |cons n ns ih=>
  intro vs w;rw[cS] at w;cases w with
  |cons a b=>
   cases a;exact .cons _ _ (ih _ b)
theorem zM{l:OpenLaw}{n:Nat}(hn:l.most=some n){P:Params}{h:Heap}{args:List WData}{BJ:List Value}(Et:l.row.toRowW.claim.pre args=true)(Ri:WellAll P h BJ args):
  ∃a vs ns,BJ=[Value.ref a]/\args=[WData.list (ns.map WData.int)]/\h.get? a=some { cls:=.type "list",data:=.seq vs.toArray }/\IntsAre vs ns/\ns.length<=n:=by
 have Xg:WShape.hasAll [] args [.list .int]=true:=(pre_splitW Et).1;have hc:l.pre.holds [] { args:=args }=true:=(pre_splitW Et).2;obtain⟨d,r,rfl,h1,h2⟩:=hasAllW_cons Xg;obtain rfl:=hasAllW_nil h2;obtain⟨xs,rfl,h3⟩:=hasW_list h1;obtain⟨ns,rfl⟩:=items_int h3;have dI:ns.length<=n:=by
  unfold OpenLaw.pre at hc;have h4:(WTm.not (.lt (.lit (.int (n:Int))) (.len (.arg 0)))).holds [] { args:=[.list (ns.map .int)] }=true:=by
   have h4:=(holds_andW hc).1;rw[hn] at h4;exact h4
  have h5:=condW_of h4 (w_not (w_lt w_lit (w_len_list (w_arg rfl))));rw[aB] at h5;refine Nat.le_of_not_lt fun q=>?_;have q':(n:Int)<((ns.length:Nat):Int):=by lia
  first
   |(rw[dZ q'] at h5;exact absurd h5 (by decide))
   |(simp at h5;lia)
 cases Ri with
 |cons w1 w2=>
  cases w2;cases w1 with
  |list ho pD=>exact⟨_,_,ns,rfl,rfl,ho,mD ns _ pD,dI⟩
theorem zN(l:OpenLaw)(args:List WData):l.row.toRowW.claim.post args (.bool true) args=true:=
 postW_of (r:=l.row.toRowW) (X:=(true==true))
  (show WShape.has [] (.bool true) .bool=true by first|rfl|decide|simp[WShape.has,WShape.arms,WShape.armsAll])
  (show (WTm.eq .res (.lit (.bool true))).value [] { args:=args,res:=some (.bool true),after:=args }=some (.bool (true==true)) from w_eq_bool (w_res rfl) w_lit) rfl
theorem ur{l:OpenLaw}{n:Nat}{q:Program}{qd:List Str}{XP:(Str->Option Value)->Heap->Prop}{YP:World->Heap->Prop}{d:DefRec}(hn:l.most=some n)(Mf:d.params.defaults=[])(call:∀ (w:World) (s₀ s₁:Shared) (mg mb:Str->Option Value) (fa:Addr) (o:Obj) (pm cd ky:Value) (a:Addr) (vs:List Value) (ns:List Int),
   Ground q qd [] XP w s₀ mg mb s₁.heap->YP w s₁.heap->
   s₁.heap.get? fa=some o->o.data=.func (docDef d.name d.params d.body d.scope pm cd ky)->s₁.heap.CodeRec cd d.name->mg d.name=some (.ref fa)->
   s₁.heap.get? a=some { cls:=.type "list",data:=.seq vs.toArray }->IntsAre vs ns->ns.length<=n->s₁.gens=#[]->
   codeAny (model l.prog w) callerA (.call (.ref fa) ⟨[.ref a],[]⟩) (fun r s'=>r=.ok (.ret (.bool true))/\OldK s₁.heap s'.heap/\s'.os=s₁.os/\AllBare s'.gens) s₁):
  WalkO q qd XP YP l.row.toRowW d [] (fun f vs=>PySem.call f vs):=by
 intro w s₀ s₁ mg mb G Y fa o pm cd ky dV kV ho hd o5 hD Mg hg args BJ as Et Xh hrd Ri Pp;obtain rfl:dV=.none:=Dflts.none hD Mf;obtain rfl:kV=.none:=Dflts.noKw hD;obtain⟨a,vs,ns,rfl,rfl,Im,BK,dI⟩:=zM hn Et Ri;refine enter_call (lh (call w s₀ s₁ mg mb fa o pm cd ky a vs ns G Y ho (fd_plain hd) o5 Mg Im BK dI hg) fun r s' hq=>?_);obtain⟨rfl,h2,h3,h4⟩:=hq;exact⟨.inl ⟨.bool true,.bool true,[],rfl,fun _=>rfl,.bool true,zN l _,fun _=>⟨List.Pairwise.nil,fun _ hm=>(nomatch hm)⟩⟩,h2,h3,h4⟩
section
variable {prog:Program} {w:World} {A:Around} {E:Value->Shared->Prop} {s:Shared} {K:Frag}
end
end Ve
namespace L2
open PySem PySem.Spec PyProof.Rows
theorem lC:∀ {vs:List Value} {ns:List Int},IntsAre vs ns->aX (ns.map V.int) vs
 |_,_,.nil=>.nil
 |_,_,.cons n t h=>.cons ⟨t,rfl⟩ (lC h)
def sf(s:Stmt)(j:Nat):Stmt:=match s with
 |.ClassDef _ _ _ body _ _ _ _ _ _ _=>body.getD j (.Pass ⟨0,0,0,0⟩)
 |_=>.Pass ⟨0,0,0,0⟩
def cP(s:Stmt):Arguments:=match s with
 |.FunctionDef _ a _ _ _ _ _ _ _ _=>a
 |_=>{ posonlyargs:=[],args:=[],vararg:=none,kwonlyargs:=[],kw_defaults:=[],kwarg:=none,defaults:=[] }
def cr(s:Stmt):List Stmt:=match s with
 |.FunctionDef _ _ b _ _ _ _ _ _ _=>b
 |_=>[]
def aq(s:Stmt):Scope:=match s with
 |.FunctionDef _ _ _ _ _ _ sc _ _ _=>sc
 |_=>{ kind:=.function,names:=[],isGenerator:=false,isCoroutine:=false }
abbrev bf:uk:=fun _ _ _ _ _ _=>False
abbrev E0:XK:=fun _ _ _=>False
theorem aL:jU bf X E0:=fun _ _ _ _ _ _ _ h=>h.elim
structure fH(K:PySem.W.Frag)(x qual:Str)(st:Stmt)(f:Addr)(fd:FuncData):Prop where
 ex:∃ (oc:Value) (od:Option Addr) (kV ky pm:Value) (an:Option Addr) (cT ct:Value) (vD:Array (Option Value)),
  fd=PySem.W.fnOf x qual (cP st) (cr st) (aq st) .none kV ky pm an cT ct/\K.lookup f=some ⟨oc,od,.func fd,vD⟩/\PySem.W.codeIn K cT qual=true
 kp:PySem.W.keepIn K (.ref f)=true
section
variable {P:Program} {w:World} {K:PySem.W.Frag} {mg:Str->Option Value} {base:Heap}
theorem fH.ok{x qual:Str}{st:Stmt}{f:Addr}{fd:FuncData}{N ps:List Str}{k:Nat}{sp:Sp}(F:fH K x qual st f fd)(S:aH N ps (aq st))(len:∀vs H Q E,sp vs H Q E->vs.length=ps.length)(um:∀ (cT:Value) (A:Around) (outer:List Env) (s:Shared) (H:Hp) (vs:List V) (Q:VK) (E:XK),cI k (A.deeper (envOfC qual (aq st) s.heap.objs.size f cT))->sp vs H Q E->
   ∃t,wy (r6 bf P w K mg base N qual (aq st) f cT A outer s H E).GJ (cr st) t/\t { nx:=fun _ H'=>Q .bw H',rt:=Q } (start N vs) H):bv P w K mg base bf (k+1) f fd ps sp:=by
 obtain⟨oc,od,kV,ky,pm,an,cT,ct,vD,rfl,lk,o5⟩:=F.ex;refine GO lk o5 S len fun A outer s H vs Q E hr DT=>?_;obtain⟨t,h,q⟩:=um cT A outer s H vs Q E hr DT;exact⟨t,h.GJ,q⟩
theorem fH.binds{x qual:Str}{st:Stmt}{f:Addr}{fd:FuncData}{ps:List Str}(F:fH K x qual st f fd)(h:∀ (kV ky pm:Value) (an:Option Addr) (cT ct:Value) (us:List Value),us.length=ps.length->bindArgs (PySem.W.fnOf x qual (cP st) (cr st) (aq st) .none kV ky pm an cT ct) ⟨us,[]⟩=pure (ps.zip us)):iQ K fd ps []:=by
 obtain⟨oc,od,kV,ky,pm,an,cT,ct,vD,rfl,lk,o5⟩:=F.ex;exact .all (h kV ky pm an cT ct)
theorem sg{x qual:Str}{st:Stmt}{f:Addr}{oc:Value}{od an:Option Addr}{vD:Array (Option Value)}{kV ky pm cT ct:Value}(l:K.lookup f=some ⟨oc,od,.func (PySem.W.fnOf x qual (cP st) (cr st) (aq st) .none kV ky pm an cT ct),vD⟩)(c:PySem.W.codeIn K cT qual=true)(k:PySem.W.keepIn K (.ref f)=true):fH K x qual st f (PySem.W.fnOf x qual (cP st) (cr st) (aq st) .none kV ky pm an cT ct):=⟨⟨oc,od,kV,ky,pm,an,cT,ct,vD,rfl,l,c⟩,k⟩
end
section
variable {X:Cx}
theorem pv(i:Nat)(hN:X.N[i]?=some x:=by rfl)(hv:Lo X.env.scope x:=by first|exact Or.inl rfl|exact Or.inr (Or.inl rfl)|exact Or.inr (Or.inr rfl))(hd:(x==("__debug__":Str))=false:=by decide)(o5:(x==("__classdict__":Str))=false:=by decide):PE X (.Name x pos) (aT i):=HL hN hv hd o5
end
theorem fg{A B:Prop}(h:B):if false=true then A else B:=by
 rw[ak cm];exact h
theorem si{A B:Prop}(h:A):if true=true then A else B:=by
 rw[ap rfl];exact h
theorem cW{c A B:Prop}[Decidable c](h1:c->A)(h2:¬ c->B):if c then A else B:=by
 by_cases h:c
 .rw[ap h];exact h1 h
 .rw[ak h];exact h2 h
def aG(H H':Hp):Prop:=∀b o,H b=some o->H' b=some o
theorem aG.refl(H:Hp):aG H H:=fun _ _ h=>h
theorem aG.trans(a:aG H H1)(b:aG H1 H2):aG H H2:=fun c o h=>b c o (a c o h)
theorem aG.free(e:aG H H')(h:H' l=Option.none):H l=Option.none:=by
 cases q:H l with
 |none=>rfl
 |some o=>
  rw[e l o q] at h;cases h
def GQ(src:List (Option Nat))(σ:St):St:=src.map fun o=>match o with|some j=>σ.getD j none|none=>none
theorem Eu{src:List (Option Nat)}{σ:St}{i:Nat}{v:V}(h:(GQ src σ)[i]?=some (some v)):∃j,src[i]?=some (some j)/\σ[j]?=some (some v):=by
 unfold GQ at h;rw[bO] at h;cases e:src[i]? with
 |none=>rw[e] at h;cases h
 |some o=>
  rw[e] at h;cases o with
  |none=>cases h
  |some j=>
   refine⟨j,rfl,?_⟩;have h':σ.getD j none=some v:=bE h;rw[bh] at h';cases e2:σ[j]? with
   |none=>rw[e2] at h';cases h'
   |some o=>rw[e2] at h';rw[show o=some v from h']
structure fT(NB:List Str)(src:List (Option Nat))(scope:Scope)(X:Cx):Prop where
 kind:scope.kind=.function
 nd:NB.Nodup
 len:src.length=NB.length
 cells:∀y∈scope.names,y.2=.cell->scope.names.lookup y.1=some .cell
 names:∀y∈scope.names,y.2=.local->scope.names.lookup y.1=some .local
 free:∀y∈scope.names,y.2=.free->X.env.scope.names.lookup y.1=some .cell\/X.env.scope.names.lookup y.1=some .free
 src:∀ (i:Nat) (x:Str) (j:Nat),NB[i]?=some x->src[i]?=some (some j)->X.N[j]?=some x/\scope.names.lookup x=some .free
def sj(scope:Scope)(x:Str):Bool:=match scope.names.lookup x with
 |some .cell=>true
 |_=>false
theorem ut:sj scope x=true↔scope.names.lookup x=some .cell:=by
 unfold sj;split
 .rename_i h;exact⟨fun _=>h,fun _=>rfl⟩
 .rename_i h;exact⟨fun z=>(by cases z),fun z=>absurd z h⟩
def yb(X:Cx)(NB:List Str)(scope:Scope)(cl:List (Str×Addr))(C:Addr)(s₃:Shared)(H₃:Hp)(fp:List Addr):Cx:=
 { X with N:=NB,s₀:=s₃,H₀:=H₃,env:=compEnvC scope cl C X.env,outer:=X.stack,stack:=X.stack,ex:=fp,fn:=sj scope,pn:=[],xe:=fun _ _=>False }
theorem jV:∀ (names:List (Str×NameKind)) (cR:List (Str×Addr)),(∀y∈names,y.2=NameKind.free->∃c,env.cells.lookup y.1=some c)->(∀x c,cR.lookup x=some c->env.cells.lookup x=some c)->
  ∃cl,(forIn names cR fun x r=>(if (x.2==NameKind.free)=true then (do let a <- cellOf env x.1;pure (ForInStep.yield ((x.1,a)::r))) else pure (ForInStep.yield r):Sem (ForInStep (List (Str×Addr)))))=(pure cl:Sem (List (Str×Addr)))/\
   (∀x c,cl.lookup x=some c->env.cells.lookup x=some c)/\(∀x c,cR.lookup x=some c->∃c',cl.lookup x=some c')/\∀x,(x,NameKind.free)∈names->∃c,cl.lookup x=some c
 |[],cR,_,ha=>⟨cR,by rw[List.forIn_nil],ha,fun x c h=>⟨c,h⟩,fun x h=>nomatch h⟩
 |(n,k)::r,cR,hf,ha=>by
  by_cases hk:k=NameKind.free
  .subst hk;obtain⟨c,hc⟩:=hf (n,NameKind.free) cz rfl;have Mh:∀x c',((n,c)::cR).lookup x=some c'->env.cells.lookup x=some c':=fun x c' h=>by
    rw[fu] at h;cases hx:x==n with
    |true=>
     rw[hx] at h;cases h;have:x=n:=by simpa using hx
     rw[this];exact hc
    |false=>rw[hx] at h;exact ha x c' h
   obtain⟨cl,e1,e2,e3,e4⟩:=jV r ((n,c)::cR) (fun y hy=>hf y (b9 _ hy)) Mh;refine⟨cl,?_,e2,fun x c' h=>?_,fun x h=>?_⟩
   .rw[List.forIn_cons];have ec:cellOf env n=pure c:=by unfold cellOf;rw[hc]
    have e0:(if ((n,NameKind.free).2==NameKind.free)=true then (do let a <- cellOf env (n,NameKind.free).1;pure (ForInStep.yield (((n,NameKind.free).1,a)::cR))) else pure (ForInStep.yield cR):Sem (ForInStep (List (Str×Addr))))=pure (ForInStep.yield ((n,c)::cR)):=by
     rw[ap (show (NameKind.free==NameKind.free)=true by decide)];show cellOf env n >>= _=_;rw[ec];rfl
    rw[e0];exact e1
   .cases hx:x==n with
    |true=>exact e3 x c (by rw[fu,hx])
    |false=>exact e3 x c' (by rw[fu,hx];exact h)
   .rcases cn.mp h with h|h
    .cases h;exact e3 n c (by rw[fu];simp)
    .exact e4 x h
  .obtain⟨cl,e1,e2,e3,e4⟩:=jV r cR (fun y hy=>hf y (b9 _ hy)) ha;refine⟨cl,?_,e2,e3,fun x h=>?_⟩
   .rw[List.forIn_cons];have hb:(k==NameKind.free)=false:=by simpa using hk
    have e0:(if ((n,k).2==NameKind.free)=true then (do let a <- cellOf env (n,k).1;pure (ForInStep.yield (((n,k).1,a)::cR))) else pure (ForInStep.yield cR):Sem (ForInStep (List (Str×Addr))))=pure (ForInStep.yield cR):=by
     rw[ak (by show ¬ (k==NameKind.free)=true;rw[hb];decide)]
    rw[e0];exact e1
   .rcases cn.mp h with h|h
    .cases h;exact absurd rfl hk
    .exact e4 x h
theorem jW(ok:X.Ok)(S:fT NB src scope X):
  ∃cl,closureFor scope X.env=pure cl/\(∀x c,cl.lookup x=some c->X.env.cells.lookup x=some c)/\∀x,(x,NameKind.free)∈scope.names->∃c,cl.lookup x=some c:=by
 obtain⟨cl,e1,e2,_,e4⟩:=jV (env:=X.env) scope.names [] (fun y hy hk=>ok.has y.1 (S.free y hy hk)) (fun x c h=>nomatch h);refine⟨cl,?_,e2,e4⟩;unfold closureFor;simp only[bind_pure];exact e1
theorem sq(h:scope.names.lookup x=some .free):(relabel scope env).names.lookup x=some .cell\/(relabel scope env).names.lookup x=some .free:=by
 have go:∀names:List (Str×NameKind),names.lookup x=some .free->
   (names.map fun (n,k)=>if (k==NameKind.free&&env.scope.kind==.function&&env.kindOf n==some .cell) then (n,NameKind.cell) else (n,k)).lookup x=some .cell\/
   (names.map fun (n,k)=>if (k==NameKind.free&&env.scope.kind==.function&&env.kindOf n==some .cell) then (n,NameKind.cell) else (n,k)).lookup x=some .free:=by
  intro names;induction names with
  |nil=>intro h;simp at h
  |cons y r ih=>
   intro h;obtain⟨n,k⟩:=y;rw[fu] at h;rw[cS];cases hx:x==n with
   |true=>
    rw[hx] at h;cases h;by_cases hc:(NameKind.free==NameKind.free&&env.scope.kind==.function&&env.kindOf n==some .cell)=true
    .left;show List.lookup x ((if _ then _ else _)::_)=_;rw[ap hc,fu,hx]
    .right;show List.lookup x ((if _ then _ else _)::_)=_;rw[ak hc,fu,hx]
   |false=>
    rw[hx] at h;by_cases hc:(k==NameKind.free&&env.scope.kind==.function&&env.kindOf n==some .cell)=true
    .show List.lookup x ((if _ then _ else _)::_)=_\/List.lookup x ((if _ then _ else _)::_)=_;rw[ap hc,fu,hx];exact ih h
    .show List.lookup x ((if _ then _ else _)::_)=_\/List.lookup x ((if _ then _ else _)::_)=_;rw[ak hc,fu,hx];exact ih h
 exact go scope.names h
theorem kD(h:(relabel scope env).names.lookup x=some k)(hk:k=.cell\/k=.free):(x,NameKind.free)∈scope.names\/(x,NameKind.cell)∈scope.names:=by
 have m:=l8 h;obtain⟨⟨n,k'⟩,hm,e⟩:=aW.mp m;by_cases q:(k'==NameKind.free&&env.scope.kind==.function&&env.kindOf n==some .cell)=true
 .have e':(n,NameKind.cell)=(x,k):=by simpa [q] using e
  have k1:k'=NameKind.free:=by
   simp only[gg,d5] at q;exact q.1.1
  cases e';left;rw[<-k1];exact hm
 .have e':(n,k')=(x,k):=by simpa [q] using e
  cases e';rcases hk with z|z
  .subst z;exact .inr hm
  .subst z;exact .inl hm
theorem lD:∀ (names:List (Str×NameKind)) (h:Heap) (cR:List (Str×Addr)) (x:Str) (c:Addr),(cellsFrom h.objs.size names cR).lookup x=some c->cR.lookup x=some c\/(h.objs.size<=c/\(pushCells h names).IsCell c none)
 |[],_,_,_,_,e=>.inl e
 |(name,kind)::r,h,cR,x,c,e=>by
  unfold cellsFrom at e;unfold pushCells;split at e
  .rename_i hk;rw[ap hk];have hsz:(h.push { cls:=.type "cell",data:=.cell none }).objs.size=h.objs.size+1:=jL ..;rw[<-hsz] at e;rcases lD r _ _ x c e with z|⟨z1,z2⟩
   .rw[fu] at z;cases hx:x==name with
    |true=>
     rw[hx] at z;cases z;exact .inr ⟨a8 _,_,pushCells_keeps r _ _ _ (dG _ rfl),rfl⟩
    |false=>rw[hx] at z;exact .inl z
   .exact .inr ⟨by lia,z2⟩
  .rename_i hk;rw[ak hk];exact lD r h cR x c e
theorem qe:∀ (names:List (Str×NameKind)) (n:Nat) (cR:List (Str×Addr)) (x:Str),(x,NameKind.cell)∈names->∃c,n<=c/\(cellsFrom n names cR).lookup x=some c:=by
 have up:∀ (names:List (Str×NameKind)) (n m:Nat) (cR:List (Str×Addr)) (x:Str) (c:Addr),cR.lookup x=some c->m<=c->m<=n->∃c',m<=c'/\(cellsFrom n names cR).lookup x=some c':=by
  intro names;induction names with
  |nil=>intro n m cR x c e h _;exact⟨c,h,e⟩
  |cons y r ih=>
   intro n m cR x c e h hm;obtain⟨name,kind⟩:=y;unfold cellsFrom;split
   .cases hx:x==name with
    |true=>exact ih (n+1) m _ x n (by rw[fu,hx]) hm (by lia)
    |false=>exact ih (n+1) m _ x c (by rw[fu,hx];exact e) h (by lia)
   .exact ih n m cR x c e h hm
 intro names;induction names with
 |nil=>intro n cR x h;cases h
 |cons y r ih=>
  intro n cR x h;obtain⟨name,kind⟩:=y;unfold cellsFrom;rcases cn.mp h with z|z
  .cases z;rw[ap (by decide)];exact up r (n+1) n _ x n (by rw[fu];simp) (a8 _) (by lia)
  .split
   .obtain⟨c,h1,h2⟩:=ih (n+1) ((name,n)::cR) x z;exact⟨c,by lia,h2⟩
   .exact ih n cR x z
theorem jb:∀ (names:List (Str×NameKind)) (n:Nat) (cR:List (Str×Addr)) (x:Str) (c:Addr),cR.lookup x=some c->(x,NameKind.cell)∉names->(cellsFrom n names cR).lookup x=some c
 |[],_,_,_,_,e,_=>e
 |(name,kind)::r,n,cR,x,c,e,h=>by
  have hr:(x,NameKind.cell)∉r:=fun z=>h (b9 _ z);unfold cellsFrom;split
  .rename_i hk;have t7:(x==name)=false:=by
    cases hx:x==name with
    |false=>rfl
    |true=>
     have e1:x=name:=by simpa using hx
     have e2:kind=.cell:=by simpa using hk
     exact absurd (by rw[e1,e2];exact cz) h
   exact jb r (n+1) _ x c (by rw[fu,t7];exact e) hr
  .exact jb r n cR x c e hr
theorem lE:∀ (names:List (Str×NameKind)) (n:Nat) (cR:List (Str×Addr)),(∀x y c,cR.lookup x=some c->cR.lookup y=some c->x=y)->(∀x c,cR.lookup x=some c->c<n)->∀x y c,(cellsFrom n names cR).lookup x=some c->(cellsFrom n names cR).lookup y=some c->x=y
 |[],_,_,hi,_=>hi
 |(name,kind)::r,n,cR,hi,hl=>by
  unfold cellsFrom;split
  .refine lE r (n+1) _ (fun x y c h1 h2=>?_) (fun x c h=>?_)
   .rw[fu] at h1 h2;cases hx:x==name <;> cases hy:y==name <;> rw[hx] at h1 <;> rw[hy] at h2
    .exact hi x y c h1 h2
    .cases h2;exact absurd (hl x _ h1) (g8 _)
    .cases h1;exact absurd (hl y _ h2) (g8 _)
    .have e1:x=name:=by simpa using hx
     have e2:y=name:=by simpa using hy
     rw[e1,e2]
   .rw[fu] at h;cases hx:x==name <;> rw[hx] at h
    .exact cF (hl x c h)
    .cases h;exact ki _
  .exact lE r n cR hi hl
section
variable {X:Cx} {ae:List (Addr×Obj)} {σ:St} {H:Hp} {s:Shared} {NB:List Str} {src:List (Option Nat)} {scope:Scope} {cl:List (Str×Addr)} {fp:List Addr} {h₁:Heap} {t₁:Nat}
theorem Ev(I:aM X ae σ H s)(S:fT NB src scope X)(c1:∀x c,cl.lookup x=some c->X.env.cells.lookup x=some c)(c2:∀x,(x,NameKind.free)∈scope.names->∃c,cl.lookup x=some c)(hf:∀b∈fp,kn X ae H b)(Mi:∀b∈fp,b<s.heap.objs.size){m:Str->Option Value}(hn:h₁.Ns s.heap.objs.size m)(hk:∀b o,s.heap.get? b=some o->h₁.get? b=some o)(uq:∀x c,(cellsFrom (s.heap.objs.size+1) scope.names cl).lookup x=some c->cl.lookup x=some c\/(s.heap.objs.size<c/\h₁.IsCell c none)):
  aM (yb X NB scope (cellsFrom (s.heap.objs.size+1) scope.names cl) s.heap.objs.size s H fp) [] (GQ src σ) H { s with heap:=h₁,toks:=t₁ }:=by
 have KH:∀b∈AH X.stack,b∈X.env.locals::X.fs:=I.rN;have BL:∀x c,cl.lookup x=some c->∃v,s.heap.IsCell c v:=fun x c e=>I.cell x c (c1 x c e);have Rj:∀x c,cl.lookup x=some c->c<s.heap.objs.size:=fun x c e=>by obtain⟨v,o,ho,_⟩:=BL x c e;exact bn ho
 refine⟨⟨I.ok.mod,S.kind,I.ok.glob,I.ok.blt,a8 _,lE _ _ _ (fun x y c e1 e2=>I.ok.inj x y c (c1 x c e1) (c1 y c e2)) (fun x c e=>cF (Rj x c e)),fun x hx=>?_,fun x c z e=>?_,I.ok.hd,I.ok.frames,.inl rfl,fun b hb=>⟨?_,fun x c e=>?_⟩,I.bs,a7 I.ok.DP I.sz,fun b o e hb=>?_,fun b hb=>?_,I.stack,I.xS⟩,
  rfl,I.bare,Un.kept hk,⟨m,hn,fun i x v e1 e2 e3=>?_⟩,fun x c e=>?_,I.ck.fresh (a8 _),fun x c e=>?_,fun p hp=>absurd (show p∈([]:List (Addr×Obj)) from hp) (by simp),I.ck.kept hk,?_⟩
 .have both:(x,NameKind.free)∈scope.names\/(x,NameKind.cell)∈scope.names:=by
   rcases hx with hx|hx
   .exact kD hx (.inl rfl)
   .exact kD hx (.inr rfl)
  by_cases hc:(x,NameKind.cell)∈scope.names
  .obtain⟨c,_,e⟩:=qe scope.names (s.heap.objs.size+1) cl x hc;exact⟨c,e⟩
  .rcases both with z|z
   .obtain⟨c,e⟩:=c2 x z;exact⟨c,jb _ _ _ _ _ e hc⟩
   .exact absurd z hc
 .have hm:=l8 (ut.mp z);obtain⟨c',h1,h2⟩:=qe scope.names (s.heap.objs.size+1) cl x hm;have e':(cellsFrom (s.heap.objs.size+1) scope.names cl).lookup x=some c:=e;rw[h2] at e';cases e';exact Nat.le_of_succ_le h1
 .exact aZ (Mi b hb)
 .rcases uq x c e with z|⟨z,_⟩
  .exact(hf b hb).2.2.2.2.1 x c (c1 x c z)
  .exact nY (rG (Mi b hb) z)
 .rcases(hf b hb).2.2.2.1 with z|z
  .exact I.ok.Bd b o e z
  .exact absurd (bN (bn e) (a7 I.ok.DP z)) (g8 _)
 .intro z;rcases cn.mp (KH b z) with e|e
  .exact(hf b hb).2.1 e
  .exact(hf b hb).2.2.1 e
 .obtain⟨j,hj,hv⟩:=Eu e2;obtain⟨hN,hF⟩:=S.src i x j e1 hj;obtain⟨m0,DV,Xi⟩:=I.loc;have uv:=l8 hF;have kx:=S.free _ uv rfl;have QV:Lo X.env.scope x:=by
   rcases kx with z|z
   .exact .inr (.inl z)
   .exact .inr (.inr z)
  obtain⟨u,r,l⟩:=Xi j x v hN hv QV;refine⟨u,r,.inr ⟨sq hF,?_⟩⟩;obtain⟨c,hc⟩:=c2 x uv;have Xj:(x,NameKind.cell)∉scope.names:=fun z=>by
   have:=S.cells _ z rfl;rw[hF] at this;cases this
  refine⟨c,jb _ _ _ _ _ hc Xj,?_⟩;rcases l with ⟨KM,_⟩|⟨_,c',e,z⟩
  .have Mj:X.env.scope.names.lookup x=some .local:=KM;rcases kx with z|z <;> (rw[z] at Mj;cases Mj)
  .rw[c1 x c hc] at e;cases e;obtain⟨o,ho,hd⟩:=z;exact⟨o,hk _ _ ho,hd⟩
 .rcases uq x c e with z|⟨_,z⟩
  .obtain⟨v,o,ho,hd⟩:=BL x c z;exact⟨v,o,hk _ _ ho,hd⟩
  .exact⟨none,z⟩
 .rcases uq x c e with z|⟨z,_⟩
  .exact I.jw x c (c1 x c z)
  .exact I.ck.fresh (iJ z)
 .show (GQ src σ).length=NB.length;unfold GQ;rw[aB];exact S.len
theorem aM.Ml(I:aM X ae σ H s)(J:aM (yb X NB scope cl C s H fp) [] σB H' s')(hf:∀b∈fp,kn X ae H b):aM X ae σ H' s':=by
 refine I.Lx (ch:=fp) J.os J.base J.ck J.bare fun b hb=>?_;obtain⟨_,f1,_,f3,f4,f5⟩:=hf b hb;exact⟨f3,f1,f4,f5⟩
end
def KN(X:Cx)(yc:List Expr)(t:TT):Prop:=
 ∀ (ae:List (Addr×Obj)) (s:Shared) (σ:St) (H:Hp) (Q:Bool->Hp->Prop),aM X ae σ H s->t σ H Q->
  wpAny (model X.prog X.w) X.A (forIn yc true fun c r=>if r=true then do let ok <- isTrue c X.env (eval c X.env);pure (ForInStep.yield ok) else pure (ForInStep.yield r)) (TP X ae σ Q) X.xe s
def Rk:TT:=fun _ H Q=>Q true H
theorem bX:KN X [] Rk:=fun _ _ _ H _ I h=>wpAny_tests_nil ⟨H,I,h⟩
theorem dO(h:PT X c t):KN X [c] t:=fun ae s σ H Q I q=>wpAny_tests_one (h ae s σ H Q I q)
def gH(J:It)(g:TG)(tt:TT)(te:TE)(D:Addr)(dN:Hp->Prop)(σB:St)(H1:Hp):Prop:=
 ∃W:Nat->Nat->St->Hp->Prop,(∃m,W 0 m σB H1)/\∀i m σ H,W i m σ H->(J.stop i H/\dN H)\/(J.go i H/\∀x H',J.KI i H x H'->g x σ H' fun σ2 H2=>tt σ2 H2 fun b H3=>
  if b=true then te σ2 H3 fun v H4=>∃ys,H4 D=some (.lst ys)/\ys.length<sizeLine/\∃m',m'<m/\W (i+1) m' σ2 (upd H4 D (.lst (ys++[v]))) else ∃m',m'<m/\W (i+1) m' σ2 H3)
theorem zO(hx:B.xe=fun _ _=>False)(hc:B.calm=true)(T:zA B.prog B.w B.K tg J fp it tn)(hg:PG B tg g)(ht:KN B yc tt)(he:PE B AN te)(I:aM B [] σB H1 s)(st:tn 0 s.heap)(hf:∀b∈fp,kn B [] H1 b)(hw:gH J g tt te D dN σB H1)(hR:∀σ' H' s',aM B [] σ' H' s'->dN H'->R (.ok .next) s'):
  codeAny (model B.prog B.w) B.A (.compLoop (.ListComp AN [⟨tg,iy,yc,0⟩] scope pos) 0 (.ref it) (.ref D) B.env) R s:=by
 obtain⟨W,⟨m0,w0⟩,Bm⟩:=hw;have wD:∀ {H':Hp},(∀b∈fp,H' b=none)->∀b∈fp,kn B [] H' b:=fun hn b hb=>⟨hn b hb,(hf b hb).2⟩
 refine codeAny_loop rfl (fun n s'=>∃i σ' H',aM B [] σ' H' s'/\tn i s'.heap/\(∀b∈fp,H' b=none)/\W i n σ' H') ?_ m0 ⟨0,σB,H1,I,st,fun b hb=>(hf b hb).1,w0⟩;rintro n s3 ⟨i,σ3,H3,I3,wE,HZ,w3⟩;show wpAny _ B.A ((compTurn (.ListComp AN [⟨tg,iy,yc,0⟩] scope pos) 0 (.ref it) (.ref D) B.env).onRaise (fun x=>do noteFrame x B.env;theTreesLotGoes x)) _ _ s3;refine wpAny_noted ?_;rw[compTurn_list];have nx:∀ {α:Type} {t:Sem α} {Q:α->Shared->Prop} {E':Value->Shared->Prop} {s:Shared},wpAny (model B.prog B.w) B.A t Q B.xe s->wpAny (model B.prog B.w) B.A t Q E' s:=fun h=>
  g9 h (fun _ _ q=>q) fun _ _ z=>by rw[hx] at z;exact z.elim
 rcases Bm i n σ3 H3 w3 with ⟨stop,qn⟩|⟨go,step⟩
 .refine aS (jM (aS (cs (T.done B rfl rfl rfl hc i [] s3 σ3 H3 _ I3 (wD HZ) wE stop) fun r s4 ⟨hr,I4⟩=>?_)));subst hr;exact wpAny_pure (hR σ3 H3 s4 I4 qn)
 .refine aS (jM (aS (cs (T.item B rfl rfl rfl hc i [] s3 σ3 H3 _ I3 (wD HZ) wE go) fun r s4 ⟨u,hr,h4⟩=>?_)));subst hr;refine aS (cs h4 fun _ s5 ⟨x,H5,I5,r5,y5,t4,QY⟩=>?_);have QZ:=I5.pinned (wD QY) (T.obj _ _ t4);refine aS (nx (cs (hg _ s5 σ3 H5 x u _ QZ r5 (step x H5 y5)) fun _ s6 ⟨σ6,H6,I6,q6⟩=>?_));have back:∀ {σ7:St} {H7:Hp} {s7:Shared} {m':Nat},aM B ([]++oh fp s5.heap) σ7 H7 s7->m'<n->W (i+1) m' σ7 H7->∃m,m<n/\∃i σ' H',aM B [] σ' H' s7/\tn i s7.heap/\(∀b∈fp,H' b=none)/\W i m σ' H':=fun {σ7 H7 s7 m'} I7 hm w7=>by
   refine⟨m',hm,i+1,σ7,H7,I7.kq,T.keep _ _ _ t4 fun b hb o e=>(I7.pin (b,o) (im _ (im _ (hX hb e)))).1,fun b hb=>?_,w7⟩;obtain⟨o,e,d⟩:=T.obj _ _ t4 b hb;exact(I7.pin (b,o) (im _ (im _ (hX hb e)))).2.1
  refine aS (nx (cs (ht _ s6 σ6 H6 _ I6 q6) fun ok s7 ⟨H7,I7,q7⟩=>?_));cases ok with
  |false=>
   rw[ak cm] at q7;obtain⟨m',hm,w7⟩:=q7;exact wpAny_pure ⟨rfl,back I7 hm w7⟩
  |true=>
   rw[ap rfl] at q7;refine aS (aS (nx (cs (he _ s7 σ6 H7 _ I7 q7) fun v s8 ⟨y,H8,I8,r8,ys,hD,hl,m',hm,w8⟩=>?_)));refine aS (nx (cs (bB _ s8 σ6 H8 (.ref D) [y] (.ref D) [v] (fun _ H9=>H9=upd H8 D (.lst (ys++[y]))) I8 rfl (.cons r8 .nil) ⟨D,ys,y,rfl,rfl,hD,hl,rfl⟩) fun _ s9 ⟨_,H9,I9,_,e9⟩=>?_));subst e9;exact wpAny_pure (wpAny_pure ⟨rfl,back I9 hm w8⟩)
theorem sr(hQ:Q { scope:=scope,locals:=s.heap.objs.size,globals:=globals,cells:=cellsFrom (s.heap.objs.size+1) scope.names cl,qual:=qual,func:=none,code:=outer.code,frame:=outer.frame,builtins:=outer.builtins }
   { s with heap:=pushCells (s.heap.push { cls:=.type "dict",data:=.dict #[] }) scope.names }):
  wpAny M A (newFunctionEnv scope globals cl [] qual none .none (some outer)) Q E s:=by
 simp only[newFunctionEnv,Option.isSome_some,if_true];refine aS (wpAny_alloc ?_);refine aS (wpAny_layCells _ (fun name kind cells=>by cases Xk:kind==NameKind.cell <;> simp[Xk]) _ _ _ _ ?_);rw[show ({ s with heap:=s.heap.push { cls:=.type "dict",data:=.dict #[] } }:Shared).heap.objs.size=s.heap.objs.size+1 from jL ..];refine aS ?_;rw[List.forIn_nil];exact wpAny_pure (wpAny_pure hQ)
section
variable {X:Cx} {AN tg iy:Expr} {yc:List Expr} {scope:Scope} {pos:Pos} {wi:TI} {g:TG} {tt:TT} {te:TE} {NB:List Str} {src:List (Option Nat)}
def GS(src:List (Option Nat))(wi:TI)(g:TG)(tt:TT)(te:TE):TE:=fun σ H Q=>wi σ H fun J H1=>∀D,H1 D=none->gH J g tt te D (fun H'=>Q (.ref D) H') (GQ src σ) (upd H1 D (.lst []))
theorem om{ae:List (Addr×Obj)}{σ:St}{H2:Hp}{s2:Shared}{J:It}{fp:List Addr}{it:Addr}{tn:Nat->Heap->Prop}{cl:List (Str×Addr)}{dN:Addr->Hp->Prop}{E':Value->Shared->Prop}{RR:Value->Addr->Result->Shared->Prop}(S:fT NB src scope X)(hc:X.calm=true)(c1:∀x c,cl.lookup x=some c->X.env.cells.lookup x=some c)(c2:∀x,(x,NameKind.free)∈scope.names->∃c,cl.lookup x=some c)(hg:∀cl C s₃ H₃ fp,PG (yb X NB scope cl C s₃ H₃ fp) tg g)(ht:∀cl C s₃ H₃ fp,KN (yb X NB scope cl C s₃ H₃ fp) yc tt)(he:∀cl C s₃ H₃ fp,PE (yb X NB scope cl C s₃ H₃ fp) AN te)(I2:aM X ae σ H2 s2)(T:zA X.prog X.w X.K tg J fp it tn)(wC:tn 0 s2.heap)(f2:∀b∈fp,kn X ae H2 b)(hw:∀D,H2 D=none->gH J g tt te D (dN D) (GQ src σ) (upd H2 D (.lst [])))(hR:∀D C H' s',kn X ae H' C->aM X ae σ H' s'->(∃m,s'.heap.Ns C m)->dN D H'->RR (.ref D) C (.ok .next) s'):
  wpAny (model X.prog X.w) X.A (newList []) (fun cR s₃=>wpAny (model X.prog X.w) X.A (newFunctionEnv scope X.env.globals cl [] X.env.qual none .none (some X.env)) (fun Mm s₄=>
   codeAny (model X.prog X.w) X.A (.compStart (.ListComp AN [⟨tg,iy,yc,0⟩] scope pos) 0 (.ref it) cR { Mm with scope:=relabel scope X.env }) (RR cR Mm.locals) s₄) E' s₃) E' s2:=by
 refine wpAny_newObj_type (sr ?_);have I3:=I2.Il (ys:=[]) (its:=[]) (t':=s2.toks) .nil (c_ _);have hD:H2 s2.heap.objs.size=none:=I2.fresh;have fo:∀b∈fp,b<s2.heap.objs.size:=fun b hb=>by obtain⟨o,e,_⟩:=T.obj _ _ wC b hb;exact bn e
 have up:∀ {b:Addr},b∈fp->upd H2 s2.heap.objs.size (.lst []) b=H2 b:=fun {b} hb=>am (aZ (fo b hb));have f3:∀b∈fp,kn X ae (upd H2 s2.heap.objs.size (.lst [])) b:=fun b hb=>⟨by rw[up hb];exact(f2 b hb).1,(f2 b hb).2⟩
 have hsz:(s2.heap.push { cls:=.type "list",data:=.seq ([]:List Value).toArray }).objs.size=s2.heap.objs.size+1:=by rw[jL]
 generalize Mn:({ s2 with heap:=s2.heap.push { cls:=.type "list",data:=.seq ([]:List Value).toArray } }:Shared)=s3 at I3 |-;have Vf:s3.heap=s2.heap.push { cls:=.type "list",data:=.seq ([]:List Value).toArray }:=by rw[<-Mn]
 have Vg:∀b∈fp,b<s3.heap.objs.size:=fun b hb=>by rw[Vf,hsz];exact cF (fo b hb)
 have Mo:(s3.heap.push { cls:=.type "dict",data:=.dict #[] }).objs.size=s3.heap.objs.size+1:=jL ..;have uq:∀x c,(cellsFrom (s3.heap.objs.size+1) scope.names cl).lookup x=some c->cl.lookup x=some c\/(s3.heap.objs.size<c/\(pushCells (s3.heap.push { cls:=.type "dict",data:=.dict #[] }) scope.names).IsCell c none):=fun x c e=>by
  rw[<-Mo] at e;rcases lD _ _ _ _ _ e with z|⟨z1,z2⟩
  .exact .inl z
  .exact .inr ⟨by rw[Mo] at z1;exact z1,z2⟩
 have Mp:=(Heap.Ns.new s3.heap (.type "dict")).keeps (pushCells_keeps scope.names _);have keep:∀b o,s3.heap.get? b=some o->(pushCells (s3.heap.push { cls:=.type "dict",data:=.dict #[] }) scope.names).get? b=some o:=fun b o e=>pushCells_keeps _ _ b o (cw _ e);generalize hh1:pushCells (s3.heap.push { cls:=.type "dict",data:=.dict #[] }) scope.names=h₁ at uq Mp keep |-;have IB:aM (yb X NB scope (cellsFrom (s3.heap.objs.size+1) scope.names cl) s3.heap.objs.size s3 (upd H2 s2.heap.objs.size (.lst [])) fp) [] (GQ src σ) (upd H2 s2.heap.objs.size (.lst [])) { s3 with heap:=h₁,toks:=s3.toks }:=
  Ev I3 S c1 c2 f3 Vg Mp keep uq
 have Vh:tn 0 h₁:=T.keep 0 s2.heap h₁ wC fun b hb o e=>keep b o (by rw[Vf];exact cw _ e);have fB:∀b∈fp,kn (yb X NB scope (cellsFrom (s3.heap.objs.size+1) scope.names cl) s3.heap.objs.size s3 (upd H2 s2.heap.objs.size (.lst [])) fp) [] (upd H2 s2.heap.objs.size (.lst [])) b:=fun b hb=>by
  refine⟨(f3 b hb).1,aZ (Vg b hb),fun z=>?_,.inl hb,fun x c e=>(IB.ok.QF b hb).2 x c e,fun p hp=>absurd (show p∈([]:List (Addr×Obj)) from hp) (by simp)⟩;rcases cn.mp (I3.rN b z) with e|e
  .exact(f3 b hb).2.1 e
  .exact(f3 b hb).2.2.1 e
 have loop:codeAny (model X.prog X.w) X.A (.compLoop (.ListComp AN [⟨tg,iy,yc,0⟩] scope pos) 0 (.ref it) (.ref s2.heap.objs.size) (compEnvC scope (cellsFrom (s3.heap.objs.size+1) scope.names cl) s3.heap.objs.size X.env)) (RR (.ref s2.heap.objs.size) s3.heap.objs.size)
   { s3 with heap:=h₁,toks:=s3.toks }:=by
  refine zO (B:=yb X NB scope (cellsFrom (s3.heap.objs.size+1) scope.names cl) s3.heap.objs.size s3 (upd H2 s2.heap.objs.size (.lst [])) fp) rfl hc T (hg _ _ _ _ _) (ht _ _ _ _ _) (he _ _ _ _ _) IB Vh fB (hw _ hD) fun σ' H' s' J' q=>?_;obtain⟨m,hm,_⟩:=J'.loc;exact hR _ _ H' s' (I3.Ee (a8 _) J'.free) (I3.Ml J' f3) ⟨m,hm⟩ q
 exact codeAny_compStart_list loop (T.self _ 0 _ _ _ Vh loop)
theorem bt(S:fT NB src scope X)(hc:X.calm=true)(hi:PI X tg iy wi)(hg:∀cl C s₃ H₃ fp,PG (yb X NB scope cl C s₃ H₃ fp) tg g)(ht:∀cl C s₃ H₃ fp,KN (yb X NB scope cl C s₃ H₃ fp) yc tt)(he:∀cl C s₃ H₃ fp,PE (yb X NB scope cl C s₃ H₃ fp) AN te)(hs:∀x,foldedSetIterable iy X.env x=pure x:=by intro _;rfl):PE X (.ListComp AN [⟨tg,iy,yc,0⟩] scope pos) (GS src wi g tt te):=by
 intro ae s σ H Q I h;obtain⟨cl,KO,c1,c2⟩:=jW I.ok S;rw[eval_ListComp];refine wpAny_comprehension_free (use:=none) (cl:=cl) rfl hs KO S.kind S.names (cs (hi ae s σ H _ I h) fun v s1 h1=>cs h1 fun Pm s2 h2=>?_);obtain⟨it,fp,tn,J,H2,e,I2,T,wC,f2,hw⟩:=h2;subst e;refine om (RR:=fun cR C=>compPost (model X.prog X.w) X.A X.xe none (EP X ae σ Q) cR C) S hc c1 c2 hg ht he I2 T wC f2 hw fun D C H' s' fC I' hm q=>?_;obtain⟨m,hm⟩:=hm;refine⟨m,hm,fun h' sb=>⟨.ref D,H',?_,rfl,q⟩⟩;obtain⟨g0,g1,_,g3,g4,g5⟩:=fC;exact I'.turned (t':=s'.toks) (fun b o hb e=>(sb.2 b hb).trans e) g0 g1 g3 g4 g5
theorem eQ{i:Nat}{y:Str}{py Mq:Pos}(S:fT NB src scope X)(hc:X.calm=true)(hi:PI X tg iy wi)(hg:∀cl C s₃ H₃ fp,PG (yb X NB scope cl C s₃ H₃ fp) tg g)(ht:∀cl C s₃ H₃ fp,KN (yb X NB scope cl C s₃ H₃ fp) yc tt)(he:∀cl C s₃ H₃ fp,PE (yb X NB scope cl C s₃ H₃ fp) AN te)(hN:X.N.Nodup)(Xl:X.N[i]?=some y)(hy:X.env.scope.names.lookup y=some .local)(Xm:swapsWith (.ListComp AN [⟨tg,iy,yc,0⟩] scope pos) (some (.Name y py)) Mq.line X.env=pure true)(hs:∀x,foldedSetIterable iy X.env x=pure x:=by intro _;rfl):
  PS X (.Assign [.Name y py] (.ListComp AN [⟨tg,iy,yc,0⟩] scope pos) Mq) (Ed (GS src wi g tt te) (bb i)):=by
 intro ae s σ H D0 I h;obtain⟨cl,KO,c1,c2⟩:=jW I.ok S;rw[exec_Assign_Name_used _ _ _ _ Xm];refine aS (jM (aS ?_));show wpAny _ X.A (do let _ <- comprehension (.ListComp AN [⟨tg,iy,yc,0⟩] scope pos) scope X.env _ (newList []) false (eval iy X.env) (some (assign (.Name y py) X.env))) _ _ s;refine aS (g9 (wpAny_comprehension_free (use:=some (assign (.Name y py) X.env)) (Q:=fun _ s'=>SP X ae D0 .next s') (cl:=cl) rfl hs KO S.kind S.names
  (cs (hi ae s σ H _ I h) fun v s1 h1=>cs h1 fun Pm s2 h2=>?_)) (fun _ s' hq=>wpAny_pure (wpAny_pure hq)) fun _ _ e=>e)
 obtain⟨it,fp,tn,J,H2,e,I2,T,wC,f2,hw⟩:=h2;subst e;refine om (RR:=fun cR C=>compPost (model X.prog X.w) X.A X.xe (some (assign (.Name y py) X.env)) (fun _ s'=>SP X ae D0 .next s') cR C) S hc c1 c2 hg ht he I2 T wC f2 hw fun D C H' s' fC I' hm q=>?_;obtain⟨m,hm⟩:=hm;obtain⟨g0,g1,_,g3,g4,g5⟩:=fC;show wpAny _ X.A (assign (.Name y py) X.env (.ref D)) _ _ _;refine wpAny_assign_Name (pR I' hN Xl (.inl hy) (v:=.ref D) rfl (fun L8 Xn sb=>?_) (.inr hy));obtain⟨a,sb,ha⟩:=sb;have t7:C≠a:=by
  rcases ha with z|z
  .rw[z];exact g1
  .exact fun z'=>g4 y a z z'.symm
 refine⟨m,hm.sameBut sb t7,fun h' Xo=>⟨_,H',Xn.turned (t':=L8.toks) (fun b o hb e=>(Xo.2 b hb).trans e) g0 g1 g3 g4 g5,q⟩⟩
end
section
variable {P:Program} {w:World} {K:PySem.W.Frag} {mg:Str->Option Value} {base:Heap} {N:List Str} {qual:Str} {scope:Scope} {f:Addr} {cd:Value} {A:Around} {outer:List Env} {s:Shared} {H:Hp} {E:XK}
end
open PySem PySem.Spec PyProof.Rows PySem.W
abbrev Xp:List Value:=[.type "ValueError",.type "Exception",.type "BaseException",.type "object"]
structure zP(K:PySem.W.Frag)(C:Addr):Prop where
 ex:PySem.W.excIn K C Xp "ValueError.__new__"=true
 kp:PySem.W.keepIn K (.ref C)=true
 ga:PySem.W.findIn K (.ref C) "__getattribute__"=some (some (.builtin "BaseException.__getattribute__"))
 gt:PySem.W.findIn K (.ref C) "__getattr__"=some none
 cl:PySem.W.findIn K (.ref C) "__class__"=some (some (.builtin "object.__class__"))
 mo:PySem.W.mroIn K C (.type "object")=some true
 mb:PySem.W.mroIn K C (.type "BaseException")=some true
 ty:(PySem.W.clsIn K C).isSome=true
def Rl(p:Addr)(C:Value)(h:Heap):Prop:=∃o,h.get? p=some o/\o.cls=C
abbrev Rm(p:Addr)(C:Value):HO:=.ext (Rl p C)
theorem bU.get(x:bU P w H h a o):∃u,h.get? a=some u:=by
 cases o with
 |lst xs=>obtain⟨_,_,_,_,e⟩:=x;exact⟨_,e⟩
 |tup xs=>obtain⟨_,_,_,ob,e,_⟩:=x;exact⟨_,e⟩
 |dK be=>obtain⟨_,_,_,_,o,_,_,e,_⟩:=x;exact⟨_,e⟩
 |dT be=>obtain⟨_,_,_,_,o,_,_,e,_⟩:=x;exact⟨_,e⟩
 |set S n=>obtain⟨o,_,_,_,e,_⟩:=x;exact⟨_,e⟩
 |ins C dx fs=>obtain⟨_,_,_,e,_⟩:=x;exact⟨_,e⟩
 |own y=>exact x
 |xd fs=>obtain⟨_,⟨_,_,_,e,_⟩,_⟩:=x;exact⟨_,e⟩
 |Ba lo hi=>obtain⟨_,_,_,e⟩:=x;exact⟨_,e⟩
 |tZ ob u=>obtain⟨e,_⟩:=x;exact⟨_,e⟩
 |my ps=>exact⟨_,(show h.get? a=some _ from x)⟩
 |met f y=>exact⟨_,(show h.get? a=some _ from x)⟩
 |ext φ=>exact x.2.1
theorem jv.oo(x:jv P w H h)(e:h.get? a=none):H a=none:=by
 cases q:H a with
 |none=>rfl
 |some u=>obtain⟨o,z⟩:=(x a u q).get;rw[e] at z;cases z
theorem aM.yd(I:aM X ae σ H s)(k:∀b u,s.heap.get? b=some u->h'.get? b=some u)(hp:s.heap.get? a=none)(new:bU X.prog X.w (upd H a o) h' a o):
  aM X ae σ (upd H a o) { s with heap:=h',toks:=t' }:=by
 have hn:=I.ck.oo hp;have ne:∀b u,s.heap.get? b=some u->b≠a:=fun b u e z=>by rw[z,hp] at e;cases e
 refine I.un ⟨fun b u e _ _ _=>k b u e,fun b u e _ _ _=>⟨u.slots,k b u e⟩,fun b u e n _=>by rw[am (ne b u e)];exact n,fun b u e _=>⟨u,k b u e⟩,fun b xs e=>by rw[am (ai e hn)];exact e,fun b u v e=>by rw[am (ai e hn)];exact e,fun b ps e=>⟨#[],by rw[am (ai e hn),e];simp⟩⟩ fun b u e=>?_;by_cases hb:b=a
 .subst hb;rw[ab] at e;cases e;exact new
 .rw[am hb] at e;exact(I.ck b u e).ud (fun c v _ q=>k c v q) (fun c q=>by rw[am (ai q hn)];exact q) fun c xs q=>by rw[am (ai q hn)];exact q
section
variable {prog:Program} {w:World} {A:Around} {E:Value->Shared->Prop} {s:Shared} {K:PySem.W.Frag} {x C:Addr} {ox:Obj}
theorem ye(hx:h.get? x=some ox)(hc:ox.cls=.ref C):PySem.W.Looks M h (typeOf (.ref x)) (.ref C):=hc ▸ (PySem.W.Looks.ld hx).andThen .now
open Builtin Builtin.ObjectAttr Builtin.Getset_descriptor in
theorem wR(X:K.In s.heap)(hx:s.heap.get? x=some ox)(hc:ox.cls=.ref C)(hm:PySem.W.mroIn K C (.type "object")=some true)(h:R (.ok (.ret (.ref C))) s):codeAny (model prog w) A (.call (.builtin "getset_descriptor.__get__") ⟨[.builtin "object.__class__",.ref x,tp],[]⟩) R s:=by
 obtain⟨hh,g,dr,t,os⟩:=s;have L0:=ye (M:=model prog w) hx hc;have L1:=looks_mroIn (M:=model prog w) X hm;refine wb KF.slot_gs.plain KF.entry_gs (KF.slot_gs.check _ _ _ _ _ _ _ _ KF.type_class (KF.args_gs _ _ _) ?_);unfold Builtin.«getset_descriptor.__get__» descrGet;rw[dga_obj];refine aS (wpAny_pure ?_);unfold descrGetter descrCheckInstance descrNameAndClass isInstance;simp only[KF.owner_class];repeat lk
 refine⟨Code.quiet_builtin _ (by decide +kernel),rA KF.entry_class ?_⟩;unfold Builtin.«object.__class__» shownTypeOf;repeat lk
 exact h
theorem zQ{g d t os}(T:zP K C)(X:K.In h)(hx:h.get? x=some ox)(hc:ox.cls=.ref C)(hq:Q (.done (.ret (.ref C))) ⟨h,g,d,t,os⟩):
  wpAny (model prog w) A (Builtin.«object.__getattribute__» ⟨[.ref x,.str "__class__" tk],[]⟩) Q E ⟨h,g,d,t,os⟩:=by
 have f5:=F.typeOf_bexc_args;have hT5:(⟨h,g,d,t,os⟩:Shared).TypeIs (.builtin "object.__class__") "getset_descriptor":=A0;have f5':=A0;have f6:=F.slot_gs_get.lookup;have f7:=F.slot_gs_set.lookup;have L1:=looks_findIn (M:=model prog w) X T.cl;repeat (any_goals (first|assumption|(with_reducible refine wv hx ?_;rw[hc])|with_reducible refine L1.at ?_|wp_step))
 refine wR (s:=⟨h,g,d,t,os⟩) X hx hc T.mo ?_;repeat (any_goals (first|assumption|wp_step))
theorem zR{g d t os}(T:zP K C)(X:K.In h)(hx:h.get? x=some ox)(hc:ox.cls=.ref C)(hq:Q () ⟨h,g,d,t,os⟩):
  wpAny M A (checkBuiltinCall "BaseException.__getattribute__" ⟨[.ref x,Mr],[]⟩) Q E ⟨h,g,d,t,os⟩:=by
 have hk:builtinKind "BaseException.__getattribute__"=some .slot:=by decide +kernel
 have Io:splitId "BaseException.__getattribute__"=some ("BaseException","__getattribute__"):=by decide +kernel
 have ha:=F.args_bexc_ga (.ref x) Mr;have L1:=looks_mroIn (M:=M) X T.mb;simp only[checkBuiltinCall,hk,Io];refine aS ?_
 .unfold isInstance;repeat (first|(with_reducible refine wv hx ?_;rw[hc])|with_reducible refine L1.at ?_|wp_step)
  exact hq
theorem Ip{tk:Tok}{fill Eh:Bool}{Q:Value->Shared->Prop}{h:Heap}{g d t os}(T:zP K C)(X:K.In h)(hx:h.get? x=some ox)(hc:ox.cls=.ref C)(hq:Q (.ref C) ⟨h,g,d,t,os⟩):
  wpAny (model prog w) A (getAttrBy (.ref x) (.str "__class__" tk) fill Eh) Q E ⟨h,g,d,t,os⟩:=by
 have f3:=F.attr_ValueError.ga.bind (.ref x);have hx0:(Eh&&onTheHeap (Value.builtin "BaseException.__getattribute__"))=false:=by cases Eh <;> rfl
 have Xq:(Value.builtin "BaseException.__getattribute__"==Value.builtin "object.__getattribute__")=false:=by decide +kernel
 have hx1:(onTheHeap (Value.ref C)&&Value.builtin "BaseException.__getattribute__"==Value.builtin "object.__getattribute__")=false:=by rw[Xq];rfl
 have L1:=looks_findIn (M:=model prog w) X T.ga;have L2:=looks_findIn (M:=model prog w) X T.gt;repeat (any_goals (first|assumption|(with_reducible refine wv hx ?_;rw[hc])|with_reducible refine L1.at ?_|with_reducible refine L2.at ?_|wp_step))
 refine wb F.attr_ValueError.ga.plain F.entry_bexc_ga (zR T X hx hc (zQ T X hx hc ?_));repeat (any_goals (first|assumption|wp_step))
theorem BM{Q:Option Value->Shared->Prop}{h:Heap}{g d t os}(T:zP K C)(X:K.In h)(hx:h.get? x=some ox)(hc:ox.cls=.ref C)(hq:Q (some (.ref C)) ⟨h,g,d,t+1,os⟩):
  wpAny (model prog w) A (getAttr? (.ref x) "__class__") Q E ⟨h,g,d,t,os⟩:=by
 unfold getAttr?;repeat (any_goals (first|assumption|with_reducible apply Ip T X hx hc|wp_step))
theorem BN(T:zP K C):PySem.W.KitX K (.ref x) (.ref C) (Rl x (.ref C)) where
 ty:=fun _ _ _ ⟨o,e,c⟩=>ye e c
 it:=fun _ _ X _=>by
  obtain⟨Xr,Ej⟩:=qQ.mp T.ty;unfold clsIn at Ej;split at Ej
  .rename_i c' d' Xs QI ho;intro A' Q' E' s' k q;unfold isType loadHead;exact aS (wpAny_loadPart (k _ _ (X _ _ ho)) (wpAny_pure q))
  .cases Ej
 ne:=fun h tp dd its n sl X Xt=>by
  obtain⟨Xr,Ej⟩:=qQ.mp T.ty;refine wm.mpr fun q=>?_;have e:C=tp:=Value.ref.inj (d5.mp q);subst e;unfold clsIn at Ej;split at Ej
  .rename_i c' d' Xs QI ho;have z:=(X _ _ ho).symm.trans Xt;cases z
  .cases Ej
 ca:=fun {_ _ _ _ _ s} X ⟨o,e,c⟩ k=>by
  obtain⟨h,g,d,t,os⟩:=s;exact BM T X e c k
end
section
variable {X:Cx}
inductive KP (K:PySem.W.Frag) (H:Hp):V->Value->Prop where
 |of {v:V} {t:Value} (h:lB K H v t):KP K H v t
 |exc {p C:Addr} (T:zP K C) (e:H p=some (Rm p (.ref C))):KP K H (.ref p) (.ref C)
def Rn(K:PySem.W.Frag):List V->Hp->VK->Prop:=fun xs H Q=>∃x c cv t b,xs=[x,c]/\(c=.ty cv/\PySem.W.kitOne K t (.type cv)=some b)/\KP K H x t/\Q (.bl b) H
theorem fU:eM X (.builtin "isinstance") (Rn X.K):=by
 intro ae s σ H xs us Q I r h;obtain⟨x,c,cv,t,b,rfl,⟨rfl,e⟩,ty,q⟩:=h;obtain⟨u1,u2,rfl,r1,r2⟩:=r.two;obtain rfl:u2=Value.type cv:=r2;cases ty with
 |of ty=>exact zH I r1 ty e fun tk=>⟨.bl b,H,I.tok tk,rfl,q⟩
 |@exc p C T ea=>
  obtain rfl:u1=Value.ref p:=r1;have p1:Rl p (.ref C) s.heap:=(I.ck p _ ea).1;exact ip (BN T) I.mB p1 e (fun z=>nomatch z) fun tk=>⟨.bl b,H,I.tok tk,rfl,q⟩
end
section
variable {X:Cx} {x:Str} {C:Addr} {np r_ pos:Pos} {e:Expr} {es:List Expr} {t:TA}
end
section
variable {X:Cx} {CX:uk} {k:Nat} {f C:Addr} {fd:FuncData} {ps:List Str} {sp:Sp} {pB:List V} {ds:List Value} {E:St->XK} {x m:Str} {p pos rZ:Pos} {e o:Expr} {es:List Expr} {ta:TE} {t:TA}
end
section
variable {X:Cx} {CX:uk} {k:Nat} {f:Addr} {fd:FuncData} {ps:List Str} {sp:Sp} {pB:List V} {ds:List Value} {E:XK} {x:Str} {p pos:Pos} {e:Expr} {es:List Expr} {t:TA}
end
section
variable {P:Program} {w:World} {K:PySem.W.Frag} {mg:Str->Option Value} {base:Heap}
end
section
variable {X:Cx} {ae:List (Addr×Obj)} {σ:St} {H:Hp} {s:Shared}
end
theorem Ew{h:Heap}{a:Addr}{m m':Str->Option Value}(x:h.Ns a m)(y:h.Ns a m'):m=m':=by
 obtain⟨o,es,ep,e,d,_,q⟩:=x;obtain⟨o',vC,Pj,e',d',_,q'⟩:=y;rw[e] at e';cases e';rw[d] at d';cases d';funext z;rw[<-q z,q' z]
theorem aM.Ms{X:Cx}{ae:List (Addr×Obj)}{σ:St}{H:Hp}{s:Shared}{h':Heap}{m:Str->Option Value}{D:Addr}{o:HO}{t':Nat}(I:aM X ae σ H s)(F:Fr X.base X.env.locals s.heap m)(F':Fr X.base X.env.locals h' m)(N':News X.base X.env.locals h' (g_ X.base s.heap X.env.locals))(hD:s.heap.get? D=none)(new:bU X.prog X.w (upd H D o) h' D o):aM X ae σ (upd H D o) { s with heap:=h',toks:=t' }:=by
 have hn:=I.ck.oo hD;have ne:∀b u,s.heap.get? b=some u->b≠D:=fun b u e z=>by rw[z,hD] at e;cases e
 have keep:∀b u,b≠X.env.locals->s.heap.get? b=some u->h'.get? b=some u:=fun b u hb e=>by
  cases q:X.base.get? b with
  |some v=>
   have:=I.bk b v q;rw[e] at this;cases this;exact F'.keep b _ q
  |none=>exact(N' (b,u) (iM hb q e)).1
 refine I.step (g':=s.gens) (d':=s.drawn) (ch:=[]) (fun _ z=>absurd z (by simp)) (fun b u hb _ _ e _=>keep b u hb e) (fun b u hb _ _ e _=>⟨u.slots,keep b u hb e⟩) (fun b u _ e n=>by rw[am (ne b u e)];exact n) (fun b u _ e=>?_)
  (fun b xs e=>by rw[am (ai e hn)];exact e) (fun b u v e=>by rw[am (ai e hn)];exact e) (fun b ps e=>⟨#[],by rw[am (ai e hn),e];simp⟩) (fun m1 hm=>by rw[Ew hm F.ns];exact F'.ns) (fun b u e=>?_) I.bare
 .by_cases hb:b=X.env.locals
  .obtain⟨o',_,_,q,_⟩:=F'.ns;exact⟨o',by rw[hb];exact q⟩
  .exact⟨u,keep b u hb e⟩
 .by_cases hb:b=D
  .subst hb;rw[ab] at e;cases e;exact new
  .rw[am hb] at e;refine(I.ck b u e).ud (fun c v hc q=>keep c v ?_ q) (fun c q=>by rw[am (ai q hn)];exact q) fun c xs q=>by rw[am (ai q hn)];exact q
   rintro rfl;rcases hc with z|hc
   .have f:=I.free;rw[z,e] at f;cases f
   .rw[I.free] at hc;cases hc
theorem pE(I:aM X ae σ H s)(N:News X.base X.env.locals h' ((D,o)::g_ X.base s.heap X.env.locals))(fw:∀q∈g_ X.base s.heap X.env.locals,q.1<D):s.heap.get? D=none:=by
 cases e:s.heap.get? D with
 |none=>rfl
 |some u=>
  obtain⟨_,n1,n2⟩:=N (D,o) cz;exact absurd (fw (D,u) (iM n1 n2 e)) (g8 _)
def BO(K:PySem.W.Frag)(H:Hp)(a:Addr)(y:Int×Int):Prop:=bZ K H a [.int y.1,.int y.2]
section
variable {X:Cx}
theorem wS(I:aM X ae σ H s)(h:BO X.K H a y):∃o n t u,s.heap.get? a=some o/\o.cls=.type "tuple"/\o.data=.seq #[.int y.1 t,.int y.2 u] n:=by
 obtain⟨its,r,p,_⟩:=I.tuple h;obtain⟨u1,u2,rfl,r1,r2⟩:=r.two;obtain⟨t,rfl⟩:=r1;obtain⟨t',rfl⟩:=r2;obtain⟨o,e,c,n,d⟩:=p;exact⟨o,n,t,t',e,c,d⟩
end
def Iq(hs:Array Int)(i:Nat):Int:=(hs[i]?).getD 0
def eY(hs:Array Int)(t:SetTable)(h:Int):Option (Array Int×SetTable):=
 if t.gaveWay then none else
 match t.probe (Iq hs) h (t.probeStart h) with
 |some (.empty j none)=>
  let q:=t.put j
  let BP:=SetTable.insertAt hs q.2 h
  if q.1.fits BP.size&&decide (BP.size<=4096) then
   if q.1.tooFull then
    (match q.1.relaid BP (SetTable.grown (hs.size+1)) with
    |some (t2,ir)=>
     let t3:=ir.filterMap (BP[·]?)
     if t3.size==BP.size&&t2.fits t3.size&&decide (SetTable.sizeAbove (SetTable.grown (hs.size+1))<=4096) then some (t3,t2) else none
    |none=>none)
   else some (BP,q.1)
  else none
 |_=>none
def su(led:Bool):List Int->Option (Array Int×SetTable):=fun l=>l.foldlM (fun q h=>eY q.1 q.2 h) (#[],SetTable.fresh 0 0 led)
def iR(h:Heap)(S:Addr)(hs:Array Int)(t:SetTable):Prop:=∃o es ep,h.get? S=some o/\o.cls=.type "set"/\(o.dict=none/\o.slots=#[])/\o.data=.set es ep t/\es.map (·.1)=hs/\t.fits es.size=true
section
variable {prog:Program} {w:World} {A:Around} {E:Value->Shared->Prop} {s:Shared} {S:Addr}
theorem Ir(es:Array (Int×Value)):(fun i=>(es[i]?.map (·.1)).getD 0)=Iq (es.map (·.1)):=by
 funext i;unfold Iq;rw[Array.getElem?_map]
theorem kE(es:Array (Int×Value))(p:Nat)(x:Int×Value):(SetTable.insertAt es p x).map (·.1)=SetTable.insertAt (es.map (·.1)) p x.1:=by
 unfold SetTable.insertAt;simp
theorem lF(es:Array (Int×Value))(ir:Array Nat):(ir.filterMap (es[·]?)).map (·.1)=ir.filterMap ((es.map (·.1))[·]?):=by
 apply Array.ext';rw[re,qV,qV,List.map_filterMap];congr 1;funext i;rw[Array.getElem?_map]
theorem wT(hS:iR s.heap S hs t)(hg:t.gaveWay=false)(hp:t.probe (Iq hs) h (t.probeStart h)=some (.empty j none))(q:Q (.free j false) s):
  wpAny (model prog w) A (setSearch S x h true) Q E s:=by
 obtain⟨o,es,ep,ho,hc,Vi,hd,hm,hf⟩:=hS;unfold setSearch setSearchFrom;refine aS (rf ho hd hf ?_);dsimp only;rw[hg,ak cm];have KQ:t.probe (fun i=>(es[i]?.map (·.1)).getD 0) h (t.probeStart h)=some (.empty j none):=by rw[Ir,hm];exact hp
 refine aS (wpAny_pure ?_);erw[KQ];exact wpAny_pure q
theorem zS(ho:s.heap.get? a=some o)(hc:o.cls=.type "tuple")(hd:o.data=.seq #[.int x t,.int y u] n)(q:Q true s):
  wpAny (model prog w) A (hashByValue 8 (.ref a)) Q E s:=by
 have hT:s.TypeIs (.ref a) "tuple":=⟨_,ho,hc⟩
 unfold hashByValue;refine aS (wpAny_specialOf hT PySem.F.slot_tuple_hash.lookup ?_);refine aS (wpAny_seqItems ho hd ?_);refine aS ?_;show wpAny _ _ (forIn #[Value.int x t,Value.int y u] _ _) _ _ s;rw[<-Array.forIn_toList];refine wpAny_forIn_list _ (fun km r s'=>r.1=none/\s'=s/\∀v∈km,∃z k,v=Value.int z k) _ ?_ ?_ _ _ ⟨rfl,rfl,fun v hv=>?_⟩
 .rintro v km r s' ⟨hr,rfl,pD⟩;obtain⟨z,k,rfl⟩:=pD v cz;refine aS (wpAny_pure ?_);exact wpAny_pure ⟨rfl,rfl,fun u' o_=>pD u' (b9 _ o_)⟩
 .rintro⟨r1,r2⟩ s' ⟨hr,rfl,_⟩;have dh:r1=none:=hr;subst dh;exact wpAny_pure q
 .rcases cn.mp hv with z|z
  .exact⟨_,_,z⟩
  .rcases cn.mp z with z|z
   .exact⟨_,_,z⟩
   .cases z
theorem yf(hS:iR s.heap S hs t)(hf:t'.fits vC.size=true)(hz:vC.size<=4096)(q:∀h',Heap.SameBut S s.heap h'->iR h' S (vC.map (·.1)) t'->Q () { s with heap:=h' }):wpAny (model prog w) A (storeSet S vC t') Q E s:=by
 obtain⟨o,es,ep,ho,hc,Vi,hd,hm,_⟩:=hS;refine wpAny_storeSet_of ho hd (q _ (Heap.SameBut.update s.heap S (Obj.putSet vC t')) ?_) (a7 hz (by decide));have g:=Heap.get?_update_self (Obj.putSet vC t') ho (by rw[putSet_of vC t' hd];rfl);rw[putSet_of vC t' hd] at g;exact⟨_,vC,ep+1,g,hc,Vi,rfl,rfl,hf⟩
theorem Ex(hu:A.units<cLine)(hS:iR s.heap S hs t)(ho:s.heap.get? a=some o)(hc:o.cls=.type "tuple")(hd:o.data=.seq #[.int x tx,.int y ty] n)(t7:a≠S)(jT:eY hs t (tupleKeyHash (intKind prog w) [x,y])=some (hs',t'))(q:∀h' tk,Heap.SameBut S s.heap h'->iR h' S hs' t'->Q true { s with heap:=h',toks:=tk }):wpAny (model prog w) A (setAdd S (.ref a)) Q E s:=by
 have hk:IsTupleKey (intKind prog w) s.heap [x,y] a:=⟨o,_,n,ho,hc,hd,.cons (intKind_is _ _ _ _) (.cons (intKind_is _ _ _ _) .nil)⟩
 unfold setAdd;refine gi (aS (wpAny_pyHash_tuple hu hk ?_));generalize Q8:s.toks+([x,y].length+1)=tk;generalize hh:tupleKeyHash (intKind prog w) [x,y]=h at jT |-;have Iu:=hS;obtain⟨ob,es,ep,hb,Ro,hbd,DO,hm,hf⟩:=hS;unfold setAddHashed setAddHashedIn;refine gi (aS (rf (s:={ s with toks:=tk }) hb DO hf ?_));dsimp only;have KR:byScan (.ref a) es=false:=by unfold byScan;rfl
 rw[KR,ak cm];unfold eY at jT;cases hg:t.gaveWay with
 |true=>rw[hg,ap rfl] at jT;cases jT
 |false=>
  rw[hg,ak cm] at jT;split at jT
  .rename_i j hp;dsimp only at jT;split at jT
   .rename_i Pq;rw[gg,ra] at Pq;refine aS (wT (s:={ s with toks:=tk }) Iu hg hp ?_);dsimp only;refine aS (rf (s:={ s with toks:=tk }) hb DO hf ?_);dsimp only;have Xu:∀ {kk:Bool->Sem Bool},wpAny (model prog w) A (kk true) Q E { s with toks:=tk }->wpAny (model prog w) A (if (t.put j).1.plain=true then hashByValue 8 (.ref a) >>= kk else pure true >>= kk) Q E { s with toks:=tk }:=fun {kk} hP=>by
     split
     .exact aS (zS (s:={ s with toks:=tk }) ho hc hd hP)
     .exact aS (wpAny_pure hP)
    refine Xu ?_;simp only[if_true];have hsz:(SetTable.insertAt es (t.put j).2 (h,Value.ref a)).size=(SetTable.insertAt hs (t.put j).2 h).size:=by
     rw[<-hm,<-kE es (t.put j).2 (h,Value.ref a),g7]
    refine aS (yf (s:={ s with toks:=tk }) Iu (by rw[hsz];exact Pq.1) (by rw[hsz];exact Pq.2) fun h1 BQ S1=>?_);rw[kE,hm] at S1;split at jT
    .rename_i Rp;rw[show (!false&&(t.put j).1.tooFull)=true by rw[Rp];rfl,ap rfl];split at jT
     .rename_i t2 ir hr;split at jT
      .rename_i hq;rw[gg,gg,ra,d5] at hq;obtain⟨⟨GT,Ps⟩,Mt⟩:=hq;cases jT;have Rq:es.size=hs.size:=by rw[<-hm,g7]
       refine aS ?_;unfold setRelay;obtain⟨o1,Ey,ep1,g1,g2,g3,g4,g5,g6⟩:=id S1;refine aS (rf (s:={ s with heap:=h1,toks:=tk }) g1 g4 g6 ?_);dsimp only;rw[Rq];rw[ak (by (have h4:(4096:Nat)<=sizeLine:=by decide);lia)];refine aS ?_;rw[g5,hr];have wU:(ir.filterMap (Ey[·]?)).size=Ey.size:=by
        have e1:=congrArg Array.size (lF Ey ir);rw[g7,g5] at e1;rw[e1,GT,<-g5,g7]
       refine wpAny_of_eq (show _=(pure (ir.filterMap (Ey[·]?),t'):Sem (Array (Int×Value)×SetTable)) from ?_) ?_
       .show (do
         let vC:=ir.filterMap (Ey[·]?)
         if vC.size != Ey.size then unsupported "internal:set-table-lost-an-element"
         pure (vC,t'):Sem (Array (Int×Value)×SetTable))=_
        simp[wU]
       dsimp only;have Rr:Ey.size<=4096:=by
        have e1:=congrArg Array.size g5;rw[g7] at e1;rw[e1];exact Pq.2
       have Xv:(ir.filterMap (Ey[·]?)).size=(ir.filterMap ((SetTable.insertAt hs (t.put j).2 h)[·]?)).size:=by
        have e1:=congrArg Array.size (lF Ey ir);rw[g7,g5] at e1;exact e1
       refine yf (s:={ s with heap:=h1,toks:=tk }) S1 (by rw[Xv];exact Ps) (by rw[wU];exact Rr) fun h2 Ez S2=>?_;rw[lF,g5] at S2;exact wpAny_pure (q h2 tk (BQ.trans Ez) S2)
      .cases jT
     .cases jT
    .rename_i Rp;cases jT;have Rt:(t.put j).1.tooFull=false:=by simpa using Rp
     rw[show (!false&&(t.put j).1.tooFull)=false by rw[Rt];rfl,ak cm];exact wpAny_pure (q h1 tk BQ S1)
   .cases jT
  .cases jT
end
section
variable {prog:Program} {w:World} {A:Around} {E:Value->Shared->Prop} {s:Shared} {S Ia l:Addr} {R:Result->Shared->Prop}
def h9(h:Heap)(vs:List Value)(ys:List (Int×Int)):Prop:=vs.length=ys.length/\∀i v,vs[i]?=some v->∃a o n t u,v=.ref a/\h.get? a=some o/\o.cls=.type "tuple"/\o.data=.seq #[.int (ys.getD i (0,0)).1 t,.int (ys.getD i (0,0)).2 u] n
theorem h9.keeps(p:h9 h vs ys)(k:∀b o,(∃xs n,o.data=.seq xs n)->h.get? b=some o->h'.get? b=some o):h9 h' vs ys:=
 ⟨p.1,fun i v e=>let ⟨a,o,n,t,u,e1,e2,c,d⟩:=p.2 i v e;⟨a,o,n,t,u,e1,k a o ⟨_,_,d⟩ e2,c,d⟩⟩
def eB(prog:Program)(w:World)(y:Int×Int):Int:=tupleKeyHash (intKind prog w) [y.1,y.2]
theorem BR(hh:A.handled=none)(hu:A.units+1<cLine)(Xw:l≠S)(Xx:l≠Ia)(Ru:S≠Ia):
  ∀ (k i:Nat) (s:Shared) (hs:Array Int) (t:SetTable),vs.length-i=k->i<=vs.length->s.heap.IsListIter Ia l i->s.heap.IsList l vs.toArray->h9 s.heap vs ys->iR s.heap S hs t->
   ((ys.drop i).map (eB prog w)).foldlM (fun q h=>eY q.1 q.2 h) (hs,t)=some (hsN,tN)->
   (∀h' tk,(∀b o,b≠S->b≠Ia->s.heap.get? b=some o->h'.get? b=some o)->iR h' S hsN tN->R (.ok (.ret .none)) { s with heap:=h',toks:=tk })->
   codeAny (model prog w) A (.builtin "set.update.loop" ⟨[.ref S,.ref Ia],[]⟩) R s:=by
 intro k;induction k with
 |zero=>
  intro i s hs t hk hi Pu hl hp hS hf hR;have e:i=vs.length:=by lia
  refine rA AX ?_;rw[Around.under_plainId vL _];show wpAny _ A.in1 (pyNext (.ref Ia) >>= _) _ _ s;refine aS (vZ (show A.in1.handled=none from hh) Pu hl (by simp;lia) fun h' eb=>?_);show wpAny _ A.in1 (ret Value.none) _ _ _;have hd:ys.drop i=[]:=by rw[List.drop_eq_nil_iff];have:=hp.1;lia
  rw[hd] at hf;cases hf;obtain⟨o,es,ep,q1,q2⟩:=hS;exact wpAny_pure (hR h' s.toks (fun b o hb Pw e=>eb b o Pw e) ⟨o,es,ep,eb S o Ru q1,q2⟩)
 |succ k ih=>
  intro i s hs t hk hi Pu hl hp hS hf hR;have fw:i<vs.length:=by lia
  refine rA AX ?_;rw[Around.under_plainId vL _];show wpAny _ A.in1 (pyNext (.ref Ia) >>= _) _ _ s;have hv:vs[i]?=some vs[i]:=bD fw;refine aS (q8 Pu hl (x:=vs[i]) (by simpa using hv) fun h1 Rv BQ=>?_);obtain⟨a,o,n,tx,ty,ea,eo,ec,ed⟩:=hp.2 i _ hv;rw[ea];have Vj:∀b ob,(∃xs n,ob.data=.seq xs n)->s.heap.get? b=some ob->b≠Ia:=fun b ob ⟨xs,m,z⟩ e z'=>by
   obtain⟨oi,e1,_,d1⟩:=Pu;rw[z',e1] at e;cases e;rw[d1] at z;cases z
  have Xy:h9 h1 vs ys:=hp.keeps fun b ob hb e=>(BQ.2 b (Vj b ob hb e)).trans e;have Vk:iR h1 S hs t:=by
   obtain⟨oS,es,ep,q1,q2⟩:=hS;exact⟨oS,es,ep,(BQ.2 S Ru).trans q1,q2⟩
  have Px:h1.IsList l vs.toArray:=by
   obtain⟨ol,q1,q2⟩:=hl;exact⟨ol,(BQ.2 l Xx).trans q1,q2⟩
  have Vl:h1.get? a=some o:=(BQ.2 a (Vj a o ⟨_,_,ed⟩ eo)).trans eo;have Vm:∀b ob,(∃xs n,ob.data=.seq xs n)->h1.get? b=some ob->b≠S:=fun b ob ⟨xs,m,z⟩ e z'=>by
   obtain⟨oS,es,ep,q1,_,_,q4,_⟩:=Vk;rw[z',q1] at e;cases e;rw[q4] at z;cases z
  have EA:i<ys.length:=by have:=hp.1;lia
  have GU:ys.drop i=ys[i]::ys.drop (i+1):=nj EA;have Xz:ys.getD i (0,0)=ys[i]:=by rw[bh,bD EA];rfl
  rw[GU,cS,List.foldlM_cons] at hf;cases jT:eY hs t (eB prog w ys[i]) with
  |none=>rw[jT] at hf;cases hf
  |some q=>
   obtain⟨t3,t2⟩:=q;rw[jT] at hf;have Vn:((ys.drop (i+1)).map (eB prog w)).foldlM (fun q h=>eY q.1 q.2 h) (t3,t2)=some (hsN,tN):=hf;show wpAny _ A.in1 (holding [Value.ref a] (setAdd S (.ref a)) >>= _) _ _ _;refine aS (gi (Ex (s:={ s with heap:=h1 }) (by show A.units+1<cLine;exact hu) Vk Vl ec ed (Vm a o ⟨_,_,ed⟩ Vl) (hs':=t3) (t':=t2) (by rw[Xz];exact jT) fun h2 tk Ez S2=>?_));refine wpAny_pure ⟨plainId_quiet vL _,?_⟩;refine ih (i+1) { s with heap:=h2,toks:=tk } t3 t2 (by lia) fw ?_ ?_ (Xy.keeps fun b ob hb e=>(Ez.2 b (Vm b ob hb e)).trans e) S2 Vn fun h3 XA k3 S3=>?_
   .obtain⟨oi,q1,q2⟩:=Rv;exact⟨oi,(Ez.2 Ia (gv Ru)).trans q1,q2⟩
   .obtain⟨ol,q1,q2⟩:=Px;exact⟨ol,(Ez.2 l Xw).trans q1,q2⟩
   .exact hR h3 XA (fun b ob hb Pw e=>k3 b ob hb Pw ((Ez.2 b hb).trans ((BQ.2 b Pw).trans e))) S3
theorem BS{vs:List Value}{ys:List (Int×Int)}{hsN:Bool->Array Int}{tN:Bool->SetTable}{Q:Value->Shared->Prop}(hh:A.handled=none)(hu:A.units+8<cLine)(hl:s.heap.IsList l vs.toArray)(hp:h9 s.heap vs ys)(zT:∀led,su led (ys.map (eB prog w))=some (hsN led,tN led))(h:∀ (led:Bool) (h':Heap) (tk:Nat),iR h' s.heap.objs.size (hsN led) (tN led)->(∀b o,b<s.heap.objs.size->s.heap.get? b=some o->h'.get? b=some o)->Q (.ref s.heap.objs.size) { s with heap:=h',toks:=tk }):
  wpAny (model prog w) A (call (.type "set") [.ref l]) Q E s:=by
 obtain⟨c,tl,XB⟩:=md.mro;have c1:=md.made;have c2:=md.sub;refine wpAny_call (codeAny_of_tree ?_);show wpAny _ _ (callAny (.type "set") _) _ _ _;refine wpAny_pure ⟨Code.quiet_builtin _ (by decide +kernel),rA PySem.F.entry_type_call ?_⟩;rw[Around.under_plain (weight_type_call_type "set" [.ref l] []) rfl];have c3:=md.notType;have c4:=md.canCreate;have c5:=PySem.F.typeCall_set_1 (.ref l);repeat (any_goals (first|assumption|wp_step))
 refine lh (code_set_new_1 (.ref l) (E:=E) (Q₁:=fun obj s₁=>∃led:Bool,obj=.ref s.heap.objs.size/\s₁={ s with heap:=s.heap.push { cls:=.type "set",dict:=none,data:=.set #[] 0 (.fresh 0 0 led) } }) fun led=>⟨led,rfl,rfl⟩) fun r s₁ hr=>?_;cases r with
 |error e=>exact hr
 |ok fl=>
  cases fl with
  |next=>exact hr.elim
  |brk=>exact hr.elim
  |cont=>exact hr.elim
  |ret obj=>
   obtain⟨led,rfl,rfl⟩:=hr;generalize Rx:s.heap.push { cls:=.type "set",dict:=none,data:=.set #[] 0 (.fresh 0 0 led) }=hS;have hsz:hS.objs.size=s.heap.objs.size+1:=by rw[<-Rx,jL]
   have gS:hS.get? s.heap.objs.size=some { cls:=.type "set",dict:=none,data:=.set #[] 0 (.fresh 0 0 led) }:=by rw[<-Rx];exact dG _ rfl
   have up:∀b o,s.heap.get? b=some o->hS.get? b=some o:=fun b o e=>by rw[<-Rx];exact cw _ e
   have hT:Shared.TypeIs { s with heap:=hS } (.ref s.heap.objs.size) "set":=⟨_,gS,rfl⟩
   have c6:=md.init.lookup;have c7:=md.init.bind (.ref s.heap.objs.size);repeat (any_goals (first|assumption|wp_step))
   refine lh (wb (R:=wants (fun r s₂=>r=.none/\∃h' tk,s₂={ s with heap:=h',toks:=tk }/\iR h' s.heap.objs.size (hsN led) (tN led)/\
     (∀b o,b<s.heap.objs.size->s.heap.get? b=some o->h'.get? b=some o)) E) md.init.plain PySem.F.entry_set_init (check_set_init_1 hT ?_)) fun r₂ s₂ Mu=>?_
   .obtain⟨ol,GV,KO,nl,GW⟩:=hl;obtain⟨XC,Vo,Vp,Ry⟩:=ol;simp only at KO GW;subst KO;subst GW;have Rz:=up _ _ GV;have c8:=PySem.F.sub_list_set;have c9:=PySem.F.sub_list_frozenset;have c10:(Value.type "list"==Value.type "dict")=false:=by decide
    have Px:hS.IsList l vs.toArray:=⟨_,Rz,rfl,nl,rfl⟩
    unfold Builtin.«set.__init__» noKeywords Builtin.Frozenset.updateFrom;generalize XD:pyIter=PI
    wp_walk
    subst XD;refine nR Px ?_;refine aS (wpAny_runValue ?_);have fw:l<s.heap.objs.size:=bn GV;refine BR (l:=l) (vs:=vs) (ys:=ys) (hsN:=hsN led) (tN:=tN led) (by simp[hh]) (by simp;lia) (aZ fw) (by rw[hsz];exact aZ (cF fw)) (by rw[hsz];exact aZ (ki _))
     (vs.length-0) 0 _ #[] (.fresh 0 0 led) rfl (c_ _) ⟨_,dG _ rfl,rfl,rfl⟩ (Px.push _) (hp.keeps fun b o _ e=>cw _ (up b o e)) ⟨_,#[],0,cw _ gS,rfl,⟨rfl,rfl⟩,rfl,by simp,rfl⟩ (zT led) fun h' tk k S'=>?_
    show wpAny _ _ _ _ _ _;refine wpAny_pure ?_;show wpAny _ _ (ret Value.none) _ _ _;refine wpAny_pure ⟨rfl,h',tk,rfl,S',fun b o hb e=>?_⟩;exact k b o (aZ hb) (by rw[hsz];exact aZ (cF hb)) (cw _ (up b o e))
   .cases r₂ with
    |error e=>exact Mu
    |ok XE=>
     cases XE with
     |next=>exact Mu.elim
     |brk=>exact Mu.elim
     |cont=>exact Mu.elim
     |ret r=>
      obtain⟨rfl,h',tk,rfl,S',k⟩:=Mu;repeat (any_goals (first|assumption|wp_step))
      exact h led h' tk S' k
end
open PySem
def BV(l:List Nat):Nat:=l.foldl (fun a x=>a ||| (1 <<< x)) 0
theorem zU(l:List Nat)(a j:Nat):(l.foldl (fun a x=>a ||| (1 <<< x)) a).testBit j=(a.testBit j||l.contains j):=by
 induction l generalizing a with
 |nil=>simp
 |cons x xs ih=>
  rw[rj,ih,Nat.testBit_or,List.contains_cons];have:(1 <<< x).testBit j=(j==x):=by
   rw[Nat.one_shiftLeft,Nat.testBit_two_pow];by_cases h:x=j
   .simp[h]
   .have h':¬ j=x:=fun e=>h e.symm;simp[h,h']
  rw[this,Bool.or_assoc]
theorem mh(h:BV l=2 ^ n-1)(hj:j<n):j∈l:=by
 have e:=zU l 0 j;have h':l.foldl (fun a x=>a ||| (1 <<< x)) 0=2 ^ n-1:=h;rw[h',Nat.testBit_two_pow_sub_one] at e;simp[hj] at e;exact e
def BW(M:Nat):Nat->Nat->Nat
 |0,i=>i
 |n+1,i=>BW M n ((i*5+1) % M)
theorem mV(M a:Nat):∀b i,BW M (b+a) i=BW M a (BW M b i)
 |0,i=>by rw[rD];rfl
 |b+1,i=>by
  rw[show b+1+a=(b+a)+1 by lia];show BW M (b+a) _=BW M a (BW M b _);exact mV M a b _
def Iv(M:Nat):Nat->Nat->List Nat
 |0,_=>[]
 |n+1,i=>i::Iv M n ((i*5+1) % M)
theorem oq:∀ {n i},j∈Iv M n i->∃k,k<n/\BW M k i=j
 |0,_,h=>by cases h
 |n+1,i,h=>by
  rcases cn.mp h with z|z
  .exact⟨0,by lia,z.symm⟩
  .obtain⟨k,a,b⟩:=oq z;exact⟨k+1,by lia,b⟩
structure zV(M:Nat):Prop where
 all:BV (Iv M M 0)=2 ^ M-1
 back:BW M M 0=0
theorem RA:zV 8:=⟨by decide +kernel,by decide +kernel⟩
theorem GX:zV 32:=⟨by decide +kernel,by decide +kernel⟩
theorem BY:zV 128:=⟨by decide +kernel,by decide +kernel⟩
theorem BZ:zV 512:=⟨by decide +kernel,by decide +kernel⟩
theorem zV.cover(R:zV M)(hi:i<M)(hj:j<M):∃n,n<M/\BW M n i=j:=by
 obtain⟨a,ha,ea⟩:=oq (mh R.all hi);obtain⟨b,hb,eb⟩:=oq (mh R.all hj);by_cases h:a<=b
 .refine⟨b-a,by lia,?_⟩;rw[<-ea,<-mV,show a+(b-a)=b by lia,eb]
 .refine⟨M+b-a,by lia,?_⟩;rw[<-ea,<-mV,show a+(M+b-a)=M+b by lia,mV,R.back,eb]
def fA(mask:Nat):Nat->Nat×Nat->Nat×Nat
 |0,q=>q
 |n+1,q=>fA mask n (SetTable.leap mask q.1 q.2)
theorem qf(m a:Nat):∀b q,fA m (b+a) q=fA m a (fA m b q)
 |0,q=>by rw[rD];rfl
 |b+1,q=>by
  rw[show b+1+a=(b+a)+1 by lia];exact qf m a b _
theorem uw:∀ {n:Nat} {q:Nat×Nat},q.1<m+1->(fA m n q).1<m+1
 |0,_,h=>h
 |n+1,q,h=>uw (n:=n) (n8 _ (Nat.succ_pos _))
theorem yg:∀ {n:Nat} {q:Nat×Nat},(fA m n q).2=q.2 / 32 ^ n
 |0,_=>by simp[fA]
 |n+1,q=>by
  show (fA m n _).2=_;rw[yg];show q.2 / 32 / 32 ^ n=_;rw[vP,Nat.pow_succ,rF]
theorem qg:∀ {n i:Nat},fA m n (i,0)=(BW (m+1) n i,0)
 |0,_=>rfl
 |n+1,i=>by
  show fA m n (SetTable.leap m i 0)=_;unfold SetTable.leap;simp only[Nat.zero_div,Nat.add_zero];exact qg
theorem mi(R:zV (m+1))(hi:i<m+1)(hp:p<2 ^ 64)(hj:j<m+1):∃n,n<m+14/\(fA m n (i,p)).1=j:=by
 have h1:=uw (m:=m) (n:=13) (q:=(i,p)) hi;have h2:(fA m 13 (i,p)).2=0:=by
  rw[yg];exact Nat.div_eq_of_lt (bN hp (by decide))
 obtain⟨n,hn,e⟩:=R.cover h1 hj;refine⟨13+n,by lia,?_⟩;rw[qf];have:fA m 13 (i,p)=((fA m 13 (i,p)).1,0):=dE rfl h2;rw[this,qg];exact e
theorem yh(h:Int):SetTable.bits h<2 ^ 64:=by
 unfold SetTable.bits;have a:=gY h (show (2 ^ 64:Int)≠0 by decide);have b:=kh h (show (0:Int)<2 ^ 64 by decide);lia
theorem Mv{M:Nat}{l:List Nat}(h:l.length<M):∃j,j<M/\j∉l:=by
 have key:∀ (a b:List Nat),a.Nodup->(∀x∈a,x∈b)->a.length<=b.length:=by
  intro a;induction a with
  |nil=>intro b _ _;exact c_ _
  |cons x xs ih=>
   intro b hn hs;obtain⟨h1,h2⟩:=cX.mp hn;have hx:x∈b:=hs x cz;have:=ih (b.erase x) h2 fun y hy=>(vS (fun (e:y=x)=>h1 (e ▸ hy))).mpr (hs y (b9 _ hy));rw[A9 hx] at this;have:0<b.length:=qT hx;rw[dk];lia
 apply jn;intro t9;have:=key (List.range M) l jt fun x hx=>jn fun Bj=>t9 ⟨x,bG.mp hx,Bj⟩;rw[cG] at this;lia
def wV(mask i p:Nat):SetTable.Probe:={ j:=i,more:=SetTable.runEnd mask i-i,i:=i,perturb:=p,dummy:=none }
theorem Iw(mask i:Nat):SetTable.runEnd mask i-i<=9:=by unfold SetTable.runEnd;split <;> lia
theorem sF{t:SetTable}(hd:t.dummies=#[])(j:Nat):t.slot j=.empty\/∃i,t.slot j=.live i/\t.place[i]?=some j:=by
 unfold SetTable.slot;dsimp only;split
 .rename_i h;exact .inr ⟨_,rfl,by simpa using h⟩
 .left;rw[hd];rfl
theorem wW{t:SetTable}(hd:t.dummies=#[]){j:Nat}(h:j∉t.place.toList):t.slot j=.empty:=by
 rcases sF hd j with e|⟨i,_,e2⟩
 .exact e
 .exact absurd (by rw[<-kZ] at e2;exact cE e2) h
section
variable {t:SetTable} {hashAt:Nat->Int} {h:Int}
theorem B0(hd:t.dummies=#[])(hh:∀i,i<t.place.size->hashAt i≠h)(i p:Nat):∀ (r:Nat) (j e_:Nat),
  (∃j',SetTable.probe.go t hashAt h (e_+r+1) { j:=j,more:=r,i:=i,perturb:=p,dummy:=none }=some (.empty j' none))\/
  SetTable.probe.go t hashAt h (e_+r+1) { j:=j,more:=r,i:=i,perturb:=p,dummy:=none }=SetTable.probe.go t hashAt h e_ (wV t.mask (SetTable.leap t.mask i p).1 (SetTable.leap t.mask i p).2)
 |0,j,e_=>by
  rcases sF hd j with e|⟨k,e,e2⟩
  .exact .inl ⟨j,by unfold SetTable.probe.go;rw[e]⟩
  .right;have hk:k<t.place.size:=(A5.mp e2).1;conv=>lhs;unfold SetTable.probe.go
   rw[e];simp only[d5,hh k hk,gu];rfl
 |r+1,j,e_=>by
  rcases sF hd j with e|⟨k,e,e2⟩
  .exact .inl ⟨j,by rw[show e_+(r+1)+1=(e_+r+1)+1 by lia];unfold SetTable.probe.go;rw[e]⟩
  .have hk:k<t.place.size:=(A5.mp e2).1;have st:SetTable.probe.go t hashAt h (e_+(r+1)+1) { j:=j,more:=r+1,i:=i,perturb:=p,dummy:=none }=SetTable.probe.go t hashAt h (e_+r+1) { j:=j+1,more:=r,i:=i,perturb:=p,dummy:=none }:=by
    rw[show e_+(r+1)+1=(e_+r+1)+1 by lia];conv=>lhs;unfold SetTable.probe.go
    rw[e];simp only[d5,hh k hk,gu];rfl
   rw[st];exact B0 hd hh i p r (j+1) e_
theorem yi(hd:t.dummies=#[])(hh:∀i,i<t.place.size->hashAt i≠h):∀ (m:Nat) (i p e_:Nat),10*(m+1)<=e_->t.slot (fA t.mask m (i,p)).1=.empty->
  ∃j',SetTable.probe.go t hashAt h e_ (wV t.mask i p)=some (.empty j' none)
 |0,i,p,e_,hf,e=>by
  obtain⟨f,rfl⟩:∃f,e_=f+1:=⟨e_-1,by lia⟩
  refine⟨i,?_⟩;have e':t.slot i=.empty:=e;unfold SetTable.probe.go wV;dsimp only;rw[e']
 |m+1,i,p,e_,hf,e=>by
  have hr:=Iw t.mask i;obtain⟨f,EB⟩:∃f,e_=f+(SetTable.runEnd t.mask i-i)+1:=⟨e_-(SetTable.runEnd t.mask i-i)-1,by lia⟩
  rcases B0 (hashAt:=hashAt) (h:=h) hd hh i p (SetTable.runEnd t.mask i-i) i f with z|z
  .rw[EB];exact z
  .rw[EB];show ∃j',SetTable.probe.go t hashAt h _ { j:=i,more:=_,i:=i,perturb:=p,dummy:=none }=_;rw[z];exact yi hd hh m _ _ f (by lia) e
theorem wX(R:zV (t.mask+1))(hd:t.dummies=#[])(hs:t.place.size<=t.mask)(hh:∀i,i<t.place.size->hashAt i≠h):∃j,t.probe hashAt h (t.probeStart h)=some (.empty j none):=by
 obtain⟨j,hj,hn⟩:=Mv (M:=t.mask+1) (l:=t.place.toList) (by simpa using Nat.lt_succ_of_le hs);obtain⟨m,hm,e⟩:=mi R (n8 (SetTable.bits h) (Nat.succ_pos t.mask)) (yh h) hj;refine yi hd hh m _ _ _ ?_ (by rw[e];exact wW hd hn);unfold SetTable.turns;lia
end
theorem B1{α β:Type}{f:α->Option β}:∀ {l:List α},(∀q∈l,(f q).isSome=true)->(l.filterMap f).length=l.length
 |[],_=>rfl
 |q::l,h=>by
  have hq:=h q cz;cases e:f q with
  |none=>rw[e] at hq;cases hq
  |some b=>rw[A_ e,dk,dk,B1 fun x hx=>h x (b9 _ hx)]
theorem qh:∀ (m e_ i p:Nat),m<e_->owner.getD (fA mask m (i,p)).1 (some 0)=none->∃j,SetTable.layClean.free mask owner e_ i p=some j/\owner.getD j (some 0)=none
 |m,0,_,_,h,_=>by lia
 |m,e_+1,i,p,h,e=>by
  unfold SetTable.layClean.free;cases hf:(List.range (SetTable.runEnd mask i+1-i)).find? fun k=>(owner.getD (i+k) (some 0)).isNone with
  |some k=>
   refine⟨i+k,rfl,?_⟩;have:=List.find?_some hf;simpa using this
  |none=>
   cases m with
   |zero=>
    have h0:(0:Nat)∈List.range (SetTable.runEnd mask i+1-i):=bG.mpr (by unfold SetTable.runEnd;split <;> lia);have:=List.find?_eq_none.mp hf 0 h0;have e':owner.getD i (some 0)=none:=e;rw[Nat.add_zero,e'] at this;exact absurd rfl this
   |succ m=>
    exact qh m e_ _ _ (by lia) e
structure ux(M:Nat)(owner:Array (Option Nat))(k:Nat):Prop where
 size:owner.size=M
 cnt:owner.toList.countP Option.isSome=k
 lt:∀x,some x∈owner.toList->x<k
theorem wY{l:List (Option Nat)}{j:Nat}{x:Nat}(hj:l[j]?=some none):(l.set j (some x)).countP Option.isSome=l.countP Option.isSome+1:=by
 induction l generalizing j with
 |nil=>cases hj
 |cons a l ih=>
  cases j with
  |zero=>
   obtain rfl:a=none:=by simpa using hj
   simp
  |succ j=>
   rw[List.set_cons_succ,k8,k8,ih (by simpa using hj)];lia
theorem ux.one{mask:Nat}{owner:Array (Option Nat)}{k:Nat}(L:ux (mask+1) owner k)(R:zV (mask+1))(hk:k<mask+1)(h:Int):
  ∃j,SetTable.layClean.free mask owner (SetTable.turns mask) (SetTable.bits h % (mask+1)) (SetTable.bits h)=some j/\ux (mask+1) (owner.setIfInBounds j (some k)) (k+1):=by
 have t9:∃j,j<mask+1/\owner.toList[j]?=some none:=by
  apply jn;intro t9;have pD:∀x∈owner.toList,x.isSome=true:=by
   intro x hx;obtain⟨j,hj,e⟩:=k4.mp hx;cases x with
   |some _=>rfl
   |none=>
    refine absurd ⟨j,?_,?_⟩ t9
    .rw[<-L.size];simpa using hj
    .rw[bD hj,e]
  have:=List.countP_eq_length.mpr pD;rw[L.cnt,k5,L.size] at this;lia
 obtain⟨j0,XF,e0⟩:=t9;obtain⟨m,hm,em⟩:=mi R (n8 (SetTable.bits h) (Nat.succ_pos mask)) (yh h) XF;obtain⟨j,ej,en⟩:=qh (mask:=mask) (owner:=owner) m (SetTable.turns mask) (SetTable.bits h % (mask+1)) (SetTable.bits h) (by unfold SetTable.turns;lia)
  (by rw[em,qP,<-kZ,e0];rfl)
 refine⟨j,ej,?_⟩;have XG:owner.toList[j]?=some none:=by
  rw[qP,<-kZ] at en;cases hq:owner.toList[j]? with
  |none=>rw[hq] at en;cases en
  |some v=>rw[hq] at en;rw[show v=none from en]
 have Mw:(owner.setIfInBounds j (some k)).toList=owner.toList.set j (some k):=by simp
 refine⟨by simp[L.size],by rw[Mw,wY XG,L.cnt],fun x hx=>?_⟩;rw[Mw] at hx;rcases A8 hx with z|z
 .exact cF (L.lt x z)
 .cases z;exact ki _
theorem yj(R:zV (mask+1)):∀ (l:List Int) (owner:Array (Option Nat)) (k:Nat),ux (mask+1) owner k->k+l.length<=mask->
  ∃B3,l.foldl (fun cR h=>do
   let (owner,k) <- cR
   let j <- SetTable.layClean.free mask owner (SetTable.turns mask) (SetTable.bits h % (mask+1)) (SetTable.bits h)
   pure (owner.setIfInBounds j (some k),k+1)) (some (owner,k))=some (B3,k+l.length)/\ux (mask+1) B3 (k+l.length)
 |[],owner,k,L,_=>⟨owner,rfl,L⟩
 |h::l,owner,k,L,hl=>by
  rw[dk] at hl;obtain⟨j,ej,L'⟩:=L.one R (by lia) h;obtain⟨o',e,L2⟩:=yj R l _ _ L' (by lia);refine⟨o',?_,by rw[dk,show k+(l.length+1)=k+1+l.length by lia];exact L2⟩;rw[rj];have:(do
   let (owner,k) <- some (owner,k)
   let j <- SetTable.layClean.free mask owner (SetTable.turns mask) (SetTable.bits h % (mask+1)) (SetTable.bits h)
   pure (owner.setIfInBounds j (some k),k+1):Option (Array (Option Nat)×Nat))=some (owner.setIfInBounds j (some k),k+1):=by
   show (SetTable.layClean.free mask owner (SetTable.turns mask) (SetTable.bits h % (mask+1)) (SetTable.bits h)).bind _=_;rw[ej];rfl
  rw[this,e,dk,show k+(l.length+1)=k+1+l.length by lia]
theorem uy(R:zV (mask+1))(hs:Array Int)(h:hs.size<=mask):∃owner,SetTable.layClean mask hs=some owner/\ux (mask+1) owner hs.size:=by
 have L0:ux (mask+1) (Array.replicate (mask+1) none) 0:=⟨by simp,by simp[List.countP_replicate],fun x hx=>by simp at hx⟩
 obtain⟨o,e,L⟩:=yj R hs.toList _ 0 L0 (by simpa using h);refine⟨o,?_,by simpa using L⟩;unfold SetTable.layClean;rw[<-Array.foldl_toList];have e':=congrArg (Option.map (·.1)) e;exact e'
theorem wZ(L:ux M owner n):
  ((List.range M).filterMap fun j=>(owner.getD j none).map (j,·)).length=n/\∀q∈(List.range M).filterMap (fun j=>(owner.getD j none).map (j,·)),q.2<n:=by
 constructor
 .rw[<-L.cnt];have e:owner.toList=(List.range M).map fun j=>owner.getD j none:=by
   apply rd
   .simp[L.size]
   .intro i h1 h2;simp only[nQ,q_,Array.getElem_toList];rw[qP,vN (by simpa using h1)];rfl
  conv=>rhs;rw[e]
  rw[k_];generalize List.range M=l;induction l with
  |nil=>rfl
  |cons a l ih=>
   rw[k8,<-ih];cases hq:owner.getD a none with
   |none=>rw[List.filterMap_cons_none (by rw[hq];rfl),show (Option.isSome ∘ fun j=>owner.getD j none) a=false by show (owner.getD a none).isSome=false;rw[hq];rfl];simp
   |some x=>rw[A_ (b:=(a,x)) (by rw[hq];rfl),show (Option.isSome ∘ fun j=>owner.getD j none) a=true by show (owner.getD a none).isSome=true;rw[hq];rfl];simp
 .intro q hq;obtain⟨j,_,e⟩:=k6.mp hq;cases hx:owner.getD j none with
  |none=>rw[hx] at e;cases e
  |some x=>
   rw[hx] at e;cases e;refine L.lt x ?_;rw[qP,<-kZ] at hx;cases hy:owner.toList[j]? with
   |none=>rw[hy] at hx;cases hx
   |some v=>rw[hy] at hx;obtain rfl:v=some x:=hx;exact cE hy
structure uz(hs:Array Int)(t:SetTable):Prop where
 dm:t.dummies=#[]
 sz:t.place.size=hs.size
 ms:(t.mask=7/\hs.size<=4)\/(t.mask=31/\hs.size<=18)\/(t.mask=127/\hs.size<=76)\/(t.mask=511/\hs.size<=306)
theorem uz.XH(T:uz hs t):zV (t.mask+1):=by
 rcases T.ms with ⟨e,_⟩|⟨e,_⟩|⟨e,_⟩|⟨e,_⟩ <;> rw[e]
 .exact RA
 .exact GX
 .exact BY
 .exact BZ
theorem jz(xs:Array α)(p:Nat)(x:α):(SetTable.insertAt xs p x).size=xs.size+1:=by
 unfold SetTable.insertAt;simp;lia
theorem kF(h:y∈(SetTable.insertAt xs p x).toList):y=x\/y∈xs.toList:=by
 unfold SetTable.insertAt at h;rw[dU,k7,vU,vU] at h;rcases bg.mp h with z|z
 .rcases bg.mp z with z|z
  .right;rw[List.extract_eq_drop_take] at z;exact nG (nz z)
  .left;simpa using z
 .right;rw[List.extract_eq_drop_take] at z;exact nG (nz z)
theorem w4{hs:Array Int}{t:SetTable}{h:Int}(T:uz hs t)(hn:h∉hs.toList)(hl:hs.size<300):∃hs' t',eY hs t h=some (hs',t')/\uz hs' t'/\hs'.size=hs.size+1/\∀x∈hs'.toList,x=h\/x∈hs.toList:=by
 have Rr:t.place.size<=t.mask:=by rw[T.sz];rcases T.ms with ⟨e,z⟩|⟨e,z⟩|⟨e,z⟩|⟨e,z⟩ <;> lia
 have hh:∀i,i<t.place.size->Iq hs i≠h:=by
  intro i hi e;rw[T.sz] at hi;unfold Iq at e;rw[vN hi] at e;exact hn (by rw[<-e];simp)
 obtain⟨j,hp⟩:=wX (hashAt:=Iq hs) (h:=h) T.XH T.dm Rr hh;have hg:t.gaveWay=false:=by
  unfold SetTable.gaveWay;rcases T.ms with ⟨e,_⟩|⟨e,_⟩|⟨e,_⟩|⟨e,_⟩ <;> rw[e] <;> rfl
 have q1:(t.put j).1.place=SetTable.insertAt t.place (SetTable.below t.place j) j:=rfl;have q2:(t.put j).1.dummies=#[]:=by
  show (if SetTable.has t.dummies j=true then _ else t.dummies)=_;rw[T.dm];rfl
 have q3:(t.put j).1.mask=t.mask:=rfl;have s1:(SetTable.insertAt hs (t.put j).2 h).size=hs.size+1:=jz _ _ _;have s2:(t.put j).1.place.size=hs.size+1:=by rw[q1,jz,T.sz]
 have fl:(t.put j).1.fill=hs.size+1:=by unfold SetTable.fill;rw[s2,q2];rfl
 have XI:(t.put j).1.fits (SetTable.insertAt hs (t.put j).2 h).size=true:=by
  unfold SetTable.fits;rw[s1,s2,fl,q3];simp;rcases T.ms with ⟨e,z⟩|⟨e,z⟩|⟨e,z⟩|⟨e,z⟩ <;> lia
 unfold eY;rw[hg,ak cm,hp];dsimp only;rw[ap (by rw[XI,s1];simp;lia)];by_cases hf:(t.put j).1.tooFull=true
 .rw[ap hf];have EB:=hf;unfold SetTable.tooFull at EB;rw[fl,q3] at EB;have Vn:(hs.size+1)*5>=t.mask*3:=by simpa using EB
  have gr:SetTable.grown (hs.size+1)=(hs.size+1)*4:=by unfold SetTable.grown;rw[ak (by lia)]
  obtain⟨m2,Vq,RB,R2⟩:∃m2,SetTable.sizeAbove (SetTable.grown (hs.size+1))=m2+1/\((m2=31/\hs.size+1<=18)\/(m2=127/\hs.size+1<=76)\/(m2=511/\hs.size+1<=306))/\zV (m2+1):=by
   rw[gr];rcases T.ms with ⟨e,z⟩|⟨e,z⟩|⟨e,z⟩|⟨e,z⟩
   .have:hs.size=4:=by lia
    exact⟨31,by rw[this];rfl,.inl ⟨rfl,by lia⟩,GX⟩
   .have:hs.size=18:=by lia
    exact⟨127,by rw[this];rfl,.inr (.inl ⟨rfl,by lia⟩),BY⟩
   .have:hs.size=76:=by lia
    exact⟨511,by rw[this];rfl,.inr (.inr ⟨rfl,by lia⟩),BZ⟩
   .lia
  have Vr:(SetTable.insertAt hs (t.put j).2 h).size<=m2:=by rw[s1];rcases RB with ⟨e,z⟩|⟨e,z⟩|⟨e,z⟩ <;> lia
  obtain⟨owner,eo,L⟩:=uy R2 (SetTable.insertAt hs (t.put j).2 h) Vr;obtain⟨Mx,RC⟩:=wZ L;rw[s1] at Mx RC;generalize My:(List.range (m2+1)).filterMap (fun j=>(owner.getD j none).map (j,·))=live at Mx RC;have er:(t.put j).1.relaid (SetTable.insertAt hs (t.put j).2 h) (SetTable.grown (hs.size+1))=some ({ mask:=m2,place:=(live.map (·.1)).toArray,dummies:=#[],finger:=(t.put j).1.finger,led:=(t.put j).1.led,moves:=(t.put j).1.movedTo m2,plain:=(t.put j).1.plain },(live.map (·.2)).toArray):=by
   unfold SetTable.relaid SetTable.laid;rw[Vq];simp only[Nat.add_sub_cancel];rw[eo];show some _=some _;rw[<-My]
  rw[er];dsimp only;have wU:((live.map (·.2)).toArray.filterMap ((SetTable.insertAt hs (t.put j).2 h)[·]?)).size=hs.size+1:=by
   rw[<-k5,qV];show ((live.map (·.2)).filterMap _).length=_;rw[<-Mx,List.filterMap_map];refine B1 fun q hq=>?_;show ((SetTable.insertAt hs (t.put j).2 h)[q.2]?).isSome=true;rw[vN (by rw[s1];exact RC q hq)];rfl
  have XJ:∀x,({ mask:=m2,place:=(live.map (·.1)).toArray,dummies:=#[],finger:=(t.put j).1.finger,led:=(t.put j).1.led,moves:=(t.put j).1.movedTo m2,plain:=(t.put j).1.plain }:SetTable).fits x=(decide (hs.size+1=x)&&decide (hs.size+1<=m2)):=by
   intro x;unfold SetTable.fits SetTable.fill;simp[Mx];rw[gZ];simp
  rw[ap (by
   rw[wU,s1,XJ,Vq];have:hs.size+1<=m2:=by rw[<-s1];exact Vr
   simp[this];rcases RB with ⟨e,z⟩|⟨e,z⟩|⟨e,z⟩ <;> lia)]
  refine⟨_,_,rfl,⟨rfl,?_,?_⟩,wU,fun x hx=>?_⟩
  .rw[wU];simp[Mx]
  .rw[wU];exact .inr RB
  .rw[qV] at hx;obtain⟨k,_,ek⟩:=k6.mp hx;refine kF (p:=(t.put j).2) ?_;rw[<-kZ] at ek;exact cE ek
 .rw[ak hf];refine⟨_,_,rfl,⟨q2,by rw[s2,s1],?_⟩,s1,fun x hx=>kF hx⟩;have EB:¬ (hs.size+1)*5>=t.mask*3:=by
   intro z;refine hf ?_;unfold SetTable.tooFull;rw[fl,q3];simpa using z
  rw[s1,q3];rcases T.ms with ⟨e,z⟩|⟨e,z⟩|⟨e,z⟩|⟨e,z⟩ <;> lia
theorem mj:∀ (l:List Int) (hs:Array Int) (t:SetTable),uz hs t->(∀x∈l,x∉hs.toList)->l.Nodup->hs.size+l.length<=300->∃hs' t',l.foldlM (fun q h=>eY q.1 q.2 h) (hs,t)=some (hs',t')/\hs'.size=hs.size+l.length
 |[],hs,t,_,_,_,_=>⟨hs,t,rfl,rfl⟩
 |h::l,hs,t,T,hn,nd,hl=>by
  rw[dk] at hl;obtain⟨n1,n2⟩:=cX.mp nd;obtain⟨BP,t1,e1,T1,z1,m1⟩:=w4 T (hn h cz) (by lia);obtain⟨t3,t2,e2,z2⟩:=mj l BP t1 T1 (fun x hx hy=>by
   rcases m1 x hy with e|e
   .exact n1 (e ▸ hx)
   .exact hn x (b9 _ hx) e) n2 (by lia)
  refine⟨t3,t2,?_,by rw[z2,z1,dk];lia⟩;rw[List.foldlM_cons];show (eY hs t h).bind _=_;rw[e1];exact e2
theorem zW(led:Bool)(nd:l.Nodup)(hl:l.length<=300):∃hs t,su led l=some (hs,t)/\hs.size=l.length:=by
 obtain⟨hs,t,e,z⟩:=mj l #[] (SetTable.fresh 0 0 led) ⟨rfl,rfl,.inl ⟨rfl,by decide⟩⟩ (fun x _ h=>by simp at h) nd (by simpa using hl);exact⟨hs,t,e,by simpa using z⟩
def yk:List Nat->Nat->Bool
 |[],_=>true
 |x::xs,cR=>bif Nat.testBit cR x then false else yk xs (cR ||| (1 <<< x))
theorem uA:∀ (l:List Nat) (cR:Nat),yk l cR=true->l.Nodup/\∀x∈l,cR.testBit x=false
 |[],_,_=>⟨iq,fun x h=>(nomatch h)⟩
 |x::xs,cR,h=>by
  unfold yk at h;cases hb:cR.testBit x with
  |true=>rw[hb] at h;cases h
  |false=>
   rw[hb] at h;obtain⟨nd,hx⟩:=uA xs _ h;have Vs:∀y∈xs,cR.testBit y=false/\y≠x:=by
    intro y hy;have:=hx y hy;rw[Nat.testBit_or,Nat.one_shiftLeft,Nat.testBit_two_pow] at this;rw[Bool.or_eq_false_iff] at this;exact⟨this.1,fun e=>by have:=this.2;simp[e] at this⟩
   refine⟨cX.mpr ⟨fun hm=>(Vs x hm).2 rfl,nd⟩,fun y hy=>?_⟩;rcases cn.mp hy with z|z
   .rw[z];exact hb
   .exact(Vs y z).1
def ot:List (Int×Int):=(List.range 32).flatMap fun a=>(List.range 32).map fun b=>(Int.ofNat a,Int.ofNat b)
def GY(h:Int):Nat:=(h % 6554).toNat
theorem zX(P:Program)(w:World):yk (ot.map fun y=>GY (eB P w y)) 0=true:=by kernel_rfl
theorem ym(h1:0<=y.1/\y.1<32)(h2:0<=y.2/\y.2<32):y∈ot:=by
 unfold ot;refine wo.mpr ⟨y.1.toNat,bG.mpr (by lia),aW.mpr ⟨y.2.toNat,bG.mpr (by lia),dE ?_ ?_⟩⟩
 .show ((y.1.toNat:Nat):Int)=y.1;lia
 .show ((y.2.toNat:Nat):Int)=y.2;lia
theorem jA:∀ {l:List α},(l.map f).Nodup->∀x∈l,∀y∈l,f x=f y->x=y
 |[],_,_,h,_,_,_=>by cases h
 |a::l,h,x,hx,y,hy,e=>by
  rw[cS] at h;obtain⟨h1,h2⟩:=cX.mp h;rcases cn.mp hx with z|z <;> rcases cn.mp hy with z'|z'
  .rw[z,z']
  .exact absurd (aW.mpr ⟨y,z',by rw[<-e,z]⟩) h1
  .exact absurd (aW.mpr ⟨x,z,by rw[e,z']⟩) h1
  .exact jA h2 x z y z' e
theorem sG(hx:(0<=x.1/\x.1<32)/\(0<=x.2/\x.2<32))(hy:(0<=y.1/\y.1<32)/\(0<=y.2/\y.2<32))(e:eB P w x=eB P w y):x=y:=
 jA (uA _ _ (zX P w)).1 x (ym hx.1 hx.2) y (ym hy.1 hy.2) (congrArg GY e)
theorem lG:∀ {l:List α},l.Nodup->(∀x∈l,∀y∈l,f x=f y->x=y)->(l.map f).Nodup
 |[],_,_=>iq
 |a::l,h,hf=>by
  obtain⟨h1,h2⟩:=cX.mp h;rw[cS];refine cX.mpr ⟨fun z=>?_,lG h2 fun x hx y hy=>hf x (b9 _ hx) y (b9 _ hy)⟩;obtain⟨y,hy,e⟩:=aW.mp z;have:=hf y (b9 _ hy) a cz e;exact h1 (this ▸ hy)
theorem uB{P:Program}{w:World}(led:Bool){ys:List (Int×Int)}(nd:ys.Nodup)(hr:∀y∈ys,(0<=y.1/\y.1<32)/\(0<=y.2/\y.2<32))(hl:ys.length<=300):
  ∃hs t,su led (ys.map (eB P w))=some (hs,t)/\hs.size=ys.length:=by
 obtain⟨hs,t,e,z⟩:=zW led (lG nd fun x hx y hy e=>sG (P:=P) (w:=w) (hr x hx) (hr y hy) e) (by rw[aB];exact hl);exact⟨hs,t,e,by rw[z,aB]⟩
theorem yq:∀ {as:List Addr} {its:List Value},aX (as.map V.ref) its->its=as.map Value.ref
 |[],_,r=>by cases r;rfl
 |a::as,_,r=>by
  cases r with
  |cons r rr=>
   obtain rfl:=(show _=Value.ref a from r)
   rw[yq rr];rfl
def EC(D:Addr)(n:Nat):HO:=.ext fun h=>∃hs t,iR h D hs t/\hs.size=n
section
variable {X:Cx}
def Mz(K:PySem.W.Frag):List V->Hp->VK->Prop:=fun xs H Q=>∃ (l:Addr) (as:List Addr) (ys:List (Int×Int)),xs=[.ref l]/\aQ K H l (as.map V.ref)/\as.length=ys.length/\
 (∀i,i<ys.length->BO K H (as.getD i 0) (ys.getD i (0,0)))/\ys.Nodup/\(∀y∈ys,(0<=y.1/\y.1<32)/\(0<=y.2/\y.2<32))/\ys.length<=300/\∀D,H D=none->Q (.ref D) (upd H D (EC D ys.length))
theorem zY(hc:X.calm=true)(hu:X.A.units+8<cLine):eM X (.type "set") (Mz X.K):=by
 intro ae s σ H xs us Q I r h;obtain⟨l,as,ys,rfl,hl,dI,hp,nd,rg,h3,q⟩:=h;obtain⟨u1,rfl,r1⟩:=r.one;obtain rfl:u1=Value.ref l:=r1;obtain⟨its,rv,pl,hz⟩:=I.list hl;have e:=yq rv;subst e;have XM:h9 s.heap (as.map Value.ref) ys:=⟨by rw[aB,dI],fun i v hv=>by
  rw[bO] at hv;cases ea:as[i]? with
  |none=>rw[ea] at hv;cases hv
  |some a=>
   rw[ea] at hv;obtain rfl:Value.ref a=v:=bE hv;have hi:i<as.length:=(cD.mp ea).1;obtain⟨o,n,t,u,e1,c,d⟩:=wS I (hp i (by lia));have eg:as.getD i 0=a:=by rw[bh,ea];rfl
   rw[eg] at e1;exact⟨a,o,n,t,u,rfl,e1,c,d⟩⟩
 have zT:∀led,∃q:Array Int×SetTable,su led (ys.map (eB X.prog X.w))=some q/\q.1.size=ys.length:=fun led=>
  let ⟨hs,t,e,z⟩:=uB (P:=X.prog) (w:=X.w) led nd rg h3;⟨(hs,t),e,z⟩
 refine BS (I.ok.hd hc) hu pl.isList XM (hsN:=fun led=>(zT led).choose.1) (tN:=fun led=>(zT led).choose.2) (fun led=>(zT led).choose_spec.1) fun led h' tk S' k=>?_;refine⟨.ref s.heap.objs.size,_,I.yd (t':=tk) (o:=EC s.heap.objs.size ys.length) (fun b u e=>k b u (bn e) e) (nK (a8 _)) ⟨⟨_,_,S',(zT led).choose_spec.2⟩,?_,fun h1 h2 ⟨hs,t,⟨o,es,ep,q1,q2⟩,z⟩ kk=>⟨hs,t,⟨o,es,ep,kk o q1,q2⟩,z⟩⟩,rfl,q _ I.fresh⟩;obtain⟨o,_,_,q1,_⟩:=S';exact⟨o,q1⟩
theorem uC:eM X (.builtin "len") (fun xs H Q=>∃D n,xs=[.ref D]/\H D=some (EC D n)/\n<=4096/\Q (.int n) H):=by
 intro ae s σ H xs us Q I r h;obtain⟨D,n,rfl,e,hn,q⟩:=h;obtain⟨u1,rfl,r1⟩:=r.one;obtain rfl:u1=Value.ref D:=r1;obtain⟨⟨hs,t,⟨o,es,ep,q1,q2,q3,q4,q5,q6⟩,z⟩,_⟩:=(show bU X.prog X.w H s.heap D (EC D n) from I.ck D _ e)
 have hsz:es.size=n:=by rw[<-z,<-q5,g7]
 exact call_len_set q1 ⟨q2,q3.1,q3.2⟩ q4 q6 (by rw[hsz];lia) ⟨.int n,H,I.tok _,⟨_,by rw[hsz]⟩,q⟩
theorem uD:eM X (.type "range") (fun xs H Q=>∃n,xs=[.int n]/\∀p,H p=none->Q (.ref p) (upd H p (.Ba 0 n))):=by
 intro ae s σ H xs us Q I r h;obtain⟨n,rfl,q⟩:=h;obtain⟨u1,rfl,t,rfl⟩:=r.one;refine call_range_1 ⟨.ref s.heap.objs.size,_,I.laid (o:=.Ba 0 n) (fun b u e=>cw _ e) (a8 _) ⟨_,_,_,dG _ rfl⟩,rfl,q _ I.fresh⟩
theorem w5(hc:X.calm=true):eM X (.type "list") (fun xs H Q=>∃ (p:Addr) (n:Nat),xs=[.ref p]/\H p=some (.Ba 0 n)/\n<=1000/\∀l,H l=none->Q (.ref l) (upd H l (.lst ((List.range n).map fun (i:Nat)=>V.int i)))):=by
 intro ae s σ H xs us Q I r h;obtain⟨p,n,rfl,e,hn,q⟩:=h;obtain⟨u1,rfl,r1⟩:=r.one;obtain rfl:u1=Value.ref p:=r1;obtain⟨t,u,v,hp⟩:=(show bU X.prog X.w H s.heap p (.Ba 0 n) from I.ck p _ e)
 refine call_list_range (n:=n) (I.ok.hd hc) (show IsRange s.heap p 0 n 1 t u v from hp) (small_one (by lia) (by lia) (by lia) (by lia)) (by rw[rangeSize_one];split <;> lia) (by lia) fun h' tk cR c k g it=>?_;obtain⟨i1,i2⟩:=it;refine⟨.ref s.heap.objs.size,_,I.yd (t':=tk) (o:=.lst ((List.range n).map fun (i:Nat)=>V.int i)) (fun b u e=>k b u e) (nK (a8 _)) ⟨?_,cR.toList,c,?_,by simpa using g⟩,rfl,q _ I.fresh⟩
 .rw[aB,cG];exact a7 hn (by decide)
 .have go:∀ (m:Nat) (l:List Value),l.length=m->(∀ (j:Nat) v,l[j]?=some v->∃t,v=Value.int (0+(j:Int)*1) t)->aX ((List.range m).map fun (i:Nat)=>V.int i) l:=by
   intro m;induction m with
   |zero=>intro l hl _;cases l with
    |nil=>exact .nil
    |cons _ _=>cases hl
   |succ m ih=>
    intro l hl hv;have t7:l≠[]:=by intro z;rw[z] at hl;cases hl
    have el:l=l.dropLast++[l.getLast t7]:=(List.dropLast_concat_getLast t7).symm;rw[gX,bT,el];have GW:l.dropLast.length=m:=by rw[List.length_dropLast,hl];rfl
    refine aX.append (ih _ GW fun j v hj=>hv j v ?_) (.cons ?_ .nil)
    .rw[el];have XN:j<l.dropLast.length:=(cD.mp hj).1;rw[kd XN];exact hj
    .obtain⟨t,ht⟩:=hv m (l.getLast t7) (by
      rw[List.getLast_eq_getElem,bD (by lia:m<l.length)];simp[hl])
     exact⟨t,by rw[ht];simp⟩
  exact go n cR.toList (by simpa using i1) fun j v hj=>i2 j v (by simpa using hj)
end
def gk(e:V->V->Bool):List V->List V->Bool
 |[],[]=>true
 |x::xs,y::ys=>e x y&&gk e xs ys
 |_,_=>false
theorem gm:∀ {xs ys:List V},xs.length=ys.length->gk e xs ys=(List.range xs.length).all fun i=>e (xs.getD i .bw) (ys.getD i .bw)
 |[],[],_=>rfl
 |x::xs,y::ys,h=>by
  have h':xs.length=ys.length:=by simpa using h
  rw[gk,gm h',dk,nB,iI,List.all_map];rfl
 |[],_::_,h=>by simp at h
 |_::_,[],h=>by simp at h
theorem lH:∀ {xs ys:List V},xs.length≠ys.length->gk e xs ys=false
 |[],[],h=>absurd rfl h
 |x::xs,y::ys,h=>by
  have h':xs.length≠ys.length:=fun z=>h (by simp[z]);rw[gk,lH h',Bool.and_false]
 |[],_::_,_=>rfl
 |_::_,[],_=>rfl
section
variable {X:Cx}
def MA(X:Cx)(H:Hp)(e:V->V->Bool)(x y:V):Prop:=∀ (ae:List (Addr×Obj)) (s:Shared) (σ:St) (A:Around) (u v:Value),aM X ae σ H s->A.units+1<cLine->bi x u->bi y v->SeqAt.EqAt A s u v (e x y)
def MB(X:Cx)(AL:Bool)(e:V->V->Bool):R2:=fun x y H Q=>∃p q xs ys,x=.ref p/\y=.ref q/\aQ X.K H p xs/\aQ X.K H q ys/\(∀i,i<xs.length->i<ys.length->MA X H e (xs.getD i .bw) (ys.getD i .bw))/\Q (.bl (if AL then !gk e xs ys else gk e xs ys)) H
theorem uE(I:aM X ae σ H s)(hu:A.units+1<cLine)(rx:aX xs us)(ry:aX ys vs)(he:∀i,i<xs.length->i<ys.length->MA X H e (xs.getD i .bw) (ys.getD i .bw)):∀j (h1:j<us.toArray.size) (h2:j<vs.toArray.size),SeqAt.EqAt A s us.toArray[j] vs.toArray[j] (e (xs.getD j .bw) (ys.getD j .bw)):=by
 intro j h1 h2;have j1:j<xs.length:=by rw[rx.length];simpa using h1
 have j2:j<ys.length:=by rw[ry.length];simpa using h2
 have e1:xs[j]?=some (xs.getD j .bw):=by rw[bh,bD j1];rfl
 have e2:ys[j]?=some (ys.getD j .bw):=by rw[bh,bD j2];rfl
 obtain⟨u,DW,ru⟩:=rx.get e1;obtain⟨v,MC,rv⟩:=ry.get e2;have eu:us.toArray[j]=u:=by
  have:us[j]?=some us.toArray[j]:=by simp at h1 |-
  rw[DW] at this;exact(bE this).symm
 have ev:vs.toArray[j]=v:=by
  have:vs[j]?=some vs.toArray[j]:=by simp at h2 |-
  rw[MC] at this;exact(bE this).symm
 rw[eu,ev];exact he j j1 j2 ae s σ A u v I hu ru rv
theorem Ix{e:V->V->Bool}(hu:X.A.units+2<cLine):jx X (compareOp .NotEq) (MB X true e):=by
 intro ae s σ H x y v u Q I rx ry h;obtain⟨p,q,xs,ys,rfl,rfl,hp,hq,he,k⟩:=h;obtain rfl:v=Value.ref p:=rx;obtain rfl:u=Value.ref q:=ry;obtain⟨us,r1,p1,_⟩:=I.list hp;obtain⟨vs,r2,p2,_⟩:=I.list hq;by_cases hl:xs.length=ys.length
 .refine SeqAt.RcNeAt.lists (e:=fun i=>e (xs.getD i .bw) (ys.getD i .bw)) p1.isList p2.isList (by simp only[bS];rw[<-r1.length,<-r2.length];exact hl) (by lia) (uE I (by show X.A.units+1+1<cLine;lia) r1 r2 he) _ _ _ _ ⟨.bl _,H,I,rfl,?_⟩;rw[show us.toArray.size=xs.length by rw[bS,r1.length],<-gm hl];exact k
 .refine SeqAt.RcNeAt.lists_lengths p1.isList p2.isList (by simp only[bS];rw[<-r1.length,<-r2.length];simpa using hl) (by lia) _ _ _ _ ⟨.bl _,H,I,rfl,?_⟩;have k':=k;rw[lH hl] at k';exact k'
theorem B4(hu:X.A.units+2<cLine):jx X (compareOp .Eq) (MB X false e):=by
 intro ae s σ H x y v u Q I rx ry h;obtain⟨p,q,xs,ys,rfl,rfl,hp,hq,he,k⟩:=h;obtain rfl:v=Value.ref p:=rx;obtain rfl:u=Value.ref q:=ry;obtain⟨us,r1,p1,_⟩:=I.list hp;obtain⟨vs,r2,p2,_⟩:=I.list hq;by_cases hl:xs.length=ys.length
 .refine SeqAt.eq_listAt (e:=fun i=>e (xs.getD i .bw) (ys.getD i .bw)) p1.isList p2.isList (by simp only[bS];rw[<-r1.length,<-r2.length];exact hl) (by lia) (uE I (by show X.A.units+1+1<cLine;lia) r1 r2 he) ⟨.bl _,H,I,rfl,?_⟩;rw[show us.toArray.size=xs.length by rw[bS,r1.length],<-gm hl];exact k
 .refine SeqAt.eq_list_lengthsAt p1.isList p2.isList (by simp only[bS];rw[<-r1.length,<-r2.length];simpa using hl) (by lia) ⟨.bl _,H,I,rfl,?_⟩;have k':=k;rw[lH hl] at k';exact k'
theorem zZ(hc:X.calm=true):eM X (.builtin "any") (fun xs H Q=>∃ (p:Addr) (bs:List Bool),xs=[.ref p]/\aQ X.K H p (bs.map V.bl)/\Q (.bl (bs.any id)) H):=by
 intro ae s σ H xs us Q I r h;obtain⟨p,bs,rfl,hp,q⟩:=h;obtain⟨u1,rfl,r1⟩:=r.one;obtain rfl:u1=Value.ref p:=r1;obtain⟨its,rv,pl,hz⟩:=I.list hp;have B5:its=bs.map Value.bool:=by
  have go:∀ (bs:List Bool) (its:List Value),aX (bs.map V.bl) its->its=bs.map Value.bool:=by
   intro bs;induction bs with
   |nil=>intro its r;cases r;rfl
   |cons b bs ih=>
    intro its r;cases r with
    |cons r rr=>
     obtain rfl:=(show _=Value.bool b from r)
     rw[ih _ rr];rfl
  exact go bs its rv
 subst B5;obtain⟨ob,RD,_⟩:=id pl.isList;have fw:p<s.heap.objs.size:=bn RD;refine call_any_walk (nR pl.isList ⟨s.heap.objs.size,_,_,_,_,_,fun i=>bs.getD i false,rfl,Walks.list (show X.A.in1.handled=none from I.ok.hd hc) _ p (aZ fw) _,⟨⟨_,dG _ rfl,rfl,rfl⟩,pl.isList.push _⟩,fun i v s1 Q' E' hv hq=>?_,fun h' tk k=>?_⟩)
 .have zF:(bs.map Value.bool)[i]?=some v:=by simpa using hv
  rw[bO] at zF;cases eb:bs[i]? with
  |none=>rw[eb] at zF;cases zF
  |some b=>
   rw[eb] at zF;obtain rfl:Value.bool b=v:=bE zF;have:bs.getD i false=b:=by rw[bh,eb];rfl
   have Em:Q' b s1:=by rw[<-this];exact hq
   exact wpAny_pure Em
 .have keep:∀b o,s.heap.get? b=some o->h'.get? b=some o:=fun b o e=>k b o (by simpa using aZ (bn e)) (cw _ e);refine⟨.bl (bs.any id),H,I.kept (t':=tk) keep,?_,q⟩;show Value.bool _=Value.bool _;congr 1;have go:∀ (bs:List Bool),((List.range bs.length).any fun i=>bs.getD i false)=bs.any id:=by
   intro bs;induction bs with
   |nil=>rfl
   |cons b bs ih=>
    rw[dk,nB,iH,List.any_map,iH,<-ih];rfl
  rw[<-go bs];simp
end
def qi(c:Addr)(qual:Str):HO:=.ext fun h=>h.CodeRec (.ref c) qual
theorem B6(x:h.CodeRec (.ref c) qual):bU P w H h c (qi c qual):=by
 refine⟨x,?_,?_⟩
 .obtain⟨c',o,vs,t,e,ho,_⟩:=x;cases e;exact⟨o,ho⟩
 .rintro h1 h2 ⟨c',o,vs,t,e,ho,r⟩ k;cases e;exact⟨c,o,vs,t,rfl,k o ho,r⟩
def GZ(f:Addr)(qual:Str)(params:Arguments)(body:Expr)(scope:Scope)(cells:List (Str×Addr))(c:Addr)(h:Heap):Prop:=
 ∃ (iS:List (Str×Addr)) (pm yt:Value),(∀x a,iS.lookup x=some a->cells.lookup x=some a)/\(∀x,(x,NameKind.free)∈scope.names->∃a,iS.lookup x=some a)/\
  h.get? f=some (PySem.W.kla_obj "<lambda>" qual params body scope iS pm c yt)
def w6(f:Addr)(qual:Str)(params:Arguments)(body:Expr)(scope:Scope)(cells:List (Str×Addr))(c:Addr):HO:=.ext (GZ f qual params body scope cells c)
theorem yu(x:GZ f qual params body scope cells c h):
  bU P w H h f (w6 f qual params body scope cells c):=by
 refine⟨x,?_,?_⟩
 .obtain⟨_,_,_,_,_,e⟩:=x;exact⟨_,e⟩
 .rintro h1 h2 ⟨iS,pm,yt,a,b,e⟩ k;exact⟨iS,pm,yt,a,b,k _ e⟩
def B7(lp:Pos)(qual:Str)(P:Addr)(H:Hp):Prop:=H P=some (.my #[])\/∃c,H P=some (.my #[rawInt lp.line,rawInt lp.col,.ref c])/\H c=some (qi c qual)
structure ED(X:Cx)(c P:Addr):Prop where
 code:X.env.code=.ref c
 hd:PySem.W.CodeHd X.base c P
 bm:∃bm o,X.mg "__builtins__"=some (.ref bm)/\bm≠builtinsNs/\bm≠mainGlobals/\X.base.get? bm=some o/\o.cls=.type "module"/\o.dict=some builtinsNs/\o.data=.plain
def RE(lp:Pos)(qual:Str)(P:Addr)(params:Arguments)(body:Expr)(scope:Scope)(cells:List (Str×Addr)):TE:=fun _ H Q=>B7 lp qual P H/\
 ∀ (f c:Addr) (H2:Hp),B7 lp qual P H2->(∀b o,H b=some o->b≠P->H2 b=some o)->H2 c=some (qi c qual)->H2 f=some (w6 f qual params body scope cells c)->Q (.ref f) H2
theorem uF{lp:Pos}{c:Addr}:TriplesOk (#[rawInt lp.line,rawInt lp.col,.ref c]:Array Value).toList:=trivial
theorem z4:codeAmong lp (#[rawInt lp.line,rawInt lp.col,.ref c]:Array Value).toList=some (.ref c):=by
 show (if ((lp.line:Int)==(lp.line:Int)&&(lp.col:Int)==(lp.col:Int))=true then some (Value.ref c) else _)=_;simp
section
variable {X:Cx} {c P:Addr} {params:Arguments} {body:Expr} {scope:Scope} {lp:Pos} {NB:List Str} {src:List (Option Nat)}
theorem ED.at(C:ED X c P)(I:aM X ae σ H s)(hP:H P=some (.my ps)):s.heap.BuiltinsAt X.mg P:=by
 obtain⟨bm,o,b1,b2,b3,b4,b5,b6,b7⟩:=C.bm;refine⟨bm,o,b1,b2,b3,fun z=>?_,I.bk _ _ b4,b5,b6,b7⟩;have:=(I.bs _ _ b4).2;rw[z,hP] at this;cases this
theorem aM.G0(I:aM X ae σ H s):s.heap.Ns mainGlobals X.mg:=I.mod.glob.keeps I.bk
theorem Iy(C:ED X c P)(S:fT NB src scope X)(RF:defaultsOf params X.env=([],[]):=by rfl):PE X (.Lambda params body scope lp) (RE lp (X.env.qual++"<lambda>") P params body scope X.env.cells):=by
 intro ae s σ H Q I h;obtain⟨XO,h⟩:=h;obtain⟨iS,Vt,c1,c2⟩:=jW I.ok S;refine PySem.W.kla_eval RF ?_;have hsz:∀b o,s.heap.get? b=some o->b<s.heap.objs.size:=fun b o e=>bn e;rcases XO with hP|⟨c',hP,HK⟩
 .-- XQ first time
  have ME:s.heap.get? P=some (PySem.W.tabObj #[]):=I.ck P _ hP;have XR:X.env.locals≠P:=fun z=>by have f:=I.free;rw[z,hP] at f;cases f
  have XS:mainGlobals≠P:=fun z=>by
   obtain⟨o,es,ep,e,d,_⟩:=I.mod.glob;have:=(I.bs _ _ e).2;rw[z,hP] at this;cases this
  refine PySem.W.kla_makeFunction (mg:=X.mg) Vt I.ok.glob I.G0 C.code (C.hd.keeps I.bk) ME (by trivial) rfl XS (C.at I hP) fun c' yt h' tk hx EE fw RG Vu=>?_;have EF:∀b o,b≠P->s.heap.get? b=some o->(h'.push (PySem.W.kla_obj "<lambda>" (X.env.qual++"<lambda>") params body scope iS ((X.mg "__name__").getD .none) c' yt)).get? b=some o:=fun b o hb e=>cw _ (hx b o hb e);have XT:c'≠P:=nY (bN (hsz _ _ ME) EE);have XU:h'.objs.size≠P:=nY (bN (hsz _ _ ME) (a7 EE (iJ fw)));have XV:h'.objs.size≠c':=nY fw;have nf:H h'.objs.size=none:=I.ck.fresh (by lia);have nc:H c'=none:=I.ck.fresh EE
  let H2:Hp:=upd (upd (upd H P (.my #[rawInt lp.line,rawInt lp.col,.ref c'])) c' (qi c' (X.env.qual++"<lambda>"))) h'.objs.size (w6 h'.objs.size (X.env.qual++"<lambda>") params body scope X.env.cells c')
  have eP:H2 P=some (.my #[rawInt lp.line,rawInt lp.col,.ref c']):=by
   show upd _ _ _ _=_;rw[am XU.symm,am XT.symm,ab]
  have ec:H2 c'=some (qi c' (X.env.qual++"<lambda>")):=by
   show upd _ _ _ _=_;rw[am XV.symm,ab]
  have ef:H2 h'.objs.size=some (w6 h'.objs.size (X.env.qual++"<lambda>") params body scope X.env.cells c'):=ab;have eo:∀b,b≠P->b≠c'->b≠h'.objs.size->H2 b=H b:=fun b h1 h2 h3=>by
   show upd _ _ _ _=_;rw[am h3,am h2,am h1]
  have t_:∀b o,H b=some o->b≠P->H2 b=some o:=fun b o e hb=>by
   rw[eo b hb (ai e nc) (ai e nf)];exact e
  have I2:aM X ae σ H2 { s with heap:=h'.push (PySem.W.kla_obj "<lambda>" (X.env.qual++"<lambda>") params body scope iS ((X.mg "__name__").getD .none) c' yt),toks:=tk }:=by
   refine I.step (g':=s.gens) (d':=s.drawn) (ch:=[]) (fun _ z=>absurd z (by simp)) (fun b o _ _ _ e n=>EF b o (fun z=>by rw[z,hP] at n;cases n) e) (fun b o _ _ _ e n=>⟨o.slots,EF b o (fun z=>by rw[z,hP] at n;cases n) e⟩)
    (fun b o _ e n=>?_) (fun b o _ e=>?_) (fun b xs e=>t_ b _ e fun z=>by rw[z,hP] at e;cases e) (fun b o u e=>t_ b _ e fun z=>by rw[z,hP] at e;cases e) (fun b ps e=>?_) (fun m hm=>?_) (fun b o e=>?_) I.bare
   .rw[eo b (fun z=>by rw[z,hP] at n;cases n) (aZ (bN (hsz b o e) EE)) (aZ (bN (hsz b o e) (a7 EE (iJ fw))))];exact n
   .by_cases hb:b=P
    .exact⟨_,by rw[hb];exact cw _ Vu⟩
    .exact⟨o,EF b o hb e⟩
   .by_cases hb:b=P
    .rw[hb] at e |-;rw[hP] at e;cases e;exact⟨#[rawInt lp.line,rawInt lp.col,.ref c'],by rw[eP];simp⟩
    .exact⟨#[],by rw[t_ b _ e hb];simp⟩
   .exact(hm.extBut hx XR).push _
   .by_cases Vv:b=h'.objs.size
    .subst Vv;rw[ef] at e;cases e;exact yu ⟨iS,_,yt,c1,c2,dG _ rfl⟩
    .by_cases Ro:b=c'
     .subst Ro;rw[ec] at e;cases e;refine B6 ?_;obtain⟨c₂,oc,vs,t,e2,Pk,r⟩:=RG;exact⟨c₂,oc,vs,t,e2,cw _ Pk,r⟩
     .by_cases RH:b=P
      .subst RH;rw[eP] at e;cases e;exact cw _ Vu
      .rw[eo b RH Ro Vv] at e;refine(I.ck b o e).ud (fun d u hd q=>EF d u ?_ q) (fun d q=>t_ d _ q fun z=>by rw[z,hP] at q;cases q) fun d xs q=>t_ d _ q fun z=>by rw[z,hP] at q;cases q
       rintro rfl;rcases hd with z|z
       .exact RH z.symm
       .rw[hP] at z;cases z
  exact⟨.ref h'.objs.size,H2,I2,rfl,h _ c' H2 (.inr ⟨c',eP,ec⟩) t_ ec ef⟩
 .-- again
  have ME:s.heap.get? P=some (PySem.W.tabObj #[rawInt lp.line,rawInt lp.col,.ref c']):=I.ck P _ hP;refine PySem.W.kla_makeFunctionHit (mg:=X.mg) Vt I.ok.glob I.G0 C.code (C.hd.keeps I.bk) ME uF z4 (C.at I hP) fun yt h' tk hk EE=>?_;have nf:H h'.objs.size=none:=I.ck.fresh EE
  let H2:Hp:=upd H h'.objs.size (w6 h'.objs.size (X.env.qual++"<lambda>") params body scope X.env.cells c')
  have ef:H2 h'.objs.size=some (w6 h'.objs.size (X.env.qual++"<lambda>") params body scope X.env.cells c'):=ab;have t_:∀b o,H b=some o->H2 b=some o:=fun b o e=>by
   show upd _ _ _ _=_;rw[am (ai e nf)];exact e
  have EF:∀b o,s.heap.get? b=some o->(h'.push (PySem.W.kla_obj "<lambda>" (X.env.qual++"<lambda>") params body scope iS ((X.mg "__name__").getD .none) c' yt)).get? b=some o:=fun b o e=>cw _ (hk b o e);have I2:aM X ae σ H2 { s with heap:=h'.push (PySem.W.kla_obj "<lambda>" (X.env.qual++"<lambda>") params body scope iS ((X.mg "__name__").getD .none) c' yt),toks:=tk }:=by
   refine I.step (g':=s.gens) (d':=s.drawn) (ch:=[]) (fun _ z=>absurd z (by simp)) (fun b o _ _ _ e n=>EF b o e) (fun b o _ _ _ e n=>⟨o.slots,EF b o e⟩)
    (fun b o _ e n=>?_) (fun b o _ e=>⟨o,EF b o e⟩) (fun b xs e=>t_ b _ e) (fun b o u e=>t_ b _ e) (fun b ps e=>⟨#[],by rw[t_ b _ e];simp⟩) (fun m hm=>(hm.keeps hk).push _) (I.ck.laid EF EE (yu ⟨iS,_,yt,c1,c2,dG _ rfl⟩)) I.bare
   .show upd _ _ _ _=_;rw[am (aZ (bN (hsz b o e) EE))];exact n
  exact⟨.ref h'.objs.size,H2,I2,rfl,h _ c' H2 (.inr ⟨c',t_ _ _ hP,t_ _ _ HK⟩) (fun b o e _=>t_ b o e) (t_ _ _ HK) ef⟩
end
def B8(X:Cx)(id:String)(ks:List Str)(r:St->List V->List V->Hp->VK->Prop):Prop:=
 ∀ (ae:List (Addr×Obj)) (s:Shared) (σ:St) (H:Hp) (vs zs:List V) (us ws:List Value) (Q:VK),aM X ae σ H s->aX vs us->aX zs ws->r σ vs zs H Q->
  wpAny (model X.prog X.w) X.A (call (.builtin id) us (ks.zip ws)) (EP X ae σ Q) X.xe s
def RI(r:St->List V->List V->Hp->VK->Prop)(t tk:TA):TE:=fun σ H Q=>t σ H fun vs H1=>tk σ H1 fun zs H2=>r σ vs zs H2 Q
section
variable {X:Cx} {x:Str} {p pos:Pos} {e:Expr} {es:List Expr} {BB:List Keyword} {t tk:TA} {id:String} {ks:List Str} {r:St->List V->List V->Hp->VK->Prop}
theorem z6(hc:B8 X id ks r)(hg:Gl X x)(hm:X.mg x=none)(hv:bootBuiltins x=some (.builtin id))(ha:PA X (e::es) t)(XW:PK X BB tk)(hn:x≠"__name__":=by decide)(Bz:(x==("__debug__":Str))=false:=by decide)(XX:(backToKw pos (keywordEach BB X.env)).filterMap (·.1)=ks:=by rfl)(he:backTo pos (starEach (e::es) X.env)=(false,eval e X.env)::backTo pos (starEach es X.env):=by rfl)(wP:(backTo pos (starEach (e::es) X.env)).any (·.1)=false:=by rfl)(pD:(backToKw pos (keywordEach BB X.env)).all (·.1.isSome)=true:=by rfl)(t9:(backToKw pos (keywordEach BB X.env)).any (·.1.isNone)=false:=by rfl):PE X (.Call (.Name x p) (e::es) BB pos) (RI r t tk):=by
 intro ae s σ H Q I h;refine nP (lw I hg hm hv ?_ hn Bz);refine PyProof.Rows.callWith_kw (cs (ha pos ae s σ H _ I h) fun us s1 ⟨vs,H1,I1,r1,q1⟩=>?_) he wP pD t9;refine cs (XW pos ae s1 σ H1 _ I1 q1) fun ws s2 ⟨zs,H2,I2,rz,q2⟩=>?_;rw[XX];exact hc ae s2 σ H2 vs zs us ws Q I2 r1 rz q2
end
def Iz(za zb:Int)(ns out:List Int):Prop:=∃ps:List (Int×Int),ps.Perm (ns.map fun z=>((z-za) % zb,z))/\out=ps.map (·.2)/\ps.Pairwise fun p q=>p.1<=q.1
def IA(X:Cx)(qual:Str)(params:Arguments)(body:Expr)(scope:Scope)(ia ib:Nat):St->List V->List V->Hp->VK->Prop:=fun σ vs zs H Q=>
 ∃ (l f c:Addr) (ns:List Int) (za zb:Int),vs=[.ref l]/\zs=[.ref f]/\aQ X.K H l (ns.map V.int)/\ns.length<64/\H f=some (w6 f qual params body scope X.env.cells c)/\H c=some (qi c qual)/\
  σ[ia]?=some (some (.int za))/\σ[ib]?=some (some (.int zb))/\0<zb/\∀ (r:Addr) (out:List Int),H r=none->Iz za zb ns out->Q (.ref r) (upd H r (.lst (out.map V.int)))
theorem qj:∀ {ns:List Int} {vs:List Value},aX (ns.map V.int) vs->IntsAre vs ns
 |[],_,.nil=>.nil
 |_::_,_,.cons ⟨t,e⟩ r=>by subst e;exact .cons _ t (qj r)
structure MG(X:Cx)(qual:Str)(params:Arguments)(body:Expr)(scope:Scope)(y a b:Str)(ia ib:Nat):Prop where
 bd:∃p1 p2 p3 p4 p5,body=.BinOp (.BinOp (.Name y p1) .Sub (.Name a p2) p3) .Mod (.Name b p4) p5
 bind:∀iS pm c yt v,bindArgs (PySem.W.kla_fn "<lambda>" qual params body scope iS pm (.ref c) yt) ⟨[v],[]⟩=pure [(y,v)]
 na:X.N[ia]?=some a
 nb:X.N[ib]?=some b
 ca:X.env.scope.names.lookup a=some .cell
 cb:X.env.scope.names.lookup b=some .cell
 ly:scope.names.lookup y=some .local
 fa:scope.names.lookup a=some .free
 fb:scope.names.lookup b=some .free
 ma:(a,NameKind.free)∈scope.names
 mb:(b,NameKind.free)∈scope.names
 IC:∀z∈scope.names,z.2≠.cell
 kind:scope.kind=.function
 co:scope.isCoroutine=false
 gen:scope.isGenerator=false
 dy:(y==("__debug__":Str))=false
 da:(a==("__debug__":Str))=false/\(a==("__classdict__":Str))=false
 db:(b==("__debug__":Str))=false/\(b==("__classdict__":Str))=false
theorem w9(S:MG X qual params body scope y a b ia ib)(hr:cI k X.A):
  B8 X "sorted" ["key"] (IA X qual params body scope ia ib):=by
 intro ae s σ H vs zs us ws Q I r rz h;obtain⟨l,f,c,ns,za,zb,rfl,rfl,hl,MH,hf,hc,sa,sb,XY,q⟩:=h;obtain⟨u1,rfl,r1⟩:=r.one;obtain rfl:u1=Value.ref l:=r1;obtain⟨w1,rfl,XZ⟩:=rz.one;obtain rfl:w1=Value.ref f:=XZ;obtain⟨its,rv,pl,hz⟩:=I.list hl;have hI:=qj rv;obtain⟨m,F⟩:=I.fr;obtain⟨p1,p2,p3,p4,p5,rfl⟩:=S.bd;obtain⟨iS,pm,yt,c1,c2,Mi⟩:=(I.ck f _ hf).1;have X0:s.heap.CodeRec (.ref c) qual:=(I.ck c _ hc).1;obtain⟨m',GG,Vw⟩:=I.loc;have MI:∃ca ta,iS.lookup a=some ca/\s.heap.IsCell ca (some (.int za ta)):=by
  obtain⟨u,⟨ta,rfl⟩,lk⟩:=Vw ia a (.int za) S.na sa (.inr (.inl S.ca));obtain⟨ca,e1⟩:=c2 a S.ma;rcases lk with ⟨z,_⟩|⟨_,ca',e2,e3⟩
  .have z':X.env.scope.names.lookup a=some .local:=z;rw[S.ca] at z';cases z'
  .have e4:=c1 a ca e1;rw[e2] at e4;cases e4;exact⟨ca,ta,e1,e3⟩
 have MJ:∃cb tb,iS.lookup b=some cb/\s.heap.IsCell cb (some (.int zb tb)):=by
  obtain⟨u,⟨tb,rfl⟩,lk⟩:=Vw ib b (.int zb) S.nb sb (.inr (.inl S.cb));obtain⟨cb,e1⟩:=c2 b S.mb;rcases lk with ⟨z,_⟩|⟨_,cb',e2,e3⟩
  .have z':X.env.scope.names.lookup b=some .local:=z;rw[S.cb] at z';cases z'
  .have e4:=c1 b cb e1;rw[e2] at e4;cases e4;exact⟨cb,tb,e1,e3⟩
 obtain⟨ca,ta,ea,ha⟩:=MI;obtain⟨cb,tb,eb,hb⟩:=MJ;have Py:∀b' (o:Obj),s.heap.get? b'=some o->(∀es ep,o.data≠.dict es ep)->b'≠X.env.locals:=fun b' o e d z=>by
  obtain⟨o',es,ep,e',d',_⟩:=F.ns;rw[z,e'] at e;cases e;exact d _ _ d'
 have len:(ns.map fun z=>(z-za) % zb).length=its.length:=by rw[aB,hI.length]
 refine ksk_sorted (b:=false) (f:=.ref f) (kz:=ns.map fun z=>(z-za) % zb) F Bc pl.isList len (by rw[hI.length];exact MH) (ksk_s1 _ _) (fun x=>ksk_l1 _ _) (fun x=>ksk_t1 _ _) ?_ ?_
 .-- one key
  intro i v k hv hk h tk own F' N';have at_:∀b' u,b'≠X.env.locals->s.heap.get? b'=some u->h.get? b'=some u:=fun b' u t7 e=>by
   cases z:X.base.get? b' with
   |some o=>
    have:=I.bk b' o z;rw[e] at this;cases this;exact F'.keep b' _ z
   |none=>exact(N' (b',u) (gc _ (iM t7 z e))).1
  have RJ:=at_ f _ (Py f _ Mi (by intro es ep z;cases z)) Mi;have RK:h.CodeRec (.ref c) qual:=by
   obtain⟨c0,o,Vx,t0,e0,ho,hd,X1⟩:=X0;refine⟨c0,o,Vx,t0,e0,at_ _ _ (Py _ _ ho (by rw[hd];intro es ep z;cases z)) ho,hd,X1⟩
  have Mh:h.IsCell ca (some (.int za ta)):=by
   obtain⟨o,ho,hd⟩:=ha;exact⟨o,at_ _ _ (Py _ _ ho (by rw[hd];intro es ep z;cases z)) ho,hd⟩
  have EG:h.IsCell cb (some (.int zb tb)):=by
   obtain⟨o,ho,hd⟩:=hb;exact⟨o,at_ _ _ (Py _ _ ho (by rw[hd];intro es ep z;cases z)) ho,hd⟩
  obtain⟨z,tz,rfl,rfl⟩:∃z tz,v=.int z tz/\k=(z-za) % zb:=by
   obtain⟨n,t,e⟩:=hI.all v (cE hv);refine⟨n,t,e,?_⟩;rw[bO] at hk;have hn:=hI.nums;have e1:(its.map numOf)[i]?=some n:=by rw[bO,hv,e];rfl
   rw[hn] at e1;rw[e1] at hk;exact(bE hk).symm
  have ML:X.A.in1.in1.depth<recursionLimit:=by
   have:=hr.dp;show X.A.depth<_;lia
  refine wpAny_call (PySem.W.kla_callFunE ML RJ rfl S.co S.gen rfl RK ?_);rw[S.bind];refine wpAny_pure (wpAny_newFunctionEnv S.IC (fun x hx=>by rw[bR.mp hx];exact S.ly) (fun h₁ vE Vy=>⟨((I.ok.mod.nolimit).keeps F'.keep).fresh _ Vy,?_⟩) S.kind);have MM:∀b o,h.get? b=some o->h₁.get? b=some o:=fun b o e=>Vy.extBut b o (aZ (bn e)) (cw _ e);have X2:=Mh.keeps MM;have X3:=EG.keeps MM;refine PySem.W.kla_codeExpr ?_;refine wpAny_BinOp (wpAny_BinOp ?_);refine lj (wa S.kind S.ly vE (v:=.int z tz) (by simp) ?_) S.dy;refine lj (wn S.kind S.fa ea X2 ?_ S.da.2) S.da.1;refine sub_int ?_;refine lj (wn S.kind S.fb eb X3 ?_ S.db.2) S.db.1;refine mod_int' (by lia) ?_;rw[A2 _ (by lia)];refine KskEnd.intro (news':=g_ X.base s.heap X.env.locals++own) ⟨F'.ns.keeps MM,fun b o e=>MM b o (F'.keep b o e),F'.above⟩ (fun p hp=>⟨MM _ _ (N' p hp).1,(N' p hp).2⟩) fun p hp=>hp
 .-- XQ list
  intro D h' tk out cc F' N' fw RL;have hD:=pE I N' fw;obtain⟨ps,hp,ho,hs⟩:=RL;have uv:∀p∈ps,∃n t,p.2=.int n t:=fun p KQ=>by
   have:=hp.mem_iff.mp KQ;exact hI.all _ (nU this).2
  have X4:((ns.map fun z=>(z-za) % zb).zip its).map (fun p=>(p.1,numOf p.2))=ns.map fun z=>((z-za) % zb,z):=by
   have hn:=hI.nums;rw[<-hn];have go:∀ (l:List Value),((((l.map numOf).map fun z=>(z-za) % zb).zip l).map fun p=>(p.1,numOf p.2))=(l.map numOf).map fun z=>((z-za) % zb,z):=by
    intro l;induction l with
    |nil=>rfl
    |cons x l ih=>simp only[cS,List.zip_cons_cons,ih]
   exact go its
  have BJ:aX ((ps.map fun p=>(p.1,numOf p.2)).map (fun p=>V.int p.2)) (ps.map Prod.snd):=by
   have go:∀ (l:List (Int×Value)),(∀p∈l,∃n t,p.2=.int n t)->aX ((l.map fun p=>(p.1,numOf p.2)).map (fun p=>V.int p.2)) (l.map Prod.snd):=by
    intro l;induction l with
    |nil=>intro _;exact .nil
    |cons x l ih=>
     intro hx;refine .cons ?_ (ih fun p hp=>hx p (b9 _ hp));obtain⟨n,t,e⟩:=hx x cz;show ∃t,x.2=Value.int (numOf x.2) t;rw[e];exact⟨t,rfl⟩
   exact go ps uv
  have z7:Iz za zb ns ((ps.map fun p=>(p.1,numOf p.2)).map (·.2)):=by
   refine⟨ps.map fun p=>(p.1,numOf p.2),?_,rfl,?_⟩
   .rw[<-X4];exact hp.map _
   .refine jp.mpr (hs.imp fun {p q} z=>?_);simpa using z
  have X5:h'.get? D=some (seqObj "list" out cc):=(N' _ cz).1;have I2:aM X ae σ (upd H D (.lst (((ps.map fun p=>(p.1,numOf p.2)).map (·.2)).map V.int))) { s with heap:=h',toks:=tk }:=by
   refine I.Ms F F' (fun p hp=>N' p (b9 _ hp)) hD ⟨?_,ps.map Prod.snd,cc,?_,?_⟩
   .have h1:=hp.length_eq;rw[List.length_zip,len,Nat.min_self] at h1;simp only[aB];rw[h1,hI.length];exact a7 (iJ MH) (by decide)
   .have ev:=BJ;simp only[du] at ev |-;exact ev
   .rw[X5,<-ho]
  exact⟨.ref D,_,I2,rfl,q D _ (I.ck.oo hD) z7⟩
def sH(mg:Str->Option Value)(base:Heap):Prop:=∃bm o,mg "__builtins__"=some (.ref bm)/\bm≠builtinsNs/\bm≠mainGlobals/\base.get? bm=some o/\o.cls=.type "module"/\o.dict=some builtinsNs/\o.data=.plain
def yv(ts:List Addr)(H:Hp):Prop:=(∀P∈ts,H P=some (.my #[]))/\∀b,H b=none\/(b∈ts/\H b=some (.my #[]))\/∃o xs,H b=some (.tZ o (.lst xs))
theorem z8{P:Program}{w:World}{K:PySem.W.Frag}{mg mb:Str->Option Value}{CX:uk}{k:Nat}{fa a:Addr}{fd:FuncData}{x:Str}{sp:Sp}{s₁:Shared}{vs:List Value}{ns:List Int}{ts:List Addr}(KX:K.In s₁.heap)(vE:s₁.heap.Ns mainGlobals mg)(hb:s₁.heap.Ns builtinsNs mb)(X6:∀x:Str,x≠"__name__"->mb x=bootBuiltins x)(RM:s₁.heap.NoLimit)(hg:s₁.gens=#[])(X7:sH mg s₁.heap)(MN:∀P∈ts,s₁.heap.get? P=some (PySem.W.tabObj #[]))(o5:∀P∈ts,∃c,PySem.W.codeHdIn K c P=true)(ID:∀P∈ts,K.lookup P=none)(ha:s₁.heap.get? a=some { cls:=.type "list",data:=.seq vs.toArray })(hi:IntsAre vs ns)(hl:ns.length<=sizeLine)(hr:cI k callerA)(F:∀base:Heap,K.In base->base.Ns mainGlobals mg->sH mg base->bv P w K mg base CX k fa fd [x] sp)(MP:∀ (s:Shared) (u:Value),BindsTo s fd ⟨[u],[]⟩ [(x,u)])(DT:∀H:Hp,yv ts H->aQ K H a (ns.map V.int)->sp [.ref a] H (fun v _=>v=.bl true) fun _ _ _=>False)(RN:∀H e s',CX [] H s₁ (fun _ _ _=>False) e s'->False):
  codeAny (model P w) callerA (.call (.ref fa) ⟨[.ref a],[]⟩) (fun r s'=>r=.ok (.ret (.bool true))/\OldK s₁.heap s'.heap/\s'.os=s₁.os/\AllBare s'.gens) s₁:=by
 have rv:=lC hi;have RO:=hi.length;have Pz:a∉ts:=fun z=>by
  have:=MN a z;rw[ha] at this;cases this
 have MQ:∀H:Hp,yv ts H->aQ K H a (ns.map V.int)->jv P w H s₁.heap->(∀b,H b≠none->b=a\/b∈ts)->(H a≠none->K.lookup a=none)->
   codeAny (model P w) callerA (.call (.ref fa) ⟨[.ref a],[]⟩) (fun r s'=>r=.ok (.ret (.bool true))/\OldK s₁.heap s'.heap/\s'.os=s₁.os/\AllBare s'.gens) s₁:=by
  intro H hO hS ck hA hK;have sI:∀ {b:Addr} {o:Obj},s₁.heap.get? b=some o->H b=none->(pq s₁.heap H).get? b=some o:=fun e n=>Bb e n;have KL:∀ {b:Addr} {o:Obj},s₁.heap.get? b=some o->(∀v n,o.data≠.seq v n)->(∀v,o.data≠.fields v)->H b=none:=fun {b o} e d1 d2=>by
   cases q:H b with
   |none=>rfl
   |some u=>
    rcases hA b (by rw[q];simp) with e'|e'
    .subst e';rw[ha] at e;cases e;exact absurd rfl (d1 _ _)
    .rw[MN b e'] at e;cases e;exact absurd rfl (d2 _)
  have PB:∀ {b:Addr} {m:Str->Option Value},s₁.heap.Ns b m->(pq s₁.heap H).Ns b m:=fun {b m} ⟨o,es,ep,e,d,r⟩=>⟨o,es,ep,sI e (KL e (by rw[d];intro v n z;cases z) (by rw[d];intro v z;cases z)),d,r⟩
  have Vz:K.In (pq s₁.heap H):=fun b o e=>sI (KX b o e) (by
   cases q:H b with
   |none=>rfl
   |some u=>
    rcases hA b (by rw[q];simp) with e'|e'
    .subst e';rw[hK (by rw[q];simp)] at e;cases e
    .rw[ID b e'] at e;cases e)
  have hB:sH mg (pq s₁.heap H):=by
   obtain⟨bm,o,b1,b2,b3,b4,b5,b6,b7⟩:=X7;exact⟨bm,o,b1,b2,b3,sI b4 (KL b4 (by rw[b7];intro v n z;cases z) (by rw[b7];intro v z;cases z)),b5,b6,b7⟩
  have hM:Mod K mg (pq s₁.heap H):=⟨Vz,PB vE,⟨mb,PB hb,X6⟩,let ⟨mc,h1,h2⟩:=RM;⟨mc,PB h1,h2⟩⟩
  have e0:wM P w K mg (pq s₁.heap H) callerA [] s₁ H:=⟨rfl,hM,fun b o e=>D9 e,nZ (zx _ _),trivial,fun b hb=>absurd (show b∈([]:List Addr) from hb) (by simp),ck,.of_eq hg⟩
  refine lh ((F _ Vz (PB vE) hB).run callerA [] s₁ H ⟨[.ref a],[]⟩ [.ref a] [.ref a] _ _ hr e0 (MP s₁ (.ref a)) (.cons rfl .nil) (DT H hO hS)) fun r s' h=>?_;cases r with
  |error e=>exact(RN H e s' h).elim
  |ok fl=>
   cases fl with
   |next=>exact False.elim h
   |brk=>exact False.elim h
   |cont=>exact False.elim h
   |ret u=>
    obtain⟨v,H',os,bare,un,MR,r',q⟩:=h;have q':v=.bl true:=q;subst q';obtain rfl:u=Value.bool true:=r';refine⟨rfl,⟨fun b o e=>?_,fun b o e=>un.there b o e (by simp)⟩,os,bare⟩;cases q:H b with
    |none=>exact .inl (un.keep b o e q (by intro z;exact absurd (show b∈([]:List Addr) from z) (by simp)) (by simp))
    |some u=>
     rcases hO.2 b with z|⟨zt,z⟩|⟨ob,xs,z⟩
     .rw[q] at z;cases z
     .obtain⟨more,z2⟩:=un.rM b _ z;have e1:=MN b zt;rw[e] at e1;cases e1;have e2:s'.heap.get? b=some { cls:=.none,data:=.fields (#[]++more) }:=MR b _ z2;obtain⟨c,hc⟩:=o5 b zt;obtain⟨oc,X8,_,_,_,_,_,_,_,g1,g2,g3,g4,_⟩:=PySem.W.codeHd_of_K KX hc;exact .inr (.inl ⟨⟨c,oc,X8,g1,g2,g3,g4⟩,rfl,#[],more,rfl,e2⟩)
     .have z2:=un.rK b ob _ z;obtain⟨e1,_⟩:=ck b _ z;obtain⟨e2,_⟩:=MR b _ z2;rw[e] at e1;cases e1;exact .inl e2
 have VA:∀ (H:Hp),(∀P∈ts,H P=some (.my #[]))->True:=fun _ _=>trivial
 classical
 cases hk:K.lookup a with
 |some o=>
  have e:=KX a o hk;rw[ha] at e;cases e;refine MQ (fun b=>if b∈ts then some (.my #[]) else none) ⟨fun P hP=>ap hP,fun b=>?_⟩ (.inr ⟨_,vs.toArray,_,hk,rfl,rfl,rfl,by rw[bS,RO];exact hl,by simpa using rv⟩) (fun b u z=>?_) (fun b z=>?_) fun z=>absurd (ak Pz) z
  .by_cases hb:b∈ts
   .exact .inr (.inl ⟨hb,ap hb⟩)
   .exact .inl (ak hb)
  .by_cases hb:b∈ts
   .have z':=(ap hb).symm.trans z;cases z';exact MN b hb
   .have z':=(ak hb).symm.trans z;cases z'
  .by_cases hb:b∈ts
   .exact .inr hb
   .exact absurd (ak hb) z
 |none=>
  refine MQ (fun b=>if b=a then some (.tZ { cls:=.type "list",data:=.seq vs.toArray } (.lst (ns.map V.int))) else if b∈ts then some (.my #[]) else none) ⟨fun P hP=>?_,fun b=>?_⟩ (.inl (.inr ⟨{ cls:=.type "list",data:=.seq vs.toArray },ap rfl⟩)) (fun b u z=>?_) (fun b z=>?_) fun _=>hk
  .have:P≠a:=fun z=>Pz (z ▸ hP);show (if P=a then _ else if P∈ts then _ else _)=_;rw[ak this,ap hP]
  .by_cases hb:b=a
   .exact .inr (.inr ⟨_,_,ap hb⟩)
   .by_cases ht:b∈ts
    .exact .inr (.inl ⟨ht,by show (if b=a then _ else if b∈ts then _ else _)=_;rw[ak hb,ap ht]⟩)
    .exact .inl (by show (if b=a then _ else if b∈ts then _ else _)=_;rw[ak hb,ak ht])
  .by_cases hb:b=a
   .have z':=(ap hb).symm.trans z;cases z';subst hb;exact⟨ha,by rw[aB];exact hl,vs,_,rv,ha⟩
   .have z1:(if b∈ts then some (HO.my #[]) else none)=some u:=(ak hb).symm.trans z;by_cases ht:b∈ts
    .rw[ap ht] at z1;cases z1;exact MN b ht
    .rw[ak ht] at z1;cases z1
  .by_cases hb:b=a
   .exact .inl hb
   .by_cases ht:b∈ts
    .exact .inr ht
    .exact absurd (by show (if b=a then _ else if b∈ts then _ else _)=_;rw[ak hb,ak ht]) z
theorem B9{l:PySem.W.OpenLaw}{n k:Nat}{q:Program}{qd:List Str}{XP:(Str->Option Value)->Heap->Prop}{YP:World->Heap->Prop}{d:DefRec}{K:Params->PySem.W.Frag}{CX:World->uk}{sp:World->Sp}{x:Str}{ts:List Addr}(hn:l.most=some n)(KJ:n<=sizeLine)(Mf:d.params.defaults=[])(hr:cI k callerA)(hY:∀ (w:World) (h:Heap),YP w h->(K w.params).In h)(hT:∀ (w:World) (h:Heap),YP w h->∀P∈ts,h.get? P=some (PySem.W.tabObj #[]))(o5:∀ (w:World),∀P∈ts,∃c,PySem.W.codeHdIn (K w.params) c P=true)(ID:∀ (w:World),∀P∈ts,(K w.params).lookup P=none)(F:∀ (w:World) (mg:Str->Option Value) (fa:Addr) (h:Heap),(K w.params).In h->h.Ns mainGlobals mg->mg d.name=some (.ref fa)->
   ∃fd:FuncData,(∀ (s:Shared) (u:Value),BindsTo s fd ⟨[u],[]⟩ [(x,u)])/\
    ∀base:Heap,(K w.params).In base->base.Ns mainGlobals mg->sH mg base->bv l.prog w (K w.params) mg base (CX w) k fa fd [x] (sp w))(DT:∀ (w:World) (H:Hp) (a:Addr) (ns:List Int),ns.length<=n->yv ts H->aQ (K w.params) H a (ns.map V.int)->sp w [.ref a] H (fun v _=>v=.bl true) fun _ _ _=>False)(RN:∀ (w:World) (H:Hp) (s:Shared) (e:Value) (s':Shared),CX w [] H s (fun _ _ _=>False) e s'->False):
  PySem.W.WalkO q qd XP YP l.row.toRowW d [] (fun f vs=>PySem.call f vs):=by
 refine Ve.ur hn Mf fun w s₀ s₁ mg mb fa o pm cd ky a vs ns G Y ho hd X9 Mg Im BK dI hg=>?_;have KX:=hY w _ Y;obtain⟨fd,hb,hF⟩:=F w mg fa _ KX G.T.g Mg;have hB:sH mg s₁.heap:=by
  obtain⟨bm,ob,b1,b2,b3,b4,b5,b6⟩:=G.T.bmain;refine⟨bm,ob,b1,b2,fun z=>?_,b3,b4,b5,b6⟩;obtain⟨o',es,ep,e,Lu,_⟩:=G.T.g;rw[z,e] at b3;cases b3;rw[Lu] at b6;cases b6
 exact z8 KX G.T.g G.T.b G.T.builtins G.T.nolimit hg hB (hT w _ Y) (o5 w) (ID w) Im BK (a7 dI KJ) hr hF hb (fun H hO hS=>DT w H a ns dI hO hS) fun H e s'=>RN w H s₁ e s'
structure w_(K:PySem.W.Frag)(x qual:Str)(st:Stmt)(f:Addr)(fd:FuncData)(c:Addr):Prop where
 ex:∃ (oc:Value) (od:Option Addr) (kV ky pm:Value) (an:Option Addr) (ct:Value) (vD:Array (Option Value)),
  fd=PySem.W.fnOf x qual (cP st) (cr st) (aq st) .none kV ky pm an (.ref c) ct/\K.lookup f=some ⟨oc,od,.func fd,vD⟩/\PySem.W.codeIn K (.ref c) qual=true
 kp:PySem.W.keepIn K (.ref f)=true
theorem w_.fun{K:PySem.W.Frag}{x qual:Str}{st:Stmt}{f:Addr}{fd:FuncData}{c:Addr}(F:w_ K x qual st f fd c):fH K x qual st f fd:=by
 obtain⟨oc,od,kV,ky,pm,an,ct,vD,e,lk,o5⟩:=F.ex;exact⟨⟨oc,od,kV,ky,pm,an,_,ct,vD,e,lk,o5⟩,F.kp⟩
section
variable {P:Program} {w:World} {K:PySem.W.Frag} {mg:Str->Option Value} {base:Heap}
theorem w_.ok{x qual:Str}{st:Stmt}{f:Addr}{fd:FuncData}{c:Addr}{N ps:List Str}{k:Nat}{sp:Sp}(F:w_ K x qual st f fd c)(S:aH N ps (aq st))(len:∀vs H Q E,sp vs H Q E->vs.length=ps.length)(um:∀ (A:Around) (outer:List Env) (s:Shared) (H:Hp) (vs:List V) (Q:VK) (E:XK),cI k (A.deeper (envOfC qual (aq st) s.heap.objs.size f (.ref c)))->sp vs H Q E->
   ∃t,wy (r6 bf P w K mg base N qual (aq st) f (.ref c) A outer s H E).GJ (cr st) t/\t { nx:=fun _ H'=>Q .bw H',rt:=Q } (start N vs) H):bv P w K mg base bf (k+1) f fd ps sp:=by
 obtain⟨oc,od,kV,ky,pm,an,ct,vD,rfl,lk,o5⟩:=F.ex;refine GO lk o5 S len fun A outer s H vs Q E hr DT=>?_;obtain⟨t,h,q⟩:=um A outer s H vs Q E hr DT;exact⟨t,h.GJ,q⟩
theorem EH{x qual:Str}{st:Stmt}{f c:Addr}{oc:Value}{od an:Option Addr}{vD:Array (Option Value)}{kV ky pm ct:Value}(l:K.lookup f=some ⟨oc,od,.func (PySem.W.fnOf x qual (cP st) (cr st) (aq st) .none kV ky pm an (.ref c) ct),vD⟩)(o5:PySem.W.codeIn K (.ref c) qual=true)(kp:PySem.W.keepIn K (.ref f)=true):w_ K x qual st f (PySem.W.fnOf x qual (cP st) (cr st) (aq st) .none kV ky pm an (.ref c) ct) c:=⟨⟨oc,od,kV,ky,pm,an,ct,vD,rfl,l,o5⟩,kp⟩
theorem EI(kb:K.In base)(hb:sH mg base)(hc:PySem.W.codeHdIn K c P'=true):
  ED (r6 CX P w K mg base N qual scope f (.ref c) A outer s H E).GJ c P':=⟨rfl,PySem.W.codeHd_of_K kb hc,hb⟩
end
def mW(sc RP:Scope)(y:Str×NameKind):Bool:=match y.2 with
 |.cell=>(match sc.names.lookup y.1 with|some .cell=>true|_=>false)
 |.local=>(match sc.names.lookup y.1 with|some .local=>true|_=>false)
 |.free=>(match RP.names.lookup y.1 with|some .cell=>true|some .free=>true|_=>false)
 |_=>true
def B_(NB:List Str)(src:List (Option Nat))(sc:Scope)(N:List Str)(i:Nat):Bool:=match NB[i]?,src[i]? with
 |some x,some (some j)=>(N[j]?==some x)&&(match sc.names.lookup x with|some .free=>true|_=>false)
 |_,_=>true
def yw(sc:Scope):Bool:=match sc.kind with|.function=>true|_=>false
def Ca(NB:List Str)(src:List (Option Nat))(sc RP:Scope)(N:List Str):Bool:=
 yw sc&&decide NB.Nodup&&(src.length==NB.length)&&(sc.names.all (mW sc RP))&&(List.range NB.length).all (B_ NB src sc N)
theorem br(h:Ca NB src sc X.env.scope X.N=true):fT NB src sc X:=by
 unfold Ca at h;simp only[gg,ra,d5,iD] at h;obtain⟨⟨⟨⟨h1,h2⟩,h3⟩,h4⟩,h5⟩:=h;refine⟨?_,h2,h3,fun y hy z=>?_,fun y hy z=>?_,fun y hy z=>?_,fun i x j e1 e2=>?_⟩
 .unfold yw at h1;split at h1
  .assumption
  .cases h1
 .have:=h4 y hy;obtain⟨n,k⟩:=y;obtain rfl:k=.cell:=z;dsimp only[mW] at this |-;split at this
  .assumption
  .cases this
 .have:=h4 y hy;obtain⟨n,k⟩:=y;obtain rfl:k=.local:=z;dsimp only[mW] at this |-;split at this
  .assumption
  .cases this
 .have:=h4 y hy;obtain⟨n,k⟩:=y;obtain rfl:k=.free:=z;dsimp only[mW] at this |-;split at this
  .exact .inl (by assumption)
  .exact .inr (by assumption)
  .cases this
 .have hi:i<NB.length:=(cD.mp e1).1;have:=h5 i (bG.mpr hi);unfold B_ at this;rw[e1,e2] at this;simp only[gg,d5] at this;refine⟨this.1,?_⟩;have t2:=this.2;split at t2
  .assumption
  .cases t2
theorem cu{K:PySem.W.Frag}{a D:Addr}{xs:List V}{g:TG}{tt:TT}{te:TE}{dN:Hp->Prop}{σB:St}{H0:Hp}(Pv:Nat->List V->St->Hp->Prop)(h0:Pv 0 [] σB H0)(hl:∀i ys σ H,i<=xs.length->Pv i ys σ H->aQ K H a xs)(hs:∀i x ys σ H (Kt:V->St->Hp->Prop) (Kf:St->Hp->Prop),xs[i]?=some x->Pv i ys σ H->
   (∀v σ2 H4,H4 D=some (.lst ys)->ys.length<sizeLine->Pv (i+1) (ys++[v]) σ2 (upd H4 D (.lst (ys++[v])))->Kt v σ2 H4)->(∀σ2 H3,Pv (i+1) ys σ2 H3->Kf σ2 H3)->
   g x σ H fun σ2 H2=>tt σ2 H2 fun b H3=>if b=true then te σ2 H3 fun v H4=>Kt v σ2 H4 else Kf σ2 H3)(hd:∀ys σ H,Pv xs.length ys σ H->dN H):gH (AJ K a) g tt te D dN σB H0:=by
 refine⟨fun i m σ H=>m=xs.length-i/\i<=xs.length/\∃ys,Pv i ys σ H,⟨xs.length,by simp,c_ _,[],h0⟩,?_⟩;rintro i m σ H ⟨rfl,hi,ys,p⟩;have q:=hl i ys σ H hi p;by_cases fw:i<xs.length
 .refine .inr ⟨⟨xs,xs[i],q,by simp[fw]⟩,?_⟩;rintro x H' ⟨rfl,y⟩;exact hs i x ys σ _ (fun v σ2 H4=>∃ys,H4 D=some (.lst ys)/\ys.length<sizeLine/\∃m',m'<xs.length-i/\m'=xs.length-(i+1)/\i+1<=xs.length/\∃z9,Pv (i+1) z9 σ2 (upd H4 D (.lst (ys++[v]))))
   (fun σ2 H3=>∃m',m'<xs.length-i/\m'=xs.length-(i+1)/\i+1<=xs.length/\∃z9,Pv (i+1) z9 σ2 H3) (y xs q) p
   (fun v σ2 H4 z1 z2 z3=>⟨ys,z1,z2,_,by lia,rfl,fw,_,z3⟩) (fun σ2 H3 z=>⟨_,by lia,rfl,fw,_,z⟩)
 .have e:i=xs.length:=by lia
  subst e;exact .inl ⟨⟨xs,q,a8 _⟩,hd ys σ H p⟩
theorem cQ{lo:Int}{n:Nat}{D:Addr}{g:TG}{tt:TT}{te:TE}{dN:Hp->Prop}{σB:St}{H0:Hp}(Pv:Nat->List V->St->Hp->Prop)(h0:Pv 0 [] σB H0)(hs:∀i ys σ H (Kt:V->St->Hp->Prop) (Kf:St->Hp->Prop),i<n->Pv i ys σ H->
   (∀v σ2 H4,H4 D=some (.lst ys)->ys.length<sizeLine->Pv (i+1) (ys++[v]) σ2 (upd H4 D (.lst (ys++[v])))->Kt v σ2 H4)->(∀σ2 H3,Pv (i+1) ys σ2 H3->Kf σ2 H3)->
   g (.int (lo+i)) σ H fun σ2 H2=>tt σ2 H2 fun b H3=>if b=true then te σ2 H3 fun v H4=>Kt v σ2 H4 else Kf σ2 H3)(hd:∀ys σ H,Pv n ys σ H->dN H):gH (DR lo n) g tt te D dN σB H0:=by
 refine⟨fun i m σ H=>m=n-i/\i<=n/\∃ys,Pv i ys σ H,⟨n,by simp,c_ _,[],h0⟩,?_⟩;rintro i m σ H ⟨rfl,hi,ys,p⟩;by_cases fw:i<n
 .refine .inr ⟨fw,?_⟩;rintro x H' ⟨rfl,rfl⟩;exact hs i ys σ _ (fun v σ2 H4=>∃ys,H4 D=some (.lst ys)/\ys.length<sizeLine/\∃m',m'<n-i/\m'=n-(i+1)/\i+1<=n/\∃z9,Pv (i+1) z9 σ2 (upd H4 D (.lst (ys++[v]))))
   (fun σ2 H3=>∃m',m'<n-i/\m'=n-(i+1)/\i+1<=n/\∃z9,Pv (i+1) z9 σ2 H3) fw p
   (fun v σ2 H4 z1 z2 z3=>⟨ys,z1,z2,_,by lia,rfl,fw,_,z3⟩) (fun σ2 H3 z=>⟨_,by lia,rfl,fw,_,z⟩)
 .have e:i=n:=by lia
  subst e;exact .inl ⟨a8 _,hd ys σ H p⟩
section
variable {κ:Type} [DecidableEq κ]
def lI(be:List (κ×V))(k:κ):Option V:=(be.find? fun kv=>decide (kv.1=k)).map (·.2)
def h_(be:List (κ×V))(k:κ)(v:V):List (κ×V):=
 if (be.any fun kv=>decide (kv.1=k))=true then be.map (fun kv=>if kv.1=k then (kv.1,v) else kv) else be++[(k,v)]
theorem kG{p:κ×V}{r:List (κ×V)}{k:κ}(e:p.1=k):lI (p::r) k=some p.2:=by simp[lI,iG,e]
theorem kH{p:κ×V}{r:List (κ×V)}{k:κ}(e:¬ p.1=k):lI (p::r) k=lI r k:=by simp[lI,iG,e]
theorem ow(k:κ):∀be:List (κ×V),(be.any fun kv=>decide (kv.1=k))=(lI be k).isSome
 |[]=>rfl
 |p::r=>by
  rw[iH];by_cases e:p.1=k
  .simp only[kG e,dZ e,Bool.true_or,Option.isSome_some]
  .rw[kH e,dY e,Bool.false_or];exact ow k r
theorem iT(be:List (κ×V))(k:κ)(v:V):(h_ be k v).length<=be.length+1:=by
 unfold h_;split
 .rw[aB];lia
 .rw[bY,dk,List.length_nil];lia
theorem Cb{be:List (κ×V)}{k:κ}(v:V)(h:lI be k=none):h_ be k v=be++[(k,v)]:=by
 unfold h_;rw[ow,h];exact ak (by decide)
theorem jj.lJ(r:jj o u):o.isSome=u.isSome:=by
 cases o with
 |none=>cases u with
  |none=>rfl
  |some _=>exact(show False from r).elim
 |some _=>cases u with
  |none=>exact(show False from r).elim
  |some _=>rfl
theorem KV.val{be:List (κ×V)}{vs:List (κ×Value)}(r:KV be vs)(k:κ):jj (lI be k) (valueAt vs k):=by
 unfold KV at r;induction r with
 |nil=>exact True.intro
 |@cons p q ps qs h t ih=>
  obtain⟨h1,h2⟩:=h;by_cases e:p.1=k
  .have e':q.1=k:=h1.symm.trans e;have b:valueAt (q::qs) k=some q.2:=by simp[valueAt,iG,e']
   rw[kG e,b];exact h2
  .have e':¬ q.1=k:=fun z=>e (h1.trans z);have b:valueAt (q::qs) k=valueAt qs k:=by simp[valueAt,iG,e']
   rw[kH e,b];exact ih
theorem KV.any{be:List (κ×V)}{vs:List (κ×Value)}(r:KV be vs)(k:κ):(be.any fun kv=>decide (kv.1=k))=vs.any fun kv=>decide (kv.1=k):=by
 unfold KV at r;induction r with
 |nil=>rfl
 |cons h t ih=>rw[iH,iH,ih,h.1]
theorem KV.IE{be:List (κ×V)}{vs:List (κ×Value)}(r:KV be vs)(k:κ){y:V}{u:Value}(ry:bi y u):
  KV (be.map fun kv=>if kv.1=k then (kv.1,y) else kv) (vs.map fun kv=>if kv.1=k then (kv.1,u) else kv):=by
 unfold KV at r |-;induction r with
 |nil=>exact .nil
 |@cons p q ps qs h t ih=>
  rw[cS,cS];refine .cons ?_ ih;obtain⟨h1,h2⟩:=h;by_cases e:p.1=k
  .rw[ap e,ap (h1.symm.trans e)];exact⟨h1,ry⟩
  .rw[ak e,ak (fun z=>e (h1.trans z))];exact⟨h1,h2⟩
theorem KV.put{be:List (κ×V)}{vs:List (κ×Value)}(r:KV be vs)(k:κ){y:V}{u:Value}(ry:bi y u):KV (h_ be k y) (stored vs k u):=by
 unfold h_ stored;rw[r.any k];by_cases e:(vs.any fun kv=>decide (kv.1=k))=true
 .rw[ap e,ap e];exact r.IE k ry
 .rw[ak e,ak e];exact Paired.snoc r ⟨rfl,ry⟩
theorem KV.length{be:List (κ×V)}{vs:List (κ×Value)}(r:KV be vs):be.length=vs.length:=Paired.length r
end
theorem uG(r:bi (kV k) u):(cM P w).is k u=true:=by
 cases k with
 |inl i=>obtain⟨t,e⟩:=(show ∃t,u=Value.int i t from r);subst e;exact ub P w i t
 |inr x=>obtain⟨t,e⟩:=(show ∃t,u=Value.str x t from r);subst e;exact uc P w x t
theorem qo:∀ {ks:List fv} {us:List Value},aX (ks.map kV) us->ItemsAre (cM P w) ks us
 |[],_,r=>by rw[jN] at r;cases r;exact .nil
 |k::ks,_,r=>by
  rw[cS] at r;cases r with
  |cons h t=>exact .cons (uG h) (qo t)
abbrev KT(H:Hp):List (List fv×V)->List (List fv×Addr×Value)->Prop:=Paired fun p q=>p.1=q.1/\H q.2.1=some (.tup (p.1.map kV))/\bi p.2 q.2.2
theorem KT.val{H:Hp}{be:List (List fv×V)}{xs:List (List fv×Addr×Value)}(r:KT H be xs)(k:List fv):jj (lI be k) ((atKey xs k).map (·.2)):=by
 induction r with
 |nil=>exact True.intro
 |@cons p q ps qs h t ih=>
  obtain⟨h1,_,h2⟩:=h;by_cases e:p.1=k
  .have e':q.1=k:=h1.symm.trans e;have b:atKey (q::qs) k=some q.2:=by simp[atKey,iG,e']
   rw[kG e,b];exact h2
  .have e':¬ q.1=k:=fun z=>e (h1.trans z);have b:atKey (q::qs) k=atKey qs k:=by simp[atKey,iG,e']
   rw[kH e,b];exact ih
theorem KT.IE(r:KT H be xs)(k:List fv)(ry:bi y u):
  KT H (be.map fun kv=>if kv.1=k then (kv.1,y) else kv) (xs.map (putAt k u)):=by
 induction r with
 |nil=>exact .nil
 |@cons p q ps qs h t ih=>
  rw[cS,cS];refine .cons ?_ ih;obtain⟨h1,h2,h3⟩:=h;unfold putAt;by_cases e:p.1=k
  .rw[ap e,ap (h1.symm.trans e)];exact⟨h1,h2,ry⟩
  .rw[ak e,ak (fun z=>e (h1.trans z))];exact⟨h1,h2,h3⟩
theorem KT.put(r:KT H be xs)(k:List fv)(hb:H b=some (.tup (k.map kV)))(ry:bi y u):
  KT H (h_ be k y) (storedH xs k b u):=by
 have e:(be.any fun kv=>decide (kv.1=k))=(atKey xs k).isSome:=by
  rw[ow,(r.val k).lJ,Option.isSome_map]
 unfold h_ storedH;rw[e];by_cases q:(atKey xs k).isSome=true
 .rw[ap q,ap q];exact r.IE k ry
 .rw[ak q,ak q];exact Paired.snoc r ⟨rfl,hb,ry⟩
theorem KT.keeps(r:KT H be xs)(ht:∀b ys,H b=some (.tup ys)->H' b=some (.tup ys)):KT H' be xs:=
 Paired.HG r fun _ _ z=>⟨z.1,ht _ _ z.2.1,z.2.2⟩
section
variable {P:Program} {w:World} {H:Hp} {h:Heap} {a:Addr}
theorem G4(ok:jv P w H h)(e:Rd H a u):bU P w H h a u:=e.ok ok
theorem yx(ok:jv P w H h)(e:Rd H a (.dK be)):be.length<=sizeLine/\(a==sysModules)=false/\∃vs,KV be vs/\h.DictOf (cM P w) a vs:=
 show bU P w H h a (.dK be) from G4 ok e
theorem G5{be:List (fv×V)}(ok:jv P w H h)(e:H a=some (.dK be)):be.length<=sizeLine/\(a==sysModules)=false/\∃vs,KV be vs/\h.DictOf (cM P w) a vs:=yx ok (.inl e)
theorem jX(ok:jv P w H h)(e:H a=some (.tup (ks.map kV))):(tupleKind (cM P w)).is h ks a:=by
 obtain⟨_,its,r,o,h1,h2,n,h3,_⟩:=(show bU P w H h a (.tup (ks.map kV)) from ok a _ e)
 exact⟨o,its.toArray,n,h1,h2,h3,by simpa using qo r⟩
theorem yz(ok:jv P w H h)(e:Rd H a (.dT be)):be.length<=sizeLine/\(a==sysModules)=false/\
  ∃xs,KT H be xs/\h.DictOfH (tupleKind (cM P w)) a xs:=by
 obtain⟨z,y,xs,r,o,es,ep,h1,h2,h3,h4,h5⟩:=(show bU P w H h a (.dT be) from G4 ok e)
 refine⟨z,y,xs,r,o,es,ep,h1,h2,h3,h4,fun x hx=>?_,h5⟩;have all:∀ {l:List (List fv×V)} {m:List (List fv×Addr×Value)},KT H l m->∀x∈m,(tupleKind (cM P w)).is h x.1 x.2.1:=by
  intro l m q;induction q with
  |nil=>intro x hx;exact nomatch hx
  |@cons p q ps qs hq t ih=>
   intro x hx;rcases cn.mp hx with e|hx
   .subst e;exact jX ok (by rw[<-hq.1];exact hq.2.1)
   .exact ih x hx
 exact all r x hx
theorem MS{be:List (List fv×V)}(ok:jv P w H h)(e:H a=some (.dT be)):be.length<=sizeLine/\(a==sysModules)=false/\
  ∃xs,KT H be xs/\h.DictOfH (tupleKind (cM P w)) a xs:=yz ok (.inl e)
end
def pF(H:Hp)(a:Addr)(y:V)(r:Option V):Prop:=
 (∃be k,Rd H a (.dK be)/\y=kV k/\r=lI be k)\/∃be k b,Rd H a (.dT be)/\y=.ref b/\H b=some (.tup (k.map kV))/\r=lI be k
def Cc(H:Hp)(a:Addr)(y v:V)(H':Hp):Prop:=
 (∃be k,H a=some (.dK be)/\y=kV k/\be.length<sizeLine/\H'=upd H a (.dK (h_ be k v)))\/
 ∃be k b,H a=some (.dT be)/\y=.ref b/\H b=some (.tup (k.map kV))/\be.length<sizeLine/\H'=upd H a (.dT (h_ be k v))
theorem pF.k{H:Hp}{a:Addr}{be:List (fv×V)}{k:fv}(e:H a=some (.dK be)):pF H a (kV k) (lI be k):=.inl ⟨be,k,.inl e,rfl,rfl⟩
theorem Cc.k{H:Hp}{a:Addr}{be:List (fv×V)}{k:fv}{v:V}(e:H a=some (.dK be))(hl:be.length<sizeLine):Cc H a (kV k) v (upd H a (.dK (h_ be k v))):=.inl ⟨be,k,e,rfl,hl,rfl⟩
section
variable {X:Cx} {ae:List (Addr×Obj)} {σ:St} {H:Hp} {s:Shared} {a:Addr} {y v:V} {u r:Value} {o:Option V} {A:Around} {E:Value->Shared->Prop}
theorem aM.big(I:aM X ae σ H s):sysModules<s.heap.objs.size:=by
 have h:mainGlobals<s.heap.objs.size:=(I.mod.glob.keeps I.bk).lt;exact rG (by decide) h
theorem z_{Q:Value->Shared->Prop}(hu:A.units+1<cLine)(I:aM X ae σ H s)(g:pF H a y (some v))(ry:bi y u)(h:∀w' s',aM X ae σ H s'->bi v w'->Q w' s'):
  wpAny (model X.prog X.w) A (getItem (.ref a) u) Q E s:=by
 rcases g with ⟨be,k,e,ey,l⟩|⟨be,k,b,e,ey,eb,l⟩
 .subst ey;obtain⟨z,hd,vs,sJ,dd⟩:=yx I.ck e;obtain⟨w',hw,zy⟩:=jj.some_of (v:=v) (o:=valueAt vs k) (by rw[l];exact sJ.val k);exact wpAny_getItem_of (uG ry) dd.mapOf hw (h w' _ (I.tok _) zy)
 .subst ey;cases (show u=Value.ref b from ry);obtain⟨z,hd,xs,sJ,dd⟩:=yz I.ck e;obtain⟨w',hw,zy⟩:=jj.some_of (v:=v) (o:=(atKey xs k).map (·.2)) (by rw[l];exact sJ.val k);obtain⟨p,hp,KS⟩:=Option.map_eq_some_iff.mp hw;refine wpAny_getItem_heap (wq hu) (jX I.ck eb) dd hp ?_;rw[KS];exact h w' _ (I.tok _) zy
theorem EJ{Q:Value->Shared->Prop}(hu:A.units+1<cLine)(I:aM X ae σ H s)(g:pF H a y o)(ry:bi y u)(h:∀s',aM X ae σ H s'->Q (.bool (!o.isSome)) s'):
  wpAny (model X.prog X.w) A (compareOp .NotIn u (.ref a)) Q E s:=by
 rcases g with ⟨be,k,e,ey,l⟩|⟨be,k,b,e,ey,eb,l⟩
 .subst ey;obtain⟨z,hd,vs,sJ,dd⟩:=yx I.ck e;refine wpAny_notIn_of (uG ry) hd dd.mapOf ?_;rw[<-(sJ.val k).lJ,<-l];exact h _ (I.tok _)
 .subst ey;cases (show u=Value.ref b from ry);obtain⟨z,hd,xs,sJ,dd⟩:=yz I.ck e;refine wpAny_notIn_heap (wq hu) (jX I.ck eb) hd dd ?_;have q:=(sJ.val k).lJ;rw[Option.isSome_map] at q;rw[<-q,<-l];exact h _ (I.tok _)
theorem sK{h':Heap}{t':Nat}{ob:HO}(I:aM X ae σ H s)(mu:Ll (H a))(hs:Heap.SameBut a s.heap h')(he:∃q,h'.get? a=some q)(new:bU X.prog X.w (upd H a ob) h' a ob):
  aM X ae σ (upd H a ob) { s with heap:=h',toks:=t' }:=
 I.write (x:=a) (e:=a) mu (.inl rfl) (fun b q hb z=>(hs.2 b hb).trans z) he new
theorem Cd{P:Program}{w:World}{H':Hp}{h':Heap}{be:List (fv×V)}{vs:List (fv×Value)}(z:be.length<=sizeLine)(hd:(a==sysModules)=false)(sJ:KV be vs)(dd:h'.DictOf (cM P w) a vs):
  bU P w H' h' a (.dK be):=⟨z,hd,vs,sJ,dd⟩
theorem Aa{H':Hp}{Q:Unit->Shared->Prop}(hu:A.units+1<cLine)(I:aM X ae σ H s)(g:Cc H a y v H')(ry:bi y u)(rv:bi v r)(h:∀s',aM X ae σ H' s'->Q () s'):
  wpAny (model X.prog X.w) A (setItem (.ref a) u r) Q E s:=by
 rcases g with ⟨be,k,e,ey,l,eH⟩|⟨be,k,b,e,ey,eb,l,eH⟩
 .subst ey eH;obtain⟨z,hd,vs,sJ,dd⟩:=G5 I.ck e;have hz:vs.length<=sizeLine:=by rw[<-sJ.length];exact z
  have hl:(h_ be k v).length<=sizeLine:=by have:=iT be k v;lia
  refine wpAny_setItem_pairs (hsz:=hz) (uG ry) dd fun h' IF hs=>h _ ?_;have he:∃q,h'.get? a=some q:=let ⟨q,_,_,hq,_⟩:=IF;⟨q,hq⟩;exact sK I (by rw[e];exact True.intro) hs he (Cd hl hd (sJ.put k rv) IF)
 .subst ey eH;cases (show u=Value.ref b from ry);obtain⟨z,hd,xs,sJ,dd⟩:=MS I.ck e;have hz:xs.length<=sizeLine:=by rw[<-Paired.length sJ];exact z
  have hl:(h_ be k v).length<=sizeLine:=by have:=iT be k v;lia
  refine wpAny_setItem_heap (hsz:=hz) (wq hu) (jX I.ck eb) dd fun h' IF hs=>h _ ?_;obtain⟨q,es,ep,hq,h2,h3,h4,_,h5⟩:=IF;refine sK I (by rw[e];exact True.intro) hs ⟨q,hq⟩ ⟨hl,hd,_,(sJ.put k eb rv).keeps fun c ys ec=>?_,q,es,ep,hq,h2,h3,h4,h5⟩;rw[am (d7 ec e (fun z=>nomatch z))];exact ec
end
section
variable {X:Cx} {ae:List (Addr×Obj)} {σ:St} {H:Hp} {s:Shared} {a:Addr} {be:List (fv×V)} {k:fv} {u:Value} {A:Around} {E:Value->Shared->Prop}
end
def MT(i:Expr):Prop:=∀ov iv,subscripted i false ov iv=operate [ov,iv] (getItem ov iv)
theorem EK{prog:Program}{w:World}{A:Around}{E:Value->Shared->Prop}{s:Shared}{env:Env}{value kB:Expr}{pos:Pos}{T id:String}{Q:Value->Shared->Prop}(hl:typeLookup (.type T) "__getitem__"=pure (some (.builtin id)))(hs:MT kB)(h:wpAny (model prog w) A (eval value env) (fun o s₁=>wpAny (model prog w) A (eval kB env) (fun i s₂=>s₂.TypeIs o T/\wpAny (model prog w) A (getItem o i) Q E s₂) E s₁) E s):
  wpAny (model prog w) A (eval (.Subscript value kB pos) env) Q E s:=by
 refine Subscript_ (g9 h (fun o s₁ h₁=>g9 h₁ (fun i s₂ h₂=>?_) fun _ _ x=>x) fun _ _ x=>x);obtain⟨hT,h₂⟩:=h₂;unfold subscriptTail;refine aS ?_;rw[getitemInPython_of_ne hT.not_modules];refine aS (wpAny_specialOf hT hl ?_);have dN:wpAny (model prog w) A (subscripted kB false o i) (fun r s₃=>wpAny (model prog w) A (letTemporaryGo value o r >>= fun _=>pure r) Q E s₃) E s₂:=by
  rw[hs o i];exact wpAny_operating (g9 h₂ (fun r s₃ h₃=>aS (wpAny_letTemporaryGo (wpAny_pure h₃))) fun _ _ x=>x)
 first
  |exact wpAny_pure (aS dN)
  |exact aS (wpAny_pure (aS dN))
  |exact aS dN
theorem uH{X:Cx}{ae:List (Addr×Obj)}{σ:St}{H:Hp}{s:Shared}{a:Addr}{y:V}{o:Option V}(I:aM X ae σ H s)(g:pF H a y o):s.TypeIs (.ref a) "dict":=by
 rcases g with ⟨be,k,e,_,_⟩|⟨be,k,b,e,_,_,_⟩
 .obtain⟨_,_,vs,_,dd⟩:=yx I.ck e;exact dd.typeIs
 .obtain⟨_,_,xs,_,dd⟩:=yz I.ck e;exact dd.typeIs
def G6(td ty:TE):TE:=fun σ H Q=>td σ H fun x H1=>ty σ H1 fun y H2=>∃a v,x=.ref a/\pF H2 a y (some v)/\Q v H2
def EL(ty td:TE):TE:=fun σ H Q=>ty σ H fun y H1=>td σ H1 fun x H2=>∃a o,x=.ref a/\pF H2 a y o/\Q (.bl (!o.isSome)) H2
def MU(td ty tv:TE):TS:=fun D σ H=>tv σ H fun v H1=>td σ H1 fun x H2=>ty σ H2 fun y H3=>∃a H4,x=.ref a/\Cc H3 a y v H4/\D.nx σ H4
section
variable {X:Cx} {o i e value:Expr} {pos mC Q7:Pos} {td ty tv:TE}
theorem yA(hu:X.A.units+1<cLine)(ho:PE X o td)(hi:PE X i ty)(hs:MT i):PE X (.Subscript o i pos) (G6 td ty):=by
 intro ae s σ H Q I h;refine EK PySem.F.slot_dict_getitem.lookup hs (cs (ho ae s σ H _ I h) fun u s1 ⟨x,H1,I1,rx,q1⟩=>cs (hi ae s1 σ H1 _ I1 q1) fun iv s2 ⟨y,H2,I2,ry,a,v,ex,g,q2⟩=>?_);subst ex;obtain rfl:u=Value.ref a:=rx;exact⟨uH I2 g,z_ hu I2 g ry fun w' s3 I3 zy=>⟨v,H2,I3,zy,q2⟩⟩
theorem Ab(hu:X.A.units+1<cLine)(hi:PE X i ty)(ho:PE X o td):PC X .NotIn i o (EL ty td):=by
 intro ae s σ H Q I h;refine cs (hi ae s σ H _ I h) fun iv s1 ⟨y,H1,I1,ry,q1⟩=>cs (ho ae s1 σ H1 _ I1 q1) fun u s2 ⟨x,H2,I2,rx,a,ov,ex,g,q2⟩=>?_;subst ex;obtain rfl:u=Value.ref a:=rx;exact EJ hu I2 g ry fun s3 I3=>⟨.bl (!ov.isSome),H2,I3,rfl,q2⟩
theorem EM(hu:X.A.units+1<cLine)(ho:PE X o td)(hi:PE X i ty)(hv:PE X value tv)(hs:swapsWith value (some (.Subscript o i mC)) pos.line X.env=pure false):
  PS X (.Assign [.Subscript o i mC] value pos) (MU td ty tv):=by
 intro ae s σ H D I h;refine wpAny_Assign_Subscript (cs (hv ae s σ H _ I h) fun r s1 ⟨v,H1,I1,rv,q1⟩=>cs (ho ae s1 σ H1 _ I1 q1) fun u s2 ⟨x,H2,I2,rx,q2⟩=>cs (hi ae s2 σ H2 _ I2 q2) fun iv s3 ⟨y,H3,I3,ry,a,H4,ex,g,q3⟩=>?_) hs;subst ex;obtain rfl:u=Value.ref a:=rx;exact Aa hu I3 g ry rv fun s4 I4=>⟨σ,H4,I4,q3⟩
end
theorem Ce{P:Program}{w:World}{H:Hp}(h:Heap)(hb:sysModules<h.objs.size):bU P w H (h.push { cls:=.type "dict",data:=.dict #[] }) h.objs.size (.dK []):=
 ⟨c_ _,jD.mpr (gv (aZ hb)),[],.nil,Heap.DictOf.new h⟩
section
variable {X:Cx} {pos:Pos}
end
def xb:List (TE×TE)->St->Hp->(List (V×V)->Hp->Prop)->Prop
 |[],_,H,Q=>Q [] H
 |(tk,tv)::r,σ,H,Q=>tk σ H fun x H1=>tv σ H1 fun y H2=>xb r σ H2 fun ps H3=>Q ((x,y)::ps) H3
abbrev VV:List (V×V)->List (Value×Value)->Prop:=Paired fun p q=>bi p.1 q.1/\bi p.2 q.2
def PD(X:Cx)(pos:Pos)(uI:List (Option Expr))(oy:List Expr)(EN:List (TE×TE)):Prop:=
 ∀ (ae:List (Addr×Obj)) (s:Shared) (σ:St) (H:Hp) (Q:List (V×V)->Hp->Prop),aM X ae σ H s->xb EN σ H Q->
  wpAny (model X.prog X.w) X.A (evalPairs (pairTrees uI oy X.env pos)) (fun vs s'=>∃ps H',aM X ae σ H' s'/\VV ps vs/\Q ps H') X.xe s
theorem EO{X:Cx}{pos:Pos}:PD X pos [] [] []:=fun ae s σ H Q I h=>pairTrees_nil_walk ⟨[],H,I,.nil,h⟩
theorem Cf{X:Cx}{pos:Pos}{k v:Expr}{ks:List (Option Expr)}{vs:List Expr}{tk tv:TE}{EN:List (TE×TE)}(hk:PE X k tk)(hv:PE X v tv)(hr:PD X pos ks vs EN):
  PD X pos (some k::ks) (v::vs) ((tk,tv)::EN):=fun ae s σ H Q I h=>
 pairTrees_cons_walk (cs (hk ae s σ H _ I h) fun u s1 ⟨x,H1,I1,rx,q1⟩=>cs (hv ae s1 σ H1 _ I1 q1) fun w2 s2 ⟨y,H2,I2,ry,q2⟩=>
  cs (hr ae s2 σ H2 _ I2 q2) fun ws s3 ⟨ps,H3,I3,sJ,q3⟩=>⟨(x,y)::ps,H3,I3,.cons ⟨rx,ry⟩ sJ,q3⟩)
def lK(be more:List (fv×V)):List (fv×V):=more.foldl (fun cR kv=>h_ cR kv.1 kv.2) be
theorem KV.merge:∀ {more:List (fv×V)} {rs:List (fv×Value)} {be:List (fv×V)} {vs:List (fv×Value)},KV more rs->KV be vs->KV (lK be more) (merged vs rs):=by
 intro more rs be vs r;unfold KV at r;induction r generalizing be vs with
 |nil=>intro q;exact q
 |@cons p q ps qs h t ih=>
  intro r0;have e:KV (h_ be p.1 p.2) (stored vs q.1 q.2):=by
   have:=r0.put p.1 h.2;rw[<-h.1];exact this
  exact ih e
theorem jB:∀ (more be:List (fv×V)),(lK be more).length<=be.length+more.length
 |[],be=>by show be.length<=be.length+0;lia
 |p::r,be=>by
  have h1:=jB r (h_ be p.1 p.2);have h2:=iT be p.1 p.2;show (lK (h_ be p.1 p.2) r).length<=_;rw[dk];lia
theorem oz{P:Program}{w:World}:∀ {be:List (fv×V)} {ws:List (Value×Value)},VV (be.map fun kv=>(kV kv.1,kv.2)) ws->∃rs,Carries (cM P w) ws rs/\KV be rs
 |[],_,r=>by rw[jN] at r;cases r;exact⟨[],True.intro,.nil⟩
 |p::be,_,r=>by
  rw[cS] at r;cases r with
  |@cons a b as bs h t=>
   obtain⟨rs,c,q⟩:=oz (P:=P) (w:=w) t;obtain⟨b1,b2⟩:=b;exact⟨(p.1,b2)::rs,⟨uG h.1,rfl,c⟩,.cons ⟨rfl,h.2⟩ q⟩
def MV(EN:List (TE×TE)):TE:=fun σ H Q=>∀p,H p=none->xb EN σ (upd H p (.dK [])) fun ps H2=>H2 p=some (.dK [])/\∃be:List (fv×V),ps=be.map (fun kv=>(kV kv.1,kv.2))/\be.length<=15/\Q (.ref p) (upd H2 p (.dK (lK [] be)))
theorem EQ{X:Cx}{pos:Pos}{uI:List (Option Expr)}{oy:List Expr}{EN:List (TE×TE)}(h:PD X pos uI oy EN)(pD:uI.all (·.isSome)=true)(hl:uI.length=oy.length)(h0:uI≠[])(X_:uI.length<=15):PE X (.Dict uI oy pos) (MV EN):=by
 intro ae s σ H Q I q;have hn:=I.ck.fresh (a8 s.heap.objs.size);have I1:=I.laid (a:=s.heap.objs.size) (o:=.dK []) (h':=s.heap.push { cls:=.type "dict",data:=.dict #[] }) (t':=s.toks) (fun _ _ q=>cw _ q) (a8 _) (Ce s.heap I.big);refine wpAny_Dict_walk (knd:=cM X.prog X.w) pD hl h0 X_ (cs (h ae _ σ _ _ I1 (q _ hn)) fun ws s2 ⟨ps,H2,I2,sJ,e,be,ep,lk,q2⟩=>?_);subst ep;obtain⟨rs,c,rk⟩:=oz (P:=X.prog) (w:=X.w) sJ;obtain⟨z,hd,Vx,r0,dd⟩:=G5 I2.ck e;cases r0;refine⟨rs,c,dd,fun h' IF hs=>⟨.ref s.heap.objs.size,_,?_,rfl,q2⟩⟩;have hz:(lK [] be).length<=sizeLine:=by
  have h1:=jB be [];rw[List.length_nil] at h1;rw[iL];lia
 have he:∃q,h'.get? s.heap.objs.size=some q:=let ⟨q,_,_,hq,_⟩:=IF;⟨q,hq⟩;exact sK I2 (by rw[e];exact True.intro) hs he (Cd hz hd (rk.merge .nil) IF)
section
variable {X:Cx} {ae:List (Addr×Obj)} {σ:St} {H:Hp} {s:Shared} {a:Addr} {y d:V} {u r:Value} {o:Option V} {A:Around} {E:Value->Shared->Prop}
end
section
variable {X:Cx} {o e f:Expr} {rZ r_:Pos} {td ty tx:TE}
end
section
variable {X:Cx} {ae:List (Addr×Obj)} {σ:St} {H:Hp} {s:Shared} {a:Addr} {be:List (fv×V)} {A:Around} {E:Value->Shared->Prop}
end
section
variable {X:Cx} {ae:List (Addr×Obj)} {σ:St} {H:Hp} {s:Shared} {a:Addr} {y:V} {u:Value} {A:Around} {E:Value->Shared->Prop}
end
section
variable {X:Cx}
end
section
variable {κ:Type} [DecidableEq κ]
end
section
variable {X:Cx}
theorem oA:∀ {xs:List V} {its:List Value},aX xs its->xs.all dX=true->its.countP (zL x)=xs.countP (fun z=>j_ z x)
 |[],_,.nil,_=>rfl
 |y::xs,_,.cons (b:=u) r rr,f=>by
  have fy:dX y=true:=by rw[iI,gg] at f;exact f.1
  have fx:xs.all dX=true:=by rw[iI,gg] at f;exact f.2
  have h1:[u].any (zL x)=[y].any (fun z=>j_ z x):=mU (.cons r .nil) (by simp[fy]);have h2:zL x u=j_ y x:=by simpa using h1
  rw[k8,k8,oA rr fx,h2]
def Cg:V->List V->Hp->VK->Prop:=fun x vs H Q=>∃ (l:Addr) (xs:List V) (y:V),x=.ref l/\vs=[y]/\H l=some (.lst xs)/\dX y=true/\xs.all dX=true/\Q (.int (xs.countP fun z=>j_ z y)) H
theorem kI:Po X "list.count" Cg:=by
 intro ae s σ H x vs v us Q I rx rv h;obtain⟨l,xs,y,rfl,rfl,hH,fy,fs,q⟩:=h;cases rx;obtain⟨u,rfl,ru⟩:=rv.one;obtain⟨z,its,n,r,hl,e⟩:=I.wQ hH;refine lm F.slot_list_count ⟨_,e,rfl⟩ F.entry_list_count (F.args_list_count_2 _ _) (SeqAt.list_countAt l its.toArray n none #[] u (zL y)) ⟨e,fun w hw=>kC ru fy r fs w (by simpa using hw),?_⟩;refine⟨.int _,H,I.tok _,⟨s.toks,?_⟩,q⟩;rw[show its.toArray.toList=its by simp,oA r fs]
end
section
variable {prog:Program} {w:World} {A:Around} {E:Value->Shared->Prop} {s:Shared}
end
section
variable {X:Cx}
end
section
variable {X:Cx} {tg:Expr}
end
section
variable {prog:Program} {w:World} {A:Around} {E:Value->Shared->Prop} {s:Shared} {R:Result->Shared->Prop} {l d Ia:Addr}
end
section
variable {prog:Program} {w:World} {A:Around} {E:Value->Shared->Prop} {s:Shared} {l:Addr}
end
section
variable {X:Cx}
theorem Ac(hc:X.calm=true):eM X (.builtin "all") (fun xs H Q=>∃ (p:Addr) (bs:List Bool),xs=[.ref p]/\aQ X.K H p (bs.map V.bl)/\Q (.bl (bs.all id)) H):=by
 intro ae s σ H xs us Q I r h;obtain⟨p,bs,rfl,hp,q⟩:=h;obtain⟨u1,rfl,r1⟩:=r.one;obtain rfl:u1=Value.ref p:=r1;obtain⟨its,rv,pl,hz⟩:=I.list hp;have B5:its=bs.map Value.bool:=by
  have go:∀ (bs:List Bool) (its:List Value),aX (bs.map V.bl) its->its=bs.map Value.bool:=by
   intro bs;induction bs with
   |nil=>intro its r;cases r;rfl
   |cons b bs ih=>
    intro its r;cases r with
    |cons r rr=>
     obtain rfl:=(show _=Value.bool b from r)
     rw[ih _ rr];rfl
  exact go bs its rv
 subst B5;obtain⟨ob,RD,_⟩:=id pl.isList;have fw:p<s.heap.objs.size:=bn RD;refine call_all_walk (nR pl.isList ⟨s.heap.objs.size,_,_,_,_,_,fun i=>bs.getD i true,rfl,Walks.list (show X.A.in1.handled=none from I.ok.hd hc) _ p (aZ fw) _,⟨⟨_,dG _ rfl,rfl,rfl⟩,pl.isList.push _⟩,fun i v s1 Q' E' hv hq=>?_,fun h' tk k=>?_⟩)
 .have zF:(bs.map Value.bool)[i]?=some v:=by simpa using hv
  rw[bO] at zF;cases eb:bs[i]? with
  |none=>rw[eb] at zF;cases zF
  |some b=>
   rw[eb] at zF;obtain rfl:Value.bool b=v:=bE zF;have:bs.getD i true=b:=by rw[bh,eb];rfl
   have Em:Q' b s1:=by rw[<-this];exact hq
   exact wpAny_pure Em
 .have keep:∀b o,s.heap.get? b=some o->h'.get? b=some o:=fun b o e=>k b o (by simpa using aZ (bn e)) (cw _ e);refine⟨.bl (bs.all id),H,I.kept (t':=tk) keep,?_,q⟩;show Value.bool _=Value.bool _;congr 1;have go:∀ (bs:List Bool),((List.range bs.length).all fun i=>bs.getD i true)=bs.all id:=by
   intro bs;induction bs with
   |nil=>rfl
   |cons b bs ih=>
    rw[dk,nB,iI,List.all_map,iI,<-ih];rfl
  rw[<-go bs];simp
def ER:V->List V->Hp->VK->Prop:=fun x vs H Q=>∃ (l:Addr) (ns:List Int) (z:Int),x=.ref l/\vs=[.int z]/\H l=some (.lst (ns.map V.int))/\z∈ns/\Q .bw (upd H l (.lst ((ns.eraseIdx (ns.idxOf z)).map V.int)))
theorem ints_of:∀ {ns:List Int} {its:List Value},aX (ns.map V.int) its->∀i (h:i<its.length) (h':i<ns.length),∃t,its[i]=Value.int ns[i] t
 |[],_,.nil,i,h,_=>by simp at h
 |n::ns,_,.cons ⟨t,e⟩ r,0,_,_=>⟨t,e⟩
 |n::ns,_,.cons _ r,i+1,h,h'=>ints_of r i (by simpa using h) (by simpa using h')
def Ya(z:Int)(v:Value):Bool:=match v with
 |.int y _=>y==z
 |_=>false
theorem Ad:Po X "list.remove" ER:=by
 intro ae s σ H x vs v us Q I rx rv h;obtain⟨l,ns,z,rfl,rfl,hH,hz,q⟩:=h;cases rx;obtain⟨u,rfl,ru⟩:=rv.one;obtain⟨t,rfl⟩:=ru;obtain⟨zz,its,n,r,hl,e⟩:=I.wQ hH;have dI:its.length=ns.length:=by have:=r.length;rw[aB] at this;exact this.symm
 have hj:ns.idxOf z<ns.length:=List.idxOf_lt_length_iff.mpr hz;have at_:∀i (h:i<its.length),∃t,its[i]=Value.int (ns[i]'(by lia)) t:=fun i h=>ints_of r i h (by lia);refine lm F.slot_list_remove ⟨_,e,rfl⟩ F.entry_list_remove (F.args_list_remove_2 _ _)
  (MeetsSeq.list_remove l its.toArray n (.int z t) (Ya z) (fun y hy=>?_) (ns.idxOf z) (by simpa [dI] using hj) ?_ (fun m hm fw=>?_) (by rw[bS,dI];rw[aB] at zz;exact zz)) ⟨e,?_⟩
 .obtain⟨i,hi,rfl⟩:=k4.mp (show y∈its by simpa using hy);obtain⟨t',e'⟩:=at_ i hi;rw[e'];exact MeetsSeq.EqGives.int _ _ _ _
 .obtain⟨t',e'⟩:=at_ (ns.idxOf z) (by lia);have e2:its.toArray[ns.idxOf z]'(by simpa [dI] using hj)=its[ns.idxOf z]'(by lia):=by simp
  rw[e2,e'];show (ns[ns.idxOf z]==z)=true;rw[List.getElem_idxOf];simp
 .obtain⟨t',e'⟩:=at_ m (by simpa using hm);have e2:its.toArray[m]=its[m]'(by simpa using hm):=by simp
  rw[e2,e'];show (ns[m]==z)=false;have:=List.not_of_lt_findIdx (p:=(·==z)) (xs:=ns) (i:=m) fw;simpa using this
 .refine⟨.bw,_,I.Ik (its':=its.eraseIdx (ns.idxOf z)) hH e ?_ ?_ ?_,rfl,q⟩
  .show its.toArray.eraseIdxIfInBounds _=_;rw[AY]
  .have em:∀ (l:List Int) (j:Nat),(l.eraseIdx j).map V.int=(l.map V.int).eraseIdx j:=by
    intro l;induction l with
    |nil=>intro j;rfl
    |cons y l ih=>
     intro j;cases j with
     |zero=>rfl
     |succ j=>simp only[List.eraseIdx_cons_succ,cS,ih]
   rw[em];exact r.eraseIdx _
  .rw[aB,List.length_eraseIdx];rw[aB] at zz;split <;> lia
end
structure ce(P:Program)(w:World)(K:PySem.W.Frag)(mg:Str->Option Value)(base:Heap)(CX:uk)(k:Nat)(x:Str)(ps:List Str)(sp:Sp):Prop where
 ex:∃f fd,mg x=some (.ref f)/\PySem.W.keepIn K (.ref f)=true/\iQ K fd ps []/\bv P w K mg base CX k f fd ps sp
theorem aA(C:ce X.prog X.w X.K X.mg X.base CX k x ps sp)(hr:cI k X.A)(hx:jU CX X E)(ha:PA X (e::es) t)(hg:Gl X x:=by rfl)(Bz:(x==("__debug__":Str))=false:=by decide)(he:starEach (e::es) X.env=(false,eval e X.env)::starEach es X.env:=by rfl)(AK:(backTo pos (starEach es X.env)).any (·.1)=false:=by rfl):
  PE X (.Call (.Name x p) (e::es) [] pos) (jy sp [] E t):=by
 obtain⟨f,fd,a,b,c,d⟩:=C.ex;exact El d hr hg a b c .nil hx ha Bz he AK
theorem ag(h:H D=none):aG H (upd H D o):=fun b u e=>by rw[am (ai e h)];exact e
def av(p:Addr)(H H':Hp):Prop:=∀b o,H b=some o->b≠p->H' b=some o
theorem av.trans(a:av p H H1)(b:av p H1 H2):av p H H2:=fun c o h n=>b c o (a c o h n) n
theorem av.upd:av p H (upd H p o):=fun b u h n=>by rw[am n];exact h
theorem av.of(s:aG H H'):av p H H':=fun b o h _=>s b o h
theorem av.free(s:av p H H')(hp:H' p≠none)(h:H' q=none):H q=none:=by
 cases z:H q with
 |none=>rfl
 |some o=>
  by_cases e:q=p
  .subst e;exact absurd h hp
  .rw[s q o z e] at h;cases h
theorem gn(h:j<n):zJ n (j:Int)=some j:=by
 unfold zJ;rw[ap (by lia),ap (by lia)];simp
theorem qq(h:as.length=n):(as++[t]).getD j 0=if j=n then t else as.getD j 0:=by
 rw[bh,bh];by_cases hj:j=n
 .subst hj;subst h;rw[ap rfl,pP (a8 _),rE];rfl
 .rw[ak hj];by_cases fw:j<as.length
  .rw[kd fw]
  .rw[pP (by lia),fq (by simp;lia),fq (by lia)]
def Holds(H:Hp)(as:List Addr)(n:Nat)(o:Nat->HO):Prop:=as.length=n/\∀j,j<n->H (as.getD j 0)=some (o j)
theorem Holds.nil:Holds H [] 0 o:=⟨rfl,fun j hj=>absurd hj (by lia)⟩
theorem Holds.snoc(h:Holds H as n o)(ht:H t=some (o n)):Holds H (as++[t]) (n+1) o:=by
 refine⟨by rw[bY,h.1];rfl,fun j hj=>?_⟩;rw[qq h.1];by_cases e:j=n
 .rw[ap e,e];exact ht
 .rw[ak e];exact h.2 j (by lia)
theorem Holds.mono(h:Holds H as n o)(e:∀j,j<n->H (as.getD j 0)=some (o j)->H' (as.getD j 0)=some (o j)):Holds H' as n o:=⟨h.1,fun j hj=>e j hj (h.2 j hj)⟩
end L2
namespace PyProof.Rows
open PySem
def gp:Bool->Keyed->Array Keyed->Nat->Nat->Nat->StateT SortSt Sem (Option Nat):=sortPriv% PySem.Builtin.gallop
def oB:Array Keyed->Array Keyed->StateT SortSt Sem (Array Keyed):=sortPriv% PySem.Builtin.mergeLo
def oC:Array Keyed->Array Keyed->StateT SortSt Sem (Array Keyed):=sortPriv% PySem.Builtin.mergeHi
def gz:Nat->StateT SortSt Sem Unit:=sortPriv% PySem.Builtin.setMinGallop
def uJ(prog:Program)(w:World)(A:Around)(s:Shared)(κ:SortKind)(a₀:Array Keyed):Prop:=
 ∀x y,x∈a₀.toList->y∈a₀.toList->∀ (Q:Bool->Shared->Prop) (E:Value->Shared->Prop),(∀b,Q b s)->wpAny (model prog w) A (keyLt' κ x.1 y.1) Q E s
structure SQ(κ:SortKind)(a₀:Array Keyed)(pd:Array (Nat×Nat×Nat))(st:SortSt):Prop where
 perm:(arrOf st).Perm a₀
 kind:kindOf st=κ
 failed:failedOf st=none
 pend:pendingOf st=pd
section
variable {prog:Program} {w:World} {A:Around} {E:Value->Shared->Prop} {s:Shared} {κ:SortKind} {a₀:Array Keyed} {pd:Array (Nat×Nat×Nat)}
theorem SQ.size{st:SortSt}(h:SQ κ a₀ pd st):(arrOf st).size=a₀.size:=h.perm.size_eq
theorem SQ.setArr{st:SortSt}(h:SQ κ a₀ pd st){xs:Array Keyed}(hp:xs.Perm (arrOf st)):SQ κ a₀ pd (setArr st xs):=⟨hp.trans h.perm,h.kind,h.failed,h.pend⟩
theorem SQ.at{st:SortSt}(h:SQ κ a₀ pd st){i:Nat}(hi:i<a₀.size):∃p,(arrOf st)[i]?=some p/\p∈a₀.toList:=by
 have AO:i<(arrOf st).size:=by rw[h.size];exact hi
 exact⟨(arrOf st)[i],cK _ i AO,(ka.mp h.perm).mem_iff.mp (by simp)⟩
theorem oE{st:SortSt}{x y:Keyed}{Q:Option Bool->SortSt->Prop}(hC:uJ prog w A s κ a₀)(hk:kindOf st=κ)(hx:x∈a₀.toList)(hy:y∈a₀.toList)(h:∀b,Q (some b) st):wpS (model prog w) A E s (lt' x y) Q st:=by
 rw[lt'_eq];refine aI (fQ ?_);rw[hk];refine aI (jQ (wpAny_attempt (hC x y hx hy _ _ fun b=>⟨rfl,?_⟩)));exact aO (h b)
theorem bo{st:SortSt}{arr:Array Keyed}{i:Nat}{p:Keyed}{Q:Keyed->SortSt->Prop}(hi:arr[i]?=some p)(h:Q p st):wpS (model prog w) A E s (elem' arr i) Q st:=by
 rw[elem'_eq,hi];exact aO h
theorem eC{st:SortSt}{i j:Nat}{Q:Option Bool->SortSt->Prop}(hC:uJ prog w A s κ a₀)(hB:SQ κ a₀ pd st)(hi:i<a₀.size)(hj:j<a₀.size)(h:∀b,Q (some b) st):wpS (model prog w) A E s (ltAt' i j) Q st:=by
 obtain⟨p,e1,m1⟩:=hB.at hi;obtain⟨q,e2,m2⟩:=hB.at hj;rw[ltAt'_eq];refine aI (fQ ?_);exact aI (bo e1 (aI (bo e2 (oE hC hB.kind m1 m2 h))))
theorem fJ{st:SortSt}{i j:Nat}{Q:Unit->SortSt->Prop}(hB:SQ κ a₀ pd st)(h:∀a6,SQ κ a₀ pd a6->Q () a6):wpS (model prog w) A E s (reverseSlice' i j) Q st:=by
 rw[reverseSlice'_eq];exact fe (h _ (hB.setArr (mirror_perm _ _ _ _)))
theorem Ch{st:SortSt}{i j:Nat}{Q:Unit->SortSt->Prop}(hB:SQ κ a₀ pd st)(h:∀a6,SQ κ a₀ pd a6->Q () a6):wpS (model prog w) A E s (moveDown' i j) Q st:=by
 rw[moveDown'_eq];exact fe (h _ (hB.setArr (bubble_perm _ _ _)))
theorem ES{st:SortSt}{lo n ok:Nat}{Q:Bool->SortSt->Prop}(hC:uJ prog w A s κ a₀)(hn:lo+n<=a₀.size)(hB:SQ κ a₀ pd st)(h:∀a6,SQ κ a₀ pd a6->Q true a6):wpS (model prog w) A E s (binarySort' lo n ok) Q st:=by
 rw[binarySort'_eq];refine aI (cV (eL (I:=fun _ c a6=>c=(none,())/\SQ κ a₀ pd a6) (Q:=fun c a6=>c=(none,())/\SQ κ a₀ pd a6) ?_ (fun c a6 hh=>hh) ⟨rfl,hB⟩) ?_)
 .rintro k c a6 VB RQ ⟨rfl,RS⟩;dsimp only;refine aI (cV (eL (I:=fun _ c IG=>(∃l r,c=(none,l,r)/\r<=k)/\SQ κ a₀ pd IG) (Q:=fun c IG=>(∃l r,c=(none,l,r)/\r<=k)/\SQ κ a₀ pd IG) ?_ (fun c a6 hh=>hh) ⟨⟨_,_,rfl,a8 _⟩,RS⟩) ?_)
  .rintro x c wC _ _ ⟨⟨l,r,rfl,hr⟩,pG⟩;dsimp only;by_cases yB:l>=r
   .rw[ap yB];exact aO ⟨⟨_,_,rfl,hr⟩,pG⟩
   .rw[ak yB];refine aI (eC hC pG (by lia) (by lia) fun b=>?_);cases b
    .exact aO ⟨⟨_,_,rfl,hr⟩,pG⟩
    .exact aO ⟨⟨_,_,rfl,by lia⟩,pG⟩
  .rintro c wC ⟨⟨l,r,rfl,hr⟩,pG⟩;dsimp only;exact aI (Ch pG fun wE mE=>aO ⟨rfl,mE⟩)
 .rintro c a6 ⟨rfl,RS⟩;exact aO (h a6 RS)
end
theorem xc(left:Bool)(key:Keyed)(arr:Array Keyed)(base n jY:Nat):gp left key arr base n jY=(do
 let sL (i:Nat):StateT SortSt Sem (Option Bool):=do
  let x <- elem' arr (base+i)
  if left then lt' x key else return (<-lt' key x).map (!·)
 let mut lastofs:=0
 let mut ofs:=1
 let mut lo:=0
 let mut hi:=0
 let some right <- sL jY|return none
 if right then
  let oF:=n-jY
  for _ in [0:n] do
   if ofs>=oF then break
   let some more <- sL (jY+ofs)|return none
   if !more then break
   lastofs:=ofs
   ofs:=2*ofs+1
  lo:=jY+lastofs+1
  hi:=jY+min ofs oF
 else
  let oF:=jY+1
  for _ in [0:n] do
   if ofs>=oF then break
   let some Ci <- sL (jY-ofs)|return none
   if Ci then break
   lastofs:=ofs
   ofs:=2*ofs+1
  lo:=jY+1-min ofs oF
  hi:=jY-lastofs
 for _ in [0:n] do
  if lo>=hi then break
  let m:=lo+(hi-lo) / 2
  let some more <- sL m|return none
  if more then lo:=m+1 else hi:=m
 return some hi):=rfl
section
variable {prog:Program} {w:World} {A:Around} {E:Value->Shared->Prop} {s:Shared} {κ:SortKind} {a₀:Array Keyed} {pd:Array (Nat×Nat×Nat)}
theorem fV{st:SortSt}{left:Bool}{key:Keyed}{arr:Array Keyed}{j:Nat}{Q:Option Bool->SortSt->Prop}(hC:uJ prog w A s κ a₀)(hk:kindOf st=κ)(pz:key∈a₀.toList)(pH:∀x∈arr.toList,x∈a₀.toList)(hj:j<arr.size)(h:∀b,Q (some b) st):
  wpS (model prog w) A E s (do
  let x <- elem' arr j
  if left then lt' x key else return (<-lt' key x).map (!·)) Q st:=by
 have hm:arr[j]∈a₀.toList:=pH _ (by simp);refine aI (bo (cK arr j hj) ?_);cases left
 .rw[ak (by decide)];exact aI (oE hC hk pz hm fun b=>aO (h (!b)))
 .rw[ap rfl];exact oE hC hk hm pz h
theorem eT{st:SortSt}{left:Bool}{key:Keyed}{arr:Array Keyed}{base n jY:Nat}{Q:Option Nat->SortSt->Prop}(hC:uJ prog w A s κ a₀)(hk:kindOf st=κ)(pz:key∈a₀.toList)(pH:∀x∈arr.toList,x∈a₀.toList)(hn:base+n<=arr.size)(hh:jY<n)(h:∀k,k<=n->Q (some k) st):wpS (model prog w) A E s (gp left key arr base n jY) Q st:=by
 rw[xc];refine aI (fV hC hk pz pH (by lia) fun right=>?_);cases right
 .dsimp only;rw[ak (by decide)];refine aI (cV (eL (I:=fun _ c a6=>(∃l o,c=(none,l,o))/\st=a6) (Q:=fun c a6=>(∃l o,c=(none,l,o))/\st=a6) ?_ (fun c a6 hh=>hh) ⟨⟨_,_,rfl⟩,rfl⟩) ?_)
  .rintro x c a6 _ _ ⟨⟨l,o,rfl⟩,rfl⟩;dsimp only;by_cases yB:o>=jY+1
   .rw[ap yB];exact aO ⟨⟨_,_,rfl⟩,rfl⟩
   .rw[ak yB];refine aI (fV hC hk pz pH (by lia) fun Ci=>?_);cases Ci
    .exact aO ⟨⟨_,_,rfl⟩,rfl⟩
    .exact aO ⟨⟨_,_,rfl⟩,rfl⟩
  .rintro c a6 ⟨⟨l,o,rfl⟩,rfl⟩;dsimp only;refine aI (cV (eL (I:=fun _ c a6=>(∃l u,c=(none,l,u)/\u<=n)/\st=a6) (Q:=fun c a6=>(∃l u,c=(none,l,u)/\u<=n)/\st=a6) ?_ (fun c a6 hh=>hh) ⟨⟨_,_,rfl,by lia⟩,rfl⟩) ?_)
   .rintro x c a6 _ _ ⟨⟨l,u,rfl,hu⟩,rfl⟩;dsimp only;by_cases yB:l>=u
    .rw[ap yB];exact aO ⟨⟨_,_,rfl,hu⟩,rfl⟩
    .rw[ak yB];refine aI (fV hC hk pz pH (by lia) fun more=>?_);cases more
     .exact aO ⟨⟨_,_,rfl,by lia⟩,rfl⟩
     .exact aO ⟨⟨_,_,rfl,hu⟩,rfl⟩
   .rintro c a6 ⟨⟨l,u,rfl,hu⟩,rfl⟩;exact aO (h u hu)
 .dsimp only;rw[ap rfl];refine aI (cV (eL (I:=fun _ c a6=>(∃l o,c=(none,l,o))/\st=a6) (Q:=fun c a6=>(∃l o,c=(none,l,o))/\st=a6) ?_ (fun c a6 hh=>hh) ⟨⟨_,_,rfl⟩,rfl⟩) ?_)
  .rintro x c a6 _ _ ⟨⟨l,o,rfl⟩,rfl⟩;dsimp only;by_cases yB:o>=n-jY
   .rw[ap yB];exact aO ⟨⟨_,_,rfl⟩,rfl⟩
   .rw[ak yB];refine aI (fV hC hk pz pH (by lia) fun more=>?_);cases more
    .exact aO ⟨⟨_,_,rfl⟩,rfl⟩
    .exact aO ⟨⟨_,_,rfl⟩,rfl⟩
  .rintro c a6 ⟨⟨l,o,rfl⟩,rfl⟩;dsimp only;refine aI (cV (eL (I:=fun _ c a6=>(∃l u,c=(none,l,u)/\u<=n)/\st=a6) (Q:=fun c a6=>(∃l u,c=(none,l,u)/\u<=n)/\st=a6) ?_ (fun c a6 hh=>hh) ⟨⟨_,_,rfl,by lia⟩,rfl⟩) ?_)
   .rintro x c a6 _ _ ⟨⟨l,u,rfl,hu⟩,rfl⟩;dsimp only;by_cases yB:l>=u
    .rw[ap yB];exact aO ⟨⟨_,_,rfl,hu⟩,rfl⟩
    .rw[ak yB];refine aI (fV hC hk pz pH (by lia) fun more=>?_);cases more
     .exact aO ⟨⟨_,_,rfl,by lia⟩,rfl⟩
     .exact aO ⟨⟨_,_,rfl,hu⟩,rfl⟩
   .rintro c a6 ⟨⟨l,u,rfl,hu⟩,rfl⟩;exact aO (h u hu)
end
structure SM(κ:SortKind)(ar:Array Keyed)(pd:Array (Nat×Nat×Nat))(st:SortSt):Prop where
 arr:arrOf st=ar
 kind:kindOf st=κ
 failed:failedOf st=none
 pend:pendingOf st=pd
abbrev mG:=Option (Array Keyed)
abbrev qt:=StateT SortSt Sem
def uK{τ:Type}(c:Bool)(d:Prop)[Decidable d](r:Array Keyed)(t:τ):qt (ForInStep (mG×τ)):=if c then pure (.done (some r,t)) else if d then pure (.done (none,t)) else pure (.yield (none,t))
def VC{α β γ:Type}(N:Nat)(f:Nat->mG×α×β×γ×Nat×Nat->qt (ForInStep (mG×α×β×γ×Nat×Nat)))(g:mG×α×β×γ×Nat×Nat×Nat->qt (ForInStep (mG×α×β×γ×Nat×Nat×Nat)))(s:mG×α×β×γ×Nat):qt (ForInStep (mG×α×β×γ×Nat)):=do
 let t <- forIn [0:N] ((none,s.2.1,s.2.2.1,s.2.2.2.1,0,0):mG×α×β×γ×Nat×Nat) fun _ t=>f s.2.2.2.2 t
 match t.1 with
 |some r=>pure (.done (some r,t.2.1,t.2.2.1,t.2.2.2.1,s.2.2.2.2))
 |none=>do
  liftM (rule "list.sort.gallop")
  let u <- forIn [0:N] ((none,t.2.1,t.2.2.1,t.2.2.2.1,s.2.2.2.2+1,t.2.2.2.2.1,t.2.2.2.2.2):mG×α×β×γ×Nat×Nat×Nat) fun _ u=>g u
  match u.1 with
  |some r=>pure (.done (some r,u.2.1,u.2.2.1,u.2.2.2.1,u.2.2.2.2.1))
  |none=>do
   gz (u.2.2.2.2.1+1)
   pure (.yield (none,u.2.1,u.2.2.1,u.2.2.2.1,u.2.2.2.2.1+1))
def PF{α β γ:Type}(N:Nat)(f:Nat->mG×α×β×γ×Nat×Nat->qt (ForInStep (mG×α×β×γ×Nat×Nat)))(g:mG×α×β×γ×Nat×Nat×Nat->qt (ForInStep (mG×α×β×γ×Nat×Nat×Nat)))(x:α)(y:β)(z:γ):qt (Array Keyed):=do
 let st <- get
 let s <- forIn [0:N] ((none,x,y,z,gallopOf st):mG×α×β×γ×Nat) fun _ s=>VC N f g s
 match s.1 with
 |some r=>pure r
 |none=>liftM (unsupported "internal:list.sort.merge-bound")
section
variable {prog:Program} {w:World} {A:Around} {E:Value->Shared->Prop} {s:Shared} {κ:SortKind} {a₀:Array Keyed} {pd:Array (Nat×Nat×Nat)} {ar:Array Keyed} {F:Array Keyed->Prop}
def GP{τ:Type}(κ:SortKind)(ar:Array Keyed)(pd:Array (Nat×Nat×Nat))(F:Array Keyed->Prop)(D J:τ->Prop)(r:ForInStep (mG×τ))(st:SortSt):Prop:=SM κ ar pd st/\
 ((∃x t,r=.done (some x,t)/\F x)\/(∃t,r=.done (none,t)/\D t)\/∃t,r=.yield (none,t)/\J t)
theorem eD{τ:Type}{D J:τ->Prop}{st:SortSt}{x:Array Keyed}{t:τ}(m:SM κ ar pd st)(h:F x):wpS (model prog w) A E s (pure (.done (some x,t))) (GP κ ar pd F D J) st:=aO ⟨m,.inl ⟨_,_,rfl,h⟩⟩
theorem gI{τ:Type}{D J:τ->Prop}{c:Bool}{d:Prop}[Decidable d]{r:Array Keyed}{t:τ}{st:SortSt}(m:SM κ ar pd st)(h1:c=true->F r)(h2:c=false->D t/\J t):wpS (model prog w) A E s (uK c d r t) (GP κ ar pd F D J) st:=by
 unfold uK;cases c
 .rw[ak cm];split
  .exact aO ⟨m,.inr (.inl ⟨_,rfl,(h2 rfl).1⟩)⟩
  .exact aO ⟨m,.inr (.inr ⟨_,rfl,(h2 rfl).2⟩)⟩
 .rw[ap rfl];exact eD m (h1 rfl)
theorem lL{τ:Type}{D:τ->Prop}{J:Nat->τ->Prop}{N:Nat}{f:mG×τ->qt (ForInStep (mG×τ))}{t:τ}{st:SortSt}{Q:mG×τ->SortSt->Prop}(m:SM κ ar pd st)(hJ:J 0 t)(up:∀t,J N t->D t)(b:∀t st,SM κ ar pd st->∀i,J i t->wpS (model prog w) A E s (f (none,t)) (GP κ ar pd F D (J (i+1))) st)(h1:∀x t a6,SM κ ar pd a6->F x->Q (some x,t) a6)(h2:∀t a6,SM κ ar pd a6->D t->Q (none,t) a6):wpS (model prog w) A E s (forIn [0:N] ((none,t):mG×τ) fun _ c=>f c) Q st:=by
 refine eL (I:=fun i c a6=>c.1=none/\SM κ ar pd a6/\J i c.2) ?_ ?_ ⟨rfl,m,hJ⟩
 .rintro i ⟨_,t⟩ a6 _ _ ⟨rfl,m',j⟩;refine cV (b t a6 m' i j) ?_;rintro r wC ⟨m2,⟨x,t,rfl,h⟩|⟨t,rfl,h⟩|⟨t,rfl,h⟩⟩
  .exact h1 _ _ _ m2 h
  .exact h2 _ _ m2 h
  .exact⟨rfl,m2,h⟩
 .rintro⟨_,t⟩ a6 ⟨rfl,m',j⟩;rw[Nat.max_eq_right (c_ _)] at j;exact h2 _ _ m' (up _ j)
theorem yC{α β γ:Type}{N:Nat}{f:Nat->mG×α×β×γ×Nat×Nat->qt (ForInStep (mG×α×β×γ×Nat×Nat))}{g:mG×α×β×γ×Nat×Nat×Nat->qt (ForInStep (mG×α×β×γ×Nat×Nat×Nat))}{x:α}{y:β}{z:γ}{J:Nat->α->β->γ->Prop}{st:SortSt}{Q:Array Keyed->SortSt->Prop}(m:SM κ ar pd st)(h0:J 0 x y z)(dn:∀i k x y z,J (i+k) x y z->J i x y z)(no:∀x y z,¬ J N x y z)(N1:1<=N)(hf:∀mg n k x y z p st,SM κ ar pd st->J (n+k) x y z->wpS (model prog w) A E s (f mg (none,x,y,z,p)) (GP κ ar pd F (fun t=>J (n+1) t.1 t.2.1 t.2.2.1) fun t=>J (n+(k+1)) t.1 t.2.1 t.2.2.1) st)(hg:∀n x y z p st,SM κ ar pd st->J n x y z->wpS (model prog w) A E s (g (none,x,y,z,p)) (GP κ ar pd F (fun t=>J n t.1 t.2.1 t.2.2.1) fun t=>J n t.1 t.2.1 t.2.2.1) st)(h:∀x a6,F x->SM κ ar pd a6->Q x a6):wpS (model prog w) A E s (PF N f g x y z) Q st:=by
 unfold PF;refine aI (fQ ?_);refine aI (lL (F:=F) (D:=fun _=>False) (J:=fun n (t:α×β×γ×Nat)=>J n t.1 t.2.1 t.2.2.1) m h0 (fun t h=>no _ _ _ h) ?_ (fun x t st m hx=>aO (h _ _ hx m)) fun t st m j=>j.elim);intro t st m i j;unfold VC;refine aI (lL (F:=F) (D:=fun t=>J (i+1) t.1 t.2.1 t.2.2.1) (J:=fun n (t:α×β×γ×Nat×Nat)=>J (i+n) t.1 t.2.1 t.2.2.1) m j (fun t h=>dn _ (N-1) _ _ _ (by rw[show i+1+(N-1)=i+N by lia];exact h)) (fun t st m n j=>hf _ _ _ _ _ _ _ _ m j) (fun x t st m hx=>eD m hx) ?_);intro t st m j;refine aI (jQ (jP ⟨rfl,?_⟩));refine aI (lL (F:=F) (D:=fun t=>J (i+1) t.1 t.2.1 t.2.2.1) (J:=fun n (t:α×β×γ×Nat×Nat×Nat)=>J (i+1) t.1 t.2.1 t.2.2.1) m j (fun _ h=>h) (fun t st m n j=>hg _ _ _ _ _ _ m j) (fun x t st m hx=>eD m hx) ?_);intro t st m j;refine aI (fe ?_);exact aO ⟨⟨m.arr,m.kind,m.failed,m.pend⟩,.inr (.inr ⟨_,rfl,j⟩)⟩
end
abbrev iU(a b out:Array Keyed)(ia ib:Nat):=out++a.extract ia a.size++b.extract ib b.size
abbrev sM(a b out:Array Keyed)(ia ib:Nat):=out++b.extract ib b.size++a.extract ia a.size
abbrev G7 ρ:=mG×Array Keyed×Nat×Nat×ρ
def VD(a b:Array Keyed)(mg:Nat)(t:G7 (Nat×Nat)):qt (ForInStep (G7 (Nat×Nat))):=do
 let x <- elem' b t.2.2.2.1
 let y <- elem' a t.2.2.1
 let some w <- lt' x y|pure (.done (some (iU a b t.2.1 t.2.2.1 t.2.2.2.1),t.2.1,t.2.2.1,t.2.2.2.1,t.2.2.2.2.1,t.2.2.2.2.2))
 if w then do
  let x <- elem' b t.2.2.2.1
  uK (t.2.2.2.1+1==b.size) (t.2.2.2.2.2+1>=mg) (iU a b (t.2.1.push x) t.2.2.1 (t.2.2.2.1+1)) (t.2.1.push x,t.2.2.1,t.2.2.2.1+1,0,t.2.2.2.2.2+1)
 else do
  let x <- elem' a t.2.2.1
  uK (t.2.2.1+1+1==a.size) (t.2.2.2.2.1+1>=mg) (sM a b (t.2.1.push x) (t.2.2.1+1) t.2.2.2.1) (t.2.1.push x,t.2.2.1+1,t.2.2.2.1,t.2.2.2.2.1+1,0)
def RV(a b out:Array Keyed)(ia ib mg ac bc:Nat):qt (ForInStep (G7 (Nat×Nat×Nat))):=do
 let x <- elem' a ia
 uK (ia+1+1==a.size) ((ac<7&&bc<7)=true) (sM a b (out.push x) (ia+1) ib) (out.push x,ia+1,ib,mg,ac,bc)
def RW(a b out:Array Keyed)(ia ib mg ac bc:Nat):qt (ForInStep (G7 (Nat×Nat×Nat))):=do
 let x <- elem' b ib
 if ib+1==b.size then pure (.done (some (iU a b (out.push x) ia (ib+1)),out.push x,ia,ib+1,mg,ac,bc))
 else do
  let y <- elem' a ia
  let some k <- gp true y b (ib+1) (b.size-(ib+1)) 0|pure (.done (some (iU a b (out.push x) ia (ib+1)),out.push x,ia,ib+1,mg,ac,bc))
  if k > 0 then
   if ib+1+k==b.size then pure (.done (some (iU a b (out.push x++b.extract (ib+1) (ib+1+k)) ia (ib+1+k)),out.push x++b.extract (ib+1) (ib+1+k),ia,ib+1+k,mg,ac,k))
   else RV a b (out.push x++b.extract (ib+1) (ib+1+k)) ia (ib+1+k) mg ac k
  else RV a b (out.push x) ia (ib+1) mg ac k
def RX(a b out:Array Keyed)(ia ib mg ac bc:Nat):qt (ForInStep (G7 (Nat×Nat×Nat))):=do
 gz mg
 let y <- elem' b ib
 let some k <- gp false y a ia (a.size-ia) 0|pure (.done (some (iU a b out ia ib),out,ia,ib,mg,ac,bc))
 if k > 0 then
  if ia+k+1==a.size then pure (.done (some (sM a b (out++a.extract ia (ia+k)) (ia+k) ib),out++a.extract ia (ia+k),ia+k,ib,mg,k,bc))
  else if ia+k==a.size then pure (.done (some (iU a b (out++a.extract ia (ia+k)) (ia+k) ib),out++a.extract ia (ia+k),ia+k,ib,mg,k,bc))
  else RW a b (out++a.extract ia (ia+k)) (ia+k) ib mg k bc
 else RW a b out ia ib mg k bc
def VE(a b:Array Keyed)(t:G7 (Nat×Nat×Nat)):qt (ForInStep (G7 (Nat×Nat×Nat))):=
 if t.2.2.2.2.1 > 1 then RX a b t.2.1 t.2.2.1 t.2.2.2.1 (t.2.2.2.2.1-1) t.2.2.2.2.2.1 t.2.2.2.2.2.2 else RX a b t.2.1 t.2.2.1 t.2.2.2.1 t.2.2.2.2.1 t.2.2.2.2.2.1 t.2.2.2.2.2.2
theorem uL(a b:Array Keyed):oB a b=(do
 liftM (rule "list.sort.merge-lo")
 let x <- elem' b 0
 if 1==b.size then pure (iU a b #[x] 0 1) else if 0+1==a.size then pure (sM a b #[x] 0 1) else PF (a.size+b.size) (VD a b) (VE a b) #[x] 0 1):=by kernel_rfl
def PI(a b out:Array Keyed)(ia ib:Nat):Prop:=out.toList.Perm (a.toList.take ia++b.toList.take ib)
theorem uM{l:List Keyed}{i:Nat}(h:i<l.length):l.take (i+1)=l.take i++[l[i]]:=by rw[eI,bD h];rfl
theorem PI.qu{a b out:Array Keyed}{ia ib:Nat}(h:PI a b out ia ib)(hi:ia<a.size):PI a b (out.push a[ia]) (ia+1) ib:=by
 unfold PI at h |-;rw[k7,uM (by simpa using hi),cJ];refine(h.append_right _).trans ?_;rw[cJ];refine ke _ ?_;have:a.toList[ia]'(by simpa using hi)=a[ia]:=by simp
 rw[this];exact il
theorem PI.qv{a b out:Array Keyed}{ia ib:Nat}(h:PI a b out ia ib)(hi:ib<b.size):PI a b (out.push b[ib]) ia (ib+1):=by
 unfold PI at h |-;rw[k7,uM (by simpa using hi),<-cJ];have:b.toList[ib]'(by simpa using hi)=b[ib]:=by simp
 rw[this];exact h.append_right _
theorem dA{a:Array Keyed}{i j:Nat}:(a.extract i j).toList=(a.toList.drop i).take (j-i):=by
 rw[vU,List.extract_eq_take_drop]
theorem PI.Ae{a b out:Array Keyed}{ia ib:Nat}(h:PI a b out ia ib)(k:Nat):PI a b (out++a.extract ia (ia+k)) (ia+k) ib:=by
 unfold PI at h |-;rw[dU,dA,Nat.add_sub_cancel_left,List.take_add,cJ];refine(h.append_right _).trans ?_;rw[cJ];exact ke _ il
theorem PI.Af{a b out:Array Keyed}{ia ib:Nat}(h:PI a b out ia ib)(k:Nat):PI a b (out++b.extract ib (ib+k)) ia (ib+k):=by
 unfold PI at h |-;rw[dU,dA,Nat.add_sub_cancel_left,List.take_add,<-cJ];exact h.append_right _
theorem PI.done{a b out:Array Keyed}{ia ib:Nat}(h:PI a b out ia ib):(out++a.extract ia a.size++b.extract ib b.size).Perm (a++b):=by
 rw[ka];unfold PI at h;rw[dU,dU,dU,dA,dA];have e1:(a.toList.drop ia).take (a.size-ia)=a.toList.drop ia:=nA (by simp);have e2:(b.toList.drop ib).take (b.size-ib)=b.toList.drop ib:=nA (by simp);rw[e1,e2];refine((h.append_right _).append_right _).trans ?_;conv=>rhs;rw[<-nw ia a.toList,<-nw ib b.toList]
 rw[cJ,cJ,cJ];refine ke _ ?_;rw[<-cJ,<-cJ];exact qU _ il
theorem PI.last{a b out:Array Keyed}{ia ib:Nat}(h:PI a b out ia ib):(out++b.extract ib b.size++a.extract ia a.size).Perm (a++b):=by
 refine Array.Perm.trans ?_ h.done;rw[ka];rw[dU,dU,dU,dU,cJ,cJ];exact ke _ il
section
variable {prog:Program} {w:World} {A:Around} {E:Value->Shared->Prop} {s:Shared} {κ:SortKind} {a₀:Array Keyed} {pd:Array (Nat×Nat×Nat)} {ar:Array Keyed} {a b out:Array Keyed} {ia ib mg ac bc n:Nat} {st:SortSt}
def JL(a b:Array Keyed)(n:Nat)(out:Array Keyed)(ia ib:Nat):Prop:=PI a b out ia ib/\ia+1<a.size/\ib<b.size/\n<=ia+ib
abbrev GL{ρ:Type}(κ:SortKind)(ar:Array Keyed)(pd:Array (Nat×Nat×Nat))(a b:Array Keyed)(n m:Nat):ForInStep (G7 ρ)->SortSt->Prop:=GP κ ar pd (fun x=>x.Perm (a++b)) (fun t=>JL a b n t.1 t.2.1 t.2.2.1) fun t=>JL a b m t.1 t.2.1 t.2.2.1
theorem yD(hB:SM κ ar pd st)(h:JL a b n out ia ib):wpS (model prog w) A E s (RV a b out ia ib mg ac bc) (GL κ ar pd a b n n) st:=by
 obtain⟨p,la,lb,li⟩:=h;refine aI (bo (cK a ia (by lia)) ?_);have p:=p.qu (show ia<a.size by lia);refine gI hB (fun _=>p.last) fun f=>?_;have g:=k9 f;have j:JL a b n (out.push a[ia]) (ia+1) ib:=⟨p,by lia,lb,by lia⟩
 exact⟨j,j⟩
theorem yE(hC:uJ prog w A s κ a₀)(ha:∀x∈a.toList,x∈a₀.toList)(hb:∀x∈b.toList,x∈a₀.toList)(hB:SM κ ar pd st)(h:JL a b n out ia ib):wpS (model prog w) A E s (RW a b out ia ib mg ac bc) (GL κ ar pd a b n n) st:=by
 obtain⟨p,la,lb,li⟩:=h;refine aI (bo (cK b ib lb) ?_);have p:=p.qv lb;split
 .exact eD hB p.done
 next f=>
 have g:ib+1≠b.size:=by simpa using f
 refine aI (bo (cK a ia (by lia)) ?_);refine aI (eT hC hB.kind (ha _ (by simp)) hb (by lia) (by lia) fun k hk=>?_);dsimp only;split
 .split
  .exact eD hB (p.Af k).done
  next f=>
  have g:ib+1+k≠b.size:=by simpa using f
  exact yD hB ⟨p.Af k,la,by lia,by lia⟩
 .exact yD hB ⟨p,la,by lia,by lia⟩
theorem ET(hC:uJ prog w A s κ a₀)(ha:∀x∈a.toList,x∈a₀.toList)(hb:∀x∈b.toList,x∈a₀.toList)(hB:SM κ ar pd st)(h:JL a b n out ia ib):wpS (model prog w) A E s (RX a b out ia ib mg ac bc) (GL κ ar pd a b n n) st:=by
 obtain⟨p,la,lb,li⟩:=h;refine aI (fe ?_);refine aI (bo (cK b ib lb) ?_);have pG:SM κ ar pd (SortSt.mk' (kindOf st) (arrOf st) (pendingOf st) mg (failedOf st)):=⟨hB.arr,hB.kind,hB.failed,hB.pend⟩
 refine aI (eT hC pG.kind (hb _ (by simp)) ha (by lia) (by lia) fun k hk=>?_);dsimp only;split
 .split
  .exact eD pG (p.Ae k).last
  next f=>
  split
  .exact eD pG (p.Ae k).done
  next f'=>
  have g:ia+k+1≠a.size:=by simpa using f
  have g':ia+k≠a.size:=by simpa using f'
  exact yE hC ha hb pG ⟨p.Ae k,by lia,lb,by lia⟩
 .exact yE hC ha hb pG ⟨p,la,lb,li⟩
theorem EU{k:Nat}(hC:uJ prog w A s κ a₀)(ha:∀x∈a.toList,x∈a₀.toList)(hb:∀x∈b.toList,x∈a₀.toList)(hB:SM κ ar pd st)(h:JL a b (n+k) out ia ib){q:Nat×Nat}:wpS (model prog w) A E s (VD a b mg (none,out,ia,ib,q)) (GL κ ar pd a b (n+1) (n+(k+1))) st:=by
 obtain⟨p,la,lb,li⟩:=h;refine aI (bo (cK b ib lb) (aI (bo (cK a ia (by lia)) (aI (oE hC hB.kind (hb _ (by simp)) (ha _ (by simp)) fun w=>?_)))));cases w
 .refine aI (bo (cK a ia (by lia)) ?_);have p:=p.qu (show ia<a.size by lia);refine gI hB (fun _=>p.last) fun f=>?_;have g:=k9 f;exact⟨⟨p,by dsimp only;lia,lb,by dsimp only;lia⟩,p,by dsimp only;lia,lb,by dsimp only;lia⟩
 .refine aI (bo (cK b ib lb) ?_);have p:=p.qv lb;refine gI hB (fun _=>p.done) fun f=>?_;have g:=k9 f;exact⟨⟨p,la,by dsimp only at g |-;lia,by dsimp only;lia⟩,p,la,by dsimp only at g |-;lia,by dsimp only;lia⟩
theorem uN{Q:Array Keyed->SortSt->Prop}(hC:uJ prog w A s κ a₀)(hB:SM κ ar pd st)(ha:∀x∈a.toList,x∈a₀.toList)(hb:∀x∈b.toList,x∈a₀.toList)(a1:1<=a.size)(b1:1<=b.size)(h:∀out a6,out.Perm (a++b)->SM κ ar pd a6->Q out a6):wpS (model prog w) A E s (oB a b) Q st:=by
 rw[uL];refine aI (jQ (jP ⟨rfl,?_⟩));refine aI (bo (cK b 0 (by lia)) ?_);have p0:PI a b #[b[0]] 0 1:=by
  have:PI a b #[] 0 0:=by unfold PI;simp
  exact this.qv (by lia)
 split
 .exact aO (h _ _ p0.done hB)
 next f=>
 split
 .exact aO (h _ _ p0.last hB)
 next f'=>
 have g:1≠b.size:=by simpa using f
 have g':0+1≠a.size:=by simpa using f'
 refine yC (J:=JL a b) hB ⟨p0,by lia,by lia,by lia⟩ (fun i k x y z h=>⟨h.1,h.2.1,h.2.2.1,by have:=h.2.2.2;lia⟩) (fun x y z h=>by have:=h.2;lia) (by lia) (fun mg n k x y z p st m j=>EU hC ha hb m j) (fun n x y z p st m j=>?_) h;unfold VE;split <;> exact ET hC ha hb m j
end
abbrev iV(a b out:Array Keyed)(na nb:Nat):=a.extract 0 na++b.extract 0 nb++out.reverse
abbrev mX(a b out:Array Keyed)(na nb:Nat):=b.extract 0 nb++a.extract 0 na++out.reverse
abbrev G8 ρ:=mG×Nat×Nat×Array Keyed×ρ
def VF(a b:Array Keyed)(mg:Nat)(t:G8 (Nat×Nat)):qt (ForInStep (G8 (Nat×Nat))):=do
 let x <- elem' b (t.2.2.1-1)
 let y <- elem' a (t.2.1-1)
 let some w <- lt' x y|pure (.done (some (iV a b t.2.2.2.1 t.2.1 t.2.2.1),t.2.1,t.2.2.1,t.2.2.2.1,t.2.2.2.2.1,t.2.2.2.2.2))
 if w then do
  let x <- elem' a (t.2.1-1)
  uK (t.2.1-1==0) (t.2.2.2.2.1+1>=mg) (iV a b (t.2.2.2.1.push x) (t.2.1-1) t.2.2.1) (t.2.1-1,t.2.2.1,t.2.2.2.1.push x,t.2.2.2.2.1+1,0)
 else do
  let x <- elem' b (t.2.2.1-1)
  uK (t.2.2.1-1==1) (t.2.2.2.2.2+1>=mg) (mX a b (t.2.2.2.1.push x) t.2.1 (t.2.2.1-1)) (t.2.1,t.2.2.1-1,t.2.2.2.1.push x,0,t.2.2.2.2.2+1)
def RY(a b:Array Keyed)(na nb:Nat)(out:Array Keyed)(mg ac bc:Nat):qt (ForInStep (G8 (Nat×Nat×Nat))):=do
 let x <- elem' a (na-1)
 uK (na-1==0) ((ac<7&&bc<7)=true) (iV a b (out.push x) (na-1) nb) (na-1,nb,out.push x,mg,ac,bc)
def RZ(a b:Array Keyed)(na nb:Nat)(out:Array Keyed)(mg ac bc:Nat):qt (ForInStep (G8 (Nat×Nat×Nat))):=do
 let x <- elem' b (nb-1)
 if nb-1==1 then pure (.done (some (mX a b (out.push x) na (nb-1)),na,nb-1,out.push x,mg,ac,bc))
 else do
  let y <- elem' a (na-1)
  let some k <- gp true y b 0 (nb-1) (nb-1-1)|pure (.done (some (iV a b (out.push x) na (nb-1)),na,nb-1,out.push x,mg,ac,bc))
  if nb-1-k > 0 then
   if k==1 then pure (.done (some (mX a b (out.push x++(b.extract k (nb-1)).reverse) na k),na,k,out.push x++(b.extract k (nb-1)).reverse,mg,ac,nb-1-k))
   else if k==0 then pure (.done (some (iV a b (out.push x++(b.extract k (nb-1)).reverse) na k),na,k,out.push x++(b.extract k (nb-1)).reverse,mg,ac,nb-1-k))
   else RY a b na k (out.push x++(b.extract k (nb-1)).reverse) mg ac (nb-1-k)
  else RY a b na (nb-1) (out.push x) mg ac (nb-1-k)
def R3(a b:Array Keyed)(na nb:Nat)(out:Array Keyed)(mg ac bc:Nat):qt (ForInStep (G8 (Nat×Nat×Nat))):=do
 gz mg
 let y <- elem' b (nb-1)
 let some k <- gp false y a 0 na (na-1)|pure (.done (some (iV a b out na nb),na,nb,out,mg,ac,bc))
 if na-k > 0 then
  if k==0 then pure (.done (some (iV a b (out++(a.extract k na).reverse) k nb),k,nb,out++(a.extract k na).reverse,mg,na-k,bc))
  else RZ a b k nb (out++(a.extract k na).reverse) mg (na-k) bc
 else RZ a b na nb out mg (na-k) bc
def VG(a b:Array Keyed)(t:G8 (Nat×Nat×Nat)):qt (ForInStep (G8 (Nat×Nat×Nat))):=
 if t.2.2.2.2.1 > 1 then R3 a b t.2.1 t.2.2.1 t.2.2.2.1 (t.2.2.2.2.1-1) t.2.2.2.2.2.1 t.2.2.2.2.2.2 else R3 a b t.2.1 t.2.2.1 t.2.2.2.1 t.2.2.2.2.1 t.2.2.2.2.2.1 t.2.2.2.2.2.2
theorem uO(a b:Array Keyed):oC a b=(do
 liftM (rule "list.sort.merge-hi")
 let x <- elem' a (a.size-1)
 if a.size-1==0 then pure (iV a b #[x] (a.size-1) b.size) else if b.size==1 then pure (mX a b #[x] (a.size-1) b.size) else PF (a.size+b.size) (VF a b) (VG a b) (a.size-1) b.size #[x]):=by kernel_rfl
def PH(a b out:Array Keyed)(na nb:Nat):Prop:=out.toList.Perm (a.toList.drop na++b.toList.drop nb)
theorem PH.qu{a b out:Array Keyed}{na nb:Nat}(h:PH a b out na nb)(h1:1<=na)(hi:na-1<a.size):PH a b (out.push a[na-1]) (na-1) nb:=by
 unfold PH at h |-;have e:a.toList.drop (na-1)=a[na-1]::a.toList.drop na:=by
  have:=nj (l:=a.toList) (i:=na-1) (by simpa using hi);rw[this,Nat.sub_add_cancel h1];simp
 rw[k7,e];refine(h.append_right _).trans ?_;exact il
theorem PH.qv{a b out:Array Keyed}{na nb:Nat}(h:PH a b out na nb)(h1:1<=nb)(hi:nb-1<b.size):PH a b (out.push b[nb-1]) na (nb-1):=by
 unfold PH at h |-;have e:b.toList.drop (nb-1)=b[nb-1]::b.toList.drop nb:=by
  have:=nj (l:=b.toList) (i:=nb-1) (by simpa using hi);rw[this,Nat.sub_add_cancel h1];simp
 rw[k7,e];refine(h.append_right _).trans ?_;rw[cJ];exact ke _ il
theorem kJ{l:List Keyed}{i j:Nat}(h:i<=j):l.drop i=(l.drop i).take (j-i)++l.drop j:=by
 have:=(nw (j-i) (l.drop i)).symm;rw[List.drop_drop,show i+(j-i)=j by lia] at this;exact this
theorem PH.Ae{a b out:Array Keyed}{na nb:Nat}(h:PH a b out na nb){k:Nat}(hk:k<=na):PH a b (out++(a.extract k na).reverse) k nb:=by
 unfold PH at h |-;rw[dU,vT,dA];conv=>rhs;rw[kJ hk]
 refine((h.append_left _).trans ?_ |> fun z=>(List.Perm.trans il ((wc _).append_right _)).trans z);rw[cJ]
theorem PH.Af{a b out:Array Keyed}{na nb:Nat}(h:PH a b out na nb){k:Nat}(hk:k<=nb):PH a b (out++(b.extract k nb).reverse) na k:=by
 unfold PH at h |-;rw[dU,vT,dA];conv=>rhs;rw[kJ hk]
 refine(h.append_right _).trans ?_;rw[cJ];refine ke _ ?_;exact il.trans ((wc _).append_right _)
theorem MW{a:Array Keyed}{j:Nat}:(a.extract 0 j).toList=a.toList.take j:=by rw[dA,List.drop_zero,Nat.sub_zero]
theorem PH.done{a b out:Array Keyed}{na nb:Nat}(h:PH a b out na nb):(a.extract 0 na++b.extract 0 nb++out.reverse).Perm (a++b):=by
 rw[ka];unfold PH at h;rw[dU,dU,dU,vT,MW,MW];conv=>rhs;rw[<-nw na a.toList,<-nw nb b.toList]
 refine(ke _ ((wc _).trans h)).trans ?_;rw[cJ,cJ];refine ke _ ?_;rw[<-cJ,<-cJ];exact qU _ il
theorem PH.first{a b out:Array Keyed}{na nb:Nat}(h:PH a b out na nb):(b.extract 0 nb++a.extract 0 na++out.reverse).Perm (a++b):=by
 refine Array.Perm.trans ?_ h.done;rw[ka];rw[dU,dU,dU,dU];exact qU _ il
section
variable {prog:Program} {w:World} {A:Around} {E:Value->Shared->Prop} {s:Shared} {κ:SortKind} {a₀:Array Keyed} {pd:Array (Nat×Nat×Nat)} {ar:Array Keyed} {a b out:Array Keyed} {na nb mg ac bc n:Nat} {st:SortSt}
def JH(a b:Array Keyed)(n na nb:Nat)(out:Array Keyed):Prop:=PH a b out na nb/\1<=na/\2<=nb/\na<=a.size/\nb<=b.size/\n+na+nb<=a.size+b.size
abbrev GH{ρ:Type}(κ:SortKind)(ar:Array Keyed)(pd:Array (Nat×Nat×Nat))(a b:Array Keyed)(n m:Nat):ForInStep (G8 ρ)->SortSt->Prop:=GP κ ar pd (fun x=>x.Perm (a++b)) (fun t=>JH a b n t.1 t.2.1 t.2.2.1) fun t=>JH a b m t.1 t.2.1 t.2.2.1
theorem yF(hB:SM κ ar pd st)(p:PH a b out na nb)(la:1<=na)(lb:2<=nb)(ma:na<=a.size)(mb:nb<=b.size)(li:n+na+nb<=a.size+b.size+1):wpS (model prog w) A E s (RY a b na nb out mg ac bc) (GH κ ar pd a b n n) st:=by
 refine aI (bo (cK a (na-1) (by lia)) ?_);have p:=p.qu la (show na-1<a.size by lia);refine gI hB (fun _=>p.done) fun f=>?_;have g:=k9 f;have j:JH a b n (na-1) nb (out.push a[na-1]):=⟨p,by lia,lb,by lia,mb,by lia⟩
 exact⟨j,j⟩
theorem yG(hC:uJ prog w A s κ a₀)(ha:∀x∈a.toList,x∈a₀.toList)(hb:∀x∈b.toList,x∈a₀.toList)(hB:SM κ ar pd st)(h:JH a b n na nb out):wpS (model prog w) A E s (RZ a b na nb out mg ac bc) (GH κ ar pd a b n n) st:=by
 obtain⟨p,la,lb,ma,mb,li⟩:=h;refine aI (bo (cK b (nb-1) (by lia)) ?_);have p:=p.qv (show 1<=nb by lia) (show nb-1<b.size by lia);split
 .exact eD hB p.first
 next f=>
 have g:nb-1≠1:=by simpa using f
 refine aI (bo (cK a (na-1) (by lia)) ?_);refine aI (eT hC hB.kind (ha _ (by simp)) hb (by lia) (by lia) fun k hk=>?_);dsimp only;split
 .split
  .exact eD hB (p.Af hk).first
  next f=>
  split
  .exact eD hB (p.Af hk).done
  next f'=>
  have g:k≠1:=by simpa using f
  have g':k≠0:=by simpa using f'
  exact yF hB (p.Af hk) la (by lia) ma (by lia) (by lia)
 .exact yF hB p la (by lia) ma (by lia) (by lia)
theorem EV(hC:uJ prog w A s κ a₀)(ha:∀x∈a.toList,x∈a₀.toList)(hb:∀x∈b.toList,x∈a₀.toList)(hB:SM κ ar pd st)(h:JH a b n na nb out):wpS (model prog w) A E s (R3 a b na nb out mg ac bc) (GH κ ar pd a b n n) st:=by
 obtain⟨p,la,lb,ma,mb,li⟩:=h;refine aI (fe ?_);refine aI (bo (cK b (nb-1) (by lia)) ?_);have pG:SM κ ar pd (SortSt.mk' (kindOf st) (arrOf st) (pendingOf st) mg (failedOf st)):=⟨hB.arr,hB.kind,hB.failed,hB.pend⟩
 refine aI (eT hC pG.kind (hb _ (by simp)) ha (by lia) (by lia) fun k hk=>?_);dsimp only;split
 .split
  .exact eD pG (p.Ae hk).done
  next f=>
  have g:k≠0:=by simpa using f
  exact yG hC ha hb pG ⟨p.Ae hk,by lia,lb,by lia,mb,by lia⟩
 .exact yG hC ha hb pG ⟨p,la,lb,ma,mb,li⟩
theorem EW{k:Nat}(hC:uJ prog w A s κ a₀)(ha:∀x∈a.toList,x∈a₀.toList)(hb:∀x∈b.toList,x∈a₀.toList)(hB:SM κ ar pd st)(h:JH a b (n+k) na nb out){q:Nat×Nat}:wpS (model prog w) A E s (VF a b mg (none,na,nb,out,q)) (GH κ ar pd a b (n+1) (n+(k+1))) st:=by
 obtain⟨p,la,lb,ma,mb,li⟩:=h;refine aI (bo (cK b (nb-1) (by lia)) (aI (bo (cK a (na-1) (by lia)) (aI (oE hC hB.kind (hb _ (by simp)) (ha _ (by simp)) fun w=>?_)))));cases w
 .refine aI (bo (cK b (nb-1) (by lia)) ?_);have p:=p.qv (show 1<=nb by lia) (show nb-1<b.size by lia);refine gI hB (fun _=>p.first) fun f=>?_;have g:nb-1≠1:=k9 f;have j:JH a b (n+(k+1)) na (nb-1) (out.push b[nb-1]):=⟨p,la,by lia,ma,by lia,by lia⟩
  exact⟨⟨p,la,j.2.2.1,ma,j.2.2.2.2.1,by have:=j.2.2.2.2.2;dsimp only;lia⟩,j⟩
 .refine aI (bo (cK a (na-1) (by lia)) ?_);have p:=p.qu la (show na-1<a.size by lia);refine gI hB (fun _=>p.done) fun f=>?_;have g:na-1≠0:=k9 f;have j:JH a b (n+(k+1)) (na-1) nb (out.push a[na-1]):=⟨p,by lia,lb,by lia,mb,by lia⟩
  exact⟨⟨p,j.2.1,lb,j.2.2.2.1,mb,by have:=j.2.2.2.2.2;dsimp only;lia⟩,j⟩
theorem uP{Q:Array Keyed->SortSt->Prop}(hC:uJ prog w A s κ a₀)(hB:SM κ ar pd st)(ha:∀x∈a.toList,x∈a₀.toList)(hb:∀x∈b.toList,x∈a₀.toList)(a1:1<=a.size)(b1:1<=b.size)(h:∀out a6,out.Perm (a++b)->SM κ ar pd a6->Q out a6):wpS (model prog w) A E s (oC a b) Q st:=by
 rw[uO];refine aI (jQ (jP ⟨rfl,?_⟩));refine aI (bo (cK a (a.size-1) (by lia)) ?_);have p0:PH a b #[a[a.size-1]] (a.size-1) b.size:=by
  have:PH a b #[] a.size b.size:=by unfold PH;simp
  exact this.qu a1 (by lia)
 split
 .exact aO (h _ _ p0.done hB)
 next f=>
 split
 .exact aO (h _ _ p0.first hB)
 next f'=>
 have g:a.size-1≠0:=by simpa using f
 have g':b.size≠1:=by simpa using f'
 refine yC (J:=JH a b) hB ⟨p0,by lia,by lia,by lia,by lia,by lia⟩ (fun i k x y z h=>⟨h.1,h.2.1,h.2.2.1,h.2.2.2.1,h.2.2.2.2.1,by have:=h.2.2.2.2.2;lia⟩) (fun x y z h=>by have:=h.2;lia) (by lia) (fun mg n k x y z p st m j=>EW hC ha hb m j) (fun n x y z p st m j=>?_) h;unfold VG;split <;> exact EV hC ha hb m j
end
section
variable {prog:Program} {w:World} {A:Around} {E:Value->Shared->Prop} {s:Shared} {κ:SortKind} {a₀:Array Keyed} {pd:Array (Nat×Nat×Nat)}
theorem Ag{st:SortSt}{lo lM:Nat}{Q:Option Nat->SortSt->Prop}(hC:uJ prog w A s κ a₀)(hn:lo+lM<=a₀.size)(h1:1<=lM)(hB:SQ κ a₀ pd st)(h:∀n a6,SQ κ a₀ pd a6->1<=n->n<=lM->Q (some n) a6):wpS (model prog w) A E s (countRun' lo lM) Q st:=by
 rw[countRun'_eq];refine aI (cV (eL (I:=fun i c a6=>SQ κ a₀ pd a6/\∃m,c=(none,m)/\m=i) (Q:=fun c a6=>SQ κ a₀ pd a6/\∃m,c=(none,m)/\1<=m/\m<=lM) ?_ ?_ ⟨hB,_,rfl,rfl⟩) ?_)
 .rintro i c KU KW EA ⟨Cj,m,rfl,rfl⟩;dsimp only;refine aI (eC hC Cj (by lia) (by lia) fun b1=>?_);cases b1
  .exact aO ⟨Cj,_,rfl,rfl⟩
  .exact aO ⟨Cj,_,rfl,by lia,by lia⟩
 .rintro c KU ⟨Cj,m,rfl,rfl⟩;exact⟨Cj,_,rfl,by lia,by lia⟩
 .rintro c KU ⟨Cj,n,rfl,n1,n2⟩;dsimp only;by_cases e1:(n==lM)=true
  .rw[ap e1];exact aO (h n KU Cj n1 n2)
  rw[ak e1];have g1:¬ (n=lM):=by simpa using e1
  by_cases e2:n > 1
  .rw[ap e2];refine aI (eC hC Cj (by lia) (by lia) fun b2=>?_);cases b2
   .dsimp only;rw[ak (by decide)];refine aI (fJ Cj fun wC pG=>?_);refine aI (jQ (jP ⟨rfl,?_⟩));refine aI (cV (eL (I:=fun i c a6=>SQ κ a₀ pd a6/\∃m q,c=(none,m,q)/\m=i) (Q:=fun c a6=>SQ κ a₀ pd a6/\∃m q,c=(none,m,q)/\1<=m/\m<=lM) ?_ ?_ ⟨pG,_,_,rfl,rfl⟩) ?_)
    .rintro i c wE KW EA ⟨mE,m,q,rfl,rfl⟩;dsimp only;refine aI (eC hC mE (by lia) (by lia) fun b3=>?_);cases b3
     .dsimp only;rw[ak (by decide)];refine aI (eC hC mE (by lia) (by lia) fun b4=>?_);cases b4
      .exact aO ⟨mE,_,_,rfl,rfl⟩
      .exact aO ⟨mE,_,_,rfl,by lia,by lia⟩
     .dsimp only;rw[ap rfl];split
      .exact aI (fJ mE fun pb IH=>aO ⟨IH,_,_,rfl,rfl⟩)
      .exact aO ⟨mE,_,_,rfl,rfl⟩
    .rintro c wE ⟨mE,m,q,rfl,rfl⟩;exact⟨mE,_,_,rfl,by lia,by lia⟩
    .rintro c wE ⟨mE,m,q,rfl,m1,m2⟩;dsimp only;split
     .refine aI (fJ mE fun pb IH=>?_);refine aI (fJ IH fun t4 II=>?_);refine aI (cV (eL (I:=fun i c a6=>SQ κ a₀ pd a6/\∃m,c=(none,m)/\m=i) (Q:=fun c a6=>SQ κ a₀ pd a6/\∃m,c=(none,m)/\1<=m/\m<=lM) ?_ ?_ ⟨II,_,rfl,rfl⟩) ?_)
      .rintro i c xf KW EA ⟨jZ,m,rfl,rfl⟩;dsimp only;refine aI (eC hC jZ (by lia) (by lia) fun b6=>?_);cases b6
       .exact aO ⟨jZ,_,rfl,rfl⟩
       .exact aO ⟨jZ,_,rfl,by lia,by lia⟩
      .rintro c xf ⟨jZ,m,rfl,rfl⟩;exact⟨jZ,_,rfl,by lia,by lia⟩
      .rintro c xf ⟨jZ,m,rfl,h1,h2⟩;exact aO (h m xf jZ h1 h2)
     .refine aI (fJ mE fun t4 II=>?_);refine aI (cV (eL (I:=fun i c a6=>SQ κ a₀ pd a6/\∃m,c=(none,m)/\m=i) (Q:=fun c a6=>SQ κ a₀ pd a6/\∃m,c=(none,m)/\1<=m/\m<=lM) ?_ ?_ ⟨II,_,rfl,rfl⟩) ?_)
      .rintro i c xf KW EA ⟨jZ,m,rfl,rfl⟩;dsimp only;refine aI (eC hC jZ (by lia) (by lia) fun b6=>?_);cases b6
       .exact aO ⟨jZ,_,rfl,rfl⟩
       .exact aO ⟨jZ,_,rfl,by lia,by lia⟩
      .rintro c xf ⟨jZ,m,rfl,rfl⟩;exact⟨jZ,_,rfl,by lia,by lia⟩
      .rintro c xf ⟨jZ,m,rfl,h1,h2⟩;exact aO (h m xf jZ h1 h2)
   .exact aO (h n KU Cj n1 n2)
  .rw[ak e2];have pG:=Cj;refine aI (jQ (jP ⟨rfl,?_⟩));refine aI (cV (eL (I:=fun i c a6=>SQ κ a₀ pd a6/\∃m q,c=(none,m,q)/\m=i) (Q:=fun c a6=>SQ κ a₀ pd a6/\∃m q,c=(none,m,q)/\1<=m/\m<=lM) ?_ ?_ ⟨pG,_,_,rfl,rfl⟩) ?_)
   .rintro i c wE KW EA ⟨mE,m,q,rfl,rfl⟩;dsimp only;refine aI (eC hC mE (by lia) (by lia) fun b3=>?_);cases b3
    .dsimp only;rw[ak (by decide)];refine aI (eC hC mE (by lia) (by lia) fun b4=>?_);cases b4
     .exact aO ⟨mE,_,_,rfl,rfl⟩
     .exact aO ⟨mE,_,_,rfl,by lia,by lia⟩
    .dsimp only;rw[ap rfl];split
     .exact aI (fJ mE fun pb IH=>aO ⟨IH,_,_,rfl,rfl⟩)
     .exact aO ⟨mE,_,_,rfl,rfl⟩
   .rintro c wE ⟨mE,m,q,rfl,rfl⟩;exact⟨mE,_,_,rfl,by lia,by lia⟩
   .rintro c wE ⟨mE,m,q,rfl,m1,m2⟩;dsimp only;split
    .refine aI (fJ mE fun pb IH=>?_);refine aI (fJ IH fun t4 II=>?_);refine aI (cV (eL (I:=fun i c a6=>SQ κ a₀ pd a6/\∃m,c=(none,m)/\m=i) (Q:=fun c a6=>SQ κ a₀ pd a6/\∃m,c=(none,m)/\1<=m/\m<=lM) ?_ ?_ ⟨II,_,rfl,rfl⟩) ?_)
     .rintro i c xf KW EA ⟨jZ,m,rfl,rfl⟩;dsimp only;refine aI (eC hC jZ (by lia) (by lia) fun b6=>?_);cases b6
      .exact aO ⟨jZ,_,rfl,rfl⟩
      .exact aO ⟨jZ,_,rfl,by lia,by lia⟩
     .rintro c xf ⟨jZ,m,rfl,rfl⟩;exact⟨jZ,_,rfl,by lia,by lia⟩
     .rintro c xf ⟨jZ,m,rfl,h1,h2⟩;exact aO (h m xf jZ h1 h2)
    .refine aI (fJ mE fun t4 II=>?_);refine aI (cV (eL (I:=fun i c a6=>SQ κ a₀ pd a6/\∃m,c=(none,m)/\m=i) (Q:=fun c a6=>SQ κ a₀ pd a6/\∃m,c=(none,m)/\1<=m/\m<=lM) ?_ ?_ ⟨II,_,rfl,rfl⟩) ?_)
     .rintro i c xf KW EA ⟨jZ,m,rfl,rfl⟩;dsimp only;refine aI (eC hC jZ (by lia) (by lia) fun b6=>?_);cases b6
      .exact aO ⟨jZ,_,rfl,rfl⟩
      .exact aO ⟨jZ,_,rfl,by lia,by lia⟩
     .rintro c xf ⟨jZ,m,rfl,rfl⟩;exact⟨jZ,_,rfl,by lia,by lia⟩
     .rintro c xf ⟨jZ,m,rfl,h1,h2⟩;exact aO (h m xf jZ h1 h2)
end
abbrev Ck:=Nat×Nat×Nat
def gJ:List Ck->Nat->Nat->Prop
 |[],s,e=>s=e
 |r::rs,s,e=>r.1=s/\1<=r.2.1/\gJ rs (s+r.2.1) e
theorem gJ.le:∀ {l:List Ck} {s e:Nat},gJ l s e->s<=e
 |[],_,_,h=>nZ h
 |r::rs,s,e,⟨_,h2,h3⟩=>by have:=h3.le;lia
theorem gJ.two:∀ {l:List Ck} {s e i:Nat} {x y:Ck},gJ l s e->l[i]?=some x->l[i+1]?=some y->
  x.1+x.2.1=y.1/\y.1+y.2.1<=e/\1<=x.2.1/\1<=y.2.1/\∀p,gJ ((l.set i (x.1,x.2.1+y.2.1,p)).eraseIdx (i+1)) s e
 |r::q::rs,s,e,0,x,y,⟨h1,h2,h3,h4,h5⟩,hx,hy=>by
  obtain rfl:=bE hx;obtain rfl:=bE hy;have:=h5.le;refine⟨by lia,by lia,h2,h4,fun p=>⟨h1,by show 1<=r.2.1+q.2.1;lia,?_⟩⟩;show gJ rs (s+(r.2.1+q.2.1)) e;rw[<-Nat.add_assoc];exact h5
 |r::rs,s,e,i+1,x,y,⟨h1,h2,h3⟩,hx,hy=>by
  obtain⟨a1,a2,a3,a4,a5⟩:=gJ.two (i:=i) h3 hx hy;exact⟨a1,a2,a3,a4,fun p=>⟨h1,h2,a5 p⟩⟩
theorem gJ.push:∀ {l:List Ck} {s e n p:Nat},gJ l s e->1<=n->gJ (l++[(e,n,p)]) s (e+n)
 |[],s,e,n,p,h,hn=>⟨h.symm,hn,by rw[h];rfl⟩
 |r::rs,s,e,n,p,⟨h1,h2,h3⟩,hn=>⟨h1,h2,gJ.push h3 hn⟩
theorem gJ.pw:∀ {l:List Ck} {s e:Nat} (i p:Nat),gJ l s e->gJ (l.modify i fun r=>(r.1,r.2.1,p)) s e
 |[],s,e,i,p,h=>by cases i <;> exact h
 |r::rs,s,e,0,p,⟨h1,h2,h3⟩=>⟨h1,h2,h3⟩
 |r::rs,s,e,i+1,p,⟨h1,h2,h3⟩=>⟨h1,h2,gJ.pw i p h3⟩
theorem EX{M:Model}{A:Around}{E:Value->Shared->Prop}{s:Shared}{σ:Type}{x:σ}{Q:PUnit->σ->Prop}{st:σ}(h:Q ⟨⟩ x):wpS M A E s (set x:StateT σ Sem PUnit) Q st:=by
 unfold wpS;rw[StateT.run_set];exact wpAny_pure ⟨rfl,h⟩
theorem uQ(i:Nat):mergeAt' i=(do
 let s <- get
 let (some (sa,na,MX),some (sb,nb,_)):=((pendingOf s)[i]?,(pendingOf s)[i+1]?)|unsupported "internal:list.sort.pending"
 set (setPending s (((pendingOf s).setIfInBounds i (sa,na+nb,MX)).eraseIdxIfInBounds (i+1)))
 let some k <- gp false (<-elem' (arrOf s) sb) (arrOf s) sa na 0|return false
 let (sa,na):=(sa+k,na-k)
 if na==0 then return true
 let some nb <- gp true (<-elem' (arrOf s) (sa+na-1)) (arrOf s) sb nb (nb-1)|return false
 if nb==0 then return true
 let x:=(arrOf s).extract sa sb
 let y:=(arrOf s).extract sb (sb+nb)
 let merged <- if na<=nb then oB x y else oC x y
 modify fun s=>setArr s (merged.toList.zipIdx.foldl (fun a (p,j)=>a.setIfInBounds (sa+j) p) (arrOf s))
 return (failedOf (<-get)).isNone):=rfl
theorem oG{sa:Nat}:∀ (l:List Keyed) (k:Nat) (arr:Array Keyed),sa+k+l.length<=arr.size->
  ((l.zipIdx k).foldl (fun (a:Array Keyed) (x:Keyed×Nat)=>a.setIfInBounds (sa+x.2) x.1) arr).toList=arr.toList.take (sa+k)++l++arr.toList.drop (sa+k+l.length)
 |[],k,arr,_=>by simp
 |x::l,k,arr,h=>by
  rw[dk] at h;have hs:sa+k<arr.toList.length:=by rw[k5];lia
  rw[List.zipIdx_cons,rj,oG l (k+1) _ (by rw[Array.size_setIfInBounds];lia),A4];dsimp only;have e1:(arr.toList.set (sa+k) x).take (sa+(k+1))=arr.toList.take (sa+k)++[x]:=by
   rw[<-Nat.add_assoc,eI,nC hs,List.take_set_of_le (a8 _)];rfl
  have e2:(arr.toList.set (sa+k) x).drop (sa+(k+1)+l.length)=arr.toList.drop (sa+k+(x::l).length):=by
   rw[List.drop_set_of_lt (by lia),dk];congr 1;lia
  rw[e1,e2,cJ,cJ,cJ];rfl
section
variable {prog:Program} {w:World} {A:Around} {E:Value->Shared->Prop} {s:Shared} {κ:SortKind} {a₀:Array Keyed}
def SR(κ:SortKind)(a₀:Array Keyed)(lo:Nat)(st:SortSt):Prop:=∃pd,SQ κ a₀ pd st/\gJ pd.toList 0 lo/\lo<=a₀.size
theorem iW{st:SortSt}{i lo:Nat}{Q:Bool->SortSt->Prop}(hC:uJ prog w A s κ a₀)(hB:SR κ a₀ lo st)(hi:i+1<(pendingOf st).size)(h:∀a6,SR κ a₀ lo a6->Q true a6):wpS (model prog w) A E s (mergeAt' i) Q st:=by
 obtain⟨pd,hq,hr,Pp⟩:=hB;rw[hq.pend] at hi;rw[uQ];refine aI (fQ ?_);have e1:pd[i]?=some pd[i]:=cK pd i (by lia);have e2:pd[i+1]?=some pd[i+1]:=cK pd (i+1) hi;obtain⟨a1,a2,a3,a4,a5⟩:=hr.two (i:=i) (x:=pd[i]) (y:=pd[i+1]) (by simpa using e1) (by simpa using e2);rw[hq.pend,e1,e2];revert a1 a2 a3 a4 a5;generalize pd[i]=x;generalize pd[i+1]=y;obtain⟨sa,na,pw⟩:=x;obtain⟨sb,nb,pw2⟩:=y;intro a1 a2 a3 a4 a5;dsimp only at a1 a2 a3 a4 a5 |-;obtain⟨EY,MY⟩:∃EY,EY=(pd.setIfInBounds i (sa,na+nb,pw)).eraseIdxIfInBounds (i+1):=⟨_,rfl⟩
 have dh:gJ EY.toList 0 lo:=by
  rw[MY,Array.toList_eraseIdxIfInBounds,A4];exact a5 pw
 refine aI (EX ?_);rw[<-MY];have GT:SM κ (arrOf st) EY (setPending st EY):=⟨rfl,hq.kind,hq.failed,rfl⟩
 have hsz:=hq.size;have pH:∀x∈(arrOf st).toList,x∈a₀.toList:=fun x hx=>(ka.mp hq.perm).mem_iff.mp hx;have dN:∀a6,SM κ (arrOf st) EY a6->SR κ a₀ lo a6:=fun a6 m=>⟨EY,⟨by rw[m.arr];exact hq.perm,m.kind,m.failed,m.pend⟩,dh,Pp⟩
 refine aI (bo (cK (arrOf st) sb (by lia)) ?_);refine aI (eT hC GT.kind (pH _ (by simp)) pH (by lia) (by lia) fun k hk=>?_);dsimp only;by_cases f1:(na-k==0)=true
 .rw[ap f1];exact aO (h _ (dN _ GT))
 rw[ak f1];have g1:¬ (na-k=0):=by simpa using f1
 refine aI (bo (cK (arrOf st) (sa+k+(na-k)-1) (by lia)) ?_);refine aI (eT hC GT.kind (pH _ (by simp)) pH (by lia) (by lia) fun k2 RQ=>?_);dsimp only;by_cases f2:(k2==0)=true
 .rw[ap f2];exact aO (h _ (dN _ GT))
 rw[ak f2];have g2:¬ (k2=0):=by simpa using f2
 have hx:∀x∈((arrOf st).extract (sa+k) sb).toList,x∈a₀.toList:=fun x hx=>pH x (by rw[dA] at hx;exact nG (nz hx));have hy:∀x∈((arrOf st).extract sb (sb+k2)).toList,x∈a₀.toList:=fun x hx=>pH x (by rw[dA] at hx;exact nG (nz hx));have sx:((arrOf st).extract (sa+k) sb).size=sb-(sa+k):=by rw[Array.size_extract];lia
 have sy:((arrOf st).extract sb (sb+k2)).size=k2:=by rw[Array.size_extract];lia
 have last:∀ (out:Array Keyed) (a6:SortSt),out.Perm ((arrOf st).extract (sa+k) sb++(arrOf st).extract sb (sb+k2))->SM κ (arrOf st) EY a6->wpS (model prog w) A E s (do
   modify fun s=>setArr s (out.toList.zipIdx.foldl (fun a (p,j)=>a.setIfInBounds (sa+k+j) p) (arrOf s))
   return (failedOf (<-get)).isNone) Q a6:=by
  intro out a6 hp m;refine aI (fe ?_);refine aI (fQ (aO ?_));have VH:out.toList.length=sb-(sa+k)+k2:=by
   rw[k5,hp.size_eq,Array.size_append,sx,sy]
  have wl:=oG (sa:=sa+k) out.toList 0 (arrOf a6) (by rw[m.arr,VH];lia);have pm:(out.toList.zipIdx.foldl (fun a (p,j)=>a.setIfInBounds (sa+k+j) p) (arrOf a6)).Perm (arrOf st):=by
   rw[ka];refine(rm wl).trans ?_;rw[m.arr,VH,Nat.add_zero];have KQ:=ka.mp hp;rw[dU,dA,dA] at KQ;refine((KQ.append_left _).append_right _).trans ?_;have e1:(arrOf st).toList.drop (sa+k)=((arrOf st).toList.drop (sa+k)).take (sb-(sa+k))++(arrOf st).toList.drop sb:=kJ (by lia);have e2:(arrOf st).toList.drop sb=((arrOf st).toList.drop sb).take (sb+k2-sb)++(arrOf st).toList.drop (sb+k2):=kJ (by lia);have e3:sa+k+(sb-(sa+k)+k2)=sb+k2:=by lia
   rw[e3];refine rm ?_;conv=>rhs;rw[<-nw (sa+k) (arrOf st).toList,e1,e2]
   simp only[cJ]
  have hf:(failedOf a6).isNone=true:=by rw[m.failed];rfl
  show Q (failedOf a6).isNone _;rw[hf];exact h _ ⟨EY,⟨pm.trans hq.perm,m.kind,m.failed,m.pend⟩,dh,Pp⟩
 by_cases f3:na-k<=k2
 .rw[ap f3];exact aI (uN hC GT hx hy (by lia) (by lia) fun out a6 hp m=>last out a6 hp m)
 .rw[ak f3];exact aI (uP hC GT hx hy (by lia) (by lia) fun out a6 hp m=>last out a6 hp m)
theorem uR{c:Prop}[Decidable c]{x:Nat}:(if c then x-1 else x)<=x:=by split <;> lia
theorem SR.pw{lo:Nat}{st:SortSt}(h:SR κ a₀ lo st)(i p:Nat):SR κ a₀ lo (setPending st ((pendingOf st).modify i fun r=>(r.1,r.2.1,p))):=by
 obtain⟨pd,hq,hr,hl⟩:=h;refine⟨_,⟨hq.perm,hq.kind,hq.failed,rfl⟩,?_,hl⟩;show gJ ((pendingOf st).modify i fun r=>(r.1,r.2.1,p)).toList 0 lo;rw[hq.pend,Array.toList_modify];exact hr.pw i p
theorem SR.push{lo n:Nat}{st:SortSt}(h:SR κ a₀ lo st)(h1:1<=n)(hn:lo+n<=a₀.size):SR κ a₀ (lo+n) (setPending st ((pendingOf st).push (lo,n,0))):=by
 obtain⟨pd,hq,hr,hl⟩:=h;refine⟨_,⟨hq.perm,hq.kind,hq.failed,rfl⟩,?_,hn⟩;show gJ ((pendingOf st).push (lo,n,0)).toList 0 (lo+n);rw[hq.pend,k7];exact hr.push h1
theorem Ah{st:SortSt}{Q:Unit->SortSt->Prop}(hC:uJ prog w A s κ a₀)(hp:(arrOf st).Perm a₀)(hk:kindOf st=κ)(hf:failedOf st=none)(Yb:pendingOf st=#[])(h:∀a6,(arrOf a6).Perm a₀->failedOf a6=none->Q () a6):wpS (model prog w) A E s sortRuns' Q st:=by
 have h0:SR κ a₀ 0 st:=⟨#[],⟨hp,hk,hf,Yb⟩,rfl,c_ _⟩
 have hsz:(arrOf st).size=a₀.size:=hp.size_eq;rw[sortRuns'_eq];refine aI (fQ ?_);dsimp only;rw[hsz];refine aI (cV (eL (I:=fun _ c a6=>∃lo,c=(none,lo)/\SR κ a₀ lo a6) (Q:=fun c a6=>∃lo,c=(none,lo)/\SR κ a₀ lo a6) ?_ (fun c a6 hh=>hh) ⟨0,rfl,h0⟩) ?_)
 .rintro i c KU _ _ ⟨lo,rfl,hR⟩;dsimp only;by_cases e1:lo>=a₀.size
  .rw[ap e1];exact aO ⟨lo,rfl,hR⟩
  rw[ak e1];have Pp:lo<a₀.size:=by lia
  obtain⟨pd,hq,hr,hl⟩:=hR;refine aI (Ag hC (by lia) (by lia) hq fun n wC Ps n1 n2=>?_);dsimp only;by_cases hm:n<minRun' a₀.size a₀.size 0
  .rw[ap hm];refine aI (jQ (jP ⟨rfl,?_⟩));refine aI (ES hC (by lia) Ps fun wE Mt=>?_);simp only[rC,me,gu];have DX:SR κ a₀ lo wE:=⟨pd,Mt,hr,hl⟩
   refine aI (fQ ?_);cases hb:(pendingOf wE).back? with
   |none=>
    dsimp only;exact aI (fe (aO ⟨_,rfl,DX.push (by lia) (by lia)⟩))
   |some r=>
    obtain⟨s1,Yc,Yd⟩:=r;dsimp only;refine aI (cV (eL (I:=fun _ c a6=>c=(none,())/\SR κ a₀ lo a6) (Q:=fun c a6=>c=(none,())/\SR κ a₀ lo a6) ?_ (fun c a6 hh=>hh) ⟨rfl,DX⟩) ?_)
    .rintro x c pb _ _ ⟨rfl,sO⟩;refine aI (fQ ?_);by_cases hs:(pendingOf pb).size > 1
     .rw[ap hs,cK (pendingOf pb) ((pendingOf pb).size-2) (by lia)];generalize (pendingOf pb)[(pendingOf pb).size-2]=r4;obtain⟨_,_,MZ⟩:=r4;dsimp only;split
      .exact aO ⟨rfl,sO⟩
      .refine aI (iW hC sO (by lia) fun t4 Cm=>?_);simp only[rC,me,gu];exact aO ⟨rfl,Cm⟩
     .rw[ak hs];exact aO ⟨rfl,sO⟩
    .rintro c pb ⟨rfl,sO⟩;dsimp only;exact aI (fe (aI (fe (aO ⟨_,rfl,(sO.pw _ _).push (by lia) (by lia)⟩))))
  .rw[ak hm];have DX:SR κ a₀ lo wC:=⟨pd,Ps,hr,hl⟩
   refine aI (fQ ?_);cases hb:(pendingOf wC).back? with
   |none=>
    dsimp only;exact aI (fe (aO ⟨_,rfl,DX.push (by lia) (by lia)⟩))
   |some r=>
    obtain⟨s1,Yc,Yd⟩:=r;dsimp only;refine aI (cV (eL (I:=fun _ c a6=>c=(none,())/\SR κ a₀ lo a6) (Q:=fun c a6=>c=(none,())/\SR κ a₀ lo a6) ?_ (fun c a6 hh=>hh) ⟨rfl,DX⟩) ?_)
    .rintro x c pb _ _ ⟨rfl,sO⟩;refine aI (fQ ?_);by_cases hs:(pendingOf pb).size > 1
     .rw[ap hs,cK (pendingOf pb) ((pendingOf pb).size-2) (by lia)];generalize (pendingOf pb)[(pendingOf pb).size-2]=r4;obtain⟨_,_,MZ⟩:=r4;dsimp only;split
      .exact aO ⟨rfl,sO⟩
      .refine aI (iW hC sO (by lia) fun t4 Cm=>?_);simp only[rC,me,gu];exact aO ⟨rfl,Cm⟩
     .rw[ak hs];exact aO ⟨rfl,sO⟩
    .rintro c pb ⟨rfl,sO⟩;dsimp only;exact aI (fe (aI (fe (aO ⟨_,rfl,(sO.pw _ _).push (by lia) (by lia)⟩))))
 .rintro c KU ⟨lo,rfl,hR⟩;dsimp only;refine aI (cV (eL (I:=fun _ c a6=>c=(none,())/\SR κ a₀ lo a6) (Q:=fun c a6=>c=(none,())/\SR κ a₀ lo a6) ?_ (fun c a6 hh=>hh) ⟨rfl,hR⟩) ?_)
  .rintro x c pb _ _ ⟨rfl,sO⟩;refine aI (fQ ?_);by_cases hs:(pendingOf pb).size<=1
   .rw[ap hs];exact aO ⟨rfl,sO⟩
   rw[ak hs];refine aI (iW hC sO ?_ fun t4 Cm=>?_)
   .exact iB (Nat.succ_le_succ uR) (show (pendingOf pb).size-2+1<(pendingOf pb).size by lia)
   .simp only[rC,me,gu];exact aO ⟨rfl,Cm⟩
  .rintro c pb ⟨rfl,pd,hq,_⟩;exact aO (h _ hq.perm hq.failed)
end
end PyProof.Rows
namespace L2
open PySem PySem.Spec PyProof.Rows PySem.W
def ic(h:Heap)(vs:List Value):Prop:=∀v∈vs,∃a o n x t y u,v=Value.ref a/\h.get? a=some o/\o.cls=.type "tuple"/\o.data=.seq #[.int x t,.int y u] n
theorem ic.n_{h:Heap}:∀ {vs:List Value},ic h vs->∃fs,KatTups h vs fs/\fs.length=vs.length/\∀v∈fs,∃n t,v=Value.int n t
 |[],_=>⟨[],trivial,rfl,fun v hv=>nomatch hv⟩
 |v::vs,hp=>by
  obtain⟨fs,k1,k2,k3⟩:=ic.n_ (vs:=vs) fun b hb=>hp b (b9 _ hb);obtain⟨a,o,n,x,t,y,u,rfl,e,c,d⟩:=hp v cz;refine⟨.int x t::fs,KatTups.cons e c d rfl k1,by simp[k2],fun v hv=>?_⟩;rcases cn.mp hv with z|z
  .exact⟨x,t,z⟩
  .exact k3 v z
section
variable {prog:Program} {w:World} {A:Around} {E:Value->Shared->Prop} {s:Shared}
theorem Ai{vs:List Value}(hp:ic s.heap vs):uJ prog w A s (tuples' true) (vs.toArray.zip vs.toArray):=by
 have mem:∀x∈(vs.toArray.zip vs.toArray).toList,x.1∈vs:=by
  intro x hx;rw[Array.toList_zip] at hx;exact(nU hx).1
 intro x y hx hy Q E' q;obtain⟨a,o,n,x1,t1,x2,t2,e1,eo,_,ed⟩:=hp x.1 (mem x hx);obtain⟨b,o',n',y1,u1,y2,u2,e2,Ye,_,Yf⟩:=hp y.1 (mem y hy);rw[e1,e2];refine kat_lt eo ed Ye Yf (kat_cons (ww ?_));by_cases h1:x1=y1
 .rw[d5.mpr h1];refine kat_yes (kat_cons (ww ?_));by_cases h2:x2=y2
  .rw[d5.mpr h2];exact kat_yes (kat_nil (q _))
  .rw[jD.mpr h2];exact kat_no (kat_one _ _ (lt_int (q _)))
 .rw[jD.mpr h1];exact kat_no (oneLt_int (q _))
theorem EZ{vs:List Value}:((vs.toArray.zip vs.toArray).map (·.2)).toList=vs:=by
 rw[re,Array.toList_zip];show (vs.zip vs).map (·.2)=vs;rw[<-List.unzip_snd,List.unzip_zip_right (a8 _)]
theorem mH{a:Addr}{vs:List Value}{n:Nat}{P:PySem.Fin->Shared->Prop}(ho:s.heap.get? a=some (seqObj "list" vs.toArray n))(hp:ic s.heap vs)(hz:vs.length<=4096)(h:∀ (out:Array Value),out.toList.Perm vs->P (.done (.ret .none)) { s with heap:=sortedHeap s.heap a vs out }):
  wpAny (model prog w) A (Builtin.«list.sort» ⟨[.ref a],[]⟩) P E s:=by
 rw[list_sort_plain];have ha:a<s.heap.objs.size:=bn ho;have PJ:vs.toArray.size<=sizeLine:=by rw[bS,iL];lia
 refine aS (listItems_at ho rfl ?_);refine aS (listUpdate_at ho rfl ?_ PJ (c_ _));obtain⟨e1,KY⟩:∃e1,(s.heap.update a (Obj.mapSeq fun _=>#[])).get? a=some (seqObj "list" #[] e1):=⟨_,n0 ho (fun _=>#[])⟩
 refine aS (seqEpoch_at KY rfl ?_);refine aS (wpAny_newTuple ?_ (by show vs.length<=_;rw[iL];lia));refine aS (wpAny_newList ?_ (c_ _));refine gi ?_;have G9:(((s.heap.update a (Obj.mapSeq fun _=>#[])).push (seqObj "tuple" vs.toArray 0)).push (seqObj "list" #[] 0)).get? a=some (seqObj "list" #[] e1):=by
  rw[eJ _ _ _ (by rw[fP,fO];exact aZ (cF ha)),eJ _ _ _ (by rw[fO];exact aZ ha)];exact KY
 have VI:ic (((s.heap.update a (Obj.mapSeq fun _=>#[])).push (seqObj "tuple" vs.toArray 0)).push (seqObj "list" #[] 0)) vs:=by
  intro v hv;obtain⟨b,o,n,x,t,y,u,ev,e,c,d⟩:=hp v hv;have hb:b<s.heap.objs.size:=bn e;have t7:b≠a:=by
   rintro rfl;rw[ho] at e;cases e;exact absurd (Value.type.inj c) (by decide)
  refine⟨b,o,n,x,t,y,u,ev,?_,c,d⟩;rw[eJ _ _ _ (by rw[fP,fO];exact aZ (cF hb)),eJ _ _ _ (by rw[fO];exact aZ hb),l_ _ _ _ _ t7];exact e
 show wpAny (model prog w) A _ P E { s with heap:=((s.heap.update a (Obj.mapSeq fun _=>#[])).push (seqObj "tuple" vs.toArray 0)).push (seqObj "list" #[] 0) };dsimp only;have dN:∀a6:SortSt,(arrOf a6).Perm (vs.toArray.zip vs.toArray)->P (.done (.ret .none)) { s with heap:=sortedHeap s.heap a vs ((arrOf a6).map (·.2)) }:=by
  intro a6 PL;refine h _ ?_;have:=(ka.mp PL).map (·.2);rw[<-re,<-re,EZ] at this;exact this
 have VJ:(vs.toArray.zip vs.toArray).size=vs.length:=by simp
 by_cases h2:vs.toArray.size<2
 .rw[ap h2,ap h2];refine aS (wpAny_pure ?_);rw[StateT.run_pure];refine aS (wpAny_pure ?_);dsimp only;refine aS (seqEpoch_at G9 rfl ?_);refine aS (listUpdate_at G9 rfl ?_ (c_ _) (by show ((vs.toArray.zip vs.toArray).map (·.2)).size<=_;rw[g7,VJ,iL];lia));simp only[bne_self_eq_false,me,gu];exact wpAny_pure (dN (SortSt.mk' general' (vs.toArray.zip vs.toArray) #[] 7 none) (Array.Perm.refl _))
 .rw[ak h2,ak h2];have dI:2<=vs.length:=by rw[bS] at h2;lia
  obtain⟨fs,k1,k2,k3⟩:=VI.n_;refine aS (kat_kind (T:=.type "int") k1 (by lia) (fun v hv=>?_) rfl ?_)
  .obtain⟨m,t,rfl⟩:=k3 v hv;exact .now
  refine aS (g9 (Ah (a₀:=vs.toArray.zip vs.toArray) (κ:=tuples' true) (st:=SortSt.mk' (tuples' true) (vs.toArray.zip vs.toArray) #[] 7 none)
   (Q:=fun _ a6=>(arrOf a6).Perm (vs.toArray.zip vs.toArray)/\failedOf a6=none) (Ai VI) (Array.Perm.refl _) rfl rfl rfl fun a6 b1 b2=>⟨b1,b2⟩) ?_ fun _ _ e=>e)
  rintro⟨⟨⟩,a6⟩ s' ⟨rfl,PL,hf⟩;dsimp only;refine aS (seqEpoch_at G9 rfl ?_);refine aS (listUpdate_at G9 rfl ?_ (c_ _) (by refine a7 (nZ ((g7 ..).trans (PL.size_eq.trans VJ))) ?_;rw[iL];lia));rw[hf];simp only[bne_self_eq_false,me,gu];exact wpAny_pure (dN a6 PL)
theorem sQ{l:Addr}{vs:List Value}{Q:Value->Shared->Prop}(hl:s.heap.IsList l vs.toArray)(hp:ic s.heap vs)(hz:vs.length<=4096)(h:∀ (out:Array Value),out.toList.Perm vs->Q (.ref (s.heap.objs.size+1)) { s with heap:=sortedAll s.heap vs out }):
  wpAny (model prog w) A (call (.builtin "sorted") [.ref l]) Q E s:=by
 have PJ:vs.length<=sizeLine:=by rw[iL];lia
 refine Calls.call_function_entry kind_sorted plain_sorted entry_sorted (args_sorted1 _) ?_;unfold Builtin.«sorted»;refine aS (m:=checkCount "sorted" 1 1 _) (wpAny_pure ?_);refine aS (collect_list hl ?_ PJ);refine aS (wpAny_newList ?_ PJ);have hsz:((s.heap.push (seqObj "list" #[] 0)).update s.heap.objs.size (Obj.mapSeq (·++vs.toArray))).objs.size=s.heap.objs.size+1:=by
  rw[fO,fP]
 have AI:(((s.heap.push (seqObj "list" #[] 0)).update s.heap.objs.size (Obj.mapSeq (·++vs.toArray))).push (seqObj "list" vs.toArray 0)).get? (s.heap.objs.size+1)=some (seqObj "list" vs.toArray 0):=by
  rw[<-hsz];exact dG _ rfl
 have KS:ic (((s.heap.push (seqObj "list" #[] 0)).update s.heap.objs.size (Obj.mapSeq (·++vs.toArray))).push (seqObj "list" vs.toArray 0)) vs:=by
  intro v hv;obtain⟨b,o,n,x,t,y,u,ev,e,c,d⟩:=hp v hv;have hb:b<s.heap.objs.size:=bn e;refine⟨b,o,n,x,t,y,u,ev,?_,c,d⟩;rw[eJ _ _ _ (by rw[hsz];exact aZ (cF hb)),l_ _ _ _ _ (aZ hb),eJ _ _ _ (aZ hb)];exact e
 show wpAny _ _ _ _ _ { s with heap:=((s.heap.push (seqObj "list" #[] 0)).update s.heap.objs.size (Obj.mapSeq (·++vs.toArray))).push (seqObj "list" vs.toArray 0) };rw[hsz];refine aS (gi (wpAny_call_entry slot_list_sort ⟨_,AI,rfl⟩ entry_list_sort (mH AI KS hz fun out a1=>⟨_,rfl,?_⟩) (args_list_sort _)));exact wpAny_pure ⟨_,rfl,h out a1⟩
end
theorem kK:∀ {as:List Addr} {its:List Value},aX (as.map V.ref) its->its=as.map Value.ref
 |[],_,r=>by cases r;rfl
 |a::as,_,r=>by
  cases r with
  |cons r rr=>
   obtain rfl:=(show _=Value.ref a from r)
   rw[kK rr];rfl
theorem qw:∀ {as:List Addr},aX (as.map V.ref) (as.map Value.ref)
 |[]=>.nil
 |_::_=>.cons rfl qw
theorem Aj{as:List Addr}{vs:List Value}(h:vs.Perm (as.map Value.ref)):∃uS:List Addr,vs=uS.map Value.ref/\uS.Perm as:=by
 let un:Value->Addr:=fun v=>match v with|.ref a=>a|_=>0
 refine⟨vs.map un,?_,?_⟩
 .rw[du];have:∀v∈vs,(Value.ref ∘ un) v=v:=by
   intro v hv;obtain⟨a,_,rfl⟩:=aW.mp (h.mem_iff.mp hv);rfl
  conv=>lhs;rw[<-iK vs]
  exact fL fun v hv=>(this v hv).symm
 .have:=h.map un;rw[du] at this;have e:as.map (un ∘ Value.ref)=as:=by
   conv=>rhs;rw[<-iK as]
   exact fL fun a _=>rfl
  rw[e] at this;exact this
def xg(K:PySem.W.Frag):List V->Hp->VK->Prop:=fun xs H Q=>∃ (l:Addr) (as:List Addr),xs=[.ref l]/\aQ K H l (as.map V.ref)/\(∀a∈as,∃x y:Int,bZ K H a [.int x,.int y])/\as.length<=4096/\
 ∀ (D:Addr) (uS:List Addr),H D=none->uS.Perm as->Q (.ref D) (upd H D (.lst (uS.map V.ref)))
theorem ie{X:Cx}:eM X (.builtin "sorted") (xg X.K):=by
 intro ae s σ H xs us Q I r h;obtain⟨l,as,rfl,hl,hp,hz,q⟩:=h;obtain⟨u1,rfl,r1⟩:=r.one;obtain rfl:u1=Value.ref l:=r1;obtain⟨its,rv,pl,_⟩:=I.list hl;have B5:=kK rv;subst B5;have Yg:ic s.heap (as.map Value.ref):=by
  intro v hv;obtain⟨a,ha,rfl⟩:=aW.mp hv;obtain⟨x,y,AQ⟩:=hp a ha;obtain⟨its,r,⟨o,e,c,n,d⟩,_⟩:=I.tuple AQ;obtain⟨u1,u2,rfl,r1,r2⟩:=r.two;obtain⟨t,rfl⟩:=r1;obtain⟨t',rfl⟩:=r2;exact⟨a,o,n,x,t,y,t',rfl,e,c,d⟩
 refine sQ pl.isList Yg (by rw[aB];exact hz) fun out M0=>?_;obtain⟨uS,eo,pa⟩:=Aj M0;have z7:out=(uS.map Value.ref).toArray:=by rw[<-eo]
 subst z7;have IJ:((s.heap.push (seqObj "list" #[] 0)).update s.heap.objs.size (Obj.mapSeq (·++(as.map Value.ref).toArray))).objs.size=s.heap.objs.size+1:=by rw[fO,fP]
 have k1:∀b u,s.heap.get? b=some u->(((s.heap.push (seqObj "list" #[] 0)).update s.heap.objs.size (Obj.mapSeq (·++(as.map Value.ref).toArray))).push (seqObj "list" (as.map Value.ref).toArray 0)).get? b=some u:=fun b u e=>by
  have hb:b<s.heap.objs.size:=bn e;rw[eJ _ _ _ (by rw[IJ];exact aZ (cF hb)),l_ _ _ _ _ (aZ hb),eJ _ _ _ (aZ hb)];exact e
 have AI:(((s.heap.push (seqObj "list" #[] 0)).update s.heap.objs.size (Obj.mapSeq (·++(as.map Value.ref).toArray))).push (seqObj "list" (as.map Value.ref).toArray 0)).get? (s.heap.objs.size+1)=some (seqObj "list" (as.map Value.ref).toArray 0):=by
  rw[<-IJ];exact dG _ rfl
 have Ak:(((s.heap.push (seqObj "list" #[] 0)).update s.heap.objs.size (Obj.mapSeq (·++(as.map Value.ref).toArray))).push (seqObj "list" (as.map Value.ref).toArray 0)).objs.size=s.heap.objs.size+2:=by rw[fP,IJ]
 show EP X ae σ Q (.ref (s.heap.objs.size+1)) { s with heap:=sortedHeap (((s.heap.push (seqObj "list" #[] 0)).update s.heap.objs.size (Obj.mapSeq (·++(as.map Value.ref).toArray))).push (seqObj "list" (as.map Value.ref).toArray 0)) (s.heap.objs.size+1) (as.map Value.ref) (uS.map Value.ref).toArray };revert k1 AI Ak;generalize ((s.heap.push (seqObj "list" #[] 0)).update s.heap.objs.size (Obj.mapSeq (·++(as.map Value.ref).toArray))).push (seqObj "list" (as.map Value.ref).toArray 0)=h1;intro k1 AI Ak;obtain⟨e1,KY⟩:∃e1,(h1.update (s.heap.objs.size+1) (Obj.mapSeq fun _=>(#[]:Array Value))).get? (s.heap.objs.size+1)=some (seqObj "list" #[] e1):=⟨_,n0 AI (fun _=>#[])⟩
 have G9:(((h1.update (s.heap.objs.size+1) (Obj.mapSeq fun _=>(#[]:Array Value))).push (seqObj "tuple" (as.map Value.ref).toArray 0)).push (seqObj "list" #[] 0)).get? (s.heap.objs.size+1)=some (seqObj "list" #[] e1):=by
  rw[eJ _ _ _ (by rw[fP,fO,Ak];exact aZ (cF (ki _))),eJ _ _ _ (by rw[fO,Ak];exact aZ (ki _))];exact KY
 obtain⟨e2,Yh⟩:∃e2,(sortedHeap h1 (s.heap.objs.size+1) (as.map Value.ref) (uS.map Value.ref).toArray).get? (s.heap.objs.size+1)=some (seqObj "list" (uS.map Value.ref).toArray e2):=⟨_,n0 G9 (fun _=>(uS.map Value.ref).toArray)⟩
 have keep:∀b u,s.heap.get? b=some u->(sortedHeap h1 (s.heap.objs.size+1) (as.map Value.ref) (uS.map Value.ref).toArray).get? b=some u:=fun b u e=>by
  have hb:b<s.heap.objs.size:=bn e;unfold sortedHeap;rw[l_ _ _ _ _ (aZ (cF hb)),eJ _ _ _ (by rw[fP,fO,Ak];exact aZ (cF (cF (cF hb)))),eJ _ _ _ (by rw[fO,Ak];exact aZ (cF (cF hb))),l_ _ _ _ _ (aZ (cF hb))];exact k1 b u e
 have uT:s.heap.get? (s.heap.objs.size+1)=none:=nK (by lia);refine⟨.ref (s.heap.objs.size+1),_,I.yd (t':=s.toks) (o:=.lst (uS.map V.ref)) keep uT ⟨?_,uS.map Value.ref,e2,qw,Yh⟩,rfl,q _ uS (I.ck.oo uT) pa⟩;rw[aB,pa.length_eq];exact a7 hz (by decide)
open PySem PySem.Spec PyProof.Rows
section
variable {prog:Program} {w:World} {A:Around} {E:Value->Shared->Prop} {s:Shared}
end
section
variable {X:Cx}
theorem xh(rx:aX xs us)(ry:aX ys vs)(fx:xs.all dX=true)(fy:ys.all dX=true):
  ∀j (h1:j<us.toArray.size) (h2:j<vs.toArray.size),SeqAt.EqAt A s us.toArray[j] vs.toArray[j] (j_ (xs.getD j .bw) (ys.getD j .bw)):=by
 intro j h1 h2;have j1:j<xs.length:=by rw[rx.length];simpa using h1
 have j2:j<ys.length:=by rw[ry.length];simpa using h2
 have e1:xs[j]?=some (xs.getD j .bw):=by rw[bh,bD j1];rfl
 have e2:ys[j]?=some (ys.getD j .bw):=by rw[bh,bD j2];rfl
 obtain⟨u,DW,ru⟩:=rx.get e1;obtain⟨v,MC,rv⟩:=ry.get e2;have eu:us.toArray[j]=u:=by
  have:us[j]?=some us.toArray[j]:=by simp at h1 |-
  rw[DW] at this;exact(bE this).symm
 have ev:vs.toArray[j]=v:=by
  have:vs[j]?=some vs.toArray[j]:=by simp at h2 |-
  rw[MC] at this;exact(bE this).symm
 rw[eu,ev];exact r9 ru rv (iD.mp fx _ (cE e1)) (iD.mp fy _ (cE e2))
theorem Cn(I:aM X ae σ H s)(hu:A.units+1<cLine)(ha:bZ X.K H a xs)(hb:bZ X.K H b ys)(hl:xs.length=ys.length)(fx:xs.all dX=true)(fy:ys.all dX=true):
  SeqAt.EqAt A s (.ref a) (.ref b) (gk j_ xs ys):=by
 by_cases ml:a=b
 .subst ml;have e1:=I.i9 ha hb;subst e1;have e2:gk j_ xs xs=true:=by
   clear ha hb hl fy;induction xs with
   |nil=>rfl
   |cons x xs ih=>
    rw[iI,gg] at fx;rw[gk,ih fx.2,Bool.and_true];cases x <;> first|rfl|(show (_==_)=true;simp)|exact absurd (show false=true from fx.1) cm
  rw[e2];exact rB _
 .obtain⟨us,r1,p1,_⟩:=I.tuple ha;obtain⟨vs,r2,p2,_⟩:=I.tuple hb;have h:=SeqAt.RcAt.tuples (A:=A) (s:=s) (l:=a) (b:=b) (e:=fun i=>j_ (xs.getD i .bw) (ys.getD i .bw)) (show s.heap.IsTuple a us.toArray from p1) (show s.heap.IsTuple b vs.toArray from p2) (by lia)
   (xh r1 r2 fx fy)
  refine wr ml ?_;have er:((List.range (min us.toArray.size vs.toArray.size)).all (fun i=>j_ (xs.getD i .bw) (ys.getD i .bw))&&us.toArray.size==vs.toArray.size)=gk j_ xs ys:=by
   rw[bS,bS,<-r1.length,<-r2.length,<-hl,Nat.min_self,beq_self_eq_true,Bool.and_true,gm hl]
  rw[er] at h;exact h
theorem xi{p q:Int×Int}:gk j_ [.int p.1,.int p.2] [.int q.1,.int q.2]=decide (p=q):=by
 obtain⟨a,b⟩:=p;obtain⟨c,d⟩:=q;show ((a==c)&&((b==d)&&true))=decide ((a,b)=(c,d));by_cases h1:a=c <;> by_cases h2:b=d <;> simp[h1,h2]
def Co(K:PySem.W.Frag)(AL:Bool):R2:=fun x y H Q=>∃ (p l:Addr) (u:Int×Int) (as:List Addr) (ps:List (Int×Int)),x=.ref p/\y=.ref l/\bZ K H p [.int u.1,.int u.2]/\aQ K H l (as.map V.ref)/\as.length=ps.length/\(∀i,i<ps.length->bZ K H (as.getD i 0) [.int (ps.getD i (0,0)).1,.int (ps.getD i (0,0)).2])/\
 Q (.bl (if AL then !decide (u∈ps) else decide (u∈ps))) H
open Classical in
theorem sS(I:aM X ae σ H s):∀ {as:List Addr} {ps:List (Int×Int)},as.length=ps.length->(∀i,i<ps.length->bZ X.K H (as.getD i 0) [.int (ps.getD i (0,0)).1,.int (ps.getD i (0,0)).2])->
  ((as.map Value.ref).any fun v=>decide (∃a,v=Value.ref a/\bZ X.K H a [.int u.1,.int u.2]))=decide (u∈ps)
 |[],[],_,_=>by simp
 |a::as,p::ps,hl,h=>by
  have ih:=sS I (u:=u) (as:=as) (ps:=ps) (by simpa using hl) (fun i hi=>h (i+1) (by simpa using hi));have h0:bZ X.K H a [.int p.1,.int p.2]:=h 0 (by simp);rw[cS,iH,ih];have e:decide (∃b,Value.ref a=Value.ref b/\bZ X.K H b [.int u.1,.int u.2])=decide (u=p):=by
   rw[gZ,q9,q9];constructor
   .rintro⟨b,e,hb⟩;cases e;have:=I.i9 h0 hb;have e1:p.1=u.1:=V.int.inj (lc this).1;have e2:p.2=u.2:=V.int.inj (lc (lc this).2).1;exact dE e1.symm e2.symm
   .rintro rfl;exact⟨a,rfl,h0⟩
  rw[e];by_cases z:u=p
  .simp[z]
  .simp[z]
open Classical in
theorem uU{ae:List (Addr×Obj)}{σ:St}{H:Hp}{s:Shared}{A:Around}(I:aM X ae σ H s)(hu:A.units+1<cLine){p:Addr}{u:Int×Int}(hp:bZ X.K H p [.int u.1,.int u.2]){as:List Addr}{ps:List (Int×Int)}(hl:as.length=ps.length)(h:∀i,i<ps.length->bZ X.K H (as.getD i 0) [.int (ps.getD i (0,0)).1,.int (ps.getD i (0,0)).2]):∀v∈as.map Value.ref,SeqAt.EqAt A s v (.ref p) (decide (∃a,v=Value.ref a/\bZ X.K H a [.int u.1,.int u.2])):=by
 intro v hv;obtain⟨a,ha,rfl⟩:=aW.mp hv;obtain⟨i,hi,e⟩:=k4.mp ha;have hq:=h i (by lia);have ea:as.getD i 0=a:=by rw[bh,bD hi];exact e
 rw[ea] at hq;have z:=Cn (A:=A) I hu hq hp rfl rfl rfl;rw[xi] at z;have e:decide (∃b,Value.ref a=Value.ref b/\bZ X.K H b [.int u.1,.int u.2])=decide (ps.getD i (0,0)=u):=by
  rw[gZ,q9,q9];constructor
  .rintro⟨b,e,hb⟩;cases e;have:=I.i9 hq hb;exact dE (V.int.inj (lc this).1) (V.int.inj (lc (lc this).2).1)
  .intro e;rw[<-e];exact⟨a,rfl,hq⟩
 rw[e];exact z
open Classical in
theorem IK(hu:X.A.units+2<cLine):jx X (compareOp .In) (Co X.K false):=by
 intro ae s σ H x y v u Q I rx ry h;obtain⟨p,l,w,as,ps,rfl,rfl,hp,hl,dI,M1,q⟩:=h;obtain rfl:v=Value.ref p:=rx;obtain rfl:u=Value.ref l:=ry;obtain⟨its,r,pl,_⟩:=I.list hl;have e:=kK r;subst e;refine SeqAt.in_listAt (fun v=>decide (∃a,v=Value.ref a/\bZ X.K H a [.int w.1,.int w.2])) pl.isList (fun y hy=>uU I (by show X.A.units+1+1<cLine;lia) hp dI M1 y (by simpa using hy)) ⟨.bl _,H,I,rfl,?_⟩;rw[show (as.map Value.ref).toArray.any (fun v=>decide (∃a,v=Value.ref a/\bZ X.K H a [.int w.1,.int w.2]))=(as.map Value.ref).any (fun v=>decide (∃a,v=Value.ref a/\bZ X.K H a [.int w.1,.int w.2])) by simp,sS I dI M1];exact q
open Classical in
theorem qx(hu:X.A.units+2<cLine):jx X (compareOp .NotIn) (Co X.K true):=by
 intro ae s σ H x y v u Q I rx ry h;obtain⟨p,l,w,as,ps,rfl,rfl,hp,hl,dI,M1,q⟩:=h;obtain rfl:v=Value.ref p:=rx;obtain rfl:u=Value.ref l:=ry;obtain⟨its,r,pl,_⟩:=I.list hl;have e:=kK r;subst e;refine SeqAt.notIn_listAt (fun v=>decide (∃a,v=Value.ref a/\bZ X.K H a [.int w.1,.int w.2])) pl.isList (fun y hy=>uU I (by show X.A.units+1+1<cLine;lia) hp dI M1 y (by simpa using hy)) ⟨.bl _,H,I,rfl,?_⟩;rw[show (as.map Value.ref).toArray.any (fun v=>decide (∃a,v=Value.ref a/\bZ X.K H a [.int w.1,.int w.2]))=(as.map Value.ref).any (fun v=>decide (∃a,v=Value.ref a/\bZ X.K H a [.int w.1,.int w.2])) by simp,sS I dI M1];exact q
def M2(K:PySem.W.Frag)(t:HU):TG:=fun v σ H Q=>∃a x y,v=.ref a/\aQ K H a [x,y]/\t [x,y] σ H Q
theorem E2{es:List Expr}{k:Nat}{t:HU}{pos:Pos}(hc:X.calm=true)(h:LM X es t)(hn:(assignEach es X.env).length=2:=by rfl)(jT:(assignEach es X.env).findIdx? (·.1)=none:=by rfl):PG X (.Tuple es k pos) (M2 X.K t):=by
 intro ae s σ H v u Q I r hw;obtain⟨a,x,y,e1,hq,hw⟩:=hw;subst e1;cases r;obtain⟨its,rv,ht,hz⟩:=I.list hq;obtain⟨u1,u2,rfl,r1,r2⟩:=rv.two;have fw:a≠s.heap.objs.size:=by
  obtain⟨o,ho,_⟩:=ht.isList;exact aZ (bn ho)
 rw[assign_Tuple];refine aS (jM ?_);unfold unpack;rw[hn,jT];refine aS (gi ?_);unfold unpackItems;refine aS ?_;unfold notIterableAtAll;refine aS (wpAny_specialOf ht.isList.typeIs slot_list_iter.lookup (wpAny_pure ?_));simp only[me,gu];refine aS (gi (nR ht.isList ?_));have j3:(s.heap.push { cls:=.type "list_iterator",data:=.fields #[.ref a,.int 0 0] }).IsList a [u1,u2].toArray:=ht.isList.push _;refine aS (gi ?_);change wpAny _ _ (pyNext (.ref s.heap.objs.size) >>= _) _ _ _;refine aS (q8 (it:=s.heap.objs.size) (l:=a) (i:=0) (s:={ s with heap:=s.heap.push { cls:=.type "list_iterator",data:=.fields #[.ref a,.int 0 0] } }) ⟨_,dG _ rfl,rfl,rfl⟩ j3 (x:=u1) rfl fun h1 Yi BQ=>?_);refine aS (gi ?_);change wpAny _ _ (pyNext (.ref s.heap.objs.size) >>= _) _ _ _;have uV:h1.IsList a [u1,u2].toArray:=j3.extBut BQ.extBut fw;refine aS (q8 (s:={ s with heap:=h1 }) Yi uV (x:=u2) rfl fun h2 Yj Ez=>?_);have KZ:h2.IsList a [u1,u2].toArray:=uV.extBut Ez.extBut fw;refine aS (gi (wpAny_pure (wpAny_pure (wpAny_pure ?_))));rw[ak (by simp)];refine aS (gi (vZ (s:={ s with heap:=h2 }) (I.ok.hd hc) Yj KZ rfl fun h3 Yk=>?_));simp only[Option.isSome_none,me,gu];refine wpAny_pure ?_;have I1:aM X ae σ H { s with heap:=h3 }:=I.kept (t':=s.toks) fun b o e=>by
  have nb:b≠s.heap.objs.size:=aZ (bn e);exact Yk b o nb (Ez.extBut b o nb (BQ.extBut b o nb (cw _ e)))
 exact h ae _ σ H [x,y] _ Q I1 (.cons r1 (.cons r2 .nil)) hw
end
theorem uW{h:Heap}{vs:List Value}{out:Array Value}:(∃e,(sortedAll h vs out).get? (h.objs.size+1)=some (seqObj "list" out e))/\∀b u,h.get? b=some u->(sortedAll h vs out).get? b=some u:=by
 have IJ:((h.push (seqObj "list" #[] 0)).update h.objs.size (Obj.mapSeq (·++vs.toArray))).objs.size=h.objs.size+1:=by rw[fO,fP]
 have k1:∀b u,h.get? b=some u->(((h.push (seqObj "list" #[] 0)).update h.objs.size (Obj.mapSeq (·++vs.toArray))).push (seqObj "list" vs.toArray 0)).get? b=some u:=fun b u e=>by
  have hb:b<h.objs.size:=bn e;rw[eJ _ _ _ (by rw[IJ];exact aZ (cF hb)),l_ _ _ _ _ (aZ hb),eJ _ _ _ (aZ hb)];exact e
 have AI:(((h.push (seqObj "list" #[] 0)).update h.objs.size (Obj.mapSeq (·++vs.toArray))).push (seqObj "list" vs.toArray 0)).get? (h.objs.size+1)=some (seqObj "list" vs.toArray 0):=by
  rw[<-IJ];exact dG _ rfl
 have Ak:(((h.push (seqObj "list" #[] 0)).update h.objs.size (Obj.mapSeq (·++vs.toArray))).push (seqObj "list" vs.toArray 0)).objs.size=h.objs.size+2:=by rw[fP,IJ]
 unfold sortedAll;revert k1 AI Ak;generalize ((h.push (seqObj "list" #[] 0)).update h.objs.size (Obj.mapSeq (·++vs.toArray))).push (seqObj "list" vs.toArray 0)=h1;intro k1 AI Ak;obtain⟨e1,KY⟩:∃e1,(h1.update (h.objs.size+1) (Obj.mapSeq fun _=>(#[]:Array Value))).get? (h.objs.size+1)=some (seqObj "list" #[] e1):=⟨_,n0 AI (fun _=>#[])⟩
 have G9:(((h1.update (h.objs.size+1) (Obj.mapSeq fun _=>(#[]:Array Value))).push (seqObj "tuple" vs.toArray 0)).push (seqObj "list" #[] 0)).get? (h.objs.size+1)=some (seqObj "list" #[] e1):=by
  rw[eJ _ _ _ (by rw[fP,fO,Ak];exact aZ (cF (ki _))),eJ _ _ _ (by rw[fO,Ak];exact aZ (ki _))];exact KY
 refine⟨⟨_,n0 G9 (fun _=>out)⟩,fun b u e=>?_⟩;have hb:b<h.objs.size:=bn e;unfold sortedHeap;rw[l_ _ _ _ _ (aZ (cF hb)),eJ _ _ _ (by rw[fP,fO,Ak];exact aZ (cF (cF (cF hb)))),eJ _ _ _ (by rw[fO,Ak];exact aZ (cF (cF hb))),l_ _ _ _ _ (aZ (cF hb))];exact k1 b u e
def IL(K:PySem.W.Frag):List V->Hp->VK->Prop:=fun xs H Q=>∃ (l:Addr) (ns:List Int),xs=[.ref l]/\aQ K H l (ns.map V.int)/\ns.length<64/\∀ (D:Addr) (Al:List Int),H D=none->Al.Perm ns->Q (.ref D) (upd H D (.lst (Al.map V.int)))
theorem oH{X:Cx}:eM X (.builtin "sorted") (IL X.K):=by
 intro ae s σ H xs us Q I r h;obtain⟨l,ns,rfl,hl,MH,q⟩:=h;obtain⟨u1,rfl,r1⟩:=r.one;obtain rfl:u1=Value.ref l:=r1;obtain⟨its,rv,pl,_⟩:=I.list hl;have ia:=wN rv;refine sorted_ints pl.isList ia (by rw[ia.length];exact MH) fun out Al a1 a2 _=>?_;obtain⟨⟨e,ho⟩,keep⟩:=uW (h:=s.heap) (vs:=its) (out:=out);have uT:s.heap.get? (s.heap.objs.size+1)=none:=nK (rJ _);have eo:out=out.toList.toArray:=by simp
 refine⟨.ref (s.heap.objs.size+1),_,I.yd (t':=s.toks) (o:=.lst (Al.map V.int)) keep uT ⟨?_,out.toList,e,lC a1,by rw[ho]⟩,rfl,q _ Al (I.ck.oo uT) a2⟩;rw[aB,a2.length_eq];exact a7 (iJ MH) (by decide)
end L2
namespace oI
abbrev Ts:=List (Int×Int)
def T(ts:Ts)(a b:Nat):Prop:=(((a:Nat):Int),((b:Nat):Int))∈ts
instance (ts:Ts) (a b:Nat):Decidable (T ts a b):=inferInstanceAs (Decidable (_∈_))
def cC(ts:Ts):Nat->Nat->Nat->Prop
 |0,a,b=>a=b
 |k+1,a,b=>∃c,cC ts k a c/\T ts c b
theorem cC.trans(h:cC ts k a b):∀ {l:Nat} {c:Nat},cC ts l b c->cC ts (k+l) a c
 |0,_,e=>by cases e;exact h
 |l+1,_,⟨d,w,t⟩=>⟨d,h.trans w,t⟩
theorem cC.one(h:T ts a b):cC ts 1 a b:=⟨a,rfl,h⟩
theorem cC.cons(h:T ts a b)(w:cC ts k b c):cC ts (k+1) a c:=by
 have:=(cC.one h).trans w;rwa [Nat.add_comm] at this
def kL(ts:Ts)(a b d:Nat):Prop:=cC ts d a b/\∀k,cC ts k a b->d<=k
theorem kL.uniq(h:kL ts a b d)(g:kL ts a b e):d=e:=Nat.le_antisymm (h.2 _ g.1) (g.2 _ h.1)
theorem IM{ts:Ts}{a b:Nat}:∀k,cC ts k a b->∃d,kL ts a b d:=by
 intro k;induction k using Nat.strongRecOn with
 |ind k ih=>
  intro w;by_cases h:∃j,j<k/\cC ts j a b
  .obtain⟨j,hj,wj⟩:=h;exact ih j hj wj
  .exact⟨k,w,fun j wj=>jn fun z=>h ⟨j,by lia,wj⟩⟩
open Classical in
noncomputable def far(ts:Ts)(a b:Nat):Nat:=if h:∃d,kL ts a b d then h.choose else 0
theorem xj(h:kL ts a b d):far ts a b=d:=by
 unfold far;have hx:∃d,kL ts a b d:=⟨d,h⟩
 rw[dif_pos hx];exact hx.choose_spec.uniq h
theorem IN{ts:Ts}{a b k:Nat}(w:cC ts k a b):kL ts a b (far ts a b):=by
 obtain⟨d,h⟩:=IM k w;rw[xj h];exact h
structure bL(n:Nat)(ts:Ts):Prop where
 n1:2<=n
 n2:n<=32
 nd:ts.Nodup
 rg:∀t∈ts,(0<=t.1/\t.1<n)/\(0<=t.2/\t.2<n)
 ne:∀t∈ts,t.1≠t.2
 uX:∀h:Int,(ts.filter fun t=>decide (t.1=h)).length=(ts.filter fun t=>decide (t.2=h)).length
 most:∀h:Int,(ts.filter fun t=>decide (t.1=h)).length<=8
 con:∀a b,a<n->b<n->∃k,cC ts k a b
theorem Am(f:α->Int):∀ (l:List α) (n:Nat),(∀x∈l,0<=f x/\f x<n)->(∀h:Int,(l.filter fun t=>decide (f t=h)).length<=8)->l.length<=8*n:=by
 intro l n;induction n generalizing l with
 |zero=>
  intro h _;cases l with
  |nil=>simp
  |cons x xs=>have:=h x cz;lia
 |succ n ih=>
  intro h h8;have e:l.length=(l.filter fun t=>decide (f t=(n:Int))).length+(l.filter fun t=>!decide (f t=(n:Int))).length:=by
   induction l with
   |nil=>rfl
   |cons x xs Yl=>
    have:=Yl (fun y hy=>h y (b9 _ hy)) (fun hh=>a7 (by rw[eK];split <;> simp) (h8 hh));by_cases q:f x=(n:Int) <;> simp[eK,q] <;> lia
  have i2:=ih (l.filter fun t=>!decide (f t=(n:Int))) (fun x hx=>by
   have a:=h x (cY.mp hx |>.1);have b:=(cY.mp hx).2;simp at b;lia) (fun hh=>by
   refine a7 ?_ (h8 hh);exact(vX.filter _).length_le)
  have:=h8 (n:Int);lia
theorem bL.len(F:bL n ts):ts.length<=256:=by
 have:=Am (·.1) ts n (fun t ht=>(F.rg t ht).1) F.most;have:=F.n2;lia
theorem bL.VL(F:bL n ts)(h:T ts a b):a<n/\b<n/\a≠b:=by
 have q:=F.rg _ h;have q2:=F.ne _ h;refine⟨by have:=q.1;simp at this;lia,by have:=q.2;simp at this;lia,fun e=>q2 (by rw[e])⟩
theorem bL.R4{n:Nat}{ts:Ts}(F:bL n ts){a b:Nat}(ha:a<n)(hb:b<n):kL ts a b (far ts a b):=
 let ⟨_,w⟩:=F.con a b ha hb;IN w
def ig(n:Nat)(ts:Ts)(h:Nat):List Nat:=((List.range n).map fun s=>(h+s) % n).filter fun o=>decide (T ts h o)
theorem iX(F:bL n ts)(hh:h<n):o∈ig n ts h↔T ts h o:=by
 unfold ig;rw[cY,ra];refine⟨fun z=>z.2,fun z=>⟨?_,z⟩⟩;obtain⟨_,h2,_⟩:=F.VL z;refine aW.mpr ⟨if h<=o then o-h else o+n-h,bG.mpr (by split <;> lia),?_⟩;split
 .rw[show h+(o-h)=o by lia,jG h2]
 .rw[show h+(o+n-h)=o+n by lia,Nat.add_mod_right,jG h2]
theorem E3(F:bL n ts)(hh:h<n)(ho:o∈ig n ts h):o<n:=(F.VL ((iX F hh).mp ho)).2.1
def key(n h o:Nat):Int:=((o:Int)-(h:Int)) % (n:Int)
theorem jX(hh:h<n)(hs:s<n):key n h ((h+s) % n)=(s:Int):=by
 unfold key;by_cases c:h+s<n
 .rw[jG c,show (((h+s:Nat):Int)-(h:Int))=(s:Int) by lia];exact wg (by lia) (by lia)
 .have e:(h+s) % n=h+s-n:=by
   rw[Nat.mod_eq_sub_mod (by lia),jG (by lia)]
  rw[e,show ((((h+s-n:Nat)):Int)-(h:Int))=(s:Int)-(n:Int) by lia,Int.sub_emod_right];exact wg (by lia) (by lia)
theorem uY(hh:h<n):(ig n ts h).Pairwise fun a b=>key n h a<key n h b:=by
 unfold ig;refine List.Pairwise.filter _ ?_;refine jp.mpr ?_;refine List.Pairwise.imp_of_mem ?_ (List.pairwise_lt_range (n:=n));intro a b ha hb ml;rw[jX hh (bG.mp ha),jX hh (bG.mp hb)];lia
theorem mm{α:Type}{k:α->Int}:∀ {a b:List α},a.Pairwise (fun x y=>k x<k y)->b.Pairwise (fun x y=>k x<k y)->(∀x,x∈a↔x∈b)->a=b
 |[],[],_,_,_=>rfl
 |[],y::ys,_,_,h=>absurd ((h y).mpr cz) (by simp)
 |x::xs,[],_,_,h=>absurd ((h x).mp cz) (by simp)
 |x::xs,y::ys,ha,hb,h=>by
  obtain⟨a1,a2⟩:=List.pairwise_cons.mp ha;obtain⟨b1,b2⟩:=List.pairwise_cons.mp hb;have e:x=y:=by
   rcases cn.mp ((h x).mp cz) with z|z
   .exact z
   .rcases cn.mp ((h y).mpr cz) with z'|z'
    .exact z'.symm
    .have q1:=b1 x z;have q2:=a1 y z';lia
  subst e;refine congrArg (x::·) (mm a2 b2 fun z=>⟨fun hz=>?_,fun hz=>?_⟩)
  .rcases cn.mp ((h z).mp (b9 _ hz)) with q|q
   .subst q;exact absurd (a1 _ hz) (by lia)
   .exact q
  .rcases cn.mp ((h z).mpr (b9 _ hz)) with q|q
   .subst q;exact absurd (b1 _ hz) (by lia)
   .exact q
structure vF(n:Nat)(ts:Ts)(s i:Nat)(R:List Nat)(f:Nat->Nat):Prop where
 nd:R.Nodup
 lt:∀x∈R,x<n
 st:s∈R
 z:f s=0
 wk:∀x∈R,cC ts (f x) s x
 up:R.Pairwise fun a b=>f a<=f b
 bd:∀u,R[i]?=some u->∀x∈R,f x<=f u+1
 cl:∀j u,j<i->R[j]?=some u->∀v,T ts u v->v∈R/\f v<=f u+1
theorem vF.start(hs:s<n):vF n ts s 0 [s] (fun _=>0):=
 ⟨by simp,fun x hx=>by simp at hx;lia,by simp,rfl,fun x hx=>by simp at hx;subst hx;rfl,by simp,fun u _ x _=>by lia,fun j u h=>absurd h (by lia)⟩
def put(f:Nat->Nat)(v k:Nat):Nat->Nat:=fun y=>if y=v then k else f y
theorem fW:put f v k v=k:=by simp[put]
theorem dR(h:x≠v):put f v k x=f x:=by simp[put,h]
theorem vF.add(B:vF n ts s i R f)(hu:R[i]?=some u)(hv:v<n)(t:T ts u v)(hn:v∉R):vF n ts s i (R++[v]) (put f v (f u+1)):=by
 have VM:u∈R:=cE hu;have nv:∀x∈R,x≠v:=fun x hx e=>hn (e ▸ hx);have hi:i<R.length:=(cD.mp hu).1;refine⟨?_,fun x hx=>?_,gc _ B.st,by rw[dR (nv s B.st)];exact B.z,fun x hx=>?_,?_,fun w hw x hx=>?_,fun j w hj hw x hx=>?_⟩
 .rw[iC];exact⟨B.nd,by simp,fun a ha b hb e=>by simp at hb;subst hb;exact hn (e ▸ ha)⟩
 .rcases bg.mp hx with z|z
  .exact B.lt x z
  .simp at z;lia
 .rcases bg.mp hx with z|z
  .rw[dR (nv x z)];exact B.wk x z
  .simp at z;subst z;rw[fW];exact⟨u,B.wk u VM,t⟩
 .rw[List.pairwise_append];refine⟨B.up.imp_of_mem fun {a b} ha hb h=>by rw[dR (nv a ha),dR (nv b hb)];exact h,by simp,fun a ha b hb=>?_⟩;simp at hb;subst hb;rw[dR (nv a ha),fW];exact B.bd u hu a ha
 .have Ym:w=u:=by
   rw[kd hi,hu] at hw;exact(bE hw).symm
  subst Ym;rw[dR (nv w VM)];rcases bg.mp hx with z|z
  .rw[dR (nv x z)];exact B.bd w hu x z
  .simp at z;subst z;rw[fW];exact a8 _
 .rw[kd (by lia)] at hw;obtain⟨a,b⟩:=B.cl j w hj hw x hx;refine⟨gc _ a,?_⟩;rw[dR (nv x a),dR (nv w (cE hw))];exact b
theorem vF.next(B:vF n ts s i R f)(hu:R[i]?=some u)(h:∀v,T ts u v->v∈R/\f v<=f u+1):vF n ts s (i+1) R f:=by
 refine⟨B.nd,B.lt,B.st,B.z,B.wk,B.up,fun w hw x hx=>?_,fun j w hj hw v hv=>?_⟩
 .have h1:=B.bd u hu x hx;have h2:f u<=f w:=by
   have hi:i<R.length:=(cD.mp hu).1;have AO:i+1<R.length:=(cD.mp hw).1;have:=A7.mp B.up i (i+1) hi AO (by lia);rw[bD hi] at hu;rw[bD AO] at hw;rw[bE hu,bE hw] at this;exact this
  lia
 .by_cases e:j=i
  .subst e;rw[hu] at hw;cases hw;exact h v hv
  .exact B.cl j w (by lia) hw v hv
theorem dC:∀ {n:Nat} {R:List Nat},R.Nodup->(∀x∈R,x<n)->R.length<=n:=by
 intro n R hn hl;have key:∀ (a b:List Nat),a.Nodup->(∀x∈a,x∈b)->a.length<=b.length:=by
  intro a;induction a with
  |nil=>intro b _ _;exact c_ _
  |cons x xs ih=>
   intro b hn hs;obtain⟨h1,h2⟩:=cX.mp hn;have hx:x∈b:=hs x cz;have:=ih (b.erase x) h2 fun y hy=>(vS (fun (e:y=x)=>h1 (e ▸ hy))).mpr (hs y (b9 _ hy));rw[A9 hx] at this;have:0<b.length:=qT hx;rw[dk];lia
 have:=key R (List.range n) hn fun x hx=>bG.mpr (hl x hx);rwa [cG] at this
theorem vF.done(B:vF n ts s i R f)(F:bL n ts)(hi:R.length<=i)(hx:x<n):x∈R/\f x=far ts s x:=by
 have cl:∀u∈R,∀v,T ts u v->v∈R/\f v<=f u+1:=fun u hu v hv=>by
  obtain⟨j,hj,e⟩:=k4.mp hu;exact B.cl j u (by lia) (by rw[bD hj,e]) v hv
 have walk:∀k x,cC ts k s x->x∈R/\f x<=k:=by
  intro k;induction k with
  |zero=>intro x e;cases e;exact⟨B.st,by rw[B.z];exact a8 _⟩
  |succ k ih=>
   rintro x ⟨c,w,t⟩;obtain⟨c1,c2⟩:=ih c w;obtain⟨d1,d2⟩:=cl c c1 x t;exact⟨d1,by lia⟩
 obtain⟨k,w⟩:=F.con s x (B.lt s B.st) hx;obtain⟨m,_⟩:=walk k x w;exact⟨m,(xj ⟨B.wk x m,fun k w=>(walk k x w).2⟩).symm⟩
theorem cC.mono(h:∀t∈ts,t∈R5):∀ {k a b:Nat},cC ts k a b->cC R5 k a b
 |0,_,_,e=>e
 |_+1,_,_,⟨c,w,t⟩=>⟨c,w.mono h,h _ t⟩
structure vG(n:Nat)(ts:Ts):Prop where
 nd:ts.Nodup
 rg:∀t∈ts,(0<=t.1/\t.1<n)/\(0<=t.2/\t.2<n)
 ne:∀t∈ts,t.1≠t.2
 uX:∀h:Int,(ts.filter fun t=>decide (t.1=h)).length=(ts.filter fun t=>decide (t.2=h)).length
 most:∀h:Int,(ts.filter fun t=>decide (t.1=h)).length<=8
theorem bL.pre(F:bL n ts):vG n ts:=⟨F.nd,F.rg,F.ne,F.uX,F.most⟩
theorem vG.j4(P:vG n ts)(n1:2<=n)(n2:n<=32)(c:∀a b,a<n->b<n->∃k,cC ts k a b):bL n ts:=⟨n1,n2,P.nd,P.rg,P.ne,P.uX,P.most,c⟩
theorem bL.perm(F:bL n ts)(p:R5.Perm ts):bL n R5:=
  ⟨F.n1,F.n2,p.nodup_iff.mpr F.nd,fun t ht=>F.rg t (p.mem_iff.mp ht),fun t ht=>F.ne t (p.mem_iff.mp ht),fun h=>by rw[(p.filter _).length_eq,(p.filter _).length_eq];exact F.uX h,
   fun h=>by rw[(p.filter _).length_eq];exact F.most h,fun a b ha hb=>let ⟨k,w⟩:=F.con a b ha hb;⟨k,w.mono fun t ht=>p.mem_iff.mpr ht⟩⟩
theorem bL.app(F:bL n ts)(P:vG n (ts++us)):bL n (ts++us):=
 P.j4 F.n1 F.n2 fun a b ha hb=>let ⟨k,w⟩:=F.con a b ha hb;⟨k,w.mono fun t ht=>gc _ ht⟩
def pk(c k:Nat):Nat:=if k=0 then c-1 else k-1
abbrev ci(x:Nat):Int:=(x:Int)
def kY(xs:List Nat):Ts:=(List.range xs.length).map fun k=>(ci (xs.getD (pk xs.length k) 0),ci (xs.getD k 0))
theorem dP{xs:List Nat}{k:Nat}(h:k<xs.length):xs.getD k 0=xs[k]:=by rw[bh,bD h];rfl
theorem yH(xs:List Nat):(kY xs).map (·.2)=xs.map ci:=by
 unfold kY;rw[du];apply rd
 .simp
 .intro i h1 h2;simp only[nQ,q_,Function.comp];rw[dP (by simpa using h2)]
theorem yI(xs:List Nat):((kY xs).map (·.1)).Perm (xs.map ci):=by
 cases hx:xs with
 |nil=>exact rp _
 |cons y ys=>
  rw[<-hx];have hl:xs.length=ys.length+1:=by rw[hx];rfl
  have e:(kY xs).map (·.1)=ci (xs.getD (xs.length-1) 0)::(xs.take (xs.length-1)).map ci:=by
   unfold kY;rw[du];apply rd
   .simp;lia
   .intro i h1 h2;simp only[nQ,q_,Function.comp];cases i with
    |zero=>rfl
    |succ i=>
     have hi:i+1<xs.length:=by simpa using h1
     simp only[List.getElem_cons_succ,nQ,List.getElem_take];unfold pk;rw[ak (by lia),show i+1-1=i by lia,dP (by lia)]
  rw[e];have:xs.map ci=(xs.take (xs.length-1)).map ci++[ci (xs.getD (xs.length-1) 0)]:=by
   conv=>lhs;rw[<-nw (xs.length-1) xs]
   rw[bT];congr 1;rw[nj (by lia),List.drop_eq_nil_of_le (by lia),dP (by lia)];rfl
  rw[this];exact(List.perm_append_singleton _ _).symm
theorem cH(ts:Ts)(h:Int):(ts.filter fun t=>decide (t.1=h)).length=(ts.map (·.1)).count h:=by
 induction ts with
 |nil=>rfl
 |cons t ts ih=>by_cases e:t.1=h <;> simp[eK,jI,e,ih]
theorem gK(ts:Ts)(h:Int):(ts.filter fun t=>decide (t.2=h)).length=(ts.map (·.2)).count h:=by
 induction ts with
 |nil=>rfl
 |cons t ts ih=>by_cases e:t.2=h <;> simp[eK,jI,e,ih]
theorem uZ{xs:List Nat}(h:xs.Nodup):(xs.map ci).Nodup:=by
 refine jp.mpr (h.imp fun {a b} ml e=>ml ?_);exact cZ e
theorem kM:∀ {l:List α},(l.map f).Nodup->l.Nodup
 |[],_=>iq
 |a::l,h=>by
  rw[cS] at h;obtain⟨h1,h2⟩:=cX.mp h;exact cX.mpr ⟨fun z=>h1 (aW.mpr ⟨a,z,rfl⟩),kM h2⟩
theorem mY(h:t∈kY xs):∃k,k<xs.length/\t=(ci (xs.getD (pk xs.length k) 0),ci (xs.getD k 0)):=by
 obtain⟨k,hk,rfl⟩:=aW.mp h;exact⟨k,bG.mp hk,rfl⟩
theorem u3(h:k<c):pk c k<c:=by unfold pk;split <;> lia
theorem qy{xs:List Nat}{k:Nat}(h:k<xs.length):xs.getD k 0∈xs:=by rw[dP h];exact fN h
theorem lN{xs:List Nat}(nd:xs.Nodup){i j:Nat}(hi:i<xs.length)(hj:j<xs.length)(e:xs[i]=xs[j]):i=j:=by
 have pw:=A7.mp nd;rcases Nat.lt_trichotomy i j with z|z|z
 .exact absurd e (pw i j hi hj z)
 .exact z
 .exact absurd e.symm (pw j i hj hi z)
theorem kN{n:Nat}{xs:List Nat}(nd:xs.Nodup)(lt:∀x∈xs,x<n)(c2:2<=xs.length):vG n (kY xs)/\∀h:Int,((kY xs).filter fun t=>decide (t.1=h)).length<=1:=by
 have G_:((kY xs).map (·.2)).Nodup:=by rw[yH];exact uZ nd
 have one:∀h:Int,((kY xs).filter fun t=>decide (t.1=h)).length<=1:=fun h=>by
  rw[cH,(yI xs).count_eq];exact List.nodup_iff_count.mp (uZ nd) h
 refine⟨⟨kM G_,fun t ht=>?_,fun t ht=>?_,fun h=>?_,fun h=>a7 (one h) (by decide)⟩,one⟩
 .obtain⟨k,hk,rfl⟩:=mY ht;have h1:=lt _ (qy (u3 hk));have h2:=lt _ (qy hk);simp only[ci];lia
 .obtain⟨k,hk,rfl⟩:=mY ht;intro e;have e':xs.getD (pk xs.length k) 0=xs.getD k 0:=cZ e;rw[dP (u3 hk),dP hk] at e';have:=lN nd (u3 hk) hk e';unfold pk at this;split at this <;> lia
 .rw[cH,gK,(yI xs).count_eq,yH]
theorem mZ(P:vG n ts)(Q:vG n us)(hd:∀t∈us,t∉ts)(hm:∀h:Int,(ts.filter fun t=>decide (t.1=h)).length+(us.filter fun t=>decide (t.1=h)).length<=8):vG n (ts++us):=by
 refine⟨iC.mpr ⟨P.nd,Q.nd,fun a ha b hb e=>hd b hb (e ▸ ha)⟩,fun t ht=>?_,fun t ht=>?_,fun h=>?_,fun h=>?_⟩
 .rcases bg.mp ht with z|z
  .exact P.rg t z
  .exact Q.rg t z
 .rcases bg.mp ht with z|z
  .exact P.ne t z
  .exact Q.ne t z
 .rw[ge,ge,bY,bY,P.uX,Q.uX]
 .rw[ge,bY];exact hm h
theorem An(P:vG n ts)(nd:xs.Nodup)(lt:∀x∈xs,x<n)(c2:2<=xs.length)(hf:∀t∈kY xs,(ts.filter fun u=>decide (u.1=t.1)).length<=7)(hn:∀t∈kY xs,t∉ts):vG n (ts++kY xs):=by
 obtain⟨Q,one⟩:=kN nd lt c2;refine mZ P Q hn fun h=>?_;by_cases z:(kY xs).filter (fun t=>decide (t.1=h))=[]
 .rw[z];simpa using P.most h
 .obtain⟨t,ht⟩:=List.exists_mem_of_ne_nil _ z;obtain⟨h1,h2⟩:=cY.mp ht;have e:t.1=h:=by simpa using h2
  have a:=hf t h1;rw[e] at a;have:=one h;lia
theorem Hf(hk:k<xs.length):T (kY xs) (xs.getD (pk xs.length k) 0) (xs.getD k 0):=aW.mpr ⟨k,bG.mpr hk,rfl⟩
theorem xk(i:Nat):∀ (d:Nat),i+d<xs.length->cC (kY xs) d (xs.getD i 0) (xs.getD (i+d) 0)
 |0,_=>rfl
 |d+1,h=>by
  refine⟨_,xk i d (by lia),?_⟩;have:=Hf (xs:=xs) (k:=i+(d+1)) h;unfold pk at this;rw[ak (by lia)] at this;exact this
theorem qz{n:Nat}{xs:List Nat}(n1:2<=n)(n2:n<=32)(pm:xs.Perm (List.range n)):bL n (kY xs):=by
 have hl:xs.length=n:=by rw[pm.length_eq,cG]
 have nd:xs.Nodup:=pm.nodup_iff.mpr jt;have lt:∀x∈xs,x<n:=fun x hx=>bG.mp (pm.mem_iff.mp hx);refine(kN nd lt (by lia)).1.j4 n1 n2 fun a b ha hb=>?_;obtain⟨i,hi,ei⟩:=k4.mp (pm.mem_iff.mpr (bG.mpr ha));obtain⟨j,hj,ej⟩:=k4.mp (pm.mem_iff.mpr (bG.mpr hb));have w1:=xk (xs:=xs) i (xs.length-1-i) (by lia);have t0:=Hf (xs:=xs) (k:=0) (by lia);have w3:=xk (xs:=xs) 0 j (by lia);rw[show i+(xs.length-1-i)=xs.length-1 by lia] at w1;rw[show pk xs.length 0=xs.length-1 from rfl] at t0;rw[rD] at w3;have w:=w1.trans (cC.cons t0 w3);rw[dP hi,dP hj,ei,ej] at w;exact⟨_,w⟩
structure oJ(n:Nat)(os:List Nat)(k:Nat)(ts:Ts):Prop where
 pre:vG n ts
 ends:∀t∈ts,∃a b,a∈os.take k/\b∈os.take k/\t=(ci a,ci b)
 con:∀a b,a∈os.take k->b∈os.take k->∃j,cC ts j a b
 len:ts.length+2=2*k
theorem oJ.start(h:0<os.length):oJ n os 1 []:=by
 refine⟨⟨iq,(fun t h=>nomatch h),(fun t h=>nomatch h),fun h=>rfl,fun h=>by simp⟩,(fun t h=>nomatch h),fun a b ha hb=>?_,rfl⟩;cases os with
 |nil=>simp at h
 |cons o os=>
  simp at ha hb;exact⟨0,by rw[ha,hb];rfl⟩
theorem oJ.add(Tr:oJ n os k ts)(nd:os.Nodup)(lt:∀x∈os,x<n)(hv:os[k]?=some v)(hs:s∈os.take k)(hd:(ts.filter fun t=>decide (t.1=ci s)).length<8):oJ n os (k+1) (ts++[(ci s,ci v),(ci v,ci s)]):=by
 have tk:os.take (k+1)=os.take k++[v]:=by rw[eI,hv];rfl
 have Yn:(os.take k++[v]).Nodup:=by rw[<-tk];exact nd.sublist (rb _ _)
 have vn:v∉os.take k:=fun z=>(iC.mp Yn).2.2 v z v (by simp) rfl;have sv:s≠v:=fun e=>vn (e ▸ hs);have vm:v∈os:=cE hv;have sl:=lt s (nz hs);have vl:=lt v vm;have R6:∀t∈ts,t.1≠ci v/\t.2≠ci v:=fun t ht=>by
  obtain⟨a,b,ha,hb,rfl⟩:=Tr.ends t ht;exact⟨fun e=>vn (cZ e ▸ ha),fun e=>vn (cZ e ▸ hb)⟩
 have Q:vG n [(ci s,ci v),(ci v,ci s)]:=by
  have M3:ci s≠ci v:=fun e=>sv (cZ e);refine⟨?_,fun t ht=>?_,fun t ht=>?_,fun h=>?_,fun h=>a7 (io _ _) (by simp)⟩
  .simp[M3]
  .simp at ht;rcases ht with rfl|rfl <;> (simp only[ci];lia)
  .simp at ht;rcases ht with rfl|rfl
   .exact M3
   .exact M3.symm
  .by_cases a:ci s=h <;> by_cases b:ci v=h <;> simp[eK,a,b]
 have P2:vG n (ts++[(ci s,ci v),(ci v,ci s)]):=by
  refine mZ Tr.pre Q (fun t ht z=>?_) fun h=>?_
  .simp at ht;rcases ht with rfl|rfl
   .exact(R6 _ z).2 rfl
   .exact(R6 _ z).1 rfl
  .have M3:ci s≠ci v:=fun e=>sv (cZ e);by_cases a:ci s=h
   .subst a;have b:¬ ci v=ci s:=M3.symm;simp only[eK,decide_true,if_true,dY b];simp;lia
   .by_cases b:ci v=h
    .subst b;have z:ts.filter (fun t=>decide (t.1=ci v))=[]:=vQ.mpr fun t ht=>by simpa using (R6 t ht).1
     rw[z];exact a7 (Nat.add_le_add_left (io _ _) _) (by simp)
    .have:=Tr.pre.most h;simp[eK,a,b];exact this
 have up:∀t∈ts,t∈ts++[(ci s,ci v),(ci v,ci s)]:=fun t ht=>gc _ ht;have t1:T (ts++[(ci s,ci v),(ci v,ci s)]) s v:=im _ (by simp);have t2:T (ts++[(ci s,ci v),(ci v,ci s)]) v s:=im _ (by simp);have Yo:∀a,a∈os.take k++[v]->∃j,cC (ts++[(ci s,ci v),(ci v,ci s)]) j a s:=fun a ha=>by
  rcases bg.mp ha with z|z
  .obtain⟨j,w⟩:=Tr.con a s z hs;exact⟨j,w.mono up⟩
  .simp at z;subst z;exact⟨1,cC.one t2⟩
 have Yp:∀b,b∈os.take k++[v]->∃j,cC (ts++[(ci s,ci v),(ci v,ci s)]) j s b:=fun b hb=>by
  rcases bg.mp hb with z|z
  .obtain⟨j,w⟩:=Tr.con s b hs z;exact⟨j,w.mono up⟩
  .simp at z;subst z;exact⟨1,cC.one t1⟩
 refine⟨P2,fun t ht=>?_,fun a b ha hb=>?_,?_⟩
 .rw[tk];rcases bg.mp ht with z|z
  .obtain⟨a,b,ha,hb,e⟩:=Tr.ends t z;exact⟨a,b,gc _ ha,gc _ hb,e⟩
  .simp at z;rcases z with rfl|rfl
   .exact⟨s,v,gc _ hs,by simp,rfl⟩
   .exact⟨v,s,by simp,gc _ hs,rfl⟩
 .rw[tk] at ha hb;obtain⟨i,w1⟩:=Yo a ha;obtain⟨j,w2⟩:=Yp b hb;exact⟨i+j,w1.trans w2⟩
 .have:=Tr.len;rw[bY];simp;lia
theorem oJ.j4(Tr:oJ n os n ts)(n1:2<=n)(n2:n<=32)(pm:os.Perm (List.range n)):bL n ts:=by
 have hl:os.length=n:=by rw[pm.length_eq,cG]
 refine Tr.pre.j4 n1 n2 fun a b ha hb=>Tr.con a b ?_ ?_
 .rw[nA (by lia)];exact pm.mem_iff.mpr (bG.mpr ha)
 .rw[nA (by lia)];exact pm.mem_iff.mpr (bG.mpr hb)
end oI
namespace L2
open PySem PySem.Spec PyProof.Rows
section
variable {X:Cx}
end
end L2
namespace oI
abbrev qA(u:Int×Int):Int×Int:=(u.2,u.1)
def cB(ps:Ts):Ts:=ps.flatMap fun u=>[u,qA u]
theorem ii:cB (ps++qs)=cB ps++cB qs:=List.flatMap_append
theorem dJ:∀ {ps:Ts},(cB ps).Perm (ps++ps.map qA)
 |[]=>rp _
 |u::ps=>by
  have ih:=dJ (ps:=ps);show (u::qA u::cB ps).Perm (u::(ps++qA u::ps.map qA));refine List.Perm.cons _ ?_;exact(ih.cons _).trans List.perm_middle.symm
theorem sU:∀ {ps:Ts},(cB ps).length=2*ps.length
 |[]=>rfl
 |u::ps=>by
  have ih:=sU (ps:=ps);show (cB ps).length+2=2*(ps.length+1);lia
theorem yJ(h:u∈cB ps):qA u∈cB ps:=by
 obtain⟨v,hv,hu⟩:=wo.mp h;refine wo.mpr ⟨v,hv,?_⟩;rcases cn.mp hu with e|e
 .rw[e];exact b9 _ (bR.mpr rfl)
 .rw[bR.mp e];exact cz
theorem kO:u∈cB ps↔u∈ps\/qA u∈ps:=by
 rw[(dJ (ps:=ps)).mem_iff,bg];refine or_congr Iff.rfl ⟨fun h=>?_,fun h=>aW.mpr ⟨_,h,rfl⟩⟩;obtain⟨v,hv,rfl⟩:=aW.mp h;exact hv
theorem yK:((cB ps).map qA).Perm (cB ps):=by
 refine((dJ (ps:=ps)).map qA).trans (List.Perm.trans ?_ (dJ (ps:=ps)).symm);rw[bT,du];have e:ps.map (qA ∘ qA)=ps:=(fL fun u _=>rfl).trans (iK ps);rw[e];exact il
def Ao(x:Nat):List Nat->Bool
 |[]=>false
 |y::ys=>Nat.beq x y||Ao x ys
theorem oK:∀ {ys:List Nat},Ao x ys=true↔x∈ys
 |[]=>by simp[Ao]
 |y::ys=>by
  unfold Ao;rw[Bool.or_eq_true,oK (ys:=ys),cn];exact or_congr ⟨fun h=>qZ h,fun h=>by rw[h];exact rH y⟩ Iff.rfl
def PM:List Nat->Bool
 |[]=>true
 |x::xs=>!Ao x xs&&PM xs
theorem Cq:∀ {xs:List Nat},PM xs=true->xs.Nodup
 |[],_=>iq
 |x::xs,h=>by
  unfold PM at h;rw[gg] at h;refine cX.mpr ⟨fun z=>?_,Cq h.2⟩;rw[oK.mpr z] at h;exact absurd h.1 (by decide)
abbrev gL(q:Nat×Nat):Int×Int:=((q.1:Int),(q.2:Int))
def PN(qs:List (Nat×Nat)):List Nat:=qs.flatMap fun q=>[64*q.1+q.2,64*q.2+q.1]
def K0(c:Nat):Int×Int:=(((c / 64:Nat):Int),((c % 64:Nat):Int))
theorem xn(h:b<64):K0 (64*a+b)=((a:Int),(b:Int)):=by
 unfold K0;rw[show (64*a+b) / 64=a by lia,show (64*a+b) % 64=b by lia]
theorem sV:∀ {qs:List (Nat×Nat)},(∀q∈qs,q.1<64/\q.2<64)->(PN qs).map K0=cB (qs.map gL)
 |[],_=>rfl
 |q::qs,h=>by
  have ih:=sV (qs:=qs) fun x hx=>h x (b9 _ hx);obtain⟨h1,h2⟩:=h q cz;show K0 (64*q.1+q.2)::K0 (64*q.2+q.1)::(PN qs).map K0=gL q::qA (gL q)::cB (qs.map gL);rw[ih,xn h2,xn h1]
def b1(b:Bool):Nat:=cond b 1 0
def jk(h:Nat):List (Nat×Nat)->Nat
 |[]=>0
 |q::qs=>b1 (Nat.beq q.1 h)+(b1 (Nat.beq q.2 h)+jk h qs)
theorem sW{h:Nat}:∀ {qs:List (Nat×Nat)},((cB (qs.map gL)).filter fun t=>decide (t.1=(h:Int))).length=jk h qs
 |[]=>rfl
 |q::qs=>by
  have ih:=sW (h:=h) (qs:=qs);have e:∀a:Nat,(if decide ((a:Int)=(h:Int))=true then 1 else 0)=b1 (Nat.beq a h):=fun a=>by
   by_cases c:a=h
   .subst c;rw[ap (by simp),rH];rfl
   .rw[ak (by simp;lia),show Nat.beq a h=false from wm.mpr fun z=>c (qZ z)];rfl
  show ((gL q::qA (gL q)::cB (qs.map gL)).filter _).length=b1 (Nat.beq q.1 h)+(b1 (Nat.beq q.2 h)+jk h qs);rw[<-ih,<-e q.1,<-e q.2,eK,eK];split <;> split <;> simp <;> lia
def Cr(n:Nat)(qs:List (Nat×Nat)):Bool:=Nat.ble 2 n&&(Nat.ble n 32&&(PM (PN qs)&&(qs.all (fun q=>Nat.blt q.1 n&&(Nat.blt q.2 n&&!Nat.beq q.1 q.2))&&((List.range n).all (fun h=>Nat.ble (jk h qs) 8) &&
 (List.range n).all (fun v=>Nat.beq v 0||(List.range v).reverse.any (fun u=>Ao (64*u+v) (PN qs)))))))
theorem sX(h:Nat.blt a b=true):a<b:=qY h
theorem Cs(h:Cr n qs=true):bL n (cB (qs.map gL))/\∀q∈qs,q.1<64/\q.2<64:=by
 unfold Cr at h;simp only[gg,iD,bG,Bool.or_eq_true,List.any_eq_true,List.mem_reverse] at h;obtain⟨h1,h2,h3,h4,h5,h6⟩:=h;have h1:=qY h1;have h2:=qY h2;have R7:∀q∈qs,q.1<64/\q.2<64:=fun q hq=>⟨by have:=sX (h4 q hq).1;lia,by have:=sX (h4 q hq).2.1;lia⟩
 have mem:∀t∈cB (qs.map gL),∃q∈qs,t=gL q\/t=qA (gL q):=fun t ht=>by
  rcases kO.mp ht with z|z
  .obtain⟨q,hq,e⟩:=aW.mp z;exact⟨q,hq,.inl e.symm⟩
  .obtain⟨q,hq,e⟩:=aW.mp z;exact⟨q,hq,.inr (by rw[e])⟩
 have rg:∀t∈cB (qs.map gL),((0<=t.1/\t.1<n)/\(0<=t.2/\t.2<n))/\t.1≠t.2:=fun t ht=>by
  obtain⟨q,hq,e⟩:=mem t ht;have a:=sX (h4 q hq).1;have b:=sX (h4 q hq).2.1;have c:q.1≠q.2:=fun z=>by have:=(h4 q hq).2.2;rw[z,rH] at this;exact absurd this (by decide)
  rcases e with rfl|rfl
  .exact⟨⟨⟨by show (0:Int)<=(q.1:Int);lia,by show (q.1:Int)<n;lia⟩,by show (0:Int)<=(q.2:Int);lia,by show (q.2:Int)<n;lia⟩,by show ((q.1:Nat):Int)≠(q.2:Nat);lia⟩
  .exact⟨⟨⟨by show (0:Int)<=(q.2:Int);lia,by show (q.2:Int)<n;lia⟩,by show (0:Int)<=(q.1:Int);lia,by show (q.1:Int)<n;lia⟩,by show ((q.2:Nat):Int)≠(q.1:Nat);lia⟩
 have uX:∀h:Int,((cB (qs.map gL)).filter fun t=>decide (t.1=h)).length=((cB (qs.map gL)).filter fun t=>decide (t.2=h)).length:=fun h=>by
  rw[<-(yK (ps:=qs.map gL)).filter (fun t=>decide (t.1=h)) |>.length_eq,nE,aB];rfl
 have nd:(cB (qs.map gL)).Nodup:=by
  rw[<-sV R7];refine List.Pairwise.map _ (fun a b ml e=>ml ?_) (l7.mp (Cq h3));have e1:a / 64=b / 64:=cZ (congrArg Prod.fst e);have e2:a % 64=b % 64:=cZ (congrArg Prod.snd e);lia
 refine⟨⟨h1,h2,nd,fun t ht=>(rg t ht).1,fun t ht=>(rg t ht).2,uX,fun h=>?_,fun a b ha hb=>?_⟩,R7⟩
 .by_cases c:0<=h/\h<n
  .have:=qY (h5 h.toNat (by lia));rw[<-sW,l9 c.1] at this;exact this
  .have e:(cB (qs.map gL)).filter (fun t=>decide (t.1=h))=[]:=vQ.mpr fun t ht e=>c ((show t.1=h from eG e) ▸ (rg t ht).1.1);rw[e];exact c_ _
 .have both:∀v,v<n->(∃k,cC (cB (qs.map gL)) k 0 v)/\∃k,cC (cB (qs.map gL)) k v 0:=by
   intro v;induction v using Nat.strongRecOn with
   |ind v ih=>
    intro hv;rcases h6 v hv with e|⟨u,hu,t1⟩
    .have e:=qZ e;subst e;exact⟨⟨0,rfl⟩,0,rfl⟩
    .obtain⟨⟨k,w⟩,l,w'⟩:=ih u hu (by lia);have t:T (cB (qs.map gL)) u v:=by
      have:=aW.mpr ⟨_,oK.mp t1,xn (a:=u) (b:=v) (by lia)⟩;rw[sV R7] at this;exact this
     have t':T (cB (qs.map gL)) v u:=yJ t;exact⟨⟨k+1,u,w,t⟩,l+1,cC.cons t' w'⟩
  obtain⟨_,k,w⟩:=both a ha;obtain⟨⟨l,w'⟩,_⟩:=both b hb;exact⟨_,w.trans w'⟩
def pr:List Nat->Nat
 |[]=>1
 |n::ns=>n*pr ns
def IP(m st n:Nat):List (Nat×Nat):=((List.range m).filter fun h=>decide (h / st % n+1<n)).map fun h=>(h,h+st)
def bx(m:Nat):Nat->List Nat->List (Nat×Nat)
 |_,[]=>[]
 |st,n::ns=>IP m st n++bx m (st*n) ns
def j5(ns:List Nat):List (Nat×Nat):=bx (pr ns) 1 ns
def u4:Nat->List Nat->Nat->Nat->Prop
 |_,[],_,_=>False
 |st,n::ns,a,b=>(a / st % n+1<n/\b=a+st)\/u4 (st*n) ns a b
theorem yL:q∈IP m st n↔q.1<m/\q.1 / st % n+1<n/\q.2=q.1+st:=by
 unfold IP;rw[aW];constructor
 .rintro⟨h,hh,rfl⟩;obtain⟨h1,h2⟩:=cY.mp hh;exact⟨bG.mp h1,eG h2,rfl⟩
 .rintro⟨h1,h2,h3⟩;exact⟨q.1,cY.mpr ⟨bG.mpr h1,dZ h2⟩,dE rfl h3.symm⟩
theorem lO:∀ {ns:List Nat} {st:Nat},q∈bx m st ns↔q.1<m/\u4 st ns q.1 q.2
 |[],st=>⟨fun h=>(nomatch h),fun h=>h.2.elim⟩
 |n::ns,st=>by
  unfold bx u4;rw[bg,yL,lO (ns:=ns)];constructor
  .rintro(⟨a,b,c⟩|⟨a,b⟩)
   .exact⟨a,.inl ⟨b,c⟩⟩
   .exact⟨a,.inr b⟩
  .rintro⟨a,⟨b,c⟩|b⟩
   .exact .inl ⟨a,b,c⟩
   .exact .inr ⟨a,b⟩
abbrev U(ns:List Nat):Nat->Nat->Prop:=u4 1 ns
theorem sY:∀ {ns:List Nat} {st a b:Nat},0<st->(∀n∈ns,0<n)->(u4 st ns a b↔a % st=b % st/\U ns (a / st) (b / st))
 |[],st,a,b,h,_=>⟨fun z=>z.elim,fun z=>z.2.elim⟩
 |n::ns,st,a,b,h,hn=>by
  have DV:=hn n cz;have vE:∀n∈ns,0<n:=fun x hx=>hn x (b9 _ hx);show (_\/u4 (st*n) ns a b)↔a % st=b % st/\(_\/u4 (1*n) ns (a / st) (b / st))
  rw[n4,sY (jO h DV) vE,sY DV vE,Nat.div_one,vP a st n,vP b st n,Nat.mod_mul,Nat.mod_mul];have e1:=iE a st;have e2:=iE b st;constructor
  .rintro(⟨c,rfl⟩|⟨c,d⟩)
   .refine⟨by rw[Nat.add_mod_right],.inl ⟨c,by rw[Nat.add_div_right _ h]⟩⟩
   .have m1:a % st=b % st:=by
     have:=congrArg (· % st) c;simp only[A6,Nat.mod_mod] at this;exact this
    refine⟨m1,.inr ⟨?_,d⟩⟩;rw[m1] at c;exact Nat.eq_of_mul_eq_mul_left h (Nat.add_left_cancel c)
  .rintro⟨m1,⟨c,d⟩|⟨c,d⟩⟩
   .refine .inl ⟨c,?_⟩;rw[<-e2,d,<-m1,lg,n6,Nat.add_right_comm,e1]
   .exact .inr ⟨by rw[m1,c],d⟩
theorem xo(h:∀x∈n::ns,0<x):U (n::ns) a b↔(a % n+1<n/\b=a+1)\/(a % n=b % n/\U ns (a / n) (b / n)):=by
 show (_\/u4 (1*n) ns a b)↔_;rw[n4,sY (h n cz) fun x hx=>h x (b9 _ hx),Nat.div_one]
theorem xp(h:a % n+1<n):(a+1) / n=a / n/\(a+1) % n=a % n+1:=by
 have e:=iE a n;have e2:a+1=n*(a / n)+(a % n+1):=by lia
 have hn:0<n:=by lia
 rw[e2,Nat.mul_add_div hn,Nat.mul_add_mod,Nat.div_eq_of_lt h,jG h];exact⟨rfl,rfl⟩
theorem M4:∀ {ns:List Nat} {a b:Nat},(∀x∈ns,0<x)->U ns a b->a<pr ns->a<b/\b<pr ns
 |[],a,b,_,h,_=>h.elim
 |n::ns,a,b,hn,h,ha=>by
  have DV:=hn n cz;have vE:∀n∈ns,0<n:=fun x hx=>hn x (b9 _ hx);have Mh:a<n*pr ns:=ha;have hq:a / n<pr ns:=Nat.div_lt_of_lt_mul Mh;show a<b/\b<n*pr ns;rcases(xo hn).mp h with ⟨c,rfl⟩|⟨c,d⟩
  .refine⟨by lia,?_⟩;have e:=iE a n;have:=vW n hq;rw[Nat.succ_eq_add_one,lg,n6] at this;lia
  .obtain⟨i1,i2⟩:=M4 vE d hq;refine⟨?_,?_⟩
   .have e1:=iE a n;have e2:=iE b n;have:=A1 i1 DV;lia
   .have e2:=iE b n;have hm:=n8 b DV;have:=vW n i2;rw[Nat.succ_eq_add_one,lg,n6] at this;lia
theorem Ct:∀ {ns:List Nat} {v:Nat},(∀x∈ns,0<x)->0<v->v<pr ns->∃u,u<v/\U ns u v
 |[],v,_,h1,h2=>by have h2:v<1:=h2;lia
 |n::ns,v,hn,h1,h2=>by
  have DV:=hn n cz;have vE:∀n∈ns,0<n:=fun x hx=>hn x (b9 _ hx);have lv:=n8 v DV;have ev:=iE v n;by_cases c:v % n=0
  .have hq:0<v / n:=by
    rcases Nat.eq_zero_or_pos (v / n) with z|z
    .rw[z,c] at ev;simp at ev;lia
    .exact z
   obtain⟨u,hu,uu⟩:=Ct (v:=v / n) vE hq (Nat.div_lt_of_lt_mul h2);refine⟨n*u,?_,(xo hn).mpr (.inr ⟨by rw[Nat.mul_mod_right,c],by rw[Nat.mul_div_cancel_left _ DV];exact uu⟩)⟩;have:=A1 hu DV;lia
  .have hv:v-1=n*(v / n)+(v % n-1):=by lia
   have hm:(v-1) % n=v % n-1:=by rw[hv,Nat.mul_add_mod,jG (by lia)]
   exact⟨v-1,by lia,(xo hn).mpr (.inl ⟨by lia,by lia⟩)⟩
theorem yM:∀ {ns:List Nat} {st a b:Nat},(∀x∈ns,0<x)->u4 st ns a b->a+st<=b
 |[],st,a,b,_,h=>h.elim
 |n::ns,st,a,b,hn,h=>by
  rcases h with ⟨_,rfl⟩|h
  .exact a8 _
  .have:=yM (fun x hx=>hn x (b9 _ hx)) h;have h1:=Nat.le_mul_of_pos_right st (hn n cz);lia
theorem Ap:(IP m st n).Nodup:=by
 unfold IP;refine l7.mpr (jp.mpr ?_);exact(l7.mp (jt.sublist vX)).imp fun {a b} h e=>h (congrArg Prod.fst e)
theorem u5:∀ {ns:List Nat} {st:Nat},0<st->(∀x∈ns,2<=x)->(bx m st ns).Nodup
 |[],_,_,_=>iq
 |n::ns,st,h,hn=>by
  have KJ:=hn n cz;have vE:∀x∈ns,2<=x:=fun x hx=>hn x (b9 _ hx);refine iC.mpr ⟨Ap,u5 (jO h (by lia)) vE,fun x hx y hy e=>?_⟩;subst e;have h1:=(yL.mp hx).2.2;have h2:=yM (fun x hx=>by have:=vE x hx;lia) (lO.mp hy).2;have h3:=vW st KJ;lia
theorem Aq(nd:ps.Nodup)(h:∀u∈ps,u.1<u.2):(cB ps).Nodup:=by
 refine(dJ (ps:=ps)).nodup_iff.mpr (iC.mpr ⟨nd,?_,fun x hx y hy e=>?_⟩)
 .refine l7.mpr (jp.mpr ((l7.mp nd).imp fun {a b} ml e=>ml ?_));exact dE (congrArg Prod.snd e) (congrArg Prod.fst e)
 .subst e;obtain⟨u,hu,rfl⟩:=aW.mp hy;have h1:=h _ hx;have h2:=h u hu;have h1:u.2<u.1:=h1;lia
theorem Ar{qs:List (Nat×Nat)}(h:qs.Nodup):(qs.map gL).Nodup:=by
 refine l7.mpr (jp.mpr ((l7.mp h).imp fun {a b} ml e=>ml ?_));exact dE (cZ (congrArg Prod.fst e)) (cZ (congrArg Prod.snd e))
theorem mq:∀ {a b:List (Nat×Nat)},jk h (a++b)=jk h a+jk h b
 |[],b=>by show jk h b=0+_;lia
 |q::a,b=>by
  have:=mq (h:=h) (a:=a) (b:=b);show b1 _+(b1 _+jk h (a++b))=b1 _+(b1 _+jk h a)+jk h b;lia
theorem Hg:b1 (Nat.beq a b)=if a=b then 1 else 0:=by
 by_cases c:a=b
 .subst c;rw[ap rfl,rH];rfl
 .rw[ak c,show Nat.beq a b=false from wm.mpr fun z=>c (qZ z)];rfl
theorem yN:∀ {L:List Nat},L.Nodup->jk h (L.map fun x=>(x,x+st))<=(if h∈L then 1 else 0)+(if st<=h/\h-st∈L then 1 else 0)
 |[],_=>c_ _
 |x::L,nd=>by
  obtain⟨n1,n2⟩:=cX.mp nd;have ih:=yN (h:=h) (st:=st) n2;show b1 (Nat.beq x h)+(b1 (Nat.beq (x+st) h)+jk h (L.map fun x=>(x,x+st)))<=_;rw[Hg,Hg];have e1:(if h∈x::L then 1 else 0)=(if x=h then 1 else 0)+(if h∈L then 1 else 0):=by
   by_cases c:x=h
   .subst c;rw[ap cz,ap rfl,ak n1]
   .rw[ak c];by_cases d:h∈L
    .rw[ap (b9 _ d),ap d]
    .rw[ak d,ak (fun z=>(cn.mp z).elim (fun z=>c z.symm) d)]
  have e2:(if st<=h/\h-st∈x::L then 1 else 0)=(if x+st=h then 1 else 0)+(if st<=h/\h-st∈L then 1 else 0):=by
   by_cases c:x+st=h
   .have e:h-st=x:=by lia
    rw[ap c,e,ap ⟨by lia,cz⟩,ak (fun z=>n1 z.2)]
   .rw[ak c];by_cases d:st<=h/\h-st∈L
    .rw[ap d,ap ⟨d.1,b9 _ d.2⟩]
    .rw[ak d,ak];rintro⟨z1,z2⟩;rcases cn.mp z2 with z|z
     .lia
     .exact d ⟨z1,z⟩
  rw[e1,e2];lia
def wt:List Nat->Nat
 |[]=>0
 |n::ns=>(if n=2 then 1 else 2)+wt ns
theorem E4(hs:0<st):jk h (IP m st n)<=if n=2 then 1 else 2:=by
 have c:=yN (h:=h) (st:=st) (L:=(List.range m).filter fun h=>decide (h / st % n+1<n)) (jt.sublist vX);refine a7 c ?_;by_cases e:n=2
 .rw[ap e];by_cases c1:h∈(List.range m).filter fun h=>decide (h / st % n+1<n)
  .rw[ap c1,ak]
   .lia
   .rintro⟨z1,z2⟩;have d1:h / st % n+1<n:=eG (cY.mp c1).2;have d2:(h-st) / st % n+1<n:=eG (cY.mp z2).2;have d3:h / st=(h-st) / st+1:=by
     have:=Nat.add_div_right (h-st) hs;rw[show h-st+st=h by lia] at this;exact this
    obtain⟨_,d4⟩:=xp d2;rw[<-d3] at d4;lia
  .rw[ak c1];split <;> lia
 .rw[ak e];split <;> split <;> lia
theorem Cu:∀ {ns:List Nat} {st:Nat},0<st->(∀x∈ns,0<x)->jk h (bx m st ns)<=wt ns
 |[],_,_,_=>a8 _
 |n::ns,st,hs,hn=>by
  show jk h (IP m st n++bx m (st*n) ns)<=_+wt ns;rw[mq];have h1:=E4 (m:=m) (n:=n) (h:=h) hs;have h2:=Cu (m:=m) (h:=h) (ns:=ns) (st:=st*n) (jO hs (hn n cz)) fun x hx=>hn x (b9 _ hx);lia
theorem Cv:∀ {ns:List Nat},(∀x∈ns,2<=x)->3 ^ wt ns<=pr ns*pr ns
 |[],_=>a8 _
 |n::ns,hn=>by
  have ih:=Cv (ns:=ns) fun x hx=>hn x (b9 _ hx);have h2:=hn n cz;show 3 ^ ((if n=2 then 1 else 2)+wt ns)<=n*pr ns*(n*pr ns);rw[Nat.pow_add,Nat.mul_mul_mul_comm];refine nV ?_ ih;by_cases c:n=2
  .rw[ap c,c];decide
  .rw[ak c];have:3<=n:=by lia
   exact nV this this
theorem M5(hn:∀x∈ns,2<=x)(hp:pr ns<=32):wt ns<=8:=by
 refine jn fun z=>?_;have h1:3 ^ 9<=3 ^ wt ns:=Nat.pow_le_pow_right (by decide) (by lia);have h2:=Cv hn;have h3:pr ns*pr ns<=32*32:=nV hp hp;have h4:(3:Nat) ^ 9=19683:=by decide
 lia
theorem Cw{ns:List Nat}(hn:∀x∈ns,2<=x)(h0:ns≠[])(hp:pr ns<=32):bL (pr ns) (cB ((j5 ns).map gL)):=by
 have IQ:∀x∈ns,0<x:=fun x hx=>by have:=hn x hx;lia
 have q:∀q∈j5 ns,q.1<q.2/\q.2<pr ns:=fun q hq=>by
  obtain⟨a,b⟩:=lO.mp hq;exact M4 IQ b a
 have n1:2<=pr ns:=by
  cases ns with
  |nil=>exact absurd rfl h0
  |cons n ns=>
   have h2:=hn n cz;have:∀ {l:List Nat},(∀x∈l,2<=x)->1<=pr l:=fun {l}=>by
    induction l with
    |nil=>intro _;exact a8 _
    |cons x l ih=>intro hl;exact jO (by have:=hl x cz;lia) (ih fun y hy=>hl y (b9 _ hy))
   have h3:=this (l:=ns) fun x hx=>hn x (b9 _ hx);show 2<=n*pr ns;exact a7 h2 (Nat.le_mul_of_pos_right n h3)
 have mem:∀t∈cB ((j5 ns).map gL),∃q∈j5 ns,t=gL q\/t=qA (gL q):=fun t ht=>by
  rcases kO.mp ht with z|z
  .obtain⟨q,hq,e⟩:=aW.mp z;exact⟨q,hq,.inl e.symm⟩
  .obtain⟨q,hq,e⟩:=aW.mp z;exact⟨q,hq,.inr (by rw[e])⟩
 have rg:∀t∈cB ((j5 ns).map gL),((0<=t.1/\t.1<pr ns)/\(0<=t.2/\t.2<pr ns))/\t.1≠t.2:=fun t ht=>by
  obtain⟨p,hq,e⟩:=mem t ht;obtain⟨a,b⟩:=q p hq;rcases e with rfl|rfl
  .exact⟨⟨⟨by show (0:Int)<=(p.1:Int);lia,by show (p.1:Int)<(pr ns:Int);lia⟩,by show (0:Int)<=(p.2:Int);lia,by show (p.2:Int)<(pr ns:Int);lia⟩,by show ((p.1:Nat):Int)≠(p.2:Nat);lia⟩
  .exact⟨⟨⟨by show (0:Int)<=(p.2:Int);lia,by show (p.2:Int)<(pr ns:Int);lia⟩,by show (0:Int)<=(p.1:Int);lia,by show (p.1:Int)<(pr ns:Int);lia⟩,by show ((p.2:Nat):Int)≠(p.1:Nat);lia⟩
 have nd:(cB ((j5 ns).map gL)).Nodup:=Aq (Ar (u5 (by decide) hn)) fun u hu=>by
  obtain⟨p,hq,rfl⟩:=aW.mp hu;have:=(q p hq).1;show (p.1:Int)<(p.2:Int);lia
 refine⟨n1,hp,nd,fun t ht=>(rg t ht).1,fun t ht=>(rg t ht).2,fun h=>?_,fun h=>?_,fun a b ha hb=>?_⟩
 .rw[<-(yK (ps:=(j5 ns).map gL)).filter (fun t=>decide (t.1=h)) |>.length_eq,nE,aB];rfl
 .by_cases c:0<=h/\h<pr ns
  .have:=Cu (m:=pr ns) (h:=h.toNat) (ns:=ns) (st:=1) (by decide) IQ;have e:=sW (h:=h.toNat) (qs:=j5 ns);rw[l9 c.1] at e;rw[e];exact a7 this (M5 hn hp)
  .have e:(cB ((j5 ns).map gL)).filter (fun t=>decide (t.1=h))=[]:=vQ.mpr fun t ht e=>c ((show t.1=h from eG e) ▸ (rg t ht).1.1);rw[e];exact c_ _
 .have both:∀v,v<pr ns->(∃k,cC (cB ((j5 ns).map gL)) k 0 v)/\∃k,cC (cB ((j5 ns).map gL)) k v 0:=by
   intro v;induction v using Nat.strongRecOn with
   |ind v ih=>
    intro hv;rcases Nat.eq_zero_or_pos v with e|e
    .subst e;exact⟨⟨0,rfl⟩,0,rfl⟩
    .obtain⟨u,hu,uu⟩:=Ct IQ e hv;obtain⟨⟨k,w⟩,l,w'⟩:=ih u hu (by lia);have t:T (cB ((j5 ns).map gL)) u v:=kO.mpr (.inl (aW.mpr ⟨(u,v),lO.mpr ⟨by show u<pr ns;lia,uu⟩,rfl⟩));have t':T (cB ((j5 ns).map gL)) v u:=yJ t;exact⟨⟨k+1,u,w,t⟩,l+1,cC.cons t' w'⟩
  obtain⟨_,k,w⟩:=both a ha;obtain⟨⟨l,w'⟩,_⟩:=both b hb;exact⟨_,w.trans w'⟩
end oI
namespace DY
open PySem L2
def gG(i:Nat):Stmt:=PySem.Challenge.pw_neverwait_k52_home_led_waited.main.body.getD i (.Pass ⟨0,0,0,0⟩)
abbrev xq:Stmt:=gG 4
abbrev s_:Stmt:=gG 5
abbrev xr:Stmt:=gG 6
abbrev IR:Stmt:=gG 8
structure Bl(mg:Str->Option Value):Prop where
 IS:mg "isinstance"=none
 int:mg "int"=none
 bool:mg "bool"=none
 tup:mg "tuple"=none
 lst:mg "list"=none
 str:mg "str"=none
 set:mg "set"=none
 len:mg "len"=none
 range:mg "range"=none
 sorted:mg "sorted"=none
 any:mg "any"=none
 max:mg "max"=none
 min:mg "min"=none
 Yq:mg "ValueError"=none
 all:mg "all"=none
def Cy(K:PySem.W.Frag)(H:Hp)(x:V):Prop:=∃t,KP K H x t/\(PySem.W.kitOne K t (.type "int")=some false\/(PySem.W.kitOne K t (.type "int")=some true/\PySem.W.kitOne K t (.type "bool")=some true))
theorem u6:PySem.W.kitOne K (.type "int") (.type "int")=some true:=by kernel_rfl
theorem kP:PySem.W.kitOne K (.type "int") (.type "bool")=some false:=by kernel_rfl
inductive Wh (K:PySem.W.Frag) (H:Hp):V->Option Int->Prop where
 |int (i:Int):Wh K H (.int i) (some i)
 |no {x:V} (h:Cy K H x):Wh K H x none
def tf(K:PySem.W.Frag):Sp:=fun vs H Q _=>∃x o,vs=[x]/\Wh K H x o/\Q (.bl o.isSome) H
section
variable {P:Program} {w:World} {K:PySem.W.Frag} {mg:Str->Option Value} {base:Heap}
theorem E5:aH ["thing"] ["thing"] (aq xq):=⟨rfl,rfl,rfl,by decide +kernel,rfl,by decide +kernel,by decide +kernel⟩
theorem Cz(F:fH K "is_whole" "is_whole" xq f fd)(B:Bl mg):bv P w K mg base bf 1 f fd ["thing"] (tf K):=by
 refine F.ok E5 (fun vs H Q E h=>?_) (fun cT A outer s H vs Q E hr h=>?_)
 .obtain⟨x,o,rfl,_⟩:=h;rfl
 .obtain⟨x,o,rfl,W,k⟩:=h;refine⟨_,ao (aV (jS (az fU (by rfl) B.IS ni (aa (pv 0) (aa (hE (v:=.ty "int") rfl B.int vR rfl) af)))
   (jR (HR (az fU (by rfl) B.IS ni (aa (pv 0) (aa (hE (v:=.ty "bool") rfl B.bool PyProof.Rows.boot_bool rfl) af))))))),?_⟩
  cases W with
  |int i=>
   refine⟨_,rfl,_,_,_,.type "int",true,rfl,⟨rfl,u6⟩,.of (.int _),true,rfl,?_⟩;exact⟨_,rfl,_,_,_,.type "int",false,rfl,⟨rfl,kP⟩,.of (.int _),false,rfl,k⟩
  |no h=>
   obtain⟨t,ty,h|⟨h1,h2⟩⟩:=h
   .exact⟨_,rfl,_,_,_,t,false,rfl,⟨rfl,h⟩,ty,false,rfl,k⟩
   .refine⟨_,rfl,_,_,_,t,true,rfl,⟨rfl,h1⟩,ty,true,rfl,?_⟩;exact⟨_,rfl,_,_,_,t,true,rfl,⟨rfl,h2⟩,ty,true,rfl,k⟩
def gA(o:Option Int)(lo hi:Int):Bool:=match o with
 |some i=>decide (lo<=i)&&decide (i<=hi)
 |none=>false
def iY(K:PySem.W.Frag):Sp:=fun vs H Q _=>∃x o lo hi,vs=[x,.int lo,.int hi]/\Wh K H x o/\Q (.bl (gA o lo hi)) H
theorem CA:aH ["thing","least","most"] ["thing","least","most"] (aq s_):=⟨rfl,rfl,rfl,by decide +kernel,rfl,by decide +kernel,by decide +kernel⟩
theorem As(F:fH K "is_whole_within" "is_whole_within" s_ f fd)(W:ce P w K mg base bf 1 "is_whole" ["thing"] (tf K)):bv P w K mg base bf 2 f fd ["thing","least","most"] (iY K):=by
 refine F.ok CA (fun vs H Q E h=>?_) (fun cT A outer s H vs Q E hr h=>?_)
 .obtain⟨x,o,lo,hi,rfl,_⟩:=h;rfl
 .obtain⟨x,o,lo,hi,rfl,wh,k⟩:=h;refine⟨_,ao (aV (jS (aA W hr aL (aa (pv 0) af)) (jR (Bu Bs Bs (pv 1) (pv 0) (pv 2))))),?_⟩;refine⟨_,rfl,x,o,rfl,wh,?_⟩;cases wh with
  |no h=>exact⟨false,rfl,k⟩
  |int i=>
   refine⟨true,rfl,_,rfl,_,rfl,_,_,rfl,rfl,_,rfl,?_⟩;show if decide (lo<=i)=true then _ else _
   have k':Q (.bl (decide (lo<=i)&&decide (i<=hi))) H:=k;by_cases h:lo<=i
   .rw[dZ h] at k' |-;exact⟨_,rfl,_,_,rfl,rfl,k'⟩
   .rw[dY h] at k' |-;exact k'
def m4(K:PySem.W.Frag):Sp:=fun vs H Q _=>∃x o n,vs=[.int n,x]/\Wh K H x o/\Q (.bl (gA o 0 (n-1))) H
theorem E6:aH ["many","thing"] ["many","thing"] (aq xr):=⟨rfl,rfl,rfl,by decide +kernel,rfl,by decide +kernel,by decide +kernel⟩
theorem CC(F:fH K "is_house" "is_house" xr f fd)(W:ce P w K mg base bf 2 "is_whole_within" ["thing","least","most"] (iY K)):bv P w K mg base bf 3 f fd ["many","thing"] (m4 K):=by
 refine F.ok E6 (fun vs H Q E h=>?_) (fun cT A outer s H vs Q E hr h=>?_)
 .obtain⟨x,o,n,rfl,_⟩:=h;rfl
 .obtain⟨x,o,n,rfl,wh,k⟩:=h;refine⟨_,ao (aV (aA W hr aL (aa (pv 1) (aa aj (aa (aK fR (pv 0) aj) af))))),?_⟩;exact⟨_,rfl,_,rfl,_,_,rfl,rfl,x,o,0,n-1,rfl,wh,k⟩
inductive Rw (K:PySem.W.Frag) (H:Hp):V->Option (List V)->Prop where
 |tup {p:Addr} {xs:List V} (h:H p=some (.tup xs)):Rw K H (.ref p) (some xs)
 |no {x:V} {t:Value} (ty:KP K H x t) (h:PySem.W.kitOne K t (.type "tuple")=some false):Rw K H x none
def M6(o:Option (List V))(m:Int):Bool:=match o with
 |some xs=>decide ((xs.length:Int)=m)
 |none=>false
theorem E7:PySem.W.kitOne K (.type "tuple") (.type "tuple")=some true:=by kernel_rfl
def CD(K:PySem.W.Frag):Sp:=fun vs H Q _=>∃x o m,vs=[x,.int m]/\Rw K H x o/\Q (.bl (M6 o m)) H
theorem M7:aH ["thing","length"] ["thing","length"] (aq IR):=⟨rfl,rfl,rfl,by decide +kernel,rfl,by decide +kernel,by decide +kernel⟩
theorem IU(F:fH K "is_row" "is_row" IR f fd)(B:Bl mg):bv P w K mg base bf 1 f fd ["thing","length"] (CD K):=by
 refine F.ok M7 (fun vs H Q E h=>?_) (fun cT A outer s H vs Q E hr h=>?_)
 .obtain⟨x,o,m,rfl,_⟩:=h;rfl
 .obtain⟨x,o,m,rfl,W,k⟩:=h;refine⟨_,ao (aV (jS (az fU (by rfl) B.IS ni (aa (pv 0) (aa (hE (v:=.ty "tuple") rfl B.tup nu rfl) af)))
   (jR (fG d_ (az aJ (by rfl) B.len dt (aa (pv 0) af)) (pv 1) (aP _))))),?_⟩
  cases W with
  |@tup p xs h=>
   refine⟨_,rfl,_,_,_,.type "tuple",true,rfl,⟨rfl,E7⟩,.of (.tup h),true,rfl,?_⟩;refine⟨_,rfl,_,_,rfl,.inr (bZ.of h),_,rfl,rfl,?_⟩;have e:decide (V.int ((xs.length:Nat):Int)=V.int m)=decide (((xs.length:Nat):Int)=m):=by simp
   rw[e];exact k
  |no ty h=>exact⟨_,rfl,_,_,_,_,false,rfl,⟨rfl,h⟩,ty,false,rfl,k⟩
end
theorem a_(s:aG H H')(hD:H D=none):aG H (upd H' D o):=fun b u e=>by rw[am (ai e hD)];exact s b u e
theorem cg{p D:Addr}{H H':Hp}{o:HO}(s:av p H H')(hD:H D=none):av p H (upd H' D o):=fun b u e n=>by rw[am (ai e hD)];exact s b u e n
abbrev IV(ns:List Int):List V:=ns.map V.int
abbrev NV(ns:List Nat):List V:=ns.map fun (x:Nat)=>V.int (x:Int)
theorem oM(Gy Gn:Hp->Prop)(hy:∀H,Gy H->t D σ H)(hn:∀H,Gn H->u D σ H)(ht:∀Y N:Hp->Prop,(∀H,Gy H->Y H)->(∀H,Gn H->N H)->c σ H fun b H1=>if b=true then Y H1 else N H1):LK c t u D σ H:=ht _ _ hy hn
theorem iu(G:St->Hp->Prop)(hr:∀σ H,G σ H->u D σ H)(ht:∀N:St->Hp->Prop,(∀σ H,G σ H->N σ H)->t { D with nx:=N } σ H):Ec t u D σ H:=ht _ hr
theorem qB{A B:Prop}(h:A):if true=true then A else B:=by rw[ap rfl];exact h
theorem oN{A B:Prop}(h:B):if false=true then A else B:=by rw[ak (by decide)];exact h
abbrev Zs:=List (Addr×(Int×Int))
abbrev qC(u:Int×Int):HO:=.tup [.int u.1,.int u.2]
def zr(zs:Zs):List V:=zs.map fun z=>V.ref z.1
def zp(zs:Zs):List (Int×Int):=zs.map (·.2)
def PO(H:Hp)(zs:Zs):Prop:=∀z∈zs,H z.1=some (qC z.2)
theorem cj:zr (a++b)=zr a++zr b:=bT
theorem bC:zp (a++b)=zp a++zp b:=bT
theorem bP:(zr a).length=a.length:=aB _
theorem bj:(zp a).length=a.length:=aB _
theorem jc:zr a=(a.map (·.1)).map V.ref:=by unfold zr;rw[du];rfl
theorem iZ{zs:Zs}{i:Nat}{x:V}(h:(zr zs)[i]?=some x):∃z,zs[i]?=some z/\x=.ref z.1:=by
 unfold zr at h;rw[bO] at h;cases e:zs[i]? with
 |none=>rw[e] at h;cases h
 |some z=>rw[e] at h;exact⟨z,rfl,(bE h).symm⟩
theorem PO.nil:PO H []:=fun z hz=>(nomatch hz)
theorem PO.same(h:PO H zs)(s:aG H H'):PO H' zs:=fun z hz=>s _ _ (h z hz)
theorem PO.putL(h:PO H zs)(e:H D=some (.lst xs)):PO (upd H D o) zs:=fun z hz=>by
 have:=h z hz;rw[am (by rintro rfl;rw[e] at this;cases this)];exact this
theorem PO.putN(h:PO H zs)(e:H D=none):PO (upd H D o) zs:=h.same (ag e)
theorem PO.append(h:PO H a)(h':PO H b):PO H (a++b):=fun z hz=>(bg.mp hz).elim (h z) (h' z)
theorem PO.one(h:H p=some (qC u)):PO H [(p,u)]:=fun z hz=>by rw[bR.mp hz];exact h
theorem u7{zs:Zs}{i:Nat}(h:i<zs.length):(zs.map (·.1)).getD i 0=zs[i].1:=by
 rw[bh,bO,bD h];rfl
theorem yO(h:i<zs.length):(zp zs).getD i (0,0)=zs[i].2:=by
 unfold zp;rw[bh,bO,bD h];rfl
theorem xt{K:PySem.W.Frag}{AL:Bool}{H:Hp}{p l:Addr}{u:Int×Int}{zs:Zs}{Q:VK}(hp:H p=some (qC u))(hl:H l=some (.lst (zr zs)))(ho:PO H zs)(q:Q (.bl (if AL then !decide (u∈zp zs) else decide (u∈zp zs))) H):Co K AL (.ref p) (.ref l) H Q:=
 ⟨p,l,u,zs.map (·.1),zp zs,rfl,rfl,bZ.of hp,aQ.of (by rw[<-jc];exact hl),by rw[aB,bj],fun i hi=>by
  rw[bj] at hi;rw[u7 hi,yO hi];exact bZ.of (ho _ (fN hi)),q⟩
theorem qD{H:Hp}{zs:Zs}(ho:PO H zs){as:List Addr}(h:as.Perm (zs.map (·.1))):∃u8:Zs,u8.Perm zs/\as=u8.map (·.1):=by
 classical
 let f:Addr->Int×Int:=fun a=>match H a with
  |some (.tup [.int x,.int y])=>(x,y)
  |_=>(0,0)
 have e:(zs.map (·.1)).map (fun a=>(a,f a))=zs:=by
  rw[du];conv=>rhs;rw[<-iK zs]
  refine fL fun z hz=>?_;have:=ho z hz;show (z.1,f z.1)=z;have e2:f z.1=z.2:=by
   show (match H z.1 with|some (.tup [.int x,.int y])=>(x,y)|_=>(0,0))=z.2;rw[this]
  rw[e2]
 refine⟨as.map fun a=>(a,f a),?_,?_⟩
 .have:=h.map (fun a=>(a,f a));rw[e] at this;exact this
 .rw[du];exact(iK as).symm
abbrev VN(us:List (Int×Int)):Prop:=us=us
theorem E8{K:PySem.W.Frag}{H:Hp}{l:Addr}{zs:Zs}{Q:VK}(hl:H l=some (.lst (zr zs)))(ho:PO H zs)(hz:zs.length<=4096)(hb:∀u∈zp zs,0<=u.2/\u.2<64)(q:∀ (D:Addr) (u8:Zs),H D=none->u8.Perm zs->VN (zp u8)->Q (.ref D) (upd H D (.lst (zr u8)))):xg K [.ref l] H Q:=by
 refine⟨l,zs.map (·.1),rfl,aQ.of (by rw[<-jc];exact hl),fun a ha=>?_,by rw[aB];exact hz,fun D uS hD hp=>?_⟩
 .obtain⟨z,hz,rfl⟩:=aW.mp ha;exact⟨_,_,bZ.of (ho z hz)⟩
 .obtain⟨u8,h1,rfl⟩:=qD ho hp;rw[<-jc];exact q D u8 hD h1 rfl
theorem CF{K:PySem.W.Frag}{a D:Addr}{zs0:Zs}{g:TG}{tt:TT}{te:TE}{dN:Hp->Prop}{σB:St}{H0:Hp}(F:Int×Int->Int×Int)(bQ:St->Prop)(ha:H0 a=some (.lst (zr zs0)))(IW:PO H0 zs0)(hD:H0 D=none)(hn:zs0.length<=100000)(h0:bQ σB)(hs:∀z σ H (R:V->St->Hp->Prop) (Kf:St->Hp->Prop),z∈zs0->bQ σ->H z.1=some (qC z.2)->(∀σ2 p,bQ σ2->H p=none->R (.ref p) σ2 (upd H p (qC (F z.2))))->g (.ref z.1) σ H fun σ2 H2=>tt σ2 H2 fun b H3=>if b=true then te σ2 H3 fun v H4=>R v σ2 H4 else Kf σ2 H3)(hd:∀zs H,aG H0 H->H D=some (.lst (zr zs))->PO H zs->zp zs=(zp zs0).map F->(∀z∈zs,H0 z.1=none)->dN H):gH (AJ K a) g tt te D dN σB (upd H0 D (.lst [])):=by
 refine cu (xs:=zr zs0) (fun i ys σ H=>bQ σ/\aG H0 H/\H D=some (.lst ys)/\∃zs:Zs,ys=zr zs/\PO H zs/\zp zs=((zp zs0).take i).map F/\∀z∈zs,H0 z.1=none) ⟨h0,ag hD,ab,[],rfl,PO.nil,rfl,fun z hz=>nomatch hz⟩ (fun i ys σ H _ z=>aQ.of (z.2.1 _ _ ha)) ?_ ?_
 .rintro i x ys σ H Kt Kf hx ⟨sh,sm,iw,zs,rfl,po,ep,fr⟩ kt kf;obtain⟨z,hz,rfl⟩:=iZ hx;have hi:i<zs0.length:=(cD.mp hz).1;have pe:z∈zs0:=cE hz;have hl:zs.length=i:=by rw[<-bj,ep,aB,jH,bj];lia
  refine hs z σ H Kt Kf pe sh (sm _ _ (IW z pe)) (fun σ2 p u9 hp=>?_)
  .have nD:D≠p:=ai iw hp;refine kt _ _ _ (by rw[am nD];exact iw) (by rw[bP,hl];exact bN hi (a7 hn (by decide))) ⟨u9,a_ (sm.trans (ag hp)) hD,ab,zs++[(p,F z.2)],?_,?_,?_,?_⟩
   .rw[cj];rfl
   .refine PO.putL (xs:=zr zs) ?_ (by rw[am nD];exact iw);exact(po.putN hp).append (PO.one ab)
   .have e2:(zp zs0)[i]?=some z.2:=by unfold zp;rw[bO,hz];rfl
    rw[bC,ep,eI,e2,iA,bT];rfl
   .intro z hz;rcases bg.mp hz with z'|z'
    .exact fr z z'
    .rw[bR.mp z'];exact sm.free hp
 .rintro ys σ H ⟨_,sm,iw,zs,rfl,po,ep,fr⟩;rw[bP,<-bj,gf] at ep;exact hd zs H sm iw po ep fr
open oI
abbrev yP:Stmt:=sf (gG 23) 0
abbrev IX:Stmt:=sf (gG 23) 4
abbrev xu:Stmt:=sf (gG 23) 8
theorem Yr:¬ (("house_count":Str)="tie_list"):=by decide +kernel
theorem Yt:¬ (("house_count":Str)="out_lists"):=by decide +kernel
theorem Yu:¬ (("house_count":Str)="distances"):=by decide +kernel
def tj(n:Int)(tl ol ds:Addr):List (Str×V):=cN "distances" (.ref ds) (cN "out_lists" (.ref ol) (cN "tie_list" (.ref tl) (cN "house_count" (.int n) [])))
theorem E9(n:Int)(tl ol ds:Addr):(tj n tl ol ds).lookup ("house_count":Str)=some (.int n):=by
 unfold tj;rw[bz,ak Yu,bz,ak Yt,bz,ak Yr,bz,ap rfl]
theorem yQ(n:Int)(tl ol ds:Addr){m:Str}(h1:¬ m="house_count")(h2:¬ m="tie_list")(h3:¬ m="out_lists")(h4:¬ m="distances"):(tj n tl ol ds).lookup m=none:=by
 unfold tj;rw[bz,ak h4,bz,ak h3,bz,ak h2,bz,ak h1];all_goals rfl
theorem E_(n:Int)(tl ol ds:Addr):(tj n tl ol ds).lookup ("distances":Str)=some (.ref ds):=by
 unfold tj;rw[bz,ap rfl]
def j6(H:Hp)(L:Addr->Prop)(l:Addr)(n:Nat)(r:Nat->List Nat):Prop:=∃bs:List Addr,H l=some (.lst (bs.map V.ref))/\(∀b∈bs,L b)/\Holds H bs n (fun h=>.lst (NV (r h)))
theorem j6.keep(R:j6 H L l n r)(hl:L l)(k:∀b o,L b->H b=some o->H' b=some o):j6 H' L l n r:=
 let ⟨bs,a,b,c⟩:=R
 ⟨bs,k _ _ hl a,b,c.mono fun j hj e=>k _ _ (b _ (by rw[bh,bD (by rw[c.1];exact hj)];exact fN _)) e⟩
theorem j6.row(R:j6 H L l n r)(hh:h<n):∃ (bs:List Addr) (b:Addr),H l=some (.lst (bs.map V.ref))/\(bs.map V.ref)[h]?=some (V.ref b)/\H b=some (.lst (NV (r h)))/\L b:=by
 obtain⟨bs,a,b,c⟩:=R;have hl:h<bs.length:=by rw[c.1];exact hh
 refine⟨bs,bs[h],a,by rw[bO,bD hl];rfl,?_,b _ (fN _)⟩;have:=c.2 h hh;rw[bh,bD hl] at this;exact this
def Fb(H:Hp)(L:Addr->Prop)(tl:Addr)(ts:Ts):Prop:=L tl/\∃zs:Zs,H tl=some (.lst (zr zs))/\PO H zs/\(∀z∈zs,L z.1)/\(zp zs).Perm ts/\VN (zp zs)
theorem Fb.keep(h:Fb H L tl ts)(k:∀b o,L b->H b=some o->H' b=some o):Fb H' L tl ts:=
 let ⟨a,zs,b,c,d,e⟩:=h;⟨a,zs,k _ _ a b,fun z hz=>k _ _ (d z hz) (c z hz),d,e⟩
structure ix(C:Addr)(H:Hp)(L:Addr->Prop)(p:Addr)(n:Nat)(ts:Ts):Prop where
 j4:bL n ts
 ob:∃dx tl ol ds,H p=some (.ins C dx (tj n tl ol ds))/\L ol/\L ds/\j6 H L ol n (ig n ts)/\j6 H L ds n (fun h=>(List.range n).map (far ts h))/\Fb H L tl ts
theorem ix.keep(N:ix C H L p n ts)(k:∀b o,L b->H b=some o->H' b=some o)(kp:∀o,H p=some o->H' p=some o):ix C H' L p n ts:=
 let ⟨dx,tl,ol,ds,a,l1,l2,b,c,d⟩:=N.ob
 ⟨N.j4,dx,tl,ol,ds,kp _ a,l1,l2,b.keep l1 k,c.keep l2 k,d.keep k⟩
theorem ix.same(N:ix C H L p n ts)(s:aG H H'):ix C H' L p n ts:=N.keep (fun b o _ e=>s b o e) (fun o e=>s _ o e)
structure NT(K:PySem.W.Frag)(mg:Str->Option Value)(C:Addr):Prop where
 cl:DS K C
 nH:gx K C "house_count"
 nT:gx K C "tie_list"
 nO:gx K C "out_lists"
 nD:gx K C "distances"
 Yv:mg "Net"=some (.ref C)
structure CG(P:Program)(w:World)(K:PySem.W.Frag)(mg:Str->Option Value)(base:Heap)(CX:uk)(k:Nat)(C:Addr)(x:Str)(ps:List Str)(sp:Sp):Prop where
 ex:∃f fd,Ie K C x f/\iQ K fd ps []/\bv P w K mg base CX k f fd ps sp
section
variable {P:Program} {w:World} {K:PySem.W.Frag} {mg:Str->Option Value} {base:Heap}
theorem Fc:aH ["self","thing"] ["self","thing"] (aq xu):=⟨rfl,rfl,rfl,by decide +kernel,rfl,by decide +kernel,by decide +kernel⟩
theorem lP{i n:Nat}(h:i<n):gA (some (i:Int)) 0 ((n:Int)-1)=true:=by unfold gA;simp;lia
def oO(C:Addr):Sp:=fun vs H Q _=>∃ (L:Addr->Prop) (p:Addr) (n:Nat) (ts:Ts) (i:Nat),vs=[.ref p,.int i]/\ix C H L p n ts/\i<n/\Q .bw H
theorem At{f C:Addr}{fd:FuncData}(F:fH K "check_house" "Net.check_house" xu f fd)(T:NT K mg C)(HH:ce P w K mg base bf 3 "is_house" ["many","thing"] (m4 K)):
  bv P w K mg base bf 4 f fd ["self","thing"] (oO C):=by
 refine F.ok Fc (fun vs H Q E h=>?_) (fun cT A outer s H vs Q E hr h=>?_)
 .obtain⟨L,p,n,ts,i,rfl,_⟩:=h;rfl
 .obtain⟨L,p,n,ts,i,rfl,N,hi,k⟩:=h;obtain⟨dx,tl,ol,ds,h1,_⟩:=N.ob;refine⟨_,ao (b8 (hU (dQ (aA HH hr aL (aa (rX (pv 0) rfl) (aa (pv 1) af))))) dW a9),?_⟩;refine⟨_,rfl,p,C,dx,_,_,rfl,h1,T.cl,T.nH,E9 _ _ _ _,_,rfl,_,some (i:Int),n,rfl,.int _,_,rfl,?_⟩;rw[lP hi];exact fg k
theorem M8(n:Int)(tl ol ds:Addr):(tj n tl ol ds).lookup ("check_house":Str)=none:=yQ n tl ol ds (by decide +kernel) (by decide +kernel) (by decide +kernel) (by decide +kernel)
theorem M9(n:Int)(tl ol ds:Addr):(tj n tl ol ds).lookup ("far":Str)=none:=yQ n tl ol ds (by decide +kernel) (by decide +kernel) (by decide +kernel) (by decide +kernel)
theorem dF:(NV xs).length=xs.length:=aB _
theorem M_:aH ["self","one","other"] ["self","one","other"] (aq IX):=⟨rfl,rfl,rfl,by decide +kernel,rfl,by decide +kernel,by decide +kernel⟩
def xv(C:Addr):Sp:=fun vs H Q _=>∃ (L:Addr->Prop) (p:Addr) (n:Nat) (ts:Ts) (i j:Nat),vs=[.ref p,.int i,.int j]/\ix C H L p n ts/\i<n/\j<n/\Q (.int (far ts i j:Nat)) H
theorem Fe(F:fH K "far" "Net.far" IX f fd)(T:NT K mg C)(M:CG P w K mg base bf 4 C "check_house" ["self","thing"] (oO C)):
  bv P w K mg base bf 5 f fd ["self","one","other"] (xv C):=by
 obtain⟨fM,fdM,mM,bM,GM⟩:=M.ex;refine F.ok M_ (fun vs H Q E h=>?_) (fun cT A outer s H vs Q E hr h=>?_)
 .obtain⟨L,p,n,ts,i,j,rfl,_⟩:=h;rfl
 .obtain⟨L,p,n,ts,i,j,rfl,N,hi,hj,k⟩:=h;obtain⟨dx,tl,ol,ds,h1,_,_,_,R,_⟩:=N.ob;refine⟨_,ah (bK (mT (pv 0) T.cl mM GM hr bM .nil aL (aa (pv 1) af)))
   (ah (bK (mT (pv 0) T.cl mM GM hr bM .nil aL (aa (pv 2) af)))
   (ao (aV (aN aF (aN aF (rX (pv 0) rfl) (pv 1) (fun _ _=>rfl)) (pv 2) (fun _ _=>rfl))))),?_⟩
  refine⟨_,rfl,p,dx,_,rfl,h1,M8 _ _ _ _,_,rfl,L,p,n,ts,i,rfl,N,hi,?_⟩;refine⟨_,rfl,p,dx,_,rfl,h1,M8 _ _ _ _,_,rfl,L,p,n,ts,j,rfl,N,hj,?_⟩;obtain⟨bs,b,r1,r2,r3,_⟩:=R.row hi;have hg:(NV ((List.range n).map (far ts i)))[j]?=some (.int (far ts i j:Nat)):=by
   rw[bO,bO,kg hj];rfl
  exact⟨_,rfl,p,C,dx,_,_,rfl,h1,T.cl,T.nD,E_ _ _ _ _,_,rfl,ds,_,_,_,rfl,rfl,aQ.of r1,aE r2,_,rfl,b,_,_,_,rfl,rfl,aQ.of r3,aE hg,k⟩
end
open PySem L2 oI
abbrev xw:Stmt:=gG 24
abbrev IY:Stmt:=gG 25
abbrev IZ:Stmt:=gG 26
section
variable {P:Program} {w:World} {K:PySem.W.Frag} {mg:Str->Option Value} {base:Heap}
abbrev I0:Stmt:=gG 7
theorem Na:aH ["many","one","other"] ["many","one","other"] (aq I0):=⟨rfl,rfl,rfl,by decide +kernel,rfl,by decide +kernel,by decide +kernel⟩
def CH:Sp:=fun vs H Q _=>∃ (n a b:Int),vs=[.int n,.int a,.int b]/\0<=a/\a<n/\0<=b/\b<n/\a≠b/\Q (.bl true) H
theorem I_(F:fH K "are_unlike_houses" "are_unlike_houses" I0 f fd)(HH:ce P w K mg base bf 3 "is_house" ["many","thing"] (m4 K)):
  bv P w K mg base bf 4 f fd ["many","one","other"] CH:=by
 refine F.ok Na (fun vs H Q E h=>?_) (fun cT A outer s H vs Q E hr h=>?_)
 .obtain⟨n,a,b,rfl,_⟩:=h;rfl
 .obtain⟨n,a,b,rfl,a1,a2,b1,b2,t7,k⟩:=h;refine⟨_,ao (aV (jS (aA HH hr aL (aa (pv 0) (aa (pv 1) af))) (jS (aA HH hr aL (aa (pv 0) (aa (pv 2) af))) (jR (fG pU (pv 1) (pv 2) (aP _)))))),?_⟩;refine⟨_,rfl,_,rfl,_,_,n,rfl,.int a,_,rfl,?_⟩;rw[ap (show gA (some a) 0 (n-1)=true by unfold gA;simp;lia)];refine⟨_,rfl,_,rfl,_,_,n,rfl,.int b,_,rfl,?_⟩;rw[ap (show gA (some b) 0 (n-1)=true by unfold gA;simp;lia)];refine⟨_,rfl,_,rfl,rfl,?_⟩;have e:(!decide (V.int a=V.int b))=true:=by simp[t7]
  rw[e];exact k
theorem Nb:aH ["many","thing"] ["many","thing"] (aq IY):=⟨rfl,rfl,rfl,by decide +kernel,rfl,by decide +kernel,by decide +kernel⟩
def CI:Sp:=fun vs H Q _=>∃ (n:Int) (p:Addr) (a b:Int),vs=[.int n,.ref p]/\H p=some (.tup [.int a,.int b])/\0<=a/\a<n/\0<=b/\b<n/\a≠b/\Q (.bl true) H
theorem Ja(F:fH K "is_tie" "is_tie" IY f fd)(R:ce P w K mg base bf 1 "is_row" ["thing","length"] (CD K))(U:ce P w K mg base bf 4 "are_unlike_houses" ["many","one","other"] CH):
  bv P w K mg base bf 5 f fd ["many","thing"] CI:=by
 refine F.ok Nb (fun vs H Q E h=>?_) (fun cT A outer s H vs Q E hr h=>?_)
 .obtain⟨n,p,a,b,rfl,_⟩:=h;rfl
 .obtain⟨n,p,a,b,rfl,hp,a1,a2,b1,b2,t7,k⟩:=h;refine⟨_,ao (aV (jS (aA R (hr.mono (by decide)) aL (aa (pv 1) (aa aj af)))
   (jR (aA U hr aL (aa (pv 0) (aa (aN bV (pv 1) aj (fun _ _=>rfl)) (aa (aN bV (pv 1) aj (fun _ _=>rfl)) af))))))),?_⟩
  refine⟨_,rfl,_,_,_,rfl,.tup hp,true,rfl,?_⟩;exact⟨_,rfl,_,rfl,p,_,_,_,rfl,rfl,bZ.of hp,aE (j:=0) rfl,_,rfl,p,_,_,_,rfl,rfl,bZ.of hp,aE (j:=1) rfl,n,a,b,rfl,a1,a2,b1,b2,t7,k⟩
theorem yR:aH ["many","ties","tie"] ["many","ties"] (aq xw):=⟨rfl,rfl,rfl,by decide +kernel,rfl,by decide +kernel,by decide +kernel⟩
theorem oP:PySem.W.kitOne K (.type "list") (.type "list")=some true:=by kernel_rfl
structure fh(H:Hp)(l:Addr)(n:Nat)(zs:Zs):Prop where
 j4:bL n (zp zs)
 at_:H l=some (.lst (zr zs))
 po:PO H zs
theorem fh.same(h:fh H l n zs)(s:aG H H'):fh H' l n zs:=⟨h.j4,s _ _ h.at_,h.po.same s⟩
def jd:Sp:=fun vs H Q _=>∃ (n:Nat) (l:Addr) (zs:Zs),vs=[.int n,.ref l]/\fh H l n zs/\∀H',aG H H'->Q .bw H'
theorem CJ(F:fH K "check_ties" "check_ties" xw f fd)(B:Bl mg)(gF:∃t,mg "FEWEST_HOUSES"=some (.int 2 t))(gM:∃t,mg "MOST_HOUSES"=some (.int 32 t))(W:ce P w K mg base bf 2 "is_whole_within" ["thing","least","most"] (iY K))(T:ce P w K mg base bf 5 "is_tie" ["many","thing"] CI):
  bv P w K mg base bf 6 f fd ["many","ties"] jd:=by
 obtain⟨tF,gF⟩:=gF;obtain⟨tM,gM⟩:=gM;refine F.ok yR (fun vs H Q E h=>?_) (fun cT A outer s H vs Q E hr h=>?_)
 .obtain⟨n,l,zs,rfl,_⟩:=h;rfl
 .refine⟨_,ah (b8 (hU (dQ (aA W (hr.mono (by decide)) aL (aa (pv 0) (aa (rP (v:=.int 2) rfl gF ⟨_,rfl⟩) (aa (rP (v:=.int 32) rfl gM ⟨_,rfl⟩) af)))))) dW a9)
   (ah (b8 (hU (dQ (az fU (by rfl) B.IS ni (aa (pv 1) (aa (hE (v:=.ty "list") rfl B.lst jo rfl) af))))) dW a9)
   (ah (cA dq rfl (bH (pv 1)) (au (i:=2) yR.nd rfl (Or.inl rfl)) (ao (b8 (hU (dQ (aA T hr aL (aa (pv 0) (aa (pv 2) af))))) dW a9)))
   (ao (b8 (aD pU (az uC (by rfl) B.len dt (aa (bA (zY rfl (by have:=hr.un;show (A.deeper _).units+8<_;lia)) (by rfl) B.set PyProof.Rows.boot_set (aa (pv 1) af)) af)) (az aJ (by rfl) B.len dt (aa (pv 1) af)) (aP _)) dW a9)))),?_⟩
  obtain⟨n,l,zs,rfl,tt,k⟩:=h;obtain⟨fi,hl,po⟩:=id tt;have n1:=fi.n1;have n2:=fi.n2;refine⟨_,rfl,_,_,2,32,rfl,.int n,_,rfl,?_⟩;rw[show gA (some (n:Int)) 2 32=true by unfold gA;simp;lia];refine fg ?_;refine⟨_,rfl,_,_,_,.type "list",true,rfl,⟨rfl,oP⟩,.of (.lst hl),_,rfl,fg ?_⟩;refine⟨_,rfl,l,rfl,⟨_,aQ.of hl⟩,iP (K:=K) (a:=l) (xs:=zr zs) (fun i σ H2=>H2=H/\∃v,σ=[some (.int n),some (.ref l),v]) ⟨rfl,none,rfl⟩ (fun i σ H2 _ ⟨e,_⟩=>by rw[e];exact aQ.of hl) ?_ ?_⟩
  .rintro i x σ H2 hx ⟨rfl,v,rfl⟩;obtain⟨z,hz,rfl⟩:=iZ hx;have pe:z∈zs:=cE hz;have VO:z.2∈zp zs:=aW.mpr ⟨z,pe,rfl⟩;have r:=fi.rg _ VO;exact⟨_,rfl,_,rfl,n,_,_,_,rfl,po z pe,r.1.1,r.1.2,r.2.1,r.2.2,fi.ne _ VO,_,rfl,fg ⟨rfl,_,rfl⟩⟩
  .rintro σ H2 ⟨rfl,v,rfl⟩;have dI:(zp zs).length<=256:=fi.len;refine⟨_,rfl,l,zs.map (·.1),zp zs,rfl,aQ.of (by rw[<-jc];exact hl),by rw[aB,bj],fun i hi=>?_,fi.nd,fun y hy=>?_,by lia,fun D hD=>?_⟩
   .rw[bj] at hi;rw[u7 hi,yO hi];exact bZ.of (po _ (fN hi))
   .have r:=fi.rg _ hy;lia
   .have nl:l≠D:=ai hl hD;refine⟨D,_,rfl,ab,by lia,_,rfl,l,zr zs,rfl,.inl (aQ.of (by rw[am nl];exact hl)),rfl,_,rfl,?_⟩;have ez:(!decide (V.int (((zp zs).length:Nat):Int)=V.int (((zr zs).length:Nat):Int)))=false:=by rw[bj,bP];simp
    rw[ez];exact fg (k _ (ag hD))
end
abbrev u_:Stmt:=gG 27
section
variable {P:Program} {w:World} {K:PySem.W.Frag} {mg:Str->Option Value} {base:Heap}
theorem lQ(S:St->Prop)(p q:Int×Int->Int)(h:Int)(hD:H D=none)(hl:H l=some (.lst (zr zs)))(po:PO H zs)(hn:zs.length<=1000)(s0:S σB)(hg:∀z σ H2 (Kt:V->St->Hp->Prop) (Kf:St->Hp->Prop),z∈zs->S σ->H2 z.1=some (qC z.2)->(∀σ2,S σ2->p z.2=h->Kt (.int (q z.2)) σ2 H2)->(∀σ2,S σ2->p z.2≠h->Kf σ2 H2)->
   g (.ref z.1) σ H2 fun σ2 H2=>tt σ2 H2 fun b H3=>if b=true then te σ2 H3 fun v H4=>Kt v σ2 H4 else Kf σ2 H3)(hd:dN (upd H D (.lst (IV (((zp zs).filter fun y=>decide (p y=h)).map q))))):gH (AJ K l) g tt te D dN σB (upd H D (.lst [])):=by
 have nl:l≠D:=ai hl hD;have tk:∀ {i:Nat} {z:Addr×(Int×Int)},zs[i]?=some z->(zp zs).take (i+1)=(zp zs).take i++[z.2]:=fun {i z} hz=>by
  rw[eI,show (zp zs)[i]?=some z.2 by unfold zp;rw[bO,hz];rfl];rfl
 refine cu (xs:=zr zs) (fun i ys σ H2=>S σ/\ys=IV ((((zp zs).take i).filter fun y=>decide (p y=h)).map q)/\H2=upd H D (.lst ys)) ⟨s0,by simp,rfl⟩ (fun i ys σ H2 _ ⟨_,_,e⟩=>by rw[e];exact aQ.of (by rw[am nl];exact hl)) ?_ ?_
 .rintro i x ys σ H2 Kt Kf hx ⟨hS,ey,rfl⟩ kt kf;obtain⟨z,hz,rfl⟩:=iZ hx;have pe:z∈zs:=cE hz;have hp:=po z pe;have na:z.1≠D:=ai hp hD;have hi:i<zs.length:=(cD.mp hz).1;refine hg z σ _ Kt Kf pe hS (by rw[am na];exact hp) (fun σ2 s2 e=>?_) (fun σ2 s2 e=>?_)
  .refine kt _ _ _ ab ?_ ⟨s2,?_,?_⟩
   .rw[ey,aB,aB];exact iB (io _ _) (iB (List.length_take_le _ _) (bN (show i<1000 by lia) (by decide)))
   .rw[ey,tk hz,ge,bT];have:decide (p z.2=h)=true:=by simp[e]
    simp[eK,this]
   .rw[kj]
  .refine kf _ _ ⟨s2,?_,rfl⟩;have:decide (p z.2=h)=false:=by simp[e]
   rw[ey,tk hz,ge];simp[eK,this]
 .rintro ys σ H2 ⟨_,ey,rfl⟩;rw[bP,<-bj,gf] at ey;rw[ey];exact hd
theorem K1:(["one","other","house"]:List Str).Nodup:=by decide +kernel
theorem yS:aH ["many","ties","house","leading_out","leading_in"] ["many","ties"] (aq IZ):=⟨rfl,rfl,rfl,by decide +kernel,rfl,by decide +kernel,by decide +kernel⟩
theorem Jb(F:fH K "check_balance" "check_balance" IZ f fd)(B:Bl mg)(gM:∃t,mg "MOST_TIES_OUT"=some (.int 8 t)):
  bv P w K mg base bf 1 f fd ["many","ties"] jd:=by
 obtain⟨tM,gM⟩:=gM;refine F.ok yS (fun vs H Q E h=>?_) (fun cT A outer s H vs Q E hr h=>?_)
 .obtain⟨n,l,zs,rfl,_⟩:=h;rfl
 .obtain⟨n,l,zs,rfl,T,k⟩:=h;have fi:=T.j4;have n1:=fi.n1;have n2:=fi.n2;have dI:zs.length<=256:=by have:=fi.len;rw[bj] at this;exact this
  refine'⟨_,ao (cA dq rfl (aU rfl B.range (aa (pv 0) af)) (au (i:=2) yS.nd rfl (Or.inr rfl))
   (ah (aw (i:=3) yS.nd rfl (Or.inl rfl) (az aJ (by rfl) B.len dt (aa ?c1 af)))
   (ah (aw (i:=4) yS.nd rfl (Or.inl rfl) (az aJ (by rfl) B.len dt (aa ?c2 af)))
   (ah (b8 (aD pU (pv 3) (pv 4) (aP _)) dW a9)
   (ao (b8 (aD Bt (pv 3) (rP (v:=.int 8) rfl gM ⟨_,rfl⟩) (aP _)) dW a9)))))),?_⟩
  case c1=>
   refine' bt (g:=rR K 2 (eZ (bb 0) (eZ (bb 1) rQ))) (NB:=["one","other","house"]) (src:=[none,none,some 2]) (br (by kernel_rfl)) rfl (bH (pv 1)) ?g ?t ?e;case g=>exact fun cl C s₃ H₃ fp=>eN (n:=2) rfl (aY (au (i:=0) K1 rfl (Or.inl rfl) (Or.inr rfl)) (aY (au (i:=1) K1 rfl (Or.inl rfl) (Or.inr rfl)) de))
   case t=>exact fun cl C s₃ H₃ fp=>dO (aD d_ (pv 0) (pv 2) (aP _))
   case e=>exact fun cl C s₃ H₃ fp=>pv 0
  case c2=>
   refine' bt (g:=rR K 2 (eZ (bb 0) (eZ (bb 1) rQ))) (NB:=["one","other","house"]) (src:=[none,none,some 2]) (br (by kernel_rfl)) rfl (bH (pv 1)) ?g ?t ?e;case g=>exact fun cl C s₃ H₃ fp=>eN (n:=2) rfl (aY (au (i:=0) K1 rfl (Or.inl rfl) (Or.inr rfl)) (aY (au (i:=1) K1 rfl (Or.inl rfl) (Or.inr rfl)) de))
   case t=>exact fun cl C s₃ H₃ fp=>dO (aD d_ (pv 1) (pv 2) (aP _))
   case e=>exact fun cl C s₃ H₃ fp=>pv 1
  refine⟨_,rfl,n,rfl,by lia,by lia,cf (n:=n) (lo:=0) (fun i σ H2=>aG H H2/\∃a b c,σ=[some (.int n),some (.ref l),a,b,c]) ⟨aG.refl _,none,none,none,rfl⟩ ?_ ?_⟩
  .rintro i σ H2 hi ⟨sm,a,b,c,rfl⟩;have T2:=T.same sm;refine⟨_,rfl,l,rfl,⟨_,aQ.of T2.at_⟩,fun D hD=>lQ (fun σ=>∃a b,σ=[a,b,some (.int (0+(i:Int)))]) (·.1) (·.1) (0+(i:Int)) hD T2.at_ T2.po (by lia) ⟨_,_,rfl⟩ ?_ ?_⟩
   .rintro z σ H3 Kt Kf hj ⟨x,y,rfl⟩ ha kt kf;refine⟨z.1,_,rfl,bZ.of ha,rfl,_,_,rfl,_,_,rfl,rfl,?_⟩;refine⟨_,rfl,_,rfl,rfl,_,rfl,?_⟩;refine cW (fun e=>?_) (fun e=>?_)
    .exact⟨_,rfl,kt _ ⟨_,_,rfl⟩ (by simpa using e)⟩
    .exact kf _ ⟨_,_,rfl⟩ (by simpa using e)
   .refine⟨D,_,rfl,.inl (aQ.of ab),?_⟩;have AR:=a_ (o:=.lst (IV (((zp zs).filter fun y=>decide (y.1=0+(i:Int))).map (·.1)))) (sm.trans (aG.refl _)) (H:=H) (by cases z:H D with|none=>rfl|some o=>rw[sm _ _ z] at hD;cases hD);have T3:=T.same AR;refine⟨_,rfl,l,rfl,⟨_,aQ.of T3.at_⟩,fun D' VP=>lQ (fun σ=>∃a b,σ=[a,b,some (.int (0+(i:Int)))]) (·.2) (·.2) (0+(i:Int)) VP T3.at_ T3.po (by lia) ⟨_,_,rfl⟩ ?_ ?_⟩
    .rintro z σ H3 Kt Kf hj ⟨x,y,rfl⟩ ha kt kf;refine⟨z.1,_,rfl,bZ.of ha,rfl,_,_,rfl,_,_,rfl,rfl,?_⟩;refine⟨_,rfl,_,rfl,rfl,_,rfl,?_⟩;refine cW (fun e=>?_) (fun e=>?_)
     .exact⟨_,rfl,kt _ ⟨_,_,rfl⟩ (by simpa using e)⟩
     .exact kf _ ⟨_,_,rfl⟩ (by simpa using e)
    .refine⟨D',_,rfl,.inl (aQ.of ab),?_⟩;rw[dH] at *;have q1:(IV (((zp zs).filter fun y=>decide (y.1=(i:Int))).map (·.1))).length=(IV (((zp zs).filter fun y=>decide (y.2=(i:Int))).map (·.2))).length:=by
      rw[aB,aB,aB,aB];exact fi.uX i
     have q2:(IV (((zp zs).filter fun y=>decide (y.1=(i:Int))).map (·.1))).length<=8:=by
      rw[aB,aB];exact fi.most i
     refine⟨_,rfl,_,rfl,rfl,_,rfl,?_⟩;rw[<-q1];rw[show (!decide (V.int (((IV (((zp zs).filter fun y=>decide (y.1=(i:Int))).map (·.1))).length:Nat):Int)=V.int (((IV (((zp zs).filter fun y=>decide (y.1=(i:Int))).map (·.1))).length:Nat):Int)))=false by simp];refine fg ?_;refine⟨_,rfl,_,_,rfl,rfl,_,rfl,?_⟩;rw[show decide ((((IV (((zp zs).filter fun y=>decide (y.1=(i:Int))).map (·.1))).length:Nat):Int) > 8)=false by rw[decide_eq_false_iff_not];lia];exact fg ⟨AR.trans (ag VP),_,_,_,rfl⟩
  .rintro σ H2 ⟨sm,a,b,c,rfl⟩;exact k H2 sm
end
def Ff:Expr:=match (cr u_).getD 1 (.Pass ⟨0,0,0,0⟩) with
 |.Return (some (.Call _ _ (k::_) _)) _=>k.value
 |_=>.Name "x" ⟨0,0,0,0⟩
def Fg:Arguments:=match Ff with
 |.Lambda a _ _ _=>a
 |_=>{ posonlyargs:=[],args:=[],vararg:=none,kwonlyargs:=[],kw_defaults:=[],kwarg:=none,defaults:=[] }
def Fh:Expr:=match Ff with
 |.Lambda _ b _ _=>b
 |e=>e
def Nc:Scope:=match Ff with
 |.Lambda _ _ s _=>s
 |_=>{ kind:=.function,names:=[],isGenerator:=false,isCoroutine:=false }
def Jc:Pos:=match Ff with
 |.Lambda _ _ _ p=>p
 |_=>⟨0,0,0,0⟩
def Hh:Str:=("houses_out":Str)++".<locals>."++"<lambda>"
abbrev kR(Pt:Addr)(H:Hp):Prop:=B7 Jc Hh Pt H
def va(Pt:Addr)(H H':Hp):Prop:=∀b o,H b=some o->b≠Pt->H' b=some o
theorem va.of(a:aG H H'):va Pt H H':=fun c o h _=>a c o h
theorem kR.not(t:kR Pt H)(h:H b=some o)(n:∀ps,o≠.my ps):b≠Pt:=by
 rintro rfl;rcases t with z|⟨c,z,_⟩ <;> · rw[h] at z;exact n _ (bE z)
theorem kR.same(t:kR Pt H)(e:aG H H'):kR Pt H':=by
 rcases t with z|⟨c,z,y⟩
 .exact .inl (e _ _ z)
 .exact .inr ⟨c,e _ _ z,e _ _ y⟩
theorem Fj{n a b h:Int}(hn:0<n)(a0:0<=a)(a1:a<n)(b0:0<=b)(b1:b<n)(e:(a-h) % n=(b-h) % n):a=b:=by
 have h1:=Int.emod_emod_of_dvd (a-h) (Int.dvd_refl n);have q:(a-b) % n=0:=by
  have:a-b=(a-h)-(b-h):=by lia
  rw[this,Int.sub_emod,e,Int.sub_self,Int.zero_emod]
 obtain⟨c,hc⟩:=Int.dvd_of_emod_eq_zero q;have c0:c=0:=by
  rcases Int.lt_trichotomy c 0 with z|z|z
  .have:n*c<=n*(-1):=pO (by lia) (by lia);lia
  .exact z
  .have:n*1<=n*c:=pO (by lia) (by lia);lia
 rw[c0] at hc;lia
theorem pI{ts:Ts}{h:Int}(nd:ts.Nodup):((ts.filter fun y=>decide (y.1=h)).map (·.2)).Nodup:=by
 refine L2.lG (nd.filter _) fun x hx y hy e=>?_;have a:=(cY.mp hx).2;have b:=(cY.mp hy).2;simp at a b;exact dE (a.trans b.symm) e
theorem Au{n:Nat}{ts:Ts}{h:Nat}(F:bL n ts)(hh:h<n){out:List Int}(ko:Iz (h:Int) (n:Int) ((ts.filter fun y=>decide (y.1=(h:Int))).map (·.2)) out):out.map V.int=NV (ig n ts h):=by
 obtain⟨ps,hp,rfl,hs⟩:=ko;have z7:(ps.map (·.2)).Perm ((ts.filter fun y=>decide (y.1=(h:Int))).map (·.2)):=by
  have:=hp.map (·.2);rw[du] at this;refine this.trans (rm ?_);conv=>rhs;rw[<-iK ((ts.filter fun y=>decide (y.1=(h:Int))).map (·.2))]
  rfl
 have mem:∀z,z∈ps.map (·.2)↔((h:Int),z)∈ts:=fun z=>by
  rw[z7.mem_iff,aW];constructor
  .rintro⟨y,hy,rfl⟩;obtain⟨y1,y2⟩:=cY.mp hy;have:y.1=(h:Int):=by simpa using y2
   rw[<-this];exact y1
  .intro hz;exact⟨_,cY.mpr ⟨hz,by simp⟩,rfl⟩
 have nd:(ps.map (·.2)).Nodup:=z7.nodup_iff.mpr (pI F.nd);have key:∀q∈ps,q.1=(q.2-(h:Int)) % (n:Int):=fun q hq=>by
  obtain⟨z,_,e⟩:=aW.mp (hp.mem_iff.mp hq);rw[<-e]
 have hn:(0:Int)<n:=by have:=F.n1;lia
 have sorted:(ps.map (·.2)).Pairwise fun x y=>(x-(h:Int)) % (n:Int)<(y-(h:Int)) % (n:Int):=by
  refine jp.mpr ?_;have G_:=jp.mp nd;refine(hs.and G_).imp_of_mem fun {x y} hx hy AQ=>?_;have l1:=AQ.1;rw[key x hx,key y hy] at l1;have ax:=F.rg _ ((mem x.2).mp (aW.mpr ⟨x,hx,rfl⟩));have ay:=F.rg _ ((mem y.2).mp (aW.mpr ⟨y,hy,rfl⟩));have ne:(x.2-(h:Int)) % (n:Int)≠(y.2-(h:Int)) % (n:Int):=fun z=>AQ.2 (Fj hn ax.2.1 ax.2.2 ay.2.1 ay.2.2 z);lia
 have e:ps.map (·.2)=(ig n ts h).map fun (o:Nat)=>(o:Int):=by
  refine mm (k:=fun z=>(z-(h:Int)) % (n:Int)) sorted ?_ fun z=>?_
  .refine jp.mpr ?_;exact uY hh
  .rw[mem,aW];constructor
   .intro hz;have r:=F.rg _ hz;refine⟨z.toNat,(iX F hh).mpr ?_,by lia⟩;show (((h:Nat):Int),((z.toNat:Nat):Int))∈ts;rw[show ((z.toNat:Nat):Int)=z by lia];exact hz
   .rintro⟨o,ho,rfl⟩;exact(iX F hh).mp ho
 rw[e,du];rfl
section
variable {P:Program} {w:World} {K:PySem.W.Frag} {mg:Str->Option Value} {base:Heap}
theorem CK:aH ["many","ties","house","others"] ["many","ties","house"] (aq u_):=⟨rfl,rfl,rfl,by decide +kernel,rfl,by decide +kernel,by decide +kernel⟩
def tm(Pt:Addr):Sp:=fun vs H Q _=>∃ (n:Nat) (l:Addr) (h:Nat) (zs:Zs),vs=[.int n,.ref l,.int h]/\h<n/\fh H l n zs/\kR Pt H/\
 ∀ (r:Addr) (H':Hp),kR Pt H'->va Pt H H'->H r=none->H' r=some (.lst (NV (ig n (zp zs) h)))->Q (.ref r) H'
theorem Fk(F:w_ K "houses_out" "houses_out" u_ f fd c)(B:Bl mg)(kb:K.In base)(hb:sH mg base)(hc:PySem.W.codeHdIn K c Pt=true):
  bv P w K mg base bf 1 f fd ["many","ties","house"] (tm Pt):=by
 refine F.ok CK (fun vs H Q E h=>?_) (fun A outer s H vs Q E hr h=>?_)
 .obtain⟨n,l,h,zs,rfl,_⟩:=h;rfl
 .obtain⟨n,l,h,zs,rfl,hh,T,tb,k⟩:=h;have fi:=T.j4;have n1:=fi.n1;have dI:zs.length<=256:=by have:=fi.len;rw[bj] at this;exact this
  have LS:MG (r6 bf P w K mg base ["many","ties","house","others"] "houses_out" (aq u_) f (.ref c) A outer s H E).GJ Hh Fg Fh Nc "other" "house" "many" 2 0:=
   ⟨⟨_,_,_,_,_,rfl⟩,fun _ _ _ _ _=>rfl,rfl,rfl,rfl,rfl,rfl,rfl,rfl,by decide +kernel,by decide +kernel,by decide +kernel,rfl,rfl,rfl,by decide,⟨by decide,by decide⟩,⟨by decide,by decide⟩⟩
  refine'⟨_,ah (eQ (i:=3) (g:=rR K 2 (eZ (bb 0) (eZ (bb 1) rQ))) (NB:=["one","other","house"]) (src:=[none,none,some 2]) (br (by kernel_rfl)) rfl (bH (pv 1)) ?g ?t ?e CK.nd rfl rfl rfl)
   (ao (aV (z6 (w9 LS hr) rfl B.sorted nk (aa (pv 3) af) (Eo (Iy (NB:=["other","house","many"]) (src:=[none,some 2,some 0]) (EI kb hb hc) (br (by kernel_rfl))) Ig)))),?_⟩
  case g=>exact fun cl C s₃ H₃ fp=>eN (n:=2) rfl (aY (au (i:=0) K1 rfl (Or.inl rfl) (Or.inr rfl)) (aY (au (i:=1) K1 rfl (Or.inl rfl) (Or.inr rfl)) de))
  case t=>exact fun cl C s₃ H₃ fp=>dO (aD d_ (pv 0) (pv 2) (aP _))
  case e=>exact fun cl C s₃ H₃ fp=>pv 1
  refine⟨_,rfl,l,rfl,⟨_,aQ.of T.at_⟩,fun D hD=>lQ (fun σ=>∃a b,σ=[a,b,some (.int (h:Int))]) (·.1) (·.2) (h:Int) hD T.at_ T.po (by lia) ⟨_,_,rfl⟩ ?_ ?_⟩
  .rintro z σ H3 Kt Kf hj ⟨x,y,rfl⟩ ha kt kf;refine⟨z.1,_,rfl,bZ.of ha,rfl,_,_,rfl,_,_,rfl,rfl,?_⟩;refine⟨_,rfl,_,rfl,rfl,_,rfl,?_⟩;refine cW (fun e=>?_) (fun e=>?_)
   .exact⟨_,rfl,kt _ ⟨_,_,rfl⟩ (by simpa using e)⟩
   .exact kf _ ⟨_,_,rfl⟩ (by simpa using e)
  .generalize VQ:((zp zs).filter fun y=>decide (y.1=(h:Int))).map (·.2)=os;have GV:os.length<=8:=by rw[<-VQ,aB];exact fi.most h
   have sm:aG H (upd H D (.lst (IV os))):=ag hD;refine⟨_,rfl,tb.same sm,fun f' c' H2 Yw t_ HK EB=>?_⟩;have t2:kR Pt H2:=Yw;have iz:H2 D=some (.lst (IV os)):=t_ _ _ ab ((tb.same sm).not ab (by intro ps z;cases z));refine⟨D,f',c',os,h,n,rfl,rfl,aQ.of iz,(by lia),EB,HK,rfl,rfl,by lia,fun r out dh ko=>?_⟩;rw[<-VQ] at ko;rw[Au fi hh ko];have AR:aG H2 (upd H2 r (.lst (NV (ig n (zp zs) h)))):=ag dh;refine k r _ (t2.same AR) (fun b o e hb=>AR _ _ (t_ b o (sm _ _ e) hb)) ?_ ab;cases z:H r with
   |none=>rfl
   |some o=>
    by_cases hP:r=Pt
    .rcases t2 with q|⟨_,q,_⟩ <;> · rw[<-hP,dh] at q;cases q
    .rw[t_ r o (sm _ _ z) hP] at dh;cases dh
end
abbrev CL:Stmt:=gG 28
abbrev xx:Stmt:=gG 29
def jm(n:Nat)(R:List Nat)(f:Nat->Nat):List V:=(List.range n).map fun x=>if x∈R then V.int ((f x:Nat):Int) else .bw
theorem i0:(jm n R f).length=n:=by unfold jm;rw[aB,cG]
theorem i3(h:x<n):(jm n R f)[x]?=some (if x∈R then V.int ((f x:Nat):Int) else .bw):=by
 unfold jm;rw[bO,kg h];rfl
theorem xy(hs:s<n):(List.replicate n V.bw).set s (V.int 0)=jm n [s] (fun _=>0):=by
 apply rc;intro x;by_cases hx:x<n
 .rw[i3 hx];by_cases e:x=s
  .subst e;rw[nC (by rw[ny];exact hx),ap (by simp)];rfl
  .rw[nI (fun z=>e z.symm),vO,ap hx,ak (by simp[e])]
 .rw[fq (by rw[iF,ny];lia),fq (by rw[i0];lia)]
theorem CM(hv:v<n):(jm n R f).set v (V.int ((k:Nat):Int))=jm n (R++[v]) (put f v k):=by
 apply rc;intro x;by_cases hx:x<n
 .rw[i3 hx];by_cases e:x=v
  .subst e;rw[nC (by rw[i0];exact hx),ap (by simp),fW]
  .rw[nI (fun z=>e z.symm),i3 hx,dR e];by_cases h:x∈R
   .rw[ap h,ap (gc _ h)]
   .rw[ak h,ak (fun z=>(bg.mp z).elim h fun z=>e (by simpa using z))]
 .rw[fq (by rw[iF,i0];lia),fq (by rw[i0];lia)]
def Nd(σ:St):Nat:=match σ[4]? with
 |some (some (V.int z))=>z.toNat
 |_=>0
theorem Yx:(["others"]:List Str).Nodup:=by decide +kernel
def oQ(H:Hp)(ol:Addr)(n:Nat)(ts:Ts):Prop:=∃bs:List Addr,H ol=some (.lst (bs.map V.ref))/\Holds H bs n (fun h=>.lst (NV (ig n ts h)))
theorem oQ.same(x:oQ H ol n ts)(e:aG H H'):oQ H' ol n ts:=let ⟨bs,a,b⟩:=x;⟨bs,e _ _ a,b.mono fun _ _ z=>e _ _ z⟩
theorem Hi{as:List Addr}{i:Nat}{x:V}(h:(as.map V.ref)[i]?=some x):i<as.length/\x=.ref (as.getD i 0):=by
 rw[bO] at h;cases e:as[i]? with
 |none=>rw[e] at h;cases h
 |some a=>
  rw[e] at h;refine⟨(cD.mp e).1,?_⟩;rw[bh,e];exact(bE h).symm
section
variable {P:Program} {w:World} {K:PySem.W.Frag} {mg:Str->Option Value} {base:Heap}
theorem j7:aH ["out_lists","start","distances","reached","at","house","other"] ["out_lists","start"] (aq CL):=⟨rfl,rfl,rfl,by decide +kernel,rfl,by decide +kernel,by decide +kernel⟩
def tq:Sp:=fun vs H Q _=>∃ (ol:Addr) (n s:Nat) (ts:Ts),vs=[.ref ol,.int s]/\bL n ts/\s<n/\oQ H ol n ts/\
 ∀ (r:Addr) (H':Hp),aG H H'->H r=none->H' r=some (.lst (NV ((List.range n).map (far ts s))))->Q (.ref r) H'
theorem Fl{f:Addr}{fd:FuncData}(F:fH K "distances_from" "distances_from" CL f fd)(B:Bl mg):bv P w K mg base bf 1 f fd ["out_lists","start"] tq:=by
 refine F.ok j7 (fun vs H Q E h=>?_) (fun cT A outer s H vs Q E hr h=>?_)
 .obtain⟨ol,n,s,ts,rfl,_⟩:=h;rfl
 .obtain⟨ol,n,st,ts,rfl,fi,hs,O,k⟩:=h;have n1:=fi.n1;have n2:=fi.n2;refine'⟨_,ah (eQ (i:=2) (g:=bb 0) (NB:=["others"]) (src:=[none]) (br (by kernel_rfl)) rfl (bH (pv 0)) ?g ?t ?e j7.nd rfl rfl rfl)
   (ah (d9 aj (hV (pv 2) (pv 1) ee))
   (ah (aw (i:=3) j7.nd rfl (Or.inl rfl) (bJ (aa (pv 1) af)))
   (ah (aw (i:=4) j7.nd rfl (Or.inl rfl) aj)
   (ah (ui dq (aD mf (pv 4) (az aJ (by rfl) B.len dt (aa (pv 3) af)) (aP _))
    (ah (aw (i:=5) j7.nd rfl (Or.inl rfl) (aN aF (pv 3) (pv 4) (fun _ _=>rfl)))
    (ah (cA dq rfl (bH (aN aF (pv 0) (pv 5) (fun _ _=>rfl))) (au (i:=6) j7.nd rfl (Or.inl rfl))
     (ao (b8 (aD wF (aN aF (pv 2) (pv 6) (fun _ _=>rfl)) d8 (aP _))
      (ah (d9 (aK b_ (aN aF (pv 2) (pv 5) (fun _ _=>rfl)) aj) (hV (pv 2) (pv 6) ee))
      (ao (bK (dz di fm fk bB (pv 3) (aa (pv 6) af))))) a9)))
    (ao (HX (i:=4) j7.nd rfl (Or.inl rfl) aj HY)))))
   (ao (aV (pv 2))))))),?_⟩
  case g=>exact fun cl C s₃ H₃ fp=>au (i:=0) Yx rfl (Or.inl rfl) (Or.inr rfl)
  case t=>exact fun cl C s₃ H₃ fp=>bX
  case e=>exact fun cl C s₃ H₃ fp=>d8
  obtain⟨bs,GV,Jd,KR⟩:=id O;refine⟨_,rfl,ol,rfl,⟨_,aQ.of GV⟩,fun D hD=>?_⟩;have Yy:ol≠D:=ai GV hD;refine cu (xs:=bs.map V.ref) (fun i ys σ H2=>(∃a,σ=[a])/\ys=List.replicate i V.bw/\H2=upd H D (.lst ys)) ⟨⟨_,rfl⟩,rfl,rfl⟩ (fun i ys σ H2 _ ⟨_,_,e⟩=>by rw[e];exact aQ.of (by rw[am Yy];exact GV)) ?_ ?_
  .rintro i x ys σ H2 Kt Kf hx ⟨⟨a,rfl⟩,rfl,rfl⟩ kt kf;have hi:=(Hi hx).1;refine kt _ _ _ ab ?_ ⟨⟨_,rfl⟩,?_,by rw[kj]⟩
   .rw[ny];exact bN hi (by rw[Jd];exact a7 n2 (by decide))
   .rw[List.replicate_succ']
  .rintro ys σ H2 ⟨_,rfl,rfl⟩;rw[aB,Jd];refine⟨_,rfl,_,rfl,D,_,st,st,rfl,rfl,ab,by rw[ny];exact gn hs,?_⟩;rw[kj,xy hs];refine⟨_,rfl,by show 1<=sizeLine;decide,fun R hR=>?_⟩;have Fm:D≠R:=ai (H:=upd H D (.lst (jm n [st] (fun _=>0)))) ab hR;have Fn:H R=none:=by rw[am Fm.symm] at hR;exact hR
   refine Bo (fun σ H2=>∃ (i:Nat) (Rs:List Nat) (f:Nat->Nat),i<=Rs.length/\vF n ts st i Rs f/\(∃a b,σ=[some (.ref ol),some (.int st),some (.ref D),some (.ref R),some (.int (i:Int)),a,b])/\aG H H2/\H2 D=some (.lst (jm n Rs f))/\H2 R=some (.lst (NV Rs)))
    (fun σ _=>n-Nd σ) ⟨0,[st],fun _=>0,c_ _,vF.start hs,⟨none,none,rfl⟩,a_ (ag hD) Fn,?_,ab⟩ ?_ ?_
   .rw[am Fm,ab]
   .rintro σ H2 ⟨i,Rs,f,hi,Bf,⟨a,b,rfl⟩,sm,iz,Hj⟩;have Nf:Rs.length<=n:=dC Bf.nd Bf.lt;refine⟨_,rfl,_,rfl,R,_,rfl,.inl (aQ.of Hj),_,_,rfl,rfl,_,rfl,?_⟩;rw[dF];by_cases pH:i<Rs.length
    .rw[show decide ((i:Int)<((Rs.length:Nat):Int))=true by simp;lia];refine si ?_;have hu:Rs[i]?=some Rs[i]:=bD pH;generalize Rs[i]=u at hu;have Fo:u<n:=Bf.lt u (cE hu);have Yz:(NV Rs)[i]?=some (.int (u:Int)):=by rw[bO,hu];rfl
     refine⟨_,rfl,_,rfl,R,_,_,_,rfl,rfl,aQ.of Hj,aE Yz,?_⟩;have YA:(bs.map V.ref)[u]?=some (.ref (bs.getD u 0)):=by
      rw[bO,bh,bD (by rw[Jd];exact Fo)];rfl
     have K2:=sm _ _ (KR _ Fo);refine⟨_,rfl,_,rfl,ol,_,_,_,rfl,rfl,aQ.of (sm _ _ GV),aE YA,_,rfl,⟨_,aQ.of K2⟩,?_⟩;have nbD:bs.getD u 0≠D:=ai (KR _ Fo) hD;have nbR:bs.getD u 0≠R:=ai (KR _ Fo) Fn;refine iP (K:=K) (xs:=NV (ig n ts u)) (fun j σ H3=>∃ (fD:List Nat) (f':Nat->Nat),vF n ts st i fD f'/\fD[i]?=some u/\(∀v∈(ig n ts u).take j,v∈fD/\f' v<=f' u+1)/\
      (∃b,σ=[some (.ref ol),some (.int st),some (.ref D),some (.ref R),some (.int (i:Int)),some (.int (u:Int)),b])/\aG H H3/\H3 D=some (.lst (jm n fD f'))/\H3 R=some (.lst (NV fD)))
      ⟨Rs,f,Bf,hu,fun v hv=>by simp at hv,⟨_,rfl⟩,sm,iz,Hj⟩ (fun j σ H3 _ ⟨_,_,_,_,_,_,i4,_⟩=>aQ.of (i4 _ _ (KR _ Fo))) ?_ ?_
     .rintro j x σ H3 hx ⟨fD,f',qE,o_,dn,⟨b',rfl⟩,i4,fX,DX⟩;rw[bO] at hx;cases hv:(ig n ts u)[j]? with
      |none=>rw[hv] at hx;cases hx
      |some v=>
       rw[hv] at hx;obtain rfl:V.int ((v:Nat):Int)=x:=bE hx;have VR:v∈ig n ts u:=cE hv;have K3:v<n:=E3 fi Fo VR;have R8:T ts u v:=(iX fi Fo).mp VR;have tk:(ig n ts u).take (j+1)=(ig n ts u).take j++[v]:=by rw[eI,hv];rfl
       have CN:u∈fD:=cE o_;refine⟨_,rfl,_,rfl,D,_,_,_,rfl,rfl,aQ.of fX,aE (i3 K3),rfl,_,rfl,?_⟩;by_cases vH:v∈fD
       .rw[ap vH];refine fg ⟨fD,f',qE,o_,fun x hx=>?_,⟨_,rfl⟩,i4,fX,DX⟩;rw[tk] at hx;rcases bg.mp hx with z|z
        .exact dn x z
        .simp at z;subst z;exact⟨vH,qE.bd u o_ _ vH⟩
       .rw[ak vH];refine si ?_;have YB:(jm n fD f')[u]?=some (.int ((f' u:Nat):Int)):=by rw[i3 Fo,ap CN]
        refine⟨_,rfl,_,rfl,D,_,_,_,rfl,rfl,aQ.of fX,aE YB,_,_,rfl,rfl,_,rfl,_,rfl,D,_,_,_,rfl,rfl,fX,by rw[i0];exact gn K3,?_⟩;have e1:(jm n fD f').set v (.int (((f' u:Nat):Int)+1))=jm n (fD++[v]) (put f' v (f' u+1)):=by
         rw[show ((f' u:Nat):Int)+1=((f' u+1:Nat):Int) by lia,CM K3]
        rw[e1];have sO:(upd H3 D (.lst (jm n (fD++[v]) (put f' v (f' u+1))))) R=some (.lst (NV fD)):=by rw[am Fm.symm];exact DX
        have CO:fD.length<=n:=dC qE.nd qE.lt;refine⟨_,rfl,.inl ⟨rfl,_,aQ.of sO⟩,_,rfl,R,_,_,rfl,rfl,sO,by rw[dF];exact bN (show fD.length<33 by lia) (by decide),?_⟩;have AO:i<fD.length:=(cD.mp o_).1;have R9:u≠v:=fun z=>vH (z ▸ CN);refine⟨fD++[v],put f' v (f' u+1),qE.add o_ K3 R8 vH,by rw[kd AO];exact o_,fun x hx=>?_,⟨_,rfl⟩,a_ (a_ i4 hD) Fn,?_,?_⟩
        .rw[dR R9];rw[tk] at hx;rcases bg.mp hx with z|z
         .obtain⟨q1,q2⟩:=dn x z;exact⟨gc _ q1,by rw[dR (fun (z:x=v)=>vH (z ▸ q1))];exact q2⟩
         .simp at z;subst z;exact⟨by simp,by rw[fW];exact a8 _⟩
        .rw[am Fm,ab]
        .rw[ab];show _=some (HO.lst (NV (fD++[v])));rw[show NV (fD++[v])=NV fD++[.int (v:Int)] by unfold NV;rw[bT];rfl]
     .rintro σ H3 ⟨fD,f',qE,o_,dn,⟨b',rfl⟩,i4,fX,DX⟩;rw[dF,gf] at dn;have AO:i<fD.length:=(cD.mp o_).1;have CO:fD.length<=n:=dC qE.nd qE.lt;refine⟨_,rfl,_,_,rfl,rfl,⟨⟨i+1,fD,f',AO,qE.next o_ (fun v t=>dn v ((iX fi Fo).mpr t)),⟨_,_,rfl⟩,i4,fX,DX⟩,?_⟩⟩;show n-((i:Int)+1).toNat<n-(i:Int).toNat;lia
    .rw[show decide ((i:Int)<((Rs.length:Nat):Int))=false by rw[decide_eq_false_iff_not];lia];have e:jm n Rs f=NV ((List.range n).map (far ts st)):=by
      unfold jm NV;rw[du];refine fL fun x hx=>?_;obtain⟨q1,q2⟩:=Bf.done fi (by lia) (bG.mp hx);rw[ap q1,q2];rfl
     rw[e] at iz;refine fg ⟨_,rfl,k D H2 sm hD iz⟩
   .rintro σ H2 Q1 Q2 imp ⟨v,e1,v2,e2,p,ys,e3,e4,i1,i2,e5,e6,kk,e7,q⟩;exact⟨v,e1,v2,e2,p,ys,e3,e4,i1,i2,e5,e6,kk,e7,imp _ _ q⟩
end
theorem Ng:(["row"]:List Str).Nodup:=by decide +kernel
section
variable {P:Program} {w:World} {K:PySem.W.Frag} {mg:Str->Option Value} {base:Heap}
theorem Fp:aH ["distances"] ["distances"] (aq xx):=⟨rfl,rfl,rfl,by decide +kernel,rfl,by decide +kernel,by decide +kernel⟩
def tu:Sp:=fun vs H Q _=>∃ (l:Addr) (ds:List Addr) (n:Nat) (o:Nat->List V),vs=[.ref l]/\H l=some (.lst (ds.map V.ref))/\n<=32/\Holds H ds n (fun j=>.lst (o j))/\(∀j,j<n->∀x∈o j,∃i,x=.int i)/\∀H',aG H H'->Q .bw H'
theorem CP(F:fH K "check_reached" "check_reached" xx f fd)(B:Bl mg):bv P w K mg base bf 1 f fd ["distances"] tu:=by
 refine F.ok Fp (fun vs H Q E h=>?_) (fun cT A outer s H vs Q E hr h=>?_)
 .obtain⟨l,ds,n,o,rfl,_⟩:=h;rfl
 .obtain⟨l,ds,n,o,rfl,hl,n2,hh,hx,k⟩:=h;refine'⟨_,ao (b8 (dQ (az (zZ rfl) (by rfl) B.any PyProof.Rows.boot_any (aa ?c af))) dW a9),?_⟩;case c=>
   refine' bt (g:=bb 0) (te:=gW (Vc K false) (tC .bw) (aT 0)) (NB:=["row"]) (src:=[none]) (br (by kernel_rfl)) rfl (bH (pv 0)) ?g ?t ?e;case g=>exact fun cl C s₃ H₃ fp=>au (i:=0) Ng rfl (Or.inl rfl) (Or.inr rfl)
   case t=>exact fun cl C s₃ H₃ fp=>bX
   case e=>exact fun cl C s₃ H₃ fp=>fG qa d8 (pv 0) rfl
  refine⟨_,rfl,l,rfl,⟨_,aQ.of hl⟩,fun D hD=>?_⟩;have nl:l≠D:=ai hl hD;refine cu (xs:=ds.map V.ref) (fun i ys σ H2=>(∃a,σ=[a])/\ys=(List.replicate i false).map V.bl/\H2=upd H D (.lst ys)) ⟨⟨_,rfl⟩,rfl,rfl⟩ (fun i ys σ H2 _ ⟨_,_,e⟩=>by rw[e];exact aQ.of (by rw[am nl];exact hl)) ?_ ?_
  .rintro i x ys σ H2 Kt Kf PP ⟨⟨a,rfl⟩,rfl,rfl⟩ kt kf;obtain⟨hi,rfl⟩:=Hi PP;rw[hh.1] at hi;have hd:=hh.2 i hi;have nd:ds.getD i 0≠D:=ai hd hD;have q1:(o i).all dX=true:=iD.mpr fun x Bj=>by obtain⟨z,rfl⟩:=hx i hi x Bj;rfl
   have q2:Pn .bw (o i)=false:=by
    unfold Pn;rw[wf];intro x Bj;obtain⟨z,rfl⟩:=hx i hi x Bj;exact fun z=>by cases z
   refine⟨_,rfl,_,_,rfl,.inl (aQ.of (by rw[am nd];exact hd)),rfl,q1,?_⟩;refine kt _ _ _ ab ?_ ⟨⟨_,rfl⟩,?_,by rw[kj]⟩
   .rw[aB,ny];exact bN hi (a7 n2 (by decide))
   .rw[List.replicate_succ',bT,q2];rfl
  .rintro ys σ H2 ⟨_,rfl,rfl⟩;refine⟨D,_,rfl,aQ.of ab,_,rfl,?_⟩;have e:(List.replicate (ds.map V.ref).length false).any id=false:=by
    rw[wf];intro x Bj;rw[(List.mem_replicate.mp Bj).2];decide
   rw[e];exact fg (k _ (ag hD))
end
theorem VS:(["one","other"]:List Str).Nodup:=by decide +kernel
theorem Nh:(["house","many","ties"]:List Str).Nodup:=by decide +kernel
theorem R_:(["house","self"]:List Str).Nodup:=by decide +kernel
def i5(p Pt:Addr)(H H':Hp):Prop:=∀b o,H b=some o->b≠p->b≠Pt->H' b=some o
theorem fh.mono(h:fh H l n zs)(e:i5 p Pt H H')(hp:H p=some (.ins C dx fs))(tb:kR Pt H):fh H' l n zs:=
 ⟨h.j4,e _ _ h.at_ (d7 h.at_ hp (by intro z;cases z)) (tb.not h.at_ (by intro ps z;cases z)),fun z hz=>e _ _ (h.po z hz) (d7 (h.po z hz) hp (by intro z;cases z)) (tb.not (h.po z hz) (by intro ps z;cases z))⟩
theorem kR.mono(t:kR Pt H)(e:∀b o,H b=some o->b≠p->H' b=some o)(hp:H p=some (.ins C dx fs)):kR Pt H':=by
 rcases t with z|⟨c,z,y⟩
 .exact .inl (e _ _ z (d7 z hp (by intro q;cases q)))
 .exact .inr ⟨c,e _ _ z (d7 z hp (by intro q;cases q)),e _ _ y (d7 y hp (by intro q;cases q))⟩
theorem kR.full(t:kR Pt H):H Pt≠none:=by
 rcases t with z|⟨c,z,y⟩ <;> rw[z] <;> intro q <;> cases q
theorem i5.free(s:i5 p Pt H H')(hp:H' p≠none)(tb:kR Pt H')(h:H' r=none):H r=none:=by
 cases z:H r with
 |none=>rfl
 |some o=>
  by_cases e1:r=p
  .subst e1;exact absurd h hp
  .by_cases e2:r=Pt
   .subst e2;exact absurd h tb.full
   .rw[s r o z e1 e2] at h;cases h
theorem Ni(h:k [] H):eO σ H k:=h
theorem je{H:Hp}{p:Addr}{o:HO}(h:H p=some o):H p≠none:=by rw[h];intro z;cases z
section
variable {P:Program} {w:World} {K:PySem.W.Frag} {mg:Str->Option Value} {base:Heap}
theorem Je:aH ["self","many","ties"] ["self","many","ties"] (aq yP):=⟨rfl,rfl,rfl,by decide +kernel,rfl,by decide +kernel,by decide +kernel⟩
def xz(C Pt:Addr):Sp:=fun vs H Q E=>∃ (p dx:Addr) (n:Nat) (l:Addr) (zs:Zs),vs=[.ref p,.int n,.ref l]/\H p=some (.ins C dx [])/\fh H l n zs/\kR Pt H/\
  ∀H',ix C H' (fun a=>H a=none) p n (zp zs)->kR Pt H'->i5 p Pt H H'->Q .bw H'
theorem Fq{f C Pt:Addr}{fd:FuncData}(F:fH K "__init__" "Net.__init__" yP f fd)(T:NT K mg C)(B:Bl mg)(CT:ce P w K mg base bf 6 "check_ties" ["many","ties"] jd)(CB:ce P w K mg base bf 1 "check_balance" ["many","ties"] jd)(YC:ce P w K mg base bf 1 "houses_out" ["many","ties","house"] (tm Pt))(DF:ce P w K mg base bf 1 "distances_from" ["out_lists","start"] tq)(CR:ce P w K mg base bf 1 "check_reached" ["distances"] tu):
  bv P w K mg base bf 7 f fd ["self","many","ties"] (xz C Pt):=by
 refine F.ok Je (fun vs H Q E h=>?_) (fun cT A outer s H vs Q E hr h=>?_)
 .obtain⟨p,dx,n,l,zs,rfl,_⟩:=h;rfl
 .have pf:cI 1 _:=hr.mono (by decide);refine'⟨_,ah (bK (aA CT hr aL (aa (pv 1) (aa (pv 2) af))))
   (ah (bK (aA CB pf aL (aa (pv 1) (aa (pv 2) af))))
   (ah (rY (pv 0) (pv 1) rfl)
   (ah (rY (pv 0) (az ie (by rfl) B.sorted nk (aa ?c1 af)) rfl)
   (ah (rY (pv 0) ?c2 rfl)
   (ah (rY (pv 0) ?c3 rfl)
   (ao (bK (aA CR pf aL (aa (rX (pv 0) rfl) af))))))))),?_⟩
  case c1=>
   refine' bt (g:=rR K 2 (eZ (bb 0) (eZ (bb 1) rQ))) (te:=pA (bq (aT 0) (bq (aT 1) eO))) (NB:=["one","other"]) (src:=[none,none]) (br (by kernel_rfl)) rfl (bH (pv 2)) ?g ?t ?e;case g=>exact fun cl C s₃ H₃ fp=>eN (n:=2) rfl (aY (au (i:=0) VS rfl (Or.inl rfl) (Or.inr rfl)) (aY (au (i:=1) VS rfl (Or.inl rfl) (Or.inr rfl)) de))
   case t=>exact fun cl C s₃ H₃ fp=>bX
   case e=>exact fun cl C s₃ H₃ fp=>cp (aa (pv 0) (aa (pv 1) af))
  case c2=>
   refine' bt (g:=bb 0) (te:=jy (tm Pt) [] E0 (bq (aT 1) (bq (aT 2) (bq (aT 0) eO)))) (NB:=["house","many","ties"]) (src:=[none,some 1,some 2]) (br (by kernel_rfl)) rfl (aU rfl B.range (aa (pv 1) af)) ?g ?t ?e;case g=>exact fun cl C s₃ H₃ fp=>au (i:=0) Nh rfl (Or.inl rfl) (Or.inr rfl)
   case t=>exact fun cl C s₃ H₃ fp=>bX
   case e=>exact fun cl C s₃ H₃ fp=>aA YC pf aL (aa (pv 1) (aa (pv 2) (aa (pv 0) af)))
  case c3=>
   refine' bt (g:=bb 0) (te:=jy tq [] E0 (bq (LZ K (aT 1) "out_lists") (bq (aT 0) eO))) (NB:=["house","self"]) (src:=[none,some 0]) (br (by kernel_rfl)) rfl (aU rfl B.range (aa (pv 1) af)) ?g ?t ?e;case g=>exact fun cl C s₃ H₃ fp=>au (i:=0) R_ rfl (Or.inl rfl) (Or.inr rfl)
   case t=>exact fun cl C s₃ H₃ fp=>bX
   case e=>exact fun cl C s₃ H₃ fp=>aA DF pf aL (aa (rX (pv 1) rfl) (aa (pv 0) af))
  obtain⟨p,dx,n,l,zs,rfl,hp,TT,tb,k⟩:=h;have fi:=TT.j4;have n1:=fi.n1;have n2:=fi.n2;have dI:zs.length<=256:=by have:=fi.len;rw[bj] at this;exact this
  refine⟨_,rfl,_,rfl,n,l,zs,rfl,TT,fun H1 s1=>?_⟩;refine⟨_,rfl,_,rfl,n,l,zs,rfl,TT.same s1,fun H2 s2=>?_⟩;have DZ:aG H H2:=s1.trans s2;refine⟨_,rfl,_,rfl,p,C,dx,[],rfl,DZ _ _ hp,T.cl,T.nH,(by show 0<1000;decide),?_⟩
  let G1:Hp:=upd H2 p (.ins C dx (cN "house_count" (.int n) []))
  have d1:i5 p Pt H G1:=fun b o e h1 _=>by show upd _ _ _ _=_;rw[am h1];exact DZ _ _ e
  have PQ:G1 p=some (.ins C dx (cN "house_count" (.int n) [])):=ab;have Sa:fh G1 l n zs:=TT.mono d1 hp tb;have Sb:kR Pt G1:=tb.mono (fun b o e h1=>by show upd _ _ _ _=_;rw[am h1];exact DZ _ _ e) hp;refine⟨_,rfl,l,rfl,⟨_,aQ.of Sa.at_⟩,fun D hD=>?_⟩;refine CF (fun y=>y) (fun σ=>∃a b,σ=[a,b]) Sa.at_ Sa.po hD (by lia) ⟨_,_,rfl⟩ ?_ ?_
  .rintro z σ H3 R Kf hz ⟨a,b,rfl⟩ ha kk;refine⟨_,_,rfl,bZ.of ha,rfl,_,_,rfl,_,_,rfl,rfl,?_⟩;exact⟨_,rfl,_,rfl,by show 2<=sizeLine;decide,fun t ht=>kk _ _ ⟨_,_,rfl⟩ ht⟩
  .intro mI H3 sm fX lR ez YD;rw[List.map_id'] at ez;have AM:mI.length=zs.length:=by rw[<-bj,ez,bj]
   refine Ni ?_;refine E8 fX lR (by lia) (fun u hu=>by have:=(fi.rg u (ez ▸ hu)).2;lia) fun tl AS Sd pm YE=>?_;have Se:H tl=none:=d1.free (je PQ) Sb (sm.free Sd);have HZ:∀z∈AS,H z.1=none:=fun z hz=>d1.free (je PQ) Sb (YD z (pm.mem_iff.mp hz));have Sf:H3 p=some (.ins C dx (cN "house_count" (.int n) [])):=sm _ _ PQ;have Jf:p≠tl:=ai Sf Sd;refine⟨_,rfl,p,C,dx,_,rfl,by rw[am Jf];exact Sf,T.cl,T.nT,by show 1<1000;decide,?_⟩
   let G2:Hp:=upd (upd H3 tl (.lst (zr AS))) p (.ins C dx (cN "tie_list" (.ref tl) (cN "house_count" (.int n) [])))
   have q2:∀b o,H3 b=some o->b≠p->G2 b=some o:=fun b o e h1=>by
    show upd _ _ _ _=_;rw[am h1,am (ai e Sd)];exact e
   have d2:i5 p Pt H G2:=fun b o e h1 h2=>q2 _ _ (sm _ _ (d1 _ _ e h1 h2)) h1;have VT:G2 tl=some (.lst (zr AS)):=by show upd _ _ _ _=_;rw[am Jf.symm,ab]
   have Sg:PO G2 AS:=fun z hz=>q2 _ _ (lR z (pm.mem_iff.mp hz)) (d7 (lR z (pm.mem_iff.mp hz)) Sf (by intro z;cases z));have Jg:G2 p=some (.ins C dx (cN "tie_list" (.ref tl) (cN "house_count" (.int n) []))):=ab;have YF:fh G2 l n zs:=TT.mono d2 hp tb;have Jh:kR Pt G2:=Sb.mono (fun b o e h1=>q2 _ _ (sm _ _ e) h1) PQ;refine⟨_,rfl,n,rfl,by lia,by lia,fun D2 iz=>?_⟩;refine cQ (n:=n) (lo:=0) (fun i ys σ H4=>(∃a,σ=[a,some (.int n),some (.ref l)])/\∃bs:List Addr,ys=bs.map V.ref/\(∀b∈bs,H b=none)/\Holds H4 bs i (fun h=>.lst (NV (ig n (zp zs) h)))/\va Pt G2 H4/\kR Pt H4/\H4 D2=some (.lst ys)/\∀b∈bs,b≠D2)
    ⟨⟨_,rfl⟩,[],rfl,(fun _ h=>nomatch h),Holds.nil,va.of (ag iz),Jh.same (ag iz),ab,(fun _ h=>nomatch h)⟩ ?_ ?_
   .rintro i ys σ H4 Kt Kf hi ⟨⟨a,rfl⟩,bs,rfl,Sh,hb,bW,K4,gq,Si⟩ kt kf;have YG:fh H4 l n zs:=YF.mono (p:=p) (fun b o e _ h2=>bW _ _ e h2) Jg Jh;have K5:=bW _ _ Jg (Jh.not Jg (by intro ps z;cases z));refine⟨_,rfl,_,rfl,_,rfl,n,l,i,zs,by rw[dH];rfl,hi,YG,K4,fun r H5 t5 t4 Ji Jj=>?_⟩;have Sj:H r=none:=i5.free (fun b o e h1 h2=>bW _ _ (d2 _ _ e h1 h2) h2) (je K5) K4 Ji;have PR:H5 D2=some (.lst (bs.map V.ref)):=t4 _ _ gq (K4.not gq (by intro ps z;cases z));have Nj:r≠D2:=by rintro rfl;rw[gq] at Ji;cases Ji
    have jC:∀b o z9,H5 b=some o->b≠D2->(upd H5 D2 z9) b=some o:=fun b o z9 e h=>by rw[am h];exact e
    refine kt _ _ _ PR (by rw[aB,hb.1];exact bN hi (a7 n2 (by decide))) ⟨⟨_,rfl⟩,bs++[r],by rw[bT];rfl,?_,?_,?_,?_,ab,?_⟩
    .intro b EG;rcases bg.mp EG with z|z
     .exact Sh b z
     .rw[bR.mp z];exact Sj
    .refine Holds.snoc (hb.mono fun j hj e=>?_) (jC _ _ _ Jj Nj);refine jC _ _ _ (t4 _ _ e (K4.not e (by intro ps z;cases z))) (Si _ ?_);rw[bh,bD (by rw[hb.1];exact hj)];exact fN _
    .intro b o e h;exact jC _ _ _ (t4 _ _ (bW _ _ e h) h) (ai e iz)
    .rcases t5 with z|⟨c,z,y⟩
     .exact .inl (jC _ _ _ z (d7 z PR (by intro q;cases q)))
     .exact .inr ⟨c,jC _ _ _ z (d7 z PR (by intro q;cases q)),jC _ _ _ y (d7 y PR (by intro q;cases q))⟩
    .intro b EG;rcases bg.mp EG with z|z
     .exact Si b z
     .rw[bR.mp z];exact Nj
   .rintro ys σ H4 ⟨_,bs,rfl,Sh,hb,bW,K4,gq,Si⟩;have K5:H4 p=some (.ins C dx (cN "tie_list" (.ref tl) (cN "house_count" (.int n) []))):=bW _ _ Jg (Jh.not Jg (by intro ps z;cases z));have Sk:H D2=none:=d2.free (je Jg) Jh iz;refine⟨_,rfl,p,C,dx,_,rfl,K5,T.cl,T.nO,by have h1:=dw "tie_list" (V.ref tl) (cN "house_count" (V.int n) []);have h2:=dw "house_count" (V.int n) [];simp at h2;lia,?_⟩
    let G3:Hp:=upd H4 p (.ins C dx (cN "out_lists" (.ref D2) (cN "tie_list" (.ref tl) (cN "house_count" (.int n) []))))
    have q3:∀b o,H4 b=some o->b≠p->G3 b=some o:=fun b o e h1=>by show upd _ _ _ _=_;rw[am h1];exact e
    have Jk:G3 p=some (.ins C dx (cN "out_lists" (.ref D2) (cN "tie_list" (.ref tl) (cN "house_count" (.int n) [])))):=ab;have d3:i5 p Pt H G3:=fun b o e h1 h2=>q3 _ _ (bW _ _ (d2 _ _ e h1 h2) h2) h1;have Sl:kR Pt G3:=K4.mono q3 K5;have VU:Holds G3 bs n (fun h=>.lst (NV (ig n (zp zs) h))):=hb.mono fun j hj e=>q3 _ _ e (d7 e K5 (by intro z;cases z));have Sm:G3 D2=some (.lst (bs.map V.ref)):=q3 _ _ gq (d7 gq K5 (by intro z;cases z));have O3:oQ G3 D2 n (zp zs):=⟨bs,Sm,VU⟩
    refine⟨_,rfl,n,rfl,by lia,by lia,fun D3 Jl=>?_⟩;refine cQ (n:=n) (lo:=0) (fun i ys σ H6=>(∃a,σ=[a,some (.ref p)])/\∃ds:List Addr,ys=ds.map V.ref/\(∀b∈ds,H b=none)/\Holds H6 ds i (fun s=>.lst (NV ((List.range n).map (far (zp zs) s))))/\aG G3 H6/\H6 D3=some (.lst ys)/\∀b∈ds,b≠D3)
     ⟨⟨_,rfl⟩,[],rfl,(fun _ h=>nomatch h),Holds.nil,ag Jl,ab,(fun _ h=>nomatch h)⟩ ?_ ?_
    .rintro i ys σ H6 Kt Kf hi ⟨⟨a,rfl⟩,ds,rfl,Sn,hd,qF,Jm,LX⟩ kt kf;refine⟨_,rfl,p,C,dx,_,_,rfl,qF _ _ Jk,T.cl,T.nO,by rw[bz,ap rfl],_,rfl,D2,n,i,zp zs,by rw[dH];rfl,fi,hi,O3.same qF,fun r H7 So Sq YH=>?_⟩;have YI:H7 D3=some (.lst (ds.map V.ref)):=So _ _ Jm;have Nj:r≠D3:=by rintro rfl;rw[Jm] at Sq;cases Sq
     have Sj:H r=none:=i5.free (fun b o e h1 h2=>qF _ _ (d3 _ _ e h1 h2)) (je (qF _ _ Jk)) (Sl.same qF) Sq;have jC:∀b o z9,H7 b=some o->b≠D3->(upd H7 D3 z9) b=some o:=fun b o z9 e h=>by rw[am h];exact e
     refine kt _ _ _ YI (by rw[aB,hd.1];exact bN hi (a7 n2 (by decide))) ⟨⟨_,rfl⟩,ds++[r],by rw[bT];rfl,?_,?_,?_,ab,?_⟩
     .intro b EG;rcases bg.mp EG with z|z
      .exact Sn b z
      .rw[bR.mp z];exact Sj
     .refine Holds.snoc (hd.mono fun j hj e=>?_) (jC _ _ _ YH Nj);refine jC _ _ _ (So _ _ e) (LX _ ?_);rw[bh,bD (by rw[hd.1];exact hj)];exact fN _
     .intro b o e;exact jC _ _ _ (So _ _ (qF _ _ e)) (ai e Jl)
     .intro b EG;rcases bg.mp EG with z|z
      .exact LX b z
      .rw[bR.mp z];exact Nj
    .rintro ys σ H6 ⟨_,ds,rfl,Sn,hd,qF,Jm,LX⟩;have Nk:=qF _ _ Jk;refine⟨_,rfl,p,C,dx,_,rfl,Nk,T.cl,T.nD,by have h1:=dw "tie_list" (V.ref tl) (cN "house_count" (V.int n) []);have h2:=dw "house_count" (V.int n) [];have h3:=dw "out_lists" (V.ref D2) (cN "tie_list" (V.ref tl) (cN "house_count" (V.int n) []));simp at h2;lia,?_⟩;have q4:∀b o u,H6 b=some o->b≠p->(upd H6 p u) b=some o:=fun b o u e h1=>by rw[am h1];exact e
     refine⟨_,rfl,p,C,dx,_,_,rfl,ab,T.cl,T.nD,by rw[bz,ap rfl],D3,ds,n,fun s=>NV ((List.range n).map (far (zp zs) s)),rfl,q4 _ _ _ Jm (d7 Jm Nk (by intro z;cases z)),n2,hd.mono fun j hj e=>q4 _ _ _ e (d7 e Nk (by intro z;cases z)),fun j hj x hx=>?_,fun H8 s8=>?_⟩
     .obtain⟨y,hy,rfl⟩:=aW.mp hx;exact⟨_,rfl⟩
     .have up:∀b o,G3 b=some o->b≠p->H8 b=some o:=fun b o e h1=>s8 _ _ (q4 _ _ _ (qF _ _ e) h1);have Sr:H D3=none:=d3.free (je Jk) Sl Jl;have VW:∀b o,G2 b=some o->b≠p->b≠Pt->H8 b=some o:=fun b o e h1 h2=>up _ _ (q3 _ _ (bW _ _ e h2) h1) h1;refine k H8 ⟨fi,dx,tl,D2,D3,s8 _ _ ab,Sk,Sr,⟨bs,up _ _ Sm (d7 Sm Jk (by intro z;cases z)),Sh,VU.mono fun j hj e=>up _ _ e (d7 e Jk (by intro z;cases z))⟩,
       ⟨ds,s8 _ _ (q4 _ _ _ Jm (d7 Jm Nk (by intro z;cases z))),Sn,hd.mono fun j hj e=>s8 _ _ (q4 _ _ _ e (d7 e Nk (by intro z;cases z)))⟩,
       ⟨Se,AS,VW _ _ VT Jf.symm (Jh.not VT (by intro ps z;cases z)),fun z hz=>VW _ _ (Sg z hz) (d7 (Sg z hz) Jg (by intro z;cases z)) (Jh.not (Sg z hz) (by intro ps z;cases z)),HZ,((show (zp AS).Perm (zp mI) from pm.map _).trans (rm ez)),YE⟩⟩ ?_ fun b o e h1 h2=>up _ _ (d3 _ _ e h1 h2) h1
      exact Sl.mono up Jk
end
theorem m6:NV xs++[.int (x:Int)]=NV (xs++[x]):=by unfold NV;rw[bT];rfl
theorem Nl{xs:List Nat}{i:Nat}{x:V}(h:(NV xs)[i]?=some x):∃y,xs[i]?=some y/\x=.int (y:Int):=by
 unfold NV at h;rw[bO] at h;cases e:xs[i]? with
 |none=>rw[e] at h;cases h
 |some z=>rw[e] at h;exact⟨z,rfl,(bE h).symm⟩
end DY
namespace L2
open PySem PySem.Spec PyProof.Rows
section
variable {X:Cx}
def AT(X:Cx)(H:Hp)(d:Nat)(x y:V):Prop:=∀ (ae:List (Addr×Obj)) (s:Shared) (σ:St) (A:Around) (u v:Value),aM X ae σ H s->A.units+d<cLine->bi x u->bi y v->SeqAt.EqAt A s u v true
theorem Fs:AT X H 0 (.int i) (.int i):=by
 intro ae s σ A u v I hu rx ry;have h:=r9 (A:=A) (s:=s) rx ry rfl rfl;rw[show j_ (.int i) (.int i)=true by show decide (i=i)=true;simp] at h;exact h
theorem jf(I:aM X ae σ H s)(hu:A.units+d<cLine)(rx:aX xs us)(ry:aX ys vs)(he:∀i,i<xs.length->i<ys.length->AT X H d (xs.getD i .bw) (ys.getD i .bw)):∀j (h1:j<us.toArray.size) (h2:j<vs.toArray.size),SeqAt.EqAt A s us.toArray[j] vs.toArray[j] true:=by
 intro j h1 h2;have j1:j<xs.length:=by rw[rx.length];simpa using h1
 have j2:j<ys.length:=by rw[ry.length];simpa using h2
 have e1:xs[j]?=some (xs.getD j .bw):=by rw[bh,bD j1];rfl
 have e2:ys[j]?=some (ys.getD j .bw):=by rw[bh,bD j2];rfl
 obtain⟨u,DW,ru⟩:=rx.get e1;obtain⟨v,MC,rv⟩:=ry.get e2;have eu:us.toArray[j]=u:=by
  have:us[j]?=some us.toArray[j]:=by simp at h1 |-
  rw[DW] at this;exact(bE this).symm
 have ev:vs.toArray[j]=v:=by
  have:vs[j]?=some vs.toArray[j]:=by simp at h2 |-
  rw[MC] at this;exact(bE this).symm
 rw[eu,ev];exact he j j1 j2 ae s σ A u v I hu ru rv
theorem kS:(List.range n).all (fun _=>true)=true:=iD.mpr fun _ _=>rfl
theorem vb{H:Hp}{d:Nat}{a b:Addr}{xs ys:List V}(ha:aQ X.K H a xs)(hb:aQ X.K H b ys)(hl:xs.length=ys.length)(he:∀i,i<xs.length->i<ys.length->AT X H d (xs.getD i .bw) (ys.getD i .bw)):AT X H (d+1) (.ref a) (.ref b):=by
 intro ae s σ A u v I hu rx ry;obtain rfl:u=Value.ref a:=rx;obtain rfl:v=Value.ref b:=ry;by_cases ml:a=b
 .subst ml;exact rB _
 obtain⟨us,r1,p1,_⟩:=I.list ha;obtain⟨vs,r2,p2,_⟩:=I.list hb;refine wr ml ?_;have h:=SeqAt.RcAt.lists (A:=A) (s:=s) (e:=fun _=>true) p1.isList p2.isList (by simp only[bS];rw[<-r1.length,<-r2.length];exact hl) (by lia) (jf I (by show A.units+1+d<cLine;lia) r1 r2 he);rw[kS] at h;exact h
theorem Ft{H:Hp}{d:Nat}{a b:Addr}{xs ys:List V}(ha:bZ X.K H a xs)(hb:bZ X.K H b ys)(hl:xs.length=ys.length)(he:∀i,i<xs.length->i<ys.length->AT X H d (xs.getD i .bw) (ys.getD i .bw)):AT X H (d+1) (.ref a) (.ref b):=by
 intro ae s σ A u v I hu rx ry;obtain rfl:u=Value.ref a:=rx;obtain rfl:v=Value.ref b:=ry;by_cases ml:a=b
 .subst ml;exact rB _
 obtain⟨us,r1,p1,_⟩:=I.tuple ha;obtain⟨vs,r2,p2,_⟩:=I.tuple hb;refine wr ml ?_;have h:=SeqAt.RcAt.tuples (A:=A) (s:=s) (l:=a) (b:=b) (e:=fun _=>true) (show s.heap.IsTuple a us.toArray from p1) (show s.heap.IsTuple b vs.toArray from p2) (by lia) (jf I (by show A.units+1+d<cLine;lia) r1 r2 he);rw[kS] at h;have e:(us.toArray.size==vs.toArray.size)=true:=by simp only[bS];rw[<-r1.length,<-r2.length,hl];simp
 rw[e] at h;exact h
def Ss(X:Cx)(AL:Bool)(d:Nat):R2:=fun x y H Q=>∃p q xs ys,x=.ref p/\y=.ref q/\bZ X.K H p xs/\bZ X.K H q ys/\xs.length=ys.length/\(∀i,i<xs.length->i<ys.length->AT X H d (xs.getD i .bw) (ys.getD i .bw))/\Q (.bl (!AL)) H
theorem Fu(hu:X.A.units+(d+1)<cLine):jx X (compareOp .Eq) (Ss X false d):=by
 intro ae s σ H x y v u Q I rx ry h;obtain⟨p,q,xs,ys,rfl,rfl,hp,hq,hl,he,k⟩:=h;obtain rfl:v=Value.ref p:=rx;obtain rfl:u=Value.ref q:=ry;obtain⟨us,r1,p1,_⟩:=I.tuple hp;obtain⟨vs,r2,p2,_⟩:=I.tuple hq;have e:(us.toArray.size==vs.toArray.size)=true:=by simp only[bS];rw[<-r1.length,<-r2.length,hl];simp
 refine SeqAt.eq_tupleAt (e:=fun _=>true) (show s.heap.IsTuple p us.toArray from p1) (show s.heap.IsTuple q vs.toArray from p2) (by lia) (jf I (by show X.A.units+1+d<cLine;lia) r1 r2 he) ⟨.bl _,H,I,rfl,?_⟩;rw[kS,e];exact k
def Nm(X:Cx)(AL:Bool)(d:Nat):R2:=fun x y H Q=>∃p q xs ys,x=.ref p/\y=.ref q/\aQ X.K H p xs/\aQ X.K H q ys/\xs.length=ys.length/\(∀i,i<xs.length->i<ys.length->AT X H d (xs.getD i .bw) (ys.getD i .bw))/\Q (.bl (!AL)) H
theorem yT{d:Nat}(hu:X.A.units+(d+1)<cLine):jx X (compareOp .NotEq) (Nm X true d):=by
 intro ae s σ H x y v u Q I rx ry h;obtain⟨p,q,xs,ys,rfl,rfl,hp,hq,hl,he,k⟩:=h;obtain rfl:v=Value.ref p:=rx;obtain rfl:u=Value.ref q:=ry;obtain⟨us,r1,p1,_⟩:=I.list hp;obtain⟨vs,r2,p2,_⟩:=I.list hq;refine SeqAt.RcNeAt.lists (e:=fun _=>true) p1.isList p2.isList (by simp only[bS];rw[<-r1.length,<-r2.length];exact hl) (by lia) (jf I (by show X.A.units+1+d<cLine;lia) r1 r2 he) _ _ _ _ ⟨.bl _,H,I,rfl,?_⟩;rw[kS];exact k
end
end L2
namespace oI
abbrev gB(ts:Ts)(h:Int):Nat:=(ts.filter fun t=>decide (t.1=h)).length
theorem yU:gB (ts++us) h=gB ts h+gB us h:=by unfold gB;rw[ge,bY]
theorem tw : gB [(a,b),(b,a)] h = (if a = h then 1 else 0) + (if b = h then 1 else 0):=by
 unfold gB;by_cases c1 : a = h <;> by_cases c2 : b = h <;> simp [c1,c2]
theorem Fv:gB (cB (ps++[(a,b)])) h=gB (cB ps) h+((if a=h then 1 else 0)+(if b=h then 1 else 0)):=by
 rw[ii,yU];exact congrArg _ tw
theorem Fw:cB [(a,b)]=[(a,b),(b,a)]:=rfl
theorem Fx(ha:a<n)(hb:b<n)(ml:a≠b):vG n [(ci a,ci b),(ci b,ci a)]:=by
 have ne:ci a≠ci b:=fun e=>ml (cZ e);refine⟨?_,?_,?_,?_,?_⟩
 .rw[cX];refine⟨fun h=>?_,by simp⟩;have:=bR.mp h;exact ne (congrArg Prod.fst this)
 .intro t ht;rcases cn.mp ht with rfl|ht
  .exact⟨⟨by lia,by lia⟩,⟨by lia,by lia⟩⟩
  .rw[bR.mp ht];exact⟨⟨by lia,by lia⟩,⟨by lia,by lia⟩⟩
 .intro t ht;rcases cn.mp ht with rfl|ht
  .exact ne
  .rw[bR.mp ht];exact fun e=>ne e.symm
 .intro h;by_cases c1:ci a=h <;> by_cases c2:ci b=h <;> simp[c1,c2]
 .intro h;have:=tw (a:=ci a) (b:=ci b) (h:=h);show gB [(ci a,ci b),(ci b,ci a)] h<=8;rw[this];split <;> split <;> lia
theorem bL.pair(F:bL n (cB ps))(ha:a<n)(hb:b<n)(ml:a≠b)(h1:(ci a,ci b)∉ps)(h2:(ci b,ci a)∉ps)(d1:gB (cB ps) (ci a)<=7)(d2:gB (cB ps) (ci b)<=7):bL n (cB (ps++[(ci a,ci b)])):=by
 rw[ii,Fw];have ne:ci a≠ci b:=fun e=>ml (cZ e);refine F.app (mZ F.pre (Fx ha hb ml) (fun t ht=>?_) fun h=>?_)
 .rcases cn.mp ht with rfl|ht
  .exact fun z=>(kO.mp z).elim h1 h2
  .rw[bR.mp ht];exact fun z=>(kO.mp z).elim h2 h1
 .show gB (cB ps) h+gB [(ci a,ci b),(ci b,ci a)] h<=8;rw[tw];have m:=F.most h;by_cases c1:ci a=h
  .subst c1;rw[ap rfl,ak (fun e=>ne e.symm)];lia
  .by_cases c2:ci b=h
   .subst c2;rw[ak c1,ap rfl];lia
   .rw[ak c1,ak c2];exact m
theorem Fy(P:vG n ts):vG n (ts.map qA):=by
 have fl:∀h:Int,((ts.map qA).filter fun t=>decide (t.1=h)).length=(ts.filter fun t=>decide (t.2=h)).length:=fun h=>by
  rw[nE,aB];rfl
 have YJ:∀h:Int,((ts.map qA).filter fun t=>decide (t.2=h)).length=(ts.filter fun t=>decide (t.1=h)).length:=fun h=>by
  rw[nE,aB];rfl
 refine⟨?_,fun t ht=>?_,fun t ht=>?_,fun h=>?_,fun h=>?_⟩
 .refine jp.mpr (P.nd.imp fun {x y} AQ e=>AQ ?_);have e1:=congrArg Prod.fst e;have e2:=congrArg Prod.snd e;exact dE e2 e1
 .obtain⟨u,hu,rfl⟩:=aW.mp ht;exact⟨(P.rg u hu).2,(P.rg u hu).1⟩
 .obtain⟨u,hu,rfl⟩:=aW.mp ht;exact fun e=>P.ne u hu e.symm
 .rw[fl,YJ,P.uX]
 .rw[fl,<-P.uX];exact P.most h
theorem Jn(h:3<=m)(hk:k<m):pk m (pk m k)≠k:=by
 unfold pk;split <;> split <;> lia
theorem vc(n1:3<=n)(n2:n<=32)(pm:xs.Perm (List.range n)):bL n (cB (kY xs)):=by
 have F:=qz (by lia) n2 pm;have nd:xs.Nodup:=pm.nodup_iff.mpr jt;have hl:xs.length=n:=by rw[pm.length_eq,cG]
 have lt:∀x∈xs,x<n:=fun x hx=>bG.mp (pm.mem_iff.mp hx);obtain⟨P,one⟩:=kN nd lt (by lia);have Q:=Fy P;refine bL.perm ?_ dJ;refine F.app (mZ P Q (fun t ht hm=>?_) fun h=>?_)
 .obtain⟨u,hu,rfl⟩:=aW.mp ht;obtain⟨k,hk,rfl⟩:=mY hu;obtain⟨j,hj,e⟩:=mY hm;have e1:xs.getD k 0=xs.getD (pk xs.length j) 0:=cZ (congrArg Prod.fst e);have e2:xs.getD (pk xs.length k) 0=xs.getD j 0:=cZ (congrArg Prod.snd e);have pj:=u3 hj;have VX:=u3 hk;rw[dP hk,dP pj] at e1;rw[dP VX,dP hj] at e2;have i1:=lN nd hk pj e1;have i2:=lN nd VX hj e2;rw[<-i2] at i1;exact Jn (by lia) hk i1.symm
 .have o1:=one h;have e:((kY xs).map qA).filter (fun t=>decide (t.1=h))=((kY xs).filter fun t=>decide (t.2=h)).map qA:=by rw[nE];rfl
  rw[e,aB,<-P.uX];lia
theorem vd{s a b:Nat}:∀ {ns:List Nat} {st:Nat},u4 st (ns++[s]) a b↔u4 st ns a b\/(a / (st*pr ns) % s+1<s/\b=a+st*pr ns)
 |[],st=>by
  show ((_/\_)\/False)↔(False\/_);rw[show st*pr []=st from n6 st];constructor
  .rintro(h|h)
   .exact .inr h
   .exact h.elim
  .rintro(h|h)
   .exact h.elim
   .exact .inl h
 |n::ns,st=>by
  show (_\/u4 (st*n) (ns++[s]) a b)↔(_\/u4 (st*n) ns a b)\/_;rw[vd,or_assoc,show st*n*pr ns=st*pr (n::ns) from nW _ _ _]
theorem qG{a b q:Nat}:∀ {ns:List Nat} {st:Nat},0<st->(u4 st ns (a+st*pr ns*q) (b+st*pr ns*q)↔u4 st ns a b)
 |[],st,_=>Iff.rfl
 |n::ns,st,h=>by
  show ((_/\_)\/u4 (st*n) ns _ _)↔(_/\_)\/_;have e:st*pr (n::ns)*q=st*n*pr ns*q:=by rw[show st*pr (n::ns)=st*n*pr ns from (nW _ _ _).symm]
  have e2:(a+st*pr (n::ns)*q) / st % n=a / st % n:=by
   rw[show st*pr (n::ns)*q=st*(n*(pr ns*q)) by rw[show pr (n::ns)=n*pr ns from rfl,nW,nW],Nat.add_mul_div_left _ _ h,A6]
  rw[e2];refine or_congr (and_congr_right fun _=>by lia) ?_;rw[e];by_cases c:n=0
  .subst c;rw[Nat.mul_zero,Nat.zero_mul,Nat.zero_mul];exact Iff.rfl
  .exact qG (jO h (Nat.pos_of_ne_zero c))
theorem CQ{a b:Nat}:∀ {ns:List Nat} {st:Nat},0<st->(∀x∈ns,0<x)->u4 st ns a b->a<b
 |n::ns,st,h,hn,.inl ⟨_,e⟩=>by lia
 |n::ns,st,h,hn,.inr u=>CQ (jO h (hn n cz)) (fun x hx=>hn x (b9 _ hx)) u
theorem CS{s:Nat}:∀ {ns:List Nat},pr (ns++[s])=pr ns*s
 |[]=>by show s*1=1*s;lia
 |n::ns=>by show n*pr (ns++[s])=n*pr ns*s;rw[CS,nW]
def K6(ns:List Nat)(ps:Ts):Prop:=∀u,u∈ps↔∃a b:Nat,u=(ci a,ci b)/\a<pr ns/\U ns a b
def Fz(ns:List Nat)(k:Nat)(ps:Ts):Prop:=∀u,u∈ps↔∃a b:Nat,u=(ci a,ci b)/\a<pr ns*k/\U ns a b
theorem yV{ns:List Nat}(h:∀x∈ns,0<x):0<pr ns:=by
 induction ns with
 |nil=>exact Nat.one_pos
 |cons n ns ih=>exact jO (h n cz) (ih fun x hx=>h x (b9 _ hx))
theorem Fz.zero{ns:List Nat}:Fz ns 0 []:=fun u=>⟨fun h=>(nomatch h),fun ⟨a,b,_,h,_⟩=>absurd h (by rw[Nat.mul_zero];exact rh _)⟩
theorem Fz.add{ns:List Nat}{k:Nat}{ps Nn:Ts}(hn:∀x∈ns,0<x)(h:Fz ns k ps)(h0:K6 ns Nn):Fz ns (k+1) (ps++Nn.map fun p=>(p.1+ci (pr ns*k),p.2+ci (pr ns*k))):=fun u=>by
 have pp:=yV hn;rw[bg,h u,aW];have sh:∀a b,U ns (a+pr ns*k) (b+pr ns*k)↔U ns a b:=fun a b=>by
  have:=qG (a:=a) (b:=b) (q:=k) (ns:=ns) (st:=1) Nat.one_pos;rwa [n4] at this
 constructor
 .rintro(⟨a,b,e,l,t⟩|⟨v,hv,rfl⟩)
  .exact⟨a,b,e,by rw[lg];lia,t⟩
  .obtain⟨a,b,rfl,l,t⟩:=(h0 v).mp hv;exact⟨a+pr ns*k,b+pr ns*k,rfl,by rw[lg];lia,(sh a b).mpr t⟩
 .rintro⟨a,b,rfl,l,t⟩;by_cases c:a<pr ns*k
  .exact .inl ⟨a,b,rfl,c,t⟩
  .have lt:=CQ Nat.one_pos hn t;rw[lg,n6] at l;refine .inr ⟨(ci (a-pr ns*k),ci (b-pr ns*k)),(h0 _).mpr ⟨a-pr ns*k,b-pr ns*k,rfl,by lia,?_⟩,?_⟩
   .rw[<-sh,show a-pr ns*k+pr ns*k=a by lia,show b-pr ns*k+pr ns*k=b by lia];exact t
   .exact dE (show ((a-pr ns*k:Nat):Int)+((pr ns*k:Nat):Int)=(a:Int) by lia) (show ((b-pr ns*k:Nat):Int)+((pr ns*k:Nat):Int)=(b:Int) by lia)
theorem Fz.box{ns:List Nat}{s n:Nat}{ps:Ts}(hn:∀x∈ns,0<x)(s0:0<s)(hm:n+pr ns=pr ns*s)(h:Fz ns s ps):K6 (ns++[s]) (ps++(List.range n).map fun (h:Nat)=>((h:Int),(h:Int)+ci (pr ns))):=fun u=>by
 have pp:=yV hn;have ep:pr (ns++[s])=pr ns*s:=CS;rw[bg,h u,aW,ep];have sn:∀a b,U (ns++[s]) a b↔U ns a b\/(a / pr ns % s+1<s/\b=a+pr ns):=fun a b=>by
  have:=vd (s:=s) (a:=a) (b:=b) (ns:=ns) (st:=1);rwa [n4] at this
 have key:∀a,a<pr ns*s->(a / pr ns % s+1<s↔a<n):=fun a l=>by
  have q:a / pr ns<s:=(Nat.div_lt_iff_lt_mul pp).mpr (by rw[rF];exact l);rw[jG q];have:a / pr ns+1<s↔a / pr ns<s-1:=by lia
  rw[this,Nat.div_lt_iff_lt_mul pp,Nat.sub_mul,n4,rF s];lia
 constructor
 .rintro(⟨a,b,e,l,t⟩|⟨h,hh,rfl⟩)
  .exact⟨a,b,e,l,(sn a b).mpr (.inl t)⟩
  .have hh:=bG.mp hh;have l:h<pr ns*s:=by lia
   exact⟨h,h+pr ns,rfl,l,(sn _ _).mpr (.inr ⟨(key h l).mpr hh,rfl⟩)⟩
 .rintro⟨a,b,rfl,l,t⟩;rcases(sn a b).mp t with t|⟨t,e⟩
  .exact .inl ⟨a,b,rfl,l,t⟩
  .exact .inr ⟨a,bG.mpr ((key a l).mp t),by rw[e];rfl⟩
theorem FA:K6 [] []:=fun u=>⟨fun h=>(nomatch h),fun ⟨a,b,_,_,h⟩=>h.elim⟩
theorem bL.Jo{n:Nat}{ps qs:Ts}(F:bL n (cB qs))(p:ps.Perm qs):bL n (cB ps):=F.perm (p.flatMap_right _)
theorem K6.j4{ns:List Nat}{ps:Ts}(h:K6 ns ps)(nd:ps.Nodup)(hn:∀x∈ns,2<=x)(h0:ns≠[])(hp:pr ns<=32):bL (pr ns) (cB ps):=by
 have F:=Cw hn h0 hp;refine F.Jo ?_;have G_:((j5 ns).map gL).Nodup:=by
  have:=(dJ.nodup_iff (l₁:=cB ((j5 ns).map gL))).mp F.nd;exact(iC.mp this).1
 rw[List.perm_ext_iff_of_nodup nd G_];intro u;rw[h u,aW];constructor
 .rintro⟨a,b,rfl,l,t⟩;exact⟨(a,b),lO.mpr ⟨l,t⟩,rfl⟩
 .rintro⟨q,hq,rfl⟩;obtain⟨l,t⟩:=lO.mp hq;exact⟨q.1,q.2,rfl,l,t⟩
theorem xA{n:Nat}(n1:3<=n)(n2:n<=32):bL n (cB ((List.range (n-1)).map (fun (h:Nat)=>((h:Int),(h:Int)+1))++[(0,(n:Int)-1)])):=by
 have F:=vc (xs:=List.range n) n1 n2 (rp _);refine F.perm ?_;have e:kY (List.range n)=((n:Int)-1,0)::(List.range (n-1)).map (fun (h:Nat)=>((h:Int),(h:Int)+1)):=by
  unfold kY;rw[cG];obtain⟨m,rfl⟩:∃m,n=m+1:=⟨n-1,by lia⟩
  have gd:∀k,k<m+1->(List.range (m+1)).getD k 0=k:=fun k hk=>by rw[bh,kg hk];rfl
  rw[nB (n:=m),cS,du,Nat.add_sub_cancel,<-nB];congr 1
  .unfold pk;rw[ap rfl,gd _ (by lia),gd _ (by lia)];exact dE (show ((m+1-1:Nat):Int)=((m+1:Nat):Int)-1 by lia) rfl
  .refine fL fun k hk=>?_;have hk:=bG.mp hk;show (ci ((List.range (m+1)).getD (pk (m+1) (k+1)) 0),ci ((List.range (m+1)).getD (k+1) 0))=_;unfold pk;rw[ak (by lia),gd _ (by lia),gd _ (by lia)];exact dE (show ((k+1-1:Nat):Int)=(k:Int) by lia) (show ((k+1:Nat):Int)=(k:Int)+1 by lia)
 rw[e,ii];refine il.trans ?_;show (cB [(0,(n:Int)-1)]++_).Perm (cB [((n:Int)-1,0)]++_);exact qU _ (List.Perm.swap _ _ _)
def kQ(n:Nat):List (Nat×Nat):=(List.range n).flatMap fun o=>(List.range o).map fun a=>(a,o)
theorem Jp{n:Nat}(n1:2<=n)(n9:n<=9):bL n (cB ((kQ n).map gL)):=by
 have h:∀m,m<8->Cr (m+2) (kQ (m+2))=true:=by decide +kernel
 have:=(Cs (h (n-2) (by lia))).1;rwa [show n-2+2=n by lia] at this
theorem bL.more{n i:Nat}{ts:Ts}{xs:List Nat}(F:bL n ts)(d:∀h,gB ts h<=i)(i7:i<=7)(nd:xs.Nodup)(lt:∀x∈xs,x<n)(c2:2<=xs.length)(hn:∀t∈kY xs,t∉ts):bL n (ts++kY xs)/\∀h,gB (ts++kY xs) h<=i+1:=by
 have P:=An F.pre nd lt c2 (fun t _=>a7 (d t.1) i7) hn;refine⟨F.app P,fun h=>?_⟩;rw[yU];have:=(kN (n:=n) nd lt c2).2 h;have:=d h;lia
theorem mr:∀ (hs:List Nat) (ts:Ts),hs.Nodup->(∀h∈hs,7<=(ts.filter fun t=>decide (t.1=ci h)).length)->7*hs.length<=ts.length
 |[],_,_,_=>by simp
 |h::hs,ts,nd,hf=>by
  obtain⟨h1,h2⟩:=cX.mp nd;have e:ts.length=(ts.filter fun t=>decide (t.1=ci h)).length+(ts.filter fun t=>!decide (t.1=ci h)).length:=by
   clear hf;induction ts with
   |nil=>rfl
   |cons t ts ih=>
    rw[eK,eK,dk,ih];cases decide (t.1=ci h) <;> simp <;> lia
  have:=mr hs (ts.filter fun t=>!decide (t.1=ci h)) h2 fun x hx=>by
   have:=hf x (b9 _ hx);rw[v_];refine a7 this (nZ (congrArg List.length (List.filter_congr fun t _=>?_)));by_cases c:t.1=ci x
   .have:t.1≠ci h:=fun z=>h1 (by rw[c] at z;rw[<-cZ z];exact hx);simp[c] at this |-;exact fun z=>this (by exact_mod_cast z)
   .simp[c]
  have:=hf h cz;rw[dk];lia
theorem oJ.No{n:Nat}{os:List Nat}{k:Nat}{ts:Ts}(T:oJ n os k ts)(nd:os.Nodup)(hk:k<=os.length)(k0:0<k):∃h∈os.take k,(ts.filter fun t=>decide (t.1=ci h)).length<7:=by
 apply jn;intro t9;have:=mr (os.take k) ts (nd.sublist (rb _ _)) fun h hh=>jn fun z=>t9 ⟨h,hh,by lia⟩;have hl:=T.len;rw[jH,Nat.min_eq_left hk] at this;lia
end oI
namespace DY
open PySem L2
structure VY(mg:Str->Option Value):Prop where
 abs:mg "abs"=none
abbrev Jq:Stmt:=gG 31
abbrev CU:Stmt:=gG 32
theorem Np{c:Prop}[Decidable c]{A:Prop}{C:St->Hp->Prop}{σ0:St}{H0:Hp}(G:St->Hp->Prop)(hC:∀σ H,G σ H->C σ H)(h1:c->(∀σ H,G σ H->C σ H)->A)(h2:¬ c->G σ0 H0):if c then A else C σ0 H0:=by
 split
 .exact h1 (by assumption) hC
 .exact hC _ _ (h2 (by assumption))
theorem CV{X:Cx}:jx X (binaryOp .FloorDiv) (rI (fun _ j=>0<j/\j<2 ^ 64) fun i j=>.int (i / j)):=LV fun i j _ _ _ _ _ hc q=>by
 have h1:(0:Int)<j:=hc.1;have h2:j<2 ^ 64:=hc.2;refine PyProof.Rows.floordiv_int (by lia) (by rw[A3 i (by lia)];exact q) (.inl (PyProof.noPylong_of_log2 ?_));have h3:j.natAbs<2 ^ 64:=by lia
 have h4:j.natAbs≠0:=by lia
 exact rG ((Nat.log2_lt h4).mpr h3) (by decide)
def aR(H:Hp)(p:Addr):Prop:=∃a b c:Int,H p=some (.lst [.int a,.int b,.int c])/\0<=a/\(0<=b/\b<4294967296)/\(0<=c/\c<4294967296)
theorem aR.same{H H':Hp}{p:Addr}(h:aR H p)(s:aG H H'):aR H' p:=let ⟨a,b,c,e,r⟩:=h;⟨a,b,c,s _ _ e,r⟩
theorem aR.full{H:Hp}{p:Addr}(h:aR H p):H p≠none:=by obtain⟨a,b,c,e,_⟩:=h;rw[e];intro z;cases z
theorem aR.ne{H:Hp}{p q:Addr}(h:aR H p)(e:H q=none):q≠p:=by rintro rfl;exact h.full e
theorem aR.put{H:Hp}{p q:Addr}{o:HO}(h:aR H p)(n:p≠q):aR (upd H q o) p:=let ⟨a,b,c,e,r⟩:=h;⟨a,b,c,by rw[am n];exact e,r⟩
theorem aR.neT{H:Hp}{p q:Addr}{xs:List V}(h:aR H p)(e:H q=some (.tup xs)):q≠p:=by rintro rfl;obtain⟨a,b,c,z,_⟩:=h;rw[e] at z;cases z
section
variable {P:Program} {w:World} {K:PySem.W.Frag} {mg:Str->Option Value} {base:Heap}
theorem yW:aH ["_law_script","_law_k","_law_cell","_law_first"] ["_law_script","_law_k"] (aq Jq):=⟨rfl,rfl,rfl,by decide +kernel,rfl,by decide +kernel,by decide +kernel⟩
def yX(K:PySem.W.Frag):Sp:=fun vs H Q _=>∃ (a:Addr) (ns:List Int) (k:Nat),vs=[.ref a,.int k]/\aQ K H a (ns.map V.int)/\k<64/\∀ (r:Addr) (H':Hp),aG H H'->H r=none->aR H' r->Q (.ref r) H'
theorem Jr{f:Addr}{fd:FuncData}(F:fH K "_law_pot" "_law_pot" Jq f fd)(B:Bl mg)(B2:VY mg):bv P w K mg base bf 1 f fd ["_law_script","_law_k"] (yX K):=by
 refine F.ok yW (fun vs H Q E h=>?_) (fun cT A outer s H vs Q E hr h=>?_)
 .obtain⟨a,ns,k,rfl,_⟩:=h;rfl
 .obtain⟨a,ns,k,rfl,hS,hk,q⟩:=h;refine⟨_,ah (aw (i:=2) yW.nd rfl (Or.inl rfl) aj)
   (ah (b8 (aD mf (pv 1) (az aJ (by rfl) B.len dt (aa (pv 0) af)) (aP _)) (ao (aw (i:=2) yW.nd rfl (Or.inl rfl) (az Bv (by rfl) B2.abs PyProof.Rows.boot_abs (aa (aN aF (pv 0) (pv 1) (fun _ _=>rfl)) af)))) a9)
   (ah (aw (i:=3) yW.nd rfl (Or.inl rfl) (aK b_ (aK b_ (aK fS (pv 2) aj) (aK ff aj (pv 1))) aj))
   (ao (aV (bJ (aa (az (i_ rfl) (by rfl) B.max qX (aa aj (aa (aK fR (pv 2) (aK Ib aj aj)) af))) (aa (pv 3) (aa (aK b_ (aK b_ (aK fS (aK CV (pv 2) aj) aj) (aK ff aj (pv 1))) aj) af)))))))),?_⟩
  refine⟨_,rfl,_,rfl,a,ns.map V.int,rfl,.inl hS,_,_,rfl,rfl,_,rfl,?_⟩;refine Np (fun σ Hc=>Hc=H/\∃c:Int,0<=c/\σ=[some (.ref a),some (.int k),some (.int c),none]) ?_ (fun e hC=>?_) (fun e=>⟨rfl,0,by decide,rfl⟩)
  .rintro σ Hc ⟨rfl,c,c0,rfl⟩;have m0:0<=c % 2147483629:=gY _ (by decide);have m1:c % 2147483629<2147483629:=kh _ (by decide);have m2:0<=c / 2147483629 % 2147483587:=gY _ (by decide);have m3:c / 2147483629 % 2147483587<2147483587:=kh _ (by decide);refine⟨_,rfl,_,_,rfl,rfl,(by show (0:Int)<2147483629;decide),_,rfl,_,_,rfl,rfl,.inl ⟨by decide,by decide⟩,_,_,rfl,rfl,_,_,rfl,rfl,?_⟩;refine⟨_,rfl,_,_,rfl,rfl,⟨by decide,by decide,by decide⟩,_,_,rfl,rfl,_,_,rfl,_,rfl,_,rfl,_,_,rfl,rfl,⟨by decide,by decide⟩,_,_,rfl,rfl,(by show (0:Int)<2147483587;decide),_,rfl,_,_,rfl,rfl,.inl ⟨by decide,by decide⟩,_,_,rfl,rfl,_,_,rfl,rfl,by show 3<=sizeLine;decide,fun r dh=>?_⟩;refine q r _ (ag dh) dh ⟨_,_,_,ab,?_,⟨?_,?_⟩,⟨?_,?_⟩⟩
   .split <;> lia
   .lia
   .lia
   .lia
   .lia
  .have fw:k<ns.length:=by
    have:(k:Int)<((ns.map V.int).length:Int):=by simpa using e
    rw[aB] at this;lia
   refine⟨_,rfl,_,rfl,a,_,_,_,rfl,rfl,hS,aE (v:=.int ns[k]) (by rw[bO,bD fw];rfl),_,rfl,hC _ _ ⟨rfl,_,?_,rfl⟩⟩;split <;> lia
theorem CW:aH ["_law_pot_here","_law_many","_law_digit"] ["_law_pot_here","_law_many"] (aq CU):=⟨rfl,rfl,rfl,by decide +kernel,rfl,by decide +kernel,by decide +kernel⟩
def eU:Sp:=fun vs H Q _=>∃ (p:Addr) (m:Int),vs=[.ref p,.int m]/\0<m/\m<1000000/\aR H p/\∀ (d:Int) (H':Hp),0<=d->d<m->av p H H'->aR H' p->Q (.int d) H'
theorem yY{f:Addr}{fd:FuncData}(F:fH K "_law_take" "_law_take" CU f fd):bv P w K mg base bf 1 f fd ["_law_pot_here","_law_many"] eU:=by
 refine F.ok CW (fun vs H Q E h=>?_) (fun cT A outer s H vs Q E hr h=>?_)
 .obtain⟨p,m,rfl,_⟩:=h;rfl
 .obtain⟨p,m,rfl,m0,m1,⟨a,b,c,hp,a0,⟨b0,b1⟩,⟨c0,c1⟩⟩,q⟩:=h;refine⟨_,ah (b8 (aD Bt (aN aF (pv 0) aj (fun _ _=>rfl)) aj (aP _))
    (ah (aw (i:=2) CW.nd rfl (Or.inl rfl) (aK fS (aN aF (pv 0) aj (fun _ _=>rfl)) (pv 1)))
    (ah (d9 (aK rV (aN aF (pv 0) aj (fun _ _=>rfl)) (pv 1)) (hV (pv 0) aj ee))
    (ao (aV (pv 2))))) a9)
   (ah (d9 (aK fS (aK b_ (aK ff (aN aF (pv 0) aj (fun _ _=>rfl)) aj) aj) aj) (hV (pv 0) aj ee))
   (ah (d9 (aK fS (aK b_ (aK ff (aN aF (pv 0) aj (fun _ _=>rfl)) aj) aj) aj) (hV (pv 0) aj ee))
   (ao (aV (aK fS (aK rV (aK fS (aK b_ (aK ff (aN aF (pv 0) aj (fun _ _=>rfl)) (aN aF (pv 0) aj (fun _ _=>rfl))) (aK ff (aN aF (pv 0) aj (fun _ _=>rfl)) (aN aF (pv 0) aj (fun _ _=>rfl)))) aj) aj) (pv 1)))))),?_⟩
  have g0:∀a b c:Int,oj [V.int a,V.int b,V.int c] 0=some (.int a):=fun a b c=>aE (j:=0) rfl;have g1:∀a b c:Int,oj [V.int a,V.int b,V.int c] 1=some (.int b):=fun a b c=>aE (j:=1) rfl;have g2:∀a b c:Int,oj [V.int a,V.int b,V.int c] 2=some (.int c):=fun a b c=>aE (j:=2) rfl;refine⟨_,rfl,p,_,_,_,rfl,rfl,aQ.of hp,g0 _ _ _,_,_,rfl,rfl,_,rfl,?_⟩;refine cW (fun e=>?_) (fun e=>?_)
  .refine⟨_,rfl,p,_,_,_,rfl,rfl,aQ.of hp,g0 _ _ _,_,rfl,_,_,rfl,rfl,m0,?_⟩;refine⟨_,rfl,p,_,_,_,rfl,rfl,aQ.of hp,g0 _ _ _,_,rfl,_,_,rfl,rfl,⟨m0,by lia⟩,?_⟩;refine⟨_,rfl,p,_,0,0,rfl,rfl,hp,gn (j:=0) (by show 0<3;decide),?_⟩;refine⟨_,rfl,?_⟩;exact q _ _ (gY _ (by lia)) (kh _ m0) av.upd ⟨_,_,_,ab,Int.ediv_nonneg a0 (by lia),⟨b0,b1⟩,⟨c0,c1⟩⟩
  .refine⟨_,rfl,p,_,_,_,rfl,rfl,aQ.of hp,g1 _ _ _,_,_,rfl,rfl,.inl ⟨by lia,by lia⟩,_,_,rfl,rfl,_,_,rfl,rfl,(by show (0:Int)<2147483647;decide),?_⟩;refine⟨_,rfl,p,_,1,1,rfl,rfl,hp,gn (j:=1) (by show 1<3;decide),?_⟩;have u0:0<=(b*48271+11) % 2147483647:=gY _ (by decide);have u1:(b*48271+11) % 2147483647<2147483647:=kh _ (by decide);have KS:(upd H p (.lst [.int a,.int ((b*48271+11) % 2147483647),.int c])) p=some (.lst [.int a,.int ((b*48271+11) % 2147483647),.int c]):=ab;refine⟨_,rfl,p,_,_,_,rfl,rfl,aQ.of KS,g2 _ _ _,_,_,rfl,rfl,.inl ⟨by lia,by lia⟩,_,_,rfl,rfl,_,_,rfl,rfl,(by show (0:Int)<2147483579;decide),?_⟩;refine⟨_,rfl,p,_,2,2,rfl,rfl,KS,gn (j:=2) (by show 2<3;decide),?_⟩;have v0:0<=(c*39373+17) % 2147483579:=gY _ (by decide);have v1:(c*39373+17) % 2147483579<2147483579:=kh _ (by decide);have Nq:(upd (upd H p (.lst [.int a,.int ((b*48271+11) % 2147483647),.int c])) p (.lst [.int a,.int ((b*48271+11) % 2147483647),.int ((c*39373+17) % 2147483579)])) p=some (.lst [.int a,.int ((b*48271+11) % 2147483647),.int ((c*39373+17) % 2147483579)]):=ab;refine⟨_,rfl,p,_,_,_,rfl,rfl,aQ.of Nq,g1 _ _ _,_,rfl,p,_,_,_,rfl,rfl,aQ.of Nq,g2 _ _ _,_,_,rfl,rfl,.inl ⟨by lia,by lia⟩,_,rfl,p,_,_,_,rfl,rfl,aQ.of Nq,g1 _ _ _,_,rfl,p,_,_,_,rfl,rfl,aQ.of Nq,g1 _ _ _,_,_,rfl,rfl,.inl ⟨by lia,by lia⟩,_,_,rfl,rfl,_,_,rfl,rfl,(by show (0:Int)<2147483563;decide),_,_,rfl,rfl,⟨by decide,by decide⟩,_,rfl,_,_,rfl,rfl,m0,?_⟩;exact q _ _ (gY _ (by lia)) (kh _ m0) (av.trans av.upd av.upd) ⟨_,_,_,Nq,a0,⟨u0,by lia⟩,⟨v0,by lia⟩⟩
end
theorem PO.fc{H H':Hp}{p:Addr}{zs:Zs}(h:PO H zs)(s:av p H H')(hp:aR H p):PO H' zs:=fun z hz=>s _ _ (h z hz) (hp.neT (h z hz))
theorem oR{K:PySem.W.Frag}{H:Hp}{l:Addr}{zs:Zs}{Q:VK}(hl:H l=some (.lst (zr zs)))(ho:PO H zs)(hz:zs.length<=4096)(q:∀ (D:Addr) (u8:Zs),H D=none->u8.Perm zs->Q (.ref D) (upd H D (.lst (zr u8)))):xg K [.ref l] H Q:=by
 refine⟨l,zs.map (·.1),rfl,aQ.of (by rw[<-jc];exact hl),fun a ha=>?_,by rw[aB];exact hz,fun D uS hD hp=>?_⟩
 .obtain⟨z,hz,rfl⟩:=aW.mp ha;exact⟨_,_,bZ.of (ho z hz)⟩
 .obtain⟨u8,h1,rfl⟩:=qD ho hp;rw[<-jc];exact q D u8 hD h1
theorem jg{lo:Int}{n:Nat}{D:Addr}{g:TG}{tt:TT}{te:TE}{dN:Hp->Prop}{σB:St}{H0:Hp}(F:Nat->Int×Int)(bQ:St->Prop)(hD:H0 D=none)(hn:n<=100000)(h0:bQ σB)(hs:∀i σ H (R:V->St->Hp->Prop) (Kf:St->Hp->Prop),i<n->bQ σ->aG H0 H->(∀σ2 p,bQ σ2->H p=none->R (.ref p) σ2 (upd H p (qC (F i))))->g (.int (lo+i)) σ H fun σ2 H2=>tt σ2 H2 fun b H3=>if b=true then te σ2 H3 fun v H4=>R v σ2 H4 else Kf σ2 H3)(hd:∀zs H,aG H0 H->H D=some (.lst (zr zs))->PO H zs->zp zs=(List.range n).map F->dN H):gH (DR lo n) g tt te D dN σB (upd H0 D (.lst [])):=by
 refine cQ (fun i ys σ H=>bQ σ/\aG H0 H/\H D=some (.lst ys)/\∃zs:Zs,ys=zr zs/\PO H zs/\zp zs=(List.range i).map F) ⟨h0,ag hD,ab,[],rfl,PO.nil,rfl⟩ ?_ ?_
 .rintro i ys σ H Kt Kf hi ⟨sh,sm,iw,zs,rfl,po,ep⟩ kt kf;have hl:zs.length=i:=by rw[<-bj,ep,aB,cG]
  refine hs i σ H Kt Kf hi sh sm (fun σ2 p u9 hp=>?_)
  .have nD:D≠p:=ai iw hp;refine kt _ _ _ (by rw[am nD];exact iw) (by rw[bP,hl];exact bN hi (a7 hn (by decide))) ⟨u9,a_ (sm.trans (ag hp)) hD,ab,zs++[(p,F i)],?_,?_,?_⟩
   .rw[cj];rfl
   .refine PO.putL (xs:=zr zs) ?_ (by rw[am nD];exact iw);exact(po.putN hp).append (PO.one ab)
   .rw[bC,ep,gX,bT];rfl
 .rintro ys σ H ⟨_,sm,iw,zs,rfl,po,ep⟩;exact hd zs H sm iw po ep
theorem lS{K:PySem.W.Frag}{a D:Addr}{zs0:Zs}{g:TG}{tt:TT}{te:TE}{dN:Hp->Prop}{σB:St}{H0:Hp}(F:Int×Int->Int×Int)(bQ:St->Prop)(ha:H0 a=some (.lst (zr zs0)))(IW:PO H0 zs0)(hD:H0 D=none)(hn:zs0.length<=100000)(h0:bQ σB)(hs:∀z σ H (R:V->St->Hp->Prop) (Kf:St->Hp->Prop),z∈zs0->bQ σ->H z.1=some (qC z.2)->(∀σ2 p,bQ σ2->H p=none->R (.ref p) σ2 (upd H p (qC (F z.2))))->g (.ref z.1) σ H fun σ2 H2=>tt σ2 H2 fun b H3=>if b=true then te σ2 H3 fun v H4=>R v σ2 H4 else Kf σ2 H3)(hd:∀zs H,aG H0 H->H D=some (.lst (zr zs))->PO H zs->zp zs=(zp zs0).map F->dN H):gH (AJ K a) g tt te D dN σB (upd H0 D (.lst [])):=by
 refine cu (xs:=zr zs0) (fun i ys σ H=>bQ σ/\aG H0 H/\H D=some (.lst ys)/\∃zs:Zs,ys=zr zs/\PO H zs/\zp zs=((zp zs0).take i).map F) ⟨h0,ag hD,ab,[],rfl,PO.nil,rfl⟩ (fun i ys σ H _ z=>aQ.of (z.2.1 _ _ ha)) ?_ ?_
 .rintro i x ys σ H Kt Kf hx ⟨sh,sm,iw,zs,rfl,po,ep⟩ kt kf;obtain⟨z,hz,rfl⟩:=iZ hx;have hi:i<zs0.length:=(cD.mp hz).1;have pe:z∈zs0:=cE hz;have hl:zs.length=i:=by rw[<-bj,ep,aB,jH,bj];lia
  refine hs z σ H Kt Kf pe sh (sm _ _ (IW z pe)) (fun σ2 p u9 hp=>?_)
  .have nD:D≠p:=ai iw hp;refine kt _ _ _ (by rw[am nD];exact iw) (by rw[bP,hl];exact bN hi (a7 hn (by decide))) ⟨u9,a_ (sm.trans (ag hp)) hD,ab,zs++[(p,F z.2)],?_,?_,?_⟩
   .rw[cj];rfl
   .refine PO.putL (xs:=zr zs) ?_ (by rw[am nD];exact iw);exact(po.putN hp).append (PO.one ab)
   .have e2:(zp zs0)[i]?=some z.2:=by unfold zp;rw[bO,hz];rfl
    rw[bC,ep,eI,e2,iA,bT];rfl
 .rintro ys σ H ⟨_,sm,iw,zs,rfl,po,ep⟩;rw[bP,<-bj,gf] at ep;exact hd zs H sm iw po ep
structure mJ(n:Int)(ps:List (Int×Int)):Prop where
 nd:ps.Nodup
 rg:∀p∈ps,(0<=p.1/\p.1<n)/\(0<=p.2/\p.2<n)
 uX:∀h,(ps.map (·.1)).count h=(ps.map (·.2)).count h
structure PU(n:Int)(ps:List (Int×Int)):Prop where
 nd:ps.Nodup
 rg:∀p∈ps,0<=p.1/\p.1<p.2/\p.2<n
def sw(p:Int×Int):Int×Int:=(p.2,p.1)
theorem gC{α:Type}{a b:List α}(h1:a.Nodup)(h2:b.Nodup)(h3:∀x∈a,x∉b):(a++b).Nodup:=iC.mpr ⟨h1,h2,fun x hx y hy e=>h3 x hx (e ▸ hy)⟩
theorem eV{α β:Type}{f:α->β}{a:List α}(h:a.Nodup)(hf:∀x∈a,∀y∈a,f x=f y->x=y):(a.map f).Nodup:=by
 induction a with
 |nil=>exact iq
 |cons x xs ih=>
  obtain⟨h1,h2⟩:=cX.mp h;rw[cS];refine cX.mpr ⟨fun z=>?_,ih h2 fun y hy z hz=>hf y (b9 _ hy) z (b9 _ hz)⟩;obtain⟨y,hy,e⟩:=aW.mp z;have:=hf y (b9 _ hy) x cz e;exact h1 (this ▸ hy)
theorem tE{a b:Zs}(h:a.Perm b):(zp a).Perm (zp b):=h.map _
theorem fY{α:Type}[DecidableEq α](p:α->Bool):∀ {a b:List α},a.Nodup->(∀x∈a,p x=true->x∈b)->a.countP p<=b.countP p
 |[],_,_,_=>c_ _
 |x::xs,b,h,hs=>by
  obtain⟨h1,h2⟩:=cX.mp h;by_cases px:p x=true
  .have hx:x∈b:=hs x cz px;have ih:=fY p (a:=xs) (b:=b.erase x) h2 fun y hy py=>(vS (fun (e:y=x)=>h1 (e ▸ hy))).mpr (hs y (b9 _ hy) py);have e:=(List.perm_cons_erase hx).countP_eq p;rw[e,List.countP_cons_of_pos px,List.countP_cons_of_pos px];lia
  .rw[List.countP_cons_of_neg px];exact fY p h2 fun y hy=>hs y (b9 _ hy)
theorem lT{ps:List (Int×Int)}{h:Int}:(ps.map (·.1)).count h=ps.countP fun p=>p.1==h:=by
 rw[nJ,k_];rfl
theorem qH{ps:List (Int×Int)}{h:Int}:(ps.map (·.2)).count h=ps.countP fun p=>p.2==h:=by
 rw[nJ,k_];rfl
abbrev tG:Stmt:=gG 33
def dD(ss:List Int):Int:=ss.foldl (·*·) 1
theorem lU{ss:List Int}{s:Int}:dD (ss++[s])=dD ss*s:=by unfold dD;rw[List.foldl_append];rfl
structure Av(ss:List Int):Prop where
 Js:ss.length<=5
 two:∀s∈ss,2<=s/\s<=32
 lim:∀i,1<=dD (ss.take i)/\dD (ss.take i)<=32
theorem fK{ns:List Int}{n:Int}:IV ns++[.int n]=IV (ns++[n]):=by unfold IV;rw[bT];rfl
theorem Aw{α:Type}{xs:List α}{x:α}{i:Nat}:(xs++[x]).take i=xs.take i\/(xs++[x]).take i=xs++[x]:=by
 by_cases h:i<=xs.length
 .exact .inl (List.take_append_of_le_length h)
 .exact .inr (nA (by rw[bY];simp;lia))
theorem Av.snoc{ss:List Int}{s:Int}(h:Av ss)(h5:ss.length<5)(h2:2<=s)(hl:s<=32 / dD ss):Av (ss++[s]):=by
 have l0:=h.lim ss.length;rw[gf] at l0;have a1:dD ss*s<=32:=by
  have b1:dD ss*s<=dD ss*(32 / dD ss):=pO hl (by lia);have b2:=Int.mul_ediv_self_le (x:=32) (k:=dD ss) (by lia);lia
 have a2:1<=dD ss*s:=by
  have:1*s<=dD ss*s:=AZ l0.1 (by lia);lia
 have a3:s<=32:=by
  have:1*s<=dD ss*s:=AZ l0.1 (by lia);lia
 refine⟨by rw[bY];simp;lia,fun x hx=>?_,fun i=>?_⟩
 .rcases bg.mp hx with z|z
  .exact h.two x z
  .rw[bR.mp z];exact⟨h2,a3⟩
 .rcases Aw (xs:=ss) (x:=s) (i:=i) with e|e
  .rw[e];exact h.lim i
  .rw[e,lU];exact⟨a2,a1⟩
section
variable {P:Program} {w:World} {K:PySem.W.Frag} {mg:Str->Option Value} {base:Heap}
theorem kT:aH ["_law_pot_here","_law_sides_here","_law_area","_law_k"] ["_law_pot_here"] (aq tG):=⟨rfl,rfl,rfl,by decide +kernel,rfl,by decide +kernel,by decide +kernel⟩
def m7:Sp:=fun vs H Q _=>∃ (p:Addr),vs=[.ref p]/\aR H p/\∀ (r:Addr) (ss:List Int) (H':Hp),av p H H'->aR H' p->H r=none->H' r=some (.tup (IV ss))->Av ss->ss≠[]->Q (.ref r) H'
theorem CZ{f:Addr}{fd:FuncData}(F:fH K "_law_sides" "_law_sides" tG f fd)(B:Bl mg)(T:ce P w K mg base bf 1 "_law_take" ["_law_pot_here","_law_many"] eU):bv P w K mg base bf 2 f fd ["_law_pot_here"] m7:=by
 refine F.ok kT (fun vs H Q E h=>?_) (fun cT A outer s H vs Q E hr h=>?_)
 .obtain⟨p,rfl,_⟩:=h;rfl
 .obtain⟨p,rfl,hp,q⟩:=h;have hu:(A.deeper (PyProof.Rows.envOfC "_law_sides" (aq tG) s.heap.objs.size f cT)).units+2<cLine:=by have:=hr.un;lia
  refine⟨_,ah (aw (i:=1) kT.nd rfl (Or.inl rfl) (bJ af))
   (ah (aw (i:=2) kT.nd rfl (Or.inl rfl) aj)
   (ah (cA dq rfl (aU rfl B.range (aa aj af)) (au (i:=3) kT.nd rfl (Or.inl rfl))
    (ao (b8 (PW.pt (gw (aD Bs (pv 2) aj (aP _)) (gj (PW.pt (og (aD (B4 (e:=j_) hu) (pv 1) (bJ af) (aP _)) (oe (aD Bt (aA T hr aL (aa (pv 0) (aa aj af))) aj (aP _))))))))
     (ah (bK (dz di fm fk bB (pv 1) (aa (aK b_ aj (aA T hr aL (aa (pv 0) (aa (az (ja rfl) (by rfl) B.min qW (aa aj (aa (aK fR (aK rV aj (pv 2)) aj) af))) af)))) af)))
     (ao (aw (i:=2) kT.nd rfl (Or.inl rfl) (aK ff (pv 2) (aN aF (pv 1) (pT lx aj) (fun _ _=>rfl))))))
     a9)))
   (ao (aV (bA cU (by rfl) B.tup nu (aa (pv 1) af)))))),?_⟩
  refine⟨by show 0<=sizeLine;decide,fun D hD=>?_⟩;have pJ:D≠p:=hp.ne hD;refine⟨_,rfl,by decide,by decide,cf (lo:=0) (n:=5) (fun i σ H2=>(∃v ss,σ=[some (.ref p),some (.ref D),some (.int (dD ss)),v]/\H2 D=some (.lst (IV ss))/\Av ss/\ss.length<=i/\(1<=i->ss≠[]))/\av p H H2/\aR H2 p) ?_ ?_ ?_⟩
  .exact⟨⟨_,[],rfl,ab,⟨by decide,fun s hs=>(nomatch hs),fun i=>by rw[List.take_nil];decide⟩,by decide,fun z=>absurd z (by decide)⟩,av.of (ag hD),hp.same (ag hD)⟩
  .rintro i σ H2 hi ⟨⟨v,ss,rfl,iz,sd,sl,Hl⟩,se,po⟩;have l0:=sd.lim ss.length;rw[gf] at l0;refine oM (fun Hc=>av p H Hc/\aR Hc p/\Hc D=some (.lst (IV ss))/\dD ss<=16) (fun Hc=>av p H Hc/\aR Hc p/\Hc D=some (.lst (IV ss))/\ss≠[]) ?_ ?_ ?_
   .rintro H3 ⟨i6,lR,fX,Su⟩;have d1:2<=32 / dD ss:=by
     rw[Int.le_ediv_iff_mul_le (by lia)];lia
    refine⟨_,rfl,.inl ⟨rfl,_,aQ.of fX⟩,_,rfl,_,rfl,_,_,rfl,rfl,⟨by lia,by lia⟩,_,_,rfl,rfl,_,_,rfl,p,_,rfl,?_,?_,lR,fun d H4 d0 VZ ve ph=>?_⟩
    .show 0<(if (32 / dD ss-1:Int)<7 then (32 / dD ss-1:Int) else 7);split <;> lia
    .show (if (32 / dD ss-1:Int)<7 then (32 / dD ss-1:Int) else 7)<1000000;split <;> lia
    have d2:d<32 / dD ss-1:=by
     have:d<(if (32 / dD ss-1:Int)<7 then (32 / dD ss-1:Int) else 7):=VZ;split at this <;> lia
    have gq:=ve _ _ fX pJ;refine⟨_,_,rfl,rfl,D,_,_,rfl,rfl,gq,by rw[aB];exact iB sd.Js (by decide),?_⟩;refine⟨_,rfl,_,rfl,_,rfl,D,_,_,_,rfl,rfl,aQ.of ab,kA _ _,_,_,rfl,rfl,.inl ⟨by lia,by lia⟩,?_⟩;refine⟨⟨_,ss++[2+d],by rw[lU];rfl,by rw[ab,fK],sd.snoc (by lia) (by lia) (by lia),by rw[bY];simp;lia,fun _=>by simp⟩,cg (i6.trans ve) hD,ph.put pJ.symm⟩
   .rintro H3 ⟨i6,lR,fX,t7⟩;exact⟨⟨_,ss,rfl,fX,sd,by lia,fun _=>t7⟩,i6,lR⟩
   .intro Y N y n;refine⟨_,rfl,_,_,rfl,rfl,_,rfl,?_⟩;refine cW (fun e=>?_) (fun e=>oN (n _ ⟨se,po,iz,fun z=>e (by subst z;rfl)⟩));have Su:dD ss<=16:=eG e;refine⟨_,rfl,by show 0<=sizeLine;decide,fun L0 j3=>⟨D,L0,_,_,rfl,rfl,aQ.of (ag j3 _ _ iz),aQ.of ab,fun i _ hi=>absurd hi (by simp),_,rfl,?_⟩⟩;have i6:av p H (upd H2 L0 (.lst [])):=se.trans (av.of (ag j3));have lR:aR (upd H2 L0 (.lst [])) p:=po.same (ag j3);have fX:(upd H2 L0 (.lst [])) D=some (.lst (IV ss)):=ag j3 _ _ iz;revert i6 lR fX;generalize upd H2 L0 (.lst [])=H3;intro i6 lR fX;refine cW (fun e=>qB (y _ ⟨i6,lR,fX,Su⟩)) (fun e=>?_);refine⟨_,rfl,p,_,rfl,by decide,by decide,lR,fun d H4 d0 VZ ve ph=>⟨_,_,rfl,rfl,_,rfl,?_⟩⟩;exact cW (fun _=>y _ ⟨i6.trans ve,ph,ve _ _ fX pJ,Su⟩) (fun _=>n _ ⟨i6.trans ve,ph,ve _ _ fX pJ,fun z=>e (by subst z;rfl)⟩)
  .rintro σ H2 ⟨⟨v,ss,rfl,iz,sd,sl,Hl⟩,se,po⟩;refine⟨_,rfl,D,_,rfl,.inl ⟨aQ.of iz,fun r dh=>?_⟩⟩;exact q r ss _ (se.trans (av.of (ag dh))) (po.same (ag dh)) (se.free po.full dh) ab sd (Hl (by decide))
end
open PySem L2 oI
abbrev Jt:Stmt:=gG 34
theorem C3:(["_law_one","_law_other","_law_many","_law_k"]:List Str).Nodup:=by decide +kernel
theorem Sv:(["_law_house","_law_many"]:List Str).Nodup:=by decide +kernel
structure Ax(m q:Int)(ps:List (Int×Int)):Prop where
 nd:ps.Nodup
 rg:∀p∈ps,0<=p.1/\p.1<p.2/\p.2<q/\p.2-p.1<m
theorem Ax.add{m q:Int}{ps Nn:List (Int×Int)}(h:Ax m q ps)(h0:PU m Nn)(q0:0<=q):Ax m (q+m) (ps++Nn.map fun p=>(p.1+q,p.2+q)):=by
 refine⟨gC h.nd (eV h0.nd fun x _ y _ e=>?_) fun x hx hy=>?_,fun p hp=>?_⟩
 .have e1:x.1+q=y.1+q:=congrArg Prod.fst e;have e2:x.2+q=y.2+q:=congrArg Prod.snd e;exact dE (by lia) (by lia)
 .obtain⟨y,K7,rfl⟩:=aW.mp hy;have a1:=h.rg _ hx;have a2:=h0.rg y K7;dsimp only at a1;lia
 .rcases bg.mp hp with z|z
  .have:=h.rg p z;by_cases hm:0<=m
   .lia
   .lia
  .obtain⟨y,K7,rfl⟩:=aW.mp z;have a2:=h0.rg y K7;dsimp only;lia
theorem Ax.all{m q:Int}{n:Nat}{ps:List (Int×Int)}(h:Ax m q ps)(m0:0<m)(hn:(n:Int)+m=q):PU q (ps++(List.range n).map fun (h:Nat)=>((h:Int),(h:Int)+m)):=by
 refine⟨gC h.nd (eV jt fun x _ y _ e=>?_) fun x hx hy=>?_,fun p hp=>?_⟩
 .have e1:(x:Int)=y:=congrArg Prod.fst e;lia
 .obtain⟨y,K7,rfl⟩:=aW.mp hy;have a1:=h.rg _ hx;dsimp only at a1;lia
 .rcases bg.mp hp with z|z
  .have:=h.rg p z;lia
  .obtain⟨y,K7,rfl⟩:=aW.mp z;have:=bG.mp K7;dsimp only;lia
section
variable {P:Program} {w:World} {K:PySem.W.Frag} {mg:Str->Option Value} {base:Heap}
def nN(ss:List Int):List Nat:=ss.map Int.toNat
theorem qI{s:Int}:∀ {ss:List Int} {a:Int},ss.foldl (·*·) (a*s)=s*ss.foldl (·*·) a
 |[],a=>Int.mul_comm _ _
 |t::ss,a=>by
  show ss.foldl (·*·) (a*s*t)=s*ss.foldl (·*·) (a*t);rw[show a*s*t=a*t*s by rw[wx,Int.mul_comm s,<-wx]];exact qI
theorem tH:∀ {ss:List Int},(∀s∈ss,0<=s)->dD ss=((pr (nN ss):Nat):Int)
 |[],_=>rfl
 |s::ss,h=>by
  have ih:=tH (ss:=ss) fun x hx=>h x (b9 _ hx);have h0:=h s cz;show ss.foldl (·*·) (1*s)=((s.toNat*pr (nN ss):Nat):Int);rw[qI,rn,<-ih,l9 h0];rfl
theorem FB{ss:List Int}{i:Nat}{s:Int}(h:ss[i]?=some s):nN (ss.take (i+1))=nN (ss.take i)++[s.toNat]:=by
 unfold nN;rw[eI,h,iA,bT];rfl
theorem kU:aH ["_law_sides_here","_law_many","_law_pairs","_law_side","_law_layers","_law_k"] ["_law_sides_here"] (aq Jt):=⟨rfl,rfl,rfl,by decide +kernel,rfl,by decide +kernel,by decide +kernel⟩
def yZ:Sp:=fun vs H Q _=>∃ (a:Addr) (ss:List Int),vs=[.ref a]/\H a=some (.tup (IV ss))/\Av ss/\ss≠[]/\∀ (r L:Addr) (n:Int) (zs:Zs) (H':Hp),aG H H'->H' r=some (.tup [.int n,.ref L])->H' L=some (.lst (zr zs))->H L=none->PO H' zs->PU n (zp zs)->zs.length<=160->1<=n->n<=32->bL n.toNat (cB (zp zs))->Q (.ref r) H'
theorem Ju{f:Addr}{fd:FuncData}(F:fH K "_law_box_pairs" "_law_box_pairs" Jt f fd)(B:Bl mg):bv P w K mg base bf 1 f fd ["_law_sides_here"] yZ:=by
 refine F.ok kU (fun vs H Q E h=>?_) (fun cT A outer s H vs Q E hr h=>?_)
 .obtain⟨a,ss,rfl,_⟩:=h;rfl
 .obtain⟨a,ss,rfl,ha,sd,Hl,q⟩:=h;have V0:∀s∈ss,0<=s:=fun s hs=>by have:=sd.two s hs;lia
  refine'⟨_,ah (aw (i:=1) kU.nd rfl (Or.inr rfl) aj)
   (ah (aw (i:=2) kU.nd rfl (Or.inl rfl) (bJ af))
   (ah (cA dq rfl (wB (pv 0)) (au (i:=3) kU.nd rfl (Or.inl rfl))
    (ah (aw (i:=4) kU.nd rfl (Or.inl rfl) (bJ af))
    (ah (cA dq rfl (aU rfl B.range (aa (pv 3) af)) (au (i:=5) kU.nd rfl (Or.inr rfl))
     (ao (aw (i:=4) kU.nd rfl (Or.inl rfl) (aK gy (pv 4) ?c1))))
    (ah (aw (i:=2) kU.nd rfl (Or.inl rfl) (aK gy (pv 4) ?c2))
    (ao (aw (i:=1) kU.nd rfl (Or.inr rfl) (aK ff (pv 1) (pv 3))))))))
   (ao (aV (cp (aa (pv 1) (aa (pv 2) af))))))),?_⟩
  case c1=>
   refine' bt (g:=rR K 2 (eZ (bb 0) (eZ (bb 1) rQ))) (te:=pA (bq (gW (t6 fun i j=>.int (i+j)) (aT 0) (gW (rI Bp fun i j=>.int (i*j)) (aT 2) (aT 3))) (bq (gW (t6 fun i j=>.int (i+j)) (aT 1) (gW (rI Bp fun i j=>.int (i*j)) (aT 2) (aT 3))) eO))) (NB:=["_law_one","_law_other","_law_many","_law_k"]) (src:=[none,none,some 1,some 5]) (br (by kernel_rfl)) rfl
    (bH (pv 2)) ?g ?t ?e
   case g=>exact fun cl C s₃ H₃ fp=>eN (n:=2) rfl (aY (au (i:=0) C3 rfl (Or.inl rfl) (Or.inr rfl)) (aY (au (i:=1) C3 rfl (Or.inl rfl) (Or.inr rfl)) de))
   case t=>exact fun cl C s₃ H₃ fp=>bX
   case e=>exact fun cl C s₃ H₃ fp=>cp (aa (aK b_ (pv 0) (aK ff (pv 2) (pv 3))) (aa (aK b_ (pv 1) (aK ff (pv 2) (pv 3))) af))
  case c2=>
   refine' bt (g:=bb 0) (te:=pA (bq (aT 0) (bq (gW (t6 fun i j=>.int (i+j)) (aT 0) (aT 1)) eO))) (NB:=["_law_house","_law_many"]) (src:=[none,some 1]) (br (by kernel_rfl)) rfl
    (aU rfl B.range (aa (aK ff (pv 1) (aK fR (pv 3) aj)) af)) ?g ?t ?e
   case g=>exact fun cl C s₃ H₃ fp=>au (i:=0) Sv rfl (Or.inl rfl) (Or.inr rfl)
   case t=>exact fun cl C s₃ H₃ fp=>bX
   case e=>exact fun cl C s₃ H₃ fp=>cp (aa (pv 0) (aa (aK b_ (pv 0) (pv 1)) af))
  refine⟨by show 0<=sizeLine;decide,fun D hD=>?_⟩;refine⟨_,rfl,a,rfl,⟨_,bZ.of (by rw[am (ai ha hD)];exact ha)⟩,rT (K:=K) (a:=a) (xs:=IV ss) (fun i σ H2=>(∃L v3 v4 v5 zs,σ=[some (.ref a),some (.int (dD (ss.take i))),some (.ref L),v3,v4,v5]/\H2 L=some (.lst (zr zs))/\H L=none/\PO H2 zs/\PU (dD (ss.take i)) (zp zs)/\(zs.length:Int)<=i*dD (ss.take i)/\K6 (nN (ss.take i)) (zp zs))/\aG H H2)
   ⟨⟨D,_,_,_,[],rfl,ab,hD,PO.nil,⟨iq,fun p hp=>(nomatch hp)⟩,by simp,FA⟩,ag hD⟩ (fun i σ H2 _ z=>bZ.of (z.2 _ _ ha)) ?_ ?_⟩
  .rintro i x σ H2 hx ⟨⟨L,v3,v4,v5,zs,rfl,hL,K8,po,PV,zl,bp⟩,sm⟩;obtain⟨mK,hs',rfl⟩:∃s,ss[i]?=some s/\x=.int s:=by
    rw[bO] at hx;cases e:ss[i]? with
    |none=>rw[e] at hx;cases hx
    |some s=>rw[e] at hx;exact⟨s,rfl,(bE hx).symm⟩
   have hi:i<ss.length:=(cD.mp hs').1;have t3:=sd.two mK (cE hs');have lim:=sd.lim i;have Sw:=sd.lim (i+1);have ep:dD (ss.take (i+1))=dD (ss.take i)*mK:=by rw[eI,hs',iA,lU]
   rw[ep] at Sw;rw[ep];have h5:=sd.Js;have pos:∀x∈nN (ss.take i),0<x:=fun x hx=>by
    obtain⟨y,hy,rfl⟩:=aW.mp hx;have:=sd.two y (nz hy);lia
   have mp:dD (ss.take i)=((pr (nN (ss.take i)):Nat):Int):=tH fun x hx=>V0 x (nz hx);rw[FB hs'];generalize vE:nN (ss.take i)=ns at *;generalize hm:dD (ss.take i)=m at *;have PX:zs.length<=160:=by
    have:(i:Int)*m<=5*32:=by
     have a1:(i:Int)*m<=i*32:=pO lim.2 (by lia);lia
    lia
   refine⟨by show 0<=sizeLine;decide,fun D1 D5=>?_⟩;have hLD:L≠D1:=ai hL D5;refine⟨_,rfl,mK,rfl,by lia,by lia,cf (lo:=0) (n:=mK.toNat) (fun k σ H3=>(∃L1 v5 C4,σ=[some (.ref a),some (.int m),some (.ref L),some (.int mK),some (.ref L1),v5]/\H3 L1=some (.lst (zr C4))/\H2 L1=none/\PO H3 C4/\Ax m (m*k) (zp C4)/\C4.length=k*zs.length/\Fz ns k (zp C4))/\aG H2 H3)
    ⟨⟨D1,_,[],rfl,ab,D5,PO.nil,⟨iq,fun p hp=>(nomatch hp)⟩,by simp,Fz.zero⟩,ag D5⟩ ?_ ?_⟩
   .rintro k σ H3 hk ⟨⟨L1,Sx,C4,rfl,uV,Sy,C5,ly,K9,lp⟩,i4⟩;rw[dH];have k32:k<32:=by lia
    have Sz:C4.length<=32*160:=by rw[K9];exact nV (by lia) PX
    refine⟨_,rfl,_,rfl,L,rfl,⟨_,aQ.of (i4 _ _ hL)⟩,fun D2 iz=>?_⟩;refine lS (K:=K) (zs0:=zs) (fun p=>(p.1+m*k,p.2+m*k)) (fun σ=>∃u v,σ=[u,v,some (.int m),some (.int k)]) (i4 _ _ hL) (po.same i4) iz (by lia) ⟨_,_,rfl⟩ ?_ ?_
    .rintro z σ H4 R Kf hz ⟨u,v,rfl⟩ FE kt;refine⟨_,_,rfl,bZ.of FE,rfl,_,_,rfl,_,_,rfl,rfl,?_⟩;exact⟨_,rfl,_,rfl,_,rfl,_,_,rfl,rfl,.inl ⟨by lia,by lia⟩,_,_,rfl,rfl,_,rfl,_,rfl,_,rfl,_,_,rfl,rfl,.inl ⟨by lia,by lia⟩,_,_,rfl,rfl,by show 2<=sizeLine;decide,fun p hp=>kt _ p ⟨_,_,rfl⟩ hp⟩
    .rintro mI H4 bW gq ph ez;have AM:mI.length=zs.length:=by rw[<-bj,ez,aB,bj]
     refine⟨L1,D2,_,_,rfl,rfl,bW _ _ uV,gq,by rw[bP,bP];exact a7 (show _<=32*160+160 by lia) (by decide),fun r dh=>?_⟩;refine⟨⟨r,_,C4++mI,rfl,by rw[ab,cj],(i4.trans bW).free dh,((C5.same bW).append ph).putN dh,?_,?_,?_⟩,(i4.trans bW).trans (ag dh)⟩
     .rw[bC,ez];have e:m*((k+1:Nat):Int)=m*k+m:=by rw[wu,Int.mul_add];simp
      rw[e];exact ly.add PV (Int.mul_nonneg (by lia) (by lia))
     .rw[bY,K9,AM,Nat.succ_mul]
     .rw[bC,ez];have:=lp.add pos bp;rw[show m*(k:Int)=ci (pr ns*k) by rw[mp];exact(rn _ _).symm];exact this
   .rintro σ H3 ⟨⟨L1,Sx,C4,rfl,uV,Sy,C5,ly,K9,lp⟩,i4⟩;have es:(mK.toNat:Int)=mK:=by lia
    have em:m*(mK-1)+m=m*mK:=by rw[Int.mul_sub];lia
    have e0:0<=m*(mK-1):=Int.mul_nonneg (by lia) (by lia);rw[es] at ly;refine⟨_,rfl,_,rfl,_,rfl,_,_,rfl,rfl,_,_,rfl,rfl,.inl ⟨by lia,by lia⟩,_,rfl,by lia,by lia,fun D2 iz=>?_⟩;refine jg (lo:=0) (fun h=>((h:Int),(h:Int)+m)) (fun σ=>∃u,σ=[u,some (.int m)]) iz (by lia) ⟨_,rfl⟩ ?_ ?_
    .rintro j σ H4 R Kf hj ⟨u,rfl⟩ bW kt;rw[dH];exact⟨_,rfl,_,rfl,_,rfl,_,_,rfl,rfl,by show 2<=sizeLine;decide,fun p hp=>kt _ p ⟨_,rfl⟩ hp⟩
    .rintro mI H4 bW gq ph ez;have AM:mI.length=(m*(mK-1)).toNat:=by rw[<-bj,ez,aB,cG]
     have Sz:C4.length<=32*160:=by rw[K9];exact nV (by lia) PX
     refine⟨L1,D2,_,_,rfl,rfl,bW _ _ uV,gq,by rw[bP,bP];exact a7 (show _<=32*160+160 by lia) (by decide),fun r dh=>?_⟩;refine⟨_,rfl,_,rfl,_,_,rfl,rfl,.inl ⟨by lia,by lia⟩,?_⟩;refine⟨⟨r,_,_,_,C4++mI,rfl,by rw[ab,cj],((sm.trans i4).trans bW).free dh,((C5.same bW).append ph).putN dh,?_,?_,?_⟩,((sm.trans i4).trans bW).trans (ag dh)⟩
     .rw[bC,ez];exact ly.all (by lia) (by lia)
     .rw[bY,K9,AM];have b1:((mK.toNat*zs.length:Nat):Int)<=i*(m*mK):=by
       rw[rn,es];have b2:mK*(zs.length:Int)<=mK*(i*m):=pO zl (by lia);have b3:mK*(i*m)=i*(m*mK):=by rw[Int.mul_comm mK,wx]
       lia
      have b4:((i+1:Nat):Int)*(m*mK)=i*(m*mK)+m*mK:=by rw[wu,Int.add_mul];simp
      rw[b4];lia
     .rw[bC,ez];have e1:(m*(mK-1)).toNat+pr ns=pr ns*mK.toNat:=by
       have:(((m*(mK-1)).toNat+pr ns:Nat):Int)=((pr ns*mK.toNat:Nat):Int):=by
        rw[wu,rn,l9 e0,es,<-mp];exact em
       exact cZ this
      have:=lp.box pos (by lia) e1;rw[show ci (pr ns)=m from mp.symm] at this;exact this
  .rintro σ H2 ⟨⟨L,v3,v4,v5,zs,rfl,hL,K8,po,PV,zl,bp⟩,sm⟩;have lim:=sd.lim (IV ss).length;have h5:=sd.Js;have PX:zs.length<=160:=by
    have a0:(IV ss).length<=5:=by rw[aB];exact h5
    have a1:((IV ss).length:Int)*dD (ss.take (IV ss).length)<=(IV ss).length*32:=pO lim.2 (by lia);lia
   refine⟨_,rfl,_,rfl,by show 2<=sizeLine;decide,fun r dh=>?_⟩;refine q r L _ zs _ (sm.trans (ag dh)) ab (ag dh _ _ hL) K8 (po.putN dh) PV PX lim.1 lim.2 ?_;have e:ss.take (IV ss).length=ss:=by rw[aB,gf]
   rw[e] at bp lim |-;have mp:=tH V0;rw[mp,jq];refine bp.j4 PV.nd (fun x hx=>?_) (fun z=>Hl (List.map_eq_nil_iff.mp z)) (by lia);obtain⟨y,hy,rfl⟩:=aW.mp hx;have:=sd.two y hy;lia
end
abbrev C6:Stmt:=gG 35
abbrev y3:Stmt:=gG 36
theorem Nr:(["_law_pair"]:List Str).Nodup:=by decide +kernel
theorem vf{ns:List Int}{k:Nat}(h:k<ns.length):oj (IV ns) (k:Int)=some (.int (ns.getD k 0)):=by
 refine aE ?_;rw[bO,bD h,bh,bD h];rfl
theorem y4{ns:List Int}:(IV ns).all dX=true:=by
 rw[iD];intro v hv;obtain⟨j,_,rfl⟩:=aW.mp hv;rfl
theorem dL{α:Type}{xs:List α}{d:α}{k:Nat}(h:k<xs.length):xs.getD k d∈xs:=by
 rw[bh,bD h];exact fN h
theorem pK:(["_law_other","_law_tied"]:List Str).Nodup:=by decide +kernel
theorem vg{α:Type}{x:α}:∀ {k:Nat},(List.replicate k [x]).flatten=List.replicate k x
 |0=>rfl
 |k+1=>by rw[jE,nM,vg,jE];rfl
theorem qJ{A B:Prop}{b:Bool}(hb:b=false)(h:B):if b=true then A else B:=by rw[ak (by rw[hb];decide)];exact h
theorem tI{lo:Int}{n:Nat}{D:Addr}{g:TG}{tt:TT}{te:TE}{dN:Hp->Prop}{σB:St}{H0:Hp}(c:Nat->Bool)(bQ:St->Prop)(hD:H0 D=none)(hn:n<=1000)(h0:bQ σB)(hs:∀x σ H (Kt:V->St->Hp->Prop) (Kf:St->Hp->Prop),x<n->bQ σ->aG H0 H->(∀σ2 H2,bQ σ2->aG H H2->c x=true->Kt (.int (lo+(x:Nat))) σ2 H2)->(∀σ2 H2,bQ σ2->aG H H2->c x=false->Kf σ2 H2)->
   g (.int (lo+(x:Nat))) σ H fun σ2 H2=>tt σ2 H2 fun b H3=>if b=true then te σ2 H3 fun v H4=>Kt v σ2 H4 else Kf σ2 H3)(hd:∀H,aG H0 H->H D=some (.lst (((List.range n).filter c).map fun (x:Nat)=>V.int (lo+(x:Int))))->dN H):gH (DR lo n) g tt te D dN σB (upd H0 D (.lst [])):=by
 refine cQ (fun i ys σ H=>bQ σ/\aG H0 H/\H D=some (.lst ys)/\ys=((List.range i).filter c).map fun (x:Nat)=>V.int (lo+(x:Int))) ⟨h0,ag hD,ab,rfl⟩ ?_ ?_
 .rintro i ys σ H Kt Kf hi ⟨sh,sm,iw,rfl⟩ kt kf;refine hs i σ H Kt Kf hi sh sm (fun σ2 H2 u9 s2 e=>?_) (fun σ2 H2 u9 s2 e=>?_)
  .refine kt _ _ _ (s2 _ _ iw) ?_ ⟨u9,a_ (sm.trans s2) hD,ab,?_⟩
   .rw[aB];refine iB (io _ _) ?_;rw[cG];exact bN (show i<1000 by lia) (by decide)
   .rw[gX,ge,bT];simp[eK,e]
  .refine kf _ _ ⟨u9,sm.trans s2,s2 _ _ iw,?_⟩;rw[gX,ge];simp[eK,e]
 .rintro ys σ H ⟨_,sm,iw,rfl⟩;exact hd H sm iw
theorem xB:∀ {xs:List Nat} {j x:Nat},(NV xs).set j (.int (x:Int))=NV (xs.set j x)
 |[],_,_=>rfl
 |y::ys,0,x=>rfl
 |y::ys,j+1,x=>congrArg (V.int (y:Int)::·) (xB (xs:=ys) (j:=j) (x:=x))
theorem oT{xs:List Nat}{j:Nat}(h:j<xs.length):(NV xs)[j]?=some (.int ((xs.getD j 0:Nat):Int)):=by
 unfold NV;rw[bO,bh,bD h];rfl
def eF(n:Nat)(ps:Ts):List Nat:=(List.range n).map fun (h:Nat)=>gB (cB ps) (ci h)
theorem gN{n:Nat}{ps:Ts}:(eF n ps).length=n:=by unfold eF;rw[aB,cG]
theorem oU{n:Nat}{ps:Ts}{h:Nat}(hh:h<n):(eF n ps).getD h 0=gB (cB ps) (ci h):=by
 unfold eF;rw[bh,bO,kg hh];rfl
theorem C7{n:Nat}{ps:Ts}{a b:Nat}(ha:a<n)(hb:b<n)(ml:a≠b):((eF n ps).set a (gB (cB ps) (ci a)+1)).set b (gB (cB ps) (ci b)+1)=eF n (ps++[(ci a,ci b)]):=by
 have ne:∀x y:Nat,ci x=ci y->x=y:=fun x y e=>cZ e;refine rc fun i=>?_;by_cases hi:i<n
 .have g:∀qs:Ts,(eF n qs)[i]?=some (gB (cB qs) (ci i)):=fun qs=>by unfold eF;rw[bO,kg hi];rfl
  rw[g,Fv,wd,wd,g,iF,gN];by_cases c1:b=i
  .subst c1;rw[ap rfl,ap hb,ak (fun z=>ml (ne _ _ z)),ap rfl,rD]
  .rw[ak c1,ak (fun z=>c1 (ne _ _ z))];by_cases c2:a=i
   .subst c2;rw[ap rfl,ap ha,ap rfl]
   .rw[ak c2,ak (fun z=>c2 (ne _ _ z))];rfl
 .rw[fq (by rw[iF,iF,gN];lia),fq (by rw[gN];lia)]
theorem C8{n:Nat}:List.replicate n (V.int 0)=NV (eF n []):=by
 refine rc fun i=>?_;unfold NV eF;rw[du,vO,bO];by_cases hi:i<n
 .rw[ap hi,kg hi];rfl
 .rw[ak hi,fq (by rw[cG];lia)];rfl
def jh:Sp:=fun vs H Q _=>∃ (p:Addr) (m:Nat),vs=[.ref p,.int m]/\0<m/\m<1000000/\aR H p/\∀ (d:Nat) (H':Hp),d<m->av p H H'->aR H' p->Q (.int d) H'
theorem Nt{vs:List V}{H:Hp}{Q:VK}{E:XK}(h:jh vs H Q E):eU vs H Q E:=by
 obtain⟨p,m,rfl,m0,m1,hp,q⟩:=h;refine⟨p,m,rfl,by lia,by lia,hp,fun d H' d0 d1 se pt=>?_⟩;have:=q d.toNat H' (by lia) se pt;rwa [l9 d0] at this
section
variable {P:Program} {w:World} {K:PySem.W.Frag} {mg:Str->Option Value} {base:Heap}
theorem lV:aH ["_law_pot_here","_law_many","_law_pairs","_law_tied","_law_house","_law_some","_law_other"] ["_law_pot_here","_law_many"] (aq C6):=⟨rfl,rfl,rfl,by decide +kernel,rfl,by decide +kernel,by decide +kernel⟩
def xC:Sp:=fun vs H Q _=>∃ (p:Addr) (n:Nat),vs=[.ref p,.int n]/\2<=n/\n<=32/\aR H p/\∀ (r:Addr) (zs:Zs) (H':Hp),av p H H'->aR H' p->H r=none->H' r=some (.lst (zr zs))->PO H' zs->bL n (cB (zp zs))->(∀u∈zp zs,u.1<u.2)->zs.length<=32->Q (.ref r) H'
theorem FF{f:Addr}{fd:FuncData}(F:fH K "_law_tree_pairs" "_law_tree_pairs" C6 f fd)(B:Bl mg)(D:ce P w K mg base bf 1 "_law_take" ["_law_pot_here","_law_many"] jh):bv P w K mg base bf 2 f fd ["_law_pot_here","_law_many"] xC:=by
 refine F.ok lV (fun vs H Q E h=>?_) (fun cT A outer s H vs Q E hr h=>?_)
 .obtain⟨p,n,rfl,_⟩:=h;rfl
 .obtain⟨p,n,rfl,n1,n2,hp,q⟩:=h;refine'⟨_,(ah (aw (i:=2) lV.nd rfl (Or.inl rfl) (bJ af))
   (ah (aw (i:=3) lV.nd rfl (Or.inr rfl) (aK BI (bJ (aa aj af)) (pv 1)))
   (ah (cA dq rfl (zC rfl B.range (aa aj (aa (pv 1) af))) (au (i:=4) lV.nd rfl (Or.inl rfl))
    (ah (eQ (i:=5) (g:=(bb 0)) (tt:=(ku (gW (t6 fun i j=>.bl (decide (i<j))) (gW (pC K) (aT 1) (aT 0)) (tC (.int 7))))) (te:=(aT 0)) (NB:=["_law_other","_law_tied"]) (src:=[none,some 3]) (br (by kernel_rfl)) rfl (aU rfl B.range (aa (pv 4) af)) ?g1 ?t1 ?e1 lV.nd rfl rfl rfl)
    (ah (aw (i:=6) lV.nd rfl (Or.inl rfl) (aN aF (pv 5) (aA D hr aL (aa (pv 0) (aa (az aJ (by rfl) B.len dt (aa (pv 5) af)) af))) (fun _ _=>rfl)))
    (ah (bK (dz di fm fk bB (pv 2) (aa (cp (aa (pv 6) (aa (pv 4) af))) af)))
    (ah (d9 (aK b_ (aN aF (pv 3) (pv 6) (fun _ _=>rfl)) aj) (hV (pv 3) (pv 6) ee))
    (ao (d9 (aK b_ (aN aF (pv 3) (pv 4) (fun _ _=>rfl)) aj) (hV (pv 3) (pv 4) ee))))))))
   (ao (aV (pv 2)))))),?_⟩
  case g1=>exact fun cl C s₃ H₃ fp=>(au (i:=0) pK rfl (Or.inl rfl) (Or.inr rfl))
  case t1=>exact fun cl C s₃ H₃ fp=>dO (aD mf (aN aF (pv 1) (pv 0) (fun _ _=>rfl)) aj (aP _))
  case e1=>exact fun cl C s₃ H₃ fp=>(pv 0)
  refine⟨by show 0<=sizeLine;decide,fun Pr PY=>?_⟩;have sP:=ag (o:=.lst []) PY;refine⟨by show 1<=sizeLine;decide,fun L1 uV=>⟨_,rfl,L1,_,_,rfl,rfl,ab,by lia,by lia,by rw[jq,List.length_singleton];exact a7 (show 1*n<=32 by lia) (by decide),fun M hM=>?_⟩⟩;rw[jq,vg,C8];have s1:=sP.trans (ag (o:=.lst [.int 0]) uV);have s2:=s1.trans (ag (o:=.lst (NV (eF n []))) hM);have gP:(upd (upd (upd H Pr (.lst [])) L1 (.lst [.int 0])) M (.lst (NV (eF n [])))) Pr=some (.lst (zr [])):=ag hM _ _ (ag uV _ _ ab);have gM:(upd (upd (upd H Pr (.lst [])) L1 (.lst [.int 0])) M (.lst (NV (eF n [])))) M=some (.lst (NV (eF n []))):=ab;have V1:Pr≠M:=ai (ag uV _ _ ab) hM;have V2:H M=none:=s1.free hM;generalize upd (upd (upd H Pr _) L1 _) M _=H0 at *;refine⟨_,rfl,1,(n:Int),rfl,⟨by decide,by decide,by lia,by lia⟩,?_⟩;rw[show ((n:Int)-1).toNat=n-1 by lia];refine cf (lo:=1) (n:=n-1) (fun i σ Hc=>∃zs:Zs,(∃a b c,σ=[some (.ref p),some (.int n),some (.ref Pr),some (.ref M),a,b,c])/\av p H Hc/\aR Hc p/\Hc Pr=some (.lst (zr zs))/\PO Hc zs/\Hc M=some (.lst (NV (eF n (zp zs))))/\oJ n (List.range n) (i+1) (cB (zp zs))/\∀u∈zp zs,u.1<u.2)
   ⟨[],⟨none,none,none,rfl⟩,av.of s2,hp.same s2,gP,PO.nil,gM,oJ.start (by rw[cG];lia),fun u hu=>nomatch hu⟩ ?_ ?_
  .rintro i σ Hc hi ⟨zs,⟨a,b,c,rfl⟩,sc,PZ,SB,po,SC,Tr,Hm⟩;have e1:(1:Int)+(i:Int)=((i+1:Nat):Int):=by lia
   rw[e1];have YK:zs.length=i:=by have:=Tr.len;rw[sU,bj] at this;lia
   refine⟨_,rfl,((i+1:Nat):Int),rfl,by lia,by lia,fun D1 D5=>?_⟩;rw[show (((i+1:Nat):Int)).toNat=i+1 from rfl];refine tI (lo:=0) (n:=i+1) (fun x=>decide (gB (cB (zp zs)) (ci x)<7)) (fun σ=>∃a,σ=[a,some (.ref M)]) D5 (by lia) ⟨_,rfl⟩ ?_ ?_
   .rintro x σ H4 Kt Kf hx ⟨a',rfl⟩ bW kt kf;rw[dH] at kt |-;have Bj:x<(eF n (zp zs)).length:=by rw[gN];lia
    refine⟨_,rfl,_,rfl,M,_,_,_,rfl,rfl,aQ.of (bW _ _ SC),aE (oT Bj),_,_,rfl,rfl,_,rfl,?_⟩;have ed:=oU (ps:=zp zs) (show x<n by lia);refine cW (fun e=>?_) (fun e=>?_)
    .exact⟨_,rfl,kt _ _ ⟨_,rfl⟩ (aG.refl _) (dZ (by have:=eG e;lia))⟩
    .exact kf _ _ ⟨_,rfl⟩ (aG.refl _) (dY (fun z=>e (dZ (by lia))))
   .intro H4 bW gq;have e0:((((List.range (i+1)).filter fun x=>decide (gB (cB (zp zs)) (ci x)<7)).map fun (x:Nat)=>V.int (0+(x:Int))))=NV ((List.range (i+1)).filter fun x=>decide (gB (cB (zp zs)) (ci x)<7)):=fL fun x _=>by rw[dH]
    rw[e0] at gq;obtain⟨h0,V3,YL⟩:=Tr.No jt (by rw[cG];lia) (by lia);have tk:(List.range n).take (i+1)=List.range (i+1):=by rw[List.take_range,Nat.min_eq_left (by lia)]
    rw[tk] at V3;have ne:0<((List.range (i+1)).filter fun x=>decide (gB (cB (zp zs)) (ci x)<7)).length:=qT (cY.mpr ⟨V3,dZ YL⟩);have le:((List.range (i+1)).filter fun x=>decide (gB (cB (zp zs)) (ci x)<7)).length<=i+1:=a7 (io _ _) (by rw[cG];exact a8 _);generalize YM:(List.range (i+1)).filter (fun x=>decide (gB (cB (zp zs)) (ci x)<7))=fs at *;have V4:=PZ.same bW;refine⟨_,rfl,_,rfl,_,rfl,D1,_,rfl,.inl (aQ.of gq),p,_,rfl,by rw[dF];exact ne,by rw[dF];lia,V4,fun d H5 hd s5 YN=>?_⟩;rw[dF] at hd;have YQ:D1≠p:=PZ.ne D5;have hv:fs[d]?=some fs[d]:=bD hd;refine⟨D1,_,_,_,rfl,rfl,aQ.of (s5 _ _ gq YQ),aE (oT hd),?_⟩;have V5:fs.getD d 0∈fs:=by rw[bh,hv];exact fN _
    generalize fs.getD d 0=sv at *;rw[<-YM] at V5;obtain⟨BP,t3⟩:=cY.mp V5;have hsv:sv<i+1:=bG.mp BP;have YR:gB (cB (zp zs)) (ci sv)<7:=eG t3;have V6:Pr≠p:=hp.ne PY;have SE:M≠p:=hp.ne V2;have SF:=s5 _ _ (bW _ _ SB) V6;have YS:=s5 _ _ (bW _ _ SC) SE;have xD:PO H5 zs:=(po.same bW).fc s5 V4;refine⟨_,rfl,.inl ⟨rfl,_,aQ.of SF⟩,_,rfl,_,rfl,by show 2<=sizeLine;decide,fun t ht=>?_⟩;have st:=ag (o:=qC (ci sv,ci (i+1))) ht;refine⟨Pr,_,_,rfl,rfl,st _ _ SF,by rw[bP,YK];exact bN (show i<33 by lia) (by decide),?_⟩;have Nu:(upd (upd H5 t (qC (ci sv,ci (i+1)))) Pr (.lst (zr zs++[.ref t]))) M=some (.lst (NV (eF n (zp zs)))):=by rw[am V1.symm];exact st _ _ YS
    have Nv:sv<(eF n (zp zs)).length:=by rw[gN];lia
    refine⟨_,rfl,_,rfl,M,_,_,_,rfl,rfl,aQ.of Nu,aE (oT Nv),_,_,rfl,rfl,_,rfl,_,rfl,M,_,(sv:Int),sv,rfl,rfl,Nu,gn (by rw[dF];exact Nv),?_⟩;have e2:(NV (eF n (zp zs))).set sv (V.int ((((eF n (zp zs)).getD sv 0:Nat):Int)+1))=NV ((eF n (zp zs)).set sv (gB (cB (zp zs)) (ci sv)+1)):=by
     rw[oU (by lia)];exact xB (x:=gB (cB (zp zs)) (ci sv)+1)
    have V7:i+1<((eF n (zp zs)).set sv (gB (cB (zp zs)) (ci sv)+1)).length:=by rw[iF,gN];lia
    have ek:((eF n (zp zs)).set sv (gB (cB (zp zs)) (ci sv)+1)).getD (i+1) 0=gB (cB (zp zs)) (ci (i+1)):=by
     rw[bh,nI (by lia),<-bh,oU (by lia)]
    have YT:(upd (upd H5 t (qC (ci sv,ci (i+1)))) Pr (.lst (zr zs++[.ref t]))) Pr=some (.lst (zr zs++[.ref t])):=ab;have o6:∀b,b≠Pr->(upd (upd H5 t (qC (ci sv,ci (i+1)))) Pr (.lst (zr zs++[.ref t]))) b=(upd H5 t (qC (ci sv,ci (i+1)))) b:=fun b n=>am n;have Hn:PO (upd (upd H5 t (qC (ci sv,ci (i+1)))) Pr (.lst (zr zs++[.ref t]))) (zs++[(t,(ci sv,ci (i+1)))]):=PO.putL (xs:=zr zs) ((xD.same st).append (PO.one ab)) (st _ _ SF);generalize upd (upd H5 t (qC (ci sv,ci (i+1)))) Pr _=H6 at *;generalize V8:upd H6 M _=H7;have V9:H7 M=some (.lst (NV ((eF n (zp zs)).set sv (gB (cB (zp zs)) (ci sv)+1)))):=by rw[<-V8,ab];exact congrArg (fun l=>some (HO.lst l)) e2
    have o7:∀b,b≠M->H7 b=H6 b:=fun b n=>by rw[<-V8,am n]
    refine⟨_,rfl,_,rfl,M,_,_,_,rfl,rfl,aQ.of V9,aE (oT V7),_,_,rfl,rfl,_,rfl,_,rfl,M,_,((i+1:Nat):Int),i+1,rfl,rfl,V9,gn (by rw[dF];exact V7),?_⟩;generalize V_:upd H7 M _=H8;have e3:(NV ((eF n (zp zs)).set sv (gB (cB (zp zs)) (ci sv)+1))).set (i+1) (V.int (((((eF n (zp zs)).set sv (gB (cB (zp zs)) (ci sv)+1)).getD (i+1) 0:Nat):Int)+1))=NV (eF n (zp zs++[(ci sv,ci (i+1))])):=by
     rw[ek,<-C7 (by lia) (by lia) (by lia)];exact xB (x:=gB (cB (zp zs)) (ci (i+1))+1)
    have YU:H8 M=some (.lst (NV (eF n (zp zs++[(ci sv,ci (i+1))])))):=by rw[<-V_,ab];exact congrArg (fun l=>some (HO.lst l)) e3
    have o8:∀b,b≠M->H8 b=H6 b:=fun b n=>by rw[<-V_,am n];exact o7 b n
    have ez:zp (zs++[(t,(ci sv,ci (i+1)))])=zp zs++[(ci sv,ci (i+1))]:=by rw[bC];rfl
    refine⟨zs++[(t,(ci sv,ci (i+1)))],⟨_,_,_,rfl⟩,fun b o e n=>?_,?_,?_,fun z hz=>?_,by rw[ez];exact YU,?_,fun u hu=>?_⟩
    .rw[o8 _ (ai e V2),o6 _ (ai e PY)];exact st _ _ (s5 _ _ (bW _ _ (sc _ _ e n)) n)
    .obtain⟨x,y,z,e,r⟩:=YN.same st;exact⟨x,y,z,by rw[o8 _ SE.symm,o6 _ V6.symm];exact e,r⟩
    .rw[o8 _ V1,YT,cj];rfl
    .have g:=Hn z hz;rw[o8 _ (by rintro e;rw[e,Nu] at g;cases g)];exact g
    .rw[ez,ii];exact Tr.add jt (fun x hx=>bG.mp hx) (kg (by lia)) (by rw[tk];exact BP) (rG YR (by decide))
    .rw[ez] at hu;rcases bg.mp hu with z|z
     .exact Hm u z
     .rw[bR.mp z];show ((sv:Nat):Int)<((i+1:Nat):Int);lia
  .rintro σ Hc ⟨zs,⟨a,b,c,rfl⟩,sc,PZ,SB,po,SC,Tr,Hm⟩;rw[show n-1+1=n by lia] at Tr;have zl:=Tr.len;rw[sU,bj] at zl;exact⟨_,rfl,q Pr zs Hc sc PZ PY SB po (Tr.j4 n1 n2 (rp _)) Hm (by lia)⟩
end
theorem qK{K:PySem.W.Frag}{a D:Addr}{zs0:Zs}{g:TG}{tt:TT}{te:TE}{dN:Hp->Prop}{σB:St}{H0:Hp}(F:Int×Int->Int)(bQ:St->Prop)(ha:H0 a=some (.lst (zr zs0)))(IW:PO H0 zs0)(hD:H0 D=none)(hn:zs0.length<=100000)(h0:bQ σB)(hs:∀z σ H (R:V->St->Hp->Prop) (Kf:St->Hp->Prop),z∈zs0->bQ σ->H z.1=some (qC z.2)->(∀σ2,bQ σ2->R (.int (F z.2)) σ2 H)->g (.ref z.1) σ H fun σ2 H2=>tt σ2 H2 fun b H3=>if b=true then te σ2 H3 fun v H4=>R v σ2 H4 else Kf σ2 H3)(hd:∀H,aG H0 H->H D=some (.lst (IV ((zp zs0).map F)))->dN H):gH (AJ K a) g tt te D dN σB (upd H0 D (.lst [])):=by
 refine cu (xs:=zr zs0) (fun i ys σ H=>bQ σ/\aG H0 H/\H D=some (.lst ys)/\ys=IV (((zp zs0).take i).map F)) ⟨h0,ag hD,ab,rfl⟩ (fun i ys σ H _ z=>aQ.of (z.2.1 _ _ ha)) ?_ ?_
 .rintro i x ys σ H Kt Kf hx ⟨sh,sm,iw,rfl⟩ kt kf;obtain⟨z,hz,rfl⟩:=iZ hx;have hi:i<zs0.length:=(cD.mp hz).1;have pe:z∈zs0:=cE hz;refine hs z σ H Kt Kf pe sh (sm _ _ (IW z pe)) (fun σ2 u9=>?_);refine kt _ _ _ iw (by rw[aB,aB,jH,bj];exact bN (show _<100001 by lia) (by decide)) ⟨u9,a_ sm hD,ab,?_⟩;have e2:(zp zs0)[i]?=some z.2:=by unfold zp;rw[bO,hz];rfl
  rw[fK,eI,e2,iA,bT];rfl
 .rintro ys σ H ⟨_,sm,iw,rfl⟩;rw[bP,<-bj,gf] at iw;exact hd H sm iw
theorem y6{ps:Ts}{h:Int}:((IV (ps.map (·.1)++ps.map (·.2))).countP fun z=>j_ z (.int h))=gB (cB ps) h:=by
 have e:gB (cB ps) h=(ps.map (·.1)).count h+(ps.map (·.2)).count h:=by
  unfold gB;rw[(dJ.filter _).length_eq,ge,bY,cH,cH,du];rfl
 rw[e,<-we];unfold IV;rw[k_,nJ];refine List.countP_congr fun x _=>?_;show (j_ (.int x) (.int h)=true)↔((x==h)=true);simp[j_]
theorem C9{a b:Int}{ns:List Int}(h:ns.Perm [a,b]):∃x y,ns=[x,y]/\(x=a\/x=b)/\(y=a\/y=b):=by
 have hl:=h.length_eq
 match ns,hl with
 |[x,y],_=>
  have h1:=h.mem_iff.mp (show x∈[x,y] by simp);have h2:=h.mem_iff.mp (show y∈[x,y] by simp);simp at h1 h2;exact⟨x,y,rfl,h1,h2⟩
section
variable {P:Program} {w:World} {K:PySem.W.Frag} {mg:Str->Option Value} {base:Heap}
theorem lX:aH ["_law_pot_here","_law_many","_law_pairs","_law_found","_law_k","_law_one","_law_other","_law_tied"] ["_law_pot_here","_law_many","_law_pairs"] (aq y3):=⟨rfl,rfl,rfl,by decide +kernel,rfl,by decide +kernel,by decide +kernel⟩
def xE:Sp:=fun vs H Q _=>∃ (p l:Addr) (n:Nat) (zs0:Zs),vs=[.ref p,.int n,.ref l]/\aR H p/\H l=some (.lst (zr zs0))/\PO H zs0/\bL n (cB (zp zs0))/\(∀u∈zp zs0,u.1<u.2)/\zs0.length<=32/\1<=n/\n<=32/\∀ (L:Addr) (zs:Zs) (H':Hp),av p H H'->aR H' p->H L=none->H' L=some (.lst (zr zs))->PO H' zs->bL n (cB (zp zs))->zs.length<=48->Q (.ref L) H'
theorem FG{f:Addr}{fd:FuncData}(F:fH K "_law_more_pairs" "_law_more_pairs" y3 f fd)(B:Bl mg)(T:ce P w K mg base bf 1 "_law_take" ["_law_pot_here","_law_many"] eU):bv P w K mg base bf 2 f fd ["_law_pot_here","_law_many","_law_pairs"] xE:=by
 refine F.ok lX (fun vs H Q E h=>?_) (fun cT A outer s H vs Q E hr h=>?_)
 .obtain⟨p,l,n,zs0,rfl,_⟩:=h;rfl
 .obtain⟨p,l,n,zs0,rfl,hp,hl,YV,YW,SG,zl0,n1,xF,q⟩:=h;have hu:(A.deeper (PyProof.Rows.envOfC "_law_more_pairs" (aq y3) s.heap.objs.size f cT)).units+2<cLine:=by have:=hr.un;lia
  refine'⟨_,ah (aw (i:=3) lX.nd rfl (Or.inl rfl) (bA dB (by rfl) B.lst jo (aa (pv 2) af)))
   (ah (cA dq rfl (aU rfl B.range (aa (aA T hr aL (aa (pv 0) (aa aj af))) af)) (au (i:=4) lX.nd rfl (Or.inl rfl))
    (ah (d9 (az oH (by rfl) B.sorted nk (aa (bJ (aa (aA T hr aL (aa (pv 0) (aa (pv 1) af))) (aa (aA T hr aL (aa (pv 0) (aa (pv 1) af))) af))) af))
     (E2 rfl (aY (au (i:=5) lX.nd rfl (Or.inl rfl)) (aY (au (i:=6) lX.nd rfl (Or.inl rfl)) de))))
    (ah (aw (i:=7) lX.nd rfl (Or.inl rfl) (aK gy ?c1 ?c2))
    (ao (b8 (PW.pt (gw (aD mf (pv 5) (pv 6) (aP _)) (gw (aD (qx hu) (cp (aa (pv 5) (aa (pv 6) af))) (pv 3) (by rfl)) (gj (aD mf (az (i_ rfl) (by rfl) B.max qX (aa (dz di qS qR kI (pv 7) (aa (pv 5) af)) (aa (dz di qS qR kI (pv 7) (aa (pv 6) af)) af))) aj (aP _))))))
     (ao (bK (dz di fm fk bB (pv 3) (aa (cp (aa (pv 5) (aa (pv 6) af))) af))))
     a9)))))
   (ao (aV (pv 3)))),?_⟩
  case c1=>
   refine' bt (g:=bb 0) (te:=gW (zK K) (aT 0) (tC (.int 0))) (NB:=["_law_pair"]) (src:=[none]) (br (by kernel_rfl)) rfl (bH (pv 3)) ?g ?t ?e;case g=>exact fun cl C s₃ H₃ fp=>au (i:=0) Nr rfl (Or.inl rfl) (Or.inr rfl)
   case t=>exact fun cl C s₃ H₃ fp=>bX
   case e=>exact fun cl C s₃ H₃ fp=>aN bV (pv 0) aj (fun _ _=>rfl)
  case c2=>
   refine' bt (g:=bb 0) (te:=gW (zK K) (aT 0) (tC (.int 1))) (NB:=["_law_pair"]) (src:=[none]) (br (by kernel_rfl)) rfl (bH (pv 3)) ?g ?t ?e;case g=>exact fun cl C s₃ H₃ fp=>au (i:=0) Nr rfl (Or.inl rfl) (Or.inr rfl)
   case t=>exact fun cl C s₃ H₃ fp=>bX
   case e=>exact fun cl C s₃ H₃ fp=>aN bV (pv 0) aj (fun _ _=>rfl)
  refine⟨_,rfl,l,_,rfl,.inl (aQ.of hl),fun D hD=>?_⟩;have pJ:D≠p:=hp.ne hD;have C5:=YV.putN (o:=.lst (zr zs0)) hD;have D5:(upd H D (.lst (zr zs0))) D=some (.lst (zr zs0)):=ab;have D6:av p H (upd H D (.lst (zr zs0))):=av.of (ag hD);have AU:=hp.same (ag (o:=.lst (zr zs0)) hD);revert C5 D5 D6 AU;generalize upd H D (.lst (zr zs0))=H1;intro C5 D5 D6 AU;refine⟨_,rfl,p,_,rfl,by decide,by decide,AU,fun d H2 d0 d12 lY o9=>?_⟩;refine⟨d,rfl,by lia,by lia,cf (lo:=0) (n:=d.toNat) (fun i σ Hc=>(∃v4 v5 v6 v7,σ=[some (.ref p),some (.int n),some (.ref l),some (.ref D),v4,v5,v6,v7])/\(∃zs,Hc D=some (.lst (zr zs))/\PO Hc zs/\bL n (cB (zp zs))/\(∀u∈zp zs,u.1<u.2)/\zs.length<=32+i)/\av p H Hc/\aR Hc p) ?_ ?_ ?_⟩
  .exact⟨⟨_,_,_,_,rfl⟩,⟨zs0,lY _ _ D5 pJ,C5.fc lY AU,YW,SG,by lia⟩,D6.trans lY,o9⟩
  .rintro i σ Hc hi ⟨⟨v4,v5,v6,v7,rfl⟩,⟨zs,hz,po,fi,Hm,zl⟩,se,pt⟩;refine⟨_,rfl,_,rfl,p,_,rfl,by lia,by lia,pt,fun a Ha a0 a1 YX YY=>?_⟩;refine⟨_,rfl,_,rfl,p,_,rfl,by lia,by lia,YY,fun b Hb b0 b1 YZ Y0=>?_⟩;refine⟨by show 2<=sizeLine;decide,fun Lq Y1=>⟨Lq,[a,b],rfl,aQ.of ab,by show 2<64;decide,fun Ls Al Y2 pm=>?_⟩⟩;obtain⟨x,y,rfl,hx,hy⟩:=C9 pm;have Jv:av p Hc Hb:=YX.trans YZ;have i4:aG Hb (upd (upd Hb Lq (.lst (IV [a,b]))) Ls (.lst (IV [x,y]))):=(ag Y1).trans (ag Y2);have Mn:(upd (upd Hb Lq (.lst (IV [a,b]))) Ls (.lst (IV [x,y]))) Ls=some (.lst [.int x,.int y]):=ab;refine⟨Ls,.int x,.int y,rfl,aQ.of Mn,_,_,rfl,_,_,rfl,rfl,?_⟩;change Ec _ _ _ _ (upd (upd Hb Lq (.lst (IV [a,b]))) Ls (.lst (IV [x,y])));revert i4 Mn;generalize upd (upd Hb Lq (.lst (IV [a,b]))) Ls (.lst (IV [x,y]))=H3;intro i4 Mn;have Jw:H3 D=some (.lst (zr zs)):=i4 _ _ (Jv _ _ hz pJ);have lR:PO H3 zs:=(po.fc Jv pt).same i4;have i6:av p H H3:=(se.trans Jv).trans (av.of i4);have pL:aR H3 p:=Y0.same i4;have x0:0<=x/\x<n:=by rcases hx with rfl|rfl <;> lia
   have y0:0<=y/\y<n:=by rcases hy with rfl|rfl <;> lia
   refine⟨_,rfl,D,rfl,⟨_,aQ.of Jw⟩,fun C1 Y3=>?_⟩;refine qK (K:=K) (zs0:=zs) (·.1) (fun σ=>∃u,σ=[u]) Jw lR Y3 (by lia) ⟨_,rfl⟩ ?_ ?_
   .rintro z σ H4 R Kf pe ⟨u,rfl⟩ FE kt;exact⟨_,rfl,z.1,_,_,_,rfl,rfl,bZ.of FE,aE (j:=0) rfl,kt _ ⟨_,rfl⟩⟩
   intro H4 bW SH;refine⟨_,rfl,D,rfl,⟨_,aQ.of (bW _ _ Jw)⟩,fun C2 Y4=>?_⟩;refine qK (K:=K) (zs0:=zs) (·.2) (fun σ=>∃u,σ=[u]) (bW _ _ Jw) (lR.same bW) Y4 (by lia) ⟨_,rfl⟩ ?_ ?_
   .rintro z σ H5 R Kf pe ⟨u,rfl⟩ FE kt;exact⟨_,rfl,z.1,_,_,_,rfl,rfl,bZ.of FE,aE (j:=1) rfl,kt _ ⟨_,rfl⟩⟩
   intro H5 gO SI;refine⟨C1,C2,_,_,rfl,rfl,gO _ _ SH,SI,by rw[aB,aB,aB,aB,bj];exact a7 (show _<=100 by lia) (by decide),fun Tl Y5=>?_⟩;have et:IV ((zp zs).map (·.1))++IV ((zp zs).map (·.2))=IV ((zp zs).map (·.1)++(zp zs).map (·.2)):=bT.symm;rw[et];have hT:(upd H5 Tl (.lst (IV ((zp zs).map (·.1)++(zp zs).map (·.2))))) Tl=some (.lst (IV ((zp zs).map (·.1)++(zp zs).map (·.2)))):=ab;have qF:aG H3 (upd H5 Tl (.lst (IV ((zp zs).map (·.1)++(zp zs).map (·.2))))):=(bW.trans gO).trans (ag Y5);revert hT qF;generalize upd H5 Tl (.lst (IV ((zp zs).map (·.1)++(zp zs).map (·.2))))=H6;intro hT qF;dsimp only[bb];refine oM (fun Hk=>aG H6 Hk/\x<y/\(x,y)∉zp zs/\gB (cB (zp zs)) x<=7/\gB (cB (zp zs)) y<=7) (fun Hk=>aG H6 Hk) ?_ ?_ ?_
   .rintro H7 ⟨SJ,AQ,Nw,dx,dy⟩;have tJ:=qF.trans SJ;have P0:=tJ _ _ Jw;refine⟨_,rfl,.inl ⟨rfl,_,aQ.of P0⟩,_,rfl,_,rfl,by show 2<=sizeLine;decide,fun t ht=>?_⟩;have Wa:D≠t:=ai P0 ht;refine⟨D,_,_,rfl,rfl,by rw[am Wa];exact P0,by rw[bP];exact bN (show _<100 by lia) (by decide),?_⟩;refine⟨⟨_,_,_,_,rfl⟩,⟨zs++[(t,(x,y))],by rw[ab,cj];rfl,PO.putL (xs:=zr zs) (((lR.same tJ).putN ht).append (PO.one ab)) (by rw[am Wa];exact P0),?_,fun u hu=>?_,by rw[bY];simp;lia⟩,cg ((i6.trans (av.of tJ)).trans (av.of (ag ht))) hD,((pL.same tJ).same (ag ht)).put pJ.symm⟩
    .rw[bC];obtain⟨xa,rfl,xl⟩:∃xa:Nat,x=ci xa/\xa<n:=⟨x.toNat,by show x=((x.toNat:Nat):Int);lia,by lia⟩
     obtain⟨ya,rfl,yl⟩:∃ya:Nat,y=ci ya/\ya<n:=⟨y.toNat,by show y=((y.toNat:Nat):Int);lia,by lia⟩
     exact fi.pair xl yl (fun z=>by rw[z] at AQ;exact absurd AQ (Int.lt_irrefl _)) Nw (fun z=>by have:=Hm _ z;dsimp only at this;lia) dx dy
    .rw[bC] at hu;rcases bg.mp hu with z|z
     .exact Hm u z
     .have e:u=(x,y):=bR.mp z;subst e;exact AQ
   .intro H7 SJ;have tJ:=qF.trans SJ;exact⟨⟨_,_,_,_,rfl⟩,⟨zs,tJ _ _ Jw,lR.same tJ,fi,Hm,by lia⟩,i6.trans (av.of tJ),pL.same tJ⟩
   .intro Y N yy nn;refine⟨_,rfl,_,rfl,_,_,rfl,rfl,_,rfl,?_⟩;refine cW (fun e=>?_) (fun e=>oN (nn _ (aG.refl _)));have AQ:x<y:=eG e;refine⟨_,rfl,_,rfl,by show 2<=sizeLine;decide,fun t ht=>⟨_,rfl,xt (u:=(x,y)) (zs:=zs) ab (ag ht _ _ (qF _ _ Jw)) ((lR.same qF).putN ht) ⟨_,rfl,?_⟩⟩⟩;refine cW (fun e2=>?_) (fun e2=>oN (nn _ (ag ht)));have Nw:(x,y)∉zp zs:=by
     intro z;have:(!decide ((x,y)∈zp zs))=true:=e2;rw[dZ z] at this;exact absurd this (by decide)
    have P1:=ag (o:=qC (x,y)) ht _ _ hT;refine⟨_,rfl,.inl ⟨rfl,_,aQ.of P1⟩,_,rfl,Tl,_,_,rfl,rfl,P1,rfl,y4,_,rfl,.inl ⟨rfl,_,aQ.of P1⟩,_,rfl,Tl,_,_,rfl,rfl,P1,rfl,y4,_,_,rfl,_,_,rfl,rfl,_,rfl,?_⟩;refine cW (fun e3=>?_) (fun e3=>nn _ (ag ht));have e3:=eG e3;have c1:=y6 (ps:=zp zs) (h:=x);have c2:=y6 (ps:=zp zs) (h:=y);unfold IV at c1 c2 e3;rw[c1,c2] at e3;exact yy _ ⟨ag ht,AQ,Nw,by split at e3 <;> lia,by split at e3 <;> lia⟩
  .rintro σ Hc ⟨⟨v4,v5,v6,v7,rfl⟩,⟨zs,hz,po,fi,Hm,zl⟩,se,pt⟩;exact⟨_,rfl,q D zs Hc se pt hD hz po fi (by lia)⟩
end
abbrev Jx:Stmt:=gG 37
abbrev C_:Stmt:=gG 38
theorem Nx:(["_law_k","_law_rest","_law_pot_here"]:List Str).Nodup:=by decide +kernel
theorem SK:(["_law_k","_law_row"]:List Str).Nodup:=by decide +kernel
theorem SL:(["_law_tie","_law_ties"]:List Str).Nodup:=by decide +kernel
def Da(row:List Int)(k:Nat):Int×Int:=(row.getD (if k=0 then row.length-1 else k-1) 0,row.getD k 0)
theorem Jy{row:List Int}{k:Nat}(h:k<row.length):oj (IV row) ((k:Int)-1)=some (.int (Da row k).1):=by
 unfold Da;by_cases e:k=0
 .subst e;rw[ap rfl];unfold oj zJ;rw[aB,ak (by lia),ap (by lia)];have e2:(((0:Nat):Int)-1+(row.length:Int)).toNat=row.length-1:=by lia
  rw[e2,Option.bind_some,bO,bD (by lia),bh,bD (by lia)];rfl
 .rw[ak e];have e2:(k:Int)-1=((k-1:Nat):Int):=by lia
  rw[e2];exact vf (by lia)
theorem FH{row:List Int}(h:∀x∈row,0<=x):(List.range row.length).map (Da row)=kY (row.map Int.toNat):=by
 unfold kY;rw[aB];refine fL fun k hk=>?_;have hk:=bG.mp hk;have gd:∀j,j<row.length->row.getD j 0=ci ((row.map Int.toNat).getD j 0):=fun j hj=>by
  rw[bh,bh,bO,bD hj];exact(l9 (h _ (fN hj))).symm
 unfold Da pk;rw[gd k hk];by_cases c:k=0
 .rw[ap c,gd _ (by lia)]
 .rw[ak c,gd _ (by lia)]
structure Y6(n m:Int)(ps:Ts)(xs:List Nat):Prop where
 eq:ps=kY xs
 nd:xs.Nodup
 lt:∀x∈xs,(x:Int)<n
 len:(xs.length:Int)=m
 all:m=n->xs.Perm (List.range n.toNat)
theorem mJ.Db{n:Nat}{ts:Ts}(F:bL n ts):mJ n ts:=⟨F.nd,F.rg,fun h=>by rw[<-cH,<-gK];exact F.uX h⟩
theorem Ho{k n:Nat}(h:k<n):seqIndex? (k:Int) n=some k:=by
 have e:(if (k:Int)<0 then (k:Int)+n else (k:Int))=k:=ak (by lia);show (if (decide (0<=(if (k:Int)<0 then (k:Int)+n else (k:Int)))&&decide ((if (k:Int)<0 then (k:Int)+n else (k:Int))<(n:Int)))=true then some (if (k:Int)<0 then (k:Int)+n else (k:Int)).toNat else none)=some k;rw[e,ap (by simp[h]),jq]
theorem j8:∀ {rs:List Int} {k:Nat},k<rs.length->(rs.getD k 0::rs.eraseIdx k).Perm rs
 |[],_,h=>absurd h (by simp)
 |_::_,0,_=>.refl _
 |x::xs,k+1,h=>(List.Perm.swap _ _ _).trans ((j8 (rs:=xs) (k:=k) (by simpa using h)).cons x)
theorem vh:∀ {rs:List Int} {k:Nat},(IV rs).eraseIdx k=IV (rs.eraseIdx k)
 |[],_=>rfl
 |_::_,0=>rfl
 |x::xs,k+1=>congrArg (V.int x::·) (vh (rs:=xs) (k:=k))
theorem xG{js rs R:List Int}{k:Nat}(h:(js++rs).Perm R)(hk:k<rs.length):(js++[rs.getD k 0]++rs.eraseIdx k).Perm R:=by
 have e:=j8 hk;rw[cJ];exact(ke js e).trans h
section
variable {P:Program} {w:World} {K:PySem.W.Frag} {mg:Str->Option Value} {base:Heap}
theorem Dc:aH ["_law_pot_here","_law_many","_law_size","_law_rest","_law_row"] ["_law_pot_here","_law_many","_law_size"] (aq Jx):=⟨rfl,rfl,rfl,by decide +kernel,rfl,by decide +kernel,by decide +kernel⟩
def Dd:Sp:=fun vs H Q _=>∃ (p:Addr) (n m:Int),vs=[.ref p,.int n,.int m]/\aR H p/\1<=m/\m<=n/\n<=32/\∀ (L:Addr) (zs:Zs) (H':Hp),av p H H'->aR H' p->H L=none->H' L=some (.lst (zr zs))->PO H' zs->(∃xs,Y6 n m (zp zs) xs)->zs.length<=32->Q (.ref L) H'
theorem Jz{f:Addr}{fd:FuncData}(F:fH K "_law_cycle" "_law_cycle" Jx f fd)(B:Bl mg)(T:ce P w K mg base bf 1 "_law_take" ["_law_pot_here","_law_many"] eU):bv P w K mg base bf 2 f fd ["_law_pot_here","_law_many","_law_size"] Dd:=by
 refine F.ok Dc (fun vs H Q E h=>?_) (fun cT A outer s H vs Q E hr h=>?_)
 .obtain⟨p,n,m,rfl,_⟩:=h;rfl
 .obtain⟨p,n,m,rfl,hp,m1,mn,xF,q⟩:=h;refine'⟨_,ah (aw (i:=3) Dc.nd rfl (Or.inr rfl) (bA (w5 rfl) (by rfl) B.lst jo (aa (bA uD (by rfl) B.range PyProof.Rows.boot_range (aa (pv 1) af)) af)))
   (ah (aw (i:=4) Dc.nd rfl (Or.inr rfl) ?c1)
   (ao (aV ?c2))),?_⟩
  case c1=>
   refine' bt (g:=bb 0) (te:=Rb K "list" BF (aT 1) (bq (jy eU [] (fun _ _ _=>False) (bq (aT 2) (bq (L_ (fun xs H Q=>∃p ys,xs=[V.ref p]/\(aQ K H p ys\/bZ K H p ys)/\Q (.int ys.length) H) (bq (aT 1) eO)) eO))) eO)) (NB:=["_law_k","_law_rest","_law_pot_here"]) (src:=[none,some 3,some 0]) (br (by kernel_rfl)) rfl (aU rfl B.range (aa (pv 2) af)) ?g ?t ?e;case g=>exact fun cl C s₃ H₃ fp=>au (i:=0) Nx rfl (Or.inl rfl) (Or.inr rfl)
   case t=>exact fun cl C s₃ H₃ fp=>bX
   case e=>exact fun cl C s₃ H₃ fp=>dz di PySem.F.slot_list_pop PySem.F.type_list_pop uo (pv 1) (aa (aA T hr aL (aa (pv 2) (aa (az aJ (by rfl) B.len dt (aa (pv 1) af)) af))) af)
  case c2=>
   refine' bt (g:=bb 0) (te:=pA (bq (gW (pC K) (aT 1) (gW (t6 fun i j=>.int (i-j)) (aT 0) (tC (.int 1)))) (bq (gW (pC K) (aT 1) (aT 0)) eO))) (NB:=["_law_k","_law_row"]) (src:=[none,some 4]) (br (by kernel_rfl)) rfl (aU rfl B.range (aa (pv 2) af)) ?g ?t ?e;case g=>exact fun cl C s₃ H₃ fp=>au (i:=0) SK rfl (Or.inl rfl) (Or.inr rfl)
   case t=>exact fun cl C s₃ H₃ fp=>bX
   case e=>exact fun cl C s₃ H₃ fp=>cp (aa (aN aF (pv 1) (aK fR (pv 0) aj) (fun _ _=>rfl)) (aa (aN aF (pv 1) (pv 0) (fun _ _=>rfl)) af))
  refine⟨_,rfl,n,rfl,fun R0 Fn=>⟨R0,n.toNat,rfl,by rw[ab];congr 2;lia,by lia,fun L hL=>?_⟩⟩;have j3:H L=none:=(ag Fn).free hL;have ua:L≠p:=hp.ne j3;have eR:(List.range n.toNat).map (fun (i:Nat)=>V.int i)=IV ((List.range n.toNat).map fun (i:Nat)=>(i:Int)):=by unfold IV;rw[du];rfl
  rw[eR];have SN:∀x∈(List.range n.toNat).map (fun (i:Nat)=>(i:Int)),0<=x/\x<n:=by
   intro x hx;obtain⟨i,hi,rfl⟩:=aW.mp hx;have:=bG.mp hi;lia
  have Nf:((List.range n.toNat).map (fun (i:Nat)=>(i:Int))).Nodup:=eV jt fun x _ y _ e=>by lia
  have P3:((List.range n.toNat).map (fun (i:Nat)=>(i:Int))).length=n.toNat:=by simp
  have SO:((List.range n.toNat).map (fun (i:Nat)=>(i:Int))).map Int.toNat=List.range n.toNat:=by
   rw[du];conv=>rhs;rw[<-iK (List.range n.toNat)]
   exact fL fun x _=>rfl
  revert SN Nf P3 SO;generalize (List.range n.toNat).map (fun (i:Nat)=>(i:Int))=R;intro SN Nf P3 SO;have y7:aG H (upd (upd H R0 (.Ba 0 n)) L (.lst (IV R))):=(ag Fn).trans (ag hL);have uV:(upd (upd H R0 (.Ba 0 n)) L (.lst (IV R))) L=some (.lst (IV R)):=ab;revert y7 uV;generalize upd (upd H R0 (.Ba 0 n)) L (.lst (IV R))=H1;intro y7 uV;refine⟨_,rfl,m,rfl,by lia,by lia,fun D hD=>?_⟩;have vI:H D=none:=y7.free hD;have pJ:D≠p:=hp.ne vI;have Wb:D≠L:=(ai uV hD).symm;refine cQ (lo:=0) (n:=m.toNat) (fun i ys σ H2=>(∃u,σ=[u,some (.ref L),some (.ref p)])/\av p H H2/\aR H2 p/\H2 D=some (.lst ys)/\∃js rs,ys=IV js/\H2 L=some (.lst (IV rs))/\(js++rs).Perm R/\js.length=i)
   ⟨⟨_,rfl⟩,av.of (y7.trans (ag hD)),hp.same (y7.trans (ag hD)),ab,[],R,rfl,ag hD _ _ uV,.refl _,rfl⟩ ?_ ?_
  .rintro i ys σ H2 Kt Kf hi ⟨⟨u,rfl⟩,se,pt,iz,js,rs,rfl,KZ,pm,jl⟩ kt kf;have pl:=pm.length_eq;rw[bY,P3] at pl;have rl:0<rs.length:=by lia
   refine⟨_,rfl,.inl ⟨rfl,_,aQ.of KZ⟩,_,rfl,_,rfl,L,_,rfl,.inl (aQ.of KZ),p,_,rfl,by rw[aB];lia,by rw[aB];lia,pt,fun d H3 d0 d1 i6 pL=>?_⟩;rw[aB] at d1;obtain⟨dn,rfl⟩:∃dn:Nat,(dn:Int)=d:=⟨d.toNat,by lia⟩
   have JA:dn<rs.length:=by lia
   have fX:=i6 _ _ iz pJ;refine⟨L,_,_,dn,.int (rs.getD dn 0),rfl,rfl,i6 _ _ KZ ua,by lia,by lia,by rw[aB];exact Ho JA,?_,?_⟩
   .rw[bO,bD JA,bh,bD JA];rfl
   .refine kt _ _ _ (by rw[am Wb];exact fX) (by rw[aB,jl];exact bN (show i<33 by lia) (by decide)) ⟨⟨_,rfl⟩,cg (cg (se.trans i6) j3) vI,(pL.put ua.symm).put pJ.symm,ab,js++[rs.getD dn 0],rs.eraseIdx dn,fK,?_,xG pm JA,by rw[bY,jl];rfl⟩;rw[am Wb.symm,ab];rw[vh]
  .rintro ys σ H2 ⟨_,se,pt,iz,js,rs,rfl,KZ,pm,jl⟩;have Y7:js.Nodup:=(iC.mp (pm.nodup_iff.mpr Nf)).1;have P4:∀x∈js,0<=x/\x<n:=fun x hx=>SN x (pm.mem_iff.mp (bg.mpr (.inl hx)));refine⟨_,rfl,m,rfl,by lia,by lia,fun D2 Ny=>?_⟩;refine jg (lo:=0) (Da js) (fun σ=>∃u,σ=[u,some (.ref D)]) Ny (by lia) ⟨_,rfl⟩ ?_ ?_
   .rintro k σ H4 R' Kf hk ⟨u,rfl⟩ bW kt;rw[dH];have KM:k<js.length:=by lia
    exact⟨_,rfl,_,rfl,_,_,rfl,rfl,D,_,_,_,rfl,rfl,aQ.of (bW _ _ iz),Jy KM,_,rfl,_,rfl,D,_,_,_,rfl,rfl,aQ.of (bW _ _ iz),vf KM,by show 2<=sizeLine;decide,fun t ht=>kt _ t ⟨_,rfl⟩ ht⟩
   .rintro zs H4 bW gq ph ez;rw[<-jl] at ez;refine q D2 zs H4 (se.trans (av.of bW)) (pt.same bW) (se.free pt.full Ny) gq ph ⟨js.map Int.toNat,?_⟩ ?_
    .rw[ez];refine⟨FH fun x hx=>(P4 x hx).1,?_,fun x hx=>?_,by rw[aB];lia,fun e=>?_⟩
     .refine eV Y7 fun x hx y hy e=>?_;have a:=P4 x hx;have b:=P4 y hy;lia
     .obtain⟨y,hy,rfl⟩:=aW.mp hx;have:=P4 y hy;lia
     .have r0:rs=[]:=List.eq_nil_of_length_eq_zero (by have:=pm.length_eq;rw[bY,P3] at this;lia);rw[r0,ju] at pm;have:=pm.map Int.toNat;rw[SO] at this;exact this
    rw[<-bj,ez,aB,cG];lia
theorem vi:aH ["_law_pot_here","_law_many","_law_ties","_law_k","_law_more"] ["_law_pot_here","_law_many"] (aq C_):=⟨rfl,rfl,rfl,by decide +kernel,rfl,by decide +kernel,by decide +kernel⟩
def De:Sp:=fun vs H Q _=>∃ (p:Addr) (n:Nat),vs=[.ref p,.int n]/\aR H p/\2<=n/\n<=32/\∀ (L:Addr) (zs:Zs) (H':Hp),av p H H'->aR H' p->H L=none->H' L=some (.lst (zr zs))->PO H' zs->bL n (zp zs)->zs.length<=400->Q (.ref L) H'
theorem JB{f:Addr}{fd:FuncData}(F:fH K "_law_one_way" "_law_one_way" C_ f fd)(B:Bl mg)(T:ce P w K mg base bf 1 "_law_take" ["_law_pot_here","_law_many"] eU)(CY:ce P w K mg base bf 2 "_law_cycle" ["_law_pot_here","_law_many","_law_size"] Dd):bv P w K mg base bf 3 f fd ["_law_pot_here","_law_many"] De:=by
 refine F.ok vi (fun vs H Q E h=>?_) (fun cT A outer s H vs Q E hr h=>?_)
 .obtain⟨p,n,rfl,_⟩:=h;rfl
 .obtain⟨p,n,rfl,hp,n2,xF,q⟩:=h;have hu:(A.deeper (PyProof.Rows.envOfC "_law_one_way" (aq C_) s.heap.objs.size f cT)).units+2<cLine:=by have:=hr.un;lia
  have pf:cI 1 (A.deeper (PyProof.Rows.envOfC "_law_one_way" (aq C_) s.heap.objs.size f cT)):=hr.mono (by decide);refine'⟨_,ah (aw (i:=2) vi.nd rfl (Or.inr rfl) (aA CY hr aL (aa (pv 0) (aa (pv 1) (aa (pv 1) af)))))
   (ah (cA dq rfl (aU rfl B.range (aa (aA T pf aL (aa (pv 0) (aa aj af))) af)) (au (i:=3) vi.nd rfl (Or.inl rfl))
    (ah (aw (i:=4) vi.nd rfl (Or.inl rfl) (aA CY hr aL (aa (pv 0) (aa (pv 1) (aa (aK b_ aj (aA T pf aL (aa (pv 0) (aa (aK fR (pv 1) aj) af)))) af)))))
    (ao (b8 (aD (B4 (e:=j_) hu) ?c1 (bJ af) (aP _))
     (ao (aw (i:=2) vi.nd rfl (Or.inr rfl) (aK gy (pv 2) (pv 4))))
     a9))))
   (ao (aV (az ie (by rfl) B.sorted nk (aa (pv 2) af))))),?_⟩
  case c1=>
   refine' bt (g:=bb 0) (tt:=ku (gW (Co K false) (aT 0) (aT 1))) (te:=aT 0) (NB:=["_law_tie","_law_ties"]) (src:=[none,some 2]) (br (by kernel_rfl)) rfl (bH (pv 4)) ?g ?t ?e;case g=>exact fun cl C s₃ H₃ fp=>au (i:=0) SL rfl (Or.inl rfl) (Or.inr rfl)
   case t=>exact fun cl C s₃ H₃ fp=>dO (aD (IK hu) (pv 0) (pv 1) (by rfl))
   case e=>exact fun cl C s₃ H₃ fp=>pv 0
  refine⟨_,rfl,_,rfl,_,rfl,p,n,n,rfl,hp,by lia,by lia,by lia,fun L0 zs0 H1 D6 AU j3 uV C5 Y8 K9=>?_⟩;obtain⟨Wc,K_⟩:=Y8;have Y9:∀x∈Wc,x<n:=fun x hx=>by have:=K_.lt x hx;lia
  have Y_:bL n (zp zs0):=by
   rw[K_.eq];exact qz n2 xF (K_.all rfl)
  have Za:∀h,gB (zp zs0) h<=1:=fun h=>by
   rw[K_.eq];exact(kN (n:=n) K_.nd Y9 (by have:=K_.len;lia)).2 h
  have SS:L0≠p:=hp.ne j3;refine⟨_,rfl,p,_,rfl,by decide,by decide,AU,fun d H2 d0 d6 lY o9=>?_⟩;refine⟨d,rfl,by lia,by lia,cf (lo:=0) (n:=d.toNat) (fun i σ Hc=>(∃L v3 v4 zs,σ=[some (.ref p),some (.int n),some (.ref L),v3,v4]/\H L=none/\Hc L=some (.lst (zr zs))/\PO Hc zs/\bL n (zp zs)/\(∀h,gB (zp zs) h<=i+1)/\zs.length<=32*(i+1))/\av p H Hc/\aR Hc p) ?_ ?_ ?_⟩
  .exact⟨⟨L0,_,_,zs0,rfl,j3,lY _ _ uV SS,C5.fc lY AU,Y_,Za,by lia⟩,D6.trans lY,o9⟩
  .rintro i σ Hc hi ⟨⟨L,v3,v4,zs,rfl,K8,hL,po,fi,dg,zl⟩,se,pt⟩;have ua:L≠p:=hp.ne K8;refine⟨_,rfl,_,rfl,_,rfl,_,rfl,_,_,rfl,rfl,p,_,rfl,by lia,by lia,pt,fun e Hd e0 e1 SU SW=>?_⟩;refine⟨_,_,rfl,rfl,p,n,_,rfl,SW,by lia,by lia,by lia,fun M zm H3 i6 pL hM SX lR SY Nz=>?_⟩;obtain⟨xs,cy⟩:=SY;have Wd:∀x∈xs,x<n:=fun x hx=>by have:=cy.lt x hx;lia
   have SE:M≠p:=SW.ne hM;have FI:H3 L=some (.lst (zr zs)):=i6 _ _ (SU _ _ hL ua) ua;have JC:PO H3 zs:=(po.fc SU pt).fc i6 SW;have JD:av p H H3:=(se.trans SU).trans i6;dsimp only[bb];refine oM (fun Hk=>aG H3 Hk/\∀x∈zp zm,x∉zp zs) (fun Hk=>aG H3 Hk) ?_ ?_ ?_
   .rintro H4 ⟨bW,dj⟩;refine⟨_,rfl,_,rfl,L,M,_,_,rfl,rfl,bW _ _ FI,bW _ _ SX,by rw[bP,bP];exact a7 (show _<=1000 by lia) (by decide),fun r dh=>?_⟩;refine⟨⟨r,_,_,zs++zm,rfl,(JD.trans (av.of bW)).free (pL.same bW).full dh,by rw[ab,cj],((JC.append lR).same bW).putN dh,by rw[bC,cy.eq];exact(fi.more dg (by lia) cy.nd Wd (by have:=cy.len;lia) (by rw[<-cy.eq];exact dj)).1,by rw[bC,cy.eq];exact(fi.more dg (by lia) cy.nd Wd (by have:=cy.len;lia) (by rw[<-cy.eq];exact dj)).2,by rw[bY];lia⟩,(JD.trans (av.of bW)).trans (av.of (ag dh)),(pL.same bW).same (ag dh)⟩
   .intro H4 bW;exact⟨⟨L,_,_,zs,rfl,K8,bW _ _ FI,JC.same bW,fi,fun h=>a7 (dg h) (rJ _),by lia⟩,JD.trans (av.of bW),pL.same bW⟩
   .intro Y N yy nn;refine⟨_,rfl,M,rfl,⟨_,aQ.of SX⟩,fun D hD=>?_⟩;refine cu (K:=K) (a:=M) (xs:=zr zm) (fun i ys σ H4=>(∃u,σ=[u,some (.ref L)])/\aG H3 H4/\H4 D=some (.lst ys)/\ys.length<=i/\(ys=[]->∀x∈(zp zm).take i,x∉zp zs)) ⟨⟨_,rfl⟩,ag hD,ab,a8 _,fun _ x hx=>(nomatch hx)⟩ (fun i ys σ H4 _ z=>aQ.of (z.2.1 _ _ SX)) ?_ ?_
    .rintro j x ys σ H4 Kt Kf hx ⟨⟨u,rfl⟩,bW,gq,yl,yn⟩ kt kf;obtain⟨z,hz,rfl⟩:=iZ hx;have hj:j<zm.length:=(cD.mp hz).1;have pe:z∈zm:=cE hz;have e2:(zp zm)[j]?=some z.2:=by unfold zp;rw[bO,hz];rfl
     refine⟨_,rfl,_,rfl,xt (zs:=zs) (bW _ _ (lR z pe)) (bW _ _ FI) (JC.same bW) ⟨_,rfl,?_⟩⟩;refine cW (fun e=>?_) (fun e=>?_)
     .refine⟨_,rfl,kt _ _ _ gq (bN (show _<100 by lia) (by decide)) ⟨⟨_,rfl⟩,a_ bW hD,ab,by rw[bY];simp;lia,fun z=>absurd z (by simp)⟩⟩
     .refine kf _ _ ⟨⟨_,rfl⟩,bW,gq,by lia,fun h0 x hx=>?_⟩;rw[eI,e2,iA] at hx;rcases bg.mp hx with y|y
      .exact yn h0 x y
      .rw[bR.mp y];exact fun y2=>e (dZ y2)
    .rintro ys σ H4 ⟨_,bW,gq,yl,yn⟩;rw[bP,<-bj,gf] at yn;refine⟨by show 0<=sizeLine;decide,fun E0 SZ=>⟨D,E0,_,_,rfl,rfl,aQ.of (ag SZ _ _ gq),aQ.of ab,fun i _ hi=>absurd hi (by simp),_,rfl,?_⟩⟩;refine cW (fun e=>yy _ ⟨bW.trans (ag SZ),yn ?_⟩) (fun e=>nn _ (bW.trans (ag SZ)));cases ys with
     |nil=>rfl
     |cons y ys=>exact absurd (show false=true from e) (by decide)
  .rintro σ Hc ⟨⟨L,v3,v4,zs,rfl,K8,hL,po,fi,dg,zl⟩,se,pt⟩;refine⟨_,rfl,oR hL po (by lia) fun D u8 hD pm=>?_⟩;refine q D u8 _ (se.trans (av.of (ag hD))) (pt.same (ag hD)) (se.free pt.full hD) ab (fun z hz=>ag hD _ _ (po z (pm.mem_iff.mp hz))) (fi.perm (tE pm)) (by rw[pm.length_eq];lia)
end
abbrev Df:Stmt:=gG 39
abbrev kW:Stmt:=gG 40
theorem S0:(["_law_house"]:List Str).Nodup:=by decide +kernel
theorem Dg:(["_law_one","_law_other"]:List Str).Nodup:=by decide +kernel
structure vj(p:Addr)(H:Hp)(L:Addr)(n:Nat)(zs:Zs)(Hc:Hp):Prop where
 se:av p H Hc
 pt:aR Hc p
 fr:H L=none
 at_:Hc L=some (.lst (zr zs))
 po:PO Hc zs
 fi:bL n (cB (zp zs))
 le:zs.length<=160
theorem vj.same{p:Addr}{H:Hp}{L:Addr}{n:Nat}{zs:Zs}{Hc Hd:Hp}(g:vj p H L n zs Hc)(s:aG Hc Hd):vj p H L n zs Hd:=⟨g.se.trans (av.of s),g.pt.same s,g.fr,s _ _ g.at_,g.po.same s,g.fi,g.le⟩
section
variable {P:Program} {w:World} {K:PySem.W.Frag} {mg:Str->Option Value} {base:Heap}
theorem FJ{i:Nat}:(kQ (i+1)).map gL=(kQ i).map gL++(List.range i).map fun (o:Nat)=>((o:Int),(i:Int)):=by
 unfold kQ;rw[gX,List.flatMap_append,bT];congr 1;rw[List.flatMap_cons,List.flatMap_nil,ju,du];rfl
theorem gQ:aH ["_law_pot_here","_law_way","_law_many","_law_pairs","_law_other"] ["_law_pot_here"] (aq Df):=⟨rfl,rfl,rfl,by decide +kernel,rfl,by decide +kernel,by decide +kernel⟩
def Dh:Sp:=fun vs H Q _=>∃ (p:Addr),vs=[.ref p]/\aR H p/\∀ (r L:Addr) (n:Nat) (zs:Zs) (H':Hp),av p H H'->aR H' p->H' r=some (.tup [.int n,.ref L])->H L=none->H' L=some (.lst (zr zs))->PO H' zs->bL n (zp zs)->zs.length<=400->Q (.ref r) H'
theorem JE{f:Addr}{fd:FuncData}(F:fH K "_law_net" "_law_net" Df f fd)(B:Bl mg)(T:ce P w K mg base bf 1 "_law_take" ["_law_pot_here","_law_many"] eU)(SD:ce P w K mg base bf 2 "_law_sides" ["_law_pot_here"] m7)(BX:ce P w K mg base bf 1 "_law_box_pairs" ["_law_sides_here"] yZ)(TR:ce P w K mg base bf 2 "_law_tree_pairs" ["_law_pot_here","_law_many"] xC)(MO:ce P w K mg base bf 2 "_law_more_pairs" ["_law_pot_here","_law_many","_law_pairs"] xE)(OW:ce P w K mg base bf 3 "_law_one_way" ["_law_pot_here","_law_many"] De):bv P w K mg base bf 4 f fd ["_law_pot_here"] Dh:=by
 refine F.ok gQ (fun vs H Q E h=>?_) (fun cT A outer s H vs Q E hr h=>?_)
 .obtain⟨p,rfl,_⟩:=h;rfl
 .obtain⟨p,rfl,hp,q⟩:=h;have pf:cI 1 (A.deeper (PyProof.Rows.envOfC "_law_net" (aq Df) s.heap.objs.size f cT)):=hr.mono (by decide);have NC:cI 2 (A.deeper (PyProof.Rows.envOfC "_law_net" (aq Df) s.heap.objs.size f cT)):=hr.mono (by decide);refine'⟨_,ah (aw (i:=1) gQ.nd rfl (Or.inl rfl) (aA T pf aL (aa (pv 0) (aa aj af))))
   (ah (aw (i:=2) gQ.nd rfl (Or.inl rfl) (aK b_ aj (aA T pf aL (aa (pv 0) (aa aj af)))))
   (ah (b8 (aD d_ (pv 1) aj (aP _)) (ao (aV (cp (aa (pv 2) (aa (aA OW hr aL (aa (pv 0) (aa (pv 2) af))) af))))) a9)
   (ah (aw (i:=3) gQ.nd rfl (Or.inl rfl) (aA TR NC aL (aa (pv 0) (aa (pv 2) af))))
   (ah (b8 (aD d_ (pv 1) aj (aP _)) (ao (aw (i:=3) gQ.nd rfl (Or.inl rfl) (aA MO NC aL (aa (pv 0) (aa (pv 2) (aa (pv 3) af)))))) a9)
   (ah (b8 (aD d_ (pv 1) aj (aP _)) (ah (aw (i:=2) gQ.nd rfl (Or.inl rfl) (az (i_ rfl) (by rfl) B.max qX (aa aj (aa (pv 2) af)))) (ao (aw (i:=3) gQ.nd rfl (Or.inl rfl) (aK gy ?c1 (bJ (aa (cp (aa aj (aa (aK fR (pv 2) aj) af))) af)))))) a9)
   (ah (b8 (aD d_ (pv 1) aj (aP _)) (ah (aw (i:=2) gQ.nd rfl (Or.inl rfl) (aK b_ aj (aK fS (pv 2) aj))) (ah (aw (i:=3) gQ.nd rfl (Or.inl rfl) (bJ af)) (ao (cA dq rfl (aU rfl B.range (aa (pv 2) af)) (au (i:=4) gQ.nd rfl (Or.inr rfl)) (ao (aw (i:=3) gQ.nd rfl (Or.inl rfl) (aK gy (pv 3) ?c2))))))) a9)
   (ah (b8 (aD qa (pv 1) (cp (aa aj (aa aj af))) (by rfl)) (ao (d9 (aA BX pf aL (aa (aA SD NC aL (aa (pv 0) af)) af)) (eN (n:=2) rfl (aY (au (i:=2) gQ.nd rfl (Or.inl rfl)) (aY (au (i:=3) gQ.nd rfl (Or.inl rfl)) de))))) a9)
   (ao (aV (cp (aa (pv 2) (aa (az ie (by rfl) B.sorted nk (aa (aK gy (pv 3) ?c3) af)) af)))))))))))),?_⟩
  case c1=>
   refine' bt (g:=bb 0) (te:=pA (bq (aT 0) (bq (gW (t6 fun i j=>.int (i+j)) (aT 0) (tC (.int 1))) eO))) (NB:=["_law_house"]) (src:=[none]) (br (by kernel_rfl)) rfl (aU rfl B.range (aa (aK fR (pv 2) aj) af)) ?g ?t ?e;case g=>exact fun cl C s₃ H₃ fp=>au (i:=0) S0 rfl (Or.inl rfl) (Or.inr rfl)
   case t=>exact fun cl C s₃ H₃ fp=>bX
   case e=>exact fun cl C s₃ H₃ fp=>cp (aa (pv 0) (aa (aK b_ (pv 0) aj) af))
  case c2=>
   refine' bt (g:=bb 0) (te:=pA (bq (aT 0) (bq (aT 1) eO))) (NB:=["_law_one","_law_other"]) (src:=[none,some 4]) (br (by kernel_rfl)) rfl (aU rfl B.range (aa (pv 4) af)) ?g ?t ?e;case g=>exact fun cl C s₃ H₃ fp=>au (i:=0) Dg rfl (Or.inl rfl) (Or.inr rfl)
   case t=>exact fun cl C s₃ H₃ fp=>bX
   case e=>exact fun cl C s₃ H₃ fp=>cp (aa (pv 0) (aa (pv 1) af))
  case c3=>
   refine' bt (g:=rR K 2 (eZ (bb 0) (eZ (bb 1) rQ))) (te:=pA (bq (aT 1) (bq (aT 0) eO))) (NB:=["_law_one","_law_other"]) (src:=[none,none]) (br (by kernel_rfl)) rfl (bH (pv 3)) ?g ?t ?e;case g=>exact fun cl C s₃ H₃ fp=>eN (n:=2) rfl (aY (au (i:=0) Dg rfl (Or.inl rfl) (Or.inr rfl)) (aY (au (i:=1) Dg rfl (Or.inl rfl) (Or.inr rfl)) de))
   case t=>exact fun cl C s₃ H₃ fp=>bX
   case e=>exact fun cl C s₃ H₃ fp=>cp (aa (pv 1) (aa (pv 0) af))
  refine⟨_,rfl,p,_,rfl,by decide,by decide,hp,fun La H1 w0 w7 D6 AU=>?_⟩;refine⟨_,rfl,p,_,rfl,by decide,by decide,AU,fun d H2 d0 Zb vk o9=>⟨_,_,rfl,rfl,?_⟩⟩;have lY:=D6.trans vk;dsimp only[bb];generalize hn:(2:Int)+d=n;have n2:2<=n:=by lia
  have xF:n<=32:=by lia
  clear hn d0 Zb;obtain⟨n,rfl⟩:∃k:Nat,n=(k:Int):=⟨n.toNat,by lia⟩
  refine iu (fun σ Hc=>σ=[some (.ref p),some (.int La),some (.int n),none,none]/\Hc=H2) ?_ ?_
  rotate_left
  .intro N nN;refine oM (fun Hk=>H2=Hk) (fun Hk=>H2=Hk) ?_ ?_ ?_
   .rintro _ rfl;refine⟨_,rfl,_,rfl,_,rfl,p,n,rfl,o9,by lia,by lia,fun L zs H3 i6 pL hL FI lR SY Nz=>⟨by show 2<=sizeLine;decide,fun r dh=>?_⟩⟩;have j3:H L=none:=lY.free o9.full hL;exact q r L n zs _ ((lY.trans i6).trans (av.of (ag dh))) (pL.same (ag dh)) ab j3 (ag dh _ _ FI) (lR.putN dh) SY Nz
   .rintro _ rfl;exact nN _ _ ⟨rfl,rfl⟩
   .intro Y N' yy nn;exact⟨_,rfl,rfl,_,rfl,cW (fun e=>yy _ rfl) (fun e=>nn _ rfl)⟩
  rintro σ Hc ⟨rfl,rfl⟩;refine⟨_,rfl,_,rfl,p,n,rfl,by lia,by lia,o9,fun L zs H3 i6 pL hL FI lR S4 ND Nz=>?_⟩;have j3:H L=none:=lY.free o9.full hL;have ua:L≠p:=hp.ne j3;dsimp only[bb];refine iu (fun σ Hc=>∃ (L:Addr) (n:Nat) (zs:Zs) (v4:Option V),σ=[some (.ref p),some (.int La),some (.int n),some (.ref L),v4]/\vj p H L n zs Hc) ?_ ?_
  rotate_left
  .intro N nN;refine oM (fun Hk=>H3=Hk) (fun Hk=>H3=Hk) ?_ ?_ ?_
   .rintro _ rfl;refine⟨_,rfl,_,rfl,_,rfl,p,L,n,zs,rfl,pL,FI,lR,S4,ND,Nz,by lia,by lia,fun L4 Zc H4 ve D7 Zd S5 ph Ze zl4=>?_⟩;exact nN _ _ ⟨L4,n,Zc,_,rfl,(lY.trans i6).trans ve,D7,(lY.trans i6).free pL.full Zd,S5,ph,Ze,by lia⟩
   .rintro _ rfl;exact nN _ _ ⟨L,n,zs,_,rfl,lY.trans i6,pL,j3,FI,lR,S4,by lia⟩
   .intro Y N' yy nn;exact⟨_,rfl,rfl,_,rfl,cW (fun e=>yy _ rfl) (fun e=>nn _ rfl)⟩
  clear j3 ua Nz ND S4 lR FI hL pL i6 n2 xF;rintro σ Hc ⟨L,n,zs,v4,rfl,g⟩;refine iu (fun σ Hc=>∃ (L:Addr) (n:Nat) (zs:Zs) (v4:Option V),σ=[some (.ref p),some (.int La),some (.int n),some (.ref L),v4]/\vj p H L n zs Hc) ?_ ?_
  rotate_left
  .intro N nN;refine oM (fun Hk=>Hc=Hk) (fun Hk=>Hc=Hk) ?_ ?_ ?_
   .rintro _ rfl;refine⟨_,rfl,_,_,rfl,?_⟩;have m3:3<=(if (n:Int) > 3 then (n:Int) else 3):=by split <;> lia
    have We:(if (n:Int) > 3 then (n:Int) else 3)<=32:=by have:=g.fi.n2;split <;> lia
    revert m3 We;generalize (if (n:Int) > 3 then (n:Int) else (3:Int))=m;intro m3 We;obtain⟨m,rfl⟩:∃k:Nat,m=(k:Int):=⟨m.toNat,by lia⟩
    refine⟨_,rfl,_,_,rfl,rfl,_,rfl,by lia,by lia,fun D hD=>?_⟩;refine jg (lo:=0) (fun h=>((h:Int),(h:Int)+1)) (fun σ=>∃u,σ=[u]) hD (by lia) ⟨_,rfl⟩ ?_ ?_
    .rintro j σ H4 R Kf hj ⟨u,rfl⟩ bW kt;rw[dH];exact⟨_,rfl,_,rfl,_,_,rfl,rfl,by show 2<=sizeLine;decide,fun t ht=>kt _ t ⟨_,rfl⟩ ht⟩
    .rintro mI H4 bW gq ph ez;have AM:mI.length=((m:Int)-1).toNat:=by rw[<-bj,ez,aB,cG]
     refine⟨_,rfl,_,_,rfl,rfl,by show 2<=sizeLine;decide,fun t ht=>⟨by show 1<=sizeLine;decide,fun D2 iz=>?_⟩⟩;refine⟨D,D2,_,_,rfl,rfl,ag iz _ _ (ag ht _ _ gq),ab,by rw[bP];exact a7 (show _<=100 by simp;lia) (by decide),fun r dh=>?_⟩;have gO:aG Hc (upd (upd (upd H4 t (.tup [.int 0,.int (m-1)])) D2 (.lst [.ref t])) r (.lst (zr mI++[.ref t]))):=((bW.trans (ag ht)).trans (ag iz)).trans (ag dh);have xD:PO (upd (upd (upd H4 t (.tup [.int 0,.int (m-1)])) D2 (.lst [.ref t])) r (.lst (zr mI++[.ref t]))) (mI++[(t,(0,(m:Int)-1))]):=(((ph.putN ht).append (PO.one ab)).putN iz).putN dh;refine nN _ _ ⟨r,m,mI++[(t,(0,(m:Int)-1))],_,rfl,g.se.trans (av.of gO),g.pt.same gO,g.se.free g.pt.full (((bW.trans (ag ht)).trans (ag iz)).free dh),by rw[cj];exact ab,xD,by rw[bC,ez];rw[show ((m:Int)-1).toNat=m-1 by lia];exact xA (by lia) (by lia),by rw[bY];simp;lia⟩
   .rintro _ rfl;exact nN _ _ ⟨L,n,zs,v4,rfl,g⟩
   .intro Y N' yy nn;exact⟨_,rfl,rfl,_,rfl,cW (fun e=>yy _ rfl) (fun e=>nn _ rfl)⟩
  clear g;rintro σ Hc ⟨L,n,zs,v4,rfl,g⟩;refine iu (fun σ Hc=>∃ (L:Addr) (n:Nat) (zs:Zs) (v4:Option V),σ=[some (.ref p),some (.int La),some (.int n),some (.ref L),v4]/\vj p H L n zs Hc) ?_ ?_
  rotate_left
  .intro N nN;refine oM (fun Hk=>Hc=Hk) (fun Hk=>Hc=Hk) ?_ ?_ ?_
   .rintro _ rfl;refine⟨_,rfl,_,_,rfl,rfl,by show (0:Int)<8;decide,_,_,rfl,rfl,?_⟩;have m2:2<=(2:Int)+(n:Int) % 8:=by have:=gY (n:Int) (show (8:Int)≠0 by decide);lia
    have m9:(2:Int)+(n:Int) % 8<=9:=by have:=kh (n:Int) (show (0:Int)<8 by decide);lia
    dsimp only;revert m2 m9;generalize (2:Int)+(n:Int) % 8=m;intro m2 m9;obtain⟨m,rfl⟩:∃k:Nat,m=(k:Int):=⟨m.toNat,by lia⟩
    refine⟨by show 0<=sizeLine;decide,fun D0 vI=>?_⟩;refine⟨_,rfl,m,rfl,by lia,by lia,cf (lo:=0) (n:=m) (fun i σ Hd=>(∃L zs v4,σ=[some (.ref p),some (.int La),some (.int m),some (.ref L),v4]/\Hc L=none/\Hd L=some (.lst (zr zs))/\PO Hd zs/\zp zs=(kQ i).map gL/\zs.length<=9*i)/\aG Hc Hd) ?_ ?_ ?_⟩
    .exact⟨⟨D0,[],_,rfl,vI,ab,PO.nil,rfl,by simp⟩,ag vI⟩
    .rintro i σ Hd hi ⟨⟨L5,NE,v5,rfl,Hq,JF,xD,NF,S6⟩,gO⟩;rw[dH];refine⟨_,rfl,_,rfl,i,rfl,by lia,by lia,fun D hD=>?_⟩;rw[jq];refine jg (lo:=0) (fun o=>((o:Int),(i:Int))) (fun σ=>∃u,σ=[u,some (.int i)]) hD (by lia) ⟨_,rfl⟩ ?_ ?_
     .rintro j σ H4 R Kf hj ⟨u,rfl⟩ bW kt;rw[dH];exact⟨_,rfl,_,rfl,by show 2<=sizeLine;decide,fun t ht=>kt _ t ⟨_,rfl⟩ ht⟩
     .rintro mI H4 bW gq ph ez;have AM:mI.length=i:=by rw[<-bj,ez,aB,cG]
      refine⟨L5,D,_,_,rfl,rfl,bW _ _ JF,gq,by rw[bP,bP];exact a7 (show _<=200 by lia) (by decide),fun r dh=>?_⟩;refine⟨⟨r,NE++mI,_,rfl,(gO.trans bW).free dh,by rw[ab,cj],((xD.same bW).append ph).putN dh,by rw[bC,ez,NF,FJ],by rw[bY];lia⟩,(gO.trans bW).trans (ag dh)⟩
    .rintro σ Hd ⟨⟨L5,NE,v5,rfl,Hq,JF,xD,NF,S6⟩,gO⟩;exact nN _ _ ⟨L5,m,NE,v5,rfl,g.se.trans (av.of gO),g.pt.same gO,g.se.free g.pt.full Hq,JF,xD,by rw[NF];exact Jp (by lia) (by lia),by lia⟩
   .rintro _ rfl;exact nN _ _ ⟨L,n,zs,v4,rfl,g⟩
   .intro Y N' yy nn;exact⟨_,rfl,rfl,_,rfl,cW (fun e=>yy _ rfl) (fun e=>nn _ rfl)⟩
  clear g;rintro σ Hc ⟨L,n,zs,v4,rfl,g⟩;refine iu (fun σ Hc=>∃ (L:Addr) (n:Nat) (zs:Zs) (v4:Option V),σ=[some (.ref p),some (.int La),some (.int n),some (.ref L),v4]/\vj p H L n zs Hc) ?_ ?_
  rotate_left
  .intro N nN;refine oM (fun Hk=>aG Hc Hk) (fun Hk=>aG Hc Hk) ?_ ?_ ?_
   .intro Hk P5;refine⟨_,rfl,p,rfl,g.pt.same P5,fun rs ss H4 ve D7 Zf JG sd Hl=>?_⟩;refine⟨rs,ss,rfl,JG,sd,Hl,fun r L5 n5 NE H5 gO Jj Hq JI xD NF S6 Zg S7 S8=>?_⟩;obtain⟨n5,rfl⟩:∃k:Nat,n5=(k:Int):=⟨n5.toNat,by lia⟩
    refine⟨_,_,rfl,bZ.of Jj,rfl,_,_,rfl,_,_,rfl,rfl,?_⟩;have sk:=(g.se.trans (av.of P5)).trans ve;exact nN _ _ ⟨L5,n5,NE,v4,rfl,sk.trans (av.of gO),D7.same gO,sk.free D7.full JI,Hq,xD,S8,S6⟩
   .intro Hk P5;exact nN _ _ ⟨L,n,zs,v4,rfl,g.same P5⟩
   .intro Y N' yy nn;refine⟨_,rfl,by show 2<=sizeLine;decide,fun t ht=>⟨t,_,rfl,.inr (bZ.of ab),rfl,rfl,_,rfl,?_⟩⟩;exact cW (fun e=>yy _ (ag ht)) (fun e=>nn _ (ag ht))
  clear g;rintro σ Hc ⟨L,n,zs,v4,rfl,g⟩;refine⟨_,rfl,_,rfl,_,rfl,L,rfl,⟨_,aQ.of g.at_⟩,fun D hD=>?_⟩;have zl:=g.le;refine lS (K:=K) (zs0:=zs) sw (fun σ=>∃u v,σ=[u,v]) g.at_ g.po hD (by lia) ⟨_,_,rfl⟩ ?_ ?_
  .rintro z σ H4 R Kf hz ⟨u,v,rfl⟩ FE kt;refine⟨_,_,rfl,bZ.of FE,rfl,_,_,rfl,_,_,rfl,rfl,?_⟩;exact⟨_,rfl,_,rfl,by show 2<=sizeLine;decide,fun t ht=>kt _ t ⟨_,_,rfl⟩ ht⟩
  .rintro mI H4 bW gq ph ez;have AM:mI.length=zs.length:=by rw[<-bj,ez,aB,bj]
   refine⟨L,D,_,_,rfl,rfl,bW _ _ g.at_,gq,by rw[bP,bP];exact a7 (show _<=1000 by lia) (by decide),fun r dh=>?_⟩;dsimp only[eO];refine oR (zs:=zs++mI) (by rw[ab,cj]) (((g.po.same bW).append ph).putN dh) (by rw[bY];lia) ?_;intro D3 AS fX pm;refine⟨by show 2<=sizeLine;decide,fun u o_=>?_⟩;have gO:aG Hc (upd (upd (upd H4 r (.lst (zr zs++zr mI))) D3 (.lst (zr AS))) u (.tup [.int n,.ref D3])):=((bW.trans (ag dh)).trans (ag fX)).trans (ag o_);refine q u D3 n AS _ (g.se.trans (av.of gO)) (g.pt.same gO) ab (g.se.free g.pt.full ((bW.trans (ag dh)).free fX)) (ag o_ _ _ ab) ?_ ?_ (by rw[pm.length_eq,bY];lia)
   .intro z hz;exact ag o_ _ _ (ag fX _ _ ((((g.po.same bW).append ph).putN dh) z (pm.mem_iff.mp hz)))
   .refine g.fi.perm ((tE pm).trans ?_);rw[bC,ez];exact dJ.symm
end
abbrev xH:Stmt:=gG 41
abbrev xI:Stmt:=gG 43
theorem Di:(["_law_one","_law_other","_law_house","_law_many"]:List Str).Nodup:=by decide +kernel
theorem NG:(["_law_step","_law_house","_law_many"]:List Str).Nodup:=by decide +kernel
theorem NH:(["_law_k","_law_pot_here","_law_span"]:List Str).Nodup:=by decide +kernel
def cL(T:List (Int×Int))(h:Int):List Int:=(T.filter fun p=>p.1==h).map (·.2)
theorem qL{T:List (Int×Int)}{h:Int}:(cL T h).length=(T.map (·.1)).count h:=by
 unfold cL;rw[aB,lT,List.countP_eq_length_filter]
theorem ji{T:List (Int×Int)}{h o:Int}:o∈cL T h↔(h,o)∈T:=by
 unfold cL;rw[aW];constructor
 .rintro⟨⟨a,b⟩,hp,rfl⟩;obtain⟨h1,h2⟩:=cY.mp hp;have:a=h:=by simpa using h2
  rw[<-this];exact h1
 .intro hp;exact⟨(h,o),cY.mpr ⟨hp,by simp⟩,rfl⟩
theorem vo{n:Int}{T:List (Int×Int)}{h:Int}(t:mJ n T):(cL T h).Nodup:=by
 unfold cL;refine eV (List.Pairwise.filter _ t.nd) fun x hx y hy e=>?_;have h1:x.1=h:=by simpa using (cY.mp hx).2
 have h2:y.1=h:=by simpa using (cY.mp hy).2
 exact dE (h1.trans h2.symm) e
theorem kX{n:Nat}{xs:List Int}(nd:xs.Nodup)(h:∀x∈xs,0<=x/\x<n):xs.length<=n:=by
 have:=fY (fun _=>true) (a:=xs) (b:=(List.range n).map fun (i:Nat)=>(i:Int)) nd fun x hx _=>by
  have:=h x hx;exact aW.mpr ⟨x.toNat,bG.mpr (by lia),by lia⟩
 simp only[List.countP_true,aB,cG] at this;exact this
theorem vp{n:Int}{T:List (Int×Int)}{h:Int}(t:mJ n T)(xF:n<=32):(cL T h).length<=32:=by
 refine kX (vo (h:=h) t) fun x hx=>?_;have:=(t.rg _ (ji.mp hx)).2;dsimp only at this;lia
structure df(p:Addr)(H:Hp)(O:Addr)(as:List Addr)(n:Nat)(T:List (Int×Int)):Prop where
 at_:H O=some (.lst (as.map V.ref))
 len:as.length=n
 rows:∀h,h<n->∃js,H (as.getD h 0)=some (.lst (IV js))/\js.Perm (cL T h)
 np:O≠p
 P6:∀h,h<n->as.getD h 0≠p
theorem df.fc{p:Addr}{H H':Hp}{O:Addr}{as:List Addr}{n:Nat}{T:List (Int×Int)}(g:df p H O as n T)(s:av p H H'):df p H' O as n T:=
 ⟨s _ _ g.at_ g.np,g.len,fun h hh=>let ⟨js,e,r⟩:=g.rows h hh;⟨js,s _ _ e (g.P6 h hh),r⟩,g.np,g.P6⟩
theorem df.same{p:Addr}{H H':Hp}{O:Addr}{as:List Addr}{n:Nat}{T:List (Int×Int)}(g:df p H O as n T)(s:aG H H'):df p H' O as n T:=g.fc (av.of s)
theorem Ay{K:PySem.W.Frag}{a D:Addr}{ns:List Int}{g:TG}{tt:TT}{te:TE}{dN:Hp->Prop}{σB:St}{H0:Hp}(F:Int->Int)(bQ:St->Prop)(ha:H0 a=some (.lst (IV ns)))(hD:H0 D=none)(hn:ns.length<=100000)(h0:bQ σB)(hs:∀z σ H (R:V->St->Hp->Prop) (Kf:St->Hp->Prop),z∈ns->bQ σ->(∀σ2,bQ σ2->R (.int (F z)) σ2 H)->g (.int z) σ H fun σ2 H2=>tt σ2 H2 fun b H3=>if b=true then te σ2 H3 fun v H4=>R v σ2 H4 else Kf σ2 H3)(hd:∀H,aG H0 H->H D=some (.lst (IV (ns.map F)))->dN H):gH (AJ K a) g tt te D dN σB (upd H0 D (.lst [])):=by
 refine cu (xs:=IV ns) (fun i ys σ H=>bQ σ/\aG H0 H/\H D=some (.lst ys)/\ys=IV ((ns.take i).map F)) ⟨h0,ag hD,ab,rfl⟩ (fun i ys σ H _ z=>aQ.of (z.2.1 _ _ ha)) ?_ ?_
 .rintro i x ys σ H Kt Kf hx ⟨sh,sm,iw,rfl⟩ kt kf;rw[bO] at hx;cases e:ns[i]? with
  |none=>rw[e] at hx;cases hx
  |some z=>
   rw[e] at hx;obtain rfl:V.int z=x:=bE hx;have hi:i<ns.length:=(cD.mp e).1;refine hs z σ H Kt Kf (cE e) sh (fun σ2 u9=>?_);refine kt _ _ _ iw (by rw[aB,aB,jH];exact bN (show _<100001 by lia) (by decide)) ⟨u9,a_ sm hD,ab,?_⟩;rw[fK,eI,e,iA,bT];rfl
 .rintro ys σ H ⟨_,sm,iw,rfl⟩;rw[aB,gf] at iw;exact hd H sm iw
theorem Dj{h o n:Int}(o0:0<=o)(on:o<n):(h+(o-h) % n) % n=o:=by
 rw[Int.add_emod,Int.emod_emod_of_dvd _ (Int.dvd_refl n),<-Int.add_emod];have:h+(o-h)=o:=by lia
 rw[this,wg o0 on]
section
variable {P:Program} {w:World} {K:PySem.W.Frag} {mg:Str->Option Value} {base:Heap}
theorem oW:aH ["_law_pot_here","_law_waits","_law_many","_law_pairs"] ["_law_pot_here","_law_waits"] (aq kW):=⟨rfl,rfl,rfl,by decide +kernel,rfl,by decide +kernel,by decide +kernel⟩
def oX:Sp:=fun vs H Q _=>∃ (p:Addr) (wt:Bool),vs=[.ref p,.bl wt]/\aR H p/\∀ (r L:Addr) (n:Nat) (zs:Zs) (H':Hp),av p H H'->aR H' p->H' r=some (.tup [.int n,.ref L])->H L=none->H' L=some (.lst (zr zs))->PO H' zs->bL n (zp zs)->zs.length<=400->Q (.ref r) H'
theorem Az{f:Addr}{fd:FuncData}(F:fH K "_law_ground" "_law_ground" kW f fd)(B:Bl mg)(SD:ce P w K mg base bf 2 "_law_sides" ["_law_pot_here"] m7)(BX:ce P w K mg base bf 1 "_law_box_pairs" ["_law_sides_here"] yZ)(NT:ce P w K mg base bf 4 "_law_net" ["_law_pot_here"] Dh):bv P w K mg base bf 5 f fd ["_law_pot_here","_law_waits"] oX:=by
 refine F.ok oW (fun vs H Q E h=>?_) (fun cT A outer s H vs Q E hr h=>?_)
 .obtain⟨p,wt,rfl,_⟩:=h;rfl
 .obtain⟨p,wt,rfl,hp,q⟩:=h;have pf:cI 1 (A.deeper (PyProof.Rows.envOfC "_law_ground" (aq kW) s.heap.objs.size f cT)):=hr.mono (by decide);have NC:cI 2 (A.deeper (PyProof.Rows.envOfC "_law_ground" (aq kW) s.heap.objs.size f cT)):=hr.mono (by decide);refine'⟨_,ah (b8 (hU (dQ (pv 1))) (ao (aV (aA NT hr aL (aa (pv 0) af)))) a9)
   (ah (d9 (aA BX pf aL (aa (aA SD NC aL (aa (pv 0) af)) af)) (eN (n:=2) rfl (aY (au (i:=2) oW.nd rfl (Or.inl rfl)) (aY (au (i:=3) oW.nd rfl (Or.inl rfl)) de))))
   (ao (aV (cp (aa (pv 2) (aa (az ie (by rfl) B.sorted nk (aa (aK gy (pv 3) ?c3) af)) af)))))),?_⟩
  case c3=>
   refine' bt (g:=rR K 2 (eZ (bb 0) (eZ (bb 1) rQ))) (te:=pA (bq (aT 1) (bq (aT 0) eO))) (NB:=["_law_one","_law_other"]) (src:=[none,none]) (br (by kernel_rfl)) rfl (bH (pv 3)) ?g ?t ?e;case g=>exact fun cl C s₃ H₃ fp=>eN (n:=2) rfl (aY (au (i:=0) Dg rfl (Or.inl rfl) (Or.inr rfl)) (aY (au (i:=1) Dg rfl (Or.inl rfl) (Or.inr rfl)) de))
   case t=>exact fun cl C s₃ H₃ fp=>bX
   case e=>exact fun cl C s₃ H₃ fp=>cp (aa (pv 1) (aa (pv 0) af))
  refine iu (fun σ Hc=>σ=[some (.ref p),some (.bl wt),none,none]/\H=Hc) ?_ ?_
  rotate_left
  .intro N nN;refine oM (fun Hk=>H=Hk) (fun Hk=>H=Hk) ?_ ?_ ?_
   .rintro _ rfl;exact⟨_,rfl,p,rfl,hp,fun r L n zs H' h1 h2 h3 h4 h5 h6 h7 h8=>q r L n zs H' h1 h2 h3 h4 h5 h6 h7 h8⟩
   .rintro _ rfl;exact nN _ _ ⟨rfl,rfl⟩
   .intro Y N' yy nn;exact⟨_,rfl,_,rfl,cW (fun e=>yy _ rfl) (fun e=>nn _ rfl)⟩
  rintro σ _ ⟨rfl,rfl⟩;refine⟨_,rfl,p,rfl,hp,fun rs ss H4 ve D7 Zf JG sd Hl=>?_⟩;refine⟨rs,ss,rfl,JG,sd,Hl,fun r0 L n zs Hc gO Jj Hq JI xD NF zl Zg S7 S8=>?_⟩;obtain⟨n,rfl⟩:∃k:Nat,n=(k:Int):=⟨n.toNat,by lia⟩
  refine⟨_,_,rfl,bZ.of Jj,rfl,_,_,rfl,_,_,rfl,rfl,?_⟩;have g:vj p H L n zs Hc:=⟨ve.trans (av.of gO),D7.same gO,ve.free D7.full JI,Hq,xD,S8,zl⟩
  refine⟨_,rfl,_,rfl,_,rfl,L,rfl,⟨_,aQ.of g.at_⟩,fun D hD=>?_⟩;refine lS (K:=K) (zs0:=zs) sw (fun σ=>∃u v,σ=[u,v]) g.at_ g.po hD (by lia) ⟨_,_,rfl⟩ ?_ ?_
  .rintro z σ H4 R Kf hz ⟨u,v,rfl⟩ FE kt;refine⟨_,_,rfl,bZ.of FE,rfl,_,_,rfl,_,_,rfl,rfl,?_⟩;exact⟨_,rfl,_,rfl,by show 2<=sizeLine;decide,fun t ht=>kt _ t ⟨_,_,rfl⟩ ht⟩
  .rintro mI H4 bW gq ph ez;have AM:mI.length=zs.length:=by rw[<-bj,ez,aB,bj]
   refine⟨L,D,_,_,rfl,rfl,bW _ _ g.at_,gq,by rw[bP,bP];exact a7 (show _<=1000 by lia) (by decide),fun r dh=>?_⟩;dsimp only[eO];refine oR (zs:=zs++mI) (by rw[ab,cj]) (((g.po.same bW).append ph).putN dh) (by rw[bY];lia) ?_;intro D3 AS fX pm;refine⟨by show 2<=sizeLine;decide,fun u o_=>?_⟩;have gO:aG Hc (upd (upd (upd H4 r (.lst (zr zs++zr mI))) D3 (.lst (zr AS))) u (.tup [.int n,.ref D3])):=((bW.trans (ag dh)).trans (ag fX)).trans (ag o_);refine q u D3 n AS _ (g.se.trans (av.of gO)) (g.pt.same gO) ab (g.se.free g.pt.full ((bW.trans (ag dh)).free fX)) (ag o_ _ _ ab) ?_ ?_ (by rw[pm.length_eq,bY];lia)
   .intro z hz;exact ag o_ _ _ (ag fX _ _ ((((g.po.same bW).append ph).putN dh) z (pm.mem_iff.mp hz)))
   .refine g.fi.perm ((tE pm).trans ?_);rw[bC,ez];exact dJ.symm
theorem m8:aH ["_law_many","_law_ties","_law_found","_law_house","_law_some"] ["_law_many","_law_ties"] (aq xH):=⟨rfl,rfl,rfl,by decide +kernel,rfl,by decide +kernel,by decide +kernel⟩
def tK:Sp:=fun vs H Q _=>∃ (l:Addr) (n:Nat) (zs:Zs),vs=[.int n,.ref l]/\H l=some (.lst (zr zs))/\PO H zs/\mJ n (zp zs)/\zs.length<=400/\1<=n/\n<=32/\∀ (O:Addr) (as:List Addr) (H':Hp),aG H H'->H O=none->(∀h,h<n->H (as.getD h 0)=none)->H' O=some (.lst (as.map V.ref))->as.length=n->(∀h,h<n->∃js,H' (as.getD h 0)=some (.lst (IV js))/\js.Perm (cL (zp zs) h))->Q (.ref O) H'
theorem Dk{f:Addr}{fd:FuncData}(F:fH K "_law_outs" "_law_outs" xH f fd)(B:Bl mg):bv P w K mg base bf 1 f fd ["_law_many","_law_ties"] tK:=by
 refine F.ok m8 (fun vs H Q E h=>?_) (fun cT A outer s H vs Q E hr h=>?_)
 .obtain⟨l,n,zs,rfl,_⟩:=h;rfl
 .obtain⟨l,n,zs,rfl,hl,po,ti,zl,n1,xF,q⟩:=h;refine'⟨_,ah (aw (i:=2) m8.nd rfl (Or.inl rfl) (bJ af))
   (ah (cA dq rfl (aU rfl B.range (aa (pv 0) af)) (au (i:=3) m8.nd rfl (Or.inr rfl))
    (ah (aw (i:=4) m8.nd rfl (Or.inl rfl) (az oH (by rfl) B.sorted nk (aa ?c1 af)))
    (ao (bK (dz di fm fk bB (pv 2) (aa ?c2 af))))))
   (ao (aV (pv 2)))),?_⟩
  case c1=>
   refine' bt (g:=rR K 2 (eZ (bb 0) (eZ (bb 1) rQ))) (tt:=ku (gW Q5 (aT 0) (aT 2))) (te:=gW (rI (fun _ j=>0<j) fun i j=>.int (i % j)) (gW (t6 fun i j=>.int (i-j)) (aT 1) (aT 2)) (aT 3)) (NB:=["_law_one","_law_other","_law_house","_law_many"]) (src:=[none,none,some 3,some 0]) (br (by kernel_rfl)) rfl (bH (pv 1)) ?g ?t ?e;case g=>exact fun cl C s₃ H₃ fp=>eN (n:=2) rfl (aY (au (i:=0) Di rfl (Or.inl rfl) (Or.inr rfl)) (aY (au (i:=1) Di rfl (Or.inl rfl) (Or.inr rfl)) de))
   case t=>exact fun cl C s₃ H₃ fp=>dO (aD d_ (pv 0) (pv 2) (aP _))
   case e=>exact fun cl C s₃ H₃ fp=>aK fS (aK fR (pv 1) (pv 2)) (pv 3)
  case c2=>
   refine' bt (g:=bb 0) (te:=gW (rI (fun _ j=>0<j) fun i j=>.int (i % j)) (gW (t6 fun i j=>.int (i+j)) (aT 1) (aT 0)) (aT 2)) (NB:=["_law_step","_law_house","_law_many"]) (src:=[none,some 3,some 0]) (br (by kernel_rfl)) rfl (bH (pv 4)) ?g ?t ?e;case g=>exact fun cl C s₃ H₃ fp=>au (i:=0) NG rfl (Or.inl rfl) (Or.inr rfl)
   case t=>exact fun cl C s₃ H₃ fp=>bX
   case e=>exact fun cl C s₃ H₃ fp=>aK fS (aK b_ (pv 1) (pv 0)) (pv 2)
  refine⟨by show 0<=sizeLine;decide,fun O hO=>?_⟩;have nlO:l≠O:=ai hl hO;refine⟨_,rfl,_,rfl,by lia,by lia,cf (lo:=0) (n:=n) (fun i σ H2=>(∃v3 v4,σ=[some (.int n),some (.ref l),some (.ref O),v3,v4])/\aG H H2/\∃as:List Addr,H2 O=some (.lst (as.map V.ref))/\as.length=i/\∀h,h<i->H (as.getD h 0)=none/\as.getD h 0≠O/\∃js,H2 (as.getD h 0)=some (.lst (IV js))/\js.Perm (cL (zp zs) h)) ?_ ?_ ?_⟩
  .exact⟨⟨_,_,rfl⟩,ag hO,[],ab,rfl,fun h hh=>absurd hh (by lia)⟩
  .rintro i σ H2 hi ⟨⟨v3,v4,rfl⟩,AR,as,NI,al,rows⟩;rw[dH];have AM:=AR _ _ hl;refine⟨_,rfl,l,rfl,⟨_,aQ.of AM⟩,fun D hD=>?_⟩;refine cu (K:=K) (a:=l) (xs:=zr zs) (fun c ys σ H3=>(∃u v,σ=[u,v,some (.int i),some (.int n)])/\aG H2 H3/\H3 D=some (.lst ys)/\ys=IV ((cL ((zp zs).take c) i).map fun o=>(o-i) % n)) ⟨⟨_,_,rfl⟩,ag hD,ab,rfl⟩ (fun c ys σ H3 _ z=>aQ.of (z.2.1 _ _ AM)) ?_ ?_
   .rintro c x ys σ H3 Kt Kf hx ⟨⟨u,v,rfl⟩,i4,fX,rfl⟩ kt kf;obtain⟨z,hz,rfl⟩:=iZ hx;have hc:c<zs.length:=(cD.mp hz).1;have pe:z∈zs:=cE hz;have e2:(zp zs)[c]?=some z.2:=by unfold zp;rw[bO,hz];rfl
    refine⟨_,_,rfl,bZ.of (i4 _ _ (AR _ _ (po z pe))),rfl,_,_,rfl,_,_,rfl,rfl,?_⟩;refine⟨_,rfl,_,rfl,rfl,_,rfl,?_⟩;have et:(zp zs).take (c+1)=(zp zs).take c++[z.2]:=by rw[eI,e2,iA]
    refine cW (fun e=>?_) (fun e=>?_)
    .have e':z.2.1=(i:Int):=V.int.inj (eG e);refine⟨_,rfl,_,rfl,_,_,rfl,rfl,_,rfl,_,_,rfl,rfl,by show (0:Int)<(n:Int);lia,kt _ _ _ fX ?_ ⟨⟨_,_,rfl⟩,a_ i4 hD,ab,?_⟩⟩
     .have h1:(cL ((zp zs).take c) i).length<=c:=by
       unfold cL;rw[aB];exact a7 (io _ _) (by rw[jH];lia)
      rw[aB,aB];exact bN (show _<1000 by lia) (by decide)
     .rw[et,fK];unfold cL;rw[ge,List.filter_cons_of_pos (p:=fun p:Int×Int=>p.1==(i:Int)) (by simpa using e'),bT,bT];rfl
    .have e':¬ z.2.1=(i:Int):=fun y=>e (dZ (by rw[y]));refine kf _ _ ⟨⟨_,_,rfl⟩,i4,fX,?_⟩;rw[et];unfold cL;rw[ge,List.filter_cons_of_neg (p:=fun p:Int×Int=>p.1==(i:Int)) (by simpa using e'),List.filter_nil,ju]
   .rintro ys σ H3 ⟨_,i4,fX,rfl⟩;rw[bP,<-bj,gf] at fX;have ol:=vp (h:=(i:Int)) ti (by lia);refine⟨D,_,rfl,aQ.of fX,by rw[aB];lia,fun S Al hS pm=>?_⟩;have bW:aG H2 (upd H3 S (.lst (IV Al))):=i4.trans (ag hS);have Dl:(upd H3 S (.lst (IV Al))) S=some (.lst (IV Al)):=ab;dsimp only[bb];revert bW Dl;generalize upd H3 S (.lst (IV Al))=H4;intro bW Dl;have nl:Al.length<=32:=by rw[pm.length_eq,aB];exact ol
    refine⟨_,rfl,.inl ⟨rfl,_,aQ.of (bW _ _ NI)⟩,_,rfl,S,rfl,⟨_,aQ.of Dl⟩,fun C hC=>?_⟩;refine Ay (K:=K) (ns:=Al) (fun st=>((i:Int)+st) % n) (fun σ=>∃u,σ=[u,some (.int i),some (.int n)]) Dl hC (by lia) ⟨_,rfl⟩ ?_ ?_
    .rintro z σ H5 R Kf hz ⟨u,rfl⟩ kt;exact⟨_,rfl,_,rfl,_,_,rfl,rfl,_,rfl,_,_,rfl,rfl,by show (0:Int)<(n:Int);lia,kt _ ⟨_,rfl⟩⟩
    .intro H5 gO Zh;have Zi:=gO _ _ (bW _ _ NI);have Wf:C≠O:=(ai (bW _ _ NI) hC).symm;refine⟨O,_,_,rfl,rfl,Zi,by rw[aB,al];exact bN (show i<33 by lia) (by decide),?_⟩;refine⟨⟨_,_,rfl⟩,a_ ((AR.trans bW).trans gO) hO,as++[C],by rw[ab,bT];rfl,by rw[bY,al];rfl,fun h hh=>?_⟩;rw[qq al];by_cases eh:h=i
     .subst eh;rw[ap rfl];refine⟨(AR.trans bW).free hC,Wf,_,by rw[am Wf];exact Zh,?_⟩;have p1:=pm.map (fun st=>((h:Int)+st) % n);rw[du] at p1;refine p1.trans (.of_eq ?_);conv=>rhs;rw[<-iK (cL (zp zs) h)]
      refine fL fun o ho=>?_;have:=(ti.rg _ (ji.mp ho)).2;exact Dj this.1 this.2
     .rw[ak eh];obtain⟨a1,a2,js,a3,a4⟩:=rows h (by lia);exact⟨a1,a2,js,by rw[am a2];exact gO _ _ (bW _ _ a3),a4⟩
  .rintro σ H2 ⟨⟨v3,v4,rfl⟩,AR,as,NI,al,rows⟩;exact⟨_,rfl,q O as H2 AR hO (fun h hh=>(rows h hh).1) NI al (fun h hh=>(rows h hh).2.2)⟩
theorem y8:aH ["_law_pot_here","_law_many","_law_letters","_law_span"] ["_law_pot_here","_law_many","_law_letters"] (aq xI):=⟨rfl,rfl,rfl,by decide +kernel,rfl,by decide +kernel,by decide +kernel⟩
def tL:Sp:=fun vs H Q _=>∃ (p:Addr) (n m:Int),vs=[.ref p,.int n,.int m]/\aR H p/\1<=n/\n<=32/\0<=m/\m<=16/\∀ (r:Addr) (hs:List Int) (H':Hp),av p H H'->aR H' p->H r=none->H' r=some (.tup (IV hs))->hs.length<=16->(hs.length:Int)=m->(∀x∈hs,0<=x/\x<n)->Q (.ref r) H'
theorem Dm{f:Addr}{fd:FuncData}(F:fH K "_law_homes" "_law_homes" xI f fd)(B:Bl mg)(T:ce P w K mg base bf 1 "_law_take" ["_law_pot_here","_law_many"] eU):bv P w K mg base bf 2 f fd ["_law_pot_here","_law_many","_law_letters"] tL:=by
 refine F.ok y8 (fun vs H Q E h=>?_) (fun cT A outer s H vs Q E hr h=>?_)
 .obtain⟨p,n,m,rfl,_⟩:=h;rfl
 .obtain⟨p,n,m,rfl,hp,n1,xF,m0,Lb,q⟩:=h;refine'⟨_,ah (aw (i:=3) y8.nd rfl (Or.inr rfl) (az (ja rfl) (by rfl) B.min qW (aa (pv 1) (aa (aN aF (bJ (aa aj (aa aj af))) (aA T hr aL (aa (pv 0) (aa aj af))) (fun _ _=>rfl)) af))))
   (ao (aV (bA cU (by rfl) B.tup nu (aa ?c1 af)))),?_⟩
  case c1=>
   refine' bt (g:=bb 0) (te:=jy eU [] (fun _ _ _=>False) (bq (aT 1) (bq (aT 2) eO))) (NB:=["_law_k","_law_pot_here","_law_span"]) (src:=[none,some 0,some 3]) (br (by kernel_rfl)) rfl (aU rfl B.range (aa (pv 2) af)) ?g ?t ?e;case g=>exact fun cl C s₃ H₃ fp=>au (i:=0) NH rfl (Or.inl rfl) (Or.inr rfl)
   case t=>exact fun cl C s₃ H₃ fp=>bX
   case e=>exact fun cl C s₃ H₃ fp=>aA T hr aL (aa (pv 1) (aa (pv 2) af))
  refine⟨_,rfl,by show 2<=sizeLine;decide,fun L0 j3=>⟨_,rfl,p,_,rfl,by decide,by decide,hp.same (ag j3),fun d H2 d0 d2 lY o9=>?_⟩⟩;have ua:L0≠p:=hp.ne j3;obtain⟨dv,Zj,Zk,S9⟩:∃dv:Int,1<=dv/\dv<=32/\oj [V.int 32,V.int 3] d=some (.int dv):=by
   by_cases e:d=0
   .subst e;exact⟨32,by decide,by decide,aE (j:=0) rfl⟩
   .have:d=1:=by lia
    subst this;exact⟨3,by decide,by decide,aE (j:=1) rfl⟩
  refine⟨L0,_,_,_,rfl,rfl,aQ.of (lY _ _ ab ua),S9,_,_,rfl,?_⟩;have s1:1<=(if dv<n then dv else n):=by split <;> lia
  have s2:(if dv<n then dv else n)<=32:=by split <;> lia
  have s3:(if dv<n then dv else n)<=n:=by split <;> lia
  dsimp only[bb];revert s1 s2 s3;generalize (if dv<n then dv else n)=sp;intro s1 s2 s3;have vk:av p H H2:=(av.of (ag j3)).trans lY;refine⟨_,rfl,m,rfl,by lia,by lia,fun D hD=>?_⟩;have vI:H D=none:=vk.free o9.full hD;have pJ:D≠p:=hp.ne vI;refine cQ (lo:=0) (n:=m.toNat) (fun i ys σ Hc=>(∃u,σ=[u,some (.ref p),some (.int sp)])/\av p H Hc/\aR Hc p/\Hc D=some (.lst ys)/\∃js,ys=IV js/\js.length=i/\∀x∈js,0<=x/\x<n)
   ⟨⟨_,rfl⟩,cg vk vI,o9.put pJ.symm,ab,[],rfl,rfl,fun x hx=>(nomatch hx)⟩ ?_ ?_
  .rintro i ys σ Hc Kt Kf hi ⟨⟨u,rfl⟩,se,pt,vJ,js,rfl,jl,jr⟩ kt kf;refine⟨_,rfl,_,rfl,p,_,rfl,by lia,by lia,pt,fun e He e0 e1 Wg Zl=>?_⟩;exact kt _ _ _ (Wg _ _ vJ pJ) (by rw[aB,jl];exact bN (show i<33 by lia) (by decide)) ⟨⟨_,rfl⟩,cg (se.trans Wg) vI,Zl.put pJ.symm,ab,js++[e],fK,by rw[bY,jl];rfl,fun x hx=>(bg.mp hx).elim (jr x) fun z=>by rw[bR.mp z];lia⟩
  .rintro ys σ Hc ⟨_,se,pt,vJ,js,rfl,jl,jr⟩;refine⟨D,_,rfl,.inl ⟨aQ.of vJ,fun r dh=>?_⟩⟩;exact q r js _ (se.trans (av.of (ag dh))) (pt.same (ag dh)) (se.free pt.full dh) ab (by lia) (by lia) jr
end
abbrev xJ:Stmt:=gG 44
theorem NJ:(["_law_k","_law_house","_law_outs_here"]:List Str).Nodup:=by decide +kernel
theorem FK:(["_law_other","_law_home","_law_waits","_law_stand","_law_outs_here"]:List Str).Nodup:=by decide +kernel
def pi:Option Int->V
 |none=>.bw
 |some h=>.int h
abbrev SV(s:List (Option Int)):List V:=s.map pi
theorem y9{s:List (Option Int)}:(SV s).all dX=true:=by
 rw[iD];intro v hv;obtain⟨j,_,rfl⟩:=aW.mp hv;cases j <;> rfl
theorem FL{a b:Option Int}(h:pi a=pi b):a=b:=by
 cases a <;> cases b
 .rfl
 .cases h
 .cases h
 .exact congrArg some (V.int.inj h)
theorem oY{h:Int}:∀ {s:List (Option Int)},(SV s).countP (fun z=>j_ z (.int h))=s.count (some h)
 |[]=>rfl
 |x::s=>by
  have ih:=oY (h:=h) (s:=s);unfold SV at ih |-;rw[cS,k8,ih,jI];have e:j_ (pi x) (.int h)=(x==some h):=by
   cases x with
   |none=>rfl
   |some y=>
    show (y==h)=(some y==some h);rw[gZ];simp
  rw[e]
theorem JJ{s:List (Option Int)}{i:Nat}{x:V}(h:(SV s)[i]?=some x):i<s.length/\x=pi (s.getD i none):=by
 rw[bO] at h;cases e:s[i]? with
 |none=>rw[e] at h;cases h
 |some a=>
  rw[e] at h;refine⟨(cD.mp e).1,?_⟩;rw[bh,e];exact(bE h).symm
theorem y_{s:List (Option Int)}{i:Nat}(h:i<s.length):oj (SV s) (i:Int)=some (pi (s.getD i none)):=by
 refine aE ?_;rw[bO,bD h,bh,bD h];rfl
theorem tO{s:List (Option Int)}{o:Option Int}:SV (s++[o])=SV s++[pi o]:=by unfold SV;rw[bT];rfl
theorem FM{o:Option Int}{h:Int}:Bq (pi o) (.int h)=true:=by cases o <;> rfl
theorem tP{ns:List Int}{i:Nat}{x:V}(h:(IV ns)[i]?=some x):i<ns.length/\x=.int (ns.getD i 0):=by
 rw[bO] at h;cases e:ns[i]? with
 |none=>rw[e] at h;cases h
 |some a=>
  rw[e] at h;refine⟨(cD.mp e).1,?_⟩;rw[bh,e];exact(bE h).symm
theorem tQ{as:List Addr}{i:Nat}(h:i<as.length):oj (as.map V.ref) (i:Int)=some (.ref (as.getD i 0)):=by
 refine aE ?_;rw[bO,bD h,bh,bD h];rfl
structure ij(n:Nat)(T:List (Int×Int))(wt:Bool)(st:List (Option Int)):Prop where
 rg:∀h,some h∈st->0<=h/\h<n
 P7:wt=false->∀h,st.count (some h)<=(cL T h).length
theorem ij.nil{n:Nat}{T:List (Int×Int)}{wt:Bool}:ij n T wt []:=⟨fun h hh=>(nomatch hh),fun _ h=>c_ _⟩
theorem ij.push{n:Nat}{T:List (Int×Int)}{wt:Bool}{st:List (Option Int)}{x:Option Int}(h:ij n T wt st)(hx:∀y,x=some y->(0<=y/\y<n)/\(wt=false->st.count (some y)<(cL T y).length)):ij n T wt (st++[x]):=by
 refine⟨fun y hy=>?_,fun hw y=>?_⟩
 .rcases bg.mp hy with z|z
  .exact h.rg y z
  .exact(hx y (bR.mp z).symm).1
 .rw[we,List.count_singleton];by_cases e:x=some y
  .have:=(hx y e).2 hw;rw[ap (by rw[e];simp)];lia
  .rw[ak (by simpa using e)];exact h.P7 hw y
abbrev NK(K:PySem.W.Frag):List V->Hp->VK->Prop:=fun xs H Q=>∃p ys,xs=[V.ref p]/\(aQ K H p ys\/bZ K H p ys)/\Q (.int ys.length) H
section
variable {P:Program} {w:World} {K:PySem.W.Frag} {mg:Str->Option Value} {base:Heap}
theorem ik:aH ["_law_pot_here","_law_outs_here","_law_homes_here","_law_waits","_law_span","_law_stand","_law_home","_law_house","_law_some"] ["_law_pot_here","_law_outs_here","_law_homes_here","_law_waits"] (aq xJ):=⟨rfl,rfl,rfl,by decide +kernel,rfl,by decide +kernel,by decide +kernel⟩
def tR:Sp:=fun vs H Q _=>∃ (p O a:Addr) (wt:Bool) (as:List Addr) (n:Nat) (T:List (Int×Int)) (hs:List Int),vs=[.ref p,.ref O,.ref a,.bl wt]/\aR H p/\df p H O as n T/\1<=n/\n<=32/\H a=some (.tup (IV hs))/\hs.length<=16/\
 ∀ (r:Addr) (st:List (Option Int)) (H':Hp),av p H H'->aR H' p->H r=none->H' r=some (.tup (SV st))->st.length=hs.length->ij n T wt st->Q (.ref r) H'
theorem Dn{f:Addr}{fd:FuncData}(F:fH K "_law_begun" "_law_begun" xJ f fd)(B:Bl mg)(T0:ce P w K mg base bf 1 "_law_take" ["_law_pot_here","_law_many"] eU):bv P w K mg base bf 2 f fd ["_law_pot_here","_law_outs_here","_law_homes_here","_law_waits"] tR:=by
 refine F.ok ik (fun vs H Q E h=>?_) (fun cT A outer s H vs Q E hr h=>?_)
 .obtain⟨p,O,a,wt,as,n,T,hs,rfl,_⟩:=h;rfl
 .obtain⟨p,O,a,wt,as,n,T,hs,rfl,hp,ou,n1,xF,ha,hl,q⟩:=h;refine'⟨_,ah (aw (i:=4) ik.nd rfl (Or.inl rfl) (az (ja rfl) (by rfl) B.min qW (aa (az aJ (by rfl) B.len dt (aa (pv 1) af)) (aa (aN aF (bJ (aa aj (aa aj af))) (aA T0 hr aL (aa (pv 0) (aa aj af))) (fun _ _=>rfl)) af))))
   (ah (aw (i:=5) ik.nd rfl (Or.inr rfl) (bJ af))
   (ah (cA dq rfl (wB (pv 2)) (au (i:=6) ik.nd rfl (Or.inr rfl))
    (ah (aw (i:=7) ik.nd rfl (Or.inr rfl) (aA T0 hr aL (aa (pv 0) (aa (aK b_ (pv 4) aj) af))))
    (ah (eQ (i:=8) (g:=bb 0) (te:=gW (rI (fun _ j=>0<j) fun i j=>.int (i % j)) (gW (t6 fun i j=>.int (i+j)) (aT 1) (aT 0)) (L_ (NK K) (bq (aT 2) eO))) (NB:=["_law_k","_law_house","_law_outs_here"]) (src:=[none,some 7,some 1]) (br (by kernel_rfl)) rfl
     (aU rfl B.range (aa (aK ff (az aJ (by rfl) B.len dt (aa (pv 1) af)) (bA pW (by rfl) B.int vR (aa (fG mf (pv 7) (pv 4) (aP _)) af))) af)) ?g ?t ?e ik.nd rfl rfl rfl)
    (ah (eQ (i:=8) (g:=bb 0) (tt:=Lz (ku (gW U9 (aT 0) (aT 1))) (U6 (tB (aT 2)) (ku (gW (t6 fun i j=>.bl (decide (i<j))) (Rb K "list" Cg (aT 3) (bq (aT 0) eO)) (L_ (NK K) (bq (gW (pC K) (aT 4) (aT 0)) eO)))))) (te:=aT 0) (NB:=["_law_other","_law_home","_law_waits","_law_stand","_law_outs_here"]) (src:=[none,some 6,some 3,some 5,some 1]) (br (by kernel_rfl)) rfl
     (bH (pv 8)) ?g2 ?t2 ?e2 ik.nd rfl rfl rfl)
    (ao (bK (dz di fm fk bB (pv 5) (aa (aN aF (aK gy (pv 8) (bJ (aa d8 af))) aj (fun _ _=>rfl)) af))))))))
   (ao (aV (bA cU (by rfl) B.tup nu (aa (pv 5) af)))))),?_⟩
  case g=>exact fun cl C s₃ H₃ fp=>au (i:=0) NJ rfl (Or.inl rfl) (Or.inr rfl)
  case t=>exact fun cl C s₃ H₃ fp=>bX
  case e=>exact fun cl C s₃ H₃ fp=>aK fS (aK b_ (pv 1) (pv 0)) (az aJ (by rfl) B.len dt (aa (pv 2) af))
  case g2=>exact fun cl C s₃ H₃ fp=>au (i:=0) FK rfl (Or.inl rfl) (Or.inr rfl)
  case t2=>exact fun cl C s₃ H₃ fp=>dO (PW.pt (gw (aD pU (pv 0) (pv 1) (aP _)) (gj (PW.pt (og (dQ (pv 2)) (oe (aD mf (dz di qS qR kI (pv 3) (aa (pv 0) af)) (az aJ (by rfl) B.len dt (aa (aN aF (pv 4) (pv 0) (fun _ _=>rfl)) af)) (aP _))))))))
  case e2=>exact fun cl C s₃ H₃ fp=>pv 0
  refine⟨_,rfl,O,_,rfl,.inl (aQ.of ou.at_),by show 2<=sizeLine;decide,fun L0 j3=>⟨_,rfl,p,_,rfl,by decide,by decide,hp.same (ag j3),fun d H2 d0 d2 lY o9=>?_⟩⟩;have ua:L0≠p:=hp.ne j3;obtain⟨dv,Zj,Zk,S9⟩:∃dv:Int,1<=dv/\dv<=32/\oj [V.int 32,V.int 4] d=some (.int dv):=by
   by_cases e:d=0
   .subst e;exact⟨32,by decide,by decide,aE (j:=0) rfl⟩
   .have:d=1:=by lia
    subst this;exact⟨4,by decide,by decide,aE (j:=1) rfl⟩
  refine⟨L0,_,_,_,rfl,rfl,aQ.of (lY _ _ ab ua),S9,_,_,rfl,?_⟩;have JK:(((as.map V.ref).length:Nat):Int)=n:=by rw[aB,ou.len]
  have s1:1<=(if dv<(((as.map V.ref).length:Nat):Int) then dv else (((as.map V.ref).length:Nat):Int)):=by rw[JK];split <;> lia
  have s2:(if dv<(((as.map V.ref).length:Nat):Int) then dv else (((as.map V.ref).length:Nat):Int))<=32:=by rw[JK];split <;> lia
  dsimp only[bb];revert s1 s2;generalize (if dv<(((as.map V.ref).length:Nat):Int) then dv else (((as.map V.ref).length:Nat):Int))=sp;intro s1 s2;have vk:av p H H2:=(av.of (ag j3)).trans lY;refine⟨by show 0<=sizeLine;decide,fun D hD=>?_⟩;have vI:H D=none:=vk.free o9.full hD;have pJ:D≠p:=hp.ne vI;have Do:a≠p:=hp.neT ha;refine⟨_,rfl,a,rfl,⟨_,bZ.of (ag hD _ _ (vk _ _ ha Do))⟩,rT (K:=K) (a:=a) (xs:=IV hs) (fun i σ Hc=>(∃v6 v7 v8,σ=[some (.ref p),some (.ref O),some (.ref a),some (.bl wt),some (.int sp),some (.ref D),v6,v7,v8])/\av p H Hc/\aR Hc p/\∃st,Hc D=some (.lst (SV st))/\st.length=i/\ij n T wt st)
   ⟨⟨_,_,_,rfl⟩,cg vk vI,o9.put pJ.symm,[],ab,rfl,ij.nil⟩ (fun i σ Hc _ z=>bZ.of (z.2.1 _ _ ha Do)) ?_ ?_⟩
  .rintro i x σ Hc hx ⟨⟨v6,v7,v8,rfl⟩,se,pt,st,jT,sl,so⟩;obtain⟨hi,rfl⟩:=tP hx;generalize hs.getD i 0=cq;refine⟨_,rfl,_,rfl,_,_,rfl,rfl,p,_,rfl,by lia,by lia,pt,fun house H3 h0 h1 i6 pL=>?_⟩;have Wi:=se.trans i6;have NL:=i6 _ _ jT pJ;have NM:=ou.fc Wi;refine⟨_,rfl,O,_,rfl,.inl (aQ.of NM.at_),_,rfl,_,rfl,_,_,rfl,rfl,.inr ⟨_,rfl,_,_,rfl,rfl,.inl ⟨by rw[JK];lia,by rw[JK];lia⟩,?_⟩⟩;rw[JK];have m0:0<=(n:Int)*(if decide (house<sp)=true then 1 else 0):=by split <;> lia
   have m1:(n:Int)*(if decide (house<sp)=true then 1 else 0)<=n:=by split <;> lia
   refine⟨(n:Int)*(if decide (house<sp)=true then 1 else 0),rfl,by lia,by lia,fun C hC=>?_⟩;revert m0 m1;generalize (n:Int)*(if decide (house<sp)=true then 1 else 0)=m;intro m0 m1;refine cQ (lo:=0) (n:=m.toNat) (fun i ys σ H4=>(∃u,σ=[u,some (.int house),some (.ref O)])/\aG H3 H4/\H4 C=some (.lst ys)/\∃js,ys=IV js/\js.length=i/\∀x∈js,0<=x/\x<n) ⟨⟨_,rfl⟩,ag hC,ab,[],rfl,rfl,fun x hx=>(nomatch hx)⟩ ?_ ?_
   .rintro j ys σ H4 Kt Kf hj ⟨⟨u,rfl⟩,bW,P8,js,rfl,jl,jr⟩ kt kf;refine⟨_,rfl,_,rfl,_,_,rfl,rfl,_,rfl,O,_,rfl,.inl (aQ.of (bW _ _ NM.at_)),_,_,rfl,rfl,by rw[JK];lia,?_⟩;refine kt _ _ _ P8 (by rw[aB,jl];exact bN (show j<33 by lia) (by decide)) ⟨⟨_,rfl⟩,a_ bW hC,ab,js++[_],fK,by rw[bY,jl];rfl,fun x hx=>?_⟩;rcases bg.mp hx with z|z
    .exact jr x z
    .rw[bR.mp z,JK];exact⟨gY _ (by lia),kh _ (by lia)⟩
   .rintro ys σ H4 ⟨_,bW,P8,js,rfl,jl,jr⟩;have JM:=bW _ _ NL;have P9:=NM.same bW;refine⟨_,rfl,C,rfl,⟨_,aQ.of P8⟩,fun G hG=>?_⟩;refine cu (K:=K) (a:=C) (xs:=IV js) (fun i ys σ H5=>(∃u,σ=[u,some (.int cq),some (.bl wt),some (.ref D),some (.ref O)])/\aG H4 H5/\H5 G=some (.lst ys)/\∃ks,ys=IV ks/\ks.length<=i/\∀x∈ks,(0<=x/\x<n)/\(wt=false->st.count (some x)<(cL T x).length)) ⟨⟨_,rfl⟩,ag hG,ab,[],rfl,a8 _,fun x hx=>(nomatch hx)⟩ (fun i ys σ H5 _ z=>aQ.of (z.2.1 _ _ P8)) ?_ ?_
    .rintro j x ys σ H5 Kt Kf hx ⟨⟨u,rfl⟩,gO,P_,ks,rfl,kl,kr⟩ kt kf;obtain⟨hj,rfl⟩:=tP hx;have hr:=jr _ (dL (d:=0) hj);revert hr;generalize js.getD j 0=y;intro hr;have no:Kf [some (.int y),some (.int cq),some (.bl wt),some (.ref D),some (.ref O)] H5:=kf _ _ ⟨⟨_,rfl⟩,gO,P_,ks,rfl,by lia,kr⟩;have Wj:(wt=false->st.count (some y)<(cL T y).length)->Kt (.int y) [some (.int y),some (.int cq),some (.bl wt),some (.ref D),some (.ref O)] H5:=fun hy=>kt _ _ _ P_ (by rw[aB];exact bN (show _<100 by lia) (by decide)) ⟨⟨_,rfl⟩,a_ gO hG,ab,ks++[y],fK,by rw[bY];simp;lia,fun x hx=>by
      rcases bg.mp hx with z|z
      .exact kr x z
      .rw[bR.mp z];exact⟨hr,hy⟩⟩
     refine⟨_,rfl,_,rfl,rfl,_,rfl,?_⟩;refine cW (fun e=>?_) (fun e=>oN no);refine⟨_,rfl,wt,rfl,?_⟩;refine cW (fun e2=>qB ⟨_,rfl,Wj fun z=>absurd (e2.symm.trans z) (by decide)⟩) (fun e2=>?_);obtain⟨yn,rfl⟩:∃yn:Nat,(yn:Int)=y:=⟨y.toNat,by lia⟩
     have Wl:=P9.same gO;obtain⟨row,FN,Dp⟩:=Wl.rows yn (by lia);refine⟨_,rfl,.inl ⟨rfl,_,aQ.of (gO _ _ JM)⟩,_,rfl,D,_,_,rfl,rfl,gO _ _ JM,rfl,y9,?_⟩;refine⟨_,rfl,_,rfl,O,_,_,_,rfl,rfl,aQ.of Wl.at_,tQ (by rw[ou.len];lia),_,_,rfl,.inl (aQ.of FN),_,_,rfl,rfl,_,rfl,?_⟩;refine cW (fun e3=>⟨_,rfl,Wj fun _=>?_⟩) (fun e3=>no);have e4:=eG e3;rw[oY,aB,Dp.length_eq] at e4;lia
    .rintro ys σ H5 ⟨_,gO,P_,ks,rfl,kl,kr⟩;have S_:=gO _ _ JM;rw[aB] at kl;refine⟨_,rfl,.inl ⟨rfl,_,aQ.of S_⟩,_,rfl,by show 1<=sizeLine;decide,fun N hN=>?_⟩;refine⟨G,N,_,_,rfl,rfl,ag hN _ _ P_,ab,by rw[aB];exact a7 (show _<=100 by simp;lia) (by decide),fun M hM=>?_⟩;have qF:aG H3 (upd (upd H5 N (.lst [.bw])) M (.lst (IV ks++[.bw]))):=((bW.trans gO).trans (ag hN)).trans (ag hM);have Nu:(upd (upd H5 N (.lst [.bw])) M (.lst (IV ks++[.bw]))) M=some (.lst (IV ks++[.bw])):=ab;obtain⟨o,ho,ck⟩:∃o:Option Int,oj (IV ks++[.bw]) 0=some (pi o)/\∀y,o=some y->(0<=y/\y<n)/\(wt=false->st.count (some y)<(cL T y).length):=by
      cases ks with
      |nil=>exact⟨none,aE (j:=0) rfl,fun y z=>(nomatch z)⟩
      |cons k ks=>exact⟨some k,aE (j:=0) rfl,fun y z=>by cases z;exact kr k cz⟩
     refine⟨M,_,_,_,rfl,rfl,aQ.of Nu,ho,D,_,_,rfl,rfl,qF _ _ NL,by rw[aB,sl];exact bN (show i<33 by lia) (by decide),?_⟩;exact⟨⟨_,_,_,rfl⟩,cg (Wi.trans (av.of qF)) vI,(pL.same qF).put pJ.symm,st++[o],by rw[ab,tO],by rw[bY,sl];rfl,so.push ck⟩
  .rintro σ Hc ⟨⟨v6,v7,v8,rfl⟩,se,pt,st,jT,sl,so⟩;refine⟨_,rfl,D,_,rfl,.inl ⟨aQ.of jT,fun r dh=>?_⟩⟩;exact q r st _ (se.trans (av.of (ag dh))) (pt.same (ag dh)) (se.free pt.full dh) ab (by rw[sl,aB]) so
end
abbrev zc:Stmt:=gG 45
abbrev JN:Stmt:=gG 46
theorem NN:(["_law_other","_law_house","_law_taken"]:List Str).Nodup:=by decide +kernel
structure mL(T:List (Int×Int))(pre hd:List (Option Int))(ps:List (Int×Int)):Prop where
 nd:ps.Nodup
 sub:∀q∈ps,q∈T
 fst:∀h,(ps.map (·.1)).count h=pre.count (some h)
 snd:∀h,(ps.map (·.2)).count h=hd.count (some h)
theorem dS{α:Type}[BEq α][LawfulBEq α]{xs:List α}{x y:α}:(xs++[x]).count y=xs.count y+(if x==y then 1 else 0):=by
 rw[we,List.count_singleton]
theorem mL.none{T:List (Int×Int)}{pre hd:List (Option Int)}{ps:List (Int×Int)}(h:mL T pre hd ps):mL T (pre++[Option.none]) (hd++[Option.none]) ps:=
 ⟨h.nd,h.sub,fun k=>by rw[h.fst,dS];simp,fun k=>by rw[h.snd,dS];simp⟩
theorem mL.push{T:List (Int×Int)}{pre hd:List (Option Int)}{ps:List (Int×Int)}{a b:Int}(h:mL T pre hd ps)(hn:(a,b)∉ps)(hT:(a,b)∈T):mL T (pre++[some a]) (hd++[some b]) (ps++[(a,b)]):=by
 refine⟨gC h.nd (cX.mpr ⟨(fun z=>nomatch z),iq⟩) fun x hx hy=>hn ?_,fun q hq=>?_,fun k=>?_,fun k=>?_⟩
 .rw[<-bR.mp hy];exact hx
 .rcases bg.mp hq with z|z
  .exact h.sub q z
  .rw[bR.mp z];exact hT
 .rw[bT,cS,jN,dS,dS,h.fst];simp
 .rw[bT,cS,jN,dS,dS,h.snd];simp
theorem mL.more{n:Int}{N:Nat}{T:List (Int×Int)}{st pre hd:List (Option Int)}{ps:List (Int×Int)}{h:Int}{i:Nat}(k:mL T pre hd ps)(t:mJ n T)(s:ij N T false st)(hp:pre=st.take i)(hi:st[i]?=some (some h)):∃o∈cL T h,(h,o)∉ps:=by
 refine jn fun no=>?_;have all:∀o∈cL T h,(h,o)∈ps:=fun o ho=>jn fun z=>no ⟨o,ho,z⟩;have a1:=fY (fun p:Int×Int=>p.1==h) (a:=T) (b:=ps) t.nd fun x hx e=>by
  have e':x.1=h:=by simpa using e
  have:=all x.2 (ji.mpr (by rw[<-e'];exact hx));rw[<-e'] at this;exact this
 rw[<-lT,<-lT,k.fst,<-qL] at a1;have a2:=s.P7 rfl h;have a3:(st.take (i+1)).count (some h)<=st.count (some h):=(rb _ _).count_le _;rw[eI,hi,iA,dS,<-hp,ap (by simp)] at a3;lia
theorem mL.stand{n:Int}{N:Nat}{T:List (Int×Int)}{pre hd:List (Option Int)}{ps:List (Int×Int)}{h:Int}(k:mL T pre hd ps)(t:mJ n T):hd.count (some h)<=(cL T h).length:=by
 have a1:=fY (fun p:Int×Int=>p.2==h) (a:=ps) (b:=T) k.nd fun x hx _=>k.sub x hx;rw[<-qH,<-qH,k.snd,<-t.uX,<-qL] at a1;exact a1
theorem NO{v:V}{i:Nat}{u:TS}{D:uf}{σ:St}{H:Hp}(h:u D (σ.set i (some v)) H):Ec (Ed (tC v) (bb i)) u D σ H:=h
section
variable {P:Program} {w:World} {K:PySem.W.Frag} {mg:Str->Option Value} {base:Heap}
theorem j9:aH ["_law_pot_here","_law_outs_here","_law_stand","_law_waits","_law_taken","_law_handing_here","_law_house","_law_goes","_law_some"] ["_law_pot_here","_law_outs_here","_law_stand","_law_waits"] (aq zc):=⟨rfl,rfl,rfl,by decide +kernel,rfl,by decide +kernel,by decide +kernel⟩
def xK:Sp:=fun vs H Q _=>∃ (p O a:Addr) (wt:Bool) (as:List Addr) (n:Nat) (T:List (Int×Int)) (st:List (Option Int)),vs=[.ref p,.ref O,.ref a,.bl wt]/\aR H p/\df p H O as n T/\mJ n T/\1<=n/\n<=32/\H a=some (.tup (SV st))/\st.length<=16/\ij n T wt st/\
 ∀ (r:Addr) (hd:List (Option Int)) (H':Hp),av p H H'->aR H' p->H r=none->H' r=some (.tup (SV hd))->hd.length=st.length->(∀j,j<st.length->(st.getD j none=none↔hd.getD j none=none))->ij n T wt hd->Q (.ref r) H'
theorem FO{f:Addr}{fd:FuncData}(F:fH K "_law_handing" "_law_handing" zc f fd)(B:Bl mg)(T0:ce P w K mg base bf 1 "_law_take" ["_law_pot_here","_law_many"] eU):bv P w K mg base bf 2 f fd ["_law_pot_here","_law_outs_here","_law_stand","_law_waits"] xK:=by
 refine F.ok j9 (fun vs H Q E h=>?_) (fun cT A outer s H vs Q E hr h=>?_)
 .obtain⟨p,O,a,wt,as,n,T,st,rfl,_⟩:=h;rfl
 .obtain⟨p,O,a,wt,as,n,T,st,rfl,hp,ou,ti,n1,xF,ha,sl,so,q⟩:=h;have hu:(A.deeper (PyProof.Rows.envOfC "_law_handing" (aq zc) s.heap.objs.size f cT)).units+2<cLine:=by have:=hr.un;lia
  refine'⟨_,ah (aw (i:=4) j9.nd rfl (Or.inr rfl) (bJ af))
   (ah (aw (i:=5) j9.nd rfl (Or.inl rfl) (bJ af))
   (ah (cA dq rfl (wB (pv 2)) (au (i:=6) j9.nd rfl (Or.inr rfl))
    (ah (aw (i:=7) j9.nd rfl (Or.inl rfl) d8)
    (ah (b8 (Be (Eb (pv 6)))
     (ah (aw (i:=8) j9.nd rfl (Or.inl rfl) (aK gy ?c1 (aK BI (bJ (aa (pv 6) af)) (bA pW (by rfl) B.int vR (aa (pv 3) af)))))
     (ah (aw (i:=7) j9.nd rfl (Or.inl rfl) (aN aF (pv 8) (aA T0 hr aL (aa (pv 0) (aa (az aJ (by rfl) B.len dt (aa (pv 8) af)) af))) (fun _ _=>rfl)))
     (ao (bK (dz di fm fk bB (pv 4) (aa (cp (aa (pv 6) (aa (pv 7) af))) af))))))
     a9)
    (ao (bK (dz di fm fk bB (pv 5) (aa (pv 7) af)))))))
   (ao (aV (bA cU (by rfl) B.tup nu (aa (pv 5) af)))))),?_⟩
  case c1=>
   refine' bt (g:=bb 0) (tt:=ku (gW (Co K true) (pA (bq (aT 1) (bq (aT 0) eO))) (aT 2))) (te:=aT 0) (NB:=["_law_other","_law_house","_law_taken"]) (src:=[none,some 6,some 4]) (br (by kernel_rfl)) rfl (bH (aN aF (pv 1) (pv 6) (fun _ _=>rfl))) ?g ?t ?e;case g=>exact fun cl C s₃ H₃ fp=>au (i:=0) NN rfl (Or.inl rfl) (Or.inr rfl)
   case t=>exact fun cl C s₃ H₃ fp=>dO (aD (qx hu) (cp (aa (pv 1) (aa (pv 0) af))) (pv 2) (by rfl))
   case e=>exact fun cl C s₃ H₃ fp=>pv 0
  refine⟨by show 0<=sizeLine;decide,fun Tk Qa=>⟨by show 0<=sizeLine;decide,fun Hd Ta=>?_⟩⟩;have NP:H Hd=none:=(ag Qa).free Ta;have Tb:Tk≠Hd:=ai ab Ta;have Wm:Tk≠p:=hp.ne Qa;have Wn:Hd≠p:=hp.ne NP;have Do:a≠p:=hp.neT ha;have y7:aG H (upd (upd H Tk (.lst [])) Hd (.lst [])):=(ag Qa).trans (ag Ta);refine⟨_,rfl,a,rfl,⟨_,bZ.of (y7 _ _ ha)⟩,rT (K:=K) (a:=a) (xs:=SV st) (fun i σ Hc=>(∃v6 v7 v8,σ=[some (.ref p),some (.ref O),some (.ref a),some (.bl wt),some (.ref Tk),some (.ref Hd),v6,v7,v8])/\av p H Hc/\aR Hc p/\∃zs hd,Hc Tk=some (.lst (zr zs))/\PO Hc zs/\zs.length<=i/\Hc Hd=some (.lst (SV hd))/\hd.length=i/\(∀j,j<i->(st.getD j none=none↔hd.getD j none=none))/\(∀y,some y∈hd->0<=y/\y<n)/\(wt=false->mL T (st.take i) hd (zp zs)))
   ⟨⟨_,_,_,rfl⟩,av.of y7,hp.same y7,[],[],by rw[am Tb];exact ab,PO.nil,a8 _,ab,rfl,fun j hj=>absurd hj (by lia),fun y hy=>(nomatch hy),fun _=>⟨iq,fun q hq=>(nomatch hq),fun h=>rfl,fun h=>rfl⟩⟩ (fun i σ Hc _ z=>bZ.of (z.2.1 _ _ ha Do)) ?_ ?_⟩
  .rintro i x σ Hc hx ⟨⟨v6,v7,v8,rfl⟩,se,pt,zs,hd,Qb,po,zl,Qc,hl,hn,hy,tk⟩;obtain⟨hi,rfl⟩:=JJ hx;have Wo:st[i]?=some (st.getD i none):=by rw[bh,bD hi];rfl
   have Wp:st.take (i+1)=st.take i++[st.getD i none]:=by rw[eI,Wo,iA]
   refine NO ?_;refine iu (fun σ Hk=>∃g zs v8,σ=[some (.ref p),some (.ref O),some (.ref a),some (.bl wt),some (.ref Tk),some (.ref Hd),some (pi (st.getD i none)),some (pi g),v8]/\av p H Hk/\aR Hk p/\Hk Tk=some (.lst (zr zs))/\PO Hk zs/\zs.length<=i+1/\Hk Hd=some (.lst (SV hd))/\(st.getD i none=none↔g=none)/\(∀y,g=some y->0<=y/\y<n)/\(wt=false->mL T (st.take (i+1)) (hd++[g]) (zp zs))) ?_ ?_
   .rintro σ Hk ⟨g,u8,v8',rfl,Zm,Zn,Tc,Zo,Zp,JO,Zq,Zr,Zt⟩;refine⟨_,rfl,.inl ⟨rfl,_,aQ.of JO⟩,_,rfl,Hd,_,_,rfl,rfl,JO,by rw[aB,hl];exact bN (show i<33 by lia) (by decide),?_⟩;refine⟨⟨_,_,_,rfl⟩,cg Zm NP,Zn.put Wn.symm,u8,hd++[g],by rw[am Tb];exact Tc,Zo.putL JO,Zp,by rw[ab,tO],by rw[bY,hl];rfl,fun j hj=>?_,fun y h=>?_,Zt⟩
    .by_cases ej:j=i
     .subst ej;rw[show (hd++[g]).getD j none=g by rw[bh,pP (by lia),hl,rE];rfl];exact Zq
     .rw[show (hd++[g]).getD j none=hd.getD j none by rw[bh,kd (by lia),<-bh]];exact hn j (by lia)
    .rcases bg.mp h with z|z
     .exact hy y z
     .exact Zr y (bR.mp z).symm
   .intro N nN;refine oM (fun Hk=>Hc=Hk/\∃h,st.getD i none=some h) (fun Hk=>Hc=Hk/\st.getD i none=none) ?_ ?_ ?_
    rotate_left
    .rintro _ ⟨rfl,t9⟩;exact nN _ _ ⟨none,zs,_,rfl,se,pt,Qb,po,by lia,Qc,⟨fun _=>rfl,fun _=>t9⟩,fun y z=>(nomatch z),fun z=>by rw[Wp,t9];exact(tk z).none⟩
    .intro Y N' yy nn;refine⟨_,rfl,_,rfl,?_⟩;refine cW (fun e=>yy _ ⟨rfl,?_⟩) (fun e=>nn _ ⟨rfl,?_⟩)
     .cases z:st.getD i none with
      |none=>rw[z] at e;exact absurd e (by decide)
      |some h=>exact⟨h,rfl⟩
     .cases z:st.getD i none with
      |none=>rfl
      |some h=>exact absurd (by rw[z];rfl) e
    rintro _ ⟨rfl,h,hh⟩;rw[hh];have Zu:=so.rg h (by rw[<-hh];exact dL hi);obtain⟨hN,rfl⟩:∃hN:Nat,(hN:Int)=h:=⟨h.toNat,by lia⟩
    dsimp only[pi];have Qd:=ou.fc se;obtain⟨row,FN,Dp⟩:=Qd.rows hN (by lia);have rl:row.length<=32:=by rw[Dp.length_eq];exact vp ti (by lia)
    refine⟨_,rfl,_,rfl,O,_,_,_,rfl,rfl,aQ.of Qd.at_,tQ (by rw[ou.len];lia),as.getD hN 0,rfl,⟨_,aQ.of FN⟩,fun D hD=>?_⟩;refine cu (K:=K) (a:=as.getD hN 0) (xs:=IV row) (fun c ys σ H3=>(∃u,σ=[u,some (.int hN),some (.ref Tk)])/\aG Hc H3/\H3 D=some (.lst ys)/\∃ks,ys=IV ks/\ks.length<=c/\(∀x∈ks,x∈row/\((hN:Int),x)∉zp zs)/\∀x∈row.take c,((hN:Int),x)∉zp zs->x∈ks)
     ⟨⟨_,rfl⟩,ag hD,ab,[],rfl,a8 _,fun x hx=>(nomatch hx),fun x hx=>(nomatch hx)⟩ (fun c ys σ H3 _ z=>aQ.of (z.2.1 _ _ FN)) ?_ ?_
    .rintro c x ys σ H3 Kt Kf hx ⟨⟨u,rfl⟩,i4,fX,ks,rfl,kl,kr,kc⟩ kt kf;obtain⟨hc,rfl⟩:=tP hx;have ex:row.take (c+1)=row.take c++[row.getD c 0]:=by rw[eI,bD hc,iA,bh,bD hc];rfl
     have Td:=dL (d:=0) hc;revert ex Td;generalize row.getD c 0=y;intro ex Td;refine⟨_,rfl,_,rfl,by show 2<=sizeLine;decide,fun t ht=>⟨_,rfl,xt (u:=((hN:Int),y)) (zs:=zs) ab (ag ht _ _ (i4 _ _ Qb)) ((po.same i4).putN ht) ⟨_,rfl,?_⟩⟩⟩;have bW:aG Hc (upd H3 t (qC ((hN:Int),y))):=i4.trans (ag ht);have gq:=ag (o:=qC ((hN:Int),y)) ht _ _ fX;refine cW (fun e=>?_) (fun e=>?_)
     .have Nw:((hN:Int),y)∉zp zs:=by
       intro z;have:(!decide (((hN:Int),y)∈zp zs))=true:=e;rw[dZ z] at this;exact absurd this (by decide)
      refine⟨_,rfl,kt _ _ _ gq (by rw[aB];exact bN (show _<100 by lia) (by decide)) ⟨⟨_,rfl⟩,a_ bW hD,ab,ks++[y],fK,by rw[bY];simp;lia,fun x hx=>?_,fun x hx GG=>?_⟩⟩
      .rcases bg.mp hx with z|z
       .exact kr x z
       .rw[bR.mp z];exact⟨Td,Nw⟩
      .rw[ex] at hx;rcases bg.mp hx with z|z
       .exact bg.mpr (.inl (kc x z GG))
       .exact bg.mpr (.inr z)
     .have pH:((hN:Int),y)∈zp zs:=jn fun z=>e (by show (!decide (((hN:Int),y)∈zp zs))=true;rw[dY z];rfl);refine kf _ _ ⟨⟨_,rfl⟩,bW,gq,ks,rfl,by lia,kr,fun x hx GG=>?_⟩;rw[ex] at hx;rcases bg.mp hx with z|z
      .exact kc x z GG
      .rw[bR.mp z] at GG;exact absurd pH GG
    .rintro ys σ H3 ⟨_,i4,fX,ks,rfl,kl,kr,kc⟩;rw[aB] at kl;rw[aB,gf] at kc;refine⟨_,rfl,by show 1<=sizeLine;decide,fun R1 Zv=>⟨_,rfl,.inr ⟨wt,rfl,R1,_,_,rfl,rfl,ab,?_,?_,?_,fun R2 Hj=>?_⟩⟩⟩
     .cases wt <;> decide
     .cases wt <;> decide
     .exact a7 (show 1*(if wt=true then (1:Int) else 0).toNat<=1 by cases wt <;> decide) (by decide)
     obtain⟨es,Rq,esr,Lc⟩:∃es:List Int,(List.replicate (if wt=true then (1:Int) else 0).toNat [V.int hN]).flatten=IV es/\es.length<=1/\(if wt=true then es=[(hN:Int)] else es=[]):=by
      cases wt
      .exact⟨[],rfl,by decide,rfl⟩
      .exact⟨[(hN:Int)],rfl,by simp,rfl⟩
     have Te:(upd (upd H3 R1 (.lst [.int hN])) R2 (.lst (List.replicate (if wt=true then (1:Int) else 0).toNat [V.int hN]).flatten)) R2=some (.lst (IV es)):=by rw[ab,Rq]
     have bW:aG H3 (upd (upd H3 R1 (.lst [.int hN])) R2 (.lst (List.replicate (if wt=true then (1:Int) else 0).toNat [V.int hN]).flatten)):=(ag Zv).trans (ag Hj);refine⟨D,R2,_,_,rfl,rfl,bW _ _ fX,Te,by rw[aB,aB];exact a7 (show _<=100 by lia) (by decide),fun S hS=>?_⟩;have Tf:IV ks++IV es=IV (ks++es):=bT.symm;rw[Tf];have gO:=(i4.trans bW).trans (ag (o:=.lst (IV (ks++es))) hS);have Qe:(upd (upd (upd H3 R1 (.lst [.int hN])) R2 (.lst (List.replicate (if wt=true then (1:Int) else 0).toNat [V.int hN]).flatten)) S (.lst (IV (ks++es)))) S=some (.lst (IV (ks++es))):=ab;dsimp only[bb];revert gO Qe;generalize upd (upd (upd H3 R1 (.lst [.int hN])) R2 (.lst (List.replicate (if wt=true then (1:Int) else 0).toNat [V.int hN]).flatten)) S (.lst (IV (ks++es)))=H5;intro gO Qe;have ne0:0<(ks++es).length:=by
      rw[bY];cases wt with
      |true=>rw[ap rfl] at Lc;rw[Lc];simp
      |false=>
       obtain⟨o,ho,t9⟩:=(tk rfl).more ti so rfl (by rw[Wo,hh]);have:=kc o (Dp.mem_iff.mpr ho) t9;have:=qT this;lia
     have JP:S≠p:=by
      have:Hc S=none:=(i4.trans bW).free hS;exact pt.ne this
     have Zw:=pt.same gO;refine⟨_,rfl,_,rfl,_,rfl,S,_,rfl,.inl (aQ.of Qe),p,_,rfl,by rw[aB];lia,by rw[aB,bY];lia,Zw,fun d H6 d0 d1 Qf Tg=>?_⟩;rw[aB] at d1;obtain⟨dn,rfl⟩:∃dn:Nat,(dn:Int)=d:=⟨d.toNat,by lia⟩
     have JA:dn<(ks++es).length:=by lia
     have uv:=dL (d:=0) JA;refine⟨S,_,_,_,rfl,rfl,aQ.of (Qf _ _ Qe JP),vf JA,?_⟩;revert uv;generalize (ks++es).getD dn 0=g;intro uv;have hg:(0<=g/\g<n)/\(wt=false->((hN:Int),g)∈T/\((hN:Int),g)∉zp zs):=by
      rcases bg.mp uv with z|z
      .obtain⟨z1,z2⟩:=kr g z;have Wq:=ji.mp (Dp.mem_iff.mp z1);exact⟨(ti.rg _ Wq).2,fun _=>⟨Wq,z2⟩⟩
      .cases wt with
       |true=>rw[ap rfl] at Lc;rw[Lc] at z;rw[bR.mp z];exact⟨Zu,fun y=>absurd y (by decide)⟩
       |false=>rw[ak (by decide)] at Lc;rw[Lc] at z;exact absurd z (by simp)
     have FP:av p Hc H6:=(av.of gO).trans Qf;have Qg:=FP _ _ Qb Wm;have Wr:=FP _ _ Qc Wn;have Hn:=po.fc FP pt;refine⟨_,rfl,.inl ⟨rfl,_,aQ.of Qg⟩,_,rfl,_,rfl,by show 2<=sizeLine;decide,fun t ht=>?_⟩;have Ws:Tk≠t:=ai Qg ht;refine⟨Tk,_,_,rfl,rfl,by rw[am Ws];exact Qg,by rw[bP];exact bN (show _<100 by lia) (by decide),?_⟩;refine nN _ _ ⟨some g,zs++[(t,((hN:Int),g))],_,by rw[hh];rfl,cg ((se.trans FP).trans (av.of (ag ht))) Qa,(Tg.same (ag ht)).put Wm.symm,by rw[ab,cj];rfl,PO.putL (xs:=zr zs) ((Hn.putN ht).append (PO.one ab)) (by rw[am Ws];exact Qg),by rw[bY];simp;lia,by rw[am Tb.symm,am (ai Wr ht)];exact Wr,⟨fun z=>absurd (hh.symm.trans z) (by intro y;cases y),fun z=>by cases z⟩,fun y z=>by cases z;exact hg.1,fun z=>?_⟩;rw[Wp,hh,bC];exact(tk z).push (hg.2 z).2 (hg.2 z).1
  .rintro σ Hc ⟨⟨v6,v7,v8,rfl⟩,se,pt,zs,hd,Qb,po,zl,Qc,hl,hn,hy,tk⟩;rw[aB] at hl hn;refine⟨_,rfl,Hd,_,rfl,.inl ⟨aQ.of Qc,fun r dh=>?_⟩⟩;exact q r hd _ (se.trans (av.of (ag dh))) (pt.same (ag dh)) (se.free pt.full dh) ab hl hn ⟨hy,fun z h=>(tk z).stand (N:=n) ti⟩
end
def Dq(hs:List Int)(i:Nat)(o:Option Int):Option Int:=if o=some (hs.getD i 0) then none else o
def qM(hs:List Int)(gs:List (Option Int))(k:Nat):List (Option Int):=(List.range k).map fun i=>Dq hs i (gs.getD i none)
theorem Dr{hs:List Int}{gs:List (Option Int)}{k:Nat}:qM hs gs (k+1)=qM hs gs k++[Dq hs k (gs.getD k none)]:=by unfold qM;rw[gX,bT];rfl
theorem zd{hs:List Int}{gs:List (Option Int)}{k:Nat}:(qM hs gs k).length=k:=by unfold qM;rw[aB,cG]
theorem vq{hs:List Int}{i:Nat}{o:Option Int}{h:Int}(e:Dq hs i o=some h):o=some h:=by
 unfold Dq at e;by_cases z:o=some (hs.getD i 0)
 .rw[ap z] at e;cases e
 .rw[ak z] at e;exact e
theorem xL{gs:List (Option Int)}:(List.range gs.length).map (fun k=>gs.getD k none)=gs:=by
 refine rd (by simp) fun i h1 h2=>?_;rw[nQ,q_,bh,bD h2];rfl
theorem JQ{n m:Nat}{T:List (Int×Int)}{wt:Bool}{hs:List Int}{gs:List (Option Int)}(h:ij n T wt gs)(hm:gs.length=m):ij n T wt (qM hs gs m):=by
 subst hm;refine⟨fun x hx=>?_,fun z x=>?_⟩
 .obtain⟨i,hi,e⟩:=aW.mp hx;exact h.rg x (by rw[<-vq e];exact dL (bG.mp hi))
 .refine a7 ?_ (h.P7 z x);conv=>rhs;rw[<-xL (gs:=gs)]
  unfold qM;rw[nJ,nJ,k_,k_];refine List.countP_mono_left fun i _ e=>?_;have e':Dq hs i (gs.getD i none)=some x:=by simpa using e
  have:=vq e';show (gs.getD i none==some x)=true;rw[this];simp
theorem Ds{hs:List Int}{i:Nat}{o:Option Int}:(if pi o=.int (hs.getD i 0) then V.bw else pi o)=pi (Dq hs i o):=by
 unfold Dq;by_cases z:o=some (hs.getD i 0)
 .rw[ap z,ap (by rw[z];rfl)];rfl
 .rw[ak z,ak (fun (y:pi o=V.int (hs.getD i 0))=>z (FL (show pi o=pi (some (hs.getD i 0)) from y)))]
section
variable {P:Program} {w:World} {K:PySem.W.Frag} {mg:Str->Option Value} {base:Heap}
theorem ze:aH ["_law_homes_here","_law_stand","_law_handing_here","_law_found","_law_k","_law_gone"] ["_law_homes_here","_law_stand","_law_handing_here"] (aq JN):=⟨rfl,rfl,rfl,by decide +kernel,rfl,by decide +kernel,by decide +kernel⟩
def Dt:Sp:=fun vs H Q _=>∃ (a b c:Addr) (hs:List Int) (st gs:List (Option Int)) (m:Nat),vs=[.ref a,.ref b,.ref c]/\H a=some (.tup (IV hs))/\H b=some (.tup (SV st))/\H c=some (.tup (SV gs))/\hs.length=m/\st.length=m/\gs.length=m/\m<=16/\(∀j,j<m->st.getD j none=none->gs.getD j none=none)/\∀ (r:Addr) (H':Hp),aG H H'->H r=none->H' r=some (.tup (SV (qM hs gs m)))->Q (.ref r) H'
theorem JR{f:Addr}{fd:FuncData}(F:fH K "_law_behind" "_law_behind" JN f fd)(B:Bl mg):bv P w K mg base bf 1 f fd ["_law_homes_here","_law_stand","_law_handing_here"] Dt:=by
 refine F.ok ze (fun vs H Q E h=>?_) (fun cT A outer s H vs Q E hr h=>?_)
 .obtain⟨a,b,c,hs,st,gs,m,rfl,_⟩:=h;rfl
 .obtain⟨a,b,c,hs,st,gs,m,rfl,ha,hb,hc,hl,sl,gl,Lb,hn,q⟩:=h;refine'⟨_,ah (aw (i:=3) ze.nd rfl (Or.inl rfl) (bJ af))
   (ah (cA dq rfl (aU rfl B.range (aa (az aJ (by rfl) B.len dt (aa (pv 0) af)) af)) (au (i:=4) ze.nd rfl (Or.inl rfl))
    (ah (aw (i:=5) ze.nd rfl (Or.inl rfl) (LF (HQ (HP (aN bV (pv 1) (pv 4) (fun _ _=>rfl)))) (jR (fG d_ (aN bV (pv 2) (pv 4) (fun _ _=>rfl)) (aN bV (pv 0) (pv 4) (fun _ _=>rfl)) (aP _)))))
    (ao (bK (dz di fm fk bB (pv 3) (aa (Bg (dQ (pv 5)) d8 (aN bV (pv 2) (pv 4) (fun _ _=>rfl))) af))))))
   (ao (aV (bA cU (by rfl) B.tup nu (aa (pv 3) af))))),?_⟩
  refine⟨by show 0<=sizeLine;decide,fun D hD=>?_⟩;refine⟨_,rfl,a,_,rfl,.inr (bZ.of (ag hD _ _ ha)),m,by rw[aB,hl],by lia,by lia,cf (lo:=0) (n:=m) (fun i σ Hc=>(∃v4 v5,σ=[some (.ref a),some (.ref b),some (.ref c),some (.ref D),v4,v5])/\aG H Hc/\Hc D=some (.lst (SV (qM hs gs i)))) ⟨⟨_,_,rfl⟩,ag hD,ab⟩ ?_ ?_⟩
  .rintro i σ Hc hi ⟨⟨v4,v5,rfl⟩,sm,vJ⟩;rw[dH];have dN:∀ (vv:V) v5,vv=pi (Dq hs i (gs.getD i none))->(∃v4 Sx,[some (.ref a),some (.ref b),some (.ref c),some (.ref D),some (.int (i:Int)),v5]=[some (V.ref a),some (.ref b),some (.ref c),some (.ref D),v4,Sx])/\aG H (upd Hc D (.lst (SV (qM hs gs i)++[vv])))/\(upd Hc D (.lst (SV (qM hs gs i)++[vv]))) D=some (.lst (SV (qM hs gs (i+1)))):=fun vv v5 e=>⟨⟨_,_,rfl⟩,a_ sm hD,by rw[ab,e,Dr,tO]⟩
   have hz:(SV (qM hs gs i)).length<sizeLine:=by rw[aB,zd];exact bN (show i<33 by lia) (by decide)
   refine⟨_,rfl,_,rfl,b,_,_,_,rfl,rfl,bZ.of (sm _ _ hb),y_ (by lia),_,rfl,?_⟩;refine cW (fun e=>?_) (fun e=>?_)
   .have e0:st.getD i none=none:=by
     cases z:st.getD i none with
     |none=>rfl
     |some h=>rw[z] at e;exact absurd (eG e) (by intro y;cases y)
    refine⟨_,rfl,.inl ⟨rfl,_,aQ.of vJ⟩,_,rfl,_,rfl,qB ?_⟩;exact⟨D,_,_,rfl,rfl,vJ,hz,dN _ _ (by rw[hn i hi e0];rfl)⟩
   .refine⟨_,rfl,_,rfl,c,_,_,_,rfl,rfl,bZ.of (sm _ _ hc),y_ (by lia),_,rfl,_,rfl,a,_,_,_,rfl,rfl,bZ.of (sm _ _ ha),vf (by lia),FM,?_⟩;refine⟨_,rfl,.inl ⟨rfl,_,aQ.of vJ⟩,_,rfl,_,rfl,?_⟩;refine cW (fun e2=>?_) (fun e2=>?_)
    .exact⟨D,_,_,rfl,rfl,vJ,hz,dN _ _ (by rw[<-Ds,ap (eG e2)])⟩
    .exact⟨_,rfl,_,rfl,c,_,_,_,rfl,rfl,bZ.of (sm _ _ hc),y_ (by lia),D,_,_,rfl,rfl,vJ,hz,dN _ _ (by rw[<-Ds,ak (fun z=>e2 (dZ z))])⟩
  .rintro σ Hc ⟨⟨v4,v5,rfl⟩,sm,vJ⟩;refine⟨_,rfl,D,_,rfl,.inl ⟨aQ.of vJ,fun r dh=>?_⟩⟩;exact q r _ (sm.trans (ag dh)) (sm.free dh) ab
end
abbrev Ys:=List (Addr×List (Option Int))
def yr(ys:Ys):List V:=ys.map fun y=>V.ref y.1
def yp(ys:Ys):List (List (Option Int)):=ys.map (·.2)
def YO(H:Hp)(ys:Ys):Prop:=∀y∈ys,H y.1=some (.tup (SV y.2))
theorem eX{a b:Ys}:yr (a++b)=yr a++yr b:=bT
theorem gR{a b:Ys}:yp (a++b)=yp a++yp b:=bT
theorem oZ{a:Ys}:(yr a).length=a.length:=aB _
theorem fZ{a:Ys}:(yp a).length=a.length:=aB _
theorem YO.nil{H:Hp}:YO H []:=fun z hz=>(nomatch hz)
theorem YO.same{H H':Hp}{ys:Ys}(h:YO H ys)(s:aG H H'):YO H' ys:=fun y hy=>s _ _ (h y hy)
theorem YO.fc{H H':Hp}{p:Addr}{ys:Ys}(h:YO H ys)(s:av p H H')(hp:aR H p):YO H' ys:=fun y hy=>s _ _ (h y hy) (hp.neT (h y hy))
theorem YO.putL{H:Hp}{D:Addr}{xs:List V}{o:HO}{ys:Ys}(h:YO H ys)(e:H D=some (.lst xs)):YO (upd H D o) ys:=fun y hy=>by
 have:=h y hy;rw[am (by rintro rfl;rw[e] at this;cases this)];exact this
theorem YO.append{H:Hp}{a b:Ys}(h:YO H a)(h':YO H b):YO H (a++b):=fun z hz=>(bg.mp hz).elim (h z) (h' z)
theorem YO.one{H:Hp}{p:Addr}{u:List (Option Int)}(h:H p=some (.tup (SV u))):YO H [(p,u)]:=fun z hz=>by rw[bR.mp hz];exact h
section
variable {P:Program} {w:World} {K:PySem.W.Frag} {mg:Str->Option Value} {base:Heap}
end
end DY
namespace oI
def lZ(ts:Ts):Ts:=ts.map fun t=>(t.2,t.1)
theorem zf{ts:Ts}{a b:Nat}:T (lZ ts) a b↔T ts b a:=by
 unfold T lZ;rw[aW];constructor
 .rintro⟨⟨x,y⟩,h,e⟩;have e1:=congrArg Prod.fst e;have e2:=congrArg Prod.snd e;dsimp only at e1 e2;subst e1 e2;exact h
 .exact fun h=>⟨_,h,rfl⟩
theorem vt{ts:Ts}:∀ {k a b:Nat},cC (lZ ts) k a b->cC ts k b a
 |0,_,_,e=>e.symm
 |k+1,a,b,⟨c,w,t⟩=>cC.cons (zf.mp t) (vt w)
theorem l4{ts:Ts}:∀ {k a b:Nat},cC ts k a b->cC (lZ ts) k b a
 |0,_,_,e=>e.symm
 |k+1,a,b,⟨c,w,t⟩=>cC.cons (zf.mpr t) (l4 w)
theorem zg{ts:Ts}{h:Int}:((lZ ts).filter fun t=>decide (t.1=h)).length=(ts.filter fun t=>decide (t.2=h)).length:=by
 unfold lZ;rw[List.filter_map,List.length_map];rfl
theorem FQ{ts:Ts}{h:Int}:((lZ ts).filter fun t=>decide (t.2=h)).length=(ts.filter fun t=>decide (t.1=h)).length:=by
 unfold lZ;rw[List.filter_map,List.length_map];rfl
theorem Du{n:Nat}{ts:Ts}(F:bL n ts):bL n (lZ ts):=by
 refine⟨F.n1,F.n2,?_,fun t ht=>?_,fun t ht=>?_,fun h=>?_,fun h=>?_,fun a b ha hb=>?_⟩
 .exact List.Pairwise.map _ (fun a b ml e=>ml (dE (congrArg Prod.snd e) (congrArg Prod.fst e))) (l7.mp F.nd)
 .obtain⟨u,hu,rfl⟩:=aW.mp ht;exact⟨(F.rg u hu).2,(F.rg u hu).1⟩
 .obtain⟨u,hu,rfl⟩:=aW.mp ht;exact fun e=>F.ne u hu e.symm
 .rw[zg,FQ];exact(F.uX h).symm
 .rw[zg,<-F.uX h];exact F.most h
 .obtain⟨k,w⟩:=F.con b a hb ha;exact⟨k,l4 w⟩
theorem FR{n:Nat}{ts:Ts}(F:bL n ts){a b:Nat}(ha:a<n)(hb:b<n):far (lZ ts) a b=far ts b a:=by
 have h:=F.R4 hb ha;exact xj ⟨l4 h.1,fun k w=>h.2 k (vt w)⟩
end oI
namespace DY
open PySem L2 oI
abbrev Th:Stmt:=gG 42
theorem tS:(["_law_house","_law_far"]:List Str).Nodup:=by decide +kernel
def vK(f:Nat->Nat)(xs:List Nat):List (fv×V):=xs.map fun (x:Nat)=>(Sum.inl (x:Int),V.int ((f x:Nat):Int))
theorem FS{f:Nat->Nat}{xs:List Nat}:(vK f xs).length=xs.length:=aB _
theorem m_{f:Nat->Nat}{x:Nat}:∀ {xs:List Nat},lI (vK f xs) (Sum.inl (x:Int))=if x∈xs then some (.int ((f x:Nat):Int)) else none
 |[]=>rfl
 |y::ys=>by
  unfold vK;rw[cS];by_cases e:y=x
  .subst e;rw[kG rfl,ap cz]
  .have e2:¬ ((Sum.inl (y:Int):fv)=Sum.inl (x:Int)):=fun z=>e (cZ (Sum.inl.inj z));rw[kH e2];have ih:=m_ (f:=f) (x:=x) (xs:=ys);unfold vK at ih;rw[ih];by_cases h:x∈ys
   .rw[ap h,ap (b9 _ h)]
   .rw[ak h,ak (fun z=>(cn.mp z).elim (fun q=>e q.symm) h)]
theorem FT{f:Nat->Nat}{x k:Nat}{xs:List Nat}(h:x∉xs):h_ (vK f xs) (Sum.inl (x:Int)) (.int ((k:Nat):Int))=vK (put f x k) (xs++[x]):=by
 rw[Cb _ (by rw[m_,ak h])];unfold vK;rw[bT,cS,jN,fW];congr 1;refine fL fun y hy=>?_;rw[dR (show y≠x from fun z=>h (z ▸ hy))]
theorem AA{e:V->V->Bool}:∀ {xs:List V},gk e xs []=decide (xs=[])
 |[]=>rfl
 |x::xs=>by simp[gk]
section
variable {P:Program} {w:World} {K:PySem.W.Frag} {mg:Str->Option Value} {base:Heap}
theorem AC:aH ["_law_many","_law_ties","_law_home","_law_far","_law_waiting","_law_house","_law_one","_law_other"] ["_law_many","_law_ties","_law_home"] (aq Th):=⟨rfl,rfl,rfl,by decide +kernel,rfl,by decide +kernel,by decide +kernel⟩
def JS(K:PySem.W.Frag):Sp:=fun vs H Q _=>∃ (l:Addr) (n st:Nat) (zs:Zs),vs=[.int n,.ref l,.int st]/\H l=some (.lst (zr zs))/\PO H zs/\bL n (zp zs)/\st<n/\∀ (r:Addr) (H':Hp),aG H H'->H r=none->H' r=some (.lst (NV ((List.range n).map fun x=>far (zp zs) x st)))->Q (.ref r) H'
theorem NQ{f:Addr}{fd:FuncData}(F:fH K "_law_homeward" "_law_homeward" Th f fd)(B:Bl mg):bv P w K mg base bf 1 f fd ["_law_many","_law_ties","_law_home"] (JS K):=by
 refine F.ok AC (fun vs H Q E h=>?_) (fun cT A outer s H vs Q E hr h=>?_)
 .obtain⟨l,n,st,zs,rfl,_⟩:=h;rfl
 .obtain⟨l,n,st,zs,rfl,hl,po,Fi,hs,k⟩:=h;have fi:=Du Fi;have n1:=fi.n1;have n2:=fi.n2;have DW:=hr.u (n:=1);refine'⟨_,(ah (aw (i:=3) AC.nd rfl (Or.inr rfl) (EQ (Cf (pv 2) aj EO) rfl rfl (by simp) (by decide)))
   (ah (aw (i:=4) AC.nd rfl (Or.inl rfl) (bJ (aa (pv 2) af)))
   (ah (ui dq (aD (Ix (e:=j_) hr.u) (pv 4) (bJ af) (aP _)) (ah (aw (i:=5) AC.nd rfl (Or.inl rfl) (dz di PySem.F.slot_list_pop PySem.F.type_list_pop uo (pv 4) (aa aj af)))
    (ao (cA dq rfl (bH (pv 1)) (eN (n:=2) rfl (aY (au (i:=6) AC.nd rfl (Or.inl rfl)) (aY (au (i:=7) AC.nd rfl (Or.inl rfl)) de)))
     (ao (b8 (PW.pt (gw (aD d_ (pv 7) (pv 5) (aP _)) (gj (Be (Ab DW (pv 6) (pv 3)))))) (ah (EM DW (pv 3) (pv 6) (aK b_ (yA DW (pv 3) (pv 5) (fun _ _=>rfl)) aj) rfl)
      (ao (bK (dz di fm fk bB (pv 4) (aa (pv 6) af))))) a9))))))
   (ao (aV ?c1))))),?_⟩
  case c1=>
   refine' bt (g:=(bb 0)) (te:=(G6 (aT 1) (aT 0))) (NB:=["_law_house","_law_far"]) (src:=[none,some 3]) (br (by kernel_rfl)) rfl (aU rfl B.range (aa (pv 0) af)) ?g ?t ?e;case g=>exact fun cl C s₃ H₃ fp=>(au (i:=0) tS rfl (Or.inl rfl) (Or.inr rfl))
   case t=>exact fun cl C s₃ H₃ fp=>bX
   case e=>exact fun cl C s₃ H₃ fp=>(yA DW (pv 1) (pv 0) (fun _ _=>rfl))
  refine fun D hD=>⟨_,rfl,ab,[(Sum.inl (st:Int),.int 0)],rfl,by show 1<=15;decide,?_⟩
  rw[kj];have e0:lK [] [(Sum.inl (st:Int),V.int 0)]=vK (fun _=>0) [st]:=rfl;rw[e0];have Wt:aG H (upd H D (.dK (vK (fun _=>0) [st]))):=ag hD;refine⟨_,rfl,by show 1<=sizeLine;decide,fun R hR=>?_⟩;have Fm:D≠R:=ai (H:=upd H D (.dK (vK (fun _=>0) [st]))) ab hR;have Fn:H R=none:=Wt.free hR;refine⟨fun m σ H2=>∃ (i:Nat) (Rs:List Nat) (f:Nat->Nat),m=n-i/\i<=Rs.length/\vF n (lZ (zp zs)) st i Rs f/\(∃a b c,σ=[some (.int n),some (.ref l),some (.int st),some (.ref D),some (.ref R),a,b,c])/\aG H H2/\H2 D=some (.dK (vK f Rs))/\H2 R=some (.lst (NV (Rs.drop i))),⟨_,0,[st],fun _=>0,rfl,c_ _,vF.start hs,⟨none,none,none,rfl⟩,Wt.trans (ag hR),by rw[am Fm,ab],ab⟩,?_⟩;rintro m σ H2 ⟨i,Rs,f,rfl,hi,Bf,⟨a,b,c,rfl⟩,sm,iz,Hj⟩;have Nf:Rs.length<=n:=dC Bf.nd Bf.lt;refine⟨_,rfl,by show 0<=sizeLine;decide,fun E1 Zx=>?_⟩;have sE:=ag (o:=.lst []) Zx;refine⟨R,E1,_,[],rfl,rfl,aQ.of (sE _ _ Hj),aQ.of ab,fun i h1 h2=>absurd h2 (by simp),_,rfl,?_⟩;rw[ap rfl,AA];have Ti:=sm.trans sE;have Wu:=sE _ _ iz;have Wv:=sE _ _ Hj;generalize upd H2 E1 (.lst [])=H3 at *;by_cases pH:i<Rs.length
  rotate_left
  .have e:NV (Rs.drop i)=[]:=by rw[List.drop_eq_nil_iff.mpr (by lia)];rfl
   rw[dZ e];refine oN ?_;refine⟨_,rfl,_,rfl,by lia,by lia,fun D3 fX=>?_⟩;rw[jq];refine cQ (fun j ys σ H4=>(∃x,σ=[x,some (.ref D)])/\aG H3 H4/\H4 D3=some (.lst ys)/\ys=NV ((List.range j).map fun x=>far (zp zs) x st)) ⟨⟨_,rfl⟩,ag fX,ab,rfl⟩ ?_ ?_
   .rintro j ys σ H4 Kt Kf hj ⟨⟨x,rfl⟩,s4,gq,rfl⟩ kt kf;rw[dH];have g1:=pF.k (k:=Sum.inl (j:Int)) (s4 _ _ Wu);obtain⟨q1,q2⟩:=Bf.done fi (by lia) hj;rw[m_,ap q1,q2,FR Fi hs hj] at g1;refine⟨_,rfl,_,rfl,D,_,rfl,g1,kt _ _ _ gq (by rw[dF,aB,cG];exact bN (show j<33 by lia) (by decide)) ⟨⟨_,rfl⟩,a_ s4 fX,ab,?_⟩⟩;rw[gX,bT];exact m6
   .rintro ys σ H4 ⟨_,s4,gq,rfl⟩;exact k D3 H4 (Ti.trans s4) (Ti.free fX) gq
  have o_:Rs[i]?=some Rs[i]:=bD pH;have GU:Rs.drop i=Rs[i]::Rs.drop (i+1):=nj pH;generalize Rs[i]=u at o_ GU;have ne:¬ NV (Rs.drop i)=[]:=by rw[GU];exact fun z=>by cases z
  rw[dY ne];refine qB ⟨_,fun σ' H' z=>z,?_⟩;refine⟨_,rfl,.inl ⟨rfl,_,aQ.of Wv⟩,R,_,_,0,.int (u:Int),rfl,rfl,Wv,by decide,by decide,Ho (by rw[dF,List.length_drop];lia),by rw[GU];rfl,?_⟩;have eE:(NV (Rs.drop i)).eraseIdx 0=NV (Rs.drop (i+1)):=by rw[GU];rfl
  rw[eE];have s4:aG H (upd H3 R (.lst (NV (Rs.drop (i+1))))):=a_ Ti Fn;have gq:(upd H3 R (.lst (NV (Rs.drop (i+1))))) D=some (.dK (vK f Rs)):=by rw[am Fm];exact Wu
  have sO:(upd H3 R (.lst (NV (Rs.drop (i+1))))) R=some (.lst (NV (Rs.drop (i+1)))):=ab;generalize upd H3 R _=H4 at *;refine⟨_,rfl,l,rfl,⟨_,aQ.of (s4 _ _ hl)⟩,iP (K:=K) (xs:=zr zs) (fun j σ H5=>∃ (fD:List Nat) (f':Nat->Nat),vF n (lZ (zp zs)) st i fD f'/\fD[i]?=some u/\(∀v:Nat,(ci v,ci u)∈(zp zs).take j->v∈fD/\f' v<=f' u+1)/\(∃a b,σ=[some (.int n),some (.ref l),some (.int st),some (.ref D),some (.ref R),some (.int (u:Int)),a,b])/\aG H H5/\H5 D=some (.dK (vK f' fD))/\H5 R=some (.lst (NV (fD.drop (i+1))))) ⟨Rs,f,Bf,o_,fun v hv=>by simp at hv,⟨_,_,rfl⟩,s4,gq,sO⟩ (fun j σ H5 _ ⟨_,_,_,_,_,_,s5,_⟩=>aQ.of (s5 _ _ hl)) ?_ ?_⟩
  .rintro j x σ H5 hx ⟨fD,f',qE,D8,dn,⟨a',b',rfl⟩,s5,AD,Cm⟩;obtain⟨z,hz,rfl⟩:=iZ hx;have pe:z∈zs:=cE hz;have e2:(zp zs)[j]?=some z.2:=by unfold zp;rw[bO,hz];rfl
   have tk:(zp zs).take (j+1)=(zp zs).take j++[z.2]:=by rw[eI,e2];rfl
   have Tj:z.2∈zp zs:=cE e2;obtain⟨⟨r1,r2⟩,r3,r4⟩:=Fi.rg _ Tj;obtain⟨v,v',ev,K3,Zy⟩:∃v v':Nat,z.2=(ci v,ci v')/\v<n/\v'<n:=⟨z.2.1.toNat,z.2.2.toNat,dE (by show _=((z.2.1.toNat:Nat):Int);lia) (by show _=((z.2.2.toNat:Nat):Int);lia),by lia,by lia⟩
   have Ww:=s5 _ _ (po z pe);rw[ev] at Ww tk Tj;have CN:u∈fD:=cE D8;have AO:i<fD.length:=(cD.mp D8).1;have CO:fD.length<=n:=dC qE.nd qE.lt;refine⟨z.1,_,rfl,bZ.of Ww,rfl,_,_,rfl,_,_,rfl,rfl,?_⟩;refine⟨_,rfl,_,rfl,rfl,_,rfl,?_⟩;have same:(∀x:Nat,(ci x,ci u)∈(zp zs).take (j+1)->(ci x,ci u)∈(zp zs).take j\/(x=v/\u=v')):=fun x hx=>by
    rw[tk] at hx;rcases bg.mp hx with z|z
    .exact .inl z
    .have:=bR.mp z;exact .inr ⟨cZ (congrArg Prod.fst this),cZ (congrArg Prod.snd this)⟩
   by_cases Tn:v'=u
   rotate_left
   .rw[dY (show ¬ V.int (ci v')=V.int (u:Int) from fun z=>Tn (by have:=V.int.inj z;exact cZ this))];refine fg (fg ⟨fD,f',qE,D8,fun x hx=>?_,⟨_,_,rfl⟩,s5,AD,Cm⟩);rcases same x hx with z|z
    .exact dn x z
    .exact absurd z.2.symm Tn
   subst Tn;rw[dZ rfl];have gD:∀x:Nat,pF H5 D (.int (x:Int)) (if x∈fD then some (.int ((f' x:Nat):Int)) else none):=fun x=>by
    have:=pF.k (k:=Sum.inl (x:Int)) AD;rw[m_] at this;exact this
   refine si ⟨_,rfl,_,rfl,D,_,rfl,gD v,_,rfl,?_⟩;by_cases vH:v∈fD
   .rw[ap vH];refine fg ⟨fD,f',qE,D8,fun x hx=>?_,⟨_,_,rfl⟩,s5,AD,Cm⟩;rcases same x hx with z|z
    .exact dn x z
    .rw[z.1];exact⟨vH,qE.bd _ D8 _ vH⟩
   .rw[ak vH];refine si ?_;have g2:=gD v';rw[ap CN] at g2;refine⟨_,rfl,_,rfl,D,_,rfl,g2,_,_,rfl,rfl,_,rfl,_,rfl,D,_,rfl,Cc.k (k:=Sum.inl (v:Int)) AD (by rw[FS];exact bN (show fD.length<33 by lia) (by decide)),?_⟩;have e1:h_ (vK f' fD) (Sum.inl (v:Int)) (V.int (((f' v':Nat):Int)+1))=vK (put f' v (f' v'+1)) (fD++[v]):=by
     rw[show ((f' v':Nat):Int)+1=((f' v'+1:Nat):Int) by lia,FT vH]
    rw[e1];have Wx:(upd H5 D (.dK (vK (put f' v (f' v'+1)) (fD++[v])))) R=some (.lst (NV (fD.drop (i+1)))):=by rw[am Fm.symm];exact Cm
    refine⟨_,rfl,.inl ⟨rfl,_,aQ.of Wx⟩,_,rfl,R,_,_,rfl,rfl,Wx,by rw[dF,List.length_drop];exact bN (show fD.length-(i+1)<33 by lia) (by decide),?_⟩;have R9:v'≠v:=fun z=>vH (z ▸ CN);have R8:T (lZ (zp zs)) v' v:=zf.mpr Tj;refine⟨fD++[v],put f' v (f' v'+1),qE.add D8 K3 R8 vH,by rw[kd AO];exact D8,fun x hx=>?_,⟨_,_,rfl⟩,a_ (a_ s5 hD) Fn,?_,?_⟩
    .rw[dR R9];rcases same x hx with z|z
     .obtain⟨q1,q2⟩:=dn x z;exact⟨gc _ q1,by rw[dR (fun (y:x=v)=>vH (y ▸ q1))];exact q2⟩
     .rw[z.1];exact⟨by simp,by rw[fW];exact a8 _⟩
    .rw[am Fm,ab]
    .rw[ab,m6,List.drop_append_of_le_length (by lia)]
  .rintro σ H5 ⟨fD,f',qE,D8,dn,⟨a',b',rfl⟩,s5,AD,Cm⟩;rw[bP,<-bj,gf] at dn;have AO:i<fD.length:=(cD.mp D8).1;have CO:fD.length<=n:=dC qE.nd qE.lt;exact⟨n-(i+1),by lia,i+1,fD,f',rfl,AO,qE.next D8 (fun v t=>dn v (zf.mp t)),⟨_,_,_,rfl⟩,s5,AD,Cm⟩
end
abbrev To:Stmt:=gG 14
abbrev Tp:Stmt:=gG 15
abbrev Tq:Stmt:=gG 18
abbrev Tt:Stmt:=gG 16
abbrev xM:Stmt:=gG 2
abbrev Tu:Stmt:=gG 17
theorem f_:(["beat","stands","log","letter"]:List Str).Nodup:=by decide +kernel
theorem gb:(["beat","log","letter","stands"]:List Str).Nodup:=by decide +kernel
theorem dM:(["beat","net","homes","stands","log","letter"]:List Str).Nodup:=by decide +kernel
def oV:Option Nat->V
 |none=>.bw
 |some x=>.int (x:Int)
theorem tT{o:Option Nat}:(!decide (oV o=.bw))=o.isSome:=by cases o <;> simp[oV]
theorem mv{st:List (Option Nat)}{i:Nat}(h:i<st.length):(st.map oV)[i]?=some (oV (st.getD i none)):=by
 rw[bO,bh,bD h];rfl
theorem Hr{a b:Option Nat}:decide (oV a=oV b)=decide (a=b):=by
 cases a <;> cases b <;> simp[oV];exact⟨fun h=>cZ h,fun h=>by rw[h]⟩
theorem tU{a b:Option Nat}:Bq (oV a) (oV b)=true:=by cases a <;> cases b <;> rfl
theorem Hs{o:Option Nat}{h:Nat}:decide (oV o=.int (h:Int))=decide (o=some h):=Hr (b:=some h)
theorem Dv{o:Option Nat}{h:Nat}:Bq (oV o) (.int (h:Int))=true:=tU (b:=some h)
theorem zh{β:Type}{K:PySem.W.Frag}{a D:Addr}{g:TG}{tt:TT}{te:TE}{dN:Hp->Prop}{σB:St}{H0:Hp}(ms:List β)(e:β->V)(c:β->Bool)(G:β->V)(bQ:St->Prop)(ha:H0 a=some (.lst (ms.map e)))(hD:H0 D=none)(hn:ms.length<=1000)(h0:bQ σB)(hs:∀m σ H (Kt:V->St->Hp->Prop) (Kf:St->Hp->Prop),m∈ms->bQ σ->aG H0 H->(∀σ2 H2,bQ σ2->aG H H2->c m=true->Kt (G m) σ2 H2)->(∀σ2 H2,bQ σ2->aG H H2->c m=false->Kf σ2 H2)->
   g (e m) σ H fun σ2 H2=>tt σ2 H2 fun b H3=>if b=true then te σ2 H3 fun v H4=>Kt v σ2 H4 else Kf σ2 H3)(hd:∀H,aG H0 H->H D=some (.lst ((ms.filter c).map G))->dN H):gH (AJ K a) g tt te D dN σB (upd H0 D (.lst [])):=by
 refine cu (xs:=ms.map e) (fun i ys σ H=>bQ σ/\aG H0 H/\H D=some (.lst ys)/\ys=((ms.take i).filter c).map G) ⟨h0,ag hD,ab,rfl⟩ (fun i ys σ H _ z=>aQ.of (z.2.1 _ _ ha)) ?_ ?_
 .rintro i x ys σ H Kt Kf hx ⟨sh,sm,iw,rfl⟩ kt kf;rw[bO] at hx;obtain⟨y,hy,rfl⟩:=Option.map_eq_some_iff.mp hx;have tk:ms.take (i+1)=ms.take i++[y]:=by rw[eI,hy];rfl
  refine hs y σ H Kt Kf (cE hy) sh sm (fun σ2 H2 u9 s2 e=>?_) (fun σ2 H2 u9 s2 e=>?_)
  .refine kt _ _ _ (s2 _ _ iw) ?_ ⟨u9,a_ (sm.trans s2) hD,ab,?_⟩
   .rw[aB];exact iB (a7 (io _ _) (List.length_take_le' _ _)) (iB hn (by decide))
   .rw[tk,ge,bT,eK,e];rfl
  .refine kf _ _ ⟨u9,sm.trans s2,s2 _ _ iw,?_⟩;rw[tk,ge,eK,e];simp
 .rintro ys σ H ⟨_,sm,iw,rfl⟩;rw[aB,gf] at iw;exact hd H sm iw
def gT(H:Hp)(a:Addr)(as:List Addr)(N:Nat)(o:Nat->List (Option Nat)):Prop:=H a=some (.lst (as.map V.ref))/\Holds H as N (fun k=>.tup ((o k).map oV))
theorem gT.same{H H':Hp}{a:Addr}{as:List Addr}{N:Nat}{o:Nat->List (Option Nat)}(h:gT H a as N o)(s:aG H H'):gT H' a as N o:=⟨s _ _ h.1,h.2.mono fun j _ e=>s _ _ e⟩
theorem gT.at{H:Hp}{a:Addr}{as:List Addr}{N:Nat}{o:Nat->List (Option Nat)}(h:gT H a as N o){k:Nat}(hk:k<N):oj (as.map V.ref) (k:Int)=some (.ref (as.getD k 0)):=tQ (by rw[h.2.1];exact hk)
def FU(ss ls:Nat->List (Option Nat))(N l:Nat):List Nat:=(List.range N).filter fun k=>((ss k).getD l none).isSome&&decide ((ss k).getD l none=(ls k).getD l none)
structure AV(H:Hp)(SA LA:Addr)(fj fE:List Addr)(n N:Nat)(ss ls:Nat->List (Option Nat)):Prop where
 rs:gT H SA fj (N+1) ss
 rl:gT H LA fE N ls
 sl:∀k,(ss k).length=n
 ll:∀k,(ls k).length=n
 l5:N<=500
theorem AV.same{H H':Hp}{SA LA:Addr}{fj fE:List Addr}{n N:Nat}{ss ls:Nat->List (Option Nat)}(h:AV H SA LA fj fE n N ss ls)(s:aG H H'):AV H' SA LA fj fE n N ss ls:=⟨h.rs.same s,h.rl.same s,h.sl,h.ll,h.l5⟩
def AE(ss ls:Nat->List (Option Nat))(N l cq:Nat):Option Nat:=((List.range N).find? fun k=>((ss k).getD l none).isSome&&decide ((ls k).getD l none=some cq)).map (·+1)
noncomputable def Dw(ts:Ts)(cq:Nat)(a b:Option Nat):Bool:=a.isSome&&(!decide (a=b)&&decide (far ts (a.getD 0) cq<=far ts (b.getD 0) cq))
noncomputable def FV(ts:Ts)(ss ls:Nat->List (Option Nat))(N l cq:Nat):List Nat:=(List.range N).filter fun k=>Dw ts cq ((ss k).getD l none) ((ls k).getD l none)
section
variable {P:Program} {w:World} {K:PySem.W.Frag} {mg:Str->Option Value} {base:Heap}
theorem Tv:aH ["stands","log","letter","beat"] ["stands","log","letter","beat"] (aq To):=⟨rfl,rfl,rfl,by decide +kernel,rfl,by decide +kernel,by decide +kernel⟩
def FW(K:PySem.W.Frag):Sp:=fun vs H Q _=>∃ (SA LA:Addr) (fj fE:List Addr) (n N:Nat) (ss ls:Nat->List (Option Nat)) (l k:Nat),vs=[.ref SA,.ref LA,.int l,.int k]/\AV H SA LA fj fE n N ss ls/\l<n/\k<N/\Q (.bl ((ss k).getD l none).isSome) H
theorem NR{f:Addr}{fd:FuncData}(F:fH K "is_handed_on" "is_handed_on" To f fd)(B:Bl mg)(W:ce P w K mg base bf 2 "is_whole_within" ["thing","least","most"] (iY K)):bv P w K mg base bf 3 f fd ["stands","log","letter","beat"] (FW K):=by
 refine F.ok Tv (fun vs H Q E h=>?_) (fun cT A outer s H vs Q E hr h=>?_)
 .obtain⟨SA,LA,fj,fE,n,N,ss,ls,l,k,rfl,_⟩:=h;rfl
 .obtain⟨SA,LA,fj,fE,n,N,ss,ls,l,k,rfl,AW,hl,hk,q⟩:=h;have rs:=AW.rs;have rl:=AW.rl;have Wy:=rs.2.2 k (by lia);have a1:=rs.at (k:=k) (by lia);refine⟨_,(ah (b8 (hU (dQ (aA W hr aL (aa (pv 3) (aa aj (aa (aK fR (az aJ (by rfl) B.len dt (aa (pv 1) af)) aj) af)))))) (ao (aV pS)) a9)
   (ao (aV (jS (aA W hr aL (aa (pv 2) (aa aj (aa (aK fR (az aJ (by rfl) B.len dt (aa (aN aF (pv 0) (pv 3) (fun _ _=>rfl)) af)) aj) af)))) (jR (fG mR (aN bV (aN aF (pv 0) (pv 3) (fun _ _=>rfl)) (pv 2) (fun _ _=>rfl)) d8 (aP _))))))),?_⟩
  refine⟨_,rfl,_,rfl,LA,_,rfl,.inl (aQ.of rl.1),_,_,rfl,rfl,_,some (k:Int),_,_,rfl,.int _,_,rfl,qJ (by rw[aB,rl.2.1,lP hk];rfl) ?_⟩;refine⟨_,rfl,_,rfl,_,rfl,SA,_,_,_,rfl,rfl,aQ.of rs.1,a1,_,_,rfl,.inr (bZ.of Wy),_,_,rfl,rfl,_,some (l:Int),_,_,rfl,.int _,true,by rw[aB,AW.sl,lP hl],?_⟩;refine qB ⟨_,rfl,_,rfl,SA,_,_,_,rfl,rfl,aQ.of rs.1,a1,_,rfl,_,_,_,_,rfl,rfl,bZ.of Wy,aE (mv (by rw[AW.sl];exact hl)),rfl,?_⟩;show Q (V.bl (!decide (oV ((ss k).getD l none)=V.bw))) H;rw[tT];exact q
theorem Tw:aH ["stands","log","letter"] ["stands","log","letter"] (aq Tp):=⟨rfl,rfl,rfl,by decide +kernel,rfl,by decide +kernel,by decide +kernel⟩
def Dx:Sp:=fun vs H Q _=>∃ (SA LA:Addr) (fj fE:List Addr) (n N:Nat) (ss ls:Nat->List (Option Nat)) (l:Nat),vs=[.ref SA,.ref LA,.int l]/\AV H SA LA fj fE n N ss ls/\l<n/\∀r H',aG H H'->H' r=some (.lst (NV ((List.range N).filter fun k=>((ss k).getD l none).isSome)))->Q (.ref r) H'
theorem NS{f:Addr}{fd:FuncData}(F:fH K "beats_under_way" "beats_under_way" Tp f fd)(B:Bl mg)(HO:ce P w K mg base bf 3 "is_handed_on" ["stands","log","letter","beat"] (FW K)):bv P w K mg base bf 4 f fd ["stands","log","letter"] Dx:=by
 refine F.ok Tw (fun vs H Q E h=>?_) (fun cT A outer s H vs Q E hr h=>?_)
 .obtain⟨SA,LA,fj,fE,n,N,ss,ls,l,rfl,_⟩:=h;rfl
 .obtain⟨SA,LA,fj,fE,n,N,ss,ls,l,rfl,AW,hl,q⟩:=h;have rl:=AW.rl;have l5:=AW.l5;refine'⟨_,(ao (aV ?c1)),?_⟩;case c1=>
   refine' bt (g:=(bb 0)) (tt:=(tB (jy (FW K) [] E0 (bq (aT 1) (bq (aT 2) (bq (aT 3) (bq (aT 0) eO))))))) (te:=(aT 0)) (NB:=["beat","stands","log","letter"]) (src:=[none,some 0,some 1,some 2]) (br (by kernel_rfl)) rfl (aU rfl B.range (aa (az aJ (by rfl) B.len dt (aa (pv 1) af)) af)) ?g ?t ?e;case g=>exact fun cl C s₃ H₃ fp=>(au (i:=0) f_ rfl (Or.inl rfl) (Or.inr rfl))
   case t=>exact fun cl C s₃ H₃ fp=>dO (dQ (aA HO hr aL (aa (pv 1) (aa (pv 2) (aa (pv 3) (aa (pv 0) af))))))
   case e=>exact fun cl C s₃ H₃ fp=>(pv 0)
  refine⟨_,rfl,LA,_,rfl,.inl (aQ.of rl.1),_,rfl,by lia,by rw[aB,rl.2.1];lia,fun D hD=>?_⟩;rw[aB,rl.2.1,jq];refine tI (lo:=0) (n:=N) (fun k=>((ss k).getD l none).isSome) (fun σ=>∃b,σ=[b,some (.ref SA),some (.ref LA),some (.int (l:Int))]) hD (by lia) ⟨_,rfl⟩ ?_ ?_
  .rintro j σ H5 Kt Kf hj ⟨b',rfl⟩ s5 kt kf;rw[dH] at kt |-;refine⟨_,rfl,_,rfl,_,rfl,_,rfl,SA,LA,fj,fE,n,N,ss,ls,l,j,rfl,AW.same s5,hl,hj,_,rfl,?_⟩;refine cW (fun c=>⟨_,rfl,kt _ _ ⟨_,rfl⟩ (aG.refl _) c⟩) (fun c=>kf _ _ ⟨_,rfl⟩ (aG.refl _) (by simpa using c))
  .intro H5 s5 AD;rw[show (((List.range N).filter fun k=>((ss k).getD l none).isSome).map fun (x:Nat)=>V.int (0+(x:Int)))=NV ((List.range N).filter fun k=>((ss k).getD l none).isSome) from fL fun x _=>by rw[dH]] at AD;exact q D H5 s5 AD
theorem NU:aH ["stands","log","letter","beats"] ["stands","log","letter"] (aq Tq):=⟨rfl,rfl,rfl,by decide +kernel,rfl,by decide +kernel,by decide +kernel⟩
def JT:Sp:=fun vs H Q _=>∃ (SA LA:Addr) (fj fE:List Addr) (n N:Nat) (ss ls:Nat->List (Option Nat)) (l:Nat),vs=[.ref SA,.ref LA,.int l]/\AV H SA LA fj fE n N ss ls/\l<n/\∀r H',aG H H'->H r=none->H' r=some (.lst (NV (FU ss ls N l)))->Q (.ref r) H'
theorem NW{f:Addr}{fd:FuncData}(F:fH K "waited_at" "waited_at" Tq f fd)(BU:ce P w K mg base bf 4 "beats_under_way" ["stands","log","letter"] Dx):bv P w K mg base bf 5 f fd ["stands","log","letter"] JT:=by
 refine F.ok NU (fun vs H Q E h=>?_) (fun cT A outer s H vs Q E hr h=>?_)
 .obtain⟨SA,LA,fj,fE,n,N,ss,ls,l,rfl,_⟩:=h;rfl
 .obtain⟨SA,LA,fj,fE,n,N,ss,ls,l,rfl,AW,hl,q⟩:=h;have l5:=AW.l5;refine'⟨_,(ah (aw (i:=3) NU.nd rfl (Or.inl rfl) (aA BU hr aL (aa (pv 0) (aa (pv 1) (aa (pv 2) af)))))
   (ao (aV ?c1))),?_⟩
  case c1=>
   refine' bt (g:=(bb 0)) (tt:=(ku (gW (Q5) (gW (zK K) (gW (pC K) (aT 1) (aT 0)) (aT 2)) (gW (zK K) (gW (pC K) (aT 3) (aT 0)) (aT 2))))) (te:=(aT 0)) (NB:=["beat","log","letter","stands"]) (src:=[none,some 1,some 2,some 0]) (br (by kernel_rfl)) rfl (bH (pv 3)) ?g ?t ?e;case g=>exact fun cl C s₃ H₃ fp=>(au (i:=0) gb rfl (Or.inl rfl) (Or.inr rfl))
   case t=>exact fun cl C s₃ H₃ fp=>dO (aD d_ (aN bV (aN aF (pv 1) (pv 0) (fun _ _=>rfl)) (pv 2) (fun _ _=>rfl)) (aN bV (aN aF (pv 3) (pv 0) (fun _ _=>rfl)) (pv 2) (fun _ _=>rfl)) (aP _))
   case e=>exact fun cl C s₃ H₃ fp=>(pv 0)
  refine⟨_,rfl,_,rfl,_,rfl,SA,LA,fj,fE,n,N,ss,ls,l,rfl,AW,hl,fun r H1 s1 pf=>?_⟩;refine⟨_,rfl,r,rfl,⟨_,aQ.of pf⟩,fun D hD=>?_⟩;refine zh ((List.range N).filter fun k=>((ss k).getD l none).isSome) (fun (k:Nat)=>V.int (k:Int)) (fun k=>decide ((ss k).getD l none=(ls k).getD l none)) (fun (k:Nat)=>V.int (k:Int)) (fun σ=>∃b,σ=[b,some (.ref LA),some (.int (l:Int)),some (.ref SA)]) pf hD (a7 (io _ _) (by rw[cG];lia)) ⟨_,rfl⟩ ?_ ?_
  .rintro k σ H5 Kt Kf hk ⟨b',rfl⟩ s5 kt kf;have Ld:k<N:=bG.mp (cY.mp hk).1;have L5:=AW.same (s1.trans s5);refine⟨_,rfl,_,rfl,LA,_,_,_,rfl,rfl,aQ.of L5.rl.1,L5.rl.at Ld,_,rfl,_,_,_,_,rfl,rfl,bZ.of (L5.rl.2.2 k Ld),aE (mv (by rw[L5.ll];exact hl)),?_⟩;refine⟨_,rfl,_,rfl,SA,_,_,_,rfl,rfl,aQ.of L5.rs.1,L5.rs.at (by lia),_,rfl,_,_,_,_,rfl,rfl,bZ.of (L5.rs.2.2 k (by lia)),aE (mv (by rw[L5.sl];exact hl)),tU,_,rfl,?_⟩;rw[Hr];refine cW (fun c=>⟨_,rfl,kt _ _ ⟨_,rfl⟩ (aG.refl _) (dZ (eG c).symm)⟩) (fun c=>kf _ _ ⟨_,rfl⟩ (aG.refl _) (dY fun z=>c (dZ z.symm)))
  .intro H5 s5 AD;refine q D H5 (s1.trans s5) (s1.free hD) ?_;rw[AD,v_];unfold FU;simp only[Bool.and_comm]
theorem NX:aH ["homes","stands","log","letter","beat"] ["homes","stands","log","letter"] (aq Tt):=⟨rfl,rfl,rfl,by decide +kernel,rfl,by decide +kernel,by decide +kernel⟩
def JU:Sp:=fun vs H Q _=>∃ (a SA LA:Addr) (fj fE:List Addr) (homes:List Nat) (n N:Nat) (ss ls:Nat->List (Option Nat)) (l:Nat),vs=[.ref a,.ref SA,.ref LA,.int l]/\H a=some (.tup (NV homes))/\homes.length=n/\AV H SA LA fj fE n N ss ls/\l<n/\∀H',aG H H'->Q (oV (AE ss ls N l (homes.getD l 0))) H'
theorem NY{f:Addr}{fd:FuncData}(F:fH K "home_at" "home_at" Tt f fd)(BU:ce P w K mg base bf 4 "beats_under_way" ["stands","log","letter"] Dx):bv P w K mg base bf 5 f fd ["homes","stands","log","letter"] JU:=by
 refine F.ok NX (fun vs H Q E h=>?_) (fun cT A outer s H vs Q E hr h=>?_)
 .obtain⟨a,SA,LA,fj,fE,homes,n,N,ss,ls,l,rfl,_⟩:=h;rfl
 .obtain⟨a,SA,LA,fj,fE,homes,n,N,ss,ls,l,rfl,ha,hn,LG,hl,q⟩:=h;refine⟨_,(ah (cA dq rfl (bH (aA BU hr aL (aa (pv 1) (aa (pv 2) (aa (pv 3) af))))) (au (i:=4) NX.nd rfl (Or.inl rfl))
    (ao (b8 (aD d_ (aN bV (aN aF (pv 2) (pv 4) (fun _ _=>rfl)) (pv 3) (fun _ _=>rfl)) (aN bV (pv 0) (pv 3) (fun _ _=>rfl)) (aP _)) (ao (aV (aK b_ (pv 4) aj))) a9)))
   (ao (aV d8))),?_⟩
  refine⟨_,rfl,_,rfl,_,rfl,SA,LA,fj,fE,n,N,ss,ls,l,rfl,LG,hl,fun r H1 s1 pf=>⟨r,rfl,⟨_,aQ.of pf⟩,?_⟩⟩;have q1:=q H1 s1;have L1:=LG.same s1;have eW:AE ss ls N l (homes.getD l 0)=((((List.range N).filter fun k=>((ss k).getD l none).isSome).find? fun k=>decide ((ls k).getD l none=some (homes.getD l 0))).map (·+1)):=by
   unfold AE;rw[List.find?_filter];refine congrArg _ (congrArg (fun p=>List.find? p (List.range N)) (funext fun k=>?_));rw[gZ];simp
  rw[eW] at q1;have hm:∀k∈(List.range N).filter fun k=>((ss k).getD l none).isSome,k<N:=fun k hk=>bG.mp (cY.mp hk).1;generalize (List.range N).filter (fun k=>((ss k).getD l none).isSome)=us at *;refine iP (K:=K) (xs:=NV us) (fun j σ H2=>(∃x,σ=[some (.ref a),some (.ref SA),some (.ref LA),some (.int (l:Int)),x])/\H1=H2/\us.find? (fun k=>decide ((ls k).getD l none=some (homes.getD l 0)))=(us.drop j).find? fun k=>decide ((ls k).getD l none=some (homes.getD l 0))) ⟨⟨_,rfl⟩,rfl,rfl⟩ (fun j σ H2 _ z=>by rw[<-z.2.1];exact aQ.of pf) ?_ ?_
  .rintro j x σ _ hx ⟨⟨x4,rfl⟩,rfl,ef⟩;obtain⟨k,hv,rfl⟩:=Nl hx;have hj:j<us.length:=(cD.mp hv).1;have hk:=hm k (cE hv);have ed:us.drop j=k::us.drop (j+1):=by
    rw[nj hj];congr 1;exact(cD.mp hv).2
   rw[ed,iG] at ef;refine⟨_,rfl,_,rfl,LA,_,_,_,rfl,rfl,aQ.of L1.rl.1,L1.rl.at hk,_,rfl,_,_,_,_,rfl,rfl,bZ.of (L1.rl.2.2 k hk),aE (mv (by rw[L1.ll];exact hl)),?_⟩;refine⟨_,rfl,_,rfl,a,_,_,_,rfl,rfl,bZ.of (s1 _ _ ha),aE (oT (by lia)),Dv,_,rfl,?_⟩;rw[Hs];refine cW (fun c=>?_) (fun c=>?_)
   .rw[c] at ef;have ef:us.find? (fun k=>decide ((ls k).getD l none=some (homes.getD l 0)))=some k:=ef;rw[ef] at q1;exact⟨_,rfl,_,_,rfl,rfl,q1⟩
   .rw[Bool.not_eq_true _ |>.mp c] at ef;exact⟨⟨_,rfl⟩,rfl,ef⟩
  .rintro σ _ ⟨⟨x4,rfl⟩,rfl,ef⟩;rw[dF,List.drop_length] at ef;have ef:us.find? (fun k=>decide ((ls k).getD l none=some (homes.getD l 0)))=none:=ef;rw[ef] at q1;exact q1
theorem tV:aH ["net","homes","stand","handing","letter","house","goes"] ["net","homes","stand","handing","letter"] (aq xM):=⟨rfl,rfl,rfl,by decide +kernel,rfl,by decide +kernel,by decide +kernel⟩
def ng(C:Addr):Sp:=fun vs H Q _=>∃ (L:Addr->Prop) (p:Addr) (n:Nat) (ts:Ts) (ha:Addr) (homes:List Nat) (sa:Addr) (st:List (Option Nat)) (fa:Addr) (fs:List (Option Nat)) (j h y:Nat),vs=[.ref p,.ref ha,.ref sa,.ref fa,.int j]/\ix C H L p n ts/\H ha=some (.tup (NV homes))/\H sa=some (.tup (st.map oV))/\H fa=some (.tup (fs.map oV))/\j<st.length/\j<fs.length/\j<homes.length/\homes.getD j 0<n/\st.getD j none=some h/\fs.getD j none=some y/\h<n/\y<n/\Q (.bl (Dw ts (homes.getD j 0) (some h) (some y))) H
theorem Dy{f C:Addr}{fd:FuncData}(F:fH K "is_led" "is_led" xM f fd)(T:NT K mg C)(MF:CG P w K mg base bf 5 C "far" ["self","one","other"] (xv C)):bv P w K mg base bf 6 f fd ["net","homes","stand","handing","letter"] (ng C):=by
 obtain⟨fF,fdF,mF,bF,GF⟩:=MF.ex;refine F.ok tV (fun vs H Q E h=>?_) (fun cT A outer s H vs Q E hr h=>?_)
 .obtain⟨L,p,n,ts,ha,homes,sa,st,fa,fs,j,h,y,rfl,_⟩:=h;rfl
 .obtain⟨L,p,n,ts,ha,homes,sa,st,fa,fs,j,h,y,rfl,N,Wz,Zz,Tx,l1,l2,l3,hm,eh,ey,hn,yn,q⟩:=h;refine⟨_,(ah (aw (i:=5) tV.nd rfl (Or.inl rfl) (aN bV (pv 2) (pv 4) (fun _ _=>rfl)))
   (ah (aw (i:=6) tV.nd rfl (Or.inl rfl) (aN bV (pv 3) (pv 4) (fun _ _=>rfl)))
   (ah (b8 (PW.pt (og (aD wF (pv 6) d8 (aP _)) (oe (aD d_ (pv 6) (pv 5) (aP _))))) (ao (aV pS)) a9)
   (ao (aV (fG GK (mT (pv 0) T.cl mF GF hr bF .nil aL (aa (pv 6) (aa (aN bV (pv 1) (pv 4) (fun _ _=>rfl)) af))) (mT (pv 0) T.cl mF GF hr bF .nil aL (aa (pv 5) (aa (aN bV (pv 1) (pv 4) (fun _ _=>rfl)) af))) (aP _))))))),?_⟩
  refine⟨_,rfl,_,rfl,sa,_,_,_,rfl,rfl,bZ.of Zz,aE (mv l1),?_⟩;refine⟨_,rfl,_,rfl,fa,_,_,_,rfl,rfl,bZ.of Tx,aE (mv l2),?_⟩;obtain⟨dx,tl,ol,ds,hN,_⟩:=N.ob;have hh:=oT (xs:=homes) (j:=j) l3;rw[eh,ey];unfold Dw at q;refine⟨_,rfl,rfl,_,rfl,qJ rfl ⟨_,rfl,_,rfl,rfl,_,rfl,?_⟩⟩;have q:Q (.bl (!decide (some h=some y)&&decide (far ts h (homes.getD j 0)<=far ts y (homes.getD j 0)))) H:=q;by_cases c:h=y
  .subst c;rw[dZ rfl];rw[dZ rfl] at q;exact qB q
  .rw[dY (show ¬ some h=some y from fun z=>c (bE z))] at q;refine qJ (dY fun z=>by injection z with z;exact c (cZ z).symm) ?_;refine⟨_,rfl,p,dx,_,rfl,hN,M9 _ _ _ _,_,rfl,_,rfl,_,rfl,ha,_,_,_,rfl,rfl,bZ.of Wz,aE hh,L,p,n,ts,y,_,rfl,N,yn,hm,?_⟩;refine⟨_,rfl,p,dx,_,rfl,hN,M9 _ _ _ _,_,rfl,_,rfl,_,rfl,ha,_,_,_,rfl,rfl,bZ.of Wz,aE hh,L,p,n,ts,h,_,rfl,N,hn,hm,?_⟩;refine⟨_,_,rfl,rfl,?_⟩;show Q (.bl (decide (((far ts h (homes.getD j 0):Nat):Int)<=((far ts y (homes.getD j 0):Nat):Int)))) H;rw[show decide (((far ts h (homes.getD j 0):Nat):Int)<=((far ts y (homes.getD j 0):Nat):Int))=decide (far ts h (homes.getD j 0)<=far ts y (homes.getD j 0)) from decide_eq_decide.mpr (by lia)];exact q
theorem NZ:aH ["net","homes","stands","log","letter","beats"] ["net","homes","stands","log","letter"] (aq Tu):=⟨rfl,rfl,rfl,by decide +kernel,rfl,by decide +kernel,by decide +kernel⟩
def Ck(n:Nat)(ss ls:Nat->List (Option Nat))(N l:Nat):Prop:=∀k h,k<N->(ss k).getD l none=some h->h<n/\∃y,(ls k).getD l none=some y/\y<n
def JV(C:Addr):Sp:=fun vs H Q _=>∃ (L:Addr->Prop) (p:Addr) (nn:Nat) (ts:Ts) (a SA LA:Addr) (fj fE:List Addr) (homes:List Nat) (n N:Nat) (ss ls:Nat->List (Option Nat)) (l:Nat),vs=[.ref p,.ref a,.ref SA,.ref LA,.int l]/\ix C H L p nn ts/\H a=some (.tup (NV homes))/\homes.length=n/\AV H SA LA fj fE n N ss ls/\l<n/\homes.getD l 0<nn/\Ck nn ss ls N l/\∀r H',aG H H'->H r=none->H' r=some (.lst (NV (FV ts ss ls N l (homes.getD l 0))))->Q (.ref r) H'
theorem N0{f C:Addr}{fd:FuncData}(F:fH K "led_at" "led_at" Tu f fd)(BU:ce P w K mg base bf 4 "beats_under_way" ["stands","log","letter"] Dx)(LD:ce P w K mg base bf 6 "is_led" ["net","homes","stand","handing","letter"] (ng C)):bv P w K mg base bf 7 f fd ["net","homes","stands","log","letter"] (JV C):=by
 refine F.ok NZ (fun vs H Q E h=>?_) (fun cT A outer s H vs Q E hr h=>?_)
 .obtain⟨L,p,nn,ts,a,SA,LA,fj,fE,homes,n,N,ss,ls,l,rfl,_⟩:=h;rfl
 .obtain⟨L,p,nn,ts,a,SA,LA,fj,fE,homes,n,N,ss,ls,l,rfl,NA,ha,hn,LG,hl,hm,RU,q⟩:=h;have h4:cI 4 _:=hr.mono (by decide);have l5:=LG.l5;refine'⟨_,(ah (aw (i:=5) NZ.nd rfl (Or.inl rfl) (aA BU h4 aL (aa (pv 2) (aa (pv 3) (aa (pv 4) af)))))
   (ao (aV ?c1))),?_⟩
  case c1=>
   refine' bt (g:=(bb 0)) (tt:=(tB (jy (ng C) [] E0 (bq (aT 1) (bq (aT 2) (bq (gW (pC K) (aT 3) (aT 0)) (bq (gW (pC K) (aT 4) (aT 0)) (bq (aT 5) eO)))))))) (te:=(aT 0)) (NB:=["beat","net","homes","stands","log","letter"]) (src:=[none,some 0,some 1,some 2,some 3,some 4]) (br (by kernel_rfl)) rfl (bH (pv 5)) ?g ?t ?e;case g=>exact fun cl C s₃ H₃ fp=>(au (i:=0) dM rfl (Or.inl rfl) (Or.inr rfl))
   case t=>exact fun cl C s₃ H₃ fp=>dO (dQ (aA LD hr aL (aa (pv 1) (aa (pv 2) (aa (aN aF (pv 3) (pv 0) (fun _ _=>rfl)) (aa (aN aF (pv 4) (pv 0) (fun _ _=>rfl)) (aa (pv 5) af)))))))
   case e=>exact fun cl C s₃ H₃ fp=>(pv 0)
  refine⟨_,rfl,_,rfl,_,rfl,SA,LA,fj,fE,n,N,ss,ls,l,rfl,LG,hl,fun r H1 s1 pf=>?_⟩;refine⟨_,rfl,r,rfl,⟨_,aQ.of pf⟩,fun D hD=>?_⟩;refine zh ((List.range N).filter fun k=>((ss k).getD l none).isSome) (fun (k:Nat)=>V.int (k:Int)) (fun k=>Dw ts (homes.getD l 0) ((ss k).getD l none) ((ls k).getD l none)) (fun (k:Nat)=>V.int (k:Int)) (fun σ=>∃b,σ=[b,some (.ref p),some (.ref a),some (.ref SA),some (.ref LA),some (.int (l:Int))]) pf hD (a7 (io _ _) (by rw[cG];lia)) ⟨_,rfl⟩ ?_ ?_
  .rintro k σ H5 Kt Kf hk ⟨b',rfl⟩ s5 kt kf;obtain⟨VB,RQ⟩:=cY.mp hk;have Ld:k<N:=bG.mp VB;obtain⟨h,eh⟩:=qQ.mp RQ;obtain⟨hh,y,ey,hy⟩:=RU k h Ld eh;have N2:=s1.trans s5;have L5:=LG.same N2;refine⟨_,rfl,_,rfl,_,rfl,_,rfl,SA,_,_,_,rfl,rfl,aQ.of L5.rs.1,L5.rs.at (by lia),_,rfl,_,rfl,LA,_,_,_,rfl,rfl,aQ.of L5.rl.1,L5.rl.at Ld,_,rfl,?_⟩;refine⟨L,p,nn,ts,a,homes,_,ss k,_,ls k,l,h,y,rfl,NA.same N2,N2 _ _ ha,L5.rs.2.2 k (by lia),L5.rl.2.2 k Ld,by rw[LG.sl];exact hl,by rw[LG.ll];exact hl,by lia,hm,eh,ey,hh,hy,_,rfl,?_⟩;rw[eh,ey] at kt kf;exact cW (fun c=>⟨_,rfl,kt _ _ ⟨_,rfl⟩ (aG.refl _) c⟩) (fun c=>kf _ _ ⟨_,rfl⟩ (aG.refl _) (by simpa using c))
  .intro H5 s5 AD;refine q D H5 (s1.trans s5) (s1.free hD) ?_;rw[AD,v_];unfold FV Dw;refine congrArg (fun z=>some (HO.lst (NV z))) (List.filter_congr fun k _=>?_);cases ((ss k).getD l none).isSome <;> simp
end
abbrev Tz:Stmt:=gG 47
def f8(p q:Addr)(H H':Hp):Prop:=∀b o,H b=some o->b≠p->b≠q->H' b=some o
theorem f8.trans{p q:Addr}{H H1 H2:Hp}(a:f8 p q H H1)(b:f8 p q H1 H2):f8 p q H H2:=fun c o h n m=>b c o (a c o h n m) n m
theorem f8.WA{p q:Addr}{H H1:Hp}(a:av p H H1):f8 p q H H1:=fun c o h n _=>a c o h n
theorem f8.of{p q:Addr}{H H1:Hp}(a:aG H H1):f8 p q H H1:=fun c o h _ _=>a c o h
theorem df.Ht{p q:Addr}{H H':Hp}{O:Addr}{as:List Addr}{n:Nat}{T:List (Int×Int)}(g:df p H O as n T)(s:f8 p q H H')(nq:O≠q)(Le:∀h,h<n->as.getD h 0≠q):df p H' O as n T:=
 ⟨s _ _ g.at_ g.np nq,g.len,fun h hh=>let ⟨js,e,r⟩:=g.rows h hh;⟨js,s _ _ e (g.P6 h hh) (Le h hh),r⟩,g.np,g.P6⟩
theorem JW{s:List (Option Int)}{i:Nat}{h:Int}:(SV s).set i (.int h)=SV (s.set i (some h)):=(List.map_set (f:=pi) (l:=s) (i:=i) (a:=some h)).symm
theorem Dz{s:List (Option Int)}{i j:Nat}{x:Option Int}(hi:i<s.length):(s.set i x).getD j none=if i=j then x else s.getD j none:=by
 rw[bh,wd];by_cases c:i=j
 .subst c;rw[ap rfl,ap rfl,ap hi];rfl
 .rw[ak c,ak c,<-bh]
theorem qN{h k:Int}:∀ {s:List (Option Int)} {i:Nat},i<s.length->s.getD i none=none->(s.set i (some h)).count (some k)=s.count (some k)+if h=k then 1 else 0
 |[],i,hi,_=>absurd hi (rh _)
 |x::s,0,_,e=>by
  have e:x=none:=e;subst e;rw[List.set_cons_zero,jI,jI];by_cases c:h=k
  .simp[c]
  .simp[c]
 |x::s,i+1,hi,e=>by
  have ih:=qN (h:=h) (k:=k) (s:=s) (i:=i) (Nat.lt_of_succ_lt_succ hi) e;rw[List.set_cons_succ,jI,jI,ih];lia
theorem ij.put{n:Nat}{T:List (Int×Int)}{wt:Bool}{s:List (Option Int)}{i:Nat}{h:Int}(S:ij n T wt s)(hi:i<s.length)(e:s.getD i none=none)(h0:0<=h/\h<n)(lt:s.count (some h)<(cL T h).length):ij n T wt (s.set i (some h)):=by
 refine⟨fun k hk=>?_,fun w k=>?_⟩
 .rcases A8 hk with z|z
  .exact S.rg k z
  .cases z;exact h0
 .rw[qN hi e];have:=S.P7 w k;by_cases c:h=k
  .subst c;rw[ap rfl];lia
  .rw[ak c];lia
theorem DA{rs:List Int}{z:Int}(h:z∈rs):(z::rs.eraseIdx (rs.idxOf z)).Perm rs:=by
 have lt:rs.idxOf z<rs.length:=List.idxOf_lt_length_of_mem h;have:=j8 lt;rwa [show rs.getD (rs.idxOf z) 0=z by rw[bh,bD lt];exact List.getElem_idxOf lt] at this
section
variable {P:Program} {w:World} {K:PySem.W.Frag} {mg:Str->Option Value} {base:Heap}
theorem FX:aH ["_law_pot_here","_law_outs_here","_law_homes_here","_law_stand","_law_left","_law_found","_law_i","_law_house"] ["_law_pot_here","_law_outs_here","_law_homes_here","_law_stand","_law_left"] (aq Tz):=⟨rfl,rfl,rfl,by decide +kernel,rfl,by decide +kernel,by decide +kernel⟩
structure JX(n:Nat)(T:List (Int×Int))(wt:Bool)(m:Nat)(st a6:List (Option Int))(lf Lf:List Int):Prop where
 len:a6.length=m
 ok:ij n T wt a6
 nd:Lf.Nodup
 sub:∀x∈Lf,x∈lf
 out:∀j,j<m->(j:Int)∉lf->a6.getD j none=st.getD j none
 bw:∀x∈Lf,a6.getD x.toNat none=none
def JY:Sp:=fun vs H Q _=>∃ (p O a b q:Addr) (wt:Bool) (as:List Addr) (n m:Nat) (T:List (Int×Int)) (hs:List Int) (st:List (Option Int)) (lf:List Int),vs=[.ref p,.ref O,.ref a,.ref b,.ref q]/\aR H p/\df p H O as n T/\O≠q/\(∀h,h<n->as.getD h 0≠q)/\q≠p/\mJ n T/\1<=n/\n<=32/\H a=some (.tup (IV hs))/\hs.length=m/\H b=some (.tup (SV st))/\st.length=m/\m<=16/\ij n T wt st/\H q=some (.lst (IV lf))/\lf.Nodup/\(∀x∈lf,0<=x/\x<m/\st.getD x.toNat none=none)/\
 ∀ (r:Addr) (a6:List (Option Int)) (Lf:List Int) (H':Hp),f8 p q H H'->aR H' p->H r=none->H' r=some (.tup (SV a6))->H' q=some (.lst (IV Lf))->JX n T wt m st a6 lf Lf->Q (.ref r) H'
theorem N3{f:Addr}{fd:FuncData}(F:fH K "_law_let_in" "_law_let_in" Tz f fd)(B:Bl mg)(T0:ce P w K mg base bf 1 "_law_take" ["_law_pot_here","_law_many"] jh):bv P w K mg base bf 2 f fd ["_law_pot_here","_law_outs_here","_law_homes_here","_law_stand","_law_left"] JY:=by
 refine F.ok FX (fun vs H Q E h=>?_) (fun cT A outer s H vs Q E hr h=>?_)
 .obtain⟨p,O,a,b,q,wt,as,n,m,T,hs,st,lf,rfl,_⟩:=h;rfl
 .obtain⟨p,O,a,b,lq,wt,as,n,m,T,hs,st,lf,rfl,hp,ou,Qh,Le,JZ,ti,n1,xF,ha,hl,hb,sl,Lb,so,hq,nd,lr,q⟩:=h;have Do:a≠p:=hp.neT ha;have ZA:a≠lq:=by rintro rfl;rw[ha] at hq;cases hq
  have lfl:lf.length<=m:=kX nd fun x hx=>⟨(lr x hx).1,(lr x hx).2.1⟩
  refine⟨_,(ah (aw (i:=5) FX.nd rfl (Or.inl rfl) (bA dB (by rfl) B.lst jo (aa (pv 3) af)))
   (ah (cA dq rfl (bH (bA dB (by rfl) B.lst jo (aa (pv 4) af))) (au (i:=6) FX.nd rfl (Or.inl rfl))
    (ah (aw (i:=7) FX.nd rfl (Or.inl rfl) (aA T0 hr aL (aa (pv 0) (aa (az aJ (by rfl) B.len dt (aa (pv 1) af)) af))))
    (ao (b8 (PW.pt (gw (aD d_ (aA T0 hr aL (aa (pv 0) (aa aj af))) aj (aP _)) (gw (aD pU (pv 7) (aN bV (pv 2) (pv 6) (fun _ _=>rfl)) (aP _)) (gj (aD mf (dz di qS qR kI (pv 5) (aa (pv 7) af)) (az aJ (by rfl) B.len dt (aa (aN aF (pv 1) (pv 7) (fun _ _=>rfl)) af)) (aP _)))))) (ah (d9 (pv 7) (hV (pv 5) (pv 6) ee))
     (ao (bK (dz di PySem.F.slot_list_remove PySem.F.type_list_remove Ad (pv 4) (aa (pv 6) af))))) a9))))
   (ao (aV (bA cU (by rfl) B.tup nu (aa (pv 5) af)))))),?_⟩
  refine⟨_,rfl,b,_,rfl,.inr (bZ.of hb),fun Fd Qi=>?_⟩;have s1:=ag (o:=.lst (SV st)) Qi;refine⟨_,rfl,lq,_,rfl,.inl (aQ.of (s1 _ _ hq)),fun Cp TB=>?_⟩;have s2:=s1.trans (ag (o:=.lst (IV lf)) TB);have WB:H Cp=none:=s1.free TB;have WC:Fd≠Cp:=ai ab TB;have N4:Fd≠p:=hp.ne Qi;have WD:Fd≠lq:=(ai hq Qi).symm;have ZB:Cp≠lq:=(ai hq WB).symm;have J0:Cp≠p:=hp.ne WB;refine⟨Cp,rfl,⟨_,aQ.of ab⟩,iP (K:=K) (xs:=IV lf) (fun i σ Hc=>∃ (fs:List (Option Int)) (rs:List Int),(∃x y,σ=[some (.ref p),some (.ref O),some (.ref a),some (.ref b),some (.ref lq),some (.ref Fd),x,y])/\f8 p lq H Hc/\aR Hc p/\Hc Cp=some (.lst (IV lf))/\Hc Fd=some (.lst (SV fs))/\Hc lq=some (.lst (IV rs))/\JX n T wt m st fs lf rs/\∀x∈lf.drop i,x∈rs) ?_ (fun i σ Hc _ z=>by obtain⟨fs,rs,_,_,_,z,_⟩:=z;exact aQ.of z) ?_ ?_⟩
  .refine⟨st,lf,⟨_,_,rfl⟩,f8.of s2,hp.same s2,ab,by rw[am WC];exact ab,s2 _ _ hq,⟨sl,so,nd,fun x hx=>hx,fun j _ _=>rfl,fun x hx=>(lr x hx).2.2⟩,fun x hx=>nG hx⟩
  .rintro i x σ Hc hx ⟨fs,rs,⟨x6,x7,rfl⟩,sc,pc,WE,TC,Hu,R,Qj⟩;obtain⟨hi,rfl⟩:=tP hx;have PP:lf.getD i 0∈lf:=dL hi;have GU:lf.drop i=lf.getD i 0::lf.drop (i+1):=by
    rw[nj hi,bh,bD hi];rfl
   have WF:(lf.drop i).Nodup:=nd.sublist (List.drop_sublist _ _);rw[GU] at Qj WF;obtain⟨x0,xm,Wc⟩:=lr _ PP;generalize lf.getD i 0=z at *;obtain⟨zn,rfl⟩:∃k:Nat,z=(k:Int):=⟨z.toNat,by lia⟩
   have TD:(zn:Int)∈rs:=Qj _ cz;have J1:∀x∈lf.drop (i+1),x∈rs/\x≠(zn:Int):=fun x hx=>⟨Qj x (b9 _ hx),fun e=>(cX.mp WF).1 (e ▸ hx)⟩
   have Qd:=ou.Ht sc Qh Le;refine⟨_,rfl,_,rfl,O,_,rfl,.inl (aQ.of Qd.at_),p,n,by rw[aB,ou.len];rfl,by lia,by lia,pc,fun d H3 hd s3 p3=>?_⟩;have Qk:=sc.trans (f8.WA (q:=lq) s3);have NM:=ou.Ht Qk Qh Le;have WG:=s3 _ _ WE J0;have TF:=s3 _ _ TC N4;have Mt:=s3 _ _ Hu JZ;refine iu (fun σ H4=>H3=H4/\σ=[some (.ref p),some (.ref O),some (.ref a),some (.ref b),some (.ref lq),some (.ref Fd),some (.int (zn:Int)),some (.int (d:Int))]) ?_ (fun N hN=>hN _ _ ⟨rfl,rfl⟩);rintro σ _ ⟨rfl,rfl⟩;refine oM (fun H4=>av p H3 H4/\aR H4 p/\fs.count (some (d:Int))<(cL T d).length) (fun H4=>av p H3 H4/\aR H4 p) ?_ ?_ ?_
   .rintro H4 ⟨s4,p4,cnt⟩;have Ql:=s4 _ _ TF N4;have Qm:=s4 _ _ Mt JZ;have Qn:zn<fs.length:=by rw[R.len];lia
    have fz:fs.getD zn none=none:=R.bw _ TD;refine⟨_,rfl,_,rfl,_,rfl,Fd,_,(zn:Int),zn,rfl,rfl,Ql,gn (by rw[aB];exact Qn),?_⟩;rw[JW];have WH:(upd H4 Fd (.lst (SV (fs.set zn (some (d:Int)))))) lq=some (.lst (IV rs)):=by rw[am WD.symm];exact Qm
    refine⟨_,rfl,.inl ⟨rfl,_,aQ.of WH⟩,_,rfl,lq,rs,_,rfl,rfl,WH,TD,?_⟩;have pm:=DA TD;have G_:((zn:Int)::rs.eraseIdx (rs.idxOf (zn:Int))).Nodup:=pm.nodup_iff.mpr R.nd;have mem:∀x,x∈rs.eraseIdx (rs.idxOf (zn:Int))->x∈rs/\x≠(zn:Int):=fun x hx=>⟨pm.mem_iff.mp (b9 _ hx),fun e=>(cX.mp G_).1 (e ▸ hx)⟩
    have TH:∀x,x∈rs->x≠(zn:Int)->x∈rs.eraseIdx (rs.idxOf (zn:Int)):=fun x hx ne=>(cn.mp (pm.mem_iff.mpr hx)).resolve_left ne;generalize rs.eraseIdx (rs.idxOf (zn:Int))=ZC at *;refine⟨fs.set zn (some (d:Int)),ZC,⟨_,_,rfl⟩,fun c o e np nq=>?_,(p4.put N4.symm).put JZ.symm,?_,?_,ab,⟨by rw[iF];exact R.len,R.ok.put Qn fz (by lia) cnt,(cX.mp G_).2,fun x hx=>R.sub x (mem x hx).1,fun j hj WI=>?_,fun x hx=>?_⟩,fun x hx=>TH x (J1 x hx).1 (J1 x hx).2⟩
    .rw[am nq,am (ai e Qi)];exact s4 _ _ (Qk _ _ e np nq) np
    .rw[am ZB,am WC.symm];exact s4 _ _ WG J0
    .rw[am WD,ab]
    .rw[Dz Qn,ak (fun e=>WI (by rw[<-e];exact PP))];exact R.out j hj WI
    .have ne:=(mem x hx).2;have x0':=(lr x (R.sub x (mem x hx).1)).1;rw[Dz Qn,ak (fun e=>ne (by lia))];exact R.bw x (mem x hx).1
   .rintro H4 ⟨s4,p4⟩;exact⟨fs,rs,⟨_,_,rfl⟩,Qk.trans (f8.WA s4),p4,s4 _ _ WG J0,s4 _ _ TF N4,s4 _ _ Mt JZ,R,fun x hx=>(J1 x hx).1⟩
   .intro Y N yy nn;refine⟨_,rfl,p,3,rfl,by decide,by decide,p3,fun e H4 he s4 p4=>⟨rfl,_,rfl,?_⟩⟩;refine cW (fun _=>?_) (fun _=>oN (nn _ ⟨s4,p4⟩));have ZD:H4 a=some (.tup (IV hs)):=s4 _ _ (Qk _ _ ha Do ZA) Do;refine⟨_,rfl,_,rfl,_,rfl,a,_,_,_,rfl,rfl,bZ.of ZD,vf (by lia),rfl,_,rfl,?_⟩;refine cW (fun _=>?_) (fun _=>oN (nn _ ⟨s4,p4⟩));have P9:=NM.fc s4;have Ql:=s4 _ _ TF N4;obtain⟨js,ZE,ZF⟩:=P9.rows d hd;refine⟨_,rfl,.inl ⟨rfl,_,aQ.of Ql⟩,_,rfl,Fd,_,_,rfl,rfl,Ql,rfl,y9,?_⟩;refine⟨_,rfl,_,rfl,O,_,_,_,rfl,rfl,aQ.of P9.at_,tQ (by rw[ou.len];exact hd),_,_,rfl,.inl (aQ.of ZE),_,_,rfl,rfl,_,rfl,?_⟩;rw[oY];refine cW (fun e=>yy _ ⟨s4,p4,?_⟩) (fun _=>nn _ ⟨s4,p4⟩);have e:=eG e;rw[aB,ZF.length_eq] at e;lia
  .rintro σ Hc ⟨fs,rs,⟨x6,x7,rfl⟩,sc,pc,WE,TC,Hu,R,Qj⟩;refine⟨_,rfl,Fd,_,rfl,.inl ⟨aQ.of TC,fun t ht=>?_⟩⟩;have sT:=ag (o:=.tup (SV fs)) ht;refine q t fs rs _ (sc.trans (f8.of sT)) (pc.same sT) ?_ ab (sT _ _ Hu) R;cases z:H t with
   |none=>rfl
   |some o=>
    by_cases c1:t=p
    .subst c1;exact absurd ht pc.full
    .by_cases c2:t=lq
     .subst c2;rw[Hu] at ht;cases ht
     .rw[sc _ _ z c1 c2] at ht;cases ht
end
abbrev TJ:Stmt:=gG 48
theorem vu:(["_law_i","_law_stands"]:List Str).Nodup:=by decide +kernel
structure Wk(n m:Nat)(hs:List Int)(qp lp:List (List (Option Int)))(sl:List (Option Int))(lf:List Int):Prop where
 len:lp.length=qp.length
 ql:∀r∈qp,r.length=m
 ll:∀r∈lp,r.length=m
 qr:∀r∈qp,∀h,some h∈r->0<=h/\h<n
 lr:∀r∈lp,∀h,some h∈r->0<=h/\h<n
 both:∀k j,k<qp.length->j<m->((qp.getD k []).getD j none=none↔(lp.getD k []).getD j none=none)
 once:∀k j,k<qp.length->j<m->(qp.getD k []).getD j none≠none->(lp.getD k []).getD j none=some (hs.getD j 0)->(∀k',k<k'->k'<qp.length->(qp.getD k' []).getD j none=none)/\sl.getD j none=none/\(j:Int)∉lf
theorem Lg{α:Type}{l:List α}{x d:α}{i n:Nat}(h:l.length=n):(l++[x]).getD i d=if i=n then x else l.getD i d:=by
 rw[bh,bh];by_cases hj:i=n
 .subst hj;subst h;rw[ap rfl,pP (a8 _),rE];rfl
 .rw[ak hj];by_cases fw:i<l.length
  .rw[kd fw]
  .rw[pP (by lia),fq (by simp;lia),fq (by lia)]
theorem Hv{hs:List Int}{gs:List (Option Int)}{m j:Nat}(h:j<m):(qM hs gs m).getD j none=Dq hs j (gs.getD j none):=by
 unfold qM;rw[bh,bO,kg h];rfl
theorem Wk.step{n m:Nat}{T:List (Int×Int)}{wt:Bool}{hs:List Int}{qp lp:List (List (Option Int))}{sl o2 hd:List (Option Int)}{lf N5:List Int}(W:Wk n m hs qp lp sl lf)(R:JX n T wt m sl o2 lf N5)(ZG:∀x∈lf,0<=x/\x<m)(hl:hd.length=m)(hn:∀j,j<m->(o2.getD j none=none↔hd.getD j none=none))(hr:∀h,some h∈hd->0<=h/\h<n):Wk n m hs (qp++[o2]) (lp++[hd]) (qM hs hd m) N5/\∀x∈N5,0<=x/\x<m/\(qM hs hd m).getD x.toNat none=none:=by
 have bw:∀j,j<m->o2.getD j none=none->(qM hs hd m).getD j none=none:=fun j hj e=>by
  rw[Hv hj,(hn j hj).mp e];unfold Dq;split <;> rfl
 have FY:∀ {l:List (List (Option Int))} {x:List (Option Int)} {P:List (Option Int)->Prop},(∀r∈l,P r)->P x->∀r∈l++[x],P r:=fun h hx r hr=>(bg.mp hr).elim (h r) fun z=>by rw[bR.mp z];exact hx
 refine⟨⟨by rw[bY,bY,W.len];rfl,FY W.ql R.len,FY W.ll hl,FY W.qr R.ok.rg,FY W.lr hr,fun k j hk hj=>?_,fun k j hk hj h1 h2=>?_⟩,fun x hx=>?_⟩
 .rw[Lg rfl,Lg W.len];by_cases c:k=qp.length
  .rw[ap c,ap c];exact hn j hj
  .rw[ak c,ak c];rw[bY] at hk;exact W.both k j (by have:[o2].length=1:=rfl;lia) hj
 .rw[Lg rfl] at h1;rw[Lg W.len] at h2;rw[bY] at hk;have one:[o2].length=1:=rfl;by_cases c:k=qp.length
  .rw[ap c] at h1 h2;refine⟨fun k' a b=>?_,?_,fun z=>?_⟩
   .rw[bY] at b;lia
   .rw[Hv hj,h2];unfold Dq;rw[ap rfl]
   .exact h1 (by have:=R.bw _ z;rwa [jq] at this)
  .rw[ak c] at h1 h2;obtain⟨a,b,d⟩:=W.once k j (by lia) hj h1 h2;have e2:o2.getD j none=none:=by rw[R.out j hj d];exact b
   refine⟨fun k' x y=>?_,bw j hj e2,fun z=>d (R.sub _ z)⟩;rw[bY] at y;rw[Lg rfl];by_cases e:k'=qp.length
   .rw[ap e];exact e2
   .rw[ak e];exact a k' x (by lia)
 .obtain⟨x0,x1⟩:=ZG x (R.sub x hx);exact⟨x0,x1,bw _ (by lia) (R.bw x hx)⟩
def J2(o:Option Int):Option Nat:=o.map Int.toNat
theorem N6{row:List (Option Int)}(h:∀x,some x∈row->0<=x):SV row=(row.map J2).map oV:=by
 rw[du];refine fL fun o ho=>?_;cases o with
 |none=>rfl
 |some x=>
  show V.int x=V.int ((x.toNat:Nat):Int);rw[l9 (h x ho)]
theorem N7{hs:List Int}(h:∀x∈hs,0<=x):IV hs=NV (hs.map Int.toNat):=by
 unfold IV NV;rw[du];refine fL fun x hx=>?_;show V.int x=V.int ((x.toNat:Nat):Int);rw[l9 (h x hx)]
def mw(m:Nat)(rs:List (List (Option Int)))(k:Nat):List (Option Nat):=(rs.getD k (List.replicate m none)).map J2
theorem vw{m k:Nat}{rs:List (List (Option Int))}(h:∀r∈rs,r.length=m):(mw m rs k).length=m:=by
 unfold mw;rw[aB,bh];by_cases c:k<rs.length
 .rw[bD c];exact h _ (fN c)
 .rw[fq (by lia)];exact ny
theorem tW{m k:Nat}{rs:List (List (Option Int))}(h:k<rs.length):mw m rs k=(rs.getD k []).map J2:=by
 unfold mw;rw[bh,bh,bD h];rfl
theorem DB{row:List (Option Int)}{j:Nat}:(row.map J2).getD j none=J2 (row.getD j none):=by
 rw[bh,bh,bO];cases row[j]? <;> rfl
theorem zi{H:Hp}{a:Addr}{ys:Ys}{m:Nat}(ha:H a=some (.lst (yr ys)))(yo:YO H ys)(h:∀r∈yp ys,∀x,some x∈r->0<=x):gT H a (ys.map (·.1)) ys.length (mw m (yp ys)):=by
 refine⟨by rw[ha];unfold yr;rw[du];rfl,by rw[aB],fun k hk=>?_⟩;have KM:k<(yp ys).length:=by rw[fZ];exact hk
 have e1:(ys.map (·.1)).getD k 0=ys[k].1:=by rw[bh,bO,bD hk];rfl
 have e2:(yp ys).getD k []=ys[k].2:=by unfold yp;rw[bh,bO,bD hk];rfl
 show H _=some (HO.tup ((mw m (yp ys) k).map oV));rw[e1,tW KM,e2,yo _ (fN hk)];rw[N6 fun x hx=>h _ (by unfold yp;exact aW.mpr ⟨_,fN hk,rfl⟩) x hx]
section
variable {P:Program} {w:World} {K:PySem.W.Frag} {mg:Str->Option Value} {base:Heap}
theorem AF:aH ["_law_pot_here","_law_outs_here","_law_homes_here","_law_waits","_law_size","_law_stands","_law_left","_law_log","_law_k"] ["_law_pot_here","_law_outs_here","_law_homes_here","_law_waits","_law_size"] (aq TJ):=⟨rfl,rfl,rfl,by decide +kernel,rfl,by decide +kernel,by decide +kernel⟩
def J3(ss ls:Nat->List (Option Nat))(N l cq:Nat):Prop:=∀k,k<N->((ss k).getD l none).isSome=true->(ls k).getD l none=some cq->∀k',k<k'->k'<N->(ss k').getD l none=none
def J4:Sp:=fun vs H Q _=>∃ (p O a:Addr) (wt:Bool) (sz:Int) (as:List Addr) (n m:Nat) (T:List (Int×Int)) (hs:List Int),vs=[.ref p,.ref O,.ref a,.bl wt,.int sz]/\aR H p/\df p H O as n T/\mJ n T/\1<=n/\n<=32/\H a=some (.tup (IV hs))/\hs.length=m/\m<=16/\(∀x∈hs,0<=x)/\0<=sz/\sz<=500/\
 ∀ (r S L:Addr) (fj fE:List Addr) (ss ls:Nat->List (Option Nat)) (N:Nat) (H':Hp),av p H H'->aR H' p->H' r=some (.tup [.ref S,.ref L])->H S=none->H L=none->S≠L->AV H' S L fj fE m N ss ls->(∀l,l<m->Ck n ss ls N l)->(∀l,l<m->J3 ss ls N l ((hs.map Int.toNat).getD l 0))->Q (.ref r) H'
theorem N8{f:Addr}{fd:FuncData}(F:fH K "_law_walked" "_law_walked" TJ f fd)(B:Bl mg)(T0:ce P w K mg base bf 1 "_law_take" ["_law_pot_here","_law_many"] jh)(BG:ce P w K mg base bf 2 "_law_begun" ["_law_pot_here","_law_outs_here","_law_homes_here","_law_waits"] tR)(LI:ce P w K mg base bf 2 "_law_let_in" ["_law_pot_here","_law_outs_here","_law_homes_here","_law_stand","_law_left"] JY)(HN:ce P w K mg base bf 2 "_law_handing" ["_law_pot_here","_law_outs_here","_law_stand","_law_waits"] xK)(BH:ce P w K mg base bf 1 "_law_behind" ["_law_homes_here","_law_stand","_law_handing_here"] Dt):bv P w K mg base bf 3 f fd ["_law_pot_here","_law_outs_here","_law_homes_here","_law_waits","_law_size"] J4:=by
 refine F.ok AF (fun vs H Q E h=>?_) (fun cT A outer s H vs Q E hr h=>?_)
 .obtain⟨p,O,a,wt,sz,as,n,m,T,hs,rfl,_⟩:=h;rfl
 .obtain⟨p,O,a,wt,sz,as,n,m,T,hs,rfl,hp,ou,ti,n1,xF,ha,hl,Lb,ZH,z0,z5,q⟩:=h;have h1:cI 1 _:=hr.mono (by decide);have Do:a≠p:=hp.neT ha;refine'⟨_,(ah (aw (i:=5) AF.nd rfl (Or.inr rfl) (bJ (aa (aA BG hr aL (aa (pv 0) (aa (pv 1) (aa (pv 2) (aa (pv 3) af))))) af)))
   (ah (eQ (i:=6) (g:=(bb 0)) (tt:=(ku (gW (fun x y H Q=>y=.bw/\Q (.bl (decide (x=.bw))) H) (gW (zK K) (gW (pC K) (aT 1) (tC (.int 0))) (aT 0)) (tC .bw)))) (te:=(aT 0)) (NB:=["_law_i","_law_stands"]) (src:=[none,some 5]) (br (by kernel_rfl)) rfl (aU rfl B.range (aa (az aJ (by rfl) B.len dt (aa (pv 2) af)) af)) ?g1 ?t1 ?e1 AF.nd rfl rfl rfl)
   (ah (b8 (aD d_ (aA T0 h1 aL (aa (pv 0) (aa aj af))) aj (aP _)) (ao (aw (i:=6) AF.nd rfl (Or.inl rfl) (bJ af))) a9)
   (ah (aw (i:=7) AF.nd rfl (Or.inl rfl) (bJ af))
   (ah (cA dq rfl (aU rfl B.range (aa (pv 4) af)) (au (i:=8) AF.nd rfl (Or.inl rfl))
    (ah (d9 (aA LI hr aL (aa (pv 0) (aa (pv 1) (aa (pv 2) (aa (aN aF (pv 5) (pT lx aj) (fun _ _=>rfl)) (aa (pv 6) af)))))) (hV (pv 5) (pT lx aj) ee))
    (ah (bK (dz di fm fk bB (pv 7) (aa (aA HN hr aL (aa (pv 0) (aa (pv 1) (aa (aN aF (pv 5) (pT lx aj) (fun _ _=>rfl)) (aa (pv 3) af))))) af)))
    (ao (bK (dz di fm fk bB (pv 5) (aa (aA BH h1 aL (aa (pv 2) (aa (aN aF (pv 5) (pT lx aj) (fun _ _=>rfl)) (aa (aN aF (pv 7) (pT lx aj) (fun _ _=>rfl)) af)))) af)))))))
   (ao (aV (cp (aa (pv 5) (aa (pv 7) af)))))))))),?_⟩
  case g1=>exact fun cl C s₃ H₃ fp=>(au (i:=0) vu rfl (Or.inl rfl) (Or.inr rfl))
  case t1=>exact fun cl C s₃ H₃ fp=>dO (aD wF (aN bV (aN aF (pv 1) aj (fun _ _=>rfl)) (pv 0) (fun _ _=>rfl)) d8 (aP _))
  case e1=>exact fun cl C s₃ H₃ fp=>(pv 0)
  refine⟨_,rfl,_,rfl,_,rfl,_,rfl,p,O,a,wt,as,n,T,hs,rfl,hp,ou,n1,xF,ha,by lia,fun b0 xN H1 D6 AU XY TK sl0 ZI=>?_⟩;refine⟨by show 1<=sizeLine;decide,fun S hS=>?_⟩;have Iu:H S=none:=D6.free AU.full hS;have JP:S≠p:=hp.ne Iu;have s2:=ag (o:=.lst [.ref b0]) hS;have lY:=D6.trans (av.of s2);have o9:=AU.same s2;have Qo:upd H1 S (.lst [.ref b0]) S=some (.lst (yr ([]++[(b0,xN)]))):=ab;have K2:=s2 _ _ TK;have WJ:=lY _ _ ha Do;generalize upd H1 S (.lst [.ref b0])=H2 at *;refine⟨_,rfl,a,_,rfl,.inr (bZ.of WJ),_,rfl,by lia,by rw[aB];lia,fun D hD=>?_⟩;rw[aB,hl,jq];have vI:H D=none:=lY.free o9.full hD;refine tI (lo:=0) (n:=m) (fun j=>decide (xN.getD j none=none)) (fun σ=>∃b,σ=[b,some (.ref S)]) hD (by lia) ⟨_,rfl⟩ ?_ ?_
  .rintro j σ H5 Kt Kf hj ⟨b',rfl⟩ s5 kt kf;rw[dH] at kt |-;refine⟨_,rfl,S,_,_,_,rfl,rfl,aQ.of (s5 _ _ Qo),aE (j:=0) rfl,_,rfl,b0,_,_,_,rfl,rfl,bZ.of (s5 _ _ K2),y_ (by lia),rfl,_,rfl,?_⟩;have e:decide (pi (xN.getD j none)=V.bw)=decide (xN.getD j none=none):=by
    cases xN.getD j none with
    |none=>rfl
    |some x=>simp[pi]
   rw[e];exact cW (fun c=>⟨_,rfl,kt _ _ ⟨_,rfl⟩ (aG.refl _) c⟩) (fun c=>kf _ _ ⟨_,rfl⟩ (aG.refl _) (by simpa using c))
  intro H3 s3 fX;have e3:(((List.range m).filter fun j=>decide (xN.getD j none=none)).map fun (x:Nat)=>V.int (0+(x:Int)))=IV (((List.range m).filter fun j=>decide (xN.getD j none=none)).map fun (x:Nat)=>(x:Int)):=by
   unfold IV;rw[du];exact fL fun x _=>by rw[dH];rfl
  rw[e3] at fX;have Qp:(((List.range m).filter fun j=>decide (xN.getD j none=none)).map fun (x:Nat)=>(x:Int)).Nodup:=eV (jt.filter _) fun x _ y _ e=>by lia
  have Qq:∀x∈((List.range m).filter fun j=>decide (xN.getD j none=none)).map fun (x:Nat)=>(x:Int),0<=x/\x<m/\xN.getD x.toNat none=none:=fun x hx=>by
   obtain⟨j,hj,rfl⟩:=aW.mp hx;obtain⟨h1,h2⟩:=cY.mp hj;have:=bG.mp h1;exact⟨by lia,by lia,eG h2⟩
  generalize ((List.range m).filter fun j=>decide (xN.getD j none=none)).map (fun (x:Nat)=>(x:Int))=TL at *;have i6:=lY.trans (av.of s3);have pL:=o9.same s3;refine iu (fun σ Hx=>H3=Hx/\σ=[some (.ref p),some (.ref O),some (.ref a),some (.bl wt),some (.int sz),some (.ref S),some (.ref D),none,none]) ?_ (fun N hN=>hN _ _ ⟨rfl,rfl⟩);rintro σ _ ⟨rfl,rfl⟩;refine iu (fun σ H4=>∃ (q:Addr) (lf:List Int),σ=[some (.ref p),some (.ref O),some (.ref a),some (.bl wt),some (.int sz),some (.ref S),some (.ref q),none,none]/\av p H H4/\aR H4 p/\H4 S=some (.lst (yr ([]++[(b0,xN)])))/\H4 b0=some (.tup (SV xN))/\H q=none/\q≠S/\H4 q=some (.lst (IV lf))/\lf.Nodup/\∀x∈lf,0<=x/\x<m/\xN.getD x.toNat none=none) ?_ ?_
  rotate_left
  .intro N hN;have ZJ:D≠S:=(ai Qo hD).symm;refine⟨_,rfl,p,2,rfl,by decide,by decide,pL,fun d H4 hd s4 p4=>⟨rfl,_,rfl,?_⟩⟩;have pJ:D≠p:=hp.ne vI;have Dl:=s4 _ _ (s3 _ _ Qo) JP;have Qr:=s4 _ _ (s3 _ _ K2) (pL.neT (s3 _ _ K2));refine cW (fun _=>⟨by show 0<=sizeLine;decide,fun D4 gq=>?_⟩) (fun _=>hN _ _ ⟨D,TL,rfl,i6.trans s4,p4,Dl,Qr,vI,ZJ,s4 _ _ fX pJ,Qp,Qq⟩);have s5:=ag (o:=.lst []) gq;exact hN _ _ ⟨D4,[],rfl,(i6.trans s4).trans (av.of s5),p4.same s5,s5 _ _ Dl,s5 _ _ Qr,(i6.trans s4).free p4.full gq,(ai Dl gq).symm,ab,iq,fun x hx=>(nomatch hx)⟩
  clear fX Qp Qq i6 pL s3 K2 Qo lY o9 s2 WJ;rintro σ H4 ⟨lq,TL,rfl,ve,D7,Dl,Qr,Qs,TM,Qm,Qp,Qq⟩;refine⟨by show 0<=sizeLine;decide,fun L hL=>?_⟩;have j3:H L=none:=ve.free D7.full hL;have ua:L≠p:=hp.ne j3;have JZ:lq≠p:=hp.ne Qs;have N9:S≠L:=ai Dl hL;have WL:lq≠L:=ai Qm hL;have s5:=ag (o:=.lst []) hL;have Qh:O≠lq:=ai ou.at_ Qs;have Le:∀h,h<n->as.getD h 0≠lq:=fun h hh=>by obtain⟨js,e,_⟩:=ou.rows h hh;exact ai e Qs
  refine⟨_,rfl,sz,rfl,by lia,by lia,cf (lo:=0) (n:=sz.toNat) (fun k σ Hc=>∃ (qs ls:Ys) (bl:Addr) (sl:List (Option Int)) (lf:List Int),(∃v8,σ=[some (.ref p),some (.ref O),some (.ref a),some (.bl wt),some (.int sz),some (.ref S),some (.ref lq),some (.ref L),v8])/\av p H Hc/\aR Hc p/\Hc S=some (.lst (yr (qs++[(bl,sl)])))/\Hc L=some (.lst (yr ls))/\Hc lq=some (.lst (IV lf))/\YO Hc qs/\YO Hc ls/\Hc bl=some (.tup (SV sl))/\qs.length=k/\sl.length=m/\ij n T wt sl/\lf.Nodup/\(∀x∈lf,0<=x/\x<m/\sl.getD x.toNat none=none)/\Wk n m hs (yp qs) (yp ls) sl lf) ?_ ?_ ?_⟩
  .exact⟨[],[],b0,xN,TL,⟨_,rfl⟩,ve.trans (av.of s5),D7.same s5,s5 _ _ Dl,ab,s5 _ _ Qm,YO.nil,YO.nil,s5 _ _ Qr,rfl,by lia,ZI,Qp,Qq,⟨rfl,fun r hr=>(nomatch hr),fun r hr=>(nomatch hr),fun r hr=>(nomatch hr),fun r hr=>(nomatch hr),fun k j hk=>absurd hk (rh _),fun k j hk=>absurd hk (rh _)⟩⟩
  .rintro k σ Hc hk ⟨qs,ls,bl,sl,lf,⟨v8,rfl⟩,se,pt,Qt,TQ,Hu,Qu,Qv,Jd,qk,TU,TV,nd,lr,W⟩;have lk:ls.length=k:=by have:=W.len;rw[fZ,fZ] at this;lia
   have ZK:oj (yr (qs++[(bl,sl)])) (-1)=some (.ref bl):=by rw[eX];exact kA _ _
   refine⟨_,rfl,_,rfl,_,rfl,_,rfl,_,rfl,S,_,_,_,rfl,rfl,aQ.of Qt,ZK,_,rfl,p,O,a,bl,lq,wt,as,n,m,T,hs,sl,lf,rfl,pt,ou.fc se,Qh,Le,JZ,ti,n1,xF,se _ _ ha Do,hl,Jd,TU,Lb,TV,Hu,nd,lr,fun r1 o2 N5 H6 Qw Tg ZL N_ ZM R=>?_⟩;have Qx:∀ {b xs},Hc b=some (.tup xs)->H6 b=some (.tup xs):=fun {b xs} e=>Qw _ _ e (pt.neT e) (by rintro rfl;rw[Hu] at e;cases e);have WM:=Qw _ _ Qt JP TM.symm;have Qy:=Qw _ _ TQ ua WL.symm;have Qf:av p H H6:=fun c o e np=>Qw _ _ (se _ _ e np) np (ai e Qs);refine⟨_,rfl,_,rfl,S,_,(-1:Int),k,rfl,rfl,WM,?_,?_⟩
   .rw[oZ,bY,qk];unfold zJ;rw[ak (by decide),ap (by have:[(bl,sl)].length=1:=rfl;lia)];congr 1;show (-1+((k+1:Nat):Int)).toNat=k;lia
   have eS:(yr (qs++[(bl,sl)])).set k (.ref r1)=yr (qs++[(r1,o2)]):=by
    rw[eX,eX,List.set_append_right _ _ (by rw[oZ];lia),oZ,qk,rE];rfl
   rw[eS];have WN:(upd H6 S (.lst (yr (qs++[(r1,o2)])))) S=some (.lst (yr (qs++[(r1,o2)]))):=ab;have kp:∀ {b o},H6 b=some o->b≠S->(upd H6 S (.lst (yr (qs++[(r1,o2)])))) b=some o:=fun {b o} e n=>by rw[am n];exact e
   have nT:∀ {b xs},H6 b=some (.tup xs)->b≠S:=fun {b xs} e=>by rintro rfl;rw[WM] at e;cases e
   have WO:=kp Qy N9.symm;have ZN:=kp ZM TM;have J5:=kp N_ (nT N_);have TW:YO (upd H6 S (.lst (yr (qs++[(r1,o2)])))) qs:=fun y hy=>kp (Qx (Qu y hy)) (nT (Qx (Qu y hy)));have TX:YO (upd H6 S (.lst (yr (qs++[(r1,o2)])))) ls:=fun y hy=>kp (Qx (Qv y hy)) (nT (Qx (Qv y hy)));have WP:av p H (upd H6 S (.lst (yr (qs++[(r1,o2)])))):=cg Qf Iu;have Qz:aR (upd H6 S (.lst (yr (qs++[(r1,o2)])))) p:=Tg.put JP.symm;generalize upd H6 S _=H7 at *;have Oa:oj (yr (qs++[(r1,o2)])) (-1)=some (.ref r1):=by rw[eX];exact kA _ _
   refine⟨_,rfl,.inl ⟨rfl,_,aQ.of WO⟩,_,rfl,_,rfl,_,rfl,_,rfl,S,_,_,_,rfl,rfl,aQ.of WN,Oa,_,rfl,p,O,r1,wt,as,n,T,o2,rfl,Qz,ou.fc WP,ti,n1,xF,J5,by rw[R.len];exact Lb,R.ok,fun r2 hd H8 J6 ZO ZP J7 GW t9 WQ=>?_⟩;rw[R.len] at t9 GW;have Lh:=J6 _ _ WO ua;have ZQ:=J6 _ _ WN JP;have ZR:=J6 _ _ ZN JZ;have TY:=TX.fc J6 Qz;have Ob:=TW.fc J6 Qz;have Oc:=J6 _ _ J5 (Qz.neT J5);refine⟨L,_,_,rfl,rfl,Lh,by rw[oZ,lk];exact bN (show k<1000 by lia) (by decide),?_⟩;have e9:yr ls++[V.ref r2]=yr (ls++[(r2,hd)]):=by rw[eX];rfl
   rw[e9];have TZ:∀ {b xs},H8 b=some (.tup xs)->b≠L:=fun {b xs} e=>by rintro rfl;rw[Lh] at e;cases e
   have vx:∀ {b o},H8 b=some o->b≠L->(upd H8 L (.lst (yr (ls++[(r2,hd)])))) b=some o:=fun {b o} e n=>by rw[am n];exact e
   have Od:(upd H8 L (.lst (yr (ls++[(r2,hd)])))) L=some (.lst (yr (ls++[(r2,hd)]))):=ab;have Li:=vx ZQ N9;have ZS:=vx ZR WL;have Oe:=vx Oc (TZ Oc);have T4:=vx J7 (TZ J7);have T5:YO (upd H8 L (.lst (yr (ls++[(r2,hd)])))) qs:=fun y hy=>vx (Ob y hy) (TZ (Ob y hy));have T6:YO (upd H8 L (.lst (yr (ls++[(r2,hd)])))) (ls++[(r2,hd)]):=(TY.append (YO.one J7)).putL Lh;have WR:av p H (upd H8 L (.lst (yr (ls++[(r2,hd)])))):=cg (WP.trans J6) j3;have ZT:aR (upd H8 L (.lst (yr (ls++[(r2,hd)])))) p:=ZO.put ua.symm;generalize upd H8 L _=H9 at *;have ZU:oj (yr (ls++[(r2,hd)])) (-1)=some (.ref r2):=by rw[eX];exact kA _ _
   refine⟨_,rfl,.inl ⟨rfl,_,aQ.of Li⟩,_,rfl,_,rfl,_,rfl,S,_,_,_,rfl,rfl,aQ.of Li,Oa,_,rfl,_,rfl,L,_,_,_,rfl,rfl,aQ.of Od,ZU,a,r1,r2,hs,o2,hd,m,rfl,WR _ _ ha Do,Oe,T4,hl,R.len,GW,Lb,fun j hj e=>(t9 j hj).mp e,fun r3 Lj xO ZV Of=>?_⟩;have FZ:=xO _ _ Li;refine⟨S,_,_,rfl,rfl,FZ,by rw[oZ,bY,qk];exact bN (show k+1<1000 by lia) (by decide),?_⟩;have T7:yr (qs++[(r1,o2)])++[V.ref r3]=yr ((qs++[(r1,o2)])++[(r3,qM hs hd m)]):=by rw[eX (a:=qs++[(r1,o2)])];rfl
   rw[T7];obtain⟨W2,ZW⟩:=W.step R (fun x hx=>⟨(lr x hx).1,(lr x hx).2.1⟩) GW t9 WQ.rg;refine⟨qs++[(r1,o2)],ls++[(r2,hd)],r3,qM hs hd m,N5,⟨_,rfl⟩,cg (WR.trans (av.of xO)) Iu,(ZT.same xO).put JP.symm,ab,by rw[am N9.symm];exact xO _ _ Od,by rw[am TM];exact xO _ _ ZS,((T5.append (YO.one Oe)).same xO).putL FZ,(T6.same xO).putL FZ,(YO.one Of).putL FZ _ (bR.mpr rfl),by rw[bY,qk];rfl,zd,JQ WQ (by lia),R.nd,ZW,by rw[gR,gR];exact W2⟩
  .rintro σ Hc ⟨qs,ls,bl,sl,lf,⟨v8,rfl⟩,se,pt,Qt,TQ,Hu,Qu,Qv,Jd,qk,TU,TV,nd,lr,W⟩;refine⟨_,rfl,_,rfl,by show 2<=sizeLine;decide,fun r dh=>?_⟩;have sR:=ag (o:=.tup [.ref S,.ref L]) dh;have lk:ls.length=qs.length:=by have:=W.len;rw[fZ,fZ] at this;lia
   have q0:∀r∈yp (qs++[(bl,sl)]),∀x,some x∈r->0<=x/\x<n:=fun r hr=>by
    rw[gR] at hr;rcases bg.mp hr with z|z
    .exact W.qr r z
    .rw[bR.mp z];exact TV.rg
   have qm:∀r∈yp (qs++[(bl,sl)]),r.length=m:=fun r hr=>by
    rw[gR] at hr;rcases bg.mp hr with z|z
    .exact W.ql r z
    .rw[bR.mp z];exact TU
   have rS:=(zi (m:=m) Qt (Qu.append (YO.one Jd)) fun r hr x hx=>(q0 r hr x hx).1).same sR;have rL:=(zi (m:=m) TQ Qv fun r hr x hx=>(W.lr r hr x hx).1).same sR;rw[bY] at rS;rw[lk] at rL;have ZX:∀k,k<qs.length->(yp (qs++[(bl,sl)])).getD k []=(yp qs).getD k []:=fun k hk=>by
    rw[gR];show (yp qs++[sl]).getD k []=_;rw[Lg fZ,ak (by lia)]
   have T8:∀k l,k<qs.length->(mw m (yp (qs++[(bl,sl)])) k).getD l none=J2 (((yp qs).getD k []).getD l none):=fun k l hk=>by
    rw[tW (by rw[fZ,bY];lia),DB,ZX k hk]
   have WS:∀k l,k<qs.length->(mw m (yp ls) k).getD l none=J2 (((yp ls).getD k []).getD l none):=fun k l hk=>by
    rw[tW (by rw[fZ,lk];exact hk),DB]
   have T9:∀k l (x:Int),((yp qs).getD k []).getD l none=some x->0<=x/\x<n:=fun k l x e=>by
    by_cases c:k<(yp qs).length
    .refine W.qr _ (dL (d:=[]) c) x ?_;by_cases d:l<((yp qs).getD k []).length
     .rw[<-e];exact dL d
     .rw[bh,fq (by lia)] at e;cases e
    .rw[show (yp qs).getD k []=[] by rw[bh,fq (by lia)];rfl] at e;simp at e
   have Og:∀k l (x:Int),((yp ls).getD k []).getD l none=some x->0<=x/\x<n:=fun k l x e=>by
    by_cases c:k<(yp ls).length
    .refine W.lr _ (dL (d:=[]) c) x ?_;by_cases d:l<((yp ls).getD k []).length
     .rw[<-e];exact dL d
     .rw[bh,fq (by lia)] at e;cases e
    .rw[show (yp ls).getD k []=[] by rw[bh,fq (by lia)];rfl] at e;simp at e
   refine q r S L _ _ _ _ qs.length _ (se.trans (av.of sR)) (pt.same sR) ab Iu j3 N9 ⟨rS,rL,fun k=>vw qm,fun k=>vw W.ll,by lia⟩ (fun l T_ k h hk e=>?_) (fun l T_ k hk e1 e2 k' a b=>?_)
   .rw[T8 k l hk] at e;cases es:((yp qs).getD k []).getD l none with
    |none=>rw[es] at e;cases e
    |some x=>
     rw[es] at e;have x0:=T9 k l x es;obtain rfl:x.toNat=h:=bE e;refine⟨by lia,?_⟩;cases el:((yp ls).getD k []).getD l none with
     |none=>rw[(W.both k l (by rw[fZ];exact hk) T_).mpr el] at es;cases es
     |some y=>
      have y0:=Og k l y el;exact⟨y.toNat,by rw[WS k l hk,el];rfl,by lia⟩
   .rw[T8 k l hk] at e1;rw[WS k l hk] at e2;rw[T8 k' l b];have n1:((yp qs).getD k []).getD l none≠none:=fun z=>by rw[z] at e1;cases e1
    cases el:((yp ls).getD k []).getD l none with
    |none=>rw[el] at e2;cases e2
    |some y=>
     rw[el] at e2;have e2:y.toNat=(hs.map Int.toNat).getD l 0:=bE e2;have y0:=Og k l y el;have hh:y=hs.getD l 0:=by
      have ll:l<hs.length:=by lia
      rw[bh,bO,bD ll] at e2;rw[bh,bD ll];have:=ZH _ (fN ll);have e2:y.toNat=hs[l].toNat:=e2;show y=hs[l];lia
     rw[((W.once k l (by rw[fZ];exact hk) T_ n1 (by rw[el,hh])).1 k' a (by rw[fZ];exact b))];rfl
end
abbrev Ua:Stmt:=gG 49
abbrev Ub:Stmt:=gG 50
theorem DC{X:Cx}{H:Hp}{xs:List Nat}:∀i,i<(NV xs).length->i<(NV xs).length->AT X H 0 ((NV xs).getD i .bw) ((NV xs).getD i .bw):=fun i h1 _=>by
 rw[dF] at h1;rw[bh,bO,bD h1];exact Fs
theorem DD{ss ls:Nat->List (Option Nat)}{N l cq j:Nat}(O:J3 ss ls N l cq)(hj:j<N):AE ss ls (j+1) l cq=if (((ss j).getD l none).isSome&&decide ((ls j).getD l none=some cq))=true then some (j+1) else AE ss ls j l cq:=by
 unfold AE;rw[gX,List.find?_append,iG];by_cases c:(((ss j).getD l none).isSome&&decide ((ls j).getD l none=some cq))=true
 .rw[ap c,c];have:(List.range j).find? (fun k=>((ss k).getD l none).isSome&&decide ((ls k).getD l none=some cq))=none:=List.find?_eq_none.mpr fun k hk z=>by
   obtain⟨z1,z2⟩:=(gg _ _).mp z;have e:=O k (by have:=bG.mp hk;lia) z1 (eG z2) j (bG.mp hk) hj;rw[e] at c;cases c
  rw[this];rfl
 .rw[ak c,(Bool.not_eq_true _).mp c];show Option.map _ (Option.or _ none)=_;rw[Option.or_none]
theorem DE{n:Nat}{ts:Ts}{a b:Nat}(h:a<n):(NV ((List.range n).map fun x=>far ts x b))[a]?=some (.int ((far ts a b:Nat):Int)):=by
 unfold NV;rw[bO,bO,kg h];rfl
theorem vy{p:Nat->Bool}{j:Nat}:(List.range (j+1)).filter p=(List.range j).filter p++if p j=true then [j] else []:=by
 rw[gX,ge,eK];rfl
section
variable {P:Program} {w:World} {K:PySem.W.Frag} {mg:Str->Option Value} {base:Heap}
theorem xP:aH ["_law_far","_law_home","_law_stands","_law_log","_law_i","_law_when","_law_about","_law_waited","_law_beat","_law_house","_law_goes"] ["_law_far","_law_home","_law_stands","_law_log","_law_i"] (aq Ua):=⟨rfl,rfl,rfl,by decide +kernel,rfl,by decide +kernel,by decide +kernel⟩
def J8:Sp:=fun vs H Q _=>∃ (F SA LA:Addr) (fj fE:List Addr) (n m N cq l:Nat) (ts:Ts) (ss ls:Nat->List (Option Nat)),vs=[.ref F,.int cq,.ref SA,.ref LA,.int l]/\H F=some (.lst (NV ((List.range n).map fun x=>far ts x cq)))/\AV H SA LA fj fE m N ss ls/\l<m/\Ck n ss ls N l/\J3 ss ls N l cq/\
 ∀ (t A W:Addr) (H':Hp),aG H H'->H' t=some (.tup [oV (AE ss ls N l cq),.ref A,.ref W])->H' A=some (.lst (NV (FV ts ss ls N l cq)))->H' W=some (.lst (NV (FU ss ls N l)))->Q (.ref t) H'
theorem Oh{f:Addr}{fd:FuncData}(F:fH K "_law_due" "_law_due" Ua f fd)(B:Bl mg):bv P w K mg base bf 1 f fd ["_law_far","_law_home","_law_stands","_law_log","_law_i"] J8:=by
 refine F.ok xP (fun vs H Q E h=>?_) (fun cT A outer s H vs Q E hr h=>?_)
 .obtain⟨F,SA,LA,fj,fE,n,m,N,cq,l,ts,ss,ls,rfl,_⟩:=h;rfl
 .obtain⟨F,SA,LA,fj,fE,n,m,N,cq,l,ts,ss,ls,rfl,hF,LG,hl,RU,ON,q⟩:=h;have l5:=LG.l5;refine⟨_,(ah (aw (i:=5) xP.nd rfl (Or.inl rfl) d8)
   (ah (aw (i:=6) xP.nd rfl (Or.inl rfl) (bJ af))
   (ah (aw (i:=7) xP.nd rfl (Or.inl rfl) (bJ af))
   (ah (cA dq rfl (aU rfl B.range (aa (az aJ (by rfl) B.len dt (aa (pv 3) af)) af)) (au (i:=8) xP.nd rfl (Or.inl rfl))
    (ah (Bi (i:=9) (j:=10) rfl xP.nd rfl rfl (by decide) rfl rfl (aa (aN bV (aN aF (pv 2) (pv 8) (fun _ _=>rfl)) (pv 4) (fun _ _=>rfl)) (aa (aN bV (aN aF (pv 3) (pv 8) (fun _ _=>rfl)) (pv 4) (fun _ _=>rfl)) af)) (by rfl))
    (ah (b8 (PW.pt (gw (aD mR (pv 9) d8 (aP _)) (gj (aD d_ (pv 10) (pv 1) (aP _))))) (ao (aw (i:=5) xP.nd rfl (Or.inl rfl) (aK b_ (pv 8) aj))) a9)
    (ao (b8 (PW.pt (gw (aD mR (pv 9) d8 (aP _)) (gj (aD d_ (pv 10) (pv 9) (aP _))))) (ao (bK (dz di fm fk bB (pv 7) (aa (pv 8) af)))) (ao (b8 (PW.pt (gw (aD mR (pv 9) d8 (aP _)) (gj (aD GK (aN aF (pv 0) (pv 10) (fun _ _=>rfl)) (aN aF (pv 0) (pv 9) (fun _ _=>rfl)) (aP _))))) (ao (bK (dz di fm fk bB (pv 6) (aa (pv 8) af)))) a9)))))))
   (ao (aV (cp (aa (pv 5) (aa (pv 6) (aa (pv 7) af)))))))))),?_⟩
  refine⟨by show 0<=sizeLine;decide,fun AB QA=>⟨by show 0<=sizeLine;decide,fun WT Uc=>?_⟩⟩;have s0:=ag (o:=.lst []) QA;have s1:=s0.trans (ag (o:=.lst []) Uc);have ZY:H WT=none:=s0.free Uc;have ne:AB≠WT:=ai ab Uc;refine⟨_,rfl,LA,_,rfl,.inl (aQ.of (LG.same s1).rl.1),_,rfl,by lia,by rw[aB,LG.rl.2.1];lia,?_⟩;rw[aB,LG.rl.2.1,jq];refine cf (n:=N) (lo:=0) (fun k σ H2=>(∃x8 x9 Ud,σ=[some (.ref F),some (.int (cq:Int)),some (.ref SA),some (.ref LA),some (.int (l:Int)),some (oV (AE ss ls k l cq)),some (.ref AB),some (.ref WT),x8,x9,Ud])/\aG H H2/\H2 AB=some (.lst (NV (FV ts ss ls k l cq)))/\H2 WT=some (.lst (NV (FU ss ls k l)))) ⟨⟨_,_,_,rfl⟩,s1,by rw[am ne];exact ab,ab⟩ ?_ ?_
  .rintro k σ H2 hk ⟨⟨x8,x9,Ud,rfl⟩,s2,J9,J_⟩;rw[dH];have L2:=LG.same s2;refine⟨_,rfl,_,rfl,SA,_,_,_,rfl,rfl,aQ.of L2.rs.1,L2.rs.at (by lia),_,rfl,_,_,_,_,rfl,rfl,bZ.of (L2.rs.2.2 k (by lia)),aE (mv (by rw[L2.sl];exact hl)),_,rfl,_,rfl,LA,_,_,_,rfl,rfl,aQ.of L2.rl.1,L2.rl.at hk,_,rfl,_,_,_,_,rfl,rfl,bZ.of (L2.rl.2.2 k hk),aE (mv (by rw[L2.ll];exact hl)),_,_,rfl,?_⟩;dsimp only;refine iu (fun σ Hx=>H2=Hx/\σ=[some (.ref F),some (.int (cq:Int)),some (.ref SA),some (.ref LA),some (.int (l:Int)),some (oV (AE ss ls (k+1) l cq)),some (.ref AB),some (.ref WT),some (.int (k:Int)),some (oV ((ss k).getD l none)),some (oV ((ls k).getD l none))]) ?_ ?_
   rotate_left
   .intro N hN;rw[DD ON hk] at hN;refine⟨_,rfl,rfl,_,rfl,?_⟩;rw[tT];cases c1:((ss k).getD l none).isSome with
    |false=>
     rw[c1] at hN;exact fg (fg (hN _ _ ⟨rfl,rfl⟩))
    |true=>
     rw[c1] at hN;refine si ⟨_,rfl,_,rfl,Dv,_,rfl,?_⟩;rw[Hs];cases c2:decide ((ls k).getD l none=some cq) with
     |false=>
      rw[c2] at hN;exact fg (hN _ _ ⟨rfl,rfl⟩)
     |true=>
      rw[c2] at hN;exact si ⟨_,rfl,_,_,rfl,rfl,hN _ _ ⟨rfl,rfl⟩⟩
   rintro σ _ ⟨rfl,rfl⟩;have eA:FV ts ss ls (k+1) l cq=FV ts ss ls k l cq++if Dw ts cq ((ss k).getD l none) ((ls k).getD l none)=true then [k] else []:=vy
   have eW:FU ss ls (k+1) l=FU ss ls k l++if (((ss k).getD l none).isSome&&decide ((ss k).getD l none=(ls k).getD l none))=true then [k] else []:=vy
   have lA:(NV (FV ts ss ls k l cq)).length<sizeLine:=by
    rw[dF];exact iB (io _ _) (by rw[cG];exact bN (show k<501 by lia) (by decide))
   have lW:(NV (FU ss ls k l)).length<sizeLine:=by
    rw[dF];exact iB (io _ _) (by rw[cG];exact bN (show k<501 by lia) (by decide))
   refine⟨_,rfl,rfl,_,rfl,?_⟩;rw[tT];cases es:(ss k).getD l none with
   |none=>
    have c1:Dw ts cq ((ss k).getD l none) ((ls k).getD l none)=false:=by rw[es];rfl
    rw[c1] at eA;rw[es] at eW;refine fg (fg ⟨_,rfl,rfl,_,rfl,?_⟩);refine fg (fg ⟨⟨_,_,_,rfl⟩,s2,?_,?_⟩)
    .rw[eA,ak (by decide),ju];exact J9
    .rw[eW,ak (by simp),ju];exact J_
   |some h=>
    obtain⟨hn,y,ey,yn⟩:=RU k h hk es;rw[es,ey] at eA eW;rw[ey];refine si ⟨_,rfl,_,rfl,rfl,_,rfl,?_⟩;by_cases c:y=h
    .subst c;rw[dZ rfl];have ea:Dw ts cq (some y) (some y)=false:=by unfold Dw;simp
     rw[ea] at eA;refine si ⟨_,rfl,.inl ⟨rfl,_,aQ.of J_⟩,_,rfl,WT,_,_,rfl,rfl,J_,lW,⟨_,_,_,rfl⟩,a_ s2 ZY,?_,?_⟩
     .rw[am ne,eA,ak (by decide),ju];exact J9
     .rw[ab,eW,ap (by simp)];rw[m6]
    .refine qJ (dY fun z=>by injection z with z;exact c (cZ z)) ⟨_,rfl,rfl,_,rfl,?_⟩;have ew:(((some h:Option Nat)).isSome&&decide (some h=some y))=false:=by
      rw[dY (fun z=>c (bE z).symm)];rfl
     rw[ew] at eW;have ea:Dw ts cq (some h) (some y)=decide (far ts h cq<=far ts y cq):=by
      unfold Dw;rw[dY (show ¬ some h=some y from fun z=>c (bE z).symm)];rfl
     rw[ea] at eA;have WU:=s2 _ _ hF;refine si ⟨_,rfl,_,rfl,F,_,_,_,rfl,rfl,aQ.of WU,aE (DE yn),_,rfl,_,rfl,F,_,_,_,rfl,rfl,aQ.of WU,aE (DE hn),_,_,rfl,rfl,_,rfl,?_⟩;rw[show decide (((far ts h cq:Nat):Int)<=((far ts y cq:Nat):Int))=decide (far ts h cq<=far ts y cq) from decide_eq_decide.mpr (by lia)];refine cW (fun d=>?_) (fun d=>?_)
     .rw[ap d] at eA;refine⟨_,rfl,.inl ⟨rfl,_,aQ.of J9⟩,_,rfl,AB,_,_,rfl,rfl,J9,lA,⟨_,_,_,rfl⟩,a_ s2 QA,?_,?_⟩
      .rw[ab,eA,m6]
      .rw[am ne.symm,eW,ak (by decide),ju];exact J_
     .rw[ak d] at eA;refine⟨⟨_,_,_,rfl⟩,s2,?_,?_⟩
      .rw[eA,ju];exact J9
      .rw[eW,ak (by decide),ju];exact J_
  .rintro σ H2 ⟨⟨x8,x9,Ud,rfl⟩,s2,J9,J_⟩;refine⟨_,rfl,_,rfl,_,rfl,by show 3<=sizeLine;decide,fun t ht=>?_⟩;have st:=ag (o:=.tup [oV (AE ss ls N l cq),.ref AB,.ref WT]) ht;exact q t AB WT _ (s2.trans st) ab (st _ _ J9) (st _ _ J_)
theorem F0:aH ["_law_net_here","_law_homes_here","_law_stands","_law_log","_law_i","_law_due_here","_law_when","_law_turn","_law_about","_law_waited"] ["_law_net_here","_law_homes_here","_law_stands","_law_log","_law_i","_law_due_here"] (aq Ub):=⟨rfl,rfl,rfl,by decide +kernel,rfl,by decide +kernel,by decide +kernel⟩
def Ka(C:Addr):Sp:=fun vs H Q _=>∃ (L:Addr->Prop) (p:Addr) (nn:Nat) (ts:Ts) (a SA LA:Addr) (fj fE:List Addr) (homes:List Nat) (n N:Nat) (ss ls:Nat->List (Option Nat)) (l:Nat) (t A W:Addr),vs=[.ref p,.ref a,.ref SA,.ref LA,.int l,.ref t]/\ix C H L p nn ts/\H a=some (.tup (NV homes))/\homes.length=n/\AV H SA LA fj fE n N ss ls/\l<n/\homes.getD l 0<nn/\Ck nn ss ls N l/\H t=some (.tup [oV (AE ss ls N l (homes.getD l 0)),.ref A,.ref W])/\H A=some (.lst (NV (FV ts ss ls N l (homes.getD l 0))))/\H W=some (.lst (NV (FU ss ls N l)))/\∀H',aG H H'->Q (.bl true) H'
theorem Oi{f C:Addr}{fd:FuncData}(F:fH K "_law_is_told" "_law_is_told" Ub f fd)(B:Bl mg)(HA:ce P w K mg base bf 5 "home_at" ["homes","stands","log","letter"] JU)(LA:ce P w K mg base bf 7 "led_at" ["net","homes","stands","log","letter"] (JV C))(WT:ce P w K mg base bf 5 "waited_at" ["stands","log","letter"] JT):bv P w K mg base bf 8 f fd ["_law_net_here","_law_homes_here","_law_stands","_law_log","_law_i","_law_due_here"] (Ka C):=by
 refine F.ok F0 (fun vs H Q E h=>?_) (fun cT A outer s H vs Q E hr h=>?_)
 .obtain⟨L,p,nn,ts,a,SA,LA,fj,fE,homes,n,N,ss,ls,l,t,A,W,rfl,_⟩:=h;rfl
 .obtain⟨L,p,nn,ts,a,SA,LL,fj,fE,homes,n,N,ss,ls,l,t,AB,WW,rfl,NA,ha,hn,LG,hl,hm,RU,ht,QA,ZZ,q⟩:=h;have h5:cI 5 _:=hr.mono (by decide);have l5:=LG.l5;refine⟨_,(ah (aw (i:=6) F0.nd rfl (Or.inl rfl) (aA HA h5 aL (aa (pv 1) (aa (pv 2) (aa (pv 3) (aa (pv 4) af))))))
   (ah (b8 (PW.pt (og (dQ (az fU (by rfl) B.IS ni (aa (pv 6) (aa (hE (v:=.ty "bool") rfl B.bool PyProof.Rows.boot_bool rfl) af)))) (oe (aD pU (pv 6) (aN bV (pv 5) aj (fun _ _=>rfl)) (aP _))))) (ao (aV pS)) a9)
   (ah (cA dq rfl (aU rfl B.range (aa aj af)) (au (i:=7) F0.nd rfl (Or.inl rfl))
    (ah (Bi (i:=8) (j:=9) rfl F0.nd rfl rfl (by decide) rfl rfl (aa (aA LA hr aL (aa (pv 0) (aa (pv 1) (aa (pv 2) (aa (pv 3) (aa (pv 4) af)))))) (aa (aA WT h5 aL (aa (pv 2) (aa (pv 3) (aa (pv 4) af)))) af)) (by rfl))
    (ah (b8 (PW.pt (og (hU (dQ (az fU (by rfl) B.IS ni (aa (pv 8) (aa (hE (v:=.ty "list") rfl B.lst jo rfl) af))))) (og (hU (dQ (az fU (by rfl) B.IS ni (aa (pv 9) (aa (hE (v:=.ty "list") rfl B.lst jo rfl) af))))) (og (aD (yT (d:=0) hr.u) (pv 8) (aN bV (pv 5) aj (fun _ _=>rfl)) (aP _)) (oe (aD (yT (d:=0) hr.u) (pv 9) (aN bV (pv 5) aj (fun _ _=>rfl)) (aP _))))))) (ao (aV pS)) a9)
    (ah (bK (dz di fm fk bB (pv 8) (aa aj af)))
    (ao (bK (dz di fm fk bB (pv 9) (aa aj af))))))))
   (ao (aV pS))))),?_⟩
  refine⟨_,rfl,_,rfl,_,rfl,_,rfl,a,SA,LL,fj,fE,homes,n,N,ss,ls,l,rfl,ha,hn,LG,hl,fun H1 s1=>?_⟩;have Z1:∀o:Option Nat,∃tt,PySem.W.kitOne K tt (.type "bool")=some false/\KP K H1 (oV o) tt:=fun o=>by
   cases o with
   |none=>exact⟨.type "NoneType",by kernel_rfl,.of .bw⟩
   |some x=>exact⟨.type "int",kP,.of (.int _)⟩
  obtain⟨tt,kt,ty⟩:=Z1 (AE ss ls N l (homes.getD l 0));refine⟨_,rfl,_,_,_,tt,false,rfl,⟨rfl,kt⟩,ty,_,rfl,fg ?_⟩;refine⟨_,rfl,_,rfl,t,_,_,_,rfl,rfl,bZ.of (s1 _ _ ht),aE (j:=0) rfl,tU,_,rfl,qJ (by simp) ?_⟩;refine⟨2,rfl,by lia,by lia,cf (n:=2) (lo:=0) (fun _ σ H2=>(∃x7 x8 x9,σ=[some (.ref p),some (.ref a),some (.ref SA),some (.ref LL),some (.int (l:Int)),some (.ref t),some (oV (AE ss ls N l (homes.getD l 0))),x7,x8,x9])/\aG H H2) ⟨⟨_,_,_,rfl⟩,s1⟩ ?_ ?_⟩
  .rintro k σ H2 hk ⟨⟨x7,x8,x9,rfl⟩,s2⟩;refine⟨_,rfl,_,rfl,_,rfl,_,rfl,_,rfl,L,p,nn,ts,a,SA,LL,fj,fE,homes,n,N,ss,ls,l,rfl,NA.same s2,s2 _ _ ha,hn,LG.same s2,hl,hm,RU,fun r H3 s3 nr WV=>?_⟩;have Ue:=s2.trans s3;refine⟨_,rfl,_,rfl,_,rfl,SA,LL,fj,fE,n,N,ss,ls,l,rfl,LG.same Ue,hl,fun r2 H4 s4 WX Ji=>⟨_,_,rfl,?_⟩⟩;have Oj:=Ue.trans s4;have F1:=s4 _ _ WV;refine⟨_,rfl,_,_,_,.type "list",true,rfl,⟨rfl,oP⟩,.of (.lst F1),_,rfl,fg ?_⟩;refine⟨_,rfl,_,_,_,.type "list",true,rfl,⟨rfl,oP⟩,.of (.lst Ji),_,rfl,fg ?_⟩;refine⟨_,rfl,_,rfl,t,_,_,_,rfl,rfl,bZ.of (Oj _ _ ht),aE (j:=1) rfl,r,AB,_,_,rfl,rfl,aQ.of F1,aQ.of (Oj _ _ QA),rfl,DC,_,rfl,fg ?_⟩;refine⟨_,rfl,_,rfl,t,_,_,_,rfl,rfl,bZ.of (Oj _ _ ht),aE (j:=2) rfl,r2,WW,_,_,rfl,rfl,aQ.of Ji,aQ.of (Oj _ _ ZZ),rfl,DC,_,rfl,fg ?_⟩;have Z2:H r=none:=s2.free nr;have Uf:H r2=none:=Ue.free WX;have ln:∀ {p:Nat->Bool},(NV ((List.range N).filter p)).length<sizeLine:=fun {p}=>by
    rw[dF];exact iB (io _ _) (by rw[cG];exact iB l5 (by decide))
   have ne:r≠r2:=ai WV WX;refine⟨_,rfl,.inl ⟨rfl,_,aQ.of F1⟩,r,_,_,rfl,rfl,F1,ln,?_⟩;have Ol:(upd H4 r (.lst (NV (FV ts ss ls N l (homes.getD l 0))++[.int 0]))) r2=some (.lst (NV (FU ss ls N l))):=by rw[am ne.symm];exact Ji
   refine⟨_,rfl,.inl ⟨rfl,_,aQ.of Ol⟩,r2,_,_,rfl,rfl,Ol,ln,⟨_,_,_,rfl⟩,a_ (a_ Oj Z2) Uf⟩
  .rintro σ H2 ⟨_,s2⟩;exact q H2 s2
end
abbrev Ug:Stmt:=gG 51
abbrev xQ:Stmt:=gG 52
theorem vz:(["_law_k","_law_script"]:List Str).Nodup:=by decide +kernel
theorem Om{X:Cx}{H:Hp}{o:Option Nat}:AT X H 0 (oV o) (oV o):=by
 intro ae s σ A u v I hu rx ry;have h:=r9 (A:=A) (s:=s) rx ry (by cases o <;> rfl) (by cases o <;> rfl);rw[show j_ (oV o) (oV o)=true by cases o <;> simp[oV,j_]] at h;exact h
theorem F2{X:Cx}{H:Hp}{a b:Addr}{os:List (Option Nat)}(ha:H a=some (.tup (os.map oV)))(hb:H b=some (.tup (os.map oV))):AT X H 1 (.ref a) (.ref b):=by
 refine Ft (bZ.of ha) (bZ.of hb) rfl fun i h1 h2=>?_;rw[aB] at h1;rw[bh,bO,bD h1];exact Om
theorem gT.WY{X:Cx}{H:Hp}{a b:Addr}{as bs:List Addr}{N:Nat}{o:Nat->List (Option Nat)}(h:gT H a as N o)(h':gT H b bs N o):∀i,i<(as.map V.ref).length->i<(bs.map V.ref).length->AT X H 1 ((as.map V.ref).getD i .bw) ((bs.map V.ref).getD i .bw):=by
 intro i h1 h2;rw[aB] at h1 h2;have e1:=h.2.2 i (by rw[<-h.2.1];exact h1);have e2:=h'.2.2 i (by rw[<-h'.2.1];exact h2);rw[bh,bD h1] at e1;rw[bh,bD h2] at e2;rw[bh,bO,bD h1,bh,bO,bD h2];exact F2 e1 e2
section
variable {P:Program} {w:World} {K:PySem.W.Frag} {mg:Str->Option Value} {base:Heap}
def Hw(K:PySem.W.Frag)(H:Hp)(a:Addr)(xs:List V):Prop:=(∃o,H a=some (.tZ o (.lst xs)))\/(∀H':Hp,aQ K H' a xs)
theorem Hw.seq{H:Hp}{a:Addr}{xs:List V}(h:Hw K H a xs):aQ K H a xs:=by
 rcases h with ⟨o,h⟩|h
 .exact .inl (.inr ⟨o,h⟩)
 .exact h H
theorem Hw.mono{H H':Hp}{a:Addr}{xs:List V}(h:Hw K H a xs)(e:∀o u,H a=some (.tZ o u)->H' a=some (.tZ o u)):Hw K H' a xs:=by
 rcases h with ⟨o,h⟩|h
 .exact .inl ⟨o,e _ _ h⟩
 .exact .inr h
theorem kR.On{p Pt:Addr}{H H':Hp}(t:kR Pt H)(s:av p H H')(hp:aR H p):kR Pt H':=by
 obtain⟨a,b,x3,e,_⟩:=hp;rcases t with z|⟨c,z,y⟩
 .exact .inl (s _ _ z (by rintro rfl;rw[z] at e;cases e))
 .exact .inr ⟨c,s _ _ z (by rintro rfl;rw[z] at e;cases e),s _ _ y (by rintro rfl;rw[y] at e;cases e)⟩
theorem l6:aH ["_law_pot_here","_law_waits","_law_size","_law_letters","_law_many","_law_ties","_law_homes_here","_law_stands","_law_log","_law_kept","_law_net_here","_law_i","_law_due_here"] ["_law_pot_here"] (aq Ug):=⟨rfl,rfl,rfl,by decide +kernel,rfl,by decide +kernel,by decide +kernel⟩
def F3(C Pt:Addr):Sp:=fun vs H Q _=>∃ (p:Addr),vs=[.ref p]/\aR H p/\kR Pt H/\∀H',i5 p Pt H H'->kR Pt H'->Q (.bl true) H'
theorem Oo{f C Pt fI:Addr}{fd WZ:FuncData}(F:fH K "_law_right" "_law_right" Ug f fd)(B:Bl mg)(TN:NT K mg C)(M:Mk K C fI)(bI:iQ K WZ ["self","many","ties"] [])(GI:bv P w K mg base bf 7 fI WZ ["self","many","ties"] (xz C Pt))(T0:ce P w K mg base bf 1 "_law_take" ["_law_pot_here","_law_many"] jh)(GR:ce P w K mg base bf 5 "_law_ground" ["_law_pot_here","_law_waits"] oX)(HM:ce P w K mg base bf 2 "_law_homes" ["_law_pot_here","_law_many","_law_letters"] tL)(WK:ce P w K mg base bf 3 "_law_walked" ["_law_pot_here","_law_outs_here","_law_homes_here","_law_waits","_law_size"] J4)(OU:ce P w K mg base bf 1 "_law_outs" ["_law_many","_law_ties"] tK)(HW:ce P w K mg base bf 1 "_law_homeward" ["_law_many","_law_ties","_law_home"] (JS K))(DU:ce P w K mg base bf 1 "_law_due" ["_law_far","_law_home","_law_stands","_law_log","_law_i"] J8)(IT:ce P w K mg base bf 8 "_law_is_told" ["_law_net_here","_law_homes_here","_law_stands","_law_log","_law_i","_law_due_here"] (Ka C)):bv P w K mg base bf 9 f fd ["_law_pot_here"] (F3 C Pt):=by
 refine F.ok l6 (fun vs H Q E h=>?_) (fun cT A outer s H vs Q E hr h=>?_)
 .obtain⟨p,rfl,_⟩:=h;rfl
 .obtain⟨p,rfl,hp,tb,q⟩:=h;have h1:cI 1 _:=hr.mono (by decide);have h2:cI 2 _:=hr.mono (by decide);have h3:cI 3 _:=hr.mono (by decide);have h5:cI 5 _:=hr.mono (by decide);refine⟨_,(ah (aw (i:=1) l6.nd rfl (Or.inl rfl) (fG d_ (aA T0 h1 aL (aa (pv 0) (aa aj af))) aj (aP _)))
   (ah (aw (i:=2) l6.nd rfl (Or.inl rfl) (aA T0 h1 aL (aa (pv 0) (aa (aN aF (bJ (aa aj (aa aj (aa aj af)))) (aA T0 h1 aL (aa (pv 0) (aa aj af))) (fun _ _=>rfl)) af))))
   (ah (aw (i:=3) l6.nd rfl (Or.inl rfl) (aA T0 h1 aL (aa (pv 0) (aa aj af))))
   (ah (d9 (aA GR h5 aL (aa (pv 0) (aa (pv 1) af))) (eN (n:=2) rfl (aY (au (i:=4) l6.nd rfl (Or.inl rfl)) (aY (au (i:=5) l6.nd rfl (Or.inl rfl)) de))))
   (ah (aw (i:=6) l6.nd rfl (Or.inl rfl) (aA HM h2 aL (aa (pv 0) (aa (pv 4) (aa (pv 3) af)))))
   (ah (d9 (aA WK h3 aL (aa (pv 0) (aa (aA OU h1 aL (aa (pv 4) (aa (pv 5) af))) (aa (pv 6) (aa (pv 1) (aa (pv 2) af)))))) (eN (n:=2) rfl (aY (au (i:=7) l6.nd rfl (Or.inl rfl)) (aY (au (i:=8) l6.nd rfl (Or.inl rfl)) de))))
   (ah (aw (i:=9) l6.nd rfl (Or.inl rfl) (cp (aa (bA dB (by rfl) B.lst jo (aa (pv 7) af)) (aa (bA dB (by rfl) B.lst jo (aa (pv 8) af)) af))))
   (ah (aw (i:=10) l6.nd rfl (Or.inl rfl) (En M GI hr rfl TN.Yv bI .nil aL (aa (pv 4) (aa (bA dB (by rfl) B.lst jo (aa (pv 5) af)) af))))
   (ah (cA dq rfl (aU rfl B.range (aa (pv 3) af)) (au (i:=11) l6.nd rfl (Or.inl rfl))
    (ah (aw (i:=12) l6.nd rfl (Or.inl rfl) (aA DU h1 aL (aa (aA HW h1 aL (aa (pv 4) (aa (pv 5) (aa (aN bV (pv 6) (pv 11) (fun _ _=>rfl)) af)))) (aa (aN bV (pv 6) (pv 11) (fun _ _=>rfl)) (aa (pv 7) (aa (pv 8) (aa (pv 11) af)))))))
    (ao (b8 (hU (dQ (aA IT hr aL (aa (pv 10) (aa (pv 6) (aa (pv 7) (aa (pv 8) (aa (pv 11) (aa (pv 12) af))))))))) (ao (aV pS)) a9))))
   (ao (aV (fG (Fu (d:=2) hr.u) (cp (aa (pv 7) (aa (pv 8) af))) (pv 9) (aP _))))))))))))),?_⟩
  refine⟨_,rfl,p,3,rfl,by decide,by decide,hp,fun d1 H1 _ s1 p1=>⟨rfl,?_⟩⟩;generalize decide (V.int (d1:Int)=V.int 2)=wt;refine⟨_,rfl,by show 3<=sizeLine;decide,fun Z0 W0=>?_⟩;have sZ:=ag (o:=.lst [.int 7,.int 61,.int 501]) W0;have pZ:=p1.same sZ;have Z3:Z0≠p:=p1.ne W0;refine⟨_,rfl,p,3,rfl,by decide,by decide,pZ,fun d2 H2 e2 s2 p2=>?_⟩;obtain⟨mx,Pz,m0,m5⟩:∃mx:Nat,([V.int 7,V.int 61,V.int 501])[d2]?=some (.int (mx:Int))/\0<mx/\mx<=501:=by
   match d2,e2 with
   |0,_=>exact⟨7,rfl,by decide,by decide⟩
   |1,_=>exact⟨61,rfl,by decide,by decide⟩
   |2,_=>exact⟨501,rfl,by decide,by decide⟩
  refine⟨Z0,_,_,_,rfl,rfl,aQ.of (s2 _ _ ab Z3),aE Pz,p,mx,rfl,m0,by lia,p2,fun sz H3 hsz s3 p3=>?_⟩;refine⟨_,rfl,p,17,rfl,by decide,by decide,p3,fun m H4 hm s4 p4=>?_⟩;have e4:av p H H4:=(((s1.trans (av.of sZ)).trans s2).trans s3).trans s4;refine⟨_,rfl,_,rfl,p,wt,rfl,p4,fun r LT n zs H5 s5 p5 Jj nL Hq xD Fi zl=>?_⟩;have n1:=Fi.n1;have n2:=Fi.n2;refine⟨r,_,rfl,bZ.of Jj,rfl,_,_,rfl,_,_,rfl,rfl,?_⟩;refine⟨_,rfl,_,rfl,_,rfl,p,n,m,rfl,p5,by lia,by lia,by lia,by lia,fun a hs H6 s6 p6 na Uh Z4 Ui Uj=>?_⟩;have Ui:hs.length=m:=by lia
  have ua:LT≠p:=p4.ne nL;have Qy:=s6 _ _ Hq ua;have Hn:PO H6 zs:=fun z hz=>s6 _ _ (xD z hz) (p5.neT (xD z hz));have e6:av p H H6:=(e4.trans s5).trans s6;refine⟨_,rfl,_,rfl,_,rfl,LT,n,zs,rfl,Qy,Hn,mJ.Db Fi,zl,by lia,by lia,fun O as H7 s7 nO Z5 Z6 al Op=>?_⟩;have p7:=p6.same s7;have Z7:df p H7 O as n (zp zs):=⟨Z6,al,Op,p6.ne nO,fun h hh=>p6.ne (Z5 h hh)⟩
  refine⟨_,rfl,_,rfl,_,rfl,p,O,a,wt,sz,as,n,m,zp zs,hs,rfl,p7,Z7,mJ.Db Fi,by lia,by lia,s7 _ _ Uh,Ui,by lia,fun x hx=>(Uj x hx).1,by lia,by lia,fun r8 S L fj fE ss ls N H8 s8 p8 Z8 nS nL8 N9 LG RU ON=>?_⟩;refine⟨r8,_,rfl,bZ.of Z8,rfl,_,_,rfl,_,_,rfl,rfl,?_⟩;have e8:av p H H8:=(e6.trans (av.of s7)).trans s8;have t8:kR Pt H8:=tb.On e8 hp;have Lh:=s8 _ _ (s7 _ _ Qy) ua;have Uk:PO H8 zs:=fun z hz=>s8 _ _ (s7 _ _ (Hn z hz)) (p7.neT (s7 _ _ (Hn z hz)));have Z9:H8 a=some (.tup (NV (hs.map Int.toNat))):=by rw[<-N7 fun x hx=>(Uj x hx).1];exact s8 _ _ (s7 _ _ Uh) (p7.neT (s7 _ _ Uh))
  have Z_:(hs.map Int.toNat).length=m:=by rw[aB];exact Ui
  have fw:∀l,l<m->(hs.map Int.toNat).getD l 0<n:=fun l hl=>by
   have ll:l<hs.length:=by lia
   rw[bh,bO,bD ll];have:=Uj _ (fN ll);show hs[l].toNat<n;lia
  generalize hs.map Int.toNat=homes at *;refine⟨_,rfl,S,_,rfl,.inl (aQ.of LG.rs.1),fun S' hS'=>?_⟩;have sA:=ag (o:=.lst (fj.map V.ref)) hS';refine⟨_,rfl,L,_,rfl,.inl (aQ.of (sA _ _ LG.rl.1)),fun L' hL'=>⟨by show 2<=sizeLine;decide,fun kt ID=>?_⟩⟩;have sB:=ag (o:=.lst (fE.map V.ref)) hL';have sC:=ag (o:=.tup [.ref S',.ref L']) ID;have s9:=(sA.trans sB).trans sC;have Li:=sC _ _ (sB _ _ (ab (H:=H8) (a:=S') (o:=.lst (fj.map V.ref))));have Od:=sC _ _ (ab (H:=upd H8 S' (.lst (fj.map V.ref))) (a:=L') (o:=.lst (fE.map V.ref)));have W1:upd (upd (upd H8 S' (.lst (fj.map V.ref))) L' (.lst (fE.map V.ref))) kt (.tup [.ref S',.ref L']) kt=some (.tup [.ref S',.ref L']):=ab;generalize upd (upd (upd H8 S' (.lst (fj.map V.ref))) L' (.lst (fE.map V.ref))) kt (.tup [.ref S',.ref L'])=H9 at *;have Hy:=LG.same s9;refine⟨_,rfl,_,rfl,LT,_,rfl,.inl (aQ.of (s9 _ _ Lh)),fun Z hZ bx dx nx ndx nex=>?_⟩;have sD:=ag (o:=.lst (zr zs)) hZ;have W3:upd H9 Z (.lst (zr zs)) Z=some (.lst (zr zs)):=ab;generalize upd H9 Z (.lst (zr zs))=Lj at *;have sN:aG Lj (upd (upd Lj dx (.own bx)) bx (.ins C dx [])):=(ag (o:=.own bx) ndx).trans (ag (D:=bx) (o:=.ins C dx []) (by rw[am nex.symm];exact nx));have W4:(upd (upd Lj dx (.own bx)) bx (.ins C dx [])) bx=some (.ins C dx []):=ab;generalize upd (upd Lj dx (.own bx)) bx (.ins C dx [])=HM at *;have QB:aG H8 HM:=(s9.trans sD).trans sN;have tM:=t8.same QB;refine⟨bx,dx,n,Z,zs,rfl,W4,⟨Fi,sN _ _ W3,fun z hz=>QB _ _ (Uk z hz)⟩,tM,fun Kb NA t11 Ul=>⟨rfl,?_⟩⟩;have kp:∀ {c o},Lj c=some o->(∀ps,o≠.my ps)->Kb c=some o:=fun {c o} e nt=>Ul _ _ (sN _ _ e) (ai e nx) (tM.not (sN _ _ e) nt);have vx:∀ {c o},H9 c=some o->(∀ps,o≠.my ps)->Kb c=some o:=fun {c o} e nt=>kp (sD _ _ e) nt;have nl:∀xs ps,HO.lst xs≠.my ps:=fun xs ps z=>by cases z
  have nt:∀xs ps,HO.tup xs≠.my ps:=fun xs ps z=>by cases z
  have Kc:=vx (s9 _ _ Z9) (nt _);have Um:=vx W1 (nt _);have Uo:=vx Li (nl _);have Up:=vx Od (nl _);have Uq:=vx (s9 _ _ Lh) (nl _);have Ur:PO Kb zs:=fun z hz=>vx (s9 _ _ (Uk z hz)) (nt _);have Kd:AV Kb S L fj fE m N ss ls:=⟨⟨vx Hy.rs.1 (nl _),Hy.rs.2.mono fun j _ e=>vx e (nt _)⟩,⟨vx Hy.rl.1 (nl _),Hy.rl.2.mono fun j _ e=>vx e (nt _)⟩,Hy.sl,Hy.ll,Hy.l5⟩
  have T7:i5 p Pt H Kb:=fun b o e n1 n2=>Ul _ _ (QB _ _ (e8 _ _ e n1)) (fun z=>by subst z;exact ai ((s9.trans sD) _ _ (e8 _ _ e n1)) nx rfl) n2;clear kp vx Ul tM QB W4 sN sD W3 s9 sA sB sC Li Od W1 Hy LG Uk Hn xD;refine iu (fun σ Hx=>Kb=Hx/\σ=[some (.ref p),some (.bl wt),some (.int (sz:Int)),some (.int (m:Int)),some (.int (n:Int)),some (.ref LT),some (.ref a),some (.ref S),some (.ref L),some (.ref kt),some (.ref bx),none,none]) ?_ (fun N hN=>hN _ _ ⟨rfl,rfl⟩);rintro σ _ ⟨rfl,rfl⟩;refine⟨_,rfl,m,rfl,by lia,by lia,cf (n:=m) (lo:=0) (fun k σ Us=>(∃Ut Uu,σ=[some (.ref p),some (.bl wt),some (.int (sz:Int)),some (.int (m:Int)),some (.int (n:Int)),some (.ref LT),some (.ref a),some (.ref S),some (.ref L),some (.ref kt),some (.ref bx),Ut,Uu])/\aG Kb Us) ⟨⟨_,_,rfl⟩,aG.refl _⟩ ?_ ?_⟩
  .rintro i σ Us hi ⟨⟨Ut,Uu,rfl⟩,DZ⟩;rw[dH];have gh:=oT (xs:=homes) (j:=i) (by lia);have Uv:=DZ _ _ Kc;refine⟨_,rfl,_,rfl,_,rfl,_,rfl,a,_,_,_,rfl,rfl,bZ.of Uv,aE gh,LT,n,_,zs,rfl,DZ _ _ Uq,Ur.same DZ,Fi,fw i hi,fun Fa H13 Hz nF hF=>?_⟩;have Ke:=DZ.trans Hz;refine⟨_,rfl,_,rfl,a,_,_,_,rfl,rfl,bZ.of (Ke _ _ Kc),aE gh,_,rfl,_,rfl,_,rfl,Fa,S,L,fj,fE,n,m,N,_,i,zp zs,ss,ls,rfl,hF,Kd.same Ke,hi,RU i hi,ON i hi,fun t A W H14 s14 ht hA hW=>?_⟩;have F4:=Ke.trans s14;exact⟨_,rfl,_,rfl,_,rfl,_,rfl,_,rfl,_,rfl,_,bx,n,zp zs,a,S,L,fj,fE,homes,m,N,ss,ls,i,t,A,W,rfl,NA.same F4,F4 _ _ Kc,Z_,Kd.same F4,hi,fw i hi,RU i hi,ht,hA,hW,fun H15 N2=>⟨_,rfl,qJ rfl ⟨⟨_,_,rfl⟩,F4.trans N2⟩⟩⟩
  .rintro σ Us ⟨⟨Ut,Uu,rfl⟩,DZ⟩;refine⟨_,rfl,_,rfl,by show 2<=sizeLine;decide,fun t ht=>?_⟩;have sT:=ag (o:=.tup [.ref S,.ref L]) ht;have Hz:=DZ.trans sT;have Lk:=Kd.same Hz;have rS:gT _ S' fj (N+1) ss:=⟨Hz _ _ Uo,Lk.rs.2⟩
   have rL:gT _ L' fE N ls:=⟨Hz _ _ Up,Lk.rl.2⟩
   refine⟨_,rfl,t,kt,_,_,rfl,rfl,bZ.of ab,bZ.of (Hz _ _ Um),rfl,fun i h1 _=>?_,?_⟩
   .match i,h1 with
    |0,_=>exact vb (aQ.of Lk.rs.1) (aQ.of rS.1) rfl (Lk.rs.WY rS)
    |1,_=>exact vb (aQ.of Lk.rl.1) (aQ.of rL.1) rfl (Lk.rl.WY rL)
   .exact q _ (fun b o e n1 n2=>Hz _ _ (T7 b o e n1 n2)) (t11.same Hz)
theorem Oq:aH ["_law_script"] ["_law_script"] (aq xQ):=⟨rfl,rfl,rfl,by decide +kernel,rfl,by decide +kernel,by decide +kernel⟩
def zj(K:PySem.W.Frag)(Pt:Addr):Sp:=fun vs H Q _=>∃ (a:Addr) (ns:List Int),vs=[.ref a]/\Hw K H a (ns.map V.int)/\ns.length<=63/\kR Pt H/\∀H',Q (.bl true) H'
theorem Kg{f C0 Pt:Addr}{fd:FuncData}(F:fH K "law" "law" xQ f fd)(B:Bl mg)(PT:ce P w K mg base bf 1 "_law_pot" ["_law_script","_law_k"] (yX K))(RT:ce P w K mg base bf 9 "_law_right" ["_law_pot_here"] (F3 C0 Pt)):bv P w K mg base bf 10 f fd ["_law_script"] (zj K Pt):=by
 refine F.ok Oq (fun vs H Q E h=>?_) (fun cT A outer s H vs Q E hr h=>?_)
 .obtain⟨a,ns,rfl,_⟩:=h;rfl
 .obtain⟨a,ns,rfl,hS,vE,tb,q⟩:=h;have h1:cI 1 _:=hr.mono (by decide);refine'⟨_,(ao (aV (az (Ac rfl) (by rfl) B.all PyProof.Rows.boot_all (aa ?c1 af)))),?_⟩;case c1=>
   refine' bt (g:=(bb 0)) (te:=(jy (F3 C0 Pt) [] E0 (bq (jy (yX K) [] E0 (bq (aT 1) (bq (aT 0) eO))) eO))) (NB:=["_law_k","_law_script"]) (src:=[none,some 0]) (br (by kernel_rfl)) rfl (aU rfl B.range (aa (az (i_ rfl) (by rfl) B.max qX (aa aj (aa (az (ja rfl) (by rfl) B.min qW (aa aj (aa (az aJ (by rfl) B.len dt (aa (pv 0) af)) af))) af))) af)) ?g ?t ?e;case g=>exact fun cl C s₃ H₃ fp=>(au (i:=0) vz rfl (Or.inl rfl) (Or.inr rfl))
   case t=>exact fun cl C s₃ H₃ fp=>bX
   case e=>exact fun cl C s₃ H₃ fp=>(aA RT hr aL (aa (aA PT h1 aL (aa (pv 1) (aa (pv 0) af))) af))
  refine⟨_,rfl,a,_,rfl,.inl hS.seq,3,_,rfl,1,_,rfl,_,rfl,?_⟩;obtain⟨j,hj,j1⟩:∃j:Int,(if (if (((ns.map V.int).length:Nat):Int)<3 then (((ns.map V.int).length:Nat):Int) else 3) > 1 then (if (((ns.map V.int).length:Nat):Int)<3 then (((ns.map V.int).length:Nat):Int) else 3) else 1)=j/\1<=j/\j<=3:=⟨_,rfl,by split <;> split <;> lia⟩
  rw[hj];refine⟨by lia,by lia,fun D hD=>?_⟩;have tD:=tb.same (ag (o:=.lst []) hD);refine cQ (lo:=0) (fun k ys σ Hc=>(∃u,σ=[u,some (.ref a)])/\Hw K Hc a (ns.map V.int)/\kR Pt Hc/\Hc D=some (.lst ys)/\∃bs:List Bool,ys=bs.map V.bl/\bs.length=k/\bs.all id=true) ⟨⟨_,rfl⟩,hS.mono fun o u e=>ag hD _ _ e,tD,ab,[],rfl,rfl,rfl⟩ ?_ ?_
  .rintro k ys σ Hc Kt Kf hk ⟨⟨u,rfl⟩,Sc,tc,vJ,bs,rfl,bl,ba⟩ kt kf;rw[dH];refine⟨_,rfl,_,rfl,a,ns,k,rfl,Sc.seq,by lia,fun p H1 y7 IW C5=>?_⟩;refine⟨p,rfl,C5,tc.same y7,fun H2 lY t2=>?_⟩;have kp:∀ {b o},Hc b=some o->(∀ps,o≠.my ps)->H2 b=some o:=fun {b o} e nt=>lY _ _ (y7 _ _ e) (ai e IW) ((tc.same y7).not (y7 _ _ e) nt);have iz:=kp vJ (by intro ps z;cases z);refine kt _ _ _ iz (by rw[aB,bl];exact bN (show k<33 by lia) (by decide)) ⟨⟨_,rfl⟩,Sc.mono fun o u e=>?_,?_,ab,bs++[true],by rw[bT];rfl,by rw[bY,bl];rfl,by rw[List.all_append,ba];rfl⟩
   .have e2:=kp e (by intro ps z;cases z);rw[am (by rintro rfl;rw[vJ] at e;cases e)];exact e2
   .rcases t2 with z|⟨c,z,y⟩
    .exact .inl (by rw[am (by rintro rfl;rw[iz] at z;cases z)];exact z)
    .exact .inr ⟨c,by rw[am (by rintro rfl;rw[iz] at z;cases z)];exact z,by rw[am (by rintro rfl;rw[iz] at y;cases y)];exact y⟩
  .rintro ys σ Hc ⟨_,_,_,vJ,bs,rfl,bl,ba⟩;refine⟨D,bs,rfl,aQ.of vJ,?_⟩;rw[ba];exact q _
end
def FD(K:PySem.W.Frag)(n:Str)(st:Stmt):Prop:=∃ (f:Addr) (oc:Value) (od an:Option Addr) (sl:Array (Option Value)) (kV dc pm cd ct:Value),PySem.W.nsIn K mainGlobals n=some (some (.ref f))/\K.lookup f=some ⟨oc,od,.func (PySem.W.fnOf n n (cP st) (cr st) (aq st) .none kV dc pm an cd ct),sl⟩/\PySem.W.codeIn K cd n=true/\PySem.W.keepIn K (.ref f)=true
def FC(K:PySem.W.Frag)(n:Str)(st:Stmt)(c:Addr):Prop:=∃ (f:Addr) (oc:Value) (od an:Option Addr) (sl:Array (Option Value)) (kV dc pm ct:Value),PySem.W.nsIn K mainGlobals n=some (some (.ref f))/\K.lookup f=some ⟨oc,od,.func (PySem.W.fnOf n n (cP st) (cr st) (aq st) .none kV dc pm an (.ref c) ct),sl⟩/\PySem.W.codeIn K (.ref c) n=true/\PySem.W.keepIn K (.ref f)=true
def MD(K:PySem.W.Frag)(C:Addr)(n q:Str)(st:Stmt):Prop:=∃ (f:Addr) (oc:Value) (od an:Option Addr) (sl:Array (Option Value)) (kV dc pm cd ct:Value),PySem.W.findIn K (.ref C) n=some (some (.ref f))/\PySem.W.isFn K (.ref f)=true/\K.lookup f=some ⟨oc,od,.func (PySem.W.fnOf n q (cP st) (cr st) (aq st) .none kV dc pm an cd ct),sl⟩/\PySem.W.codeIn K cd q=true/\PySem.W.keepIn K (.ref f)=true
section
variable {P:Program} {w:World} {K:PySem.W.Frag} {mg:Str->Option Value} {base h:Heap} {n q:Str} {st:Stmt} {f c C:Addr} {oc kV dc pm cd ct:Value} {od an:Option Addr} {sl:Array (Option Value)} {CX:uk} {k:Nat} {ps:List Str} {sp:Sp}
theorem FD.mk(a:PySem.W.nsIn K mainGlobals n=some (some (.ref f)))(l:K.lookup f=some ⟨oc,od,.func (PySem.W.fnOf n n (cP st) (cr st) (aq st) .none kV dc pm an cd ct),sl⟩)(d:PySem.W.codeIn K cd n=true)(k:PySem.W.keepIn K (.ref f)=true):FD K n st:=⟨f,oc,od,an,sl,kV,dc,pm,cd,ct,a,l,d,k⟩
theorem FC.mk(a:PySem.W.nsIn K mainGlobals n=some (some (.ref f)))(l:K.lookup f=some ⟨oc,od,.func (PySem.W.fnOf n n (cP st) (cr st) (aq st) .none kV dc pm an (.ref c) ct),sl⟩)(d:PySem.W.codeIn K (.ref c) n=true)(k:PySem.W.keepIn K (.ref f)=true):FC K n st c:=⟨f,oc,od,an,sl,kV,dc,pm,ct,a,l,d,k⟩
theorem MD.mk(a:PySem.W.findIn K (.ref C) n=some (some (.ref f)))(i:PySem.W.isFn K (.ref f)=true)(l:K.lookup f=some ⟨oc,od,.func (PySem.W.fnOf n q (cP st) (cr st) (aq st) .none kV dc pm an cd ct),sl⟩)(d:PySem.W.codeIn K cd q=true)(k:PySem.W.keepIn K (.ref f)=true):MD K C n q st:=⟨f,oc,od,an,sl,kV,dc,pm,cd,ct,a,i,l,d,k⟩
def BD(n q:Str)(st:Stmt)(ps:List Str):Prop:=∀ (kV ky pm:Value) (an:Option Addr) (cT ct:Value) (us:List Value),us.length=ps.length->bindArgs (PySem.W.fnOf n q (cP st) (cr st) (aq st) .none kV ky pm an cT ct) ⟨us,[]⟩=pure (ps.zip us)
theorem FD.gE(X:K.In h)(G:h.Ns mainGlobals mg)(D:FD K n st)(b:BD n n st ps)(o:∀ {f fd},fH K n n st f fd->bv P w K mg base CX k f fd ps sp):ce P w K mg base CX k n ps sp:=by
 obtain⟨f,_,_,_,_,_,_,_,_,_,a,l,d,kp⟩:=D;have F:=sg (x:=n) (qual:=n) (st:=st) l d kp;exact⟨⟨f,_,jK X G a,kp,F.binds b,o F⟩⟩
theorem FC.gE(X:K.In h)(G:h.Ns mainGlobals mg)(D:FC K n st c)(b:BD n n st ps)(o:∀ {f fd},w_ K n n st f fd c->bv P w K mg base CX k f fd ps sp):ce P w K mg base CX k n ps sp:=by
 obtain⟨f,_,_,_,_,_,_,_,_,a,l,d,kp⟩:=D;have F:=EH (x:=n) (qual:=n) (st:=st) l d kp;exact⟨⟨f,_,jK X G a,kp,F.fun.binds b,o F⟩⟩
theorem MD.gE(D:MD K C n q st)(b:BD n q st ps)(o:∀ {f fd},fH K n q st f fd->bv P w K mg base CX k f fd ps sp):CG P w K mg base CX k C n ps sp:=by
 obtain⟨f,_,_,_,_,_,_,_,_,_,a,i,l,d,kp⟩:=D;have F:=sg (x:=n) (qual:=q) (st:=st) l d kp;exact⟨⟨f,_,⟨a,i,kp⟩,F.binds b,o F⟩⟩
end
theorem o3{α:Type}{P:List α->Prop}(h:∀a0,P [a0])(l:List α)(e:l.length=1):P l:=by
 cases l with
 |nil=>cases e
 |cons a t=>cases t with
  |nil=>exact h a
  |cons b t=>cases e
theorem f9{α:Type}{P:List α->Prop}(h:∀a0 a1,P [a0,a1])(l:List α)(e:l.length=2):P l:=by
 cases l with
 |nil=>cases e
 |cons a t=>exact o3 (P:=fun t=>P (a::t)) (h a) t (nX e)
theorem gU{α:Type}{P:List α->Prop}(h:∀a0 a1 a2,P [a0,a1,a2])(l:List α)(e:l.length=3):P l:=by
 cases l with
 |nil=>cases e
 |cons a t=>exact f9 (P:=fun t=>P (a::t)) (h a) t (nX e)
theorem vA{α:Type}{P:List α->Prop}(h:∀a0 a1 a2 a3,P [a0,a1,a2,a3])(l:List α)(e:l.length=4):P l:=by
 cases l with
 |nil=>cases e
 |cons a t=>exact gU (P:=fun t=>P (a::t)) (h a) t (nX e)
theorem qO{α:Type}{P:List α->Prop}(h:∀a0 a1 a2 a3 a4,P [a0,a1,a2,a3,a4])(l:List α)(e:l.length=5):P l:=by
 cases l with
 |nil=>cases e
 |cons a t=>exact vA (P:=fun t=>P (a::t)) (h a) t (nX e)
theorem Os{α:Type}{P:List α->Prop}(h:∀a0 a1 a2 a3 a4 a5,P [a0,a1,a2,a3,a4,a5])(l:List α)(e:l.length=6):P l:=by
 cases l with
 |nil=>cases e
 |cons a t=>exact qO (P:=fun t=>P (a::t)) (h a) t (nX e)
theorem Kh{l:PySem.W.OpenLaw}{w:World}{K:PySem.W.Frag}{h:Heap}{mg:Str->Option Value}{fa:Addr}(X:K.In h)(G:h.Ns mainGlobals mg)(Tx:mg "law"=some (.ref fa)){C cO Pt:Addr}{mN pM mO:Tok}(aC:PySem.W.nsIn K mainGlobals "Net"=some (some (.ref C)))(F5:FD K "is_whole" xq)(DG:FD K "is_whole_within" s_)(F6:FD K "is_house" xr)(Ot:FD K "is_row" IR)(Ou:FD K "are_unlike_houses" I0)(Ov:FD K "is_tie" IY)(F7:FD K "check_ties" xw)(Ow:FD K "check_balance" IZ)(Ki:FC K "houses_out" u_ cO)(Kj:FD K "distances_from" CL)(F8:FD K "check_reached" xx)(F9:FD K "is_led" xM)(Uw:FD K "is_handed_on" To)(Ux:FD K "beats_under_way" Tp)(Uy:FD K "waited_at" Tq)(Uz:FD K "home_at" Tt)(UA:FD K "led_at" Tu)(Ox:FD K "_law_pot" Jq)(DH:FD K "_law_take" CU)(F_:FD K "_law_sides" tG)(Oy:FD K "_law_box_pairs" Jt)(Kk:FD K "_law_tree_pairs" C6)(Kl:FD K "_law_more_pairs" y3)(Oz:FD K "_law_cycle" Jx)(OA:FD K "_law_one_way" C_)(OB:FD K "_law_net" Df)(DI:FD K "_law_ground" kW)(Ga:FD K "_law_outs" xH)(UB:FD K "_law_homeward" Th)(Gb:FD K "_law_homes" xI)(Gc:FD K "_law_begun" xJ)(Km:FD K "_law_handing" zc)(OC:FD K "_law_behind" JN)(UC:FD K "_law_let_in" Tz)(UD:FD K "_law_walked" TJ)(UE:FD K "_law_due" Ua)(UF:FD K "_law_is_told" Ub)(UG:FD K "_law_right" Ug)(OD:FD K "law" xQ)(Kn:MD K C "__init__" "Net.__init__" yP)(Gd:MD K C "check_house" "Net.check_house" xu)(OE:MD K C "far" "Net.far" IX)(pg:PySem.W.plainGet K C Str.empty=true)(UH:PySem.W.hasDictIn K C=true)(po:PySem.W.plainOver K C=true)(sa:PySem.W.findIn K (.ref C) "__setattr__"=some (some (.builtin "object.__setattr__")))(mk:PySem.W.makesIn K C=true)(kc:PySem.W.keepIn K (.ref C)=true)(nH:PySem.W.findIn K (.ref C) "house_count"=some none)(nT:PySem.W.findIn K (.ref C) "tie_list"=some none)(nO:PySem.W.findIn K (.ref C) "out_lists"=some none)(nD:PySem.W.findIn K (.ref C) "distances"=some none)(tX:PySem.W.nsIn K mainGlobals "isinstance"=some none)(OF:PySem.W.nsIn K mainGlobals "int"=some none)(Ko:PySem.W.nsIn K mainGlobals "bool"=some none)(Ge:PySem.W.nsIn K mainGlobals "tuple"=some none)(Kp:PySem.W.nsIn K mainGlobals "list"=some none)(OG:PySem.W.nsIn K mainGlobals "str"=some none)(OH:PySem.W.nsIn K mainGlobals "set"=some none)(OI:PySem.W.nsIn K mainGlobals "len"=some none)(Gf:PySem.W.nsIn K mainGlobals "range"=some none)(DJ:PySem.W.nsIn K mainGlobals "sorted"=some none)(OJ:PySem.W.nsIn K mainGlobals "any"=some none)(OK:PySem.W.nsIn K mainGlobals "max"=some none)(OL:PySem.W.nsIn K mainGlobals "min"=some none)(tY:PySem.W.nsIn K mainGlobals "ValueError"=some none)(OM:PySem.W.nsIn K mainGlobals "all"=some none)(OO:PySem.W.nsIn K mainGlobals "abs"=some none)(mP:PySem.W.nsIn K mainGlobals "FEWEST_HOUSES"=some (some (.int 2 mN)))(pN:PySem.W.nsIn K mainGlobals "MOST_HOUSES"=some (some (.int 32 pM)))(mQ:PySem.W.nsIn K mainGlobals "MOST_TIES_OUT"=some (some (.int 8 mO)))(Kq:PySem.W.codeHdIn K cO Pt=true):
  ∃fd:FuncData,(∀ (s:Shared) (v:Value),BindsTo s fd ⟨[v],[]⟩ [("_law_script",v)])/\∀base:Heap,K.In base->base.Ns mainGlobals mg->sH mg base->bv l.prog w K mg base bf 10 fa fd ["_law_script"] (zj K Pt):=by
 obtain⟨W5,oc,od,an,sl,kV,dc,pm,cd,ct,OP,OQ,OR,OS⟩:=OD;have e:=Tx.symm.trans (jK X G OP);cases e;have OT:=sg (x:="law") (qual:="law") (st:=xQ) OQ OR OS;obtain⟨W6,oci,odi,ani,sli,kVi,dci,pmi,cdi,cti,a_i,i_i,l_i,d_i,k_i⟩:=Kn;have vB:=sg (x:="__init__") (qual:="Net.__init__") (st:=yP) l_i d_i k_i;have DK:=vB.binds (ps:=["self","many","ties"]) fun _ _ _ _ _ _=>gU fun _ _ _=>rfl;have MK:Mk K C W6:=⟨mk,a_i,i_i,kc⟩
 have B:Bl mg:=⟨ft X G tX,ft X G OF,ft X G Ko,ft X G Ge,ft X G Kp,ft X G OG,ft X G OH,ft X G OI,ft X G Gf,ft X G DJ,ft X G OJ,ft X G OK,ft X G OL,ft X G tY,ft X G OM⟩
 have T:NT K mg C:=⟨⟨pg,UH,po,sa⟩,nH,nT,nO,nD,jK X G aC⟩
 have B2:VY mg:=⟨ft X G OO⟩
 refine⟨PySem.W.fnOf "law" "law" (cP xQ) (cr xQ) (aq xQ) .none kV dc pm an cd ct,fun s v=>.of_eq rfl,fun base kb nb hb=>?_⟩;have Gg:ce l.prog w K mg base bf 1 "is_whole" ["thing"] (tf K):=FD.gE X G F5 (fun _ _ _ _ _ _=>o3 fun _=>rfl) fun Gh=>Cz Gh B;have o4:ce l.prog w K mg base bf 2 "is_whole_within" ["thing","least","most"] (iY K):=FD.gE X G DG (fun _ _ _ _ _ _=>gU fun _ _ _=>rfl) fun DL=>As DL Gg;have zk:ce l.prog w K mg base bf 3 "is_house" ["many","thing"] (m4 K):=FD.gE X G F6 (fun _ _ _ _ _ _=>f9 fun _ _=>rfl) fun Gi=>CC Gi o4;have OV:ce l.prog w K mg base bf 1 "is_row" ["thing","length"] (CD K):=FD.gE X G Ot (fun _ _ _ _ _ _=>f9 fun _ _=>rfl) fun OX=>IU OX B;have OY:ce l.prog w K mg base bf 4 "are_unlike_houses" ["many","one","other"] CH:=FD.gE X G Ou (fun _ _ _ _ _ _=>gU fun _ _ _=>rfl) fun OZ=>I_ OZ zk;have O0:ce l.prog w K mg base bf 5 "is_tie" ["many","thing"] CI:=FD.gE X G Ov (fun _ _ _ _ _ _=>f9 fun _ _=>rfl) fun O1=>Ja O1 OV OY;have Gj:ce l.prog w K mg base bf 6 "check_ties" ["many","ties"] jd:=FD.gE X G F7 (fun _ _ _ _ _ _=>f9 fun _ _=>rfl) fun Gk=>CJ Gk B ⟨_,jK X G mP⟩ ⟨_,jK X G pN⟩ o4 O0;have O2:ce l.prog w K mg base bf 1 "check_balance" ["many","ties"] jd:=FD.gE X G Ow (fun _ _ _ _ _ _=>f9 fun _ _=>rfl) fun O4=>Jb O4 B ⟨_,jK X G mQ⟩;have Kr:ce l.prog w K mg base bf 1 "houses_out" ["many","ties","house"] (tm Pt):=FC.gE X G Ki (fun _ _ _ _ _ _=>gU fun _ _ _=>rfl) fun Ks=>Fk Ks B kb hb Kq;have Ku:ce l.prog w K mg base bf 1 "distances_from" ["out_lists","start"] tq:=FD.gE X G Kj (fun _ _ _ _ _ _=>f9 fun _ _=>rfl) fun Kv=>Fl Kv B;have Gm:ce l.prog w K mg base bf 1 "check_reached" ["distances"] tu:=FD.gE X G F8 (fun _ _ _ _ _ _=>o3 fun _=>rfl) fun Go=>CP Go B;have Kw:bv l.prog w K mg base bf 7 W6 _ ["self","many","ties"] (xz C Pt):=Fq vB T B Gj O2 Kr Ku Gm;have Gp:CG l.prog w K mg base bf 4 C "check_house" ["self","thing"] (oO C):=MD.gE Gd (fun _ _ _ _ _ _=>f9 fun _ _=>rfl) fun AG=>At AG T zk;have O5:CG l.prog w K mg base bf 5 C "far" ["self","one","other"] (xv C):=MD.gE OE (fun _ _ _ _ _ _=>gU fun _ _ _=>rfl) fun Gq=>Fe Gq T Gp;have Gr:ce l.prog w K mg base bf 6 "is_led" ["net","homes","stand","handing","letter"] (ng C):=FD.gE X G F9 (fun _ _ _ _ _ _=>qO fun _ _ _ _ _=>rfl) fun Gs=>Dy Gs T O5;have UI:ce l.prog w K mg base bf 3 "is_handed_on" ["stands","log","letter","beat"] (FW K):=FD.gE X G Uw (fun _ _ _ _ _ _=>vA fun _ _ _ _=>rfl) fun UJ=>NR UJ B o4;have Kx:ce l.prog w K mg base bf 4 "beats_under_way" ["stands","log","letter"] Dx:=FD.gE X G Ux (fun _ _ _ _ _ _=>gU fun _ _ _=>rfl) fun UK=>NS UK B UI;have UL:ce l.prog w K mg base bf 5 "waited_at" ["stands","log","letter"] JT:=FD.gE X G Uy (fun _ _ _ _ _ _=>gU fun _ _ _=>rfl) fun UM=>NW UM Kx;have UN:ce l.prog w K mg base bf 5 "home_at" ["homes","stands","log","letter"] JU:=FD.gE X G Uz (fun _ _ _ _ _ _=>vA fun _ _ _ _=>rfl) fun UO=>NY UO Kx;have UP:ce l.prog w K mg base bf 7 "led_at" ["net","homes","stands","log","letter"] (JV C):=FD.gE X G UA (fun _ _ _ _ _ _=>qO fun _ _ _ _ _=>rfl) fun UQ=>N0 UQ Kx Gr;have O6:ce l.prog w K mg base bf 1 "_law_pot" ["_law_script","_law_k"] (yX K):=FD.gE X G Ox (fun _ _ _ _ _ _=>f9 fun _ _=>rfl) fun O7=>Jr O7 B B2;have i8:ce l.prog w K mg base bf 1 "_law_take" ["_law_pot_here","_law_many"] eU:=FD.gE X G DH (fun _ _ _ _ _ _=>f9 fun _ _=>rfl) fun xR=>yY xR;have nh:ce l.prog w K mg base bf 1 "_law_take" ["_law_pot_here","_law_many"] jh:=FD.gE X G DH (fun _ _ _ _ _ _=>f9 fun _ _=>rfl) fun xR=>(yY xR).imp fun _ _ _ _ h=>Nt h;have zo:ce l.prog w K mg base bf 2 "_law_sides" ["_law_pot_here"] m7:=FD.gE X G F_ (fun _ _ _ _ _ _=>o3 fun _=>rfl) fun Gu=>CZ Gu B i8;have HB:ce l.prog w K mg base bf 1 "_law_box_pairs" ["_law_sides_here"] yZ:=FD.gE X G Oy (fun _ _ _ _ _ _=>o3 fun _=>rfl) fun O8=>Ju O8 B;have Ky:ce l.prog w K mg base bf 2 "_law_tree_pairs" ["_law_pot_here","_law_many"] xC:=FD.gE X G Kk (fun _ _ _ _ _ _=>f9 fun _ _=>rfl) fun Kz=>FF Kz B nh;have KA:ce l.prog w K mg base bf 2 "_law_more_pairs" ["_law_pot_here","_law_many","_law_pairs"] xE:=FD.gE X G Kl (fun _ _ _ _ _ _=>gU fun _ _ _=>rfl) fun KB=>FG KB B i8;have O9:ce l.prog w K mg base bf 2 "_law_cycle" ["_law_pot_here","_law_many","_law_size"] Dd:=FD.gE X G Oz (fun _ _ _ _ _ _=>gU fun _ _ _=>rfl) fun O_=>Jz O_ B i8;have Pa:ce l.prog w K mg base bf 3 "_law_one_way" ["_law_pot_here","_law_many"] De:=FD.gE X G OA (fun _ _ _ _ _ _=>f9 fun _ _=>rfl) fun Pb=>JB Pb B i8 O9;have Pc:ce l.prog w K mg base bf 4 "_law_net" ["_law_pot_here"] Dh:=FD.gE X G OB (fun _ _ _ _ _ _=>o3 fun _=>rfl) fun Pd=>JE Pd B i8 zo HB Ky KA Pa;have DM:ce l.prog w K mg base bf 5 "_law_ground" ["_law_pot_here","_law_waits"] oX:=FD.gE X G DI (fun _ _ _ _ _ _=>f9 fun _ _=>rfl) fun DN=>Az DN B zo HB Pc;have Gv:ce l.prog w K mg base bf 1 "_law_outs" ["_law_many","_law_ties"] tK:=FD.gE X G Ga (fun _ _ _ _ _ _=>f9 fun _ _=>rfl) fun Gw=>Dk Gw B;have UR:ce l.prog w K mg base bf 1 "_law_homeward" ["_law_many","_law_ties","_law_home"] (JS K):=FD.gE X G UB (fun _ _ _ _ _ _=>gU fun _ _ _=>rfl) fun US=>NQ US B;have Gx:ce l.prog w K mg base bf 2 "_law_homes" ["_law_pot_here","_law_many","_law_letters"] tL:=FD.gE X G Gb (fun _ _ _ _ _ _=>gU fun _ _ _=>rfl) fun Gz=>Dm Gz B i8;have GA:ce l.prog w K mg base bf 2 "_law_begun" ["_law_pot_here","_law_outs_here","_law_homes_here","_law_waits"] tR:=FD.gE X G Gc (fun _ _ _ _ _ _=>vA fun _ _ _ _=>rfl) fun GB=>Dn GB B i8;have KC:ce l.prog w K mg base bf 2 "_law_handing" ["_law_pot_here","_law_outs_here","_law_stand","_law_waits"] xK:=FD.gE X G Km (fun _ _ _ _ _ _=>vA fun _ _ _ _=>rfl) fun KD=>FO KD B i8;have Pe:ce l.prog w K mg base bf 1 "_law_behind" ["_law_homes_here","_law_stand","_law_handing_here"] Dt:=FD.gE X G OC (fun _ _ _ _ _ _=>gU fun _ _ _=>rfl) fun Pf=>JR Pf B;have UT:ce l.prog w K mg base bf 2 "_law_let_in" ["_law_pot_here","_law_outs_here","_law_homes_here","_law_stand","_law_left"] JY:=FD.gE X G UC (fun _ _ _ _ _ _=>qO fun _ _ _ _ _=>rfl) fun UU=>N3 UU B nh;have UV:ce l.prog w K mg base bf 3 "_law_walked" ["_law_pot_here","_law_outs_here","_law_homes_here","_law_waits","_law_size"] J4:=FD.gE X G UD (fun _ _ _ _ _ _=>qO fun _ _ _ _ _=>rfl) fun UW=>N8 UW B nh GA UT KC Pe;have UX:ce l.prog w K mg base bf 1 "_law_due" ["_law_far","_law_home","_law_stands","_law_log","_law_i"] J8:=FD.gE X G UE (fun _ _ _ _ _ _=>qO fun _ _ _ _ _=>rfl) fun UY=>Oh UY B;have UZ:ce l.prog w K mg base bf 8 "_law_is_told" ["_law_net_here","_law_homes_here","_law_stands","_law_log","_law_i","_law_due_here"] (Ka C):=FD.gE X G UF (fun _ _ _ _ _ _=>Os fun _ _ _ _ _ _=>rfl) fun U0=>Oi U0 B UN UP UL;have U1:ce l.prog w K mg base bf 9 "_law_right" ["_law_pot_here"] (F3 C Pt):=FD.gE X G UG (fun _ _ _ _ _ _=>o3 fun _=>rfl) fun U2=>Oo U2 B T MK DK Kw nh DM Gx UV Gv UR UX UZ;exact Kg OT B O6 U1
theorem Pg(h:((List.range 2000).any fun c=>PySem.W.codeHdIn K c P)=true):∃c,PySem.W.codeHdIn K c P=true:=
 let ⟨c,_,e⟩:=List.any_eq_true.mp h;⟨c,e⟩
theorem KE(hO:yv ts H)(h:aQ K H a xs):Hw K H a xs:=by
 rcases h with h|h
 .rcases h with h|⟨o,h⟩
  .rcases hO.2 a with z|⟨_,z⟩|⟨o,ys,z⟩ <;> · rw[h] at z;cases z
  .exact .inl ⟨o,h⟩
 .exact .inr fun H'=>.inr h
theorem walk{l:PySem.W.OpenLaw}{q:Program}{qd:List Str}{XP:(Str->Option Value)->Heap->Prop}{YP:World->Heap->Prop}{d:DefRec}{K:Params->PySem.W.Frag}{Pt:Addr}(hn:l.most=some 63)(Mf:d.params.defaults=[])(hY:∀ (w:World) (h:Heap),YP w h->(K w.params).In h)(hT:∀ (w:World) (h:Heap),YP w h->∀P∈[Pt],h.get? P=some (PySem.W.tabObj #[]))(o5:∀ (w:World),((List.range 2000).any fun c=>PySem.W.codeHdIn (K w.params) c Pt)=true)(ID:∀ (w:World),(K w.params).lookup Pt=none)(F:∀ (w:World) (mg:Str->Option Value) (fa:Addr) (h:Heap),(K w.params).In h->h.Ns mainGlobals mg->mg d.name=some (.ref fa)->
   ∃fd:FuncData,(∀ (s:Shared) (u:Value),BindsTo s fd ⟨[u],[]⟩ [("_law_script",u)])/\∀base:Heap,(K w.params).In base->base.Ns mainGlobals mg->sH mg base->bv l.prog w (K w.params) mg base bf 10 fa fd ["_law_script"] (zj (K w.params) Pt)):
  PySem.W.WalkO q qd XP YP l.row.toRowW d [] (fun f vs=>PySem.call f vs):=
 B9 (n:=63) (k:=10) (x:="_law_script") (ts:=[Pt]) (K:=K) (CX:=fun _=>bf) (sp:=fun w=>(zj (K w.params) Pt)) hn (by decide) Mf ⟨rfl,by decide,by decide,rfl⟩ hY hT
  (fun w P hP=>by rw[bR.mp hP];exact Pg (o5 w)) (fun w P hP=>by rw[bR.mp hP];exact ID w) F
  (fun w H a ns hl hO hS=>⟨a,ns,rfl,KE hO hS,hl,.inl (hO.1 _ (by simp)),fun _=>rfl⟩) fun _ _ _ _ _ z=>z
end DY
open PySem PySem.W PyProof.Rows
namespace PySem.W.Fast
def tw10101472728927009206:=trivial
def tw15159842784622035002:=trivial
def tw18418786207204327416:=trivial
def tw18287482239344300991:=trivial
def tw12910675927682337452:=trivial
def tw2359714484971707766:=trivial
def tw10585128924488166923:=trivial
def tw18077759189545802263:=trivial
def tw1101890325215562648:=trivial
def tw11365880316802382500:=trivial
def tw9139884971687436357:=trivial
def tw15242738606348799854:=trivial
def tw397556756310867877:=trivial
def tw3312112347508325844:=trivial
def tw1542768603259678182:=trivial
def tw5351037999134031261:=trivial
def tw18175815252892080808:=trivial
def tw17325531178357605873:=trivial
def tw16152109109481710379:=trivial
def tw10898577076881570807:=trivial
def tw10767810234696098610:=trivial
def tw7362914110225505702:=trivial
def tw17358261555434219127:=trivial
def tw5662045767098942551:=trivial
def tw16247188041829436094:=trivial
def tw3382657283124147977:=trivial
def tw4725690352765877354:=trivial
def tw14477964914419645342:=trivial
def tw5076398247135293479:=trivial
def tw11884792715776501962:=trivial
def tw9856550083091294483:=trivial
def tw9099463827595629005:=trivial
def tw7648940707483474944:=trivial
def tw1723027306638265697:=trivial
def tw12329981250148837827:=trivial
def tw2309688544012706530:=trivial
def tw14827234209571736686:=trivial
def tw5828620530260788968:=trivial
def tw13767847098424854415:=trivial
def tw16387631489722017441:=trivial
def tw9906858110509631428:=trivial
def tw3317637908560516048:=trivial
def tw12881459337674548310:=trivial
def tw12533435332731153750:=trivial
def tw13366800161519975170:=trivial
def tw18307998264888980095:=trivial
def tw940052451576514867:=trivial
def tw4924070268967265470:=trivial
def tw10334061499585101505:=trivial
def tw12486480593785839277:=trivial
def tw8817392118075284170:=trivial
def tw11339470919430488433:=trivial
def tw5367897083622342430:=trivial
def tw12561566490327672287:=trivial
def tw15274284862752502036:=trivial
def tw8903336489129222206:=trivial
def tw7506608535192438785:=trivial
def tw11530559486335743488:=trivial
def tw9343692885461084201:=trivial
def tw11249796557527732566:=trivial
def tw17968391811842217397:=trivial
def tw18171764650622268489:=trivial
def tw18288251280411232066:=trivial
def tw10198973554816476203:=trivial
def tw12778472084286595970:=trivial
def tw11673491084031254290:=trivial
def tw15473517899451764722:=trivial
def tw678858236635938209:=trivial
def tw4299641073828169022:=trivial
def tw17747217403092147912:=trivial
def tw5746256764188042591:=trivial
def tw9687574525103711669:=trivial
def tw985708627651575567:=trivial
def tw7965792040803084765:=trivial
def tw18017552853152923198:=trivial
def tw2661945504270652981:=trivial
def tw8668077059093969534:=trivial
def tw709636643153709932:=trivial
def tw1230174951823547867:=trivial
def tw18075346967279603863:=trivial
def tw4611193960892998898:=trivial
def tw16838943283374844347:=trivial
def tw2200518911563982668:=trivial
def tw10227780231539217839:=trivial
def tw11737797862529805381:=trivial
def tw9774169900491095844:=trivial
def tw15188159156116178060:=trivial
def tw7703513717624238863:=trivial
def tw7658789988199536427:=trivial
def tw3703758315571212036:=trivial
def tw13995956844093621879:=trivial
def tw16624120525678961013:=trivial
def tw1915479533931436340:=trivial
def tw6157224561191637519:=trivial
def tw13319199126416692395:=trivial
def tw4003760841804610070:=trivial
def tw18036519927127790185:=trivial
def tw7507983440476487598:=trivial
def tw6662515825448330271:=trivial
def tw16437491715652601411:=trivial
def tw4600965121663606452:=trivial
def tw2350231465706823788:=trivial
def tw3751736584552855652:=trivial
def tw15691226156553928988:=trivial
def tw2696191713924019125:=trivial
def tw4427084544056403115:=trivial
def tw13795352672148130305:=trivial
def tw5006064390409815066:=trivial
def tw15439994305924380595:=trivial
def tw12801944931680519191:=trivial
def tw6205149152222325295:=trivial
def tw9913599733502647608:=trivial
def tw15146344011869137315:=trivial
def tw2477676578143802924:=trivial
def tw9552522492869757390:=trivial
def tw8947558302486334134:=trivial
def tw6587644455117587915:=trivial
def tw564995613700523576:=trivial
def tw1294425460310645002:=trivial
def tw10311988556227367531:=trivial
def tw4007683014752385969:=trivial
def tw13386928930349600023:=trivial
def tw12167272672065678332:=trivial
def tw7180269580572344686:=trivial
def tw7984779564055776709:=trivial
def tw1587379884290134671:=trivial
def tw5478757442497069149:=trivial
def tw13207012845178568706:=trivial
def tw5342627665754183593:=trivial
def tw14049099213873506453:=trivial
def tw3462689963082064211:=trivial
def tw5591024080213217096:=trivial
def tw16026503741860159425:=trivial
def tw15172079987178164488:=trivial
def tw15220712916084843273:=trivial
def tw94959133599141434:=trivial
def tw16840423653541407979:=trivial
def tw9124829739766551487:=trivial
def tw1725595641891597574:=trivial
def tw10913616929864783630:=trivial
def tw9728884396535429082:=trivial
def tw13462153632363046638:=trivial
def tw14692384863157611161:=trivial
def tw17764104942136891697:=trivial
def tw4537251005163111616:=trivial
def tw6714452523264856414:=trivial
def tw13632274507454561349:=trivial
def tw9160638290817937614:=trivial
def tw18107009525466088126:=trivial
def tw15985849479268493768:=trivial
def tw8215452459820807404:=trivial
def tw6188279530262974656:=trivial
def tw1761350230073302305:=trivial
def tw7049855184835962816:=trivial
def tw11001053617426554819:=trivial
def tw3969612039948764305:=trivial
def tw2980135287220142760:=trivial
def tw5071778890560654579:=trivial
def tw14365472697778315322:=trivial
def tw11227397523184305585:=trivial
def tw3711813553851421300:=trivial
def tw7546593629767422610:=trivial
def tw14552749531635797393:=trivial
def tw8792160215175143271:=trivial
def tw4167319719165879798:=trivial
def tw12658126621379202834:=trivial
def tw5916073301582895665:=trivial
def tw15378390676181275083:=trivial
def tw7165723506962548595:=trivial
def tw17612615370983667432:=trivial
def tw18362611592477475250:=trivial
def tw13741951317622110705:=trivial
def tw11291464376453395772:=trivial
def tw15314723352065861856:=trivial
def tw17598678471004288964:=trivial
def tw998364880765546194:=trivial
def tw13190044744469176327:=trivial
def tw1811110020452873683:=trivial
def tw9885716405513285349:=trivial
def tw4746301682082167322:=trivial
def tw16635970845852226554:=trivial
def tw6218027871628540486:=trivial
def tw5481737684841412744:=trivial
def tw10552446891753399313:=trivial
def tw9381020499297269484:=trivial
def tw15597121768522542897:=trivial
def tw11461484717850829181:=trivial
def tw1481060256645393342:=trivial
def tw11493242023258335044:=trivial
def tw9113768457578389660:=trivial
def tw6866035752530436199:=trivial
def tw10264868599658928300:=trivial
def tw11358982870400097676:=trivial
def tw5373592735613140447:=trivial
def tw11531307465932594032:=trivial
def tw562162423420309047:=trivial
def tw15926554439349428070:=trivial
def tw16269594829719055069:=trivial
def tw12281234823454839465:=trivial
def tw16325402739381359799:=trivial
def tw969164966233929030:=trivial
def tw14504156119027870582:=trivial
def tw15592217991218901980:=trivial
def tw9757699296429020955:=trivial
def tw13394682362220489515:=trivial
def tw14477318629398123047:=trivial
def tw14155984708532321188:=trivial
def tw2246024776745548473:=trivial
def tw13879123360360817104:=trivial
def tw3029539136849693546:=trivial
def tw2241304618009878741:=trivial
def tw11254420858843384255:=trivial
def tw11807634541025245976:=trivial
def tw566518895126925881:=trivial
def tw833496897296024102:=trivial
def tw15230904680207873282:=trivial
def tw7765022352426513512:=trivial
def tw5966007052700290822:=trivial
def tw17285979769728208089:=trivial
def tw8857766633877712267:=trivial
def tw17024426675493782327:=trivial
def tw9139179774296674599:=trivial
def tw16296779114018791606:=trivial
def tw12156233668777715825:=trivial
def tw11314450485264931788:=trivial
def tw36816187884648092:=trivial
def tw1135867839144532183:=trivial
def tw5387276913536047006:=trivial
def tw9594261303550671371:=trivial
def tw4813139572041304849:=trivial
def tw10187873906876504866:=trivial
def tw1183656199474561311:=trivial
def tw746278335093198582:=trivial
def tw974688758506713829:=trivial
def tw1929081932267932334:=trivial
def tw10967251593217199421:=trivial
def tw17673740643965319242:=trivial
def tw94587889044488213:=trivial
def tw5844035534324632488:=trivial
def tw7226392263414301343:=trivial
def tw17804242656390543296:=trivial
def tw8347612720705834694:=trivial
def tw3757163163886176336:=trivial
def tw14663505103914731980:=trivial
def tw11230254518391592521:=trivial
def tw5657847567989859614:=trivial
def tw463023541750153461:=trivial
def tw11697141684512329207:=trivial
def tw14123165884023061806:=trivial
def tw6248809503270756794:=trivial
def tw8658376007838755286:=trivial
def tw2853782444067323177:=trivial
def tw17559831327820534381:=trivial
def tw11662317113246045924:=trivial
def tw1136987969514466929:=trivial
def tw8127301937036455568:=trivial
def tw2375797753730475424:=trivial
def tw14322944918993001495:=trivial
def tw8525595519718653757:=trivial
def tw235352660817265333:=trivial
def tw3751123851324422532:=trivial
def tw17817141228568857701:=trivial
def tw14842286727136386164:=trivial
def tw17177581891983945993:=trivial
def tw14029492406800682931:=trivial
def tw6773582681090687250:=trivial
def tw14029231743259927103:=trivial
def tw5472524047615850355:=trivial
def tw12899298701932231138:=trivial
def tw4314441413475244883:=trivial
def tw11864006068836447758:=trivial
def tw10319224899875065101:=trivial
def tw8695552562385047920:=trivial
def tw8482293511439166495:=trivial
def tw8844885156113366554:=trivial
def tw11543999354153485973:=trivial
def tw8596025342382873009:=trivial
def tw9511195095665514236:=trivial
def tw16449162437018478903:=trivial
def tw3597750372156568587:=trivial
def tw8686686604148671826:=trivial
def tw9090428521273867552:=trivial
def tw16961312413578104929:=trivial
def tw8796361496624347842:=trivial
def tw4343925945768132887:=trivial
def tw16037519468306970624:=trivial
def tw16613076049015070685:=trivial
def tw4058812823814476045:=trivial
def tw8885589750340159797:=trivial
def tw5649297582731982595:=trivial
def tw11700876149341285927:=trivial
def tw2167561021321415156:=trivial
def tw18098951568458728090:=trivial
def tw17322252389536275431:=trivial
def tw9492726396335242053:=trivial
def tw1314786453084797910:=trivial
def tw1100407229157587483:=trivial
def tw2141956699389927888:=trivial
def tw5116958739614390257:=trivial
def tw10592080216658450818:=trivial
def tw11450733515089660315:=trivial
def tw897271982448690330:=trivial
def tw5748171722207388770:=trivial
def tw14980735821087500465:=trivial
def tw10195749018995607129:=trivial
def tw4625082965880182193:=trivial
def tw16226158277762734658:=trivial
def tw4133952513822756053:=trivial
def tw15710890571901178730:=trivial
def tw17818265244690007113:=trivial
def tw13844800044302256109:=trivial
def tw6355849770004249751:=trivial
def tw12665768308313161719:=trivial
def tw12852727522221701824:=trivial
def tw1493423493784026530:=trivial
def tw11361816992411438321:=trivial
def tw2973794765638727577:=trivial
def tw7210647653336240705:=trivial
def tw6119184571548067392:=trivial
def tw6223541164778514298:=trivial
def tw15384951402768755138:=trivial
def tw8776138316533321317:=trivial
def tw12266736031792899121:=trivial
def tw7040170476633953737:=trivial
def tw8925822239172685322:=trivial
def tw10446252809679164748:=trivial
def tw4553565063067300580:=trivial
def tw13838789417217466998:=trivial
def tw5235051465464504563:=trivial
def tw5715973570569342942:=trivial
def tw8279338887509599041:=trivial
def tw18444420787350930526:=trivial
def tw14810510661219349110:=trivial
end PySem.W.Fast
set_option maxRecDepth 100000 in
set_option maxHeartbeats 0 in
theorem PySem.Challenge.cw_neverwait_k52_home_led_waited_holds : PySem.Challenge.rw_neverwait_k52_home_led_waited.Holds := by
 w_on; o_law; k_head; (case hw=>w_witness2)
 k_fill
 refine DY.walk (l:=PySem.Challenge.rw_neverwait_k52_home_led_waited) (Pt:=_) rfl rfl (fun w h Y=>PySem.W.km_in_of Y) (fun w h Y=>PySem.W.km_tabs_of Y) ?cd ?kt ?F;case F =>
  intro w mg fa h KX G Mg;refine' DY.Kh (Pt:=_) KX G Mg ?_ ?_ ?_ ?_ ?_ ?_ ?_ ?_ ?_ ?_ ?_ ?_ ?_ ?_ ?_ ?_ ?_ ?_ ?_ ?_ ?_ ?_ ?_ ?_ ?_ ?_ ?_ ?_ ?_ ?_ ?_ ?_ ?_ ?_ ?_ ?_ ?_ ?_ ?_ ?_ ?_ ?_ ?_ ?_ ?_ ?_ ?_ ?_ ?_ ?_ ?_ ?_ ?_ ?_ ?_ ?_ ?_ ?_ ?_ ?_ ?_ ?_ ?_ ?_ ?_ ?_ ?_ ?_ ?_ ?_ ?_ ?_ ?_;all_goals first
   | (refine' DY.FD.mk ?a ?l ?d ?k; (case a=>k_is); (case l=>k_is); (case d=>k_is); (case k=>k_is))
   | (refine' DY.FC.mk ?a ?l ?d ?k; (case a=>k_is); (case l=>k_is); (case d=>k_is); (case k=>k_is))
   | (refine' DY.MD.mk ?a ?i ?l ?d ?k; (case a=>k_is); (case i=>k_is); (case l=>k_is); (case d=>k_is); (case k=>k_is))
   | k_is
   | kernel_rfl
   | exact ⟨by kernel_rfl,by k_is,by k_is,by k_is,by k_is,by k_is,by k_is,by kernel_rfl⟩
   | skip
 case kt=>intro w; kernel_rfl
 case cd=>intro w; kernel_rfl
