import PyProof.Rows.All
import Wide.All
import OpenK.AllK
import Wide.FinOn
import Lean
import PyProof.EqAt
import PyProof.EqKinds
import PyProof.TupleCall
import PySem.Challenge.RW_neverwait_k82_whole_first_letters_alone
set_option Elab.async false
set_option linter.all false
set_option maxRecDepth 100000
set_option maxHeartbeats 8000000
def aT:=@List.getD_eq_getElem?_getD
def bh:=@List.getElem?_eq_getElem
def aJ:=@List.length_map
def au:=@PySem.wpAny_bind
def bQ:=@PySem.Heap.get?_push_of_some
def bS:=@Nat.lt_of_lt_of_le
def dw:=@List.getElem?_eq_some_iff
def aY:=@Nat.le_refl
def cw:=@List.getElem?_map
def aG:=@PyProof.Rows.wpS_bind
def am:=@if_neg
def aV:=@List.mem_cons
def br:=@List.size_toArray
def aQ:=@PySem.Heap.lt_size
def be:=@Option.some.inj
def bZ:=@List.mem_cons_of_mem
def bK:=@List.mem_cons_self
def a8:=@Nat.ne_of_lt
def cm:=@Bool.false_ne_true
def cy:=@List.mem_singleton
def bj:=@Nat.le_trans
def cE:=@PySem.Heap.get?_push_size
def bW:=@List.map_append
def cU:=@List.mem_of_getElem?
def cf:=@List.length_take
def cG:=@List.append_assoc
def aN:=@PyProof.Rows.wpS_pure
def cV:=@List.length_append
def bH:=@List.mem_map
def cq:=@List.mem_range
def cH:=@List.mem_append
def cM:=@decide_eq_false
def cB:=@PySem.boot_len
def d8:=@Array.toList_append
def fP:=@List.getElem?_append_left
def dB:=@List.filter_cons
def dX:=@Nat.lt_of_le_of_lt
def cR:=@decide_eq_true
def dG:=@List.length_cons
def dH:=@Bool.and_eq_true
def fj:=@List.length_replicate
def d9:=@List.length_range
def dQ:=@List.mem_filter
def eQ:=@PySem.W.mg_none_of
def eR:=@List.filter_append
def et:=@Nat.lt_succ_of_lt
def dR:=@PySem.PassesOwn.never
def eA:=@List.not_mem_nil
def cX:=@getElem?_pos
def cN:=@Nat.zero_le
def eS:=@List.lookup_cons
def gj:=@List.mem_append_left
def iB:=@PySem.F.plainAttrs_list
def dS:=@List.map_cons
def gX:=@List.length_filter_le
def fk:=@List.getElem_mem
def eU:=@List.nodup_cons
def iC:=@List.mem_append_right
def fm:=@List.range_succ
def gk:=@List.take_add_one
def k8:=@List.getElem?_append_right
def k_:=@Array.perm_iff_toList_perm
def iU:=@List.perm_append_comm
def eV:=@Int.ofNat.inj
def lc:=@PySem.F.type_list_append
def lf:=@PySem.F.slot_list_append
def lh:=@List.getElem?_take_of_lt
def iV:=@PySem.mem_of_lookup
def iD:=@List.foldl_append
def iE:=@PySem.Heap.get?_push_ne
def eW:=@PyProof.Rows.wpS_forRange
def gY:=@PySem.W.kia_one
def iF:=@Nat.le_add_right
def lj:=@List.getElem?_eq_none
def ll:=@List.Perm.append_left
def o7:=@PyProof.Rows.callWith_type1
def re:=@PyProof.Rows.slot_tuple_getitem
def lm:=@List.mem_of_mem_take
def nV:=@PyProof.Rows.boot_list
def iW:=@List.take_length
def o8:=@Classical.byContradiction
def nW:=@List.take_append_drop
def rf:=@PyProof.Rows.boot_isinstance
def iX:=@List.foldl_cons
def fz:=@PySem.wpAny_field
def iG:=@PySem.Heap.size_push
def iH:=@List.any_cons
def o9:=@PySem.wpAny_callSpecial?_slot
def gZ:=@List.map_map
def g7:=@Int.zero_add
def jU:=@PySem.Heap.size_update
def nX:=@List.map_congr_left
def jV:=@List.append_nil
def rh:=@List.drop_eq_getElem_cons
def ln:=@PySem.wpAny_newObj_type
def o_:=@Nat.eq_of_beq_eq_true
def nY:=@PySem.F.called_set
def lq:=@List.length_drop
def lr:=@List.all_eq_true
def eB:=@or_false
def iY:=@PySem.wpAny_Call_Name_kw
def iZ:=@Int.toNat_natCast
def eC:=@beq_iff_eq
def j8:=@beq_eq_false_iff_ne
def j9:=@List.replicate_succ
def j_:=@List.length_take_le
def ka:=@List.getElem?_range
def kd:=@Array.length_toList
def fQ:=@Nat.ne_of_gt
def mj:=@List.take_of_length_le
def gx:=@Nat.lt_irrefl
def i6:=@Nat.lt_succ_self
def i8:=@List.any_eq_true
def ig:=@Array.size_map
def mm:=@Array.getElem?_toList
def gy:=@PySem.wpAny_holding
def i9:=@PySem.wpAny_call_entry
def i_:=@List.find?_cons
def ja:=@Bool.eq_iff_iff
def mn:=@List.replicate_succ'
def mq:=@List.mem_iff_getElem
def dz:=@PyProof.Rows.wpS_mono
def mr:=@List.getElem_of_mem
def kg:=@PySem.wpAny_truthy_bool
def pb:=@PyProof.Rows.boot_tuple
def kh:=@List.nodup_range
def mv:=@List.mem_filterMap
def pc:=@List.getElem?_set_self
def mw:=@Bool.false_eq_true
def jb:=@PySem.wpAny_seqItems
def kj:=@List.length_set
def jc:=@PySem.W.mg_of
def jd:=@List.all_cons
def fv:=@PyProof.Rows.wpS_modify
def mx:=@List.take_sublist
def my:=@List.pairwise_map
def mz:=@Array.toList_push
def sB:=@Array.getD_eq_getD_getElem?
def fS:=@PySem.wpAny_rule
def km:=@PySem.wpAny_passesOwn
def pf:=@List.getElem?_set_ne
def mB:=@Nat.mod_eq_of_lt
def je:=@Nat.le_of_lt
def mD:=@List.countP_cons
def wM:=@PyProof.Rows.F.plain_set_update_loop
def gC:=@PySem.wpAny_mono
def ph:=@PySem.Heap.get?_none_of_le
def mE:=@ne_of_beq_false
def mF:=@Nat.min_eq_left
def mH:=@List.of_mem_zip
def pi:=@decide_eq_true_iff
def pj:=@Int.emod_lt_of_pos
def pq:=@PySem.Heap.get?_update_ne
def fU:=@if_false
def mI:=@List.nodup_nil
def sC:=@List.length_pos_of_mem
def pr:=@List.flatten_cons
def sH:=@List.filter_eq_nil_iff
def pA:=@List.any_eq_false
def sI:=@Array.toList_filterMap
def pB:=@PySem.wpAny_setField_rec
def pC:=@PySem.wpAny_pyIter_tuple
def jf:=@PySem.sizeLine_eq
def sJ:=@Nat.le_of_ble_eq_true
def pD:=@Option.getD_some
def pE:=@List.getElem_map
def mJ:=@List.cons.inj
def kq:=@PySem.codeAny_mono
def sK:=@List.mem_of_mem_drop
def pF:=@Nat.not_lt_zero
def pG:=@Int.emod_nonneg
def sM:=@PySem.codeAny_call_builtin
def sO:=@PySem.W.callWith_K
def sQ:=@List.map_inj_right
def pH:=@List.Perm.refl
def wN:=@List.pairwise_iff_getElem
def wO:=@Array.getElem?_eq_getElem
def gE:=@if_true
def sU:=@decide_eq_true_eq
def gG:=@Ne.symm
def sV:=@List.reverse_perm
def mK:=@List.map_id
def wP:=@PySem.F.args_tuple_add_2
def wQ:=@PyProof.Rows.boot_sorted
def wR:=@Option.isSome_iff_exists
def pI:=@List.map_take
def kr:=@PySem.wpAny_call
def wS:=@PySem.F.entry_tuple_add
def wT:=@List.getElem?_replicate
def sW:=@Array.toList_map
def wU:=@PySem.F.slot_tuple_add
def wV:=@Option.map_eq_some_iff
def pJ:=@Nat.succ_pos
def pK:=@Nat.sub_self
def pL:=@Nat.lt_or_ge
def pM:=@Nat.le_of_eq
def pN:=@Nat.beq_refl
def pO:=@Nat.add_zero
def wW:=@List.range_succ_eq_map
def wX:=@List.Perm.append_right
def sX:=@PySem.wpAny_setState_of
def sY:=@PySem.wpAny_pyIter_list
def sZ:=@PySem.wpAny_pyIter_enum
def s_:=@List.forIn_cons
def tf:=@List.Perm.of_eq
def tj:=@Bool.or_eq_true
def pP:=@PySem.wpAny_standAt
def wY:=@PyProof.Rows.boot_max
def fV:=@PyProof.Rows.wpS_get
def tu:=@PySem.wpAny_pyIter_zip
def ku:=@Prod.ext
def pQ:=@Nat.le_succ
def tw:=@List.forIn_nil
def wZ:=@Array.toList_reverse
def w4:=@Array.toList_extract
def ky:=@PyProof.Rows.size_push'
def mL:=@PySem.wpAny_Name
def mN:=@PySem.call_meets
def w5:=@PySem.W.plainGet_of
def B_:=@PyProof.Rows.F.entry_set_update_loop
def w6:=@List.filterMap_cons
def w9:=@Int.toNat_of_nonneg
def w_:=@PySem.Heap.get?_update_other
def tD:=@PySem.wpAny_execs_nil
def tE:=@PySem.codeAny_builtin
def tG:=@Nat.add_assoc
def tH:=@List.take_set
def tI:=@Bool.not_true
def pR:=@Nat.mod_lt
def xa:=@List.getElem_range
def xb:=@PySem.Heap.get?_update_self
def xc:=@PySem.wpAny_loadName_local
def tJ:=@Nat.succ.inj
def xf:=@List.nodup_append
def tK:=@List.map_nil
def xg:=@List.ext_getElem?
def xh:=@Bool.eq_false_iff
def xi:=@PySem.wpAny_loadName_free
def jg:=@not_or
def xj:=@beq_self_eq_true
def xk:=@PySem.W.makes_of
def xm:=@Nat.succ_le_succ
def xn:=@List.zipIdx_cons
def xo:=@List.mem_flatMap
def xp:=@List.ext_getElem
def xq:=@Bool.not_eq_true
def tL:=@PySem.wpAny_attempt
def Ca:=@Int.mul_le_mul_of_nonneg_left
def xr:=@PySem.tupleKind_room_in1
def xt:=@List.count_cons
def Cb:=@PySem.F.typeOf_object_class
def tO:=@PySem.wpAny_typeOf
def xu:=@PySem.wpAny_loadPart_at
def xv:=@List.drop_zero
def Cc:=@Int.fmod_eq_emod_of_nonneg
def Cd:=@Array.toList_setIfInBounds
def Ce:=@Array.getElem?_eq_some_iff
def kA:=@PyProof.Rows.wpS_lift
def xw:=@PySem.wpAny_eqBool_int
def xy:=@PySem.noFill_tuple_add
def Cf:=@PySem.F.type_list_extend
def Cg:=@PySem.F.slot_list_extend
def Ch:=@Nat.lt_succ_iff_lt_or_eq
def Ci:=@List.set_eq_of_length_le
def Cj:=@List.length_erase_of_mem
def Ck:=@List.filterMap_cons_some
namespace L2
open PySem PySem.Spec PyProof.Rows
abbrev fA:=Sum Int Str
def rj:fA->Value->Bool
 |.inl k,v=>Value.isInt k v
 |.inr x,v=>Value.isStrOf x v
def Ti(w:World):fA->Int
 |.inl k=>hashInt k
 |.inr x=>hashStr w x
theorem cI:∀ {k:fA} {v:Value},rj k v=true->(∃i t,k=Sum.inl i/\v=Value.int i t)\/(∃x t,k=Sum.inr x/\v=Value.str x t)
 |.inl i,v,h=>by
  obtain⟨t,e⟩:=Value.isInt_shape (k:=i) (v:=v) h;exact .inl ⟨i,t,rfl,e⟩
 |.inr x,v,h=>by
  obtain⟨t,e⟩:=Value.isStrOf_shape (x:=x) (v:=v) h;exact .inr ⟨x,t,rfl,e⟩
theorem AF(i:Int)(t:Tok):rj (.inl i) (.int i t)=true:=by simp[rj,Value.isInt]
theorem AG(x:Str)(t:Tok):rj (.inr x) (.str x t)=true:=by simp[rj,Value.isStrOf]
theorem J2(a b:Int):decide ((Sum.inl a:fA)=Sum.inl b)=(a==b):=by
 by_cases e:a=b
 .subst e;simp
 .have h:¬ (Sum.inl a:fA)=Sum.inl b:=fun q=>e (Sum.inl.inj q);rw[cM h];exact(j8.mpr e).symm
theorem J3(a b:Str):decide ((Sum.inr a:fA)=Sum.inr b)=decide (a=b):=by
 by_cases e:a=b
 .subst e;simp
 .have h:¬ (Sum.inr a:fA)=Sum.inr b:=fun q=>e (Sum.inr.inj q);rw[cM h,cM e]
theorem J4(a:Int)(b:Str):decide ((Sum.inl a:fA)=Sum.inr b)=false:=cM (fun q=>nomatch q)
theorem J5(a:Str)(b:Int):decide ((Sum.inr a:fA)=Sum.inl b)=false:=cM (fun q=>nomatch q)
def cY(prog:Program)(w:World):PySem.KeyKind prog w fA where
 is:=rj
 hash:=Ti w
 inj:=fun v a b ha hb=>by
  rcases cI ha with ⟨i,t,rfl,rfl⟩|⟨x,t,rfl,rfl⟩
  .rcases cI hb with ⟨j,u,rfl,e⟩|⟨y,u,rfl,e⟩
   .injection e with e1 _;rw[e1]
   .exact nomatch e
  .rcases cI hb with ⟨j,u,rfl,e⟩|⟨y,u,rfl,e⟩
   .exact nomatch e
   .injection e with e1 _;rw[e1]
 byValue:=fun k v h=>by
  rcases cI h with ⟨i,t,rfl,rfl⟩|⟨x,t,rfl,rfl⟩ <;> rfl
 pyHash:=fun hv h=>by
  rcases cI hv with ⟨i,t,rfl,rfl⟩|⟨x,t,rfl,rfl⟩
  .exact wpAny_pyHash_int h
  .exact wpAny_pyHash_str h
 eqBool:=fun hu hv h=>by
  rcases cI hu with ⟨i,t,rfl,rfl⟩|⟨x,t,rfl,rfl⟩
  .rcases cI hv with ⟨j,u,rfl,rfl⟩|⟨y,u,rfl,rfl⟩
   .rw[J2] at h;exact xw h
   .rw[J4] at h;exact SeqAt.EqAt.int_str i t y u _ _ _ _ h
  .rcases cI hv with ⟨j,u,rfl,rfl⟩|⟨y,u,rfl,rfl⟩
   .rw[J5] at h;exact SeqAt.EqAt.str_int x t j u _ _ _ _ h
   .rw[J3] at h;exact wpAny_eqBool_str h
 «strs»:=fun k x t v h=>by
  rcases cI h with ⟨i,u,rfl,e⟩|⟨y,u,rfl,e⟩
  .exact nomatch e
  .injection e with e1 _
   subst e1
   cases v <;> rfl
theorem u8(prog:Program)(w:World)(i:Int)(t:Tok):(cY prog w).is (.inl i) (.int i t)=true:=AF i t
theorem u9(prog:Program)(w:World)(x:Str)(t:Tok):(cY prog w).is (.inr x) (.str x t)=true:=AG x t
inductive V where
 |bE|bl (b:Bool)|int (i:Int)|str (x:Str)|BW (b:Array UInt8)|J6 (b:UInt64)|ref (a:Addr)|ty (n:String)
 deriving DecidableEq
def bn:V->Value->Prop
 |.bE,u=>u=Value.none
 |.bl b,u=>u=Value.bool b
 |.int i,u=>∃t,u=Value.int i t
 |.str x,u=>∃t,u=Value.str x t
 |.BW b,u=>∃t,u=Value.bytes b t
 |.J6 b,u=>∃t,u=Value.float b t
 |.ref a,u=>u=Value.ref a
 |.ty n,u=>u=Value.type n
abbrev aP:List V->List Value->Prop:=Paired bn
theorem aP.length(r:aP xs us):xs.length=us.length:=Paired.length r
theorem aP.get:∀ {xs:List V} {us:List Value} {i:Nat} {x:V},aP xs us->xs[i]?=some x->∃u,us[i]?=some u/\bn x u
 |_,_,_,_,.nil,e=>by simp at e
 |_,_,0,_,.cons r _,e=>by simp at e;subst e;exact⟨_,rfl,r⟩
 |_,_,i+1,x,.cons _ t,e=>by
  obtain⟨u,h1,h2⟩:=aP.get (i:=i) (x:=x) t (by simpa using e);exact⟨u,by simpa using h1,h2⟩
theorem aP.set(r:bn x u):∀ {xs:List V} {us:List Value} (i:Nat),aP xs us->aP (xs.set i x) (us.set i u)
 |_,_,_,.nil=>.nil
 |_,_,0,.cons _ t=>.cons r t
 |_,_,i+1,.cons q t=>.cons q (aP.set r i t)
theorem aP.append:∀ {xs ys:List V} {us ws:List Value},aP xs us->aP ys ws->aP (xs++ys) (us++ws)
 |_,_,_,_,.nil,s=>s
 |_,_,_,_,.cons r t,s=>.cons r (aP.append t s)
theorem aP.take:∀ {xs:List V} {us:List Value} (n:Nat),aP xs us->aP (xs.take n) (us.take n)
 |_,_,0,_=>.nil
 |_,_,_+1,.nil=>.nil
 |_,_,n+1,.cons r t=>.cons r (aP.take n t)
theorem aP.drop:∀ {xs:List V} {us:List Value} (n:Nat),aP xs us->aP (xs.drop n) (us.drop n)
 |_,_,0,r=>r
 |_,_,_+1,.nil=>.nil
 |_,_,n+1,.cons _ t=>aP.drop n t
def jQ:Option V->Option Value->Prop
 |some v,some u=>bn v u
 |none,none=>True
 |_,_=>False
def KV{κ:Type}:List (κ×V)->List (κ×Value)->Prop:=Paired fun (p:κ×V) (q:κ×Value)=>p.1=q.1/\bn p.2 q.2
def kV:fA->V
 |.inl i=>.int i
 |.inr x=>.str x
inductive HO where
 |lst (xs:List V)
 |tup (xs:List V)
 |dK (bb:List (fA×V))|dT (bb:List (List fA×V))
 |set (S:Int->Bool) (n:Nat)
 |ins (C dx:Addr) (fs:List (Str×V))
 |own (x:Addr)
 |xd (fs:List (Str×V))
 |met (f x:Addr)
 |Fj (lo hi:Int)
 |uZ (o:Obj) (u:HO)
 |kB (ps:Array Value)
 |ext (φ:Heap->Prop)
abbrev Hp:=Addr->Option HO
def upd(H:Hp)(a:Addr)(o:HO):Hp:=fun b=>if b=a then some o else H b
theorem af:upd H a o a=some o:=by unfold upd;rw[if_pos rfl]
theorem ak(h:b≠a):upd H a o b=H b:=by unfold upd;rw[am h]
theorem jE:upd (upd H a o) a u=upd H a u:=by
 funext b;unfold upd;split <;> rfl
theorem eD{H:Hp}{a b:Addr}{o u:HO}(h:H a=some o)(h':H b=some u)(d:o≠u):a≠b:=by
 intro e;subst e;rw[h] at h';exact d (be h')
theorem aj{H:Hp}{a b:Addr}{o:HO}(h:H a=some o)(h':H b=none):a≠b:=by
 intro e;subst e;rw[h] at h';cases h'
section
variable (P:Program) (w:World)
def ii(h:Heap)(a:Addr)(aH:Array Value):Prop:=∃o,h.get? a=some o/\o.cls=.type "tuple"/\∃n,o.data=.seq aH n/\o.dict=none
theorem ii.tup(p:ii h a aH):IsTup h a aH:=let ⟨o,e,c,n,d,_⟩:=p;⟨o,e,c,n,d⟩
theorem ii.new(h:Heap)(aH:Array Value):ii (h.push { cls:=.type "tuple",data:=.seq aH }) h.objs.size aH:=⟨_,cE _ rfl,rfl,_,rfl,rfl⟩
def bX(H:Hp)(h:Heap)(a:Addr):HO->Prop
 |.lst xs=>xs.length<=sizeLine/\∃ (its:List Value) (n:Nat),aP xs its/\h.get? a=some { cls:=.type "list",data:=.seq its.toArray n }
 |.tup xs=>xs.length<=sizeLine/\∃its:List Value,aP xs its/\ii h a its.toArray
 |.dK bb=>bb.length<=sizeLine/\(a==sysModules)=false/\∃vs,KV bb vs/\h.DictOf (cY P w) a vs
 |.dT bb=>bb.length<=sizeLine/\(a==sysModules)=false/\∃xs:List (List fA×Addr×Value),
   Paired (fun (p:List fA×V) (q:List fA×Addr×Value)=>p.1=q.1/\H q.2.1=some (.tup (p.1.map kV))/\bn p.2 q.2.2) bb xs/\
   ∃o es ep,h.get? a=some o/\o.ExactDict/\o.data=.dict es ep/\es.toList=xs.map (entryOfKey (tupleKind (cY P w)))/\(xs.map (·.1)).Nodup
 |.set S n=>h.SetOf (intKind P w) a S n
 |.ins C dx fs=>H dx=some (.own a)/\fs.length<=1000/\dx≠a/\h.get? a=some (PySem.W.instObj C dx)/\
   ∃mA,h.Ns1 dx mA/\(∀f,jQ (fs.lookup f) (mA f))/\PySem.Within mA (fs.map (·.1))
 |.own _=>∃o,h.get? a=some o
 |.xd fs=>∃mA,h.Ns1 a mA/\∀f,jQ (fs.lookup f) (mA f)
 |.Fj lo hi=>∃t u v,h.get? a=some { cls:=.type "range",data:=.fields #[.int lo t,.int hi u,.int 1 v] }
 |.uZ o u=>h.get? a=some o/\bX H h a u
 |.kB ps=>h.get? a=some { cls:=.none,data:=.fields ps }
 |.met f x=>h.get? a=some (PySem.W.methodObj (.ref f) (.ref x))
 |.ext φ=>φ h/\(∃o,h.get? a=some o)/\∀h1 h2:Heap,φ h1->(∀o,h1.get? a=some o->h2.get? a=some o)->φ h2
def iO(H:Hp)(h:Heap):Prop:=∀a o,H a=some o->bX P w H h a o
end
section
variable {P:Program} {w:World} {H H':Hp} {h h':Heap} {a:Addr} {o:HO}
theorem bX.lt(x:bX P w H h a o):a<h.objs.size:=by
 cases o with
 |lst xs=>obtain⟨_,_,_,_,e⟩:=x;exact aQ e
 |tup xs=>obtain⟨_,_,_,p⟩:=x;exact p.tup.lt
 |dK bb=>obtain⟨_,_,_,_,o,_,_,e,_⟩:=x;exact aQ e
 |dT bb=>obtain⟨_,_,_,_,o,_,_,e,_⟩:=x;exact aQ e
 |set S n=>obtain⟨o,_,_,_,e,_⟩:=x;exact aQ e
 |ins C dx fs=>obtain⟨_,_,_,e,_⟩:=x;exact aQ e
 |own y=>obtain⟨_,e⟩:=x;exact aQ e
 |xd fs=>obtain⟨_,⟨_,_,_,e,_⟩,_⟩:=x;exact aQ e
 |Fj lo hi=>obtain⟨_,_,_,e⟩:=x;exact aQ e
 |uZ ob u=>obtain⟨e,_⟩:=x;exact aQ e
 |kB ps=>exact aQ (show h.get? a=some _ from x)
 |met f y=>exact aQ (show h.get? a=some _ from x)
 |ext φ=>obtain⟨_,⟨_,e⟩,_⟩:=x;exact aQ e
theorem Paired.J7:∀ {l₁:List α} {l₂:List β},Paired F l₁ l₂->(∀a b,F a b->G a b)->Paired G l₁ l₂
 |_,_,.nil,_=>.nil
 |_,_,.cons r t,f=>.cons (f _ _ r) (Paired.J7 t f)
theorem bX.mP(x:bX P w H h a o)(k:∀b u,(b=a\/H b=some (.own a))->h.get? b=some u->h'.get? b=some u)(ho:∀b,H b=some (.own a)->H' b=some (.own a))(ht:∀b xs,H b=some (.tup xs)->H' b=some (.tup xs)):bX P w H' h' a o:=by
 induction o with
 |lst xs=>obtain⟨z,its,n,r,e⟩:=x;exact⟨z,its,n,r,k _ _ (.inl rfl) e⟩
 |tup xs=>obtain⟨z,its,r,ob,e,c⟩:=x;exact⟨z,its,r,ob,k _ _ (.inl rfl) e,c⟩
 |dK bb=>obtain⟨z,y,vs,r,ob,es,ep,e,c⟩:=x;exact⟨z,y,vs,r,ob,es,ep,k _ _ (.inl rfl) e,c⟩
 |dT bb=>
  obtain⟨z,y,xs,r,ob,es,ep,e,c⟩:=x;exact⟨z,y,xs,Paired.J7 r fun p q z=>⟨z.1,ht _ _ z.2.1,z.2.2⟩,ob,es,ep,k _ _ (.inl rfl) e,c⟩
 |set S n=>obtain⟨ob,es,ep,t,e,c⟩:=x;exact⟨ob,es,ep,t,k _ _ (.inl rfl) e,c⟩
 |ins C dx fs=>
  obtain⟨d,z,ne,e,mA,⟨od,es,ep,e2,c⟩,r⟩:=x;exact⟨ho _ d,z,ne,k _ _ (.inl rfl) e,mA,⟨od,es,ep,k _ _ (.inr d) e2,c⟩,r⟩
 |own y=>obtain⟨ob,e⟩:=x;exact⟨ob,k _ _ (.inl rfl) e⟩
 |xd fs=>obtain⟨mA,⟨od,es,ep,e,c⟩,r⟩:=x;exact⟨mA,⟨od,es,ep,k _ _ (.inl rfl) e,c⟩,r⟩
 |Fj lo hi=>obtain⟨t,u,v,e⟩:=x;exact⟨t,u,v,k _ _ (.inl rfl) e⟩
 |uZ ob u ih=>obtain⟨e,q⟩:=x;exact⟨k _ _ (.inl rfl) e,ih q⟩
 |kB ps=>
  have e:h.get? a=some { cls:=.none,data:=.fields ps }:=x;show h'.get? a=some { cls:=.none,data:=.fields ps };exact k a _ (.inl rfl) e
 |met f y=>
  have e:h.get? a=some (PySem.W.methodObj (.ref f) (.ref y)):=x;show h'.get? a=some (PySem.W.methodObj (.ref f) (.ref y));exact k a _ (.inl rfl) e
 |ext φ=>obtain⟨p,⟨o,e⟩,st⟩:=x;exact⟨st _ _ p fun o q=>k _ _ (.inl rfl) q,⟨o,k _ _ (.inl rfl) e⟩,st⟩
theorem iO.lt(x:iO P w H h)(e:H a=some o):a<h.objs.size:=(x a o e).lt
theorem iO.fresh(x:iO P w H h)(e:h.objs.size<=a):H a=none:=by
 cases q:H a with
 |none=>rfl
 |some u=>exact absurd (bS (x.lt q) e) (gx _)
theorem iO.kept(x:iO P w H h)(k:∀b u,h.get? b=some u->h'.get? b=some u):iO P w H h':=fun a o e=>
 (x a o e).mP (fun b u _ q=>k b u q) (fun _ q=>q) fun _ _ q=>q
theorem iO.laid(x:iO P w H h)(k:∀b u,h.get? b=some u->h'.get? b=some u)(hp:h.objs.size<=a)(new:bX P w (upd H a o) h' a o):iO P w (upd H a o) h':=fun b u e=>by
 have hn:=x.fresh hp;by_cases hb:b=a
 .subst hb;rw[af] at e;cases e;exact new
 .rw[ak hb] at e;exact(x b u e).mP (fun c v _ q=>k c v q) (fun c q=>by rw[ak (aj q hn)];exact q) fun c xs q=>by rw[ak (aj q hn)];exact q
end
def Rd(H:Hp)(a:Addr)(u:HO):Prop:=H a=some u\/∃o,H a=some (.uZ o u)
theorem Rd.ok(r:Rd H a u)(x:iO P w H h):bX P w H h a u:=by
 rcases r with r|⟨o,r⟩
 .exact x a u r
 .obtain⟨_,q⟩:=x a _ r;exact q
def N2:Option HO->Prop
 |some (.lst _)=>True
 |some (.dK _)=>True
 |some (.dT _)=>True
 |some (.set _ _)=>True
 |some (.ins _ _ _)=>True
 |some (.ext _)=>True
 |_=>False
section
variable {P:Program} {w:World} {H:Hp} {h h':Heap} {x e:Addr} {o':HO}
theorem iO.write(ok:iO P w H h)(mu:N2 (H x))(he:e=x\/H e=some (.own x))(k:∀b u,b≠e->h.get? b=some u->h'.get? b=some u)(Nh:∃u,h'.get? e=some u)(new:bX P w (upd H x o') h' x o'):iO P w (upd H x o') h':=fun b u q=>by
 have N3:∀c y,H c=some (.own y)->c≠x:=fun c y r z=>by subst z;rw[r] at mu;exact mu
 have Tj:∀c xs,H c=some (.tup xs)->c≠x:=fun c xs r z=>by subst z;rw[r] at mu;exact mu
 by_cases hb:b=x
 .subst hb;rw[af] at q;cases q;exact new
 .rw[ak hb] at q;by_cases Fk:b=e
  .have q':H b=some (.own x):=by
    rcases he with z|z
    .exact absurd (Fk.trans z) hb
    .rw[Fk];exact z
   rw[q] at q';cases q';obtain⟨v,hv⟩:=Nh;exact⟨v,by rw[Fk];exact hv⟩
  .refine(ok b u q).mP (fun c v hc r=>k c v ?_ r) (fun c r=>by rw[ak (N3 c b r)];exact r) fun c xs r=>by rw[ak (Tj c xs r)];exact r
   rcases hc with rfl|hc
   .exact Fk
   .rintro rfl;rcases he with z|z
    .exact N3 c b hc z
    .rw[hc] at z;cases z;exact hb rfl
end
structure Un(fs ex:List Addr)(H H':Hp)(h h':Heap):Prop where
 keep:∀b o,h.get? b=some o->H b=none->b∉fs->b∉ex->h'.get? b=some o
 slot:∀b o,h.get? b=some o->H b=none->b∈fs->b∉ex->∃sl,h'.get? b=some { o with slots:=sl }
 free:∀b o,h.get? b=some o->H b=none->b∉ex->H' b=none
 there:∀b o,h.get? b=some o->b∉ex->∃o',h'.get? b=some o'
 kC:∀b xs,H b=some (.tup xs)->H' b=some (.tup xs)
 mQ:∀b o u,H b=some (.uZ o u)->H' b=some (.uZ o u)
 mS:∀b ps,H b=some (.kB ps)->∃more,H' b=some (.kB (ps++more))
section
variable {fs ZS ex ex':List Addr} {H H1 H2:Hp} {h h1 h2 h':Heap} {a x e:Addr} {o:HO}
theorem Un.any(u:Un fs ex H H1 h h1)(q:h.get? b=some ob)(n:H b=none)(hx:b∉ex):∃sl,h1.get? b=some { ob with slots:=sl }:=by
 by_cases hb:b∈fs
 .exact u.slot b ob q n hb hx
 .exact⟨ob.slots,u.keep b ob q n hb hx⟩
theorem Un.kept(k:∀b u,h.get? b=some u->h'.get? b=some u):Un fs ex H H h h':=
 ⟨fun b ob q _ _ _=>k b ob q,fun b ob q _ _ _=>⟨ob.slots,k b ob q⟩,fun _ _ _ n _=>n,fun b ob q _=>⟨ob,k b ob q⟩,fun _ _ q=>q,fun _ _ _ q=>q,fun _ ps q=>⟨#[],by rw[q];simp⟩⟩
theorem Un.refl:Un fs ex H H h h:=Un.kept fun _ _ q=>q
theorem Un.laid(k:∀b u,h.get? b=some u->h'.get? b=some u)(hp:h.objs.size<=a)(hn:H a=none):Un fs ex H (upd H a o) h h' where
 keep:=fun b u q _ _ _=>k b u q
 slot:=fun b u q _ _ _=>⟨u.slots,k b u q⟩
 free:=fun b u q n _=>by rw[ak (a8 (bS (aQ q) hp))];exact n
 there:=fun b u q _=>⟨u,k b u q⟩
 kC:=fun b xs q=>by rw[ak (aj q hn)];exact q
 mQ:=fun b u xs q=>by rw[ak (aj q hn)];exact q
 mS:=fun b ps q=>⟨#[],by rw[ak (aj q hn),q];simp⟩
theorem Un.write(mu:N2 (H x))(he:e=x\/H e=some (.own x))(k:∀b u,b≠e->h.get? b=some u->h'.get? b=some u)(Nh:∃u,h'.get? e=some u):Un fs ex H (upd H x o) h h':=by
 have hx:∀b,H b=none->b≠x:=fun b n z=>by subst z;rw[n] at mu;exact mu
 have hb:∀b,H b=none->b≠e:=fun b n z=>by
  subst z;rcases he with r|r
  .exact hx b n r
  .rw[n] at r;cases r
 have hm:∀b u,H b=some u->¬ N2 (some u)->b≠x:=fun b u q nm z=>by subst z;rw[q] at mu;exact nm mu
 refine⟨fun b u q n _ _=>k b u (hb b n) q,fun b u q n _ _=>⟨u.slots,k b u (hb b n) q⟩,fun b u q n _=>by rw[ak (hx b n)];exact n,fun b u q _=>?_,
  fun b xs q=>by rw[ak (hm b _ q fun z=>z)];exact q,fun b u xs q=>by rw[ak (hm b _ q fun z=>z)];exact q,fun b ps q=>⟨#[],by rw[ak (hm b _ q fun z=>z),q];simp⟩⟩
 by_cases Fk:b=e
 .subst Fk;exact Nh
 .exact⟨u,k b u Fk q⟩
end
def RK(h:Heap)(H:Hp):List Addr:=(List.range h.objs.size).filter fun a=>(H a).isSome
def qM(h:Heap)(H:Hp):Heap:=PySem.W.hideAll h (RK h H)
theorem AH(h:Heap)(H:Hp):(qM h H).objs.size=h.objs.size:=PySem.W.hideAll_size _ _
theorem Cm(e:h.get? b=some o)(n:H b=none):(qM h H).get? b=some o:=
 PySem.W.hideAll_get _ e fun hm=>by
  have q:(H b).isSome=true:=(dQ.mp hm).2;rw[n] at q;simp at q
theorem FB(e:(qM h H).get? b=some o):h.get? b=some o/\H b=none:=by
 have e':h.get? b=some o:=PySem.W.of_hideAll (RK h H) e;refine⟨e',?_⟩;cases q:H b with
 |none=>rfl
 |some x=>
  have hm:b∈RK h H:=dQ.mpr ⟨cq.mpr (aQ e'),by simp[q]⟩;have z:(qM h H).get? b=none:=PySem.W.hideAll_none (RK h H) hm;rw[z] at e;cases e
def ij(g h:Heap)(L:Addr):List (Addr×Obj):=(List.range h.objs.size).filterMap fun a=>if a=L\/(g.get? a).isSome=true then none else (h.get? a).map fun o=>(a,o)
theorem jh(h1:a≠L)(h2:g.get? a=none)(h3:h.get? a=some o):(a,o)∈ij g h L:=
 mv.mpr ⟨a,cq.mpr (aQ h3),by simp[h1,h2,h3]⟩
theorem pS(hp:p∈ij g h L):p.1≠L/\g.get? p.1=none/\h.get? p.1=some p.2:=by
 obtain⟨b,_,e⟩:=mv.mp hp;split at e
 .cases e
 .rename_i hn;cases q:h.get? b with
  |none=>rw[q] at e;simp at e
  |some u=>
   rw[q] at e;simp only[Option.map_some,Option.some.injEq] at e;subst e;refine⟨fun z=>hn (.inl z),?_,q⟩;show g.get? b=none;cases r:g.get? b with
   |none=>rfl
   |some v=>exact(hn (.inr (by simp[r]))).elim
theorem Cn:News g L h (ij g h L):=fun p hp=>let ⟨a,b,c⟩:=pS hp;⟨c,a,b⟩
structure Mod(K:PySem.W.Frag)(mg:Str->Option Value)(base:Heap):Prop where
 Ni:K.In base
 glob:base.Ns mainGlobals mg
 blt:∃mb,base.Ns builtinsNs mb/\∀x:Str,x≠"__name__"->mb x=bootBuiltins x
 nolimit:base.NoLimit
structure Cx where
 prog:Program
 w:World
 K:PySem.W.Frag
 mg:Str->Option Value
 base:Heap
 A:Around
 N:List Str
 s₀:Shared
 H₀:Hp
 env:Env
 outer:List Env
 stack:List Env
 ex:List Addr
 fn:Str->Bool
 calm:Bool
 pn:List (Addr×Obj)
 xe:Value->Shared->Prop
def AI(l:List Env):List Addr:=l.filterMap (·.frame)
abbrev Cx.fs(X:Cx):List Addr:=AI X.outer
def N4(sc:Scope)(x:Str):Prop:=sc.names.lookup x=some .local\/sc.names.lookup x=some .cell\/sc.names.lookup x=some .free
def N6(sc:Scope)(x:Str):Prop:=sc.names.lookup x=some .local\/sc.names.lookup x=some .cell
def Tk(env:Env)(h:Heap)(m:Str->Option Value)(x:Str)(u:Value):Prop:=
 (env.kindOf x=some .local/\m x=some u)\/((env.kindOf x=some .cell\/env.kindOf x=some .free)/\∃c,env.cells.lookup x=some c/\h.IsCell c (some u))
structure Cx.Ok(X:Cx):Prop where
 mod:Mod X.K X.mg X.base
 kind:X.env.scope.kind=.function
 glob:X.env.globals=mainGlobals
 blt:X.env.builtins=builtinsNs
 above:X.s₀.heap.objs.size<=X.env.locals
 inj:∀x y c,X.env.cells.lookup x=some c->X.env.cells.lookup y=some c->x=y
 has:∀x,(X.env.kindOf x=some .cell\/X.env.kindOf x=some .free)->∃c,X.env.cells.lookup x=some c
 Nj:∀x c,X.fn x=true->X.env.cells.lookup x=some c->X.s₀.heap.objs.size<=c
 hd:X.calm=true->X.A.handled=none
 frames:X.A.frames=some X.stack
 Nk:X.stack=X.outer\/(X.stack=X.env::X.outer/\X.env.frame=some X.env.locals)
 Tl:∀b∈X.ex,b≠X.env.locals/\∀x c,X.env.cells.lookup x=some c->c≠b
 bs:∀b o,X.base.get? b=some o->X.s₀.heap.get? b=some o/\X.H₀ b=none
 BX:X.base.objs.size<=X.s₀.heap.objs.size
 Co:∀b o,X.base.get? b=some o->b∉X.ex
 FE:∀b∈X.ex,b∉X.fs
 mT:X.s₀.heap.FunFrames X.base X.outer
 J8:∀b∈X.fs,X.H₀ b=none
structure aD(X:Cx)(ae:List (Addr×Obj))(σ:List (Option V))(H:Hp)(s:Shared):Prop where
 ok:X.Ok
 os:s.os=X.s₀.os
 bare:AllBare s.gens
 base:Un X.fs X.ex X.H₀ H X.s₀.heap s.heap
 loc:∃m,s.heap.Ns X.env.locals m/\∀ (i:Nat) (x:Str) (v:V),X.N[i]?=some x->σ[i]?=some (some v)->N4 X.env.scope x->∃u,bn v u/\Tk X.env s.heap m x u
 cell:∀x c,X.env.cells.lookup x=some c->∃v,s.heap.IsCell c v
 free:H X.env.locals=none
 ji:∀x c,X.env.cells.lookup x=some c->H c=none
 pin:∀p∈X.pn++ae,s.heap.get? p.1=some p.2/\H p.1=none/\p.1≠X.env.locals/\p.1∉X.fs/\∀v,p.2.data≠.cell v
 bB:iO X.prog X.w H s.heap
 len:σ.length=X.N.length
section
variable {X:Cx} {ae:List (Addr×Obj)} {σ:List (Option V)} {H H':Hp} {s:Shared} {h':Heap}
theorem Cx.Ok.Tn(ok:X.Ok)(e:X.base.get? b=some o):b∉X.fs:=fun hb=>by
 have:=(ok.mT.mem hb).1;rw[e] at this;cases this
theorem aD.bs(I:aD X ae σ H s):∀b o,X.base.get? b=some o->s.heap.get? b=some o/\H b=none:=fun b o e=>
 ⟨I.base.keep b o (I.ok.bs b o e).1 (I.ok.bs b o e).2 (I.ok.Tn e) (I.ok.Co b o e),I.base.free b o (I.ok.bs b o e).1 (I.ok.bs b o e).2 (I.ok.Co b o e)⟩
theorem aD.bk(I:aD X ae σ H s):∀b o,X.base.get? b=some o->s.heap.get? b=some o:=fun b o e=>(I.bs b o e).1
theorem aD.mod(I:aD X ae σ H s):Mod X.K X.mg X.base:=I.ok.mod
theorem aD.jW(I:aD X ae σ H s):X.K.In s.heap:=I.ok.mod.Ni.keeps I.bk
theorem aD.nolimit(I:aD X ae σ H s):s.heap.NoLimit:=I.ok.mod.nolimit.keeps I.bk
theorem aD.fr(I:aD X ae σ H s):∃m,Fr X.base X.env.locals s.heap m:=
 let ⟨m,hn,_⟩:=I.loc
 ⟨m,hn,I.bk,bj I.ok.BX I.ok.above⟩
theorem aD.lt(I:aD X ae σ H s):X.env.locals<s.heap.objs.size:=let ⟨_,hn,_⟩:=I.loc;hn.lt
theorem aD.sz(I:aD X ae σ H s):X.s₀.heap.objs.size<=s.heap.objs.size:=bj I.ok.above (je I.lt)
theorem aD.To(I:aD X ae σ H s)(h:s.heap.objs.size<=a):a∉X.fs:=fun hb=>by
 obtain⟨_,o,ho,_⟩:=I.ok.mT.mem hb;exact absurd (bS (aQ ho) (bj I.sz h)) (gx _)
theorem aD.IJ(I:aD X ae σ H s):∀x c,X.env.cells.lookup x=some c->c≠X.env.locals:=fun x c e z=>by
 obtain⟨v,o,ho,hd⟩:=I.cell x c e;obtain⟨m,⟨o',es,ep,AJ,J9,_⟩,_⟩:=I.loc;rw[z,AJ] at ho;cases ho;rw[J9] at hd;cases hd
theorem aD.mT(I:aD X ae σ H s):s.heap.FunFrames X.base X.outer:=by
 have all:∀ (l:List Env),(∀b∈AI l,b∈X.fs)->X.s₀.heap.FunFrames X.base l->s.heap.FunFrames X.base l:=by
  intro l;induction l with
  |nil=>intro _ _;trivial
  |cons env r ih=>
   intro hs hl;obtain⟨hk,⟨L,o,hf,hn,ho,hd⟩,hr⟩:=hl;have hL:L∈X.fs:=hs L (by unfold AI;rw[w6,hf];exact bK);obtain⟨sl,e⟩:=I.base.slot L o ho (I.ok.J8 L hL) hL fun z=>I.ok.FE L z hL;exact⟨hk,⟨L,_,hf,hn,e,hd⟩,ih (fun b hb=>hs b (by unfold AI;rw[w6,hf];exact bZ _ hb)) hr⟩
 exact all X.outer (fun _ hb=>hb) I.ok.mT
theorem aD.stack(I:aD X ae σ H s):s.heap.FunFrames X.base X.stack:=by
 rcases I.ok.Nk with e|⟨e,hf⟩
 .rw[e];exact I.mT
 .rw[e];obtain⟨m,hn,_⟩:=I.loc;refine .cons (by rw[I.ok.kind];decide) hf hn ?_ I.mT;exact ph (bj I.ok.BX I.ok.above)
theorem aD.pT(I:aD X ae σ H s):∀b∈AI X.stack,b∈X.env.locals::X.fs:=fun b hb=>by
 rcases I.ok.Nk with e|⟨e,hf⟩
 .rw[e] at hb;exact bZ _ hb
 .rw[e] at hb;unfold AI at hb;rw[w6,hf] at hb;exact hb
theorem aD.oJ(I:aD X ae σ H s):∀b∈AI X.stack,H b=none:=fun b hb=>by
 rcases aV.mp (I.pT b hb) with e|hb
 .rw[e];exact I.free
 .obtain⟨_,o,ho,_⟩:=I.ok.mT.mem hb;exact I.base.free b o ho (I.ok.J8 b hb) fun z=>I.ok.FE b z hb
theorem aD.step{g':Array GenState}{t':Nat}{d':Drawn}{ch:List Addr}(I:aD X ae σ H s)(Fl:∀b∈ch,(b∈X.ex\/X.s₀.heap.objs.size<=b)/\b≠X.env.locals/\(∀x c,X.env.cells.lookup x=some c->c≠b)/\∀p∈X.pn++ae,p.1≠b)(keep:∀b o,b≠X.env.locals->b∉X.fs->b∉ch->s.heap.get? b=some o->H b=none->h'.get? b=some o)(slot:∀b o,b≠X.env.locals->b∈X.fs->b∉ch->s.heap.get? b=some o->H b=none->∃sl,h'.get? b=some { o with slots:=sl })(free:∀b o,b∉ch->s.heap.get? b=some o->H b=none->H' b=none)(there:∀b o,b∉ch->s.heap.get? b=some o->∃o',h'.get? b=some o')(kC:∀b xs,H b=some (.tup xs)->H' b=some (.tup xs))(mQ:∀b o u,H b=some (.uZ o u)->H' b=some (.uZ o u))(mS:∀b ps,H b=some (.kB ps)->∃more,H' b=some (.kB (ps++more)))(ns:∀m,s.heap.Ns X.env.locals m->h'.Ns X.env.locals m)(bB:iO X.prog X.w H' h')(hg:AllBare g'):
  aD X ae σ H' { s with heap:=h',gens:=g',drawn:=d',toks:=t' }:=by
 have XF:∀b o,X.s₀.heap.get? b=some o->b≠X.env.locals:=fun b o e=>a8 (bS (aQ e) I.ok.above);have RL:∀b o,X.s₀.heap.get? b=some o->b∉X.ex->b∉ch:=fun b o e hx hb=>by
  rcases(Fl b hb).1 with z|z
  .exact hx z
  .exact absurd (bS (aQ e) z) (gx _)
 have IK:∀x c,X.env.cells.lookup x=some c->∀v,s.heap.IsCell c v->h'.IsCell c v:=fun x c e v ⟨o,ho,hd⟩=>by
  have N7:c∉ch:=fun z=>(Fl c z).2.2.1 x c e rfl;by_cases hc:c∈X.fs
  .obtain⟨sl,q⟩:=slot c o (I.IJ x c e) hc N7 ho (I.ji x c e);exact⟨_,q,hd⟩
  .exact⟨o,keep c o (I.IJ x c e) hc N7 ho (I.ji x c e),hd⟩
 refine⟨I.ok,I.os,hg,⟨fun b o e n hb hx=>?_,fun b o e n hb hx=>?_,fun b o e n hx=>?_,fun b o e hx=>?_,fun b xs e=>kC b xs (I.base.kC b xs e),fun b o xs e=>mQ b o xs (I.base.mQ b o xs e),fun b ps e=>?_⟩,?_,fun x c e=>?_,?_,fun x c e=>?_,fun p hp=>?_,bB,I.len⟩
 .exact keep b o (XF b o e) hb (RL b o e hx) (I.base.keep b o e n hb hx) (I.base.free b o e n hx)
 .obtain⟨sl,e1⟩:=I.base.slot b o e n hb hx;obtain⟨Tp,e2⟩:=slot b _ (XF b o e) hb (RL b o e hx) e1 (I.base.free b o e n hx);exact⟨Tp,e2⟩
 .obtain⟨o',e1⟩:=I.base.there b o e hx;exact free b o' (RL b o e hx) e1 (I.base.free b o e n hx)
 .obtain⟨o',e1⟩:=I.base.there b o e hx;exact there b o' (RL b o e hx) e1
 .obtain⟨m1,e1⟩:=I.base.mS b ps e;obtain⟨m2,e2⟩:=mS b _ e1;exact⟨m1++m2,by rw[e2,Array.append_assoc]⟩
 .obtain⟨m,hn,hl⟩:=I.loc;refine⟨m,ns m hn,fun i x v e1 e2 e3=>?_⟩;obtain⟨u,r,l⟩:=hl i x v e1 e2 e3;refine⟨u,r,?_⟩;rcases l with l|⟨k,c,e,z⟩
  .exact .inl l
  .exact .inr ⟨k,c,e,IK x c e _ z⟩
 .obtain⟨v,z⟩:=I.cell x c e;exact⟨v,IK x c e v z⟩
 .obtain⟨m,⟨o,_,_,ho,_⟩,_⟩:=I.loc;exact free _ o (fun z=>(Fl _ z).2.1 rfl) ho I.free
 .obtain⟨v,o,ho,hd⟩:=I.cell x c e;exact free c o (fun z=>(Fl c z).2.2.1 x c e rfl) ho (I.ji x c e)
 .obtain⟨e,n,ne,nf,d⟩:=I.pin p hp;have N7:p.1∉ch:=fun z=>(Fl p.1 z).2.2.2 p hp rfl;exact⟨keep p.1 p.2 ne nf N7 e n,free p.1 p.2 N7 e n,ne,nf,d⟩
theorem aD.un{t':Nat}(I:aD X ae σ H s)(u:Un X.fs [] H H' s.heap h')(bB:iO X.prog X.w H' h'):aD X ae σ H' { s with heap:=h',toks:=t' }:=by
 obtain⟨m,⟨o,es,ep,ho,r⟩,_⟩:=id I.loc;obtain⟨sl,hL⟩:=u.any ho I.free (by simp);exact I.step (g':=s.gens) (d':=s.drawn) (ch:=[]) (fun _ z=>nomatch z) (fun b o _ hb _ e n=>u.keep b o e n hb (by simp)) (fun b o _ hb _ e n=>u.slot b o e n hb (by simp)) (fun b o _ e n=>u.free b o e n (by simp)) (fun b o _ e=>u.there b o e (by simp)) u.kC u.mQ u.mS (fun m' hm=>by
  obtain⟨o',wE,RM,AJ,r'⟩:=hm;rw[ho] at AJ;cases AJ;exact⟨_,wE,RM,hL,r'⟩) bB I.bare
theorem aD.call{g':Array GenState}{t':Nat}{d':Drawn}{ch:List Addr}(I:aD X ae σ H s)(u:Un (AI X.stack) ch H H' s.heap h')(bB:iO X.prog X.w H' h')(hg:AllBare g')(Fl:∀b∈ch,(b∈X.ex\/X.s₀.heap.objs.size<=b)/\b≠X.env.locals/\(∀x c,X.env.cells.lookup x=some c->c≠b)/\∀p∈X.pn++ae,p.1≠b):
  aD X ae σ H' { s with heap:=h',gens:=g',drawn:=d',toks:=t' }:=by
 obtain⟨m,⟨o,es,ep,ho,r⟩,_⟩:=id I.loc;obtain⟨sl,hL⟩:=u.any ho I.free fun z=>(Fl _ z).2.1 rfl;exact I.step (ch:=ch) Fl (fun b o hL hb hc e n=>u.keep b o e n (fun z=>(aV.mp (I.pT b z)).elim hL hb) hc) (fun b o _ _ hc e n=>u.any e n hc) (fun b o hc e n=>u.free b o e n hc) (fun b o hc e=>u.there b o e hc) u.kC u.mQ u.mS (fun m' hm=>by
  obtain⟨o',wE,RM,AJ,r'⟩:=hm;rw[ho] at AJ;cases AJ;exact⟨_,wE,RM,hL,r'⟩) bB hg
theorem aD.turned{t':Nat}{it:Addr}(I:aD X ae σ H s)(k:∀b o,b≠it->s.heap.get? b=some o->h'.get? b=some o)(hn:H it=none)(hL:it≠X.env.locals)(h1:it∈X.ex\/X.s₀.heap.objs.size<=it)(h2:∀x c,X.env.cells.lookup x=some c->c≠it)(h3:∀p∈X.pn++ae,p.1≠it):aD X ae σ H { s with heap:=h',toks:=t' }:=by
 have IL:∀b u,H b=some u->b≠it:=fun b u e z=>by rw[z,hn] at e;cases e
 refine I.step (g':=s.gens) (d':=s.drawn) (ch:=[it]) (fun b hb=>?_) (fun b o _ _ hc e _=>k b o (fun z=>hc (by simp[z])) e) (fun b o _ _ hc e _=>⟨o.slots,k b o (fun z=>hc (by simp[z])) e⟩) (fun _ _ _ _ n=>n)
  (fun b o hc e=>⟨o,k b o (fun z=>hc (by simp[z])) e⟩) (fun _ _ e=>e) (fun _ _ _ e=>e) (fun b ps e=>⟨#[],by rw[e];simp⟩) (fun m hm=>?_) (fun b u e=>?_) I.bare
 .have e:b=it:=by simpa using hb
  subst e;exact⟨h1,hL,h2,h3⟩
 .obtain⟨o,es,ep,ho,r⟩:=hm;exact⟨o,es,ep,k _ o (gG hL) ho,r⟩
 .refine(I.bB b u e).mP (fun c v hc q=>k c v ?_ q) (fun _ q=>q) fun _ _ q=>q;rcases hc with z|z
  .rw[z];exact IL b u e
  .exact IL c _ z
theorem aD.tok(I:aD X ae σ H s)(t:Nat):aD X ae σ H { s with toks:=t }:=I.un (h':=s.heap) (t':=t) Un.refl I.bB
theorem aD.kept(I:aD X ae σ H s)(k:∀b u,s.heap.get? b=some u->h'.get? b=some u):aD X ae σ H { s with heap:=h',toks:=t' }:=I.un (Un.kept k) (I.bB.kept k)
theorem aD.laid(I:aD X ae σ H s)(k:∀b u,s.heap.get? b=some u->h'.get? b=some u)(hp:s.heap.objs.size<=a)(new:bX X.prog X.w (upd H a o) h' a o):
  aD X ae σ (upd H a o) { s with heap:=h',toks:=t' }:=I.un (Un.laid k hp (I.bB.fresh hp)) (I.bB.laid k hp new)
theorem aD.write(I:aD X ae σ H s)(mu:N2 (H x))(he:e=x\/H e=some (.own x))(k:∀b u,b≠e->s.heap.get? b=some u->h'.get? b=some u)(Nh:∃u,h'.get? e=some u)(new:bX X.prog X.w (upd H x o) h' x o):aD X ae σ (upd H x o) { s with heap:=h',toks:=t' }:=I.un (Un.write mu he k Nh) (I.bB.write mu he k Nh new)
theorem aD.y6(I:aD X ae σ H s)(h:∀p∈N9,s.heap.get? p.1=some p.2/\H p.1=none/\p.1≠X.env.locals/\p.1∉X.fs/\∀v,p.2.data≠.cell v):aD X N9 σ H s:=
 ⟨I.ok,I.os,I.bare,I.base,I.loc,I.cell,I.free,I.ji,fun p hp=>(cH.mp hp).elim (fun z=>I.pin p (gj _ z)) (h p),I.bB,I.len⟩
theorem u_{N:List Str}(hN:N.Nodup){i j:Nat}{x:Str}(a:N[i]?=some x)(b:N[j]?=some x):i=j:=by
 obtain⟨h1,e1⟩:=dw.mp a;obtain⟨h2,e2⟩:=dw.mp b;exact(List.getElem_inj hN).mp (e1.trans e2.symm)
theorem rm{M:Model}{A:Around}{E:Value->Shared->Prop}{i:Nat}{x:Str}{v:V}{u:Value}{Q:Unit->Shared->Prop}(I:aD X ae σ H s)(hN:X.N.Nodup)(hi:X.N[i]?=some x)(hx:N6 X.env.scope x)(r:bn v u)(h:∀s',aD X ae (σ.set i (some v)) H s'->(∃a,Heap.SameBut a s.heap s'.heap/\(a=X.env.locals\/X.env.cells.lookup x=some a))->Q () s')(hf:X.fn x=true\/X.env.scope.names.lookup x=some .local:=by first|exact .inl rfl|exact .inr rfl|assumption):wpAny M A (storeName X.env x u) Q E s:=by
 obtain⟨m,hn,hl⟩:=id I.loc;have Tq:(X.env.scope.kind==.class||(X.env.scope.kind==.module&&X.env.locals != X.env.globals))=false:=by rw[I.ok.kind];rfl
 have hiσ:i<σ.length:=by rw[I.len];exact(dw.mp hi).1
 have IJ:=I.IJ;have y7:∀ {a:Addr} {h':Heap},(∃o,s.heap.get? a=some o/\H a=none)->Heap.SameBut a s.heap h'->iO X.prog X.w H h':=fun {a h'} ha hs b ob e=>by
  obtain⟨_,_,IM⟩:=ha;refine(I.bB b ob e).mP (fun c w' hc q=>(hs.2 c ?_).trans q) (fun _ q=>q) fun _ _ q=>q;rintro rfl;rcases hc with rfl|hc
  .rw[IM] at e;cases e
  .rw[IM] at hc;cases hc
 rcases hx with hk|hk
 .refine wpAny_storeName_local hk hn (fun h' XG hs=>?_) Tq;obtain⟨oL,_,_,IN,_⟩:=id hn;refine h _ ⟨I.ok,I.os,I.bare,⟨fun b o e n hb hx=>?_,fun b o e n hb hx=>?_,I.base.free,fun b o e hx=>?_,I.base.kC,I.base.mQ,I.base.mS⟩,⟨_,XG,fun j y v' e1 e2 e3=>?_⟩,fun y c e=>?_,I.free,I.ji,fun p hp=>?_,y7 ⟨oL,IN,I.free⟩ hs,by simpa using I.len⟩ ⟨_,hs,.inl rfl⟩
  .exact(hs.2 b (a8 (bS (aQ e) I.ok.above))).trans (I.base.keep b o e n hb hx)
  .obtain⟨sl,e1⟩:=I.base.slot b o e n hb hx;exact⟨sl,(hs.2 b (a8 (bS (aQ e) I.ok.above))).trans e1⟩
  .obtain⟨o',e1⟩:=I.base.there b o e hx;exact⟨o',(hs.2 b (a8 (bS (aQ e) I.ok.above))).trans e1⟩
  .by_cases hj:j=i
   .subst hj;rw[hi] at e1;cases e1;rw[pc hiσ] at e2;cases e2;exact⟨u,r,.inl ⟨hk,by simp⟩⟩
   .rw[pf (gG hj)] at e2;obtain⟨u',r',q⟩:=hl j y v' e1 e2 e3;refine⟨u',r',?_⟩;rcases q with ⟨k,e⟩|⟨k,c,e,z⟩
    .refine .inl ⟨k,?_⟩;have:y≠x:=fun e=>hj (u_ hN e1 (e ▸ hi));simp[this,e]
    .exact .inr ⟨k,c,e,z.sameBut hs (IJ y c e)⟩
  .obtain⟨w',z⟩:=I.cell y c e;exact⟨w',z.sameBut hs (IJ y c e)⟩
  .obtain⟨e,n,ne,nf,d⟩:=I.pin p hp;exact⟨(hs.2 p.1 ne).trans e,n,ne,nf,d⟩
 .have N_:X.fn x=true:=by
   rcases hf with z|z
   .exact z
   .rw[z] at hk;cases hk
  obtain⟨c,hc⟩:=I.ok.has x (.inl hk);obtain⟨w',z⟩:=I.cell x c hc;refine wpAny_storeName_cell I.ok.kind hk hc z (fun h' Fm hs=>?_);obtain⟨oc,RP,Tt⟩:=id z;refine h { s with heap:=h' } ⟨I.ok,I.os,I.bare,⟨fun b o e n hb hx=>?_,fun b o e n hb hx=>?_,I.base.free,fun b o e hx=>?_,I.base.kC,I.base.mQ,I.base.mS⟩,⟨m,hn.sameBut hs (gG (IJ x c hc)),fun j y v' e1 e2 e3=>?_⟩,fun y c' e=>?_,I.free,I.ji,fun p hp=>?_,y7 ⟨oc,RP,I.ji x c hc⟩ hs,by simpa using I.len⟩ ⟨c,hs,.inr hc⟩
  .exact(hs.2 b (a8 (bS (aQ e) (I.ok.Nj x c N_ hc)))).trans (I.base.keep b o e n hb hx)
  .obtain⟨sl,e1⟩:=I.base.slot b o e n hb hx;exact⟨sl,(hs.2 b (a8 (bS (aQ e) (I.ok.Nj x c N_ hc)))).trans e1⟩
  .obtain⟨o',e1⟩:=I.base.there b o e hx;exact⟨o',(hs.2 b (a8 (bS (aQ e) (I.ok.Nj x c N_ hc)))).trans e1⟩
  .by_cases hj:j=i
   .subst hj;rw[hi] at e1;cases e1;rw[pc hiσ] at e2;cases e2;exact⟨u,r,.inr ⟨.inl hk,c,hc,Fm⟩⟩
   .rw[pf (gG hj)] at e2;obtain⟨u',r',q⟩:=hl j y v' e1 e2 e3;refine⟨u',r',?_⟩;rcases q with q|⟨k,c',e,z'⟩
    .exact .inl q
    .refine .inr ⟨k,c',e,z'.sameBut hs ?_⟩;rintro rfl;exact hj (u_ hN e1 (I.ok.inj _ _ _ e hc ▸ hi))
  .by_cases XH:c'=c
   .subst XH;exact⟨_,Fm⟩
   .obtain⟨w2,z2⟩:=I.cell y c' e;exact⟨w2,z2.sameBut hs XH⟩
  .obtain⟨e,n,ne,nf,d⟩:=I.pin p hp;refine⟨(hs.2 p.1 ?_).trans e,n,ne,nf,d⟩;intro q;rw[q,RP] at e;have q':oc=p.2:=be e;exact d w' (by rw[<-q'];exact Tt)
theorem pU(I:aD X ae σ H s)(hN:X.N.Nodup)(hi:X.N[i]?=some x)(hx:N6 X.env.scope x)(r:bn v u)(h:∀s',aD X ae (σ.set i (some v)) H s'->Q () s')(hf:X.fn x=true\/X.env.scope.names.lookup x=some .local:=by first|exact .inl rfl|exact .inr rfl|assumption):wpAny M A (storeName X.env x u) Q E s:=
 rm I hN hi hx r (fun s' I' _=>h s' I') hf
theorem aD.IP(I:aD X ae σ H s)(ho:s'.os=s.os)(u:Un (AI X.stack) ch H H' s.heap s'.heap)(bB:iO X.prog X.w H' s'.heap)(hg:AllBare s'.gens)(Fl:∀b∈ch,(b∈X.ex\/X.s₀.heap.objs.size<=b)/\b≠X.env.locals/\(∀x c,X.env.cells.lookup x=some c->c≠b)/\∀p∈X.pn++ae,p.1≠b):aD X ae σ H' s':=by
 obtain⟨h',g',d',t',o'⟩:=s';have e:o'=s.os:=ho;subst e;exact I.call (g':=g') (t':=t') (d':=d') u bB hg Fl
end
abbrev XK:=Value->Option Addr->Hp->Prop
abbrev St:=List (Option V)
abbrev VK:=V->Hp->Prop
abbrev TE:=St->Hp->VK->Prop
abbrev TT:=St->Hp->(Bool->Hp->Prop)->Prop
abbrev TA:=St->Hp->(List V->Hp->Prop)->Prop
structure xz where
 nx:St->Hp->Prop
 rt:VK
 bk:St->Hp->Prop:=fun _ _=>False
 ct:St->Hp->Prop:=fun _ _=>False
abbrev TS:=xz->St->Hp->Prop
def EP(X:Cx)(ae:List (Addr×Obj))(σ:St)(Q:VK)(u:Value)(s':Shared):Prop:=∃v H',aD X ae σ H' s'/\bn v u/\Q v H'
def TP(X:Cx)(ae:List (Addr×Obj))(σ:St)(Q:Bool->Hp->Prop)(b:Bool)(s':Shared):Prop:=∃H',aD X ae σ H' s'/\Q b H'
def AP(X:Cx)(ae:List (Addr×Obj))(σ:St)(Q:List V->Hp->Prop)(us:List Value)(s':Shared):Prop:=∃vs H',aD X ae σ H' s'/\aP vs us/\Q vs H'
def SP(X:Cx)(ae:List (Addr×Obj))(D:xz)(f:Flow)(s':Shared):Prop:=
 match f with
 |.next=>∃σ' H',aD X ae σ' H' s'/\D.nx σ' H'
 |.brk=>∃σ' H',aD X ae σ' H' s'/\D.bk σ' H'
 |.cont=>∃σ' H',aD X ae σ' H' s'/\D.ct σ' H'
 |.ret u=>∃v σ' H',aD X ae σ' H' s'/\bn v u/\D.rt v H'
def PE(X:Cx)(e:Expr)(t:TE):Prop:=
 ∀ (ae:List (Addr×Obj)) (s:Shared) (σ:St) (H:Hp) (Q:VK),aD X ae σ H s->t σ H Q->wpAny (model X.prog X.w) X.A (eval e X.env) (EP X ae σ Q) X.xe s
def PT(X:Cx)(e:Expr)(t:TT):Prop:=
 ∀ (ae:List (Addr×Obj)) (s:Shared) (σ:St) (H:Hp) (Q:Bool->Hp->Prop),aD X ae σ H s->t σ H Q->wpAny (model X.prog X.w) X.A (isTrue e X.env (eval e X.env)) (TP X ae σ Q) X.xe s
def PW(X:Cx)(e:Expr)(t:TT):Prop:=
 ∀ (y8:Sem Value) (ae:List (Addr×Obj)) (s:Shared) (σ:St) (H:Hp) (Q:Bool->Hp->Prop),aD X ae σ H s->t σ H Q->wpAny (model X.prog X.w) X.A (isTrue e X.env y8) (TP X ae σ Q) X.xe s
theorem PW.pt(h:PW X e t):PT X e t:=h _
def PA(X:Cx)(es:List Expr)(t:TA):Prop:=
 ∀ (pos:Pos) (ae:List (Addr×Obj)) (s:Shared) (σ:St) (H:Hp) (Q:List V->Hp->Prop),aD X ae σ H s->t σ H Q->wpAny (model X.prog X.w) X.A (spliced (backTo pos (starEach es X.env))) (AP X ae σ Q) X.xe s
def PS(X:Cx)(st:Stmt)(t:TS):Prop:=
 ∀ (ae:List (Addr×Obj)) (s:Shared) (σ:St) (H:Hp) (D:xz),aD X ae σ H s->t D σ H->wpAny (model X.prog X.w) X.A (exec st X.env) (SP X ae D) X.xe s
def xA(X:Cx)(st:List Stmt)(t:TS):Prop:=
 ∀ (ae:List (Addr×Obj)) (s:Shared) (σ:St) (H:Hp) (D:xz),aD X ae σ H s->t D σ H->wpAny (model X.prog X.w) X.A (execs st X.env) (SP X ae D) X.xe s
theorem b_(h:wpAny M A t Q E s)(hQ:∀a s,Q a s->Q' a s):wpAny M A t Q' E s:=gC h hQ fun _ _ x=>x
section
variable {X:Cx}
def aW(i:Nat):TE:=fun σ H Q=>∃v,σ[i]?=some (some v)/\Q v H
def tC(v:V):TE:=fun _ H Q=>Q v H
theorem J_(hN:X.N[i]?=some x)(hv:N4 X.env.scope x)(hd:(x==("__debug__":Str))=false:=by decide)(rn:(x==("__classdict__":Str))=false:=by decide):PE X (.Name x pos) (aW i):=by
 intro ae s σ H Q I h;obtain⟨v,e,h⟩:=h;obtain⟨m,hn,hl⟩:=I.loc;obtain⟨u,r,l⟩:=hl i x v hN e hv;have cZ:EP X ae σ Q u s:=⟨v,H,I,r,h⟩
 rcases l with ⟨hk,hm⟩|⟨hk,c,hc,y9⟩
 .exact mL (xc I.ok.kind hk hn hm cZ) hd
 .rcases hk with hk|hk
  .exact mL (wpAny_loadName_cell I.ok.kind hk hc y9 cZ) hd
  .exact mL (xi I.ok.kind hk hc y9 cZ rn) hd
theorem av{i j pos}:PE X (.Constant (.int i) j pos) (tC (.int i)):=fun _ _ _ H _ I h=>wpAny_Constant_int ⟨.int i,H,I.tok _,⟨_,rfl⟩,h⟩
theorem nZ{b j pos}:PE X (.Constant (.bool b) j pos) (tC (.bl b)):=fun _ _ _ H _ I h=>Constant_bool ⟨.bl b,H,I,rfl,h⟩
theorem dI{j pos}:PE X (.Constant .none j pos) (tC .bE):=fun _ _ _ H _ I h=>Constant_none ⟨.bE,H,I,rfl,h⟩
def Gl(X:Cx)(x:Str):Prop:=X.env.kindOf x=some .globalImplicit
theorem lu(I:aD X ae σ H s)(hg:Gl X x)(hm:X.mg x=some u)(h:Q u s)(hd:(x==("__debug__":Str))=false:=by decide):wpAny (model X.prog X.w) X.A (eval (.Name x pos) X.env) Q E s:=
 Calls.Name_function_global I.ok.kind hg (Calls.loadGlobal_global (by rw[I.ok.glob];exact I.mod.glob.keeps I.bk) hm h) hd
theorem gH(I:aD X ae σ H s)(hg:Gl X x)(hm:X.mg x=none)(hv:bootBuiltins x=some u)(h:Q u s)(hn:x≠"__name__":=by decide)(hd:(x==("__debug__":Str))=false:=by decide):wpAny (model X.prog X.w) X.A (eval (.Name x pos) X.env) Q E s:=by
 obtain⟨mb,h1,h2⟩:=I.mod.blt;exact Calls.Name_function_global I.ok.kind hg (Calls.loadGlobal_builtin (by rw[I.ok.glob];exact I.mod.glob.keeps I.bk) hm (by rw[I.ok.blt];exact h1.keeps I.bk) ((h2 x hn).trans hv) h) hd
theorem oK(hg:Gl X x)(hm:X.mg x=some u)(r:bn v u)(hd:(x==("__debug__":Str))=false:=by decide):PE X (.Name x pos) (tC v):=
 fun _ _ _ H _ I h=>lu I hg hm ⟨v,H,I,r,h⟩ hd
theorem lw(hg:Gl X x)(hm:X.mg x=none)(hv:bootBuiltins x=some u)(r:bn v u)(hn:x≠"__name__":=by decide)(hd:(x==("__debug__":Str))=false:=by decide):PE X (.Name x pos) (tC v):=
 fun _ _ _ H _ I h=>gH I hg hm hv ⟨v,H,I,r,h⟩ hn hd
variable {a b:Expr} {ta tb:TE} {pos:Pos}
def PC(X:Cx)(op:CmpOp)(a b:Expr)(t:TE):Prop:=
 ∀ (ae:List (Addr×Obj)) (s:Shared) (σ:St) (H:Hp) (Q:VK),aD X ae σ H s->t σ H Q->
  wpAny (model X.prog X.w) X.A (eval a X.env) (fun v s₁=>wpAny (model X.prog X.w) X.A (eval b X.env) (fun u s₂=>wpAny (model X.prog X.w) X.A (compareOp op v u) (EP X ae σ Q) X.xe s₂) X.xe s₁) X.xe s
def tB(t:TE):TT:=fun σ H Q=>t σ H fun x H1=>∃c,x=.bl c/\Q c H1
theorem Ka(h:PC X op a b t)(h1:behindInMarks op b=false:=by first|exact Oa _ (by decide) (by decide)|rfl):PT X (.Compare a [op] [b] pos) (tB t):=by
 intro ae s σ H Q I hw;refine wpAny_isTrue_Compare1 (b_ (h ae s σ H _ I hw) fun v s1 h1=>b_ h1 fun u s2 h2=>b_ h2 fun c s3 ⟨x,H1,I1,r1,q1⟩=>?_) h1;obtain⟨d,rfl,q⟩:=q1;cases r1;exact kg ⟨H1,I1,q⟩
theorem eY(h:PE X e t)(he:∀y8,isTrue e X.env y8=(do let v <- y8;standAt e.pos;holding [v] (truthy v)):=by intro _;rfl):PT X e (tB t):=by
 intro ae s σ H Q I hw;refine isTrue_plain (b_ (h ae s σ H _ I hw) fun v s1 ⟨x,H1,I1,r1,q1⟩=>?_) (he _);obtain⟨d,rfl,q⟩:=q1;cases r1;exact kg ⟨H1,I1,q⟩
variable {tA RQ:TT} {lx:List Expr}
def Tu(t u:TT):TT:=fun σ H Q=>t σ H fun c H1=>if c=true then u σ H1 Q else Q false H1
def ZT(t u:TT):TT:=fun σ H Q=>t σ H fun c H1=>if c=true then Q true H1 else u σ H1 Q
def Tv(t:TT):TT:=fun σ H Q=>t σ H fun c H1=>Q (!c) H1
theorem y_(ha:PT X a tA):PW X (.BoolOp .And [a] pos) tA:=by
 intro wh ae s σ H Q I h;refine isTrue_and (b_ (ha ae s σ H Q I h) fun c s1 e=>?_);cases c with
 |true=>exact isTrue_and_nil e
 |false=>exact e
theorem Cp(ha:PT X a tA):PW X (.BoolOp .Or [a] pos) tA:=by
 intro wh ae s σ H Q I h;refine isTrue_or (b_ (ha ae s σ H Q I h) fun c s1 e=>?_);cases c with
 |false=>exact isTrue_or_nil e
 |true=>exact e
theorem xB(ha:PT X a tA)(hb:PW X (.BoolOp .And (b::lx) pos) RQ):PW X (.BoolOp .And (a::b::lx) pos) (Tu tA RQ):=by
 intro wh ae s σ H Q I h;refine isTrue_and (b_ (ha ae s σ H _ I h) fun c s1 ⟨H1,I1,q1⟩=>?_);cases c with
 |true=>exact hb wh ae s1 σ H1 Q I1 q1
 |false=>exact⟨H1,I1,q1⟩
theorem Cq(ha:PT X a tA)(hb:PW X (.BoolOp .Or (b::lx) pos) RQ):PW X (.BoolOp .Or (a::b::lx) pos) (ZT tA RQ):=by
 intro wh ae s σ H Q I h;refine isTrue_or (b_ (ha ae s σ H _ I h) fun c s1 ⟨H1,I1,q1⟩=>?_);cases c with
 |true=>exact⟨H1,I1,q1⟩
 |false=>exact hb wh ae s1 σ H1 Q I1 q1
theorem gI(ha:PT X a tA):PT X (.UnaryOp .Not a pos) (Tv tA):=by
 intro ae s σ H Q I h;exact isTrue_not (ha ae s σ H (fun c H1=>Q (!c) H1) I h)
def Ob(ta tb:TE):TE:=fun σ H Q=>ta σ H fun x H1=>∃c,x=.bl c/\if c=true then tb σ H1 Q else Q (.bl false) H1
def Tw(ta tb:TE):TE:=fun σ H Q=>ta σ H fun x H1=>∃c,x=.bl c/\if c=true then Q (.bl true) H1 else tb σ H1 Q
def Od(ta:TE):TE:=fun σ H Q=>ta σ H fun x H1=>∃c,x=.bl c/\Q (.bl (!c)) H1
theorem mU{op}(h:PE X a t):PE X (.BoolOp op [a] pos) t:=fun ae s σ H Q I hw=>BoolOp_one (h ae s σ H Q I hw)
theorem mV(ha:PE X a ta)(hb:PE X (.BoolOp .And (b::lx) pos) tb):PE X (.BoolOp .And (a::b::lx) pos) (Ob ta tb):=by
 intro ae s σ H Q I h;refine BoolOp_and (b_ (ha ae s σ H _ I h) fun v s1 ⟨x,H1,I1,r1,q1⟩=>?_);obtain⟨c,rfl,q1⟩:=q1;cases r1;refine kg ?_;cases c with
 |true=>exact hb ae s1 σ H1 Q I1 q1
 |false=>exact⟨.bl false,H1,I1,rfl,q1⟩
theorem Oe(ha:PE X a ta)(hb:PE X (.BoolOp .Or (b::lx) pos) tb):PE X (.BoolOp .Or (a::b::lx) pos) (Tw ta tb):=by
 intro ae s σ H Q I h;refine BoolOp_or (b_ (ha ae s σ H _ I h) fun v s1 ⟨x,H1,I1,r1,q1⟩=>?_);obtain⟨c,rfl,q1⟩:=q1;cases r1;refine kg ?_;cases c with
 |false=>exact hb ae s1 σ H1 Q I1 q1
 |true=>exact⟨.bl true,H1,I1,rfl,q1⟩
theorem Kb(ha:PE X a ta):PE X (.UnaryOp .Not a pos) (Od ta):=by
 intro ae s σ H Q I h;refine UnaryOp_ (b_ (ha ae s σ H _ I h) fun v s1 ⟨x,H1,I1,r1,q1⟩=>?_);obtain⟨c,rfl,q1⟩:=q1;cases r1;exact not_of (kg ⟨.bl (!c),H1,I1,rfl,q1⟩)
def XI(t:TT)(ta tb:TE):TE:=fun σ H Q=>t σ H fun c H1=>if c=true then ta σ H1 Q else tb σ H1 Q
theorem va(hc:PT X c tA)(ha:PE X a ta)(hb:PE X b tb):PE X (.IfExp c a b pos) (XI tA ta tb):=by
 intro ae s σ H Q I h;refine wpAny_IfExp (b_ (hc ae s σ H _ I h) fun d s1 ⟨H1,I1,q1⟩=>?_);cases d with
 |true=>exact ha ae s1 σ H1 Q I1 q1
 |false=>exact hb ae s1 σ H1 Q I1 q1
end
def aM(K:PySem.W.Frag)(H:Hp)(a:Addr)(xs:List V):Prop:=
 Rd H a (.lst xs)\/
  ∃ (o:Obj) (its:Array Value) (n:Nat),K.lookup a=some o/\o.cls=.type "list"/\o.dict=none/\o.data=.seq its n/\its.size<=sizeLine/\aP xs its.toList
def bV(K:PySem.W.Frag)(H:Hp)(a:Addr)(xs:List V):Prop:=
 Rd H a (.tup xs)\/
  ∃ (o:Obj) (its:Array Value) (n:Nat),K.lookup a=some o/\o.cls=.type "tuple"/\o.data=.seq its n/\its.size<=sizeLine/\aP xs its.toList
def Tx:Value->Option V
 |.none=>some .bE
 |.bool b=>some (.bl b)
 |.int i _=>some (.int i)
 |.str x _=>some (.str x)
 |.bytes b _=>some (.BW b)
 |.float b _=>some (.J6 b)
 |.ref a=>some (.ref a)
 |.type n=>some (.ty n)
 |_=>none
theorem bn.abs(r:bn x u):Tx u=some x:=by
 cases x with
 |bE=>cases r;rfl
 |bl _=>cases r;rfl
 |int _=>obtain⟨t,rfl⟩:=r;rfl
 |str _=>obtain⟨t,rfl⟩:=r;rfl
 |BW _=>obtain⟨t,rfl⟩:=r;rfl
 |J6 _=>obtain⟨t,rfl⟩:=r;rfl
 |ref _=>cases r;rfl
 |ty _=>cases r;rfl
theorem bn.inj(r:bn x u)(q:bn y u):x=y:=be (r.abs.symm.trans q.abs)
theorem aP.inj:∀ {xs ys:List V} {us:List Value},aP xs us->aP ys us->xs=ys
 |_,_,_,.nil,.nil=>rfl
 |_,_,_,.cons r t,.cons r' t'=>by rw[r.inj r',aP.inj t t']
section
variable {X:Cx} {ae:List (Addr×Obj)} {σ:St} {H:Hp} {s:Shared} {a:Addr} {xs ys:List V}
theorem aM.of{K:PySem.W.Frag}(h:H a=some (.lst xs)):aM K H a xs:=.inl (.inl h)
theorem bV.of{K:PySem.W.Frag}(h:H a=some (.tup xs)):bV K H a xs:=.inl (.inl h)
theorem aD.list(I:aD X ae σ H s)(h:aM X.K H a xs):∃its:List Value,aP xs its/\PlainL s.heap a its.toArray/\xs.length<=sizeLine:=by
 rcases h with h|⟨o,its,n,hk,hc,hd,hs,hz,r⟩
 .obtain⟨z,its,n,r,e⟩:=h.ok I.bB;exact⟨its,r,⟨_,n,e,rfl,rfl,rfl⟩,z⟩
 .refine⟨its.toList,r,⟨o,n,I.jW a o hk,hc,hd,by simpa using hs⟩,?_⟩;have e:=r.length;simp only[kd] at e;lia
theorem aD.tuple(I:aD X ae σ H s)(h:bV X.K H a xs):∃its:List Value,aP xs its/\IsTup s.heap a its.toArray/\xs.length<=sizeLine:=by
 rcases h with h|⟨o,its,n,hk,hc,hs,hz,r⟩
 .obtain⟨z,its,r,p⟩:=h.ok I.bB;exact⟨its,r,p.tup,z⟩
 .refine⟨its.toList,r,⟨o,I.jW a o hk,hc,n,by simpa using hs⟩,?_⟩;have e:=r.length;simp only[kd] at e;lia
theorem aD.lz(I:aD X ae σ H s)(h:aM X.K H a xs)(h':aM X.K H a ys):xs=ys:=by
 obtain⟨its,r,⟨o,n,e,_,_,d⟩,_⟩:=I.list h;obtain⟨its',r',⟨o',n',e',_,_,d'⟩,_⟩:=I.list h';rw[e] at e';cases e';rw[d] at d';injection d' with d1 _;have:its=its':=by simpa using congrArg Array.toList d1
 subst this;exact r.inj r'
theorem aD.eZ(I:aD X ae σ H s)(h:bV X.K H a xs)(h':bV X.K H a ys):xs=ys:=by
 obtain⟨its,r,⟨o,e,_,n,d⟩,_⟩:=I.tuple h;obtain⟨its',r',⟨o',e',_,n',d'⟩,_⟩:=I.tuple h';rw[e] at e';cases e';rw[d] at d';injection d' with d1 _;have:its=its':=by simpa using congrArg Array.toList d1
 subst this;exact r.inj r'
end
abbrev Cx.qN(X:Cx)(E:Value->Shared->Prop):Cx:={ X with xe:=E }
abbrev Cx.IQ(X:Cx):Cx:=X.qN fun _ _=>False
theorem Cx.Ok.qN{X:Cx}(ok:X.Ok)(E:Value->Shared->Prop):(X.qN E).Ok:=
 ⟨ok.mod,ok.kind,ok.glob,ok.blt,ok.above,ok.inj,ok.has,ok.Nj,ok.hd,ok.frames,ok.Nk,ok.Tl,ok.bs,ok.BX,ok.Co,ok.FE,ok.mT,ok.J8⟩
theorem Cx.Ok.jj{X:Cx}{E:Value->Shared->Prop}(ok:(X.qN E).Ok):X.Ok:=
 ⟨ok.mod,ok.kind,ok.glob,ok.blt,ok.above,ok.inj,ok.has,ok.Nj,ok.hd,ok.frames,ok.Nk,ok.Tl,ok.bs,ok.BX,ok.Co,ok.FE,ok.mT,ok.J8⟩
section
variable {X:Cx} {ae:List (Addr×Obj)} {σ:St} {H:Hp} {s:Shared} {E:Value->Shared->Prop}
theorem aD.qN(I:aD X ae σ H s)(E:Value->Shared->Prop):aD (X.qN E) ae σ H s:=⟨I.ok.qN E,I.os,I.bare,I.base,I.loc,I.cell,I.free,I.ji,I.pin,I.bB,I.len⟩
theorem aD.jj(I:aD (X.qN E) ae σ H s):aD X ae σ H s:=⟨I.ok.jj,I.os,I.bare,I.base,I.loc,I.cell,I.free,I.ji,I.pin,I.bB,I.len⟩
theorem SP.jj(h:SP (X.qN E) ae D f s'):SP X ae D f s':=by
 cases f with
 |next=>obtain⟨σ',H',I,q⟩:=h;exact⟨σ',H',I.jj,q⟩
 |brk=>obtain⟨σ',H',I,q⟩:=h;exact⟨σ',H',I.jj,q⟩
 |cont=>obtain⟨σ',H',I,q⟩:=h;exact⟨σ',H',I.jj,q⟩
 |ret u=>obtain⟨v,σ',H',I,r,q⟩:=h;exact⟨v,σ',H',I.jj,r,q⟩
theorem xA.IQ{st:List Stmt}{t:TS}(h:xA X.IQ st t):xA X st t:=fun ae s σ H D I hw=>
 gC (h ae s σ H D (I.qN _) hw) (fun _ _ q=>q.jj) fun _ _ z=>False.elim z
end
section
variable {X:Cx} {st:Stmt} {lx:List Stmt} {t u:TS} {e:Expr} {te:TE} {pos:Pos}
def IR:TS:=fun D σ H=>D.nx σ H
def Of(t u:TS):TS:=fun D σ H=>t { D with nx:=u D } σ H
theorem bg:xA X [] IR:=fun _ _ σ H _ I h=>tD ⟨σ,H,I,h⟩
theorem ah(h1:PS X st t)(h2:xA X lx u):xA X (st::lx) (Of t u):=by
 intro ae s σ H D I h;refine wpAny_execs_cons (b_ (h1 ae s σ H { D with nx:=u D } I h) fun f s1 q=>?_);cases f with
 |next=>
  obtain⟨σ',H',I',q⟩:=q;exact h2 ae s1 σ' H' D I' q
 |ret v=>exact q
 |brk=>exact q
 |cont=>exact q
theorem ao(h1:PS X st t):xA X [st] t:=by
 intro ae s σ H D I h;refine wpAny_execs_cons (b_ (h1 ae s σ H D I h) fun f s1 q=>?_);cases f with
 |next=>exact tD q
 |ret v=>exact q
 |brk=>exact q
 |cont=>exact q
theorem FG:PS X (.Pass pos) IR:=fun _ _ σ H _ I h=>wpAny_Pass ⟨σ,H,I,h⟩
theorem aD.quiet(I:aD X ae σ H s):interactive X.env=false:=by simp[interactive,I.ok.kind]
def Og(te:TE):TS:=fun D σ H=>te σ H fun _ H1=>D.nx σ H1
theorem bu(he:PE X e te)(hs:swapsWith e none pos.line X.env=pure false:=by rfl):PS X (.Expr e pos) (Og te):=by
 intro ae s σ H D I h;exact wpAny_Expr_any (b_ (he ae s σ H _ I h) fun v s1 ⟨x,H1,I1,r1,q1⟩=>⟨σ,H1,I1,q1⟩) I.quiet hs
def Tz(te:TE):TS:=fun D σ H=>te σ H D.rt
theorem aX(he:PE X e te):PS X (.Return (some e) pos) (Tz te):=by
 intro ae s σ H D I h;exact wpAny_Return_some (b_ (he ae s σ H _ I h) fun v s1 ⟨x,H1,I1,r1,q1⟩=>⟨x,σ,H1,I1,r1,q1⟩)
def TB(c:TT)(t u:TS):TS:=fun D σ H=>c σ H fun b H1=>if b=true then t D σ H1 else u D σ H1
theorem cr(hc:PT X c tc)(ha:xA X a t)(hb:xA X b u):PS X (.If c a b pos) (TB tc t u):=by
 intro ae s σ H D I h;refine wpAny_If (b_ (hc ae s σ H _ I h) fun d s1 ⟨H1,I1,q1⟩=>?_);cases d with
 |true=>exact ha ae s1 σ H1 D I1 q1
 |false=>exact hb ae s1 σ H1 D I1 q1
def Kc:TS:=fun _ _ _=>False
theorem cC:xA X sts Kc:=fun _ _ _ _ _ _ h=>h.elim
end
abbrev TG:=V->St->Hp->(St->Hp->Prop)->Prop
abbrev Oh:=List V->St->Hp->(St->Hp->Prop)->Prop
def PG(X:Cx)(Kd:Expr)(t:TG):Prop:=
 ∀ (ae:List (Addr×Obj)) (s:Shared) (σ:St) (H:Hp) (v:V) (u:Value) (Q:St->Hp->Prop),aD X ae σ H s->bn v u->t v σ H Q->
  wpAny (model X.prog X.w) X.A (assign Kd X.env u) (fun _ s'=>∃σ' H',aD X ae σ' H' s'/\Q σ' H') X.xe s
def RS(X:Cx)(ts:List Expr)(t:Oh):Prop:=
 ∀ (ae:List (Addr×Obj)) (s:Shared) (σ:St) (H:Hp) (vs:List V) (us:List Value) (Q:St->Hp->Prop),aD X ae σ H s->aP vs us->t vs σ H Q->
  wpAny (model X.prog X.w) X.A (assignInOrder ((assignEach ts X.env).map (·.2)) us) (fun _ s'=>∃σ' H',aD X ae σ' H' s'/\Q σ' H') X.xe s
abbrev Oi:=V->V->V->Hp->(Hp->Prop)->Prop
def Oj(X:Cx)(t:Oi):Prop:=
 ∀ (ae:List (Addr×Obj)) (s:Shared) (σ:St) (H:Hp) (o i v:V) (ov iv u:Value) (Q:Hp->Prop),aD X ae σ H s->bn o ov->bn i iv->bn v u->t o i v H Q->
  wpAny (model X.prog X.w) X.A (setItem ov iv u) (fun _ s'=>∃H',aD X ae σ H' s'/\Q H') X.xe s
abbrev TC:=V->V->Hp->VK->Prop
def XJ(X:Cx)(op:Operator)(t:TC):Prop:=
 ∀ (ae:List (Addr×Obj)) (s:Shared) (σ:St) (H:Hp) (x y:V) (v u:Value) (Q:VK),aD X ae σ H s->bn x v->bn y u->t x y H Q->
  wpAny (model X.prog X.w) X.A (inplaceOp op v u) (EP X ae σ Q) X.xe s
section
variable {X:Cx} {pos:Pos}
def a9(i:Nat):TG:=fun v σ H Q=>Q (σ.set i (some v)) H
theorem aq(hN:X.N.Nodup)(hi:X.N[i]?=some x)(hx:N6 X.env.scope x)(hf:X.fn x=true\/X.env.scope.names.lookup x=some .local:=by first|exact .inl rfl|exact .inr rfl|assumption):PG X (.Name x pos) (a9 i):=by
 intro ae s σ H v u Q I r h;exact wpAny_assign_Name (pU I hN hi hx r (fun s' I'=>⟨_,H,I',h⟩) hf)
def oo:Oh:=fun vs σ H Q=>vs=[]/\Q σ H
def dC(t:TG)(u:Oh):Oh:=fun vs σ H Q=>∃v r,vs=v::r/\t v σ H fun σ' H'=>u r σ' H' Q
theorem c_:RS X [] oo:=by
 intro ae s σ H vs us Q I r h;obtain⟨e,h⟩:=h;subst e;cases r;exact assignInOrder_nil ⟨σ,H,I,h⟩
theorem aO(h1:PG X e t)(h2:RS X es u)(hs:(assignEach (e::es) X.env).map (·.2)=assign e X.env::(assignEach es X.env).map (·.2):=by rfl):RS X (e::es) (dC t u):=by
 intro ae s σ H vs us Q I r h;obtain⟨v,vr,e1,h⟩:=h;subst e1;cases r with
 |cons r rr=>
  rw[hs];refine assignInOrder_cons (b_ (h1 ae s σ H _ _ _ I r h) fun _ s1 ⟨σ1,H1,I1,q1⟩=>?_);exact h2 ae s1 σ1 H1 _ _ Q I1 rr q1
def oq(K:PySem.W.Frag)(n:Nat)(t:Oh):TG:=fun v σ H Q=>∃a xs,v=.ref a/\bV K H a xs/\xs.length=n/\t xs σ H Q
theorem dY(hc:X.calm=true)(h:RS X es t)(hn:(assignEach es X.env).length=n:=by rfl)(lA:(assignEach es X.env).findIdx? (·.1)=none:=by rfl):PG X (.Tuple es k pos) (oq X.K n t):=by
 intro ae s σ H v u Q I r hw;obtain⟨a,xs,e1,hq,hl,hw⟩:=hw;subst e1;cases r;obtain⟨its,rv,ht,hz⟩:=I.tuple hq;refine assign_Tuple_tuple (I.ok.hd hc) ht (by simp[hn,<-hl,rv.length]) lA fun h' hx=>?_;have I1:aD X ae σ H { s with heap:=h' }:=I.kept (t':=s.toks) fun b o e=>hx b o (a8 (aQ e)) e;exact h ae _ σ H xs _ Q I1 (by simpa using rv) hw
def TF(to ti:TE)(t:Oi):TG:=fun v σ H Q=>to σ H fun o H1=>ti σ H1 fun i H2=>t o i v H2 fun H3=>Q σ H3
theorem mW(ho:PE X o to)(hi:PE X i ti)(hs:Oj X t)(ha:∀v,assign (.Subscript o i pos) X.env v=(do
   let ov <- holding [v] (eval o X.env)
   let iv <- holding [v,ov] (eval i X.env)
   standAt pos
   holding [v,ov,iv] (setItem ov iv v)
   release [v,ov,iv] []):=by intro _;rfl):PG X (.Subscript o i pos) (TF to ti t):=by
 intro ae s σ H v u Q I r h;rw[ha];refine au (gy (b_ (ho ae s σ H _ I h) fun ov s1 ⟨x,H1,I1,r1,q1⟩=>?_));refine au (gy (b_ (hi ae s1 σ H1 _ I1 q1) fun iv s2 ⟨y,H2,I2,r2,q2⟩=>?_));refine au (pP (au (gy (b_ (hs ae s2 σ H2 x y v ov iv u _ I2 r1 r2 r q2) fun _ s3 ⟨H3,I3,q3⟩=>?_))));exact wpAny_release ⟨σ,H3,I3,q3⟩
def Ke(te:TE)(g:TG):TS:=fun D σ H=>te σ H fun x H1=>g x σ H1 D.nx
theorem ik(he:PE X e te)(hg:PG X tg g)(hs:swapsWithSole [tg] e pos.line X.env=pure false:=by rfl)(hw:swappedStores [tg] e X.env=pure none:=by rfl)(h1:(assignEach [tg] X.env).map (·.2)=[assign tg X.env]:=by rfl):PS X (.Assign [tg] e pos) (Ke te g):=by
 intro ae s σ H D I h;refine wpAny_Assign_stores (b_ (he ae s σ H _ I h) fun v s1 ⟨x,H1,I1,r1,q1⟩=>?_) hs hw;rw[h1];exact b_ (hg ae s1 σ H1 x v _ I1 r1 q1) fun _ s2 q=>q
theorem aS(hN:X.N.Nodup)(hi:X.N[i]?=some x)(hx:N6 X.env.scope x)(he:PE X e te)(hs:swapsWith e (some (.Name x vb)) pos.line X.env=pure false:=by rfl)(hf:X.fn x=true\/X.env.scope.names.lookup x=some .local:=by first|exact .inl rfl|exact .inr rfl|assumption):
  PS X (.Assign [.Name x vb] e pos) (Ke te (a9 i)):=by
 intro ae s σ H D I h;refine wpAny_Assign_Name (b_ (he ae s σ H _ I h) fun v s1 ⟨y,H1,I1,r1,q1⟩=>?_) hs;exact pU I1 hN hi hx r1 (fun s2 I2=>⟨_,H1,I2,q1⟩) hf
def TH(i:Nat)(te:TE)(ti:TC):TS:=fun D σ H=>∃x,σ[i]?=some (some x)/\te σ H fun y H1=>ti x y H1 fun z H2=>D.nx (σ.set i (some z)) H2
theorem Kg(hN:X.N.Nodup)(hi:X.N[i]?=some x)(hx:N6 X.env.scope x)(he:PE X e te)(ho:XJ X op ti)(hf:X.fn x=true\/X.env.scope.names.lookup x=some .local:=by first|exact .inl rfl|exact .inr rfl|assumption):
  PS X (.AugAssign (.Name x vb) op e pos) (TH i te ti):=by
 intro ae s σ H D I h;obtain⟨v,e1,h⟩:=h;obtain⟨m,hn,hl⟩:=I.loc;have TJ:N4 X.env.scope x:=by rcases hx with k|k;exact .inl k;exact .inr (.inl k)
 obtain⟨u,r,l⟩:=hl i x v hi e1 TJ;refine wpAny_AugAssign_Name ?_;have go:wpAny (model X.prog X.w) X.A (eval e X.env) (fun w s₂=>wpAny (model X.prog X.w) X.A (inplaceOp op u w) (fun r s₃=>wpAny (model X.prog X.w) X.A (storeName X.env x r) (fun _=>SP X ae D .next) X.xe s₃) X.xe s₂) X.xe s:=by
  refine b_ (he ae s σ H _ I h) fun w s1 ⟨y,H1,I1,r1,q1⟩=>?_;refine b_ (ho ae s1 σ H1 v y u w _ I1 r r1 q1) fun z s2 ⟨zv,H2,I2,r2,q2⟩=>?_;exact pU I2 hN hi hx r2 (fun s3 I3=>⟨_,H2,I3,q2⟩) hf
 rcases l with ⟨hk,hm⟩|⟨hk,c,hc,y9⟩
 .exact xc I.ok.kind hk hn hm go
 .rcases hk with hk|hk
  .exact wpAny_loadName_cell I.ok.kind hk hc y9 go
  .rcases hx with k|k
   .have:X.env.scope.names.lookup x=some .free:=hk;rw[k] at this;cases this
   .have:X.env.scope.names.lookup x=some .free:=hk;rw[k] at this;cases this
def ZU(f:Int->Int->Int):TC:=fun x y H Q=>∃i j,x=.int i/\y=.int j/\Q (.int (f i j)) H
theorem Kh:XJ X .Add (ZU fun i j=>i+j):=by
 intro ae s σ H x y v u Q I r1 r2 h;obtain⟨i,j,e1,e2,q⟩:=h;subst e1;subst e2;obtain⟨t,rfl⟩:=r1;obtain⟨t',rfl⟩:=r2;exact iadd_int ⟨.int _,H,I.tok _,⟨_,rfl⟩,q⟩
def Cr(c:TT)(tb:TS):TS:=fun D σ H=>∃W:Nat->St->Hp->Prop,(∃m,W m σ H)/\∀m σ H,W m σ H->
 c σ H fun b H1=>if b=true then ∃N:St->Hp->Prop,(∀σ' H',N σ' H'->∃m',m'<m/\W m' σ' H')/\tb { D with nx:=N,ct:=N,bk:=D.nx } σ H1 else D.nx σ H1
theorem lB(hp:PassesOwn (model X.prog X.w) X.A X.env X.xe)(hc:PT X c tc)(hb:xA X body tb):PS X (.While c body [] pos) (Cr tc tb):=by
 intro ae s σ H D I h;obtain⟨W,⟨m0,w0⟩,Cs⟩:=h;refine wpAny_While (codeAny_whileLoop (fun n s'=>∃σ' H',aD X ae σ' H' s'/\W n σ' H') ?_ m0 ⟨σ,H,I,w0⟩);rintro n s1 ⟨σ1,H1,I1,w1⟩;refine km hp (b_ (hc ae s1 σ1 H1 _ I1 (Cs n σ1 H1 w1)) fun b s2 ⟨H2,I2,q2⟩=>?_);cases b with
 |true=>
  obtain⟨N,hN,q2⟩:=q2;rw[if_pos rfl];refine km hp (b_ (hb ae s2 σ1 H2 _ I2 q2) fun f s3 q3=>?_);cases f with
  |next=>
   obtain⟨σ3,H3,I3,n3⟩:=q3;obtain⟨m',hm,w3⟩:=hN σ3 H3 n3;exact⟨m',hm,σ3,H3,I3,w3⟩
  |cont=>
   obtain⟨σ3,H3,I3,n3⟩:=q3;obtain⟨m',hm,w3⟩:=hN σ3 H3 n3;exact⟨m',hm,σ3,H3,I3,w3⟩
  |brk=>exact q3
  |ret v=>exact q3
 |false=>
  rw[am cm];exact tD ⟨σ1,H2,I2,q2⟩
end
structure It where
 go:Nat->Hp->Prop
 Nl:Nat->Hp->V->Hp->Prop
 stop:Nat->Hp->Prop
def gf(X:Cx)(ae:List (Addr×Obj))(H:Hp)(b:Addr):Prop:=
 H b=none/\b≠X.env.locals/\b∉X.fs/\(b∈X.ex\/X.s₀.heap.objs.size<=b)/\(∀x c,X.env.cells.lookup x=some c->c≠b)/\∀p∈X.pn++ae,p.1≠b
theorem aD.vc(I:aD X ae σ H s)(hb:s.heap.objs.size<=b)(hn:H' b=none):gf X ae H' b:=by
 refine⟨hn,fQ (bS I.lt hb),I.To hb,.inr (bj I.sz hb),fun x c e z=>?_,fun p hp z=>?_⟩
 .obtain⟨v,q⟩:=I.cell x c e;exact absurd (bS q.lt (by rw[z];exact hb)) (gx _)
 .exact absurd (bS (aQ (I.pin p hp).1) (by rw[z];exact hb)) (gx _)
structure qO(P:Program)(w:World)(K:PySem.W.Frag)(tg:Expr)(J:It)(fp:List Addr)(it:Addr)(tn:Nat->Heap->Prop):Prop where
 mem:it∈fp
 obj:∀i h,tn i h->∀b∈fp,∃o,h.get? b=some o/\∀v,o.data≠.cell v
 keep:∀i h h',tn i h->(∀b∈fp,∀o,h.get? b=some o->h'.get? b=some o)->tn i h'
 item:∀ (X:Cx),X.prog=P->X.w=w->X.K=K->X.calm=true->∀ (i:Nat) (ae:List (Addr×Obj)) (s:Shared) (σ:St) (H:Hp) (E:Value->Shared->Prop),aD X ae σ H s->(∀b∈fp,gf X ae H b)->tn i s.heap->J.go i H->
  wpAny (model P w) X.A (pyNext (.ref it)) (fun r s1=>∃u,r=some u/\
   wpAny (model P w) X.A (letOwnedTupleGo tg (.ref it) u) (fun _ s2=>∃x H',aD X ae σ H' s2/\bn x u/\J.Nl i H x H'/\tn (i+1) s2.heap/\∀b∈fp,H' b=none) E s1) E s
 done:∀ (X:Cx),X.prog=P->X.w=w->X.K=K->X.calm=true->∀ (i:Nat) (ae:List (Addr×Obj)) (s:Shared) (σ:St) (H:Hp) (E:Value->Shared->Prop),aD X ae σ H s->(∀b∈fp,gf X ae H b)->tn i s.heap->J.stop i H->
  wpAny (model P w) X.A (pyNext (.ref it)) (fun r s1=>r=none/\aD X ae σ H s1) E s
 self:∀ (A:Around) (i:Nat) (s:Shared) (Q:Value->Shared->Prop) (E:Value->Shared->Prop),tn i s.heap->Q (.ref it) s->wpAny (model P w) A (pyIter (.ref it)) Q E s
abbrev TI:=St->Hp->(It->Hp->Prop)->Prop
def XM(X:Cx)(ae:List (Addr×Obj))(σ:St)(tg:Expr)(R:It->Hp->Prop)(RU:Value)(s2:Shared):Prop:=
 ∃ (it:Addr) (fp:List Addr) (tn:Nat->Heap->Prop) (J:It) (H':Hp),RU=.ref it/\aD X ae σ H' s2/\qO X.prog X.w X.K tg J fp it tn/\tn 0 s2.heap/\(∀b∈fp,gf X ae H' b)/\R J H'
def PI(X:Cx)(tg iP:Expr)(wi:TI):Prop:=
 ∀ (ae:List (Addr×Obj)) (s:Shared) (σ:St) (H:Hp) (R:It->Hp->Prop),aD X ae σ H s->wi σ H R->
  wpAny (model X.prog X.w) X.A (eval iP X.env) (fun v s1=>wpAny (model X.prog X.w) X.A (pyIter v) (XM X ae σ tg R) X.xe s1) X.xe s
theorem Ct(ho:s.heap.get? it=some o)(hc:o.cls=.type n)(hd:o.data=.fields vs)(hn:["enumerate","zip","dict_itemiterator","dict_reverseitemiterator","odict_iterator","itertools.zip_longest","itertools.pairwise"].contains n=false)(hQ:Q () s):wpAny M A (letOwnedTupleGo tg (.ref it) u) Q E s:=by
 unfold letOwnedTupleGo;cases tg <;> first
  |exact wpAny_pure hQ
  |(cases u <;> first
    |exact wpAny_pure hQ
    |(refine au (wpAny_load ho ?_);rw[hc,hd];show wpAny M A (if (["enumerate","zip","dict_itemiterator","dict_reverseitemiterator","odict_iterator","itertools.zip_longest","itertools.pairwise"].contains n&&vs[0]?==some (rawInt _))=true then _ else _) Q E s;rw[am (by intro h;rw[hn,Bool.false_and] at h;cases h)];exact wpAny_pure hQ))
def BY(K:PySem.W.Frag)(a:Addr):It:=
 ⟨fun i H=>∃xs x,aM K H a xs/\xs[i]?=some x,fun i H x H'=>H'=H/\∀xs,aM K H a xs->xs[i]?=some x,fun i H=>∃xs,aM K H a xs/\xs.length<=i⟩
def TK(K:PySem.W.Frag)(a:Addr):It:=
 ⟨fun i H=>∃xs x,bV K H a xs/\xs[i]?=some x,fun i H x H'=>H'=H/\∀xs,bV K H a xs->xs[i]?=some x,fun i H=>∃xs,bV K H a xs/\xs.length<=i⟩
def Fn(lo:Int)(n:Nat):It:=⟨fun i _=>i<n,fun i H x H'=>H'=H/\x=.int (lo+i),fun i _=>n<=i⟩
theorem AK{P:Program}{w:World}{K:PySem.W.Frag}{tg:Expr}(a it:Addr):qO P w K tg (BY K a) [it] it (fun i h=>h.IsListIter it a i) where
 mem:=by simp
 obj:=fun i h st b hb=>by
  have e:b=it:=by simpa using hb
  subst e;obtain⟨o,e,c,d⟩:=st;exact⟨o,e,fun v z=>by rw[d] at z;cases z⟩
 keep:=fun i h h' st k=>st.at fun o e=>k it (by simp) o e
 item:=by
  intro X hP hw hK hc i ae s σ H E I hf st hg;subst hP hw hK;obtain⟨xs,x,hq,hx⟩:=hg;obtain⟨its,rv,p,hz⟩:=I.list hq;obtain⟨u,hu,ru⟩:=rv.get hx;obtain⟨f0,f1,f2,f3,f4,f5⟩:=hf it (by simp);refine wpAny_pyNext_list_item st p.isList (x:=u) (by simpa using hu) fun h' aZ sb=>?_;have I1:aD X ae σ H { s with heap:=h' }:=I.turned (t':=s.toks) (fun b o hb e=>(sb.2 b hb).trans e) f0 f1 f3 f4 f5;obtain⟨o,e,c,d⟩:=id aZ;exact⟨u,rfl,Ct (s:={ s with heap:=h' }) e c d (by decide) ⟨x,H,I1,ru,⟨rfl,fun ys hy=>by rw[I.lz hy hq];exact hx⟩,aZ,fun b hb=>(hf b hb).1⟩⟩
 done:=by
  intro X hP hw hK hc i ae s σ H E I hf st hg;subst hP hw hK;obtain⟨xs,hq,hx⟩:=hg;obtain⟨its,rv,p,hz⟩:=I.list hq;obtain⟨f0,f1,f2,f3,f4,f5⟩:=hf it (by simp);have hl:=rv.length;exact wpAny_pyNext_list_end (I.ok.hd hc) st p.isList (by simp;lia) fun h' eb=>⟨rfl,I.turned (t':=s.toks) (fun b o hb e=>eb b o hb e) f0 f1 f3 f4 f5⟩
 self:=fun _ _ _ _ _ st h=>wpAny_pyIter_listiter st h
theorem xC{P:Program}{w:World}{K:PySem.W.Frag}{tg:Expr}(a it:Addr):qO P w K tg (TK K a) [it] it (fun i h=>h.IsTupleIter it a i) where
 mem:=by simp
 obj:=fun i h st b hb=>by
  have e:b=it:=by simpa using hb
  subst e;obtain⟨o,e,c,d⟩:=st;exact⟨o,e,fun v z=>by rw[d] at z;cases z⟩
 keep:=fun i h h' st k=>st.at fun o e=>k it (by simp) o e
 item:=by
  intro X hP hw hK hc i ae s σ H E I hf st hg;subst hP hw hK;obtain⟨xs,x,hq,hx⟩:=hg;obtain⟨its,rv,p,hz⟩:=I.tuple hq;obtain⟨u,hu,ru⟩:=rv.get hx;obtain⟨f0,f1,f2,f3,f4,f5⟩:=hf it (by simp);refine wpAny_pyNext_tuple_item st (show s.heap.IsTuple a its.toArray from p) (x:=u) (by simpa using hu) fun h' aZ sb=>?_;have I1:aD X ae σ H { s with heap:=h' }:=I.turned (t':=s.toks) (fun b o hb e=>(sb.2 b hb).trans e) f0 f1 f3 f4 f5;obtain⟨o,e,c,d⟩:=id aZ;exact⟨u,rfl,Ct (s:={ s with heap:=h' }) e c d (by decide) ⟨x,H,I1,ru,⟨rfl,fun ys hy=>by rw[I.eZ hy hq];exact hx⟩,aZ,fun b hb=>(hf b hb).1⟩⟩
 done:=by
  intro X hP hw hK hc i ae s σ H E I hf st hg;subst hP hw hK;obtain⟨xs,hq,hx⟩:=hg;obtain⟨its,rv,p,hz⟩:=I.tuple hq;obtain⟨f0,f1,f2,f3,f4,f5⟩:=hf it (by simp);have hl:=rv.length;exact wpAny_pyNext_tuple_end (I.ok.hd hc) st (show s.heap.IsTuple a its.toArray from p) (by simp;lia) fun h' eb=>⟨rfl,I.turned (t':=s.toks) (fun b o hb e=>eb b o hb e) f0 f1 f3 f4 f5⟩
 self:=fun _ _ _ _ _ st h=>wpAny_pyIter_tupleiter st h
theorem xD{P:Program}{w:World}{K:PySem.W.Frag}{tg:Expr}(it:Addr)(lo:Int)(n:Nat):qO P w K tg (Fn lo n) [it] it (fun i h=>IsRangeIter h it (lo+(i:Nat)*1) ((n:Int)-(i:Nat)) 1) where
 mem:=by simp
 obj:=fun i h st b hb=>by
  have e:b=it:=by simpa using hb
  subst e;exact⟨_,st,fun v z=>by
   have z':Data.fields _=Data.cell v:=z;cases z'⟩
 keep:=fun i h h' st k=>k it (by simp) _ st
 item:=by
  intro X hP hw hK hc i ae s σ H E I hf st hg;subst hP hw hK;obtain⟨f0,f1,f2,f3,f4,f5⟩:=hf it (by simp);have W:=Walks.range (prog:=X.prog) (w:=X.w) (I.ok.hd hc) it lo 1 n;refine W.item i s _ _ hg st fun v h' tk hv aZ kk=>?_;obtain⟨t,rfl⟩:=hv;have I1:aD X ae σ H { s with heap:=h',toks:=tk }:=I.turned (fun b o hb e=>kk b o (by simpa using hb) e) f0 f1 f3 f4 f5;refine⟨_,rfl,Ct (s:={ s with heap:=h',toks:=tk }) (n:="range_iterator") aZ rfl rfl (by decide) ⟨.int (lo+i),H,I1,⟨t,?_⟩,⟨rfl,rfl⟩,aZ,fun b hb=>(hf b hb).1⟩⟩;rw[Int.mul_one]
 done:=by
  intro X hP hw hK hc i ae s σ H E I hf st hg;subst hP hw hK;obtain⟨f0,f1,f2,f3,f4,f5⟩:=hf it (by simp);exact wpAny_pyNext_range_end (I.ok.hd hc) st (by have:n<=i:=hg;lia) fun h' eb=>⟨rfl,I.turned (t':=s.toks) (fun b o hb e=>eb b o hb e) f0 f1 f3 f4 f5⟩
 self:=fun _ _ _ _ _ st h=>wpAny_pyIter_rangeiter st h
section
variable {X:Cx} {tg:Expr}
def Cu(K:PySem.W.Frag)(tl:TE):TI:=fun σ H R=>tl σ H fun x H1=>∃a,x=.ref a/\(∃xs,aM K H1 a xs)/\R (BY K a) H1
def TL(K:PySem.W.Frag)(tl:TE):TI:=fun σ H R=>tl σ H fun x H1=>∃a,x=.ref a/\(∃xs,bV K H1 a xs)/\R (TK K a) H1
theorem bF{l:Expr}{tl:TE}(hl:PE X l tl):PI X tg l (Cu X.K tl):=by
 intro ae s σ H R I h;refine b_ (hl ae s σ H _ I h) fun v s1 ⟨x,H1,I1,r1,q1⟩=>?_;obtain⟨a,e,⟨xs,hq⟩,q⟩:=q1;subst e;cases r1;obtain⟨its,rv,p,hz⟩:=I1.list hq;refine sY p.isList ?_;refine⟨s1.heap.objs.size,[s1.heap.objs.size],_,_,H1,rfl,I1.kept (t':=s1.toks) fun b o e=>bQ _ e,AK a _,⟨_,cE _ rfl,rfl,rfl⟩,fun b hb=>?_,q⟩;have e:b=s1.heap.objs.size:=by simpa using hb
 subst e;exact I1.vc (aY _) (I1.bB.fresh (aY _))
theorem Cv{l:Expr}{tl:TE}(hl:PE X l tl):PI X tg l (TL X.K tl):=by
 intro ae s σ H R I h;refine b_ (hl ae s σ H _ I h) fun v s1 ⟨x,H1,I1,r1,q1⟩=>?_;obtain⟨a,e,⟨xs,hq⟩,q⟩:=q1;subst e;cases r1;obtain⟨its,rv,p,hz⟩:=I1.tuple hq;refine pC (show s1.heap.IsTuple a its.toArray from p) ?_;refine⟨s1.heap.objs.size,[s1.heap.objs.size],_,_,H1,rfl,I1.kept (t':=s1.toks) fun b o e=>bQ _ e,xC a _,⟨_,cE _ rfl,rfl,rfl⟩,fun b hb=>?_,q⟩;have e:b=s1.heap.objs.size:=by simpa using hb
 subst e;exact I1.vc (aY _) (I1.bB.fresh (aY _))
theorem vd{ae:List (Addr×Obj)}{σ:St}{H:Hp}{s:Shared}{R:It->Hp->Prop}{E:Value->Shared->Prop}{lo hi:Int}{t u v:Tok}{tk:Nat}(I:aD X ae σ H s)(h1:-(2 ^ 62)<=lo)(h2:lo<2 ^ 62)(h3:-(2 ^ 62)<=hi)(h4:hi<2 ^ 62)(q:R (Fn lo (hi-lo).toNat) H):wpAny (model X.prog X.w) X.A (pyIter (.ref s.heap.objs.size)) (XM X ae σ tg R) E { s with heap:=s.heap.push { cls:=.type "range",data:=.fields #[.int lo t,.int hi u,.int 1 v] },toks:=tk }:=by
 refine wpAny_pyIter_range (IsRange.new ..) (small_one h1 h2 h3 h4) ?_;have I1:aD X ae σ H { s with heap:=s.heap.push { cls:=.type "range",data:=.fields #[.int lo t,.int hi u,.int 1 v] },toks:=tk }:=I.kept fun b o e=>bQ _ e;refine⟨(s.heap.push { cls:=.type "range",data:=.fields #[.int lo t,.int hi u,.int 1 v] }).objs.size,[(s.heap.push { cls:=.type "range",data:=.fields #[.int lo t,.int hi u,.int 1 v] }).objs.size],_,_,H,rfl,
  I1.kept (t':=tk) fun b o e=>bQ _ e,xD _ lo (hi-lo).toNat,?_,fun b hb=>?_,q⟩
 .have e1:lo+((0:Nat):Int)*1=lo:=by simp
  have e2:(((hi-lo).toNat:Nat):Int)-((0:Nat):Int)=Builtin.Range.rangeSize lo hi 1:=by rw[rangeSize_one];split <;> lia
  show IsRangeIter _ _ (lo+((0:Nat):Int)*1) ((((hi-lo).toNat:Nat):Int)-((0:Nat):Int)) 1;rw[e1,e2];exact cE _ rfl
 .have e:b=(s.heap.push { cls:=.type "range",data:=.fields #[.int lo t,.int hi u,.int 1 v] }).objs.size:=by simpa using hb
  subst e;exact I1.vc (aY _) (I1.bB.fresh (aY _))
def Ol(ta:TA):TI:=fun σ H R=>ta σ H fun vs H1=>∃j:Int,vs=[.int j]/\-(2 ^ 62)<=j/\j<2 ^ 62/\R (Fn 0 j.toNat) H1
def Om(ta:TA):TI:=fun σ H R=>ta σ H fun vs H1=>∃i j:Int,vs=[.int i,.int j]/\(-(2 ^ 62)<=i/\i<2 ^ 62/\-(2 ^ 62)<=j/\j<2 ^ 62)/\R (Fn i (j-i).toNat) H1
theorem bP{a:Expr}{ta:TA}{p pos:Pos}(hg:Gl X "range")(hm:X.mg "range"=none)(ha:PA X [a] ta)(hs:starEach [a] X.env=[(false,eval a X.env)]:=by rfl):PI X tg (.Call (.Name "range" p) [a] [] pos) (Ol ta):=by
 intro ae s σ H R I h;refine Call_ (gH I hg hm boot_range (o7 (b_ (ha pos ae s σ H _ I h) fun us s1 ⟨vs,H1,I1,r1,q1⟩=>?_) hs rfl));obtain⟨j,e,q1,q2,q⟩:=q1;subst e;cases r1 with
 |cons r rr=>
  cases rr;obtain⟨t,rfl⟩:=r;exact call_range_1 (vd I1 (by lia) (by lia) q1 q2 (by simpa using q))
theorem rp(hg:Gl X "range")(hm:X.mg "range"=none)(ha:PA X [a,b] ta)(hs:starEach [a,b] X.env=[(false,eval a X.env),(false,eval b X.env)]:=by rfl)(lC:starEach [b] X.env=[(false,eval b X.env)]:=by rfl):
  PI X tg (.Call (.Name "range" p) [a,b] [] pos) (Om ta):=by
 intro ae s σ H R I h;refine Call_ (gH I hg hm boot_range (o7 (b_ (ha pos ae s σ H _ I h) fun us s1 ⟨vs,H1,I1,r1,q1⟩=>?_) (by rw[hs,lC]) (by rw[lC];rfl)));obtain⟨i,j,e,⟨q1,q2,q3,q4⟩,q⟩:=q1;subst e;cases r1 with
 |cons r rr=>
  cases rr with
  |cons r' rr=>
   cases rr;obtain⟨t,rfl⟩:=r;obtain⟨t',rfl⟩:=r';exact call_range_2 (vd I1 q1 q2 q3 q4 q)
def TM(wi:TI)(g:TG)(tb:TS):TS:=fun D σ H=>wi σ H fun J H1=>∃W:Nat->Nat->St->Hp->Prop,(∃m,W 0 m σ H1)/\∀i m σ H,W i m σ H->
 (J.stop i H/\D.nx σ H)\/(J.go i H/\∃N:St->Hp->Prop,(∀σ' H',N σ' H'->∃m',m'<m/\W (i+1) m' σ' H')/\∀x H',J.Nl i H x H'->g x σ H' fun σ2 H2=>tb { D with nx:=N,ct:=N,bk:=D.nx } σ2 H2)
def pV(fp:List Addr)(h:Heap):List (Addr×Obj):=fp.filterMap fun b=>(h.get? b).map fun o=>(b,o)
theorem il(hb:b∈fp)(e:h.get? b=some o):(b,o)∈pV fp h:=mv.mpr ⟨b,hb,by rw[e];rfl⟩
theorem AL(hp:p∈pV fp h):p.1∈fp/\h.get? p.1=some p.2:=by
 obtain⟨b,hb,e⟩:=mv.mp hp;cases q:h.get? b with
 |none=>rw[q] at e;cases e
 |some o=>
  rw[q] at e;have e':(b,o)=p:=be e;subst e';exact⟨hb,q⟩
theorem aD.pinned(I:aD X ae σ H s)(hf:∀b∈fp,gf X ae H b)(ho:∀b∈fp,∃o,s.heap.get? b=some o/\∀v,o.data≠.cell v):aD X (ae++pV fp s.heap) σ H s:=
 I.y6 fun p hp=>(cH.mp hp).elim (fun z=>I.pin p (iC _ z)) fun z=>by
  obtain⟨hb,e⟩:=AL z;obtain⟨f0,f1,f2,_⟩:=hf p.1 hb;obtain⟨o,e',d⟩:=ho p.1 hb;rw[e] at e';cases e';exact⟨e,f0,f1,f2,d⟩
theorem aD.lD(I:aD X (ae++pl) σ H s):aD X ae σ H s:=I.y6 fun p hp=>I.pin p (iC _ (gj _ hp))
theorem dA(hp:PassesOwn (model X.prog X.w) X.A X.env X.xe)(hc:X.calm=true)(hi:PI X tg iP wi)(hg:PG X tg g)(hb:xA X body tb)(hs:∀x,foldedSetIterable iP X.env x=pure x:=by intro _;rfl):PS X (.For tg iP body [] pos) (TM wi g tb):=by
 intro ae s σ H D I h;refine wpAny_For (b_ (hi ae s σ H _ I h) fun v s1 h1=>b_ h1 fun RU s2 h2=>?_) hs;obtain⟨it,fp,tn,J,H2,e,I2,T,xE,f2,W,⟨m0,w0⟩,Cs⟩:=h2;subst e;have xF:∀ {H':Hp},(∀b∈fp,H' b=none)->∀b∈fp,gf X ae H' b:=fun hn b hb=>⟨hn b hb,(f2 b hb).2⟩
 refine codeAny_forLoop_any (fun n s'=>∃i σ' H',aD X ae σ' H' s'/\tn i s'.heap/\(∀b∈fp,H' b=none)/\W i n σ' H') ?_ m0 ⟨0,σ,H2,I2,xE,fun b hb=>(f2 b hb).1,w0⟩;rintro n s3 ⟨i,σ3,H3,I3,xG,Ki,w3⟩;rcases Cs i n σ3 H3 w3 with ⟨stop,qn⟩|⟨go,N,hN,step⟩
 .refine km hp (b_ (T.done X rfl rfl rfl hc i ae s3 σ3 H3 X.xe I3 (xF Ki) xG stop) fun r s4 ⟨hr,I4⟩=>?_);subst hr;exact tD ⟨σ3,H3,I4,qn⟩
 .refine km hp (b_ (T.item X rfl rfl rfl hc i ae s3 σ3 H3 X.xe I3 (xF Ki) xG go) fun r s4 ⟨u,hr,h4⟩=>?_);subst hr;refine km hp (b_ h4 fun _ s5 ⟨x,H5,I5,r5,y5,u4,TQ⟩=>?_);have TU:=I5.pinned (xF TQ) (T.obj _ _ u4);refine km hp (b_ (hg _ s5 σ3 H5 x u _ TU r5 (step x H5 y5)) fun _ s6 ⟨σ6,H6,I6,q6⟩=>?_);refine km hp (b_ (hb _ s6 σ6 H6 _ I6 q6) fun f s7 q7=>?_);have again:∀ {σ7:St} {H7:Hp},aD X (ae++pV fp s5.heap) σ7 H7 s7->N σ7 H7->∃m,m<n/\∃i σ' H',aD X ae σ' H' s7/\tn i s7.heap/\(∀b∈fp,H' b=none)/\W i m σ' H':=fun {σ7 H7} I7 n7=>by
   obtain⟨m',hm,w7⟩:=hN σ7 H7 n7;refine⟨m',hm,i+1,σ7,H7,I7.lD,T.keep _ _ _ u4 fun b hb o e=>(I7.pin (b,o) (iC _ (iC _ (il hb e)))).1,fun b hb=>?_,w7⟩;obtain⟨o,e,d⟩:=T.obj _ _ u4 b hb;exact(I7.pin (b,o) (iC _ (iC _ (il hb e)))).2.1
  cases f with
  |next=>obtain⟨σ7,H7,I7,n7⟩:=q7;exact again I7 n7
  |cont=>obtain⟨σ7,H7,I7,n7⟩:=q7;exact again I7 n7
  |brk=>obtain⟨σ7,H7,I7,q7⟩:=q7;exact⟨σ7,H7,I7.lD,q7⟩
  |ret v=>obtain⟨x7,σ7,H7,I7,r7,q7⟩:=q7;exact⟨x7,σ7,H7,I7.lD,r7,q7⟩
end
theorem fW{K:PySem.W.Frag}{a:Addr}{xs:List V}{g:TG}{tb:TS}{D:xz}{σ:St}{H:Hp}(Pv:Nat->St->Hp->Prop)(h0:Pv 0 σ H)(hl:∀i σ H,i<=xs.length->Pv i σ H->aM K H a xs)(hs:∀i x σ H,xs[i]?=some x->Pv i σ H->g x σ H fun σ2 H2=>tb { D with nx:=Pv (i+1),ct:=Pv (i+1),bk:=D.nx } σ2 H2)(hd:∀σ H,Pv xs.length σ H->D.nx σ H):
  ∃W:Nat->Nat->St->Hp->Prop,(∃m,W 0 m σ H)/\∀i m σ H,W i m σ H->
   ((BY K a).stop i H/\D.nx σ H)\/((BY K a).go i H/\∃N:St->Hp->Prop,(∀σ' H',N σ' H'->∃m',m'<m/\W (i+1) m' σ' H')/\∀x H',(BY K a).Nl i H x H'->g x σ H' fun σ2 H2=>tb { D with nx:=N,ct:=N,bk:=D.nx } σ2 H2):=by
 refine⟨fun i m σ H=>m=xs.length-i/\i<=xs.length/\Pv i σ H,⟨xs.length,by simp,cN _,h0⟩,?_⟩;rintro i m σ H ⟨rfl,hi,p⟩;have q:=hl i σ H hi p;by_cases eh:i<xs.length
 .refine .inr ⟨⟨xs,xs[i],q,by simp[eh]⟩,Pv (i+1),fun σ' H' p'=>⟨xs.length-(i+1),by lia,rfl,eh,p'⟩,fun x H' y=>?_⟩;obtain⟨e,y⟩:=y;subst e;exact hs i x σ _ (y xs q) p
 .have e:i=xs.length:=by lia
  subst e;exact .inl ⟨⟨xs,q,aY _⟩,hd σ H p⟩
theorem du{lo:Int}{n:Nat}{g:TG}{tb:TS}{D:xz}{σ:St}{H:Hp}(Pv:Nat->St->Hp->Prop)(h0:Pv 0 σ H)(hs:∀i σ H,i<n->Pv i σ H->g (.int (lo+i)) σ H fun σ2 H2=>tb { D with nx:=Pv (i+1),ct:=Pv (i+1),bk:=D.nx } σ2 H2)(hd:∀σ H,Pv n σ H->D.nx σ H):
  ∃W:Nat->Nat->St->Hp->Prop,(∃m,W 0 m σ H)/\∀i m σ H,W i m σ H->
   ((Fn lo n).stop i H/\D.nx σ H)\/((Fn lo n).go i H/\∃N:St->Hp->Prop,(∀σ' H',N σ' H'->∃m',m'<m/\W (i+1) m' σ' H')/\∀x H',(Fn lo n).Nl i H x H'->g x σ H' fun σ2 H2=>tb { D with nx:=N,ct:=N,bk:=D.nx } σ2 H2):=by
 refine⟨fun i m σ H=>m=n-i/\i<=n/\Pv i σ H,⟨n,by simp,cN _,h0⟩,?_⟩;rintro i m σ H ⟨rfl,hi,p⟩;by_cases eh:i<n
 .refine .inr ⟨eh,Pv (i+1),fun σ' H' p'=>⟨n-(i+1),by lia,rfl,eh,p'⟩,fun x H' y=>?_⟩;obtain⟨e,y⟩:=y;subst e y;exact hs i σ _ eh p
 .have e:i=n:=by lia
  subst e;exact .inl ⟨aY _,hd σ H p⟩
theorem Cw(Pv:St->Hp->Prop)(μ:St->Hp->Nat)(h0:Pv σ H)(hs:∀σ H,Pv σ H->c σ H fun b H1=>if b=true then tb { D with nx:=fun σ' H'=>Pv σ' H'/\μ σ' H'<μ σ H,ct:=fun σ' H'=>Pv σ' H'/\μ σ' H'<μ σ H,bk:=D.nx } σ H1 else D.nx σ H1)(mono:∀σ H Q Q',(∀b H1,Q b H1->Q' b H1)->c σ H Q->c σ H Q'):Cr c tb D σ H:=by
 refine⟨fun m σ H=>m=μ σ H/\Pv σ H,⟨_,rfl,h0⟩,?_⟩;rintro m σ H ⟨rfl,p⟩;refine mono σ H _ _ (fun b H1 q=>?_) (hs σ H p);cases b with
 |true=>exact⟨_,fun σ' H' ⟨p',l⟩=>⟨_,l,rfl,p'⟩,q⟩
 |false=>exact q
abbrev R2:=V->V->Hp->VK->Prop
def jF(X:Cx)(f:Value->Value->Sem Value)(r:R2):Prop:=
 ∀ (ae:List (Addr×Obj)) (s:Shared) (σ:St) (H:Hp) (x y:V) (v u:Value) (Q:VK),aD X ae σ H s->bn x v->bn y u->r x y H Q->
  wpAny (model X.prog X.w) X.A (f v u) (EP X ae σ Q) X.xe s
def TV(X:Cx)(f:Value->Sem Value)(r:V->Hp->VK->Prop):Prop:=
 ∀ (ae:List (Addr×Obj)) (s:Shared) (σ:St) (H:Hp) (x:V) (v:Value) (Q:VK),aD X ae σ H s->bn x v->r x H Q->
  wpAny (model X.prog X.w) X.A (f v) (EP X ae σ Q) X.xe s
def eX(X:Cx)(f:Value)(r:List V->Hp->VK->Prop):Prop:=
 ∀ (ae:List (Addr×Obj)) (s:Shared) (σ:St) (H:Hp) (xs:List V) (us:List Value) (Q:VK),aD X ae σ H s->aP xs us->r xs H Q->
  wpAny (model X.prog X.w) X.A (call f us) (EP X ae σ Q) X.xe s
def im(r:R2)(ta tb:TE):TE:=fun σ H Q=>ta σ H fun x H1=>tb σ H1 fun y H2=>r x y H2 Q
def ZV(r:V->Hp->VK->Prop)(ta:TE):TE:=fun σ H Q=>ta σ H fun x H1=>r x H1 Q
def rI(C:Int->Int->Prop)(g:Int->Int->V):R2:=fun x y H Q=>∃i j,x=.int i/\y=.int j/\C i j/\Q (g i j) H
def BZ(g:Int->Int->V):R2:=fun x y H Q=>∃i j,x=.int i/\y=.int j/\Q (g i j) H
def rU(g:Int->V):V->Hp->VK->Prop:=fun x H Q=>∃i,x=.int i/\Q (g i) H
section
variable {X:Cx} {a b c:Expr} {ta tb tc:TE} {pos:Pos}
theorem Kj(ha:PE X a ta)(hb:PE X b tb){ae:List (Addr×Obj)}{s:Shared}{σ:St}{H:Hp}{R:V->V->Hp->Prop}(I:aD X ae σ H s)(h:ta σ H fun x H1=>tb σ H1 fun y H2=>R x y H2){Q:Value->Shared->Prop}{f:Value->Value->Sem Value}(hf:∀v u s2 x y H2,aD X ae σ H2 s2->bn x v->bn y u->R x y H2->wpAny (model X.prog X.w) X.A (f v u) Q X.xe s2):
  wpAny (model X.prog X.w) X.A (eval a X.env) (fun v s₁=>wpAny (model X.prog X.w) X.A (eval b X.env) (fun u s₂=>wpAny (model X.prog X.w) X.A (f v u) Q X.xe s₂) X.xe s₁) X.xe s:=by
 refine b_ (ha ae s σ H _ I h) fun v s1 ⟨x,H1,I1,r1,q1⟩=>?_;refine b_ (hb ae s1 σ H1 _ I1 q1) fun u s2 ⟨y,H2,I2,r2,q2⟩=>?_;exact hf v u s2 x y H2 I2 r1 r2 q2
theorem bJ{op:Operator}{r:R2}(ho:jF X (binaryOp op) r)(ha:PE X a ta)(hb:PE X b tb):PE X (.BinOp a op b pos) (im r ta tb):=by
 intro ae s σ H Q I h;exact wpAny_BinOp (Kj ha hb I h fun v u s2 x y H2 I2 rx ry q=>ho ae s2 σ H2 x y v u Q I2 rx ry q)
theorem On(ho:TV X (unaryOp op) r)(ha:PE X a ta):PE X (.UnaryOp op a pos) (ZV r ta):=by
 intro ae s σ H Q I h;exact UnaryOp_ (b_ (ha ae s σ H _ I h) fun v s1 ⟨x,H1,I1,r1,q1⟩=>ho ae s1 σ H1 x v Q I1 r1 q1)
theorem RV{f:Value->Value->Sem Value}{C:Int->Int->Prop}{g:Int->Int->Int}(rule:∀ (i j:Int) (t u:Tok) (s:Shared) (Q:Value->Shared->Prop) (E:Value->Shared->Prop),C i j->Q (.int (g i j) s.toks) { s with toks:=s.toks+1 }->wpAny (model X.prog X.w) X.A (f (.int i t) (.int j u)) Q E s):
  jF X f (rI C fun i j=>.int (g i j)):=by
 intro ae s σ H x y v u Q I rx ry h;obtain⟨i,j,rfl,rfl,hc,q⟩:=h;obtain⟨t,rfl⟩:=rx;obtain⟨t',rfl⟩:=ry;exact rule i j t t' s _ _ hc ⟨.int (g i j),H,I.tok _,⟨_,rfl⟩,q⟩
theorem Oo{f:Value->Value->Sem Value}{g:Int->Int->Int}(rule:∀ (i j:Int) (t u:Tok) (s:Shared) (Q:Value->Shared->Prop) (E:Value->Shared->Prop),Q (.int (g i j) s.toks) { s with toks:=s.toks+1 }->wpAny (model X.prog X.w) X.A (f (.int i t) (.int j u)) Q E s):
  jF X f (BZ fun i j=>.int (g i j)):=by
 intro ae s σ H x y v u Q I rx ry h;obtain⟨i,j,rfl,rfl,q⟩:=h;obtain⟨t,rfl⟩:=rx;obtain⟨t',rfl⟩:=ry;exact rule i j t t' s _ _ ⟨.int (g i j),H,I.tok _,⟨_,rfl⟩,q⟩
theorem FH{f:Value->Value->Sem Value}{g:Int->Int->Bool}(rule:∀ (i j:Int) (t u:Tok) (s:Shared) (Q:Value->Shared->Prop) (E:Value->Shared->Prop),Q (.bool (g i j)) s->wpAny (model X.prog X.w) X.A (f (.int i t) (.int j u)) Q E s):
  jF X f (BZ fun i j=>.bl (g i j)):=by
 intro ae s σ H x y v u Q I rx ry h;obtain⟨i,j,rfl,rfl,q⟩:=h;obtain⟨t,rfl⟩:=rx;obtain⟨t',rfl⟩:=ry;exact rule i j t t' s _ _ ⟨.bl (g i j),H,I,rfl,q⟩
def TW(i j:Int):Prop:=0<j/\j<1073741824
def Kk(i j:Int):Prop:=0<=j/\j<=1000000/\i.natAbs<2 ^ 64
def Kl(i j:Int):Prop:=(-(2 ^ 64)<i/\i<2 ^ 64)\/(-(2 ^ 64)<j/\j<2 ^ 64)
theorem Kl.ok(h:Kl i j):IntMulOk i j:=by
 rcases h with ⟨h1,h2⟩|⟨h1,h2⟩
 .exact .of_left (intBits_le_64 h1 h2)
 .exact .of_right (intBits_le_64 h1 h2)
theorem eE:jF X (binaryOp .Add) (BZ fun i j=>.int (i+j)):=Oo fun _ _ _ _ _ _ _ q=>add_int q
theorem mX:jF X (binaryOp .Sub) (BZ fun i j=>.int (i-j)):=Oo fun _ _ _ _ _ _ _ q=>sub_int q
theorem Cy:jF X (binaryOp .Mult) (rI Kl fun i j=>.int (i*j)):=RV fun _ _ _ _ _ _ _ hc q=>mul_int q hc.ok
theorem zc:jF X (binaryOp .FloorDiv) (rI TW fun i j=>.int (i / j)):=RV fun i j _ _ _ _ _ hc q=>by
 have h1:(0:Int)<j:=hc.1;have h2:j<1073741824:=hc.2;exact floordiv_int (by lia) (by rw[Int.fdiv_eq_ediv_of_nonneg i (by lia)];exact q) (.inl (PyProof.noPylong_small (by lia)))
theorem jk:jF X (binaryOp .Mod) (rI (fun _ j=>0<j) fun i j=>.int (i % j)):=RV fun i j _ _ _ _ _ hc q=>by
 have h1:(0:Int)<j:=hc;exact mod_int' (by lia) (by rw[Cc i (by lia)];exact q)
theorem xH:jF X (binaryOp .Pow) (rI Kk fun i j=>.int (i ^ j.toNat)):=RV fun _ _ _ _ _ _ _ hc q=>pow_int_small hc.1 hc.2.1 hc.2.2 q
theorem ZW{f:Value->Sem Value}{g:Int->Int}(rule:∀ (i:Int) (t:Tok) (s:Shared) (Q:Value->Shared->Prop) (E:Value->Shared->Prop),Q (.int (g i) s.toks) { s with toks:=s.toks+1 }->wpAny (model X.prog X.w) X.A (f (.int i t)) Q E s):
  TV X f (rU fun i=>.int (g i)):=by
 intro ae s σ H x v Q I rx h;obtain⟨i,rfl,q⟩:=h;obtain⟨t,rfl⟩:=rx;exact rule i t s _ _ ⟨.int (g i),H,I.tok _,⟨_,rfl⟩,q⟩
theorem Km:TV X (unaryOp .USub) (rU fun i=>.int (-i)):=ZW fun _ _ _ _ _ q=>neg_int q
end
def FI:V->V->Bool
 |.bE,.bE=>true|.bE,.int _=>true|.int _,.bE=>true|.bE,.bl _=>true|.bl _,.bE=>true|.bE,.str _=>true|.str _,.bE=>true
 |.int _,.int _=>true|.bl _,.bl _=>true|.str _,.str _=>true|.BW _,.BW _=>true
 |.int _,.str _=>true|.str _,.int _=>true|.bl _,.str _=>true|.str _,.bl _=>true
 |_,_=>false
def IS:R2:=fun x y H Q=>FI x y=true/\Q (.bl (decide (x=y))) H
def ZX:R2:=fun x y H Q=>FI x y=true/\Q (.bl (!decide (x=y))) H
theorem zd:decide (V.int i=V.int j)=(i==j):=by
 rw[ja];simp
theorem Cz:decide (V.bl i=V.bl j)=(i==j):=by
 rw[ja];simp
theorem ze:decide (V.str i=V.str j)=(i==j):=by
 rw[ja];simp
theorem zf:decide (V.BW i=V.BW j)=(i.toList==j.toList):=by
 rw[ja];cases i;cases j;simp
section
variable {X:Cx} {a b c:Expr} {ta tb tc:TE} {pos:Pos}
theorem bv(I:aD X ae σ H s)(q:Q (.bl k) H)(e:k=k'):EP X ae σ Q (.bool k') s:=by
 subst e;exact⟨.bl k,H,I,rfl,q⟩
theorem jl:jF X (compareOp .Eq) IS:=by
 intro ae s σ H x y v u Q I rx ry h;obtain⟨hs,q⟩:=h;cases x with
 |bE=>
  cases rx;cases y with
  |bE=>cases ry;exact PySem.EqNone.eq_none_none (bv I q (by simp))
  |bl j=>cases ry;exact PySem.EqNone.eq_none_bool (bv I q (by simp))
  |int j=>obtain⟨t',rfl⟩:=ry;exact PySem.EqNone.eq_none_int (bv I q (by simp))
  |str j=>obtain⟨t',rfl⟩:=ry;exact PySem.EqNone.eq_none_str (bv I q (by simp))
  |_=>exact absurd (show false=true from hs) cm
 |bl i=>
  cases rx;cases y with
  |bE=>cases ry;exact PySem.EqNone.eq_bool_none (bv I q (by simp))
  |bl j=>cases ry;exact eq_bool (bv I q Cz)
  |str j=>obtain⟨t',rfl⟩:=ry;exact PySem.EqMixed.eq_bool_str (bv I q (by simp))
  |_=>exact absurd (show false=true from hs) cm
 |int i=>
  obtain⟨t,rfl⟩:=rx;cases y with
  |bE=>cases ry;exact PySem.EqNone.eq_int_none (bv I q (by simp))
  |int j=>obtain⟨t',rfl⟩:=ry;exact eq_int (bv I q zd)
  |str j=>obtain⟨t',rfl⟩:=ry;exact PySem.EqMixed.eq_int_str (bv I q (by simp))
  |_=>exact absurd (show false=true from hs) cm
 |str i=>
  obtain⟨t,rfl⟩:=rx;cases y with
  |bE=>cases ry;exact PySem.EqNone.eq_str_none (bv I q (by simp))
  |bl j=>cases ry;exact PySem.EqMixed.eq_str_bool (bv I q (by simp))
  |int j=>obtain⟨t',rfl⟩:=ry;exact PySem.EqMixed.eq_str_int (bv I q (by simp))
  |str j=>obtain⟨t',rfl⟩:=ry;exact eq_str (bv I q ze)
  |_=>exact absurd (show false=true from hs) cm
 |BW i=>
  obtain⟨t,rfl⟩:=rx;cases y with
  |BW j=>obtain⟨t',rfl⟩:=ry;exact PySem.W.eq_bytes (bv I q zf)
  |_=>exact absurd (show false=true from hs) cm
 |_=>cases y <;> exact absurd (show false=true from hs) cm
theorem ve:jF X (compareOp .NotEq) ZX:=by
 intro ae s σ H x y v u Q I rx ry h;obtain⟨hs,q⟩:=h;cases x with
 |bE=>
  cases rx;cases y with
  |bE=>cases ry;exact PySem.EqNone.ne_none_none (bv I q (by simp))
  |bl j=>cases ry;exact PySem.EqNone.ne_none_bool (bv I q (by simp))
  |int j=>obtain⟨t',rfl⟩:=ry;exact PySem.EqNone.ne_none_int (bv I q (by simp))
  |str j=>obtain⟨t',rfl⟩:=ry;exact PySem.EqNone.ne_none_str (bv I q (by simp))
  |_=>exact absurd (show false=true from hs) cm
 |bl i=>
  cases rx;cases y with
  |bE=>cases ry;exact PySem.EqNone.ne_bool_none (bv I q (by simp))
  |bl j=>cases ry;exact ne_bool (bv I q (congrArg not Cz))
  |str j=>obtain⟨t',rfl⟩:=ry;exact PySem.EqMixed.ne_bool_str (bv I q (by simp))
  |_=>exact absurd (show false=true from hs) cm
 |int i=>
  obtain⟨t,rfl⟩:=rx;cases y with
  |bE=>cases ry;exact PySem.EqNone.ne_int_none (bv I q (by simp))
  |int j=>obtain⟨t',rfl⟩:=ry;exact ne_int (bv I q (congrArg not zd))
  |str j=>obtain⟨t',rfl⟩:=ry;exact PySem.EqMixed.ne_int_str (bv I q (by simp))
  |_=>exact absurd (show false=true from hs) cm
 |str i=>
  obtain⟨t,rfl⟩:=rx;cases y with
  |bE=>cases ry;exact PySem.EqNone.ne_str_none (bv I q (by simp))
  |bl j=>cases ry;exact PySem.EqMixed.ne_str_bool (bv I q (by simp))
  |int j=>obtain⟨t',rfl⟩:=ry;exact PySem.EqMixed.ne_str_int (bv I q (by simp))
  |str j=>obtain⟨t',rfl⟩:=ry;exact ne_str (bv I q (congrArg not ze))
  |_=>exact absurd (show false=true from hs) cm
 |BW i=>
  obtain⟨t,rfl⟩:=rx;cases y with
  |BW j=>obtain⟨t',rfl⟩:=ry;exact PySem.W.ne_bytes (bv I q (congrArg not zf))
  |_=>exact absurd (show false=true from hs) cm
 |_=>cases y <;> exact absurd (show false=true from hs) cm
theorem n0:jF X (compareOp .Lt) (BZ fun i j=>.bl (decide (i<j))):=FH fun _ _ _ _ _ _ _ q=>lt_int q
theorem CA:jF X (compareOp .LtE) (BZ fun i j=>.bl (decide (i<=j))):=FH fun _ _ _ _ _ _ _ q=>le_int q
theorem zg:jF X (compareOp .Gt) (BZ fun i j=>.bl (decide (j<i))):=FH fun _ _ _ _ _ _ _ q=>gt_int q
theorem Op:jF X (compareOp .GtE) (BZ fun i j=>.bl (decide (j<=i))):=FH fun _ _ _ _ _ _ _ q=>ge_int q
theorem xI:jF X (compareOp .Is) (fun x y H Q=>y=.bE/\Q (.bl (decide (x=.bE))) H):=by
 intro ae s σ H x y v u Q I rx ry h;obtain⟨rfl,q⟩:=h;cases ry;refine is_none_gen (bv I q ?_);cases x <;> first
  |(cases rx;rfl)
  |(obtain⟨t,rfl⟩:=rx;rfl)
theorem tP:jF X (compareOp .IsNot) (fun x y H Q=>y=.bE/\Q (.bl (!decide (x=.bE))) H):=by
 intro ae s σ H x y v u Q I rx ry h;obtain⟨rfl,q⟩:=h;cases ry;refine isnot_none_gen (bv I q ?_);cases x <;> first
  |(cases rx;rfl)
  |(obtain⟨t,rfl⟩:=rx;rfl)
theorem aU(b:Expr)(h:op≠.In:=by decide)(h2:op≠.NotIn:=by decide):behindInMarks op b=false:=by
 have e1:(op==CmpOp.In)=false:=by cases op <;> first|rfl|exact absurd rfl h
 have e2:(op==CmpOp.NotIn)=false:=by cases op <;> first|rfl|exact absurd rfl h2
 cases b <;> simp[behindInMarks,e1,e2]
theorem io(ho:jF X (compareOp op) r)(ha:PE X a ta)(hb:PE X b tb)(hm:behindInMarks op b=false):PE X (.Compare a [op] [b] pos) (im r ta tb):=by
 intro ae s σ H Q I h;exact wpAny_Compare1 (Kj ha hb I h fun v u s2 x y H2 I2 rx ry q=>ho ae s2 σ H2 x y v u Q I2 rx ry q) hm
def fD(t:TE):TT:=fun σ H Q=>t σ H fun x H'=>∃k,x=.bl k/\Q k H'
theorem aK(ho:jF X (compareOp op) r)(ha:PE X a ta)(hb:PE X b tb)(hm:behindInMarks op b=false):PT X (.Compare a [op] [b] pos) (fD (im r ta tb)):=by
 intro ae s σ H Q I h;refine wpAny_isTrue_Compare1 (b_ (ha ae s σ H _ I h) fun v s1 ⟨x,H1,I1,r1,q1⟩=>b_ (hb ae s1 σ H1 _ I1 q1) fun u s2 ⟨y,H2,I2,r2,q2⟩=>
  b_ (ho ae s2 σ H2 x y v u _ I2 r1 r2 q2) fun c s3 ⟨z,H3,I3,r3,k,e,q3⟩=>?_) hm
 subst e;cases r3;exact kg ⟨H3,I3,q3⟩
def Kn(r r':R2)(ta tb tc:TE):TE:=fun σ H Q=>ta σ H fun x H1=>tb σ H1 fun y H2=>r x y H2 fun z H3=>∃k,z=.bl k/\
 (if k=true then tc σ H3 fun w' H4=>r' y w' H4 Q else Q (.bl false) H3)
theorem CC(ho:jF X (compareOp op) r)(AJ:jF X (compareOp XN) r')(ha:PE X a ta)(hb:PE X b tb)(hc:PE X c tc)(hm:lastMarks [op,XN] [b,c]=false:=by with_unfolding_all rfl):PE X (.Compare a [op,XN] [b,c] pos) (Kn r r' ta tb tc):=by
 intro ae s σ H Q I h;refine Compare_chain (b_ (ha ae s σ H _ I h) fun v s1 ⟨x,H1,I1,r1,q1⟩=>chain_link (b_ (hb ae s1 σ H1 _ I1 q1) fun u s2 ⟨y,H2,I2,r2,q2⟩=>
  b_ (ho ae s2 σ H2 x y v u _ I2 r1 r2 q2) fun d s3 ⟨z,H3,I3,r3,k,e,q3⟩=>?_)) hm
 subst e;cases r3;refine kg ?_;cases k with
 |false=>exact ite_ff ⟨.bl false,H3,I3,rfl,q3⟩
 |true=>exact ite_tt (chain_last (b_ (hc ae s3 σ H3 _ I3 q3) fun w' s4 ⟨z',H4,I4,r4,q4⟩=>AJ ae s4 σ H4 y z' u w' Q I4 r2 r4 q4))
theorem tQ:(sizeLine:Nat)<2 ^ 63:=by rw[jf];decide
theorem zh(r:aP [x] us):∃u,us=[u]/\bn x u:=by
 cases r with
 |cons r1 r2=>cases r2;exact⟨_,rfl,r1⟩
theorem IT(r:aP [x,y] us):∃u w',us=[u,w']/\bn x u/\bn y w':=by
 cases r with
 |cons r1 r2=>
  cases r2 with
  |cons r3 r4=>cases r4;exact⟨_,_,rfl,r1,r3⟩
theorem CD:eX X (.builtin "abs") (fun xs H Q=>∃i,xs=[.int i]/\Q (.int (if i<0 then -i else i)) H):=by
 intro ae s σ H xs us Q I r h;obtain⟨i,rfl,q⟩:=h;obtain⟨u,rfl,t,rfl⟩:=zh r;exact call_abs_int fun u tk=>⟨.int (if i<0 then -i else i),H,I.tok _,⟨_,rfl⟩,q⟩
theorem rq(hc:X.calm=true):eX X (.builtin "max") (fun xs H Q=>∃i j,xs=[.int i,.int j]/\Q (.int (if j > i then j else i)) H):=by
 intro ae s σ H xs us Q I r h;obtain⟨i,j,rfl,q⟩:=h;obtain⟨u,w',rfl,⟨t,rfl⟩,⟨t',rfl⟩⟩:=IT r;refine max_two_ints (I.ok.hd hc) fun h' tk k=>⟨_,H,I.kept k,?_,q⟩
 by_cases hj:j > i
 .rw[if_pos hj,if_pos hj];exact⟨_,rfl⟩
 .rw[am hj,am hj];exact⟨_,rfl⟩
theorem AM(hc:X.calm=true):eX X (.builtin "min") (fun xs H Q=>∃i j,xs=[.int i,.int j]/\Q (.int (if j<i then j else i)) H):=by
 intro ae s σ H xs us Q I r h;obtain⟨i,j,rfl,q⟩:=h;obtain⟨u,w',rfl,⟨t,rfl⟩,⟨t',rfl⟩⟩:=IT r;refine min_two_ints (I.ok.hd hc) fun h' tk k=>⟨_,H,I.kept k,?_,q⟩
 by_cases hj:j<i
 .rw[if_pos hj,if_pos hj];exact⟨_,rfl⟩
 .rw[am hj,am hj];exact⟨_,rfl⟩
end
structure xJ(h:Heap)(x dx C:Addr)(mA:Str->Option Value):Prop where
 obj:h.get? x=some (PySem.W.instObj C dx)
 ns:h.Ns1 dx mA
 ne:dx≠x
theorem AN{h:Heap}{dx:Addr}{mA:Str->Option Value}(n:h.Ns1 dx mA):∃od,h.get? dx=some od/\∀name,PySem.W.lookIn name od=some (mA name):=by
 obtain⟨o,es,ep,ho,hd,hk,_,hm⟩:=n;refine⟨o,ho,fun name=>?_⟩;have e:=hm name;unfold nsFind findBy at e;rw[<-Array.find?_toList] at e;unfold PySem.W.lookIn;rw[hd];dsimp only;split
 .rename_i y q;rw[q] at e;exact congrArg some e
 .rename_i q;rw[q] at e;have a:es.toList.any (·.refKey)=false:=by
   rw[pA];intro y hy;obtain⟨z,t,qP⟩:=hk y (Array.mem_toList_iff.mp hy);simp[DictEntry.refKey,qP]
  have a':¬ es.toList.any (·.refKey)=true:=by rw[a];exact cm
  rw[am a'];exact congrArg some e
theorem xJ.look(I:xJ h x dx C mA):∃od,PySem.W.InstAt h x (PySem.W.instObj C dx) C (some od)/\∀name,PySem.W.lookIn name od=some (mA name):=
 let ⟨od,ho,hl⟩:=AN I.ns
 ⟨od,⟨I.obj,rfl,rfl,ho⟩,hl⟩
section
variable {prog:Program} {w:World} {A:Around} {E:Value->Shared->Prop} {s:Shared} {K:PySem.W.Frag} {x dx C f:Addr} {mA:Str->Option Value} {name:Str} {v:Value}
theorem FJ(X:K.In s.heap)(I:xJ s.heap x dx C mA)(hg:PySem.W.plainGet K C name=true)(hh:PySem.W.hasDictIn K C=true)(ha:PySem.W.findIn K (.ref C) name=some none)(hv:mA name=some v)(xK:PySem.W.handedIn v=true)(h:Q v { s with toks:=s.toks+1 }):
  wpAny (model prog w) A (getAttr (.ref x) name FK) Q E s:=by
 obtain⟨od,J,hl⟩:=I.look;exact PySem.W.get_value X J (w5 hg).1 (PySem.W.findObj_own hh ha rfl (by rw[hl,hv])) xK h
theorem CF(X:K.In s.heap)(I:xJ s.heap x dx C mA)(hg:PySem.W.plainGet K C name=true)(hf:PySem.W.findIn K (.ref C) name=some (some (.ref f)))(ht:PySem.W.isFn K (.ref f)=true)(hv:mA name=none)(h:Q (.ref f,[.ref x]) s):
  wpAny (model prog w) A (getMethod (.ref x) name pl) Q E s:=by
 obtain⟨od,J,hl⟩:=I.look;exact PySem.W.method_fn X J (w5 hg).1 (w5 hg).2 hf (eC.mp ht) (by show (PySem.W.lookIn name od).map (·.isSome)=some false;rw[hl,hv];rfl) h
theorem FL(X:K.In s.heap)(I:xJ s.heap x dx C mA)(hs:PySem.W.findIn K (.ref C) "__setattr__"=some (some (.builtin "object.__setattr__")))(hp:PySem.W.plainOver K C=true)(ht:PySem.W.takerIn K C name=some none)(hh:PySem.W.hasDictIn K C=true)(hw:PySem.Within mA ns)(hsz:ns.length<=sizeLine)(h:∀h',xJ h' x dx C (fun y=>if y=name then some v else mA y)->Heap.SameBut dx s.heap h'->Q () { s with heap:=h',toks:=s.toks+2 }):
  wpAny (model prog w) A (setAttr (.ref x) name v) Q E s:=by
 obtain⟨od,J,hl⟩:=I.look;refine PySem.W.set_plain X J hs (PySem.W.osa_open (s:={ s with toks:=s.toks+1 }) (r:=none) X J hp ht fun b=>?_);obtain⟨cd,hc,J9⟩:=PySem.W.any_some hh;have hx:s.heap.get? x=some ⟨.ref C,some dx,.plain,#[]⟩:=I.obj;refine au (wpAny_pure (au (au (wpAny_loadPart hx (au (PySem.W.Looks.here (s:={ s with toks:=s.toks+1 }) (PySem.W.looks_clsIn X hc) ?_))))));rw[J9];refine wpAny_pure (a:=some dx) (au (wpAny_pure (au ?_)));refine wpAny_nsSet1 (s:={ s with toks:=s.toks+1 }) I.ns fun h' RW lC=>?_;obtain⟨oD,esD,epD,ZY,Oq,FM⟩:=RW.count (PySem.Within.cons name v hw);refine au (wpAny_lookBehind ZY (by rw[Oq];exact pastItsLine_dict (bj FM (by rw[dG];lia))) ?_);exact wpAny_pure (h _ ⟨(lC.2 _ (gG I.ne)).trans I.obj,RW,I.ne⟩ lC)
theorem CG(X:K.In s.heap)(hm:PySem.W.makesIn K C=true)(hi:PySem.W.findIn K (.ref C) "__init__"=some (some (.ref f)))(hf:PySem.W.typeIn K (.ref f)=some (.type "function"))(h:codeAny (model prog w) (A.under (.builtin "type.__call__" ⟨.ref C::vs,kw⟩)) (.call (.ref f) ⟨.ref (s.heap.objs.size+1)::vs,kw⟩) (PySem.W.InitBack (s.heap.objs.size+1) R)
   { s with heap:=(s.heap.push PySem.W.emptyDict).push (PySem.W.instObj C s.heap.objs.size) }):
  codeAny (model prog w) A (.call (.ref C) ⟨vs,kw⟩) R s:=by
 obtain⟨hh,g,d,t,os⟩:=s;exact PySem.W.make_core (xk X hm) (PySem.W.looks_findIn X hi) (fun self=>PySem.W.bind_fn X self hf) (.inl rfl) h
theorem AO(X:K.In s.heap)(hm:PySem.W.makesIn K C=true)(hi:PySem.W.findIn K (.ref C) "__init__"=some (some (.builtin "object.__init__")))(hb:∀self,PySem.W.Looks (model prog w) s.heap (bindSpecial (.builtin "object.__init__") self) (.builtin "object.__init__",[self]))(h:codeAny (model prog w) (A.under (.builtin "type.__call__" ⟨[.ref C],[]⟩)) (.call (.builtin "object.__init__") ⟨[.ref (s.heap.objs.size+1)],[]⟩) (PySem.W.InitBack (s.heap.objs.size+1) R)
   { s with heap:=(s.heap.push PySem.W.emptyDict).push (PySem.W.instObj C s.heap.objs.size) }):
  codeAny (model prog w) A (.call (.ref C) ⟨[],[]⟩) R s:=by
 obtain⟨hh,g,d,t,os⟩:=s;exact PySem.W.make_core (xk X hm) (PySem.W.looks_findIn X hi) hb (.inr ⟨rfl,rfl⟩) h
end
def de(f:Str)(v:V):List (Str×V)->List (Str×V)
 |[]=>[(f,v)]
 |(g,x)::r=>if g=f then (g,v)::r else (g,x)::de f v r
theorem bo(f g:Str)(v:V):∀fs:List (Str×V),(de f v fs).lookup g=if g=f then some v else fs.lookup g
 |[]=>by
  show List.lookup g [(f,v)]=_;by_cases h:g=f
  .have hb:(g==f)=true:=eC.mpr h;simp only[List.lookup,hb,if_pos h]
  .have hb:(g==f)=false:=j8.mpr h;simp only[List.lookup,hb,am h]
 |(k,x)::r=>by
  have ih:=bo f g v r;rw[show de f v ((k,x)::r)=(if k=f then (k,v)::r else (k,x)::de f v r) from rfl];by_cases hk:k=f
  .rw[if_pos hk];by_cases h:g=k
   .have hb:(g==k)=true:=eC.mpr h;simp only[List.lookup,hb,if_pos (h.trans hk)]
   .have hb:(g==k)=false:=j8.mpr h;simp only[List.lookup,hb,am (fun e:g=f=>h (e.trans hk.symm))]
  .rw[am hk];by_cases h:g=k
   .have hb:(g==k)=true:=eC.mpr h;simp only[List.lookup,hb,am (fun e:g=f=>hk (h.symm.trans e))]
   .have hb:(g==k)=false:=j8.mpr h;simp only[List.lookup,hb];exact ih
theorem mY(f:Str)(v:V):∀fs:List (Str×V),f∈(de f v fs).map (·.1)/\∀g,g∈fs.map (·.1)->g∈(de f v fs).map (·.1)
 |[]=>⟨by simp[de],fun g h=>by simp at h⟩
 |(k,x)::r=>by
  obtain⟨i1,i2⟩:=mY f v r;rw[show de f v ((k,x)::r)=(if k=f then (k,v)::r else (k,x)::de f v r) from rfl];by_cases hk:k=f
  .rw[if_pos hk];subst hk;exact⟨by simp,fun g h=>by simpa using h⟩
  .rw[am hk];refine⟨?_,fun g h=>?_⟩
   .rw[dS];exact bZ _ i1
   .rw[dS] at h |-;rcases aV.mp h with e|e
    .exact aV.mpr (.inl e)
    .exact bZ _ (i2 g e)
theorem dJ(f:Str)(v:V):∀fs:List (Str×V),(de f v fs).length<=fs.length+1
 |[]=>by simp[de]
 |(k,x)::r=>by
  have ih:=dJ f v r;rw[show de f v ((k,x)::r)=(if k=f then (k,v)::r else (k,x)::de f v r) from rfl];by_cases hk:k=f
  .rw[if_pos hk,dG,dG];lia
  .rw[am hk,dG,dG];lia
theorem jQ.some_of(r:jQ (some v) o):∃u,o=some u/\bn v u:=by
 cases o with
 |none=>exact(show False from r).elim
 |some u=>exact⟨u,rfl,r⟩
theorem jQ.none_of(r:jQ none o):o=none:=by
 cases o with
 |none=>rfl
 |some u=>exact(show False from r).elim
theorem AQ(r:bn v u):PySem.W.handedIn u=true:=by
 cases v with
 |bE=>cases (show u=Value.none from r);rfl
 |bl b=>cases (show u=Value.bool b from r);rfl
 |int i=>obtain⟨t,e⟩:=(show ∃t,u=Value.int i t from r);cases e;rfl
 |str x=>obtain⟨t,e⟩:=(show ∃t,u=Value.str x t from r);cases e;rfl
 |BW b=>obtain⟨t,e⟩:=(show ∃t,u=Value.bytes b t from r);cases e;rfl
 |J6 b=>obtain⟨t,e⟩:=(show ∃t,u=Value.float b t from r);cases e;rfl
 |ref a=>cases (show u=Value.ref a from r);rfl
 |ty n=>cases (show u=Value.type n from r);rfl
section
variable {P:Program} {w:World} {H H':Hp} {h h':Heap} {a C dx:Addr} {fs ZS:List (Str×V)}
theorem oM(bB:iO P w H h)(e:H a=some (.ins C dx fs)):∃mA,xJ h a dx C mA/\(∀f,jQ (fs.lookup f) (mA f))/\PySem.Within mA (fs.map (·.1))/\fs.length<=1000/\H dx=some (.own a):=by
 obtain⟨d,z,ne,ob,mA,n,r,q⟩:=(show bX P w H h a (.ins C dx fs) from bB a _ e)
 exact⟨mA,⟨ob,n,ne⟩,r,q,z,d⟩
end
structure B0(K:PySem.W.Frag)(C:Addr):Prop where
 pg:PySem.W.plainGet K C Str.empty=true
 hd:PySem.W.hasDictIn K C=true
 po:PySem.W.plainOver K C=true
 sa:PySem.W.findIn K (.ref C) "__setattr__"=some (some (.builtin "object.__setattr__"))
theorem B0.get{K:PySem.W.Frag}{C:Addr}(c:B0 K C)(f:Str):PySem.W.plainGet K C f=true:=c.pg
def gJ(K:PySem.W.Frag)(C:Addr)(f:Str):Prop:=PySem.W.findIn K (.ref C) f=some none
theorem gJ.Os{K:PySem.W.Frag}{C:Addr}{f:Str}(n:gJ K C f):PySem.W.takerIn K C f=some none:=by
 unfold PySem.W.takerIn;rw[show PySem.W.findIn K (.ref C) f=some none from n];rfl
structure FN(K:PySem.W.Frag)(C:Addr)(m:Str)(f:Addr):Prop where
 at_:PySem.W.findIn K (.ref C) m=some (some (.ref f))
 fn:PySem.W.isFn K (.ref f)=true
 kp:PySem.W.keepIn K (.ref f)=true
section
variable {X:Cx} {ae:List (Addr×Obj)} {σ:St} {H:Hp} {s:Shared} {a C dx:Addr} {fs:List (Str×V)} {f:Str} {v:V} {A:Around} {E:Value->Shared->Prop}
theorem xL(I:aD X ae σ H s)(e:H a=some (.ins C dx fs))(c:B0 X.K C)(n:gJ X.K C f)(l:fs.lookup f=some v)(h:∀u s',aD X ae σ H s'->bn v u->Q u s'):wpAny (model X.prog X.w) A (getAttr (.ref a) f b) Q E s:=by
 obtain⟨mA,O,r,_,_,_⟩:=oM I.bB e;obtain⟨u,hu,ru⟩:=jQ.some_of (v:=v) (o:=mA f) (by rw[<-l];exact r f);exact FJ I.jW O (c.get f) c.hd n hu (AQ ru) (h u _ (I.tok _) ru)
theorem pW(I:aD X ae σ H s)(e:H a=some (.ins C dx fs))(c:B0 X.K C)(k:FN X.K C m g)(l:fs.lookup m=none)(h:Q (.ref g,[.ref a]) s):wpAny (model X.prog X.w) A (getMethod (.ref a) m pl) Q E s:=by
 obtain⟨mA,O,r,_,_,_⟩:=oM I.bB e;have hn:mA m=none:=jQ.none_of (by rw[<-l];exact r m);exact CF I.jW O (c.get m) k.at_ k.fn hn h
theorem xM(I:aD X ae σ H s)(e:H a=some (.ins C dx fs))(c:B0 X.K C)(n:gJ X.K C f)(hl:fs.length<1000)(ry:bn y u)(h:∀s',aD X ae σ (upd H a (.ins C dx (de f y fs))) s'->Q () s'):wpAny (model X.prog X.w) A (setAttr (.ref a) f u) Q E s:=by
 obtain⟨mA,O,r,wi,_,ho⟩:=oM I.bB e;have hz:(fs.map (·.1)).length<=sizeLine:=by rw[aJ,jf];lia
 refine FL I.jW O c.sa c.po n.Os c.hd wi hz fun h' O' sb=>h _ ?_;have hd:∃o,h'.get? dx=some o:=let ⟨o,_,_,e',_⟩:=O'.ns;⟨o,e'⟩;refine I.write (x:=a) (e:=dx) (by rw[e];exact True.intro) (.inr ho) (fun b q hb z=>(sb.2 b hb).trans z) hd ?_;refine⟨by rw[ak O.ne];exact ho,?_,O.ne,O'.obj,_,O'.ns,fun g=>?_,fun g hg=>?_⟩
 .have:=dJ f y fs;lia
 .show jQ ((de f y fs).lookup g) (if g=f then some u else mA g);rw[bo];by_cases q:g=f
  .rw[if_pos q,if_pos q];exact ry
  .rw[am q,am q];exact r g
 .by_cases q:g=f
  .rw[q];exact(mY f y fs).1
  .refine(mY f y fs).2 g (wi g fun z=>hg ?_);show (if g=f then some u else mA g)=none;rw[am q];exact z
theorem aD.made(I:aD X ae σ H s):aD X ae σ (upd (upd H s.heap.objs.size (.own (s.heap.objs.size+1))) (s.heap.objs.size+1) (.ins C s.heap.objs.size []))
  { s with heap:=(s.heap.push PySem.W.emptyDict).push (PySem.W.instObj C s.heap.objs.size) }:=by
 have e1:(s.heap.push PySem.W.emptyDict).get? s.heap.objs.size=some PySem.W.emptyDict:=cE s.heap rfl;have e2:((s.heap.push PySem.W.emptyDict).push (PySem.W.instObj C s.heap.objs.size)).get? (s.heap.objs.size+1)=some (PySem.W.instObj C s.heap.objs.size):=by
  have:=cE (s.heap.push PySem.W.emptyDict) (o:=PySem.W.instObj C s.heap.objs.size) rfl;rwa [iG] at this
 have e3:(s.heap.push PySem.W.emptyDict).Ns s.heap.objs.size (fun _=>none):=⟨PySem.W.emptyDict,#[],_,e1,rfl,(fun e he=>absurd he (by simp)),fun _=>rfl⟩
 have I1:=I.laid (a:=s.heap.objs.size) (o:=.own (s.heap.objs.size+1)) (h':=s.heap.push PySem.W.emptyDict) (t':=s.toks) (fun b u q=>bQ _ q) (aY _) ⟨_,e1⟩;refine I1.laid (a:=s.heap.objs.size+1) (o:=.ins C s.heap.objs.size []) (t':=s.toks) (fun b u q=>bQ _ q) (pM (iG _ _)) ?_;have ne:s.heap.objs.size≠s.heap.objs.size+1:=a8 (i6 _);refine⟨by rw[ak ne,af],cN _,ne,e2,fun _=>none,(Heap.Ns1.of_empty e3).at fun o q=>bQ _ q,fun _=>True.intro,fun y hy=>absurd rfl hy⟩
theorem FO(hb:attributeBase e f env (eval e env)=eval e env)(h:wpAny (model prog w) A (eval e env) (fun o s₁=>wpAny (model prog w) A (getAttr o f true) Q E s₁) E s):wpAny (model prog w) A (eval (.Attribute e f pos) env) Q E s:=
 Attribute_any_ h (by rw[arm_eval_Attribute,hb])
end
def Ko(K:PySem.W.Frag)(ta:TE)(f:Str):TE:=fun σ H Q=>ta σ H fun x H1=>∃a C dx fs v,x=.ref a/\H1 a=some (.ins C dx fs)/\B0 K C/\gJ K C f/\fs.lookup f=some v/\Q v H1
def TX(K:PySem.W.Frag)(ta tv:TE)(f:Str):TS:=fun D σ H=>tv σ H fun y H1=>ta σ H1 fun x H2=>∃a C dx fs,x=.ref a/\H2 a=some (.ins C dx fs)/\B0 K C/\gJ K C f/\fs.length<1000/\
 D.nx σ (upd H2 a (.ins C dx (de f y fs)))
section
variable {X:Cx} {o e value:Expr} {f:Str} {pos vb xN:Pos} {ta tv:TE}
theorem jm(he:PE X e ta)(hb:attributeBase e f X.env (eval e X.env)=eval e X.env):PE X (.Attribute e f pos) (Ko X.K ta f):=by
 intro ae s σ H Q I h;refine FO hb (b_ (he ae s σ H _ I h) fun u s1 ⟨x,H1,I1,rx,a,C,dx,fs,v,ex,ea,c,n,l,q⟩=>?_);subst ex;obtain rfl:u=Value.ref a:=rx;exact xL I1 ea c n l fun u' s2 I2 ru=>⟨v,H1,I2,ru,q⟩
theorem tR(ha:PE X o ta)(hv:PE X value tv)(hs:swapsWith value (some (.Attribute o f vb)) pos.line X.env=pure false):PS X (.Assign [.Attribute o f vb] value pos) (TX X.K ta tv f):=by
 intro ae s σ H D I h;refine plainObj_wpAny_Assign_Attribute (b_ (hv ae s σ H _ I h) fun u s1 ⟨y,H1,I1,ry,q⟩=>b_ (ha ae s1 σ H1 _ I1 q) fun ov s2 ⟨x,H2,I2,rx,a,C,dx,fs,ex,ea,c,n,l,q2⟩=>?_) hs;subst ex;obtain rfl:ov=Value.ref a:=rx;exact xM I2 ea c n l ry fun s3 I3=>⟨σ,_,I3,q2⟩
end
section
variable {X:Cx} {ae:List (Addr×Obj)} {σ:St} {H:Hp} {s:Shared} {A:Around} {E:Value->Shared->Prop} {Q:Value->Shared->Prop} {c:Value} {b:Bool}
inductive mZ (K:PySem.W.Frag) (H:Hp):V->Value->Prop where
 |bE:mZ K H .bE (.type "NoneType")
 |bl (x:Bool):mZ K H (.bl x) (.type "bool")
 |int (i:Int):mZ K H (.int i) (.type "int")
 |str (x:Str):mZ K H (.str x) (.type "str")
 |J6 (x:UInt64):mZ K H (.J6 x) (.type "float")
 |lst {a:Addr} {xs:List V} (e:H a=some (.lst xs)):mZ K H (.ref a) (.type "list")
 |uZ {a:Addr} {o:Obj} {xs:List V} (e:H a=some (.uZ o (.lst xs))):mZ K H (.ref a) (.type "list")
 |tup {a:Addr} {xs:List V} (e:H a=some (.tup xs)):mZ K H (.ref a) (.type "tuple")
 |dK {a:Addr} {bb:List (fA×V)} (e:H a=some (.dK bb)):mZ K H (.ref a) (.type "dict")
 |dT {a:Addr} {bb:List (List fA×V)} (e:H a=some (.dT bb)):mZ K H (.ref a) (.type "dict")
 |ins {a C dx:Addr} {fs:List (Str×V)} (e:H a=some (.ins C dx fs)) (cl:B0 K C) (ha:PySem.W.findIn K (.ref C) "__class__"=some (some (.builtin "object.__class__")))
   (hn:PySem.W.specialIn K (.builtin "object.__class__") "__get__"=some (some (.builtin "getset_descriptor.__get__"))) (Ot:PySem.W.takesIn K (.builtin "object.__class__")=some true)
   (hm:PySem.W.mroIn K C (.type "object")=some true):mZ K H (.ref a) (.ref C)
theorem rA(I:aD X ae σ H s)(rx:bn x u)(ty:mZ X.K H x t)(e:PySem.W.kitOne X.K t c=some b)(h:∀tk,Q (.bool b) { s with toks:=tk }):
  wpAny (model X.prog X.w) A (call (.builtin "isinstance") [u,c]) Q E s:=by
 cases ty with
 |bE=>cases (show u=Value.none from rx);exact gY PySem.W.kitx_none I.jW True.intro e (fun z=>nomatch z) h
 |bl y=>cases (show u=Value.bool y from rx);exact gY PySem.W.kitx_bool I.jW True.intro e (fun z=>nomatch z) h
 |int i=>obtain⟨t,q⟩:=(show ∃t,u=Value.int i t from rx);cases q;exact gY PySem.W.kitx_int I.jW True.intro e (fun z=>nomatch z) h
 |str y=>obtain⟨t,q⟩:=(show ∃t,u=Value.str y t from rx);cases q;exact gY PySem.W.kitx_str I.jW True.intro e (fun z=>nomatch z) h
 |J6 y=>obtain⟨t,q⟩:=(show ∃t,u=Value.float y t from rx);cases q;exact gY PySem.W.kitx_float I.jW True.intro e (fun z=>nomatch z) h
 |@lst a xs ea=>
  cases (show u=Value.ref a from rx);obtain⟨_,_,n,_,h1⟩:=(show bX X.prog X.w H s.heap a (.lst xs) from I.bB a _ ea)
  exact gY PySem.W.kitx_list I.jW ⟨_,h1,rfl⟩ e (fun z=>nomatch z) h
 |@uZ a ob xs ea=>
  cases (show u=Value.ref a from rx);obtain⟨_,_,_,n,_,h1⟩:=(show bX X.prog X.w H s.heap a (.uZ ob (.lst xs)) from I.bB a _ ea)
  exact gY PySem.W.kitx_list I.jW ⟨_,h1,rfl⟩ e (fun z=>nomatch z) h
 |@tup a xs ea=>
  cases (show u=Value.ref a from rx);obtain⟨_,_,_,p⟩:=(show bX X.prog X.w H s.heap a (.tup xs) from I.bB a _ ea)
  obtain⟨o,h1,h2,_⟩:=p;exact gY PySem.W.kitx_tuple I.jW ⟨o,h1,h2⟩ e (fun z=>nomatch z) h
 |@dK a bb ea=>
  cases (show u=Value.ref a from rx);obtain⟨_,_,vs,_,p⟩:=(show bX X.prog X.w H s.heap a (.dK bb) from I.bB a _ ea)
  obtain⟨o,es,ep,h1,h2,_⟩:=p;exact gY PySem.W.kitx_dict I.jW ⟨o,h1,h2.1⟩ e (fun z=>nomatch z) h
 |@dT a bb ea=>
  cases (show u=Value.ref a from rx);obtain⟨_,_,xs,_,o,es,ep,h1,h2,_⟩:=(show bX X.prog X.w H s.heap a (.dT bb) from I.bB a _ ea)
  exact gY PySem.W.kitx_dict I.jW ⟨o,h1,h2.1⟩ e (fun z=>nomatch z) h
 |@ins a C dx fs ea cl ha hn Ot hm=>
  cases (show u=Value.ref a from rx);obtain⟨mA,O,_⟩:=oM I.bB ea;obtain⟨od,J,_⟩:=O.look;exact gY (PySem.W.kitx_own (cl.get _) cl.hd ha hn Ot hm) I.jW J e (fun z=>nomatch z) h
end
structure b9(k:Nat)(A:Around):Prop where
 hd:A.handled=none
 dp:A.depth+3*k+5<recursionLimit
 un:A.units+16*k+200<cLine
 gd:A.guards=some []
theorem b9.mono(r:b9 k A)(h:j<=k):b9 j A:=⟨r.hd,by have:=r.dp;lia,by have:=r.un;lia,r.gd⟩
theorem b9.deeper(r:b9 (k+1) A)(env:Env):b9 k (A.deeper env):=
 ⟨r.hd,by have:=r.dp;show A.depth+1+3*k+5<_;lia,by have:=r.un;show A.units+3+16*k+200<_;lia,r.gd⟩
theorem xO{A:Around}{C:Addr}{us:List Value}{kw:List (Str×Value)}:(A.under (.builtin "type.__call__" ⟨.ref C::us,kw⟩)).depth=A.depth+1:=by
 first|rfl|simp[Around.under,Code.weight,Code.isCreation,Code.isGuard,Code.isCaller,Code.frames,Code.isFrame,guardIds]
theorem xP{A:Around}{C:Addr}{us:List Value}{kw:List (Str×Value)}:(A.under (.builtin "type.__call__" ⟨.ref C::us,kw⟩)).units=A.units+1:=by
 first|rfl|simp[Around.under,Code.cUnits,Code.frames,Code.isFrame]
theorem b9.make(r:b9 (k+1) A)(C:Addr)(us:List Value)(kw:List (Str×Value)):b9 k (A.under (.builtin "type.__call__" ⟨.ref C::us,kw⟩)):=
 ⟨r.hd,by have:=r.dp;rw[xO];lia,by have:=r.un;rw[xP];lia,r.gd⟩
theorem b9.depth(r:b9 k A):A.depth<recursionLimit:=by have:=r.dp;lia
theorem b9.u(r:b9 k A)(h:n<=200:=by decide):A.units+n<cLine:=by have:=r.un;lia
def jn:TA:=fun _ H Q=>Q [] H
def cP(ta:TE)(tr:TA):TA:=fun σ H Q=>ta σ H fun x H1=>tr σ H1 fun xs H2=>Q (x::xs) H2
section
variable {X:Cx} {e:Expr} {es:List Expr} {te:TE} {t:TA} {pos:Pos}
theorem ag:PA X [] jn:=fun _ _ _ _ H Q I h=>Calls.spliced_nil ⟨[],H,I,.nil,h⟩
theorem aa(ha:PE X e te)(hr:PA X es t)(hs:starEach (e::es) X.env=(false,eval e X.env)::starEach es X.env:=by rfl):PA X (e::es) (cP te t):=by
 intro pos ae s σ H Q I h;rw[hs];show wpAny _ _ (spliced ((false,eval e X.env)::backTo pos (starEach es X.env))) _ _ s;refine Calls.spliced_cons (b_ (ha ae s σ H _ I h) fun u s1 ⟨x,H1,I1,r1,q1⟩=>?_);exact b_ (hr pos ae s1 σ H1 _ I1 q1) fun us s2 ⟨xs,H2,I2,r2,q2⟩=>⟨x::xs,H2,I2,.cons r1 r2,q2⟩
def AR(t:TA):TE:=fun σ H Q=>t σ H fun xs H1=>xs.length<=sizeLine/\∀p,H1 p=none->Q (.ref p) (upd H1 p (.tup xs))
def TY(t:TA):TE:=fun σ H Q=>t σ H fun xs H1=>xs.length<=sizeLine/\∀p,H1 p=none->Q (.ref p) (upd H1 p (.lst xs))
theorem fX{x1}(h:PA X es t):PE X (.Tuple es x1 pos) (AR t):=by
 intro ae s σ H Q I hq;refine wpAny_Tuple_spliced (b_ (h pos ae s σ H _ I hq) fun us s1 ⟨xs,H1,I1,r,z,q⟩=>⟨by rw[<-r.length];exact z,?_⟩);have hf:H1 s1.heap.objs.size=none:=I1.bB.fresh (aY _);refine⟨.ref s1.heap.objs.size,upd H1 s1.heap.objs.size (.tup xs),I1.laid (t':=s1.toks) (fun b u e=>bQ _ e) (aY _) ?_,rfl,q _ hf⟩;exact⟨z,us,r,⟨_,cE _ rfl,rfl,_,rfl,rfl⟩⟩
theorem cz(h:PA X es t):PE X (.List es pos) (TY t):=by
 intro ae s σ H Q I hq;refine wpAny_List_spliced (b_ (h pos ae s σ H _ I hq) fun us s1 ⟨xs,H1,I1,r,z,q⟩=>⟨by rw[<-r.length];exact z,?_⟩);have hf:H1 s1.heap.objs.size=none:=I1.bB.fresh (aY _);refine⟨.ref s1.heap.objs.size,upd H1 s1.heap.objs.size (.lst xs),I1.laid (t':=s1.toks) (fun b u e=>bQ _ e) (aY _) ?_,rfl,q _ hf⟩;exact⟨z,us,0,r,cE _ rfl⟩
end
abbrev Sp:=List V->Hp->VK->XK->Prop
abbrev wF:=List Env->Hp->Shared->XK->Value->Shared->Prop
structure vf(P:Program)(w:World)(K:PySem.W.Frag)(mg:Str->Option Value)(base:Heap)(A:Around)(outer:List Env)(s:Shared)(H:Hp):Prop where
 frames:A.frames=some outer
 mod:Mod K mg base
 bs:∀b o,base.get? b=some o->s.heap.get? b=some o/\H b=none
 BX:base.objs.size<=s.heap.objs.size
 mT:s.heap.FunFrames base outer
 J8:∀b∈AI outer,H b=none
 bB:iO P w H s.heap
 bare:AllBare s.gens
def CE(outer:List Env)(P:Program)(w:World)(H:Hp)(s:Shared)(Q:VK)(u:Value)(s':Shared):Prop:=
 ∃v H',s'.os=s.os/\AllBare s'.gens/\Un (AI outer) [] H H' s.heap s'.heap/\iO P w H' s'.heap/\bn v u/\Q v H'
def CR(CX:wF)(outer:List Env)(P:Program)(w:World)(H:Hp)(s:Shared)(Q:VK)(E:XK)(r:Result)(s':Shared):Prop:=
 match r with
 |.ok (.ret u)=>CE outer P w H s Q u s'
 |.ok _=>False
 |.error e=>CX outer H s E e s'
structure bz(P:Program)(w:World)(K:PySem.W.Frag)(mg:Str->Option Value)(base:Heap)(CX:wF)(k:Nat)(f:Addr)(fd:FuncData)(ps:List Str)(sp:Sp):Prop where
 len:∀vs H Q E,sp vs H Q E->vs.length=ps.length
 run:∀ (A:Around) (outer:List Env) (s:Shared) (H:Hp) (args:Args) (us:List Value) (vs:List V) (Q:VK) (E:XK),b9 k A->vf P w K mg base A outer s H->BindsTo s fd args (ps.zip us)->aP vs us->sp vs H Q E->
  codeAny (model P w) A (.call (.ref f) args) (CR CX outer P w H s Q E) s
theorem vf.make{P:Program}{w:World}{K:PySem.W.Frag}{mg:Str->Option Value}{base:Heap}{A:Around}{outer:List Env}{s:Shared}{H:Hp}(e:vf P w K mg base A outer s H)(C:Addr)(us:List Value)(kw:List (Str×Value)):
  vf P w K mg base (A.under (.builtin "type.__call__" ⟨.ref C::us,kw⟩)) outer s H:=⟨by first|exact e.frames|(simpa [Around.under,Code.envs,Code.isFrame,pushEnvs] using e.frames),e.mod,e.bs,e.BX,e.mT,e.J8,e.bB,e.bare⟩
section
variable {X:Cx} {ae:List (Addr×Obj)} {σ:St} {H:Hp} {s s':Shared}
theorem aD.Kp(I:aD X ae σ H s):vf X.prog X.w X.K X.mg X.base X.A X.stack s H:=
 ⟨I.ok.frames,I.ok.mod,I.bs,bj I.ok.BX I.sz,I.stack,I.oJ,I.bB,I.bare⟩
theorem aD.after(I:aD X ae σ H s)(h:CE X.stack X.prog X.w H s Q u s'):EP X ae σ Q u s':=by
 obtain⟨v,H',os,bare,un,bB,r,q⟩:=h;obtain⟨hh,g,d,t,XO⟩:=s';obtain rfl:XO=s.os:=os;exact⟨v,H',I.call (h':=hh) (g':=g) (d':=d) (t':=t) (ch:=[]) un bB bare (fun b z=>absurd z (by simp)),r,q⟩
end
def pX(sp:Sp)(pY:List V)(E:XK)(t:TA):TE:=fun σ H Q=>t σ H fun vs H1=>sp (vs++pY) H1 Q E
def IW(C:Addr)(m:Str)(sp:Sp)(pY:List V)(E:XK)(ta:TE)(t:TA):TE:=fun σ H Q=>ta σ H fun x H1=>∃a dx fs,x=.ref a/\H1 a=some (.ins C dx fs)/\fs.lookup m=none/\
 t σ H1 fun vs H2=>sp (x::(vs++pY)) H2 Q E
def Ou(C:Addr)(sp:Sp)(pY:List V)(E:XK)(t:TA):TE:=fun σ H Q=>t σ H fun vs H1=>∀x dx,H1 x=none->H1 dx=none->dx≠x->
 sp (.ref x::(vs++pY)) (upd (upd H1 dx (.own x)) x (.ins C dx [])) (fun v H2=>v=.bE/\Q (.ref x) H2) E
def iI(K:PySem.W.Frag)(fd:FuncData)(ps:List Str)(ds:List Value):Prop:=
 ∀ (s:Shared) (us:List Value),K.In s.heap->(us++ds).length=ps.length->BindsTo s fd ⟨us,[]⟩ (ps.zip (us++ds))
theorem iI.all{K:PySem.W.Frag}{fd:FuncData}{ps:List Str}(h:∀us:List Value,us.length=ps.length->bindArgs fd ⟨us,[]⟩=pure (ps.zip us)):iI K fd ps []:=fun s us _ hl=>by
 rw[jV] at hl |-;exact .of_eq (h us hl)
def jo(CX:wF)(X:Cx)(E:XK):Prop:=∀ (ae:List (Addr×Obj)) (σ:St) (H:Hp) (s:Shared) (e:Value) (s':Shared),aD X ae σ H s->CX X.stack H s E e s'->X.xe e s'
section
variable {X:Cx} {CX:wF} {k:Nat} {f C:Addr} {fd:FuncData} {ps:List Str} {sp:Sp} {pY:List V} {ds:List Value} {E:XK} {x m:Str} {p pos kF:Pos} {e o:Expr} {es:List Expr} {ta:TE} {t:TA}
theorem xQ(F:bz X.prog X.w X.K X.mg X.base CX k f fd ps sp)(hr:b9 k X.A)(hb:iI X.K fd ps ds)(hd:aP pY ds)(hx:jo CX X E)(I:aD X ae σ H s)(r:aP vs us)(h:sp (vs++pY) H Q E):wpAny (model X.prog X.w) X.A (call (.ref f) us) (EP X ae σ Q) X.xe s:=by
 have r2:aP (vs++pY) (us++ds):=r.append hd;have hl:(us++ds).length=ps.length:=by rw[<-r2.length];exact F.len _ _ _ _ h
 refine kr (kq (F.run X.A X.stack s H ⟨us,[]⟩ (us++ds) (vs++pY) Q E hr I.Kp (hb s us I.jW hl) r2 h) fun r s' hq=>?_);cases r with
 |error e=>exact hx ae σ H s e s' I hq
 |ok fl=>
  cases fl with
  |ret u=>exact I.after hq
  |next=>exact False.elim hq
  |brk=>exact False.elim hq
  |cont=>exact False.elim hq
theorem FQ(F:bz X.prog X.w X.K X.mg X.base CX k f fd ps sp)(hr:b9 k X.A)(hg:Gl X x)(hm:X.mg x=some (.ref f))(hk:PySem.W.keepIn X.K (.ref f)=true)(hb:iI X.K fd ps ds)(hd:aP pY ds)(hx:jo CX X E)(ha:PA X (e::es) t)(xR:(x==("__debug__":Str))=false:=by decide)(he:starEach (e::es) X.env=(false,eval e X.env)::starEach es X.env:=by rfl)(wG:(backTo pos (starEach es X.env)).any (·.1)=false:=by rfl):
  PE X (.Call (.Name x p) (e::es) [] pos) (pX sp pY E t):=by
 intro ae s σ H Q I h;refine iY (lu I hg hm ?_ xR);refine sO (h₀:=X.base) I.ok.mod.Ni hk (b_ (ha pos ae s σ H _ I h) fun us s1 ⟨vs,H1,I1,r,q⟩=>⟨I1.jW,?_⟩) he wG;exact xQ F hr hb hd hx I1 r q
theorem fF(he:PE X o ta)(c:B0 X.K C)(hm:FN X.K C m f)(F:bz X.prog X.w X.K X.mg X.base CX k f fd ps sp)(hr:b9 k X.A)(hb:iI X.K fd ps ds)(hd:aP pY ds)(hx:jo CX X E)(ha:PA X (e::es) t)(lA:starEach (e::es) X.env=(false,eval e X.env)::starEach es X.env:=by rfl)(wG:(backTo pos (starEach es X.env)).any (·.1)=false:=by rfl)(ht:eval (.Call (.Attribute o m kF) (e::es) [] pos) X.env=(do
   let ov <- eval o X.env
   standAt kF.atName
   let (f,first) <- holding [ov] (getMethod ov m pl)
   callWith pos f first (backTo pos (starEach (e::es) X.env)) (backToKw pos (keywordEach [] X.env))):=by rfl):
  PE X (.Call (.Attribute o m kF) (e::es) [] pos) (IW C m sp pY E ta t):=by
 intro ae s σ H Q I h;refine PySem.W.methodCall_KW (pl:=pl) (b_ (he ae s σ H _ I h) fun u s1 ⟨x,H1,I1,rx,a,dx,fs,ex,ea,l,q⟩=>?_) ht;subst ex;obtain rfl:u=Value.ref a:=rx;refine pW I1 ea c hm l ?_;refine sO (first:=[.ref a]) (h₀:=X.base) I.ok.mod.Ni hm.kp (b_ (ha pos ae s1 σ H1 _ I1 q) fun us s2 ⟨vs,H2,I2,r,q2⟩=>⟨I2.jW,?_⟩) lA wG;exact xQ (us:=.ref a::us) (vs:=.ref a::vs) F hr hb hd hx I2 (.cons rfl r) q2
theorem CH{pl:Sem Bool}(he:PE X o ta)(c:B0 X.K C)(hm:FN X.K C m f)(F:bz X.prog X.w X.K X.mg X.base CX k f fd ps sp)(hr:b9 k X.A)(hb:iI X.K fd ps ds)(hd:aP pY ds)(hx:jo CX X E)(ht:eval (.Call (.Attribute o m kF) [] [] pos) X.env=(do
   let ov <- eval o X.env
   standAt kF.atName
   let (f,first) <- holding [ov] (getMethod ov m pl)
   callWith pos f first (backTo pos (starEach [] X.env)) (backToKw pos (keywordEach [] X.env))):=by rfl):
  PE X (.Call (.Attribute o m kF) [] [] pos) (IW C m sp pY E ta jn):=by
 intro ae s σ H Q I h;refine PySem.W.methodCall_KW (pl:=pl) (b_ (he ae s σ H _ I h) fun u s1 ⟨x,H1,I1,rx,a,dx,fs,ex,ea,l,q⟩=>?_) ht;subst ex;obtain rfl:u=Value.ref a:=rx;refine pW I1 ea c hm l ?_;exact PySem.W.callWith_K0 (first:=[.ref a]) I1.jW hm.kp (xQ (us:=[.ref a]) (vs:=[.ref a]) F hr hb hd hx I1 (.cons rfl .nil) q)
structure Mk(K:PySem.W.Frag)(C f:Addr):Prop where
 makes:PySem.W.makesIn K C=true
 init:PySem.W.findIn K (.ref C) "__init__"=some (some (.ref f))
 fn:PySem.W.isFn K (.ref f)=true
 kp:PySem.W.keepIn K (.ref C)=true
theorem CJ(M:Mk X.K C f)(F:bz X.prog X.w X.K X.mg X.base CX k f fd ps sp)(hr:b9 (k+1) X.A)(hb:iI X.K fd ps ds)(hd:aP pY ds)(hx:jo CX X E)(I:aD X ae σ H s)(r:aP vs us)(h:∀x dx,H x=none->H dx=none->dx≠x->sp (.ref x::(vs++pY)) (upd (upd H dx (.own x)) x (.ins C dx [])) (fun v H2=>v=.bE/\Q (.ref x) H2) E):
  wpAny (model X.prog X.w) X.A (call (.ref C) us) (EP X ae σ Q) X.xe s:=by
 have hq:=h (s.heap.objs.size+1) s.heap.objs.size (I.bB.fresh (pQ _)) (I.bB.fresh (aY _)) (a8 (i6 _));have I2:=aD.made (C:=C) I;have r2:aP (V.ref (s.heap.objs.size+1)::(vs++pY)) (Value.ref (s.heap.objs.size+1)::(us++ds)):=.cons rfl (r.append hd);have hl:(Value.ref (s.heap.objs.size+1)::us++ds).length=ps.length:=by
  have e:=r2.length;rw[F.len _ _ _ _ hq] at e;exact e.symm
 refine kr (CG (f:=f) I.jW M.makes M.init (eC.mp M.fn) (kq (F.run _ X.stack _ _ ⟨Value.ref (s.heap.objs.size+1)::us,[]⟩ (Value.ref (s.heap.objs.size+1)::(us++ds)) _ _ E (hr.make C us [])
  (I2.Kp.make C us []) (hb _ (Value.ref (s.heap.objs.size+1)::us) I2.jW hl) r2 hq) fun r s' FR=>?_))
 cases r with
 |error e=>exact hx ae σ _ _ e s' I2 FR
 |ok fl=>
  cases fl with
  |ret u=>
   obtain⟨v,H',I3,rv,ev,q3⟩:=I2.after FR;subst ev;exact⟨rv,⟨V.ref (s.heap.objs.size+1),H',I3,rfl,q3⟩⟩
  |next=>exact False.elim FR
  |brk=>exact False.elim FR
  |cont=>exact False.elim FR
theorem FS(M:Mk X.K C f)(F:bz X.prog X.w X.K X.mg X.base CX k f fd ps sp)(hr:b9 (k+1) X.A)(hg:Gl X x)(hm:X.mg x=some (.ref C))(hb:iI X.K fd ps ds)(hd:aP pY ds)(hx:jo CX X E)(ha:PA X (e::es) t)(xR:(x==("__debug__":Str))=false:=by decide)(he:starEach (e::es) X.env=(false,eval e X.env)::starEach es X.env:=by rfl)(wG:(backTo pos (starEach es X.env)).any (·.1)=false:=by rfl):
  PE X (.Call (.Name x p) (e::es) [] pos) (Ou C sp pY E t):=by
 intro ae s σ H Q I h;refine iY (lu I hg hm ?_ xR);refine sO (h₀:=X.base) I.ok.mod.Ni M.kp (b_ (ha pos ae s σ H _ I h) fun us s1 ⟨vs,H1,I1,r,q⟩=>⟨I1.jW,?_⟩) he wG;exact CJ M F hr hb hd hx I1 r q
end
def PK(X:Cx)(CK:List Keyword)(t:TA):Prop:=
 ∀ (pos:Pos) (ae:List (Addr×Obj)) (s:Shared) (σ:St) (H:Hp) (Q:List V->Hp->Prop),aD X ae σ H s->t σ H Q->wpAny (model X.prog X.w) X.A (evalAll ((backToKw pos (keywordEach CK X.env)).map (·.2))) (AP X ae σ Q) X.xe s
section
variable {X:Cx} {CX:wF} {k:Nat} {f C:Addr} {fd:FuncData} {ps ks:List Str} {sp:Sp} {E:XK} {x m:Str} {p pos kF TZ:Pos} {e o:Expr} {es:List Expr} {CK:List Keyword} {te ta:TE} {t tk:TA} {nm:Option Str}
theorem Kq:PK X [] jn:=fun _ _ _ _ H Q I h=>wpAny_evalAll_nil ⟨[],H,I,.nil,h⟩
theorem FT(ha:PE X e te)(hr:PK X CK t):PK X (⟨nm,e,TZ⟩::CK) (cP te t):=by
 intro pos ae s σ H Q I h;show wpAny _ _ (evalAll ((do let v <- eval e X.env;standAt pos;pure v)::(backToKw pos (keywordEach CK X.env)).map (·.2))) _ _ s;refine wpAny_evalAll_cons (au (b_ (ha ae s σ H _ I h) fun u s1 ⟨x,H1,I1,r1,q1⟩=>au (pP (wpAny_pure ?_))));exact b_ (hr pos ae s1 σ H1 _ I1 q1) fun us s2 ⟨xs,H2,I2,r2,q2⟩=>⟨x::xs,H2,I2,.cons r1 r2,q2⟩
variable {g:List Value->List Value->List Value} {gV:List V->List V->List V}
end
structure aE(N P:List Str)(sc:Scope):Prop where
 kind:sc.kind=.function
 co:sc.isCoroutine=false
 gen:sc.isGenerator=false
 nd:N.Nodup
 pre:N.take P.length=P
 par:∀x∈P,sc.names.lookup x=some .local\/sc.names.lookup x=some .cell
 Kr:∀y∈sc.names,y.2≠.free
theorem rB{kindOf:Str->Option NameKind}{x:Str}:∀ {binds:List (Str×Value)} {m:Str->Option Value},(∀v,(x,v)∉binds)->bindL kindOf binds m x=m x
 |[],_,_=>rfl
 |(n,v)::r,m,h=>by
  unfold bindL;rw[rB fun w hw=>h w (bZ _ hw)];split
  .have:x≠n:=by rintro rfl;exact h v bK
   simp[this]
  .rfl
theorem rC{kindOf:Str->Option NameKind}{x:Str}:∀ {binds:List (Str×Value)} {m:Str->Option Value},(∀v,(x,v)∉binds)->bindC kindOf binds m x=m x
 |[],_,_=>rfl
 |(n,v)::r,m,h=>by
  unfold bindC;rw[rC fun w hw=>h w (bZ _ hw)];split
  .rfl
  .have:x≠n:=by rintro rfl;exact h v bK
   simp[this]
theorem rD{kindOf:Str->Option NameKind}{x:Str}{v:Value}:∀ {P:List Str} {vs:List Value} {i:Nat} {m:Str->Option Value},P.Nodup->P[i]?=some x->vs[i]?=some v->kindOf x=some .local->
  bindL kindOf (P.zip vs) m x=some v
 |[],_,_,_,_,h,_,_=>by simp at h
 |_::_,[],_,_,_,_,h,_=>by simp at h
 |p::P,w::vs,0,m,nd,h1,h2,hk=>by
  simp at h1 h2;subst h1;subst h2;show bindL kindOf ((p,w)::P.zip vs) m p=_;unfold bindL;rw[rB fun v hv=>(eU.mp nd).1 (mH hv).1,if_pos hk];simp
 |p::P,w::vs,i+1,m,nd,h1,h2,hk=>by
  show bindL kindOf ((p,w)::P.zip vs) m x=_;unfold bindL;exact rD (i:=i) (eU.mp nd).2 (by simpa using h1) (by simpa using h2) hk
theorem rE{kindOf:Str->Option NameKind}{x:Str}{v:Value}:∀ {P:List Str} {vs:List Value} {i:Nat} {m:Str->Option Value},P.Nodup->P[i]?=some x->vs[i]?=some v->kindOf x≠some .local->
  bindC kindOf (P.zip vs) m x=some v
 |[],_,_,_,_,h,_,_=>by simp at h
 |_::_,[],_,_,_,_,h,_=>by simp at h
 |p::P,w::vs,0,m,nd,h1,h2,hk=>by
  simp at h1 h2;subst h1;subst h2;show bindC kindOf ((p,w)::P.zip vs) m p=_;unfold bindC;rw[rC fun v hv=>(eU.mp nd).1 (mH hv).1,am hk];simp
 |p::P,w::vs,i+1,m,nd,h1,h2,hk=>by
  show bindC kindOf ((p,w)::P.zip vs) m x=_;unfold bindC;exact rE (i:=i) (eU.mp nd).2 (by simpa using h1) (by simpa using h2) hk
def start(N:List Str)(vs:List V):St:=vs.map some++List.replicate (N.length-vs.length) none
def tS(CX:wF)(P:Program)(w:World)(K:PySem.W.Frag)(mg:Str->Option Value)(base:Heap)(N:List Str)(qual:Str)(scope:Scope)(f:Addr)(cd:Value)(A:Around)(outer:List Env)(s:Shared)(H:Hp)(E:XK):Cx where
 prog:=P
 w:=w
 K:=K
 mg:=mg
 base:=base
 A:=A.deeper (envOfC qual scope s.heap.objs.size f cd)
 N:=N
 s₀:=s
 H₀:=H
 env:=envOfC qual scope s.heap.objs.size f cd
 outer:=outer
 stack:=envOfC qual scope s.heap.objs.size f cd::outer
 ex:=[]
 calm:=true
 fn:=fun _=>true
 pn:=[]
 xe:=fun e s'=>wpAny (model P w) (A.deeper (envOfC qual scope s.heap.objs.size f cd)) (leaving (envOfC qual scope s.heap.objs.size f cd) e) (fun _ Ov=>CX outer H s E e Ov) (fun e' Ov=>CX outer H s E e' Ov) s'
theorem vg{sc:Scope}{n:Nat}{x:Str}(h:sc.names.lookup x=some .cell):∃c,(cellsFrom n sc.names []).lookup x=some c:=by
 have q:=PySem.W.cellsFrom_some sc.names n [] (.inl h);exact wR.mp q
theorem AS{CX:wF}{P:Program}{w:World}{K:PySem.W.Frag}{mg:Str->Option Value}{base:Heap}{N ps:List Str}{qual:Str}{scope:Scope}{f:Addr}{cd:Value}{A:Around}{outer:List Env}{s s1:Shared}{H:Hp}{E:XK}{us:List Value}{vs:List V}(S:aE N ps scope)(hd:A.handled=none)(e0:vf P w K mg base A outer s H)(hl:vs.length=ps.length)(r:aP vs us)(x:InCallC s s.heap.objs.size (bindL (envOfC qual scope s.heap.objs.size f cd).kindOf (ps.zip us) fun _=>none) (cellsFrom (s.heap.objs.size+1) scope.names []) (bindC (envOfC qual scope s.heap.objs.size f cd).kindOf (ps.zip us) fun _=>none) s1):
  aD (tS CX P w K mg base N qual scope f cd A outer s H E) [] (start N vs) H s1:=by
 have wG:ps.length<=N.length:=by have:=congrArg List.length S.pre;rw[cf] at this;lia
 obtain⟨h1,tk,rfl,hk⟩:=x.done;have Nm:∀b:Addr,b∉(tS CX P w K mg base N qual scope f cd A outer s H E).ex:=fun b z=>absurd (show b∈([]:List Addr) from z) (by simp);refine⟨⟨e0.mod,S.kind,rfl,rfl,aY _,fun y z c h1 h2=>?_,fun y hy=>?_,fun y c _ h=>?_,fun _=>hd,Around.frames_deeper e0.frames,.inr ⟨rfl,rfl⟩,fun b z=>absurd z (Nm b),e0.bs,e0.BX,fun b _ _=>Nm b,fun b z=>absurd z (Nm b),e0.mT,e0.J8⟩,
  rfl,e0.bare,Un.kept hk,⟨_,x.toInCall.ns,fun i y v h1 h2 h3=>?_⟩,fun y c h=>⟨_,x.cell y c h⟩,e0.bB.fresh (aY _),fun y c h=>?_,fun p hp=>absurd (show p∈([]:List (Addr×Obj)) from hp) (by simp),e0.bB.kept hk,?_⟩
 .exact name_of_addr x.apart (iV h1) (iV h2)
 .have hy:scope.names.lookup y=some .cell\/scope.names.lookup y=some .free:=hy;rcases hy with hy|hy
  .exact vg hy
  .exact absurd rfl (S.Kr _ (iV hy))
 .exact je (x.above y c (iV h))
 .have hi:i<vs.length:=by
   unfold start at h2;by_cases hi:i<vs.length
   .exact hi
   .rw[k8 (by simpa using hi)] at h2;rw[wT] at h2;split at h2 <;> cases h2
  have ha:vs[i]?=some v:=by
   unfold start at h2;rw[fP (by simpa using hi),cw] at h2;cases e:vs[i]? with
   |none=>rw[e] at h2;cases h2
   |some a=>rw[e] at h2;cases h2;rfl
  obtain⟨u,hu,rv⟩:=r.get ha;have hp:ps[i]?=some y:=by
   rw[<-S.pre,lh (by lia)];exact h1
  have XQ:ps.Nodup:=by rw[<-S.pre];exact S.nd.sublist (mx _ _)
  refine⟨u,rv,?_⟩;rcases S.par y (cU hp) with k|k
  .exact .inl ⟨k,rD XQ hp hu k⟩
  .obtain⟨c,e⟩:=vg (n:=s.heap.objs.size+1) k;refine .inr ⟨.inl k,c,e,?_⟩;have q:=x.cell y c e;rw[rE XQ hp hu (by show scope.names.lookup y≠_;rw[k];decide)] at q;exact q
 .exact e0.bB.fresh (je (x.above y c (iV h)))
 .unfold start;show _=N.length;rw[cV,aJ,fj];lia
theorem IX{CX:wF}{P:Program}{w:World}{K:PySem.W.Frag}{mg:Str->Option Value}{base:Heap}{k:Nat}{f:Addr}{name qual:Str}{params:Arguments}{body:List Stmt}{scope:Scope}{dV kV lE pm dU ct oc:Value}{an od:Option Addr}{u5:Array (Option Value)}{N ps:List Str}{sp:Sp}(lk:K.lookup f=some ⟨oc,od,.func (PySem.W.fnOf name qual params body scope dV kV lE pm an dU ct),u5⟩)(rn:PySem.W.codeIn K dU qual=true)(S:aE N ps scope)(len:∀vs H Q E,sp vs H Q E->vs.length=ps.length)(vh:∀ (A:Around) (outer:List Env) (s:Shared) (H:Hp) (vs:List V) (Q:VK) (E:XK),b9 k (A.deeper (envOfC qual scope s.heap.objs.size f dU))->sp vs H Q E->
   ∃t,xA (tS CX P w K mg base N qual scope f dU A outer s H E) body t/\t { nx:=fun _ H'=>Q .bE H',rt:=Q } (start N vs) H):
  bz P w K mg base CX (k+1) f (PySem.W.fnOf name qual params body scope dV kV lE pm an dU ct) ps sp:=by
 refine⟨len,fun A outer s H args us vs Q E hr e0 hb r Fo=>?_⟩;have hl:=len _ _ _ _ Fo;have KX:K.In s.heap:=e0.mod.Ni.keeps fun b o e=>(e0.bs b o e).1;have ZZ:s.heap.NoLimit:=e0.mod.nolimit.keeps fun b o e=>(e0.bs b o e).1;have Ow:∀y∈ps.zip us,scope.names.lookup y.1=some .local\/(scope.names.lookup y.1=some .cell/\((cellsFrom (s.heap.objs.size+1) scope.names []).lookup y.1).isSome=true):=fun ⟨n,v⟩ hy=>by
  rcases S.par n (mH hy).1 with q|q
  .exact .inl q
  .exact .inr ⟨q,PySem.W.cellsFrom_some _ _ _ (.inl q)⟩
 refine codeAny_call_function hr.depth (KX _ _ lk) rfl S.co S.gen rfl (PySem.W.codeRec_of KX rn) (hb _ _ _ _ ?_);refine wpAny_newFunctionEnv_cells S.kind Ow fun env he s1 x=>?_;subst he;refine⟨ZZ.keeps x.toInCall.keep,codeAny_func ?_⟩;obtain⟨t,ht,hq⟩:=vh A outer s H vs Q E (hr.deeper _) Fo;have I:aD (tS CX P w K mg base N qual scope f dU A outer s H E) [] (start N vs) H s1:=AS S hr.hd e0 hl r x;refine gC (ht [] s1 (start N vs) H _ I hq) (fun fl s' hs=>?_) fun e s' hs=>hs;have cZ:∀ {σ':St} {H':Hp} {v:V} {u:Value},aD (tS CX P w K mg base N qual scope f dU A outer s H E) [] σ' H' s'->bn v u->Q v H'->CE outer P w H s Q u s':=
  fun {σ' H' v u} J rv q=>⟨v,H',J.os,J.bare,J.base,J.bB,rv,q⟩
 cases fl with
 |ret u=>
  obtain⟨v,σ',H',J,rv,q⟩:=hs;exact cZ J rv q
 |next=>
  obtain⟨σ',H',J,q⟩:=hs;exact cZ (v:=V.bE) (u:=Value.none) J rfl q
 |brk=>
  obtain⟨_,_,_,q⟩:=hs;exact False.elim q
 |cont=>
  obtain⟨_,_,_,q⟩:=hs;exact False.elim q
section
variable {X:Cx} {x:Str} {p pos:Pos} {e:Expr} {es:List Expr} {t:TA} {id T:String} {r:List V->Hp->VK->Prop}
def RX(r:List V->Hp->VK->Prop)(t:TA):TE:=fun σ H Q=>t σ H fun vs H1=>r vs H1 Q
theorem aA(hc:eX X (.builtin id) r)(hg:Gl X x)(hm:X.mg x=none)(hv:bootBuiltins x=some (.builtin id))(ha:PA X (e::es) t)(hn:x≠"__name__":=by decide)(xR:(x==("__debug__":Str))=false:=by decide)(he:starEach (e::es) X.env=(false,eval e X.env)::starEach es X.env:=by rfl)(wG:(backTo pos (starEach es X.env)).any (·.1)=false:=by rfl):PE X (.Call (.Name x p) (e::es) [] pos) (RX r t):=by
 intro ae s σ H Q I h;refine iY (gH I hg hm hv ?_ hn xR);exact PyProof.Rows.callWith_builtin1 (b_ (ha pos ae s σ H _ I h) fun us s1 ⟨vs,H1,I1,r1,q1⟩=>hc ae s1 σ H1 vs us Q I1 r1 q1) he wG
theorem cx(hc:eX X (.type T) r)(hg:Gl X x)(hm:X.mg x=none)(hv:bootBuiltins x=some (.type T))(ha:PA X (e::es) t)(hn:x≠"__name__":=by decide)(xR:(x==("__debug__":Str))=false:=by decide)(he:starEach (e::es) X.env=(false,eval e X.env)::starEach es X.env:=by rfl)(wG:(backTo pos (starEach es X.env)).any (·.1)=false:=by rfl):PE X (.Call (.Name x p) (e::es) [] pos) (RX r t):=by
 intro ae s σ H Q I h;refine iY (gH I hg hm hv ?_ hn xR);exact o7 (b_ (ha pos ae s σ H _ I h) fun us s1 ⟨vs,H1,I1,r1,q1⟩=>hc ae s1 σ H1 vs us Q I1 r1 q1) he wG
end
end L2
namespace HT
open PySem PyProof.Rows
section
open PySem.SeqAt
open PySem.AutoSeq1 (wpAny_loadPart')
open PySem.MeetsSeq PySem.MeetsSeq2 PySem.MeetsSeq3
end
section
variable {prog:Program} {w:World} {A:Around} {E:Value->Shared->Prop} {s:Shared}
def dN(n d:Nat):Option Int->Nat
 |none=>d
 |some v=>if v<0 then (v+(n:Int)).toNat else min v.toNat n
theorem Ks(n d:Nat)(hd:d<=n)(o:Option Int):dN n d o<=n:=by
 cases o with
 |none=>exact hd
 |some v=>
  show (if v<0 then (v+(n:Int)).toNat else min v.toNat n)<=n;by_cases hv:v<0
  .rw[if_pos hv];lia
  .rw[am hv];exact Nat.min_le_right _ _
theorem zi(v:Int)(n d:Nat):(if v<0 then max (v+(n:Int)) 0 else min v (n:Int))=((dN n d (some v):Nat):Int):=by
 show (if v<0 then max (v+(n:Int)) 0 else min v (n:Int))=(((if v<0 then (v+(n:Int)).toNat else min v.toNat n):Nat):Int);by_cases hv:v<0
 .simp only[if_pos hv];lia
 .simp only[am hv];lia
theorem xS(lo hi:Option Int)(n:Nat):Builtin.Slice.sliceAdjust lo hi 1 (n:Int)=(((dN n 0 lo:Nat):Int),((dN n n hi:Nat):Int)):=by
 have h1:¬ ((1:Int)<0):=by lia
 unfold Builtin.Slice.sliceAdjust;simp only[h1,fU];refine ku ?_ ?_
 .cases lo with
  |none=>rfl
  |some v=>exact zi v n 0
 .cases hi with
  |none=>rfl
  |some v=>exact zi v n n
theorem xT(i j:Nat):Builtin.Slice.slicePlaces (i:Int) (j:Int) 1=j-i:=by
 unfold Builtin.Slice.slicePlaces;have h1:(1:Int) > 0:=by lia
 simp only[h1,gE,Int.ediv_one];split <;> lia
theorem pZ(p:IsPart v o)(h:Q o s):wpAny (model prog w) A (Builtin.Slice.slicePartIndex v) Q E s:=by
 cases p with
 |none=>exact slicePart_none h
 |int i t=>exact slicePart_int h
theorem g8{sl:Addr}{vl vu:Value}{lo hi:Option Int}{n:Nat}{Q:Int×Int×Nat->Shared->Prop}(hs:s.heap.IsSliceOf sl vl vu .none)(pl:IsPart vl lo)(pu:IsPart vu hi)(h:Q (((dN n 0 lo:Nat):Int),1,dN n n hi-dN n 0 lo) s):wpAny (model prog w) A (Builtin.Slice.sliceApplied (.ref sl) (pure (n:Int))) Q E s:=by
 obtain⟨os,Fp,RY,Ox⟩:=id hs;unfold Builtin.Slice.sliceApplied Builtin.Slice.sliceFields;refine au (au (fz Fp Ox (x:=vl) rfl (au (fz Fp Ox (x:=vu) rfl (au (fz Fp Ox (x:=.none) rfl (wpAny_pure ?_)))))));refine au (slicePart_none ?_);show wpAny _ _ (if ((1:Int)==0)=true then _ else _) _ _ s;rw[am (by decide)];refine au (pZ pl (au (pZ pu (au (wpAny_pure ?_)))));show wpAny _ _ (match Builtin.Slice.sliceAdjust lo hi 1 (n:Int) with|(lo,hi)=>pure (lo,(1:Int),Builtin.Slice.slicePlaces lo hi 1)) _ _ s;rw[xS lo hi n];show wpAny _ _ (pure (((dN n 0 lo:Nat):Int),(1:Int),Builtin.Slice.slicePlaces ((dN n 0 lo:Nat):Int) ((dN n n hi:Nat):Int) 1)) _ _ s;rw[xT];exact wpAny_pure h
theorem CM(xs:Array Value)(i k:Nat):((List.range k).filterMap fun (m:Nat)=>xs[((i:Int)+(m:Int)*1).toNat]?).toArray=((xs.toList.drop i).take k).toArray:=by
 have e:(fun (m:Nat)=>xs[((i:Int)+(m:Int)*1).toNat]?)=fun m=>xs[i+m]?:=by
  funext m;have:((i:Int)+(m:Int)*1).toNat=i+m:=by lia
  rw[this]
 rw[e];have:=pick_run xs i k;rw[List.filterMap_map] at this;have e2:((fun x=>xs[x]?) ∘ fun x=>i+x)=fun m=>xs[i+m]?:=rfl;rw[e2] at this;rw[this]
theorem lF{t sl:Addr}{aH:Array Value}{vl vu:Value}{lo hi:Option Int}{Q:Value->Shared->Prop}(ht:IsTup s.heap t aH)(hs:s.heap.IsSliceOf sl vl vu .none)(pl:IsPart vl lo)(pu:IsPart vu hi)(hw:¬ (dN aH.size 0 lo=0/\dN aH.size aH.size hi=aH.size))(h:Q (.ref s.heap.objs.size) { s with heap:=s.heap.push { cls:=.type "tuple",data:=.seq ((aH.toList.drop (dN aH.size 0 lo)).take (dN aH.size aH.size hi-dN aH.size 0 lo)).toArray } })(hsz:aH.size<=sizeLine):wpAny (model prog w) A (getItem (.ref t) (.ref sl)) Q E s:=by
 have zj:sizeOk (.seq ((aH.toList.drop (dN aH.size 0 lo)).take (dN aH.size aH.size hi-dN aH.size 0 lo)).toArray):=by
  show ((aH.toList.drop (dN aH.size 0 lo)).take (dN aH.size aH.size hi-dN aH.size 0 lo)).toArray.size<=sizeLine;rw[br,cf,lq,kd];lia
 have hj:dN aH.size aH.size hi<=aH.size:=Ks _ _ (aY _) hi;obtain⟨os,Fp,RY,Ox⟩:=id hs;have T4:s.TypeIs (.ref sl) "slice":=⟨os,Fp,RY⟩
 unfold getItem;try with_reducible refine gy ?_
 first|refine au (wpAny_pure ?_)|skip
 refine au (wpAny_sequenceKey ht.typeIs (by decide) ?_);refine au (o9 (name:=Str.ofString "__getitem__") ht.typeIs re
  (i9 re ht.typeIs entry_tuple_getitem ?_ (args_tuple_getitem _ _)))
 show wpAny _ _ (Builtin.Tuple.tupleItemsOf (.ref t) >>= _) _ _ s;refine au (tupleItemsOf_ ht ?_);refine au (tO T4 ?_);rw[if_pos (by decide)];refine au (g8 hs pl pu ?_);have CN:¬ ((((dN aH.size 0 lo:Nat):Int)==0&&(1:Int)==1&&(dN aH.size aH.size hi-dN aH.size 0 lo)==aH.size)=true):=by
  intro q;rw[dH,dH] at q;have q1:((dN aH.size 0 lo:Nat):Int)=0:=eq_of_beq q.1.1;have q2:dN aH.size aH.size hi-dN aH.size 0 lo=aH.size:=eq_of_beq q.2;exact hw ⟨by lia,by lia⟩
 show wpAny _ _ (if (((dN aH.size 0 lo:Nat):Int)==0&&(1:Int)==1&&(dN aH.size aH.size hi-dN aH.size 0 lo)==aH.size)=true then _ else _) _ _ s;rw[am CN,CM];first
  |exact au (m:=Builtin.Tuple.tupleExact _) (ln (wpAny_pure ⟨_,rfl,wpAny_pure h⟩) zj)
  |exact au (m:=Builtin.Tuple.tupleExact _) (ln (au (wpAny_pure (wpAny_pure ⟨_,rfl,wpAny_pure h⟩))) zj)
  |exact au (au (m:=Builtin.Tuple.tupleExact _) (ln (wpAny_pure (wpAny_pure ⟨_,rfl,wpAny_pure h⟩)) zj))
  |exact au (au (m:=Builtin.Tuple.tupleExact _) (ln (wpAny_pure ⟨_,rfl,wpAny_pure h⟩) zj))
end
end HT
namespace L2
open PySem PySem.Spec PyProof.Rows
abbrev TO:=St->Hp->(Option Int->Hp->Prop)->Prop
def PO(X:Cx)(e:Option Expr)(t:TO):Prop:=
 ∀ (ae:List (Addr×Obj)) (s:Shared) (σ:St) (H:Hp) (Q:Option Int->Hp->Prop),aD X ae σ H s->t σ H Q->
  wpAny (model X.prog X.w) X.A (evalPart e X.env) (fun u s'=>∃o H',aD X ae σ H' s'/\IsPart u o/\Q o H') X.xe s
def ip:TO:=fun _ H Q=>Q none H
def p6(t:TE):TO:=fun σ H Q=>t σ H fun x H1=>∃i,x=.int i/\Q (some i) H1
section
variable {X:Cx} {e:Expr} {te:TE} {lo hi:Option Expr} {tl th:TO} {pos p2:Pos}
theorem dO:PO X none ip:=by
 intro ae s σ H Q I h;rw[evalPart_none];exact wpAny_pure ⟨none,H,I,.none,h⟩
theorem dP(h:PE X e te):PO X (some e) (p6 te):=by
 intro ae s σ H Q I hw;rw[evalPart_some];refine b_ (h ae s σ H _ I hw) fun u s1 ⟨x,H1,I1,r1,q1⟩=>?_;obtain⟨i,rfl,q⟩:=q1;obtain⟨t,rfl⟩:=r1;exact⟨some i,H1,I1,.int i t,q⟩
def RZ(X:Cx)(r:V->Option Int->Option Int->Hp->VK->Prop):Prop:=
 ∀ (ae:List (Addr×Obj)) (s:Shared) (σ:St) (H:Hp) (x:V) (v vl vu:Value) (lo hi:Option Int) (sl:Addr) (Q:VK),aD X ae σ H s->bn x v->s.heap.IsSliceOf sl vl vu .none->IsPart vl lo->IsPart vu hi->r x lo hi H Q->
  ∃T id,typeLookup (.type T) "__getitem__"=pure (some (.builtin id))/\s.TypeIs v T/\wpAny (model X.prog X.w) X.A (getItem v (.ref sl)) (EP X ae σ Q) X.xe s
def Ku(r:V->Option Int->Option Int->Hp->VK->Prop)(te:TE)(tl th:TO):TE:=fun σ H Q=>te σ H fun x H1=>tl σ H1 fun l H2=>th σ H2 fun u H3=>r x l u H3 Q
theorem cS(hr:RZ X r)(he:PE X e te)(hl:PO X lo tl)(hu:PO X hi th):PE X (.Subscript e (.Slice lo hi none p2) pos) (Ku r te tl th):=by
 intro ae s σ H Q I h;refine Subscript_ (b_ (he ae s σ H _ I h) fun v s1 ⟨x,H1,I1,r1,q1⟩=>?_);refine wpAny_Slice (b_ (hl ae s1 σ H1 _ I1 q1) fun vl s2 ⟨l,H2,I2,pl,q2⟩=>b_ (hu ae s2 σ H2 _ I2 q2) fun vu s3 ⟨u,H3,I3,pu,q3⟩=>?_);rw[evalPart_none];refine wpAny_pure ?_;have I4:aD X ae σ H3 { s3 with heap:=s3.heap.push { cls:=.type "slice",data:=.fields #[vl,vu,.none] } }:=I3.kept (t':=s3.toks) fun b ob q=>bQ _ q;obtain⟨T,id,hT,ht,hg⟩:=hr ae { s3 with heap:=s3.heap.push { cls:=.type "slice",data:=.fields #[vl,vu,.none] } } σ H3 x v vl vu l u s3.heap.objs.size Q I4 r1 (Heap.IsSliceOf.new ..) pl pu q3;show wpAny (model X.prog X.w) X.A (subscriptTail e (.Slice lo hi none p2) v (.ref s3.heap.objs.size)) (EP X ae σ Q) X.xe { s3 with heap:=s3.heap.push { cls:=.type "slice",data:=.fields #[vl,vu,.none] } };exact tail_any (ops:=[.ref s3.heap.objs.size,v]) ht hT hg (by with_unfolding_all rfl)
def jR(xs:List V)(lo hi:Option Int):List V:=(xs.drop (HT.dN xs.length 0 lo)).take (HT.dN xs.length xs.length hi-HT.dN xs.length 0 lo)
theorem n5(xs:List V)(lo hi:Option Int):(jR xs lo hi).length<=xs.length:=by
 unfold jR;rw[cf,lq];lia
def T5(K:PySem.W.Frag):V->Option Int->Option Int->Hp->VK->Prop:=fun x lo hi H Q=>∃a xs,x=.ref a/\bV K H a xs/\
 ¬ (HT.dN xs.length 0 lo=0/\HT.dN xs.length xs.length hi=xs.length)/\∀p,H p=none->Q (.ref p) (upd H p (.tup (jR xs lo hi)))
theorem Kv:RZ X (T5 X.K):=by
 intro ae s σ H x v vl vu lo hi sl Q I rx hs pl pu h;obtain⟨a,xs,rfl,hx,hw,q⟩:=h;cases rx;obtain⟨its,r,ht,hz⟩:=I.tuple hx;have dt:its.toArray.size=xs.length:=by rw[br];exact r.length.symm
 refine⟨"tuple",_,re.lookup,ht.typeIs,?_⟩;refine HT.lF ht hs pl pu (by rw[dt];exact hw) ?_ (by rw[dt];exact hz);rw[dt];refine⟨.ref s.heap.objs.size,_,I.laid (t':=s.toks) (o:=.tup (jR xs lo hi)) (fun b ob q=>bQ _ q) (aY _) ?_,rfl,q _ (I.bB.fresh (aY _))⟩;exact⟨bj (n5 xs lo hi) hz,_,(r.drop (HT.dN xs.length 0 lo)).take (HT.dN xs.length xs.length hi-HT.dN xs.length 0 lo),ii.new _ _⟩
theorem aP.lG(r:aP xs us):us=[]↔xs=[]:=by
 cases r with
 |nil=>simp
 |cons _ _=>simp
end
def B1(n:Nat)(i:Int):Option Nat:=if 0<=i then (if i<n then some i.toNat else none) else if -(n:Int)<=i then some (i+n).toNat else none
def qQ{α:Type}(xs:List α)(i:Int):Option α:=(B1 xs.length i).bind fun j=>xs[j]?
theorem tT(h:B1 n i=some j):seqIndex? i n=some j/\j<n/\-(n:Int)<=i/\i<n:=by
 unfold B1 at h;by_cases h0:0<=i
 .rw[if_pos h0] at h;by_cases h1:i<n
  .rw[if_pos h1] at h;have e:i.toNat=j:=be h;exact⟨by rw[seqIndex_of h0 h1,e],by lia,by lia,h1⟩
  .rw[am h1] at h;cases h
 .rw[am h0] at h;by_cases h1:-(n:Int)<=i
  .rw[if_pos h1] at h;have e:(i+n).toNat=j:=be h;exact⟨by rw[seqIndex_neg (by lia) h1,e],by lia,h1,by lia⟩
  .rw[am h1] at h;cases h
theorem zk(h:qQ xs i=some v):∃j,seqIndex? i xs.length=some j/\xs[j]?=some v/\j<xs.length/\-(xs.length:Int)<=i/\i<xs.length:=by
 unfold qQ at h;cases e:B1 xs.length i with
 |none=>rw[e] at h;cases h
 |some j=>
  rw[e] at h;obtain⟨h1,h2,h3,h4⟩:=tT e;exact⟨j,h1,h,h2,h3,h4⟩
theorem aw{α:Type}{xs:List α}{j:Nat}{v:α}(h:xs[j]?=some v):qQ xs (j:Int)=some v:=by
 have hj:j<xs.length:=(dw.mp h).1;have e:B1 xs.length (j:Int)=some j:=by
  unfold B1;rw[if_pos (by lia),if_pos (by lia)];simp
 unfold qQ;rw[e];exact h
theorem CO(xs:List α)(v:α):qQ (xs++[v]) (-1)=some v:=by
 have hl:(xs++[v]).length=xs.length+1:=by simp
 have e:B1 (xs++[v]).length (-1)=some xs.length:=by
  unfold B1;rw[hl,am (by decide),if_pos (by lia)];congr 1;lia
 unfold qQ;rw[e];show (xs++[v])[xs.length]?=some v;simp
def FU(b:Expr):Prop:=∀o i,subscripted b false o i=operate [o,i] (getItem o i)
def T6(X:Cx)(r:R2):Prop:=
 ∀ (value slice:Expr) (ae:List (Addr×Obj)) (s:Shared) (σ:St) (H:Hp) (x y:V) (v u:Value) (Q:VK),aD X ae σ H s->bn x v->bn y u->r x y H Q->
  subscripted slice false v u=operate [v,u] (getItem v u)->wpAny (model X.prog X.w) X.A (subscriptTail value slice v u) (EP X ae σ Q) X.xe s
def XR(X:Cx)(id:String)(r:V->List V->Hp->VK->Prop):Prop:=
 ∀ (ae:List (Addr×Obj)) (s:Shared) (σ:St) (H:Hp) (x:V) (xs:List V) (v:Value) (us:List Value) (Q:VK),aD X ae σ H s->bn x v->aP xs us->r x xs H Q->
  wpAny (model X.prog X.w) X.A (call (.builtin id) (v::us)) (EP X ae σ Q) X.xe s
section
variable {X:Cx} {a b:Expr} {ta tb:TE} {pos:Pos}
theorem ba(hr:T6 X r)(ha:PE X a ta)(hb:PE X b tb)(hs:FU b):PE X (.Subscript a b pos) (im r ta tb):=by
 intro ae s σ H Q I h;exact Subscript_ (Kj ha hb I h fun v u s2 x y H2 I2 rx ry q=>hr a b ae s2 σ H2 x y v u Q I2 rx ry q (hs _ _))
def xU(K:PySem.W.Frag):R2:=fun x y H Q=>∃p xs i v,x=.ref p/\y=.int i/\aM K H p xs/\qQ xs i=some v/\Q v H
def xV(K:PySem.W.Frag):R2:=fun x y H Q=>∃p xs i v,x=.ref p/\y=.int i/\bV K H p xs/\qQ xs i=some v/\Q v H
theorem aR:T6 X (xU X.K):=by
 intro value slice ae s σ H x y v u Q I rx ry h hs;obtain⟨p,xs,i,z,rfl,rfl,hq,he,q⟩:=h;cases rx;obtain⟨t,rfl⟩:=ry;obtain⟨its,r,pl,hz⟩:=I.list hq;obtain⟨j,h1,h2,h3,h4,h5⟩:=zk he;obtain⟨w,ew,qR⟩:=r.get h2;have hl:=r.length;have hn:=tQ;have cZ:EP X ae σ Q w s:=⟨z,H,I,qR,q⟩
 by_cases h0:0<=i
 .have hj:i.toNat=j:=by
   rw[seqIndex_of h0 h5] at h1;exact be h1
  exact item_listR pl.isList h0 (by lia) (by rw[hj];simpa using ew) cZ hs
 .have hj:(i+(its.toArray.size:Int)).toNat=j:=by
   rw[seqIndex_neg (by lia) h4] at h1;rw[br,<-hl];exact be h1
  exact subscriptTail_builtinR (x:=w) pl.isList.typeIs slot_list_getitem.lookup
   (wpAny_getItem_list_neg (Q:=fun r s'=>r=w/\EP X ae σ Q r s') pl.isList (by lia) (by rw[br] <;> lia) (by lia) (by rw[hj];simpa using ew) ⟨rfl,cZ⟩) hs
theorem e_:T6 X (xV X.K):=by
 intro value slice ae s σ H x y v u Q I rx ry h hs;obtain⟨p,xs,i,z,rfl,rfl,hq,he,q⟩:=h;cases rx;obtain⟨t,rfl⟩:=ry;obtain⟨its,r,pl,hz⟩:=I.tuple hq;obtain⟨j,h1,h2,h3,h4,h5⟩:=zk he;obtain⟨w,ew,qR⟩:=r.get h2;have hl:=r.length;have hn:=tQ;have cZ:EP X ae σ Q w s:=⟨z,H,I,qR,q⟩
 exact subscriptTail_builtinR (x:=w) pl.typeIs slot_tuple_getitem.lookup
  (getItem_tuple (j:=j) (Q:=fun r s'=>r=w/\EP X ae σ Q r s') pl (by lia) (by lia) (by rw[br,<-hl];exact h1) (by simpa using ew) ⟨rfl,cZ⟩) hs
theorem xW(its:List Value)(n j:Nat)(u:Value):Obj.mapSeq (·.setIfInBounds j u) { cls:=.type "list",data:=.seq its.toArray n }={ cls:=.type "list",data:=.seq (its.set j u).toArray n }:=by
 simp[Obj.mapSeq]
theorem aD.lst(I:aD X ae σ H s)(h:H p=some (.lst xs)):
  ∃ (its:List Value) (n:Nat),aP xs its/\s.heap.get? p=some { cls:=.type "list",data:=.seq its.toArray n }/\xs.length<=sizeLine:=by
 obtain⟨z,its,n,r,e⟩:=I.bB p _ h;exact⟨its,n,r,e,z⟩
theorem aD.Kw{ae:List (Addr×Obj)}{σ:St}{H:Hp}{s:Shared}{p:Addr}{xs ys:List V}{its its':List Value}{n n':Nat}{f:Obj->Obj}(I:aD X ae σ H s)(h:H p=some (.lst xs))(ho:s.heap.get? p=some { cls:=.type "list",data:=.seq its.toArray n })(hf:f { cls:=.type "list",data:=.seq its.toArray n }={ cls:=.type "list",data:=.seq its'.toArray n' })(r:aP ys its')(hz:ys.length<=sizeLine)(t:Nat):
  aD X ae σ (upd H p (.lst ys)) { s with heap:=s.heap.update p f,toks:=t }:=by
 have e:(s.heap.update p f).get? p=some { cls:=.type "list",data:=.seq its'.toArray n' }:=by
  rw[xb f ho (by rw[hf] <;> rfl),hf]
 refine I.write (x:=p) (e:=p) (by rw[h];trivial) (.inl rfl) (fun b u hb q=>(w_ _ _ (gG hb)).trans q) ⟨_,e⟩ ?_;exact⟨hz,its',n',r,e⟩
def Oy:V->V->V->Hp->(Hp->Prop)->Prop:=fun o i v H Q=>∃p xs k j,o=.ref p/\i=.int k/\H p=some (.lst xs)/\B1 xs.length k=some j/\Q (upd H p (.lst (xs.set j v)))
theorem g9:Oj X Oy:=by
 intro ae s σ H o i v ov iv u Q I ro ri rv h;obtain⟨p,xs,k,j,rfl,rfl,hp,hj,q⟩:=h;cases ro;obtain⟨t,rfl⟩:=ri;obtain⟨its,n,r,ho,hz⟩:=I.lst hp;obtain⟨h1,h2,h3,h4⟩:=tT hj;have hl:=r.length;have hn:=tQ;have I':aD X ae σ (upd H p (.lst (xs.set j v))) { s with heap:=s.heap.update p (Obj.mapSeq (·.setIfInBounds j u)) }:=
  I.Kw hp ho (xW its n j u) (r.set rv j) (by rw[kj];exact hz) s.toks
 by_cases h0:0<=k
 .have hk:k.toNat=j:=by
   rw[seqIndex_of h0 h4] at h1;exact be h1
  exact PySem.W.ki_setAt ho h0 (by lia) (by rw[br,<-hl];exact h4) (by rw[hk];exact⟨_,I',q⟩)
 .have hk:(k+(its.toArray.size:Int)).toNat=j:=by
   rw[seqIndex_neg (by lia) h3] at h1;rw[br,<-hl];exact be h1
  exact PySem.W.ki_setBack ho (by lia) (by rw[br,<-hl];exact h3) (by lia) (by rw[hk];exact⟨_,I',q⟩)
theorem tU(lo hi:Option Int)(n:Nat):(sliceBounds lo hi none n).1=((HT.dN n 0 lo:Nat):Int)/\(sliceBounds lo hi none n).2.1=((HT.dN n n hi:Nat):Int)/\(sliceBounds lo hi none n).2.2=1:=by
 refine⟨?_,?_,rfl⟩
 .cases lo with
  |none=>simp[sliceBounds,HT.dN]
  |some i=>
   simp only[sliceBounds,HT.dN,Option.getD_none,show (1:Int) > 0 by decide,gE];by_cases h:i<0
   .simp only[h,gE] <;> lia
   .simp only[h,fU] <;> lia
 .cases hi with
  |none=>simp[sliceBounds,HT.dN]
  |some i=>
   simp only[sliceBounds,HT.dN,Option.getD_none,show (1:Int) > 0 by decide,gE];by_cases h:i<0
   .simp only[h,gE] <;> lia
   .simp only[h,fU] <;> lia
theorem qS(its:List Value)(lo hi:Option Int):slicePick its.toArray lo hi none=((its.drop (HT.dN its.length 0 lo)).take (HT.dN its.length its.length hi-HT.dN its.length 0 lo)).toArray:=by
 obtain⟨h1,h2,h3⟩:=tU lo hi its.toArray.size;unfold slicePick;rw[h1,h2,h3];simp only[sliceRange_one,pick_run,br] <;> rfl
def Oz(K:PySem.W.Frag):V->Option Int->Option Int->Hp->VK->Prop:=fun x lo hi H Q=>∃a xs,x=.ref a/\aM K H a xs/\∀p,H p=none->Q (.ref p) (upd H p (.lst (jR xs lo hi)))
theorem gm:RZ X (Oz X.K):=by
 intro ae s σ H x v vl vu lo hi sl Q I rx hs pl pu h;obtain⟨a,xs,rfl,hx,q⟩:=h;cases rx;obtain⟨its,r,ht,hz⟩:=I.list hx;have dt:=r.length;refine⟨"list",_,slot_list_getitem.lookup,ht.isList.typeIs,?_⟩;refine wpAny_getItem_list_slice ht.isList hs pl pu .none (by simp) ?_ (by rw[br] <;> lia);rw[qS,<-dt];refine⟨.ref s.heap.objs.size,_,I.laid (t':=s.toks) (o:=.lst (jR xs lo hi)) (fun b ob q=>bQ _ q) (aY _) ?_,rfl,q _ (I.bB.fresh (aY _))⟩;exact⟨bj (n5 xs lo hi) hz,_,0,(r.drop (HT.dN xs.length 0 lo)).take (HT.dN xs.length xs.length hi-HT.dN xs.length 0 lo),cE _ rfl⟩
def d_:V->Bool
 |.bE=>true
 |.bl _=>true
 |.int _=>true
 |.str _=>true
 |_=>false
def m6:V->V->Bool
 |.bE,.bE=>true
 |.bl a,.bl b=>a==b
 |.bl a,.int b=>(if a then 1 else 0)==b
 |.int a,.bl b=>a==(if b then 1 else 0)
 |.int a,.int b=>a==b
 |.str a,.str b=>a==b
 |_,_=>false
theorem xX(ry:bn y u)(rx:bn x v)(fy:d_ y=true)(fx:d_ x=true):SeqAt.EqAt A s u v (m6 y x):=by
 cases y with
 |bE=>
  cases ry;cases x with
  |bE=>cases rx;exact SeqAt.EqAt.same _
  |bl b=>cases rx;exact SeqAt.EqAt.none_bool b
  |int b=>obtain⟨t,rfl⟩:=rx;exact SeqAt.EqAt.none_int b t
  |str b=>obtain⟨t,rfl⟩:=rx;exact SeqAt.EqAt.none_str b t
  |_=>exact absurd (show false=true from fx) cm
 |bl a=>
  cases ry;cases x with
  |bE=>cases rx;exact SeqAt.EqAt.bool_none a
  |bl b=>cases rx;exact SeqAt.EqAt.bool_bool a b
  |int b=>obtain⟨t,rfl⟩:=rx;exact SeqAt.EqAt.bool_int a b t
  |str b=>obtain⟨t,rfl⟩:=rx;exact SeqAt.EqAt.bool_str a b t
  |_=>exact absurd (show false=true from fx) cm
 |int a=>
  obtain⟨t',rfl⟩:=ry;cases x with
  |bE=>cases rx;exact SeqAt.EqAt.int_none a t'
  |bl b=>cases rx;exact SeqAt.EqAt.int_bool a t' b
  |int b=>obtain⟨t,rfl⟩:=rx;exact SeqAt.EqAt.int_int a t' b t
  |str b=>obtain⟨t,rfl⟩:=rx;exact SeqAt.EqAt.int_str a t' b t
  |_=>exact absurd (show false=true from fx) cm
 |str a=>
  obtain⟨t',rfl⟩:=ry;cases x with
  |bE=>cases rx;exact SeqAt.EqAt.str_none a t'
  |bl b=>cases rx;exact SeqAt.EqAt.str_bool a t' b
  |int b=>obtain⟨t,rfl⟩:=rx;exact SeqAt.EqAt.str_int a t' b t
  |str b=>obtain⟨t,rfl⟩:=rx;exact SeqAt.EqAt.str_str a t' b t
  |_=>exact absurd (show false=true from fx) cm
 |_=>exact absurd (show false=true from fy) cm
def tV(x:V)(u:Value):Bool:=match u with
 |.none=>m6 .bE x
 |.bool b=>m6 (.bl b) x
 |.int i _=>m6 (.int i) x
 |.str z _=>m6 (.str z) x
 |_=>false
theorem CQ(r:bn y u)(f:d_ y=true):tV x u=m6 y x:=by
 cases y with
 |bE=>cases r;rfl
 |bl b=>cases r;rfl
 |int i=>obtain⟨t,rfl⟩:=r;rfl
 |str z=>obtain⟨t,rfl⟩:=r;rfl
 |_=>exact absurd (show false=true from f) cm
theorem jG:∀ {xs:List V} {us:List Value},aP xs us->xs.all d_=true->us.any (tV x)=xs.any fun y=>m6 y x
 |_,_,.nil,_=>rfl
 |y::xs,u::us,.cons r t,f=>by
  rw[jd,dH] at f;rw[iH,iH,CQ r f.1,jG t f.2]
theorem g_(rx:bn x v)(fx:d_ x=true):∀ {xs:List V} {us:List Value},aP xs us->xs.all d_=true->∀u∈us,SeqAt.EqAt A s u v (tV x u)
 |_,_,.nil,_=>fun u hu=>by cases hu
 |y::xs,u::us,.cons r t,f=>fun u' hu=>by
  rw[jd,dH] at f;rcases aV.mp hu with rfl|hu
  .rw[CQ r f.1];exact xX r rx f.1 fx
  .exact g_ rx fx t f.2 u' hu
def B3(x:V)(xs:List V):Bool:=xs.any fun y=>m6 y x
def R0(K:PySem.W.Frag)(zm:Bool):R2:=fun x y H Q=>∃p xs,y=.ref p/\(aM K H p xs\/bV K H p xs)/\d_ x=true/\xs.all d_=true/\Q (.bl (if zm then !B3 x xs else B3 x xs)) H
theorem rF:jF X (compareOp .In) (R0 X.K false):=by
 intro ae s σ H x y v u Q I rx ry h;obtain⟨p,xs,rfl,hq,fx,fs,q⟩:=h;cases ry;rcases hq with hq|hq
 .obtain⟨its,r,pl,hz⟩:=I.list hq;refine SeqAt.in_listAt (tV x) pl.isList (fun w hw=>g_ rx fx r fs w (by simpa using hw)) ⟨.bl _,H,I,rfl,?_⟩;rw[show its.toArray.any (tV x)=its.any (tV x) by simp,jG r fs];exact q
 .obtain⟨its,r,pl,hz⟩:=I.tuple hq;refine SeqAt.in_tupleAt (tV x) pl (fun w hw=>g_ rx fx r fs w (by simpa using hw)) ⟨.bl _,H,I,rfl,?_⟩;rw[show its.toArray.any (tV x)=its.any (tV x) by simp,jG r fs];exact q
theorem lH:jF X (compareOp .NotIn) (R0 X.K true):=by
 intro ae s σ H x y v u Q I rx ry h;obtain⟨p,xs,rfl,hq,fx,fs,q⟩:=h;cases ry;rcases hq with hq|hq
 .obtain⟨its,r,pl,hz⟩:=I.list hq;refine SeqAt.notIn_listAt (tV x) pl.isList (fun w hw=>g_ rx fx r fs w (by simpa using hw)) ⟨.bl _,H,I,rfl,?_⟩;rw[show its.toArray.any (tV x)=its.any (tV x) by simp,jG r fs];exact q
 .obtain⟨its,r,pl,hz⟩:=I.tuple hq;refine SeqAt.notIn_tupleAt (tV x) pl (fun w hw=>g_ rx fx r fs w (by simpa using hw)) ⟨.bl _,H,I,rfl,?_⟩;rw[show its.toArray.any (tV x)=its.any (tV x) by simp,jG r fs];exact q
theorem az:eX X (.builtin "len") (fun xs H Q=>∃p ys,xs=[.ref p]/\(aM X.K H p ys\/bV X.K H p ys)/\Q (.int ys.length) H):=by
 intro ae s σ H xs us Q I r h;obtain⟨p,ys,rfl,hq,q⟩:=h;obtain⟨u,rfl,rx⟩:=zh r;cases rx;have hn:=tQ;rcases hq with hq|hq
 .obtain⟨its,r',pl,hz⟩:=I.list hq;have dt:=r'.length;exact Calls.call_len_list pl.isList (by simp only[br] <;> lia) ⟨.int ys.length,H,I.tok _,⟨s.toks+1,by rw[br,dt]⟩,q⟩
 .obtain⟨its,r',pl,hz⟩:=I.tuple hq;have dt:=r'.length;exact len_tuple pl (by simp only[br] <;> lia) ⟨.int ys.length,H,I.tok _,⟨s.toks+1,by rw[br,dt]⟩,q⟩
theorem fH:eX X (.type "list") (fun xs H Q=>∃p ys,xs=[.ref p]/\(aM X.K H p ys\/bV X.K H p ys)/\∀l,H l=none->Q (.ref l) (upd H l (.lst ys))):=by
 intro ae s σ H xs us Q I r h;obtain⟨p,ys,rfl,hq,q⟩:=h;obtain⟨u,rfl,rx⟩:=zh r;cases rx;have cZ:∀ (its:List Value),aP ys its->ys.length<=sizeLine->∀ (h':Heap) (c':Nat),(∀b o',s.heap.get? b=some o'->h'.get? b=some o')->
   h'.get? s.heap.objs.size=some { cls:=.type "list",dict:=none,data:=.seq its.toArray c',slots:=#[] }->EP X ae σ Q (.ref s.heap.objs.size) { s with heap:=h' }:=fun its r' hz h' c' kp e=>
  ⟨.ref s.heap.objs.size,_,I.laid (t':=s.toks) kp (aY _) (show bX X.prog X.w _ h' _ (.lst ys) from ⟨hz,its,c',r',e⟩),rfl,q _ (I.bB.fresh (aY _))⟩
 rcases hq with hq|hq
 .obtain⟨its,r',pl,hz⟩:=I.list hq;have dt:=r'.length;obtain⟨o,ho,hc,n,hd⟩:=pl.isList;exact call_list_seq p (.inl rfl) ho hc hd (fun h' c' kp e=>cZ its r' hz h' c' kp e) (by simp only[br] <;> lia)
 .obtain⟨its,r',pl,hz⟩:=I.tuple hq;have dt:=r'.length;obtain⟨o,ho,hc,n,hd⟩:=pl;exact call_list_seq p (.inr rfl) ho hc hd (fun h' c' kp e=>cZ its r' hz h' c' kp e) (by simp only[br] <;> lia)
theorem fg:eX X (.type "tuple") (fun xs H Q=>∃p ys,xs=[.ref p]/\((aM X.K H p ys/\∀l,H l=none->Q (.ref l) (upd H l (.tup ys)))\/(bV X.K H p ys/\Q (.ref p) H))):=by
 intro ae s σ H xs us Q I r h;obtain⟨p,ys,rfl,h⟩:=h;obtain⟨u,rfl,rx⟩:=zh r;cases rx;rcases h with ⟨hq,q⟩|⟨hq,q⟩
 .obtain⟨its,r',pl,hz⟩:=I.list hq;have dt:=r'.length;refine call_tuple_list pl.isList (fun h' kp=>?_) (by simp only[br] <;> lia);have I1:aD X ae σ H { s with heap:=h' }:=I.kept (t':=s.toks) kp;have I2:aD X ae σ (upd H h'.objs.size (.tup ys)) { s with heap:=h'.push { cls:=.type "tuple",data:=.seq its.toArray } }:=
   I1.laid (t':=s.toks) (fun b o e=>bQ _ e) (aY _) (show bX X.prog X.w _ _ _ (.tup ys) from ⟨hz,its,r',ii.new _ _⟩)
  exact⟨.ref h'.objs.size,_,I2,rfl,q _ (I1.bB.fresh (aY _))⟩
 .obtain⟨its,r',pl,hz⟩:=I.tuple hq;exact call_tuple_same pl ⟨.ref p,H,I,rfl,q⟩
def XS(K:PySem.W.Frag)(T:String)(x:V)(H:Hp):Prop:=match x with
 |.str _=>T="str"
 |.int _=>T="int"
 |.ref p=>(T="list"/\∃xs,aM K H p xs)\/(T="tuple"/\∃o,K.lookup p=some o/\o.cls=.type "tuple"/\o.dict=none)\/
   (T="dict"/\((∃bb,H p=some (.dK bb))\/∃bb,H p=some (.dT bb)))\/(T="set"/\∃S n,H p=some (.set S n))
 |_=>False
theorem Kx(I:aD X ae σ H s)(r:bn x v)(ty:XS X.K T x H):
  s.TypeIs v T/\∀a,v=.ref a->∃ob,s.heap.get? a=some ob/\ob.dict=none:=by
 cases x with
 |str z=>
  obtain⟨t,rfl⟩:=r;cases (show T="str" from ty);exact⟨typeIs_str s z t,fun _ e=>nomatch e⟩
 |int i=>
  obtain⟨t,rfl⟩:=r;cases (show T="int" from ty);exact⟨typeIs_int s i t,fun _ e=>nomatch e⟩
 |ref p=>
  cases r;rcases ty with ⟨rfl,xs,hq⟩|⟨rfl,o,hk,hc,hd⟩|⟨rfl,hk⟩|⟨rfl,S,n,hk⟩
  .obtain⟨its,_,pl,_⟩:=I.list hq;refine⟨pl.isList.typeIs,fun a e=>?_⟩;cases e;obtain⟨o,n,e,c,hd,_⟩:=pl;exact⟨o,e,hd⟩
  .refine⟨⟨o,I.jW p o hk,hc⟩,fun a e=>?_⟩;cases e;exact⟨o,I.jW _ o hk,hd⟩
  .have z:∃o,s.heap.get? p=some o/\o.ExactDict:=by
    rcases hk with ⟨bb,hk⟩|⟨bb,hk⟩
    .obtain⟨_,_,_,_,o,_,_,e,ex,_⟩:=I.bB p _ hk;exact⟨o,e,ex⟩
    .obtain⟨_,_,_,_,o,_,_,e,ex,_⟩:=I.bB p _ hk;exact⟨o,e,ex⟩
   obtain⟨o,e,ex⟩:=z;refine⟨⟨o,e,ex.1⟩,fun a e2=>?_⟩;cases e2;exact⟨o,e,ex.2.1⟩
  .obtain⟨o,_,_,_,e,ex,_⟩:=I.bB p _ hk;refine⟨⟨o,e,ex.1⟩,fun a e2=>?_⟩;cases e2;exact⟨o,e,ex.2.1⟩
 |_=>exact False.elim ty
def Z0(K:PySem.W.Frag)(T:String)(r:V->List V->Hp->VK->Prop)(to:TE)(t:TA):TE:=fun σ H Q=>to σ H fun x H1=>XS K T x H1/\t σ H1 fun xs H2=>r x xs H2 Q
variable {o e:Expr} {es:List Expr} {to:TE} {t:TA} {name:Str} {kF jp:Pos} {T id:String} {r:V->List V->Hp->VK->Prop}
theorem iJ(pa:PlainAttrs T)(slot:Slot T name id)(T7:typeOf (.builtin id)=pure (.type "method_descriptor"))(hm:XR X id r)(ho:PE X o to)(ha:PA X (e::es) t)(CS:attributeBase o name X.env (eval o X.env)=eval o X.env:=by rfl)(FV:((backTo jp (starEach (e::es) X.env)).all (fun x=>!x.1)&&(backToKw jp (keywordEach [] X.env)).all (fun x=>x.1.isSome)
   && decide ((e::es).length+([]:List Keyword).length+(if ([]:List Keyword).isEmpty then 0 else 1)<30))=true:=by rfl)(CU:(kF.endLine==jp.line)=true:=by rfl)(hs:starEach (e::es) X.env=(false,eval e X.env)::starEach es X.env:=by rfl)(p7:(backTo jp (starEach es X.env)).any (·.1)=false:=by rfl):
  PE X (.Call (.Attribute o name kF) (e::es) [] jp) (Z0 X.K T r to t):=by
 intro ae s σ H Q I h;refine wpAny_Call_method_late CS FV CU rfl (b_ (ho ae s σ H _ I h) fun v s1 ⟨x,H1,I1,r1,ty,q1⟩=>?_);obtain⟨h1,h2⟩:=Kx I1 r1 ty;refine⟨T,id,pa,slot,T7,h1,h2,?_⟩;have hA:=ha jp ae s1 σ H1 _ I1 q1;rw[hs] at hA |-;refine Calls.callWith_builtin (by show (false||(backTo jp (starEach es X.env)).any (·.1))=false;rw[p7] <;> rfl) (Calls.evalArgs_plain ?_);exact b_ hA fun us s2 ⟨vs,H2,I2,r2,q2⟩=>hm ae s2 σ H2 x vs v us Q I2 r1 r2 q2
end
def R1(X:Cx)(id:String)(r:V->List V->Hp->VK->Prop):Prop:=
 ∀ (ae:List (Addr×Obj)) (s:Shared) (σ:St) (H:Hp) (x:V) (xs:List V) (v:Value) (us:List Value) (Q:VK),aD X ae σ H s->bn x v->aP xs us->r x xs H Q->
  wpAny (model X.prog X.w) X.A (call (.builtin id) (v::us)) (EP X ae σ Q) X.xe s
theorem aP.one{x:V}{us:List Value}(h:aP [x] us):∃u,us=[u]/\bn x u:=by
 cases h with
 |cons r h=>cases h;exact⟨_,rfl,r⟩
theorem aP.two{x y:V}{us:List Value}(h:aP [x,y] us):∃u v,us=[u,v]/\bn x u/\bn y v:=by
 cases h with
 |cons r h=>
  cases h with
  |cons q h=>cases h;exact⟨_,_,rfl,r,q⟩
theorem aP.eraseIdx:∀ {xs:List V} {us:List Value} (i:Nat),aP xs us->aP (xs.eraseIdx i) (us.eraseIdx i)
 |_,_,_,.nil=>.nil
 |_,_,0,.cons _ t=>t
 |_,_,i+1,.cons r t=>.cons r (aP.eraseIdx i t)
theorem aP.rep(h:aP xs us):∀k:Nat,aP (List.replicate k xs).flatten (List.replicate k us).flatten
 |0=>.nil
 |k+1=>by
  rw[j9,j9,pr,pr];exact aP.append h (aP.rep h k)
theorem rG:∀ (l:List α) (i:Nat),(l.eraseIdx i).length<=l.length
 |[],_=>aY _
 |_::_,0=>pQ _
 |_::r,i+1=>xm (rG r i)
theorem m9(its:List Value):∀ (k:Nat) (dq:List Value),
  List.foldl (fun x1 x2=>x1++x2) dq.toArray (List.replicate k its.toArray)=(dq++(List.replicate k its).flatten).toArray
 |0,dq=>by simp
 |k+1,dq=>by
  have e:dq.toArray++its.toArray=(dq++its).toArray:=by simp
  have e2:(dq++its)++(List.replicate k its).flatten=dq++(List.replicate (k+1) its).flatten:=by
   rw[j9,pr,cG]
  rw[<-e2,<-m9 its k (dq++its),<-e,j9,iX]
section
variable {X:Cx} {ae:List (Addr×Obj)} {σ:St} {H:Hp} {s:Shared} {l b:Addr} {xs ys zs:List V}
theorem aD.Ky{its its':List Value}{n:Nat}{f:Array Value->Array Value}{t':Nat}(I:aD X ae σ H s)(hH:H l=some (.lst xs))(e:s.heap.get? l=some { cls:=.type "list",data:=.seq its.toArray n })(hf:f its.toArray=its'.toArray)(hv:aP ys its')(hz:ys.length<=sizeLine):
  aD X ae σ (upd H l (.lst ys)) { s with heap:=s.heap.update l (Obj.mapSeq f),toks:=t' }:=by
 have q:=PySem.IsL.update e f;rw[hf] at q;refine I.write (x:=l) (e:=l) (by rw[hH];exact trivial) (.inl rfl) (fun b' u hb hu=>(w_ s.heap (Obj.mapSeq f) (gG hb)).trans hu) ⟨_,q⟩ ?_;exact⟨hz,its',_,hv,q⟩
theorem aD.OA(I:aD X ae σ H s)(hv:aP ys its)(hz:ys.length<=sizeLine):
  aD X ae σ (upd H s.heap.objs.size (.lst ys)) { s with heap:=s.heap.push { cls:=.type "list",data:=.seq its.toArray },toks:=t' }:=
 I.laid (fun _ _ q=>bQ _ q) (aY _) ⟨hz,its,0,hv,cE _ rfl⟩
theorem aD.fresh(I:aD X ae σ H s):H s.heap.objs.size=none:=I.bB.fresh (aY _)
theorem aD.xY(I:aD X ae σ H s)(hH:H l=some (.lst xs)):xs.length<=sizeLine/\∃ (its:List Value) (n:Nat),aP xs its/\xs.length=its.length/\s.heap.get? l=some { cls:=.type "list",data:=.seq its.toArray n }:=by
 obtain⟨z,its,n,r,e⟩:=I.bB l _ hH;exact⟨z,its,n,r,r.length,e⟩
theorem CV(h:n<=sizeLine):Builtin.List.listTooLong n=false:=by
 unfold Builtin.List.listTooLong;exact cM (by lia)
end
section
variable {X:Cx}
def zn:V->List V->Hp->VK->Prop:=fun x vs H Q=>∃l xs y,x=.ref l/\vs=[y]/\H l=some (.lst xs)/\xs.length<sizeLine/\Q .bE (upd H l (.lst (xs++[y])))
theorem dv:R1 X "list.append" zn:=by
 intro ae s σ H x vs v us Q I rx rv h;obtain⟨l,xs,y,rfl,rfl,hH,hz,q⟩:=h;cases rx;obtain⟨u,rfl,ru⟩:=rv.one;obtain⟨z,its,n,r,hl,e⟩:=I.xY hH;refine mN F.slot_list_append ⟨_,e,rfl⟩ F.entry_list_append (F.args_list_append_2 _ _) (PySem.list_append l its.toArray n u (by rw[br];lia)) ⟨e,?_⟩;refine⟨.bE,_,I.Ky (its':=its++[u]) hH e (by simp) (r.append (.cons ru .nil)) ?_,rfl,q⟩;rw[cV,List.length_singleton];lia
def FW:V->List V->Hp->VK->Prop:=fun x vs H Q=>∃l b xs zs,x=.ref l/\vs=[.ref b]/\H l=some (.lst xs)/\H b=some (.lst zs)/\xs.length+zs.length<=sizeLine/\Q .bE (upd H l (.lst (xs++zs)))
theorem rH:R1 X "list.extend" FW:=by
 intro ae s σ H x vs v us Q I rx rv h;obtain⟨l,b,xs,zs,rfl,rfl,hH,hB,hz,q⟩:=h;cases rx;obtain⟨u,rfl,ru⟩:=rv.one;cases ru;obtain⟨z,its,n,r,hl,e⟩:=I.xY hH;obtain⟨z2,iQ,n2,r2,CW,e2⟩:=I.xY hB;have hsz:its.toArray.size+iQ.toArray.size<=sizeLine:=by rw[br,br];lia
 have OB:¬ (!its.toArray.isEmpty&&Builtin.List.listTooLong (its.toArray.size+iQ.toArray.size))=true:=by
  rw[CV hsz,Bool.and_false];exact cm
 refine mN F.slot_list_extend ⟨_,e,rfl⟩ F.entry_list_extend (F.args_list_extend_2 _ _)
  (AutoSeq1.list_extend_list_list_0 l its.toArray n b iQ.toArray n2 OB (by rw[br];lia) (by lia)) ⟨e,e2,?_⟩
 refine⟨.bE,_,I.Ky (its':=its++iQ) hH e (by simp) (r.append r2) ?_,rfl,q⟩;rw[cV];lia
def Kz:V->List V->Hp->VK->Prop:=fun x vs H Q=>∃l xs i k y,x=.ref l/\vs=[.int i]/\H l=some (.lst xs)/\-(2 ^ 63)<=i/\i<2 ^ 63/\seqIndex? i xs.length=some k/\xs[k]?=some y/\Q y (upd H l (.lst (xs.eraseIdx k)))
theorem CZ:R1 X "list.pop" Kz:=by
 intro ae s σ H x vs v us Q I rx rv h;obtain⟨l,xs,i,k,y,rfl,rfl,hH,h1,h2,hk,hy,q⟩:=h;cases rx;obtain⟨u,rfl,ru⟩:=rv.one;obtain⟨t,rfl⟩:=ru;obtain⟨z,its,n,r,hl,e⟩:=I.xY hH;obtain⟨w,hw,qR⟩:=r.get hy;refine mN F.slot_list_pop ⟨_,e,rfl⟩ F.entry_list_pop (F.args_list_pop_2 _ _)
  (MeetsSeq.list_pop_at l its.toArray n i t k w (fitsIndex_both h1 h2) (by rw[br,<-hl];exact hk) (by rw[<-mm];exact hw) (by rw[br];lia)) ⟨e,?_⟩
 refine⟨y,_,I.Ky (its':=its.eraseIdx k) hH e ?_ (r.eraseIdx k) ?_,qR,q⟩
 .show its.toArray.eraseIdxIfInBounds k=(its.eraseIdx k).toArray;rw[List.eraseIdxIfInBounds_toArray]
 .have:=rG xs k;lia
def T8:R2:=fun x y H Q=>∃l b xs zs,x=.ref l/\y=.ref b/\H l=some (.lst xs)/\H b=some (.lst zs)/\xs.length+zs.length<=sizeLine/\∀p,H p=none->Q (.ref p) (upd H p (.lst (xs++zs)))
theorem C0:jF X (binaryOp .Add) T8:=by
 intro ae s σ H x y v u Q I rx ry h;obtain⟨l,b,xs,zs,rfl,rfl,hH,hB,hz,q⟩:=h;cases rx;cases ry;obtain⟨z,its,n,r,hl,e⟩:=I.xY hH;obtain⟨z2,iQ,n2,r2,CW,e2⟩:=I.xY hB;refine PySem.P.add_list e e2 ?_ (by rw[br,br];lia);have ea:its.toArray++iQ.toArray=(its++iQ).toArray:=by simp
 rw[ea];exact⟨.ref _,_,I.OA (t':=s.toks) (r.append r2) (by rw[cV];lia),rfl,q _ I.fresh⟩
theorem zo(xs:List α)(k:Nat):(List.replicate k xs).flatten.length=k*xs.length:=by
 induction k with
 |zero=>simp
 |succ k ih=>rw[j9,pr,cV,ih,Nat.succ_mul,Nat.add_comm]
end
section
variable {prog:Program} {w:World} {A:Around} {E:Value->Shared->Prop} {s:Shared}
end
section
variable {X:Cx}
end
end L2
namespace XT
open PySem PySem.W PySem.Calls PyProof.Rows
theorem ot:∀ (ns:List Int) (vs:List Value),WellAll P h vs (ns.map WData.int)->IntsAre vs ns:=by
 intro ns;induction ns with
 |nil=>
  intro vs w;rw[tK] at w;cases w;exact .nil
 |cons n ns ih=>
  intro vs w;rw[dS] at w;cases w with
  |cons a b=>
   cases a;exact .cons _ _ (ih _ b)
theorem AT{l:OpenLaw}{n:Nat}(hn:l.most=some n){P:Params}{h:Heap}{args:List WData}{C1:List Value}(FX:l.row.toRowW.claim.pre args=true)(T9:WellAll P h C1 args):
  ∃a vs ns,C1=[Value.ref a]/\args=[WData.list (ns.map WData.int)]/\h.get? a=some { cls:=.type "list",data:=.seq vs.toArray }/\IntsAre vs ns/\ns.length<=n:=by
 have Z1:WShape.hasAll [] args [.list .int]=true:=(pre_splitW FX).1;have hc:l.pre.holds [] { args:=args }=true:=(pre_splitW FX).2;obtain⟨d,r,rfl,h1,h2⟩:=hasAllW_cons Z1;obtain rfl:=hasAllW_nil h2;obtain⟨xs,rfl,h3⟩:=hasW_list h1;obtain⟨ns,rfl⟩:=items_int h3;have dt:ns.length<=n:=by
  unfold OpenLaw.pre at hc;have h4:(WTm.not (.lt (.lit (.int (n:Int))) (.len (.arg 0)))).holds [] { args:=[.list (ns.map .int)] }=true:=by
   have h4:=(holds_andW hc).1;rw[hn] at h4;exact h4
  have h5:=condW_of h4 (w_not (w_lt w_lit (w_len_list (w_arg rfl))));rw[aJ] at h5;refine Nat.le_of_not_lt fun q=>?_;have q':(n:Int)<((ns.length:Nat):Int):=by lia
  first
   |(rw[cR q'] at h5;exact absurd h5 (by decide))
   |(simp at h5;lia)
 cases T9 with
 |cons w1 w2=>
  cases w2;cases w1 with
  |list ho qT=>exact⟨_,_,ns,rfl,rfl,ho,ot ns _ qT,dt⟩
theorem AU(l:OpenLaw)(args:List WData):l.row.toRowW.claim.post args (.bool true) args=true:=
 postW_of (r:=l.row.toRowW) (X:=(true==true))
  (show WShape.has [] (.bool true) .bool=true by first|rfl|decide|simp[WShape.has,WShape.arms,WShape.armsAll])
  (show (WTm.eq .res (.lit (.bool true))).value [] { args:=args,res:=some (.bool true),after:=args }=some (.bool (true==true)) from w_eq_bool (w_res rfl) w_lit) rfl
theorem vi{l:OpenLaw}{n:Nat}{q:Program}{rJ:List Str}{XP:(Str->Option Value)->Heap->Prop}{YP:World->Heap->Prop}{d:DefRec}(hn:l.most=some n)(OC:d.params.defaults=[])(call:∀ (w:World) (s₀ s₁:Shared) (mg mb:Str->Option Value) (fa:Addr) (o:Obj) (pm cd lE:Value) (a:Addr) (vs:List Value) (ns:List Int),
   Ground q rJ [] XP w s₀ mg mb s₁.heap->YP w s₁.heap->
   s₁.heap.get? fa=some o->o.data=.func (docDef d.name d.params d.body d.scope pm cd lE)->s₁.heap.CodeRec cd d.name->mg d.name=some (.ref fa)->
   s₁.heap.get? a=some { cls:=.type "list",data:=.seq vs.toArray }->IntsAre vs ns->ns.length<=n->s₁.gens=#[]->
   codeAny (model l.prog w) callerA (.call (.ref fa) ⟨[.ref a],[]⟩) (fun r s'=>r=.ok (.ret (.bool true))/\OldK s₁.heap s'.heap/\s'.os=s₁.os/\AllBare s'.gens) s₁):
  WalkO q rJ XP YP l.row.toRowW d [] (fun f vs=>PySem.call f vs):=by
 intro w s₀ s₁ mg mb G Y fa o pm cd lE dV kV ho hd rn hD OD hg args C1 as FX Z2 hrd T9 R3;obtain rfl:dV=.none:=Dflts.none hD OC;obtain rfl:kV=.none:=Dflts.noKw hD;obtain⟨a,vs,ns,rfl,rfl,KA,C2,dt⟩:=AT hn FX T9;refine enter_call (kq (call w s₀ s₁ mg mb fa o pm cd lE a vs ns G Y ho (fd_plain hd) rn OD KA C2 dt hg) fun r s' hq=>?_);obtain⟨rfl,h2,h3,h4⟩:=hq;exact⟨.inl ⟨.bool true,.bool true,[],rfl,fun _=>rfl,.bool true,AU l _,fun _=>⟨List.Pairwise.nil,fun _ hm=>(nomatch hm)⟩⟩,h2,h3,h4⟩
section
variable {prog:Program} {w:World} {A:Around} {E:Value->Shared->Prop} {s:Shared} {K:Frag}
end
end XT
namespace L2
open PySem PySem.Spec PyProof.Rows
theorem rK:∀ {vs:List Value} {ns:List Int},IntsAre vs ns->aP (ns.map V.int) vs
 |_,_,.nil=>.nil
 |_,_,.cons n t h=>.cons ⟨t,rfl⟩ (rK h)
def gn(s:Stmt)(j:Nat):Stmt:=match s with
 |.ClassDef _ _ _ body _ _ _ _ _ _ _=>body.getD j (.Pass ⟨0,0,0,0⟩)
 |_=>.Pass ⟨0,0,0,0⟩
def cJ(s:Stmt):Arguments:=match s with
 |.FunctionDef _ a _ _ _ _ _ _ _ _=>a
 |_=>{ posonlyargs:=[],args:=[],vararg:=none,kwonlyargs:=[],kw_defaults:=[],kwarg:=none,defaults:=[] }
def bA(s:Stmt):List Stmt:=match s with
 |.FunctionDef _ _ b _ _ _ _ _ _ _=>b
 |_=>[]
def ap(s:Stmt):Scope:=match s with
 |.FunctionDef _ _ _ _ _ _ sc _ _ _=>sc
 |_=>{ kind:=.function,names:=[],isGenerator:=false,isCoroutine:=false }
abbrev bf:wF:=fun _ _ _ _ _ _=>False
abbrev E0:XK:=fun _ _ _=>False
theorem aI:jo bf X E0:=fun _ _ _ _ _ _ _ h=>h.elim
structure fJ(K:PySem.W.Frag)(x qual:Str)(st:Stmt)(f:Addr)(fd:FuncData):Prop where
 ex:∃ (oc:Value) (od:Option Addr) (kV lE pm:Value) (an:Option Addr) (dU ct:Value) (u5:Array (Option Value)),
  fd=PySem.W.fnOf x qual (cJ st) (bA st) (ap st) .none kV lE pm an dU ct/\K.lookup f=some ⟨oc,od,.func fd,u5⟩/\PySem.W.codeIn K dU qual=true
 kp:PySem.W.keepIn K (.ref f)=true
section
variable {P:Program} {w:World} {K:PySem.W.Frag} {mg:Str->Option Value} {base:Heap}
theorem fJ.ok{x qual:Str}{st:Stmt}{f:Addr}{fd:FuncData}{N ps:List Str}{k:Nat}{sp:Sp}(F:fJ K x qual st f fd)(S:aE N ps (ap st))(len:∀vs H Q E,sp vs H Q E->vs.length=ps.length)(vh:∀ (dU:Value) (A:Around) (outer:List Env) (s:Shared) (H:Hp) (vs:List V) (Q:VK) (E:XK),b9 k (A.deeper (envOfC qual (ap st) s.heap.objs.size f dU))->sp vs H Q E->
   ∃t,xA (tS bf P w K mg base N qual (ap st) f dU A outer s H E).IQ (bA st) t/\t { nx:=fun _ H'=>Q .bE H',rt:=Q } (start N vs) H):bz P w K mg base bf (k+1) f fd ps sp:=by
 obtain⟨oc,od,kV,lE,pm,an,dU,ct,u5,rfl,lk,rn⟩:=F.ex;refine IX lk rn S len fun A outer s H vs Q E hr Fo=>?_;obtain⟨t,h,q⟩:=vh dU A outer s H vs Q E hr Fo;exact⟨t,h.IQ,q⟩
theorem fJ.binds{x qual:Str}{st:Stmt}{f:Addr}{fd:FuncData}{ps:List Str}(F:fJ K x qual st f fd)(h:∀ (kV lE pm:Value) (an:Option Addr) (dU ct:Value) (us:List Value),us.length=ps.length->bindArgs (PySem.W.fnOf x qual (cJ st) (bA st) (ap st) .none kV lE pm an dU ct) ⟨us,[]⟩=pure (ps.zip us)):iI K fd ps []:=by
 obtain⟨oc,od,kV,lE,pm,an,dU,ct,u5,rfl,lk,rn⟩:=F.ex;exact .all (h kV lE pm an dU ct)
theorem tW{x qual:Str}{st:Stmt}{f:Addr}{oc:Value}{od an:Option Addr}{u5:Array (Option Value)}{kV lE pm dU ct:Value}(l:K.lookup f=some ⟨oc,od,.func (PySem.W.fnOf x qual (cJ st) (bA st) (ap st) .none kV lE pm an dU ct),u5⟩)(c:PySem.W.codeIn K dU qual=true)(k:PySem.W.keepIn K (.ref f)=true):fJ K x qual st f (PySem.W.fnOf x qual (cJ st) (bA st) (ap st) .none kV lE pm an dU ct):=⟨⟨oc,od,kV,lE,pm,an,dU,ct,u5,rfl,l,c⟩,k⟩
end
section
variable {X:Cx}
theorem pv(i:Nat)(hN:X.N[i]?=some x:=by rfl)(hv:N4 X.env.scope x:=by first|exact Or.inl rfl|exact Or.inr (Or.inl rfl)|exact Or.inr (Or.inr rfl))(hd:(x==("__debug__":Str))=false:=by decide)(rn:(x==("__classdict__":Str))=false:=by decide):PE X (.Name x pos) (aW i):=J_ hN hv hd rn
end
theorem gg{A B:Prop}(h:B):if false=true then A else B:=by
 rw[am cm];exact h
theorem C3{A B:Prop}(h:A):if true=true then A else B:=by
 rw[if_pos rfl];exact h
theorem gK{c A B:Prop}[Decidable c](h1:c->A)(h2:¬ c->B):if c then A else B:=by
 by_cases h:c
 .rw[if_pos h];exact h1 h
 .rw[am h];exact h2 h
def aF(H H':Hp):Prop:=∀b o,H b=some o->H' b=some o
theorem aF.refl(H:Hp):aF H H:=fun _ _ h=>h
theorem aF.trans(a:aF H H1)(b:aF H1 H2):aF H H2:=fun c o h=>b c o (a c o h)
theorem aF.free(e:aF H H')(h:H' l=Option.none):H l=Option.none:=by
 cases q:H l with
 |none=>rfl
 |some o=>
  rw[e l o q] at h;cases h
def IY(src:List (Option Nat))(σ:St):St:=src.map fun o=>match o with|some j=>σ.getD j none|none=>none
theorem FY{src:List (Option Nat)}{σ:St}{i:Nat}{v:V}(h:(IY src σ)[i]?=some (some v)):∃j,src[i]?=some (some j)/\σ[j]?=some (some v):=by
 unfold IY at h;rw[cw] at h;cases e:src[i]? with
 |none=>rw[e] at h;cases h
 |some o=>
  rw[e] at h;cases o with
  |none=>cases h
  |some j=>
   refine⟨j,rfl,?_⟩;have h':σ.getD j none=some v:=be h;rw[aT] at h';cases e2:σ[j]? with
   |none=>rw[e2] at h';cases h'
   |some o=>rw[e2] at h';rw[show o=some v from h']
structure fY(NB:List Str)(src:List (Option Nat))(scope:Scope)(X:Cx):Prop where
 kind:scope.kind=.function
 nd:NB.Nodup
 len:src.length=NB.length
 cells:∀y∈scope.names,y.2=.cell->scope.names.lookup y.1=some .cell
 names:∀y∈scope.names,y.2=.local->scope.names.lookup y.1=some .local
 free:∀y∈scope.names,y.2=.free->X.env.scope.names.lookup y.1=some .cell\/X.env.scope.names.lookup y.1=some .free
 src:∀ (i:Nat) (x:Str) (j:Nat),NB[i]?=some x->src[i]?=some (some j)->X.N[j]?=some x/\scope.names.lookup x=some .free
def tX(scope:Scope)(x:Str):Bool:=match scope.names.lookup x with
 |some .cell=>true
 |_=>false
theorem vj:tX scope x=true↔scope.names.lookup x=some .cell:=by
 unfold tX;split
 .rename_i h;exact⟨fun _=>h,fun _=>rfl⟩
 .rename_i h;exact⟨fun z=>(by cases z),fun z=>absurd z h⟩
def zq(X:Cx)(NB:List Str)(scope:Scope)(cl:List (Str×Addr))(C:Addr)(s₃:Shared)(H₃:Hp)(fp:List Addr):Cx:=
 { X with N:=NB,s₀:=s₃,H₀:=H₃,env:=compEnvC scope cl C X.env,outer:=X.stack,stack:=X.stack,ex:=fp,fn:=tX scope,pn:=[],xe:=fun _ _=>False }
theorem kG:∀ (names:List (Str×NameKind)) (dq:List (Str×Addr)),(∀y∈names,y.2=NameKind.free->∃c,env.cells.lookup y.1=some c)->(∀x c,dq.lookup x=some c->env.cells.lookup x=some c)->
  ∃cl,(forIn names dq fun x r=>(if (x.2==NameKind.free)=true then (do let a <- cellOf env x.1;pure (ForInStep.yield ((x.1,a)::r))) else pure (ForInStep.yield r):Sem (ForInStep (List (Str×Addr)))))=(pure cl:Sem (List (Str×Addr)))/\
   (∀x c,cl.lookup x=some c->env.cells.lookup x=some c)/\(∀x c,dq.lookup x=some c->∃c',cl.lookup x=some c')/\∀x,(x,NameKind.free)∈names->∃c,cl.lookup x=some c
 |[],dq,_,ha=>⟨dq,by rw[tw],ha,fun x c h=>⟨c,h⟩,fun x h=>nomatch h⟩
 |(n,k)::r,dq,hf,ha=>by
  by_cases hk:k=NameKind.free
  .subst hk;obtain⟨c,hc⟩:=hf (n,NameKind.free) bK rfl;have T_:∀x c',((n,c)::dq).lookup x=some c'->env.cells.lookup x=some c':=fun x c' h=>by
    rw[eS] at h;cases hx:x==n with
    |true=>
     rw[hx] at h;cases h;have:x=n:=by simpa using hx
     rw[this];exact hc
    |false=>rw[hx] at h;exact ha x c' h
   obtain⟨cl,e1,e2,e3,e4⟩:=kG r ((n,c)::dq) (fun y hy=>hf y (bZ _ hy)) T_;refine⟨cl,?_,e2,fun x c' h=>?_,fun x h=>?_⟩
   .rw[s_];have ec:cellOf env n=pure c:=by unfold cellOf;rw[hc]
    have e0:(if ((n,NameKind.free).2==NameKind.free)=true then (do let a <- cellOf env (n,NameKind.free).1;pure (ForInStep.yield (((n,NameKind.free).1,a)::dq))) else pure (ForInStep.yield dq):Sem (ForInStep (List (Str×Addr))))=pure (ForInStep.yield ((n,c)::dq)):=by
     rw[if_pos (show (NameKind.free==NameKind.free)=true by decide)];show cellOf env n >>= _=_;rw[ec];rfl
    rw[e0];exact e1
   .cases hx:x==n with
    |true=>exact e3 x c (by rw[eS,hx])
    |false=>exact e3 x c' (by rw[eS,hx];exact h)
   .rcases aV.mp h with h|h
    .cases h;exact e3 n c (by rw[eS];simp)
    .exact e4 x h
  .obtain⟨cl,e1,e2,e3,e4⟩:=kG r dq (fun y hy=>hf y (bZ _ hy)) ha;refine⟨cl,?_,e2,e3,fun x h=>?_⟩
   .rw[s_];have hb:(k==NameKind.free)=false:=by simpa using hk
    have e0:(if ((n,k).2==NameKind.free)=true then (do let a <- cellOf env (n,k).1;pure (ForInStep.yield (((n,k).1,a)::dq))) else pure (ForInStep.yield dq):Sem (ForInStep (List (Str×Addr))))=pure (ForInStep.yield dq):=by
     rw[am (by show ¬ (k==NameKind.free)=true;rw[hb];decide)]
    rw[e0];exact e1
   .rcases aV.mp h with h|h
    .cases h;exact absurd rfl hk
    .exact e4 x h
theorem kH(ok:X.Ok)(S:fY NB src scope X):
  ∃cl,closureFor scope X.env=pure cl/\(∀x c,cl.lookup x=some c->X.env.cells.lookup x=some c)/\∀x,(x,NameKind.free)∈scope.names->∃c,cl.lookup x=some c:=by
 obtain⟨cl,e1,e2,_,e4⟩:=kG (env:=X.env) scope.names [] (fun y hy hk=>ok.has y.1 (S.free y hy hk)) (fun x c h=>nomatch h);refine⟨cl,?_,e2,e4⟩;unfold closureFor;simp only[bind_pure];exact e1
theorem tY(h:scope.names.lookup x=some .free):(relabel scope env).names.lookup x=some .cell\/(relabel scope env).names.lookup x=some .free:=by
 have go:∀names:List (Str×NameKind),names.lookup x=some .free->
   (names.map fun (n,k)=>if (k==NameKind.free&&env.scope.kind==.function&&env.kindOf n==some .cell) then (n,NameKind.cell) else (n,k)).lookup x=some .cell\/
   (names.map fun (n,k)=>if (k==NameKind.free&&env.scope.kind==.function&&env.kindOf n==some .cell) then (n,NameKind.cell) else (n,k)).lookup x=some .free:=by
  intro names;induction names with
  |nil=>intro h;simp at h
  |cons y r ih=>
   intro h;obtain⟨n,k⟩:=y;rw[eS] at h;rw[dS];cases hx:x==n with
   |true=>
    rw[hx] at h;cases h;by_cases hc:(NameKind.free==NameKind.free&&env.scope.kind==.function&&env.kindOf n==some .cell)=true
    .left;show List.lookup x ((if _ then _ else _)::_)=_;rw[if_pos hc,eS,hx]
    .right;show List.lookup x ((if _ then _ else _)::_)=_;rw[am hc,eS,hx]
   |false=>
    rw[hx] at h;by_cases hc:(k==NameKind.free&&env.scope.kind==.function&&env.kindOf n==some .cell)=true
    .show List.lookup x ((if _ then _ else _)::_)=_\/List.lookup x ((if _ then _ else _)::_)=_;rw[if_pos hc,eS,hx];exact ih h
    .show List.lookup x ((if _ then _ else _)::_)=_\/List.lookup x ((if _ then _ else _)::_)=_;rw[am hc,eS,hx];exact ih h
 exact go scope.names h
theorem lI(h:(relabel scope env).names.lookup x=some k)(hk:k=.cell\/k=.free):(x,NameKind.free)∈scope.names\/(x,NameKind.cell)∈scope.names:=by
 have m:=iV h;obtain⟨⟨n,k'⟩,hm,e⟩:=bH.mp m;by_cases q:(k'==NameKind.free&&env.scope.kind==.function&&env.kindOf n==some .cell)=true
 .have e':(n,NameKind.cell)=(x,k):=by simpa [q] using e
  have k1:k'=NameKind.free:=by
   simp only[dH,eC] at q;exact q.1.1
  cases e';left;rw[<-k1];exact hm
 .have e':(n,k')=(x,k):=by simpa [q] using e
  cases e';rcases hk with z|z
  .subst z;exact .inr hm
  .subst z;exact .inl hm
theorem m_:∀ (names:List (Str×NameKind)) (h:Heap) (dq:List (Str×Addr)) (x:Str) (c:Addr),(cellsFrom h.objs.size names dq).lookup x=some c->dq.lookup x=some c\/(h.objs.size<=c/\(pushCells h names).IsCell c none)
 |[],_,_,_,_,e=>.inl e
 |(name,kind)::r,h,dq,x,c,e=>by
  unfold cellsFrom at e;unfold pushCells;split at e
  .rename_i hk;rw[if_pos hk];have hsz:(h.push { cls:=.type "cell",data:=.cell none }).objs.size=h.objs.size+1:=iG ..;rw[<-hsz] at e;rcases m_ r _ _ x c e with z|⟨z1,z2⟩
   .rw[eS] at z;cases hx:x==name with
    |true=>
     rw[hx] at z;cases z;exact .inr ⟨aY _,_,pushCells_keeps r _ _ _ (cE _ rfl),rfl⟩
    |false=>rw[hx] at z;exact .inl z
   .exact .inr ⟨by lia,z2⟩
  .rename_i hk;rw[am hk];exact m_ r h dq x c e
theorem rL:∀ (names:List (Str×NameKind)) (n:Nat) (dq:List (Str×Addr)) (x:Str),(x,NameKind.cell)∈names->∃c,n<=c/\(cellsFrom n names dq).lookup x=some c:=by
 have up:∀ (names:List (Str×NameKind)) (n m:Nat) (dq:List (Str×Addr)) (x:Str) (c:Addr),dq.lookup x=some c->m<=c->m<=n->∃c',m<=c'/\(cellsFrom n names dq).lookup x=some c':=by
  intro names;induction names with
  |nil=>intro n m dq x c e h _;exact⟨c,h,e⟩
  |cons y r ih=>
   intro n m dq x c e h hm;obtain⟨name,kind⟩:=y;unfold cellsFrom;split
   .cases hx:x==name with
    |true=>exact ih (n+1) m _ x n (by rw[eS,hx]) hm (by lia)
    |false=>exact ih (n+1) m _ x c (by rw[eS,hx];exact e) h (by lia)
   .exact ih n m dq x c e h hm
 intro names;induction names with
 |nil=>intro n dq x h;cases h
 |cons y r ih=>
  intro n dq x h;obtain⟨name,kind⟩:=y;unfold cellsFrom;rcases aV.mp h with z|z
  .cases z;rw[if_pos (by decide)];exact up r (n+1) n _ x n (by rw[eS];simp) (aY _) (by lia)
  .split
   .obtain⟨c,h1,h2⟩:=ih (n+1) ((name,n)::dq) x z;exact⟨c,by lia,h2⟩
   .exact ih n dq x z
theorem jH:∀ (names:List (Str×NameKind)) (n:Nat) (dq:List (Str×Addr)) (x:Str) (c:Addr),dq.lookup x=some c->(x,NameKind.cell)∉names->(cellsFrom n names dq).lookup x=some c
 |[],_,_,_,_,e,_=>e
 |(name,kind)::r,n,dq,x,c,e,h=>by
  have hr:(x,NameKind.cell)∉r:=fun z=>h (bZ _ z);unfold cellsFrom;split
  .rename_i hk;have kI:(x==name)=false:=by
    cases hx:x==name with
    |false=>rfl
    |true=>
     have e1:x=name:=by simpa using hx
     have e2:kind=.cell:=by simpa using hk
     exact absurd (by rw[e1,e2];exact bK) h
   exact jH r (n+1) _ x c (by rw[eS,kI];exact e) hr
  .exact jH r n dq x c e hr
theorem ng:∀ (names:List (Str×NameKind)) (n:Nat) (dq:List (Str×Addr)),(∀x y c,dq.lookup x=some c->dq.lookup y=some c->x=y)->(∀x c,dq.lookup x=some c->c<n)->∀x y c,(cellsFrom n names dq).lookup x=some c->(cellsFrom n names dq).lookup y=some c->x=y
 |[],_,_,hi,_=>hi
 |(name,kind)::r,n,dq,hi,hl=>by
  unfold cellsFrom;split
  .refine ng r (n+1) _ (fun x y c h1 h2=>?_) (fun x c h=>?_)
   .rw[eS] at h1 h2;cases hx:x==name <;> cases hy:y==name <;> rw[hx] at h1 <;> rw[hy] at h2
    .exact hi x y c h1 h2
    .cases h2;exact absurd (hl x _ h1) (gx _)
    .cases h1;exact absurd (hl y _ h2) (gx _)
    .have e1:x=name:=by simpa using hx
     have e2:y=name:=by simpa using hy
     rw[e1,e2]
   .rw[eS] at h;cases hx:x==name <;> rw[hx] at h
    .exact et (hl x c h)
    .cases h;exact i6 _
  .exact ng r n dq hi hl
section
variable {X:Cx} {ae:List (Addr×Obj)} {σ:St} {H:Hp} {s:Shared} {NB:List Str} {src:List (Option Nat)} {scope:Scope} {cl:List (Str×Addr)} {fp:List Addr} {h₁:Heap} {t₁:Nat}
theorem FZ(I:aD X ae σ H s)(S:fY NB src scope X)(c1:∀x c,cl.lookup x=some c->X.env.cells.lookup x=some c)(c2:∀x,(x,NameKind.free)∈scope.names->∃c,cl.lookup x=some c)(hf:∀b∈fp,gf X ae H b)(KB:∀b∈fp,b<s.heap.objs.size){m:Str->Option Value}(hn:h₁.Ns s.heap.objs.size m)(hk:∀b o,s.heap.get? b=some o->h₁.get? b=some o)(AV:∀x c,(cellsFrom (s.heap.objs.size+1) scope.names cl).lookup x=some c->cl.lookup x=some c\/(s.heap.objs.size<c/\h₁.IsCell c none)):
  aD (zq X NB scope (cellsFrom (s.heap.objs.size+1) scope.names cl) s.heap.objs.size s H fp) [] (IY src σ) H { s with heap:=h₁,toks:=t₁ }:=by
 have Nk:∀b∈AI X.stack,b∈X.env.locals::X.fs:=I.pT;have p8:∀x c,cl.lookup x=some c->∃v,s.heap.IsCell c v:=fun x c e=>I.cell x c (c1 x c e);have Ua:∀x c,cl.lookup x=some c->c<s.heap.objs.size:=fun x c e=>by obtain⟨v,o,ho,_⟩:=p8 x c e;exact aQ ho
 refine⟨⟨I.ok.mod,S.kind,I.ok.glob,I.ok.blt,aY _,ng _ _ _ (fun x y c e1 e2=>I.ok.inj x y c (c1 x c e1) (c1 y c e2)) (fun x c e=>et (Ua x c e)),fun x hx=>?_,fun x c z e=>?_,I.ok.hd,I.ok.frames,.inl rfl,fun b hb=>⟨?_,fun x c e=>?_⟩,I.bs,bj I.ok.BX I.sz,fun b o e hb=>?_,fun b hb=>?_,I.stack,I.oJ⟩,
  rfl,I.bare,Un.kept hk,⟨m,hn,fun i x v e1 e2 e3=>?_⟩,fun x c e=>?_,I.bB.fresh (aY _),fun x c e=>?_,fun p hp=>absurd (show p∈([]:List (Addr×Obj)) from hp) (by simp),I.bB.kept hk,?_⟩
 .have F0:(x,NameKind.free)∈scope.names\/(x,NameKind.cell)∈scope.names:=by
   rcases hx with hx|hx
   .exact lI hx (.inl rfl)
   .exact lI hx (.inr rfl)
  by_cases hc:(x,NameKind.cell)∈scope.names
  .obtain⟨c,_,e⟩:=rL scope.names (s.heap.objs.size+1) cl x hc;exact⟨c,e⟩
  .rcases F0 with z|z
   .obtain⟨c,e⟩:=c2 x z;exact⟨c,jH _ _ _ _ _ e hc⟩
   .exact absurd z hc
 .have hm:=iV (vj.mp z);obtain⟨c',h1,h2⟩:=rL scope.names (s.heap.objs.size+1) cl x hm;have e':(cellsFrom (s.heap.objs.size+1) scope.names cl).lookup x=some c:=e;rw[h2] at e';cases e';exact Nat.le_of_succ_le h1
 .exact a8 (KB b hb)
 .rcases AV x c e with z|⟨z,_⟩
  .exact(hf b hb).2.2.2.2.1 x c (c1 x c z)
  .exact fQ (Nat.lt_trans (KB b hb) z)
 .rcases(hf b hb).2.2.2.1 with z|z
  .exact I.ok.Co b o e z
  .exact absurd (bS (aQ e) (bj I.ok.BX z)) (gx _)
 .intro z;rcases aV.mp (Nk b z) with e|e
  .exact(hf b hb).2.1 e
  .exact(hf b hb).2.2.1 e
 .obtain⟨j,hj,hv⟩:=FY e2;obtain⟨hN,hF⟩:=S.src i x j e1 hj;obtain⟨m0,hn0,KC⟩:=I.loc;have F2:=iV hF;have kx:=S.free _ F2 rfl;have TJ:N4 X.env.scope x:=by
   rcases kx with z|z
   .exact .inr (.inl z)
   .exact .inr (.inr z)
  obtain⟨u,r,l⟩:=KC j x v hN hv TJ;refine⟨u,r,.inr ⟨tY hF,?_⟩⟩;obtain⟨c,hc⟩:=c2 x F2;have Z3:(x,NameKind.cell)∉scope.names:=fun z=>by
   have:=S.cells _ z rfl;rw[hF] at this;cases this
  refine⟨c,jH _ _ _ _ _ hc Z3,?_⟩;rcases l with ⟨Z4,_⟩|⟨_,c',e,z⟩
  .have OE:X.env.scope.names.lookup x=some .local:=Z4;rcases kx with z|z <;> (rw[z] at OE;cases OE)
  .rw[c1 x c hc] at e;cases e;obtain⟨o,ho,hd⟩:=z;exact⟨o,hk _ _ ho,hd⟩
 .rcases AV x c e with z|⟨_,z⟩
  .obtain⟨v,o,ho,hd⟩:=p8 x c z;exact⟨v,o,hk _ _ ho,hd⟩
  .exact⟨none,z⟩
 .rcases AV x c e with z|⟨z,_⟩
  .exact I.ji x c (c1 x c z)
  .exact I.bB.fresh (je z)
 .show (IY src σ).length=NB.length;unfold IY;rw[aJ];exact S.len
theorem aD.OF(I:aD X ae σ H s)(J:aD (zq X NB scope cl C s H fp) [] σB H' s')(hf:∀b∈fp,gf X ae H b):aD X ae σ H' s':=by
 refine I.IP (ch:=fp) J.os J.base J.bB J.bare fun b hb=>?_;obtain⟨_,f1,_,f3,f4,f5⟩:=hf b hb;exact⟨f3,f1,f4,f5⟩
end
def Nn(X:Cx)(zu:List Expr)(t:TT):Prop:=
 ∀ (ae:List (Addr×Obj)) (s:Shared) (σ:St) (H:Hp) (Q:Bool->Hp->Prop),aD X ae σ H s->t σ H Q->
  wpAny (model X.prog X.w) X.A (forIn zu true fun c r=>if r=true then do let ok <- isTrue c X.env (eval c X.env);pure (ForInStep.yield ok) else pure (ForInStep.yield r)) (TP X ae σ Q) X.xe s
def OG:TT:=fun _ H Q=>Q true H
theorem cK:Nn X [] OG:=fun _ _ _ H _ I h=>wpAny_tests_nil ⟨H,I,h⟩
theorem dD(h:PT X c t):Nn X [c] t:=fun ae s σ H Q I q=>wpAny_tests_one (h ae s σ H Q I q)
def fq(J:It)(g:TG)(tt:TT)(te:TE)(D:Addr)(cZ:Hp->Prop)(σB:St)(H1:Hp):Prop:=
 ∃W:Nat->Nat->St->Hp->Prop,(∃m,W 0 m σB H1)/\∀i m σ H,W i m σ H->(J.stop i H/\cZ H)\/(J.go i H/\∀x H',J.Nl i H x H'->g x σ H' fun σ2 H2=>tt σ2 H2 fun b H3=>
  if b=true then te σ2 H3 fun v H4=>∃ys,H4 D=some (.lst ys)/\ys.length<sizeLine/\∃m',m'<m/\W (i+1) m' σ2 (upd H4 D (.lst (ys++[v]))) else ∃m',m'<m/\W (i+1) m' σ2 H3)
theorem AW(hx:B.xe=fun _ _=>False)(hc:B.calm=true)(T:qO B.prog B.w B.K tg J fp it tn)(hg:PG B tg g)(ht:Nn B zu tt)(he:PE B B4 te)(I:aD B [] σB H1 s)(st:tn 0 s.heap)(hf:∀b∈fp,gf B [] H1 b)(hw:fq J g tt te D cZ σB H1)(hR:∀σ' H' s',aD B [] σ' H' s'->cZ H'->R (.ok .next) s'):
  codeAny (model B.prog B.w) B.A (.compLoop (.ListComp B4 [⟨tg,iP,zu,0⟩] scope pos) 0 (.ref it) (.ref D) B.env) R s:=by
 obtain⟨W,⟨m0,w0⟩,Cs⟩:=hw;have xF:∀ {H':Hp},(∀b∈fp,H' b=none)->∀b∈fp,gf B [] H' b:=fun hn b hb=>⟨hn b hb,(hf b hb).2⟩
 refine codeAny_loop rfl (fun n s'=>∃i σ' H',aD B [] σ' H' s'/\tn i s'.heap/\(∀b∈fp,H' b=none)/\W i n σ' H') ?_ m0 ⟨0,σB,H1,I,st,fun b hb=>(hf b hb).1,w0⟩;rintro n s3 ⟨i,σ3,H3,I3,xG,Ki,w3⟩;show wpAny _ B.A ((compTurn (.ListComp B4 [⟨tg,iP,zu,0⟩] scope pos) 0 (.ref it) (.ref D) B.env).onRaise (fun x=>do noteFrame x B.env;theTreesLotGoes x)) _ _ s3;refine wpAny_noted ?_;rw[compTurn_list];have nx:∀ {α:Type} {t:Sem α} {Q:α->Shared->Prop} {E':Value->Shared->Prop} {s:Shared},wpAny (model B.prog B.w) B.A t Q B.xe s->wpAny (model B.prog B.w) B.A t Q E' s:=fun h=>
  gC h (fun _ _ q=>q) fun _ _ z=>by rw[hx] at z;exact z.elim
 rcases Cs i n σ3 H3 w3 with ⟨stop,qn⟩|⟨go,step⟩
 .refine au (pP (au (b_ (T.done B rfl rfl rfl hc i [] s3 σ3 H3 _ I3 (xF Ki) xG stop) fun r s4 ⟨hr,I4⟩=>?_)));subst hr;exact wpAny_pure (hR σ3 H3 s4 I4 qn)
 .refine au (pP (au (b_ (T.item B rfl rfl rfl hc i [] s3 σ3 H3 _ I3 (xF Ki) xG go) fun r s4 ⟨u,hr,h4⟩=>?_)));subst hr;refine au (b_ h4 fun _ s5 ⟨x,H5,I5,r5,y5,u4,TQ⟩=>?_);have TU:=I5.pinned (xF TQ) (T.obj _ _ u4);refine au (nx (b_ (hg _ s5 σ3 H5 x u _ TU r5 (step x H5 y5)) fun _ s6 ⟨σ6,H6,I6,q6⟩=>?_));have back:∀ {σ7:St} {H7:Hp} {s7:Shared} {m':Nat},aD B ([]++pV fp s5.heap) σ7 H7 s7->m'<n->W (i+1) m' σ7 H7->∃m,m<n/\∃i σ' H',aD B [] σ' H' s7/\tn i s7.heap/\(∀b∈fp,H' b=none)/\W i m σ' H':=fun {σ7 H7 s7 m'} I7 hm w7=>by
   refine⟨m',hm,i+1,σ7,H7,I7.lD,T.keep _ _ _ u4 fun b hb o e=>(I7.pin (b,o) (iC _ (iC _ (il hb e)))).1,fun b hb=>?_,w7⟩;obtain⟨o,e,d⟩:=T.obj _ _ u4 b hb;exact(I7.pin (b,o) (iC _ (iC _ (il hb e)))).2.1
  refine au (nx (b_ (ht _ s6 σ6 H6 _ I6 q6) fun ok s7 ⟨H7,I7,q7⟩=>?_));cases ok with
  |false=>
   rw[am cm] at q7;obtain⟨m',hm,w7⟩:=q7;exact wpAny_pure ⟨rfl,back I7 hm w7⟩
  |true=>
   rw[if_pos rfl] at q7;refine au (au (nx (b_ (he _ s7 σ6 H7 _ I7 q7) fun v s8 ⟨y,H8,I8,r8,ys,hD,hl,m',hm,w8⟩=>?_)));refine au (nx (b_ (dv _ s8 σ6 H8 (.ref D) [y] (.ref D) [v] (fun _ H9=>H9=upd H8 D (.lst (ys++[y]))) I8 rfl (.cons r8 .nil) ⟨D,ys,y,rfl,rfl,hD,hl,rfl⟩) fun _ s9 ⟨_,H9,I9,_,e9⟩=>?_));subst e9;exact wpAny_pure (wpAny_pure ⟨rfl,back I9 hm w8⟩)
theorem t7(hQ:Q { scope:=scope,locals:=s.heap.objs.size,globals:=globals,cells:=cellsFrom (s.heap.objs.size+1) scope.names cl,qual:=qual,func:=none,code:=outer.code,frame:=outer.frame,builtins:=outer.builtins }
   { s with heap:=pushCells (s.heap.push { cls:=.type "dict",data:=.dict #[] }) scope.names }):
  wpAny M A (newFunctionEnv scope globals cl [] qual none .none (some outer)) Q E s:=by
 simp only[newFunctionEnv,Option.isSome_some,gE];refine au (wpAny_alloc ?_);refine au (wpAny_layCells _ (fun name kind cells=>by cases Z5:kind==NameKind.cell <;> simp[Z5]) _ _ _ _ ?_);rw[show ({ s with heap:=s.heap.push { cls:=.type "dict",data:=.dict #[] } }:Shared).heap.objs.size=s.heap.objs.size+1 from iG ..];refine au ?_;rw[tw];exact wpAny_pure (wpAny_pure hQ)
section
variable {X:Cx} {B4 tg iP:Expr} {zu:List Expr} {scope:Scope} {pos:Pos} {wi:TI} {g:TG} {tt:TT} {te:TE} {NB:List Str} {src:List (Option Nat)}
def zw(src:List (Option Nat))(wi:TI)(g:TG)(tt:TT)(te:TE):TE:=fun σ H Q=>wi σ H fun J H1=>∀D,H1 D=none->fq J g tt te D (fun H'=>Q (.ref D) H') (IY src σ) (upd H1 D (.lst []))
theorem p9{ae:List (Addr×Obj)}{σ:St}{H2:Hp}{s2:Shared}{J:It}{fp:List Addr}{it:Addr}{tn:Nat->Heap->Prop}{cl:List (Str×Addr)}{cZ:Addr->Hp->Prop}{E':Value->Shared->Prop}{RR:Value->Addr->Result->Shared->Prop}(S:fY NB src scope X)(hc:X.calm=true)(c1:∀x c,cl.lookup x=some c->X.env.cells.lookup x=some c)(c2:∀x,(x,NameKind.free)∈scope.names->∃c,cl.lookup x=some c)(hg:∀cl C s₃ H₃ fp,PG (zq X NB scope cl C s₃ H₃ fp) tg g)(ht:∀cl C s₃ H₃ fp,Nn (zq X NB scope cl C s₃ H₃ fp) zu tt)(he:∀cl C s₃ H₃ fp,PE (zq X NB scope cl C s₃ H₃ fp) B4 te)(I2:aD X ae σ H2 s2)(T:qO X.prog X.w X.K tg J fp it tn)(xE:tn 0 s2.heap)(f2:∀b∈fp,gf X ae H2 b)(hw:∀D,H2 D=none->fq J g tt te D (cZ D) (IY src σ) (upd H2 D (.lst [])))(hR:∀D C H' s',gf X ae H' C->aD X ae σ H' s'->(∃m,s'.heap.Ns C m)->cZ D H'->RR (.ref D) C (.ok .next) s'):
  wpAny (model X.prog X.w) X.A (newList []) (fun dq s₃=>wpAny (model X.prog X.w) X.A (newFunctionEnv scope X.env.globals cl [] X.env.qual none .none (some X.env)) (fun OH s₄=>
   codeAny (model X.prog X.w) X.A (.compStart (.ListComp B4 [⟨tg,iP,zu,0⟩] scope pos) 0 (.ref it) dq { OH with scope:=relabel scope X.env }) (RR dq OH.locals) s₄) E' s₃) E' s2:=by
 refine ln (t7 ?_);have I3:=I2.OA (ys:=[]) (its:=[]) (t':=s2.toks) .nil (cN _);have hD:H2 s2.heap.objs.size=none:=I2.fresh;have fo:∀b∈fp,b<s2.heap.objs.size:=fun b hb=>by obtain⟨o,e,_⟩:=T.obj _ _ xE b hb;exact aQ e
 have up:∀ {b:Addr},b∈fp->upd H2 s2.heap.objs.size (.lst []) b=H2 b:=fun {b} hb=>ak (a8 (fo b hb));have f3:∀b∈fp,gf X ae (upd H2 s2.heap.objs.size (.lst [])) b:=fun b hb=>⟨by rw[up hb];exact(f2 b hb).1,(f2 b hb).2⟩
 have hsz:(s2.heap.push { cls:=.type "list",data:=.seq ([]:List Value).toArray }).objs.size=s2.heap.objs.size+1:=by rw[iG]
 generalize Z6:({ s2 with heap:=s2.heap.push { cls:=.type "list",data:=.seq ([]:List Value).toArray } }:Shared)=s3 at I3 |-;have XU:s3.heap=s2.heap.push { cls:=.type "list",data:=.seq ([]:List Value).toArray }:=by rw[<-Z6]
 have XV:∀b∈fp,b<s3.heap.objs.size:=fun b hb=>by rw[XU,hsz];exact et (fo b hb)
 have OI:(s3.heap.push { cls:=.type "dict",data:=.dict #[] }).objs.size=s3.heap.objs.size+1:=iG ..;have AV:∀x c,(cellsFrom (s3.heap.objs.size+1) scope.names cl).lookup x=some c->cl.lookup x=some c\/(s3.heap.objs.size<c/\(pushCells (s3.heap.push { cls:=.type "dict",data:=.dict #[] }) scope.names).IsCell c none):=fun x c e=>by
  rw[<-OI] at e;rcases m_ _ _ _ _ _ e with z|⟨z1,z2⟩
  .exact .inl z
  .exact .inr ⟨by rw[OI] at z1;exact z1,z2⟩
 have OJ:=(Heap.Ns.new s3.heap (.type "dict")).keeps (pushCells_keeps scope.names _);have keep:∀b o,s3.heap.get? b=some o->(pushCells (s3.heap.push { cls:=.type "dict",data:=.dict #[] }) scope.names).get? b=some o:=fun b o e=>pushCells_keeps _ _ b o (bQ _ e);generalize hh1:pushCells (s3.heap.push { cls:=.type "dict",data:=.dict #[] }) scope.names=h₁ at AV OJ keep |-;have IB:aD (zq X NB scope (cellsFrom (s3.heap.objs.size+1) scope.names cl) s3.heap.objs.size s3 (upd H2 s2.heap.objs.size (.lst [])) fp) [] (IY src σ) (upd H2 s2.heap.objs.size (.lst [])) { s3 with heap:=h₁,toks:=s3.toks }:=
  FZ I3 S c1 c2 f3 XV OJ keep AV
 have XW:tn 0 h₁:=T.keep 0 s2.heap h₁ xE fun b hb o e=>keep b o (by rw[XU];exact bQ _ e);have fB:∀b∈fp,gf (zq X NB scope (cellsFrom (s3.heap.objs.size+1) scope.names cl) s3.heap.objs.size s3 (upd H2 s2.heap.objs.size (.lst [])) fp) [] (upd H2 s2.heap.objs.size (.lst [])) b:=fun b hb=>by
  refine⟨(f3 b hb).1,a8 (XV b hb),fun z=>?_,.inl hb,fun x c e=>(IB.ok.Tl b hb).2 x c e,fun p hp=>absurd (show p∈([]:List (Addr×Obj)) from hp) (by simp)⟩;rcases aV.mp (I3.pT b z) with e|e
  .exact(f3 b hb).2.1 e
  .exact(f3 b hb).2.2.1 e
 have loop:codeAny (model X.prog X.w) X.A (.compLoop (.ListComp B4 [⟨tg,iP,zu,0⟩] scope pos) 0 (.ref it) (.ref s2.heap.objs.size) (compEnvC scope (cellsFrom (s3.heap.objs.size+1) scope.names cl) s3.heap.objs.size X.env)) (RR (.ref s2.heap.objs.size) s3.heap.objs.size)
   { s3 with heap:=h₁,toks:=s3.toks }:=by
  refine AW (B:=zq X NB scope (cellsFrom (s3.heap.objs.size+1) scope.names cl) s3.heap.objs.size s3 (upd H2 s2.heap.objs.size (.lst [])) fp) rfl hc T (hg _ _ _ _ _) (ht _ _ _ _ _) (he _ _ _ _ _) IB XW fB (hw _ hD) fun σ' H' s' J' q=>?_;obtain⟨m,hm,_⟩:=J'.loc;exact hR _ _ H' s' (I3.vc (aY _) J'.free) (I3.OF J' f3) ⟨m,hm⟩ q
 exact codeAny_compStart_list loop (T.self _ 0 _ _ _ XW loop)
theorem bU(S:fY NB src scope X)(hc:X.calm=true)(hi:PI X tg iP wi)(hg:∀cl C s₃ H₃ fp,PG (zq X NB scope cl C s₃ H₃ fp) tg g)(ht:∀cl C s₃ H₃ fp,Nn (zq X NB scope cl C s₃ H₃ fp) zu tt)(he:∀cl C s₃ H₃ fp,PE (zq X NB scope cl C s₃ H₃ fp) B4 te)(hs:∀x,foldedSetIterable iP X.env x=pure x:=by intro _;rfl):PE X (.ListComp B4 [⟨tg,iP,zu,0⟩] scope pos) (zw src wi g tt te):=by
 intro ae s σ H Q I h;obtain⟨cl,IZ,c1,c2⟩:=kH I.ok S;rw[eval_ListComp];refine wpAny_comprehension_free (use:=none) (cl:=cl) rfl hs IZ S.kind S.names (b_ (hi ae s σ H _ I h) fun v s1 h1=>b_ h1 fun RU s2 h2=>?_);obtain⟨it,fp,tn,J,H2,e,I2,T,xE,f2,hw⟩:=h2;subst e;refine p9 (RR:=fun dq C=>compPost (model X.prog X.w) X.A X.xe none (EP X ae σ Q) dq C) S hc c1 c2 hg ht he I2 T xE f2 hw fun D C H' s' fC I' hm q=>?_;obtain⟨m,hm⟩:=hm;refine⟨m,hm,fun h' sb=>⟨.ref D,H',?_,rfl,q⟩⟩;obtain⟨g0,g1,_,g3,g4,g5⟩:=fC;exact I'.turned (t':=s'.toks) (fun b o hb e=>(sb.2 b hb).trans e) g0 g1 g3 g4 g5
theorem df{i:Nat}{y:Str}{py OK:Pos}(S:fY NB src scope X)(hc:X.calm=true)(hi:PI X tg iP wi)(hg:∀cl C s₃ H₃ fp,PG (zq X NB scope cl C s₃ H₃ fp) tg g)(ht:∀cl C s₃ H₃ fp,Nn (zq X NB scope cl C s₃ H₃ fp) zu tt)(he:∀cl C s₃ H₃ fp,PE (zq X NB scope cl C s₃ H₃ fp) B4 te)(hN:X.N.Nodup)(Z7:X.N[i]?=some y)(hy:X.env.scope.names.lookup y=some .local)(Z8:swapsWith (.ListComp B4 [⟨tg,iP,zu,0⟩] scope pos) (some (.Name y py)) OK.line X.env=pure true)(hs:∀x,foldedSetIterable iP X.env x=pure x:=by intro _;rfl):
  PS X (.Assign [.Name y py] (.ListComp B4 [⟨tg,iP,zu,0⟩] scope pos) OK) (Ke (zw src wi g tt te) (a9 i)):=by
 intro ae s σ H D0 I h;obtain⟨cl,IZ,c1,c2⟩:=kH I.ok S;rw[exec_Assign_Name_used _ _ _ _ Z8];refine au (pP (au ?_));show wpAny _ X.A (do let _ <- comprehension (.ListComp B4 [⟨tg,iP,zu,0⟩] scope pos) scope X.env _ (newList []) false (eval iP X.env) (some (assign (.Name y py) X.env))) _ _ s;refine au (gC (wpAny_comprehension_free (use:=some (assign (.Name y py) X.env)) (Q:=fun _ s'=>SP X ae D0 .next s') (cl:=cl) rfl hs IZ S.kind S.names
  (b_ (hi ae s σ H _ I h) fun v s1 h1=>b_ h1 fun RU s2 h2=>?_)) (fun _ s' hq=>wpAny_pure (wpAny_pure hq)) fun _ _ e=>e)
 obtain⟨it,fp,tn,J,H2,e,I2,T,xE,f2,hw⟩:=h2;subst e;refine p9 (RR:=fun dq C=>compPost (model X.prog X.w) X.A X.xe (some (assign (.Name y py) X.env)) (fun _ s'=>SP X ae D0 .next s') dq C) S hc c1 c2 hg ht he I2 T xE f2 hw fun D C H' s' fC I' hm q=>?_;obtain⟨m,hm⟩:=hm;obtain⟨g0,g1,_,g3,g4,g5⟩:=fC;show wpAny _ X.A (assign (.Name y py) X.env (.ref D)) _ _ _;refine wpAny_assign_Name (rm I' hN Z7 (.inl hy) (v:=.ref D) rfl (fun Ov Z9 sb=>?_) (.inr hy));obtain⟨a,sb,ha⟩:=sb;have kI:C≠a:=by
  rcases ha with z|z
  .rw[z];exact g1
  .exact fun z'=>g4 y a z z'.symm
 refine⟨m,hm.sameBut sb kI,fun h' Z_=>⟨_,H',Z9.turned (t':=Ov.toks) (fun b o hb e=>(Z_.2 b hb).trans e) g0 g1 g3 g4 g5,q⟩⟩
end
section
variable {P:Program} {w:World} {K:PySem.W.Frag} {mg:Str->Option Value} {base:Heap} {N:List Str} {qual:Str} {scope:Scope} {f:Addr} {cd:Value} {A:Around} {outer:List Env} {s:Shared} {H:Hp} {E:XK}
end
open PySem PySem.Spec PyProof.Rows PySem.W
abbrev bmV:List Value:=[.type "ValueError",.type "Exception",.type "BaseException",.type "object"]
structure AX(K:PySem.W.Frag)(C:Addr):Prop where
 ex:PySem.W.excIn K C bmV "ValueError.__new__"=true
 kp:PySem.W.keepIn K (.ref C)=true
 ga:PySem.W.findIn K (.ref C) "__getattribute__"=some (some (.builtin "BaseException.__getattribute__"))
 gt:PySem.W.findIn K (.ref C) "__getattr__"=some none
 cl:PySem.W.findIn K (.ref C) "__class__"=some (some (.builtin "object.__class__"))
 mo:PySem.W.mroIn K C (.type "object")=some true
 mb:PySem.W.mroIn K C (.type "BaseException")=some true
 ty:(PySem.W.clsIn K C).isSome=true
def R4(p:Addr)(C:Value)(h:Heap):Prop:=∃o,h.get? p=some o/\o.cls=C
abbrev Ub(p:Addr)(C:Value):HO:=.ext (R4 p C)
theorem bX.get(x:bX P w H h a o):∃u,h.get? a=some u:=by
 cases o with
 |lst xs=>obtain⟨_,_,_,_,e⟩:=x;exact⟨_,e⟩
 |tup xs=>obtain⟨_,_,_,ob,e,_⟩:=x;exact⟨_,e⟩
 |dK bb=>obtain⟨_,_,_,_,o,_,_,e,_⟩:=x;exact⟨_,e⟩
 |dT bb=>obtain⟨_,_,_,_,o,_,_,e,_⟩:=x;exact⟨_,e⟩
 |set S n=>obtain⟨o,_,_,_,e,_⟩:=x;exact⟨_,e⟩
 |ins C dx fs=>obtain⟨_,_,_,e,_⟩:=x;exact⟨_,e⟩
 |own y=>exact x
 |xd fs=>obtain⟨_,⟨_,_,_,e,_⟩,_⟩:=x;exact⟨_,e⟩
 |Fj lo hi=>obtain⟨_,_,_,e⟩:=x;exact⟨_,e⟩
 |uZ ob u=>obtain⟨e,_⟩:=x;exact⟨_,e⟩
 |kB ps=>exact⟨_,(show h.get? a=some _ from x)⟩
 |met f y=>exact⟨_,(show h.get? a=some _ from x)⟩
 |ext φ=>exact x.2.1
theorem iO.t8(x:iO P w H h)(e:h.get? a=none):H a=none:=by
 cases q:H a with
 |none=>rfl
 |some u=>obtain⟨o,z⟩:=(x a u q).get;rw[e] at z;cases z
theorem aD.C4(I:aD X ae σ H s)(k:∀b u,s.heap.get? b=some u->h'.get? b=some u)(hp:s.heap.get? a=none)(new:bX X.prog X.w (upd H a o) h' a o):
  aD X ae σ (upd H a o) { s with heap:=h',toks:=t' }:=by
 have hn:=I.bB.t8 hp;have ne:∀b u,s.heap.get? b=some u->b≠a:=fun b u e z=>by rw[z,hp] at e;cases e
 refine I.un ⟨fun b u e _ _ _=>k b u e,fun b u e _ _ _=>⟨u.slots,k b u e⟩,fun b u e n _=>by rw[ak (ne b u e)];exact n,fun b u e _=>⟨u,k b u e⟩,fun b xs e=>by rw[ak (aj e hn)];exact e,fun b u v e=>by rw[ak (aj e hn)];exact e,fun b ps e=>⟨#[],by rw[ak (aj e hn),e];simp⟩⟩ fun b u e=>?_;by_cases hb:b=a
 .subst hb;rw[af] at e;cases e;exact new
 .rw[ak hb] at e;exact(I.bB b u e).mP (fun c v _ q=>k c v q) (fun c q=>by rw[ak (aj q hn)];exact q) fun c xs q=>by rw[ak (aj q hn)];exact q
section
variable {prog:Program} {w:World} {A:Around} {E:Value->Shared->Prop} {s:Shared} {K:PySem.W.Frag} {x C:Addr} {ox:Obj}
theorem zx(hx:h.get? x=some ox)(hc:ox.cls=.ref C):PySem.W.Looks M h (typeOf (.ref x)) (.ref C):=hc ▸ (PySem.W.Looks.ld hx).andThen .now
open Builtin Builtin.ObjectAttr Builtin.Getset_descriptor in
theorem xZ(X:K.In s.heap)(hx:s.heap.get? x=some ox)(hc:ox.cls=.ref C)(hm:PySem.W.mroIn K C (.type "object")=some true)(h:R (.ok (.ret (.ref C))) s):codeAny (model prog w) A (.call (.builtin "getset_descriptor.__get__") ⟨[.builtin "object.__class__",.ref x,tp],[]⟩) R s:=by
 obtain⟨hh,g,dr,t,os⟩:=s;have L0:=zx (M:=model prog w) hx hc;have L1:=looks_mroIn (M:=model prog w) X hm;refine sM KF.slot_gs.plain KF.entry_gs (KF.slot_gs.check _ _ _ _ _ _ _ _ KF.type_class (KF.args_gs _ _ _) ?_);unfold Builtin.«getset_descriptor.__get__» descrGet;rw[dga_obj];refine au (wpAny_pure ?_);unfold descrGetter descrCheckInstance descrNameAndClass isInstance;simp only[KF.owner_class];repeat lk
 refine⟨Code.quiet_builtin _ (by decide +kernel),tE KF.entry_class ?_⟩;unfold Builtin.«object.__class__» shownTypeOf;repeat lk
 exact h
theorem AY{g d t os}(T:AX K C)(X:K.In h)(hx:h.get? x=some ox)(hc:ox.cls=.ref C)(hq:Q (.done (.ret (.ref C))) ⟨h,g,d,t,os⟩):
  wpAny (model prog w) A (Builtin.«object.__getattribute__» ⟨[.ref x,.str "__class__" tk],[]⟩) Q E ⟨h,g,d,t,os⟩:=by
 have f5:=F.typeOf_bexc_args;have hT5:(⟨h,g,d,t,os⟩:Shared).TypeIs (.builtin "object.__class__") "getset_descriptor":=Cb;have f5':=Cb;have f6:=F.slot_gs_get.lookup;have f7:=F.slot_gs_set.lookup;have L1:=looks_findIn (M:=model prog w) X T.cl;repeat (any_goals (first|assumption|(with_reducible refine xu hx ?_;rw[hc])|with_reducible refine L1.at ?_|wp_step))
 refine xZ (s:=⟨h,g,d,t,os⟩) X hx hc T.mo ?_;repeat (any_goals (first|assumption|wp_step))
theorem AZ{g d t os}(T:AX K C)(X:K.In h)(hx:h.get? x=some ox)(hc:ox.cls=.ref C)(hq:Q () ⟨h,g,d,t,os⟩):
  wpAny M A (checkBuiltinCall "BaseException.__getattribute__" ⟨[.ref x,OM],[]⟩) Q E ⟨h,g,d,t,os⟩:=by
 have hk:builtinKind "BaseException.__getattribute__"=some .slot:=by decide +kernel
 have KD:splitId "BaseException.__getattribute__"=some ("BaseException","__getattribute__"):=by decide +kernel
 have ha:=F.args_bexc_ga (.ref x) OM;have L1:=looks_mroIn (M:=M) X T.mb;simp only[checkBuiltinCall,hk,KD];refine au ?_
 .unfold isInstance;repeat (first|(with_reducible refine xu hx ?_;rw[hc])|with_reducible refine L1.at ?_|wp_step)
  exact hq
theorem KE{tk:Tok}{fill FK:Bool}{Q:Value->Shared->Prop}{h:Heap}{g d t os}(T:AX K C)(X:K.In h)(hx:h.get? x=some ox)(hc:ox.cls=.ref C)(hq:Q (.ref C) ⟨h,g,d,t,os⟩):
  wpAny (model prog w) A (getAttrBy (.ref x) (.str "__class__" tk) fill FK) Q E ⟨h,g,d,t,os⟩:=by
 have f3:=F.attr_ValueError.ga.bind (.ref x);have hx0:(FK&&onTheHeap (Value.builtin "BaseException.__getattribute__"))=false:=by cases FK <;> rfl
 have hx2:(Value.builtin "BaseException.__getattribute__"==Value.builtin "object.__getattribute__")=false:=by decide +kernel
 have hx1:(onTheHeap (Value.ref C)&&Value.builtin "BaseException.__getattribute__"==Value.builtin "object.__getattribute__")=false:=by rw[hx2];rfl
 have L1:=looks_findIn (M:=model prog w) X T.ga;have L2:=looks_findIn (M:=model prog w) X T.gt;repeat (any_goals (first|assumption|(with_reducible refine xu hx ?_;rw[hc])|with_reducible refine L1.at ?_|with_reducible refine L2.at ?_|wp_step))
 refine sM F.attr_ValueError.ga.plain F.entry_bexc_ga (AZ T X hx hc (AY T X hx hc ?_));repeat (any_goals (first|assumption|wp_step))
theorem C5{Q:Option Value->Shared->Prop}{h:Heap}{g d t os}(T:AX K C)(X:K.In h)(hx:h.get? x=some ox)(hc:ox.cls=.ref C)(hq:Q (some (.ref C)) ⟨h,g,d,t+1,os⟩):
  wpAny (model prog w) A (getAttr? (.ref x) "__class__") Q E ⟨h,g,d,t,os⟩:=by
 unfold getAttr?;repeat (any_goals (first|assumption|with_reducible apply KE T X hx hc|wp_step))
theorem vk(T:AX K C):PySem.W.KitX K (.ref x) (.ref C) (R4 x (.ref C)) where
 ty:=fun _ _ _ ⟨o,e,c⟩=>zx e c
 it:=fun _ _ X _=>by
  obtain⟨cdD,FM⟩:=wR.mp T.ty;unfold clsIn at FM;split at FM
  .rename_i c' d' cd' Tp ho;intro A' Q' E' s' k q;unfold isType loadHead;exact au (wpAny_loadPart (k _ _ (X _ _ ho)) (wpAny_pure q))
  .cases FM
 ne:=fun h tp dd its n sl X htp=>by
  obtain⟨cdD,FM⟩:=wR.mp T.ty;refine xh.mpr fun q=>?_;have e:C=tp:=Value.ref.inj (eC.mp q);subst e;unfold clsIn at FM;split at FM
  .rename_i c' d' cd' Tp ho;have z:=(X _ _ ho).symm.trans htp;cases z
  .cases FM
 ca:=fun {_ _ _ _ _ s} X ⟨o,e,c⟩ k=>by
  obtain⟨h,g,d,t,os⟩:=s;exact C5 T X e c k
end
section
variable {X:Cx}
inductive No (K:PySem.W.Frag) (H:Hp):V->Value->Prop where
 |of {v:V} {t:Value} (h:mZ K H v t):No K H v t
 |exc {p C:Addr} (T:AX K C) (e:H p=some (Ub p (.ref C))):No K H (.ref p) (.ref C)
def Uc(K:PySem.W.Frag):List V->Hp->VK->Prop:=fun xs H Q=>∃x c cv t b,xs=[x,c]/\(c=.ty cv/\PySem.W.kitOne K t (.type cv)=some b)/\No K H x t/\Q (.bl b) H
theorem jq:eX X (.builtin "isinstance") (Uc X.K):=by
 intro ae s σ H xs us Q I r h;obtain⟨x,c,cv,t,b,rfl,⟨rfl,e⟩,ty,q⟩:=h;obtain⟨u1,u2,rfl,r1,r2⟩:=r.two;obtain rfl:u2=Value.type cv:=r2;cases ty with
 |of ty=>exact rA I r1 ty e fun tk=>⟨.bl b,H,I.tok tk,rfl,q⟩
 |@exc p C T ea=>
  obtain rfl:u1=Value.ref p:=r1;have p1:R4 p (.ref C) s.heap:=(I.bB p _ ea).1;exact gY (vk T) I.jW p1 e (fun z=>nomatch z) fun tk=>⟨.bl b,H,I.tok tk,rfl,q⟩
def ON(K:PySem.W.Frag):List V->Hp->VK->Prop:=fun xs H Q=>∃x c t b,xs=[x,.ref c]/\PySem.W.kitOne K t (.ref c)=some b/\No K H x t/\Q (.bl b) H
theorem A0:eX X (.builtin "isinstance") (ON X.K):=by
 intro ae s σ H xs us Q I r h;obtain⟨x,c,t,b,rfl,e,ty,q⟩:=h;obtain⟨u1,u2,rfl,r1,r2⟩:=r.two;obtain rfl:u2=Value.ref c:=r2;cases ty with
 |of ty=>exact rA I r1 ty e fun tk=>⟨.bl b,H,I.tok tk,rfl,q⟩
 |@exc p C T ea=>
  obtain rfl:u1=Value.ref p:=r1;have p1:R4 p (.ref C) s.heap:=(I.bB p _ ea).1;exact gY (vk T) I.jW p1 e (fun z=>nomatch z) fun tk=>⟨.bl b,H,I.tok tk,rfl,q⟩
end
section
variable {X:Cx} {x:Str} {C:Addr} {np jp pos:Pos} {e:Expr} {es:List Expr} {t:TA}
end
section
variable {X:Cx} {CX:wF} {k:Nat} {f C:Addr} {fd:FuncData} {ps:List Str} {sp:Sp} {pY:List V} {ds:List Value} {E:St->XK} {x m:Str} {p pos kF:Pos} {e o:Expr} {es:List Expr} {ta:TE} {t:TA}
end
section
variable {X:Cx} {CX:wF} {k:Nat} {f:Addr} {fd:FuncData} {ps:List Str} {sp:Sp} {pY:List V} {ds:List Value} {E:XK} {x:Str} {p pos:Pos} {e:Expr} {es:List Expr} {t:TA}
end
section
variable {P:Program} {w:World} {K:PySem.W.Frag} {mg:Str->Option Value} {base:Heap}
end
section
variable {X:Cx} {ae:List (Addr×Obj)} {σ:St} {H:Hp} {s:Shared}
end
theorem F3{h:Heap}{a:Addr}{m m':Str->Option Value}(x:h.Ns a m)(y:h.Ns a m'):m=m':=by
 obtain⟨o,es,ep,e,d,_,q⟩:=x;obtain⟨o',wE,RM,e',d',_,q'⟩:=y;rw[e] at e';cases e';rw[d] at d';cases d';funext z;rw[<-q z,q' z]
theorem aD.OO{X:Cx}{ae:List (Addr×Obj)}{σ:St}{H:Hp}{s:Shared}{h':Heap}{m:Str->Option Value}{D:Addr}{o:HO}{t':Nat}(I:aD X ae σ H s)(F:Fr X.base X.env.locals s.heap m)(F':Fr X.base X.env.locals h' m)(N':News X.base X.env.locals h' (ij X.base s.heap X.env.locals))(hD:s.heap.get? D=none)(new:bX X.prog X.w (upd H D o) h' D o):aD X ae σ (upd H D o) { s with heap:=h',toks:=t' }:=by
 have hn:=I.bB.t8 hD;have ne:∀b u,s.heap.get? b=some u->b≠D:=fun b u e z=>by rw[z,hD] at e;cases e
 have keep:∀b u,b≠X.env.locals->s.heap.get? b=some u->h'.get? b=some u:=fun b u hb e=>by
  cases q:X.base.get? b with
  |some v=>
   have:=I.bk b v q;rw[e] at this;cases this;exact F'.keep b _ q
  |none=>exact(N' (b,u) (jh hb q e)).1
 refine I.step (g':=s.gens) (d':=s.drawn) (ch:=[]) (fun _ z=>absurd z (by simp)) (fun b u hb _ _ e _=>keep b u hb e) (fun b u hb _ _ e _=>⟨u.slots,keep b u hb e⟩) (fun b u _ e n=>by rw[ak (ne b u e)];exact n) (fun b u _ e=>?_)
  (fun b xs e=>by rw[ak (aj e hn)];exact e) (fun b u v e=>by rw[ak (aj e hn)];exact e) (fun b ps e=>⟨#[],by rw[ak (aj e hn),e];simp⟩) (fun m1 hm=>by rw[F3 hm F.ns];exact F'.ns) (fun b u e=>?_) I.bare
 .by_cases hb:b=X.env.locals
  .obtain⟨o',_,_,q,_⟩:=F'.ns;exact⟨o',by rw[hb];exact q⟩
  .exact⟨u,keep b u hb e⟩
 .by_cases hb:b=D
  .subst hb;rw[af] at e;cases e;exact new
  .rw[ak hb] at e;refine(I.bB b u e).mP (fun c v hc q=>keep c v ?_ q) (fun c q=>by rw[ak (aj q hn)];exact q) fun c xs q=>by rw[ak (aj q hn)];exact q
   rintro rfl;rcases hc with z|hc
   .have f:=I.free;rw[z,e] at f;cases f
   .rw[I.free] at hc;cases hc
theorem qU(I:aD X ae σ H s)(N:News X.base X.env.locals h' ((D,o)::ij X.base s.heap X.env.locals))(eh:∀q∈ij X.base s.heap X.env.locals,q.1<D):s.heap.get? D=none:=by
 cases e:s.heap.get? D with
 |none=>rfl
 |some u=>
  obtain⟨_,n1,n2⟩:=N (D,o) bK;exact absurd (eh (D,u) (jh n1 n2 e)) (gx _)
def C6(K:PySem.W.Frag)(H:Hp)(a:Addr)(y:Int×Int):Prop:=bV K H a [.int y.1,.int y.2]
section
variable {X:Cx}
theorem x9(I:aD X ae σ H s)(h:C6 X.K H a y):∃o n t u,s.heap.get? a=some o/\o.cls=.type "tuple"/\o.data=.seq #[.int y.1 t,.int y.2 u] n:=by
 obtain⟨its,r,p,_⟩:=I.tuple h;obtain⟨u1,u2,rfl,r1,r2⟩:=r.two;obtain⟨t,rfl⟩:=r1;obtain⟨t',rfl⟩:=r2;obtain⟨o,e,c,n,d⟩:=p;exact⟨o,n,t,t',e,c,d⟩
end
def KG(hs:Array Int)(i:Nat):Int:=(hs[i]?).getD 0
def fh(hs:Array Int)(t:SetTable)(h:Int):Option (Array Int×SetTable):=
 if t.gaveWay then none else
 match t.probe (KG hs) h (t.probeStart h) with
 |some (.empty j none)=>
  let q:=t.put j
  let I0:=SetTable.insertAt hs q.2 h
  if q.1.fits I0.size&&decide (I0.size<=4096) then
   if q.1.tooFull then
    (match q.1.relaid I0 (SetTable.grown (hs.size+1)) with
    |some (t2,order)=>
     let lC:=order.filterMap (I0[·]?)
     if lC.size==I0.size&&t2.fits lC.size&&decide (SetTable.sizeAbove (SetTable.grown (hs.size+1))<=4096) then some (lC,t2) else none
    |none=>none)
   else some (I0,q.1)
  else none
 |_=>none
def t_(led:Bool):List Int->Option (Array Int×SetTable):=fun l=>l.foldlM (fun q h=>fh q.1 q.2 h) (#[],SetTable.fresh 0 0 led)
def jr(h:Heap)(S:Addr)(hs:Array Int)(t:SetTable):Prop:=∃o es ep,h.get? S=some o/\o.cls=.type "set"/\(o.dict=none/\o.slots=#[])/\o.data=.set es ep t/\es.map (·.1)=hs/\t.fits es.size=true
section
variable {prog:Program} {w:World} {A:Around} {E:Value->Shared->Prop} {s:Shared} {S:Addr}
theorem KH(es:Array (Int×Value)):(fun i=>(es[i]?.map (·.1)).getD 0)=KG (es.map (·.1)):=by
 funext i;unfold KG;rw[Array.getElem?_map]
theorem lJ(es:Array (Int×Value))(p:Nat)(x:Int×Value):(SetTable.insertAt es p x).map (·.1)=SetTable.insertAt (es.map (·.1)) p x.1:=by
 unfold SetTable.insertAt;simp
theorem nh(es:Array (Int×Value))(order:Array Nat):(order.filterMap (es[·]?)).map (·.1)=order.filterMap ((es.map (·.1))[·]?):=by
 apply Array.ext';rw[sW,sI,sI,List.map_filterMap];congr 1;funext i;rw[Array.getElem?_map]
theorem x_(hS:jr s.heap S hs t)(hg:t.gaveWay=false)(hp:t.probe (KG hs) h (t.probeStart h)=some (.empty j none))(q:Q (.free j false) s):
  wpAny (model prog w) A (setSearch S x h true) Q E s:=by
 obtain⟨o,es,ep,ho,hc,XX,hd,hm,hf⟩:=hS;unfold setSearch setSearchFrom;refine au (sX ho hd hf ?_);dsimp only;rw[hg,am cm];have I_:t.probe (fun i=>(es[i]?.map (·.1)).getD 0) h (t.probeStart h)=some (.empty j none):=by rw[KH,hm];exact hp
 refine au (wpAny_pure ?_);erw[I_];exact wpAny_pure q
theorem A1(ho:s.heap.get? a=some o)(hc:o.cls=.type "tuple")(hd:o.data=.seq #[.int x t,.int y u] n)(q:Q true s):
  wpAny (model prog w) A (hashByValue 8 (.ref a)) Q E s:=by
 have hT:s.TypeIs (.ref a) "tuple":=⟨_,ho,hc⟩
 unfold hashByValue;refine au (wpAny_specialOf hT PySem.F.slot_tuple_hash.lookup ?_);refine au (jb ho hd ?_);refine au ?_;show wpAny _ _ (forIn #[Value.int x t,Value.int y u] _ _) _ _ s;rw[<-Array.forIn_toList];refine wpAny_forIn_list _ (fun lx r s'=>r.1=none/\s'=s/\∀v∈lx,∃z k,v=Value.int z k) _ ?_ ?_ _ _ ⟨rfl,rfl,fun v hv=>?_⟩
 .rintro v lx r s' ⟨hr,rfl,qT⟩;obtain⟨z,k,rfl⟩:=qT v bK;refine au (wpAny_pure ?_);exact wpAny_pure ⟨rfl,rfl,fun u' wH=>qT u' (bZ _ wH)⟩
 .rintro⟨r1,r2⟩ s' ⟨hr,rfl,_⟩;have zy:r1=none:=hr;subst zy;exact wpAny_pure q
 .rcases aV.mp hv with z|z
  .exact⟨_,_,z⟩
  .rcases aV.mp z with z|z
   .exact⟨_,_,z⟩
   .cases z
theorem zA(hS:jr s.heap S hs t)(hf:t'.fits wE.size=true)(hz:wE.size<=4096)(q:∀h',Heap.SameBut S s.heap h'->jr h' S (wE.map (·.1)) t'->Q () { s with heap:=h' }):wpAny (model prog w) A (storeSet S wE t') Q E s:=by
 obtain⟨o,es,ep,ho,hc,XX,hd,hm,_⟩:=hS;refine wpAny_storeSet_of ho hd (q _ (Heap.SameBut.update s.heap S (Obj.putSet wE t')) ?_) (bj hz (by decide));have g:=xb (Obj.putSet wE t') ho (by rw[putSet_of wE t' hd];rfl);rw[putSet_of wE t' hd] at g;exact⟨_,wE,ep+1,g,hc,XX,rfl,rfl,hf⟩
theorem F4(hu:A.units<cLine)(hS:jr s.heap S hs t)(ho:s.heap.get? a=some o)(hc:o.cls=.type "tuple")(hd:o.data=.seq #[.int x tx,.int y ty] n)(kI:a≠S)(lA:fh hs t (tupleKeyHash (intKind prog w) [x,y])=some (hs',t'))(q:∀h' tk,Heap.SameBut S s.heap h'->jr h' S hs' t'->Q true { s with heap:=h',toks:=tk }):wpAny (model prog w) A (setAdd S (.ref a)) Q E s:=by
 have hk:IsTupleKey (intKind prog w) s.heap [x,y] a:=⟨o,_,n,ho,hc,hd,.cons (intKind_is _ _ _ _) (.cons (intKind_is _ _ _ _) .nil)⟩
 unfold setAdd;refine gy (au (wpAny_pyHash_tuple hu hk ?_));generalize Ot:s.toks+([x,y].length+1)=tk;generalize hh:tupleKeyHash (intKind prog w) [x,y]=h at lA |-;have XY:=hS;obtain⟨ob,es,ep,hb,Ud,hbd,Fk,hm,hf⟩:=hS;unfold setAddHashed setAddHashedIn;refine gy (au (sX (s:={ s with toks:=tk }) hb Fk hf ?_));dsimp only;have Np:byScan (.ref a) es=false:=by unfold byScan;rfl
 rw[Np,am cm];unfold fh at lA;cases hg:t.gaveWay with
 |true=>rw[hg,if_pos rfl] at lA;cases lA
 |false=>
  rw[hg,am cm] at lA;split at lA
  .rename_i j hp;dsimp only at lA;split at lA
   .rename_i R5;rw[dH,sU] at R5;refine au (x_ (s:={ s with toks:=tk }) XY hg hp ?_);dsimp only;refine au (sX (s:={ s with toks:=tk }) hb Fk hf ?_);dsimp only;have byv:∀ {kk:Bool->Sem Bool},wpAny (model prog w) A (kk true) Q E { s with toks:=tk }->wpAny (model prog w) A (if (t.put j).1.plain=true then hashByValue 8 (.ref a) >>= kk else pure true >>= kk) Q E { s with toks:=tk }:=fun {kk} hP=>by
     split
     .exact au (A1 (s:={ s with toks:=tk }) ho hc hd hP)
     .exact au (wpAny_pure hP)
    refine byv ?_;simp only[gE];have hsz:(SetTable.insertAt es (t.put j).2 (h,Value.ref a)).size=(SetTable.insertAt hs (t.put j).2 h).size:=by
     rw[<-hm,<-lJ es (t.put j).2 (h,Value.ref a),ig]
    refine au (zA (s:={ s with toks:=tk }) XY (by rw[hsz];exact R5.1) (by rw[hsz];exact R5.2) fun h1 rM S1=>?_);rw[lJ,hm] at S1;split at lA
    .rename_i Ue;rw[show (!false&&(t.put j).1.tooFull)=true by rw[Ue];rfl,if_pos rfl];split at lA
     .rename_i t2 order hr;split at lA
      .rename_i hq;rw[dH,dH,sU,eC] at hq;obtain⟨⟨C7,KI⟩,OQ⟩:=hq;cases lA;have OR:es.size=hs.size:=by rw[<-hm,ig]
       refine au ?_;unfold setRelay;obtain⟨o1,F5,ep1,g1,g2,g3,g4,g5,g6⟩:=id S1;refine au (sX (s:={ s with heap:=h1,toks:=tk }) g1 g4 g6 ?_);dsimp only;rw[OR];rw[am (by (have h4:(4096:Nat)<=sizeLine:=by decide);lia)];refine au ?_;rw[g5,hr];have ya:(order.filterMap (F5[·]?)).size=F5.size:=by
        have e1:=congrArg Array.size (nh F5 order);rw[ig,g5] at e1;rw[e1,C7,<-g5,ig]
       refine wpAny_of_eq (show _=(pure (order.filterMap (F5[·]?),t'):Sem (Array (Int×Value)×SetTable)) from ?_) ?_
       .show (do
         let wE:=order.filterMap (F5[·]?)
         if wE.size != F5.size then unsupported "internal:set-table-lost-an-element"
         pure (wE,t'):Sem (Array (Int×Value)×SetTable))=_
        simp[ya]
       dsimp only;have Uf:F5.size<=4096:=by
        have e1:=congrArg Array.size g5;rw[ig] at e1;rw[e1];exact R5.2
       have hfm:(order.filterMap (F5[·]?)).size=(order.filterMap ((SetTable.insertAt hs (t.put j).2 h)[·]?)).size:=by
        have e1:=congrArg Array.size (nh F5 order);rw[ig,g5] at e1;exact e1
       refine zA (s:={ s with heap:=h1,toks:=tk }) S1 (by rw[hfm];exact KI) (by rw[ya];exact Uf) fun h2 mf S2=>?_;rw[nh,g5] at S2;exact wpAny_pure (q h2 tk (rM.trans mf) S2)
      .cases lA
     .cases lA
    .rename_i Ue;cases lA;have Ug:(t.put j).1.tooFull=false:=by simpa using Ue
     rw[show (!false&&(t.put j).1.tooFull)=false by rw[Ug];rfl,am cm];exact wpAny_pure (q h1 tk rM S1)
   .cases lA
  .cases lA
end
section
variable {prog:Program} {w:World} {A:Around} {E:Value->Shared->Prop} {s:Shared} {S Ia l:Addr} {R:Result->Shared->Prop}
def iq(h:Heap)(vs:List Value)(ys:List (Int×Int)):Prop:=vs.length=ys.length/\∀i v,vs[i]?=some v->∃a o n t u,v=.ref a/\h.get? a=some o/\o.cls=.type "tuple"/\o.data=.seq #[.int (ys.getD i (0,0)).1 t,.int (ys.getD i (0,0)).2 u] n
theorem iq.keeps(p:iq h vs ys)(k:∀b o,(∃xs n,o.data=.seq xs n)->h.get? b=some o->h'.get? b=some o):iq h' vs ys:=
 ⟨p.1,fun i v e=>let ⟨a,o,n,t,u,e1,e2,c,d⟩:=p.2 i v e;⟨a,o,n,t,u,e1,k a o ⟨_,_,d⟩ e2,c,d⟩⟩
def eF(prog:Program)(w:World)(y:Int×Int):Int:=tupleKeyHash (intKind prog w) [y.1,y.2]
theorem C8(hh:A.handled=none)(hu:A.units+1<cLine)(hlS:l≠S)(hlI:l≠Ia)(Uh:S≠Ia):
  ∀ (k i:Nat) (s:Shared) (hs:Array Int) (t:SetTable),vs.length-i=k->i<=vs.length->s.heap.IsListIter Ia l i->s.heap.IsList l vs.toArray->iq s.heap vs ys->jr s.heap S hs t->
   ((ys.drop i).map (eF prog w)).foldlM (fun q h=>fh q.1 q.2 h) (hs,t)=some (hsN,tN)->
   (∀h' tk,(∀b o,b≠S->b≠Ia->s.heap.get? b=some o->h'.get? b=some o)->jr h' S hsN tN->R (.ok (.ret .none)) { s with heap:=h',toks:=tk })->
   codeAny (model prog w) A (.builtin "set.update.loop" ⟨[.ref S,.ref Ia],[]⟩) R s:=by
 intro k;induction k with
 |zero=>
  intro i s hs t hk hi B5 hl hp hS hf hR;have e:i=vs.length:=by lia
  refine tE B_ ?_;rw[Around.under_plainId wM _];show wpAny _ A.in1 (pyNext (.ref Ia) >>= _) _ _ s;refine au (wpAny_pyNext_list_end (show A.in1.handled=none from hh) B5 hl (by simp;lia) fun h' eb=>?_);show wpAny _ A.in1 (ret Value.none) _ _ _;have hd:ys.drop i=[]:=by rw[List.drop_eq_nil_iff];have:=hp.1;lia
  rw[hd] at hf;cases hf;obtain⟨o,es,ep,q1,q2⟩:=hS;exact wpAny_pure (hR h' s.toks (fun b o hb R6 e=>eb b o R6 e) ⟨o,es,ep,eb S o Uh q1,q2⟩)
 |succ k ih=>
  intro i s hs t hk hi B5 hl hp hS hf hR;have eh:i<vs.length:=by lia
  refine tE B_ ?_;rw[Around.under_plainId wM _];show wpAny _ A.in1 (pyNext (.ref Ia) >>= _) _ _ s;have hv:vs[i]?=some vs[i]:=bh eh;refine au (wpAny_pyNext_list_item B5 hl (x:=vs[i]) (by simpa using hv) fun h1 Ui rM=>?_);obtain⟨a,o,n,tx,ty,ea,eo,ec,ed⟩:=hp.2 i _ hv;rw[ea];have XZ:∀b ob,(∃xs n,ob.data=.seq xs n)->s.heap.get? b=some ob->b≠Ia:=fun b ob ⟨xs,m,z⟩ e z'=>by
   obtain⟨oi,e1,_,d1⟩:=B5;rw[z',e1] at e;cases e;rw[d1] at z;cases z
  have F6:iq h1 vs ys:=hp.keeps fun b ob hb e=>(rM.2 b (XZ b ob hb e)).trans e;have X0:jr h1 S hs t:=by
   obtain⟨oS,es,ep,q1,q2⟩:=hS;exact⟨oS,es,ep,(rM.2 S Uh).trans q1,q2⟩
  have Ja:h1.IsList l vs.toArray:=by
   obtain⟨ol,q1,q2⟩:=hl;exact⟨ol,(rM.2 l hlI).trans q1,q2⟩
  have X1:h1.get? a=some o:=(rM.2 a (XZ a o ⟨_,_,ed⟩ eo)).trans eo;have X2:∀b ob,(∃xs n,ob.data=.seq xs n)->h1.get? b=some ob->b≠S:=fun b ob ⟨xs,m,z⟩ e z'=>by
   obtain⟨oS,es,ep,q1,_,_,q4,_⟩:=X0;rw[z',q1] at e;cases e;rw[q4] at z;cases z
  have yb:i<ys.length:=by have:=hp.1;lia
  have hdr:ys.drop i=ys[i]::ys.drop (i+1):=rh yb;have hgy:ys.getD i (0,0)=ys[i]:=by rw[aT,bh yb];rfl
  rw[hdr,dS,List.foldlM_cons] at hf;cases lA:fh hs t (eF prog w ys[i]) with
  |none=>rw[lA] at hf;cases hf
  |some q=>
   obtain⟨lC,t2⟩:=q;rw[lA] at hf;have X3:((ys.drop (i+1)).map (eF prog w)).foldlM (fun q h=>fh q.1 q.2 h) (lC,t2)=some (hsN,tN):=hf;show wpAny _ A.in1 (holding [Value.ref a] (setAdd S (.ref a)) >>= _) _ _ _;refine au (gy (F4 (s:={ s with heap:=h1 }) (by show A.units+1<cLine;exact hu) X0 X1 ec ed (X2 a o ⟨_,_,ed⟩ X1) (hs':=lC) (t':=t2) (by rw[hgy];exact lA) fun h2 tk mf S2=>?_));refine wpAny_pure ⟨plainId_quiet wM _,?_⟩;refine ih (i+1) { s with heap:=h2,toks:=tk } lC t2 (by lia) eh ?_ ?_ (F6.keeps fun b ob hb e=>(mf.2 b (X2 b ob hb e)).trans e) S2 X3 fun h3 tk3 k3 S3=>?_
   .obtain⟨oi,q1,q2⟩:=Ui;exact⟨oi,(mf.2 Ia (gG Uh)).trans q1,q2⟩
   .obtain⟨ol,q1,q2⟩:=Ja;exact⟨ol,(mf.2 l hlS).trans q1,q2⟩
   .exact hR h3 tk3 (fun b ob hb R6 e=>k3 b ob hb R6 ((mf.2 b hb).trans ((rM.2 b R6).trans e))) S3
theorem C9{vs:List Value}{ys:List (Int×Int)}{hsN:Bool->Array Int}{tN:Bool->SetTable}{Q:Value->Shared->Prop}(hh:A.handled=none)(hu:A.units+8<cLine)(hl:s.heap.IsList l vs.toArray)(hp:iq s.heap vs ys)(A2:∀led,t_ led (ys.map (eF prog w))=some (hsN led,tN led))(h:∀ (led:Bool) (h':Heap) (tk:Nat),jr h' s.heap.objs.size (hsN led) (tN led)->(∀b o,b<s.heap.objs.size->s.heap.get? b=some o->h'.get? b=some o)->Q (.ref s.heap.objs.size) { s with heap:=h',toks:=tk }):
  wpAny (model prog w) A (call (.type "set") [.ref l]) Q E s:=by
 obtain⟨c,tl,aaa⟩:=nY.mro;have c1:=nY.made;have c2:=nY.sub;refine kr (codeAny_of_tree ?_);show wpAny _ _ (callAny (.type "set") _) _ _ _;refine wpAny_pure ⟨Code.quiet_builtin _ (by decide +kernel),tE PySem.F.entry_type_call ?_⟩;rw[Around.under_plain (weight_type_call_type "set" [.ref l] []) rfl];have c3:=nY.notType;have c4:=nY.canCreate;have c5:=PySem.F.typeCall_set_1 (.ref l);repeat (any_goals (first|assumption|wp_step))
 refine kq (code_set_new_1 (.ref l) (E:=E) (Q₁:=fun obj s₁=>∃led:Bool,obj=.ref s.heap.objs.size/\s₁={ s with heap:=s.heap.push { cls:=.type "set",dict:=none,data:=.set #[] 0 (.fresh 0 0 led) } }) fun led=>⟨led,rfl,rfl⟩) fun r s₁ hr=>?_;cases r with
 |error e=>exact hr
 |ok fl=>
  cases fl with
  |next=>exact hr.elim
  |brk=>exact hr.elim
  |cont=>exact hr.elim
  |ret obj=>
   obtain⟨led,rfl,rfl⟩:=hr;generalize Uj:s.heap.push { cls:=.type "set",dict:=none,data:=.set #[] 0 (.fresh 0 0 led) }=hS;have hsz:hS.objs.size=s.heap.objs.size+1:=by rw[<-Uj,iG]
   have gS:hS.get? s.heap.objs.size=some { cls:=.type "set",dict:=none,data:=.set #[] 0 (.fresh 0 0 led) }:=by rw[<-Uj];exact cE _ rfl
   have up:∀b o,s.heap.get? b=some o->hS.get? b=some o:=fun b o e=>by rw[<-Uj];exact bQ _ e
   have hT:Shared.TypeIs { s with heap:=hS } (.ref s.heap.objs.size) "set":=⟨_,gS,rfl⟩
   have c6:=nY.init.lookup;have c7:=nY.init.bind (.ref s.heap.objs.size);repeat (any_goals (first|assumption|wp_step))
   refine kq (sM (R:=wants (fun r s₂=>r=.none/\∃h' tk,s₂={ s with heap:=h',toks:=tk }/\jr h' s.heap.objs.size (hsN led) (tN led)/\
     (∀b o,b<s.heap.objs.size->s.heap.get? b=some o->h'.get? b=some o)) E) nY.init.plain PySem.F.entry_set_init (check_set_init_1 hT ?_)) fun r₂ s₂ OT=>?_
   .obtain⟨ol,Jb,IZ,nl,R7⟩:=hl;obtain⟨aab,X4,X5,Uk⟩:=ol;simp only at IZ R7;subst IZ;subst R7;have Ul:=up _ _ Jb;have c8:=PySem.F.sub_list_set;have c9:=PySem.F.sub_list_frozenset;have c10:(Value.type "list"==Value.type "dict")=false:=by decide
    have Ja:hS.IsList l vs.toArray:=⟨_,Ul,rfl,nl,rfl⟩
    unfold Builtin.«set.__init__» noKeywords Builtin.Frozenset.updateFrom;generalize hPI:pyIter=PI
    wp_walk
    subst hPI;refine sY Ja ?_;refine au (wpAny_runValue ?_);have eh:l<s.heap.objs.size:=aQ Jb;refine C8 (l:=l) (vs:=vs) (ys:=ys) (hsN:=hsN led) (tN:=tN led) (by simp[hh]) (by simp;lia) (a8 eh) (by rw[hsz];exact a8 (et eh)) (by rw[hsz];exact a8 (i6 _))
     (vs.length-0) 0 _ #[] (.fresh 0 0 led) rfl (cN _) ⟨_,cE _ rfl,rfl,rfl⟩ (Ja.push _) (hp.keeps fun b o _ e=>bQ _ (up b o e)) ⟨_,#[],0,bQ _ gS,rfl,⟨rfl,rfl⟩,rfl,by simp,rfl⟩ (A2 led) fun h' tk k S'=>?_
    show wpAny _ _ _ _ _ _;refine wpAny_pure ?_;show wpAny _ _ (ret Value.none) _ _ _;refine wpAny_pure ⟨rfl,h',tk,rfl,S',fun b o hb e=>?_⟩;exact k b o (a8 hb) (by rw[hsz];exact a8 (et hb)) (bQ _ (up b o e))
   .cases r₂ with
    |error e=>exact OT
    |ok fl₂=>
     cases fl₂ with
     |next=>exact OT.elim
     |brk=>exact OT.elim
     |cont=>exact OT.elim
     |ret r=>
      obtain⟨rfl,h',tk,rfl,S',k⟩:=OT;repeat (any_goals (first|assumption|wp_step))
      exact h led h' tk S' k
end
open PySem
def C_(l:List Nat):Nat:=l.foldl (fun a x=>a ||| (1 <<< x)) 0
theorem A3(l:List Nat)(a j:Nat):(l.foldl (fun a x=>a ||| (1 <<< x)) a).testBit j=(a.testBit j||l.contains j):=by
 induction l generalizing a with
 |nil=>simp
 |cons x xs ih=>
  rw[iX,ih,Nat.testBit_or,List.contains_cons];have:(1 <<< x).testBit j=(j==x):=by
   rw[Nat.one_shiftLeft,Nat.testBit_two_pow];by_cases h:x=j
   .simp[h]
   .have h':¬ j=x:=fun e=>h e.symm;simp[h,h']
  rw[this,Bool.or_assoc]
theorem n6(h:C_ l=2 ^ n-1)(hj:j<n):j∈l:=by
 have e:=A3 l 0 j;have h':l.foldl (fun a x=>a ||| (1 <<< x)) 0=2 ^ n-1:=h;rw[h',Nat.testBit_two_pow_sub_one] at e;simp[hj] at e;exact e
def Da(M:Nat):Nat->Nat->Nat
 |0,i=>i
 |n+1,i=>Da M n ((i*5+1) % M)
theorem oN(M a:Nat):∀b i,Da M (b+a) i=Da M a (Da M b i)
 |0,i=>by rw[Nat.zero_add];rfl
 |b+1,i=>by
  rw[show b+1+a=(b+a)+1 by lia];show Da M (b+a) _=Da M a (Da M b _);exact oN M a b _
def KJ(M:Nat):Nat->Nat->List Nat
 |0,_=>[]
 |n+1,i=>i::KJ M n ((i*5+1) % M)
theorem p_:∀ {n i},j∈KJ M n i->∃k,k<n/\Da M k i=j
 |0,_,h=>by cases h
 |n+1,i,h=>by
  rcases aV.mp h with z|z
  .exact⟨0,by lia,z.symm⟩
  .obtain⟨k,a,b⟩:=p_ z;exact⟨k+1,by lia,b⟩
structure A4(M:Nat):Prop where
 all:C_ (KJ M M 0)=2 ^ M-1
 back:Da M M 0=0
theorem Um:A4 8:=⟨by decide +kernel,by decide +kernel⟩
theorem Jc:A4 32:=⟨by decide +kernel,by decide +kernel⟩
theorem Db:A4 128:=⟨by decide +kernel,by decide +kernel⟩
theorem Dc:A4 512:=⟨by decide +kernel,by decide +kernel⟩
theorem A4.cover(R:A4 M)(hi:i<M)(hj:j<M):∃n,n<M/\Da M n i=j:=by
 obtain⟨a,ha,ea⟩:=p_ (n6 R.all hi);obtain⟨b,hb,eb⟩:=p_ (n6 R.all hj);by_cases h:a<=b
 .refine⟨b-a,by lia,?_⟩;rw[<-ea,<-oN,show a+(b-a)=b by lia,eb]
 .refine⟨M+b-a,by lia,?_⟩;rw[<-ea,<-oN,show a+(M+b-a)=M+b by lia,oN,R.back,eb]
def fE(mask:Nat):Nat->Nat×Nat->Nat×Nat
 |0,q=>q
 |n+1,q=>fE mask n (SetTable.leap mask q.1 q.2)
theorem rN(m a:Nat):∀b q,fE m (b+a) q=fE m a (fE m b q)
 |0,q=>by rw[Nat.zero_add];rfl
 |b+1,q=>by
  rw[show b+1+a=(b+a)+1 by lia];exact rN m a b _
theorem vo:∀ {n:Nat} {q:Nat×Nat},q.1<m+1->(fE m n q).1<m+1
 |0,_,h=>h
 |n+1,q,h=>vo (n:=n) (pR _ (pJ _))
theorem zB:∀ {n:Nat} {q:Nat×Nat},(fE m n q).2=q.2 / 32 ^ n
 |0,_=>by simp[fE]
 |n+1,q=>by
  show (fE m n _).2=_;rw[zB];show q.2 / 32 / 32 ^ n=_;rw[Nat.div_div_eq_div_mul,Nat.pow_succ,Nat.mul_comm]
theorem rP:∀ {n i:Nat},fE m n (i,0)=(Da (m+1) n i,0)
 |0,_=>rfl
 |n+1,i=>by
  show fE m n (SetTable.leap m i 0)=_;unfold SetTable.leap;simp only[Nat.zero_div,pO];exact rP
theorem n8(R:A4 (m+1))(hi:i<m+1)(hp:p<2 ^ 64)(hj:j<m+1):∃n,n<m+14/\(fE m n (i,p)).1=j:=by
 have h1:=vo (m:=m) (n:=13) (q:=(i,p)) hi;have h2:(fE m 13 (i,p)).2=0:=by
  rw[zB];exact Nat.div_eq_of_lt (bS hp (by decide))
 obtain⟨n,hn,e⟩:=R.cover h1 hj;refine⟨13+n,by lia,?_⟩;rw[rN];have:fE m 13 (i,p)=((fE m 13 (i,p)).1,0):=ku rfl h2;rw[this,rP];exact e
theorem zC(h:Int):SetTable.bits h<2 ^ 64:=by
 unfold SetTable.bits;have a:=pG h (show (2 ^ 64:Int)≠0 by decide);have b:=pj h (show (0:Int)<2 ^ 64 by decide);lia
theorem OV{M:Nat}{l:List Nat}(h:l.length<M):∃j,j<M/\j∉l:=by
 have key:∀ (a b:List Nat),a.Nodup->(∀x∈a,x∈b)->a.length<=b.length:=by
  intro a;induction a with
  |nil=>intro b _ _;exact cN _
  |cons x xs ih=>
   intro b hn hs;obtain⟨h1,h2⟩:=eU.mp hn;have hx:x∈b:=hs x bK;have:=ih (b.erase x) h2 fun y hy=>(List.mem_erase_of_ne (fun (e:y=x)=>h1 (e ▸ hy))).mpr (hs y (bZ _ hy));rw[Cj hx] at this;have:0<b.length:=sC hx;rw[dG];lia
 apply o8;intro CN;have:=key (List.range M) l kh fun x hx=>o8 fun F7=>CN ⟨x,cq.mp hx,F7⟩;rw[d9] at this;lia
def yc(mask i p:Nat):SetTable.Probe:={ j:=i,more:=SetTable.runEnd mask i-i,i:=i,perturb:=p,dummy:=none }
theorem KL(mask i:Nat):SetTable.runEnd mask i-i<=9:=by unfold SetTable.runEnd;split <;> lia
theorem ua{t:SetTable}(hd:t.dummies=#[])(j:Nat):t.slot j=.empty\/∃i,t.slot j=.live i/\t.place[i]?=some j:=by
 unfold SetTable.slot;dsimp only;split
 .rename_i h;exact .inr ⟨_,rfl,by simpa using h⟩
 .left;rw[hd];rfl
theorem yd{t:SetTable}(hd:t.dummies=#[]){j:Nat}(h:j∉t.place.toList):t.slot j=.empty:=by
 rcases ua hd j with e|⟨i,_,e2⟩
 .exact e
 .exact absurd (by rw[<-mm] at e2;exact cU e2) h
section
variable {t:SetTable} {hashAt:Nat->Int} {h:Int}
theorem Dd(hd:t.dummies=#[])(hh:∀i,i<t.place.size->hashAt i≠h)(i p:Nat):∀ (r:Nat) (j ft:Nat),
  (∃j',SetTable.probe.go t hashAt h (ft+r+1) { j:=j,more:=r,i:=i,perturb:=p,dummy:=none }=some (.empty j' none))\/
  SetTable.probe.go t hashAt h (ft+r+1) { j:=j,more:=r,i:=i,perturb:=p,dummy:=none }=SetTable.probe.go t hashAt h ft (yc t.mask (SetTable.leap t.mask i p).1 (SetTable.leap t.mask i p).2)
 |0,j,ft=>by
  rcases ua hd j with e|⟨k,e,e2⟩
  .exact .inl ⟨j,by unfold SetTable.probe.go;rw[e]⟩
  .right;have hk:k<t.place.size:=(Ce.mp e2).1;conv=>lhs;unfold SetTable.probe.go
   rw[e];simp only[eC,hh k hk,fU];rfl
 |r+1,j,ft=>by
  rcases ua hd j with e|⟨k,e,e2⟩
  .exact .inl ⟨j,by rw[show ft+(r+1)+1=(ft+r+1)+1 by lia];unfold SetTable.probe.go;rw[e]⟩
  .have hk:k<t.place.size:=(Ce.mp e2).1;have st:SetTable.probe.go t hashAt h (ft+(r+1)+1) { j:=j,more:=r+1,i:=i,perturb:=p,dummy:=none }=SetTable.probe.go t hashAt h (ft+r+1) { j:=j+1,more:=r,i:=i,perturb:=p,dummy:=none }:=by
    rw[show ft+(r+1)+1=(ft+r+1)+1 by lia];conv=>lhs;unfold SetTable.probe.go
    rw[e];simp only[eC,hh k hk,fU];rfl
   rw[st];exact Dd hd hh i p r (j+1) ft
theorem zD(hd:t.dummies=#[])(hh:∀i,i<t.place.size->hashAt i≠h):∀ (m:Nat) (i p ft:Nat),10*(m+1)<=ft->t.slot (fE t.mask m (i,p)).1=.empty->
  ∃j',SetTable.probe.go t hashAt h ft (yc t.mask i p)=some (.empty j' none)
 |0,i,p,ft,hf,e=>by
  obtain⟨f,rfl⟩:∃f,ft=f+1:=⟨ft-1,by lia⟩
  refine⟨i,?_⟩;have e':t.slot i=.empty:=e;unfold SetTable.probe.go yc;dsimp only;rw[e']
 |m+1,i,p,ft,hf,e=>by
  have hr:=KL t.mask i;obtain⟨f,zE⟩:∃f,ft=f+(SetTable.runEnd t.mask i-i)+1:=⟨ft-(SetTable.runEnd t.mask i-i)-1,by lia⟩
  rcases Dd (hashAt:=hashAt) (h:=h) hd hh i p (SetTable.runEnd t.mask i-i) i f with z|z
  .rw[zE];exact z
  .rw[zE];show ∃j',SetTable.probe.go t hashAt h _ { j:=i,more:=_,i:=i,perturb:=p,dummy:=none }=_;rw[z];exact zD hd hh m _ _ f (by lia) e
theorem yg(R:A4 (t.mask+1))(hd:t.dummies=#[])(hs:t.place.size<=t.mask)(hh:∀i,i<t.place.size->hashAt i≠h):∃j,t.probe hashAt h (t.probeStart h)=some (.empty j none):=by
 obtain⟨j,hj,hn⟩:=OV (M:=t.mask+1) (l:=t.place.toList) (by simpa using Nat.lt_succ_of_le hs);obtain⟨m,hm,e⟩:=n8 R (pR (SetTable.bits h) (pJ t.mask)) (zC h) hj;refine zD hd hh m _ _ _ ?_ (by rw[e];exact yd hd hn);unfold SetTable.turns;lia
end
theorem De{α β:Type}{f:α->Option β}:∀ {l:List α},(∀q∈l,(f q).isSome=true)->(l.filterMap f).length=l.length
 |[],_=>rfl
 |q::l,h=>by
  have hq:=h q bK;cases e:f q with
  |none=>rw[e] at hq;cases hq
  |some b=>rw[Ck e,dG,dG,De fun x hx=>h x (bZ _ hx)]
theorem rQ:∀ (m ft i p:Nat),m<ft->owner.getD (fE mask m (i,p)).1 (some 0)=none->∃j,SetTable.layClean.free mask owner ft i p=some j/\owner.getD j (some 0)=none
 |m,0,_,_,h,_=>by lia
 |m,ft+1,i,p,h,e=>by
  unfold SetTable.layClean.free;cases hf:(List.range (SetTable.runEnd mask i+1-i)).find? fun k=>(owner.getD (i+k) (some 0)).isNone with
  |some k=>
   refine⟨i+k,rfl,?_⟩;have:=List.find?_some hf;simpa using this
  |none=>
   cases m with
   |zero=>
    have h0:(0:Nat)∈List.range (SetTable.runEnd mask i+1-i):=cq.mpr (by unfold SetTable.runEnd;split <;> lia);have:=List.find?_eq_none.mp hf 0 h0;have e':owner.getD i (some 0)=none:=e;rw[pO,e'] at this;exact absurd rfl this
   |succ m=>
    exact rQ m ft _ _ (by lia) e
structure vp(M:Nat)(owner:Array (Option Nat))(k:Nat):Prop where
 size:owner.size=M
 cnt:owner.toList.countP Option.isSome=k
 lt:∀x,some x∈owner.toList->x<k
theorem yh{l:List (Option Nat)}{j:Nat}{x:Nat}(hj:l[j]?=some none):(l.set j (some x)).countP Option.isSome=l.countP Option.isSome+1:=by
 induction l generalizing j with
 |nil=>cases hj
 |cons a l ih=>
  cases j with
  |zero=>
   obtain rfl:a=none:=by simpa using hj
   simp
  |succ j=>
   rw[List.set_cons_succ,mD,mD,ih (by simpa using hj)];lia
theorem vp.one{mask:Nat}{owner:Array (Option Nat)}{k:Nat}(L:vp (mask+1) owner k)(R:A4 (mask+1))(hk:k<mask+1)(h:Int):
  ∃j,SetTable.layClean.free mask owner (SetTable.turns mask) (SetTable.bits h % (mask+1)) (SetTable.bits h)=some j/\vp (mask+1) (owner.setIfInBounds j (some k)) (k+1):=by
 have CN:∃j,j<mask+1/\owner.toList[j]?=some none:=by
  apply o8;intro CN;have qT:∀x∈owner.toList,x.isSome=true:=by
   intro x hx;obtain⟨j,hj,e⟩:=mq.mp hx;cases x with
   |some _=>rfl
   |none=>
    refine absurd ⟨j,?_,?_⟩ CN
    .rw[<-L.size];simpa using hj
    .rw[bh hj,e]
  have:=List.countP_eq_length.mpr qT;rw[L.cnt,kd,L.size] at this;lia
 obtain⟨j0,hj0,e0⟩:=CN;obtain⟨m,hm,em⟩:=n8 R (pR (SetTable.bits h) (pJ mask)) (zC h) hj0;obtain⟨j,ej,en⟩:=rQ (mask:=mask) (owner:=owner) m (SetTable.turns mask) (SetTable.bits h % (mask+1)) (SetTable.bits h) (by unfold SetTable.turns;lia)
  (by rw[em,sB,<-mm,e0];rfl)
 refine⟨j,ej,?_⟩;have hjn:owner.toList[j]?=some none:=by
  rw[sB,<-mm] at en;cases hq:owner.toList[j]? with
  |none=>rw[hq] at en;cases en
  |some v=>rw[hq] at en;rw[show v=none from en]
 have OW:(owner.setIfInBounds j (some k)).toList=owner.toList.set j (some k):=by simp
 refine⟨by simp[L.size],by rw[OW,yh hjn,L.cnt],fun x hx=>?_⟩;rw[OW] at hx;rcases List.mem_or_eq_of_mem_set hx with z|z
 .exact et (L.lt x z)
 .cases z;exact i6 _
theorem zF(R:A4 (mask+1)):∀ (l:List Int) (owner:Array (Option Nat)) (k:Nat),vp (mask+1) owner k->k+l.length<=mask->
  ∃Df,l.foldl (fun dq h=>do
   let (owner,k) <- dq
   let j <- SetTable.layClean.free mask owner (SetTable.turns mask) (SetTable.bits h % (mask+1)) (SetTable.bits h)
   pure (owner.setIfInBounds j (some k),k+1)) (some (owner,k))=some (Df,k+l.length)/\vp (mask+1) Df (k+l.length)
 |[],owner,k,L,_=>⟨owner,rfl,L⟩
 |h::l,owner,k,L,hl=>by
  rw[dG] at hl;obtain⟨j,ej,L'⟩:=L.one R (by lia) h;obtain⟨o',e,L2⟩:=zF R l _ _ L' (by lia);refine⟨o',?_,by rw[dG,show k+(l.length+1)=k+1+l.length by lia];exact L2⟩;rw[iX];have:(do
   let (owner,k) <- some (owner,k)
   let j <- SetTable.layClean.free mask owner (SetTable.turns mask) (SetTable.bits h % (mask+1)) (SetTable.bits h)
   pure (owner.setIfInBounds j (some k),k+1):Option (Array (Option Nat)×Nat))=some (owner.setIfInBounds j (some k),k+1):=by
   show (SetTable.layClean.free mask owner (SetTable.turns mask) (SetTable.bits h % (mask+1)) (SetTable.bits h)).bind _=_;rw[ej];rfl
  rw[this,e,dG,show k+(l.length+1)=k+1+l.length by lia]
theorem vq(R:A4 (mask+1))(hs:Array Int)(h:hs.size<=mask):∃owner,SetTable.layClean mask hs=some owner/\vp (mask+1) owner hs.size:=by
 have L0:vp (mask+1) (Array.replicate (mask+1) none) 0:=⟨by simp,by simp[List.countP_replicate],fun x hx=>by simp at hx⟩
 obtain⟨o,e,L⟩:=zF R hs.toList _ 0 L0 (by simpa using h);refine⟨o,?_,by simpa using L⟩;unfold SetTable.layClean;rw[<-Array.foldl_toList];have e':=congrArg (Option.map (·.1)) e;exact e'
theorem yi(L:vp M owner n):
  ((List.range M).filterMap fun j=>(owner.getD j none).map (j,·)).length=n/\∀q∈(List.range M).filterMap (fun j=>(owner.getD j none).map (j,·)),q.2<n:=by
 constructor
 .rw[<-L.cnt];have e:owner.toList=(List.range M).map fun j=>owner.getD j none:=by
   apply xp
   .simp[L.size]
   .intro i h1 h2;simp only[pE,xa,Array.getElem_toList];rw[sB,wO (by simpa using h1)];rfl
  conv=>rhs;rw[e]
  rw[List.countP_map];generalize List.range M=l;induction l with
  |nil=>rfl
  |cons a l ih=>
   rw[mD,<-ih];cases hq:owner.getD a none with
   |none=>rw[List.filterMap_cons_none (by rw[hq];rfl),show (Option.isSome ∘ fun j=>owner.getD j none) a=false by show (owner.getD a none).isSome=false;rw[hq];rfl];simp
   |some x=>rw[Ck (b:=(a,x)) (by rw[hq];rfl),show (Option.isSome ∘ fun j=>owner.getD j none) a=true by show (owner.getD a none).isSome=true;rw[hq];rfl];simp
 .intro q hq;obtain⟨j,_,e⟩:=mv.mp hq;cases hx:owner.getD j none with
  |none=>rw[hx] at e;cases e
  |some x=>
   rw[hx] at e;cases e;refine L.lt x ?_;rw[sB,<-mm] at hx;cases hy:owner.toList[j]? with
   |none=>rw[hy] at hx;cases hx
   |some v=>rw[hy] at hx;obtain rfl:v=some x:=hx;exact cU hy
structure vt(hs:Array Int)(t:SetTable):Prop where
 dm:t.dummies=#[]
 sz:t.place.size=hs.size
 ms:(t.mask=7/\hs.size<=4)\/(t.mask=31/\hs.size<=18)\/(t.mask=127/\hs.size<=76)\/(t.mask=511/\hs.size<=306)
theorem vt.rnd(T:vt hs t):A4 (t.mask+1):=by
 rcases T.ms with ⟨e,_⟩|⟨e,_⟩|⟨e,_⟩|⟨e,_⟩ <;> rw[e]
 .exact Um
 .exact Jc
 .exact Db
 .exact Dc
theorem jX(xs:Array α)(p:Nat)(x:α):(SetTable.insertAt xs p x).size=xs.size+1:=by
 unfold SetTable.insertAt;simp;lia
theorem lK(h:y∈(SetTable.insertAt xs p x).toList):y=x\/y∈xs.toList:=by
 unfold SetTable.insertAt at h;rw[d8,mz,w4,w4] at h;rcases cH.mp h with z|z
 .rcases cH.mp z with z|z
  .right;rw[List.extract_eq_drop_take] at z;exact sK (lm z)
  .left;simpa using z
 .right;rw[List.extract_eq_drop_take] at z;exact sK (lm z)
theorem yj{hs:Array Int}{t:SetTable}{h:Int}(T:vt hs t)(hn:h∉hs.toList)(hl:hs.size<300):∃hs' t',fh hs t h=some (hs',t')/\vt hs' t'/\hs'.size=hs.size+1/\∀x∈hs'.toList,x=h\/x∈hs.toList:=by
 have Uf:t.place.size<=t.mask:=by rw[T.sz];rcases T.ms with ⟨e,z⟩|⟨e,z⟩|⟨e,z⟩|⟨e,z⟩ <;> lia
 have hh:∀i,i<t.place.size->KG hs i≠h:=by
  intro i hi e;rw[T.sz] at hi;unfold KG at e;rw[wO hi] at e;exact hn (by rw[<-e];simp)
 obtain⟨j,hp⟩:=yg (hashAt:=KG hs) (h:=h) T.rnd T.dm Uf hh;have hg:t.gaveWay=false:=by
  unfold SetTable.gaveWay;rcases T.ms with ⟨e,_⟩|⟨e,_⟩|⟨e,_⟩|⟨e,_⟩ <;> rw[e] <;> rfl
 have q1:(t.put j).1.place=SetTable.insertAt t.place (SetTable.below t.place j) j:=rfl;have q2:(t.put j).1.dummies=#[]:=by
  show (if SetTable.has t.dummies j=true then _ else t.dummies)=_;rw[T.dm];rfl
 have q3:(t.put j).1.mask=t.mask:=rfl;have s1:(SetTable.insertAt hs (t.put j).2 h).size=hs.size+1:=jX _ _ _;have s2:(t.put j).1.place.size=hs.size+1:=by rw[q1,jX,T.sz]
 have fl:(t.put j).1.fill=hs.size+1:=by unfold SetTable.fill;rw[s2,q2];rfl
 have fit:(t.put j).1.fits (SetTable.insertAt hs (t.put j).2 h).size=true:=by
  unfold SetTable.fits;rw[s1,s2,fl,q3];simp;rcases T.ms with ⟨e,z⟩|⟨e,z⟩|⟨e,z⟩|⟨e,z⟩ <;> lia
 unfold fh;rw[hg,am cm,hp];dsimp only;rw[if_pos (by rw[fit,s1];simp;lia)];by_cases hf:(t.put j).1.tooFull=true
 .rw[if_pos hf];have zE:=hf;unfold SetTable.tooFull at zE;rw[fl,q3] at zE;have X3:(hs.size+1)*5>=t.mask*3:=by simpa using zE
  have gr:SetTable.grown (hs.size+1)=(hs.size+1)*4:=by unfold SetTable.grown;rw[am (by lia)]
  obtain⟨m2,X6,Uo,R2⟩:∃m2,SetTable.sizeAbove (SetTable.grown (hs.size+1))=m2+1/\((m2=31/\hs.size+1<=18)\/(m2=127/\hs.size+1<=76)\/(m2=511/\hs.size+1<=306))/\A4 (m2+1):=by
   rw[gr];rcases T.ms with ⟨e,z⟩|⟨e,z⟩|⟨e,z⟩|⟨e,z⟩
   .have:hs.size=4:=by lia
    exact⟨31,by rw[this];rfl,.inl ⟨rfl,by lia⟩,Jc⟩
   .have:hs.size=18:=by lia
    exact⟨127,by rw[this];rfl,.inr (.inl ⟨rfl,by lia⟩),Db⟩
   .have:hs.size=76:=by lia
    exact⟨511,by rw[this];rfl,.inr (.inr ⟨rfl,by lia⟩),Dc⟩
   .lia
  have X7:(SetTable.insertAt hs (t.put j).2 h).size<=m2:=by rw[s1];rcases Uo with ⟨e,z⟩|⟨e,z⟩|⟨e,z⟩ <;> lia
  obtain⟨owner,eo,L⟩:=vq R2 (SetTable.insertAt hs (t.put j).2 h) X7;obtain⟨OX,Up⟩:=yi L;rw[s1] at OX Up;generalize OY:(List.range (m2+1)).filterMap (fun j=>(owner.getD j none).map (j,·))=live at OX Up;have er:(t.put j).1.relaid (SetTable.insertAt hs (t.put j).2 h) (SetTable.grown (hs.size+1))=some ({ mask:=m2,place:=(live.map (·.1)).toArray,dummies:=#[],finger:=(t.put j).1.finger,led:=(t.put j).1.led,moves:=(t.put j).1.movedTo m2,plain:=(t.put j).1.plain },(live.map (·.2)).toArray):=by
   unfold SetTable.relaid SetTable.laid;rw[X6];simp only[Nat.add_sub_cancel];rw[eo];show some _=some _;rw[<-OY]
  rw[er];dsimp only;have ya:((live.map (·.2)).toArray.filterMap ((SetTable.insertAt hs (t.put j).2 h)[·]?)).size=hs.size+1:=by
   rw[<-kd,sI];show ((live.map (·.2)).filterMap _).length=_;rw[<-OX,List.filterMap_map];refine De fun q hq=>?_;show ((SetTable.insertAt hs (t.put j).2 h)[q.2]?).isSome=true;rw[wO (by rw[s1];exact Up q hq)];rfl
  have emf:∀x,({ mask:=m2,place:=(live.map (·.1)).toArray,dummies:=#[],finger:=(t.put j).1.finger,led:=(t.put j).1.led,moves:=(t.put j).1.movedTo m2,plain:=(t.put j).1.plain }:SetTable).fits x=(decide (hs.size+1=x)&&decide (hs.size+1<=m2)):=by
   intro x;unfold SetTable.fits SetTable.fill;simp[OX];rw[ja];simp
  rw[if_pos (by
   rw[ya,s1,emf,X6];have:hs.size+1<=m2:=by rw[<-s1];exact X7
   simp[this];rcases Uo with ⟨e,z⟩|⟨e,z⟩|⟨e,z⟩ <;> lia)]
  refine⟨_,_,rfl,⟨rfl,?_,?_⟩,ya,fun x hx=>?_⟩
  .rw[ya];simp[OX]
  .rw[ya];exact .inr Uo
  .rw[sI] at hx;obtain⟨k,_,ek⟩:=mv.mp hx;refine lK (p:=(t.put j).2) ?_;rw[<-mm] at ek;exact cU ek
 .rw[am hf];refine⟨_,_,rfl,⟨q2,by rw[s2,s1],?_⟩,s1,fun x hx=>lK hx⟩;have zE:¬ (hs.size+1)*5>=t.mask*3:=by
   intro z;refine hf ?_;unfold SetTable.tooFull;rw[fl,q3];simpa using z
  rw[s1,q3];rcases T.ms with ⟨e,z⟩|⟨e,z⟩|⟨e,z⟩|⟨e,z⟩ <;> lia
theorem n9:∀ (l:List Int) (hs:Array Int) (t:SetTable),vt hs t->(∀x∈l,x∉hs.toList)->l.Nodup->hs.size+l.length<=300->∃hs' t',l.foldlM (fun q h=>fh q.1 q.2 h) (hs,t)=some (hs',t')/\hs'.size=hs.size+l.length
 |[],hs,t,_,_,_,_=>⟨hs,t,rfl,rfl⟩
 |h::l,hs,t,T,hn,nd,hl=>by
  rw[dG] at hl;obtain⟨n1,n2⟩:=eU.mp nd;obtain⟨I0,t1,e1,T1,z1,m1⟩:=yj T (hn h bK) (by lia);obtain⟨lC,t2,e2,z2⟩:=n9 l I0 t1 T1 (fun x hx hy=>by
   rcases m1 x hy with e|e
   .exact n1 (e ▸ hx)
   .exact hn x (bZ _ hx) e) n2 (by lia)
  refine⟨lC,t2,?_,by rw[z2,z1,dG];lia⟩;rw[List.foldlM_cons];show (fh hs t h).bind _=_;rw[e1];exact e2
theorem A5(led:Bool)(nd:l.Nodup)(hl:l.length<=300):∃hs t,t_ led l=some (hs,t)/\hs.size=l.length:=by
 obtain⟨hs,t,e,z⟩:=n9 l #[] (SetTable.fresh 0 0 led) ⟨rfl,rfl,.inl ⟨rfl,by decide⟩⟩ (fun x _ h=>by simp at h) nd (by simpa using hl);exact⟨hs,t,e,by simpa using z⟩
def zG:List Nat->Nat->Bool
 |[],_=>true
 |x::xs,dq=>bif Nat.testBit dq x then false else zG xs (dq ||| (1 <<< x))
theorem vv:∀ (l:List Nat) (dq:Nat),zG l dq=true->l.Nodup/\∀x∈l,dq.testBit x=false
 |[],_,_=>⟨mI,fun x h=>(nomatch h)⟩
 |x::xs,dq,h=>by
  unfold zG at h;cases hb:dq.testBit x with
  |true=>rw[hb] at h;cases h
  |false=>
   rw[hb] at h;obtain⟨nd,hx⟩:=vv xs _ h;have X8:∀y∈xs,dq.testBit y=false/\y≠x:=by
    intro y hy;have:=hx y hy;rw[Nat.testBit_or,Nat.one_shiftLeft,Nat.testBit_two_pow] at this;rw[Bool.or_eq_false_iff] at this;exact⟨this.1,fun e=>by have:=this.2;simp[e] at this⟩
   refine⟨eU.mpr ⟨fun hm=>(X8 x hm).2 rfl,nd⟩,fun y hy=>?_⟩;rcases aV.mp hy with z|z
   .rw[z];exact hb
   .exact(X8 y z).1
def qa:List (Int×Int):=(List.range 32).flatMap fun a=>(List.range 32).map fun b=>(Int.ofNat a,Int.ofNat b)
def Jd(h:Int):Nat:=(h % 6554).toNat
theorem A6(P:Program)(w:World):zG (qa.map fun y=>Jd (eF P w y)) 0=true:=by kernel_rfl
theorem zH(h1:0<=y.1/\y.1<32)(h2:0<=y.2/\y.2<32):y∈qa:=by
 unfold qa;refine xo.mpr ⟨y.1.toNat,cq.mpr (by lia),bH.mpr ⟨y.2.toNat,cq.mpr (by lia),ku ?_ ?_⟩⟩
 .show ((y.1.toNat:Nat):Int)=y.1;lia
 .show ((y.2.toNat:Nat):Int)=y.2;lia
theorem jY:∀ {l:List α},(l.map f).Nodup->∀x∈l,∀y∈l,f x=f y->x=y
 |[],_,_,h,_,_,_=>by cases h
 |a::l,h,x,hx,y,hy,e=>by
  rw[dS] at h;obtain⟨h1,h2⟩:=eU.mp h;rcases aV.mp hx with z|z <;> rcases aV.mp hy with z'|z'
  .rw[z,z']
  .exact absurd (bH.mpr ⟨y,z',by rw[<-e,z]⟩) h1
  .exact absurd (bH.mpr ⟨x,z,by rw[e,z']⟩) h1
  .exact jY h2 x z y z' e
theorem uc(hx:(0<=x.1/\x.1<32)/\(0<=x.2/\x.2<32))(hy:(0<=y.1/\y.1<32)/\(0<=y.2/\y.2<32))(e:eF P w x=eF P w y):x=y:=
 jY (vv _ _ (A6 P w)).1 x (zH hx.1 hx.2) y (zH hy.1 hy.2) (congrArg Jd e)
theorem ni:∀ {l:List α},l.Nodup->(∀x∈l,∀y∈l,f x=f y->x=y)->(l.map f).Nodup
 |[],_,_=>mI
 |a::l,h,hf=>by
  obtain⟨h1,h2⟩:=eU.mp h;rw[dS];refine eU.mpr ⟨fun z=>?_,ni h2 fun x hx y hy=>hf x (bZ _ hx) y (bZ _ hy)⟩;obtain⟨y,hy,e⟩:=bH.mp z;have:=hf y (bZ _ hy) a bK e;exact h1 (this ▸ hy)
theorem vw{P:Program}{w:World}(led:Bool){ys:List (Int×Int)}(nd:ys.Nodup)(hr:∀y∈ys,(0<=y.1/\y.1<32)/\(0<=y.2/\y.2<32))(hl:ys.length<=300):
  ∃hs t,t_ led (ys.map (eF P w))=some (hs,t)/\hs.size=ys.length:=by
 obtain⟨hs,t,e,z⟩:=A5 led (ni nd fun x hx y hy e=>uc (P:=P) (w:=w) (hr x hx) (hr y hy) e) (by rw[aJ];exact hl);exact⟨hs,t,e,by rw[z,aJ]⟩
theorem zI:∀ {as:List Addr} {its:List Value},aP (as.map V.ref) its->its=as.map Value.ref
 |[],_,r=>by cases r;rfl
 |a::as,_,r=>by
  cases r with
  |cons r rr=>
   obtain rfl:=(show _=Value.ref a from r)
   rw[zI rr];rfl
def F8(D:Addr)(n:Nat):HO:=.ext fun h=>∃hs t,jr h D hs t/\hs.size=n
section
variable {X:Cx}
def OZ(K:PySem.W.Frag):List V->Hp->VK->Prop:=fun xs H Q=>∃ (l:Addr) (as:List Addr) (ys:List (Int×Int)),xs=[.ref l]/\aM K H l (as.map V.ref)/\as.length=ys.length/\
 (∀i,i<ys.length->C6 K H (as.getD i 0) (ys.getD i (0,0)))/\ys.Nodup/\(∀y∈ys,(0<=y.1/\y.1<32)/\(0<=y.2/\y.2<32))/\ys.length<=300/\∀D,H D=none->Q (.ref D) (upd H D (F8 D ys.length))
theorem A7(hc:X.calm=true)(hu:X.A.units+8<cLine):eX X (.type "set") (OZ X.K):=by
 intro ae s σ H xs us Q I r h;obtain⟨l,as,ys,rfl,hl,dt,hp,nd,rg,h3,q⟩:=h;obtain⟨u1,rfl,r1⟩:=r.one;obtain rfl:u1=Value.ref l:=r1;obtain⟨its,rv,pl,hz⟩:=I.list hl;have e:=zI rv;subst e;have hpi:iq s.heap (as.map Value.ref) ys:=⟨by rw[aJ,dt],fun i v hv=>by
  rw[cw] at hv;cases ea:as[i]? with
  |none=>rw[ea] at hv;cases hv
  |some a=>
   rw[ea] at hv;obtain rfl:Value.ref a=v:=be hv;have hi:i<as.length:=(dw.mp ea).1;obtain⟨o,n,t,u,e1,c,d⟩:=x9 I (hp i (by lia));have eg:as.getD i 0=a:=by rw[aT,ea];rfl
   rw[eg] at e1;exact⟨a,o,n,t,u,rfl,e1,c,d⟩⟩
 have A2:∀led,∃q:Array Int×SetTable,t_ led (ys.map (eF X.prog X.w))=some q/\q.1.size=ys.length:=fun led=>
  let ⟨hs,t,e,z⟩:=vw (P:=X.prog) (w:=X.w) led nd rg h3;⟨(hs,t),e,z⟩
 refine C9 (I.ok.hd hc) hu pl.isList hpi (hsN:=fun led=>(A2 led).choose.1) (tN:=fun led=>(A2 led).choose.2) (fun led=>(A2 led).choose_spec.1) fun led h' tk S' k=>?_;refine⟨.ref s.heap.objs.size,_,I.C4 (t':=tk) (o:=F8 s.heap.objs.size ys.length) (fun b u e=>k b u (aQ e) e) (ph (aY _)) ⟨⟨_,_,S',(A2 led).choose_spec.2⟩,?_,fun h1 h2 ⟨hs,t,⟨o,es,ep,q1,q2⟩,z⟩ kk=>⟨hs,t,⟨o,es,ep,kk o q1,q2⟩,z⟩⟩,rfl,q _ I.fresh⟩;obtain⟨o,_,_,q1,_⟩:=S';exact⟨o,q1⟩
theorem vx:eX X (.builtin "len") (fun xs H Q=>∃D n,xs=[.ref D]/\H D=some (F8 D n)/\n<=4096/\Q (.int n) H):=by
 intro ae s σ H xs us Q I r h;obtain⟨D,n,rfl,e,hn,q⟩:=h;obtain⟨u1,rfl,r1⟩:=r.one;obtain rfl:u1=Value.ref D:=r1;obtain⟨⟨hs,t,⟨o,es,ep,q1,q2,q3,q4,q5,q6⟩,z⟩,_⟩:=(show bX X.prog X.w H s.heap D (F8 D n) from I.bB D _ e)
 have hsz:es.size=n:=by rw[<-z,<-q5,ig]
 exact call_len_set q1 ⟨q2,q3.1,q3.2⟩ q4 q6 (by rw[hsz];lia) ⟨.int n,H,I.tok _,⟨_,by rw[hsz]⟩,q⟩
theorem n_:eX X (.type "range") (fun xs H Q=>∃n,xs=[.int n]/\∀p,H p=none->Q (.ref p) (upd H p (.Fj 0 n))):=by
 intro ae s σ H xs us Q I r h;obtain⟨n,rfl,q⟩:=h;obtain⟨u1,rfl,t,rfl⟩:=r.one;refine call_range_1 ⟨.ref s.heap.objs.size,_,I.laid (o:=.Fj 0 n) (fun b u e=>bQ _ e) (aY _) ⟨_,_,_,cE _ rfl⟩,rfl,q _ I.fresh⟩
theorem qb(hc:X.calm=true):eX X (.type "list") (fun xs H Q=>∃ (p:Addr) (n:Nat),xs=[.ref p]/\H p=some (.Fj 0 n)/\n<=1000/\∀l,H l=none->Q (.ref l) (upd H l (.lst ((List.range n).map fun (i:Nat)=>V.int i)))):=by
 intro ae s σ H xs us Q I r h;obtain⟨p,n,rfl,e,hn,q⟩:=h;obtain⟨u1,rfl,r1⟩:=r.one;obtain rfl:u1=Value.ref p:=r1;obtain⟨t,u,v,hp⟩:=(show bX X.prog X.w H s.heap p (.Fj 0 n) from I.bB p _ e)
 refine call_list_range (n:=n) (I.ok.hd hc) (show IsRange s.heap p 0 n 1 t u v from hp) (small_one (by lia) (by lia) (by lia) (by lia)) (by rw[rangeSize_one];split <;> lia) (by lia) fun h' tk dq c k g it=>?_;obtain⟨i1,i2⟩:=it;refine⟨.ref s.heap.objs.size,_,I.C4 (t':=tk) (o:=.lst ((List.range n).map fun (i:Nat)=>V.int i)) (fun b u e=>k b u e) (ph (aY _)) ⟨?_,dq.toList,c,?_,by simpa using g⟩,rfl,q _ I.fresh⟩
 .rw[aJ,d9];exact bj hn (by decide)
 .have go:∀ (m:Nat) (l:List Value),l.length=m->(∀ (j:Nat) v,l[j]?=some v->∃t,v=Value.int (0+(j:Int)*1) t)->aP ((List.range m).map fun (i:Nat)=>V.int i) l:=by
   intro m;induction m with
   |zero=>intro l hl _;cases l with
    |nil=>exact .nil
    |cons _ _=>cases hl
   |succ m ih=>
    intro l hl hv;have kI:l≠[]:=by intro z;rw[z] at hl;cases hl
    have el:l=l.dropLast++[l.getLast kI]:=(List.dropLast_concat_getLast kI).symm;rw[fm,bW,el];have R7:l.dropLast.length=m:=by rw[List.length_dropLast,hl];rfl
    refine aP.append (ih _ R7 fun j v hj=>hv j v ?_) (.cons ?_ .nil)
    .rw[el];have Uq:j<l.dropLast.length:=(dw.mp hj).1;rw[fP Uq];exact hj
    .obtain⟨t,ht⟩:=hv m (l.getLast kI) (by
      rw[List.getLast_eq_getElem,bh (by lia:m<l.length)];simp[hl])
     exact⟨t,by rw[ht];simp⟩
  exact go n dq.toList (by simpa using i1) fun j v hj=>i2 j v (by simpa using hj)
end
def gp(e:V->V->Bool):List V->List V->Bool
 |[],[]=>true
 |x::xs,y::ys=>e x y&&gp e xs ys
 |_,_=>false
theorem gu:∀ {xs ys:List V},xs.length=ys.length->gp e xs ys=(List.range xs.length).all fun i=>e (xs.getD i .bE) (ys.getD i .bE)
 |[],[],_=>rfl
 |x::xs,y::ys,h=>by
  have h':xs.length=ys.length:=by simpa using h
  rw[gp,gu h',dG,wW,jd,List.all_map];rfl
 |[],_::_,h=>by simp at h
 |_::_,[],h=>by simp at h
theorem nj:∀ {xs ys:List V},xs.length≠ys.length->gp e xs ys=false
 |[],[],h=>absurd rfl h
 |x::xs,y::ys,h=>by
  have h':xs.length≠ys.length:=fun z=>h (by simp[z]);rw[gp,nj h',Bool.and_false]
 |[],_::_,_=>rfl
 |_::_,[],_=>rfl
section
variable {X:Cx}
def O0(X:Cx)(H:Hp)(e:V->V->Bool)(x y:V):Prop:=∀ (ae:List (Addr×Obj)) (s:Shared) (σ:St) (A:Around) (u v:Value),aD X ae σ H s->A.units+1<cLine->bn x u->bn y v->SeqAt.EqAt A s u v (e x y)
def O1(X:Cx)(zm:Bool)(e:V->V->Bool):R2:=fun x y H Q=>∃p q xs ys,x=.ref p/\y=.ref q/\aM X.K H p xs/\aM X.K H q ys/\(∀i,i<xs.length->i<ys.length->O0 X H e (xs.getD i .bE) (ys.getD i .bE))/\Q (.bl (if zm then !gp e xs ys else gp e xs ys)) H
theorem vy(I:aD X ae σ H s)(hu:A.units+1<cLine)(rx:aP xs us)(ry:aP ys vs)(he:∀i,i<xs.length->i<ys.length->O0 X H e (xs.getD i .bE) (ys.getD i .bE)):∀j (h1:j<us.toArray.size) (h2:j<vs.toArray.size),SeqAt.EqAt A s us.toArray[j] vs.toArray[j] (e (xs.getD j .bE) (ys.getD j .bE)):=by
 intro j h1 h2;have j1:j<xs.length:=by rw[rx.length];simpa using h1
 have j2:j<ys.length:=by rw[ry.length];simpa using h2
 have e1:xs[j]?=some (xs.getD j .bE):=by rw[aT,bh j1];rfl
 have e2:ys[j]?=some (ys.getD j .bE):=by rw[aT,bh j2];rfl
 obtain⟨u,B6,ru⟩:=rx.get e1;obtain⟨v,F9,rv⟩:=ry.get e2;have eu:us.toArray[j]=u:=by
  have:us[j]?=some us.toArray[j]:=by simp at h1 |-
  rw[B6] at this;exact(be this).symm
 have ev:vs.toArray[j]=v:=by
  have:vs[j]?=some vs.toArray[j]:=by simp at h2 |-
  rw[F9] at this;exact(be this).symm
 rw[eu,ev];exact he j j1 j2 ae s σ A u v I hu ru rv
theorem Dg{e:V->V->Bool}(hu:X.A.units+2<cLine):jF X (compareOp .NotEq) (O1 X true e):=by
 intro ae s σ H x y v u Q I rx ry h;obtain⟨p,q,xs,ys,rfl,rfl,hp,hq,he,k⟩:=h;obtain rfl:v=Value.ref p:=rx;obtain rfl:u=Value.ref q:=ry;obtain⟨us,r1,p1,_⟩:=I.list hp;obtain⟨vs,r2,p2,_⟩:=I.list hq;by_cases hl:xs.length=ys.length
 .refine SeqAt.RcNeAt.lists (e:=fun i=>e (xs.getD i .bE) (ys.getD i .bE)) p1.isList p2.isList (by simp only[br];rw[<-r1.length,<-r2.length];exact hl) (by lia) (vy I (by show X.A.units+1+1<cLine;lia) r1 r2 he) _ _ _ _ ⟨.bl _,H,I,rfl,?_⟩;rw[show us.toArray.size=xs.length by rw[br,r1.length],<-gu hl];exact k
 .refine SeqAt.RcNeAt.lists_lengths p1.isList p2.isList (by simp only[br];rw[<-r1.length,<-r2.length];simpa using hl) (by lia) _ _ _ _ ⟨.bl _,H,I,rfl,?_⟩;have k':=k;rw[nj hl] at k';exact k'
theorem Dh(hu:X.A.units+2<cLine):jF X (compareOp .Eq) (O1 X false e):=by
 intro ae s σ H x y v u Q I rx ry h;obtain⟨p,q,xs,ys,rfl,rfl,hp,hq,he,k⟩:=h;obtain rfl:v=Value.ref p:=rx;obtain rfl:u=Value.ref q:=ry;obtain⟨us,r1,p1,_⟩:=I.list hp;obtain⟨vs,r2,p2,_⟩:=I.list hq;by_cases hl:xs.length=ys.length
 .refine SeqAt.eq_listAt (e:=fun i=>e (xs.getD i .bE) (ys.getD i .bE)) p1.isList p2.isList (by simp only[br];rw[<-r1.length,<-r2.length];exact hl) (by lia) (vy I (by show X.A.units+1+1<cLine;lia) r1 r2 he) ⟨.bl _,H,I,rfl,?_⟩;rw[show us.toArray.size=xs.length by rw[br,r1.length],<-gu hl];exact k
 .refine SeqAt.eq_list_lengthsAt p1.isList p2.isList (by simp only[br];rw[<-r1.length,<-r2.length];simpa using hl) (by lia) ⟨.bl _,H,I,rfl,?_⟩;have k':=k;rw[nj hl] at k';exact k'
theorem A8(hc:X.calm=true):eX X (.builtin "any") (fun xs H Q=>∃ (p:Addr) (bs:List Bool),xs=[.ref p]/\aM X.K H p (bs.map V.bl)/\Q (.bl (bs.any id)) H):=by
 intro ae s σ H xs us Q I r h;obtain⟨p,bs,rfl,hp,q⟩:=h;obtain⟨u1,rfl,r1⟩:=r.one;obtain rfl:u1=Value.ref p:=r1;obtain⟨its,rv,pl,hz⟩:=I.list hp;have Di:its=bs.map Value.bool:=by
  have go:∀ (bs:List Bool) (its:List Value),aP (bs.map V.bl) its->its=bs.map Value.bool:=by
   intro bs;induction bs with
   |nil=>intro its r;cases r;rfl
   |cons b bs ih=>
    intro its r;cases r with
    |cons r rr=>
     obtain rfl:=(show _=Value.bool b from r)
     rw[ih _ rr];rfl
  exact go bs its rv
 subst Di;obtain⟨ob,Ur,_⟩:=id pl.isList;have eh:p<s.heap.objs.size:=aQ Ur;refine call_any_walk (sY pl.isList ⟨s.heap.objs.size,_,_,_,_,_,fun i=>bs.getD i false,rfl,Walks.list (show X.A.in1.handled=none from I.ok.hd hc) _ p (a8 eh) _,⟨⟨_,cE _ rfl,rfl,rfl⟩,pl.isList.push _⟩,fun i v s1 Q' E' hv hq=>?_,fun h' tk k=>?_⟩)
 .have xK:(bs.map Value.bool)[i]?=some v:=by simpa using hv
  rw[cw] at xK;cases eb:bs[i]? with
  |none=>rw[eb] at xK;cases xK
  |some b=>
   rw[eb] at xK;obtain rfl:Value.bool b=v:=be xK;have:bs.getD i false=b:=by rw[aT,eb];rfl
   have FR:Q' b s1:=by rw[<-this];exact hq
   exact wpAny_pure FR
 .have keep:∀b o,s.heap.get? b=some o->h'.get? b=some o:=fun b o e=>k b o (by simpa using a8 (aQ e)) (bQ _ e);refine⟨.bl (bs.any id),H,I.kept (t':=tk) keep,?_,q⟩;show Value.bool _=Value.bool _;congr 1;have go:∀ (bs:List Bool),((List.range bs.length).any fun i=>bs.getD i false)=bs.any id:=by
   intro bs;induction bs with
   |nil=>rfl
   |cons b bs ih=>
    rw[dG,wW,iH,List.any_map,iH,<-ih];rfl
  rw[<-go bs];simp
end
def og(c:Addr)(qual:Str):HO:=.ext fun h=>h.CodeRec (.ref c) qual
theorem Dj(x:h.CodeRec (.ref c) qual):bX P w H h c (og c qual):=by
 refine⟨x,?_,?_⟩
 .obtain⟨c',o,vs,t,e,ho,_⟩:=x;cases e;exact⟨o,ho⟩
 .rintro h1 h2 ⟨c',o,vs,t,e,ho,r⟩ k;cases e;exact⟨c,o,vs,t,rfl,k o ho,r⟩
def Je(f:Addr)(qual:Str)(params:Arguments)(body:Expr)(scope:Scope)(cells:List (Str×Addr))(c:Addr)(h:Heap):Prop:=
 ∃ (dh:List (Str×Addr)) (pm ud:Value),(∀x a,dh.lookup x=some a->cells.lookup x=some a)/\(∀x,(x,NameKind.free)∈scope.names->∃a,dh.lookup x=some a)/\
  h.get? f=some (PySem.W.kla_obj "<lambda>" qual params body scope dh pm c ud)
def qc(f:Addr)(qual:Str)(params:Arguments)(body:Expr)(scope:Scope)(cells:List (Str×Addr))(c:Addr):HO:=.ext (Je f qual params body scope cells c)
theorem zJ(x:Je f qual params body scope cells c h):
  bX P w H h f (qc f qual params body scope cells c):=by
 refine⟨x,?_,?_⟩
 .obtain⟨_,_,_,_,_,e⟩:=x;exact⟨_,e⟩
 .rintro h1 h2 ⟨dh,pm,ud,a,b,e⟩ k;exact⟨dh,pm,ud,a,b,k _ e⟩
def cu(lp:Pos)(qual:Str)(P:Addr)(H:Hp):Prop:=H P=some (.kB #[])\/∃c,H P=some (.kB #[rawInt lp.line,rawInt lp.col,.ref c])/\H c=some (og c qual)
structure F_(X:Cx)(c P:Addr):Prop where
 code:X.env.code=.ref c
 hd:PySem.W.CodeHd X.base c P
 bm:∃bm o,X.mg "__builtins__"=some (.ref bm)/\bm≠builtinsNs/\bm≠mainGlobals/\X.base.get? bm=some o/\o.cls=.type "module"/\o.dict=some builtinsNs/\o.data=.plain
def Us(lp:Pos)(qual:Str)(P:Addr)(params:Arguments)(body:Expr)(scope:Scope)(cells:List (Str×Addr)):TE:=fun _ H Q=>cu lp qual P H/\
 ∀ (f c:Addr) (H2:Hp),cu lp qual P H2->(∀b o,H b=some o->b≠P->H2 b=some o)->H2 c=some (og c qual)->H2 f=some (qc f qual params body scope cells c)->Q (.ref f) H2
theorem vz{lp:Pos}{c:Addr}:TriplesOk (#[rawInt lp.line,rawInt lp.col,.ref c]:Array Value).toList:=trivial
theorem A9:codeAmong lp (#[rawInt lp.line,rawInt lp.col,.ref c]:Array Value).toList=some (.ref c):=by
 show (if ((lp.line:Int)==(lp.line:Int)&&(lp.col:Int)==(lp.col:Int))=true then some (Value.ref c) else _)=_;simp
section
variable {X:Cx} {c P:Addr} {params:Arguments} {body:Expr} {scope:Scope} {lp:Pos} {NB:List Str} {src:List (Option Nat)}
theorem F_.at(C:F_ X c P)(I:aD X ae σ H s)(hP:H P=some (.kB ps)):s.heap.BuiltinsAt X.mg P:=by
 obtain⟨bm,o,b1,b2,b3,b4,b5,b6,b7⟩:=C.bm;refine⟨bm,o,b1,b2,b3,fun z=>?_,I.bk _ _ b4,b5,b6,b7⟩;have:=(I.bs _ _ b4).2;rw[z,hP] at this;cases this
theorem aD.Jf(I:aD X ae σ H s):s.heap.Ns mainGlobals X.mg:=I.mod.glob.keeps I.bk
theorem Dk(C:F_ X c P)(S:fY NB src scope X)(Ut:defaultsOf params X.env=([],[]):=by rfl):PE X (.Lambda params body scope lp) (Us lp (X.env.qual++"<lambda>") P params body scope X.env.cells):=by
 intro ae s σ H Q I h;obtain⟨tab,h⟩:=h;obtain⟨dh,X9,c1,c2⟩:=kH I.ok S;refine PySem.W.kla_eval Ut ?_;have hsz:∀b o,s.heap.get? b=some o->b<s.heap.objs.size:=fun b o e=>aQ e;rcases tab with hP|⟨c',hP,Fm⟩
 .-- the first time
  have O2:s.heap.get? P=some (PySem.W.tabObj #[]):=I.bB P _ hP;have hPL:X.env.locals≠P:=fun z=>by have f:=I.free;rw[z,hP] at f;cases f
  have hPg:mainGlobals≠P:=fun z=>by
   obtain⟨o,es,ep,e,d,_⟩:=I.mod.glob;have:=(I.bs _ _ e).2;rw[z,hP] at this;cases this
  refine PySem.W.kla_makeFunction (mg:=X.mg) X9 I.ok.glob I.Jf C.code (C.hd.keeps I.bk) O2 (by trivial) rfl hPg (C.at I hP) fun c' ud h' tk hx Ga eh Uu X_=>?_;have Gb:∀b o,b≠P->s.heap.get? b=some o->(h'.push (PySem.W.kla_obj "<lambda>" (X.env.qual++"<lambda>") params body scope dh ((X.mg "__name__").getD .none) c' ud)).get? b=some o:=fun b o hb e=>bQ _ (hx b o hb e);have hcP:c'≠P:=fQ (bS (hsz _ _ O2) Ga);have hfP:h'.objs.size≠P:=fQ (bS (hsz _ _ O2) (bj Ga (je eh)));have hfc:h'.objs.size≠c':=fQ eh;have nf:H h'.objs.size=none:=I.bB.fresh (by lia);have nc:H c'=none:=I.bB.fresh Ga
  let H2:Hp:=upd (upd (upd H P (.kB #[rawInt lp.line,rawInt lp.col,.ref c'])) c' (og c' (X.env.qual++"<lambda>"))) h'.objs.size (qc h'.objs.size (X.env.qual++"<lambda>") params body scope X.env.cells c')
  have eP:H2 P=some (.kB #[rawInt lp.line,rawInt lp.col,.ref c']):=by
   show upd _ _ _ _=_;rw[ak hfP.symm,ak hcP.symm,af]
  have ec:H2 c'=some (og c' (X.env.qual++"<lambda>")):=by
   show upd _ _ _ _=_;rw[ak hfc.symm,af]
  have ef:H2 h'.objs.size=some (qc h'.objs.size (X.env.qual++"<lambda>") params body scope X.env.cells c'):=af;have eo:∀b,b≠P->b≠c'->b≠h'.objs.size->H2 b=H b:=fun b h1 h2 h3=>by
   show upd _ _ _ _=_;rw[ak h3,ak h2,ak h1]
  have iK:∀b o,H b=some o->b≠P->H2 b=some o:=fun b o e hb=>by
   rw[eo b hb (aj e nc) (aj e nf)];exact e
  have I2:aD X ae σ H2 { s with heap:=h'.push (PySem.W.kla_obj "<lambda>" (X.env.qual++"<lambda>") params body scope dh ((X.mg "__name__").getD .none) c' ud),toks:=tk }:=by
   refine I.step (g':=s.gens) (d':=s.drawn) (ch:=[]) (fun _ z=>absurd z (by simp)) (fun b o _ _ _ e n=>Gb b o (fun z=>by rw[z,hP] at n;cases n) e) (fun b o _ _ _ e n=>⟨o.slots,Gb b o (fun z=>by rw[z,hP] at n;cases n) e⟩)
    (fun b o _ e n=>?_) (fun b o _ e=>?_) (fun b xs e=>iK b _ e fun z=>by rw[z,hP] at e;cases e) (fun b o u e=>iK b _ e fun z=>by rw[z,hP] at e;cases e) (fun b ps e=>?_) (fun m hm=>?_) (fun b o e=>?_) I.bare
   .rw[eo b (fun z=>by rw[z,hP] at n;cases n) (a8 (bS (hsz b o e) Ga)) (a8 (bS (hsz b o e) (bj Ga (je eh))))];exact n
   .by_cases hb:b=P
    .exact⟨_,by rw[hb];exact bQ _ X_⟩
    .exact⟨o,Gb b o hb e⟩
   .by_cases hb:b=P
    .rw[hb] at e |-;rw[hP] at e;cases e;exact⟨#[rawInt lp.line,rawInt lp.col,.ref c'],by rw[eP];simp⟩
    .exact⟨#[],by rw[iK b _ e hb];simp⟩
   .exact(hm.extBut hx hPL).push _
   .by_cases Ya:b=h'.objs.size
    .subst Ya;rw[ef] at e;cases e;exact zJ ⟨dh,_,ud,c1,c2,cE _ rfl⟩
    .by_cases Ud:b=c'
     .subst Ud;rw[ec] at e;cases e;refine Dj ?_;obtain⟨c₂,oc,vs,t,e2,RP,r⟩:=Uu;exact⟨c₂,oc,vs,t,e2,bQ _ RP,r⟩
     .by_cases Uv:b=P
      .subst Uv;rw[eP] at e;cases e;exact bQ _ X_
      .rw[eo b Uv Ud Ya] at e;refine(I.bB b o e).mP (fun d u hd q=>Gb d u ?_ q) (fun d q=>iK d _ q fun z=>by rw[z,hP] at q;cases q) fun d xs q=>iK d _ q fun z=>by rw[z,hP] at q;cases q
       rintro rfl;rcases hd with z|z
       .exact Uv z.symm
       .rw[hP] at z;cases z
  exact⟨.ref h'.objs.size,H2,I2,rfl,h _ c' H2 (.inr ⟨c',eP,ec⟩) iK ec ef⟩
 .-- again
  have O2:s.heap.get? P=some (PySem.W.tabObj #[rawInt lp.line,rawInt lp.col,.ref c']):=I.bB P _ hP;refine PySem.W.kla_makeFunctionHit (mg:=X.mg) X9 I.ok.glob I.Jf C.code (C.hd.keeps I.bk) O2 vz A9 (C.at I hP) fun ud h' tk hk Ga=>?_;have nf:H h'.objs.size=none:=I.bB.fresh Ga
  let H2:Hp:=upd H h'.objs.size (qc h'.objs.size (X.env.qual++"<lambda>") params body scope X.env.cells c')
  have ef:H2 h'.objs.size=some (qc h'.objs.size (X.env.qual++"<lambda>") params body scope X.env.cells c'):=af;have iK:∀b o,H b=some o->H2 b=some o:=fun b o e=>by
   show upd _ _ _ _=_;rw[ak (aj e nf)];exact e
  have Gb:∀b o,s.heap.get? b=some o->(h'.push (PySem.W.kla_obj "<lambda>" (X.env.qual++"<lambda>") params body scope dh ((X.mg "__name__").getD .none) c' ud)).get? b=some o:=fun b o e=>bQ _ (hk b o e);have I2:aD X ae σ H2 { s with heap:=h'.push (PySem.W.kla_obj "<lambda>" (X.env.qual++"<lambda>") params body scope dh ((X.mg "__name__").getD .none) c' ud),toks:=tk }:=by
   refine I.step (g':=s.gens) (d':=s.drawn) (ch:=[]) (fun _ z=>absurd z (by simp)) (fun b o _ _ _ e n=>Gb b o e) (fun b o _ _ _ e n=>⟨o.slots,Gb b o e⟩)
    (fun b o _ e n=>?_) (fun b o _ e=>⟨o,Gb b o e⟩) (fun b xs e=>iK b _ e) (fun b o u e=>iK b _ e) (fun b ps e=>⟨#[],by rw[iK b _ e];simp⟩) (fun m hm=>(hm.keeps hk).push _) (I.bB.laid Gb Ga (zJ ⟨dh,_,ud,c1,c2,cE _ rfl⟩)) I.bare
   .show upd _ _ _ _=_;rw[ak (a8 (bS (hsz b o e) Ga))];exact n
  exact⟨.ref h'.objs.size,H2,I2,rfl,h _ c' H2 (.inr ⟨c',iK _ _ hP,iK _ _ Fm⟩) (fun b o e _=>iK b o e) (iK _ _ Fm) ef⟩
end
def Dl(X:Cx)(id:String)(ks:List Str)(r:St->List V->List V->Hp->VK->Prop):Prop:=
 ∀ (ae:List (Addr×Obj)) (s:Shared) (σ:St) (H:Hp) (vs zs:List V) (us ws:List Value) (Q:VK),aD X ae σ H s->aP vs us->aP zs ws->r σ vs zs H Q->
  wpAny (model X.prog X.w) X.A (call (.builtin id) us (ks.zip ws)) (EP X ae σ Q) X.xe s
def Uw(r:St->List V->List V->Hp->VK->Prop)(t tk:TA):TE:=fun σ H Q=>t σ H fun vs H1=>tk σ H1 fun zs H2=>r σ vs zs H2 Q
section
variable {X:Cx} {x:Str} {p pos:Pos} {e:Expr} {es:List Expr} {CK:List Keyword} {t tk:TA} {id:String} {ks:List Str} {r:St->List V->List V->Hp->VK->Prop}
theorem A_(hc:Dl X id ks r)(hg:Gl X x)(hm:X.mg x=none)(hv:bootBuiltins x=some (.builtin id))(ha:PA X (e::es) t)(hkw:PK X CK tk)(hn:x≠"__name__":=by decide)(xR:(x==("__debug__":Str))=false:=by decide)(hks:(backToKw pos (keywordEach CK X.env)).filterMap (·.1)=ks:=by rfl)(he:backTo pos (starEach (e::es) X.env)=(false,eval e X.env)::backTo pos (starEach es X.env):=by rfl)(p7:(backTo pos (starEach (e::es) X.env)).any (·.1)=false:=by rfl)(qT:(backToKw pos (keywordEach CK X.env)).all (·.1.isSome)=true:=by rfl)(CN:(backToKw pos (keywordEach CK X.env)).any (·.1.isNone)=false:=by rfl):PE X (.Call (.Name x p) (e::es) CK pos) (Uw r t tk):=by
 intro ae s σ H Q I h;refine iY (gH I hg hm hv ?_ hn xR);refine PyProof.Rows.callWith_kw (b_ (ha pos ae s σ H _ I h) fun us s1 ⟨vs,H1,I1,r1,q1⟩=>?_) he p7 qT CN;refine b_ (hkw pos ae s1 σ H1 _ I1 q1) fun ws s2 ⟨zs,H2,I2,rz,q2⟩=>?_;rw[hks];exact hc ae s2 σ H2 vs zs us ws Q I2 r1 rz q2
end
def KM(za zb:Int)(ns out:List Int):Prop:=∃ps:List (Int×Int),ps.Perm (ns.map fun z=>((z-za) % zb,z))/\out=ps.map (·.2)/\ps.Pairwise fun p q=>p.1<=q.1
def KO(X:Cx)(qual:Str)(params:Arguments)(body:Expr)(scope:Scope)(ia ib:Nat):St->List V->List V->Hp->VK->Prop:=fun σ vs zs H Q=>
 ∃ (l f c:Addr) (ns:List Int) (za zb:Int),vs=[.ref l]/\zs=[.ref f]/\aM X.K H l (ns.map V.int)/\ns.length<64/\H f=some (qc f qual params body scope X.env.cells c)/\H c=some (og c qual)/\
  σ[ia]?=some (some (.int za))/\σ[ib]?=some (some (.int zb))/\0<zb/\∀ (r:Addr) (out:List Int),H r=none->KM za zb ns out->Q (.ref r) (upd H r (.lst (out.map V.int)))
theorem rR:∀ {ns:List Int} {vs:List Value},aP (ns.map V.int) vs->IntsAre vs ns
 |[],_,.nil=>.nil
 |_::_,_,.cons ⟨t,e⟩ r=>by subst e;exact .cons _ t (rR r)
structure O4(X:Cx)(qual:Str)(params:Arguments)(body:Expr)(scope:Scope)(y a b:Str)(ia ib:Nat):Prop where
 bd:∃p1 p2 p3 p4 p5,body=.BinOp (.BinOp (.Name y p1) .Sub (.Name a p2) p3) .Mod (.Name b p4) p5
 bind:∀dh pm c ud v,bindArgs (PySem.W.kla_fn "<lambda>" qual params body scope dh pm (.ref c) ud) ⟨[v],[]⟩=pure [(y,v)]
 na:X.N[ia]?=some a
 nb:X.N[ib]?=some b
 ca:X.env.scope.names.lookup a=some .cell
 cb:X.env.scope.names.lookup b=some .cell
 ly:scope.names.lookup y=some .local
 fa:scope.names.lookup a=some .free
 fb:scope.names.lookup b=some .free
 ma:(a,NameKind.free)∈scope.names
 mb:(b,NameKind.free)∈scope.names
 ue:∀z∈scope.names,z.2≠.cell
 kind:scope.kind=.function
 co:scope.isCoroutine=false
 gen:scope.isGenerator=false
 dy:(y==("__debug__":Str))=false
 da:(a==("__debug__":Str))=false/\(a==("__classdict__":Str))=false
 db:(b==("__debug__":Str))=false/\(b==("__classdict__":Str))=false
theorem yk(S:O4 X qual params body scope y a b ia ib)(hr:b9 k X.A):
  Dl X "sorted" ["key"] (KO X qual params body scope ia ib):=by
 intro ae s σ H vs zs us ws Q I r rz h;obtain⟨l,f,c,ns,za,zb,rfl,rfl,hl,Yb,hf,hc,sa,sb,hb0,q⟩:=h;obtain⟨u1,rfl,r1⟩:=r.one;obtain rfl:u1=Value.ref l:=r1;obtain⟨w1,rfl,rw1⟩:=rz.one;obtain rfl:w1=Value.ref f:=rw1;obtain⟨its,rv,pl,hz⟩:=I.list hl;have hI:=rR rv;obtain⟨m,F⟩:=I.fr;obtain⟨p1,p2,p3,p4,p5,rfl⟩:=S.bd;obtain⟨dh,pm,ud,c1,c2,KB⟩:=(I.bB f _ hf).1;have Ux:s.heap.CodeRec (.ref c) qual:=(I.bB c _ hc).1;obtain⟨m',XG,Yc⟩:=I.loc;have O5:∃ca ta,dh.lookup a=some ca/\s.heap.IsCell ca (some (.int za ta)):=by
  obtain⟨u,⟨ta,rfl⟩,lk⟩:=Yc ia a (.int za) S.na sa (.inr (.inl S.ca));obtain⟨ca,e1⟩:=c2 a S.ma;rcases lk with ⟨z,_⟩|⟨_,ca',e2,e3⟩
  .have z':X.env.scope.names.lookup a=some .local:=z;rw[S.ca] at z';cases z'
  .have e4:=c1 a ca e1;rw[e2] at e4;cases e4;exact⟨ca,ta,e1,e3⟩
 have O6:∃cb tb,dh.lookup b=some cb/\s.heap.IsCell cb (some (.int zb tb)):=by
  obtain⟨u,⟨tb,rfl⟩,lk⟩:=Yc ib b (.int zb) S.nb sb (.inr (.inl S.cb));obtain⟨cb,e1⟩:=c2 b S.mb;rcases lk with ⟨z,_⟩|⟨_,cb',e2,e3⟩
  .have z':X.env.scope.names.lookup b=some .local:=z;rw[S.cb] at z';cases z'
  .have e4:=c1 b cb e1;rw[e2] at e4;cases e4;exact⟨cb,tb,e1,e3⟩
 obtain⟨ca,ta,ea,ha⟩:=O5;obtain⟨cb,tb,eb,hb⟩:=O6;have R8:∀b' (o:Obj),s.heap.get? b'=some o->(∀es ep,o.data≠.dict es ep)->b'≠X.env.locals:=fun b' o e d z=>by
  obtain⟨o',es,ep,e',d',_⟩:=F.ns;rw[z,e'] at e;cases e;exact d _ _ d'
 have len:(ns.map fun z=>(z-za) % zb).length=its.length:=by rw[aJ,hI.length]
 refine ksk_sorted (b:=false) (f:=.ref f) (kz:=ns.map fun z=>(z-za) % zb) F Cn pl.isList len (by rw[hI.length];exact Yb) (ksk_s1 _ _) (fun x=>ksk_l1 _ _) (fun x=>ksk_t1 _ _) ?_ ?_
 .-- one key
  intro i v k hv hk h tk own F' N';have at_:∀b' u,b'≠X.env.locals->s.heap.get? b'=some u->h.get? b'=some u:=fun b' u kI e=>by
   cases z:X.base.get? b' with
   |some o=>
    have:=I.bk b' o z;rw[e] at this;cases this;exact F'.keep b' _ z
   |none=>exact(N' (b',u) (gj _ (jh kI z e))).1
  have Uy:=at_ f _ (R8 f _ KB (by intro es ep z;cases z)) KB;have Uz:h.CodeRec (.ref c) qual:=by
   obtain⟨c0,o,Yd,t0,e0,ho,hd,hv0⟩:=Ux;refine⟨c0,o,Yd,t0,e0,at_ _ _ (R8 _ _ ho (by rw[hd];intro es ep z;cases z)) ho,hd,hv0⟩
  have T_:h.IsCell ca (some (.int za ta)):=by
   obtain⟨o,ho,hd⟩:=ha;exact⟨o,at_ _ _ (R8 _ _ ho (by rw[hd];intro es ep z;cases z)) ho,hd⟩
  have kJ:h.IsCell cb (some (.int zb tb)):=by
   obtain⟨o,ho,hd⟩:=hb;exact⟨o,at_ _ _ (R8 _ _ ho (by rw[hd];intro es ep z;cases z)) ho,hd⟩
  obtain⟨z,tz,rfl,rfl⟩:∃z tz,v=.int z tz/\k=(z-za) % zb:=by
   obtain⟨n,t,e⟩:=hI.all v (cU hv);refine⟨n,t,e,?_⟩;rw[cw] at hk;have hn:=hI.nums;have e1:(its.map numOf)[i]?=some n:=by rw[cw,hv,e];rfl
   rw[hn] at e1;rw[e1] at hk;exact(be hk).symm
  have Dm:X.A.in1.in1.depth<recursionLimit:=by
   have:=hr.dp;show X.A.depth<_;lia
  refine kr (PySem.W.kla_callFunE Dm Uy rfl S.co S.gen rfl Uz ?_);rw[S.bind];refine wpAny_pure (wpAny_newFunctionEnv S.ue (fun x hx=>by rw[cy.mp hx];exact S.ly) (fun h₁ KP O7=>⟨((I.ok.mod.nolimit).keeps F'.keep).fresh _ O7,?_⟩) S.kind);have KQ:∀b o,h.get? b=some o->h₁.get? b=some o:=fun b o e=>O7.extBut b o (a8 (aQ e)) (bQ _ e);have ha₁:=T_.keeps KQ;have hb₁:=kJ.keeps KQ;refine PySem.W.kla_codeExpr ?_;refine wpAny_BinOp (wpAny_BinOp ?_);refine mL (xc S.kind S.ly KP (v:=.int z tz) (by simp) ?_) S.dy;refine mL (xi S.kind S.fa ea ha₁ ?_ S.da.2) S.da.1;refine sub_int ?_;refine mL (xi S.kind S.fb eb hb₁ ?_ S.db.2) S.db.1;refine mod_int' (by lia) ?_;rw[Cc _ (by lia)];refine KskEnd.intro (news':=ij X.base s.heap X.env.locals++own) ⟨F'.ns.keeps KQ,fun b o e=>KQ b o (F'.keep b o e),F'.above⟩ (fun p hp=>⟨KQ _ _ (N' p hp).1,(N' p hp).2⟩) fun p hp=>hp
 .-- the list
  intro D h' tk out cc F' N' eh UA;have hD:=qU I N' eh;obtain⟨ps,hp,ho,hs⟩:=UA;have F2:∀p∈ps,∃n t,p.2=.int n t:=fun p I_=>by
   have:=hp.mem_iff.mp I_;exact hI.all _ (mH this).2
  have hz':((ns.map fun z=>(z-za) % zb).zip its).map (fun p=>(p.1,numOf p.2))=ns.map fun z=>((z-za) % zb,z):=by
   have hn:=hI.nums;rw[<-hn];have go:∀ (l:List Value),((((l.map numOf).map fun z=>(z-za) % zb).zip l).map fun p=>(p.1,numOf p.2))=(l.map numOf).map fun z=>((z-za) % zb,z):=by
    intro l;induction l with
    |nil=>rfl
    |cons x l ih=>simp only[dS,List.zip_cons_cons,ih]
   exact go its
  have C1:aP ((ps.map fun p=>(p.1,numOf p.2)).map (fun p=>V.int p.2)) (ps.map Prod.snd):=by
   have go:∀ (l:List (Int×Value)),(∀p∈l,∃n t,p.2=.int n t)->aP ((l.map fun p=>(p.1,numOf p.2)).map (fun p=>V.int p.2)) (l.map Prod.snd):=by
    intro l;induction l with
    |nil=>intro _;exact .nil
    |cons x l ih=>
     intro hx;refine .cons ?_ (ih fun p hp=>hx p (bZ _ hp));obtain⟨n,t,e⟩:=hx x bK;show ∃t,x.2=Value.int (numOf x.2) t;rw[e];exact⟨t,rfl⟩
   exact go ps F2
  have Ba:KM za zb ns ((ps.map fun p=>(p.1,numOf p.2)).map (·.2)):=by
   refine⟨ps.map fun p=>(p.1,numOf p.2),?_,rfl,?_⟩
   .rw[<-hz'];exact hp.map _
   .refine my.mpr (hs.imp fun {p q} z=>?_);simpa using z
  have hDo:h'.get? D=some (seqObj "list" out cc):=(N' _ bK).1;have I2:aD X ae σ (upd H D (.lst (((ps.map fun p=>(p.1,numOf p.2)).map (·.2)).map V.int))) { s with heap:=h',toks:=tk }:=by
   refine I.OO F F' (fun p hp=>N' p (bZ _ hp)) hD ⟨?_,ps.map Prod.snd,cc,?_,?_⟩
   .have h1:=hp.length_eq;rw[List.length_zip,len,Nat.min_self] at h1;simp only[aJ];rw[h1,hI.length];exact bj (je Yb) (by decide)
   .have ev:=C1;simp only[gZ] at ev |-;exact ev
   .rw[hDo,<-ho]
  exact⟨.ref D,_,I2,rfl,q D _ (I.bB.t8 hD) Ba⟩
def qV(mg:Str->Option Value)(base:Heap):Prop:=∃bm o,mg "__builtins__"=some (.ref bm)/\bm≠builtinsNs/\bm≠mainGlobals/\base.get? bm=some o/\o.cls=.type "module"/\o.dict=some builtinsNs/\o.data=.plain
def zK(ts:List Addr)(H:Hp):Prop:=(∀P∈ts,H P=some (.kB #[]))/\∀b,H b=none\/(b∈ts/\H b=some (.kB #[]))\/∃o xs,H b=some (.uZ o (.lst xs))
theorem Bb{P:Program}{w:World}{K:PySem.W.Frag}{mg mb:Str->Option Value}{CX:wF}{k:Nat}{fa a:Addr}{fd:FuncData}{x:Str}{sp:Sp}{s₁:Shared}{vs:List Value}{ns:List Int}{ts:List Addr}(KX:K.In s₁.heap)(KP:s₁.heap.Ns mainGlobals mg)(hb:s₁.heap.Ns builtinsNs mb)(hbb:∀x:Str,x≠"__name__"->mb x=bootBuiltins x)(UB:s₁.heap.NoLimit)(hg:s₁.gens=#[])(hbm:qV mg s₁.heap)(O8:∀P∈ts,s₁.heap.get? P=some (PySem.W.tabObj #[]))(rn:∀P∈ts,∃c,PySem.W.codeHdIn K c P=true)(UC:∀P∈ts,K.lookup P=none)(ha:s₁.heap.get? a=some { cls:=.type "list",data:=.seq vs.toArray })(hi:IntsAre vs ns)(hl:ns.length<=sizeLine)(hr:b9 k callerA)(F:∀base:Heap,K.In base->base.Ns mainGlobals mg->qV mg base->bz P w K mg base CX k fa fd [x] sp)(O9:∀ (s:Shared) (u:Value),BindsTo s fd ⟨[u],[]⟩ [(x,u)])(Fo:∀H:Hp,zK ts H->aM K H a (ns.map V.int)->sp [.ref a] H (fun v _=>v=.bl true) fun _ _ _=>False)(UD:∀H e s',CX [] H s₁ (fun _ _ _=>False) e s'->False):
  codeAny (model P w) callerA (.call (.ref fa) ⟨[.ref a],[]⟩) (fun r s'=>r=.ok (.ret (.bool true))/\OldK s₁.heap s'.heap/\s'.os=s₁.os/\AllBare s'.gens) s₁:=by
 have rv:=rK hi;have UE:=hi.length;have Ye:a∉ts:=fun z=>by
  have:=O8 a z;rw[ha] at this;cases this
 have O_:∀H:Hp,zK ts H->aM K H a (ns.map V.int)->iO P w H s₁.heap->(∀b,H b≠none->b=a\/b∈ts)->(H a≠none->K.lookup a=none)->
   codeAny (model P w) callerA (.call (.ref fa) ⟨[.ref a],[]⟩) (fun r s'=>r=.ok (.ret (.bool true))/\OldK s₁.heap s'.heap/\s'.os=s₁.os/\AllBare s'.gens) s₁:=by
  intro H hO hS bB hA hK;have uf:∀ {b:Addr} {o:Obj},s₁.heap.get? b=some o->H b=none->(qM s₁.heap H).get? b=some o:=fun e n=>Cm e n;have Nm:∀ {b:Addr} {o:Obj},s₁.heap.get? b=some o->(∀v n,o.data≠.seq v n)->(∀v,o.data≠.fields v)->H b=none:=fun {b o} e d1 d2=>by
   cases q:H b with
   |none=>rfl
   |some u=>
    rcases hA b (by rw[q];simp) with e'|e'
    .subst e';rw[ha] at e;cases e;exact absurd rfl (d1 _ _)
    .rw[O8 b e'] at e;cases e;exact absurd rfl (d2 _)
  have R9:∀ {b:Addr} {m:Str->Option Value},s₁.heap.Ns b m->(qM s₁.heap H).Ns b m:=fun {b m} ⟨o,es,ep,e,d,r⟩=>⟨o,es,ep,uf e (Nm e (by rw[d];intro v n z;cases z) (by rw[d];intro v z;cases z)),d,r⟩
  have Yf:K.In (qM s₁.heap H):=fun b o e=>uf (KX b o e) (by
   cases q:H b with
   |none=>rfl
   |some u=>
    rcases hA b (by rw[q];simp) with e'|e'
    .subst e';rw[hK (by rw[q];simp)] at e;cases e
    .rw[UC b e'] at e;cases e)
  have hB:qV mg (qM s₁.heap H):=by
   obtain⟨bm,o,b1,b2,b3,b4,b5,b6,b7⟩:=hbm;exact⟨bm,o,b1,b2,b3,uf b4 (Nm b4 (by rw[b7];intro v n z;cases z) (by rw[b7];intro v z;cases z)),b5,b6,b7⟩
  have hM:Mod K mg (qM s₁.heap H):=⟨Yf,R9 KP,⟨mb,R9 hb,hbb⟩,let ⟨mc,h1,h2⟩:=UB;⟨mc,R9 h1,h2⟩⟩
  have e0:vf P w K mg (qM s₁.heap H) callerA [] s₁ H:=⟨rfl,hM,fun b o e=>FB e,pM (AH _ _),trivial,fun b hb=>absurd (show b∈([]:List Addr) from hb) (by simp),bB,.of_eq hg⟩
  refine kq ((F _ Yf (R9 KP) hB).run callerA [] s₁ H ⟨[.ref a],[]⟩ [.ref a] [.ref a] _ _ hr e0 (O9 s₁ (.ref a)) (.cons rfl .nil) (Fo H hO hS)) fun r s' h=>?_;cases r with
  |error e=>exact(UD H e s' h).elim
  |ok fl=>
   cases fl with
   |next=>exact False.elim h
   |brk=>exact False.elim h
   |cont=>exact False.elim h
   |ret u=>
    obtain⟨v,H',os,bare,un,Pa,r',q⟩:=h;have q':v=.bl true:=q;subst q';obtain rfl:u=Value.bool true:=r';refine⟨rfl,⟨fun b o e=>?_,fun b o e=>un.there b o e (by simp)⟩,os,bare⟩;cases q:H b with
    |none=>exact .inl (un.keep b o e q (by intro z;exact absurd (show b∈([]:List Addr) from z) (by simp)) (by simp))
    |some u=>
     rcases hO.2 b with z|⟨zt,z⟩|⟨ob,xs,z⟩
     .rw[q] at z;cases z
     .obtain⟨more,z2⟩:=un.mS b _ z;have e1:=O8 b zt;rw[e] at e1;cases e1;have e2:s'.heap.get? b=some { cls:=.none,data:=.fields (#[]++more) }:=Pa b _ z2;obtain⟨c,hc⟩:=rn b zt;obtain⟨oc,vsc,_,_,_,_,_,_,_,g1,g2,g3,g4,_⟩:=PySem.W.codeHd_of_K KX hc;exact .inr (.inl ⟨⟨c,oc,vsc,g1,g2,g3,g4⟩,rfl,#[],more,rfl,e2⟩)
     .have z2:=un.mQ b ob _ z;obtain⟨e1,_⟩:=bB b _ z;obtain⟨e2,_⟩:=Pa b _ z2;rw[e] at e1;cases e1;exact .inl e2
 have Yg:∀ (H:Hp),(∀P∈ts,H P=some (.kB #[]))->True:=fun _ _=>trivial
 classical
 cases hk:K.lookup a with
 |some o=>
  have e:=KX a o hk;rw[ha] at e;cases e;refine O_ (fun b=>if b∈ts then some (.kB #[]) else none) ⟨fun P hP=>if_pos hP,fun b=>?_⟩ (.inr ⟨_,vs.toArray,_,hk,rfl,rfl,rfl,by rw[br,UE];exact hl,by simpa using rv⟩) (fun b u z=>?_) (fun b z=>?_) fun z=>absurd (am Ye) z
  .by_cases hb:b∈ts
   .exact .inr (.inl ⟨hb,if_pos hb⟩)
   .exact .inl (am hb)
  .by_cases hb:b∈ts
   .have z':=(if_pos hb).symm.trans z;cases z';exact O8 b hb
   .have z':=(am hb).symm.trans z;cases z'
  .by_cases hb:b∈ts
   .exact .inr hb
   .exact absurd (am hb) z
 |none=>
  refine O_ (fun b=>if b=a then some (.uZ { cls:=.type "list",data:=.seq vs.toArray } (.lst (ns.map V.int))) else if b∈ts then some (.kB #[]) else none) ⟨fun P hP=>?_,fun b=>?_⟩ (.inl (.inr ⟨{ cls:=.type "list",data:=.seq vs.toArray },if_pos rfl⟩)) (fun b u z=>?_) (fun b z=>?_) fun _=>hk
  .have:P≠a:=fun z=>Ye (z ▸ hP);show (if P=a then _ else if P∈ts then _ else _)=_;rw[am this,if_pos hP]
  .by_cases hb:b=a
   .exact .inr (.inr ⟨_,_,if_pos hb⟩)
   .by_cases ht:b∈ts
    .exact .inr (.inl ⟨ht,by show (if b=a then _ else if b∈ts then _ else _)=_;rw[am hb,if_pos ht]⟩)
    .exact .inl (by show (if b=a then _ else if b∈ts then _ else _)=_;rw[am hb,am ht])
  .by_cases hb:b=a
   .have z':=(if_pos hb).symm.trans z;cases z';subst hb;exact⟨ha,by rw[aJ];exact hl,vs,_,rv,ha⟩
   .have z1:(if b∈ts then some (HO.kB #[]) else none)=some u:=(am hb).symm.trans z;by_cases ht:b∈ts
    .rw[if_pos ht] at z1;cases z1;exact O8 b ht
    .rw[am ht] at z1;cases z1
  .by_cases hb:b=a
   .exact .inl hb
   .by_cases ht:b∈ts
    .exact .inr ht
    .exact absurd (by show (if b=a then _ else if b∈ts then _ else _)=_;rw[am hb,am ht]) z
theorem Dn{l:PySem.W.OpenLaw}{n k:Nat}{q:Program}{rJ:List Str}{XP:(Str->Option Value)->Heap->Prop}{YP:World->Heap->Prop}{d:DefRec}{K:Params->PySem.W.Frag}{CX:World->wF}{sp:World->Sp}{x:Str}{ts:List Addr}(hn:l.most=some n)(RW:n<=sizeLine)(OC:d.params.defaults=[])(hr:b9 k callerA)(hY:∀ (w:World) (h:Heap),YP w h->(K w.params).In h)(hT:∀ (w:World) (h:Heap),YP w h->∀P∈ts,h.get? P=some (PySem.W.tabObj #[]))(rn:∀ (w:World),∀P∈ts,∃c,PySem.W.codeHdIn (K w.params) c P=true)(UC:∀ (w:World),∀P∈ts,(K w.params).lookup P=none)(F:∀ (w:World) (mg:Str->Option Value) (fa:Addr) (h:Heap),(K w.params).In h->h.Ns mainGlobals mg->mg d.name=some (.ref fa)->
   ∃fd:FuncData,(∀ (s:Shared) (u:Value),BindsTo s fd ⟨[u],[]⟩ [(x,u)])/\
    ∀base:Heap,(K w.params).In base->base.Ns mainGlobals mg->qV mg base->bz l.prog w (K w.params) mg base (CX w) k fa fd [x] (sp w))(Fo:∀ (w:World) (H:Hp) (a:Addr) (ns:List Int),ns.length<=n->zK ts H->aM (K w.params) H a (ns.map V.int)->sp w [.ref a] H (fun v _=>v=.bl true) fun _ _ _=>False)(UD:∀ (w:World) (H:Hp) (s:Shared) (e:Value) (s':Shared),CX w [] H s (fun _ _ _=>False) e s'->False):
  PySem.W.WalkO q rJ XP YP l.row.toRowW d [] (fun f vs=>PySem.call f vs):=by
 refine XT.vi hn OC fun w s₀ s₁ mg mb fa o pm cd lE a vs ns G Y ho hd aac OD KA C2 dt hg=>?_;have KX:=hY w _ Y;obtain⟨fd,hb,hF⟩:=F w mg fa _ KX G.T.g OD;have hB:qV mg s₁.heap:=by
  obtain⟨bm,ob,b1,b2,b3,b4,b5,b6⟩:=G.T.bmain;refine⟨bm,ob,b1,b2,fun z=>?_,b3,b4,b5,b6⟩;obtain⟨o',es,ep,e,J9,_⟩:=G.T.g;rw[z,e] at b3;cases b3;rw[J9] at b6;cases b6
 exact Bb KX G.T.g G.T.b G.T.builtins G.T.nolimit hg hB (hT w _ Y) (rn w) (UC w) KA C2 (bj dt RW) hr hF hb (fun H hO hS=>Fo w H a ns dt hO hS) fun H e s'=>UD w H s₁ e s'
structure vA(K:PySem.W.Frag)(x qual:Str)(st:Stmt)(f:Addr)(fd:FuncData)(c:Addr):Prop where
 ex:∃ (oc:Value) (od:Option Addr) (kV lE pm:Value) (an:Option Addr) (ct:Value) (u5:Array (Option Value)),
  fd=PySem.W.fnOf x qual (cJ st) (bA st) (ap st) .none kV lE pm an (.ref c) ct/\K.lookup f=some ⟨oc,od,.func fd,u5⟩/\PySem.W.codeIn K (.ref c) qual=true
 kp:PySem.W.keepIn K (.ref f)=true
theorem vA.fun{K:PySem.W.Frag}{x qual:Str}{st:Stmt}{f:Addr}{fd:FuncData}{c:Addr}(F:vA K x qual st f fd c):fJ K x qual st f fd:=by
 obtain⟨oc,od,kV,lE,pm,an,ct,u5,e,lk,rn⟩:=F.ex;exact⟨⟨oc,od,kV,lE,pm,an,_,ct,u5,e,lk,rn⟩,F.kp⟩
section
variable {P:Program} {w:World} {K:PySem.W.Frag} {mg:Str->Option Value} {base:Heap}
theorem vA.ok{x qual:Str}{st:Stmt}{f:Addr}{fd:FuncData}{c:Addr}{N ps:List Str}{k:Nat}{sp:Sp}(F:vA K x qual st f fd c)(S:aE N ps (ap st))(len:∀vs H Q E,sp vs H Q E->vs.length=ps.length)(vh:∀ (A:Around) (outer:List Env) (s:Shared) (H:Hp) (vs:List V) (Q:VK) (E:XK),b9 k (A.deeper (envOfC qual (ap st) s.heap.objs.size f (.ref c)))->sp vs H Q E->
   ∃t,xA (tS bf P w K mg base N qual (ap st) f (.ref c) A outer s H E).IQ (bA st) t/\t { nx:=fun _ H'=>Q .bE H',rt:=Q } (start N vs) H):bz P w K mg base bf (k+1) f fd ps sp:=by
 obtain⟨oc,od,kV,lE,pm,an,ct,u5,rfl,lk,rn⟩:=F.ex;refine IX lk rn S len fun A outer s H vs Q E hr Fo=>?_;obtain⟨t,h,q⟩:=vh A outer s H vs Q E hr Fo;exact⟨t,h.IQ,q⟩
theorem Gc{x qual:Str}{st:Stmt}{f c:Addr}{oc:Value}{od an:Option Addr}{u5:Array (Option Value)}{kV lE pm ct:Value}(l:K.lookup f=some ⟨oc,od,.func (PySem.W.fnOf x qual (cJ st) (bA st) (ap st) .none kV lE pm an (.ref c) ct),u5⟩)(rn:PySem.W.codeIn K (.ref c) qual=true)(kp:PySem.W.keepIn K (.ref f)=true):vA K x qual st f (PySem.W.fnOf x qual (cJ st) (bA st) (ap st) .none kV lE pm an (.ref c) ct) c:=⟨⟨oc,od,kV,lE,pm,an,ct,u5,rfl,l,rn⟩,kp⟩
theorem zL(kb:K.In base)(hb:qV mg base)(hc:PySem.W.codeHdIn K c P'=true):
  F_ (tS CX P w K mg base N qual scope f (.ref c) A outer s H E).IQ c P':=⟨rfl,PySem.W.codeHd_of_K kb hc,hb⟩
end
def oO(sc UF:Scope)(y:Str×NameKind):Bool:=match y.2 with
 |.cell=>(match sc.names.lookup y.1 with|some .cell=>true|_=>false)
 |.local=>(match sc.names.lookup y.1 with|some .local=>true|_=>false)
 |.free=>(match UF.names.lookup y.1 with|some .cell=>true|some .free=>true|_=>false)
 |_=>true
def Do(NB:List Str)(src:List (Option Nat))(sc:Scope)(N:List Str)(i:Nat):Bool:=match NB[i]?,src[i]? with
 |some x,some (some j)=>(N[j]?==some x)&&(match sc.names.lookup x with|some .free=>true|_=>false)
 |_,_=>true
def zM(sc:Scope):Bool:=match sc.kind with|.function=>true|_=>false
def Dp(NB:List Str)(src:List (Option Nat))(sc UF:Scope)(N:List Str):Bool:=
 zM sc&&decide NB.Nodup&&(src.length==NB.length)&&(sc.names.all (oO sc UF))&&(List.range NB.length).all (Do NB src sc N)
theorem bq(h:Dp NB src sc X.env.scope X.N=true):fY NB src sc X:=by
 unfold Dp at h;simp only[dH,sU,eC,lr] at h;obtain⟨⟨⟨⟨h1,h2⟩,h3⟩,h4⟩,h5⟩:=h;refine⟨?_,h2,h3,fun y hy z=>?_,fun y hy z=>?_,fun y hy z=>?_,fun i x j e1 e2=>?_⟩
 .unfold zM at h1;split at h1
  .assumption
  .cases h1
 .have:=h4 y hy;obtain⟨n,k⟩:=y;obtain rfl:k=.cell:=z;dsimp only[oO] at this |-;split at this
  .assumption
  .cases this
 .have:=h4 y hy;obtain⟨n,k⟩:=y;obtain rfl:k=.local:=z;dsimp only[oO] at this |-;split at this
  .assumption
  .cases this
 .have:=h4 y hy;obtain⟨n,k⟩:=y;obtain rfl:k=.free:=z;dsimp only[oO] at this |-;split at this
  .exact .inl (by assumption)
  .exact .inr (by assumption)
  .cases this
 .have hi:i<NB.length:=(dw.mp e1).1;have:=h5 i (cq.mpr hi);unfold Do at this;rw[e1,e2] at this;simp only[dH,eC] at this;refine⟨this.1,?_⟩;have t2:=this.2;split at t2
  .assumption
  .cases t2
theorem cD{K:PySem.W.Frag}{a D:Addr}{xs:List V}{g:TG}{tt:TT}{te:TE}{cZ:Hp->Prop}{σB:St}{H0:Hp}(Pv:Nat->List V->St->Hp->Prop)(h0:Pv 0 [] σB H0)(hl:∀i ys σ H,i<=xs.length->Pv i ys σ H->aM K H a xs)(hs:∀i x ys σ H (Kt:V->St->Hp->Prop) (Kf:St->Hp->Prop),xs[i]?=some x->Pv i ys σ H->
   (∀v σ2 H4,H4 D=some (.lst ys)->ys.length<sizeLine->Pv (i+1) (ys++[v]) σ2 (upd H4 D (.lst (ys++[v])))->Kt v σ2 H4)->(∀σ2 H3,Pv (i+1) ys σ2 H3->Kf σ2 H3)->
   g x σ H fun σ2 H2=>tt σ2 H2 fun b H3=>if b=true then te σ2 H3 fun v H4=>Kt v σ2 H4 else Kf σ2 H3)(hd:∀ys σ H,Pv xs.length ys σ H->cZ H):fq (BY K a) g tt te D cZ σB H0:=by
 refine⟨fun i m σ H=>m=xs.length-i/\i<=xs.length/\∃ys,Pv i ys σ H,⟨xs.length,by simp,cN _,[],h0⟩,?_⟩;rintro i m σ H ⟨rfl,hi,ys,p⟩;have q:=hl i ys σ H hi p;by_cases eh:i<xs.length
 .refine .inr ⟨⟨xs,xs[i],q,by simp[eh]⟩,?_⟩;rintro x H' ⟨rfl,y⟩;exact hs i x ys σ _ (fun v σ2 H4=>∃ys,H4 D=some (.lst ys)/\ys.length<sizeLine/\∃m',m'<xs.length-i/\m'=xs.length-(i+1)/\i+1<=xs.length/\∃qW,Pv (i+1) qW σ2 (upd H4 D (.lst (ys++[v]))))
   (fun σ2 H3=>∃m',m'<xs.length-i/\m'=xs.length-(i+1)/\i+1<=xs.length/\∃qW,Pv (i+1) qW σ2 H3) (y xs q) p
   (fun v σ2 H4 z1 z2 z3=>⟨ys,z1,z2,_,by lia,rfl,eh,_,z3⟩) (fun σ2 H3 z=>⟨_,by lia,rfl,eh,_,z⟩)
 .have e:i=xs.length:=by lia
  subst e;exact .inl ⟨⟨xs,q,aY _⟩,hd ys σ H p⟩
theorem dL{lo:Int}{n:Nat}{D:Addr}{g:TG}{tt:TT}{te:TE}{cZ:Hp->Prop}{σB:St}{H0:Hp}(Pv:Nat->List V->St->Hp->Prop)(h0:Pv 0 [] σB H0)(hs:∀i ys σ H (Kt:V->St->Hp->Prop) (Kf:St->Hp->Prop),i<n->Pv i ys σ H->
   (∀v σ2 H4,H4 D=some (.lst ys)->ys.length<sizeLine->Pv (i+1) (ys++[v]) σ2 (upd H4 D (.lst (ys++[v])))->Kt v σ2 H4)->(∀σ2 H3,Pv (i+1) ys σ2 H3->Kf σ2 H3)->
   g (.int (lo+i)) σ H fun σ2 H2=>tt σ2 H2 fun b H3=>if b=true then te σ2 H3 fun v H4=>Kt v σ2 H4 else Kf σ2 H3)(hd:∀ys σ H,Pv n ys σ H->cZ H):fq (Fn lo n) g tt te D cZ σB H0:=by
 refine⟨fun i m σ H=>m=n-i/\i<=n/\∃ys,Pv i ys σ H,⟨n,by simp,cN _,[],h0⟩,?_⟩;rintro i m σ H ⟨rfl,hi,ys,p⟩;by_cases eh:i<n
 .refine .inr ⟨eh,?_⟩;rintro x H' ⟨rfl,rfl⟩;exact hs i ys σ _ (fun v σ2 H4=>∃ys,H4 D=some (.lst ys)/\ys.length<sizeLine/\∃m',m'<n-i/\m'=n-(i+1)/\i+1<=n/\∃qW,Pv (i+1) qW σ2 (upd H4 D (.lst (ys++[v]))))
   (fun σ2 H3=>∃m',m'<n-i/\m'=n-(i+1)/\i+1<=n/\∃qW,Pv (i+1) qW σ2 H3) eh p
   (fun v σ2 H4 z1 z2 z3=>⟨ys,z1,z2,_,by lia,rfl,eh,_,z3⟩) (fun σ2 H3 z=>⟨_,by lia,rfl,eh,_,z⟩)
 .have e:i=n:=by lia
  subst e;exact .inl ⟨aY _,hd ys σ H p⟩
section
variable {κ:Type} [DecidableEq κ]
def nq(bb:List (κ×V))(k:κ):Option V:=(bb.find? fun kv=>decide (kv.1=k)).map (·.2)
def ir(bb:List (κ×V))(k:κ)(v:V):List (κ×V):=
 if (bb.any fun kv=>decide (kv.1=k))=true then bb.map (fun kv=>if kv.1=k then (kv.1,v) else kv) else bb++[(k,v)]
theorem lL{p:κ×V}{r:List (κ×V)}{k:κ}(e:p.1=k):nq (p::r) k=some p.2:=by simp[nq,i_,e]
theorem lM{p:κ×V}{r:List (κ×V)}{k:κ}(e:¬ p.1=k):nq (p::r) k=nq r k:=by simp[nq,i_,e]
theorem qd(k:κ):∀bb:List (κ×V),(bb.any fun kv=>decide (kv.1=k))=(nq bb k).isSome
 |[]=>rfl
 |p::r=>by
  rw[iH];by_cases e:p.1=k
  .simp only[lL e,cR e,Bool.true_or,Option.isSome_some]
  .rw[lM e,cM e,Bool.false_or];exact qd k r
theorem js(bb:List (κ×V))(k:κ)(v:V):(ir bb k v).length<=bb.length+1:=by
 unfold ir;split
 .rw[aJ];lia
 .rw[cV,dG,List.length_nil];lia
theorem Dq{bb:List (κ×V)}{k:κ}(v:V)(h:nq bb k=none):ir bb k v=bb++[(k,v)]:=by
 unfold ir;rw[qd,h];exact am (by decide)
theorem jQ.nr(r:jQ o u):o.isSome=u.isSome:=by
 cases o with
 |none=>cases u with
  |none=>rfl
  |some _=>exact(show False from r).elim
 |some _=>cases u with
  |none=>exact(show False from r).elim
  |some _=>rfl
theorem KV.val{bb:List (κ×V)}{vs:List (κ×Value)}(r:KV bb vs)(k:κ):jQ (nq bb k) (valueAt vs k):=by
 unfold KV at r;induction r with
 |nil=>exact True.intro
 |@cons p q ps qs h t ih=>
  obtain⟨h1,h2⟩:=h;by_cases e:p.1=k
  .have e':q.1=k:=h1.symm.trans e;have b:valueAt (q::qs) k=some q.2:=by simp[valueAt,i_,e']
   rw[lL e,b];exact h2
  .have e':¬ q.1=k:=fun z=>e (h1.trans z);have b:valueAt (q::qs) k=valueAt qs k:=by simp[valueAt,i_,e']
   rw[lM e,b];exact ih
theorem KV.any{bb:List (κ×V)}{vs:List (κ×Value)}(r:KV bb vs)(k:κ):(bb.any fun kv=>decide (kv.1=k))=vs.any fun kv=>decide (kv.1=k):=by
 unfold KV at r;induction r with
 |nil=>rfl
 |cons h t ih=>rw[iH,iH,ih,h.1]
theorem KV.KR{bb:List (κ×V)}{vs:List (κ×Value)}(r:KV bb vs)(k:κ){y:V}{u:Value}(ry:bn y u):
  KV (bb.map fun kv=>if kv.1=k then (kv.1,y) else kv) (vs.map fun kv=>if kv.1=k then (kv.1,u) else kv):=by
 unfold KV at r |-;induction r with
 |nil=>exact .nil
 |@cons p q ps qs h t ih=>
  rw[dS,dS];refine .cons ?_ ih;obtain⟨h1,h2⟩:=h;by_cases e:p.1=k
  .rw[if_pos e,if_pos (h1.symm.trans e)];exact⟨h1,ry⟩
  .rw[am e,am (fun z=>e (h1.trans z))];exact⟨h1,h2⟩
theorem KV.put{bb:List (κ×V)}{vs:List (κ×Value)}(r:KV bb vs)(k:κ){y:V}{u:Value}(ry:bn y u):KV (ir bb k y) (stored vs k u):=by
 unfold ir stored;rw[r.any k];by_cases e:(vs.any fun kv=>decide (kv.1=k))=true
 .rw[if_pos e,if_pos e];exact r.KR k ry
 .rw[am e,am e];exact Paired.snoc r ⟨rfl,ry⟩
theorem KV.length{bb:List (κ×V)}{vs:List (κ×Value)}(r:KV bb vs):bb.length=vs.length:=Paired.length r
end
theorem vB(r:bn (kV k) u):(cY P w).is k u=true:=by
 cases k with
 |inl i=>obtain⟨t,e⟩:=(show ∃t,u=Value.int i t from r);subst e;exact u8 P w i t
 |inr x=>obtain⟨t,e⟩:=(show ∃t,u=Value.str x t from r);subst e;exact u9 P w x t
theorem rS:∀ {ks:List fA} {us:List Value},aP (ks.map kV) us->ItemsAre (cY P w) ks us
 |[],_,r=>by rw[tK] at r;cases r;exact .nil
 |k::ks,_,r=>by
  rw[dS] at r;cases r with
  |cons h t=>exact .cons (vB h) (rS t)
abbrev KT(H:Hp):List (List fA×V)->List (List fA×Addr×Value)->Prop:=Paired fun p q=>p.1=q.1/\H q.2.1=some (.tup (p.1.map kV))/\bn p.2 q.2.2
theorem KT.val{H:Hp}{bb:List (List fA×V)}{xs:List (List fA×Addr×Value)}(r:KT H bb xs)(k:List fA):jQ (nq bb k) ((atKey xs k).map (·.2)):=by
 induction r with
 |nil=>exact True.intro
 |@cons p q ps qs h t ih=>
  obtain⟨h1,_,h2⟩:=h;by_cases e:p.1=k
  .have e':q.1=k:=h1.symm.trans e;have b:atKey (q::qs) k=some q.2:=by simp[atKey,i_,e']
   rw[lL e,b];exact h2
  .have e':¬ q.1=k:=fun z=>e (h1.trans z);have b:atKey (q::qs) k=atKey qs k:=by simp[atKey,i_,e']
   rw[lM e,b];exact ih
theorem KT.KR(r:KT H bb xs)(k:List fA)(ry:bn y u):
  KT H (bb.map fun kv=>if kv.1=k then (kv.1,y) else kv) (xs.map (putAt k u)):=by
 induction r with
 |nil=>exact .nil
 |@cons p q ps qs h t ih=>
  rw[dS,dS];refine .cons ?_ ih;obtain⟨h1,h2,h3⟩:=h;unfold putAt;by_cases e:p.1=k
  .rw[if_pos e,if_pos (h1.symm.trans e)];exact⟨h1,h2,ry⟩
  .rw[am e,am (fun z=>e (h1.trans z))];exact⟨h1,h2,h3⟩
theorem KT.put(r:KT H bb xs)(k:List fA)(hb:H b=some (.tup (k.map kV)))(ry:bn y u):
  KT H (ir bb k y) (storedH xs k b u):=by
 have e:(bb.any fun kv=>decide (kv.1=k))=(atKey xs k).isSome:=by
  rw[qd,(r.val k).nr,Option.isSome_map]
 unfold ir storedH;rw[e];by_cases q:(atKey xs k).isSome=true
 .rw[if_pos q,if_pos q];exact r.KR k ry
 .rw[am q,am q];exact Paired.snoc r ⟨rfl,hb,ry⟩
theorem KT.keeps(r:KT H bb xs)(ht:∀b ys,H b=some (.tup ys)->H' b=some (.tup ys)):KT H' bb xs:=
 Paired.J7 r fun _ _ z=>⟨z.1,ht _ _ z.2.1,z.2.2⟩
section
variable {P:Program} {w:World} {H:Hp} {h:Heap} {a:Addr}
theorem Jg(ok:iO P w H h)(e:Rd H a u):bX P w H h a u:=e.ok ok
theorem zN(ok:iO P w H h)(e:Rd H a (.dK bb)):bb.length<=sizeLine/\(a==sysModules)=false/\∃vs,KV bb vs/\h.DictOf (cY P w) a vs:=
 show bX P w H h a (.dK bb) from Jg ok e
theorem Jh{bb:List (fA×V)}(ok:iO P w H h)(e:H a=some (.dK bb)):bb.length<=sizeLine/\(a==sysModules)=false/\∃vs,KV bb vs/\h.DictOf (cY P w) a vs:=zN ok (.inl e)
theorem kK(ok:iO P w H h)(e:H a=some (.tup (ks.map kV))):(tupleKind (cY P w)).is h ks a:=by
 obtain⟨_,its,r,o,h1,h2,n,h3,_⟩:=(show bX P w H h a (.tup (ks.map kV)) from ok a _ e)
 exact⟨o,its.toArray,n,h1,h2,h3,by simpa using rS r⟩
theorem zO(ok:iO P w H h)(e:Rd H a (.dT bb)):bb.length<=sizeLine/\(a==sysModules)=false/\
  ∃xs,KT H bb xs/\h.DictOfH (tupleKind (cY P w)) a xs:=by
 obtain⟨z,y,xs,r,o,es,ep,h1,h2,h3,h4,h5⟩:=(show bX P w H h a (.dT bb) from Jg ok e)
 refine⟨z,y,xs,r,o,es,ep,h1,h2,h3,h4,fun x hx=>?_,h5⟩;have all:∀ {l:List (List fA×V)} {m:List (List fA×Addr×Value)},KT H l m->∀x∈m,(tupleKind (cY P w)).is h x.1 x.2.1:=by
  intro l m q;induction q with
  |nil=>intro x hx;exact nomatch hx
  |@cons p q ps qs hq t ih=>
   intro x hx;rcases aV.mp hx with e|hx
   .subst e;exact kK ok (by rw[<-hq.1];exact hq.2.1)
   .exact ih x hx
 exact all r x hx
theorem Pb{bb:List (List fA×V)}(ok:iO P w H h)(e:H a=some (.dT bb)):bb.length<=sizeLine/\(a==sysModules)=false/\
  ∃xs,KT H bb xs/\h.DictOfH (tupleKind (cY P w)) a xs:=zO ok (.inl e)
end
def qX(H:Hp)(a:Addr)(y:V)(r:Option V):Prop:=
 (∃bb k,Rd H a (.dK bb)/\y=kV k/\r=nq bb k)\/∃bb k b,Rd H a (.dT bb)/\y=.ref b/\H b=some (.tup (k.map kV))/\r=nq bb k
def Dr(H:Hp)(a:Addr)(y v:V)(H':Hp):Prop:=
 (∃bb k,H a=some (.dK bb)/\y=kV k/\bb.length<sizeLine/\H'=upd H a (.dK (ir bb k v)))\/
 ∃bb k b,H a=some (.dT bb)/\y=.ref b/\H b=some (.tup (k.map kV))/\bb.length<sizeLine/\H'=upd H a (.dT (ir bb k v))
theorem qX.k{H:Hp}{a:Addr}{bb:List (fA×V)}{k:fA}(e:H a=some (.dK bb)):qX H a (kV k) (nq bb k):=.inl ⟨bb,k,.inl e,rfl,rfl⟩
theorem Dr.k{H:Hp}{a:Addr}{bb:List (fA×V)}{k:fA}{v:V}(e:H a=some (.dK bb))(hl:bb.length<sizeLine):Dr H a (kV k) v (upd H a (.dK (ir bb k v))):=.inl ⟨bb,k,e,rfl,hl,rfl⟩
section
variable {X:Cx} {ae:List (Addr×Obj)} {σ:St} {H:Hp} {s:Shared} {a:Addr} {y v:V} {u r:Value} {o:Option V} {A:Around} {E:Value->Shared->Prop}
theorem aD.big(I:aD X ae σ H s):sysModules<s.heap.objs.size:=by
 have h:mainGlobals<s.heap.objs.size:=(I.mod.glob.keeps I.bk).lt;exact Nat.lt_trans (by decide) h
theorem Bc{Q:Value->Shared->Prop}(hu:A.units+1<cLine)(I:aD X ae σ H s)(g:qX H a y (some v))(ry:bn y u)(h:∀w' s',aD X ae σ H s'->bn v w'->Q w' s'):
  wpAny (model X.prog X.w) A (getItem (.ref a) u) Q E s:=by
 rcases g with ⟨bb,k,e,ey,l⟩|⟨bb,k,b,e,ey,eb,l⟩
 .subst ey;obtain⟨z,hd,vs,ug,dd⟩:=zN I.bB e;obtain⟨w',hw,qR⟩:=jQ.some_of (v:=v) (o:=valueAt vs k) (by rw[l];exact ug.val k);exact wpAny_getItem_of (vB ry) dd.mapOf hw (h w' _ (I.tok _) qR)
 .subst ey;cases (show u=Value.ref b from ry);obtain⟨z,hd,xs,ug,dd⟩:=zO I.bB e;obtain⟨w',hw,qR⟩:=jQ.some_of (v:=v) (o:=(atKey xs k).map (·.2)) (by rw[l];exact ug.val k);obtain⟨p,hp,rT⟩:=wV.mp hw;refine wpAny_getItem_heap (xr hu) (kK I.bB eb) dd hp ?_;rw[rT];exact h w' _ (I.tok _) qR
theorem Gd{Q:Value->Shared->Prop}(hu:A.units+1<cLine)(I:aD X ae σ H s)(g:qX H a y o)(ry:bn y u)(h:∀s',aD X ae σ H s'->Q (.bool (!o.isSome)) s'):
  wpAny (model X.prog X.w) A (compareOp .NotIn u (.ref a)) Q E s:=by
 rcases g with ⟨bb,k,e,ey,l⟩|⟨bb,k,b,e,ey,eb,l⟩
 .subst ey;obtain⟨z,hd,vs,ug,dd⟩:=zN I.bB e;refine wpAny_notIn_of (vB ry) hd dd.mapOf ?_;rw[<-(ug.val k).nr,<-l];exact h _ (I.tok _)
 .subst ey;cases (show u=Value.ref b from ry);obtain⟨z,hd,xs,ug,dd⟩:=zO I.bB e;refine wpAny_notIn_heap (xr hu) (kK I.bB eb) hd dd ?_;have q:=(ug.val k).nr;rw[Option.isSome_map] at q;rw[<-q,<-l];exact h _ (I.tok _)
theorem uh{h':Heap}{t':Nat}{ob:HO}(I:aD X ae σ H s)(mu:N2 (H a))(hs:Heap.SameBut a s.heap h')(he:∃q,h'.get? a=some q)(new:bX X.prog X.w (upd H a ob) h' a ob):
  aD X ae σ (upd H a ob) { s with heap:=h',toks:=t' }:=
 I.write (x:=a) (e:=a) mu (.inl rfl) (fun b q hb z=>(hs.2 b hb).trans z) he new
theorem Ds{P:Program}{w:World}{H':Hp}{h':Heap}{bb:List (fA×V)}{vs:List (fA×Value)}(z:bb.length<=sizeLine)(hd:(a==sysModules)=false)(ug:KV bb vs)(dd:h'.DictOf (cY P w) a vs):
  bX P w H' h' a (.dK bb):=⟨z,hd,vs,ug,dd⟩
theorem Bd{H':Hp}{Q:Unit->Shared->Prop}(hu:A.units+1<cLine)(I:aD X ae σ H s)(g:Dr H a y v H')(ry:bn y u)(rv:bn v r)(h:∀s',aD X ae σ H' s'->Q () s'):
  wpAny (model X.prog X.w) A (setItem (.ref a) u r) Q E s:=by
 rcases g with ⟨bb,k,e,ey,l,eH⟩|⟨bb,k,b,e,ey,eb,l,eH⟩
 .subst ey eH;obtain⟨z,hd,vs,ug,dd⟩:=Jh I.bB e;have hz:vs.length<=sizeLine:=by rw[<-ug.length];exact z
  have hl:(ir bb k v).length<=sizeLine:=by have:=js bb k v;lia
  refine wpAny_setItem_pairs (hsz:=hz) (vB ry) dd fun h' KS hs=>h _ ?_;have he:∃q,h'.get? a=some q:=let ⟨q,_,_,hq,_⟩:=KS;⟨q,hq⟩;exact uh I (by rw[e];exact True.intro) hs he (Ds hl hd (ug.put k rv) KS)
 .subst ey eH;cases (show u=Value.ref b from ry);obtain⟨z,hd,xs,ug,dd⟩:=Pb I.bB e;have hz:xs.length<=sizeLine:=by rw[<-Paired.length ug];exact z
  have hl:(ir bb k v).length<=sizeLine:=by have:=js bb k v;lia
  refine wpAny_setItem_heap (hsz:=hz) (xr hu) (kK I.bB eb) dd fun h' KS hs=>h _ ?_;obtain⟨q,es,ep,hq,h2,h3,h4,_,h5⟩:=KS;refine uh I (by rw[e];exact True.intro) hs ⟨q,hq⟩ ⟨hl,hd,_,(ug.put k eb rv).keeps fun c ys ec=>?_,q,es,ep,hq,h2,h3,h4,h5⟩;rw[ak (eD ec e (fun z=>nomatch z))];exact ec
end
section
variable {X:Cx} {ae:List (Addr×Obj)} {σ:St} {H:Hp} {s:Shared} {a:Addr} {bb:List (fA×V)} {k:fA} {u:Value} {A:Around} {E:Value->Shared->Prop}
end
def Pc(i:Expr):Prop:=∀ov iv,subscripted i false ov iv=operate [ov,iv] (getItem ov iv)
theorem Ge{prog:Program}{w:World}{A:Around}{E:Value->Shared->Prop}{s:Shared}{env:Env}{value slice:Expr}{pos:Pos}{T id:String}{Q:Value->Shared->Prop}(hl:typeLookup (.type T) "__getitem__"=pure (some (.builtin id)))(hs:Pc slice)(h:wpAny (model prog w) A (eval value env) (fun o s₁=>wpAny (model prog w) A (eval slice env) (fun i s₂=>s₂.TypeIs o T/\wpAny (model prog w) A (getItem o i) Q E s₂) E s₁) E s):
  wpAny (model prog w) A (eval (.Subscript value slice pos) env) Q E s:=by
 refine Subscript_ (gC h (fun o s₁ h₁=>gC h₁ (fun i s₂ h₂=>?_) fun _ _ x=>x) fun _ _ x=>x);obtain⟨hT,h₂⟩:=h₂;unfold subscriptTail;refine au ?_;rw[getitemInPython_of_ne hT.not_modules];refine au (wpAny_specialOf hT hl ?_);have cZ:wpAny (model prog w) A (subscripted slice false o i) (fun r s₃=>wpAny (model prog w) A (letTemporaryGo value o r >>= fun _=>pure r) Q E s₃) E s₂:=by
  rw[hs o i];exact wpAny_operating (gC h₂ (fun r s₃ h₃=>au (wpAny_letTemporaryGo (wpAny_pure h₃))) fun _ _ x=>x)
 first
  |exact wpAny_pure (au cZ)
  |exact au (wpAny_pure (au cZ))
  |exact au cZ
theorem vC{X:Cx}{ae:List (Addr×Obj)}{σ:St}{H:Hp}{s:Shared}{a:Addr}{y:V}{o:Option V}(I:aD X ae σ H s)(g:qX H a y o):s.TypeIs (.ref a) "dict":=by
 rcases g with ⟨bb,k,e,_,_⟩|⟨bb,k,b,e,_,_,_⟩
 .obtain⟨_,_,vs,_,dd⟩:=zN I.bB e;exact dd.typeIs
 .obtain⟨_,_,xs,_,dd⟩:=zO I.bB e;exact dd.typeIs
def Ji(td ty:TE):TE:=fun σ H Q=>td σ H fun x H1=>ty σ H1 fun y H2=>∃a v,x=.ref a/\qX H2 a y (some v)/\Q v H2
def Gf(ty td:TE):TE:=fun σ H Q=>ty σ H fun y H1=>td σ H1 fun x H2=>∃a o,x=.ref a/\qX H2 a y o/\Q (.bl (!o.isSome)) H2
def Pd(td ty tv:TE):TS:=fun D σ H=>tv σ H fun v H1=>td σ H1 fun x H2=>ty σ H2 fun y H3=>∃a H4,x=.ref a/\Dr H3 a y v H4/\D.nx σ H4
section
variable {X:Cx} {o i e value:Expr} {pos vb xN:Pos} {td ty tv:TE}
theorem zP(hu:X.A.units+1<cLine)(ho:PE X o td)(hi:PE X i ty)(hs:Pc i):PE X (.Subscript o i pos) (Ji td ty):=by
 intro ae s σ H Q I h;refine Ge PySem.F.slot_dict_getitem.lookup hs (b_ (ho ae s σ H _ I h) fun u s1 ⟨x,H1,I1,rx,q1⟩=>b_ (hi ae s1 σ H1 _ I1 q1) fun iv s2 ⟨y,H2,I2,ry,a,v,ex,g,q2⟩=>?_);subst ex;obtain rfl:u=Value.ref a:=rx;exact⟨vC I2 g,Bc hu I2 g ry fun w' s3 I3 qR=>⟨v,H2,I3,qR,q2⟩⟩
theorem Be(hu:X.A.units+1<cLine)(hi:PE X i ty)(ho:PE X o td):PC X .NotIn i o (Gf ty td):=by
 intro ae s σ H Q I h;refine b_ (hi ae s σ H _ I h) fun iv s1 ⟨y,H1,I1,ry,q1⟩=>b_ (ho ae s1 σ H1 _ I1 q1) fun u s2 ⟨x,H2,I2,rx,a,ov,ex,g,q2⟩=>?_;subst ex;obtain rfl:u=Value.ref a:=rx;exact Gd hu I2 g ry fun s3 I3=>⟨.bl (!ov.isSome),H2,I3,rfl,q2⟩
theorem Gg(hu:X.A.units+1<cLine)(ho:PE X o td)(hi:PE X i ty)(hv:PE X value tv)(hs:swapsWith value (some (.Subscript o i vb)) pos.line X.env=pure false):
  PS X (.Assign [.Subscript o i vb] value pos) (Pd td ty tv):=by
 intro ae s σ H D I h;refine wpAny_Assign_Subscript (b_ (hv ae s σ H _ I h) fun r s1 ⟨v,H1,I1,rv,q1⟩=>b_ (ho ae s1 σ H1 _ I1 q1) fun u s2 ⟨x,H2,I2,rx,q2⟩=>b_ (hi ae s2 σ H2 _ I2 q2) fun iv s3 ⟨y,H3,I3,ry,a,H4,ex,g,q3⟩=>?_) hs;subst ex;obtain rfl:u=Value.ref a:=rx;exact Bd hu I3 g ry rv fun s4 I4=>⟨σ,H4,I4,q3⟩
end
theorem Dt{P:Program}{w:World}{H:Hp}(h:Heap)(hb:sysModules<h.objs.size):bX P w H (h.push { cls:=.type "dict",data:=.dict #[] }) h.objs.size (.dK []):=
 ⟨cN _,j8.mpr (gG (a8 hb)),[],.nil,Heap.DictOf.new h⟩
section
variable {X:Cx} {pos:Pos}
end
def ym:List (TE×TE)->St->Hp->(List (V×V)->Hp->Prop)->Prop
 |[],_,H,Q=>Q [] H
 |(tk,tv)::r,σ,H,Q=>tk σ H fun x H1=>tv σ H1 fun y H2=>ym r σ H2 fun ps H3=>Q ((x,y)::ps) H3
abbrev VV:List (V×V)->List (Value×Value)->Prop:=Paired fun p q=>bn p.1 q.1/\bn p.2 q.2
def R_(X:Cx)(pos:Pos)(vD:List (Option Expr))(qe:List Expr)(Gh:List (TE×TE)):Prop:=
 ∀ (ae:List (Addr×Obj)) (s:Shared) (σ:St) (H:Hp) (Q:List (V×V)->Hp->Prop),aD X ae σ H s->ym Gh σ H Q->
  wpAny (model X.prog X.w) X.A (evalPairs (pairTrees vD qe X.env pos)) (fun vs s'=>∃ps H',aD X ae σ H' s'/\VV ps vs/\Q ps H') X.xe s
theorem Gi{X:Cx}{pos:Pos}:R_ X pos [] [] []:=fun ae s σ H Q I h=>pairTrees_nil_walk ⟨[],H,I,.nil,h⟩
theorem Du{X:Cx}{pos:Pos}{k v:Expr}{ks:List (Option Expr)}{vs:List Expr}{tk tv:TE}{Gh:List (TE×TE)}(hk:PE X k tk)(hv:PE X v tv)(hr:R_ X pos ks vs Gh):
  R_ X pos (some k::ks) (v::vs) ((tk,tv)::Gh):=fun ae s σ H Q I h=>
 pairTrees_cons_walk (b_ (hk ae s σ H _ I h) fun u s1 ⟨x,H1,I1,rx,q1⟩=>b_ (hv ae s1 σ H1 _ I1 q1) fun w2 s2 ⟨y,H2,I2,ry,q2⟩=>
  b_ (hr ae s2 σ H2 _ I2 q2) fun ws s3 ⟨ps,H3,I3,ug,q3⟩=>⟨(x,y)::ps,H3,I3,.cons ⟨rx,ry⟩ ug,q3⟩)
def nu(bb more:List (fA×V)):List (fA×V):=more.foldl (fun dq kv=>ir dq kv.1 kv.2) bb
theorem KV.merge:∀ {more:List (fA×V)} {rs:List (fA×Value)} {bb:List (fA×V)} {vs:List (fA×Value)},KV more rs->KV bb vs->KV (nu bb more) (merged vs rs):=by
 intro more rs bb vs r;unfold KV at r;induction r generalizing bb vs with
 |nil=>intro q;exact q
 |@cons p q ps qs h t ih=>
  intro r0;have e:KV (ir bb p.1 p.2) (stored vs q.1 q.2):=by
   have:=r0.put p.1 h.2;rw[<-h.1];exact this
  exact ih e
theorem jZ:∀ (more bb:List (fA×V)),(nu bb more).length<=bb.length+more.length
 |[],bb=>by show bb.length<=bb.length+0;lia
 |p::r,bb=>by
  have h1:=jZ r (ir bb p.1 p.2);have h2:=js bb p.1 p.2;show (nu (ir bb p.1 p.2) r).length<=_;rw[dG];lia
theorem qf{P:Program}{w:World}:∀ {bb:List (fA×V)} {ws:List (Value×Value)},VV (bb.map fun kv=>(kV kv.1,kv.2)) ws->∃rs,Carries (cY P w) ws rs/\KV bb rs
 |[],_,r=>by rw[tK] at r;cases r;exact⟨[],True.intro,.nil⟩
 |p::bb,_,r=>by
  rw[dS] at r;cases r with
  |@cons a b as bs h t=>
   obtain⟨rs,c,q⟩:=qf (P:=P) (w:=w) t;obtain⟨b1,b2⟩:=b;exact⟨(p.1,b2)::rs,⟨vB h.1,rfl,c⟩,.cons ⟨rfl,h.2⟩ q⟩
def Pe(Gh:List (TE×TE)):TE:=fun σ H Q=>∀p,H p=none->ym Gh σ (upd H p (.dK [])) fun ps H2=>H2 p=some (.dK [])/\∃bb:List (fA×V),ps=bb.map (fun kv=>(kV kv.1,kv.2))/\bb.length<=15/\Q (.ref p) (upd H2 p (.dK (nu [] bb)))
theorem Gj{X:Cx}{pos:Pos}{vD:List (Option Expr)}{qe:List Expr}{Gh:List (TE×TE)}(h:R_ X pos vD qe Gh)(qT:vD.all (·.isSome)=true)(hl:vD.length=qe.length)(h0:vD≠[])(h15:vD.length<=15):PE X (.Dict vD qe pos) (Pe Gh):=by
 intro ae s σ H Q I q;have hn:=I.bB.fresh (aY s.heap.objs.size);have I1:=I.laid (a:=s.heap.objs.size) (o:=.dK []) (h':=s.heap.push { cls:=.type "dict",data:=.dict #[] }) (t':=s.toks) (fun _ _ q=>bQ _ q) (aY _) (Dt s.heap I.big);refine wpAny_Dict_walk (knd:=cY X.prog X.w) qT hl h0 h15 (b_ (h ae _ σ _ _ I1 (q _ hn)) fun ws s2 ⟨ps,H2,I2,ug,e,bb,ep,lk,q2⟩=>?_);subst ep;obtain⟨rs,c,rk⟩:=qf (P:=X.prog) (w:=X.w) ug;obtain⟨z,hd,Yd,r0,dd⟩:=Jh I2.bB e;cases r0;refine⟨rs,c,dd,fun h' KS hs=>⟨.ref s.heap.objs.size,_,?_,rfl,q2⟩⟩;have hz:(nu [] bb).length<=sizeLine:=by
  have h1:=jZ bb [];rw[List.length_nil] at h1;rw[jf];lia
 have he:∃q,h'.get? s.heap.objs.size=some q:=let ⟨q,_,_,hq,_⟩:=KS;⟨q,hq⟩;exact uh I2 (by rw[e];exact True.intro) hs he (Ds hz hd (rk.merge .nil) KS)
section
variable {X:Cx} {ae:List (Addr×Obj)} {σ:St} {H:Hp} {s:Shared} {a:Addr} {y d:V} {u r:Value} {o:Option V} {A:Around} {E:Value->Shared->Prop}
end
section
variable {X:Cx} {o e f:Expr} {kF jp:Pos} {td ty tx:TE}
end
section
variable {X:Cx} {ae:List (Addr×Obj)} {σ:St} {H:Hp} {s:Shared} {a:Addr} {bb:List (fA×V)} {A:Around} {E:Value->Shared->Prop}
end
section
variable {X:Cx} {ae:List (Addr×Obj)} {σ:St} {H:Hp} {s:Shared} {a:Addr} {y:V} {u:Value} {A:Around} {E:Value->Shared->Prop}
end
section
variable {X:Cx}
end
section
variable {κ:Type} [DecidableEq κ]
end
section
variable {X:Cx}
theorem qg:∀ {xs:List V} {its:List Value},aP xs its->xs.all d_=true->its.countP (tV x)=xs.countP (fun z=>m6 z x)
 |[],_,.nil,_=>rfl
 |y::xs,_,.cons (b:=u) r rr,f=>by
  have fy:d_ y=true:=by rw[jd,dH] at f;exact f.1
  have fx:xs.all d_=true:=by rw[jd,dH] at f;exact f.2
  have h1:[u].any (tV x)=[y].any (fun z=>m6 z x):=jG (.cons r .nil) (by simp[fy]);have h2:tV x u=m6 y x:=by simpa using h1
  rw[mD,mD,qg rr fx,h2]
end
def Pf(K:PySem.W.Frag)(a:Addr):It:=
 ⟨fun i H=>∃xs x,aM K H a xs/\xs[i]?=some x,fun i H x H'=>∃p v,x=.ref p/\H p=none/\H'=upd H p (.tup [.int i,v])/\∀xs,aM K H a xs->xs[i]?=some v,fun i H=>∃xs,aM K H a xs/\xs.length<=i⟩
theorem aD.zQ(I:aD X ae σ H s)(fe:gf X ae H e)(fi:gf X ae H it)(k:∀b o,b≠e->b≠it->s.heap.get? b=some o->h'.get? b=some o)(ke:∃o,h'.get? e=some o)(ki:∃o,h'.get? it=some o)(hp:s.heap.objs.size<=p)(hl:xs.length<=sizeLine)(r:aP xs its)(ht:h'.get? p=some { cls:=.type "tuple",data:=.seq its.toArray }):aD X ae σ (upd H p (.tup xs)) { s with heap:=h',toks:=t' }:=by
 have hn:=I.bB.fresh hp;obtain⟨e0,e1,e2,e3,e4,e5⟩:=fe;obtain⟨i0,i1,i2,i3,i4,i5⟩:=fi;have ne:∀b o,s.heap.get? b=some o->b≠p:=fun b o q=>a8 (bS (aQ q) hp);have zR:∀b o,H b=some o->b≠e/\b≠it:=fun b o q=>⟨(fun z=>by rw[z,e0] at q;cases q),(fun z=>by rw[z,i0] at q;cases q)⟩
 refine I.step (g':=s.gens) (d':=s.drawn) (ch:=[e,it]) (fun b hb=>?_) (fun b o _ _ hb q _=>?_) (fun b o _ _ hb q _=>⟨o.slots,?_⟩) (fun b o hb q n=>by rw[ak (ne b o q)];exact n) (fun b o hb q=>⟨o,?_⟩)
  (fun b ys q=>by rw[ak (aj q hn)];exact q) (fun b o u q=>by rw[ak (aj q hn)];exact q) (fun b ps q=>⟨#[],by rw[ak (aj q hn),q];simp⟩) (fun m hm=>?_) (fun b o q=>?_) I.bare
 .rcases aV.mp hb with rfl|hb
  .exact⟨e3,e1,e4,e5⟩
  .rw[cy.mp hb];exact⟨i3,i1,i4,i5⟩
 .exact k b o (fun z=>hb (z ▸ bK)) (fun z=>hb (z ▸ bZ _ bK)) q
 .exact k b o (fun z=>hb (z ▸ bK)) (fun z=>hb (z ▸ bZ _ bK)) q
 .exact k b o (fun z=>hb (z ▸ bK)) (fun z=>hb (z ▸ bZ _ bK)) q
 .obtain⟨o,es,ep,q,d,r'⟩:=hm;exact⟨o,es,ep,k _ _ e1.symm i1.symm q,d,r'⟩
 .by_cases hb:b=p
  .subst hb;rw[af] at q;cases q;exact⟨hl,its,r,_,ht,rfl,_,rfl,rfl⟩
  .rw[ak hb] at q;refine(I.bB b o q).mP (fun c u hc z=>k c u ?_ ?_ z) (fun c z=>by rw[ak (aj z hn)];exact z) fun c ys z=>by rw[ak (aj z hn)];exact z
   .rcases hc with rfl|hc
    .exact(zR _ _ q).1
    .exact(zR _ _ hc).1
   .rcases hc with rfl|hc
    .exact(zR _ _ q).2
    .exact(zR _ _ hc).2
theorem Bg{P:Program}{w:World}{K:PySem.W.Frag}{es:List Expr}{x1:Nat}{pos:Pos}(a e it:Addr)(kI:e≠it):
  qO P w K (.Tuple es x1 pos) (Pf K a) [e,it] e (fun i h=>(∃iK,IsEnum h e it (i:Int) iK)/\h.IsListIter it a i) where
 mem:=by simp
 obj:=fun i h st b hb=>by
  obtain⟨⟨iK,he⟩,⟨o,q,c,d⟩⟩:=st;rcases aV.mp hb with rfl|hb
  .exact⟨_,he,fun v z=>by
    have z':Data.fields _=Data.cell v:=z;cases z'⟩
  .rw[cy.mp hb];exact⟨o,q,fun v z=>by rw[d] at z;cases z⟩
 keep:=fun i h h' st k=>by
  obtain⟨⟨iK,he⟩,hi⟩:=st;exact⟨⟨iK,k e (by simp) _ he⟩,hi.at fun o q=>k it (by simp) o q⟩
 item:=by
  intro X hP hw hK hc i ae s σ H E I hf st hg;subst hP hw hK;obtain⟨xs,x,hq,hx⟩:=hg;obtain⟨its,rv,p,hz⟩:=I.list hq;obtain⟨u,hu,ru⟩:=rv.get hx;obtain⟨⟨iK,he⟩,hi⟩:=st;refine wpAny_pyNext_enum_item he hi p.isList (x:=u) (by simpa using hu) kI fun h' ho Fq ht hsz k=>?_;refine⟨_,rfl,wpAny_letOwnedTupleGo_enum ho fun h2 Pg lC=>?_⟩;have Jj:s.heap.objs.size≠e:=fQ (aQ he);have yb:h2.IsListIter it a (i+1):=Fq.extBut lC.extBut kI.symm;have fe:=hf e (by simp);have fi:=hf it (by simp);have I2:aD X ae σ (upd H s.heap.objs.size (.tup [.int i,x])) { s with heap:=h2,toks:=s.toks+1 }:=by
   refine I.zQ (its:=[.int i s.toks,u]) fe fi (fun b o h1 h3 q=>(lC.2 b h1).trans (k b o h1 h3 q)) ⟨_,Pg⟩ ?_ (aY _) (by show 2<=sizeLine;decide) (.cons ⟨_,rfl⟩ (.cons ru .nil)) ((lC.2 _ Jj).trans ht);obtain⟨o,q,_⟩:=yb;exact⟨o,q⟩
  refine⟨.ref s.heap.objs.size,_,I2,rfl,⟨_,x,rfl,I.bB.fresh (aY _),rfl,fun ys hy=>by rw[I.lz hy hq];exact hx⟩,⟨⟨u,Pg⟩,yb⟩,fun b hb=>?_⟩;have f0:=(hf b hb).1;rw[ak]
  .exact f0
  .rcases aV.mp hb with rfl|hb
   .exact Jj.symm
   .rw[cy.mp hb];obtain⟨o,q,_⟩:=hi;exact a8 (aQ q)
 done:=by
  intro X hP hw hK hc i ae s σ H E I hf st hg;subst hP hw hK;obtain⟨xs,hq,hx⟩:=hg;obtain⟨its,rv,p,hz⟩:=I.list hq;obtain⟨f0,f1,f2,f3,f4,f5⟩:=hf it (by simp);obtain⟨⟨iK,he⟩,hi⟩:=st;have hl:=rv.length;exact wpAny_pyNext_enum_end (I.ok.hd hc) he hi p.isList (by simp;lia) fun h' eb=>⟨rfl,I.turned (t':=s.toks) (fun b o hb e=>eb b o hb e) f0 f1 f3 f4 f5⟩
 self:=fun _ _ _ _ _ st h=>by
  obtain⟨⟨iK,he⟩,_⟩:=st;exact sZ he h
section
variable {X:Cx}
def Ph(K:PySem.W.Frag)(ta:TA):TI:=fun σ H R=>ta σ H fun vs H1=>∃a xs,vs=[.ref a]/\H1 a=some (.lst xs)/\R (Pf K a) H1
theorem Gk(hg:Gl X "enumerate")(hm:X.mg "enumerate"=none)(ha:PA X [a] ta)(hs:starEach [a] X.env=[(false,eval a X.env)]:=by rfl):
  PI X (.Tuple es x1 xN) (.Call (.Name "enumerate" p) [a] [] pos) (Ph X.K ta):=by
 intro ae s σ H R I h;refine Call_ (gH I hg hm (by decide +kernel:bootBuiltins "enumerate"=some (.type "enumerate")) (o7 (b_ (ha pos ae s σ H _ I h) fun us s1 ⟨vs,H1,I1,r1,q1⟩=>?_) hs rfl));obtain⟨l,xs,rfl,hl,q⟩:=q1;obtain⟨u1,rfl,KU⟩:=r1.one;obtain rfl:u1=Value.ref l:=KU;obtain⟨z,its,n,r,_,e⟩:=I1.xY hl;refine call_enumerate_1 e fun h' he hi hsz k=>?_;have kI:s1.heap.objs.size+1≠s1.heap.objs.size:=Nat.succ_ne_self _;refine sZ he ?_;have I2:aD X ae σ H1 { s1 with heap:=h' }:=I1.kept (t':=s1.toks) k;refine⟨s1.heap.objs.size+1,[s1.heap.objs.size+1,s1.heap.objs.size],_,_,H1,rfl,I2,Bg l _ _ kI,⟨⟨_,he⟩,hi⟩,fun b hb=>?_,q⟩;have kJ:s1.heap.objs.size<=b:=by
  rcases aV.mp hb with rfl|hb
  .exact pQ _
  .rw[cy.mp hb];exact aY _
 exact I1.vc kJ (I1.bB.fresh kJ)
theorem Dv{K:PySem.W.Frag}{a:Addr}{xs:List V}{g:TG}{tb:TS}{D:xz}{σ:St}{H:Hp}(Pv:Nat->St->Hp->Prop)(h0:Pv 0 σ H)(hl:∀i σ H,i<=xs.length->Pv i σ H->aM K H a xs)(hs:∀i x p σ H,xs[i]?=some x->Pv i σ H->H p=none->g (.ref p) σ (upd H p (.tup [.int i,x])) fun σ2 H2=>tb { D with nx:=Pv (i+1),ct:=Pv (i+1),bk:=D.nx } σ2 H2)(hd:∀σ H,Pv xs.length σ H->D.nx σ H):
  ∃W:Nat->Nat->St->Hp->Prop,(∃m,W 0 m σ H)/\∀i m σ H,W i m σ H->
   ((Pf K a).stop i H/\D.nx σ H)\/((Pf K a).go i H/\∃N:St->Hp->Prop,(∀σ' H',N σ' H'->∃m',m'<m/\W (i+1) m' σ' H')/\∀x H',(Pf K a).Nl i H x H'->g x σ H' fun σ2 H2=>tb { D with nx:=N,ct:=N,bk:=D.nx } σ2 H2):=by
 refine⟨fun i m σ H=>m=xs.length-i/\i<=xs.length/\Pv i σ H,⟨xs.length,by simp,cN _,h0⟩,?_⟩;rintro i m σ H ⟨rfl,hi,p⟩;have q:=hl i σ H hi p;by_cases eh:i<xs.length
 .refine .inr ⟨⟨xs,xs[i],q,by simp[eh]⟩,Pv (i+1),fun σ' H' p'=>⟨xs.length-(i+1),by lia,rfl,eh,p'⟩,fun x H' y=>?_⟩;obtain⟨pp,v,rfl,hn,rfl,hv⟩:=y;exact hs i v pp σ _ (hv xs q) p hn
 .have e:i=xs.length:=by lia
  subst e;exact .inl ⟨⟨xs,q,aY _⟩,hd σ H p⟩
end
section
variable {prog:Program} {w:World} {A:Around} {E:Value->Shared->Prop} {s:Shared}
theorem kM(B5:s.heap.IsTupleIter it t i)(ht:s.heap.IsTuple t xs)(hx:xs[i]?=some x)(q:∀h',h'.IsTupleIter it t (i+1)->Heap.SameBut it s.heap h'->Q x { s with heap:=h' }):wpAny (model prog w) A (Builtin.SmallTypes.nextOf (.ref it)) Q E s:=by
 obtain⟨o,h1,h2,h3⟩:=id B5;obtain⟨p,k1,_,n,k3⟩:=ht;unfold Builtin.SmallTypes.nextOf;refine au (o9 (name:=Str.ofString "__next__") B5.typeIs F.slot_tuple_iterator_next (i9 F.slot_tuple_iterator_next B5.typeIs F.entry_tuple_iterator_next ?_ (F.args_tuple_iterator_next_1 _)));change wpAny _ _ (field (.ref it) 0 >>= _) _ _ s;refine au (fz h1 h3 (x:=.ref t) rfl ?_);change wpAny _ _ (if (Value.ref t==Value.none)=true then _ else _) _ _ s;rw[am (by exact cm)];change wpAny _ _ (field (.ref it) 1 >>= _) _ _ s;refine au (fz h1 h3 (x:=.int i 0) rfl ?_);change wpAny _ _ (seqItems? (.ref t) >>= _) _ _ s;refine au (jb k1 k3 ?_);simp only[iZ,hx];refine au (wpAny_setField h1 h3 (by simp) (wpAny_pure ⟨x,rfl,wpAny_pure (q _ ?_ (Heap.SameBut.update ..))⟩));refine⟨_,xb _ h1 (Obj.isFreed_of_fields (Obj.data_mapFields h3 _)),(Obj.cls_mapFields ..).trans h2,?_⟩;rw[Obj.data_mapFields h3];simp[rawInt]
theorem nw(hh:A.handled=none)(B5:s.heap.IsTupleIter it t i)(ht:s.heap.IsTuple t xs)(hx:xs[i]?=none)(q:∀h' e,Heap.ExtBut it s.heap h'->(∃o,h'.get? e=some o/\o.cls=.type "StopIteration")->E (.ref e) { s with heap:=h' }):wpAny (model prog w) A (Builtin.SmallTypes.nextOf (.ref it)) Q E s:=by
 obtain⟨o,h1,h2,h3⟩:=id B5;obtain⟨p,k1,_,n,k3⟩:=ht;unfold Builtin.SmallTypes.nextOf;refine au (o9 (name:=Str.ofString "__next__") B5.typeIs F.slot_tuple_iterator_next (i9 F.slot_tuple_iterator_next B5.typeIs F.entry_tuple_iterator_next ?_ (F.args_tuple_iterator_next_1 _)));change wpAny _ _ (field (.ref it) 0 >>= _) _ _ s;refine au (fz h1 h3 (x:=.ref t) rfl ?_);change wpAny _ _ (if (Value.ref t==Value.none)=true then _ else _) _ _ s;rw[am (by exact cm)];change wpAny _ _ (field (.ref it) 1 >>= _) _ _ s;refine au (fz h1 h3 (x:=.int i 0) rfl ?_);change wpAny _ _ (seqItems? (.ref t) >>= _) _ _ s;refine au (jb k1 k3 ?_);simp only[iZ,hx];refine au (fS (au (wpAny_setField h1 h3 (by simp) ?stop)));case stop=>
  change wpAny _ _ (newExc (.type "StopIteration") [] >>= _) _ _ _;refine au ?_;simp only[newExc,newTuple];refine au (ln (au (m:=firstArgMember _ _) (wpAny_of_eq (a:=Value.none) (by simp only[firstArgMember];rfl) (ln ?_ (by size_fits)))) (by size_fits));simp only[raiseNew];refine au (wpAny_handled ?_);rw[show A.in1.handled=none from hh];exact au (wpAny_pure (wpAny_throw (q _ _ (fun b u hb z=>bQ _ (bQ _ ((w_ _ _ (gG hb)).trans z))) ⟨_,cE _ rfl,rfl⟩)))
theorem vE(hh:A.handled=none)(it t:Addr)(kI:t≠it)(xs:Array Value):Draws prog w A it [it,t] xs.size (fun i v=>xs[i]?=some v) (fun i h=>h.IsTupleIter it t i/\h.IsTuple t xs) where
 live:=fun _ _ st=>let ⟨o,ho,_⟩:=st.1;⟨o,ho⟩
 frame:=fun _ _ _ st hk=>⟨st.1.at fun o e=>hk it (by simp) o e,let ⟨o,e,r⟩:=st.2;⟨o,hk t (by simp) o e,r⟩⟩
 item:=fun i s Q E hi st q=>by
  refine kM st.1 st.2 (x:=xs[i]) (by simp[hi]) fun h' a b=>?_;obtain⟨o,e,r⟩:=st.2;exact q _ h' s.toks (by simp[hi]) ⟨a,o,(b.2 t kI).trans e,r⟩ b
 done:=fun s Q E st q=>nw hh st.1 st.2 (by simp) q
end
theorem Bh(t:Addr)(xs:Array Value):
  Meets (Builtin.«enumerate.__new__» ⟨[.type "enumerate",.ref t],[]⟩) (fun _ R s=>s.heap.IsTuple t xs/\
   R (.ok (.ret (.ref (s.heap.push { cls:=.type "tuple_iterator",data:=.fields #[.ref t,.int 0 0] }).objs.size)))
    { s with heap:=(s.heap.push { cls:=.type "tuple_iterator",data:=.fields #[.ref t,.int 0 0] }).push { cls:=.type "enumerate",data:=.fields #[.none,.bool false,.ref s.heap.objs.size,rawInt 0,.none,.none] } }):=
 .of_wp fun prog w A R s h=>by
  obtain⟨hp,g,d,tk,os⟩:=s;obtain⟨hT,h⟩:=h;have hs:=sub_enumerate
  wp_walk
  refine wpAny_stack_any fun st=>wpAny_pure ?_;split
  .rename_i c _ _ _ _ _;cases (c==Value.type "enumerate") <;> (wp_walk using pC hT;exact⟨_,rfl,h⟩)
  .wp_walk using pC hT
   exact⟨_,rfl,h⟩
theorem yn(ht:s.heap.IsTuple t xs)(h:∀h',IsEnum h' (s.heap.objs.size+1) s.heap.objs.size 0 .none->h'.IsTupleIter s.heap.objs.size t 0->(∀b o,s.heap.get? b=some o->h'.get? b=some o)->Q (.ref (s.heap.objs.size+1)) { s with heap:=h' }):
  wpAny (model prog w) A (call (.type "enumerate") [.ref t]) Q E s:=by
 refine callType_new F.called_enumerate (by decide) (F.typeCall_enumerate_1 _) (F.newCall_enumerate_1 _) (fun obj=>F.args_object_init_2 obj _) F.entry_enumerate_new (Bh t xs) ⟨ht,?_⟩;have hz:(s.heap.push { cls:=.type "tuple_iterator",data:=.fields #[.ref t,.int 0 0] }).objs.size=s.heap.objs.size+1:=iG ..;have he:IsEnum ((s.heap.push { cls:=.type "tuple_iterator",data:=.fields #[.ref t,.int 0 0] }).push
   { cls:=.type "enumerate",data:=.fields #[.none,.bool false,.ref s.heap.objs.size,rawInt 0,.none,.none] }) (s.heap.objs.size+1) s.heap.objs.size 0 .none:=by
  have q:=cE (s.heap.push { cls:=.type "tuple_iterator",data:=.fields #[.ref t,.int 0 0] }) (o:={ cls:=.type "enumerate",data:=.fields #[.none,.bool false,.ref s.heap.objs.size,rawInt 0,.none,.none] }) rfl;rw[hz] at q;exact q
 show _/\_;rw[hz];exact⟨⟨_,he,rfl⟩,h _ he ⟨_,bQ _ (cE _ rfl),rfl,rfl⟩ fun b o x=>bQ _ (bQ _ x)⟩
def KW(K:PySem.W.Frag)(a:Addr):It:=
 ⟨fun i H=>∃xs x,bV K H a xs/\xs[i]?=some x,fun i H x H'=>∃p v,x=.ref p/\H p=none/\H'=upd H p (.tup [.int i,v])/\∀xs,bV K H a xs->xs[i]?=some v,fun i H=>∃xs,bV K H a xs/\xs.length<=i⟩
theorem yo{P:Program}{w:World}{K:PySem.W.Frag}{es:List Expr}{x1:Nat}{pos:Pos}(a e it:Addr)(kI:e≠it)(hae:a≠e)(hai:a≠it):
  qO P w K (.Tuple es x1 pos) (KW K a) [e,it] e (fun i h=>(∃iK,IsEnum h e it (i:Int) iK)/\h.IsTupleIter it a i) where
 mem:=by simp
 obj:=fun i h st b hb=>by
  obtain⟨⟨iK,he⟩,⟨o,q,c,d⟩⟩:=st;rcases aV.mp hb with rfl|hb
  .exact⟨_,he,fun v z=>by
    have z':Data.fields _=Data.cell v:=z;cases z'⟩
  .rw[cy.mp hb];exact⟨o,q,fun v z=>by rw[d] at z;cases z⟩
 keep:=fun i h h' st k=>by
  obtain⟨⟨iK,he⟩,hi⟩:=st;exact⟨⟨iK,k e (by simp) _ he⟩,hi.at fun o q=>k it (by simp) o q⟩
 item:=by
  intro X hP hw hK hc i ae s σ H E I hf st hg;subst hP hw hK;obtain⟨xs,x,hq,hx⟩:=hg;obtain⟨its,rv,p,hz⟩:=I.tuple hq;obtain⟨u,hu,ru⟩:=rv.get hx;obtain⟨⟨iK,he⟩,hi⟩:=st;have eh:i<its.toArray.size:=by
   have:=(dw.mp hu).1;simpa using this
  have D:=vE (prog:=X.prog) (w:=X.w) (A:=X.A.in1) (I.ok.hd hc) it a hai its.toArray;refine wpAny_pyNext_enum_itemD D he ⟨hi,p⟩ eh kI (by simp[kI,hae.symm]) fun u' h' tk wH ho lA ht hsz k=>?_;have eu:u'=u:=by
   have h1:its.toArray[i]?=some u:=by simpa using hu
   rw[h1] at wH;exact(be wH).symm
  subst eu;refine⟨_,rfl,wpAny_letOwnedTupleGo_enum ho fun h2 Pg lC=>?_⟩;have Jj:s.heap.objs.size≠e:=fQ (aQ he);have yb:h2.IsTupleIter it a (i+1):=lA.1.at fun o q=>(lC.2 it kI.symm).trans q;have fe:=hf e (by simp);have fi:=hf it (by simp);have I2:aD X ae σ (upd H s.heap.objs.size (.tup [.int i,x])) { s with heap:=h2,toks:=tk+1 }:=by
   refine I.zQ (its:=[.int i tk,u']) fe fi (fun b o h1 h3 q=>(lC.2 b h1).trans (k b o h1 h3 q)) ⟨_,Pg⟩ ?_ (aY _) (by show 2<=sizeLine;decide) (.cons ⟨_,rfl⟩ (.cons ru .nil)) ((lC.2 _ Jj).trans ht);obtain⟨o,q,_⟩:=yb;exact⟨o,q⟩
  refine⟨.ref s.heap.objs.size,_,I2,rfl,⟨_,x,rfl,I.bB.fresh (aY _),rfl,fun ys hy=>by rw[I.eZ hy hq];exact hx⟩,⟨⟨u',Pg⟩,yb⟩,fun b hb=>?_⟩;have f0:=(hf b hb).1;rw[ak]
  .exact f0
  .rcases aV.mp hb with rfl|hb
   .exact Jj.symm
   .rw[cy.mp hb];obtain⟨o,q,_⟩:=hi;exact a8 (aQ q)
 done:=by
  intro X hP hw hK hc i ae s σ H E I hf st hg;subst hP hw hK;obtain⟨xs,hq,hx⟩:=hg;obtain⟨its,rv,p,hz⟩:=I.tuple hq;obtain⟨f0,f1,f2,f3,f4,f5⟩:=hf it (by simp);obtain⟨⟨iK,he⟩,hi⟩:=st;have hl:=rv.length;unfold pyNext;have hT:s.TypeIs (.ref e) "enumerate":=⟨_,he,rfl⟩
  refine au (tL (o9 (name:=Str.ofString "__next__") hT F.slot_enumerate_next (i9 F.slot_enumerate_next hT F.entry_enumerate_next ?_ (F.args_enumerate_next_1 _))));change wpAny _ _ (field (.ref e) 2 >>= _) _ _ _;refine au (fz he rfl (x:=.ref it) rfl (au (nw (I.ok.hd hc) hi p (by simp;lia) fun h' x eb F7=>?_)));obtain⟨o,ho,IZ⟩:=F7;exact au (wpAny_isInstance (T:="StopIteration") (b:=true) ⟨o,ho,IZ⟩ isSubtype_stop (wpAny_pure ⟨rfl,I.turned (t':=s.toks) (fun b o hb e=>eb b o hb e) f0 f1 f3 f4 f5⟩))
 self:=fun _ _ _ _ _ st h=>by
  obtain⟨⟨iK,he⟩,_⟩:=st;exact sZ he h
section
variable {X:Cx}
def KY(K:PySem.W.Frag)(ta:TA):TI:=fun σ H R=>ta σ H fun vs H1=>∃a xs,vs=[.ref a]/\bV K H1 a xs/\R (KW K a) H1
theorem vF(hg:Gl X "enumerate")(hm:X.mg "enumerate"=none)(ha:PA X [a] ta)(hs:starEach [a] X.env=[(false,eval a X.env)]:=by rfl):
  PI X (.Tuple es x1 xN) (.Call (.Name "enumerate" p) [a] [] pos) (KY X.K ta):=by
 intro ae s σ H R I h;refine Call_ (gH I hg hm (by decide +kernel:bootBuiltins "enumerate"=some (.type "enumerate")) (o7 (b_ (ha pos ae s σ H _ I h) fun us s1 ⟨vs,H1,I1,r1,q1⟩=>?_) hs rfl));obtain⟨l,xs,rfl,hl,q⟩:=q1;obtain⟨u1,rfl,KU⟩:=r1.one;obtain rfl:u1=Value.ref l:=KU;obtain⟨its,rv,pt,hz⟩:=I1.tuple hl;have eh:l<s1.heap.objs.size:=by obtain⟨o,e,_⟩:=pt;exact aQ e
 refine yn (show s1.heap.IsTuple l its.toArray from pt) fun h' he hi k=>?_;have kI:s1.heap.objs.size+1≠s1.heap.objs.size:=Nat.succ_ne_self _;refine sZ he ?_;have I2:aD X ae σ H1 { s1 with heap:=h' }:=I1.kept (t':=s1.toks) k;refine⟨s1.heap.objs.size+1,[s1.heap.objs.size+1,s1.heap.objs.size],_,_,H1,rfl,I2,yo l _ _ kI (a8 (et eh)) (a8 eh),⟨⟨_,he⟩,hi⟩,fun b hb=>?_,q⟩;have kJ:s1.heap.objs.size<=b:=by
  rcases aV.mp hb with rfl|hb
  .exact pQ _
  .rw[cy.mp hb];exact aY _
 exact I1.vc kJ (I1.bB.fresh kJ)
theorem qh{K:PySem.W.Frag}{a D:Addr}{xs:List V}{g:TG}{tt:TT}{te:TE}{cZ:Hp->Prop}{σB:St}{H0:Hp}(Pv:Nat->List V->St->Hp->Prop)(h0:Pv 0 [] σB H0)(hl:∀i ys σ H,i<=xs.length->Pv i ys σ H->bV K H a xs)(hs:∀i x p ys σ H (Kt:V->St->Hp->Prop) (Kf:St->Hp->Prop),xs[i]?=some x->Pv i ys σ H->H p=none->
   (∀v σ2 H4,H4 D=some (.lst ys)->ys.length<sizeLine->Pv (i+1) (ys++[v]) σ2 (upd H4 D (.lst (ys++[v])))->Kt v σ2 H4)->(∀σ2 H3,Pv (i+1) ys σ2 H3->Kf σ2 H3)->
   g (.ref p) σ (upd H p (.tup [.int i,x])) fun σ2 H2=>tt σ2 H2 fun b H3=>if b=true then te σ2 H3 fun v H4=>Kt v σ2 H4 else Kf σ2 H3)(hd:∀ys σ H,Pv xs.length ys σ H->cZ H):fq (KW K a) g tt te D cZ σB H0:=by
 refine⟨fun i m σ H=>m=xs.length-i/\i<=xs.length/\∃ys,Pv i ys σ H,⟨xs.length,by simp,cN _,[],h0⟩,?_⟩;rintro i m σ H ⟨rfl,hi,ys,p⟩;have q:=hl i ys σ H hi p;by_cases eh:i<xs.length
 .refine .inr ⟨⟨xs,xs[i],q,by simp[eh]⟩,?_⟩;rintro x H' ⟨pp,v,rfl,hn,rfl,hv⟩;exact hs i v pp ys σ _ (fun v σ2 H4=>∃ys,H4 D=some (.lst ys)/\ys.length<sizeLine/\∃m',m'<xs.length-i/\m'=xs.length-(i+1)/\i+1<=xs.length/\∃qW,Pv (i+1) qW σ2 (upd H4 D (.lst (ys++[v]))))
   (fun σ2 H3=>∃m',m'<xs.length-i/\m'=xs.length-(i+1)/\i+1<=xs.length/\∃qW,Pv (i+1) qW σ2 H3) (hv xs q) p hn
   (fun v σ2 H4 z1 z2 z3=>⟨ys,z1,z2,_,by lia,rfl,eh,_,z3⟩) (fun σ2 H3 z=>⟨_,by lia,rfl,eh,_,z⟩)
 .have e:i=xs.length:=by lia
  subst e;exact .inl ⟨⟨xs,q,aY _⟩,hd ys σ H p⟩
end
section
variable {X:Cx} {tg:Expr}
end
section
variable {prog:Program} {w:World} {A:Around} {E:Value->Shared->Prop} {s:Shared} {R:Result->Shared->Prop} {l d Ia:Addr}
end
section
variable {prog:Program} {w:World} {A:Around} {E:Value->Shared->Prop} {s:Shared} {l:Addr}
end
section
variable {X:Cx}
theorem rV(hc:X.calm=true):eX X (.builtin "all") (fun xs H Q=>∃ (p:Addr) (bs:List Bool),xs=[.ref p]/\aM X.K H p (bs.map V.bl)/\Q (.bl (bs.all id)) H):=by
 intro ae s σ H xs us Q I r h;obtain⟨p,bs,rfl,hp,q⟩:=h;obtain⟨u1,rfl,r1⟩:=r.one;obtain rfl:u1=Value.ref p:=r1;obtain⟨its,rv,pl,hz⟩:=I.list hp;have Di:its=bs.map Value.bool:=by
  have go:∀ (bs:List Bool) (its:List Value),aP (bs.map V.bl) its->its=bs.map Value.bool:=by
   intro bs;induction bs with
   |nil=>intro its r;cases r;rfl
   |cons b bs ih=>
    intro its r;cases r with
    |cons r rr=>
     obtain rfl:=(show _=Value.bool b from r)
     rw[ih _ rr];rfl
  exact go bs its rv
 subst Di;obtain⟨ob,Ur,_⟩:=id pl.isList;have eh:p<s.heap.objs.size:=aQ Ur;refine call_all_walk (sY pl.isList ⟨s.heap.objs.size,_,_,_,_,_,fun i=>bs.getD i true,rfl,Walks.list (show X.A.in1.handled=none from I.ok.hd hc) _ p (a8 eh) _,⟨⟨_,cE _ rfl,rfl,rfl⟩,pl.isList.push _⟩,fun i v s1 Q' E' hv hq=>?_,fun h' tk k=>?_⟩)
 .have xK:(bs.map Value.bool)[i]?=some v:=by simpa using hv
  rw[cw] at xK;cases eb:bs[i]? with
  |none=>rw[eb] at xK;cases xK
  |some b=>
   rw[eb] at xK;obtain rfl:Value.bool b=v:=be xK;have:bs.getD i true=b:=by rw[aT,eb];rfl
   have FR:Q' b s1:=by rw[<-this];exact hq
   exact wpAny_pure FR
 .have keep:∀b o,s.heap.get? b=some o->h'.get? b=some o:=fun b o e=>k b o (by simpa using a8 (aQ e)) (bQ _ e);refine⟨.bl (bs.all id),H,I.kept (t':=tk) keep,?_,q⟩;show Value.bool _=Value.bool _;congr 1;have go:∀ (bs:List Bool),((List.range bs.length).all fun i=>bs.getD i true)=bs.all id:=by
   intro bs;induction bs with
   |nil=>rfl
   |cons b bs ih=>
    rw[dG,wW,jd,List.all_map,jd,<-ih];rfl
  rw[<-go bs];simp
end
structure cQ(P:Program)(w:World)(K:PySem.W.Frag)(mg:Str->Option Value)(base:Heap)(CX:wF)(k:Nat)(x:Str)(ps:List Str)(sp:Sp):Prop where
 ex:∃f fd,mg x=some (.ref f)/\PySem.W.keepIn K (.ref f)=true/\iI K fd ps []/\bz P w K mg base CX k f fd ps sp
theorem aB(C:cQ X.prog X.w X.K X.mg X.base CX k x ps sp)(hr:b9 k X.A)(hx:jo CX X E)(ha:PA X (e::es) t)(hg:Gl X x:=by rfl)(xR:(x==("__debug__":Str))=false:=by decide)(he:starEach (e::es) X.env=(false,eval e X.env)::starEach es X.env:=by rfl)(wG:(backTo pos (starEach es X.env)).any (·.1)=false:=by rfl):
  PE X (.Call (.Name x p) (e::es) [] pos) (pX sp [] E t):=by
 obtain⟨f,fd,a,b,c,d⟩:=C.ex;exact FQ d hr hg a b c .nil hx ha xR he wG
theorem ai(h:H D=none):aF H (upd H D o):=fun b u e=>by rw[ak (aj e h)];exact e
def aL(p:Addr)(H H':Hp):Prop:=∀b o,H b=some o->b≠p->H' b=some o
theorem aL.refl:aL p H H:=fun _ _ h _=>h
theorem aL.trans(a:aL p H H1)(b:aL p H1 H2):aL p H H2:=fun c o h n=>b c o (a c o h n) n
theorem aL.upd:aL p H (upd H p o):=fun b u h n=>by rw[ak n];exact h
theorem aL.of(s:aF H H'):aL p H H':=fun b o h _=>s b o h
theorem aL.free(s:aL p H H')(hp:H' p≠none)(h:H' q=none):H q=none:=by
 cases z:H q with
 |none=>rfl
 |some o=>
  by_cases e:q=p
  .subst e;exact absurd h hp
  .rw[s q o z e] at h;cases h
theorem iu(h:j<n):B1 n (j:Int)=some j:=by
 unfold B1;rw[if_pos (by lia),if_pos (by lia)];simp
theorem Bi(h:as.length=n):(as++[t]).getD j 0=if j=n then t else as.getD j 0:=by
 rw[aT,aT];by_cases hj:j=n
 .subst hj;subst h;rw[if_pos rfl,k8 (aY _),pK];rfl
 .rw[am hj];by_cases eh:j<as.length
  .rw[fP eh]
  .rw[k8 (by lia),lj (by simp;lia),lj (by lia)]
def Holds(H:Hp)(as:List Addr)(n:Nat)(o:Nat->HO):Prop:=as.length=n/\∀j,j<n->H (as.getD j 0)=some (o j)
theorem Holds.nil:Holds H [] 0 o:=⟨rfl,fun j hj=>absurd hj (by lia)⟩
theorem Holds.snoc(h:Holds H as n o)(ht:H t=some (o n)):Holds H (as++[t]) (n+1) o:=by
 refine⟨by rw[cV,h.1];rfl,fun j hj=>?_⟩;rw[Bi h.1];by_cases e:j=n
 .rw[if_pos e,e];exact ht
 .rw[am e];exact h.2 j (by lia)
theorem Holds.mono(h:Holds H as n o)(e:∀j,j<n->H (as.getD j 0)=some (o j)->H' (as.getD j 0)=some (o j)):Holds H' as n o:=⟨h.1,fun j hj=>e j hj (h.2 j hj)⟩
end L2
namespace PyProof.Rows
open PySem
def gv:Bool->Keyed->Array Keyed->Nat->Nat->Nat->StateT SortSt Sem (Option Nat):=sortPriv% PySem.Builtin.gallop
def qi:Array Keyed->Array Keyed->StateT SortSt Sem (Array Keyed):=sortPriv% PySem.Builtin.mergeLo
def qj:Array Keyed->Array Keyed->StateT SortSt Sem (Array Keyed):=sortPriv% PySem.Builtin.mergeHi
def gN:Nat->StateT SortSt Sem Unit:=sortPriv% PySem.Builtin.setMinGallop
def vG(prog:Program)(w:World)(A:Around)(s:Shared)(κ:SortKind)(a₀:Array Keyed):Prop:=
 ∀x y,x∈a₀.toList->y∈a₀.toList->∀ (Q:Bool->Shared->Prop) (E:Value->Shared->Prop),(∀b,Q b s)->wpAny (model prog w) A (keyLt' κ x.1 y.1) Q E s
structure SQ(κ:SortKind)(a₀:Array Keyed)(pd:Array (Nat×Nat×Nat))(st:SortSt):Prop where
 perm:(arrOf st).Perm a₀
 kind:kindOf st=κ
 failed:failedOf st=none
 pend:pendingOf st=pd
section
variable {prog:Program} {w:World} {A:Around} {E:Value->Shared->Prop} {s:Shared} {κ:SortKind} {a₀:Array Keyed} {pd:Array (Nat×Nat×Nat)}
theorem SQ.size{st:SortSt}(h:SQ κ a₀ pd st):(arrOf st).size=a₀.size:=h.perm.size_eq
theorem SQ.setArr{st:SortSt}(h:SQ κ a₀ pd st){xs:Array Keyed}(hp:xs.Perm (arrOf st)):SQ κ a₀ pd (setArr st xs):=⟨hp.trans h.perm,h.kind,h.failed,h.pend⟩
theorem SQ.at{st:SortSt}(h:SQ κ a₀ pd st){i:Nat}(hi:i<a₀.size):∃p,(arrOf st)[i]?=some p/\p∈a₀.toList:=by
 have Fq:i<(arrOf st).size:=by rw[h.size];exact hi
 exact⟨(arrOf st)[i],cX _ i Fq,(k_.mp h.perm).mem_iff.mp (by simp)⟩
theorem qk{st:SortSt}{x y:Keyed}{Q:Option Bool->SortSt->Prop}(hC:vG prog w A s κ a₀)(hk:kindOf st=κ)(hx:x∈a₀.toList)(hy:y∈a₀.toList)(h:∀b,Q (some b) st):wpS (model prog w) A E s (lt' x y) Q st:=by
 rw[lt'_eq];refine aG (fV ?_);rw[hk];refine aG (kA (tL (hC x y hx hy _ _ fun b=>⟨rfl,?_⟩)));exact aN (h b)
theorem bp{st:SortSt}{arr:Array Keyed}{i:Nat}{p:Keyed}{Q:Keyed->SortSt->Prop}(hi:arr[i]?=some p)(h:Q p st):wpS (model prog w) A E s (elem' arr i) Q st:=by
 rw[elem'_eq,hi];exact aN h
theorem eI{st:SortSt}{i j:Nat}{Q:Option Bool->SortSt->Prop}(hC:vG prog w A s κ a₀)(hB:SQ κ a₀ pd st)(hi:i<a₀.size)(hj:j<a₀.size)(h:∀b,Q (some b) st):wpS (model prog w) A E s (ltAt' i j) Q st:=by
 obtain⟨p,e1,m1⟩:=hB.at hi;obtain⟨q,e2,m2⟩:=hB.at hj;rw[ltAt'_eq];refine aG (fV ?_);exact aG (bp e1 (aG (bp e2 (qk hC hB.kind m1 m2 h))))
theorem fK{st:SortSt}{i j:Nat}{Q:Unit->SortSt->Prop}(hB:SQ κ a₀ pd st)(h:∀aZ,SQ κ a₀ pd aZ->Q () aZ):wpS (model prog w) A E s (reverseSlice' i j) Q st:=by
 rw[reverseSlice'_eq];exact fv (h _ (hB.setArr (mirror_perm _ _ _ _)))
theorem Dw{st:SortSt}{i j:Nat}{Q:Unit->SortSt->Prop}(hB:SQ κ a₀ pd st)(h:∀aZ,SQ κ a₀ pd aZ->Q () aZ):wpS (model prog w) A E s (moveDown' i j) Q st:=by
 rw[moveDown'_eq];exact fv (h _ (hB.setArr (bubble_perm _ _ _)))
theorem Gm{st:SortSt}{lo n ok:Nat}{Q:Bool->SortSt->Prop}(hC:vG prog w A s κ a₀)(hn:lo+n<=a₀.size)(hB:SQ κ a₀ pd st)(h:∀aZ,SQ κ a₀ pd aZ->Q true aZ):wpS (model prog w) A E s (binarySort' lo n ok) Q st:=by
 rw[binarySort'_eq];refine aG (dz (eW (I:=fun _ c aZ=>c=(none,())/\SQ κ a₀ pd aZ) (Q:=fun c aZ=>c=(none,())/\SQ κ a₀ pd aZ) ?_ (fun c aZ hh=>hh) ⟨rfl,hB⟩) ?_)
 .rintro k c aZ hk1 UG ⟨rfl,UH⟩;dsimp only;refine aG (dz (eW (I:=fun _ c KZ=>(∃l r,c=(none,l,r)/\r<=k)/\SQ κ a₀ pd KZ) (Q:=fun c KZ=>(∃l r,c=(none,l,r)/\r<=k)/\SQ κ a₀ pd KZ) ?_ (fun c aZ hh=>hh) ⟨⟨_,_,rfl,aY _⟩,UH⟩) ?_)
  .rintro x c xE _ _ ⟨⟨l,r,rfl,hr⟩,qY⟩;dsimp only;by_cases zS:l>=r
   .rw[if_pos zS];exact aN ⟨⟨_,_,rfl,hr⟩,qY⟩
   .rw[am zS];refine aG (eI hC qY (by lia) (by lia) fun b=>?_);cases b
    .exact aN ⟨⟨_,_,rfl,hr⟩,qY⟩
    .exact aN ⟨⟨_,_,rfl,by lia⟩,qY⟩
  .rintro c xE ⟨⟨l,r,rfl,hr⟩,qY⟩;dsimp only;exact aG (Dw qY fun xG ou=>aN ⟨rfl,ou⟩)
 .rintro c aZ ⟨rfl,UH⟩;exact aN (h aZ UH)
end
theorem yp(left:Bool)(key:Keyed)(arr:Array Keyed)(base n kN:Nat):gv left key arr base n kN=(do
 let ui (i:Nat):StateT SortSt Sem (Option Bool):=do
  let x <- elem' arr (base+i)
  if left then lt' x key else return (<-lt' key x).map (!·)
 let mut lastofs:=0
 let mut ofs:=1
 let mut lo:=0
 let mut hi:=0
 let some right <- ui kN|return none
 if right then
  let ql:=n-kN
  for _ in [0:n] do
   if ofs>=ql then break
   let some more <- ui (kN+ofs)|return none
   if !more then break
   lastofs:=ofs
   ofs:=2*ofs+1
  lo:=kN+lastofs+1
  hi:=kN+min ofs ql
 else
  let ql:=kN+1
  for _ in [0:n] do
   if ofs>=ql then break
   let some Dx <- ui (kN-ofs)|return none
   if Dx then break
   lastofs:=ofs
   ofs:=2*ofs+1
  lo:=kN+1-min ofs ql
  hi:=kN-lastofs
 for _ in [0:n] do
  if lo>=hi then break
  let m:=lo+(hi-lo) / 2
  let some more <- ui m|return none
  if more then lo:=m+1 else hi:=m
 return some hi):=rfl
section
variable {prog:Program} {w:World} {A:Around} {E:Value->Shared->Prop} {s:Shared} {κ:SortKind} {a₀:Array Keyed} {pd:Array (Nat×Nat×Nat)}
theorem fZ{st:SortSt}{left:Bool}{key:Keyed}{arr:Array Keyed}{j:Nat}{Q:Option Bool->SortSt->Prop}(hC:vG prog w A s κ a₀)(hk:kindOf st=κ)(qP:key∈a₀.toList)(qm:∀x∈arr.toList,x∈a₀.toList)(hj:j<arr.size)(h:∀b,Q (some b) st):
  wpS (model prog w) A E s (do
  let x <- elem' arr j
  if left then lt' x key else return (<-lt' key x).map (!·)) Q st:=by
 have hm:arr[j]∈a₀.toList:=qm _ (by simp);refine aG (bp (cX arr j hj) ?_);cases left
 .rw[am (by decide)];exact aG (qk hC hk qP hm fun b=>aN (h (!b)))
 .rw[if_pos rfl];exact qk hC hk hm qP h
theorem fc{st:SortSt}{left:Bool}{key:Keyed}{arr:Array Keyed}{base n kN:Nat}{Q:Option Nat->SortSt->Prop}(hC:vG prog w A s κ a₀)(hk:kindOf st=κ)(qP:key∈a₀.toList)(qm:∀x∈arr.toList,x∈a₀.toList)(hn:base+n<=arr.size)(hh:kN<n)(h:∀k,k<=n->Q (some k) st):wpS (model prog w) A E s (gv left key arr base n kN) Q st:=by
 rw[yp];refine aG (fZ hC hk qP qm (by lia) fun right=>?_);cases right
 .dsimp only;rw[am (by decide)];refine aG (dz (eW (I:=fun _ c aZ=>(∃l o,c=(none,l,o))/\st=aZ) (Q:=fun c aZ=>(∃l o,c=(none,l,o))/\st=aZ) ?_ (fun c aZ hh=>hh) ⟨⟨_,_,rfl⟩,rfl⟩) ?_)
  .rintro x c aZ _ _ ⟨⟨l,o,rfl⟩,rfl⟩;dsimp only;by_cases zS:o>=kN+1
   .rw[if_pos zS];exact aN ⟨⟨_,_,rfl⟩,rfl⟩
   .rw[am zS];refine aG (fZ hC hk qP qm (by lia) fun Dx=>?_);cases Dx
    .exact aN ⟨⟨_,_,rfl⟩,rfl⟩
    .exact aN ⟨⟨_,_,rfl⟩,rfl⟩
  .rintro c aZ ⟨⟨l,o,rfl⟩,rfl⟩;dsimp only;refine aG (dz (eW (I:=fun _ c aZ=>(∃l u,c=(none,l,u)/\u<=n)/\st=aZ) (Q:=fun c aZ=>(∃l u,c=(none,l,u)/\u<=n)/\st=aZ) ?_ (fun c aZ hh=>hh) ⟨⟨_,_,rfl,by lia⟩,rfl⟩) ?_)
   .rintro x c aZ _ _ ⟨⟨l,u,rfl,hu⟩,rfl⟩;dsimp only;by_cases zS:l>=u
    .rw[if_pos zS];exact aN ⟨⟨_,_,rfl,hu⟩,rfl⟩
    .rw[am zS];refine aG (fZ hC hk qP qm (by lia) fun more=>?_);cases more
     .exact aN ⟨⟨_,_,rfl,by lia⟩,rfl⟩
     .exact aN ⟨⟨_,_,rfl,hu⟩,rfl⟩
   .rintro c aZ ⟨⟨l,u,rfl,hu⟩,rfl⟩;exact aN (h u hu)
 .dsimp only;rw[if_pos rfl];refine aG (dz (eW (I:=fun _ c aZ=>(∃l o,c=(none,l,o))/\st=aZ) (Q:=fun c aZ=>(∃l o,c=(none,l,o))/\st=aZ) ?_ (fun c aZ hh=>hh) ⟨⟨_,_,rfl⟩,rfl⟩) ?_)
  .rintro x c aZ _ _ ⟨⟨l,o,rfl⟩,rfl⟩;dsimp only;by_cases zS:o>=n-kN
   .rw[if_pos zS];exact aN ⟨⟨_,_,rfl⟩,rfl⟩
   .rw[am zS];refine aG (fZ hC hk qP qm (by lia) fun more=>?_);cases more
    .exact aN ⟨⟨_,_,rfl⟩,rfl⟩
    .exact aN ⟨⟨_,_,rfl⟩,rfl⟩
  .rintro c aZ ⟨⟨l,o,rfl⟩,rfl⟩;dsimp only;refine aG (dz (eW (I:=fun _ c aZ=>(∃l u,c=(none,l,u)/\u<=n)/\st=aZ) (Q:=fun c aZ=>(∃l u,c=(none,l,u)/\u<=n)/\st=aZ) ?_ (fun c aZ hh=>hh) ⟨⟨_,_,rfl,by lia⟩,rfl⟩) ?_)
   .rintro x c aZ _ _ ⟨⟨l,u,rfl,hu⟩,rfl⟩;dsimp only;by_cases zS:l>=u
    .rw[if_pos zS];exact aN ⟨⟨_,_,rfl,hu⟩,rfl⟩
    .rw[am zS];refine aG (fZ hC hk qP qm (by lia) fun more=>?_);cases more
     .exact aN ⟨⟨_,_,rfl,by lia⟩,rfl⟩
     .exact aN ⟨⟨_,_,rfl,hu⟩,rfl⟩
   .rintro c aZ ⟨⟨l,u,rfl,hu⟩,rfl⟩;exact aN (h u hu)
end
structure SM(κ:SortKind)(ar:Array Keyed)(pd:Array (Nat×Nat×Nat))(st:SortSt):Prop where
 arr:arrOf st=ar
 kind:kindOf st=κ
 failed:failedOf st=none
 pend:pendingOf st=pd
abbrev ow:=Option (Array Keyed)
abbrev rW:=StateT SortSt Sem
def vH{τ:Type}(c:Bool)(d:Prop)[Decidable d](r:Array Keyed)(t:τ):rW (ForInStep (ow×τ)):=if c then pure (.done (some r,t)) else if d then pure (.done (none,t)) else pure (.yield (none,t))
def Yh{α β γ:Type}(N:Nat)(f:Nat->ow×α×β×γ×Nat×Nat->rW (ForInStep (ow×α×β×γ×Nat×Nat)))(g:ow×α×β×γ×Nat×Nat×Nat->rW (ForInStep (ow×α×β×γ×Nat×Nat×Nat)))(s:ow×α×β×γ×Nat):rW (ForInStep (ow×α×β×γ×Nat)):=do
 let t <- forIn [0:N] ((none,s.2.1,s.2.2.1,s.2.2.2.1,0,0):ow×α×β×γ×Nat×Nat) fun _ t=>f s.2.2.2.2 t
 match t.1 with
 |some r=>pure (.done (some r,t.2.1,t.2.2.1,t.2.2.2.1,s.2.2.2.2))
 |none=>do
  liftM (rule "list.sort.gallop")
  let u <- forIn [0:N] ((none,t.2.1,t.2.2.1,t.2.2.2.1,s.2.2.2.2+1,t.2.2.2.2.1,t.2.2.2.2.2):ow×α×β×γ×Nat×Nat×Nat) fun _ u=>g u
  match u.1 with
  |some r=>pure (.done (some r,u.2.1,u.2.2.1,u.2.2.2.1,u.2.2.2.2.1))
  |none=>do
   gN (u.2.2.2.2.1+1)
   pure (.yield (none,u.2.1,u.2.2.1,u.2.2.2.1,u.2.2.2.2.1+1))
def Sa{α β γ:Type}(N:Nat)(f:Nat->ow×α×β×γ×Nat×Nat->rW (ForInStep (ow×α×β×γ×Nat×Nat)))(g:ow×α×β×γ×Nat×Nat×Nat->rW (ForInStep (ow×α×β×γ×Nat×Nat×Nat)))(x:α)(y:β)(z:γ):rW (Array Keyed):=do
 let st <- get
 let s <- forIn [0:N] ((none,x,y,z,gallopOf st):ow×α×β×γ×Nat) fun _ s=>Yh N f g s
 match s.1 with
 |some r=>pure r
 |none=>liftM (unsupported "internal:list.sort.merge-bound")
section
variable {prog:Program} {w:World} {A:Around} {E:Value->Shared->Prop} {s:Shared} {κ:SortKind} {a₀:Array Keyed} {pd:Array (Nat×Nat×Nat)} {ar:Array Keyed} {F:Array Keyed->Prop}
def GP{τ:Type}(κ:SortKind)(ar:Array Keyed)(pd:Array (Nat×Nat×Nat))(F:Array Keyed->Prop)(D J:τ->Prop)(r:ForInStep (ow×τ))(st:SortSt):Prop:=SM κ ar pd st/\
 ((∃x t,r=.done (some x,t)/\F x)\/(∃t,r=.done (none,t)/\D t)\/∃t,r=.yield (none,t)/\J t)
theorem eJ{τ:Type}{D J:τ->Prop}{st:SortSt}{x:Array Keyed}{t:τ}(m:SM κ ar pd st)(h:F x):wpS (model prog w) A E s (pure (.done (some x,t))) (GP κ ar pd F D J) st:=aN ⟨m,.inl ⟨_,_,rfl,h⟩⟩
theorem hU{τ:Type}{D J:τ->Prop}{c:Bool}{d:Prop}[Decidable d]{r:Array Keyed}{t:τ}{st:SortSt}(m:SM κ ar pd st)(h1:c=true->F r)(h2:c=false->D t/\J t):wpS (model prog w) A E s (vH c d r t) (GP κ ar pd F D J) st:=by
 unfold vH;cases c
 .rw[am cm];split
  .exact aN ⟨m,.inr (.inl ⟨_,rfl,(h2 rfl).1⟩)⟩
  .exact aN ⟨m,.inr (.inr ⟨_,rfl,(h2 rfl).2⟩)⟩
 .rw[if_pos rfl];exact eJ m (h1 rfl)
theorem nA{τ:Type}{D:τ->Prop}{J:Nat->τ->Prop}{N:Nat}{f:ow×τ->rW (ForInStep (ow×τ))}{t:τ}{st:SortSt}{Q:ow×τ->SortSt->Prop}(m:SM κ ar pd st)(hJ:J 0 t)(up:∀t,J N t->D t)(b:∀t st,SM κ ar pd st->∀i,J i t->wpS (model prog w) A E s (f (none,t)) (GP κ ar pd F D (J (i+1))) st)(h1:∀x t aZ,SM κ ar pd aZ->F x->Q (some x,t) aZ)(h2:∀t aZ,SM κ ar pd aZ->D t->Q (none,t) aZ):wpS (model prog w) A E s (forIn [0:N] ((none,t):ow×τ) fun _ c=>f c) Q st:=by
 refine eW (I:=fun i c aZ=>c.1=none/\SM κ ar pd aZ/\J i c.2) ?_ ?_ ⟨rfl,m,hJ⟩
 .rintro i ⟨_,t⟩ aZ _ _ ⟨rfl,m',j⟩;refine dz (b t aZ m' i j) ?_;rintro r xE ⟨m2,⟨x,t,rfl,h⟩|⟨t,rfl,h⟩|⟨t,rfl,h⟩⟩
  .exact h1 _ _ _ m2 h
  .exact h2 _ _ m2 h
  .exact⟨rfl,m2,h⟩
 .rintro⟨_,t⟩ aZ ⟨rfl,m',j⟩;rw[Nat.max_eq_right (cN _)] at j;exact h2 _ _ m' (up _ j)
theorem zU{α β γ:Type}{N:Nat}{f:Nat->ow×α×β×γ×Nat×Nat->rW (ForInStep (ow×α×β×γ×Nat×Nat))}{g:ow×α×β×γ×Nat×Nat×Nat->rW (ForInStep (ow×α×β×γ×Nat×Nat×Nat))}{x:α}{y:β}{z:γ}{J:Nat->α->β->γ->Prop}{st:SortSt}{Q:Array Keyed->SortSt->Prop}(m:SM κ ar pd st)(h0:J 0 x y z)(dn:∀i k x y z,J (i+k) x y z->J i x y z)(no:∀x y z,¬ J N x y z)(N1:1<=N)(hf:∀mg n k x y z p st,SM κ ar pd st->J (n+k) x y z->wpS (model prog w) A E s (f mg (none,x,y,z,p)) (GP κ ar pd F (fun t=>J (n+1) t.1 t.2.1 t.2.2.1) fun t=>J (n+(k+1)) t.1 t.2.1 t.2.2.1) st)(hg:∀n x y z p st,SM κ ar pd st->J n x y z->wpS (model prog w) A E s (g (none,x,y,z,p)) (GP κ ar pd F (fun t=>J n t.1 t.2.1 t.2.2.1) fun t=>J n t.1 t.2.1 t.2.2.1) st)(h:∀x aZ,F x->SM κ ar pd aZ->Q x aZ):wpS (model prog w) A E s (Sa N f g x y z) Q st:=by
 unfold Sa;refine aG (fV ?_);refine aG (nA (F:=F) (D:=fun _=>False) (J:=fun n (t:α×β×γ×Nat)=>J n t.1 t.2.1 t.2.2.1) m h0 (fun t h=>no _ _ _ h) ?_ (fun x t st m hx=>aN (h _ _ hx m)) fun t st m j=>j.elim);intro t st m i j;unfold Yh;refine aG (nA (F:=F) (D:=fun t=>J (i+1) t.1 t.2.1 t.2.2.1) (J:=fun n (t:α×β×γ×Nat×Nat)=>J (i+n) t.1 t.2.1 t.2.2.1) m j (fun t h=>dn _ (N-1) _ _ _ (by rw[show i+1+(N-1)=i+N by lia];exact h)) (fun t st m n j=>hf _ _ _ _ _ _ _ _ m j) (fun x t st m hx=>eJ m hx) ?_);intro t st m j;refine aG (kA (fS ⟨rfl,?_⟩));refine aG (nA (F:=F) (D:=fun t=>J (i+1) t.1 t.2.1 t.2.2.1) (J:=fun n (t:α×β×γ×Nat×Nat×Nat)=>J (i+1) t.1 t.2.1 t.2.2.1) m j (fun _ h=>h) (fun t st m n j=>hg _ _ _ _ _ _ m j) (fun x t st m hx=>eJ m hx) ?_);intro t st m j;refine aG (fv ?_);exact aN ⟨⟨m.arr,m.kind,m.failed,m.pend⟩,.inr (.inr ⟨_,rfl,j⟩)⟩
end
abbrev jt(a b out:Array Keyed)(ia ib:Nat):=out++a.extract ia a.size++b.extract ib b.size
abbrev uj(a b out:Array Keyed)(ia ib:Nat):=out++b.extract ib b.size++a.extract ia a.size
abbrev Jk ρ:=ow×Array Keyed×Nat×Nat×ρ
def Yi(a b:Array Keyed)(mg:Nat)(t:Jk (Nat×Nat)):rW (ForInStep (Jk (Nat×Nat))):=do
 let x <- elem' b t.2.2.2.1
 let y <- elem' a t.2.2.1
 let some w <- lt' x y|pure (.done (some (jt a b t.2.1 t.2.2.1 t.2.2.2.1),t.2.1,t.2.2.1,t.2.2.2.1,t.2.2.2.2.1,t.2.2.2.2.2))
 if w then do
  let x <- elem' b t.2.2.2.1
  vH (t.2.2.2.1+1==b.size) (t.2.2.2.2.2+1>=mg) (jt a b (t.2.1.push x) t.2.2.1 (t.2.2.2.1+1)) (t.2.1.push x,t.2.2.1,t.2.2.2.1+1,0,t.2.2.2.2.2+1)
 else do
  let x <- elem' a t.2.2.1
  vH (t.2.2.1+1+1==a.size) (t.2.2.2.2.1+1>=mg) (uj a b (t.2.1.push x) (t.2.2.1+1) t.2.2.2.1) (t.2.1.push x,t.2.2.1+1,t.2.2.2.1,t.2.2.2.2.1+1,0)
def UI(a b out:Array Keyed)(ia ib mg ac bc:Nat):rW (ForInStep (Jk (Nat×Nat×Nat))):=do
 let x <- elem' a ia
 vH (ia+1+1==a.size) ((ac<7&&bc<7)=true) (uj a b (out.push x) (ia+1) ib) (out.push x,ia+1,ib,mg,ac,bc)
def UJ(a b out:Array Keyed)(ia ib mg ac bc:Nat):rW (ForInStep (Jk (Nat×Nat×Nat))):=do
 let x <- elem' b ib
 if ib+1==b.size then pure (.done (some (jt a b (out.push x) ia (ib+1)),out.push x,ia,ib+1,mg,ac,bc))
 else do
  let y <- elem' a ia
  let some k <- gv true y b (ib+1) (b.size-(ib+1)) 0|pure (.done (some (jt a b (out.push x) ia (ib+1)),out.push x,ia,ib+1,mg,ac,bc))
  if k > 0 then
   if ib+1+k==b.size then pure (.done (some (jt a b (out.push x++b.extract (ib+1) (ib+1+k)) ia (ib+1+k)),out.push x++b.extract (ib+1) (ib+1+k),ia,ib+1+k,mg,ac,k))
   else UI a b (out.push x++b.extract (ib+1) (ib+1+k)) ia (ib+1+k) mg ac k
  else UI a b (out.push x) ia (ib+1) mg ac k
def UK(a b out:Array Keyed)(ia ib mg ac bc:Nat):rW (ForInStep (Jk (Nat×Nat×Nat))):=do
 gN mg
 let y <- elem' b ib
 let some k <- gv false y a ia (a.size-ia) 0|pure (.done (some (jt a b out ia ib),out,ia,ib,mg,ac,bc))
 if k > 0 then
  if ia+k+1==a.size then pure (.done (some (uj a b (out++a.extract ia (ia+k)) (ia+k) ib),out++a.extract ia (ia+k),ia+k,ib,mg,k,bc))
  else if ia+k==a.size then pure (.done (some (jt a b (out++a.extract ia (ia+k)) (ia+k) ib),out++a.extract ia (ia+k),ia+k,ib,mg,k,bc))
  else UJ a b (out++a.extract ia (ia+k)) (ia+k) ib mg k bc
 else UJ a b out ia ib mg k bc
def Yj(a b:Array Keyed)(t:Jk (Nat×Nat×Nat)):rW (ForInStep (Jk (Nat×Nat×Nat))):=
 if t.2.2.2.2.1 > 1 then UK a b t.2.1 t.2.2.1 t.2.2.2.1 (t.2.2.2.2.1-1) t.2.2.2.2.2.1 t.2.2.2.2.2.2 else UK a b t.2.1 t.2.2.1 t.2.2.2.1 t.2.2.2.2.1 t.2.2.2.2.2.1 t.2.2.2.2.2.2
theorem vI(a b:Array Keyed):qi a b=(do
 liftM (rule "list.sort.merge-lo")
 let x <- elem' b 0
 if 1==b.size then pure (jt a b #[x] 0 1) else if 0+1==a.size then pure (uj a b #[x] 0 1) else Sa (a.size+b.size) (Yi a b) (Yj a b) #[x] 0 1):=by kernel_rfl
def PI(a b out:Array Keyed)(ia ib:Nat):Prop:=out.toList.Perm (a.toList.take ia++b.toList.take ib)
theorem vJ{l:List Keyed}{i:Nat}(h:i<l.length):l.take (i+1)=l.take i++[l[i]]:=by rw[gk,bh h];rfl
theorem PI.rX{a b out:Array Keyed}{ia ib:Nat}(h:PI a b out ia ib)(hi:ia<a.size):PI a b (out.push a[ia]) (ia+1) ib:=by
 unfold PI at h |-;rw[mz,vJ (by simpa using hi),cG];refine(h.append_right _).trans ?_;rw[cG];refine ll _ ?_;have:a.toList[ia]'(by simpa using hi)=a[ia]:=by simp
 rw[this];exact iU
theorem PI.rY{a b out:Array Keyed}{ia ib:Nat}(h:PI a b out ia ib)(hi:ib<b.size):PI a b (out.push b[ib]) ia (ib+1):=by
 unfold PI at h |-;rw[mz,vJ (by simpa using hi),<-cG];have:b.toList[ib]'(by simpa using hi)=b[ib]:=by simp
 rw[this];exact h.append_right _
theorem dM{a:Array Keyed}{i j:Nat}:(a.extract i j).toList=(a.toList.drop i).take (j-i):=by
 rw[w4,List.extract_eq_take_drop]
theorem PI.Bj{a b out:Array Keyed}{ia ib:Nat}(h:PI a b out ia ib)(k:Nat):PI a b (out++a.extract ia (ia+k)) (ia+k) ib:=by
 unfold PI at h |-;rw[d8,dM,Nat.add_sub_cancel_left,List.take_add,cG];refine(h.append_right _).trans ?_;rw[cG];exact ll _ iU
theorem PI.Bk{a b out:Array Keyed}{ia ib:Nat}(h:PI a b out ia ib)(k:Nat):PI a b (out++b.extract ib (ib+k)) ia (ib+k):=by
 unfold PI at h |-;rw[d8,dM,Nat.add_sub_cancel_left,List.take_add,<-cG];exact h.append_right _
theorem PI.done{a b out:Array Keyed}{ia ib:Nat}(h:PI a b out ia ib):(out++a.extract ia a.size++b.extract ib b.size).Perm (a++b):=by
 rw[k_];unfold PI at h;rw[d8,d8,d8,dM,dM];have e1:(a.toList.drop ia).take (a.size-ia)=a.toList.drop ia:=mj (by simp);have e2:(b.toList.drop ib).take (b.size-ib)=b.toList.drop ib:=mj (by simp);rw[e1,e2];refine((h.append_right _).append_right _).trans ?_;conv=>rhs;rw[<-nW ia a.toList,<-nW ib b.toList]
 rw[cG,cG,cG];refine ll _ ?_;rw[<-cG,<-cG];exact wX _ iU
theorem PI.last{a b out:Array Keyed}{ia ib:Nat}(h:PI a b out ia ib):(out++b.extract ib b.size++a.extract ia a.size).Perm (a++b):=by
 refine Array.Perm.trans ?_ h.done;rw[k_];rw[d8,d8,d8,d8,cG,cG];exact ll _ iU
section
variable {prog:Program} {w:World} {A:Around} {E:Value->Shared->Prop} {s:Shared} {κ:SortKind} {a₀:Array Keyed} {pd:Array (Nat×Nat×Nat)} {ar:Array Keyed} {a b out:Array Keyed} {ia ib mg ac bc n:Nat} {st:SortSt}
def JL(a b:Array Keyed)(n:Nat)(out:Array Keyed)(ia ib:Nat):Prop:=PI a b out ia ib/\ia+1<a.size/\ib<b.size/\n<=ia+ib
abbrev GL{ρ:Type}(κ:SortKind)(ar:Array Keyed)(pd:Array (Nat×Nat×Nat))(a b:Array Keyed)(n m:Nat):ForInStep (Jk ρ)->SortSt->Prop:=GP κ ar pd (fun x=>x.Perm (a++b)) (fun t=>JL a b n t.1 t.2.1 t.2.2.1) fun t=>JL a b m t.1 t.2.1 t.2.2.1
theorem zV(hB:SM κ ar pd st)(h:JL a b n out ia ib):wpS (model prog w) A E s (UI a b out ia ib mg ac bc) (GL κ ar pd a b n n) st:=by
 obtain⟨p,la,lb,li⟩:=h;refine aG (bp (cX a ia (by lia)) ?_);have p:=p.rX (show ia<a.size by lia);refine hU hB (fun _=>p.last) fun f=>?_;have g:=mE f;have j:JL a b n (out.push a[ia]) (ia+1) ib:=⟨p,by lia,lb,by lia⟩
 exact⟨j,j⟩
theorem zW(hC:vG prog w A s κ a₀)(ha:∀x∈a.toList,x∈a₀.toList)(hb:∀x∈b.toList,x∈a₀.toList)(hB:SM κ ar pd st)(h:JL a b n out ia ib):wpS (model prog w) A E s (UJ a b out ia ib mg ac bc) (GL κ ar pd a b n n) st:=by
 obtain⟨p,la,lb,li⟩:=h;refine aG (bp (cX b ib lb) ?_);have p:=p.rY lb;split
 .exact eJ hB p.done
 next f=>
 have g:ib+1≠b.size:=by simpa using f
 refine aG (bp (cX a ia (by lia)) ?_);refine aG (fc hC hB.kind (ha _ (by simp)) hb (by lia) (by lia) fun k hk=>?_);dsimp only;split
 .split
  .exact eJ hB (p.Bk k).done
  next f=>
  have g:ib+1+k≠b.size:=by simpa using f
  exact zV hB ⟨p.Bk k,la,by lia,by lia⟩
 .exact zV hB ⟨p,la,by lia,by lia⟩
theorem Gn(hC:vG prog w A s κ a₀)(ha:∀x∈a.toList,x∈a₀.toList)(hb:∀x∈b.toList,x∈a₀.toList)(hB:SM κ ar pd st)(h:JL a b n out ia ib):wpS (model prog w) A E s (UK a b out ia ib mg ac bc) (GL κ ar pd a b n n) st:=by
 obtain⟨p,la,lb,li⟩:=h;refine aG (fv ?_);refine aG (bp (cX b ib lb) ?_);have qY:SM κ ar pd (SortSt.mk' (kindOf st) (arrOf st) (pendingOf st) mg (failedOf st)):=⟨hB.arr,hB.kind,hB.failed,hB.pend⟩
 refine aG (fc hC qY.kind (hb _ (by simp)) ha (by lia) (by lia) fun k hk=>?_);dsimp only;split
 .split
  .exact eJ qY (p.Bj k).last
  next f=>
  split
  .exact eJ qY (p.Bj k).done
  next f'=>
  have g:ia+k+1≠a.size:=by simpa using f
  have g':ia+k≠a.size:=by simpa using f'
  exact zW hC ha hb qY ⟨p.Bj k,by lia,lb,by lia⟩
 .exact zW hC ha hb qY ⟨p,la,lb,li⟩
theorem Go{k:Nat}(hC:vG prog w A s κ a₀)(ha:∀x∈a.toList,x∈a₀.toList)(hb:∀x∈b.toList,x∈a₀.toList)(hB:SM κ ar pd st)(h:JL a b (n+k) out ia ib){q:Nat×Nat}:wpS (model prog w) A E s (Yi a b mg (none,out,ia,ib,q)) (GL κ ar pd a b (n+1) (n+(k+1))) st:=by
 obtain⟨p,la,lb,li⟩:=h;refine aG (bp (cX b ib lb) (aG (bp (cX a ia (by lia)) (aG (qk hC hB.kind (hb _ (by simp)) (ha _ (by simp)) fun w=>?_)))));cases w
 .refine aG (bp (cX a ia (by lia)) ?_);have p:=p.rX (show ia<a.size by lia);refine hU hB (fun _=>p.last) fun f=>?_;have g:=mE f;exact⟨⟨p,by dsimp only;lia,lb,by dsimp only;lia⟩,p,by dsimp only;lia,lb,by dsimp only;lia⟩
 .refine aG (bp (cX b ib lb) ?_);have p:=p.rY lb;refine hU hB (fun _=>p.done) fun f=>?_;have g:=mE f;exact⟨⟨p,la,by dsimp only at g |-;lia,by dsimp only;lia⟩,p,la,by dsimp only at g |-;lia,by dsimp only;lia⟩
theorem vK{Q:Array Keyed->SortSt->Prop}(hC:vG prog w A s κ a₀)(hB:SM κ ar pd st)(ha:∀x∈a.toList,x∈a₀.toList)(hb:∀x∈b.toList,x∈a₀.toList)(a1:1<=a.size)(b1:1<=b.size)(h:∀out aZ,out.Perm (a++b)->SM κ ar pd aZ->Q out aZ):wpS (model prog w) A E s (qi a b) Q st:=by
 rw[vI];refine aG (kA (fS ⟨rfl,?_⟩));refine aG (bp (cX b 0 (by lia)) ?_);have p0:PI a b #[b[0]] 0 1:=by
  have:PI a b #[] 0 0:=by unfold PI;simp
  exact this.rY (by lia)
 split
 .exact aN (h _ _ p0.done hB)
 next f=>
 split
 .exact aN (h _ _ p0.last hB)
 next f'=>
 have g:1≠b.size:=by simpa using f
 have g':0+1≠a.size:=by simpa using f'
 refine zU (J:=JL a b) hB ⟨p0,by lia,by lia,by lia⟩ (fun i k x y z h=>⟨h.1,h.2.1,h.2.2.1,by have:=h.2.2.2;lia⟩) (fun x y z h=>by have:=h.2;lia) (by lia) (fun mg n k x y z p st m j=>Go hC ha hb m j) (fun n x y z p st m j=>?_) h;unfold Yj;split <;> exact Gn hC ha hb m j
end
abbrev ju(a b out:Array Keyed)(na nb:Nat):=a.extract 0 na++b.extract 0 nb++out.reverse
abbrev oP(a b out:Array Keyed)(na nb:Nat):=b.extract 0 nb++a.extract 0 na++out.reverse
abbrev Jl ρ:=ow×Nat×Nat×Array Keyed×ρ
def Yk(a b:Array Keyed)(mg:Nat)(t:Jl (Nat×Nat)):rW (ForInStep (Jl (Nat×Nat))):=do
 let x <- elem' b (t.2.2.1-1)
 let y <- elem' a (t.2.1-1)
 let some w <- lt' x y|pure (.done (some (ju a b t.2.2.2.1 t.2.1 t.2.2.1),t.2.1,t.2.2.1,t.2.2.2.1,t.2.2.2.2.1,t.2.2.2.2.2))
 if w then do
  let x <- elem' a (t.2.1-1)
  vH (t.2.1-1==0) (t.2.2.2.2.1+1>=mg) (ju a b (t.2.2.2.1.push x) (t.2.1-1) t.2.2.1) (t.2.1-1,t.2.2.1,t.2.2.2.1.push x,t.2.2.2.2.1+1,0)
 else do
  let x <- elem' b (t.2.2.1-1)
  vH (t.2.2.1-1==1) (t.2.2.2.2.2+1>=mg) (oP a b (t.2.2.2.1.push x) t.2.1 (t.2.2.1-1)) (t.2.1,t.2.2.1-1,t.2.2.2.1.push x,0,t.2.2.2.2.2+1)
def UL(a b:Array Keyed)(na nb:Nat)(out:Array Keyed)(mg ac bc:Nat):rW (ForInStep (Jl (Nat×Nat×Nat))):=do
 let x <- elem' a (na-1)
 vH (na-1==0) ((ac<7&&bc<7)=true) (ju a b (out.push x) (na-1) nb) (na-1,nb,out.push x,mg,ac,bc)
def UM(a b:Array Keyed)(na nb:Nat)(out:Array Keyed)(mg ac bc:Nat):rW (ForInStep (Jl (Nat×Nat×Nat))):=do
 let x <- elem' b (nb-1)
 if nb-1==1 then pure (.done (some (oP a b (out.push x) na (nb-1)),na,nb-1,out.push x,mg,ac,bc))
 else do
  let y <- elem' a (na-1)
  let some k <- gv true y b 0 (nb-1) (nb-1-1)|pure (.done (some (ju a b (out.push x) na (nb-1)),na,nb-1,out.push x,mg,ac,bc))
  if nb-1-k > 0 then
   if k==1 then pure (.done (some (oP a b (out.push x++(b.extract k (nb-1)).reverse) na k),na,k,out.push x++(b.extract k (nb-1)).reverse,mg,ac,nb-1-k))
   else if k==0 then pure (.done (some (ju a b (out.push x++(b.extract k (nb-1)).reverse) na k),na,k,out.push x++(b.extract k (nb-1)).reverse,mg,ac,nb-1-k))
   else UL a b na k (out.push x++(b.extract k (nb-1)).reverse) mg ac (nb-1-k)
  else UL a b na (nb-1) (out.push x) mg ac (nb-1-k)
def UO(a b:Array Keyed)(na nb:Nat)(out:Array Keyed)(mg ac bc:Nat):rW (ForInStep (Jl (Nat×Nat×Nat))):=do
 gN mg
 let y <- elem' b (nb-1)
 let some k <- gv false y a 0 na (na-1)|pure (.done (some (ju a b out na nb),na,nb,out,mg,ac,bc))
 if na-k > 0 then
  if k==0 then pure (.done (some (ju a b (out++(a.extract k na).reverse) k nb),k,nb,out++(a.extract k na).reverse,mg,na-k,bc))
  else UM a b k nb (out++(a.extract k na).reverse) mg (na-k) bc
 else UM a b na nb out mg (na-k) bc
def Yl(a b:Array Keyed)(t:Jl (Nat×Nat×Nat)):rW (ForInStep (Jl (Nat×Nat×Nat))):=
 if t.2.2.2.2.1 > 1 then UO a b t.2.1 t.2.2.1 t.2.2.2.1 (t.2.2.2.2.1-1) t.2.2.2.2.2.1 t.2.2.2.2.2.2 else UO a b t.2.1 t.2.2.1 t.2.2.2.1 t.2.2.2.2.1 t.2.2.2.2.2.1 t.2.2.2.2.2.2
theorem vL(a b:Array Keyed):qj a b=(do
 liftM (rule "list.sort.merge-hi")
 let x <- elem' a (a.size-1)
 if a.size-1==0 then pure (ju a b #[x] (a.size-1) b.size) else if b.size==1 then pure (oP a b #[x] (a.size-1) b.size) else Sa (a.size+b.size) (Yk a b) (Yl a b) (a.size-1) b.size #[x]):=by kernel_rfl
def PH(a b out:Array Keyed)(na nb:Nat):Prop:=out.toList.Perm (a.toList.drop na++b.toList.drop nb)
theorem PH.rX{a b out:Array Keyed}{na nb:Nat}(h:PH a b out na nb)(h1:1<=na)(hi:na-1<a.size):PH a b (out.push a[na-1]) (na-1) nb:=by
 unfold PH at h |-;have e:a.toList.drop (na-1)=a[na-1]::a.toList.drop na:=by
  have:=rh (l:=a.toList) (i:=na-1) (by simpa using hi);rw[this,Nat.sub_add_cancel h1];simp
 rw[mz,e];refine(h.append_right _).trans ?_;exact iU
theorem PH.rY{a b out:Array Keyed}{na nb:Nat}(h:PH a b out na nb)(h1:1<=nb)(hi:nb-1<b.size):PH a b (out.push b[nb-1]) na (nb-1):=by
 unfold PH at h |-;have e:b.toList.drop (nb-1)=b[nb-1]::b.toList.drop nb:=by
  have:=rh (l:=b.toList) (i:=nb-1) (by simpa using hi);rw[this,Nat.sub_add_cancel h1];simp
 rw[mz,e];refine(h.append_right _).trans ?_;rw[cG];exact ll _ iU
theorem lO{l:List Keyed}{i j:Nat}(h:i<=j):l.drop i=(l.drop i).take (j-i)++l.drop j:=by
 have:=(nW (j-i) (l.drop i)).symm;rw[List.drop_drop,show i+(j-i)=j by lia] at this;exact this
theorem PH.Bj{a b out:Array Keyed}{na nb:Nat}(h:PH a b out na nb){k:Nat}(hk:k<=na):PH a b (out++(a.extract k na).reverse) k nb:=by
 unfold PH at h |-;rw[d8,wZ,dM];conv=>rhs;rw[lO hk]
 refine((h.append_left _).trans ?_ |> fun z=>(List.Perm.trans iU ((sV _).append_right _)).trans z);rw[cG]
theorem PH.Bk{a b out:Array Keyed}{na nb:Nat}(h:PH a b out na nb){k:Nat}(hk:k<=nb):PH a b (out++(b.extract k nb).reverse) na k:=by
 unfold PH at h |-;rw[d8,wZ,dM];conv=>rhs;rw[lO hk]
 refine(h.append_right _).trans ?_;rw[cG];refine ll _ ?_;exact iU.trans ((sV _).append_right _)
theorem Pi{a:Array Keyed}{j:Nat}:(a.extract 0 j).toList=a.toList.take j:=by rw[dM,xv,Nat.sub_zero]
theorem PH.done{a b out:Array Keyed}{na nb:Nat}(h:PH a b out na nb):(a.extract 0 na++b.extract 0 nb++out.reverse).Perm (a++b):=by
 rw[k_];unfold PH at h;rw[d8,d8,d8,wZ,Pi,Pi];conv=>rhs;rw[<-nW na a.toList,<-nW nb b.toList]
 refine(ll _ ((sV _).trans h)).trans ?_;rw[cG,cG];refine ll _ ?_;rw[<-cG,<-cG];exact wX _ iU
theorem PH.first{a b out:Array Keyed}{na nb:Nat}(h:PH a b out na nb):(b.extract 0 nb++a.extract 0 na++out.reverse).Perm (a++b):=by
 refine Array.Perm.trans ?_ h.done;rw[k_];rw[d8,d8,d8,d8];exact wX _ iU
section
variable {prog:Program} {w:World} {A:Around} {E:Value->Shared->Prop} {s:Shared} {κ:SortKind} {a₀:Array Keyed} {pd:Array (Nat×Nat×Nat)} {ar:Array Keyed} {a b out:Array Keyed} {na nb mg ac bc n:Nat} {st:SortSt}
def JH(a b:Array Keyed)(n na nb:Nat)(out:Array Keyed):Prop:=PH a b out na nb/\1<=na/\2<=nb/\na<=a.size/\nb<=b.size/\n+na+nb<=a.size+b.size
abbrev GH{ρ:Type}(κ:SortKind)(ar:Array Keyed)(pd:Array (Nat×Nat×Nat))(a b:Array Keyed)(n m:Nat):ForInStep (Jl ρ)->SortSt->Prop:=GP κ ar pd (fun x=>x.Perm (a++b)) (fun t=>JH a b n t.1 t.2.1 t.2.2.1) fun t=>JH a b m t.1 t.2.1 t.2.2.1
theorem zX(hB:SM κ ar pd st)(p:PH a b out na nb)(la:1<=na)(lb:2<=nb)(ma:na<=a.size)(mb:nb<=b.size)(li:n+na+nb<=a.size+b.size+1):wpS (model prog w) A E s (UL a b na nb out mg ac bc) (GH κ ar pd a b n n) st:=by
 refine aG (bp (cX a (na-1) (by lia)) ?_);have p:=p.rX la (show na-1<a.size by lia);refine hU hB (fun _=>p.done) fun f=>?_;have g:=mE f;have j:JH a b n (na-1) nb (out.push a[na-1]):=⟨p,by lia,lb,by lia,mb,by lia⟩
 exact⟨j,j⟩
theorem zY(hC:vG prog w A s κ a₀)(ha:∀x∈a.toList,x∈a₀.toList)(hb:∀x∈b.toList,x∈a₀.toList)(hB:SM κ ar pd st)(h:JH a b n na nb out):wpS (model prog w) A E s (UM a b na nb out mg ac bc) (GH κ ar pd a b n n) st:=by
 obtain⟨p,la,lb,ma,mb,li⟩:=h;refine aG (bp (cX b (nb-1) (by lia)) ?_);have p:=p.rY (show 1<=nb by lia) (show nb-1<b.size by lia);split
 .exact eJ hB p.first
 next f=>
 have g:nb-1≠1:=by simpa using f
 refine aG (bp (cX a (na-1) (by lia)) ?_);refine aG (fc hC hB.kind (ha _ (by simp)) hb (by lia) (by lia) fun k hk=>?_);dsimp only;split
 .split
  .exact eJ hB (p.Bk hk).first
  next f=>
  split
  .exact eJ hB (p.Bk hk).done
  next f'=>
  have g:k≠1:=by simpa using f
  have g':k≠0:=by simpa using f'
  exact zX hB (p.Bk hk) la (by lia) ma (by lia) (by lia)
 .exact zX hB p la (by lia) ma (by lia) (by lia)
theorem Gp(hC:vG prog w A s κ a₀)(ha:∀x∈a.toList,x∈a₀.toList)(hb:∀x∈b.toList,x∈a₀.toList)(hB:SM κ ar pd st)(h:JH a b n na nb out):wpS (model prog w) A E s (UO a b na nb out mg ac bc) (GH κ ar pd a b n n) st:=by
 obtain⟨p,la,lb,ma,mb,li⟩:=h;refine aG (fv ?_);refine aG (bp (cX b (nb-1) (by lia)) ?_);have qY:SM κ ar pd (SortSt.mk' (kindOf st) (arrOf st) (pendingOf st) mg (failedOf st)):=⟨hB.arr,hB.kind,hB.failed,hB.pend⟩
 refine aG (fc hC qY.kind (hb _ (by simp)) ha (by lia) (by lia) fun k hk=>?_);dsimp only;split
 .split
  .exact eJ qY (p.Bj hk).done
  next f=>
  have g:k≠0:=by simpa using f
  exact zY hC ha hb qY ⟨p.Bj hk,by lia,lb,by lia,mb,by lia⟩
 .exact zY hC ha hb qY ⟨p,la,lb,ma,mb,li⟩
theorem Gq{k:Nat}(hC:vG prog w A s κ a₀)(ha:∀x∈a.toList,x∈a₀.toList)(hb:∀x∈b.toList,x∈a₀.toList)(hB:SM κ ar pd st)(h:JH a b (n+k) na nb out){q:Nat×Nat}:wpS (model prog w) A E s (Yk a b mg (none,na,nb,out,q)) (GH κ ar pd a b (n+1) (n+(k+1))) st:=by
 obtain⟨p,la,lb,ma,mb,li⟩:=h;refine aG (bp (cX b (nb-1) (by lia)) (aG (bp (cX a (na-1) (by lia)) (aG (qk hC hB.kind (hb _ (by simp)) (ha _ (by simp)) fun w=>?_)))));cases w
 .refine aG (bp (cX b (nb-1) (by lia)) ?_);have p:=p.rY (show 1<=nb by lia) (show nb-1<b.size by lia);refine hU hB (fun _=>p.first) fun f=>?_;have g:nb-1≠1:=mE f;have j:JH a b (n+(k+1)) na (nb-1) (out.push b[nb-1]):=⟨p,la,by lia,ma,by lia,by lia⟩
  exact⟨⟨p,la,j.2.2.1,ma,j.2.2.2.2.1,by have:=j.2.2.2.2.2;dsimp only;lia⟩,j⟩
 .refine aG (bp (cX a (na-1) (by lia)) ?_);have p:=p.rX la (show na-1<a.size by lia);refine hU hB (fun _=>p.done) fun f=>?_;have g:na-1≠0:=mE f;have j:JH a b (n+(k+1)) (na-1) nb (out.push a[na-1]):=⟨p,by lia,lb,by lia,mb,by lia⟩
  exact⟨⟨p,j.2.1,lb,j.2.2.2.1,mb,by have:=j.2.2.2.2.2;dsimp only;lia⟩,j⟩
theorem vM{Q:Array Keyed->SortSt->Prop}(hC:vG prog w A s κ a₀)(hB:SM κ ar pd st)(ha:∀x∈a.toList,x∈a₀.toList)(hb:∀x∈b.toList,x∈a₀.toList)(a1:1<=a.size)(b1:1<=b.size)(h:∀out aZ,out.Perm (a++b)->SM κ ar pd aZ->Q out aZ):wpS (model prog w) A E s (qj a b) Q st:=by
 rw[vL];refine aG (kA (fS ⟨rfl,?_⟩));refine aG (bp (cX a (a.size-1) (by lia)) ?_);have p0:PH a b #[a[a.size-1]] (a.size-1) b.size:=by
  have:PH a b #[] a.size b.size:=by unfold PH;simp
  exact this.rX a1 (by lia)
 split
 .exact aN (h _ _ p0.done hB)
 next f=>
 split
 .exact aN (h _ _ p0.first hB)
 next f'=>
 have g:a.size-1≠0:=by simpa using f
 have g':b.size≠1:=by simpa using f'
 refine zU (J:=JH a b) hB ⟨p0,by lia,by lia,by lia,by lia,by lia⟩ (fun i k x y z h=>⟨h.1,h.2.1,h.2.2.1,h.2.2.2.1,h.2.2.2.2.1,by have:=h.2.2.2.2.2;lia⟩) (fun x y z h=>by have:=h.2;lia) (by lia) (fun mg n k x y z p st m j=>Gq hC ha hb m j) (fun n x y z p st m j=>?_) h;unfold Yl;split <;> exact Gp hC ha hb m j
end
section
variable {prog:Program} {w:World} {A:Around} {E:Value->Shared->Prop} {s:Shared} {κ:SortKind} {a₀:Array Keyed} {pd:Array (Nat×Nat×Nat)}
theorem Bm{st:SortSt}{lo nB:Nat}{Q:Option Nat->SortSt->Prop}(hC:vG prog w A s κ a₀)(hn:lo+nB<=a₀.size)(h1:1<=nB)(hB:SQ κ a₀ pd st)(h:∀n aZ,SQ κ a₀ pd aZ->1<=n->n<=nB->Q (some n) aZ):wpS (model prog w) A E s (countRun' lo nB) Q st:=by
 rw[countRun'_eq];refine aG (dz (eW (I:=fun i c aZ=>SQ κ a₀ pd aZ/\∃m,c=(none,m)/\m=i) (Q:=fun c aZ=>SQ κ a₀ pd aZ/\∃m,c=(none,m)/\1<=m/\m<=nB) ?_ ?_ ⟨hB,_,rfl,rfl⟩) ?_)
 .rintro i c Nq Nr yb ⟨Dy,m,rfl,rfl⟩;dsimp only;refine aG (eI hC Dy (by lia) (by lia) fun b1=>?_);cases b1
  .exact aN ⟨Dy,_,rfl,rfl⟩
  .exact aN ⟨Dy,_,rfl,by lia,by lia⟩
 .rintro c Nq ⟨Dy,m,rfl,rfl⟩;exact⟨Dy,_,rfl,by lia,by lia⟩
 .rintro c Nq ⟨Dy,n,rfl,n1,n2⟩;dsimp only;by_cases e1:(n==nB)=true
  .rw[if_pos e1];exact aN (h n Nq Dy n1 n2)
  rw[am e1];have g1:¬ (n=nB):=by simpa using e1
  by_cases e2:n > 1
  .rw[if_pos e2];refine aG (eI hC Dy (by lia) (by lia) fun b2=>?_);cases b2
   .dsimp only;rw[am (by decide)];refine aG (fK Dy fun xE qY=>?_);refine aG (kA (fS ⟨rfl,?_⟩));refine aG (dz (eW (I:=fun i c aZ=>SQ κ a₀ pd aZ/\∃m q,c=(none,m,q)/\m=i) (Q:=fun c aZ=>SQ κ a₀ pd aZ/\∃m q,c=(none,m,q)/\1<=m/\m<=nB) ?_ ?_ ⟨qY,_,_,rfl,rfl⟩) ?_)
    .rintro i c xG Nr yb ⟨ou,m,q,rfl,rfl⟩;dsimp only;refine aG (eI hC ou (by lia) (by lia) fun b3=>?_);cases b3
     .dsimp only;rw[am (by decide)];refine aG (eI hC ou (by lia) (by lia) fun b4=>?_);cases b4
      .exact aN ⟨ou,_,_,rfl,rfl⟩
      .exact aN ⟨ou,_,_,rfl,by lia,by lia⟩
     .dsimp only;rw[if_pos rfl];split
      .exact aG (fK ou fun qK K0=>aN ⟨K0,_,_,rfl,rfl⟩)
      .exact aN ⟨ou,_,_,rfl,rfl⟩
    .rintro c xG ⟨ou,m,q,rfl,rfl⟩;exact⟨ou,_,_,rfl,by lia,by lia⟩
    .rintro c xG ⟨ou,m,q,rfl,m1,m2⟩;dsimp only;split
     .refine aG (fK ou fun qK K0=>?_);refine aG (fK K0 fun u4 K1=>?_);refine aG (dz (eW (I:=fun i c aZ=>SQ κ a₀ pd aZ/\∃m,c=(none,m)/\m=i) (Q:=fun c aZ=>SQ κ a₀ pd aZ/\∃m,c=(none,m)/\1<=m/\m<=nB) ?_ ?_ ⟨K1,_,rfl,rfl⟩) ?_)
      .rintro i c yq Nr yb ⟨kO,m,rfl,rfl⟩;dsimp only;refine aG (eI hC kO (by lia) (by lia) fun b6=>?_);cases b6
       .exact aN ⟨kO,_,rfl,rfl⟩
       .exact aN ⟨kO,_,rfl,by lia,by lia⟩
      .rintro c yq ⟨kO,m,rfl,rfl⟩;exact⟨kO,_,rfl,by lia,by lia⟩
      .rintro c yq ⟨kO,m,rfl,h1,h2⟩;exact aN (h m yq kO h1 h2)
     .refine aG (fK ou fun u4 K1=>?_);refine aG (dz (eW (I:=fun i c aZ=>SQ κ a₀ pd aZ/\∃m,c=(none,m)/\m=i) (Q:=fun c aZ=>SQ κ a₀ pd aZ/\∃m,c=(none,m)/\1<=m/\m<=nB) ?_ ?_ ⟨K1,_,rfl,rfl⟩) ?_)
      .rintro i c yq Nr yb ⟨kO,m,rfl,rfl⟩;dsimp only;refine aG (eI hC kO (by lia) (by lia) fun b6=>?_);cases b6
       .exact aN ⟨kO,_,rfl,rfl⟩
       .exact aN ⟨kO,_,rfl,by lia,by lia⟩
      .rintro c yq ⟨kO,m,rfl,rfl⟩;exact⟨kO,_,rfl,by lia,by lia⟩
      .rintro c yq ⟨kO,m,rfl,h1,h2⟩;exact aN (h m yq kO h1 h2)
   .exact aN (h n Nq Dy n1 n2)
  .rw[am e2];have qY:=Dy;refine aG (kA (fS ⟨rfl,?_⟩));refine aG (dz (eW (I:=fun i c aZ=>SQ κ a₀ pd aZ/\∃m q,c=(none,m,q)/\m=i) (Q:=fun c aZ=>SQ κ a₀ pd aZ/\∃m q,c=(none,m,q)/\1<=m/\m<=nB) ?_ ?_ ⟨qY,_,_,rfl,rfl⟩) ?_)
   .rintro i c xG Nr yb ⟨ou,m,q,rfl,rfl⟩;dsimp only;refine aG (eI hC ou (by lia) (by lia) fun b3=>?_);cases b3
    .dsimp only;rw[am (by decide)];refine aG (eI hC ou (by lia) (by lia) fun b4=>?_);cases b4
     .exact aN ⟨ou,_,_,rfl,rfl⟩
     .exact aN ⟨ou,_,_,rfl,by lia,by lia⟩
    .dsimp only;rw[if_pos rfl];split
     .exact aG (fK ou fun qK K0=>aN ⟨K0,_,_,rfl,rfl⟩)
     .exact aN ⟨ou,_,_,rfl,rfl⟩
   .rintro c xG ⟨ou,m,q,rfl,rfl⟩;exact⟨ou,_,_,rfl,by lia,by lia⟩
   .rintro c xG ⟨ou,m,q,rfl,m1,m2⟩;dsimp only;split
    .refine aG (fK ou fun qK K0=>?_);refine aG (fK K0 fun u4 K1=>?_);refine aG (dz (eW (I:=fun i c aZ=>SQ κ a₀ pd aZ/\∃m,c=(none,m)/\m=i) (Q:=fun c aZ=>SQ κ a₀ pd aZ/\∃m,c=(none,m)/\1<=m/\m<=nB) ?_ ?_ ⟨K1,_,rfl,rfl⟩) ?_)
     .rintro i c yq Nr yb ⟨kO,m,rfl,rfl⟩;dsimp only;refine aG (eI hC kO (by lia) (by lia) fun b6=>?_);cases b6
      .exact aN ⟨kO,_,rfl,rfl⟩
      .exact aN ⟨kO,_,rfl,by lia,by lia⟩
     .rintro c yq ⟨kO,m,rfl,rfl⟩;exact⟨kO,_,rfl,by lia,by lia⟩
     .rintro c yq ⟨kO,m,rfl,h1,h2⟩;exact aN (h m yq kO h1 h2)
    .refine aG (fK ou fun u4 K1=>?_);refine aG (dz (eW (I:=fun i c aZ=>SQ κ a₀ pd aZ/\∃m,c=(none,m)/\m=i) (Q:=fun c aZ=>SQ κ a₀ pd aZ/\∃m,c=(none,m)/\1<=m/\m<=nB) ?_ ?_ ⟨K1,_,rfl,rfl⟩) ?_)
     .rintro i c yq Nr yb ⟨kO,m,rfl,rfl⟩;dsimp only;refine aG (eI hC kO (by lia) (by lia) fun b6=>?_);cases b6
      .exact aN ⟨kO,_,rfl,rfl⟩
      .exact aN ⟨kO,_,rfl,by lia,by lia⟩
     .rintro c yq ⟨kO,m,rfl,rfl⟩;exact⟨kO,_,rfl,by lia,by lia⟩
     .rintro c yq ⟨kO,m,rfl,h1,h2⟩;exact aN (h m yq kO h1 h2)
end
abbrev Nt:=Nat×Nat×Nat
def hV:List Nt->Nat->Nat->Prop
 |[],s,e=>s=e
 |r::rs,s,e=>r.1=s/\1<=r.2.1/\hV rs (s+r.2.1) e
theorem hV.le:∀ {l:List Nt} {s e:Nat},hV l s e->s<=e
 |[],_,_,h=>pM h
 |r::rs,s,e,⟨_,h2,h3⟩=>by have:=h3.le;lia
theorem hV.two:∀ {l:List Nt} {s e i:Nat} {x y:Nt},hV l s e->l[i]?=some x->l[i+1]?=some y->
  x.1+x.2.1=y.1/\y.1+y.2.1<=e/\1<=x.2.1/\1<=y.2.1/\∀p,hV ((l.set i (x.1,x.2.1+y.2.1,p)).eraseIdx (i+1)) s e
 |r::q::rs,s,e,0,x,y,⟨h1,h2,h3,h4,h5⟩,hx,hy=>by
  obtain rfl:=be hx;obtain rfl:=be hy;have:=h5.le;refine⟨by lia,by lia,h2,h4,fun p=>⟨h1,by show 1<=r.2.1+q.2.1;lia,?_⟩⟩;show hV rs (s+(r.2.1+q.2.1)) e;rw[<-tG];exact h5
 |r::rs,s,e,i+1,x,y,⟨h1,h2,h3⟩,hx,hy=>by
  obtain⟨a1,a2,a3,a4,a5⟩:=hV.two (i:=i) h3 hx hy;exact⟨a1,a2,a3,a4,fun p=>⟨h1,h2,a5 p⟩⟩
theorem hV.push:∀ {l:List Nt} {s e n p:Nat},hV l s e->1<=n->hV (l++[(e,n,p)]) s (e+n)
 |[],s,e,n,p,h,hn=>⟨h.symm,hn,by rw[h];rfl⟩
 |r::rs,s,e,n,p,⟨h1,h2,h3⟩,hn=>⟨h1,h2,hV.push h3 hn⟩
theorem hV.pw:∀ {l:List Nt} {s e:Nat} (i p:Nat),hV l s e->hV (l.modify i fun r=>(r.1,r.2.1,p)) s e
 |[],s,e,i,p,h=>by cases i <;> exact h
 |r::rs,s,e,0,p,⟨h1,h2,h3⟩=>⟨h1,h2,h3⟩
 |r::rs,s,e,i+1,p,⟨h1,h2,h3⟩=>⟨h1,h2,hV.pw i p h3⟩
theorem Gr{M:Model}{A:Around}{E:Value->Shared->Prop}{s:Shared}{σ:Type}{x:σ}{Q:PUnit->σ->Prop}{st:σ}(h:Q ⟨⟩ x):wpS M A E s (set x:StateT σ Sem PUnit) Q st:=by
 unfold wpS;rw[StateT.run_set];exact wpAny_pure ⟨rfl,h⟩
theorem vN(i:Nat):mergeAt' i=(do
 let s <- get
 let (some (sa,na,Pl),some (sb,nb,_)):=((pendingOf s)[i]?,(pendingOf s)[i+1]?)|unsupported "internal:list.sort.pending"
 set (setPending s (((pendingOf s).setIfInBounds i (sa,na+nb,Pl)).eraseIdxIfInBounds (i+1)))
 let some k <- gv false (<-elem' (arrOf s) sb) (arrOf s) sa na 0|return false
 let (sa,na):=(sa+k,na-k)
 if na==0 then return true
 let some nb <- gv true (<-elem' (arrOf s) (sa+na-1)) (arrOf s) sb nb (nb-1)|return false
 if nb==0 then return true
 let x:=(arrOf s).extract sa sb
 let y:=(arrOf s).extract sb (sb+nb)
 let merged <- if na<=nb then qi x y else qj x y
 modify fun s=>setArr s (merged.toList.zipIdx.foldl (fun a (p,j)=>a.setIfInBounds (sa+j) p) (arrOf s))
 return (failedOf (<-get)).isNone):=rfl
theorem qo{sa:Nat}:∀ (l:List Keyed) (k:Nat) (arr:Array Keyed),sa+k+l.length<=arr.size->
  ((l.zipIdx k).foldl (fun (a:Array Keyed) (x:Keyed×Nat)=>a.setIfInBounds (sa+x.2) x.1) arr).toList=arr.toList.take (sa+k)++l++arr.toList.drop (sa+k+l.length)
 |[],k,arr,_=>by simp
 |x::l,k,arr,h=>by
  rw[dG] at h;have hs:sa+k<arr.toList.length:=by rw[kd];lia
  rw[xn,iX,qo l (k+1) _ (by rw[Array.size_setIfInBounds];lia),Cd];dsimp only;have e1:(arr.toList.set (sa+k) x).take (sa+(k+1))=arr.toList.take (sa+k)++[x]:=by
   rw[<-tG,gk,pc hs,List.take_set_of_le (aY _)];rfl
  have e2:(arr.toList.set (sa+k) x).drop (sa+(k+1)+l.length)=arr.toList.drop (sa+k+(x::l).length):=by
   rw[List.drop_set_of_lt (by lia),dG];congr 1;lia
  rw[e1,e2,cG,cG,cG];rfl
section
variable {prog:Program} {w:World} {A:Around} {E:Value->Shared->Prop} {s:Shared} {κ:SortKind} {a₀:Array Keyed}
def SR(κ:SortKind)(a₀:Array Keyed)(lo:Nat)(st:SortSt):Prop:=∃pd,SQ κ a₀ pd st/\hV pd.toList 0 lo/\lo<=a₀.size
theorem jv{st:SortSt}{i lo:Nat}{Q:Bool->SortSt->Prop}(hC:vG prog w A s κ a₀)(hB:SR κ a₀ lo st)(hi:i+1<(pendingOf st).size)(h:∀aZ,SR κ a₀ lo aZ->Q true aZ):wpS (model prog w) A E s (mergeAt' i) Q st:=by
 obtain⟨pd,hq,hr,R3⟩:=hB;rw[hq.pend] at hi;rw[vN];refine aG (fV ?_);have e1:pd[i]?=some pd[i]:=cX pd i (by lia);have e2:pd[i+1]?=some pd[i+1]:=cX pd (i+1) hi;obtain⟨a1,a2,a3,a4,a5⟩:=hr.two (i:=i) (x:=pd[i]) (y:=pd[i+1]) (by simpa using e1) (by simpa using e2);rw[hq.pend,e1,e2];revert a1 a2 a3 a4 a5;generalize pd[i]=x;generalize pd[i+1]=y;obtain⟨sa,na,pw⟩:=x;obtain⟨sb,nb,pw2⟩:=y;intro a1 a2 a3 a4 a5;dsimp only at a1 a2 a3 a4 a5 |-;obtain⟨Gs,Pm⟩:∃Gs,Gs=(pd.setIfInBounds i (sa,na+nb,pw)).eraseIdxIfInBounds (i+1):=⟨_,rfl⟩
 have zy:hV Gs.toList 0 lo:=by
  rw[Pm,Array.toList_eraseIdxIfInBounds,Cd];exact a5 pw
 refine aG (Gr ?_);rw[<-Pm];have C7:SM κ (arrOf st) Gs (setPending st Gs):=⟨rfl,hq.kind,hq.failed,rfl⟩
 have hsz:=hq.size;have qm:∀x∈(arrOf st).toList,x∈a₀.toList:=fun x hx=>(k_.mp hq.perm).mem_iff.mp hx;have cZ:∀aZ,SM κ (arrOf st) Gs aZ->SR κ a₀ lo aZ:=fun aZ m=>⟨Gs,⟨by rw[m.arr];exact hq.perm,m.kind,m.failed,m.pend⟩,zy,R3⟩
 refine aG (bp (cX (arrOf st) sb (by lia)) ?_);refine aG (fc hC C7.kind (qm _ (by simp)) qm (by lia) (by lia) fun k hk=>?_);dsimp only;by_cases f1:(na-k==0)=true
 .rw[if_pos f1];exact aN (h _ (cZ _ C7))
 rw[am f1];have g1:¬ (na-k=0):=by simpa using f1
 refine aG (bp (cX (arrOf st) (sa+k+(na-k)-1) (by lia)) ?_);refine aG (fc hC C7.kind (qm _ (by simp)) qm (by lia) (by lia) fun k2 UG=>?_);dsimp only;by_cases f2:(k2==0)=true
 .rw[if_pos f2];exact aN (h _ (cZ _ C7))
 rw[am f2];have g2:¬ (k2=0):=by simpa using f2
 have hx:∀x∈((arrOf st).extract (sa+k) sb).toList,x∈a₀.toList:=fun x hx=>qm x (by rw[dM] at hx;exact sK (lm hx));have hy:∀x∈((arrOf st).extract sb (sb+k2)).toList,x∈a₀.toList:=fun x hx=>qm x (by rw[dM] at hx;exact sK (lm hx));have sx:((arrOf st).extract (sa+k) sb).size=sb-(sa+k):=by rw[Array.size_extract];lia
 have sy:((arrOf st).extract sb (sb+k2)).size=k2:=by rw[Array.size_extract];lia
 have last:∀ (out:Array Keyed) (aZ:SortSt),out.Perm ((arrOf st).extract (sa+k) sb++(arrOf st).extract sb (sb+k2))->SM κ (arrOf st) Gs aZ->wpS (model prog w) A E s (do
   modify fun s=>setArr s (out.toList.zipIdx.foldl (fun a (p,j)=>a.setIfInBounds (sa+k+j) p) (arrOf s))
   return (failedOf (<-get)).isNone) Q aZ:=by
  intro out aZ hp m;refine aG (fv ?_);refine aG (fV (aN ?_));have Ym:out.toList.length=sb-(sa+k)+k2:=by
   rw[kd,hp.size_eq,Array.size_append,sx,sy]
  have wl:=qo (sa:=sa+k) out.toList 0 (arrOf aZ) (by rw[m.arr,Ym];lia);have pm:(out.toList.zipIdx.foldl (fun a (p,j)=>a.setIfInBounds (sa+k+j) p) (arrOf aZ)).Perm (arrOf st):=by
   rw[k_];refine(tf wl).trans ?_;rw[m.arr,Ym,pO];have I_:=k_.mp hp;rw[d8,dM,dM] at I_;refine((I_.append_left _).append_right _).trans ?_;have e1:(arrOf st).toList.drop (sa+k)=((arrOf st).toList.drop (sa+k)).take (sb-(sa+k))++(arrOf st).toList.drop sb:=lO (by lia);have e2:(arrOf st).toList.drop sb=((arrOf st).toList.drop sb).take (sb+k2-sb)++(arrOf st).toList.drop (sb+k2):=lO (by lia);have e3:sa+k+(sb-(sa+k)+k2)=sb+k2:=by lia
   rw[e3];refine tf ?_;conv=>rhs;rw[<-nW (sa+k) (arrOf st).toList,e1,e2]
   simp only[cG]
  have hf:(failedOf aZ).isNone=true:=by rw[m.failed];rfl
  show Q (failedOf aZ).isNone _;rw[hf];exact h _ ⟨Gs,⟨pm.trans hq.perm,m.kind,m.failed,m.pend⟩,zy,R3⟩
 by_cases f3:na-k<=k2
 .rw[if_pos f3];exact aG (vK hC C7 hx hy (by lia) (by lia) fun out aZ hp m=>last out aZ hp m)
 .rw[am f3];exact aG (vM hC C7 hx hy (by lia) (by lia) fun out aZ hp m=>last out aZ hp m)
theorem vO{c:Prop}[Decidable c]{x:Nat}:(if c then x-1 else x)<=x:=by split <;> lia
theorem SR.pw{lo:Nat}{st:SortSt}(h:SR κ a₀ lo st)(i p:Nat):SR κ a₀ lo (setPending st ((pendingOf st).modify i fun r=>(r.1,r.2.1,p))):=by
 obtain⟨pd,hq,hr,hl⟩:=h;refine⟨_,⟨hq.perm,hq.kind,hq.failed,rfl⟩,?_,hl⟩;show hV ((pendingOf st).modify i fun r=>(r.1,r.2.1,p)).toList 0 lo;rw[hq.pend,Array.toList_modify];exact hr.pw i p
theorem SR.push{lo n:Nat}{st:SortSt}(h:SR κ a₀ lo st)(h1:1<=n)(hn:lo+n<=a₀.size):SR κ a₀ (lo+n) (setPending st ((pendingOf st).push (lo,n,0))):=by
 obtain⟨pd,hq,hr,hl⟩:=h;refine⟨_,⟨hq.perm,hq.kind,hq.failed,rfl⟩,?_,hn⟩;show hV ((pendingOf st).push (lo,n,0)).toList 0 (lo+n);rw[hq.pend,mz];exact hr.push h1
theorem Bo{st:SortSt}{Q:Unit->SortSt->Prop}(hC:vG prog w A s κ a₀)(hp:(arrOf st).Perm a₀)(hk:kindOf st=κ)(hf:failedOf st=none)(Pn:pendingOf st=#[])(h:∀aZ,(arrOf aZ).Perm a₀->failedOf aZ=none->Q () aZ):wpS (model prog w) A E s sortRuns' Q st:=by
 have h0:SR κ a₀ 0 st:=⟨#[],⟨hp,hk,hf,Pn⟩,rfl,cN _⟩
 have hsz:(arrOf st).size=a₀.size:=hp.size_eq;rw[sortRuns'_eq];refine aG (fV ?_);dsimp only;rw[hsz];refine aG (dz (eW (I:=fun _ c aZ=>∃lo,c=(none,lo)/\SR κ a₀ lo aZ) (Q:=fun c aZ=>∃lo,c=(none,lo)/\SR κ a₀ lo aZ) ?_ (fun c aZ hh=>hh) ⟨0,rfl,h0⟩) ?_)
 .rintro i c Nq _ _ ⟨lo,rfl,hR⟩;dsimp only;by_cases e1:lo>=a₀.size
  .rw[if_pos e1];exact aN ⟨lo,rfl,hR⟩
  rw[am e1];have R3:lo<a₀.size:=by lia
  obtain⟨pd,hq,hr,hl⟩:=hR;refine aG (Bm hC (by lia) (by lia) hq fun n xE KI n1 n2=>?_);dsimp only;by_cases hm:n<minRun' a₀.size a₀.size 0
  .rw[if_pos hm];refine aG (kA (fS ⟨rfl,?_⟩));refine aG (Gm hC (by lia) KI fun xG OQ=>?_);simp only[tI,mw,fU];have qZ:SR κ a₀ lo xG:=⟨pd,OQ,hr,hl⟩
   refine aG (fV ?_);cases hb:(pendingOf xG).back? with
   |none=>
    dsimp only;exact aG (fv (aN ⟨_,rfl,qZ.push (by lia) (by lia)⟩))
   |some r=>
    obtain⟨s1,n1',pw1⟩:=r;dsimp only;refine aG (dz (eW (I:=fun _ c aZ=>c=(none,())/\SR κ a₀ lo aZ) (Q:=fun c aZ=>c=(none,())/\SR κ a₀ lo aZ) ?_ (fun c aZ hh=>hh) ⟨rfl,qZ⟩) ?_)
    .rintro x c qK _ _ ⟨rfl,q8⟩;refine aG (fV ?_);by_cases hs:(pendingOf qK).size > 1
     .rw[if_pos hs,cX (pendingOf qK) ((pendingOf qK).size-2) (by lia)];generalize (pendingOf qK)[(pendingOf qK).size-2]=r4;obtain⟨_,_,Po⟩:=r4;dsimp only;split
      .exact aN ⟨rfl,q8⟩
      .refine aG (jv hC q8 (by lia) fun u4 Gu=>?_);simp only[tI,mw,fU];exact aN ⟨rfl,Gu⟩
     .rw[am hs];exact aN ⟨rfl,q8⟩
    .rintro c qK ⟨rfl,q8⟩;dsimp only;exact aG (fv (aG (fv (aN ⟨_,rfl,(q8.pw _ _).push (by lia) (by lia)⟩))))
  .rw[am hm];have qZ:SR κ a₀ lo xE:=⟨pd,KI,hr,hl⟩
   refine aG (fV ?_);cases hb:(pendingOf xE).back? with
   |none=>
    dsimp only;exact aG (fv (aN ⟨_,rfl,qZ.push (by lia) (by lia)⟩))
   |some r=>
    obtain⟨s1,n1',pw1⟩:=r;dsimp only;refine aG (dz (eW (I:=fun _ c aZ=>c=(none,())/\SR κ a₀ lo aZ) (Q:=fun c aZ=>c=(none,())/\SR κ a₀ lo aZ) ?_ (fun c aZ hh=>hh) ⟨rfl,qZ⟩) ?_)
    .rintro x c qK _ _ ⟨rfl,q8⟩;refine aG (fV ?_);by_cases hs:(pendingOf qK).size > 1
     .rw[if_pos hs,cX (pendingOf qK) ((pendingOf qK).size-2) (by lia)];generalize (pendingOf qK)[(pendingOf qK).size-2]=r4;obtain⟨_,_,Po⟩:=r4;dsimp only;split
      .exact aN ⟨rfl,q8⟩
      .refine aG (jv hC q8 (by lia) fun u4 Gu=>?_);simp only[tI,mw,fU];exact aN ⟨rfl,Gu⟩
     .rw[am hs];exact aN ⟨rfl,q8⟩
    .rintro c qK ⟨rfl,q8⟩;dsimp only;exact aG (fv (aG (fv (aN ⟨_,rfl,(q8.pw _ _).push (by lia) (by lia)⟩))))
 .rintro c Nq ⟨lo,rfl,hR⟩;dsimp only;refine aG (dz (eW (I:=fun _ c aZ=>c=(none,())/\SR κ a₀ lo aZ) (Q:=fun c aZ=>c=(none,())/\SR κ a₀ lo aZ) ?_ (fun c aZ hh=>hh) ⟨rfl,hR⟩) ?_)
  .rintro x c qK _ _ ⟨rfl,q8⟩;refine aG (fV ?_);by_cases hs:(pendingOf qK).size<=1
   .rw[if_pos hs];exact aN ⟨rfl,q8⟩
   rw[am hs];refine aG (jv hC q8 ?_ fun u4 Gu=>?_)
   .exact dX (xm vO) (show (pendingOf qK).size-2+1<(pendingOf qK).size by lia)
   .simp only[tI,mw,fU];exact aN ⟨rfl,Gu⟩
  .rintro c qK ⟨rfl,pd,hq,_⟩;exact aN (h _ hq.perm hq.failed)
end
end PyProof.Rows
namespace L2
open PySem PySem.Spec PyProof.Rows PySem.W
def iw(h:Heap)(vs:List Value):Prop:=∀v∈vs,∃a o n x t y u,v=Value.ref a/\h.get? a=some o/\o.cls=.type "tuple"/\o.data=.seq #[.int x t,.int y u] n
theorem iw.kC{h:Heap}:∀ {vs:List Value},iw h vs->∃fs,KatTups h vs fs/\fs.length=vs.length/\∀v∈fs,∃n t,v=Value.int n t
 |[],_=>⟨[],trivial,rfl,fun v hv=>nomatch hv⟩
 |v::vs,hp=>by
  obtain⟨fs,k1,k2,k3⟩:=iw.kC (vs:=vs) fun b hb=>hp b (bZ _ hb);obtain⟨a,o,n,x,t,y,u,rfl,e,c,d⟩:=hp v bK;refine⟨.int x t::fs,KatTups.cons e c d rfl k1,by simp[k2],fun v hv=>?_⟩;rcases aV.mp hv with z|z
  .exact⟨x,t,z⟩
  .exact k3 v z
section
variable {prog:Program} {w:World} {A:Around} {E:Value->Shared->Prop} {s:Shared}
theorem Bp{vs:List Value}(hp:iw s.heap vs):vG prog w A s (tuples' true) (vs.toArray.zip vs.toArray):=by
 have mem:∀x∈(vs.toArray.zip vs.toArray).toList,x.1∈vs:=by
  intro x hx;rw[Array.toList_zip] at hx;exact(mH hx).1
 intro x y hx hy Q E' q;obtain⟨a,o,n,x1,t1,x2,t2,e1,eo,_,ed⟩:=hp x.1 (mem x hx);obtain⟨b,o',n',y1,u1,y2,u2,e2,eo',_,ed'⟩:=hp y.1 (mem y hy);rw[e1,e2];refine kat_lt eo ed eo' ed' (kat_cons (xw ?_));by_cases h1:x1=y1
 .rw[eC.mpr h1];refine kat_yes (kat_cons (xw ?_));by_cases h2:x2=y2
  .rw[eC.mpr h2];exact kat_yes (kat_nil (q _))
  .rw[j8.mpr h2];exact kat_no (kat_one _ _ (lt_int (q _)))
 .rw[j8.mpr h1];exact kat_no (oneLt_int (q _))
theorem Gv{vs:List Value}:((vs.toArray.zip vs.toArray).map (·.2)).toList=vs:=by
 rw[sW,Array.toList_zip];show (vs.zip vs).map (·.2)=vs;rw[<-List.unzip_snd,List.unzip_zip_right (aY _)]
theorem oy{a:Addr}{vs:List Value}{n:Nat}{P:PySem.Fin->Shared->Prop}(ho:s.heap.get? a=some (seqObj "list" vs.toArray n))(hp:iw s.heap vs)(hz:vs.length<=4096)(h:∀ (out:Array Value),out.toList.Perm vs->P (.done (.ret .none)) { s with heap:=sortedHeap s.heap a vs out }):
  wpAny (model prog w) A (Builtin.«list.sort» ⟨[.ref a],[]⟩) P E s:=by
 rw[list_sort_plain];have ha:a<s.heap.objs.size:=aQ ho;have Sb:vs.toArray.size<=sizeLine:=by rw[br,jf];lia
 refine au (listItems_at ho rfl ?_);refine au (listUpdate_at ho rfl ?_ Sb (cN _));obtain⟨e1,Sc⟩:∃e1,(s.heap.update a (Obj.mapSeq fun _=>#[])).get? a=some (seqObj "list" #[] e1):=⟨_,get?_update_seq ho (fun _=>#[])⟩
 refine au (seqEpoch_at Sc rfl ?_);refine au (wpAny_newTuple ?_ (by show vs.length<=_;rw[jf];lia));refine au (wpAny_newList ?_ (cN _));refine gy ?_;have Nu:(((s.heap.update a (Obj.mapSeq fun _=>#[])).push (seqObj "tuple" vs.toArray 0)).push (seqObj "list" #[] 0)).get? a=some (seqObj "list" #[] e1):=by
  rw[iE _ _ _ (by rw[ky,jU];exact a8 (et ha)),iE _ _ _ (by rw[jU];exact a8 ha)];exact Sc
 have Bq:iw (((s.heap.update a (Obj.mapSeq fun _=>#[])).push (seqObj "tuple" vs.toArray 0)).push (seqObj "list" #[] 0)) vs:=by
  intro v hv;obtain⟨b,o,n,x,t,y,u,ev,e,c,d⟩:=hp v hv;have hb:b<s.heap.objs.size:=aQ e;have kI:b≠a:=by
   rintro rfl;rw[ho] at e;cases e;exact absurd (Value.type.inj c) (by decide)
  refine⟨b,o,n,x,t,y,u,ev,?_,c,d⟩;rw[iE _ _ _ (by rw[ky,jU];exact a8 (et hb)),iE _ _ _ (by rw[jU];exact a8 hb),pq _ _ _ _ kI];exact e
 show wpAny (model prog w) A _ P E { s with heap:=((s.heap.update a (Obj.mapSeq fun _=>#[])).push (seqObj "tuple" vs.toArray 0)).push (seqObj "list" #[] 0) };dsimp only;have cZ:∀aZ:SortSt,(arrOf aZ).Perm (vs.toArray.zip vs.toArray)->P (.done (.ret .none)) { s with heap:=sortedHeap s.heap a vs ((arrOf aZ).map (·.2)) }:=by
  intro aZ Sd;refine h _ ?_;have:=(k_.mp Sd).map (·.2);rw[<-sW,<-sW,Gv] at this;exact this
 have Yn:(vs.toArray.zip vs.toArray).size=vs.length:=by simp
 by_cases h2:vs.toArray.size<2
 .rw[if_pos h2,if_pos h2];refine au (wpAny_pure ?_);rw[StateT.run_pure];refine au (wpAny_pure ?_);dsimp only;refine au (seqEpoch_at Nu rfl ?_);refine au (listUpdate_at Nu rfl ?_ (cN _) (by show ((vs.toArray.zip vs.toArray).map (·.2)).size<=_;rw[ig,Yn,jf];lia));simp only[bne_self_eq_false,mw,fU];exact wpAny_pure (cZ (SortSt.mk' general' (vs.toArray.zip vs.toArray) #[] 7 none) (Array.Perm.refl _))
 .rw[am h2,am h2];have dt:2<=vs.length:=by rw[br] at h2;lia
  obtain⟨fs,k1,k2,k3⟩:=Bq.kC;refine au (kat_kind (T:=.type "int") k1 (by lia) (fun v hv=>?_) rfl ?_)
  .obtain⟨m,t,rfl⟩:=k3 v hv;exact .now
  refine au (gC (Bo (a₀:=vs.toArray.zip vs.toArray) (κ:=tuples' true) (st:=SortSt.mk' (tuples' true) (vs.toArray.zip vs.toArray) #[] 7 none)
   (Q:=fun _ aZ=>(arrOf aZ).Perm (vs.toArray.zip vs.toArray)/\failedOf aZ=none) (Bp Bq) (Array.Perm.refl _) rfl rfl rfl fun aZ b1 b2=>⟨b1,b2⟩) ?_ fun _ _ e=>e)
  rintro⟨⟨⟩,aZ⟩ s' ⟨rfl,Sd,hf⟩;dsimp only;refine au (seqEpoch_at Nu rfl ?_);refine au (listUpdate_at Nu rfl ?_ (cN _) (by refine bj (pM ((ig ..).trans (Sd.size_eq.trans Yn))) ?_;rw[jf];lia));rw[hf];simp only[bne_self_eq_false,mw,fU];exact wpAny_pure (cZ aZ Sd)
theorem uk{l:Addr}{vs:List Value}{Q:Value->Shared->Prop}(hl:s.heap.IsList l vs.toArray)(hp:iw s.heap vs)(hz:vs.length<=4096)(h:∀ (out:Array Value),out.toList.Perm vs->Q (.ref (s.heap.objs.size+1)) { s with heap:=sortedAll s.heap vs out }):
  wpAny (model prog w) A (call (.builtin "sorted") [.ref l]) Q E s:=by
 have Sb:vs.length<=sizeLine:=by rw[jf];lia
 refine Calls.call_function_entry kind_sorted plain_sorted entry_sorted (args_sorted1 _) ?_;unfold Builtin.«sorted»;refine au (m:=checkCount "sorted" 1 1 _) (wpAny_pure ?_);refine au (collect_list hl ?_ Sb);refine au (wpAny_newList ?_ Sb);have hsz:((s.heap.push (seqObj "list" #[] 0)).update s.heap.objs.size (Obj.mapSeq (·++vs.toArray))).objs.size=s.heap.objs.size+1:=by
  rw[jU,ky]
 have IN:(((s.heap.push (seqObj "list" #[] 0)).update s.heap.objs.size (Obj.mapSeq (·++vs.toArray))).push (seqObj "list" vs.toArray 0)).get? (s.heap.objs.size+1)=some (seqObj "list" vs.toArray 0):=by
  rw[<-hsz];exact cE _ rfl
 have rT:iw (((s.heap.push (seqObj "list" #[] 0)).update s.heap.objs.size (Obj.mapSeq (·++vs.toArray))).push (seqObj "list" vs.toArray 0)) vs:=by
  intro v hv;obtain⟨b,o,n,x,t,y,u,ev,e,c,d⟩:=hp v hv;have hb:b<s.heap.objs.size:=aQ e;refine⟨b,o,n,x,t,y,u,ev,?_,c,d⟩;rw[iE _ _ _ (by rw[hsz];exact a8 (et hb)),pq _ _ _ _ (a8 hb),iE _ _ _ (a8 hb)];exact e
 show wpAny _ _ _ _ _ { s with heap:=((s.heap.push (seqObj "list" #[] 0)).update s.heap.objs.size (Obj.mapSeq (·++vs.toArray))).push (seqObj "list" vs.toArray 0) };rw[hsz];refine au (gy (i9 slot_list_sort ⟨_,IN,rfl⟩ entry_list_sort (oy IN rT hz fun out a1=>⟨_,rfl,?_⟩) (args_list_sort _)));exact wpAny_pure ⟨_,rfl,h out a1⟩
end
theorem lP:∀ {as:List Addr} {its:List Value},aP (as.map V.ref) its->its=as.map Value.ref
 |[],_,r=>by cases r;rfl
 |a::as,_,r=>by
  cases r with
  |cons r rr=>
   obtain rfl:=(show _=Value.ref a from r)
   rw[lP rr];rfl
theorem rZ:∀ {as:List Addr},aP (as.map V.ref) (as.map Value.ref)
 |[]=>.nil
 |_::_=>.cons rfl rZ
theorem Br{as:List Addr}{vs:List Value}(h:vs.Perm (as.map Value.ref)):∃oz:List Addr,vs=oz.map Value.ref/\oz.Perm as:=by
 let un:Value->Addr:=fun v=>match v with|.ref a=>a|_=>0
 refine⟨vs.map un,?_,?_⟩
 .rw[gZ];have:∀v∈vs,(Value.ref ∘ un) v=v:=by
   intro v hv;obtain⟨a,_,rfl⟩:=bH.mp (h.mem_iff.mp hv);rfl
  conv=>lhs;rw[<-mK vs]
  exact nX fun v hv=>(this v hv).symm
 .have:=h.map un;rw[gZ] at this;have e:as.map (un ∘ Value.ref)=as:=by
   conv=>rhs;rw[<-mK as]
   exact nX fun a _=>rfl
  rw[e] at this;exact this
def Dz(K:PySem.W.Frag):List V->Hp->VK->Prop:=fun xs H Q=>∃ (l:Addr) (as:List Addr),xs=[.ref l]/\aM K H l (as.map V.ref)/\(∀a∈as,∃x y:Int,bV K H a [.int x,.int y])/\as.length<=4096/\
 ∀ (D:Addr) (oz:List Addr),H D=none->oz.Perm as->Q (.ref D) (upd H D (.lst (oz.map V.ref)))
theorem qp{X:Cx}:eX X (.builtin "sorted") (Dz X.K):=by
 intro ae s σ H xs us Q I r h;obtain⟨l,as,rfl,hl,hp,hz,q⟩:=h;obtain⟨u1,rfl,r1⟩:=r.one;obtain rfl:u1=Value.ref l:=r1;obtain⟨its,rv,pl,_⟩:=I.list hl;have Di:=lP rv;subst Di;have hpv:iw s.heap (as.map Value.ref):=by
  intro v hv;obtain⟨a,ha,rfl⟩:=bH.mp hv;obtain⟨x,y,K2⟩:=hp a ha;obtain⟨its,r,⟨o,e,c,n,d⟩,_⟩:=I.tuple K2;obtain⟨u1,u2,rfl,r1,r2⟩:=r.two;obtain⟨t,rfl⟩:=r1;obtain⟨t',rfl⟩:=r2;exact⟨a,o,n,x,t,y,t',rfl,e,c,d⟩
 refine uk pl.isList hpv (by rw[aJ];exact hz) fun out Pp=>?_;obtain⟨oz,eo,pa⟩:=Br Pp;have Ba:out=(oz.map Value.ref).toArray:=by rw[<-eo]
 subst Ba;have UP:((s.heap.push (seqObj "list" #[] 0)).update s.heap.objs.size (Obj.mapSeq (·++(as.map Value.ref).toArray))).objs.size=s.heap.objs.size+1:=by rw[jU,ky]
 have k1:∀b u,s.heap.get? b=some u->(((s.heap.push (seqObj "list" #[] 0)).update s.heap.objs.size (Obj.mapSeq (·++(as.map Value.ref).toArray))).push (seqObj "list" (as.map Value.ref).toArray 0)).get? b=some u:=fun b u e=>by
  have hb:b<s.heap.objs.size:=aQ e;rw[iE _ _ _ (by rw[UP];exact a8 (et hb)),pq _ _ _ _ (a8 hb),iE _ _ _ (a8 hb)];exact e
 have IN:(((s.heap.push (seqObj "list" #[] 0)).update s.heap.objs.size (Obj.mapSeq (·++(as.map Value.ref).toArray))).push (seqObj "list" (as.map Value.ref).toArray 0)).get? (s.heap.objs.size+1)=some (seqObj "list" (as.map Value.ref).toArray 0):=by
  rw[<-UP];exact cE _ rfl
 have Nv:(((s.heap.push (seqObj "list" #[] 0)).update s.heap.objs.size (Obj.mapSeq (·++(as.map Value.ref).toArray))).push (seqObj "list" (as.map Value.ref).toArray 0)).objs.size=s.heap.objs.size+2:=by rw[ky,UP]
 show EP X ae σ Q (.ref (s.heap.objs.size+1)) { s with heap:=sortedHeap (((s.heap.push (seqObj "list" #[] 0)).update s.heap.objs.size (Obj.mapSeq (·++(as.map Value.ref).toArray))).push (seqObj "list" (as.map Value.ref).toArray 0)) (s.heap.objs.size+1) (as.map Value.ref) (oz.map Value.ref).toArray };revert k1 IN Nv;generalize ((s.heap.push (seqObj "list" #[] 0)).update s.heap.objs.size (Obj.mapSeq (·++(as.map Value.ref).toArray))).push (seqObj "list" (as.map Value.ref).toArray 0)=h1;intro k1 IN Nv;obtain⟨e1,Sc⟩:∃e1,(h1.update (s.heap.objs.size+1) (Obj.mapSeq fun _=>(#[]:Array Value))).get? (s.heap.objs.size+1)=some (seqObj "list" #[] e1):=⟨_,get?_update_seq IN (fun _=>#[])⟩
 have Nu:(((h1.update (s.heap.objs.size+1) (Obj.mapSeq fun _=>(#[]:Array Value))).push (seqObj "tuple" (as.map Value.ref).toArray 0)).push (seqObj "list" #[] 0)).get? (s.heap.objs.size+1)=some (seqObj "list" #[] e1):=by
  rw[iE _ _ _ (by rw[ky,jU,Nv];exact a8 (et (i6 _))),iE _ _ _ (by rw[jU,Nv];exact a8 (i6 _))];exact Sc
 obtain⟨e2,ho7⟩:∃e2,(sortedHeap h1 (s.heap.objs.size+1) (as.map Value.ref) (oz.map Value.ref).toArray).get? (s.heap.objs.size+1)=some (seqObj "list" (oz.map Value.ref).toArray e2):=⟨_,get?_update_seq Nu (fun _=>(oz.map Value.ref).toArray)⟩
 have keep:∀b u,s.heap.get? b=some u->(sortedHeap h1 (s.heap.objs.size+1) (as.map Value.ref) (oz.map Value.ref).toArray).get? b=some u:=fun b u e=>by
  have hb:b<s.heap.objs.size:=aQ e;unfold sortedHeap;rw[pq _ _ _ _ (a8 (et hb)),iE _ _ _ (by rw[ky,jU,Nv];exact a8 (et (et (et hb)))),iE _ _ _ (by rw[jU,Nv];exact a8 (et (et hb))),pq _ _ _ _ (a8 (et hb))];exact k1 b u e
 have Jm:s.heap.get? (s.heap.objs.size+1)=none:=ph (by lia);refine⟨.ref (s.heap.objs.size+1),_,I.C4 (t':=s.toks) (o:=.lst (oz.map V.ref)) keep Jm ⟨?_,oz.map Value.ref,e2,rZ,ho7⟩,rfl,q _ oz (I.bB.t8 Jm) pa⟩;rw[aJ,pa.length_eq];exact bj hz (by decide)
open PySem PySem.Spec PyProof.Rows
theorem bT(sb:Heap.SameBut c h h')(n:b≠c)(e:h.get? b=some o):h'.get? b=some o:=(sb.2 b n).trans e
theorem eK(r:h.IsTupleIter it t k)(sb:Heap.SameBut c h h')(n:it≠c):h'.IsTupleIter it t k:=r.at fun o e=>bT sb n e
theorem qq(r:h.IsTuple t xs)(sb:Heap.SameBut c h h')(n:t≠c):h'.IsTuple t xs:=let ⟨o,e,z⟩:=r;⟨o,bT sb n e,z⟩
section
variable {prog:Program} {w:World} {A:Around} {E:Value->Shared->Prop} {s:Shared}
theorem Bs{z ti tq i1 i2 t1 t2:Addr}{k:Nat}{xs ys:Array Value}{x y a b:Value}{Q:Value->Shared->Prop}(dj:ZipApart z ti tq i1 i2 t1 t2)(gz:IsZip s.heap z ti tq .none)(gi:IsPair s.heap ti (.ref i1) (.ref i2))(gq:IsPair s.heap tq a b)(r1:s.heap.IsTupleIter i1 t1 k)(r2:s.heap.IsTupleIter i2 t2 k)(g1:s.heap.IsTuple t1 xs)(g2:s.heap.IsTuple t2 ys)(ex:xs[k]?=some x)(ey:ys[k]?=some y)(q:∀h',IsZip h' z ti tq (rawInt s.heap.objs.size)->IsPair h' tq x y->h'.IsTupleIter i1 t1 (k+1)->h'.IsTupleIter i2 t2 (k+1)->IsPair h' s.heap.objs.size x y->(∀c o,c≠z->c≠tq->c≠i1->c≠i2->s.heap.get? c=some o->h'.get? c=some o)->Q (.ref s.heap.objs.size) { s with heap:=h' }):
  wpAny (model prog w) A (Builtin.«zip.__next__» ⟨[.ref z],[]⟩) (fun cZ s'=>∃v,cZ=.done (.ret v)/\Q v s') E s:=by
 change wpAny _ _ (field (.ref z) 2 >>= _) _ _ _;refine au (fz gz rfl (x:=.bool false) rfl ?_);change wpAny _ _ (field (.ref z) 3 >>= _) _ _ _;refine au (fz gz rfl (x:=.ref ti) rfl (au (jb gi rfl ?_)));change wpAny _ _ (Builtin.SmallTypes.ownedTupleIsFree (.ref z) >>= _) _ _ _;refine au ?_;unfold Builtin.SmallTypes.ownedTupleIsFree;refine au (fz gz rfl (x:=.none) rfl (wpAny_pure ?_));simp only[gE];refine au (fS (au (fz gz rfl (x:=.ref tq) rfl ?_)));refine au (pB gz (by simp) fun m1 DA rM=>?_);replace DA:IsZip m1 z ti tq .ellipsis:=DA;refine au ?_;simp only[xn,List.zipIdx_nil,s_,tw];refine au (au (wpAny_onRaise ?_));change wpAny _ _ (Builtin.SmallTypes.nextOf (.ref i1) >>= _) _ _ _;refine au (kM (eK r1 rM dj.i1z) (qq g1 rM dj.l1z) ex fun m2 r12 mf=>wpAny_pure ?_);have Nw:IsPair m2 tq a b:=bT mf dj.TOi1 (bT rM dj.TOz gq);refine au (jb Nw rfl (au (wpAny_updateSeq_pair Nw fun m3 Nx Gw=>?_)));replace Nx:IsPair m3 tq x b:=Nx;refine au (wpAny_letGo (wpAny_pure ?_));refine au (au (wpAny_onRaise ?_));change wpAny _ _ (Builtin.SmallTypes.nextOf (.ref i2) >>= _) _ _ _;refine au (kM (eK (eK (eK r2 rM dj.i2z) mf dj.i12.symm) Gw dj.TOi2.symm) (qq (qq (qq g2 rM dj.l2z) mf dj.l2i1) Gw dj.l2TO) ey fun m4 r24 Pq=>wpAny_pure ?_);have Ps:IsPair m4 tq x b:=bT Pq dj.TOi2 Nx;refine au (jb Ps rfl (au (wpAny_updateSeq_pair Ps fun m5 Jn Pu=>?_)));replace Jn:IsPair m5 tq x y:=Jn;refine au (wpAny_letGo (wpAny_pure (wpAny_pure ?_)));refine au (jb Jn rfl (au (wpAny_newTuple ?_)));have sz:m5.objs.size=s.heap.objs.size:=by rw[Pu.1,Pq.1,Gw.1,mf.1,rM.1]
 have Yo:IsZip m5 z ti tq .ellipsis:=bT Pu dj.TOz.symm (bT Pq dj.i2z.symm (bT Gw dj.TOz.symm (bT mf dj.i1z.symm DA)));have kp5:∀c o,c≠z->c≠tq->c≠i1->c≠i2->s.heap.get? c=some o->m5.get? c=some o:=fun c o c1 c2 c3 c4 e=>
  bT Pu c2 (bT Pq c4 (bT Gw c2 (bT mf c3 (bT rM c1 e))))
 have r15:m5.IsTupleIter i1 t1 (k+1):=eK (eK (eK r12 Gw dj.TOi1.symm) Pq dj.i12) Pu dj.TOi1.symm;have r25:m5.IsTupleIter i2 t2 (k+1):=eK r24 Pu dj.TOi2.symm;have zl:z<m5.objs.size:=aQ Yo;change wpAny _ _ (Builtin.SmallTypes.ownedTupleHandOut (.ref z) (.ref m5.objs.size) >>= _) _ _ _;refine au ?_;unfold Builtin.SmallTypes.ownedTupleHandOut;have gz6:IsZip (m5.push { cls:=.type "tuple",data:=.seq #[x,y] }) z ti tq .ellipsis:=bQ _ Yo;refine au (pB gz6 (by simp) fun m7 UQ Yp=>?_);replace UQ:IsZip m7 z ti tq (rawInt m5.objs.size):=UQ;refine pB UQ (by simp) fun m8 Se Yq=>?_;replace Se:IsZip m8 z ti tq (rawInt m5.objs.size):=Se;have up:∀c o,c≠z->m5.get? c=some o->m8.get? c=some o:=fun c o c1 e=>bT Yq c1 (bT Yp c1 (bQ _ e));have Yr:IsPair m8 m5.objs.size x y:=bT Yq (fQ zl) (bT Yp (fQ zl) (cE _ rfl));rw[sz] at Se Yr;refine wpAny_pure ⟨_,rfl,?_⟩;change Q (.ref m5.objs.size) _;rw[sz];exact q m8 Se (up _ _ dj.TOz Jn) (r15.at fun o e=>up _ o dj.i1z e) (r25.at fun o e=>up _ o dj.i2z e) Yr fun c o c1 c2 c3 c4 e=>up c o c1 (kp5 c o c1 c2 c3 c4 e)
theorem DB(hh:A.handled=none)(dj:ZipApart z ti tq i1 i2 t1 t2)(gz:IsZip s.heap z ti tq .none)(gi:IsPair s.heap ti (.ref i1) (.ref i2))(r1:s.heap.IsTupleIter i1 t1 k)(g1:s.heap.IsTuple t1 xs)(ex:xs[k]?=none)(q:∀h' e,(∀c o,c≠z->c≠i1->s.heap.get? c=some o->h'.get? c=some o)->(∃o,h'.get? e=some o/\o.cls=.type "StopIteration")->E (.ref e) { s with heap:=h' }):
  wpAny (model prog w) A (Builtin.«zip.__next__» ⟨[.ref z],[]⟩) Q E s:=by
 change wpAny _ _ (field (.ref z) 2 >>= _) _ _ _;refine au (fz gz rfl (x:=.bool false) rfl ?_);change wpAny _ _ (field (.ref z) 3 >>= _) _ _ _;refine au (fz gz rfl (x:=.ref ti) rfl (au (jb gi rfl ?_)));change wpAny _ _ (Builtin.SmallTypes.ownedTupleIsFree (.ref z) >>= _) _ _ _;refine au ?_;unfold Builtin.SmallTypes.ownedTupleIsFree;refine au (fz gz rfl (x:=.none) rfl (wpAny_pure ?_));simp only[gE];refine au (fS (au (fz gz rfl (x:=.ref tq) rfl ?_)));refine au (pB gz (by simp) fun m1 DA rM=>?_);replace DA:IsZip m1 z ti tq .ellipsis:=DA;refine au ?_;simp only[xn,List.zipIdx_nil,s_,tw];refine au (au (wpAny_onRaise ?_));change wpAny _ _ (Builtin.SmallTypes.nextOf (.ref i1) >>= _) _ _ _;refine au (nw hh (eK r1 rM dj.i1z) (qq g1 rM dj.l1z) ex fun m2 e mf he=>?_);obtain⟨oe,UR,Ys⟩:=he;have Ny:IsZip m2 z ti tq .ellipsis:=mf _ _ dj.i1z.symm DA;have nez:e≠z:=fun y=>by subst y;rw[Ny] at UR;cases UR;simp at Ys
 exact pB Ny (by simp) fun m3 _ Gw=>q m3 e (fun c o c1 c3 y=>bT Gw c1 (mf _ _ c3 (bT rM c1 y))) ⟨oe,bT Gw nez UR,Ys⟩
theorem yr(dj:ZipApart z ti tq i1 i2 t1 t2)(gz:IsZip s.heap z ti tq .none)(gi:IsPair s.heap ti (.ref i1) (.ref i2))(gq:IsPair s.heap tq a b)(r1:s.heap.IsTupleIter i1 t1 k)(r2:s.heap.IsTupleIter i2 t2 k)(g1:s.heap.IsTuple t1 xs)(g2:s.heap.IsTuple t2 ys)(ex:xs[k]?=some x)(ey:ys[k]?=some y)(q:∀h',IsZip h' z ti tq (rawInt s.heap.objs.size)->IsPair h' tq x y->h'.IsTupleIter i1 t1 (k+1)->h'.IsTupleIter i2 t2 (k+1)->IsPair h' s.heap.objs.size x y->(∀c o,c≠z->c≠tq->c≠i1->c≠i2->s.heap.get? c=some o->h'.get? c=some o)->Q (some (.ref s.heap.objs.size)) { s with heap:=h' }):
  wpAny (model prog w) A (pyNext (.ref z)) Q E s:=by
 have ty:s.TypeIs (.ref z) "zip":=⟨_,gz,rfl⟩
 unfold pyNext;refine au (tL (o9 (name:=Str.ofString "__next__") ty F.slot_zip_next (i9 F.slot_zip_next ty F.entry_zip_next ?_ (F.args_zip_next_1 _))));exact Bs dj gz gi gq r1 r2 g1 g2 ex ey fun h' a1 a2 a3 a4 a5 a6=>wpAny_pure (q h' a1 a2 a3 a4 a5 a6)
theorem yt(hh:A.handled=none)(dj:ZipApart z ti tq i1 i2 t1 t2)(gz:IsZip s.heap z ti tq .none)(gi:IsPair s.heap ti (.ref i1) (.ref i2))(r1:s.heap.IsTupleIter i1 t1 k)(g1:s.heap.IsTuple t1 xs)(ex:xs[k]?=none)(q:∀h',(∀c o,c≠z->c≠i1->s.heap.get? c=some o->h'.get? c=some o)->Q none { s with heap:=h' }):wpAny (model prog w) A (pyNext (.ref z)) Q E s:=by
 have ty:s.TypeIs (.ref z) "zip":=⟨_,gz,rfl⟩
 unfold pyNext;refine au (tL (o9 (name:=Str.ofString "__next__") ty F.slot_zip_next (i9 F.slot_zip_next ty F.entry_zip_next (DB hh dj gz gi r1 g1 ex fun h' e hk he=>?_) (F.args_zip_next_1 _))));obtain⟨o,ho,hc⟩:=he;exact au (wpAny_isInstance (T:="StopIteration") (b:=true) ⟨o,ho,hc⟩ isSubtype_stop (wpAny_pure (q _ hk)))
abbrev zT(t:Addr):Obj:={ cls:=.type "tuple_iterator",data:=.fields #[.ref t,.int 0 0] }
abbrev Sf(h:Heap)(t1 t2:Addr):Heap:=((h.push (zT t1)).push (zT t2)).push { cls:=.type "tuple",data:=.seq #[.ref h.objs.size,.ref (h.push (zT t1)).objs.size] }
abbrev Sg(h:Heap)(t1 t2:Addr):Heap:=(Sf h t1 t2).push { cls:=.type "tuple",data:=.seq #[.none,.none] }
abbrev Nz(h:Heap)(t1 t2:Addr):Heap:=(Sg h t1 t2).push { cls:=.type "zip",data:=.fields #[.none,.bool false,.bool false,.ref ((h.push (zT t1)).push (zT t2)).objs.size,.ref (Sf h t1 t2).objs.size] }
theorem DC(t1 t2:Addr)(xs ys:Array Value):
  Meets (Builtin.«zip.__new__» ⟨[.type "zip",.ref t1,.ref t2],[]⟩) (fun _ R s=>s.heap.IsTuple t1 xs/\s.heap.IsTuple t2 ys/\R (.ok (.ret (.ref (Sg s.heap t1 t2).objs.size))) { s with heap:=Nz s.heap t1 t2 }):=
 .of_wp fun prog w A R s h=>by
  obtain⟨hp,g,d,tk,os⟩:=s;obtain⟨g1,g2,h⟩:=h;have aad:=sub_zip;have gA:Heap.IsTuple (Shared.heap ⟨hp,g,d,tk,os⟩) t1 xs:=g1;have gB:Heap.IsTuple (Shared.heap ⟨hp.push (zT t1),g,d,tk,os⟩) t2 ys:=let ⟨o,e,z⟩:=g2;⟨o,bQ _ e,z⟩
  wp_walk using pC gA,pC gB
  exact⟨_,rfl,h⟩
theorem Bt(g1:s.heap.IsTuple t1 xs)(g2:s.heap.IsTuple t2 ys)(q:∀h',IsZip h' (s.heap.objs.size+4) (s.heap.objs.size+2) (s.heap.objs.size+3) .none->IsPair h' (s.heap.objs.size+2) (.ref s.heap.objs.size) (.ref (s.heap.objs.size+1))->IsPair h' (s.heap.objs.size+3) .none .none->
   h'.IsTupleIter s.heap.objs.size t1 0->h'.IsTupleIter (s.heap.objs.size+1) t2 0->(∀c o,s.heap.get? c=some o->h'.get? c=some o)->Q (.ref (s.heap.objs.size+4)) { s with heap:=h' }):
  wpAny (model prog w) A (call (.type "zip") [.ref t1,.ref t2]) Q E s:=by
 refine callType_new F.called_zip (by decide) (F.typeCall_zip_2 _ _) (F.newCall_zip_2 _ _) (fun obj=>F.args_object_init_3 obj _ _) F.entry_zip_new (DC t1 t2 xs ys) ⟨g1,g2,?_⟩;have n1:(s.heap.push (zT t1)).objs.size=s.heap.objs.size+1:=iG ..;have n2:((s.heap.push (zT t1)).push (zT t2)).objs.size=s.heap.objs.size+2:=by rw[iG,n1]
 have n3:(Sf s.heap t1 t2).objs.size=s.heap.objs.size+3:=by rw[iG,n2]
 have n4:(Sg s.heap t1 t2).objs.size=s.heap.objs.size+4:=by rw[iG,n3]
 have e5:(Nz s.heap t1 t2).get? (Sg s.heap t1 t2).objs.size=some _:=cE _ rfl;have e4:(Nz s.heap t1 t2).get? (Sf s.heap t1 t2).objs.size=some _:=bQ _ (cE _ rfl);have e3:(Nz s.heap t1 t2).get? ((s.heap.push (zT t1)).push (zT t2)).objs.size=some _:=bQ _ (bQ _ (cE _ rfl));have e2:(Nz s.heap t1 t2).get? (s.heap.push (zT t1)).objs.size=some _:=bQ _ (bQ _ (bQ _ (cE _ rfl)));have e1:(Nz s.heap t1 t2).get? s.heap.objs.size=some _:=bQ _ (bQ _ (bQ _ (bQ _ (cE _ rfl))));change _/\_;rw[n2,n3,n4] at e5;rw[n1,n2] at e3;rw[n3] at e4;rw[n1] at e2;rw[n4];exact⟨⟨_,e5,rfl⟩,q _ e5 e3 e4 ⟨_,e1,rfl,rfl⟩ ⟨_,e2,rfl,rfl⟩ fun c o y=>
  bQ _ (bQ _ (bQ _ (bQ _ (bQ _ y))))⟩
end
theorem aD.zZ{X:Cx}{ae:List (Addr×Obj)}{σ:St}{H:Hp}{s:Shared}{h':Heap}{t':Nat}{ch:List Addr}(I:aD X ae σ H s)(fe:∀e∈ch,gf X ae H e)(k:∀b o,b∉ch->s.heap.get? b=some o->h'.get? b=some o):aD X ae σ H { s with heap:=h',toks:=t' }:=by
 have IL:∀b u,H b=some u->b∉ch:=fun b u e z=>by rw[(fe b z).1] at e;cases e
 refine I.step (g':=s.gens) (d':=s.drawn) (ch:=ch) (fun b hb=>?_) (fun b o _ _ hc e _=>k b o hc e) (fun b o _ _ hc e _=>⟨o.slots,k b o hc e⟩) (fun _ _ _ _ n=>n) (fun b o hc e=>⟨o,k b o hc e⟩) (fun _ _ e=>e) (fun _ _ _ e=>e) (fun b ps e=>⟨#[],by rw[e];simp⟩) (fun m hm=>?_) (fun b u e=>?_) I.bare
 .obtain⟨_,f1,_,f3,f4,f5⟩:=fe b hb;exact⟨f3,f1,f4,f5⟩
 .obtain⟨o,es,ep,ho,r⟩:=hm;exact⟨o,es,ep,k _ o (fun z=>(fe _ z).2.1 rfl) ho,r⟩
 .refine(I.bB b u e).mP (fun c v hc q=>k c v ?_ q) (fun _ q=>q) fun _ _ q=>q;rcases hc with z|z
  .rw[z];exact IL b u e
  .exact IL c _ z
theorem aD.z0{X:Cx}{ae:List (Addr×Obj)}{σ:St}{H:Hp}{s:Shared}{h':Heap}{p:Addr}{t':Nat}{ch:List Addr}{xs:List V}{its:List Value}(I:aD X ae σ H s)(fe:∀e∈ch,gf X ae H e)(k:∀b o,b∉ch->s.heap.get? b=some o->h'.get? b=some o)(hp:s.heap.objs.size<=p)(hl:xs.length<=sizeLine)(r:aP xs its)(ht:h'.get? p=some { cls:=.type "tuple",data:=.seq its.toArray }):aD X ae σ (upd H p (.tup xs)) { s with heap:=h',toks:=t' }:=by
 have hn:=I.bB.fresh hp;have ne:∀b o,s.heap.get? b=some o->b≠p:=fun b o q=>a8 (bS (aQ q) hp);have IL:∀b u,H b=some u->b∉ch:=fun b u e z=>by rw[(fe b z).1] at e;cases e
 refine I.step (g':=s.gens) (d':=s.drawn) (ch:=ch) (fun b hb=>?_) (fun b o _ _ hb q _=>k b o hb q) (fun b o _ _ hb q _=>⟨o.slots,k b o hb q⟩) (fun b o hb q n=>by rw[ak (ne b o q)];exact n) (fun b o hb q=>⟨o,k b o hb q⟩)
  (fun b ys q=>by rw[ak (aj q hn)];exact q) (fun b o u q=>by rw[ak (aj q hn)];exact q) (fun b ps q=>⟨#[],by rw[ak (aj q hn),q];simp⟩) (fun m hm=>?_) (fun b o q=>?_) I.bare
 .obtain⟨_,f1,_,f3,f4,f5⟩:=fe b hb;exact⟨f3,f1,f4,f5⟩
 .obtain⟨o,es,ep,q,d,r'⟩:=hm;exact⟨o,es,ep,k _ _ (fun z=>(fe _ z).2.1 rfl) q,d,r'⟩
 .by_cases hb:b=p
  .subst hb;rw[af] at q;cases q;exact⟨hl,its,r,_,ht,rfl,_,rfl,rfl⟩
  .rw[ak hb] at q;refine(I.bB b o q).mP (fun c u hc z=>k c u ?_ z) (fun c z=>by rw[ak (aj z hn)];exact z) fun c ys z=>by rw[ak (aj z hn)];exact z
   rcases hc with rfl|hc
   .exact IL _ _ q
   .exact IL _ _ hc
def US(K:PySem.W.Frag)(a b:Addr):It:=
 ⟨fun i H=>∃xs ys x y,bV K H a xs/\bV K H b ys/\xs[i]?=some x/\ys[i]?=some y,fun i H v H'=>∃p x y,v=.ref p/\H p=none/\H'=upd H p (.tup [x,y])/\(∀xs,bV K H a xs->xs[i]?=some x)/\∀ys,bV K H b ys->ys[i]?=some y,fun i H=>∃xs,bV K H a xs/\xs.length<=i⟩
theorem DD{P:Program}{w:World}{K:PySem.W.Frag}{es:List Expr}{x1:Nat}{pos:Pos}(a b z ti tq i1 i2:Addr)(dj:ZipApart z ti tq i1 i2 a b):
  qO P w K (.Tuple es x1 pos) (US K a b) [z,ti,tq,i1,i2] z (fun i h=>IsZip h z ti tq .none/\IsPair h ti (.ref i1) (.ref i2)/\(∃u v,IsPair h tq u v)/\h.IsTupleIter i1 a i/\h.IsTupleIter i2 b i) where
 mem:=by simp
 obj:=fun i h st c hc=>by
  obtain⟨gz,gi,⟨u,v,gq⟩,⟨o1,q1,c1,d1⟩,⟨o2,q2,c2,d2⟩⟩:=st;simp only[aV,eA,eB] at hc;rcases hc with rfl|rfl|rfl|rfl|rfl
  .exact⟨_,gz,fun v z=>by have z':Data.fields _=Data.cell v:=z;cases z'⟩
  .exact⟨_,gi,fun v z=>by have z':Data.seq _ _=Data.cell v:=z;cases z'⟩
  .exact⟨_,gq,fun v z=>by have z':Data.seq _ _=Data.cell v:=z;cases z'⟩
  .exact⟨o1,q1,fun v z=>by rw[d1] at z;cases z⟩
  .exact⟨o2,q2,fun v z=>by rw[d2] at z;cases z⟩
 keep:=fun i h h' st k=>by
  obtain⟨gz,gi,⟨u,v,gq⟩,r1,r2⟩:=st;exact⟨k z (by simp) _ gz,k ti (by simp) _ gi,⟨u,v,k tq (by simp) _ gq⟩,r1.at fun o q=>k i1 (by simp) o q,r2.at fun o q=>k i2 (by simp) o q⟩
 item:=by
  intro X hP hw hK hc i ae s σ H E I hf st hg;subst hP hw hK;obtain⟨xs,ys,x,y,hx,hy,ex,ey⟩:=hg;obtain⟨us,rx,px,_⟩:=I.tuple hx;obtain⟨vs,ry,py,_⟩:=I.tuple hy;obtain⟨u,hu,ru⟩:=rx.get ex;obtain⟨v,hv,rv⟩:=ry.get ey;obtain⟨gz,gi,⟨u0,v0,gq⟩,r1,r2⟩:=st;refine yr dj gz gi gq r1 r2 (show s.heap.IsTuple a us.toArray from px) (show s.heap.IsTuple b vs.toArray from py) (x:=u) (y:=v) (by simpa using hu) (by simpa using hv) fun h1 DA K3 UT UU UV kp=>?_;refine⟨_,rfl,wpAny_letOwnedTupleGo_zip DA fun h2 Ny mf=>?_⟩;have zl:z<s.heap.objs.size:=aQ gz;have nz:s.heap.objs.size≠z:=fQ zl;have Pw:∀c o,c∉[z,tq,i1,i2]->s.heap.get? c=some o->h2.get? c=some o:=fun c o hc e=>by
   simp only[aV,eA,eB,jg] at hc;exact bT mf hc.1 (kp c o hc.1 hc.2.1 hc.2.2.1 hc.2.2.2 e)
  have UX:IsPair h2 ti (.ref i1) (.ref i2):=Pw _ _ (by simp only[aV,eA,eB,jg];exact⟨dj.TIz,dj.TITO,dj.TIi1,dj.TIi2⟩) gi;have fe:∀e∈[z,tq,i1,i2],gf X ae H e:=fun e he=>hf e (by simp only[aV,eA,eB] at he |-;rcases he with h|h|h|h <;> simp[h]);have I2:aD X ae σ (upd H s.heap.objs.size (.tup [x,y])) { s with heap:=h2,toks:=s.toks }:=
   I.z0 (its:=[u,v]) fe Pw (aY _) (by show 2<=sizeLine;decide) (.cons ru (.cons rv .nil)) (bT mf nz UV)
  refine⟨.ref s.heap.objs.size,_,I2,rfl,⟨_,x,y,rfl,I.bB.fresh (aY _),rfl,fun zs hz=>by rw[I.eZ hz hx];exact ex,fun zs hz=>by rw[I.eZ hz hy];exact ey⟩,⟨Ny,UX,⟨u,v,bT mf dj.TOz K3⟩,eK UT mf dj.i1z,eK UU mf dj.i2z⟩,fun c hc=>?_⟩;have f0:=(hf c hc).1;have cl:c<s.heap.objs.size:=by
   simp only[aV,eA,eB] at hc;rcases hc with rfl|rfl|rfl|rfl|rfl
   .exact zl
   .exact aQ gi
   .exact aQ gq
   .obtain⟨o,q,_⟩:=r1;exact aQ q
   .obtain⟨o,q,_⟩:=r2;exact aQ q
  rw[ak (a8 cl)];exact f0
 done:=by
  intro X hP hw hK hc i ae s σ H E I hf st hg;subst hP hw hK;obtain⟨xs,hx,hi⟩:=hg;obtain⟨us,rx,px,_⟩:=I.tuple hx;obtain⟨gz,gi,⟨u0,v0,gq⟩,r1,r2⟩:=st;have hl:=rx.length;refine yt (I.ok.hd hc) dj gz gi r1 (show s.heap.IsTuple a us.toArray from px) (by simp;lia) fun h' kp=>⟨rfl,?_⟩
  have fe:∀e∈[z,i1],gf X ae H e:=fun e he=>hf e (by simp only[aV,eA,eB] at he |-;rcases he with h|h <;> simp[h]);refine I.zZ (t':=s.toks) fe fun c o hc e=>?_;simp only[aV,eA,eB,jg] at hc;exact kp c o hc.1 hc.2 e
 self:=fun _ _ _ _ _ st h=>tu st.1 h
section
variable {X:Cx}
def Px(K:PySem.W.Frag)(ta:TA):TI:=fun σ H R=>ta σ H fun vs H1=>∃a b xs ys,vs=[.ref a,.ref b]/\bV K H1 a xs/\bV K H1 b ys/\xs.length=ys.length/\R (US K a b) H1
theorem Gx{es:List Expr}{x1:Nat}{xN:Pos}{a b:Expr}{ta:TA}{p pos:Pos}(hg:Gl X "zip")(hm:X.mg "zip"=none)(ha:PA X [a,b] ta)(hs:starEach [a,b] X.env=[(false,eval a X.env),(false,eval b X.env)]:=by rfl)(lC:starEach [b] X.env=[(false,eval b X.env)]:=by rfl):
  PI X (.Tuple es x1 xN) (.Call (.Name "zip" p) [a,b] [] pos) (Px X.K ta):=by
 intro ae s σ H R I h;refine Call_ (gH I hg hm PyProof.Rows.boot_zip (o7 (b_ (ha pos ae s σ H _ I h) fun us s1 ⟨vs,H1,I1,r1,q1⟩=>?_) (by rw[hs,lC]) (by rw[lC];rfl)));obtain⟨l,m,xs,ys,rfl,hl,UY,K2,q⟩:=q1;obtain⟨u1,u2,rfl,KU,UZ⟩:=r1.two;obtain rfl:u1=Value.ref l:=KU;obtain rfl:u2=Value.ref m:=UZ;obtain⟨its,rv,pt,_⟩:=I1.tuple hl;obtain⟨iQ,rv2,Py,_⟩:=I1.tuple UY;have eh:l<s1.heap.objs.size:=by obtain⟨o,e,_⟩:=pt;exact aQ e
 have ul:m<s1.heap.objs.size:=by obtain⟨o,e,_⟩:=Py;exact aQ e
 refine Bt (show s1.heap.IsTuple l its.toArray from pt) (show s1.heap.IsTuple m iQ.toArray from Py) fun h' gz gi gq r1 r2 k=>?_;refine tu gz ?_;have I2:aD X ae σ H1 { s1 with heap:=h' }:=I1.kept (t':=s1.toks) k;refine⟨s1.heap.objs.size+4,[s1.heap.objs.size+4,s1.heap.objs.size+2,s1.heap.objs.size+3,s1.heap.objs.size,s1.heap.objs.size+1],_,_,H1,rfl,I2,DD l m _ _ _ _ _ (zipApart_new eh ul),⟨gz,gi,⟨_,_,gq⟩,r1,r2⟩,fun b hb=>?_,q⟩;have kJ:s1.heap.objs.size<=b:=by
  simp only[aV,eA,eB] at hb;rcases hb with rfl|rfl|rfl|rfl|rfl
  .exact iF _ _
  .exact iF _ _
  .exact iF _ _
  .exact aY _
  .exact iF _ _
 exact I1.vc kJ (I1.bB.fresh kJ)
theorem DE{K:PySem.W.Frag}{a b D:Addr}{xs ys:List V}{g:TG}{tt:TT}{te:TE}{cZ:Hp->Prop}{σB:St}{H0:Hp}(K2:xs.length=ys.length)(Pv:Nat->List V->St->Hp->Prop)(h0:Pv 0 [] σB H0)(hl:∀i zs σ H,i<=xs.length->Pv i zs σ H->bV K H a xs/\bV K H b ys)(hs:∀i x y p zs σ H (Kt:V->St->Hp->Prop) (Kf:St->Hp->Prop),xs[i]?=some x->ys[i]?=some y->Pv i zs σ H->H p=none->
   (∀v σ2 H4,H4 D=some (.lst zs)->zs.length<sizeLine->Pv (i+1) (zs++[v]) σ2 (upd H4 D (.lst (zs++[v])))->Kt v σ2 H4)->(∀σ2 H3,Pv (i+1) zs σ2 H3->Kf σ2 H3)->
   g (.ref p) σ (upd H p (.tup [x,y])) fun σ2 H2=>tt σ2 H2 fun b H3=>if b=true then te σ2 H3 fun v H4=>Kt v σ2 H4 else Kf σ2 H3)(hd:∀zs σ H,Pv xs.length zs σ H->cZ H):fq (US K a b) g tt te D cZ σB H0:=by
 refine⟨fun i m σ H=>m=xs.length-i/\i<=xs.length/\∃zs,Pv i zs σ H,⟨xs.length,by simp,cN _,[],h0⟩,?_⟩;rintro i m σ H ⟨rfl,hi,zs,p⟩;obtain⟨q1,q2⟩:=hl i zs σ H hi p;by_cases eh:i<xs.length
 .have ul:i<ys.length:=by lia
  refine .inr ⟨⟨xs,ys,xs[i],ys[i],q1,q2,by simp[eh],by simp[ul]⟩,?_⟩;rintro v H' ⟨pp,x,y,rfl,hn,rfl,F9,U0⟩;exact hs i x y pp zs σ _ (fun v σ2 H4=>∃zs,H4 D=some (.lst zs)/\zs.length<sizeLine/\∃m',m'<xs.length-i/\m'=xs.length-(i+1)/\i+1<=xs.length/\∃kP,Pv (i+1) kP σ2 (upd H4 D (.lst (zs++[v]))))
   (fun σ2 H3=>∃m',m'<xs.length-i/\m'=xs.length-(i+1)/\i+1<=xs.length/\∃kP,Pv (i+1) kP σ2 H3) (F9 xs q1) (U0 ys q2) p hn
   (fun v σ2 H4 z1 z2 z3=>⟨zs,z1,z2,_,by lia,rfl,eh,_,z3⟩) (fun σ2 H3 z=>⟨_,by lia,rfl,eh,_,z⟩)
 .have e:i=xs.length:=by lia
  subst e;exact .inl ⟨⟨xs,q1,aY _⟩,hd zs σ H p⟩
theorem yu(rx:aP xs us)(ry:aP ys vs)(fx:xs.all d_=true)(fy:ys.all d_=true):
  ∀j (h1:j<us.toArray.size) (h2:j<vs.toArray.size),SeqAt.EqAt A s us.toArray[j] vs.toArray[j] (m6 (xs.getD j .bE) (ys.getD j .bE)):=by
 intro j h1 h2;have j1:j<xs.length:=by rw[rx.length];simpa using h1
 have j2:j<ys.length:=by rw[ry.length];simpa using h2
 have e1:xs[j]?=some (xs.getD j .bE):=by rw[aT,bh j1];rfl
 have e2:ys[j]?=some (ys.getD j .bE):=by rw[aT,bh j2];rfl
 obtain⟨u,B6,ru⟩:=rx.get e1;obtain⟨v,F9,rv⟩:=ry.get e2;have eu:us.toArray[j]=u:=by
  have:us[j]?=some us.toArray[j]:=by simp at h1 |-
  rw[B6] at this;exact(be this).symm
 have ev:vs.toArray[j]=v:=by
  have:vs[j]?=some vs.toArray[j]:=by simp at h2 |-
  rw[F9] at this;exact(be this).symm
 rw[eu,ev];exact xX ru rv (lr.mp fx _ (cU e1)) (lr.mp fy _ (cU e2))
theorem DG(I:aD X ae σ H s)(hu:A.units+1<cLine)(ha:bV X.K H a xs)(hb:bV X.K H b ys)(hl:xs.length=ys.length)(fx:xs.all d_=true)(fy:ys.all d_=true):
  SeqAt.EqAt A s (.ref a) (.ref b) (gp m6 xs ys):=by
 by_cases r_:a=b
 .subst r_;have e1:=I.eZ ha hb;subst e1;have e2:gp m6 xs xs=true:=by
   clear ha hb hl fy;induction xs with
   |nil=>rfl
   |cons x xs ih=>
    rw[jd,dH] at fx;rw[gp,ih fx.2,Bool.and_true];cases x <;> first|rfl|(show (_==_)=true;simp)|exact absurd (show false=true from fx.1) cm
  rw[e2];exact SeqAt.EqAt.same _
 .obtain⟨us,r1,p1,_⟩:=I.tuple ha;obtain⟨vs,r2,p2,_⟩:=I.tuple hb;have h:=SeqAt.RcAt.tuples (A:=A) (s:=s) (l:=a) (b:=b) (e:=fun i=>m6 (xs.getD i .bE) (ys.getD i .bE)) (show s.heap.IsTuple a us.toArray from p1) (show s.heap.IsTuple b vs.toArray from p2) (by lia)
   (yu r1 r2 fx fy)
  refine SeqAt.EqAt.of_refs r_ ?_;have er:((List.range (min us.toArray.size vs.toArray.size)).all (fun i=>m6 (xs.getD i .bE) (ys.getD i .bE))&&us.toArray.size==vs.toArray.size)=gp m6 xs ys:=by
   rw[br,br,<-r1.length,<-r2.length,<-hl,Nat.min_self,xj,Bool.and_true,gu hl]
  rw[er] at h;exact h
theorem yv{p q:Int×Int}:gp m6 [.int p.1,.int p.2] [.int q.1,.int q.2]=decide (p=q):=by
 obtain⟨a,b⟩:=p;obtain⟨c,d⟩:=q;show ((a==c)&&((b==d)&&true))=decide ((a,b)=(c,d));by_cases h1:a=c <;> by_cases h2:b=d <;> simp[h1,h2]
def Gy(K:PySem.W.Frag)(zm:Bool):R2:=fun x y H Q=>∃ (p l:Addr) (u:Int×Int) (as:List Addr) (ps:List (Int×Int)),x=.ref p/\y=.ref l/\bV K H p [.int u.1,.int u.2]/\aM K H l (as.map V.ref)/\as.length=ps.length/\(∀i,i<ps.length->bV K H (as.getD i 0) [.int (ps.getD i (0,0)).1,.int (ps.getD i (0,0)).2])/\
 Q (.bl (if zm then !decide (u∈ps) else decide (u∈ps))) H
open Classical in
theorem um(I:aD X ae σ H s):∀ {as:List Addr} {ps:List (Int×Int)},as.length=ps.length->(∀i,i<ps.length->bV X.K H (as.getD i 0) [.int (ps.getD i (0,0)).1,.int (ps.getD i (0,0)).2])->
  ((as.map Value.ref).any fun v=>decide (∃a,v=Value.ref a/\bV X.K H a [.int u.1,.int u.2]))=decide (u∈ps)
 |[],[],_,_=>by simp
 |a::as,p::ps,hl,h=>by
  have ih:=um I (u:=u) (as:=as) (ps:=ps) (by simpa using hl) (fun i hi=>h (i+1) (by simpa using hi));have h0:bV X.K H a [.int p.1,.int p.2]:=h 0 (by simp);rw[dS,iH,ih];have e:decide (∃b,Value.ref a=Value.ref b/\bV X.K H b [.int u.1,.int u.2])=decide (u=p):=by
   rw[ja,pi,pi];constructor
   .rintro⟨b,e,hb⟩;cases e;have:=I.eZ h0 hb;have e1:p.1=u.1:=V.int.inj (mJ this).1;have e2:p.2=u.2:=V.int.inj (mJ (mJ this).2).1;exact ku e1.symm e2.symm
   .rintro rfl;exact⟨a,rfl,h0⟩
  rw[e];by_cases z:u=p
  .simp[z]
  .simp[z]
open Classical in
theorem vP{ae:List (Addr×Obj)}{σ:St}{H:Hp}{s:Shared}{A:Around}(I:aD X ae σ H s)(hu:A.units+1<cLine){p:Addr}{u:Int×Int}(hp:bV X.K H p [.int u.1,.int u.2]){as:List Addr}{ps:List (Int×Int)}(hl:as.length=ps.length)(h:∀i,i<ps.length->bV X.K H (as.getD i 0) [.int (ps.getD i (0,0)).1,.int (ps.getD i (0,0)).2]):∀v∈as.map Value.ref,SeqAt.EqAt A s v (.ref p) (decide (∃a,v=Value.ref a/\bV X.K H a [.int u.1,.int u.2])):=by
 intro v hv;obtain⟨a,ha,rfl⟩:=bH.mp hv;obtain⟨i,hi,e⟩:=mq.mp ha;have hq:=h i (by lia);have ea:as.getD i 0=a:=by rw[aT,bh hi];exact e
 rw[ea] at hq;have z:=DG (A:=A) I hu hq hp rfl rfl rfl;rw[yv] at z;have e:decide (∃b,Value.ref a=Value.ref b/\bV X.K H b [.int u.1,.int u.2])=decide (ps.getD i (0,0)=u):=by
  rw[ja,pi,pi];constructor
  .rintro⟨b,e,hb⟩;cases e;have:=I.eZ hq hb;exact ku (V.int.inj (mJ this).1) (V.int.inj (mJ (mJ this).2).1)
  .intro e;rw[<-e];exact⟨a,rfl,hq⟩
 rw[e];exact z
open Classical in
theorem K4(hu:X.A.units+2<cLine):jF X (compareOp .In) (Gy X.K false):=by
 intro ae s σ H x y v u Q I rx ry h;obtain⟨p,l,w,as,ps,rfl,rfl,hp,hl,dt,Pz,q⟩:=h;obtain rfl:v=Value.ref p:=rx;obtain rfl:u=Value.ref l:=ry;obtain⟨its,r,pl,_⟩:=I.list hl;have e:=lP r;subst e;refine SeqAt.in_listAt (fun v=>decide (∃a,v=Value.ref a/\bV X.K H a [.int w.1,.int w.2])) pl.isList (fun y hy=>vP I (by show X.A.units+1+1<cLine;lia) hp dt Pz y (by simpa using hy)) ⟨.bl _,H,I,rfl,?_⟩;rw[show (as.map Value.ref).toArray.any (fun v=>decide (∃a,v=Value.ref a/\bV X.K H a [.int w.1,.int w.2]))=(as.map Value.ref).any (fun v=>decide (∃a,v=Value.ref a/\bV X.K H a [.int w.1,.int w.2])) by simp,um I dt Pz];exact q
open Classical in
theorem Bu(hu:X.A.units+2<cLine):jF X (compareOp .NotIn) (Gy X.K true):=by
 intro ae s σ H x y v u Q I rx ry h;obtain⟨p,l,w,as,ps,rfl,rfl,hp,hl,dt,Pz,q⟩:=h;obtain rfl:v=Value.ref p:=rx;obtain rfl:u=Value.ref l:=ry;obtain⟨its,r,pl,_⟩:=I.list hl;have e:=lP r;subst e;refine SeqAt.notIn_listAt (fun v=>decide (∃a,v=Value.ref a/\bV X.K H a [.int w.1,.int w.2])) pl.isList (fun y hy=>vP I (by show X.A.units+1+1<cLine;lia) hp dt Pz y (by simpa using hy)) ⟨.bl _,H,I,rfl,?_⟩;rw[show (as.map Value.ref).toArray.any (fun v=>decide (∃a,v=Value.ref a/\bV X.K H a [.int w.1,.int w.2]))=(as.map Value.ref).any (fun v=>decide (∃a,v=Value.ref a/\bV X.K H a [.int w.1,.int w.2])) by simp,um I dt Pz];exact q
end
end L2
namespace kQ
abbrev Ts:=List (Int×Int)
def T(ts:Ts)(a b:Nat):Prop:=(((a:Nat):Int),((b:Nat):Int))∈ts
instance (ts:Ts) (a b:Nat):Decidable (T ts a b):=inferInstanceAs (Decidable (_∈_))
def dF(ts:Ts):Nat->Nat->Nat->Prop
 |0,a,b=>a=b
 |k+1,a,b=>∃c,dF ts k a c/\T ts c b
theorem dF.trans(h:dF ts k a b):∀ {l:Nat} {c:Nat},dF ts l b c->dF ts (k+l) a c
 |0,_,e=>by cases e;exact h
 |l+1,_,⟨d,w,t⟩=>⟨d,h.trans w,t⟩
theorem dF.one(h:T ts a b):dF ts 1 a b:=⟨a,rfl,h⟩
theorem dF.cons(h:T ts a b)(w:dF ts k b c):dF ts (k+1) a c:=by
 have:=(dF.one h).trans w;rwa [Nat.add_comm] at this
def lQ(ts:Ts)(a b d:Nat):Prop:=dF ts d a b/\∀k,dF ts k a b->d<=k
theorem lQ.uniq(h:lQ ts a b d)(g:lQ ts a b e):d=e:=Nat.le_antisymm (h.2 _ g.1) (g.2 _ h.1)
theorem K5{ts:Ts}{a b:Nat}:∀k,dF ts k a b->∃d,lQ ts a b d:=by
 intro k;induction k using Nat.strongRecOn with
 |ind k ih=>
  intro w;by_cases h:∃j,j<k/\dF ts j a b
  .obtain⟨j,hj,wj⟩:=h;exact ih j hj wj
  .exact⟨k,w,fun j wj=>o8 fun z=>h ⟨j,by lia,wj⟩⟩
open Classical in
noncomputable def far(ts:Ts)(a b:Nat):Nat:=if h:∃d,lQ ts a b d then h.choose else 0
theorem DH(h:lQ ts a b d):far ts a b=d:=by
 unfold far;have hx:∃d,lQ ts a b d:=⟨d,h⟩
 rw[dif_pos hx];exact hx.choose_spec.uniq h
theorem K6{ts:Ts}{a b k:Nat}(w:dF ts k a b):lQ ts a b (far ts a b):=by
 obtain⟨d,h⟩:=K5 k w;rw[DH h];exact h
structure ck(n:Nat)(ts:Ts):Prop where
 n1:2<=n
 n2:n<=32
 nd:ts.Nodup
 rg:∀t∈ts,(0<=t.1/\t.1<n)/\(0<=t.2/\t.2<n)
 ne:∀t∈ts,t.1≠t.2
 Jo:∀h:Int,(ts.filter fun t=>decide (t.1=h)).length=(ts.filter fun t=>decide (t.2=h)).length
 most:∀h:Int,(ts.filter fun t=>decide (t.1=h)).length<=8
 con:∀a b,a<n->b<n->∃k,dF ts k a b
theorem se(f:α->Int):∀ (l:List α) (n:Nat),(∀x∈l,0<=f x/\f x<n)->(∀h:Int,(l.filter fun t=>decide (f t=h)).length<=8)->l.length<=8*n:=by
 intro l n;induction n generalizing l with
 |zero=>
  intro h _;cases l with
  |nil=>simp
  |cons x xs=>have:=h x bK;lia
 |succ n ih=>
  intro h h8;have e:l.length=(l.filter fun t=>decide (f t=(n:Int))).length+(l.filter fun t=>!decide (f t=(n:Int))).length:=by
   induction l with
   |nil=>rfl
   |cons x xs ih2=>
    have:=ih2 (fun y hy=>h y (bZ _ hy)) (fun hh=>bj (by rw[dB];split <;> simp) (h8 hh));by_cases q:f x=(n:Int) <;> simp[dB,q] <;> lia
  have i2:=ih (l.filter fun t=>!decide (f t=(n:Int))) (fun x hx=>by
   have a:=h x (dQ.mp hx |>.1);have b:=(dQ.mp hx).2;simp at b;lia) (fun hh=>by
   refine bj ?_ (h8 hh);exact(List.filter_sublist.filter _).length_le)
  have:=h8 (n:Int);lia
theorem ck.len(F:ck n ts):ts.length<=256:=by
 have:=se (·.1) ts n (fun t ht=>(F.rg t ht).1) F.most;have:=F.n2;lia
theorem ck.Sh(F:ck n ts)(h:T ts a b):a<n/\b<n/\a≠b:=by
 have q:=F.rg _ h;have q2:=F.ne _ h;refine⟨by have:=q.1;simp at this;lia,by have:=q.2;simp at this;lia,fun e=>q2 (by rw[e])⟩
theorem ck.K7{n:Nat}{ts:Ts}(F:ck n ts){a b:Nat}(ha:a<n)(hb:b<n):lQ ts a b (far ts a b):=
 let ⟨_,w⟩:=F.con a b ha hb;K6 w
def di(n:Nat)(ts:Ts)(h:Nat):List Nat:=((List.range n).map fun s=>(h+s) % n).filter fun o=>decide (T ts h o)
theorem hW(F:ck n ts)(hh:h<n):o∈di n ts h↔T ts h o:=by
 unfold di;rw[dQ,sU];refine⟨fun z=>z.2,fun z=>⟨?_,z⟩⟩;obtain⟨_,h2,_⟩:=F.Sh z;refine bH.mpr ⟨if h<=o then o-h else o+n-h,cq.mpr (by split <;> lia),?_⟩;split
 .rw[show h+(o-h)=o by lia,mB h2]
 .rw[show h+(o+n-h)=o+n by lia,Nat.add_mod_right,mB h2]
theorem oQ(F:ck n ts)(hh:h<n)(ho:o∈di n ts h):o<n:=(F.Sh ((hW F hh).mp ho)).2.1
def key(n h o:Nat):Int:=((o:Int)-(h:Int)) % (n:Int)
theorem kK(hh:h<n)(hs:s<n):key n h ((h+s) % n)=(s:Int):=by
 unfold key;by_cases c:h+s<n
 .rw[mB c,show (((h+s:Nat):Int)-(h:Int))=(s:Int) by lia];exact Int.emod_eq_of_lt (by lia) (by lia)
 .have e:(h+s) % n=h+s-n:=by
   rw[Nat.mod_eq_sub_mod (by lia),mB (by lia)]
  rw[e,show ((((h+s-n:Nat)):Int)-(h:Int))=(s:Int)-(n:Int) by lia,Int.sub_emod_right];exact Int.emod_eq_of_lt (by lia) (by lia)
theorem vQ(hh:h<n):(di n ts h).Pairwise fun a b=>key n h a<key n h b:=by
 unfold di;refine List.Pairwise.filter _ ?_;refine my.mpr ?_;refine List.Pairwise.imp_of_mem ?_ (List.pairwise_lt_range (n:=n));intro a b ha hb r_;rw[kK hh (cq.mp ha),kK hh (cq.mp hb)];lia
theorem oh{α:Type}{k:α->Int}:∀ {a b:List α},a.Pairwise (fun x y=>k x<k y)->b.Pairwise (fun x y=>k x<k y)->(∀x,x∈a↔x∈b)->a=b
 |[],[],_,_,_=>rfl
 |[],y::ys,_,_,h=>absurd ((h y).mpr bK) (by simp)
 |x::xs,[],_,_,h=>absurd ((h x).mp bK) (by simp)
 |x::xs,y::ys,ha,hb,h=>by
  obtain⟨a1,a2⟩:=List.pairwise_cons.mp ha;obtain⟨b1,b2⟩:=List.pairwise_cons.mp hb;have e:x=y:=by
   rcases aV.mp ((h x).mp bK) with z|z
   .exact z
   .rcases aV.mp ((h y).mpr bK) with z'|z'
    .exact z'.symm
    .have q1:=b1 x z;have q2:=a1 y z';lia
  subst e;refine congrArg (x::·) (oh a2 b2 fun z=>⟨fun hz=>?_,fun hz=>?_⟩)
  .rcases aV.mp ((h z).mp (bZ _ hz)) with q|q
   .subst q;exact absurd (a1 _ hz) (by lia)
   .exact q
  .rcases aV.mp ((h z).mpr (bZ _ hz)) with q|q
   .subst q;exact absurd (b1 _ hz) (by lia)
   .exact q
structure vR(n:Nat)(ts:Ts)(s i:Nat)(R:List Nat)(f:Nat->Nat):Prop where
 nd:R.Nodup
 lt:∀x∈R,x<n
 st:s∈R
 z:f s=0
 wk:∀x∈R,dF ts (f x) s x
 up:R.Pairwise fun a b=>f a<=f b
 bd:∀u,R[i]?=some u->∀x∈R,f x<=f u+1
 cl:∀j u,j<i->R[j]?=some u->∀v,T ts u v->v∈R/\f v<=f u+1
theorem vR.start(hs:s<n):vR n ts s 0 [s] (fun _=>0):=
 ⟨by simp,fun x hx=>by simp at hx;lia,by simp,rfl,fun x hx=>by simp at hx;subst hx;rfl,by simp,fun u _ x _=>by lia,fun j u h=>absurd h (by lia)⟩
def put(f:Nat->Nat)(v k:Nat):Nat->Nat:=fun y=>if y=v then k else f y
theorem f8:put f v k v=k:=by simp[put]
theorem dZ(h:x≠v):put f v k x=f x:=by simp[put,h]
theorem vR.add(B:vR n ts s i R f)(hu:R[i]?=some u)(hv:v<n)(t:T ts u v)(hn:v∉R):vR n ts s i (R++[v]) (put f v (f u+1)):=by
 have Yt:u∈R:=cU hu;have nv:∀x∈R,x≠v:=fun x hx e=>hn (e ▸ hx);have hi:i<R.length:=(dw.mp hu).1;refine⟨?_,fun x hx=>?_,gj _ B.st,by rw[dZ (nv s B.st)];exact B.z,fun x hx=>?_,?_,fun w hw x hx=>?_,fun j w hj hw x hx=>?_⟩
 .rw[xf];exact⟨B.nd,by simp,fun a ha b hb e=>by simp at hb;subst hb;exact hn (e ▸ ha)⟩
 .rcases cH.mp hx with z|z
  .exact B.lt x z
  .simp at z;lia
 .rcases cH.mp hx with z|z
  .rw[dZ (nv x z)];exact B.wk x z
  .simp at z;subst z;rw[f8];exact⟨u,B.wk u Yt,t⟩
 .rw[List.pairwise_append];refine⟨B.up.imp_of_mem fun {a b} ha hb h=>by rw[dZ (nv a ha),dZ (nv b hb)];exact h,by simp,fun a ha b hb=>?_⟩;simp at hb;subst hb;rw[dZ (nv a ha),f8];exact B.bd u hu a ha
 .have hw':w=u:=by
   rw[fP hi,hu] at hw;exact(be hw).symm
  subst hw';rw[dZ (nv w Yt)];rcases cH.mp hx with z|z
  .rw[dZ (nv x z)];exact B.bd w hu x z
  .simp at z;subst z;rw[f8];exact aY _
 .rw[fP (by lia)] at hw;obtain⟨a,b⟩:=B.cl j w hj hw x hx;refine⟨gj _ a,?_⟩;rw[dZ (nv x a),dZ (nv w (cU hw))];exact b
theorem vR.next(B:vR n ts s i R f)(hu:R[i]?=some u)(h:∀v,T ts u v->v∈R/\f v<=f u+1):vR n ts s (i+1) R f:=by
 refine⟨B.nd,B.lt,B.st,B.z,B.wk,B.up,fun w hw x hx=>?_,fun j w hj hw v hv=>?_⟩
 .have h1:=B.bd u hu x hx;have h2:f u<=f w:=by
   have hi:i<R.length:=(dw.mp hu).1;have Fq:i+1<R.length:=(dw.mp hw).1;have:=wN.mp B.up i (i+1) hi Fq (by lia);rw[bh hi] at hu;rw[bh Fq] at hw;rw[be hu,be hw] at this;exact this
  lia
 .by_cases e:j=i
  .subst e;rw[hu] at hw;cases hw;exact h v hv
  .exact B.cl j w (by lia) hw v hv
theorem eM:∀ {n:Nat} {R:List Nat},R.Nodup->(∀x∈R,x<n)->R.length<=n:=by
 intro n R hn hl;have key:∀ (a b:List Nat),a.Nodup->(∀x∈a,x∈b)->a.length<=b.length:=by
  intro a;induction a with
  |nil=>intro b _ _;exact cN _
  |cons x xs ih=>
   intro b hn hs;obtain⟨h1,h2⟩:=eU.mp hn;have hx:x∈b:=hs x bK;have:=ih (b.erase x) h2 fun y hy=>(List.mem_erase_of_ne (fun (e:y=x)=>h1 (e ▸ hy))).mpr (hs y (bZ _ hy));rw[Cj hx] at this;have:0<b.length:=sC hx;rw[dG];lia
 have:=key R (List.range n) hn fun x hx=>cq.mpr (hl x hx);rwa [d9] at this
theorem vR.done(B:vR n ts s i R f)(F:ck n ts)(hi:R.length<=i)(hx:x<n):x∈R/\f x=far ts s x:=by
 have cl:∀u∈R,∀v,T ts u v->v∈R/\f v<=f u+1:=fun u hu v hv=>by
  obtain⟨j,hj,e⟩:=mq.mp hu;exact B.cl j u (by lia) (by rw[bh hj,e]) v hv
 have walk:∀k x,dF ts k s x->x∈R/\f x<=k:=by
  intro k;induction k with
  |zero=>intro x e;cases e;exact⟨B.st,by rw[B.z];exact aY _⟩
  |succ k ih=>
   rintro x ⟨c,w,t⟩;obtain⟨c1,c2⟩:=ih c w;obtain⟨d1,d2⟩:=cl c c1 x t;exact⟨d1,by lia⟩
 obtain⟨k,w⟩:=F.con s x (B.lt s B.st) hx;obtain⟨m,_⟩:=walk k x w;exact⟨m,(DH ⟨B.wk x m,fun k w=>(walk k x w).2⟩).symm⟩
theorem dF.mono(h:∀t∈ts,t∈ts'):∀ {k a b:Nat},dF ts k a b->dF ts' k a b
 |0,_,_,e=>e
 |_+1,_,_,⟨c,w,t⟩=>⟨c,w.mono h,h _ t⟩
structure sf(n:Nat)(ts:Ts):Prop where
 nd:ts.Nodup
 rg:∀t∈ts,(0<=t.1/\t.1<n)/\(0<=t.2/\t.2<n)
 ne:∀t∈ts,t.1≠t.2
 Jo:∀h:Int,(ts.filter fun t=>decide (t.1=h)).length=(ts.filter fun t=>decide (t.2=h)).length
 most:∀h:Int,(ts.filter fun t=>decide (t.1=h)).length<=8
theorem ck.pre(F:ck n ts):sf n ts:=⟨F.nd,F.rg,F.ne,F.Jo,F.most⟩
theorem sf.iR(P:sf n ts)(n1:2<=n)(n2:n<=32)(c:∀a b,a<n->b<n->∃k,dF ts k a b):ck n ts:=⟨n1,n2,P.nd,P.rg,P.ne,P.Jo,P.most,c⟩
theorem ck.app(F:ck n ts)(P:sf n (ts++us)):ck n (ts++us):=
 P.iR F.n1 F.n2 fun a b ha hb=>let ⟨k,w⟩:=F.con a b ha hb;⟨k,w.mono fun t ht=>gj _ ht⟩
def pk(c k:Nat):Nat:=if k=0 then c-1 else k-1
abbrev ci(x:Nat):Int:=(x:Int)
def mh(xs:List Nat):Ts:=(List.range xs.length).map fun k=>(ci (xs.getD (pk xs.length k) 0),ci (xs.getD k 0))
theorem fL{xs:List Nat}{k:Nat}(h:k<xs.length):xs.getD k 0=xs[k]:=by rw[aT,bh h];rfl
theorem z5(xs:List Nat):(mh xs).map (·.2)=xs.map ci:=by
 unfold mh;rw[gZ];apply xp
 .simp
 .intro i h1 h2;simp only[pE,xa,Function.comp];rw[fL (by simpa using h2)]
theorem z6(xs:List Nat):((mh xs).map (·.1)).Perm (xs.map ci):=by
 cases hx:xs with
 |nil=>exact pH _
 |cons y ys=>
  rw[<-hx];have hl:xs.length=ys.length+1:=by rw[hx];rfl
  have e:(mh xs).map (·.1)=ci (xs.getD (xs.length-1) 0)::(xs.take (xs.length-1)).map ci:=by
   unfold mh;rw[gZ];apply xp
   .simp;lia
   .intro i h1 h2;simp only[pE,xa,Function.comp];cases i with
    |zero=>rfl
    |succ i=>
     have hi:i+1<xs.length:=by simpa using h1
     simp only[List.getElem_cons_succ,pE,List.getElem_take];unfold pk;rw[am (by lia),show i+1-1=i by lia,fL (by lia)]
  rw[e];have:xs.map ci=(xs.take (xs.length-1)).map ci++[ci (xs.getD (xs.length-1) 0)]:=by
   conv=>lhs;rw[<-nW (xs.length-1) xs]
   rw[bW];congr 1;rw[rh (by lia),List.drop_eq_nil_of_le (by lia),fL (by lia)];rfl
  rw[this];exact(List.perm_append_singleton _ _).symm
theorem hX(ts:Ts)(h:Int):(ts.filter fun t=>decide (t.1=h)).length=(ts.map (·.1)).count h:=by
 induction ts with
 |nil=>rfl
 |cons t ts ih=>by_cases e:t.1=h <;> simp[dB,xt,e,ih]
theorem nC(ts:Ts)(h:Int):(ts.filter fun t=>decide (t.2=h)).length=(ts.map (·.2)).count h:=by
 induction ts with
 |nil=>rfl
 |cons t ts ih=>by_cases e:t.2=h <;> simp[dB,xt,e,ih]
theorem vS{xs:List Nat}(h:xs.Nodup):(xs.map ci).Nodup:=by
 refine my.mpr (h.imp fun {a b} r_ e=>r_ ?_);exact eV e
theorem lR:∀ {l:List α},(l.map f).Nodup->l.Nodup
 |[],_=>mI
 |a::l,h=>by
  rw[dS] at h;obtain⟨h1,h2⟩:=eU.mp h;exact eU.mpr ⟨fun z=>h1 (bH.mpr ⟨a,z,rfl⟩),lR h2⟩
theorem z7(h:t∈mh xs):∃k,k<xs.length/\t=(ci (xs.getD (pk xs.length k) 0),ci (xs.getD k 0)):=by
 obtain⟨k,hk,rfl⟩:=bH.mp h;exact⟨k,cq.mp hk,rfl⟩
theorem DI(h:k<c):pk c k<c:=by unfold pk;split <;> lia
theorem sg{xs:List Nat}{k:Nat}(h:k<xs.length):xs.getD k 0∈xs:=by rw[fL h];exact fk h
theorem Bv{xs:List Nat}(nd:xs.Nodup){i j:Nat}(hi:i<xs.length)(hj:j<xs.length)(e:xs[i]=xs[j]):i=j:=by
 have pw:=wN.mp nd;rcases Nat.lt_trichotomy i j with z|z|z
 .exact absurd e (pw i j hi hj z)
 .exact z
 .exact absurd e.symm (pw j i hj hi z)
theorem oR{n:Nat}{xs:List Nat}(nd:xs.Nodup)(lt:∀x∈xs,x<n)(c2:2<=xs.length):sf n (mh xs)/\∀h:Int,((mh xs).filter fun t=>decide (t.1=h)).length<=1:=by
 have U1:((mh xs).map (·.2)).Nodup:=by rw[z5];exact vS nd
 have one:∀h:Int,((mh xs).filter fun t=>decide (t.1=h)).length<=1:=fun h=>by
  rw[hX,(z6 xs).count_eq];exact List.nodup_iff_count.mp (vS nd) h
 refine⟨⟨lR U1,fun t ht=>?_,fun t ht=>?_,fun h=>?_,fun h=>bj (one h) (by decide)⟩,one⟩
 .obtain⟨k,hk,rfl⟩:=z7 ht;have h1:=lt _ (sg (DI hk));have h2:=lt _ (sg hk);simp only[ci];lia
 .obtain⟨k,hk,rfl⟩:=z7 ht;intro e;have e':xs.getD (pk xs.length k) 0=xs.getD k 0:=eV e;rw[fL (DI hk),fL hk] at e';have:=Bv nd (DI hk) hk e';unfold pk at this;split at this <;> lia
 .rw[hX,nC,(z6 xs).count_eq,z5]
theorem oT(P:sf n ts)(Q:sf n us)(hd:∀t∈us,t∉ts)(hm:∀h:Int,(ts.filter fun t=>decide (t.1=h)).length+(us.filter fun t=>decide (t.1=h)).length<=8):sf n (ts++us):=by
 refine⟨xf.mpr ⟨P.nd,Q.nd,fun a ha b hb e=>hd b hb (e ▸ ha)⟩,fun t ht=>?_,fun t ht=>?_,fun h=>?_,fun h=>?_⟩
 .rcases cH.mp ht with z|z
  .exact P.rg t z
  .exact Q.rg t z
 .rcases cH.mp ht with z|z
  .exact P.ne t z
  .exact Q.ne t z
 .rw[eR,eR,cV,cV,P.Jo,Q.Jo]
 .rw[eR,cV];exact hm h
theorem Bw(P:sf n ts)(nd:xs.Nodup)(lt:∀x∈xs,x<n)(c2:2<=xs.length)(hf:∀t∈mh xs,(ts.filter fun u=>decide (u.1=t.1)).length<=7)(hn:∀t∈mh xs,t∉ts):sf n (ts++mh xs):=by
 obtain⟨Q,one⟩:=oR nd lt c2;refine oT P Q hn fun h=>?_;by_cases z:(mh xs).filter (fun t=>decide (t.1=h))=[]
 .rw[z];simpa using P.most h
 .obtain⟨t,ht⟩:=List.exists_mem_of_ne_nil _ z;obtain⟨h1,h2⟩:=dQ.mp ht;have e:t.1=h:=by simpa using h2
  have a:=hf t h1;rw[e] at a;have:=one h;lia
theorem Jp(hk:k<xs.length):T (mh xs) (xs.getD (pk xs.length k) 0) (xs.getD k 0):=bH.mpr ⟨k,cq.mpr hk,rfl⟩
theorem yw(i:Nat):∀ (d:Nat),i+d<xs.length->dF (mh xs) d (xs.getD i 0) (xs.getD (i+d) 0)
 |0,_=>rfl
 |d+1,h=>by
  refine⟨_,yw i d (by lia),?_⟩;have:=Jp (xs:=xs) (k:=i+(d+1)) h;unfold pk at this;rw[am (by lia)] at this;exact this
theorem Bx{n:Nat}{xs:List Nat}(n1:2<=n)(n2:n<=32)(pm:xs.Perm (List.range n)):ck n (mh xs):=by
 have hl:xs.length=n:=by rw[pm.length_eq,d9]
 have nd:xs.Nodup:=pm.nodup_iff.mpr kh;have lt:∀x∈xs,x<n:=fun x hx=>cq.mp (pm.mem_iff.mp hx);refine(oR nd lt (by lia)).1.iR n1 n2 fun a b ha hb=>?_;obtain⟨i,hi,ei⟩:=mq.mp (pm.mem_iff.mpr (cq.mpr ha));obtain⟨j,hj,ej⟩:=mq.mp (pm.mem_iff.mpr (cq.mpr hb));have w1:=yw (xs:=xs) i (xs.length-1-i) (by lia);have t0:=Jp (xs:=xs) (k:=0) (by lia);have w3:=yw (xs:=xs) 0 j (by lia);rw[show i+(xs.length-1-i)=xs.length-1 by lia] at w1;rw[show pk xs.length 0=xs.length-1 from rfl] at t0;rw[Nat.zero_add] at w3;have w:=w1.trans (dF.cons t0 w3);rw[fL hi,fL hj,ei,ej] at w;exact⟨_,w⟩
structure nE(n:Nat)(os:List Nat)(k:Nat)(ts:Ts):Prop where
 pre:sf n ts
 ends:∀t∈ts,∃a b,a∈os.take k/\b∈os.take k/\t=(ci a,ci b)
 con:∀a b,a∈os.take k->b∈os.take k->∃j,dF ts j a b
 len:ts.length+2=2*k
theorem nE.start(h:0<os.length):nE n os 1 []:=by
 refine⟨⟨mI,(fun t h=>nomatch h),(fun t h=>nomatch h),fun h=>rfl,fun h=>by simp⟩,(fun t h=>nomatch h),fun a b ha hb=>?_,rfl⟩;cases os with
 |nil=>simp at h
 |cons o os=>
  simp at ha hb;exact⟨0,by rw[ha,hb];rfl⟩
theorem nE.add(Tr:nE n os k ts)(nd:os.Nodup)(lt:∀x∈os,x<n)(hv:os[k]?=some v)(hs:s∈os.take k)(hd:(ts.filter fun t=>decide (t.1=ci s)).length<8):nE n os (k+1) (ts++[(ci s,ci v),(ci v,ci s)]):=by
 have tk:os.take (k+1)=os.take k++[v]:=by rw[gk,hv];rfl
 have nd1:(os.take k++[v]).Nodup:=by rw[<-tk];exact nd.sublist (mx _ _)
 have vn:v∉os.take k:=fun z=>(xf.mp nd1).2.2 v z v (by simp) rfl;have sv:s≠v:=fun e=>vn (e ▸ hs);have vm:v∈os:=cU hv;have sl:=lt s (lm hs);have vl:=lt v vm;have U2:∀t∈ts,t.1≠ci v/\t.2≠ci v:=fun t ht=>by
  obtain⟨a,b,ha,hb,rfl⟩:=Tr.ends t ht;exact⟨fun e=>vn (eV e ▸ ha),fun e=>vn (eV e ▸ hb)⟩
 have Q:sf n [(ci s,ci v),(ci v,ci s)]:=by
  have PB:ci s≠ci v:=fun e=>sv (eV e);refine⟨?_,fun t ht=>?_,fun t ht=>?_,fun h=>?_,fun h=>bj (gX _ _) (by simp)⟩
  .simp[PB]
  .simp at ht;rcases ht with rfl|rfl <;> (simp only[ci];lia)
  .simp at ht;rcases ht with rfl|rfl
   .exact PB
   .exact PB.symm
  .by_cases a:ci s=h <;> by_cases b:ci v=h <;> simp[dB,a,b]
 have P2:sf n (ts++[(ci s,ci v),(ci v,ci s)]):=by
  refine oT Tr.pre Q (fun t ht z=>?_) fun h=>?_
  .simp at ht;rcases ht with rfl|rfl
   .exact(U2 _ z).2 rfl
   .exact(U2 _ z).1 rfl
  .have PB:ci s≠ci v:=fun e=>sv (eV e);by_cases a:ci s=h
   .subst a;have b:¬ ci v=ci s:=PB.symm;simp only[dB,decide_true,gE,cM b];simp;lia
   .by_cases b:ci v=h
    .subst b;have z:ts.filter (fun t=>decide (t.1=ci v))=[]:=sH.mpr fun t ht=>by simpa using (U2 t ht).1
     rw[z];exact bj (Nat.add_le_add_left (gX _ _) _) (by simp)
    .have:=Tr.pre.most h;simp[dB,a,b];exact this
 have up:∀t∈ts,t∈ts++[(ci s,ci v),(ci v,ci s)]:=fun t ht=>gj _ ht;have t1:T (ts++[(ci s,ci v),(ci v,ci s)]) s v:=iC _ (by simp);have t2:T (ts++[(ci s,ci v),(ci v,ci s)]) v s:=iC _ (by simp);have toS:∀a,a∈os.take k++[v]->∃j,dF (ts++[(ci s,ci v),(ci v,ci s)]) j a s:=fun a ha=>by
  rcases cH.mp ha with z|z
  .obtain⟨j,w⟩:=Tr.con a s z hs;exact⟨j,w.mono up⟩
  .simp at z;subst z;exact⟨1,dF.one t2⟩
 have ofS:∀b,b∈os.take k++[v]->∃j,dF (ts++[(ci s,ci v),(ci v,ci s)]) j s b:=fun b hb=>by
  rcases cH.mp hb with z|z
  .obtain⟨j,w⟩:=Tr.con s b hs z;exact⟨j,w.mono up⟩
  .simp at z;subst z;exact⟨1,dF.one t1⟩
 refine⟨P2,fun t ht=>?_,fun a b ha hb=>?_,?_⟩
 .rw[tk];rcases cH.mp ht with z|z
  .obtain⟨a,b,ha,hb,e⟩:=Tr.ends t z;exact⟨a,b,gj _ ha,gj _ hb,e⟩
  .simp at z;rcases z with rfl|rfl
   .exact⟨s,v,gj _ hs,by simp,rfl⟩
   .exact⟨v,s,by simp,gj _ hs,rfl⟩
 .rw[tk] at ha hb;obtain⟨i,w1⟩:=toS a ha;obtain⟨j,w2⟩:=ofS b hb;exact⟨i+j,w1.trans w2⟩
 .have:=Tr.len;rw[cV];simp;lia
theorem nE.iR(Tr:nE n os n ts)(n1:2<=n)(n2:n<=32)(pm:os.Perm (List.range n)):ck n ts:=by
 have hl:os.length=n:=by rw[pm.length_eq,d9]
 refine Tr.pre.iR n1 n2 fun a b ha hb=>Tr.con a b ?_ ?_
 .rw[mj (by lia)];exact pm.mem_iff.mpr (cq.mpr ha)
 .rw[mj (by lia)];exact pm.mem_iff.mpr (cq.mpr hb)
theorem ck.K8{n:Nat}{ts:Ts}(F:ck n ts){a b k:Nat}(ha:a<n)(hb:b<n)(w:dF ts k a b):far ts a b<=k:=(F.K7 ha hb).2 k w
end kQ
namespace L2
open PySem PySem.Spec PyProof.Rows
section
variable {X:Cx}
theorem vT:∀ {ns:List Int} {its:List Value},aP (ns.map V.int) its->∃xs:List (Int×Tok),its=xs.map (fun p=>Value.int p.1 p.2)/\xs.map (·.1)=ns
 |[],_,r=>by cases r;exact⟨[],rfl,rfl⟩
 |n::ns,_,r=>by
  cases r with
  |cons r rr=>
   obtain⟨t,rfl⟩:=(show ∃t,_=Value.int n t from r)
   obtain⟨xs,rfl,e⟩:=vT rr;exact⟨(n,t)::xs,rfl,by rw[dS,e]⟩
def PD(K:PySem.W.Frag):List V->Hp->VK->Prop:=fun xs H Q=>∃ (l:Addr) (ns:List Int),xs=[.ref l]/\aM K H l (ns.map V.int)/\ns≠[]/\∀M,M∈ns->(∀a∈ns,a<=M)->Q (.int M) H
theorem By(hc:X.calm=true):eX X (.builtin "max") (PD X.K):=by
 intro ae s σ H xs us Q I r h;obtain⟨l,ns,rfl,hl,kI,q⟩:=h;obtain⟨u1,rfl,r1⟩:=r.one;obtain rfl:u1=Value.ref l:=r1;obtain⟨its,rv,pl,_⟩:=I.list hl;obtain⟨ps,rfl,rfl⟩:=vT rv;have hi:intItems ps.toArray=(ps.map (fun p=>Value.int p.1 p.2)).toArray:=by unfold intItems;simp
 have hsz:0<ps.toArray.size:=by
  cases ps with
  |nil=>exact absurd rfl kI
  |cons p ps=>simp
 refine max_intList (I.ok.hd hc) (xs:=ps.toArray) (by rw[hi];exact pl.isList) hsz fun v h' tk hv hk=>?_;obtain⟨t,rfl⟩:=intItems_at hv;obtain⟨h1,h2⟩:=argBest_gt (numAt ps.toArray) (ps.toArray.size-1);have num:∀j,j<ps.length->numAt ps.toArray j∈ps.map (·.1)/\numAt ps.toArray j=(ps.map (·.1)).getD j 0:=fun j hj=>by
  have e:numAt ps.toArray j=ps[j].1:=by unfold numAt;simp[bh hj]
  refine⟨by rw[e];exact bH.mpr ⟨_,fk hj,rfl⟩,?_⟩;rw[e,aT,cw,bh hj];rfl
 have hb:argBest (fun i j=>decide (numAt ps.toArray i > numAt ps.toArray j)) (ps.toArray.size-1)<ps.length:=by
  have:ps.toArray.size=ps.length:=by simp
  lia
 refine⟨.int _,H,I.kept (t':=tk) hk,⟨t,rfl⟩,q _ (num _ hb).1 fun a ha=>?_⟩;obtain⟨j,hj,e⟩:=mq.mp ha;rw[aJ] at hj;have:=h2 j (by (have:ps.toArray.size=ps.length:=by simp);lia);rw[(num j hj).2,aT,bh (by rw[aJ];exact hj)] at this;rw[<-e];exact this
end
end L2
namespace kQ
abbrev yx(u:Int×Int):Int×Int:=(u.2,u.1)
def jS(ps:Ts):Ts:=ps.flatMap fun u=>[u,yx u]
theorem qr:jS (ps++qs)=jS ps++jS qs:=List.flatMap_append
theorem lT:∀ {ps:Ts},(jS ps).Perm (ps++ps.map yx)
 |[]=>pH _
 |u::ps=>by
  have ih:=lT (ps:=ps);show (u::yx u::jS ps).Perm (u::(ps++yx u::ps.map yx));refine List.Perm.cons _ ?_;exact(ih.cons _).trans List.perm_middle.symm
theorem z8(h:u∈jS ps):yx u∈jS ps:=by
 obtain⟨v,hv,hu⟩:=xo.mp h;refine xo.mpr ⟨v,hv,?_⟩;rcases aV.mp hu with e|e
 .rw[e];exact bZ _ (cy.mpr rfl)
 .rw[cy.mp e];exact bK
theorem jI:u∈jS ps↔u∈ps\/yx u∈ps:=by
 rw[(lT (ps:=ps)).mem_iff,cH];refine or_congr Iff.rfl ⟨fun h=>?_,fun h=>bH.mpr ⟨_,h,rfl⟩⟩;obtain⟨v,hv,rfl⟩:=bH.mp h;exact hv
theorem Gz:((jS ps).map yx).Perm (jS ps):=by
 refine((lT (ps:=ps)).map yx).trans (List.Perm.trans ?_ (lT (ps:=ps)).symm);rw[bW,gZ];have e:ps.map (yx ∘ yx)=ps:=(nX fun u _=>rfl).trans (mK ps);rw[e];exact iU
def Bz(x:Nat):List Nat->Bool
 |[]=>false
 |y::ys=>Nat.beq x y||Bz x ys
theorem qt:∀ {ys:List Nat},Bz x ys=true↔x∈ys
 |[]=>by simp[Bz]
 |y::ys=>by
  unfold Bz;rw[tj,qt (ys:=ys),aV];exact or_congr ⟨fun h=>o_ h,fun h=>by rw[h];exact pN y⟩ Iff.rfl
def Si:List Nat->Bool
 |[]=>true
 |x::xs=>!Bz x xs&&Si xs
theorem DJ:∀ {xs:List Nat},Si xs=true->xs.Nodup
 |[],_=>mI
 |x::xs,h=>by
  unfold Si at h;rw[dH] at h;refine eU.mpr ⟨fun z=>?_,DJ h.2⟩;rw[qt.mpr z] at h;exact absurd h.1 (by decide)
abbrev nF(q:Nat×Nat):Int×Int:=((q.1:Int),(q.2:Int))
def Sj(qs:List (Nat×Nat)):List Nat:=qs.flatMap fun q=>[64*q.1+q.2,64*q.2+q.1]
def NC(c:Nat):Int×Int:=(((c / 64:Nat):Int),((c % 64:Nat):Int))
theorem yy(h:b<64):NC (64*a+b)=((a:Int),(b:Int)):=by
 unfold NC;rw[show (64*a+b) / 64=a by lia,show (64*a+b) % 64=b by lia]
theorem uo:∀ {qs:List (Nat×Nat)},(∀q∈qs,q.1<64/\q.2<64)->(Sj qs).map NC=jS (qs.map nF)
 |[],_=>rfl
 |q::qs,h=>by
  have ih:=uo (qs:=qs) fun x hx=>h x (bZ _ hx);obtain⟨h1,h2⟩:=h q bK;show NC (64*q.1+q.2)::NC (64*q.2+q.1)::(Sj qs).map NC=nF q::yx (nF q)::jS (qs.map nF);rw[ih,yy h2,yy h1]
def b1(b:Bool):Nat:=cond b 1 0
def vU(h:Nat):List (Nat×Nat)->Nat
 |[]=>0
 |q::qs=>b1 (Nat.beq q.1 h)+(b1 (Nat.beq q.2 h)+vU h qs)
theorem oU{h:Nat}:∀ {qs:List (Nat×Nat)},((jS (qs.map nF)).filter fun t=>decide (t.1=(h:Int))).length=vU h qs
 |[]=>rfl
 |q::qs=>by
  have ih:=oU (h:=h) (qs:=qs);have e:∀a:Nat,(if decide ((a:Int)=(h:Int))=true then 1 else 0)=b1 (Nat.beq a h):=fun a=>by
   by_cases c:a=h
   .subst c;rw[if_pos (by simp),pN];rfl
   .rw[am (by simp;lia),show Nat.beq a h=false from xh.mpr fun z=>c (o_ z)];rfl
  show ((nF q::yx (nF q)::jS (qs.map nF)).filter _).length=b1 (Nat.beq q.1 h)+(b1 (Nat.beq q.2 h)+vU h qs);rw[<-ih,<-e q.1,<-e q.2,dB,dB];split <;> split <;> simp <;> lia
def z9(n:Nat)(qs:List (Nat×Nat)):Bool:=Nat.ble 2 n&&(Nat.ble n 32&&(Si (Sj qs)&&(qs.all (fun q=>Nat.blt q.1 n&&(Nat.blt q.2 n&&!Nat.beq q.1 q.2))&&((List.range n).all (fun h=>Nat.ble (vU h qs) 8) &&
 (List.range n).all (fun v=>Nat.beq v 0||(List.range v).reverse.any (fun u=>Bz (64*u+v) (Sj qs)))))))
theorem kT(h:Nat.blt a b=true):a<b:=sJ h
theorem vV(h:z9 n qs=true):ck n (jS (qs.map nF))/\∀q∈qs,q.1<64/\q.2<64:=by
 unfold z9 at h;simp only[dH,lr,cq,tj,i8,List.mem_reverse] at h;obtain⟨h1,h2,h3,h4,h5,h6⟩:=h;have h1:=sJ h1;have h2:=sJ h2;have U3:∀q∈qs,q.1<64/\q.2<64:=fun q hq=>⟨by have:=kT (h4 q hq).1;lia,by have:=kT (h4 q hq).2.1;lia⟩
 have mem:∀t∈jS (qs.map nF),∃q∈qs,t=nF q\/t=yx (nF q):=fun t ht=>by
  rcases jI.mp ht with z|z
  .obtain⟨q,hq,e⟩:=bH.mp z;exact⟨q,hq,.inl e.symm⟩
  .obtain⟨q,hq,e⟩:=bH.mp z;exact⟨q,hq,.inr (by rw[e])⟩
 have rg:∀t∈jS (qs.map nF),((0<=t.1/\t.1<n)/\(0<=t.2/\t.2<n))/\t.1≠t.2:=fun t ht=>by
  obtain⟨q,hq,e⟩:=mem t ht;have a:=kT (h4 q hq).1;have b:=kT (h4 q hq).2.1;have c:q.1≠q.2:=fun z=>by have:=(h4 q hq).2.2;rw[z,pN] at this;exact absurd this (by decide)
  rcases e with rfl|rfl
  .exact⟨⟨⟨by show (0:Int)<=(q.1:Int);lia,by show (q.1:Int)<n;lia⟩,by show (0:Int)<=(q.2:Int);lia,by show (q.2:Int)<n;lia⟩,by show ((q.1:Nat):Int)≠(q.2:Nat);lia⟩
  .exact⟨⟨⟨by show (0:Int)<=(q.2:Int);lia,by show (q.2:Int)<n;lia⟩,by show (0:Int)<=(q.1:Int);lia,by show (q.1:Int)<n;lia⟩,by show ((q.2:Nat):Int)≠(q.1:Nat);lia⟩
 have Jo:∀h:Int,((jS (qs.map nF)).filter fun t=>decide (t.1=h)).length=((jS (qs.map nF)).filter fun t=>decide (t.2=h)).length:=fun h=>by
  rw[<-(Gz (ps:=qs.map nF)).filter (fun t=>decide (t.1=h)) |>.length_eq,List.filter_map,aJ];rfl
 have nd:(jS (qs.map nF)).Nodup:=by
  rw[<-uo U3];refine List.Pairwise.map _ (fun a b r_ e=>r_ ?_) (List.nodup_iff_pairwise_ne.mp (DJ h3));have e1:a / 64=b / 64:=eV (congrArg Prod.fst e);have e2:a % 64=b % 64:=eV (congrArg Prod.snd e);lia
 refine⟨⟨h1,h2,nd,fun t ht=>(rg t ht).1,fun t ht=>(rg t ht).2,Jo,fun h=>?_,fun a b ha hb=>?_⟩,U3⟩
 .by_cases c:0<=h/\h<n
  .have:=sJ (h5 h.toNat (by lia));rw[<-oU,w9 c.1] at this;exact this
  .have e:(jS (qs.map nF)).filter (fun t=>decide (t.1=h))=[]:=sH.mpr fun t ht e=>c ((show t.1=h from of_decide_eq_true e) ▸ (rg t ht).1.1);rw[e];exact cN _
 .have F0:∀v,v<n->(∃k,dF (jS (qs.map nF)) k 0 v)/\∃k,dF (jS (qs.map nF)) k v 0:=by
   intro v;induction v using Nat.strongRecOn with
   |ind v ih=>
    intro hv;rcases h6 v hv with e|⟨u,hu,t1⟩
    .have e:=o_ e;subst e;exact⟨⟨0,rfl⟩,0,rfl⟩
    .obtain⟨⟨k,w⟩,l,w'⟩:=ih u hu (by lia);have t:T (jS (qs.map nF)) u v:=by
      have:=bH.mpr ⟨_,qt.mp t1,yy (a:=u) (b:=v) (by lia)⟩;rw[uo U3] at this;exact this
     have t':T (jS (qs.map nF)) v u:=z8 t;exact⟨⟨k+1,u,w,t⟩,l+1,dF.cons t' w'⟩
  obtain⟨_,k,w⟩:=F0 a ha;obtain⟨⟨l,w'⟩,_⟩:=F0 b hb;exact⟨_,w.trans w'⟩
end kQ
namespace uq
open PySem L2
def top(i:Nat):Stmt:=PySem.Challenge.pw_neverwait_k82_whole_first_letters_alone.main.body.getD i (.Pass ⟨0,0,0,0⟩)
abbrev yz:Stmt:=top 7
abbrev ur:Stmt:=top 8
abbrev yA:Stmt:=top 9
abbrev K9:Stmt:=top 11
structure Bl(mg:Str->Option Value):Prop where
 ND:mg "isinstance"=none
 int:mg "int"=none
 bool:mg "bool"=none
 tup:mg "tuple"=none
 lst:mg "list"=none
 str:mg "str"=none
 set:mg "set"=none
 len:mg "len"=none
 range:mg "range"=none
 sorted:mg "sorted"=none
 any:mg "any"=none
 max:mg "max"=none
 min:mg "min"=none
 aae:mg "ValueError"=none
 all:mg "all"=none
def DK(K:PySem.W.Frag)(H:Hp)(x:V):Prop:=∃t,No K H x t/\(PySem.W.kitOne K t (.type "int")=some false\/(PySem.W.kitOne K t (.type "int")=some true/\PySem.W.kitOne K t (.type "bool")=some true))
theorem vW:PySem.W.kitOne K (.type "int") (.type "int")=some true:=by kernel_rfl
theorem ut:PySem.W.kitOne K (.type "int") (.type "bool")=some false:=by kernel_rfl
inductive Wh (K:PySem.W.Frag) (H:Hp):V->Option Int->Prop where
 |int (i:Int):Wh K H (.int i) (some i)
 |no {x:V} (h:DK K H x):Wh K H x none
def oW(K:PySem.W.Frag):Sp:=fun vs H Q _=>∃x o,vs=[x]/\Wh K H x o/\Q (.bl o.isSome) H
section
variable {P:Program} {w:World} {K:PySem.W.Frag} {mg:Str->Option Value} {base:Heap}
theorem GA:aE ["thing"] ["thing"] (ap yz):=⟨rfl,rfl,rfl,by decide +kernel,rfl,by decide +kernel,by decide +kernel⟩
theorem DL(F:fJ K "is_whole" "is_whole" yz f fd)(B:Bl mg):bz P w K mg base bf 1 f fd ["thing"] (oW K):=by
 refine F.ok GA (fun vs H Q E h=>?_) (fun dU A outer s H vs Q E hr h=>?_)
 .obtain⟨x,o,rfl,_⟩:=h;rfl
 .obtain⟨x,o,rfl,W,k⟩:=h;refine⟨_,ao (aX (mV (aA jq (by rfl) B.ND rf (aa (pv 0) (aa (lw (v:=.ty "int") rfl B.int PyProof.Rows.boot_int rfl) ag)))
   (mU (Kb (aA jq (by rfl) B.ND rf (aa (pv 0) (aa (lw (v:=.ty "bool") rfl B.bool PyProof.Rows.boot_bool rfl) ag))))))),?_⟩
  cases W with
  |int i=>
   refine⟨_,rfl,_,_,_,.type "int",true,rfl,⟨rfl,vW⟩,.of (.int _),true,rfl,?_⟩;exact⟨_,rfl,_,_,_,.type "int",false,rfl,⟨rfl,ut⟩,.of (.int _),false,rfl,k⟩
  |no h=>
   obtain⟨t,ty,h|⟨h1,h2⟩⟩:=h
   .exact⟨_,rfl,_,_,_,t,false,rfl,⟨rfl,h⟩,ty,false,rfl,k⟩
   .refine⟨_,rfl,_,_,_,t,true,rfl,⟨rfl,h1⟩,ty,true,rfl,?_⟩;exact⟨_,rfl,_,_,_,t,true,rfl,⟨rfl,h2⟩,ty,true,rfl,k⟩
def gO(o:Option Int)(lo hi:Int):Bool:=match o with
 |some i=>decide (lo<=i)&&decide (i<=hi)
 |none=>false
def lU(K:PySem.W.Frag):Sp:=fun vs H Q _=>∃x o lo hi,vs=[x,.int lo,.int hi]/\Wh K H x o/\Q (.bl (gO o lo hi)) H
theorem DM:aE ["thing","least","most"] ["thing","least","most"] (ap ur):=⟨rfl,rfl,rfl,by decide +kernel,rfl,by decide +kernel,by decide +kernel⟩
theorem BA(F:fJ K "is_whole_within" "is_whole_within" ur f fd)(W:cQ P w K mg base bf 1 "is_whole" ["thing"] (oW K)):bz P w K mg base bf 2 f fd ["thing","least","most"] (lU K):=by
 refine F.ok DM (fun vs H Q E h=>?_) (fun dU A outer s H vs Q E hr h=>?_)
 .obtain⟨x,o,lo,hi,rfl,_⟩:=h;rfl
 .obtain⟨x,o,lo,hi,rfl,wh,k⟩:=h;refine⟨_,ao (aX (mV (aB W hr aI (aa (pv 0) ag)) (mU (CC CA CA (pv 1) (pv 0) (pv 2))))),?_⟩;refine⟨_,rfl,x,o,rfl,wh,?_⟩;cases wh with
  |no h=>exact⟨false,rfl,k⟩
  |int i=>
   refine⟨true,rfl,_,rfl,_,rfl,_,_,rfl,rfl,_,rfl,?_⟩;show if decide (lo<=i)=true then _ else _
   have k':Q (.bl (decide (lo<=i)&&decide (i<=hi))) H:=k;by_cases h:lo<=i
   .rw[cR h] at k' |-;exact⟨_,rfl,_,_,rfl,rfl,k'⟩
   .rw[cM h] at k' |-;exact k'
def oX(K:PySem.W.Frag):Sp:=fun vs H Q _=>∃x o n,vs=[.int n,x]/\Wh K H x o/\Q (.bl (gO o 0 (n-1))) H
theorem GB:aE ["many","thing"] ["many","thing"] (ap yA):=⟨rfl,rfl,rfl,by decide +kernel,rfl,by decide +kernel,by decide +kernel⟩
theorem DN(F:fJ K "is_house" "is_house" yA f fd)(W:cQ P w K mg base bf 2 "is_whole_within" ["thing","least","most"] (lU K)):bz P w K mg base bf 3 f fd ["many","thing"] (oX K):=by
 refine F.ok GB (fun vs H Q E h=>?_) (fun dU A outer s H vs Q E hr h=>?_)
 .obtain⟨x,o,n,rfl,_⟩:=h;rfl
 .obtain⟨x,o,n,rfl,wh,k⟩:=h;refine⟨_,ao (aX (aB W hr aI (aa (pv 1) (aa av (aa (bJ mX (pv 0) av) ag))))),?_⟩;exact⟨_,rfl,_,rfl,_,_,rfl,rfl,x,o,0,n-1,rfl,wh,k⟩
inductive Rw (K:PySem.W.Frag) (H:Hp):V->Option (List V)->Prop where
 |tup {p:Addr} {xs:List V} (h:H p=some (.tup xs)):Rw K H (.ref p) (some xs)
 |no {x:V} {t:Value} (ty:No K H x t) (h:PySem.W.kitOne K t (.type "tuple")=some false):Rw K H x none
def PF(o:Option (List V))(m:Int):Bool:=match o with
 |some xs=>decide ((xs.length:Int)=m)
 |none=>false
theorem GD:PySem.W.kitOne K (.type "tuple") (.type "tuple")=some true:=by kernel_rfl
def z_(K:PySem.W.Frag):Sp:=fun vs H Q _=>∃x o m,vs=[x,.int m]/\Rw K H x o/\Q (.bl (PF o m)) H
theorem PJ:aE ["thing","length"] ["thing","length"] (ap K9):=⟨rfl,rfl,rfl,by decide +kernel,rfl,by decide +kernel,by decide +kernel⟩
theorem K_(F:fJ K "is_row" "is_row" K9 f fd)(B:Bl mg):bz P w K mg base bf 1 f fd ["thing","length"] (z_ K):=by
 refine F.ok PJ (fun vs H Q E h=>?_) (fun dU A outer s H vs Q E hr h=>?_)
 .obtain⟨x,o,m,rfl,_⟩:=h;rfl
 .obtain⟨x,o,m,rfl,W,k⟩:=h;refine⟨_,ao (aX (mV (aA jq (by rfl) B.ND rf (aa (pv 0) (aa (lw (v:=.ty "tuple") rfl B.tup pb rfl) ag)))
   (mU (io jl (aA az (by rfl) B.len cB (aa (pv 0) ag)) (pv 1) (aU _))))),?_⟩
  cases W with
  |@tup p xs h=>
   refine⟨_,rfl,_,_,_,.type "tuple",true,rfl,⟨rfl,GD⟩,.of (.tup h),true,rfl,?_⟩;refine⟨_,rfl,_,_,rfl,.inr (bV.of h),_,rfl,rfl,?_⟩;have e:decide (V.int ((xs.length:Nat):Int)=V.int m)=decide (((xs.length:Nat):Int)=m):=by simp
   rw[e];exact k
  |no ty h=>exact⟨_,rfl,_,_,_,_,false,rfl,⟨rfl,h⟩,ty,false,rfl,k⟩
end
theorem a_(s:aF H H')(hD:H D=none):aF H (upd H' D o):=fun b u e=>by rw[ak (aj e hD)];exact s b u e
abbrev IV(ns:List Int):List V:=ns.map V.int
abbrev NV(ns:List Nat):List V:=ns.map fun (x:Nat)=>V.int (x:Int)
theorem DO(G:St->Hp->Prop)(hr:∀σ H,G σ H->u D σ H)(ht:∀N:St->Hp->Prop,(∀σ H,G σ H->N σ H)->t { D with nx:=N } σ H):Of t u D σ H:=ht _ hr
theorem oj{A B:Prop}(h:A):if true=true then A else B:=by rw[if_pos rfl];exact h
theorem j3{A B:Prop}(h:B):if false=true then A else B:=by rw[am (by decide)];exact h
abbrev Zs:=List (Addr×(Int×Int))
abbrev vX(u:Int×Int):HO:=.tup [.int u.1,.int u.2]
def zr(zs:Zs):List V:=zs.map fun z=>V.ref z.1
def zp(zs:Zs):List (Int×Int):=zs.map (·.2)
def PO(H:Hp)(zs:Zs):Prop:=∀z∈zs,H z.1=some (vX z.2)
theorem fN:zr (a++b)=zr a++zr b:=bW
theorem h9:zp (a++b)=zp a++zp b:=bW
theorem d6:(zr a).length=a.length:=aJ _
theorem b8:(zp a).length=a.length:=aJ _
theorem oY:zr a=(a.map (·.1)).map V.ref:=by unfold zr;rw[gZ];rfl
theorem nG{zs:Zs}{i:Nat}{x:V}(h:(zr zs)[i]?=some x):∃z,zs[i]?=some z/\x=.ref z.1:=by
 unfold zr at h;rw[cw] at h;cases e:zs[i]? with
 |none=>rw[e] at h;cases h
 |some z=>rw[e] at h;exact⟨z,rfl,(be h).symm⟩
theorem PO.nil:PO H []:=fun z hz=>(nomatch hz)
theorem PO.same(h:PO H zs)(s:aF H H'):PO H' zs:=fun z hz=>s _ _ (h z hz)
theorem PO.putL(h:PO H zs)(e:H D=some (.lst xs)):PO (upd H D o) zs:=fun z hz=>by
 have:=h z hz;rw[ak (by rintro rfl;rw[e] at this;cases this)];exact this
theorem PO.putN(h:PO H zs)(e:H D=none):PO (upd H D o) zs:=h.same (ai e)
theorem PO.append(h:PO H a)(h':PO H b):PO H (a++b):=fun z hz=>(cH.mp hz).elim (h z) (h' z)
theorem PO.one(h:H p=some (vX u)):PO H [(p,u)]:=fun z hz=>by rw[cy.mp hz];exact h
theorem vY{zs:Zs}{i:Nat}(h:i<zs.length):(zs.map (·.1)).getD i 0=zs[i].1:=by
 rw[aT,cw,bh h];rfl
theorem Aa(h:i<zs.length):(zp zs).getD i (0,0)=zs[i].2:=by
 unfold zp;rw[aT,cw,bh h];rfl
theorem DP{K:PySem.W.Frag}{zm:Bool}{H:Hp}{p l:Addr}{u:Int×Int}{zs:Zs}{Q:VK}(hp:H p=some (vX u))(hl:H l=some (.lst (zr zs)))(ho:PO H zs)(q:Q (.bl (if zm then !decide (u∈zp zs) else decide (u∈zp zs))) H):Gy K zm (.ref p) (.ref l) H Q:=
 ⟨p,l,u,zs.map (·.1),zp zs,rfl,rfl,bV.of hp,aM.of (by rw[<-oY];exact hl),by rw[aJ,b8],fun i hi=>by
  rw[b8] at hi;rw[vY hi,Aa hi];exact bV.of (ho _ (fk hi)),q⟩
theorem BB{H:Hp}{zs:Zs}(ho:PO H zs){as:List Addr}(h:as.Perm (zs.map (·.1))):∃kP:Zs,kP.Perm zs/\as=kP.map (·.1):=by
 classical
 let f:Addr->Int×Int:=fun a=>match H a with
  |some (.tup [.int x,.int y])=>(x,y)
  |_=>(0,0)
 have e:(zs.map (·.1)).map (fun a=>(a,f a))=zs:=by
  rw[gZ];conv=>rhs;rw[<-mK zs]
  refine nX fun z hz=>?_;have:=ho z hz;show (z.1,f z.1)=z;have e2:f z.1=z.2:=by
   show (match H z.1 with|some (.tup [.int x,.int y])=>(x,y)|_=>(0,0))=z.2;rw[this]
  rw[e2]
 refine⟨as.map fun a=>(a,f a),?_,?_⟩
 .have:=h.map (fun a=>(a,f a));rw[e] at this;exact this
 .rw[gZ];exact(mK as).symm
abbrev Yu(us:List (Int×Int)):Prop:=us=us
theorem Ab{K:PySem.W.Frag}{H:Hp}{l:Addr}{zs:Zs}{Q:VK}(hl:H l=some (.lst (zr zs)))(ho:PO H zs)(hz:zs.length<=4096)(hb:∀u∈zp zs,0<=u.2/\u.2<64)(q:∀ (D:Addr) (kP:Zs),H D=none->kP.Perm zs->Yu (zp kP)->Q (.ref D) (upd H D (.lst (zr kP)))):Dz K [.ref l] H Q:=by
 refine⟨l,zs.map (·.1),rfl,aM.of (by rw[<-oY];exact hl),fun a ha=>?_,by rw[aJ];exact hz,fun D oz hD hp=>?_⟩
 .obtain⟨z,hz,rfl⟩:=bH.mp ha;exact⟨_,_,bV.of (ho z hz)⟩
 .obtain⟨kP,h1,rfl⟩:=BB ho hp;rw[<-oY];exact q D kP hD h1 rfl
theorem DQ(F:Nat->Int×Int)(cT:St->Prop)(hD:H0 D=none)(hn:n<=100000)(h0:cT σB)(hs:∀i σ H (R:V->St->Hp->Prop) (Kf:St->Hp->Prop),i<n->cT σ->aF H0 H->(∀σ2 p,cT σ2->H p=none->R (.ref p) σ2 (upd H p (vX (F i))))->g (.int (lo+i)) σ H fun σ2 H2=>tt σ2 H2 fun b H3=>if b=true then te σ2 H3 fun v H4=>R v σ2 H4 else Kf σ2 H3)(hd:∀zs H,aF H0 H->H D=some (.lst (zr zs))->PO H zs->zp zs=(List.range n).map F->(∀z∈zs,H0 z.1=none)->cZ H):fq (Fn lo n) g tt te D cZ σB (upd H0 D (.lst [])):=by
 refine dL (fun i ys σ H=>cT σ/\aF H0 H/\H D=some (.lst ys)/\∃zs:Zs,ys=zr zs/\PO H zs/\zp zs=(List.range i).map F/\∀z∈zs,H0 z.1=none) ⟨h0,ai hD,af,[],rfl,PO.nil,rfl,fun z hz=>nomatch hz⟩ ?_ ?_
 .rintro i ys σ H Kt Kf hi ⟨sh,sm,iS,zs,rfl,po,ep,fr⟩ kt kf;have hl:zs.length=i:=by rw[<-b8,ep,aJ,d9]
  refine hs i σ H Kt Kf hi sh sm (fun σ2 p yB hp=>?_)
  .have nD:D≠p:=aj iS hp;refine kt _ _ _ (by rw[ak nD];exact iS) (by rw[d6,hl];exact bS hi (bj hn (by decide))) ⟨yB,a_ (sm.trans (ai hp)) hD,af,zs++[(p,F i)],?_,?_,?_,?_⟩
   .rw[fN];rfl
   .refine PO.putL (xs:=zr zs) ?_ (by rw[ak nD];exact iS);exact(po.putN hp).append (PO.one af)
   .rw[h9,ep,fm,bW];rfl
   .intro z hz;rcases cH.mp hz with z'|z'
    .exact fr z z'
    .rw[cy.mp z'];exact sm.free hp
 .rintro ys σ H ⟨_,sm,iS,zs,rfl,po,ep,fr⟩;exact hd zs H sm iS po ep fr
theorem DS{K:PySem.W.Frag}{a D:Addr}{qu:Zs}{g:TG}{tt:TT}{te:TE}{cZ:Hp->Prop}{σB:St}{H0:Hp}(F:Int×Int->Int×Int)(cT:St->Prop)(ha:H0 a=some (.lst (zr qu)))(PL:PO H0 qu)(hD:H0 D=none)(hn:qu.length<=100000)(h0:cT σB)(hs:∀z σ H (R:V->St->Hp->Prop) (Kf:St->Hp->Prop),z∈qu->cT σ->aF H0 H->H z.1=some (vX z.2)->(∀σ2 p,cT σ2->H p=none->R (.ref p) σ2 (upd H p (vX (F z.2))))->g (.ref z.1) σ H fun σ2 H2=>tt σ2 H2 fun b H3=>if b=true then te σ2 H3 fun v H4=>R v σ2 H4 else Kf σ2 H3)(hd:∀zs H,aF H0 H->H D=some (.lst (zr zs))->PO H zs->zp zs=(zp qu).map F->(∀z∈zs,H0 z.1=none)->cZ H):fq (BY K a) g tt te D cZ σB (upd H0 D (.lst [])):=by
 refine cD (xs:=zr qu) (fun i ys σ H=>cT σ/\aF H0 H/\H D=some (.lst ys)/\∃zs:Zs,ys=zr zs/\PO H zs/\zp zs=((zp qu).take i).map F/\∀z∈zs,H0 z.1=none) ⟨h0,ai hD,af,[],rfl,PO.nil,rfl,fun z hz=>nomatch hz⟩ (fun i ys σ H _ z=>aM.of (z.2.1 _ _ ha)) ?_ ?_
 .rintro i x ys σ H Kt Kf hx ⟨sh,sm,iS,zs,rfl,po,ep,fr⟩ kt kf;obtain⟨z,hz,rfl⟩:=nG hx;have hi:i<qu.length:=(dw.mp hz).1;have DT:z∈qu:=cU hz;have hl:zs.length=i:=by rw[<-b8,ep,aJ,cf,b8];lia
  refine hs z σ H Kt Kf DT sh sm (sm _ _ (PL z DT)) (fun σ2 p yB hp=>?_)
  .have nD:D≠p:=aj iS hp;refine kt _ _ _ (by rw[ak nD];exact iS) (by rw[d6,hl];exact bS hi (bj hn (by decide))) ⟨yB,a_ (sm.trans (ai hp)) hD,af,zs++[(p,F z.2)],?_,?_,?_,?_⟩
   .rw[fN];rfl
   .refine PO.putL (xs:=zr zs) ?_ (by rw[ak nD];exact iS);exact(po.putN hp).append (PO.one af)
   .have e2:(zp qu)[i]?=some z.2:=by unfold zp;rw[cw,hz];rfl
    rw[h9,ep,gk,e2,Option.toList_some,bW];rfl
   .intro z hz;rcases cH.mp hz with z'|z'
    .exact fr z z'
    .rw[cy.mp z'];exact sm.free hp
 .rintro ys σ H ⟨_,sm,iS,zs,rfl,po,ep,fr⟩;rw[d6,<-b8,iW] at ep;exact hd zs H sm iS po ep fr
open kQ
abbrev Ac:Stmt:=gn (top 34) 0
abbrev DU:Stmt:=gn (top 34) 1
abbrev Lb:Stmt:=gn (top 34) 3
abbrev Lc:Stmt:=gn (top 34) 4
abbrev DV:Stmt:=gn (top 34) 6
abbrev yC:Stmt:=gn (top 34) 8
theorem n12:¬ (("house_count":Str)="tie_list"):=by decide +kernel
theorem n13:¬ (("house_count":Str)="out_lists"):=by decide +kernel
theorem n14:¬ (("house_count":Str)="distances"):=by decide +kernel
theorem n34:¬ (("out_lists":Str)="distances"):=by decide +kernel
def lV(n:Int)(tl ol ds:Addr):List (Str×V):=de "distances" (.ref ds) (de "out_lists" (.ref ol) (de "tie_list" (.ref tl) (de "house_count" (.int n) [])))
theorem Ad(n:Int)(tl ol ds:Addr):(lV n tl ol ds).lookup ("house_count":Str)=some (.int n):=by
 unfold lV;rw[bo,am n14,bo,am n13,bo,am n12,bo,if_pos rfl]
theorem lW(n:Int)(tl ol ds:Addr){m:Str}(h1:¬ m="house_count")(h2:¬ m="tie_list")(h3:¬ m="out_lists")(h4:¬ m="distances"):(lV n tl ol ds).lookup m=none:=by
 unfold lV;rw[bo,am h4,bo,am h3,bo,am h2,bo,am h1];all_goals rfl
theorem Ae(n:Int)(tl ol ds:Addr):(lV n tl ol ds).lookup ("out_lists":Str)=some (.ref ol):=by
 unfold lV;rw[bo,am n34,bo,if_pos rfl]
theorem Af(n:Int)(tl ol ds:Addr):(lV n tl ol ds).lookup ("distances":Str)=some (.ref ds):=by
 unfold lV;rw[bo,if_pos rfl]
def f9(H:Hp)(L:Addr->Prop)(l:Addr)(n:Nat)(r:Nat->List Nat):Prop:=∃bs:List Addr,H l=some (.lst (bs.map V.ref))/\(∀b∈bs,L b)/\Holds H bs n (fun h=>.lst (NV (r h)))
theorem f9.keep(R:f9 H L l n r)(hl:L l)(k:∀b o,L b->H b=some o->H' b=some o):f9 H' L l n r:=
 let ⟨bs,a,b,c⟩:=R
 ⟨bs,k _ _ hl a,b,c.mono fun j hj e=>k _ _ (b _ (by rw[aT,bh (by rw[c.1];exact hj)];exact fk _)) e⟩
theorem f9.row(R:f9 H L l n r)(hh:h<n):∃ (bs:List Addr) (b:Addr),H l=some (.lst (bs.map V.ref))/\(bs.map V.ref)[h]?=some (V.ref b)/\H b=some (.lst (NV (r h)))/\L b:=by
 obtain⟨bs,a,b,c⟩:=R;have hl:h<bs.length:=by rw[c.1];exact hh
 refine⟨bs,bs[h],a,by rw[cw,bh hl];rfl,?_,b _ (fk _)⟩;have:=c.2 h hh;rw[aT,bh hl] at this;exact this
def GE(H:Hp)(L:Addr->Prop)(tl:Addr)(ts:Ts):Prop:=L tl/\∃zs:Zs,H tl=some (.lst (zr zs))/\PO H zs/\(∀z∈zs,L z.1)/\(zp zs).Perm ts/\Yu (zp zs)
theorem GE.keep(h:GE H L tl ts)(k:∀b o,L b->H b=some o->H' b=some o):GE H' L tl ts:=
 let ⟨a,zs,b,c,d,e⟩:=h;⟨a,zs,k _ _ a b,fun z hz=>k _ _ (d z hz) (c z hz),d,e⟩
structure cL(C:Addr)(H:Hp)(L:Addr->Prop)(p:Addr)(n:Nat)(ts:Ts):Prop where
 iR:ck n ts
 ob:∃dx tl ol ds,H p=some (.ins C dx (lV n tl ol ds))/\L ol/\L ds/\f9 H L ol n (di n ts)/\f9 H L ds n (fun h=>(List.range n).map (far ts h))/\GE H L tl ts
theorem cL.keep(N:cL C H L p n ts)(k:∀b o,L b->H b=some o->H' b=some o)(kp:∀o,H p=some o->H' p=some o):cL C H' L p n ts:=
 let ⟨dx,tl,ol,ds,a,l1,l2,b,c,d⟩:=N.ob
 ⟨N.iR,dx,tl,ol,ds,kp _ a,l1,l2,b.keep l1 k,c.keep l2 k,d.keep k⟩
theorem cL.same(N:cL C H L p n ts)(s:aF H H'):cL C H' L p n ts:=N.keep (fun b o _ e=>s b o e) (fun o e=>s _ o e)
structure NT(K:PySem.W.Frag)(mg:Str->Option Value)(C:Addr):Prop where
 cl:B0 K C
 nH:gJ K C "house_count"
 nT:gJ K C "tie_list"
 nO:gJ K C "out_lists"
 nD:gJ K C "distances"
 PM:mg "Net"=some (.ref C)
structure kU(P:Program)(w:World)(K:PySem.W.Frag)(mg:Str->Option Value)(base:Heap)(CX:wF)(k:Nat)(C:Addr)(x:Str)(ps:List Str)(sp:Sp):Prop where
 ex:∃f fd,FN K C x f/\iI K fd ps []/\bz P w K mg base CX k f fd ps sp
section
variable {P:Program} {w:World} {K:PySem.W.Frag} {mg:Str->Option Value} {base:Heap}
theorem GF:aE ["self","thing"] ["self","thing"] (ap yC):=⟨rfl,rfl,rfl,by decide +kernel,rfl,by decide +kernel,by decide +kernel⟩
theorem BC{i n:Nat}(h:i<n):gO (some (i:Int)) 0 ((n:Int)-1)=true:=by unfold gO;simp;lia
def lX(C:Addr):Sp:=fun vs H Q _=>∃ (L:Addr->Prop) (p:Addr) (n:Nat) (ts:Ts) (i:Nat),vs=[.ref p,.int i]/\cL C H L p n ts/\i<n/\Q .bE H
theorem BE{f C:Addr}{fd:FuncData}(F:fJ K "check_house" "Net.check_house" yC f fd)(T:NT K mg C)(HH:cQ P w K mg base bf 3 "is_house" ["many","thing"] (oX K)):
  bz P w K mg base bf 4 f fd ["self","thing"] (lX C):=by
 refine F.ok GF (fun vs H Q E h=>?_) (fun dU A outer s H vs Q E hr h=>?_)
 .obtain⟨L,p,n,ts,i,rfl,_⟩:=h;rfl
 .obtain⟨L,p,n,ts,i,rfl,N,hi,k⟩:=h;obtain⟨dx,tl,ol,ds,h1,_⟩:=N.ob;refine⟨_,ao (cr (gI (eY (aB HH hr aI (aa (jm (pv 0) rfl) (aa (pv 1) ag))))) cC bg),?_⟩;refine⟨_,rfl,p,C,dx,_,_,rfl,h1,T.cl,T.nH,Ad _ _ _ _,_,rfl,_,some (i:Int),n,rfl,.int _,_,rfl,?_⟩;rw[BC hi];exact gg k
theorem Ld(n:Int)(tl ol ds:Addr):(lV n tl ol ds).lookup ("check_house":Str)=none:=lW n tl ol ds (by decide +kernel) (by decide +kernel) (by decide +kernel) (by decide +kernel)
theorem U4(n:Int)(tl ol ds:Addr):(lV n tl ol ds).lookup ("far":Str)=none:=lW n tl ol ds (by decide +kernel) (by decide +kernel) (by decide +kernel) (by decide +kernel)
theorem yD{xs:List Nat}{i:Nat}(h:i<xs.length):(NV xs)[i]?=some (.int ((xs[i]:Nat):Int)):=by rw[cw,bh h];rfl
theorem bw:(NV xs).length=xs.length:=aJ _
theorem PN:aE ["self","house"] ["self","house"] (ap Lb):=⟨rfl,rfl,rfl,by decide +kernel,rfl,by decide +kernel,by decide +kernel⟩
def uu(C:Addr):Sp:=fun vs H Q _=>∃ (L:Addr->Prop) (p:Addr) (n:Nat) (ts:Ts) (i:Nat),vs=[.ref p,.int i]/\cL C H L p n ts/\i<n/\∀r H',aF H H'->H r=none->H' r=some (.lst (NV (di n ts i)))->Q (.ref r) H'
theorem GJ(F:fJ K "out" "Net.out" Lb f fd)(T:NT K mg C)(B:Bl mg)(M:kU P w K mg base bf 4 C "check_house" ["self","thing"] (lX C)):
  bz P w K mg base bf 5 f fd ["self","house"] (uu C):=by
 obtain⟨fM,U5,mM,bM,GM⟩:=M.ex;refine F.ok PN (fun vs H Q E h=>?_) (fun dU A outer s H vs Q E hr h=>?_)
 .obtain⟨L,p,n,ts,i,rfl,_⟩:=h;rfl
 .obtain⟨L,p,n,ts,i,rfl,N,hi,k2⟩:=h;obtain⟨dx,tl,ol,ds,h1,_,_,R,_⟩:=N.ob;refine⟨_,ah (bu (fF (pv 0) T.cl mM GM hr bM .nil aI (aa (pv 1) ag)))
   (ao (aX (cx fH (by rfl) B.lst nV (aa (ba aR (jm (pv 0) rfl) (pv 1) (fun _ _=>rfl)) ag)))),?_⟩
  refine⟨_,rfl,p,dx,_,rfl,h1,Ld _ _ _ _,_,rfl,L,p,n,ts,i,rfl,N,hi,?_⟩;obtain⟨bs,b,r1,r2,r3,_⟩:=R.row hi;exact⟨_,rfl,p,C,dx,_,_,rfl,h1,T.cl,T.nO,Ae _ _ _ _,_,rfl,ol,_,_,_,rfl,rfl,aM.of r1,aw r2,b,_,rfl,.inl (aM.of r3),fun l hl=>k2 l _ (ai hl) hl af⟩
theorem PP:aE ["self","one","other"] ["self","one","other"] (ap Lc):=⟨rfl,rfl,rfl,by decide +kernel,rfl,by decide +kernel,by decide +kernel⟩
def yE(C:Addr):Sp:=fun vs H Q _=>∃ (L:Addr->Prop) (p:Addr) (n:Nat) (ts:Ts) (i j:Nat),vs=[.ref p,.int i,.int j]/\cL C H L p n ts/\i<n/\j<n/\Q (.int (far ts i j:Nat)) H
theorem GK(F:fJ K "far" "Net.far" Lc f fd)(T:NT K mg C)(M:kU P w K mg base bf 4 C "check_house" ["self","thing"] (lX C)):
  bz P w K mg base bf 5 f fd ["self","one","other"] (yE C):=by
 obtain⟨fM,U5,mM,bM,GM⟩:=M.ex;refine F.ok PP (fun vs H Q E h=>?_) (fun dU A outer s H vs Q E hr h=>?_)
 .obtain⟨L,p,n,ts,i,j,rfl,_⟩:=h;rfl
 .obtain⟨L,p,n,ts,i,j,rfl,N,hi,hj,k⟩:=h;obtain⟨dx,tl,ol,ds,h1,_,_,_,R,_⟩:=N.ob;refine⟨_,ah (bu (fF (pv 0) T.cl mM GM hr bM .nil aI (aa (pv 1) ag)))
   (ah (bu (fF (pv 0) T.cl mM GM hr bM .nil aI (aa (pv 2) ag)))
   (ao (aX (ba aR (ba aR (jm (pv 0) rfl) (pv 1) (fun _ _=>rfl)) (pv 2) (fun _ _=>rfl))))),?_⟩
  refine⟨_,rfl,p,dx,_,rfl,h1,Ld _ _ _ _,_,rfl,L,p,n,ts,i,rfl,N,hi,?_⟩;refine⟨_,rfl,p,dx,_,rfl,h1,Ld _ _ _ _,_,rfl,L,p,n,ts,j,rfl,N,hj,?_⟩;obtain⟨bs,b,r1,r2,r3,_⟩:=R.row hi;have hg:(NV ((List.range n).map (far ts i)))[j]?=some (.int (far ts i j:Nat)):=by
   rw[cw,cw,ka hj];rfl
  exact⟨_,rfl,p,C,dx,_,_,rfl,h1,T.cl,T.nD,Af _ _ _ _,_,rfl,ds,_,_,_,rfl,rfl,aM.of r1,aw r2,_,rfl,b,_,_,_,rfl,rfl,aM.of r3,aw hg,k⟩
end
open PySem L2 kQ
abbrev yF:Stmt:=top 35
abbrev Le:Stmt:=top 36
abbrev Lf:Stmt:=top 37
section
variable {P:Program} {w:World} {K:PySem.W.Frag} {mg:Str->Option Value} {base:Heap}
abbrev Lg:Stmt:=top 10
theorem PQ:aE ["many","one","other"] ["many","one","other"] (ap Lg):=⟨rfl,rfl,rfl,by decide +kernel,rfl,by decide +kernel,by decide +kernel⟩
def Ag:Sp:=fun vs H Q _=>∃ (n a b:Int),vs=[.int n,.int a,.int b]/\0<=a/\a<n/\0<=b/\b<n/\a≠b/\Q (.bl true) H
theorem Lh(F:fJ K "are_unlike_houses" "are_unlike_houses" Lg f fd)(HH:cQ P w K mg base bf 3 "is_house" ["many","thing"] (oX K)):
  bz P w K mg base bf 4 f fd ["many","one","other"] Ag:=by
 refine F.ok PQ (fun vs H Q E h=>?_) (fun dU A outer s H vs Q E hr h=>?_)
 .obtain⟨n,a,b,rfl,_⟩:=h;rfl
 .obtain⟨n,a,b,rfl,a1,a2,b1,b2,kI,k⟩:=h;refine⟨_,ao (aX (mV (aB HH hr aI (aa (pv 0) (aa (pv 1) ag))) (mV (aB HH hr aI (aa (pv 0) (aa (pv 2) ag))) (mU (io ve (pv 1) (pv 2) (aU _)))))),?_⟩;refine⟨_,rfl,_,rfl,_,_,n,rfl,.int a,_,rfl,?_⟩;rw[if_pos (show gO (some a) 0 (n-1)=true by unfold gO;simp;lia)];refine⟨_,rfl,_,rfl,_,_,n,rfl,.int b,_,rfl,?_⟩;rw[if_pos (show gO (some b) 0 (n-1)=true by unfold gO;simp;lia)];refine⟨_,rfl,_,rfl,rfl,?_⟩;have e:(!decide (V.int a=V.int b))=true:=by simp[kI]
  rw[e];exact k
theorem PR:aE ["many","thing"] ["many","thing"] (ap Le):=⟨rfl,rfl,rfl,by decide +kernel,rfl,by decide +kernel,by decide +kernel⟩
def DW:Sp:=fun vs H Q _=>∃ (n:Int) (p:Addr) (a b:Int),vs=[.int n,.ref p]/\H p=some (.tup [.int a,.int b])/\0<=a/\a<n/\0<=b/\b<n/\a≠b/\Q (.bl true) H
theorem Li(F:fJ K "is_tie" "is_tie" Le f fd)(R:cQ P w K mg base bf 1 "is_row" ["thing","length"] (z_ K))(U:cQ P w K mg base bf 4 "are_unlike_houses" ["many","one","other"] Ag):
  bz P w K mg base bf 5 f fd ["many","thing"] DW:=by
 refine F.ok PR (fun vs H Q E h=>?_) (fun dU A outer s H vs Q E hr h=>?_)
 .obtain⟨n,p,a,b,rfl,_⟩:=h;rfl
 .obtain⟨n,p,a,b,rfl,hp,a1,a2,b1,b2,kI,k⟩:=h;refine⟨_,ao (aX (mV (aB R (hr.mono (by decide)) aI (aa (pv 1) (aa av ag)))
   (mU (aB U hr aI (aa (pv 0) (aa (ba e_ (pv 1) av (fun _ _=>rfl)) (aa (ba e_ (pv 1) av (fun _ _=>rfl)) ag))))))),?_⟩
  refine⟨_,rfl,_,_,_,rfl,.tup hp,true,rfl,?_⟩;exact⟨_,rfl,_,rfl,p,_,_,_,rfl,rfl,bV.of hp,aw (j:=0) rfl,_,rfl,p,_,_,_,rfl,rfl,bV.of hp,aw (j:=1) rfl,n,a,b,rfl,a1,a2,b1,b2,kI,k⟩
theorem Ah:aE ["many","ties","tie"] ["many","ties"] (ap yF):=⟨rfl,rfl,rfl,by decide +kernel,rfl,by decide +kernel,by decide +kernel⟩
theorem v1:PySem.W.kitOne K (.type "list") (.type "list")=some true:=by kernel_rfl
structure fw(H:Hp)(l:Addr)(n:Nat)(zs:Zs):Prop where
 iR:ck n (zp zs)
 at_:H l=some (.lst (zr zs))
 po:PO H zs
theorem fw.same(h:fw H l n zs)(s:aF H H'):fw H' l n zs:=⟨h.iR,s _ _ h.at_,h.po.same s⟩
def jJ:Sp:=fun vs H Q _=>∃ (n:Nat) (l:Addr) (zs:Zs),vs=[.int n,.ref l]/\fw H l n zs/\∀H',aF H H'->Q .bE H'
theorem DX(F:fJ K "check_ties" "check_ties" yF f fd)(B:Bl mg)(gF:∃t,mg "FEWEST_HOUSES"=some (.int 2 t))(gM:∃t,mg "MOST_HOUSES"=some (.int 32 t))(W:cQ P w K mg base bf 2 "is_whole_within" ["thing","least","most"] (lU K))(T:cQ P w K mg base bf 5 "is_tie" ["many","thing"] DW):
  bz P w K mg base bf 6 f fd ["many","ties"] jJ:=by
 obtain⟨tF,gF⟩:=gF;obtain⟨tM,gM⟩:=gM;refine F.ok Ah (fun vs H Q E h=>?_) (fun dU A outer s H vs Q E hr h=>?_)
 .obtain⟨n,l,zs,rfl,_⟩:=h;rfl
 .refine⟨_,ah (cr (gI (eY (aB W (hr.mono (by decide)) aI (aa (pv 0) (aa (oK (v:=.int 2) rfl gF ⟨_,rfl⟩) (aa (oK (v:=.int 32) rfl gM ⟨_,rfl⟩) ag)))))) cC bg)
   (ah (cr (gI (eY (aA jq (by rfl) B.ND rf (aa (pv 1) (aa (lw (v:=.ty "list") rfl B.lst nV rfl) ag))))) cC bg)
   (ah (dA dR rfl (bF (pv 1)) (aq (i:=2) Ah.nd rfl (Or.inl rfl)) (ao (cr (gI (eY (aB T hr aI (aa (pv 0) (aa (pv 2) ag))))) cC bg)))
   (ao (cr (aK ve (aA vx (by rfl) B.len cB (aa (cx (A7 rfl (by have:=hr.un;show (A.deeper _).units+8<_;lia)) (by rfl) B.set PyProof.Rows.boot_set (aa (pv 1) ag)) ag)) (aA az (by rfl) B.len cB (aa (pv 1) ag)) (aU _)) cC bg)))),?_⟩
  obtain⟨n,l,zs,rfl,tt,k⟩:=h;obtain⟨fi,hl,po⟩:=id tt;have n1:=fi.n1;have n2:=fi.n2;refine⟨_,rfl,_,_,2,32,rfl,.int n,_,rfl,?_⟩;rw[show gO (some (n:Int)) 2 32=true by unfold gO;simp;lia];refine gg ?_;refine⟨_,rfl,_,_,_,.type "list",true,rfl,⟨rfl,v1⟩,.of (.lst hl),_,rfl,gg ?_⟩;refine⟨_,rfl,l,rfl,⟨_,aM.of hl⟩,fW (K:=K) (a:=l) (xs:=zr zs) (fun i σ H2=>H2=H/\∃v,σ=[some (.int n),some (.ref l),v]) ⟨rfl,none,rfl⟩ (fun i σ H2 _ ⟨e,_⟩=>by rw[e];exact aM.of hl) ?_ ?_⟩
  .rintro i x σ H2 hx ⟨rfl,v,rfl⟩;obtain⟨z,hz,rfl⟩:=nG hx;have DT:z∈zs:=cU hz;have Yv:z.2∈zp zs:=bH.mpr ⟨z,DT,rfl⟩;have r:=fi.rg _ Yv;exact⟨_,rfl,_,rfl,n,_,_,_,rfl,po z DT,r.1.1,r.1.2,r.2.1,r.2.2,fi.ne _ Yv,_,rfl,gg ⟨rfl,_,rfl⟩⟩
  .rintro σ H2 ⟨rfl,v,rfl⟩;have dt:(zp zs).length<=256:=fi.len;refine⟨_,rfl,l,zs.map (·.1),zp zs,rfl,aM.of (by rw[<-oY];exact hl),by rw[aJ,b8],fun i hi=>?_,fi.nd,fun y hy=>?_,by lia,fun D hD=>?_⟩
   .rw[b8] at hi;rw[vY hi,Aa hi];exact bV.of (po _ (fk hi))
   .have r:=fi.rg _ hy;lia
   .have nl:l≠D:=aj hl hD;refine⟨D,_,rfl,af,by lia,_,rfl,l,zr zs,rfl,.inl (aM.of (by rw[ak nl];exact hl)),rfl,_,rfl,?_⟩;have ez:(!decide (V.int (((zp zs).length:Nat):Int)=V.int (((zr zs).length:Nat):Int)))=false:=by rw[b8,d6];simp
    rw[ez];exact gg (k _ (ai hD))
end
abbrev v3:Stmt:=top 38
section
variable {P:Program} {w:World} {K:PySem.W.Frag} {mg:Str->Option Value} {base:Heap}
theorem nI(S:St->Prop)(p q:Int×Int->Int)(h:Int)(hD:H D=none)(hl:H l=some (.lst (zr zs)))(po:PO H zs)(hn:zs.length<=1000)(s0:S σB)(hg:∀z σ H2 (Kt:V->St->Hp->Prop) (Kf:St->Hp->Prop),z∈zs->S σ->H2 z.1=some (vX z.2)->(∀σ2,S σ2->p z.2=h->Kt (.int (q z.2)) σ2 H2)->(∀σ2,S σ2->p z.2≠h->Kf σ2 H2)->
   g (.ref z.1) σ H2 fun σ2 H2=>tt σ2 H2 fun b H3=>if b=true then te σ2 H3 fun v H4=>Kt v σ2 H4 else Kf σ2 H3)(hd:cZ (upd H D (.lst (IV (((zp zs).filter fun y=>decide (p y=h)).map q))))):fq (BY K l) g tt te D cZ σB (upd H D (.lst [])):=by
 have nl:l≠D:=aj hl hD;have tk:∀ {i:Nat} {z:Addr×(Int×Int)},zs[i]?=some z->(zp zs).take (i+1)=(zp zs).take i++[z.2]:=fun {i z} hz=>by
  rw[gk,show (zp zs)[i]?=some z.2 by unfold zp;rw[cw,hz];rfl];rfl
 refine cD (xs:=zr zs) (fun i ys σ H2=>S σ/\ys=IV ((((zp zs).take i).filter fun y=>decide (p y=h)).map q)/\H2=upd H D (.lst ys)) ⟨s0,by simp,rfl⟩ (fun i ys σ H2 _ ⟨_,_,e⟩=>by rw[e];exact aM.of (by rw[ak nl];exact hl)) ?_ ?_
 .rintro i x ys σ H2 Kt Kf hx ⟨hS,ey,rfl⟩ kt kf;obtain⟨z,hz,rfl⟩:=nG hx;have DT:z∈zs:=cU hz;have hp:=po z DT;have na:z.1≠D:=aj hp hD;have hi:i<zs.length:=(dw.mp hz).1;refine hg z σ _ Kt Kf DT hS (by rw[ak na];exact hp) (fun σ2 s2 e=>?_) (fun σ2 s2 e=>?_)
  .refine kt _ _ _ af ?_ ⟨s2,?_,?_⟩
   .rw[ey,aJ,aJ];exact dX (gX _ _) (dX (j_ _ _) (bS (show i<1000 by lia) (by decide)))
   .rw[ey,tk hz,eR,bW];have:decide (p z.2=h)=true:=by simp[e]
    simp[dB,this]
   .rw[jE]
  .refine kf _ _ ⟨s2,?_,rfl⟩;have:decide (p z.2=h)=false:=by simp[e]
   rw[ey,tk hz,eR];simp[dB,this]
 .rintro ys σ H2 ⟨_,ey,rfl⟩;rw[d6,<-b8,iW] at ey;rw[ey];exact hd
theorem NE:(["one","other","house"]:List Str).Nodup:=by decide +kernel
theorem Ai:aE ["many","ties","house","leading_out","leading_in"] ["many","ties"] (ap Lf):=⟨rfl,rfl,rfl,by decide +kernel,rfl,by decide +kernel,by decide +kernel⟩
theorem Lj(F:fJ K "check_balance" "check_balance" Lf f fd)(B:Bl mg)(gM:∃t,mg "MOST_TIES_OUT"=some (.int 8 t)):
  bz P w K mg base bf 1 f fd ["many","ties"] jJ:=by
 obtain⟨tM,gM⟩:=gM;refine F.ok Ai (fun vs H Q E h=>?_) (fun dU A outer s H vs Q E hr h=>?_)
 .obtain⟨n,l,zs,rfl,_⟩:=h;rfl
 .obtain⟨n,l,zs,rfl,T,k⟩:=h;have fi:=T.iR;have n1:=fi.n1;have n2:=fi.n2;have dt:zs.length<=256:=by have:=fi.len;rw[b8] at this;exact this
  refine'⟨_,ao (dA dR rfl (bP rfl B.range (aa (pv 0) ag)) (aq (i:=2) Ai.nd rfl (Or.inr rfl))
   (ah (aS (i:=3) Ai.nd rfl (Or.inl rfl) (aA az (by rfl) B.len cB (aa ?c1 ag)))
   (ah (aS (i:=4) Ai.nd rfl (Or.inl rfl) (aA az (by rfl) B.len cB (aa ?c2 ag)))
   (ah (cr (aK ve (pv 3) (pv 4) (aU _)) cC bg)
   (ao (cr (aK zg (pv 3) (oK (v:=.int 8) rfl gM ⟨_,rfl⟩) (aU _)) cC bg)))))),?_⟩
  case c1=>
   refine' bU (g:=oq K 2 (dC (a9 0) (dC (a9 1) oo))) (NB:=["one","other","house"]) (src:=[none,none,some 2]) (bq (by kernel_rfl)) rfl (bF (pv 1)) ?g ?t ?e;case g=>exact fun cl C s₃ H₃ fp=>dY (n:=2) rfl (aO (aq (i:=0) NE rfl (Or.inl rfl) (Or.inr rfl)) (aO (aq (i:=1) NE rfl (Or.inl rfl) (Or.inr rfl)) c_))
   case t=>exact fun cl C s₃ H₃ fp=>dD (aK jl (pv 0) (pv 2) (aU _))
   case e=>exact fun cl C s₃ H₃ fp=>pv 0
  case c2=>
   refine' bU (g:=oq K 2 (dC (a9 0) (dC (a9 1) oo))) (NB:=["one","other","house"]) (src:=[none,none,some 2]) (bq (by kernel_rfl)) rfl (bF (pv 1)) ?g ?t ?e;case g=>exact fun cl C s₃ H₃ fp=>dY (n:=2) rfl (aO (aq (i:=0) NE rfl (Or.inl rfl) (Or.inr rfl)) (aO (aq (i:=1) NE rfl (Or.inl rfl) (Or.inr rfl)) c_))
   case t=>exact fun cl C s₃ H₃ fp=>dD (aK jl (pv 1) (pv 2) (aU _))
   case e=>exact fun cl C s₃ H₃ fp=>pv 1
  refine⟨_,rfl,n,rfl,by lia,by lia,du (n:=n) (lo:=0) (fun i σ H2=>aF H H2/\∃a b c,σ=[some (.int n),some (.ref l),a,b,c]) ⟨aF.refl _,none,none,none,rfl⟩ ?_ ?_⟩
  .rintro i σ H2 hi ⟨sm,a,b,c,rfl⟩;have T2:=T.same sm;refine⟨_,rfl,l,rfl,⟨_,aM.of T2.at_⟩,fun D hD=>nI (fun σ=>∃a b,σ=[a,b,some (.int (0+(i:Int)))]) (·.1) (·.1) (0+(i:Int)) hD T2.at_ T2.po (by lia) ⟨_,_,rfl⟩ ?_ ?_⟩
   .rintro z σ H3 Kt Kf hj ⟨x,y,rfl⟩ ha kt kf;refine⟨z.1,_,rfl,bV.of ha,rfl,_,_,rfl,_,_,rfl,rfl,?_⟩;refine⟨_,rfl,_,rfl,rfl,_,rfl,?_⟩;refine gK (fun e=>?_) (fun e=>?_)
    .exact⟨_,rfl,kt _ ⟨_,_,rfl⟩ (by simpa using e)⟩
    .exact kf _ ⟨_,_,rfl⟩ (by simpa using e)
   .refine⟨D,_,rfl,.inl (aM.of af),?_⟩;have Jq:=a_ (o:=.lst (IV (((zp zs).filter fun y=>decide (y.1=0+(i:Int))).map (·.1)))) (sm.trans (aF.refl _)) (H:=H) (by cases z:H D with|none=>rfl|some o=>rw[sm _ _ z] at hD;cases hD);have T3:=T.same Jq;refine⟨_,rfl,l,rfl,⟨_,aM.of T3.at_⟩,fun D' PU=>nI (fun σ=>∃a b,σ=[a,b,some (.int (0+(i:Int)))]) (·.2) (·.2) (0+(i:Int)) PU T3.at_ T3.po (by lia) ⟨_,_,rfl⟩ ?_ ?_⟩
    .rintro z σ H3 Kt Kf hj ⟨x,y,rfl⟩ ha kt kf;refine⟨z.1,_,rfl,bV.of ha,rfl,_,_,rfl,_,_,rfl,rfl,?_⟩;refine⟨_,rfl,_,rfl,rfl,_,rfl,?_⟩;refine gK (fun e=>?_) (fun e=>?_)
     .exact⟨_,rfl,kt _ ⟨_,_,rfl⟩ (by simpa using e)⟩
     .exact kf _ ⟨_,_,rfl⟩ (by simpa using e)
    .refine⟨D',_,rfl,.inl (aM.of af),?_⟩;rw[g7] at *;have q1:(IV (((zp zs).filter fun y=>decide (y.1=(i:Int))).map (·.1))).length=(IV (((zp zs).filter fun y=>decide (y.2=(i:Int))).map (·.2))).length:=by
      rw[aJ,aJ,aJ,aJ];exact fi.Jo i
     have q2:(IV (((zp zs).filter fun y=>decide (y.1=(i:Int))).map (·.1))).length<=8:=by
      rw[aJ,aJ];exact fi.most i
     refine⟨_,rfl,_,rfl,rfl,_,rfl,?_⟩;rw[<-q1];rw[show (!decide (V.int (((IV (((zp zs).filter fun y=>decide (y.1=(i:Int))).map (·.1))).length:Nat):Int)=V.int (((IV (((zp zs).filter fun y=>decide (y.1=(i:Int))).map (·.1))).length:Nat):Int)))=false by simp];refine gg ?_;refine⟨_,rfl,_,_,rfl,rfl,_,rfl,?_⟩;rw[show decide ((((IV (((zp zs).filter fun y=>decide (y.1=(i:Int))).map (·.1))).length:Nat):Int) > 8)=false by rw[decide_eq_false_iff_not];lia];exact gg ⟨Jq.trans (ai PU),_,_,_,rfl⟩
  .rintro σ H2 ⟨sm,a,b,c,rfl⟩;exact k H2 sm
end
def GN:Expr:=match (bA v3).getD 1 (.Pass ⟨0,0,0,0⟩) with
 |.Return (some (.Call _ _ (k::_) _)) _=>k.value
 |_=>.Name "x" ⟨0,0,0,0⟩
def GQ:Arguments:=match GN with
 |.Lambda a _ _ _=>a
 |_=>{ posonlyargs:=[],args:=[],vararg:=none,kwonlyargs:=[],kw_defaults:=[],kwarg:=none,defaults:=[] }
def GS:Expr:=match GN with
 |.Lambda _ b _ _=>b
 |e=>e
def PV:Scope:=match GN with
 |.Lambda _ _ s _=>s
 |_=>{ kind:=.function,names:=[],isGenerator:=false,isCoroutine:=false }
def Lk:Pos:=match GN with
 |.Lambda _ _ _ p=>p
 |_=>⟨0,0,0,0⟩
def Jr:Str:=("houses_out":Str)++".<locals>."++"<lambda>"
abbrev nJ(Pt:Addr)(H:Hp):Prop:=cu Lk Jr Pt H
def iL(Pt:Addr)(H H':Hp):Prop:=∀b o,H b=some o->b≠Pt->H' b=some o
theorem iL.of(a:aF H H'):iL Pt H H':=fun c o h _=>a c o h
theorem nJ.not(t:nJ Pt H)(h:H b=some o)(n:∀ps,o≠.kB ps):b≠Pt:=by
 rintro rfl;rcases t with z|⟨c,z,_⟩ <;> · rw[h] at z;exact n _ (be z)
theorem nJ.same(t:nJ Pt H)(e:aF H H'):nJ Pt H':=by
 rcases t with z|⟨c,z,y⟩
 .exact .inl (e _ _ z)
 .exact .inr ⟨c,e _ _ z,e _ _ y⟩
theorem GT{n a b h:Int}(hn:0<n)(a0:0<=a)(a1:a<n)(b0:0<=b)(b1:b<n)(e:(a-h) % n=(b-h) % n):a=b:=by
 have h1:=Int.emod_emod_of_dvd (a-h) (Int.dvd_refl n);have q:(a-b) % n=0:=by
  have:a-b=(a-h)-(b-h):=by lia
  rw[this,Int.sub_emod,e,Int.sub_self,Int.zero_emod]
 obtain⟨c,hc⟩:=Int.dvd_of_emod_eq_zero q;have c0:c=0:=by
  rcases Int.lt_trichotomy c 0 with z|z|z
  .have:n*c<=n*(-1):=Ca (by lia) (by lia);lia
  .exact z
  .have:n*1<=n*c:=Ca (by lia) (by lia);lia
 rw[c0] at hc;lia
theorem q9{ts:Ts}{h:Int}(nd:ts.Nodup):((ts.filter fun y=>decide (y.1=h)).map (·.2)).Nodup:=by
 refine L2.ni (nd.filter _) fun x hx y hy e=>?_;have a:=(dQ.mp hx).2;have b:=(dQ.mp hy).2;simp at a b;exact ku (a.trans b.symm) e
theorem BF{n:Nat}{ts:Ts}{h:Nat}(F:ck n ts)(hh:h<n){out:List Int}(ko:KM (h:Int) (n:Int) ((ts.filter fun y=>decide (y.1=(h:Int))).map (·.2)) out):out.map V.int=NV (di n ts h):=by
 obtain⟨ps,hp,rfl,hs⟩:=ko;have Ba:(ps.map (·.2)).Perm ((ts.filter fun y=>decide (y.1=(h:Int))).map (·.2)):=by
  have:=hp.map (·.2);rw[gZ] at this;refine this.trans (tf ?_);conv=>rhs;rw[<-mK ((ts.filter fun y=>decide (y.1=(h:Int))).map (·.2))]
  rfl
 have mem:∀z,z∈ps.map (·.2)↔((h:Int),z)∈ts:=fun z=>by
  rw[Ba.mem_iff,bH];constructor
  .rintro⟨y,hy,rfl⟩;obtain⟨y1,y2⟩:=dQ.mp hy;have:y.1=(h:Int):=by simpa using y2
   rw[<-this];exact y1
  .intro hz;exact⟨_,dQ.mpr ⟨hz,by simp⟩,rfl⟩
 have nd:(ps.map (·.2)).Nodup:=Ba.nodup_iff.mpr (q9 F.nd);have key:∀q∈ps,q.1=(q.2-(h:Int)) % (n:Int):=fun q hq=>by
  obtain⟨z,_,e⟩:=bH.mp (hp.mem_iff.mp hq);rw[<-e]
 have hn:(0:Int)<n:=by have:=F.n1;lia
 have sorted:(ps.map (·.2)).Pairwise fun x y=>(x-(h:Int)) % (n:Int)<(y-(h:Int)) % (n:Int):=by
  refine my.mpr ?_;have U1:=my.mp nd;refine(hs.and U1).imp_of_mem fun {x y} hx hy K2=>?_;have l1:=K2.1;rw[key x hx,key y hy] at l1;have ax:=F.rg _ ((mem x.2).mp (bH.mpr ⟨x,hx,rfl⟩));have ay:=F.rg _ ((mem y.2).mp (bH.mpr ⟨y,hy,rfl⟩));have ne:(x.2-(h:Int)) % (n:Int)≠(y.2-(h:Int)) % (n:Int):=fun z=>K2.2 (GT hn ax.2.1 ax.2.2 ay.2.1 ay.2.2 z);lia
 have e:ps.map (·.2)=(di n ts h).map fun (o:Nat)=>(o:Int):=by
  refine oh (k:=fun z=>(z-(h:Int)) % (n:Int)) sorted ?_ fun z=>?_
  .refine my.mpr ?_;exact vQ hh
  .rw[mem,bH];constructor
   .intro hz;have r:=F.rg _ hz;refine⟨z.toNat,(hW F hh).mpr ?_,by lia⟩;show (((h:Nat):Int),((z.toNat:Nat):Int))∈ts;rw[show ((z.toNat:Nat):Int)=z by lia];exact hz
   .rintro⟨o,ho,rfl⟩;exact(hW F hh).mp ho
 rw[e,gZ];rfl
section
variable {P:Program} {w:World} {K:PySem.W.Frag} {mg:Str->Option Value} {base:Heap}
theorem DY:aE ["many","ties","house","others"] ["many","ties","house"] (ap v3):=⟨rfl,rfl,rfl,by decide +kernel,rfl,by decide +kernel,by decide +kernel⟩
def uv(Pt:Addr):Sp:=fun vs H Q _=>∃ (n:Nat) (l:Addr) (h:Nat) (zs:Zs),vs=[.int n,.ref l,.int h]/\h<n/\fw H l n zs/\nJ Pt H/\
 ∀ (r:Addr) (H':Hp),nJ Pt H'->iL Pt H H'->H r=none->H' r=some (.lst (NV (di n (zp zs) h)))->Q (.ref r) H'
theorem GU(F:vA K "houses_out" "houses_out" v3 f fd c)(B:Bl mg)(kb:K.In base)(hb:qV mg base)(hc:PySem.W.codeHdIn K c Pt=true):
  bz P w K mg base bf 1 f fd ["many","ties","house"] (uv Pt):=by
 refine F.ok DY (fun vs H Q E h=>?_) (fun A outer s H vs Q E hr h=>?_)
 .obtain⟨n,l,h,zs,rfl,_⟩:=h;rfl
 .obtain⟨n,l,h,zs,rfl,hh,T,tb,k⟩:=h;have fi:=T.iR;have n1:=fi.n1;have dt:zs.length<=256:=by have:=fi.len;rw[b8] at this;exact this
  have LS:O4 (tS bf P w K mg base ["many","ties","house","others"] "houses_out" (ap v3) f (.ref c) A outer s H E).IQ Jr GQ GS PV "other" "house" "many" 2 0:=
   ⟨⟨_,_,_,_,_,rfl⟩,fun _ _ _ _ _=>rfl,rfl,rfl,rfl,rfl,rfl,rfl,rfl,by decide +kernel,by decide +kernel,by decide +kernel,rfl,rfl,rfl,by decide,⟨by decide,by decide⟩,⟨by decide,by decide⟩⟩
  refine'⟨_,ah (df (i:=3) (g:=oq K 2 (dC (a9 0) (dC (a9 1) oo))) (NB:=["one","other","house"]) (src:=[none,none,some 2]) (bq (by kernel_rfl)) rfl (bF (pv 1)) ?g ?t ?e DY.nd rfl rfl rfl)
   (ao (aX (A_ (yk LS hr) rfl B.sorted wQ (aa (pv 3) ag) (FT (Dk (NB:=["other","house","many"]) (src:=[none,some 2,some 0]) (zL kb hb hc) (bq (by kernel_rfl))) Kq)))),?_⟩
  case g=>exact fun cl C s₃ H₃ fp=>dY (n:=2) rfl (aO (aq (i:=0) NE rfl (Or.inl rfl) (Or.inr rfl)) (aO (aq (i:=1) NE rfl (Or.inl rfl) (Or.inr rfl)) c_))
  case t=>exact fun cl C s₃ H₃ fp=>dD (aK jl (pv 0) (pv 2) (aU _))
  case e=>exact fun cl C s₃ H₃ fp=>pv 1
  refine⟨_,rfl,l,rfl,⟨_,aM.of T.at_⟩,fun D hD=>nI (fun σ=>∃a b,σ=[a,b,some (.int (h:Int))]) (·.1) (·.2) (h:Int) hD T.at_ T.po (by lia) ⟨_,_,rfl⟩ ?_ ?_⟩
  .rintro z σ H3 Kt Kf hj ⟨x,y,rfl⟩ ha kt kf;refine⟨z.1,_,rfl,bV.of ha,rfl,_,_,rfl,_,_,rfl,rfl,?_⟩;refine⟨_,rfl,_,rfl,rfl,_,rfl,?_⟩;refine gK (fun e=>?_) (fun e=>?_)
   .exact⟨_,rfl,kt _ ⟨_,_,rfl⟩ (by simpa using e)⟩
   .exact kf _ ⟨_,_,rfl⟩ (by simpa using e)
  .generalize Fp:((zp zs).filter fun y=>decide (y.1=(h:Int))).map (·.2)=os;have Jb:os.length<=8:=by rw[<-Fp,aJ];exact fi.most h
   have sm:aF H (upd H D (.lst (IV os))):=ai hD;refine⟨_,rfl,tb.same sm,fun f' c' H2 Sk iK Fm zE=>?_⟩;have t2:nJ Pt H2:=Sk;have gh:H2 D=some (.lst (IV os)):=iK _ _ af ((tb.same sm).not af (by intro ps z;cases z));refine⟨D,f',c',os,h,n,rfl,rfl,aM.of gh,(by lia),zE,Fm,rfl,rfl,by lia,fun r out zy ko=>?_⟩;rw[<-Fp] at ko;rw[BF fi hh ko];have Jq:aF H2 (upd H2 r (.lst (NV (di n (zp zs) h)))):=ai zy;refine k r _ (t2.same Jq) (fun b o e hb=>Jq _ _ (iK b o (sm _ _ e) hb)) ?_ af;cases z:H r with
   |none=>rfl
   |some o=>
    by_cases hP:r=Pt
    .rcases t2 with q|⟨_,q,_⟩ <;> · rw[<-hP,zy] at q;cases q
    .rw[iK r o (sm _ _ z) hP] at zy;cases zy
end
abbrev DZ:Stmt:=top 39
abbrev yG:Stmt:=top 40
def jT(n:Nat)(R:List Nat)(f:Nat->Nat):List V:=(List.range n).map fun x=>if x∈R then V.int ((f x:Nat):Int) else .bE
theorem jw:(jT n R f).length=n:=by unfold jT;rw[aJ,d9]
theorem jx(h:x<n):(jT n R f)[x]?=some (if x∈R then V.int ((f x:Nat):Int) else .bE):=by
 unfold jT;rw[cw,ka h];rfl
theorem yH(hs:s<n):(List.replicate n V.bE).set s (V.int 0)=jT n [s] (fun _=>0):=by
 apply xg;intro x;by_cases hx:x<n
 .rw[jx hx];by_cases e:x=s
  .subst e;rw[pc (by rw[fj];exact hx),if_pos (by simp)];rfl
  .rw[pf (fun z=>e z.symm),wT,if_pos hx,am (by simp[e])]
 .rw[lj (by rw[kj,fj];lia),lj (by rw[jw];lia)]
theorem D6(hv:v<n):(jT n R f).set v (V.int ((k:Nat):Int))=jT n (R++[v]) (put f v k):=by
 apply xg;intro x;by_cases hx:x<n
 .rw[jx hx];by_cases e:x=v
  .subst e;rw[pc (by rw[jw];exact hx),if_pos (by simp),f8]
  .rw[pf (fun z=>e z.symm),jx hx,dZ e];by_cases h:x∈R
   .rw[if_pos h,if_pos (gj _ h)]
   .rw[am h,am (fun z=>(cH.mp z).elim h fun z=>e (by simpa using z))]
 .rw[lj (by rw[kj,jw];lia),lj (by rw[jw];lia)]
def PX(σ:St):Nat:=match σ[4]? with
 |some (some (V.int z))=>z.toNat
 |_=>0
theorem nbO:(["others"]:List Str).Nodup:=by decide +kernel
def qv(H:Hp)(ol:Addr)(n:Nat)(ts:Ts):Prop:=∃bs:List Addr,H ol=some (.lst (bs.map V.ref))/\Holds H bs n (fun h=>.lst (NV (di n ts h)))
theorem qv.same(x:qv H ol n ts)(e:aF H H'):qv H' ol n ts:=let ⟨bs,a,b⟩:=x;⟨bs,e _ _ a,b.mono fun _ _ z=>e _ _ z⟩
theorem Js{as:List Addr}{i:Nat}{x:V}(h:(as.map V.ref)[i]?=some x):i<as.length/\x=.ref (as.getD i 0):=by
 rw[cw] at h;cases e:as[i]? with
 |none=>rw[e] at h;cases h
 |some a=>
  rw[e] at h;refine⟨(dw.mp e).1,?_⟩;rw[aT,e];exact(be h).symm
section
variable {P:Program} {w:World} {K:PySem.W.Frag} {mg:Str->Option Value} {base:Heap}
theorem kW:aE ["out_lists","start","distances","reached","at","house","other"] ["out_lists","start"] (ap DZ):=⟨rfl,rfl,rfl,by decide +kernel,rfl,by decide +kernel,by decide +kernel⟩
def uw:Sp:=fun vs H Q _=>∃ (ol:Addr) (n s:Nat) (ts:Ts),vs=[.ref ol,.int s]/\ck n ts/\s<n/\qv H ol n ts/\
 ∀ (r:Addr) (H':Hp),aF H H'->H r=none->H' r=some (.lst (NV ((List.range n).map (far ts s))))->Q (.ref r) H'
theorem GV{f:Addr}{fd:FuncData}(F:fJ K "distances_from" "distances_from" DZ f fd)(B:Bl mg):bz P w K mg base bf 1 f fd ["out_lists","start"] uw:=by
 refine F.ok kW (fun vs H Q E h=>?_) (fun dU A outer s H vs Q E hr h=>?_)
 .obtain⟨ol,n,s,ts,rfl,_⟩:=h;rfl
 .obtain⟨ol,n,st,ts,rfl,fi,hs,O,k⟩:=h;have n1:=fi.n1;have n2:=fi.n2;refine'⟨_,ah (df (i:=2) (g:=a9 0) (NB:=["others"]) (src:=[none]) (bq (by kernel_rfl)) rfl (bF (pv 0)) ?g ?t ?e kW.nd rfl rfl rfl)
   (ah (ik av (mW (pv 2) (pv 1) g9))
   (ah (aS (i:=3) kW.nd rfl (Or.inl rfl) (cz (aa (pv 1) ag)))
   (ah (aS (i:=4) kW.nd rfl (Or.inl rfl) av)
   (ah (lB dR (aK n0 (pv 4) (aA az (by rfl) B.len cB (aa (pv 3) ag)) (aU _))
    (ah (aS (i:=5) kW.nd rfl (Or.inl rfl) (ba aR (pv 3) (pv 4) (fun _ _=>rfl)))
    (ah (dA dR rfl (bF (ba aR (pv 0) (pv 5) (fun _ _=>rfl))) (aq (i:=6) kW.nd rfl (Or.inl rfl))
     (ao (cr (aK xI (ba aR (pv 2) (pv 6) (fun _ _=>rfl)) dI (aU _))
      (ah (ik (bJ eE (ba aR (pv 2) (pv 5) (fun _ _=>rfl)) av) (mW (pv 2) (pv 6) g9))
      (ao (bu (iJ iB lf lc dv (pv 3) (aa (pv 6) ag))))) bg)))
    (ao (Kg (i:=4) kW.nd rfl (Or.inl rfl) av Kh)))))
   (ao (aX (pv 2))))))),?_⟩
  case g=>exact fun cl C s₃ H₃ fp=>aq (i:=0) nbO rfl (Or.inl rfl) (Or.inr rfl)
  case t=>exact fun cl C s₃ H₃ fp=>cK
  case e=>exact fun cl C s₃ H₃ fp=>dI
  obtain⟨bs,Jb,U6,Np⟩:=id O;refine⟨_,rfl,ol,rfl,⟨_,aM.of Jb⟩,fun D hD=>?_⟩;have nol:ol≠D:=aj Jb hD;refine cD (xs:=bs.map V.ref) (fun i ys σ H2=>(∃a,σ=[a])/\ys=List.replicate i V.bE/\H2=upd H D (.lst ys)) ⟨⟨_,rfl⟩,rfl,rfl⟩ (fun i ys σ H2 _ ⟨_,_,e⟩=>by rw[e];exact aM.of (by rw[ak nol];exact Jb)) ?_ ?_
  .rintro i x ys σ H2 Kt Kf hx ⟨⟨a,rfl⟩,rfl,rfl⟩ kt kf;have hi:=(Js hx).1;refine kt _ _ _ af ?_ ⟨⟨_,rfl⟩,?_,by rw[jE]⟩
   .rw[fj];exact bS hi (by rw[U6];exact bj n2 (by decide))
   .rw[mn]
  .rintro ys σ H2 ⟨_,rfl,rfl⟩;rw[aJ,U6];refine⟨_,rfl,_,rfl,D,_,st,st,rfl,rfl,af,by rw[fj];exact iu hs,?_⟩;rw[jE,yH hs];refine⟨_,rfl,by show 1<=sizeLine;decide,fun R hR=>?_⟩;have B7:D≠R:=aj (H:=upd H D (.lst (jT n [st] (fun _=>0)))) af hR;have U7:H R=none:=by rw[ak B7.symm] at hR;exact hR
   refine Cw (fun σ H2=>∃ (i:Nat) (Rs:List Nat) (f:Nat->Nat),i<=Rs.length/\vR n ts st i Rs f/\(∃a b,σ=[some (.ref ol),some (.int st),some (.ref D),some (.ref R),some (.int (i:Int)),a,b])/\aF H H2/\H2 D=some (.lst (jT n Rs f))/\H2 R=some (.lst (NV Rs)))
    (fun σ _=>n-PX σ) ⟨0,[st],fun _=>0,cN _,vR.start hs,⟨none,none,rfl⟩,a_ (ai hD) U7,?_,af⟩ ?_ ?_
   .rw[ak B7,af]
   .rintro σ H2 ⟨i,Rs,f,hi,Bf,⟨a,b,rfl⟩,sm,gh,Ll⟩;have hRn:Rs.length<=n:=eM Bf.nd Bf.lt;refine⟨_,rfl,_,rfl,R,_,rfl,.inl (aM.of Ll),_,_,rfl,rfl,_,rfl,?_⟩;rw[bw];by_cases qm:i<Rs.length
    .rw[show decide ((i:Int)<((Rs.length:Nat):Int))=true by simp;lia];refine C3 ?_;have hu:Rs[i]?=some Rs[i]:=bh qm;generalize Rs[i]=u at hu;have D7:u<n:=Bf.lt u (cU hu);have huR:(NV Rs)[i]?=some (.int (u:Int)):=by rw[cw,hu];rfl
     refine⟨_,rfl,_,rfl,R,_,_,_,rfl,rfl,aM.of Ll,aw huR,?_⟩;have hb1:(bs.map V.ref)[u]?=some (.ref (bs.getD u 0)):=by
      rw[cw,aT,bh (by rw[U6];exact D7)];rfl
     have hb2:=sm _ _ (Np _ D7);refine⟨_,rfl,_,rfl,ol,_,_,_,rfl,rfl,aM.of (sm _ _ Jb),aw hb1,_,rfl,⟨_,aM.of hb2⟩,?_⟩;have nbD:bs.getD u 0≠D:=aj (Np _ D7) hD;have nbR:bs.getD u 0≠R:=aj (Np _ D7) U7;refine fW (K:=K) (xs:=NV (di n ts u)) (fun j σ H3=>∃ (oA:List Nat) (f':Nat->Nat),vR n ts st i oA f'/\oA[i]?=some u/\(∀v∈(di n ts u).take j,v∈oA/\f' v<=f' u+1)/\
      (∃b,σ=[some (.ref ol),some (.int st),some (.ref D),some (.ref R),some (.int (i:Int)),some (.int (u:Int)),b])/\aF H H3/\H3 D=some (.lst (jT n oA f'))/\H3 R=some (.lst (NV oA)))
      ⟨Rs,f,Bf,hu,fun v hv=>by simp at hv,⟨_,rfl⟩,sm,gh,Ll⟩ (fun j σ H3 _ ⟨_,_,_,_,_,_,yI,_⟩=>aM.of (yI _ _ (Np _ D7))) ?_ ?_
     .rintro j x σ H3 hx ⟨oA,f',qw,wH,dn,⟨b',rfl⟩,yI,gU,qZ⟩;rw[cw] at hx;cases hv:(di n ts u)[j]? with
      |none=>rw[hv] at hx;cases hx
      |some v=>
       rw[hv] at hx;obtain rfl:V.int ((v:Nat):Int)=x:=be hx;have Sl:v∈di n ts u:=cU hv;have Jt:v<n:=oQ fi D7 Sl;have Sm:T ts u v:=(hW fi D7).mp Sl;have tk:(di n ts u).take (j+1)=(di n ts u).take j++[v]:=by rw[gk,hv];rfl
       have D8:u∈oA:=cU wH;refine⟨_,rfl,_,rfl,D,_,_,_,rfl,rfl,aM.of gU,aw (jx Jt),rfl,_,rfl,?_⟩;by_cases wI:v∈oA
       .rw[if_pos wI];refine gg ⟨oA,f',qw,wH,fun x hx=>?_,⟨_,rfl⟩,yI,gU,qZ⟩;rw[tk] at hx;rcases cH.mp hx with z|z
        .exact dn x z
        .simp at z;subst z;exact⟨wI,qw.bd u wH _ wI⟩
       .rw[am wI];refine C3 ?_;have NF:(jT n oA f')[u]?=some (.int ((f' u:Nat):Int)):=by rw[jx D7,if_pos D8]
        refine⟨_,rfl,_,rfl,D,_,_,_,rfl,rfl,aM.of gU,aw NF,_,_,rfl,rfl,_,rfl,_,rfl,D,_,_,_,rfl,rfl,gU,by rw[jw];exact iu Jt,?_⟩;have e1:(jT n oA f').set v (.int (((f' u:Nat):Int)+1))=jT n (oA++[v]) (put f' v (f' u+1)):=by
         rw[show ((f' u:Nat):Int)+1=((f' u+1:Nat):Int) by lia,D6 Jt]
        rw[e1];have q8:(upd H3 D (.lst (jT n (oA++[v]) (put f' v (f' u+1))))) R=some (.lst (NV oA)):=by rw[ak B7.symm];exact qZ
        have PY:oA.length<=n:=eM qw.nd qw.lt;refine⟨_,rfl,.inl ⟨rfl,_,aM.of q8⟩,_,rfl,R,_,_,rfl,rfl,q8,by rw[bw];exact bS (show oA.length<33 by lia) (by decide),?_⟩;have Fq:i<oA.length:=(dw.mp wH).1;have U8:u≠v:=fun z=>wI (z ▸ D8);refine⟨oA++[v],put f' v (f' u+1),qw.add wH Jt Sm wI,by rw[fP Fq];exact wH,fun x hx=>?_,⟨_,rfl⟩,a_ (a_ yI hD) U7,?_,?_⟩
        .rw[dZ U8];rw[tk] at hx;rcases cH.mp hx with z|z
         .obtain⟨q1,q2⟩:=dn x z;exact⟨gj _ q1,by rw[dZ (fun (z:x=v)=>wI (z ▸ q1))];exact q2⟩
         .simp at z;subst z;exact⟨by simp,by rw[f8];exact aY _⟩
        .rw[ak B7,af]
        .rw[af];show _=some (HO.lst (NV (oA++[v])));rw[show NV (oA++[v])=NV oA++[.int (v:Int)] by unfold NV;rw[bW];rfl]
     .rintro σ H3 ⟨oA,f',qw,wH,dn,⟨b',rfl⟩,yI,gU,qZ⟩;rw[bw,iW] at dn;have Fq:i<oA.length:=(dw.mp wH).1;have PY:oA.length<=n:=eM qw.nd qw.lt;refine⟨_,rfl,_,_,rfl,rfl,⟨⟨i+1,oA,f',Fq,qw.next wH (fun v t=>dn v ((hW fi D7).mpr t)),⟨_,_,rfl⟩,yI,gU,qZ⟩,?_⟩⟩;show n-((i:Int)+1).toNat<n-(i:Int).toNat;lia
    .rw[show decide ((i:Int)<((Rs.length:Nat):Int))=false by rw[decide_eq_false_iff_not];lia];have e:jT n Rs f=NV ((List.range n).map (far ts st)):=by
      unfold jT NV;rw[gZ];refine nX fun x hx=>?_;obtain⟨q1,q2⟩:=Bf.done fi (by lia) (cq.mp hx);rw[if_pos q1,q2];rfl
     rw[e] at gh;refine gg ⟨_,rfl,k D H2 sm hD gh⟩
   .rintro σ H2 Q1 Q2 imp ⟨v,e1,v2,e2,p,ys,e3,e4,i1,i2,e5,e6,kk,e7,q⟩;exact⟨v,e1,v2,e2,p,ys,e3,e4,i1,i2,e5,e6,kk,e7,imp _ _ q⟩
end
theorem PZ:(["row"]:List Str).Nodup:=by decide +kernel
section
variable {P:Program} {w:World} {K:PySem.W.Frag} {mg:Str->Option Value} {base:Heap}
theorem GW:aE ["distances"] ["distances"] (ap yG):=⟨rfl,rfl,rfl,by decide +kernel,rfl,by decide +kernel,by decide +kernel⟩
def ux:Sp:=fun vs H Q _=>∃ (l:Addr) (ds:List Addr) (n:Nat) (o:Nat->List V),vs=[.ref l]/\H l=some (.lst (ds.map V.ref))/\n<=32/\Holds H ds n (fun j=>.lst (o j))/\(∀j,j<n->∀x∈o j,∃i,x=.int i)/\∀H',aF H H'->Q .bE H'
theorem D9(F:fJ K "check_reached" "check_reached" yG f fd)(B:Bl mg):bz P w K mg base bf 1 f fd ["distances"] ux:=by
 refine F.ok GW (fun vs H Q E h=>?_) (fun dU A outer s H vs Q E hr h=>?_)
 .obtain⟨l,ds,n,o,rfl,_⟩:=h;rfl
 .obtain⟨l,ds,n,o,rfl,hl,n2,hh,hx,k⟩:=h;refine'⟨_,ao (cr (eY (aA (A8 rfl) (by rfl) B.any PyProof.Rows.boot_any (aa ?c ag))) cC bg),?_⟩;case c=>
   refine' bU (g:=a9 0) (te:=im (R0 K false) (tC .bE) (aW 0)) (NB:=["row"]) (src:=[none]) (bq (by kernel_rfl)) rfl (bF (pv 0)) ?g ?t ?e;case g=>exact fun cl C s₃ H₃ fp=>aq (i:=0) PZ rfl (Or.inl rfl) (Or.inr rfl)
   case t=>exact fun cl C s₃ H₃ fp=>cK
   case e=>exact fun cl C s₃ H₃ fp=>io rF dI (pv 0) rfl
  refine⟨_,rfl,l,rfl,⟨_,aM.of hl⟩,fun D hD=>?_⟩;have nl:l≠D:=aj hl hD;refine cD (xs:=ds.map V.ref) (fun i ys σ H2=>(∃a,σ=[a])/\ys=(List.replicate i false).map V.bl/\H2=upd H D (.lst ys)) ⟨⟨_,rfl⟩,rfl,rfl⟩ (fun i ys σ H2 _ ⟨_,_,e⟩=>by rw[e];exact aM.of (by rw[ak nl];exact hl)) ?_ ?_
  .rintro i x ys σ H2 Kt Kf hxi ⟨⟨a,rfl⟩,rfl,rfl⟩ kt kf;obtain⟨hi,rfl⟩:=Js hxi;rw[hh.1] at hi;have hd:=hh.2 i hi;have nd:ds.getD i 0≠D:=aj hd hD;have q1:(o i).all d_=true:=lr.mpr fun x F7=>by obtain⟨z,rfl⟩:=hx i hi x F7;rfl
   have q2:B3 .bE (o i)=false:=by
    unfold B3;rw[pA];intro x F7;obtain⟨z,rfl⟩:=hx i hi x F7;exact fun z=>by cases z
   refine⟨_,rfl,_,_,rfl,.inl (aM.of (by rw[ak nd];exact hd)),rfl,q1,?_⟩;refine kt _ _ _ af ?_ ⟨⟨_,rfl⟩,?_,by rw[jE]⟩
   .rw[aJ,fj];exact bS hi (bj n2 (by decide))
   .rw[mn,bW,q2];rfl
  .rintro ys σ H2 ⟨_,rfl,rfl⟩;refine⟨D,_,rfl,aM.of af,_,rfl,?_⟩;have e:(List.replicate (ds.map V.ref).length false).any id=false:=by
    rw[pA];intro x F7;rw[(List.mem_replicate.mp F7).2];decide
   rw[e];exact gg (k _ (ai hD))
end
theorem Yw:(["one","other"]:List Str).Nodup:=by decide +kernel
theorem P0:(["house","many","ties"]:List Str).Nodup:=by decide +kernel
theorem U9:(["house","self"]:List Str).Nodup:=by decide +kernel
def lY(p Pt:Addr)(H H':Hp):Prop:=∀b o,H b=some o->b≠p->b≠Pt->H' b=some o
theorem fw.mono(h:fw H l n zs)(e:lY p Pt H H')(hp:H p=some (.ins C dx fs))(tb:nJ Pt H):fw H' l n zs:=
 ⟨h.iR,e _ _ h.at_ (eD h.at_ hp (by intro z;cases z)) (tb.not h.at_ (by intro ps z;cases z)),fun z hz=>e _ _ (h.po z hz) (eD (h.po z hz) hp (by intro z;cases z)) (tb.not (h.po z hz) (by intro ps z;cases z))⟩
theorem nJ.mono(t:nJ Pt H)(e:∀b o,H b=some o->b≠p->H' b=some o)(hp:H p=some (.ins C dx fs)):nJ Pt H':=by
 rcases t with z|⟨c,z,y⟩
 .exact .inl (e _ _ z (eD z hp (by intro q;cases q)))
 .exact .inr ⟨c,e _ _ z (eD z hp (by intro q;cases q)),e _ _ y (eD y hp (by intro q;cases q))⟩
theorem nJ.full(t:nJ Pt H):H Pt≠none:=by
 rcases t with z|⟨c,z,y⟩ <;> rw[z] <;> intro q <;> cases q
theorem lY.free(s:lY p Pt H H')(hp:H' p≠none)(tb:nJ Pt H')(h:H' r=none):H r=none:=by
 cases z:H r with
 |none=>rfl
 |some o=>
  by_cases e1:r=p
  .subst e1;exact absurd h hp
  .by_cases e2:r=Pt
   .subst e2;exact absurd h tb.full
   .rw[s r o z e1 e2] at h;cases h
theorem D_(h:k [] H):jn σ H k:=h
theorem jK{H:Hp}{p:Addr}{o:HO}(h:H p=some o):H p≠none:=by rw[h];intro z;cases z
section
variable {P:Program} {w:World} {K:PySem.W.Frag} {mg:Str->Option Value} {base:Heap}
theorem Lm:aE ["self","many","ties"] ["self","many","ties"] (ap Ac):=⟨rfl,rfl,rfl,by decide +kernel,rfl,by decide +kernel,by decide +kernel⟩
def yJ(C Pt:Addr):Sp:=fun vs H Q E=>∃ (p dx:Addr) (n:Nat) (l:Addr) (zs:Zs),vs=[.ref p,.int n,.ref l]/\H p=some (.ins C dx [])/\fw H l n zs/\nJ Pt H/\
  ∀H',cL C H' (fun a=>H a=none) p n (zp zs)->nJ Pt H'->lY p Pt H H'->Q .bE H'
theorem GX{f C Pt:Addr}{fd:FuncData}(F:fJ K "__init__" "Net.__init__" Ac f fd)(T:NT K mg C)(B:Bl mg)(CT:cQ P w K mg base bf 6 "check_ties" ["many","ties"] jJ)(CB:cQ P w K mg base bf 1 "check_balance" ["many","ties"] jJ)(HO':cQ P w K mg base bf 1 "houses_out" ["many","ties","house"] (uv Pt))(DF:cQ P w K mg base bf 1 "distances_from" ["out_lists","start"] uw)(CR:cQ P w K mg base bf 1 "check_reached" ["distances"] ux):
  bz P w K mg base bf 7 f fd ["self","many","ties"] (yJ C Pt):=by
 refine F.ok Lm (fun vs H Q E h=>?_) (fun dU A outer s H vs Q E hr h=>?_)
 .obtain⟨p,dx,n,l,zs,rfl,_⟩:=h;rfl
 .have NG:b9 1 _:=hr.mono (by decide);refine'⟨_,ah (bu (aB CT hr aI (aa (pv 1) (aa (pv 2) ag))))
   (ah (bu (aB CB NG aI (aa (pv 1) (aa (pv 2) ag))))
   (ah (tR (pv 0) (pv 1) rfl)
   (ah (tR (pv 0) (aA qp (by rfl) B.sorted wQ (aa ?c1 ag)) rfl)
   (ah (tR (pv 0) ?c2 rfl)
   (ah (tR (pv 0) ?c3 rfl)
   (ao (bu (aB CR NG aI (aa (jm (pv 0) rfl) ag))))))))),?_⟩
  case c1=>
   refine' bU (g:=oq K 2 (dC (a9 0) (dC (a9 1) oo))) (te:=AR (cP (aW 0) (cP (aW 1) jn))) (NB:=["one","other"]) (src:=[none,none]) (bq (by kernel_rfl)) rfl (bF (pv 2)) ?g ?t ?e;case g=>exact fun cl C s₃ H₃ fp=>dY (n:=2) rfl (aO (aq (i:=0) Yw rfl (Or.inl rfl) (Or.inr rfl)) (aO (aq (i:=1) Yw rfl (Or.inl rfl) (Or.inr rfl)) c_))
   case t=>exact fun cl C s₃ H₃ fp=>cK
   case e=>exact fun cl C s₃ H₃ fp=>fX (aa (pv 0) (aa (pv 1) ag))
  case c2=>
   refine' bU (g:=a9 0) (te:=pX (uv Pt) [] E0 (cP (aW 1) (cP (aW 2) (cP (aW 0) jn)))) (NB:=["house","many","ties"]) (src:=[none,some 1,some 2]) (bq (by kernel_rfl)) rfl (bP rfl B.range (aa (pv 1) ag)) ?g ?t ?e;case g=>exact fun cl C s₃ H₃ fp=>aq (i:=0) P0 rfl (Or.inl rfl) (Or.inr rfl)
   case t=>exact fun cl C s₃ H₃ fp=>cK
   case e=>exact fun cl C s₃ H₃ fp=>aB HO' NG aI (aa (pv 1) (aa (pv 2) (aa (pv 0) ag)))
  case c3=>
   refine' bU (g:=a9 0) (te:=pX uw [] E0 (cP (Ko K (aW 1) "out_lists") (cP (aW 0) jn))) (NB:=["house","self"]) (src:=[none,some 0]) (bq (by kernel_rfl)) rfl (bP rfl B.range (aa (pv 1) ag)) ?g ?t ?e;case g=>exact fun cl C s₃ H₃ fp=>aq (i:=0) U9 rfl (Or.inl rfl) (Or.inr rfl)
   case t=>exact fun cl C s₃ H₃ fp=>cK
   case e=>exact fun cl C s₃ H₃ fp=>aB DF NG aI (aa (jm (pv 1) rfl) (aa (pv 0) ag))
  obtain⟨p,dx,n,l,zs,rfl,hp,TT,tb,k⟩:=h;have fi:=TT.iR;have n1:=fi.n1;have n2:=fi.n2;have dt:zs.length<=256:=by have:=fi.len;rw[b8] at this;exact this
  refine⟨_,rfl,_,rfl,n,l,zs,rfl,TT,fun H1 s1=>?_⟩;refine⟨_,rfl,_,rfl,n,l,zs,rfl,TT.same s1,fun H2 s2=>?_⟩;have Ea:aF H H2:=s1.trans s2;refine⟨_,rfl,_,rfl,p,C,dx,[],rfl,Ea _ _ hp,T.cl,T.nH,(by show 0<1000;decide),?_⟩
  let G1:Hp:=upd H2 p (.ins C dx (de "house_count" (.int n) []))
  have d1:lY p Pt H G1:=fun b o e h1 _=>by show upd _ _ _ _=_;rw[ak h1];exact Ea _ _ e
  have Sn:G1 p=some (.ins C dx (de "house_count" (.int n) [])):=af;have U_:fw G1 l n zs:=TT.mono d1 hp tb;have Va:nJ Pt G1:=tb.mono (fun b o e h1=>by show upd _ _ _ _=_;rw[ak h1];exact Ea _ _ e) hp;refine⟨_,rfl,l,rfl,⟨_,aM.of U_.at_⟩,fun D hD=>?_⟩;refine DS (fun y=>y) (fun σ=>∃a b,σ=[a,b]) U_.at_ U_.po hD (by lia) ⟨_,_,rfl⟩ ?_ ?_
  .rintro z σ H3 R Kf hz ⟨a,b,rfl⟩ _ ha kk;refine⟨_,_,rfl,bV.of ha,rfl,_,_,rfl,_,_,rfl,rfl,?_⟩;exact⟨_,rfl,_,rfl,by show 2<=sizeLine;decide,fun t ht=>kk _ _ ⟨_,_,rfl⟩ ht⟩
  .intro Yx H3 sm gU Ln ez fr2;rw[List.map_id'] at ez;have CW:Yx.length=zs.length:=by rw[<-b8,ez,b8]
   refine D_ ?_;refine Ab gU Ln (by lia) (fun u hu=>by have:=(fi.rg u (ez ▸ hu)).2;lia) fun tl NH Vb pm ord=>?_;have Vc:H tl=none:=d1.free (jK Sn) Va (sm.free Vb);have Ki:∀z∈NH,H z.1=none:=fun z hz=>d1.free (jK Sn) Va (fr2 z (pm.mem_iff.mp hz));have Vd:H3 p=some (.ins C dx (de "house_count" (.int n) [])):=sm _ _ Sn;have Lo:p≠tl:=aj Vd Vb;refine⟨_,rfl,p,C,dx,_,rfl,by rw[ak Lo];exact Vd,T.cl,T.nT,by show 1<1000;decide,?_⟩
   let G2:Hp:=upd (upd H3 tl (.lst (zr NH))) p (.ins C dx (de "tie_list" (.ref tl) (de "house_count" (.int n) [])))
   have q2:∀b o,H3 b=some o->b≠p->G2 b=some o:=fun b o e h1=>by
    show upd _ _ _ _=_;rw[ak h1,ak (aj e Vb)];exact e
   have d2:lY p Pt H G2:=fun b o e h1 h2=>q2 _ _ (sm _ _ (d1 _ _ e h1 h2)) h1;have Yy:G2 tl=some (.lst (zr NH)):=by show upd _ _ _ _=_;rw[ak Lo.symm,af]
   have Ve:PO G2 NH:=fun z hz=>q2 _ _ (Ln z (pm.mem_iff.mp hz)) (eD (Ln z (pm.mem_iff.mp hz)) Vd (by intro z;cases z));have Lp:G2 p=some (.ins C dx (de "tie_list" (.ref tl) (de "house_count" (.int n) []))):=af;have TT2:fw G2 l n zs:=TT.mono d2 hp tb;have Lq:nJ Pt G2:=Va.mono (fun b o e h1=>q2 _ _ (sm _ _ e) h1) Sn;refine⟨_,rfl,n,rfl,by lia,by lia,fun D2 gh=>?_⟩;refine dL (n:=n) (lo:=0) (fun i ys σ H4=>(∃a,σ=[a,some (.int n),some (.ref l)])/\∃bs:List Addr,ys=bs.map V.ref/\(∀b∈bs,H b=none)/\Holds H4 bs i (fun h=>.lst (NV (di n (zp zs) h)))/\iL Pt G2 H4/\nJ Pt H4/\H4 D2=some (.lst ys)/\∀b∈bs,b≠D2)
    ⟨⟨_,rfl⟩,[],rfl,(fun _ h=>nomatch h),Holds.nil,iL.of (ai gh),Lq.same (ai gh),af,(fun _ h=>nomatch h)⟩ ?_ ?_
   .rintro i ys σ H4 Kt Kf hi ⟨⟨a,rfl⟩,bs,rfl,Vf,hb,oZ,NI,qx,Vg⟩ kt kf;have TT4:fw H4 l n zs:=TT2.mono (p:=p) (fun b o e _ h2=>oZ _ _ e h2) Lp Lq;have NJ:=oZ _ _ Lp (Lq.not Lp (by intro ps z;cases z));refine⟨_,rfl,_,rfl,_,rfl,n,l,i,zs,by rw[g7];rfl,hi,TT4,NI,fun r H5 t5 u4 Vh hr5=>?_⟩;have Vi:H r=none:=lY.free (fun b o e h1 h2=>oZ _ _ (d2 _ _ e h1 h2) h2) (jK NJ) NI Vh;have So:H5 D2=some (.lst (bs.map V.ref)):=u4 _ _ qx (NI.not qx (by intro ps z;cases z));have P1:r≠D2:=by rintro rfl;rw[qx] at Vh;cases Vh
    have j4:∀b o qW,H5 b=some o->b≠D2->(upd H5 D2 qW) b=some o:=fun b o qW e h=>by rw[ak h];exact e
    refine kt _ _ _ So (by rw[aJ,hb.1];exact bS hi (bj n2 (by decide))) ⟨⟨_,rfl⟩,bs++[r],by rw[bW];rfl,?_,?_,?_,?_,af,?_⟩
    .intro b kJ;rcases cH.mp kJ with z|z
     .exact Vf b z
     .rw[cy.mp z];exact Vi
    .refine Holds.snoc (hb.mono fun j hj e=>?_) (j4 _ _ _ hr5 P1);refine j4 _ _ _ (u4 _ _ e (NI.not e (by intro ps z;cases z))) (Vg _ ?_);rw[aT,bh (by rw[hb.1];exact hj)];exact fk _
    .intro b o e h;exact j4 _ _ _ (u4 _ _ (oZ _ _ e h) h) (aj e gh)
    .rcases t5 with z|⟨c,z,y⟩
     .exact .inl (j4 _ _ _ z (eD z So (by intro q;cases q)))
     .exact .inr ⟨c,j4 _ _ _ z (eD z So (by intro q;cases q)),j4 _ _ _ y (eD y So (by intro q;cases q))⟩
    .intro b kJ;rcases cH.mp kJ with z|z
     .exact Vg b z
     .rw[cy.mp z];exact P1
   .rintro ys σ H4 ⟨_,bs,rfl,Vf,hb,oZ,NI,qx,Vg⟩;have NJ:H4 p=some (.ins C dx (de "tie_list" (.ref tl) (de "house_count" (.int n) []))):=oZ _ _ Lp (Lq.not Lp (by intro ps z;cases z));have Vj:H D2=none:=d2.free (jK Lp) Lq gh;refine⟨_,rfl,p,C,dx,_,rfl,NJ,T.cl,T.nO,by have h1:=dJ "tie_list" (V.ref tl) (de "house_count" (V.int n) []);have h2:=dJ "house_count" (V.int n) [];simp at h2;lia,?_⟩
    let G3:Hp:=upd H4 p (.ins C dx (de "out_lists" (.ref D2) (de "tie_list" (.ref tl) (de "house_count" (.int n) []))))
    have q3:∀b o,H4 b=some o->b≠p->G3 b=some o:=fun b o e h1=>by show upd _ _ _ _=_;rw[ak h1];exact e
    have Lr:G3 p=some (.ins C dx (de "out_lists" (.ref D2) (de "tie_list" (.ref tl) (de "house_count" (.int n) [])))):=af;have d3:lY p Pt H G3:=fun b o e h1 h2=>q3 _ _ (oZ _ _ (d2 _ _ e h1 h2) h2) h1;have Vk:nJ Pt G3:=NI.mono q3 NJ;have Yz:Holds G3 bs n (fun h=>.lst (NV (di n (zp zs) h))):=hb.mono fun j hj e=>q3 _ _ e (eD e NJ (by intro z;cases z));have Vl:G3 D2=some (.lst (bs.map V.ref)):=q3 _ _ qx (eD qx NJ (by intro z;cases z));have O3:qv G3 D2 n (zp zs):=⟨bs,Vl,Yz⟩
    refine⟨_,rfl,n,rfl,by lia,by lia,fun D3 BG=>?_⟩;refine dL (n:=n) (lo:=0) (fun i ys σ H6=>(∃a,σ=[a,some (.ref p)])/\∃ds:List Addr,ys=ds.map V.ref/\(∀b∈ds,H b=none)/\Holds H6 ds i (fun s=>.lst (NV ((List.range n).map (far (zp zs) s))))/\aF G3 H6/\H6 D3=some (.lst ys)/\∀b∈ds,b≠D3)
     ⟨⟨_,rfl⟩,[],rfl,(fun _ h=>nomatch h),Holds.nil,ai BG,af,(fun _ h=>nomatch h)⟩ ?_ ?_
    .rintro i ys σ H6 Kt Kf hi ⟨⟨a,rfl⟩,ds,rfl,Vm,hd,GY,wJ,Oq⟩ kt kf;refine⟨_,rfl,p,C,dx,_,_,rfl,GY _ _ Lr,T.cl,T.nO,by rw[bo,if_pos rfl],_,rfl,D2,n,i,zp zs,by rw[g7];rfl,fi,hi,O3.same GY,fun r H7 Vn Vo hr7=>?_⟩;have e7D:H7 D3=some (.lst (ds.map V.ref)):=Vn _ _ wJ;have P1:r≠D3:=by rintro rfl;rw[wJ] at Vo;cases Vo
     have Vi:H r=none:=lY.free (fun b o e h1 h2=>GY _ _ (d3 _ _ e h1 h2)) (jK (GY _ _ Lr)) (Vk.same GY) Vo;have j4:∀b o qW,H7 b=some o->b≠D3->(upd H7 D3 qW) b=some o:=fun b o qW e h=>by rw[ak h];exact e
     refine kt _ _ _ e7D (by rw[aJ,hd.1];exact bS hi (bj n2 (by decide))) ⟨⟨_,rfl⟩,ds++[r],by rw[bW];rfl,?_,?_,?_,af,?_⟩
     .intro b kJ;rcases cH.mp kJ with z|z
      .exact Vm b z
      .rw[cy.mp z];exact Vi
     .refine Holds.snoc (hd.mono fun j hj e=>?_) (j4 _ _ _ hr7 P1);refine j4 _ _ _ (Vn _ _ e) (Oq _ ?_);rw[aT,bh (by rw[hd.1];exact hj)];exact fk _
     .intro b o e;exact j4 _ _ _ (Vn _ _ (GY _ _ e)) (aj e BG)
     .intro b kJ;rcases cH.mp kJ with z|z
      .exact Oq b z
      .rw[cy.mp z];exact P1
    .rintro ys σ H6 ⟨_,ds,rfl,Vm,hd,GY,wJ,Oq⟩;have P4:=GY _ _ Lr;refine⟨_,rfl,p,C,dx,_,rfl,P4,T.cl,T.nD,by have h1:=dJ "tie_list" (V.ref tl) (de "house_count" (V.int n) []);have h2:=dJ "house_count" (V.int n) [];have h3:=dJ "out_lists" (V.ref D2) (de "tie_list" (V.ref tl) (de "house_count" (V.int n) []));simp at h2;lia,?_⟩;have q4:∀b o u,H6 b=some o->b≠p->(upd H6 p u) b=some o:=fun b o u e h1=>by rw[ak h1];exact e
     refine⟨_,rfl,p,C,dx,_,_,rfl,af,T.cl,T.nD,by rw[bo,if_pos rfl],D3,ds,n,fun s=>NV ((List.range n).map (far (zp zs) s)),rfl,q4 _ _ _ wJ (eD wJ P4 (by intro z;cases z)),n2,hd.mono fun j hj e=>q4 _ _ _ e (eD e P4 (by intro z;cases z)),fun j hj x hx=>?_,fun H8 s8=>?_⟩
     .obtain⟨y,hy,rfl⟩:=bH.mp hx;exact⟨_,rfl⟩
     .have up:∀b o,G3 b=some o->b≠p->H8 b=some o:=fun b o e h1=>s8 _ _ (q4 _ _ _ (GY _ _ e) h1);have Vp:H D3=none:=d3.free (jK Lr) Vk BG;have YA:∀b o,G2 b=some o->b≠p->b≠Pt->H8 b=some o:=fun b o e h1 h2=>up _ _ (q3 _ _ (oZ _ _ e h2) h1) h1;refine k H8 ⟨fi,dx,tl,D2,D3,s8 _ _ af,Vj,Vp,⟨bs,up _ _ Vl (eD Vl Lr (by intro z;cases z)),Vf,Yz.mono fun j hj e=>up _ _ e (eD e Lr (by intro z;cases z))⟩,
       ⟨ds,s8 _ _ (q4 _ _ _ wJ (eD wJ P4 (by intro z;cases z))),Vm,hd.mono fun j hj e=>s8 _ _ (q4 _ _ _ e (eD e P4 (by intro z;cases z)))⟩,
       ⟨Vc,NH,YA _ _ Yy Lo.symm (Lq.not Yy (by intro ps z;cases z)),fun z hz=>YA _ _ (Ve z hz) (eD (Ve z hz) Lp (by intro z;cases z)) (Lq.not (Ve z hz) (by intro ps z;cases z)),Ki,((show (zp NH).Perm (zp Yx) from pm.map _).trans (tf ez)),ord⟩⟩ ?_ fun b o e h1 h2=>up _ _ (d3 _ _ e h1 h2) h1
      exact Vk.mono up Lr
end
theorem ix:NV xs++[.int (x:Int)]=NV (xs++[x]):=by unfold NV;rw[bW];rfl
theorem v4{xs:List Nat}{i:Nat}{x:V}(h:(NV xs)[i]?=some x):∃y,xs[i]?=some y/\x=.int (y:Int):=by
 unfold NV at h;rw[cw] at h;cases e:xs[i]? with
 |none=>rw[e] at h;cases h
 |some z=>rw[e] at h;exact⟨z,rfl,(be h).symm⟩
end uq
namespace L2
open PySem PySem.Spec PyProof.Rows
section
variable {X:Cx}
def GZ(X:Cx)(H:Hp)(d:Nat)(x y:V):Prop:=∀ (ae:List (Addr×Obj)) (s:Shared) (σ:St) (A:Around) (u v:Value),aD X ae σ H s->A.units+d<cLine->bn x u->bn y v->SeqAt.EqAt A s u v true
theorem nK(I:aD X ae σ H s)(hu:A.units+d<cLine)(rx:aP xs us)(ry:aP ys vs)(he:∀i,i<xs.length->i<ys.length->GZ X H d (xs.getD i .bE) (ys.getD i .bE)):∀j (h1:j<us.toArray.size) (h2:j<vs.toArray.size),SeqAt.EqAt A s us.toArray[j] vs.toArray[j] true:=by
 intro j h1 h2;have j1:j<xs.length:=by rw[rx.length];simpa using h1
 have j2:j<ys.length:=by rw[ry.length];simpa using h2
 have e1:xs[j]?=some (xs.getD j .bE):=by rw[aT,bh j1];rfl
 have e2:ys[j]?=some (ys.getD j .bE):=by rw[aT,bh j2];rfl
 obtain⟨u,B6,ru⟩:=rx.get e1;obtain⟨v,F9,rv⟩:=ry.get e2;have eu:us.toArray[j]=u:=by
  have:us[j]?=some us.toArray[j]:=by simp at h1 |-
  rw[B6] at this;exact(be this).symm
 have ev:vs.toArray[j]=v:=by
  have:vs[j]?=some vs.toArray[j]:=by simp at h2 |-
  rw[F9] at this;exact(be this).symm
 rw[eu,ev];exact he j j1 j2 ae s σ A u v I hu ru rv
theorem qy:(List.range n).all (fun _=>true)=true:=lr.mpr fun _ _=>rfl
theorem G0{H:Hp}{d:Nat}{a b:Addr}{xs ys:List V}(ha:bV X.K H a xs)(hb:bV X.K H b ys)(hl:xs.length=ys.length)(he:∀i,i<xs.length->i<ys.length->GZ X H d (xs.getD i .bE) (ys.getD i .bE)):GZ X H (d+1) (.ref a) (.ref b):=by
 intro ae s σ A u v I hu rx ry;obtain rfl:u=Value.ref a:=rx;obtain rfl:v=Value.ref b:=ry;by_cases r_:a=b
 .subst r_;exact SeqAt.EqAt.same _
 obtain⟨us,r1,p1,_⟩:=I.tuple ha;obtain⟨vs,r2,p2,_⟩:=I.tuple hb;refine SeqAt.EqAt.of_refs r_ ?_;have h:=SeqAt.RcAt.tuples (A:=A) (s:=s) (l:=a) (b:=b) (e:=fun _=>true) (show s.heap.IsTuple a us.toArray from p1) (show s.heap.IsTuple b vs.toArray from p2) (by lia) (nK I (by show A.units+1+d<cLine;lia) r1 r2 he);rw[qy] at h;have e:(us.toArray.size==vs.toArray.size)=true:=by simp only[br];rw[<-r1.length,<-r2.length,hl];simp
 rw[e] at h;exact h
def Vq(X:Cx)(zm:Bool)(d:Nat):R2:=fun x y H Q=>∃p q xs ys,x=.ref p/\y=.ref q/\bV X.K H p xs/\bV X.K H q ys/\xs.length=ys.length/\(∀i,i<xs.length->i<ys.length->GZ X H d (xs.getD i .bE) (ys.getD i .bE))/\Q (.bl (!zm)) H
theorem G4{d:Nat}(hu:X.A.units+(d+1)<cLine):jF X (compareOp .NotEq) (Vq X true d):=by
 intro ae s σ H x y v u Q I rx ry h;obtain⟨p,q,xs,ys,rfl,rfl,hp,hq,hl,he,k⟩:=h;obtain rfl:v=Value.ref p:=rx;obtain rfl:u=Value.ref q:=ry;obtain⟨us,r1,p1,_⟩:=I.tuple hp;obtain⟨vs,r2,p2,_⟩:=I.tuple hq;have e:(us.toArray.size==vs.toArray.size)=true:=by simp only[br];rw[<-r1.length,<-r2.length,hl];simp
 refine SeqAt.RcNeAt.tuples (e:=fun _=>true) (show s.heap.IsTuple p us.toArray from p1) (show s.heap.IsTuple q vs.toArray from p2) (by lia) (nK I (by show X.A.units+1+d<cLine;lia) r1 r2 he) _ _ _ _ ⟨.bl _,H,I,rfl,?_⟩;rw[qy,e];exact k
def P5(X:Cx)(zm:Bool)(d:Nat):R2:=fun x y H Q=>∃p q xs ys,x=.ref p/\y=.ref q/\aM X.K H p xs/\aM X.K H q ys/\xs.length=ys.length/\(∀i,i<xs.length->i<ys.length->GZ X H d (xs.getD i .bE) (ys.getD i .bE))/\Q (.bl (!zm)) H
theorem o0{d:Nat}(hu:X.A.units+(d+1)<cLine):jF X (compareOp .NotEq) (P5 X true d):=by
 intro ae s σ H x y v u Q I rx ry h;obtain⟨p,q,xs,ys,rfl,rfl,hp,hq,hl,he,k⟩:=h;obtain rfl:v=Value.ref p:=rx;obtain rfl:u=Value.ref q:=ry;obtain⟨us,r1,p1,_⟩:=I.list hp;obtain⟨vs,r2,p2,_⟩:=I.list hq;refine SeqAt.RcNeAt.lists (e:=fun _=>true) p1.isList p2.isList (by simp only[br];rw[<-r1.length,<-r2.length];exact hl) (by lia) (nK I (by show X.A.units+1+d<cLine;lia) r1 r2 he) _ _ _ _ ⟨.bl _,H,I,rfl,?_⟩;rw[qy];exact k
end
end L2
namespace uq
open PySem L2 kQ
section
variable {P:Program} {w:World} {K:PySem.W.Frag} {mg:Str->Option Value} {base:Heap}
theorem Ls:aE ["self"] ["self"] (ap DU):=⟨rfl,rfl,rfl,by decide +kernel,rfl,by decide +kernel,by decide +kernel⟩
def yK(C:Addr):Sp:=fun vs H Q _=>∃ (L:Addr->Prop) (p:Addr) (n:Nat) (ts:Ts),vs=[.ref p]/\cL C H L p n ts/\Q (.int n) H
theorem G5{f C:Addr}{fd:FuncData}(F:fJ K "many" "Net.many" DU f fd)(T:NT K mg C):bz P w K mg base bf 1 f fd ["self"] (yK C):=by
 refine F.ok Ls (fun vs H Q E h=>?_) (fun dU A outer s H vs Q E hr h=>?_)
 .obtain⟨L,p,n,ts,rfl,_⟩:=h;rfl
 .obtain⟨L,p,n,ts,rfl,N,k⟩:=h;obtain⟨dx,tl,ol,ds,h1,_⟩:=N.ob;refine⟨_,ao (aX (jm (pv 0) rfl)),?_⟩;exact⟨_,rfl,p,C,dx,_,_,rfl,h1,T.cl,T.nH,Ad _ _ _ _,k⟩
end
end uq
namespace L2
open PySem PySem.Spec PyProof.Rows
section
variable {prog:Program} {w:World} {A:Around} {E:Value->Shared->Prop} {s:Shared} {R:Result->Shared->Prop} {l d Ia:Addr}
end
section
variable {prog:Program} {w:World} {A:Around} {E:Value->Shared->Prop} {s:Shared} {l:Addr}
end
section
variable {X:Cx}
end
structure YB(K:PySem.W.Frag)(C:Addr):Prop where
 makes:PySem.W.makesIn K C=true
 init:PySem.W.findIn K (.ref C) "__init__"=some (some (.builtin "object.__init__"))
 keep:PySem.W.keepIn K (.ref C)=true
section
variable {X:Cx} {C:Addr} {x:Str} {p pos:Pos}
def Vr(C:Addr):TE:=fun _ H Q=>∀y dx,H y=none->H dx=none->dx≠y->Q (.ref y) (upd (upd H dx (.own y)) y (.ins C dx []))
theorem Eb(M:YB X.K C)(hg:Gl X x)(hm:X.mg x=some (.ref C))(xR:(x==("__debug__":Str))=false:=by decide):PE X (.Call (.Name x p) [] [] pos) (Vr C):=by
 intro ae s σ H Q I h;refine iY (lu I hg hm ?_ xR);have I2:=aD.made (C:=C) I;have cZ:wpAny (model X.prog X.w) X.A (call (.ref C) []) (EP X ae σ Q) X.xe s:=by
  refine kr ?_;refine AO I.jW M.makes M.init (fun self=>PySem.W.Looks.of_pure (PySem.W.oi_bind self)) ?_;have Y:=xk (M:=model X.prog X.w) I.jW M.makes;have t1:PySem.W.Looks (model X.prog X.w) ((s.heap.push PySem.W.emptyDict).push (PySem.W.instObj C s.heap.objs.size)) (typeOf (.ref (s.heap.objs.size+1))) (.ref C):=(PySem.W.Looks.ld (by heap_get)).andThen .now;have t2:PySem.W.Looks (model X.prog X.w) ((s.heap.push PySem.W.emptyDict).push (PySem.W.instObj C s.heap.objs.size)) (isInstance (.ref (s.heap.objs.size+1)) (.type "object")) true:=t1.andThen (Y.top.keeps fun b o e=>bQ _ (bQ _ e));refine sM PySem.W.oi_plain PySem.W.entry_oi (@PySem.W.check_slot (model X.prog X.w) _ _ _ "object.__init__" "object" "__init__" (.ref (s.heap.objs.size+1)) [] [] _ PySem.W.oi_kind PySem.W.oi_split t2 (PySem.W.oi_args (.ref (s.heap.objs.size+1))) ?_);rw[PySem.W.oi_run];refine wpAny_pure (And.intro rfl ?_);exact⟨.ref (s.heap.objs.size+1),_,I2,rfl,h _ _ (I.bB.fresh (pQ _)) (I.bB.fresh (aY _)) (a8 (i6 _))⟩
 exact PySem.W.callWith_K0 I.jW M.keep cZ
end
theorem qz:fillsNumberSlot (.type "tuple") "mul"=pure false:=
 PySem.fillsNumberSlot_seq (id:="tuple.__mul__") (r:=some (.builtin "tuple.__rmul__")) F.slot_tuple_mul.lookup (by decide +kernel) F.slot_tuple_rmul.lookup (by decide +kernel)
theorem yL:seqRepeat? (.type "tuple")=pure (some (.builtin "tuple.__mul__")):=by
 unfold seqRepeat?;rw[PySem.seqSlot_of (T:="tuple") (name:="__mul__") (id:="tuple.__mul__") F.slot_tuple_mul.lookup (by decide +kernel),PySem.seqSlot_of (T:="tuple") (name:="__rmul__") (id:="tuple.__rmul__") F.slot_tuple_rmul.lookup (by decide +kernel)];rfl
theorem Ec(a:Int)(t:Tok)(l:Addr)(aH:Array Value)(n:Nat)(dd:Option Addr)(sl:Array (Option Value)):
  Meets (Builtin.«int.__rmul__» ⟨[.int a t,.ref l],[]⟩) (fun _ R s=>s.heap.get? l=some { cls:=.type "tuple",dict:=dd,data:=.seq aH n,slots:=sl }/\R (.ok (.ret .notImplemented)) s):=
 .of_wp fun prog w A R s h=>by
  obtain⟨hp,g,d,tk,os⟩:=s;obtain⟨hl,h⟩:=h
  wp_walk;exact⟨_,rfl,h⟩
theorem G6(k:Int)(t:Tok)(l:Addr)(its:List Value)(aH:Array Value)(n:Nat)(dd:Option Addr)(sl:Array (Option Value))(ei:aH=its.toArray)(h0:0<=k)(h1:k<1000)(hz:aH.size<=1000)(h2:¬ aH.isEmpty=true):
  Meets (Builtin.«tuple.__mul__» ⟨[.ref l,.int k t],[]⟩) (fun _ R s=>s.heap.get? l=some { cls:=.type "tuple",dict:=dd,data:=.seq aH n,slots:=sl }/\(k=1->R (.ok (.ret (.ref l))) s)/\
   (k≠1->R (.ok (.ret (.ref s.heap.objs.size))) { s with heap:=s.heap.push { cls:=.type "tuple",data:=.seq (if k<=0 then #[] else (List.replicate k.toNat aH).foldl (·++·) #[]) } })):=
 .of_wp fun prog w A R s h=>by
  obtain⟨hp,g,d,tk,os⟩:=s;obtain⟨hl,q1,q2⟩:=h;have e1:(decide (k < -(2 ^ 63))||decide (k>=2 ^ 63))=false:=by
   rw[Bool.or_eq_false_iff];exact⟨cM (by lia),cM (by lia)⟩
  have f1:=AutoSeq1.idx_int;unfold Builtin.«tuple.__mul__»
  wp_walk
  have ht:IsTup hp l aH:=⟨_,hl,rfl,n,rfl⟩
  have ie:aH.isEmpty=false:=by simpa using h2
  rw[am (by rw[e1];decide)];show wpAny _ _ (Builtin.Tuple.tupleItemsOf (.ref l) >>= _) _ _ _;refine au (tupleItemsOf_ ht ?_);by_cases k1:k=1
  .dsimp only;rw[if_pos (by rw[ie,k1];rfl)];refine au (Q:=_) (m:=Builtin.Tuple.tupleIsExact (.ref l)) ?_;unfold Builtin.Tuple.tupleIsExact;refine au (tO ht.typeIs ?_);refine wpAny_pure ?_;rw[if_pos (by decide)];exact au (fS (wpAny_pure ⟨_,rfl,q1 k1⟩))
  .dsimp only;rw[am (by rw[ie];simpa using k1)];by_cases k0:k<=0
   .rw[if_pos (by rw[cR k0];rfl)];have z:=q2 k1;rw[if_pos k0] at z;exact au (m:=Builtin.Tuple.tupleExact _) (ln (wpAny_pure ⟨_,rfl,z⟩) (by show (0:Nat)<=sizeLine;decide))
   .rw[am (by rw[cM k0,ie];decide)];have m1:(aH.size:Int)*k<=1000*1000:=Int.mul_le_mul (by lia) (by lia) (by lia) (by lia);rw[am (show ¬ ((aH.size:Int)*k > (2 ^ 63-1) / 8) from fun y=>by
     have:((2:Int) ^ 63-1) / 8=1152921504606846975:=by decide
     lia)]
    have tm:Builtin.Tuple.tupleTooMany ((aH.size:Int)*k)=false:=by
     unfold Builtin.Tuple.tupleTooMany;refine cM fun y=>?_;have:(1000000:Int)<=(sizeLine:Int):=by decide
     lia
    rw[am (by rw[tm];decide)];have z:=q2 k1;rw[am k0] at z;exact au (m:=Builtin.Tuple.tupleExact _) (ln (wpAny_pure ⟨_,rfl,z⟩) (by
     subst ei;have:=m9 its k.toNat [];rw[List.nil_append] at this;show (List.foldl (fun x1 x2=>x1++x2) #[] (List.replicate k.toNat its.toArray)).size<=sizeLine;rw[this,br,zo];have h3:k.toNat*its.length<=1000*1000:=Nat.mul_le_mul (by lia) (by simpa using hz);exact bj h3 (by decide)))
section
variable {X:Cx}
def Ed:R2:=fun x y H Q=>∃a k xs,x=.ref a/\y=.int k/\H a=some (.tup xs)/\xs≠[]/\xs.length<=1000/\0<=k/\k<1000/\∀r H',aF H H'->H' r=some (.tup (List.replicate k.toNat xs).flatten)->Q (.ref r) H'
theorem G7:jF X (binaryOp .Mult) Ed:=by
 intro ae s σ H x y v u Q I rx ry h;obtain⟨a,k,xs,rfl,rfl,ha,hx,hz,h0,h1,q⟩:=h;cases rx;obtain⟨t,rfl⟩:=ry;obtain⟨its,r1,p1,_⟩:=I.tuple (bV.of ha);obtain⟨⟨cls,dd,data,sl⟩,ho,hc,n,hd⟩:=id p1;simp only at hc hd;subst hc hd;have hl:=r1.length;have hi:its≠[]:=fun z=>hx (r1.lG.mp z);refine wpAny_binaryOp_repeat_ref (T:="tuple") (U:="int") (by decide) ⟨_,ho,rfl⟩ (fun s'=>typeIs_int s' k t) qz F.fills_int_mul F.slot_int_rmul yL F.slot_int_index.lookup
  (mN F.slot_int_rmul (typeIs_int s k t) F.entry_int_rmul (F.args_int_rmul_2 _ _) (Ec k t a its.toArray n dd sl)
   ⟨ho,rfl,⟨_,ho,rfl⟩,mN F.slot_tuple_mul ⟨_,ho,rfl⟩ F.entry_tuple_mul (F.args_tuple_mul_2 _ _) (G6 k t a its its.toArray n dd sl rfl h0 h1 (by rw[br];lia) (by simpa using hi)) ⟨ho,fun e=>?_,fun e=>?_⟩⟩)
 .refine⟨.ref a,H,I,rfl,q a H (aF.refl _) ?_⟩;rw[ha,e];simp
 .have nf:=I.bB.fresh (aY s.heap.objs.size);have en:(if k<=0 then #[] else (List.replicate k.toNat its.toArray).foldl (·++·) #[])=(List.replicate k.toNat its).flatten.toArray:=by
   by_cases k0:k<=0
   .rw[if_pos k0,show k.toNat=0 by lia];rfl
   .rw[am k0];have:=m9 its k.toNat [];rw[List.nil_append] at this;exact this
  rw[en];refine⟨.ref s.heap.objs.size,_,I.laid (t':=s.toks) (o:=.tup (List.replicate k.toNat xs).flatten) (fun b ob q=>bQ _ q) (aY _) ?_,rfl,q _ _ (ai nf) af⟩;refine⟨?_,_,r1.rep k.toNat,ii.new _ _⟩;rw[zo];have h3:k.toNat*xs.length<=1000*1000:=Nat.mul_le_mul (by lia) hz;exact bj h3 (by decide)
def P6:R2:=fun x y H Q=>∃a b xs ys,x=.ref a/\y=.ref b/\H a=some (.tup xs)/\H b=some (.tup ys)/\xs.length+ys.length<=sizeLine/\∀r H',aF H H'->H' r=some (.tup (xs++ys))->Q (.ref r) H'
theorem Aj:jF X (binaryOp .Add) P6:=by
 intro ae s σ H x y v u Q I rx ry h;obtain⟨a,b,xs,ys,rfl,rfl,ha,hb,hz,q⟩:=h;cases rx;cases ry;obtain⟨its,r1,p1,_⟩:=I.tuple (bV.of ha);obtain⟨iQ,r2,p2,_⟩:=I.tuple (bV.of hb);obtain⟨⟨cls,dd,data,sl⟩,ho,hc,n,hd⟩:=id p1;obtain⟨⟨aaf,Vs,data2,G8⟩,NK,YC,n2,P7⟩:=id p2;simp only at hc hd YC P7;subst hc hd YC P7;have e:its.toArray++iQ.toArray=(its++iQ).toArray:=by simp
 by_cases hv:xs=[]
 .subst hv;have hi:its=[]:=r1.lG.mpr rfl;exact concat_meets ⟨_,ho,rfl⟩ ⟨_,NK,rfl⟩ xy seq_tuple_add wU wS (wP _ _)
   (tuple_addW0 a b its.toArray iQ.toArray n n2 dd Vs sl G8 (by simp[hi])) ⟨ho,NK,⟨.ref b,H,I,rfl,q b H (aF.refl _) hb⟩⟩
 .have hi:its≠[]:=fun z=>hv (r1.lG.mp z);by_cases hw:ys=[]
  .subst hw;have hj:iQ=[]:=r2.lG.mpr rfl;exact concat_meets ⟨_,ho,rfl⟩ ⟨_,NK,rfl⟩ xy seq_tuple_add wU wS (wP _ _)
    (tuple_addW1 a b its.toArray iQ.toArray n n2 dd Vs sl G8 (by simpa using hi) (by simp[hj])) ⟨ho,NK,⟨.ref a,H,I,rfl,q a H (aF.refl _) (by rw[jV];exact ha)⟩⟩
  .have hj:iQ≠[]:=fun z=>hw (r2.lG.mp z);refine concat_meets ⟨_,ho,rfl⟩ ⟨_,NK,rfl⟩ xy seq_tuple_add wU wS (wP _ _)
    (tuple_addW2 a b its.toArray iQ.toArray n n2 dd Vs sl G8 (by simpa using hi) (by simpa using hj) (by rw[br,br,<-r1.length,<-r2.length];exact hz)) ⟨ho,NK,?_⟩
   rw[e];have nf:=I.bB.fresh (aY s.heap.objs.size);refine⟨.ref s.heap.objs.size,_,I.laid (t':=s.toks) (o:=.tup (xs++ys)) (fun b ob q=>bQ _ q) (aY _) ?_,rfl,q _ _ (ai nf) af⟩;exact⟨by rw[cV];exact hz,_,r1.append r2,ii.new _ _⟩
theorem lZ{prog:Program}{w:World}{A:Around}{E:Value->Shared->Prop}{s:Shared}{t sl:Addr}{aH:Array Value}{vl vu:Value}{lo hi:Option Int}{Q:Value->Shared->Prop}(ht:IsTup s.heap t aH)(hs:s.heap.IsSliceOf sl vl vu .none)(pl:IsPart vl lo)(pu:IsPart vu hi)(hw:HT.dN aH.size 0 lo=0/\HT.dN aH.size aH.size hi=aH.size)(h:Q (.ref t) s):wpAny (model prog w) A (getItem (.ref t) (.ref sl)) Q E s:=by
 obtain⟨os,Fp,RY,Ox⟩:=id hs;have T4:s.TypeIs (.ref sl) "slice":=⟨os,Fp,RY⟩
 unfold getItem;try with_reducible refine gy ?_
 first|refine au (wpAny_pure ?_)|skip
 refine au (wpAny_sequenceKey ht.typeIs (by decide) ?_);refine au (o9 (name:=Str.ofString "__getitem__") ht.typeIs re
  (i9 re ht.typeIs entry_tuple_getitem ?_ (args_tuple_getitem _ _)))
 show wpAny _ _ (Builtin.Tuple.tupleItemsOf (.ref t) >>= _) _ _ s;refine au (tupleItemsOf_ ht ?_);refine au (tO T4 ?_);rw[if_pos (by decide)];refine au (HT.g8 hs pl pu ?_);have Vt:(((HT.dN aH.size 0 lo:Nat):Int)==0&&(1:Int)==1&&(HT.dN aH.size aH.size hi-HT.dN aH.size 0 lo)==aH.size)=true:=by
  rw[hw.1,hw.2];simp
 show wpAny _ _ (if (((HT.dN aH.size 0 lo:Nat):Int)==0&&(1:Int)==1&&(HT.dN aH.size aH.size hi-HT.dN aH.size 0 lo)==aH.size)=true then _ else _) _ _ s;rw[if_pos Vt];refine au (Q:=_) (m:=Builtin.Tuple.tupleIsExact (.ref t)) ?_;unfold Builtin.Tuple.tupleIsExact;refine au (tO ht.typeIs ?_);refine wpAny_pure ?_;rw[if_pos (by decide)];exact au (fS (wpAny_pure ⟨_,rfl,wpAny_pure h⟩))
def BH:V->Option Int->Option Int->Hp->VK->Prop:=fun x lo hi H Q=>∃a xs,x=.ref a/\H a=some (.tup xs)/\∀r H',aF H H'->H' r=some (.tup (jR xs lo hi))->Q (.ref r) H'
theorem Ee{xs:List V}{lo hi:Option Int}(hw:HT.dN xs.length 0 lo=0/\HT.dN xs.length xs.length hi=xs.length):jR xs lo hi=xs:=by
 unfold jR;rw[hw.1,hw.2,Nat.sub_zero,xv,iW]
theorem l4:RZ X BH:=by
 intro ae s σ H x v vl vu lo hi sl Q I rx hs pl pu h;obtain⟨a,xs,rfl,hx,q⟩:=h;by_cases hw:HT.dN xs.length 0 lo=0/\HT.dN xs.length xs.length hi=xs.length
 .cases rx;obtain⟨its,r,ht,hz⟩:=I.tuple (bV.of hx);have dt:its.toArray.size=xs.length:=by rw[br];exact r.length.symm
  refine⟨"tuple",_,re.lookup,ht.typeIs,?_⟩;exact lZ ht hs pl pu (by rw[dt];exact hw) ⟨.ref a,H,I,rfl,q a H (aF.refl _) (by rw[Ee hw];exact hx)⟩
 .exact Kv ae s σ H _ v vl vu lo hi sl Q I rx hs pl pu ⟨a,xs,rfl,bV.of hx,hw,fun p hp=>q p _ (ai hp) af⟩
end
end L2
namespace kQ
abbrev gW(ts:Ts)(h:Int):Nat:=(ts.filter fun t=>decide (t.1=h)).length
theorem G9:gW (ts++us) h=gW ts h+gW us h:=by unfold gW;rw[eR,cV]
theorem uy:gW [(a,b),(b,a)] h=(if a=h then 1 else 0)+(if b=h then 1 else 0):=by
 unfold gW;by_cases c1:a=h <;> by_cases c2:b=h <;> simp[c1,c2]
theorem G_:jS [(a,b)]=[(a,b),(b,a)]:=rfl
theorem Ak(ha:a<n)(hb:b<n)(r_:a≠b):sf n [(ci a,ci b),(ci b,ci a)]:=by
 have ne:ci a≠ci b:=fun e=>r_ (eV e);refine⟨?_,?_,?_,?_,?_⟩
 .rw[eU];refine⟨fun h=>?_,by simp⟩;have:=cy.mp h;exact ne (congrArg Prod.fst this)
 .intro t ht;rcases aV.mp ht with rfl|ht
  .exact⟨⟨by lia,by lia⟩,⟨by lia,by lia⟩⟩
  .rw[cy.mp ht];exact⟨⟨by lia,by lia⟩,⟨by lia,by lia⟩⟩
 .intro t ht;rcases aV.mp ht with rfl|ht
  .exact ne
  .rw[cy.mp ht];exact fun e=>ne e.symm
 .intro h;by_cases c1:ci a=h <;> by_cases c2:ci b=h <;> simp[c1,c2]
 .intro h;have:=uy (a:=ci a) (b:=ci b) (h:=h);show gW [(ci a,ci b),(ci b,ci a)] h<=8;rw[this];split <;> split <;> lia
theorem ck.pair(F:ck n (jS ps))(ha:a<n)(hb:b<n)(r_:a≠b)(h1:(ci a,ci b)∉ps)(h2:(ci b,ci a)∉ps)(d1:gW (jS ps) (ci a)<=7)(d2:gW (jS ps) (ci b)<=7):ck n (jS (ps++[(ci a,ci b)])):=by
 rw[qr,G_];have ne:ci a≠ci b:=fun e=>r_ (eV e);refine F.app (oT F.pre (Ak ha hb r_) (fun t ht=>?_) fun h=>?_)
 .rcases aV.mp ht with rfl|ht
  .exact fun z=>(jI.mp z).elim h1 h2
  .rw[cy.mp ht];exact fun z=>(jI.mp z).elim h2 h1
 .show gW (jS ps) h+gW [(ci a,ci b),(ci b,ci a)] h<=8;rw[uy];have m:=F.most h;by_cases c1:ci a=h
  .subst c1;rw[if_pos rfl,am (fun e=>ne e.symm)];lia
  .by_cases c2:ci b=h
   .subst c2;rw[am c1,if_pos rfl];lia
   .rw[am c1,am c2];exact m
end kQ
namespace uq
open PySem L2 kQ
abbrev Lu:Stmt:=top 42
abbrev Ef:Stmt:=top 43
abbrev yM:Stmt:=top 44
structure NL(mg:Str->Option Value):Prop where
 zip:mg "zip"=none
 enum:mg "enumerate"=none
 abs:mg "abs"=none
def bL(H:Hp)(p:Addr):Prop:=∃a b:Int,H p=some (.lst [.int a,.int b])/\0<=a/\0<=b/\b<4294967296
theorem bL.same{H H':Hp}{p:Addr}(h:bL H p)(s:aF H H'):bL H' p:=let ⟨a,b,e,r⟩:=h;⟨a,b,s _ _ e,r⟩
theorem bL.full{H:Hp}{p:Addr}(h:bL H p):H p≠none:=by obtain⟨a,b,e,_⟩:=h;rw[e];intro z;cases z
theorem bL.ne{H:Hp}{p q:Addr}(h:bL H p)(e:H q=none):q≠p:=by rintro rfl;exact h.full e
theorem bL.put{H:Hp}{p q:Addr}{o:HO}(h:bL H p)(n:p≠q):bL (upd H q o) p:=let ⟨a,b,e,r⟩:=h;⟨a,b,by rw[ak n];exact e,r⟩
theorem bL.neT{H:Hp}{p q:Addr}{xs:List V}(h:bL H p)(e:H q=some (.tup xs)):q≠p:=by rintro rfl;obtain⟨a,b,z,_⟩:=h;rw[e] at z;cases z
theorem PO.j5{H H':Hp}{p:Addr}{zs:Zs}(h:PO H zs)(s:aL p H H')(hp:bL H p):PO H' zs:=fun z hz=>s _ _ (h z hz) (hp.neT (h z hz))
section
variable {P:Program} {w:World} {K:PySem.W.Frag} {mg:Str->Option Value} {base:Heap}
theorem Eg:aE ["_law_script","_law_k","_law_cell"] ["_law_script","_law_k"] (ap Lu):=⟨rfl,rfl,rfl,by decide +kernel,rfl,by decide +kernel,by decide +kernel⟩
def Eh(K:PySem.W.Frag):Sp:=fun vs H Q _=>∃ (a:Addr) (ns:List Int) (k:Nat),vs=[.ref a,.int k]/\aM K H a (ns.map V.int)/\k<64/\∀ (r:Addr) (H':Hp),aF H H'->H r=none->bL H' r->Q (.ref r) H'
theorem Lv{f:Addr}{fd:FuncData}(F:fJ K "_law_pot" "_law_pot" Lu f fd)(B:Bl mg)(B2:NL mg):bz P w K mg base bf 1 f fd ["_law_script","_law_k"] (Eh K):=by
 refine F.ok Eg (fun vs H Q E h=>?_) (fun dU A outer s H vs Q E hr h=>?_)
 .obtain⟨a,ns,k,rfl,_⟩:=h;rfl
 .obtain⟨a,ns,k,rfl,hS,hk,q⟩:=h;refine⟨_,(ah (aS (i:=2) Eg.nd rfl (Or.inl rfl) av)
   (ah (cr (aK n0 (pv 1) (aA az (by rfl) B.len cB (aa (pv 0) ag)) (aU _)) (ao (aS (i:=2) Eg.nd rfl (Or.inl rfl) (aA CD (by rfl) B2.abs PyProof.Rows.boot_abs (aa (ba aR (pv 0) (pv 1) (fun _ _=>rfl)) ag)))) bg)
   (ao (aX (cz (aa (aA (rq rfl) (by rfl) B.max wY (aa av (aa (bJ mX (pv 2) (bJ xH av av)) ag))) (aa (bJ eE (bJ eE (bJ jk (pv 2) av) (bJ Cy av (pv 1))) av) ag))))))),?_⟩
  dsimp only;refine DO (fun σ Hc=>Hc=H/\σ=[some (.ref a),some (.int k),some (.int 0)]) ?_ (fun N hN=>hN _ _ ⟨rfl,rfl⟩);rintro σ Hc ⟨rfl,rfl⟩;refine DO (fun σ H1=>H1=Hc/\∃c:Int,0<=c/\σ=[some (.ref a),some (.int k),some (.int c)]) ?_ ?_
  .rintro σ Hc ⟨rfl,c,c0,rfl⟩;have m0:0<=c % 2147483629:=pG _ (by decide);have m1:c % 2147483629<2147483629:=pj _ (by decide);refine⟨_,rfl,_,_,rfl,rfl,⟨by decide,by decide,by decide⟩,_,_,rfl,rfl,0,_,rfl,_,rfl,_,_,rfl,rfl,(by show (0:Int)<2147483629;decide),_,rfl,_,_,rfl,rfl,.inl ⟨by decide,by decide⟩,_,_,rfl,rfl,_,_,rfl,rfl,by show 2<=sizeLine;decide,fun r zy=>?_⟩;exact q r _ (ai zy) zy ⟨_,_,af,by split <;> lia,by lia,by lia⟩
  .intro N hN;refine⟨_,rfl,_,rfl,a,_,rfl,.inl hS,_,_,rfl,rfl,_,rfl,gK (fun e=>?_) (fun e=>hN _ _ ⟨rfl,0,Int.le_refl _,rfl⟩)⟩;have UG:k<ns.length:=by have:=of_decide_eq_true e;rw[aJ] at this;lia
   exact⟨_,rfl,_,rfl,a,_,_,.int ns[k],rfl,rfl,hS,aw (by rw[cw,bh UG];rfl),_,rfl,hN _ _ ⟨rfl,_,by split <;> lia,rfl⟩⟩
theorem Ei:aE ["_law_pot_here","_law_many","_law_found"] ["_law_pot_here","_law_many"] (ap Ef):=⟨rfl,rfl,rfl,by decide +kernel,rfl,by decide +kernel,by decide +kernel⟩
def jy:Sp:=fun vs H Q _=>∃ (p:Addr) (m:Nat),vs=[.ref p,.int m]/\0<m/\m<1000000/\bL H p/\∀ (d:Nat) (H':Hp),d<m->aL p H H'->bL H' p->Q (.int (d:Int)) H'
theorem Ha{f:Addr}{fd:FuncData}(F:fJ K "_law_draw" "_law_draw" Ef f fd):bz P w K mg base bf 1 f fd ["_law_pot_here","_law_many"] jy:=by
 refine F.ok Ei (fun vs H Q E h=>?_) (fun dU A outer s H vs Q E hr h=>?_)
 .obtain⟨p,m,rfl,_⟩:=h;rfl
 .obtain⟨p,m',rfl,m0',m1',⟨a,b,hp,a0,b0,b1⟩,q'⟩:=h;generalize hm:((m':Nat):Int)=m;have m0:0<m:=by lia
  have m1:m<1000000:=by lia
  have q:∀ (d a b:Int) (H':Hp),0<=d->d<m->0<=a->0<=b->b<4294967296->aL p H H'->H' p=some (.lst [.int a,.int b])->Q (.int d) H':=fun d a b H' h1 h2 h3 h4 h5 h6 h7=>by
   have:=q' d.toNat H' (by lia) h6 ⟨a,b,h7,h3,h4,h5⟩;rw[w9 h1] at this;exact this
  refine⟨_,(ah (cr (aK zg (ba aR (pv 0) av (fun _ _=>rfl)) av (aU _)) (ah (aS (i:=2) Ei.nd rfl (Or.inl rfl) (bJ jk (ba aR (pv 0) av (fun _ _=>rfl)) (pv 1)))
    (ah (ik (bJ zc (ba aR (pv 0) av (fun _ _=>rfl)) (pv 1)) (mW (pv 0) av g9))
    (ao (aX (pv 2))))) bg)
   (ah (ik (bJ jk (bJ eE (bJ Cy (ba aR (pv 0) av (fun _ _=>rfl)) av) av) av) (mW (pv 0) av g9))
   (ao (aX (bJ jk (bJ zc (bJ jk (bJ xH (ba aR (pv 0) av (fun _ _=>rfl)) av) av) av) (pv 1)))))),?_⟩
  have g0:qQ [V.int a,V.int b] 0=some (.int a):=aw (j:=0) rfl;have g1:qQ [V.int a,V.int b] 1=some (.int b):=aw (j:=1) rfl;refine⟨_,rfl,p,_,_,_,rfl,rfl,aM.of hp,g0,_,_,rfl,rfl,_,rfl,?_⟩;refine gK (fun e=>?_) (fun e=>?_)
  .refine⟨_,rfl,p,_,_,_,rfl,rfl,aM.of hp,g0,_,rfl,_,_,rfl,rfl,m0,?_⟩;refine⟨_,rfl,p,_,_,_,rfl,rfl,aM.of hp,g0,_,rfl,_,_,rfl,rfl,⟨m0,by lia⟩,_,rfl,p,_,0,0,rfl,rfl,hp,iu (j:=0) (by show 0<2;decide),_,rfl,?_⟩;exact q _ _ _ _ (pG _ (by lia)) (pj _ m0) (Int.ediv_nonneg a0 (by lia)) b0 b1 aL.upd af
  .refine⟨_,rfl,p,_,_,_,rfl,rfl,aM.of hp,g1,_,_,rfl,rfl,.inl ⟨by lia,by lia⟩,_,_,rfl,rfl,_,_,rfl,rfl,(by show (0:Int)<2147483629;decide),?_⟩;refine⟨_,rfl,p,_,1,1,rfl,rfl,hp,iu (j:=1) (by show 1<2;decide),?_⟩;have c0:0<=(b*48271+8191) % 2147483629:=pG _ (by decide);have c1:(b*48271+8191) % 2147483629<2147483629:=pj _ (by decide);refine⟨_,rfl,p,_,_,_,rfl,rfl,aM.of af,aw (j:=1) rfl,_,_,rfl,rfl,⟨by decide,by decide,by lia⟩,_,_,rfl,rfl,(by show (0:Int)<2147483587;decide),_,_,rfl,rfl,⟨by decide,by decide⟩,_,rfl,_,_,rfl,rfl,m0,?_⟩;exact q _ _ _ _ (pG _ (by lia)) (pj _ m0) a0 c0 (by lia) aL.upd af
theorem qA{α:Type}:∀ {ls:List α} {k:Nat} (hk:k<ls.length),(ls[k]::ls.eraseIdx k).Perm ls
 |x::xs,0,_=>pH _
 |x::xs,k+1,h=>(List.Perm.swap x _ _).trans ((qA (ls:=xs) (k:=k) (by simpa using h)).cons x)
theorem Ej{α:Type}{xs ls:List α}{k:Nat}{v:α}{r:List α}(p:(xs++ls).Perm r)(h:ls[k]?=some v):(xs++[v]++ls.eraseIdx k).Perm r:=by
 refine List.Perm.trans ?_ p;rw[cG];refine ll _ ?_;obtain⟨hk,e⟩:=dw.mp h;subst e;exact qA hk
theorem v5:∀ {xs:List Nat} {k:Nat},(NV xs).eraseIdx k=NV (xs.eraseIdx k)
 |[],_=>rfl
 |x::xs,0=>rfl
 |x::xs,k+1=>congrArg (V.int (x:Nat)::·) (v5 (xs:=xs) (k:=k))
theorem jL{e:V->V->Bool}:∀ {xs:List V},gp e xs []=decide (xs=[])
 |[]=>rfl
 |x::xs=>by simp[gp]
theorem uz:aE ["_law_pot_here","_law_some","_law_left","_law_found"] ["_law_pot_here","_law_some"] (ap yM):=⟨rfl,rfl,rfl,by decide +kernel,rfl,by decide +kernel,by decide +kernel⟩
def uA:Sp:=fun vs H Q _=>∃ (p l:Addr) (xs:List Nat),vs=[.ref p,.ref l]/\H l=some (.lst (NV xs))/\xs.length<=256/\bL H p/\∀ (r:Addr) (ys:List Nat) (H':Hp),aL p H H'->bL H' p->H r=none->H' r=some (.lst (NV ys))->ys.Perm xs->Q (.ref r) H'
theorem Ek{f:Addr}{fd:FuncData}(F:fJ K "_law_mixed" "_law_mixed" yM f fd)(B:Bl mg)(D:cQ P w K mg base bf 1 "_law_draw" ["_law_pot_here","_law_many"] jy):bz P w K mg base bf 2 f fd ["_law_pot_here","_law_some"] uA:=by
 refine F.ok uz (fun vs H Q E h=>?_) (fun dU A outer s H vs Q E hr h=>?_)
 .obtain⟨p,l,xs,rfl,_⟩:=h;rfl
 .obtain⟨p,l,xs,rfl,hl,hm,hp,q⟩:=h;refine⟨_,(ah (aS (i:=2) uz.nd rfl (Or.inl rfl) (cx fH (by rfl) B.lst nV (aa (pv 1) ag)))
   (ah (aS (i:=3) uz.nd rfl (Or.inl rfl) (cz ag))
   (ah (lB dR (aK (Dg (e:=m6) hr.u) (pv 2) (cz ag) (aU _)) (ao (bu (iJ iB lf lc dv (pv 3) (aa (iJ iB PySem.F.slot_list_pop PySem.F.type_list_pop CZ (pv 2) (aa (aB D hr aI (aa (pv 0) (aa (aA az (by rfl) B.len cB (aa (pv 2) ag)) ag))) ag)) ag)))))
   (ao (aX (pv 3)))))),?_⟩
  refine⟨_,rfl,l,_,rfl,.inl (aM.of hl),fun L hL=>?_⟩;have s0:=ai (o:=.lst (NV xs)) hL;have gL:(upd H L (.lst (NV xs))) L=some (.lst (NV xs)):=af;have YD:=hp.same s0;have YE:L≠p:=hp.ne hL;generalize upd H L _=H1 at *;refine⟨by show 0<=sizeLine;decide,fun R hR=>?_⟩;have sR:=ai (o:=.lst []) hR;have YF:L≠R:=aj gL hR;have Hb:R≠p:=YD.ne hR;have Lw:H R=none:=s0.free hR;refine⟨fun m σ H2=>∃ (ys ls:List Nat),m=ls.length/\σ=[some (.ref p),some (.ref l),some (.ref L),some (.ref R)]/\aL p H H2/\bL H2 p/\H2 L=some (.lst (NV ls))/\H2 R=some (.lst (NV ys))/\(ys++ls).Perm xs,⟨_,[],xs,rfl,rfl,aL.of (s0.trans sR),YD.same sR,sR _ _ gL,af,pH _⟩,?_⟩;rintro m σ H2 ⟨ys,ls,rfl,rfl,sm,rT,Sq,Ll,pm⟩;have len:ys.length+ls.length=xs.length:=by rw[<-cV];exact pm.length_eq
  refine⟨_,rfl,by show 0<=sizeLine;decide,fun E1 Fs=>?_⟩;have sE:=ai (o:=.lst []) Fs;refine⟨L,E1,_,[],rfl,rfl,aM.of (sE _ _ Sq),aM.of af,fun i h1 h2=>absurd h2 (by simp),_,rfl,?_⟩;rw[if_pos rfl,jL];have Ju:aL p H (upd H2 E1 (.lst [])):=sm.trans (aL.of sE);have YG:=rT.same sE;have B8:=sE _ _ Sq;have Vu:=sE _ _ Ll;generalize upd H2 E1 (.lst [])=H3 at *
  match ls,len,pm,B8 with
  |[],len,pm,B8=>
   refine j3 ?_;rw[jV] at pm;exact⟨_,rfl,q R ys H3 Ju YG Lw Vu pm⟩
  |x::ls',len,pm,B8=>
   refine oj ⟨_,fun σ' H' z=>z,?_⟩;generalize hls:x::ls'=ls at *;have l0:0<ls.length:=by rw[<-hls];exact pJ _
   refine⟨_,rfl,.inl ⟨rfl,_,aM.of Vu⟩,_,rfl,.inl ⟨rfl,_,aM.of B8⟩,_,rfl,_,rfl,L,_,rfl,.inl (aM.of B8),p,ls.length,by rw[bw];rfl,l0,by lia,YG,fun d H4 hd s4 BI=>?_⟩;have hv:ls[d]?=some ls[d]:=bh hd;have hL4:=s4 _ _ B8 YE;have q8:=s4 _ _ Vu Hb;refine⟨L,_,(d:Int),d,.int ((ls[d]:Nat):Int),rfl,rfl,hL4,by lia,by lia,(tT (iu (by rw[bw];exact hd))).1,yD hd,?_⟩;rw[v5];refine⟨R,_,_,rfl,rfl,by rw[ak YF.symm];exact q8,by rw[bw];exact bS (show ys.length<257 by lia) (by decide),(ls.eraseIdx d).length,by rw[List.length_eraseIdx_of_lt hd];lia,ys++[ls[d]],ls.eraseIdx d,rfl,rfl,fun b o e n=>?_,(BI.put YE.symm).put Hb.symm,by rw[ak YF,af],by rw[af,ix],Ej pm hv⟩;rw[ak (aj e Lw),ak (aj e hL)];exact s4 _ _ (Ju _ _ e n) n
end
end uq
namespace kQ
theorem ck.more{n i:Nat}{ts:Ts}{xs:List Nat}(F:ck n ts)(d:∀h,gW ts h<=i)(i7:i<=7)(nd:xs.Nodup)(lt:∀x∈xs,x<n)(c2:2<=xs.length)(hn:∀t∈mh xs,t∉ts):ck n (ts++mh xs)/\∀h,gW (ts++mh xs) h<=i+1:=by
 have P:=Bw F.pre nd lt c2 (fun t _=>bj (d t.1) i7) hn;refine⟨F.app P,fun h=>?_⟩;rw[G9];have:=(oR (n:=n) nd lt c2).2 h;have:=d h;lia
theorem om:∀ (hs:List Nat) (ts:Ts),hs.Nodup->(∀h∈hs,7<=(ts.filter fun t=>decide (t.1=ci h)).length)->7*hs.length<=ts.length
 |[],_,_,_=>by simp
 |h::hs,ts,nd,hf=>by
  obtain⟨h1,h2⟩:=eU.mp nd;have e:ts.length=(ts.filter fun t=>decide (t.1=ci h)).length+(ts.filter fun t=>!decide (t.1=ci h)).length:=by
   clear hf;induction ts with
   |nil=>rfl
   |cons t ts ih=>
    rw[dB,dB,dG,ih];cases decide (t.1=ci h) <;> simp <;> lia
  have:=om hs (ts.filter fun t=>!decide (t.1=ci h)) h2 fun x hx=>by
   have:=hf x (bZ _ hx);rw[List.filter_filter];refine bj this (pM (congrArg List.length (List.filter_congr fun t _=>?_)));by_cases c:t.1=ci x
   .have:t.1≠ci h:=fun z=>h1 (by rw[c] at z;rw[<-eV z];exact hx);simp[c] at this |-;exact fun z=>this (by exact_mod_cast z)
   .simp[c]
  have:=hf h bK;rw[dG];lia
theorem nE.P8{n:Nat}{os:List Nat}{k:Nat}{ts:Ts}(T:nE n os k ts)(nd:os.Nodup)(hk:k<=os.length)(k0:0<k):∃h∈os.take k,(ts.filter fun t=>decide (t.1=ci h)).length<7:=by
 apply o8;intro CN;have:=om (os.take k) ts (nd.sublist (mx _ _)) fun h hh=>o8 fun z=>CN ⟨h,hh,by lia⟩;have hl:=T.len;rw[cf,mF hk] at this;lia
abbrev tq(qs:List (Nat×Nat)):Ts:=jS (qs.map nF)
def Vv(a b:Nat)(qs:List (Nat×Nat)):Bool:=qs.any fun q=>(Nat.beq q.1 a&&Nat.beq q.2 b)||(Nat.beq q.1 b&&Nat.beq q.2 a)
theorem Lx{q:Nat×Nat}{a b:Nat}:nF q=(ci a,ci b)↔q.1=a/\q.2=b:=by
 constructor
 .intro e;exact⟨eV (congrArg Prod.fst e),eV (congrArg Prod.snd e)⟩
 .rintro⟨rfl,rfl⟩;rfl
theorem Jv{a b:Nat}{qs:List (Nat×Nat)}:(ci a,ci b)∈qs.map nF↔(a,b)∈qs:=by
 rw[bH];constructor
 .rintro⟨q,hq,e⟩;obtain⟨rfl,rfl⟩:=Lx.mp e;exact hq
 .exact fun h=>⟨_,h,rfl⟩
theorem He{a b:Nat}{qs:List (Nat×Nat)}:Vv a b qs=true↔(ci a,ci b)∈tq qs:=by
 rw[jI,Jv,show yx (ci a,ci b)=(ci b,ci a) from rfl,Jv];unfold Vv;rw[i8];constructor
 .rintro⟨⟨x,y⟩,hq,e⟩;rw[tj,dH,dH] at e;rcases e with ⟨e1,e2⟩|⟨e1,e2⟩
  .exact .inl (by rw[<-o_ e1,<-o_ e2];exact hq)
  .exact .inr (by rw[<-o_ e1,<-o_ e2];exact hq)
 .rintro(h|h)
  .exact⟨_,h,by simp[pN]⟩
  .exact⟨_,h,by simp[pN]⟩
def sj(qs:List (Nat×Nat))(a b:Nat):Bool:=!Nat.beq a b&&(!Vv a b qs&&(Nat.blt (vU a qs) 8&&Nat.blt (vU b qs) 8))
def j6(qs:List (Nat×Nat))(a b:Nat):List (Nat×Nat):=if sj qs a b=true then qs++[(a,b)] else qs
theorem h_{qs:List (Nat×Nat)}{a b:Nat}:sj qs a b=true↔a≠b/\(ci a,ci b)∉tq qs/\gW (tq qs) (ci a)<8/\gW (tq qs) (ci b)<8:=by
 unfold sj;rw[dH,dH,dH,Bool.not_eq_true',Bool.not_eq_true',<-xq,<-xq,He];have e1:gW (tq qs) (ci a)=vU a qs:=oU;have e2:gW (tq qs) (ci b)=vU b qs:=oU;rw[e1,e2,Nat.beq_eq];refine and_congr Iff.rfl (and_congr Iff.rfl (and_congr ⟨kT,fun h=>Nat.ble_eq_true_of_le h⟩ ⟨kT,fun h=>Nat.ble_eq_true_of_le h⟩))
theorem uB{qs:List (Nat×Nat)}{a b:Nat}:tq (qs++[(a,b)])=tq qs++[(ci a,ci b),(ci b,ci a)]:=by
 unfold tq;rw[bW,qr];rfl
theorem BJ{n:Nat}{qs:List (Nat×Nat)}{a b:Nat}(F:ck n (tq qs))(ha:a<n)(hb:b<n):ck n (tq (j6 qs a b)):=by
 unfold j6;split
 .rename_i h;obtain⟨h1,h2,h3,h4⟩:=h_.mp h;have:=F.pair (ps:=qs.map nF) ha hb h1 (fun z=>h2 (jI.mpr (.inl z))) (fun z=>h2 (jI.mpr (.inr z))) (by show gW (tq qs) (ci a)<=7;lia) (by show gW (tq qs) (ci b)<=7;lia);show ck n (jS ((qs++[(a,b)]).map nF));rw[bW];exact this
 .exact F
theorem El{n:Nat}{qs:List (Nat×Nat)}{a b:Nat}(P:sf n (tq qs))(ha:a<n)(hb:b<n):sf n (tq (j6 qs a b)):=by
 unfold j6;split
 .rename_i h;obtain⟨h1,h2,h3,h4⟩:=h_.mp h;rw[uB];have ne:ci a≠ci b:=fun e=>h1 (eV e);refine oT P (Ak ha hb h1) (fun t ht=>?_) fun h=>?_
  .rcases aV.mp ht with rfl|ht
   .exact h2
   .rw[cy.mp ht];exact fun z=>h2 (z8 z)
  .show gW (tq qs) h+gW [(ci a,ci b),(ci b,ci a)] h<=8;rw[uy];have m:gW (tq qs) h<=8:=P.most h;by_cases c1:ci a=h
   .subst c1;rw[if_pos rfl,am (fun e=>ne e.symm)];lia
   .by_cases c2:ci b=h
    .subst c2;rw[am c1,if_pos rfl];lia
    .rw[am c1,am c2];exact m
 .exact P
theorem Hf{n:Nat}{ts:Ts}(P:sf n ts):ts.length<=8*n:=se (·.1) ts n (fun t ht=>(P.rg t ht).1) P.most
def v6(n h w:Nat)(qs:List (Nat×Nat)):List (Nat×Nat):=(List.range w).foldl (fun qs s=>j6 qs h ((h+(1+s)) % n)) qs
def jz(n w k:Nat):List (Nat×Nat):=(List.range k).foldl (fun qs h=>v6 n h w qs) []
theorem yN:(List.range 33).all (fun n=>Nat.blt n 2||(z9 n (jz n 1 n)&&z9 n (jz n 2 n)))=true:=by decide +kernel
theorem yO{n w:Nat}(h1:2<=n)(h2:n<=32)(hw:w=1\/w=2):ck n (tq (jz n w n)):=by
 have:=lr.mp yN n (cq.mpr (by lia));rw[tj,dH] at this;rcases this with q|⟨q1,q2⟩
 .have:=kT q;lia
 .rcases hw with rfl|rfl
  .exact(vV q1).1
  .exact(vV q2).1
theorem qB{n h:Nat}(hn:0<n)(hh:h<n):∀ {w:Nat} {qs:List (Nat×Nat)},sf n (tq qs)->sf n (tq (v6 n h w qs))
 |0,_,P=>P
 |w+1,qs,P=>by
  unfold v6;rw[fm,iD];exact El (qB hn hh (w:=w) P) hh (pR _ hn)
theorem sk{n w:Nat}(hn:0<n):∀ {k:Nat},k<=n->sf n (tq (jz n w k))
 |0,_=>⟨mI,(fun t h=>nomatch h),(fun t h=>nomatch h),fun h=>rfl,fun h=>cN _⟩
 |k+1,hk=>by
  unfold jz;rw[fm,iD];exact qB hn (by lia) (sk hn (by lia))
theorem BK{n k s:Nat}{qs:List (Nat×Nat)}(Tr:nE n (List.range n) k (tq qs))(hk:k<n)(hs:s<k)(d7:gW (tq qs) (ci s)<7):nE n (List.range n) (k+1) (tq (j6 qs s k)):=by
 have hv:(List.range n)[k]?=some k:=ka hk;have tk:(List.range n).take k=List.range k:=by rw[List.take_range,mF (by lia)]
 have d0:gW (tq qs) (ci k)=0:=by
  unfold gW;rw[List.length_eq_zero_iff,sH];intro t ht z;obtain⟨a,b,ha,hb,rfl⟩:=Tr.ends t ht;rw[tk] at ha;have:=cq.mp ha;have:=eV (of_decide_eq_true z);lia
 have nin:(ci s,ci k)∉tq qs:=fun z=>by
  obtain⟨a,b,ha,hb,e⟩:=Tr.ends _ z;rw[tk] at hb;have:=cq.mp hb;have:=eV (congrArg Prod.snd e);lia
 unfold j6;rw[if_pos (h_.mpr ⟨by lia,nin,by lia,by lia⟩),uB];exact Tr.add kh (fun x hx=>cq.mp hx) hv (by rw[tk];exact cq.mpr hs) (by show gW (tq qs) (ci s)<8;lia)
end kQ
namespace uq
open PySem L2 kQ
abbrev Ly:Stmt:=top 45
abbrev Em:Stmt:=top 46
abbrev En:Stmt:=top 47
abbrev yP:Stmt:=top 48
theorem Eo:(["_law_k","_law_row"]:List Str).Nodup:=by decide +kernel
theorem nL:(["_law_tie","_law_ties_here"]:List Str).Nodup:=by decide +kernel
theorem Jw{zs:Zs}{c:Int×Int->Bool}:(zr (zs.filter fun z=>c z.2)).length=((zp zs).filter c).length:=by
 unfold zp;rw[d6,List.filter_map,aJ];rfl
theorem sn{xs:List Nat}{j:Nat}(h:j<xs.length):(NV xs)[j]?=some (.int ((xs.getD j 0:Nat):Int)):=by
 unfold NV;rw[cw,aT,bh h];rfl
theorem Hg{xs:List Nat}{k:Nat}(h:k<xs.length):qQ (NV xs) ((k:Int)-1)=some (.int ((xs.getD (pk xs.length k) 0:Nat):Int)):=by
 unfold pk;by_cases c:k=0
 .subst c;rw[if_pos rfl];unfold qQ B1;rw[bw,am (by lia),if_pos (by lia),Option.bind_some,show (((0:Nat):Int)-1+(xs.length:Int)).toNat=xs.length-1 by lia];exact sn (by lia)
 .rw[am c,show (k:Int)-1=((k-1:Nat):Int) by lia];exact aw (sn (by lia))
theorem v7{K:PySem.W.Frag}{a D:Addr}{xs:List V}{g:TG}{tt:TT}{te:TE}{cZ:Hp->Prop}{σB:St}{H0:Hp}(Pv:Nat->List V->St->Hp->Prop)(h0:Pv 0 [] σB H0)(hl:∀i ys σ H,i<=xs.length->Pv i ys σ H->bV K H a xs)(hs:∀i x ys σ H (Kt:V->St->Hp->Prop) (Kf:St->Hp->Prop),xs[i]?=some x->Pv i ys σ H->
   (∀v σ2 H4,H4 D=some (.lst ys)->ys.length<sizeLine->Pv (i+1) (ys++[v]) σ2 (upd H4 D (.lst (ys++[v])))->Kt v σ2 H4)->(∀σ2 H3,Pv (i+1) ys σ2 H3->Kf σ2 H3)->
   g x σ H fun σ2 H2=>tt σ2 H2 fun b H3=>if b=true then te σ2 H3 fun v H4=>Kt v σ2 H4 else Kf σ2 H3)(hd:∀ys σ H,Pv xs.length ys σ H->cZ H):fq (TK K a) g tt te D cZ σB H0:=by
 refine⟨fun i m σ H=>m=xs.length-i/\i<=xs.length/\∃ys,Pv i ys σ H,⟨xs.length,by simp,cN _,[],h0⟩,?_⟩;rintro i m σ H ⟨rfl,hi,ys,p⟩;have q:=hl i ys σ H hi p;by_cases eh:i<xs.length
 .refine .inr ⟨⟨xs,xs[i],q,by simp[eh]⟩,?_⟩;rintro x H' ⟨rfl,y⟩;exact hs i x ys σ _ (fun v σ2 H4=>∃ys,H4 D=some (.lst ys)/\ys.length<sizeLine/\∃m',m'<xs.length-i/\m'=xs.length-(i+1)/\i+1<=xs.length/\∃qW,Pv (i+1) qW σ2 (upd H4 D (.lst (ys++[v]))))
   (fun σ2 H3=>∃m',m'<xs.length-i/\m'=xs.length-(i+1)/\i+1<=xs.length/\∃qW,Pv (i+1) qW σ2 H3) (y xs q) p
   (fun v σ2 H4 z1 z2 z3=>⟨ys,z1,z2,_,by lia,rfl,eh,_,z3⟩) (fun σ2 H3 z=>⟨_,by lia,rfl,eh,_,z⟩)
 .have e:i=xs.length:=by lia
  subst e;exact .inl ⟨⟨xs,q,aY _⟩,hd ys σ H p⟩
theorem uC{K:PySem.W.Frag}{a D:Addr}{zs:Zs}{g:TG}{tt:TT}{te:TE}{cZ:Hp->Prop}{σB:St}{H0:Hp}(c:Int×Int->Bool)(cT:St->Prop)(ha:H0 a=some (.lst (zr zs)))(hD:H0 D=none)(hn:zs.length<=1000)(h0:cT σB)(hs:∀z σ H (Kt:V->St->Hp->Prop) (Kf:St->Hp->Prop),z∈zs->cT σ->aF H0 H->(∀σ2 H2,cT σ2->aF H H2->c z.2=true->Kt (.ref z.1) σ2 H2)->(∀σ2 H2,cT σ2->aF H H2->c z.2=false->Kf σ2 H2)->
   g (.ref z.1) σ H fun σ2 H2=>tt σ2 H2 fun b H3=>if b=true then te σ2 H3 fun v H4=>Kt v σ2 H4 else Kf σ2 H3)(hd:∀H,aF H0 H->H D=some (.lst (zr (zs.filter fun z=>c z.2)))->cZ H):fq (BY K a) g tt te D cZ σB (upd H0 D (.lst [])):=by
 refine cD (xs:=zr zs) (fun i ys σ H=>cT σ/\aF H0 H/\H D=some (.lst ys)/\ys=zr ((zs.take i).filter fun z=>c z.2)) ⟨h0,ai hD,af,rfl⟩ (fun i ys σ H _ z=>aM.of (z.2.1 _ _ ha)) ?_ ?_
 .rintro i x ys σ H Kt Kf hx ⟨sh,sm,iS,rfl⟩ kt kf;obtain⟨z,hz,rfl⟩:=nG hx;have hi:i<zs.length:=(dw.mp hz).1;have tk:zs.take (i+1)=zs.take i++[z]:=by rw[gk,hz];rfl
  refine hs z σ H Kt Kf (cU hz) sh sm (fun σ2 H2 yB s2 e=>?_) (fun σ2 H2 yB s2 e=>?_)
  .refine kt _ _ _ (s2 _ _ iS) ?_ ⟨yB,a_ (sm.trans s2) hD,af,?_⟩
   .rw[d6];exact dX (gX _ _) (dX (j_ _ _) (bS (show i<1000 by lia) (by decide)))
   .rw[tk,eR,fN];simp[dB,e,zr]
  .refine kf _ _ ⟨yB,sm.trans s2,s2 _ _ iS,?_⟩;rw[tk,eR];simp[dB,e]
 .rintro ys σ H ⟨_,sm,iS,rfl⟩;rw[d6,iW] at iS;exact hd H sm iS
theorem kX:(["_law_house","_law_ties_here"]:List Str).Nodup:=by decide +kernel
theorem uD:(["_law_tie","_law_house"]:List Str).Nodup:=by decide +kernel
section
variable {P:Program} {w:World} {K:PySem.W.Frag} {mg:Str->Option Value} {base:Heap}
theorem Jx:aE ["_law_row","_law_ties_here","_law_more"] ["_law_row","_law_ties_here"] (ap Ly):=⟨rfl,rfl,rfl,by decide +kernel,rfl,by decide +kernel,by decide +kernel⟩
def Ep:Sp:=fun vs H Q _=>∃ (r l:Addr) (xs:List Nat) (zs:Zs),vs=[.ref r,.ref l]/\H r=some (.lst (NV xs))/\H l=some (.lst (zr zs))/\PO H zs/\xs.length<=32/\zs.length<=400/\
 ∀ (kP:Zs) (H':Hp),aL l H H'->H' l=some (.lst (zr kP))->PO H' kP->(zp kP=zp zs/\(∃t∈mh xs,t∈zp zs)\/zp kP=zp zs++mh xs/\∀t∈mh xs,t∉zp zs)->Q .bE H'
theorem Lz{f:Addr}{fd:FuncData}(F:fJ K "_law_cycle" "_law_cycle" Ly f fd)(B:Bl mg):bz P w K mg base bf 1 f fd ["_law_row","_law_ties_here"] Ep:=by
 refine F.ok Jx (fun vs H Q E h=>?_) (fun dU A outer s H vs Q E hr h=>?_)
 .obtain⟨r,l,xs,zs,rfl,_⟩:=h;rfl
 .obtain⟨r,l,xs,zs,rfl,hx,hl,po,x32,z4,q⟩:=h;refine'⟨_,(ah (df (i:=2) (g:=(a9 0)) (te:=(AR (cP (im (xU K) (aW 1) (im (BZ fun i j=>.int (i-j)) (aW 0) (tC (.int 1)))) (cP (im (xU K) (aW 1) (aW 0)) jn)))) (NB:=["_law_k","_law_row"]) (src:=[none,some 0]) (bq (by kernel_rfl)) rfl (bP rfl B.range (aa (aA az (by rfl) B.len cB (aa (pv 0) ag)) ag)) ?g1 ?t1 ?e1 Jx.nd rfl rfl rfl)
   (ao (cr (aK (Dh (e:=m6) hr.u) ?c2 (cz ag) (aU _)) (ao (bu (iJ iB Cg Cf rH (pv 1) (aa (pv 2) ag)))) bg))),?_⟩
  case g1=>exact fun cl C s₃ H₃ fp=>(aq (i:=0) Eo rfl (Or.inl rfl) (Or.inr rfl))
  case t1=>exact fun cl C s₃ H₃ fp=>cK
  case e1=>exact fun cl C s₃ H₃ fp=>(fX (aa (ba aR (pv 1) (bJ mX (pv 0) av) (fun _ _=>rfl)) (aa (ba aR (pv 1) (pv 0) (fun _ _=>rfl)) ag)))
  case c2=>
   refine' bU (g:=(a9 0)) (tt:=(fD (im (Gy K false) (aW 0) (aW 1)))) (te:=(aW 0)) (NB:=["_law_tie","_law_ties_here"]) (src:=[none,some 1]) (bq (by kernel_rfl)) rfl (bF (pv 2)) ?g ?t ?e;case g=>exact fun cl C s₃ H₃ fp=>(aq (i:=0) nL rfl (Or.inl rfl) (Or.inr rfl))
   case t=>exact fun cl C s₃ H₃ fp=>dD (aK (K4 hr.u) (pv 0) (pv 1) rfl)
   case e=>exact fun cl C s₃ H₃ fp=>(pv 0)
  refine⟨_,rfl,r,_,rfl,.inl (aM.of hx),((xs.length:Nat):Int),by rw[bw],by lia,by lia,fun D hD=>?_⟩;rw[iZ];refine DQ (lo:=0) (n:=xs.length) (fun k=>(ci (xs.getD (pk xs.length k) 0),ci (xs.getD k 0))) (fun σ=>∃x,σ=[x,some (.ref r)]) hD (by lia) ⟨_,rfl⟩ ?_ ?_
  .rintro k σ H2 R Kf hk ⟨x,rfl⟩ sm kt;rw[g7];exact⟨_,rfl,_,rfl,_,_,rfl,rfl,r,_,_,_,rfl,rfl,aM.of (sm _ _ hx),Hg hk,_,rfl,_,rfl,r,_,_,_,rfl,rfl,aM.of (sm _ _ hx),aw (sn hk),by show 2<=sizeLine;decide,fun t ht=>kt _ _ ⟨_,rfl⟩ ht⟩
  intro ys H2 s2 gh Jy ey _;have ey:zp ys=mh xs:=ey;have yl:ys.length=xs.length:=by rw[<-b8,ey];unfold mh;rw[aJ,d9]
  have CW:=s2 _ _ hl;have poz:=po.same s2;refine⟨_,rfl,D,rfl,⟨_,aM.of gh⟩,fun D1 BL=>?_⟩;refine uC (fun t=>decide (t∈zp zs)) (fun σ=>∃a,σ=[a,some (.ref l)]) gh BL (by lia) ⟨_,rfl⟩ ?_ ?_
  .rintro z σ H4 Kt Kf hz ⟨a,rfl⟩ sm kt kf;refine⟨_,rfl,_,rfl,DP (u:=z.2) (sm _ _ (Jy z hz)) (sm _ _ CW) (poz.same sm) ⟨_,rfl,?_⟩⟩;exact gK (fun c=>⟨_,rfl,kt _ _ ⟨_,rfl⟩ (aF.refl _) c⟩) (fun c=>kf _ _ ⟨_,rfl⟩ (aF.refl _) (xh.mpr c))
  intro H3 s3 gU;refine⟨by show 0<=sizeLine;decide,fun E1 Fs=>?_⟩;have sE:=ai (o:=.lst []) Fs;refine⟨D1,E1,_,[],rfl,rfl,aM.of (sE _ _ gU),aM.of af,fun i h1 h2=>absurd h2 (by simp),_,rfl,?_⟩;rw[am (by decide),jL];have fe:zr (ys.filter fun z=>decide (z.2∈zp zs))=[]↔∀t∈mh xs,t∉zp zs:=by
   unfold zr;rw[List.map_eq_nil_iff,sH,<-ey];constructor
   .intro h t ht;obtain⟨z,hz,rfl⟩:=bH.mp ht;exact fun q=>h z hz (cR q)
   .intro h z hz q;exact h _ (bH.mpr ⟨z,hz,rfl⟩) (of_decide_eq_true q)
  have sA:=(s2.trans s3).trans sE;have P9:=s3.trans sE;have Sr:=sA _ _ hl;have NM:=P9 _ _ gh;have YH:=po.same sA;have pyE:=Jy.same P9;generalize upd H3 E1 (.lst [])=H4 at *;by_cases c:∀t∈mh xs,t∉zp zs
  .rw[cR (fe.mpr c)];refine oj ⟨_,rfl,.inl ⟨rfl,_,aM.of Sr⟩,_,rfl,l,D,zr zs,zr ys,rfl,rfl,Sr,NM,by rw[d6,d6];exact bj (show _<=500 by lia) (by decide),?_⟩;exact q (zs++ys) _ (fun b o e n=>by rw[ak n];exact sA _ _ e) (by rw[af,fN]) ((YH.append pyE).putL Sr) (.inr ⟨by rw[h9,ey],c⟩)
  .rw[cM (fun z=>c (fe.mp z))];refine j3 ?_;refine q zs H4 (aL.of sA) Sr YH (.inl ⟨rfl,?_⟩);apply o8;exact fun hn=>c fun t ht z=>hn ⟨t,ht,z⟩
theorem Er:aE ["_law_ties_here","_law_one","_law_other","_law_few"] ["_law_ties_here","_law_one","_law_other"] (ap Em):=⟨rfl,rfl,rfl,by decide +kernel,rfl,by decide +kernel,by decide +kernel⟩
def uE:Sp:=fun vs H Q _=>∃ (l:Addr) (zs:Zs) (qs:List (Nat×Nat)) (a b:Nat),vs=[.ref l,.int a,.int b]/\H l=some (.lst (zr zs))/\PO H zs/\zp zs=tq qs/\zs.length<=256/\
 ∀ (kP:Zs) (H':Hp),aL l H H'->H' l=some (.lst (zr kP))->PO H' kP->zp kP=tq (j6 qs a b)->Q .bE H'
theorem Hh{f:Addr}{fd:FuncData}(F:fJ K "_law_tied" "_law_tied" Em f fd)(B:Bl mg):bz P w K mg base bf 1 f fd ["_law_ties_here","_law_one","_law_other"] uE:=by
 refine F.ok Er (fun vs H Q E h=>?_) (fun dU A outer s H vs Q E hr h=>?_)
 .obtain⟨l,zs,qs,a,b,rfl,_⟩:=h;rfl
 .obtain⟨l,zs,qs,a,b,rfl,hl,po,ez,zl,q⟩:=h;refine'⟨_,(ah (aS (i:=3) Er.nd rfl (Or.inl rfl) (aA (By rfl) (by rfl) B.max wY (aa ?c1 ag)))
   (ao (cr (PW.pt (xB (aK ve (pv 1) (pv 2) (aU _)) (xB (aK (Bu hr.u) (fX (aa (pv 1) (aa (pv 2) ag))) (pv 0) rfl) (y_ (aK n0 (pv 3) av (aU _)))))) (ao (bu (iJ iB Cg Cf rH (pv 0) (aa (cz (aa (fX (aa (pv 1) (aa (pv 2) ag))) (aa (fX (aa (pv 2) (aa (pv 1) ag))) ag))) ag)))) bg))),?_⟩
  case c1=>
   refine' bU (g:=(a9 0)) (te:=(RX (fun xs H Q=>∃p ys,xs=[V.ref p]/\(aM K H p ys\/bV K H p ys)/\Q (.int ys.length) H) (cP (zw [none,some 0] (Cu K (aW 1)) (a9 0) (fD (im (IS) (im (xV K) (aW 0) (tC (.int 0))) (aW 1))) (aW 0)) jn))) (NB:=["_law_house","_law_ties_here"]) (src:=[none,some 0]) (bq (by kernel_rfl)) rfl (Cv (fX (aa (pv 1) (aa (pv 2) ag)))) ?g ?t ?e;case g=>exact fun cl C s₃ H₃ fp=>(aq (i:=0) kX rfl (Or.inr rfl) (Or.inl rfl))
   case t=>exact fun cl C s₃ H₃ fp=>cK
   case e=>
    intro cl C s₃ H₃ fp;refine'(aA az (by rfl) B.len cB (aa ?c2 ag));case c2=>
     refine' bU (g:=(a9 0)) (tt:=(fD (im (IS) (im (xV K) (aW 0) (tC (.int 0))) (aW 1)))) (te:=(aW 0)) (NB:=["_law_tie","_law_house"]) (src:=[none,some 0]) (bq (by kernel_rfl)) rfl (bF (pv 1)) ?g ?t ?e;case g=>exact fun cl C s₃ H₃ fp=>(aq (i:=0) uD rfl (Or.inl rfl) (Or.inr rfl))
     case t=>exact fun cl C s₃ H₃ fp=>dD (aK jl (ba e_ (pv 0) av (fun _ _=>rfl)) (pv 1) (aU _))
     case e=>exact fun cl C s₃ H₃ fp=>(pv 0)
  refine⟨_,rfl,_,rfl,by show 2<=sizeLine;decide,fun T hT=>⟨T,rfl,⟨_,bV.of af⟩,fun D hD=>?_⟩⟩;have sT:=ai (o:=.tup [V.int (a:Int),.int (b:Int)]) hT;have gT:(upd H T (.tup [V.int (a:Int),.int (b:Int)])) T=some (.tup ([a,b].map fun (x:Nat)=>V.int (x:Int))):=af;have Ja:=sT _ _ hl;have YI:=po.same sT;generalize upd H T _=H1 at *;refine v7 (K:=K) (a:=T) (xs:=[a,b].map fun (x:Nat)=>V.int (x:Int)) (fun i ys σ H2=>(∃x,σ=[x,some (.ref l)])/\aF H1 H2/\H2 D=some (.lst ys)/\ys=(([a,b].take i).map fun (x:Nat)=>((gW (zp zs) (ci x):Nat):Int)).map V.int) ⟨⟨_,rfl⟩,ai hD,af,rfl⟩ (fun i ys σ H2 _ z=>bV.of (z.2.1 _ _ gT)) ?_ ?_
  .rintro i x ys σ H2 Kt Kf hx ⟨⟨x',rfl⟩,sm,gh,rfl⟩ kt kf;have hi:i<2:=(dw.mp hx).1;obtain⟨h,rfl,tk⟩:∃h:Nat,x=.int (h:Int)/\[a,b].take (i+1)=[a,b].take i++[h]:=by
    match i,hi,hx with
    |0,_,hx=>cases hx;exact⟨a,rfl,rfl⟩
    |1,_,hx=>cases hx;exact⟨b,rfl,rfl⟩
   refine⟨_,rfl,l,rfl,⟨_,aM.of (sm _ _ Ja)⟩,fun D3 gU=>?_⟩;refine uC (fun u=>decide (u.1=ci h)) (fun σ=>∃a,σ=[a,some (.int (h:Int))]) (sm _ _ Ja) gU (by lia) ⟨_,rfl⟩ ?_ ?_
   .rintro y σ H8 Kt' Kf' hy ⟨a'',rfl⟩ Es Vw Vx;refine⟨_,rfl,y.1,_,_,_,rfl,rfl,bV.of ((sm.trans Es) _ _ (YI y hy)),aw (j:=0) rfl,_,rfl,rfl,_,rfl,?_⟩;refine gK (fun e=>?_) (fun e=>?_)
    .exact⟨_,rfl,Vw _ _ ⟨_,rfl⟩ (aF.refl _) (by simpa using e)⟩
    .exact Vx _ _ ⟨_,rfl⟩ (aF.refl _) (by simpa using e)
   .intro H8 P_ Vy;have eL:(zr (zs.filter fun y=>decide (y.2.1=ci h))).length=gW (zp zs) (ci h):=Jw (c:=fun u=>decide (u.1=ci h));refine⟨D3,_,rfl,.inl (aM.of Vy),?_⟩;rw[eL];refine kt _ _ _ (P_ _ _ gh) (by rw[aJ,aJ];exact dX (j_ _ _) (bS (show i<3 by lia) (by decide))) ⟨⟨_,rfl⟩,a_ (sm.trans P_) hD,af,by rw[tk,bW,bW];rfl⟩
  rintro ys σ H2 ⟨_,s2,gh,rfl⟩;refine⟨D,[((gW (zp zs) (ci a):Nat):Int),((gW (zp zs) (ci b):Nat):Int)],rfl,aM.of gh,by simp,fun M hM Qa=>?_⟩;have m8:M<8↔gW (zp zs) (ci a)<8/\gW (zp zs) (ci b)<8:=by
   have q1:=Qa _ (bK);have q2:=Qa _ (bZ _ bK);simp only[aV,eA,eB] at hM;rcases hM with rfl|rfl <;> lia
  have Ft:=sT.trans s2;have CW:=s2 _ _ Ja;have Jy:=YI.same s2;refine⟨_,rfl,_,rfl,rfl,_,rfl,?_⟩;have no:sj qs a b=false->∀H',aF H H'->Q .bE H':=fun e H' s=>q zs H' (aL.of s) (s _ _ hl) (po.same s) (by rw[ez];unfold j6;rw[am (by rw[e];decide)]);have nc:¬ (a≠b/\(ci a,ci b)∉zp zs/\M<8)->sj qs a b=false:=fun h=>by
   rw[<-xq,h_];rintro⟨h1,h2,h3⟩;exact h ⟨h1,by rw[ez];exact h2,m8.mpr (by rw[ez];exact h3)⟩
  by_cases r_:a=b
  .rw[cR (by rw[r_])];exact j3 (j3 (no (nc fun z=>z.1 r_) H2 Ft))
  rw[cM (fun z=>r_ (by injection z with z;lia))];refine oj ?_;refine⟨_,rfl,_,rfl,by show 2<=sizeLine;decide,fun t1 Jz=>⟨_,rfl,DP (u:=(ci a,ci b)) af (ai Jz _ _ CW) (Jy.same (ai Jz)) ⟨_,rfl,?_⟩⟩⟩;have s3:=ai (o:=.tup [V.int (a:Int),.int (b:Int)]) Jz;have LA:=Ft.trans s3;have JA:=s3 _ _ CW;have Ln:=Jy.same s3;generalize upd H2 t1 _=H3 at *;rw[if_pos rfl];by_cases qm:(ci a,ci b)∈zp zs
  .rw[cR qm];exact j3 (j3 (no (nc fun z=>z.2.1 qm) H3 LA))
  rw[cM qm];refine oj ?_;refine⟨_,rfl,_,_,rfl,rfl,_,rfl,?_⟩;by_cases h8:M<8
  rotate_left
  .rw[cM h8];exact j3 (no (nc fun z=>h8 z.2.2) H3 LA)
  rw[cR h8];refine oj ?_;refine⟨_,rfl,.inl ⟨rfl,_,aM.of JA⟩,_,rfl,_,rfl,by show 2<=sizeLine;decide,fun t2 Ss=>⟨_,rfl,_,rfl,by show 2<=sizeLine;decide,fun t3 NN=>⟨by show 2<=sizeLine;decide,fun LL hLL=>?_⟩⟩⟩;have u1:=ai (o:=vX (ci a,ci b)) Ss;have u2:=ai (o:=vX (ci b,ci a)) NN;have u3:=ai (o:=.lst [.ref t2,.ref t3]) hLL;have gL:(upd (upd (upd H3 t2 (vX (ci a,ci b))) t3 (vX (ci b,ci a))) LL (.lst [.ref t2,.ref t3])) LL=some (.lst (zr [(t2,(ci a,ci b)),(t3,(ci b,ci a))])):=af;have YJ:PO (upd (upd (upd H3 t2 (vX (ci a,ci b))) t3 (vX (ci b,ci a))) LL (.lst [.ref t2,.ref t3])) [(t2,(ci a,ci b)),(t3,(ci b,ci a))]:=fun z hz=>by
   rcases aV.mp hz with rfl|hz
   .exact u3 _ _ (u2 _ _ af)
   .rw[cy.mp hz];exact u3 _ _ af
  have u:=(u1.trans u2).trans u3;have eG:upd (upd (upd H3 t2 (vX (ci a,ci b))) t3 (vX (ci b,ci a))) LL (.lst [.ref t2,.ref t3])=upd (upd (upd H3 t2 (.tup [.int (a:Int),.int (b:Int)])) t3 (.tup [.int (b:Int),.int (a:Int)])) LL (.lst [.ref t2,.ref t3]):=rfl;rw[eG] at gL YJ u;have Su:=u _ _ JA;have Vz:=Ln.same u;have VA:=LA.trans u;generalize upd (upd (upd H3 t2 (.tup [.int (a:Int),.int (b:Int)])) t3 (.tup [.int (b:Int),.int (a:Int)])) LL (.lst [.ref t2,.ref t3])=H4 at *;refine⟨l,LL,zr zs,_,rfl,rfl,Su,gL,by rw[d6,d6];exact bj (show zs.length+2<=300 by lia) (by decide),?_⟩;refine q (zs++[(t2,(ci a,ci b)),(t3,(ci b,ci a))]) _ (fun b' o e n=>by rw[ak n];exact VA _ _ e) (by rw[af,fN]) ((Vz.append YJ).putL Su) ?_;have tc:sj qs a b=true:=h_.mpr ⟨r_,by rw[<-ez];exact qm,by rw[<-ez];exact m8.mp h8⟩;unfold j6;rw[if_pos tc,uB,h9,ez];rfl
end
theorem nM:(["_law_one","_law_ties_here"]:List Str).Nodup:=by decide +kernel
theorem yQ:(["_law_tie","_law_one"]:List Str).Nodup:=by decide +kernel
theorem Hi{lo:Int}{n:Nat}{D:Addr}{g:TG}{tt:TT}{te:TE}{cZ:Hp->Prop}{σB:St}{H0:Hp}(c:Nat->Bool)(cT:St->Prop)(hD:H0 D=none)(hn:n<=1000)(h0:cT σB)(hs:∀x σ H (Kt:V->St->Hp->Prop) (Kf:St->Hp->Prop),x<n->cT σ->aF H0 H->(∀σ2 H2,cT σ2->aF H H2->c x=true->Kt (.int (lo+(x:Nat))) σ2 H2)->(∀σ2 H2,cT σ2->aF H H2->c x=false->Kf σ2 H2)->
   g (.int (lo+(x:Nat))) σ H fun σ2 H2=>tt σ2 H2 fun b H3=>if b=true then te σ2 H3 fun v H4=>Kt v σ2 H4 else Kf σ2 H3)(hd:∀H,aF H0 H->H D=some (.lst (((List.range n).filter c).map fun (x:Nat)=>V.int (lo+(x:Int))))->cZ H):fq (Fn lo n) g tt te D cZ σB (upd H0 D (.lst [])):=by
 refine dL (fun i ys σ H=>cT σ/\aF H0 H/\H D=some (.lst ys)/\ys=((List.range i).filter c).map fun (x:Nat)=>V.int (lo+(x:Int))) ⟨h0,ai hD,af,rfl⟩ ?_ ?_
 .rintro i ys σ H Kt Kf hi ⟨sh,sm,iS,rfl⟩ kt kf;refine hs i σ H Kt Kf hi sh sm (fun σ2 H2 yB s2 e=>?_) (fun σ2 H2 yB s2 e=>?_)
  .refine kt _ _ _ (s2 _ _ iS) ?_ ⟨yB,a_ (sm.trans s2) hD,af,?_⟩
   .rw[aJ];refine dX (gX _ _) ?_;rw[d9];exact bS (show i<1000 by lia) (by decide)
   .rw[fm,eR,bW];simp[dB,e]
  .refine kf _ _ ⟨yB,sm.trans s2,s2 _ _ iS,?_⟩;rw[fm,eR];simp[dB,e]
 .rintro ys σ H ⟨_,sm,iS,rfl⟩;exact hd H sm iS
section
variable {P:Program} {w:World} {K:PySem.W.Frag} {mg:Str->Option Value} {base:Heap}
theorem uF:aE ["_law_pot_here","_law_many","_law_ties_here","_law_house","_law_some"] ["_law_pot_here","_law_many"] (ap En):=⟨rfl,rfl,rfl,by decide +kernel,rfl,by decide +kernel,by decide +kernel⟩
def yR:Sp:=fun vs H Q _=>∃ (p:Addr) (n:Nat),vs=[.ref p,.int n]/\2<=n/\n<=32/\bL H p/\∀ (r:Addr) (zs:Zs) (qs:List (Nat×Nat)) (H':Hp),aL p H H'->bL H' p->H r=none->H' r=some (.lst (zr zs))->PO H' zs->zp zs=tq qs->ck n (tq qs)->Q (.ref r) H'
theorem Hj{f:Addr}{fd:FuncData}(F:fJ K "_law_tree" "_law_tree" En f fd)(B:Bl mg)(DR:cQ P w K mg base bf 1 "_law_draw" ["_law_pot_here","_law_many"] jy)(TD:cQ P w K mg base bf 1 "_law_tied" ["_law_ties_here","_law_one","_law_other"] uE):bz P w K mg base bf 2 f fd ["_law_pot_here","_law_many"] yR:=by
 refine F.ok uF (fun vs H Q E h=>?_) (fun dU A outer s H vs Q E hr h=>?_)
 .obtain⟨p,n,rfl,_⟩:=h;rfl
 .obtain⟨p,n,rfl,n1,n2,hp,q⟩:=h;have h1:b9 1 _:=hr;refine'⟨_,(ah (aS (i:=2) uF.nd rfl (Or.inr rfl) (cz ag))
   (ah (dA dR rfl (rp rfl B.range (aa av (aa (pv 1) ag))) (aq (i:=3) uF.nd rfl (Or.inl rfl))
    (ah (df (i:=4) (g:=(a9 0)) (tt:=(fD (im (BZ fun i j=>.bl (decide (i<j))) (RX (fun xs H Q=>∃p ys,xs=[V.ref p]/\(aM K H p ys\/bV K H p ys)/\Q (.int ys.length) H) (cP (zw [none,some 0] (Cu K (aW 1)) (a9 0) (fD (im (IS) (im (xV K) (aW 0) (tC (.int 0))) (aW 1))) (aW 0)) jn)) (tC (.int 7))))) (te:=(aW 0)) (NB:=["_law_one","_law_ties_here"]) (src:=[none,some 2]) (bq (by kernel_rfl)) rfl (bP rfl B.range (aa (pv 3) ag)) ?g1 ?t1 ?e1 uF.nd rfl rfl rfl)
    (ao (bu (aB TD h1 aI (aa (pv 2) (aa (ba aR (pv 4) (aB DR h1 aI (aa (pv 0) (aa (aA az (by rfl) B.len cB (aa (pv 4) ag)) ag))) (fun _ _=>rfl)) (aa (pv 3) ag))))))))
   (ao (aX (pv 2))))),?_⟩
  case g1=>exact fun cl C s₃ H₃ fp=>(aq (i:=0) nM rfl (Or.inr rfl) (Or.inl rfl))
  case t1=>
   intro cl C s₃ H₃ fp;refine' dD (aK n0 (aA az (by rfl) B.len cB (aa ?c2 ag)) av (aU _));case c2=>
    refine' bU (g:=(a9 0)) (tt:=(fD (im (IS) (im (xV K) (aW 0) (tC (.int 0))) (aW 1)))) (te:=(aW 0)) (NB:=["_law_tie","_law_one"]) (src:=[none,some 0]) (bq (by kernel_rfl)) rfl (bF (pv 1)) ?g ?t ?e;case g=>exact fun cl C s₃ H₃ fp=>(aq (i:=0) yQ rfl (Or.inl rfl) (Or.inr rfl))
    case t=>exact fun cl C s₃ H₃ fp=>dD (aK jl (ba e_ (pv 0) av (fun _ _=>rfl)) (pv 1) (aU _))
    case e=>exact fun cl C s₃ H₃ fp=>(pv 0)
  case e1=>exact fun cl C s₃ H₃ fp=>(pv 0)
  refine⟨by show 0<=sizeLine;decide,fun Lt JB=>?_⟩;have s0:=ai (o:=.lst []) JB;have Fu:Lt≠p:=hp.ne JB;refine⟨_,rfl,1,(n:Int),rfl,⟨by decide,by decide,by lia,by lia⟩,?_⟩;rw[show ((n:Int)-1).toNat=n-1 by lia];refine du (lo:=1) (n:=n-1) (fun i σ Hc=>∃ (zs:Zs) (qs:List (Nat×Nat)),(∃a b,σ=[some (.ref p),some (.int n),some (.ref Lt),a,b])/\aL p H Hc/\bL Hc p/\Hc Lt=some (.lst (zr zs))/\PO Hc zs/\zp zs=tq qs/\nE n (List.range n) (i+1) (tq qs))
   ⟨[],[],⟨_,_,rfl⟩,aL.of s0,hp.same s0,af,PO.nil,rfl,nE.start (by rw[d9];lia)⟩ ?_ ?_
  .rintro i σ Hc hi ⟨zs,qs,⟨a,b,rfl⟩,sc,oB,u6,po,ez,Tr⟩;have e1:(1:Int)+(i:Int)=((i+1:Nat):Int):=by lia
   rw[e1];have zl:zs.length<=256:=by have:=Tr.len;rw[<-ez,b8] at this;lia
   refine⟨_,rfl,((i+1:Nat):Int),rfl,by lia,by lia,fun D1 BL=>?_⟩;rw[show (((i+1:Nat):Int)).toNat=i+1 from rfl];refine Hi (lo:=0) (n:=i+1) (fun x=>decide (gW (zp zs) (ci x)<7)) (fun σ=>∃a,σ=[a,some (.ref Lt)]) BL (by lia) ⟨_,rfl⟩ ?_ ?_
   .rintro x σ H2 Kt Kf hx ⟨a',rfl⟩ sm kt kf;rw[g7] at kt |-;refine⟨_,rfl,Lt,rfl,⟨_,aM.of (sm _ _ u6)⟩,fun D3 gU=>?_⟩;refine uC (fun u=>decide (u.1=ci x)) (fun σ=>∃a,σ=[a,some (.int (x:Int))]) (sm _ _ u6) gU (by lia) ⟨_,rfl⟩ ?_ ?_
    .rintro y σ H8 Kt' Kf' hy ⟨a'',rfl⟩ Es Vw Vx;refine⟨_,rfl,y.1,_,_,_,rfl,rfl,bV.of ((sm.trans Es) _ _ (po y hy)),aw (j:=0) rfl,_,rfl,rfl,_,rfl,?_⟩;refine gK (fun e=>?_) (fun e=>?_)
     .exact⟨_,rfl,Vw _ _ ⟨_,rfl⟩ (aF.refl _) (by simpa using e)⟩
     .exact Vx _ _ ⟨_,rfl⟩ (aF.refl _) (by simpa using e)
    .intro H8 P_ Vy;have eL:(zr (zs.filter fun y=>decide (y.2.1=ci x))).length=gW (zp zs) (ci x):=Jw (c:=fun u=>decide (u.1=ci x));refine⟨D3,_,rfl,.inl (aM.of Vy),_,_,rfl,rfl,_,rfl,?_⟩;rw[eL];refine gK (fun e=>⟨_,rfl,kt _ _ ⟨_,rfl⟩ P_ (cR (by have:=of_decide_eq_true e;lia))⟩) (fun e=>kf _ _ ⟨_,rfl⟩ P_ (cM fun z=>e (cR (by lia))))
   intro H2 s2 gh;have e0:(((List.range (i+1)).filter fun x=>decide (gW (zp zs) (ci x)<7)).map fun (x:Nat)=>V.int (0+(x:Int)))=NV ((List.range (i+1)).filter fun x=>decide (gW (zp zs) (ci x)<7)):=nX fun x _=>by rw[g7]
   rw[e0] at gh;obtain⟨h0,YK,hd0⟩:=Tr.P8 kh (by rw[d9];lia) (pJ i);have tk:(List.range n).take (i+1)=List.range (i+1):=by rw[List.take_range,mF (by lia)]
   rw[tk] at YK;have ne:0<((List.range (i+1)).filter fun x=>decide (gW (zp zs) (ci x)<7)).length:=sC (dQ.mpr ⟨YK,cR (by rw[ez];exact hd0)⟩);have mem:∀x∈(List.range (i+1)).filter (fun x=>decide (gW (zp zs) (ci x)<7)),x<i+1/\gW (tq qs) (ci x)<7:=fun x hx=>⟨cq.mp (dQ.mp hx).1,by rw[<-ez];exact of_decide_eq_true (dQ.mp hx).2⟩
   have fl:((List.range (i+1)).filter fun x=>decide (gW (zp zs) (ci x)<7)).length<=i+1:=bj (gX _ _) (by rw[d9];exact aY _);generalize (List.range (i+1)).filter (fun x=>decide (gW (zp zs) (ci x)<7))=fs at *;have nDp:D1≠p:=oB.ne BL;have rT:=oB.same s2;have Sq:=s2 _ _ u6;refine⟨_,rfl,_,rfl,_,rfl,_,rfl,D1,_,rfl,.inl (aM.of gh),p,fs.length,by rw[bw];rfl,ne,by lia,rT,fun d H4 hd s4 BI=>?_⟩;refine⟨D1,_,_,_,rfl,rfl,aM.of (s4 _ _ gh nDp),aw (yD hd),_,rfl,Lt,zs,qs,fs[d],i+1,rfl,s4 _ _ Sq Fu,(po.same s2).j5 s4 rT,ez,zl,fun kP H5 s5 Sv po5 ez5=>?_⟩;obtain⟨m1,m2⟩:=mem fs[d] (fk _);have Fv:bL H5 p:=let ⟨x,y,e,r⟩:=BI;⟨x,y,s5 _ _ e Fu.symm,r⟩;exact⟨kP,_,⟨_,_,rfl⟩,fun b o e n=>s5 _ _ (s4 _ _ (s2 _ _ (sc _ _ e n)) n) (aj e JB),Fv,Sv,po5,ez5,BK Tr (by lia) m1 m2⟩
  .rintro σ Hc ⟨zs,qs,⟨a,b,rfl⟩,sc,oB,u6,po,ez,Tr⟩;rw[show n-1+1=n by lia] at Tr;exact⟨_,rfl,q Lt zs qs Hc sc oB JB u6 po ez (Tr.iR n1 n2 (pH _))⟩
end
theorem uG{xs:List V}{k:Nat}:jR xs none (some (k:Int))=xs.take k:=by
 have h1:HT.dN xs.length 0 none=0:=rfl;have h2:HT.dN xs.length xs.length (some (k:Int))=min k xs.length:=by
  unfold HT.dN;simp;try lia
 unfold jR;rw[h1,h2,xv,Nat.sub_zero,List.take_eq_take_iff];simp;try lia
section
variable {P:Program} {w:World} {K:PySem.W.Frag} {mg:Str->Option Value} {base:Heap}
theorem v8:aE ["_law_pot_here","_law_many","_law_way","_law_ties_here","_law_k","_law_house","_law_step"] ["_law_pot_here","_law_many"] (ap yP):=⟨rfl,rfl,rfl,by decide +kernel,rfl,by decide +kernel,by decide +kernel⟩
def LB:Sp:=fun vs H Q _=>∃ (p:Addr) (n:Nat),vs=[.ref p,.int n]/\2<=n/\n<=32/\bL H p/\∀ (r:Addr) (zs:Zs) (H':Hp),aL p H H'->bL H' p->H r=none->H' r=some (.lst (zr zs))->PO H' zs->ck n (zp zs)->Q (.ref r) H'
theorem Et{f:Addr}{fd:FuncData}(F:fJ K "_law_ties" "_law_ties" yP f fd)(B:Bl mg)(DR:cQ P w K mg base bf 1 "_law_draw" ["_law_pot_here","_law_many"] jy)(TD:cQ P w K mg base bf 1 "_law_tied" ["_law_ties_here","_law_one","_law_other"] uE)(CY:cQ P w K mg base bf 1 "_law_cycle" ["_law_row","_law_ties_here"] Ep)(MX:cQ P w K mg base bf 2 "_law_mixed" ["_law_pot_here","_law_some"] uA)(TR:cQ P w K mg base bf 2 "_law_tree" ["_law_pot_here","_law_many"] yR):bz P w K mg base bf 3 f fd ["_law_pot_here","_law_many"] LB:=by
 refine F.ok v8 (fun vs H Q E h=>?_) (fun dU A outer s H vs Q E hr h=>?_)
 .obtain⟨p,n,rfl,_⟩:=h;rfl
 .obtain⟨p,n,rfl,n1,n2,hp,q⟩:=h;have h1:b9 1 _:=hr.mono (by decide);have h2:b9 2 _:=hr;refine⟨_,(ah (aS (i:=2) v8.nd rfl (Or.inl rfl) (aB DR h1 aI (aa (pv 0) (aa av ag))))
   (ah (aS (i:=3) v8.nd rfl (Or.inl rfl) (cz ag))
   (ah (cr (aK jl (pv 2) av (aU _)) (ah (bu (aB CY h1 aI (aa (aB MX h2 aI (aa (pv 0) (aa (cx (qb rfl) (by rfl) B.lst nV (aa (cx n_ (by rfl) B.range PyProof.Rows.boot_range (aa (pv 1) ag)) ag)) ag))) (aa (pv 3) ag))))
    (ao (dA dR rfl (bP rfl B.range (aa (aB DR h1 aI (aa (pv 0) (aa av ag))) ag)) (aq (i:=4) v8.nd rfl (Or.inl rfl))
     (ao (bu (aB CY h1 aI (aa (cS gm (aB MX h2 aI (aa (pv 0) (aa (cx (qb rfl) (by rfl) B.lst nV (aa (cx n_ (by rfl) B.range PyProof.Rows.boot_range (aa (pv 1) ag)) ag)) ag))) dO (dP (bJ eE av (aB DR h1 aI (aa (pv 0) (aa (bJ mX (pv 1) av) ag)))))) (aa (pv 3) ag)))))))) (ao (cr (aK jl (pv 2) av (aU _)) (ah (aS (i:=3) v8.nd rfl (Or.inl rfl) (aB TR h2 aI (aa (pv 0) (aa (pv 1) ag))))
     (ao (dA dR rfl (bP rfl B.range (aa (aB DR h1 aI (aa (pv 0) (aa (pv 1) ag))) ag)) (aq (i:=4) v8.nd rfl (Or.inl rfl))
      (ao (bu (aB TD h1 aI (aa (pv 3) (aa (aB DR h1 aI (aa (pv 0) (aa (pv 1) ag))) (aa (aB DR h1 aI (aa (pv 0) (aa (pv 1) ag))) ag))))))))) (ao (dA dR rfl (bP rfl B.range (aa (pv 1) ag)) (aq (i:=5) v8.nd rfl (Or.inl rfl))
      (ao (dA dR rfl (rp rfl B.range (aa av (aa (pv 2) ag))) (aq (i:=6) v8.nd rfl (Or.inl rfl))
       (ao (bu (aB TD h1 aI (aa (pv 3) (aa (pv 5) (aa (bJ jk (bJ eE (pv 5) (pv 6)) (pv 1)) ag)))))))))))))
   (ao (aX (pv 3)))))),?_⟩
  refine⟨_,rfl,p,4,rfl,by decide,by decide,hp,fun Fw H1 hw s1 F6=>?_⟩;refine⟨by show 0<=sizeLine;decide,fun Lt JB=>?_⟩;have s0:=ai (o:=.lst []) JB;have Fu:Lt≠p:=F6.ne JB;have LC:H Lt=none:=s1.free F6.full JB;have KC:(upd H1 Lt (.lst [])) Lt=some (.lst (zr [])):=af;have rT:=F6.same s0;have Ft:aL p H (upd H1 Lt (.lst [])):=s1.trans (aL.of s0);generalize upd H1 Lt (.lst [])=H2 at *;dsimp only[a9];refine DO (fun σ H'=>∃ (r:Addr) (zs:Zs),σ[3]?=some (some (.ref r))/\aL p H H'/\bL H' p/\H r=none/\H' r=some (.lst (zr zs))/\PO H' zs/\ck n (zp zs)) ?_ ?_
  .rintro σ H' ⟨r,zs,e,s',I_,Sw,zy,po',Fi⟩;exact⟨_,e,q r zs H' s' I_ Sw zy po' Fi⟩
  intro N hN;refine⟨_,rfl,rfl,_,rfl,gK (fun c=>?_) (fun c=>?_)⟩
  .-- VB
   refine⟨_,rfl,_,rfl,n,rfl,fun R hR=>⟨R,n,rfl,af,by lia,fun L hL=>?_⟩⟩;have sL:aF H2 (upd (upd H2 R (.Fj 0 n)) L (.lst (NV (List.range n)))):=(ai hR).trans (ai hL);refine⟨p,L,List.range n,rfl,af,by rw[d9];lia,rT.same sL,fun M xs H3 s3 Al hM hM3 pm=>?_⟩;have xl:xs.length=n:=by rw[pm.length_eq,d9]
   have P9:aL p H2 H3:=(aL.of sL).trans s3;refine⟨_,rfl,M,Lt,xs,[],rfl,hM3,P9 _ _ KC Fu,PO.nil,by lia,cN _,fun YL H4 s4 Su Vz alt=>?_⟩;have nd:xs.Nodup:=pm.nodup_iff.mpr kh;have lt:∀x∈xs,x<n:=fun x hx=>cq.mp (pm.mem_iff.mp hx);have YM:zp YL=mh xs:=by
    rcases alt with ⟨_,t,_,z⟩|⟨z,_⟩
    .cases z
    .exact z
   have BI:bL H4 p:=let ⟨x,y,e,r⟩:=Al;⟨x,y,s4 _ _ e Fu.symm,r⟩;have VA:aL p H H4:=fun b o e n=>s4 _ _ (P9 _ _ (Ft _ _ e n) n) (aj e LC);refine⟨_,rfl,p,4,rfl,by decide,by decide,BI,fun d H5 hd s5 Fv=>⟨(d:Int),rfl,by lia,by lia,du (n:=d) (lo:=0) (fun i σ Hc=>∃ (zs:Zs),(∃a b c,σ=[some (.ref p),some (.int n),some (.int (Fw:Int)),some (.ref Lt),a,b,c])/\aL p H Hc/\bL Hc p/\Hc Lt=some (.lst (zr zs))/\PO Hc zs/\ck n (zp zs)/\∀h,gW (zp zs) h<=i+1) ⟨YL,⟨_,_,_,rfl⟩,VA.trans s5,Fv,s5 _ _ Su Fu,Vz.j5 s5 BI,by rw[YM];exact Bx n1 n2 pm,fun h=>by rw[YM];exact(oR (n:=n) nd lt (by lia)).2 h⟩ ?_ ?_⟩⟩
   .rintro i σ Hc hi ⟨zs,⟨x1,x2,x3,rfl⟩,sc,oB,u6,po,Fi,dg⟩;have Sx:zs.length<=256:=by have:=Fi.len;rwa [b8] at this
    refine⟨_,rfl,_,rfl,n,rfl,fun R' hR'=>⟨R',n,rfl,af,by lia,fun L' hL'=>?_⟩⟩;have VC:aF Hc (upd (upd Hc R' (.Fj 0 n)) L' (.lst (NV (List.range n)))):=(ai hR').trans (ai hL');refine⟨p,L',List.range n,rfl,af,by rw[d9];lia,oB.same VC,fun M' ys H6 s6 Bq hM' NO VD=>?_⟩;have yl:ys.length=n:=by rw[VD.length_eq,d9]
    have Hk:aL p Hc H6:=(aL.of VC).trans s6;have nMp:M'≠p:=oB.ne (VC.free hM');refine⟨_,rfl,_,rfl,_,_,rfl,rfl,p,n-1,by show [V.ref p,V.int ((n:Int)-1)]=_;rw[show ((n:Int)-1)=((n-1:Nat):Int) by lia],by lia,by lia,Bq,fun d2 H7 P7 s7 Eu=>?_⟩;have e3:(2:Int)+(d2:Int)=((2+d2:Nat):Int):=by lia
    refine⟨_,_,rfl,rfl,_,rfl,M',_,rfl,aM.of (s7 _ _ NO nMp),fun S hS=>?_⟩;rw[e3,uG,<-pI];have sS:=ai (o:=.lst (NV (ys.take (2+d2)))) hS;have hS8:(upd H7 S (.lst (NV (ys.take (2+d2))))) S=some (.lst (NV (ys.take (2+d2)))):=af;have LD:=Eu.same sS;have hL8:=sS _ _ (s7 _ _ (Hk _ _ u6 Fu) Fu);have Sy:=((po.j5 Hk oB).j5 s7 Bq).same sS;have s08:aL p H _:=((sc.trans Hk).trans s7).trans (aL.of sS);have cnd:(ys.take (2+d2)).Nodup:=(VD.nodup_iff.mpr kh).sublist (mx _ _);have clt:∀x∈ys.take (2+d2),x<n:=fun x hx=>cq.mp (VD.mem_iff.mp (lm hx));have cl:(ys.take (2+d2)).length=2+d2:=by rw[cf];lia
    generalize ys.take (2+d2)=cs at *;have eNV:(cs.map fun (x:Nat)=>V.int (x:Int))=NV cs:=rfl;rw[eNV];generalize upd H7 S _=H8 at *;refine⟨_,rfl,S,Lt,cs,zs,rfl,hS8,hL8,Sy,by lia,by lia,fun zs9 H9 s9 hl9 po9 VE=>?_⟩;have Sz:bL H9 p:=let ⟨x,y,e,r⟩:=LD;⟨x,y,s9 _ _ e Fu.symm,r⟩;refine⟨zs9,⟨_,_,_,rfl⟩,fun b o e n=>s9 _ _ (s08 _ _ e n) (aj e LC),Sz,hl9,po9,?_⟩;rcases VE with ⟨z,_⟩|⟨z,dj⟩
    .rw[z];exact⟨Fi,fun h=>by have:=dg h;lia⟩
    .rw[z];exact Fi.more dg (by lia) cnd clt (by lia) dj
   .rintro σ Hc ⟨zs,⟨x1,x2,x3,rfl⟩,sc,oB,u6,po,Fi,dg⟩;exact hN _ _ ⟨Lt,zs,rfl,sc,oB,LC,u6,po,Fi⟩
  refine⟨_,rfl,rfl,_,rfl,gK (fun c1=>?_) (fun c1=>?_)⟩
  .-- a tree,and YN more
   refine⟨_,rfl,_,rfl,p,n,rfl,n1,n2,rT,fun r zs qs H3 s3 Al Sw VF Ln ez Fi=>?_⟩;have LA:=Ft.trans s3;have SA:r≠p:=rT.ne Sw;have YO:H r=none:=Ft.free rT.full Sw;refine⟨_,rfl,_,rfl,p,n,rfl,by lia,by lia,Al,fun d H4 hd s4 BI=>⟨(d:Int),rfl,by lia,by lia,du (n:=d) (lo:=0) (fun i σ Hc=>∃ (zs:Zs) (qs:List (Nat×Nat)),(∃a b c,σ=[some (.ref p),some (.int n),some (.int (Fw:Int)),some (.ref r),a,b,c])/\aL p H Hc/\bL Hc p/\Hc r=some (.lst (zr zs))/\PO Hc zs/\zp zs=tq qs/\ck n (tq qs)) ⟨zs,qs,⟨_,_,_,rfl⟩,LA.trans s4,BI,s4 _ _ VF SA,Ln.j5 s4 Al,ez,Fi⟩ ?_ ?_⟩⟩
   .rintro i σ Hc hi ⟨zs,qs,⟨x1,x2,x3,rfl⟩,sc,oB,u6,po,ez,Fi⟩;have Sx:zs.length<=256:=by have:=Fi.len;rwa [<-ez,b8] at this
    refine⟨_,rfl,_,rfl,_,rfl,p,n,rfl,by lia,by lia,oB,fun a H5 ha s5 Fv=>⟨_,rfl,_,rfl,p,n,rfl,by lia,by lia,Fv,fun b H6 hb s6 Bq=>?_⟩⟩;have po6:=(po.j5 s5 oB).j5 s6 Fv;refine⟨r,zs,qs,a,b,rfl,s6 _ _ (s5 _ _ u6 SA) SA,po6,ez,Sx,fun kP H7 s7 VG VH VI=>?_⟩;have Eu:bL H7 p:=let ⟨x,y,e,r⟩:=Bq;⟨x,y,s7 _ _ e SA.symm,r⟩;exact⟨kP,_,⟨_,_,_,rfl⟩,fun b o e n=>s7 _ _ (s6 _ _ (s5 _ _ (sc _ _ e n) n) n) (aj e YO),Eu,VG,VH,VI,BJ Fi ha hb⟩
   .rintro σ Hc ⟨zs,qs,⟨x1,x2,x3,rfl⟩,sc,oB,u6,po,ez,Fi⟩;exact hN _ _ ⟨r,zs,rfl,sc,oB,YO,u6,po,by rw[ez];exact Fi⟩
  have w0:Fw≠0:=fun z=>c (cR (by rw[z];rfl));have w1:Fw≠1:=fun z=>c1 (cR (by rw[z];rfl));obtain⟨wn,ew,hwn⟩:∃wn:Nat,Fw=wn+1/\(wn=1\/wn=2):=⟨Fw-1,by lia,by lia⟩
  refine⟨_,rfl,(n:Int),rfl,by lia,by lia,du (n:=n) (lo:=0) (fun k σ Hc=>∃ (zs:Zs),(∃a b c,σ=[some (.ref p),some (.int n),some (.int (Fw:Int)),some (.ref Lt),a,b,c])/\aL p H Hc/\bL Hc p/\Hc Lt=some (.lst (zr zs))/\PO Hc zs/\zp zs=tq (jz n wn k)) ⟨[],⟨_,_,_,rfl⟩,Ft,rT,KC,PO.nil,rfl⟩ ?_ ?_⟩
  .rintro k σ Hc hk ⟨zs,⟨x1,x2,x3,rfl⟩,sc,oB,u6,po,ez⟩;rw[g7];have Pk:=sk (n:=n) (w:=wn) (by lia) (show k<=n by lia);refine⟨_,rfl,1,(Fw:Int),rfl,⟨by decide,by decide,by lia,by lia⟩,?_⟩;rw[show ((Fw:Int)-1).toNat=wn by lia];refine du (lo:=1) (n:=wn) (fun j σ Hd=>∃ (zs:Zs),(∃a c,σ=[some (.ref p),some (.int n),some (.int (Fw:Int)),some (.ref Lt),a,some (.int (k:Int)),c])/\aL p H Hd/\bL Hd p/\Hd Lt=some (.lst (zr zs))/\PO Hd zs/\zp zs=tq (v6 n k j (jz n wn k))) ⟨zs,⟨_,_,rfl⟩,sc,oB,u6,po,ez⟩ ?_ ?_
   .rintro j σ Hd hj ⟨zs,⟨y1,y3,rfl⟩,sd,Pn,VJ,VL,SC⟩;have Pj:=qB (n:=n) (h:=k) (by lia) hk (w:=j) Pk;have Sx:zs.length<=256:=by have:=Hf Pj;rw[<-SC,b8] at this;lia
    have em:(((k:Int)+((1:Int)+(j:Int))) % (n:Int))=(((k+(1+j)) % n:Nat):Int):=by lia
    refine⟨_,rfl,_,rfl,_,rfl,_,rfl,_,_,rfl,rfl,_,rfl,_,_,rfl,rfl,(by show (0:Int)<(n:Int);lia),Lt,zs,_,k,(k+(1+j)) % n,by rw[<-em];rfl,VJ,VL,SC,Sx,fun kP H7 s7 VG VH VI=>?_⟩;have Eu:bL H7 p:=let ⟨x,y,e,r⟩:=Pn;⟨x,y,s7 _ _ e Fu.symm,r⟩;refine⟨kP,⟨_,_,rfl⟩,fun b o e n=>s7 _ _ (sd _ _ e n) (aj e LC),Eu,VG,VH,?_⟩;rw[VI];unfold v6;rw[fm,iD];rfl
   .rintro σ Hd ⟨zs,⟨y1,y3,rfl⟩,sd,Pn,VJ,VL,SC⟩;refine⟨zs,⟨_,_,_,rfl⟩,sd,Pn,VJ,VL,?_⟩;rw[SC];unfold jz;rw[fm,iD];rfl
  .rintro σ Hc ⟨zs,⟨x1,x2,x3,rfl⟩,sc,oB,u6,po,ez⟩;exact hN _ _ ⟨Lt,zs,rfl,sc,oB,LC,u6,po,by rw[ez];exact yO n1 n2 hwn⟩
end
abbrev VM:Stmt:=top 49
theorem ee:(["_law_one","_law_other","_law_house","_law_many"]:List Str).Nodup:=by decide +kernel
theorem j7:(["_law_step","_law_other"]:List Str).Nodup:=by decide +kernel
theorem BM{K:PySem.W.Frag}{a D:Addr}{qu:Zs}{g:TG}{tt:TT}{te:TE}{cZ:Hp->Prop}{σB:St}{H0:Hp}(c:Int×Int->Bool)(F:Int×Int->Int×Int)(cT:St->Prop)(ha:H0 a=some (.lst (zr qu)))(PL:PO H0 qu)(hD:H0 D=none)(hn:qu.length<=1000)(h0:cT σB)(hs:∀z σ H (R:V->St->Hp->Prop) (Kf:St->Hp->Prop),z∈qu->cT σ->H z.1=some (vX z.2)->(c z.2=true->∀σ2 p,cT σ2->H p=none->R (.ref p) σ2 (upd H p (vX (F z.2))))->(c z.2=false->∀σ2,cT σ2->Kf σ2 H)->g (.ref z.1) σ H fun σ2 H2=>tt σ2 H2 fun b H3=>if b=true then te σ2 H3 fun v H4=>R v σ2 H4 else Kf σ2 H3)(hd:∀zs H,aF H0 H->H D=some (.lst (zr zs))->PO H zs->zp zs=((zp qu).filter c).map F->cZ H):fq (BY K a) g tt te D cZ σB (upd H0 D (.lst [])):=by
 refine cD (xs:=zr qu) (fun i ys σ H=>cT σ/\aF H0 H/\H D=some (.lst ys)/\∃zs:Zs,ys=zr zs/\PO H zs/\zs.length<=i/\zp zs=(((zp qu).take i).filter c).map F) ⟨h0,ai hD,af,[],rfl,PO.nil,aY _,rfl⟩ (fun i ys σ H _ z=>aM.of (z.2.1 _ _ ha)) ?_ ?_
 .rintro i x ys σ H Kt Kf hx ⟨sh,sm,iS,zs,rfl,po,zl,ep⟩ kt kf;obtain⟨z,hz,rfl⟩:=nG hx;have hi:i<qu.length:=(dw.mp hz).1;have DT:z∈qu:=cU hz;have e2:(zp qu)[i]?=some z.2:=by unfold zp;rw[cw,hz];rfl
  have tk:(zp qu).take (i+1)=(zp qu).take i++[z.2]:=by rw[gk,e2];rfl
  refine hs z σ H Kt Kf DT sh (sm _ _ (PL z DT)) (fun e σ2 p yB hp=>?_) (fun e σ2 yB=>?_)
  .have nD:D≠p:=aj iS hp;refine kt _ _ _ (by rw[ak nD];exact iS) (by rw[d6];exact dX zl (bS (show i<1000 by lia) (by decide))) ⟨yB,a_ (sm.trans (ai hp)) hD,af,zs++[(p,F z.2)],?_,?_,by rw[cV];exact xm zl,?_⟩
   .rw[fN];rfl
   .refine PO.putL (xs:=zr zs) ?_ (by rw[ak nD];exact iS);exact(po.putN hp).append (PO.one af)
   .rw[h9,ep,tk,eR,bW];simp[dB,e,zp]
  .refine kf _ _ ⟨yB,sm,iS,zs,rfl,po,Nat.le_succ_of_le zl,?_⟩;rw[ep,tk,eR];simp[dB,e]
 .rintro ys σ H ⟨_,sm,iS,zs,rfl,po,zl,ep⟩;rw[d6,<-b8,iW] at ep;exact hd zs H sm iS po ep
def Ev(H:Hp)(r:Addr)(n:Nat)(ts:Ts):Prop:=∃bs:List Addr,H r=some (.lst (bs.map V.ref))/\bs.length=n/\∀h,h<n->∃row:List Nat,H (bs.getD h 0)=some (.lst (NV row))/\row.length<=256/\∀o:Nat,o∈row↔T ts h o
theorem Ev.same{H H':Hp}{r:Addr}{n:Nat}{ts:Ts}(O:Ev H r n ts)(s:aF H H'):Ev H' r n ts:=let ⟨bs,a,b,c⟩:=O;⟨bs,s _ _ a,b,fun h hh=>let ⟨row,x,y⟩:=c h hh;⟨row,s _ _ x,y⟩⟩
section
variable {P:Program} {w:World} {K:PySem.W.Frag} {mg:Str->Option Value} {base:Heap}
theorem Hl:aE ["_law_many","_law_ties_here","_law_found","_law_house","_law_keys"] ["_law_many","_law_ties_here"] (ap VM):=⟨rfl,rfl,rfl,by decide +kernel,rfl,by decide +kernel,by decide +kernel⟩
def LF:Sp:=fun vs H Q _=>∃ (n:Nat) (l:Addr) (zs:Zs),vs=[.int n,.ref l]/\H l=some (.lst (zr zs))/\PO H zs/\ck n (zp zs)/\∀ (r:Addr) (H':Hp),aF H H'->H r=none->Ev H' r n (zp zs)->Q (.ref r) H'
theorem Qb{f:Addr}{fd:FuncData}(F:fJ K "_law_outs" "_law_outs" VM f fd)(B:Bl mg):bz P w K mg base bf 1 f fd ["_law_many","_law_ties_here"] LF:=by
 refine F.ok Hl (fun vs H Q E h=>?_) (fun dU A outer s H vs Q E hr h=>?_)
 .obtain⟨n,l,zs,rfl,_⟩:=h;rfl
 .obtain⟨n,l,zs,rfl,hl,po,Fi,q⟩:=h;have n1:=Fi.n1;have n2:=Fi.n2;have zl:zs.length<=256:=by have:=Fi.len;rwa [b8] at this
  refine'⟨_,(ah (aS (i:=2) Hl.nd rfl (Or.inl rfl) (cz ag))
   (ah (dA dR rfl (bP rfl B.range (aa (pv 0) ag)) (aq (i:=3) Hl.nd rfl (Or.inr rfl))
    (ah (aS (i:=4) Hl.nd rfl (Or.inl rfl) (aA qp (by rfl) B.sorted wQ (aa ?c1 ag)))
    (ao (bu (iJ iB lf lc dv (pv 2) (aa ?c2 ag))))))
   (ao (aX (pv 2))))),?_⟩
  case c1=>
   refine' bU (g:=(oq K 2 (dC (a9 0) (dC (a9 1) oo)))) (tt:=(fD (im (IS) (aW 0) (aW 2)))) (te:=(AR (cP (im (rI (fun _ j=>0<j) fun i j=>.int (i % j)) (im (BZ fun i j=>.int (i-j)) (aW 1) (aW 2)) (aW 3)) (cP (aW 1) jn)))) (NB:=["_law_one","_law_other","_law_house","_law_many"]) (src:=[none,none,some 3,some 0]) (bq (by kernel_rfl)) rfl (bF (pv 1)) ?g ?t ?e;case g=>exact fun cl C s₃ H₃ fp=>(dY (n:=2) rfl (aO (aq (i:=0) ee rfl (Or.inl rfl) (Or.inr rfl)) (aO (aq (i:=1) ee rfl (Or.inl rfl) (Or.inr rfl)) c_)))
   case t=>exact fun cl C s₃ H₃ fp=>dD (aK jl (pv 0) (pv 2) (aU _))
   case e=>exact fun cl C s₃ H₃ fp=>(fX (aa (bJ jk (bJ mX (pv 1) (pv 2)) (pv 3)) (aa (pv 1) ag)))
  case c2=>
   refine' bU (g:=(oq K 2 (dC (a9 0) (dC (a9 1) oo)))) (te:=(aW 1)) (NB:=["_law_step","_law_other"]) (src:=[none,none]) (bq (by kernel_rfl)) rfl (bF (pv 4)) ?g ?t ?e;case g=>exact fun cl C s₃ H₃ fp=>(dY (n:=2) rfl (aO (aq (i:=0) j7 rfl (Or.inl rfl) (Or.inr rfl)) (aO (aq (i:=1) j7 rfl (Or.inl rfl) (Or.inr rfl)) c_)))
   case t=>exact fun cl C s₃ H₃ fp=>cK
   case e=>exact fun cl C s₃ H₃ fp=>(pv 1)
  refine⟨by show 0<=sizeLine;decide,fun R hR=>?_⟩;refine⟨_,rfl,(n:Int),rfl,by lia,by lia,du (n:=n) (lo:=0) (fun i σ Hc=>(∃a b,σ=[some (.int n),some (.ref l),some (.ref R),a,b])/\aF H Hc/\∃bs:List Addr,Hc R=some (.lst (bs.map V.ref))/\bs.length=i/\∀h,h<i->∃row:List Nat,Hc (bs.getD h 0)=some (.lst (NV row))/\bs.getD h 0≠R/\row.length<=256/\∀o:Nat,o∈row↔T (zp zs) h o) ⟨⟨_,_,rfl⟩,ai hR,[],af,rfl,fun h hh=>absurd hh (pF _)⟩ ?_ ?_⟩
  .rintro i σ Hc hi ⟨⟨x4,x5,rfl⟩,sc,bs,B9,bl,hb⟩;rw[g7];have YQ:=sc _ _ hl;have poc:=po.same sc;refine⟨_,rfl,l,rfl,⟨_,aM.of YQ⟩,fun D1 BL=>?_⟩;refine BM (fun t=>decide (t.1=ci i)) (fun t=>((t.2-(i:Int)) % (n:Int),t.2)) (fun σ=>∃a b,σ=[a,b,some (.int (i:Int)),some (.int n)]) YQ poc BL (by lia) ⟨_,_,rfl⟩ ?_ ?_
   .rintro z σ H1 R' Kf hz ⟨a,b,rfl⟩ hz1 kt kf;refine⟨z.1,_,rfl,bV.of hz1,rfl,_,_,rfl,_,_,rfl,rfl,?_⟩;refine⟨_,rfl,_,rfl,rfl,_,rfl,gK (fun e=>?_) (fun e=>?_)⟩
    .have ce:z.2.1=ci i:=by have:=V.int.inj (of_decide_eq_true e);exact this
     exact⟨_,rfl,_,rfl,_,_,rfl,rfl,_,rfl,_,_,rfl,rfl,(by show (0:Int)<(n:Int);lia),_,rfl,by show 2<=sizeLine;decide,fun t ht=>kt (cR ce) _ _ ⟨_,_,rfl⟩ ht⟩
    .exact kf (cM fun z'=>e (cR (by rw[z']))) _ ⟨_,_,rfl⟩
   intro ks H2 s2 gh Jy ek;have kl:ks.length<=256:=by
    rw[<-b8,ek,aJ];exact bj (gX _ _) (by rw[b8];exact zl)
   have kb:∀u∈zp ks,0<=u.2/\u.2<n:=fun u hu=>by
    rw[ek] at hu;obtain⟨t,ht,rfl⟩:=bH.mp hu;exact(Fi.rg t (dQ.mp ht).1).2
   refine D_ ?_;refine Ab gh Jy (by lia) (fun u hu=>by have:=kb u hu;lia) fun D2 ms VN pm _=>?_;have s3:=ai (o:=.lst (zr ms)) VN;have gM:(upd H2 D2 (.lst (zr ms))) D2=some (.lst (zr ms)):=af;have poM:PO (upd H2 D2 (.lst (zr ms))) ms:=fun z hz=>s3 _ _ (Jy z (pm.mem_iff.mp hz));have ml:ms.length<=256:=by rw[pm.length_eq];exact kl
   have JC:=(sc.trans s2).trans s3;have Qc:=s2.trans s3;generalize upd H2 D2 (.lst (zr ms))=H3 at *;have qZ:=Qc _ _ B9;refine⟨_,rfl,.inl ⟨rfl,_,aM.of qZ⟩,_,rfl,D2,rfl,⟨_,aM.of gM⟩,fun D3 gU=>?_⟩;refine cD (xs:=zr ms) (fun j ys σ H5=>(∃a b,σ=[a,b])/\aF H3 H5/\H5 D3=some (.lst ys)/\ys=((zp ms).take j).map fun u=>V.int u.2) ⟨⟨_,_,rfl⟩,ai gU,af,rfl⟩ (fun j ys σ H5 _ z=>aM.of (z.2.1 _ _ gM)) ?_ ?_
   .rintro j x ys σ H5 Kt Kf hx ⟨⟨a,b,rfl⟩,sm,so,rfl⟩ kt kf;obtain⟨z,hz,rfl⟩:=nG hx;have hj:j<ms.length:=(dw.mp hz).1;have e2:(zp ms)[j]?=some z.2:=by unfold zp;rw[cw,hz];rfl
    have tk:(zp ms).take (j+1)=(zp ms).take j++[z.2]:=by rw[gk,e2];rfl
    refine⟨z.1,_,rfl,bV.of (sm _ _ (poM z (cU hz))),rfl,_,_,rfl,_,_,rfl,rfl,?_⟩;refine⟨_,rfl,kt _ _ _ so (by rw[aJ];exact dX (j_ _ _) (bS (show j<257 by lia) (by decide))) ⟨⟨_,_,rfl⟩,a_ sm gU,af,by rw[tk,bW];rfl⟩⟩
   rintro ys σ H5 ⟨_,s5,so,rfl⟩;rw[d6,<-b8,iW] at so;have mb:∀u∈zp ms,0<=u.2/\u.2<n:=fun u hu=>kb u ((pm.map (·.2)).mem_iff.mp hu);have eN:((zp ms).map fun u=>V.int u.2)=NV ((zp ms).map fun u=>u.2.toNat):=by
    unfold NV;rw[gZ];exact nX fun u hu=>by show V.int u.2=V.int ((u.2.toNat:Nat):Int);rw[w9 (mb u hu).1]
   rw[eN] at so;have Gu:=s5 _ _ qZ;have B7:D3≠R:=by rintro rfl;rw[qZ] at gU;cases gU
   have Lw:H R=none:=hR;refine⟨R,_,_,rfl,rfl,Gu,by rw[aJ,bl];exact bS (show i<33 by lia) (by decide),⟨_,_,rfl⟩,a_ (JC.trans s5) Lw,bs++[D3],by rw[af,bW];rfl,by rw[cV,bl];rfl,fun h hh=>?_⟩;by_cases c:h=i
   .subst c;have eg:(bs++[D3]).getD h 0=D3:=by rw[aT,k8 (by lia),bl,pK];rfl
    rw[eg];refine⟨_,by rw[ak B7];exact so,B7,by rw[aJ,b8];exact ml,fun o=>?_⟩;rw[bH];constructor
    .rintro⟨u,hu,rfl⟩;have wH:=(pm.map (·.2)).mem_iff.mp hu;have YR:u∈zp ks:=wH;rw[ek] at YR;obtain⟨t,ht,rfl⟩:=bH.mp YR;obtain⟨t1,t2⟩:=dQ.mp ht;have:=(Fi.rg t t1).2;have e:t=(ci h,ci t.2.toNat):=ku (of_decide_eq_true t2) (by show t.2=((t.2.toNat:Nat):Int);lia);show (ci h,ci t.2.toNat)∈zp zs;rw[<-e];exact t1
    .intro ht;refine⟨((ci o-(h:Int)) % (n:Int),ci o),(pm.map (·.2)).mem_iff.mpr ?_,rfl⟩;show _∈zp ks;rw[ek];exact bH.mpr ⟨(ci h,ci o),dQ.mpr ⟨ht,cR rfl⟩,rfl⟩
   .obtain⟨row,r1,r2,r3⟩:=hb h (by lia);have eg:(bs++[D3]).getD h 0=bs.getD h 0:=by rw[aT,fP (by lia),<-aT]
    rw[eg];exact⟨row,by rw[ak r2];exact s5 _ _ (Qc _ _ r1),r2,r3⟩
  .rintro σ Hc ⟨⟨x4,x5,rfl⟩,sc,bs,B9,bl,hb⟩;exact⟨_,rfl,q R Hc sc hR ⟨bs,B9,bl,fun h hh=>let ⟨row,x,_,y⟩:=hb h hh;⟨row,x,y⟩⟩⟩
end
abbrev VO:Stmt:=top 50
theorem uH:(["_law_other","_law_row"]:List Str).Nodup:=by decide +kernel
def wK(f:Nat->Nat)(xs:List Nat):List (fA×V):=xs.map fun (x:Nat)=>(Sum.inl (x:Int),V.int ((f x:Nat):Int))
theorem Hm{f:Nat->Nat}{xs:List Nat}:(wK f xs).length=xs.length:=aJ _
theorem o4{f:Nat->Nat}{x:Nat}:∀ {xs:List Nat},nq (wK f xs) (Sum.inl (x:Int))=if x∈xs then some (.int ((f x:Nat):Int)) else none
 |[]=>rfl
 |y::ys=>by
  unfold wK;rw[dS];by_cases e:y=x
  .subst e;rw[lL rfl,if_pos bK]
  .have e2:¬ ((Sum.inl (y:Int):fA)=Sum.inl (x:Int)):=fun z=>e (eV (Sum.inl.inj z));rw[lM e2];have ih:=o4 (f:=f) (x:=x) (xs:=ys);unfold wK at ih;rw[ih];by_cases h:x∈ys
   .rw[if_pos h,if_pos (bZ _ h)]
   .rw[am h,am (fun z=>(aV.mp z).elim (fun q=>e q.symm) h)]
theorem Hn{f:Nat->Nat}{x k:Nat}{xs:List Nat}(h:x∉xs):ir (wK f xs) (Sum.inl (x:Int)) (.int ((k:Nat):Int))=wK (put f x k) (xs++[x]):=by
 rw[Dq _ (by rw[o4,am h])];unfold wK;rw[bW,dS,tK,f8];congr 1;refine nX fun y hy=>?_;rw[dZ (show y≠x from fun z=>h (z ▸ hy))]
def yS(H:Hp)(r:Addr)(n:Nat)(ts:Ts):Prop:=∃bs:List Addr,H r=some (.lst (bs.map V.ref))/\bs.length=n/\∀h,h<n->H (bs.getD h 0)=some (.lst (NV ((List.range n).map (far ts h))))
theorem yS.same{H H':Hp}{r:Addr}{n:Nat}{ts:Ts}(O:yS H r n ts)(s:aF H H'):yS H' r n ts:=let ⟨bs,a,b,c⟩:=O;⟨bs,s _ _ a,b,fun h hh=>s _ _ (c h hh)⟩
section
variable {P:Program} {w:World} {K:PySem.W.Frag} {mg:Str->Option Value} {base:Heap}
theorem uI:aE ["_law_many","_law_outs_here","_law_found","_law_house","_law_row","_law_last","_law_more","_law_here","_law_other"] ["_law_many","_law_outs_here"] (ap VO):=⟨rfl,rfl,rfl,by decide +kernel,rfl,by decide +kernel,by decide +kernel⟩
def LH:Sp:=fun vs H Q _=>∃ (n:Nat) (r:Addr) (ts:Ts),vs=[.int n,.ref r]/\Ev H r n ts/\ck n ts/\∀ (l:Addr) (H':Hp),aF H H'->H l=none->yS H' l n ts->Q (.ref l) H'
theorem Qd{f:Addr}{fd:FuncData}(F:fJ K "_law_fars" "_law_fars" VO f fd)(B:Bl mg):bz P w K mg base bf 1 f fd ["_law_many","_law_outs_here"] LH:=by
 refine F.ok uI (fun vs H Q E h=>?_) (fun dU A outer s H vs Q E hr h=>?_)
 .obtain⟨n,r,ts,rfl,_⟩:=h;rfl
 .obtain⟨n,r,ts,rfl,O,fi,q⟩:=h;have n1:=fi.n1;have n2:=fi.n2;have B6:=hr.u (n:=1);refine'⟨_,(ah (aS (i:=2) uI.nd rfl (Or.inl rfl) (cz ag))
   (ah (dA dR rfl (bP rfl B.range (aa (pv 0) ag)) (aq (i:=3) uI.nd rfl (Or.inl rfl))
    (ah (aS (i:=4) uI.nd rfl (Or.inr rfl) (Gj (Du (pv 3) av Gi) rfl rfl (by simp) (by decide)))
    (ah (aS (i:=5) uI.nd rfl (Or.inl rfl) (cz (aa (pv 3) ag)))
    (ah (lB dR (aK (Dg (e:=m6) hr.u) (pv 5) (cz ag) (aU _)) (ah (aS (i:=6) uI.nd rfl (Or.inl rfl) (cz ag))
     (ah (dA dR rfl (bF (pv 5)) (aq (i:=7) uI.nd rfl (Or.inl rfl))
      (ao (dA dR rfl (bF (ba aR (pv 1) (pv 7) (fun _ _=>rfl))) (aq (i:=8) uI.nd rfl (Or.inl rfl))
       (ao (cr (Ka (Be B6 (pv 8) (pv 4))) (ah (Gg B6 (pv 4) (pv 8) (bJ eE (zP B6 (pv 4) (pv 7) (fun _ _=>rfl)) av) rfl)
        (ao (bu (iJ iB lf lc dv (pv 6) (aa (pv 8) ag))))) bg)))))
     (ao (aS (i:=5) uI.nd rfl (Or.inl rfl) (pv 6))))))
    (ao (bu (iJ iB lf lc dv (pv 2) (aa ?c1 ag))))))))
   (ao (aX (pv 2))))),?_⟩
  case c1=>
   refine' bU (g:=(a9 0)) (te:=(Ji (aW 1) (aW 0))) (NB:=["_law_other","_law_row"]) (src:=[none,some 4]) (bq (by kernel_rfl)) rfl (bP rfl B.range (aa (pv 0) ag)) ?g ?t ?e;case g=>exact fun cl C s₃ H₃ fp=>(aq (i:=0) uH rfl (Or.inl rfl) (Or.inr rfl))
   case t=>exact fun cl C s₃ H₃ fp=>cK
   case e=>exact fun cl C s₃ H₃ fp=>(zP B6 (pv 1) (pv 0) (fun _ _=>rfl))
  refine⟨by show 0<=sizeLine;decide,fun R hR=>?_⟩;refine⟨_,rfl,(n:Int),rfl,by lia,by lia,du (n:=n) (lo:=0) (fun st σ Hc=>(∃x3 x4 x5 x6 x7 x8,σ=[some (.int n),some (.ref r),some (.ref R),x3,x4,x5,x6,x7,x8])/\aF H Hc/\∃bs:List Addr,Hc R=some (.lst (bs.map V.ref))/\bs.length=st/\∀h,h<st->Hc (bs.getD h 0)=some (.lst (NV ((List.range n).map (far ts h))))/\bs.getD h 0≠R) ⟨⟨_,_,_,_,_,_,rfl⟩,ai hR,[],af,rfl,fun h hh=>absurd hh (pF _)⟩ ?_ ?_⟩
  rotate_left
  .rintro σ Hc ⟨⟨x3,x4,x5,x6,x7,x8,rfl⟩,sc,bs,B9,bl,hb⟩;exact⟨_,rfl,q R Hc sc hR ⟨bs,B9,bl,fun h hh=>(hb h hh).1⟩⟩
  rintro st σ Hc lA ⟨⟨x3,x4,x5,x6,x7,x8,rfl⟩,sc,bs,B9,bl,hb⟩;rw[g7];have Oc:=O.same sc;refine fun D hD=>⟨_,rfl,af,[(Sum.inl (st:Int),.int 0)],rfl,by show 1<=15;decide,?_⟩
  rw[jE];have e0:nu [] [(Sum.inl (st:Int),V.int 0)]=wK (fun _=>0) [st]:=rfl;rw[e0];have YS:aF Hc (upd Hc D (.dK (wK (fun _=>0) [st]))):=ai hD;refine⟨_,rfl,by show 1<=sizeLine;decide,fun L0 VP=>?_⟩;have nDL:D≠L0:=aj (H:=upd Hc D (.dK (wK (fun _=>0) [st]))) af VP;refine⟨fun m σ H2=>∃ (i:Nat) (Rs:List Nat) (f:Nat->Nat) (La:Addr),m=n-i/\i<=Rs.length/\vR n ts st i Rs f/\(∃x6 x7 x8,σ=[some (.int n),some (.ref r),some (.ref R),some (.int (st:Int)),some (.ref D),some (.ref La),x6,x7,x8])/\aF Hc H2/\H2 D=some (.dK (wK f Rs))/\H2 La=some (.lst (NV (Rs.drop i)))/\Hc La=none,⟨_,0,[st],fun _=>0,L0,rfl,cN _,vR.start lA,⟨_,_,_,rfl⟩,YS.trans (ai VP),by rw[ak nDL,af],af,YS.free VP⟩,?_⟩;rintro m σ H2 ⟨i,Rs,f,La,rfl,hi,Bf,⟨x6,x7,x8,rfl⟩,sm,gh,YT,u6⟩;have hRn:Rs.length<=n:=eM Bf.nd Bf.lt;refine⟨_,rfl,by show 0<=sizeLine;decide,fun E1 Fs=>?_⟩;have sE:=ai (o:=.lst []) Fs;refine⟨La,E1,_,[],rfl,rfl,aM.of (sE _ _ YT),aM.of af,fun i h1 h2=>absurd h2 (by simp),_,rfl,?_⟩;rw[if_pos rfl,jL];have Ju:=sm.trans sE;have NM:=sE _ _ gh;have B8:=sE _ _ YT;generalize upd H2 E1 (.lst [])=H3 at *;have qZ:=Ju _ _ B9;by_cases qm:i<Rs.length
  rotate_left
  .have e:NV (Rs.drop i)=[]:=by rw[List.drop_eq_nil_iff.mpr (by lia)];rfl
   rw[cR e];refine j3 ?_;refine⟨_,rfl,.inl ⟨rfl,_,aM.of qZ⟩,_,rfl,(n:Int),rfl,by lia,by lia,fun D3 gU=>?_⟩;rw[iZ];refine dL (fun j ys σ H4=>(∃x,σ=[x,some (.ref D)])/\aF H3 H4/\H4 D3=some (.lst ys)/\ys=NV ((List.range j).map fun x=>far ts st x)) ⟨⟨_,rfl⟩,ai gU,af,rfl⟩ ?_ ?_
   .rintro j ys σ H4 Kt Kf hj ⟨⟨x,rfl⟩,s4,qx,rfl⟩ kt kf;rw[g7];have g1:=qX.k (k:=Sum.inl (j:Int)) (s4 _ _ NM);obtain⟨q1,q2⟩:=Bf.done fi (by lia) hj;rw[o4,if_pos q1,q2] at g1;refine⟨_,rfl,_,rfl,D,_,rfl,g1,kt _ _ _ qx (by rw[bw,aJ,d9];exact bS (show j<33 by lia) (by decide)) ⟨⟨_,rfl⟩,a_ s4 gU,af,?_⟩⟩;rw[fm,bW];exact ix
   .rintro ys σ H4 ⟨_,s4,qx,rfl⟩;have q8:=s4 _ _ qZ;have B7:D3≠R:=by rintro rfl;rw[qZ] at gU;cases gU
    refine⟨R,_,_,rfl,rfl,q8,by rw[aJ,bl];exact bS (show st<33 by lia) (by decide),⟨_,_,_,_,_,_,rfl⟩,a_ ((sc.trans Ju).trans s4) hR,bs++[D3],by rw[af,bW];rfl,by rw[cV,bl];rfl,fun h hh=>?_⟩;by_cases c:h=st
    .subst c;have eg:(bs++[D3]).getD h 0=D3:=by rw[aT,k8 (by lia),bl,pK];rfl
     rw[eg];exact⟨by rw[ak B7];exact qx,B7⟩
    .obtain⟨r1,r2⟩:=hb h (by lia);have eg:(bs++[D3]).getD h 0=bs.getD h 0:=by rw[aT,fP (by lia),<-aT]
     rw[eg];exact⟨by rw[ak r2];exact s4 _ _ (Ju _ _ r1),r2⟩
  have ne:¬ NV (Rs.drop i)=[]:=by rw[rh qm];exact fun z=>by cases z
  rw[cM ne];refine oj ⟨_,fun σ' H' z=>z,?_⟩;refine⟨by show 0<=sizeLine;decide,fun Mo SE=>?_⟩;have SF:=ai (o:=.lst []) SE;have YU:Hc Mo=none:=Ju.free SE;have YV:D≠Mo:=aj NM SE;have nLM:La≠Mo:=aj B8 SE;have Qe:Hc D=none:=hD;have VQ:D≠La:=by rintro rfl;rw[NM] at B8;cases B8
  have dl:(Rs.drop i).length=Rs.length-i:=lq;refine⟨_,rfl,La,rfl,⟨_,aM.of (SF _ _ B8)⟩,fW (K:=K) (xs:=NV (Rs.drop i)) (fun j σ H5=>∃ (mo:List Nat) (f':Nat->Nat),vR n ts st (i+j) (Rs++mo) f'/\(∃x7 x8,σ=[some (.int n),some (.ref r),some (.ref R),some (.int (st:Int)),some (.ref D),some (.ref La),some (.ref Mo),x7,x8])/\aF Hc H5/\H5 D=some (.dK (wK f' (Rs++mo)))/\H5 Mo=some (.lst (NV mo))/\H5 La=some (.lst (NV (Rs.drop i)))) ⟨[],f,by rw[jV];exact Bf,⟨_,_,rfl⟩,Ju.trans SF,by rw[jV];exact SF _ _ NM,af,SF _ _ B8⟩ (fun j σ H5 _ ⟨_,_,_,_,_,_,_,h⟩=>aM.of h) ?_ ?_⟩
  rotate_left
  .rintro σ H5 ⟨mo,f',qw,⟨x7',VR,rfl⟩,s5,so,SG,NP⟩;rw[bw,dl,show i+(Rs.length-i)=Rs.length by lia] at qw;exact⟨_,rfl,n-Rs.length,by lia,Rs.length,Rs++mo,f',Mo,rfl,by rw[cV];lia,qw,⟨_,_,_,rfl⟩,s5,so,by rw[List.drop_left];exact SG,YU⟩
  rintro j x σ H5 hx ⟨mo,f',qw,⟨x7',VR,rfl⟩,s5,so,SG,NP⟩;obtain⟨u,hu,rfl⟩:=v4 hx;have hj:j<Rs.length-i:=by have:=(dw.mp hu).1;rwa [dl] at this
  have SH:Rs[i+j]?=some u:=by rw[<-List.getElem?_drop];exact hu
  have VS:(Rs++mo)[i+j]?=some u:=by rw[fP (by lia)];exact SH
  have D7:u<n:=Bf.lt u (cU SH);obtain⟨ob,o1,o2,o3⟩:=Oc;obtain⟨row,r1,r2,r3⟩:=o3 u D7;refine⟨_,rfl,_,rfl,r,_,_,.ref (ob.getD u 0),rfl,rfl,aM.of (s5 _ _ o1),aw (by rw[cw,bh (by lia),aT,bh (by lia)];rfl),?_⟩;generalize ob.getD u 0=ub at *;refine⟨ub,rfl,⟨_,aM.of (s5 _ _ r1)⟩,fW (K:=K) (xs:=NV row) (fun k σ H6=>∃ (mo:List Nat) (f':Nat->Nat),vR n ts st (i+j) (Rs++mo) f'/\(∀v∈row.take k,v∈Rs++mo/\f' v<=f' u+1)/\(∃x8,σ=[some (.int n),some (.ref r),some (.ref R),some (.int (st:Int)),some (.ref D),some (.ref La),some (.ref Mo),some (.int (u:Int)),x8])/\aF Hc H6/\H6 D=some (.dK (wK f' (Rs++mo)))/\H6 Mo=some (.lst (NV mo))/\H6 La=some (.lst (NV (Rs.drop i)))) ⟨mo,f',qw,fun v hv=>by simp at hv,⟨_,rfl⟩,s5,so,SG,NP⟩ (fun k σ H6 _ ⟨_,_,_,_,_,s6,_⟩=>aM.of (s6 _ _ r1)) ?_ ?_⟩
  rotate_left
  .rintro σ H6 ⟨mo,f',qw,dn,⟨VR,rfl⟩,s6,wJ,NO,SI⟩;rw[bw,iW] at dn;have Qf:(Rs++mo)[i+j]?=some u:=by rw[fP (by lia)];exact SH
   exact⟨mo,f',qw.next Qf fun v tv=>dn v ((r3 v).mpr tv),⟨_,_,rfl⟩,s6,wJ,NO,SI⟩
  clear qw s5 so SG NP VS mo f';rintro k x σ H6 hx ⟨mo,f',qw,dn,⟨VR,rfl⟩,s6,wJ,NO,SI⟩;obtain⟨v,hv,rfl⟩:=v4 hx;have Qf:(Rs++mo)[i+j]?=some u:=by rw[fP (by lia)];exact SH
  have D8:u∈Rs++mo:=cU Qf;have Sm:T ts u v:=(r3 v).mp (cU hv);have Jt:v<n:=(fi.Sh Sm).2.1;have tk:row.take (k+1)=row.take k++[v]:=by rw[gk,hv];rfl
  have hln:(Rs++mo).length<=n:=eM qw.nd qw.lt;have gD:∀x:Nat,qX H6 D (.int (x:Int)) (if x∈Rs++mo then some (.int ((f' x:Nat):Int)) else none):=fun x=>by
   have:=qX.k (k:=Sum.inl (x:Int)) wJ;rw[o4] at this;exact this
  refine⟨_,rfl,_,rfl,D,_,rfl,gD v,_,rfl,?_⟩;by_cases wI:v∈Rs++mo
  .rw[if_pos wI];refine gg ⟨mo,f',qw,fun x hx=>?_,⟨_,rfl⟩,s6,wJ,NO,SI⟩;rw[tk] at hx;rcases cH.mp hx with z|z
   .exact dn x z
   .rw[cy.mp z];exact⟨wI,qw.bd _ Qf _ wI⟩
  rw[am wI];refine C3 ?_;have g2:=gD u;rw[if_pos D8] at g2;refine⟨_,rfl,_,rfl,D,_,rfl,g2,_,_,rfl,rfl,_,rfl,_,rfl,D,_,rfl,Dr.k (k:=Sum.inl (v:Int)) wJ (by rw[Hm];exact bS (show (Rs++mo).length<33 by lia) (by decide)),?_⟩;have e1:ir (wK f' (Rs++mo)) (Sum.inl (v:Int)) (V.int (((f' u:Nat):Int)+1))=wK (put f' v (f' u+1)) ((Rs++mo)++[v]):=by
   rw[show ((f' u:Nat):Int)+1=((f' u+1:Nat):Int) by lia,Hn wI]
  rw[e1];have YW:(upd H6 D (.dK (wK (put f' v (f' u+1)) ((Rs++mo)++[v])))) Mo=some (.lst (NV mo)):=by rw[ak YV.symm];exact NO
  refine⟨_,rfl,.inl ⟨rfl,_,aM.of YW⟩,_,rfl,Mo,_,_,rfl,rfl,YW,by rw[bw];exact bS (show mo.length<33 by rw[cV] at hln;lia) (by decide),?_⟩;have U8:u≠v:=fun z=>wI (z ▸ D8);have Bn:=qw.add Qf Jt Sm wI;rw[cG] at Bn |-;refine⟨mo++[v],put f' v (f' u+1),Bn,fun x hx=>?_,⟨_,rfl⟩,a_ (a_ s6 Qe) YU,by rw[ak YV,af],by rw[af,ix],by rw[ak nLM,ak VQ.symm];exact SI⟩;rw[dZ U8,tk] at *;rcases cH.mp hx with z|z
  .obtain⟨q1,q2⟩:=dn x z;exact⟨by rw[<-cG];exact gj _ q1,by rw[dZ (fun (y:x=v)=>wI (y ▸ q1))];exact q2⟩
  .rw[cy.mp z];exact⟨by simp,by rw[f8];exact aY _⟩
end
abbrev v9:Stmt:=top 51
theorem kY:(["_law_k","_law_pot_here","_law_many"]:List Str).Nodup:=by decide +kernel
inductive Zx where
 |c (i:Int)|pow (i j:Int)
def Qg:Expr->Option Zx
 |.Constant (.int i) _ _=>some (.c i)
 |.BinOp (.Constant (.int i) _ _) .Pow (.Constant (.int j) _ _) _=>some (.pow i j)
 |_=>none
def Ew:List Expr->Option (List Zx)
 |[]=>some []
 |e::es=>(Qg e).bind fun o=>(Ew es).map (o::·)
def tZ:Zx->TE
 |.c i=>tC (.int i)
 |.pow i j=>im (rI Kk fun i j=>.int (i ^ j.toNat)) (tC (.int i)) (tC (.int j))
def VT:List Zx->TA
 |[]=>jn
 |o::os=>cP (tZ o) (VT os)
def vZ:Zx->V
 |.c i=>.int i
 |.pow i j=>.int (i ^ j.toNat)
def YX:Zx->Prop
 |.c _=>True
 |.pow i j=>Kk i j
section
variable {X:Cx} {e:Expr} {es:List Expr} {o:Zx}
theorem Qh(h:Qg e=some o):starEach (e::es) X.env=(false,eval e X.env)::starEach es X.env:=by
 unfold Qg at h;split at h;all_goals first|rfl|cases h
theorem VU(h:Qg e=some o):PE X e (tZ o):=by
 unfold Qg at h;split at h
 .cases h;exact av
 .cases h;exact bJ xH av av
 .cases h
theorem Ex:∀ {es:List Expr} {os:List Zx},Ew es=some os->PA X es (VT os)
 |[],os,h=>by cases h;exact ag
 |e::es,os,h=>by
  unfold Ew at h;obtain⟨o,h1,h2⟩:=Option.bind_eq_some_iff.mp h;obtain⟨XO,h3,rfl⟩:=wV.mp h2;exact aa (VU h1) (Ex h3) (Qh h1)
end
theorem z_k{o:Zx}{σ:St}{H:Hp}{Q:VK}(ok:YX o)(h:Q (vZ o) H):tZ o σ H Q:=by
 cases o with
 |c i=>exact h
 |pow i j=>exact⟨_,_,rfl,rfl,ok,h⟩
theorem LJ:∀ {os:List Zx} {σ:St} {H:Hp} {Q:List V->Hp->Prop},(∀o∈os,YX o)->Q (os.map vZ) H->VT os σ H Q
 |[],σ,H,Q,_,h=>h
 |o::os,σ,H,Q,ok,h=>z_k (ok o bK) (LJ (os:=os) (fun o ho=>ok o (bZ _ ho)) h)
abbrev BN:List Zx:=[.c 0,.c 0,.c 0,.c 0,.c 0,.c 1,.c 1,.c 2,.c 2,.c 7,.c 30,.pow 10 58]
abbrev SJ:Stmt:=.Pass ⟨0,0,0,0⟩
def LK(k:Nat):Stmt:=(bA v9).getD k SJ
def fT:Stmt->Expr
 |.For a _ _ _ _=>a
 |_=>.Name "x" ⟨0,0,0,0⟩
def fI:Stmt->Expr
 |.For _ a _ _ _=>a
 |_=>.Name "x" ⟨0,0,0,0⟩
def fB:Stmt->List Stmt
 |.For _ _ a _ _=>a
 |_=>[]
def SK(k:Nat):Stmt:=(fB (LK 3)).getD k SJ
def ixE:Stmt->List Expr
 |.Assign _ (.BinOp _ _ (.Subscript (.List es _) _ _) _) _=>es
 |_=>[]
def ixC:Stmt->Expr
 |.Assign _ (.BinOp _ _ (.Subscript _ c _) _) _=>c
 |_=>.Name "x" ⟨0,0,0,0⟩
theorem BO:∃es os q0 q1 q2 q3 q4 q5 q6,bA v9=[LK 0,LK 1,LK 2,.For (fT (LK 3)) (fI (LK 3)) [.Assign [.Name "_law_beat" q1] (.BinOp (.Name "_law_beat" q2) .Add (.Subscript (.List es q3) (ixC (SK 0)) q4) q5) q6,SK 1,SK 2] [] q0,LK 4]/\Ew es=some os/\os=BN:=
 ⟨ixE (SK 0),BN,_,_,_,_,_,_,_,rfl,by kernel_rfl,rfl⟩
abbrev iT:=Nat×Nat×Nat
abbrev Ho(r:iT):HO:=.tup [.int (r.1:Int),.int (r.2.1:Int),.int (r.2.2:Int)]
def f_(H:Hp)(l:Addr)(pl:List iT):Prop:=∃as:List Addr,H l=some (.lst (as.map V.ref))/\as.length=pl.length/\∀ (i:Nat) (r:iT),pl[i]?=some r->H (as.getD i 0)=some (Ho r)
structure nN(n:Nat)(pl:List iT):Prop where
 len:pl.length<=16
 hs:∀r∈pl,r.2.1<n/\r.2.2<n/\r.2.1≠r.2.2
 up:pl.Pairwise fun a b=>a.1<=b.1
theorem f_.same{H H':Hp}{l:Addr}{pl:List iT}(h:f_ H l pl)(s:aF H H'):f_ H' l pl:=let ⟨as,a,b,c⟩:=h;⟨as,s _ _ a,b,fun i r e=>s _ _ (c i r e)⟩
theorem LM{n s d:Nat}(hs:s<n)(hd:d<n-1):(s+1+d) % n≠s/\(s+1+d) % n<n:=by
 refine⟨?_,pR _ (by lia)⟩;by_cases c:s+1+d<n
 .rw[mB c];lia
 .rw[Nat.mod_eq_sub_mod (by lia),mB (by lia)];lia
section
variable {P:Program} {w:World} {K:PySem.W.Frag} {mg:Str->Option Value} {base:Heap}
theorem kZ:aE ["_law_pot_here","_law_many","_law_some","_law_beat","_law_plan_here","_law_k","_law_start"] ["_law_pot_here","_law_many"] (ap v9):=⟨rfl,rfl,rfl,by decide +kernel,rfl,by decide +kernel,by decide +kernel⟩
def yT:Sp:=fun vs H Q _=>∃ (p:Addr) (n:Nat),vs=[.ref p,.int n]/\2<=n/\n<=32/\bL H p/\∀ (l:Addr) (pl:List iT) (H':Hp),aL p H H'->bL H' p->H l=none->f_ H' l pl->nN n pl->Q (.ref l) H'
theorem Hq{f:Addr}{fd:FuncData}(F:fJ K "_law_plan" "_law_plan" v9 f fd)(B:Bl mg)(DR:cQ P w K mg base bf 1 "_law_draw" ["_law_pot_here","_law_many"] jy):bz P w K mg base bf 2 f fd ["_law_pot_here","_law_many"] yT:=by
 refine F.ok kZ (fun vs H Q E h=>?_) (fun dU A outer s H vs Q E hr h=>?_)
 .obtain⟨p,n,rfl,_⟩:=h;rfl
 .obtain⟨p,n,rfl,n1,n2,hp,q⟩:=h;have h1:b9 1 _:=hr;obtain⟨es,os,q0,q1,q2,q3,q4,q5,q6,eb,OR,LN⟩:=BO;rw[eb];refine'⟨_,(ah (df (i:=2) (g:=(a9 0)) (te:=(pX jy [] E0 (cP (aW 1) (cP (aW 2) jn)))) (NB:=["_law_k","_law_pot_here","_law_many"]) (src:=[none,some 0,some 1]) (bq (by kernel_rfl)) rfl (bP rfl B.range (aa (ba aR (cz (aa av (aa av (aa av (aa (pv 1) ag))))) (aB DR h1 aI (aa (pv 0) (aa av ag))) (fun _ _=>rfl)) ag)) ?g1 ?t1 ?e1 kZ.nd rfl rfl rfl)
   (ah (aS (i:=3) kZ.nd rfl (Or.inl rfl) av)
   (ah (aS (i:=4) kZ.nd rfl (Or.inl rfl) (cz ag))
   (ah (dA dR rfl (bP rfl B.range (aa (aB DR h1 aI (aa (pv 0) (aa (ba aR (cz (aa av (aa av (aa av (aa av ag))))) (aB DR h1 aI (aa (pv 0) (aa av ag))) (fun _ _=>rfl)) ag))) ag)) (aq (i:=5) kZ.nd rfl (Or.inl rfl))
    (ah (aS (i:=3) kZ.nd rfl (Or.inl rfl) (bJ eE (pv 3) (ba aR (cz (Ex OR)) (aB DR h1 aI (aa (pv 0) (aa av ag))) (fun _ _=>rfl))))
    (ah (aS (i:=6) kZ.nd rfl (Or.inl rfl) (ba aR (pv 2) (aB DR h1 aI (aa (pv 0) (aa (aA az (by rfl) B.len cB (aa (pv 2) ag)) ag))) (fun _ _=>rfl)))
    (ao (bu (iJ iB lf lc dv (pv 4) (aa (fX (aa (pv 3) (aa (pv 6) (aa (bJ jk (bJ eE (bJ eE (pv 6) av) (aB DR h1 aI (aa (pv 0) (aa (bJ mX (pv 1) av) ag)))) (pv 1)) ag)))) ag)))))))
   (ao (aX (pv 4))))))),?_⟩
  case g1=>exact fun cl C s₃ H₃ fp=>(aq (i:=0) kY rfl (Or.inl rfl) (Or.inr rfl))
  case t1=>exact fun cl C s₃ H₃ fp=>cK
  case e1=>exact fun cl C s₃ H₃ fp=>(aB DR h1 aI (aa (pv 1) (aa (pv 2) ag)))
  refine⟨_,rfl,by show 4<=sizeLine;decide,fun l0 KC=>?_⟩;have sl:=ai (o:=.lst [V.int 1,.int 2,.int 3,.int (n:Int)]) KC;refine⟨_,rfl,p,4,rfl,by decide,by decide,hp.same sl,fun d H1 hd s1 F6=>?_⟩;have gl:=s1 _ _ (af (H:=H) (a:=l0) (o:=.lst [V.int 1,.int 2,.int 3,.int (n:Int)])) (hp.ne KC);have VW:aL p H H1:=(aL.of sl).trans s1;obtain⟨c,hc,c0,c1⟩:∃c:Nat,qQ [V.int 1,.int 2,.int 3,.int (n:Int)] (d:Int)=some (.int (c:Int))/\0<c/\c<=32:=by
   match d,hd with
   |0,_=>exact⟨1,aw (j:=0) rfl,by decide,by decide⟩
   |1,_=>exact⟨2,aw (j:=1) rfl,by decide,by decide⟩
   |2,_=>exact⟨3,aw (j:=2) rfl,by decide,by decide⟩
   |3,_=>exact⟨n,aw (j:=3) rfl,by lia,n2⟩
  refine⟨l0,_,_,_,rfl,rfl,aM.of gl,hc,(c:Int),rfl,by lia,by lia,fun D hD=>?_⟩;clear gl hc;have nD:D≠p:=F6.ne hD;have SL:H D=none:=VW.free F6.full hD;rw[iZ];refine dL (fun i ys σ H2=>(∃x,σ=[x,some (.ref p),some (.int (n:Int))])/\aL p H1 H2/\bL H2 p/\H2 D=some (.lst ys)/\∃ss:List Nat,ys=NV ss/\ss.length=i/\∀s∈ss,s<n) ⟨⟨_,rfl⟩,aL.of (ai hD),F6.same (ai hD),af,[],rfl,rfl,fun s hs=>nomatch hs⟩ ?_ ?_
  .rintro i ys σ H2 Kt Kf hi ⟨⟨x,rfl⟩,s2,rT,gh,ss,rfl,sl,sb⟩ kt kf;refine⟨_,rfl,_,rfl,p,n,rfl,by lia,by lia,rT,fun e H3 he s3 Al=>?_⟩;refine kt _ _ _ (s3 _ _ gh nD) (by rw[bw,sl];exact bS (show i<33 by lia) (by decide)) ⟨⟨_,rfl⟩,fun b o e' n=>?_,Al.put nD.symm,af,ss++[e],ix,by rw[cV,sl];rfl,fun s hs=>?_⟩
   .rw[ak (aj e' hD)];exact s3 _ _ (s2 _ _ e' n) n
   .rcases cH.mp hs with z|z
    .exact sb s z
    .rw[cy.mp z];exact he
  rintro ys σ H2 ⟨_,s2,rT,gh,ss,rfl,sl,sb⟩;have Ft:=VW.trans s2;clear s1 s2 VW;refine⟨by show 0<=sizeLine;decide,fun R hR=>?_⟩;have sR:=ai (o:=.lst []) hR;have Lw:H R=none:=Ft.free rT.full hR;have Hb:R≠p:=rT.ne hR;have B7:D≠R:=aj gh hR;have gR:(upd H2 R (.lst [])) R=some (.lst (([]:List Addr).map V.ref)):=af;have gU:=sR _ _ gh;have Al:=rT.same sR;have LA:=Ft.trans (aL.of sR);generalize upd H2 R (.lst [])=H3 at *;refine⟨_,rfl,by show 4<=sizeLine;decide,fun l2 CW=>?_⟩;have G8:=ai (o:=.lst [V.int 8,.int 8,.int 8,.int 17]) CW;refine⟨_,rfl,p,4,rfl,by decide,by decide,Al.same G8,fun d2 H4 P7 s4 BI=>?_⟩;have YY:=s4 _ _ (af (H:=H3) (a:=l2) (o:=.lst [V.int 8,.int 8,.int 8,.int 17])) (Al.ne CW);obtain⟨m,hm,m0,m1⟩:∃m:Nat,qQ [V.int 8,.int 8,.int 8,.int 17] (d2:Int)=some (.int (m:Int))/\0<m/\m<=17:=by
   match d2,P7 with
   |0,_=>exact⟨8,aw (j:=0) rfl,by decide,by decide⟩
   |1,_=>exact⟨8,aw (j:=1) rfl,by decide,by decide⟩
   |2,_=>exact⟨8,aw (j:=2) rfl,by decide,by decide⟩
   |3,_=>exact⟨17,aw (j:=3) rfl,by decide,by decide⟩
  refine⟨l2,_,_,_,rfl,rfl,aM.of YY,hm,p,m,rfl,m0,by lia,BI,fun k H5 hk s5 Fv=>?_⟩;have so:=s5 _ _ (s4 _ _ (G8 _ _ gU) nD) nD;have Gu:=s5 _ _ (s4 _ _ (G8 _ _ gR) Hb) Hb;have s05:=((LA.trans (aL.of G8)).trans s4).trans s5;clear YY hm s4 s5 G8;refine⟨(k:Int),rfl,by lia,by lia,du (n:=k) (lo:=0) (fun i σ Hc=>∃ (as:List Addr) (pl:List iT) (bt:Nat),(∃x5 x6,σ=[some (.ref p),some (.int (n:Int)),some (.ref D),some (.int (bt:Int)),some (.ref R),x5,x6])/\aL p H Hc/\bL Hc p/\Hc D=some (.lst (NV ss))/\Hc R=some (.lst (as.map V.ref))/\as.length=i/\pl.length=i/\(∀ (i:Nat) (r:iT),pl[i]?=some r->Hc (as.getD i 0)=some (Ho r))/\(∀r∈pl,r.2.1<n/\r.2.2<n/\r.2.1≠r.2.2)/\pl.Pairwise (fun (a b:iT)=>a.1<=b.1)/\∀r∈pl,r.1<=bt)
   ⟨[],[],0,⟨_,_,rfl⟩,s05,Fv,so,Gu,rfl,rfl,(fun i r e=>by simp at e),(fun r hr=>by simp at hr),List.Pairwise.nil,(fun r hr=>by simp at hr)⟩ ?_ ?_⟩
  rotate_left
  .rintro σ Hc ⟨as,pl,bt,⟨x5,x6,rfl⟩,sc,oB,Qe,B9,al,Qi,at_,hs,up,le⟩;exact⟨_,rfl,q R pl Hc sc oB Lw ⟨as,B9,al.trans Qi.symm,at_⟩ ⟨by lia,hs,up⟩⟩
  rintro i σ Hc hi ⟨as,pl,bt,⟨x5,x6,rfl⟩,sc,oB,Qe,B9,al,Qi,at_,hs,up,le⟩;have e58:((10:Int) ^ Int.toNat 58)=(((10 ^ 58:Nat)):Int):=by decide +kernel
  refine⟨_,rfl,?_⟩;refine LJ (os:=os) (fun o ho=>?_) ⟨by rw[LN];show 12<=sizeLine;decide,fun l3 JA=>?_⟩
  .rw[LN] at ho;simp only[aV,eA,eB] at ho;rcases ho with rfl|rfl|rfl|rfl|rfl|rfl|rfl|rfl|rfl|rfl|rfl|rfl <;> first|trivial|exact⟨by decide,by decide,by decide⟩
  rw[LN];have LP:=ai (o:=.lst (BN.map vZ)) JA;refine⟨_,rfl,p,12,rfl,by decide,by decide,oB.same LP,fun d3 H6 hd3 s6 Bq=>?_⟩;have Qj:=s6 _ _ (af (H:=Hc) (a:=l3) (o:=.lst (BN.map vZ))) (oB.ne JA);obtain⟨z,hz⟩:∃z:Nat,qQ (BN.map vZ) (d3:Int)=some (.int (z:Int)):=by
   have key:∀j,j<12->∃z:Nat,(BN.map vZ)[j]?=some (.int (z:Int)):=fun j hj=>by
    by_cases c:j=11
    .subst c;exact⟨10 ^ 58,by show some (V.int (10 ^ Int.toNat 58))=_;rw[e58]⟩
    .match j,hj,c with
     |0,_,_=>exact⟨0,rfl⟩
     |1,_,_=>exact⟨0,rfl⟩
     |2,_,_=>exact⟨0,rfl⟩
     |3,_,_=>exact⟨0,rfl⟩
     |4,_,_=>exact⟨0,rfl⟩
     |5,_,_=>exact⟨1,rfl⟩
     |6,_,_=>exact⟨1,rfl⟩
     |7,_,_=>exact⟨2,rfl⟩
     |8,_,_=>exact⟨2,rfl⟩
     |9,_,_=>exact⟨7,rfl⟩
     |10,_,_=>exact⟨30,rfl⟩
     |j+11,hj,c=>exact absurd (by lia) c
   obtain⟨z,hz⟩:=key d3 hd3;exact⟨z,aw hz⟩
  refine⟨l3,_,_,_,rfl,rfl,aM.of Qj,hz,_,_,rfl,rfl,?_⟩;have Hk:aL p Hc H6:=(aL.of LP).trans s6;clear Qj hz s6 LP;show a9 3 (V.int ((bt:Int)+(z:Int))) _ _ _;rw[show (bt:Int)+(z:Int)=((bt+z:Nat):Int) by lia];have wJ:=Hk _ _ Qe nD;refine⟨_,rfl,_,rfl,_,rfl,D,_,rfl,.inl (aM.of wJ),p,ss.length,by rw[bw];rfl,by lia,by lia,Bq,fun d4 H7 VX s7 Eu=>⟨D,_,_,_,rfl,rfl,aM.of (s7 _ _ wJ nD),aw (yD VX),?_⟩⟩;have YZ:ss[d4]<n:=sb _ (fk _);generalize ss[d4]=st at *;have Y0:=s7 _ _ (Hk _ _ B9 Hb) Hb;refine⟨_,rfl,.inl ⟨rfl,_,aM.of Y0⟩,_,rfl,_,rfl,_,rfl,_,_,rfl,rfl,_,rfl,_,rfl,_,_,rfl,rfl,p,n-1,by show [V.ref p,V.int ((n:Int)-1)]=_;rw[show ((n:Int)-1)=((n-1:Nat):Int) by lia],by lia,by lia,Eu,fun d5 H8 VY s8 LD=>?_⟩;refine⟨_,_,rfl,rfl,_,rfl,_,_,rfl,rfl,(by show (0:Int)<(n:Int);lia),by show 3<=sizeLine;decide,fun t ht=>?_⟩;have em:((st:Int)+1+(d5:Int)) % (n:Int)=(((st+1+d5) % n:Nat):Int):=by lia
  have Y1:=s8 _ _ Y0 Hb;have VZ:=ai (o:=.tup [.int ((bt+z:Nat):Int),.int (st:Int),.int (((st:Int)+1+(d5:Int)) % (n:Int))]) ht;have gt:(upd H8 t (.tup [.int ((bt+z:Nat):Int),.int (st:Int),.int (((st:Int)+1+(d5:Int)) % (n:Int))])) t=some (Ho (bt+z,st,(st+1+d5) % n)):=by rw[af,em]
  have hR9:=VZ _ _ Y1;have Sz:=LD.same VZ;have nRt:R≠t:=aj Y1 ht;have V0:aL p Hc _:=((Hk.trans s7).trans s8).trans (aL.of VZ);have nDt:=V0 _ _ Qe nD;obtain⟨q1,q2⟩:=LM YZ VY;refine D_ ?_;change zn (V.ref R) [V.ref t] (upd H8 t (.tup [.int ((bt+z:Nat):Int),.int (st:Int),.int (((st:Int)+1+(d5:Int)) % (n:Int))])) _;generalize upd H8 t _=H9 at *;generalize (st+1+d5) % n=hm at *;refine⟨R,_,_,rfl,rfl,hR9,by rw[aJ,al];exact bS (show i<33 by lia) (by decide),as++[t],pl++[(bt+z,st,hm)],bt+z,⟨_,_,rfl⟩,fun b o e n'=>?_,Sz.put Hb.symm,by rw[ak B7];exact nDt,by rw[af,bW];rfl,by rw[cV,al];rfl,by rw[cV,Qi];rfl,fun j r e=>?_,fun r hr=>?_,?_,fun r hr=>?_⟩
  .rw[ak (aj e Lw)];exact V0 _ _ (sc _ _ e n') n'
  .by_cases cj:j<i
   .rw[fP (by lia)] at e;have e2:=at_ j r e;rw[aT,fP (by lia),<-aT,ak (by rintro z;rw[z,B9] at e2;cases e2)];exact V0 _ _ e2 (oB.neT e2)
   .have hj:j<i+1:=by have:=(dw.mp e).1;rw[cV,Qi] at this;exact this
    obtain rfl:j=i:=by lia
    rw[k8 (by lia),Qi,pK] at e;cases e;rw[aT,k8 (by lia),al,pK];show (upd H9 R _) t=_;rw[ak nRt.symm];exact gt
  .rcases cH.mp hr with z|z
   .exact hs r z
   .rw[cy.mp z];exact⟨YZ,q2,fun e=>q1 e.symm⟩
  .refine List.pairwise_append.mpr ⟨up,List.pairwise_singleton _ _,fun a ha b hb=>?_⟩;rw[cy.mp hb];have:=le a ha;show a.1<=bt+z;lia
  .rcases cH.mp hr with z'|z'
   .have:=le r z';lia
   .rw[cy.mp z'];exact aY _
end
def oV:Option Nat->V
 |none=>.bE
 |some y=>.int (y:Nat)
theorem Ey{y:Nat}:∀ {st:List (Option Nat)},(st.map oV).countP (fun z=>m6 z (.int (y:Int)))=st.count (some y)
 |[]=>rfl
 |o::st=>by
  rw[dS,mD,Ey,xt];cases o with
  |none=>rfl
  |some x=>
   congr 1;show (if decide ((x:Int)=(y:Int))=true then 1 else 0)=_;by_cases h:x=y
   .subst h;simp
   .rw[am (by simp;lia),am (by simp[h])]
theorem qC:∀ {st:List (Option Nat)},(st.map oV).all d_=true
 |[]=>rfl
 |none::st=>qC (st:=st)
 |some _::st=>qC (st:=st)
abbrev V1:Stmt:=top 13
abbrev Ez:Stmt:=gn (top 16) 1
abbrev V2:Stmt:=top 22
abbrev V3:Stmt:=top 21
abbrev EA:Stmt:=top 19
theorem iM:(["letter","house"]:List Str).Nodup:=by decide +kernel
theorem gb:(["ahead","goes","stand","letter"]:List Str).Nodup:=by decide +kernel
theorem Hr:(["home"]:List Str).Nodup:=by decide +kernel
noncomputable def qD(n:Nat)(ts:Ts)(i j:Nat):List Nat:=(di n ts i).filter fun o=>decide (far ts o j<far ts i j)
theorem nbG:(["other","self","home","own"]:List Str).Nodup:=by decide +kernel
def jM(st:List (Option Nat))(i:Nat):List Nat:=(List.range i).filter fun j=>(st.getD j none).isSome
theorem l6{st:List (Option Nat)}{i:Nat}:jM st (i+1)=jM st i++if (st.getD i none).isSome then [i] else []:=by
 unfold jM;rw[fm,eR,dB];rfl
theorem Am{st:List (Option Nat)}{i:Nat}:(jM st i).length<=i:=bj (gX _ _) (by rw[d9];exact aY _)
def EB:R2:=fun x y H Q=>y=.bE/\Q (.bl (!decide (x=.bE))) H
theorem EC{st:List (Option Nat)}{i:Nat}{x:V}(h:(st.map oV)[i]?=some x):i<st.length/\x=oV (st.getD i none):=by
 have hi:=(dw.mp h).1;rw[aJ] at hi;refine⟨hi,?_⟩;rw[cw,bh hi] at h;rw[aT,bh hi];exact(be h).symm
theorem uJ{o:Option Nat}:(!decide (oV o=.bE))=o.isSome:=by cases o <;> simp[oV]
theorem jN{st:List (Option Nat)}{i j:Nat}(h:j∈jM st i):j<i/\st.getD j none=some ((st.getD j none).getD 0):=by
 obtain⟨a,b⟩:=dQ.mp h;refine⟨cq.mp a,?_⟩;cases e:st.getD j none with
 |none=>rw[e] at b;cases b
 |some y=>rfl
def BP(st gs:List (Option Nat))(l:Nat)(os:List Nat):Option Nat:=os.find? fun h=>!((List.range st.length).any fun a=>decide (st.getD a none=st.getD l none)&&decide (gs.getD a none=some h))
noncomputable def q_(n:Nat)(ts:Ts)(homes:List Nat)(st gs:List (Option Nat))(l:Nat):List (Option Nat):=gs.set l (BP st gs l (qD n ts ((st.getD l none).getD 0) (homes.getD l 0)++di n ts ((st.getD l none).getD 0)))
noncomputable def fu(n:Nat)(ts:Ts)(homes:List Nat)(st:List (Option Nat)):List (Option Nat):=(jM st st.length).foldl (q_ n ts homes st) (List.replicate st.length none)
theorem l7{st:List (Option Nat)}{i:Nat}(h:i<st.length):(st.map oV)[i]?=some (oV (st.getD i none)):=by
 rw[cw,aT,bh h];rfl
theorem JD{a b:Option Nat}:decide (oV a=oV b)=decide (a=b):=by
 cases a <;> cases b <;> simp[oV];exact⟨fun h=>eV h,fun h=>by rw[h]⟩
theorem An{a b:Option Nat}:FI (oV a) (oV b)=true:=by cases a <;> cases b <;> rfl
theorem JE{h:Nat}:∀ {xs:List (Option Nat)},B3 (.int (h:Int)) (xs.map oV)=xs.any fun o=>decide (o=some h)
 |[]=>rfl
 |o::xs=>by
  have ih:=JE (h:=h) (xs:=xs);unfold B3 at *;rw[dS,iH,iH,ih];cases o with
  |none=>rfl
  |some x=>
   congr 1;show decide ((x:Int)=(h:Int))=_;by_cases e:x=h
   .subst e;simp
   .rw[cM (by lia),cM (by simp[e])]
theorem cL.own{C:Addr}{H:Hp}{L:Addr->Prop}{p:Addr}{n:Nat}{ts:Ts}(N:cL C H L p n ts):cL C H (fun b=>H b≠none) p n ts:=by
 obtain⟨dx,tl,ol,ds,a,l1,l2,b,c,d⟩:=N.ob;have ne:∀ {b o},H b=some o->H b≠none:=fun e z=>by rw[e] at z;cases z
 have qR:∀ {l r},f9 H L l n r->f9 H (fun b=>H b≠none) l n r/\H l≠none:=fun ⟨bs,a,b,c⟩=>⟨⟨bs,a,fun x hx=>by
  obtain⟨j,hj,e⟩:=mr hx;have:=c.2 j (by rw[<-c.1];exact hj);rw[aT,bh hj,pD,e] at this;exact ne this,c⟩,ne a⟩
 obtain⟨t1,zs,t2,t3,t4,t5⟩:=d;exact⟨N.iR,dx,tl,ol,ds,a,(qR b).2,(qR c).2,(qR b).1,(qR c).1,ne t2,zs,t2,t3,fun z hz=>ne (t3 z hz),t5⟩
section
variable {P:Program} {w:World} {K:PySem.W.Frag} {mg:Str->Option Value} {base:Heap}
theorem ED:aE ["self","house","home","own"] ["self","house","home"] (ap DV):=⟨rfl,rfl,rfl,by decide +kernel,rfl,by decide +kernel,by decide +kernel⟩
def uK(C:Addr):Sp:=fun vs H Q _=>∃ (L:Addr->Prop) (p:Addr) (n:Nat) (ts:Ts) (i j:Nat),vs=[.ref p,.int i,.int j]/\cL C H L p n ts/\i<n/\j<n/\∀r H',aF H H'->H r=none->H' r=some (.lst (NV (qD n ts i j)))->Q (.ref r) H'
theorem EE{f C:Addr}{fd:FuncData}(F:fJ K "good" "Net.good" DV f fd)(T:NT K mg C)(M:kU P w K mg base bf 5 C "far" ["self","one","other"] (yE C)):
  bz P w K mg base bf 6 f fd ["self","house","home"] (uK C):=by
 obtain⟨fM,U5,mM,bM,GM⟩:=M.ex;refine F.ok ED (fun vs H Q E h=>?_) (fun dU A outer s H vs Q E hr h=>?_)
 .obtain⟨L,p,n,ts,i,j,rfl,_⟩:=h;rfl
 .obtain⟨L,p,n,ts,i,j,rfl,N,hi,hj,k2⟩:=h;obtain⟨dx,tl,ol,ds,h1,_,_,RO,R,_⟩:=N.ob;have fi:=N.iR;have n2:=fi.n2;refine'⟨_,ah (aS (i:=3) ED.nd rfl (Or.inr rfl) (fF (pv 0) T.cl mM GM hr bM .nil aI (aa (pv 1) (aa (pv 2) ag))))
   (ao (aX ?c)),?_⟩
  case c=>
   refine' bU (g:=a9 0) (tt:=fD (im (BZ fun i j=>.bl (decide (i<j))) (im (xU K) (im (xU K) (Ko K (aW 1) "distances") (aW 0)) (aW 2)) (aW 3))) (te:=aW 0) (NB:=["other","self","home","own"]) (src:=[none,some 0,some 2,some 3]) (bq (by kernel_rfl)) rfl (bF (ba aR (jm (pv 0) rfl) (pv 1) (fun _ _=>rfl))) ?g ?t ?e;case g=>exact fun cl C s₃ H₃ fp=>aq (i:=0) nbG rfl (Or.inl rfl) (Or.inr rfl)
   case t=>exact fun cl C s₃ H₃ fp=>dD (aK n0 (ba aR (ba aR (jm (pv 1) rfl) (pv 0) (fun _ _=>rfl)) (pv 2) (fun _ _=>rfl)) (pv 3) (aU _))
   case e=>exact fun cl C s₃ H₃ fp=>pv 0
  refine⟨_,rfl,p,dx,_,rfl,h1,U4 _ _ _ _,_,rfl,_,rfl,L,p,n,ts,i,j,rfl,N,hi,hj,?_⟩;obtain⟨bs,b,r1,r2,r3,_⟩:=RO.row hi;refine⟨_,rfl,p,C,dx,_,_,rfl,h1,T.cl,T.nO,Ae _ _ _ _,_,rfl,ol,_,_,_,rfl,rfl,aM.of r1,aw r2,b,rfl,⟨_,aM.of r3⟩,fun D hD=>?_⟩;have nb:b≠D:=aj r3 hD;refine cD (xs:=NV (di n ts i)) (fun m ys σ H2=>(∃a,σ=[a,some (.ref p),some (.int (j:Int)),some (.int ((far ts i j:Nat):Int))])/\ys=NV (((di n ts i).take m).filter fun o=>decide (far ts o j<far ts i j))/\H2=upd H D (.lst ys)) ⟨⟨_,rfl⟩,by simp,rfl⟩ (fun m ys σ H2 _ ⟨_,_,e⟩=>by rw[e];exact aM.of (by rw[ak nb];exact r3)) ?_ ?_
  .rintro m x ys σ H2 Kt Kf hx ⟨⟨a,rfl⟩,ey,rfl⟩ kt kf;obtain⟨v,hv,rfl⟩:=v4 hx;have Sl:v∈di n ts i:=cU hv;have Jt:v<n:=oQ fi hi Sl;have sm:aF H (upd H D (.lst ys)):=ai hD;obtain⟨Y2,b2,q1,q2,q3,_⟩:=R.row Jt;have hg:(NV ((List.range n).map (far ts v)))[j]?=some (.int (far ts v j:Nat)):=by
    rw[cw,cw,ka hj];rfl
   have tk:(di n ts i).take (m+1)=(di n ts i).take m++[v]:=by rw[gk,hv];rfl
   have hm:m<(di n ts i).length:=(dw.mp hv).1;refine⟨_,rfl,p,C,dx,_,_,rfl,sm _ _ h1,T.cl,T.nD,Af _ _ _ _,_,rfl,ds,_,_,_,rfl,rfl,aM.of (sm _ _ q1),aw q2,_,rfl,b2,_,_,_,rfl,rfl,aM.of (sm _ _ q3),aw hg,_,rfl,_,_,rfl,rfl,_,rfl,?_⟩;refine gK (fun e=>?_) (fun e=>?_)
   .refine⟨_,rfl,kt _ _ _ af ?_ ⟨⟨_,rfl⟩,?_,by rw[jE]⟩⟩
    .rw[ey,bw];refine dX (gX _ _) (dX (j_ _ _) (bS (show m<33 from ?_) (by decide)));have:(di n ts i).length<=n:=bj (gX _ _) (by simp);lia
    .have:decide (far ts v j<far ts i j)=true:=by simp at e |-;lia
     rw[ey,tk,eR,ix];simp[dB,this]
   .refine kf _ _ ⟨⟨_,rfl⟩,?_,rfl⟩;have:decide (far ts v j<far ts i j)=false:=by simp at e |-;lia
    rw[ey,tk,eR];simp[dB,this]
  .rintro ys σ H2 ⟨_,ey,rfl⟩;rw[bw,iW] at ey;refine k2 D _ (ai hD) hD ?_;rw[af,ey];rfl
theorem V4:aE ["stand"] ["stand"] (ap V1):=⟨rfl,rfl,rfl,by decide +kernel,rfl,by decide +kernel,by decide +kernel⟩
def Hs:Sp:=fun vs H Q _=>∃ (sa:Addr) (st:List (Option Nat)),vs=[.ref sa]/\H sa=some (.tup (st.map oV))/\st.length<=16/\∀ (r:Addr) (H':Hp),aF H H'->H' r=some (.lst (NV (jM st st.length)))->Q (.ref r) H'
theorem Qk{f:Addr}{fd:FuncData}(F:fJ K "under_way" "under_way" V1 f fd)(hE:mg "enumerate"=none):bz P w K mg base bf 1 f fd ["stand"] Hs:=by
 refine F.ok V4 (fun vs H Q E h=>?_) (fun dU A outer s H vs Q E hr h=>?_)
 .obtain⟨sa,st,rfl,_⟩:=h;rfl
 .obtain⟨sa,st,rfl,hS,hl,q⟩:=h;refine'⟨_,(ao (aX ?c1)),?_⟩;case c1=>
   refine' bU (g:=(oq K 2 (dC (a9 0) (dC (a9 1) oo)))) (tt:=(fD (im EB (aW 1) (tC .bE)))) (te:=(aW 0)) (NB:=["letter","house"]) (src:=[none,none]) (bq (by kernel_rfl)) rfl (vF rfl hE (aa (pv 0) ag)) ?g ?t ?e;case g=>exact fun cl C s₃ H₃ fp=>(dY (n:=2) rfl (aO (aq (i:=0) iM rfl (Or.inl rfl) (Or.inr rfl)) (aO (aq (i:=1) iM rfl (Or.inl rfl) (Or.inr rfl)) c_)))
   case t=>exact fun cl C s₃ H₃ fp=>dD (aK tP (pv 1) dI (aU _))
   case e=>exact fun cl C s₃ H₃ fp=>(pv 0)
  refine⟨_,rfl,sa,_,rfl,bV.of hS,fun D hD=>?_⟩;refine qh (K:=K) (a:=sa) (xs:=st.map oV) (fun i ys σ H3=>(∃u v,σ=[u,v])/\ys=NV (jM st i)/\aF H H3/\H3 D=some (.lst ys)) ⟨⟨_,_,rfl⟩,rfl,ai hD,af⟩ (fun i ys σ H3 _ z=>bV.of (z.2.2.1 _ _ hS)) ?_ ?_
  .rintro i x t ys σ H3 Kt Kf hx ⟨⟨u,v,rfl⟩,rfl,sm,gU⟩ ht kt kf;obtain⟨hi,rfl⟩:=EC hx;have aZ:=ai (o:=.tup [.int (i:Int),oV (st.getD i none)]) ht;refine⟨_,_,rfl,bV.of af,rfl,_,_,rfl,_,_,rfl,rfl,?_⟩;refine⟨_,rfl,rfl,_,rfl,?_⟩;rw[uJ];refine gK (fun e=>?_) (fun e=>?_)
   .refine⟨_,rfl,kt _ _ _ (aZ _ _ gU) (by rw[bw];exact dX Am (bS (show i<17 by lia) (by decide))) ⟨⟨_,_,rfl⟩,?_,a_ (sm.trans aZ) hD,af⟩⟩;rw[l6,if_pos e,ix]
   .refine kf _ _ ⟨⟨_,_,rfl⟩,?_,sm.trans aZ,aZ _ _ gU⟩;rw[l6,am e,jV]
  .rintro ys σ H3 ⟨_,rfl,sm,gU⟩;rw[aJ] at gU;exact q D H3 sm gU
theorem LQ:aE ["self","net","homes","stand","beat"] ["self","net","homes","stand","beat"] (ap Ez):=⟨rfl,rfl,rfl,by decide +kernel,rfl,by decide +kernel,by decide +kernel⟩
def EF:Sp:=fun vs H Q _=>∃ (x0 x1 x2 x4:V) (sa:Addr) (st:List (Option Nat)),vs=[x0,x1,x2,.ref sa,x4]/\H sa=some (.tup (st.map oV))/\st.length<=16/\∀ (r:Addr) (H':Hp),aF H H'->H' r=some (.lst (NV (jM st st.length)))->Q (.ref r) H'
theorem Ht{f:Addr}{fd:FuncData}(F:fJ K "order" "Rule.order" Ez f fd)(UW:cQ P w K mg base bf 1 "under_way" ["stand"] Hs):bz P w K mg base bf 2 f fd ["self","net","homes","stand","beat"] EF:=by
 refine F.ok LQ (fun vs H Q E h=>?_) (fun dU A outer s H vs Q E hr h=>?_)
 .obtain⟨x0,x1,x2,x4,sa,st,rfl,_⟩:=h;rfl
 .obtain⟨x0,x1,x2,x4,sa,st,rfl,hS,hl,q⟩:=h;refine⟨_,(ao (aX (aB UW hr aI (aa (pv 3) ag)))),?_⟩;exact⟨_,rfl,sa,st,rfl,hS,hl,q⟩
theorem LU:aE ["others","stand","goes","letter","taken","house"] ["others","stand","goes","letter"] (ap V2):=⟨rfl,rfl,rfl,by decide +kernel,rfl,by decide +kernel,by decide +kernel⟩
def LV:Sp:=fun vs H Q _=>∃ (oa sa ga:Addr) (os:List Nat) (st gs:List (Option Nat)) (l:Nat),vs=[.ref oa,.ref sa,.ref ga,.int l]/\H oa=some (.lst (NV os))/\H sa=some (.tup (st.map oV))/\H ga=some (.lst (gs.map oV))/\gs.length=st.length/\st.length<=16/\l<st.length/\∀H',aF H H'->Q (oV (BP st gs l os)) H'
theorem Ql{f:Addr}{fd:FuncData}(F:fJ K "first_free" "first_free" V2 f fd)(B:Bl mg):bz P w K mg base bf 1 f fd ["others","stand","goes","letter"] LV:=by
 refine F.ok LU (fun vs H Q E h=>?_) (fun dU A outer s H vs Q E hr h=>?_)
 .obtain⟨oa,sa,ga,os,st,gs,l,rfl,_⟩:=h;rfl
 .obtain⟨oa,sa,ga,os,st,gs,l,rfl,hO,hS,hG,gl,sl,hl,q⟩:=h;refine'⟨_,(ah (df (i:=4) (g:=(a9 0)) (tt:=(fD (im (IS) (im (xV K) (aW 2) (aW 0)) (im (xV K) (aW 2) (aW 3))))) (te:=(im (xU K) (aW 1) (aW 0))) (NB:=["ahead","goes","stand","letter"]) (src:=[none,some 2,some 1,some 3]) (bq (by kernel_rfl)) rfl (bP rfl B.range (aa (aA az (by rfl) B.len cB (aa (pv 1) ag)) ag)) ?g1 ?t1 ?e1 LU.nd rfl rfl rfl)
   (ah (dA dR rfl (bF (pv 0)) (aq (i:=5) LU.nd rfl (Or.inl rfl))
    (ao (cr (aK lH (pv 5) (pv 4) rfl) (ao (aX (pv 5))) bg)))
   (ao (aX dI)))),?_⟩
  case g1=>exact fun cl C s₃ H₃ fp=>(aq (i:=0) gb rfl (Or.inl rfl) (Or.inr rfl))
  case t1=>exact fun cl C s₃ H₃ fp=>dD (aK jl (ba e_ (pv 2) (pv 0) (fun _ _=>rfl)) (ba e_ (pv 2) (pv 3) (fun _ _=>rfl)) (aU _))
  case e1=>exact fun cl C s₃ H₃ fp=>(ba aR (pv 1) (pv 0) (fun _ _=>rfl))
  refine⟨_,rfl,sa,_,rfl,.inr (bV.of hS),(((st.map oV).length:Nat):Int),rfl,by lia,by rw[aJ];lia,fun D hD=>?_⟩;rw[iZ,aJ];refine dL (fun i ys σ H2=>(∃x,σ=[x,some (.ref ga),some (.ref sa),some (.int (l:Int))])/\aF H H2/\H2 D=some (.lst ys)/\ys=(((List.range i).filter fun a=>decide (st.getD a none=st.getD l none)).map fun a=>gs.getD a none).map oV) ⟨⟨_,rfl⟩,ai hD,af,rfl⟩ ?_ ?_
  .rintro i ys σ H2 Kt Kf hi ⟨⟨x,rfl⟩,sm,gh,rfl⟩ kt kf;rw[g7];refine⟨_,rfl,_,rfl,sa,_,_,_,rfl,rfl,bV.of (sm _ _ hS),aw (l7 hi),_,rfl,_,rfl,sa,_,_,_,rfl,rfl,bV.of (sm _ _ hS),aw (l7 hl),An,_,rfl,?_⟩;rw[JD];refine gK (fun c=>?_) (fun c=>?_)
   .refine⟨_,rfl,_,rfl,ga,_,_,_,rfl,rfl,aM.of (sm _ _ hG),aw (l7 (by lia)),?_⟩;refine kt _ _ _ gh ?_ ⟨⟨_,rfl⟩,a_ sm hD,af,?_⟩
    .rw[aJ,aJ];refine dX (gX _ _) ?_;rw[d9];exact bS (show i<17 by lia) (by decide)
    .rw[fm,eR,bW,bW,dB,if_pos c];rfl
   .refine kf _ _ ⟨⟨_,rfl⟩,sm,gh,?_⟩;rw[fm,eR,dB,am c,List.filter_nil,jV]
  rintro ys σ H2 ⟨_,sm,gh,rfl⟩;have ein:∀h:Nat,B3 (.int (h:Int)) ((((List.range st.length).filter fun a=>decide (st.getD a none=st.getD l none)).map fun a=>gs.getD a none).map oV)=(List.range st.length).any fun a=>decide (st.getD a none=st.getD l none)&&decide (gs.getD a none=some h):=fun h=>by
   rw[JE,List.any_map,List.any_filter];rfl
  generalize hw:(((List.range st.length).filter fun a=>decide (st.getD a none=st.getD l none)).map fun a=>gs.getD a none)=ws at *;refine⟨_,rfl,oa,rfl,⟨_,aM.of (sm _ _ hO)⟩,fW (K:=K) (xs:=NV os) (fun j σ H3=>(∃x,σ=[some (.ref oa),some (.ref sa),some (.ref ga),some (.int (l:Int)),some (.ref D),x])/\H3=H2/\BP st gs l os=BP st gs l (os.drop j)) ⟨⟨_,rfl⟩,rfl,rfl⟩ (fun j σ H3 _ z=>by rw[z.2.1];exact aM.of (sm _ _ hO)) ?_ ?_⟩
  .rintro j x σ H3 hx ⟨⟨x5,rfl⟩,rfl,ef⟩;obtain⟨h,hv,rfl⟩:=v4 hx;have hj:j<os.length:=(dw.mp hv).1;have ed:os.drop j=h::os.drop (j+1):=by
    rw[rh hj];congr 1;exact(dw.mp hv).2
   refine⟨_,rfl,_,rfl,D,_,rfl,.inl (aM.of gh),rfl,qC,_,rfl,?_⟩;have ef2:BP st gs l (h::os.drop (j+1))=if (!B3 (.int (h:Int)) (ws.map oV))=true then some h else BP st gs l (os.drop (j+1)):=by
    rw[ein];unfold BP;rw[i_];cases (!((List.range st.length).any fun a=>decide (st.getD a none=st.getD l none)&&decide (gs.getD a none=some h))) <;> rfl
   rw[ed,ef2] at ef;refine gK (fun c=>?_) (fun c=>?_)
   .have c:(!B3 (.int (h:Int)) (ws.map oV))=true:=c;rw[if_pos c] at ef;refine⟨_,rfl,?_⟩;have:=q H3 sm;rw[ef] at this;exact this
   .have c:¬ (!B3 (.int (h:Int)) (ws.map oV))=true:=c;rw[am c] at ef;exact⟨⟨_,rfl⟩,rfl,ef⟩
  .rintro σ H3 ⟨⟨x5,rfl⟩,rfl,ef⟩;have:=q H3 sm;rw[ef,bw,List.drop_length] at this;exact this
end
abbrev sHE:Stmt:=top 20
structure Hu(K:PySem.W.Frag)(mg:Str->Option Value)(CI:Addr):Prop where
 cl:B0 K CI
 new:YB K CI
 PM:mg "InTurn"=some (.ref CI)
 ha:PySem.W.findIn K (.ref CI) "__class__"=some (some (.builtin "object.__class__"))
 hn:PySem.W.specialIn K (.builtin "object.__class__") "__get__"=some (some (.builtin "getset_descriptor.__get__"))
 Ot:PySem.W.takesIn K (.builtin "object.__class__")=some true
 hm:PySem.W.mroIn K CI (.type "object")=some true
structure v_(n:Nat)(homes:List Nat)(st:List (Option Nat)):Prop where
 le:st.length<=16
 len:homes.length=st.length
 hs:∀x∈homes,x<n
 ss:∀y,some y∈st->y<n
theorem v_.at{n:Nat}{homes:List Nat}{st:List (Option Nat)}(S:v_ n homes st){l:Nat}(h:l∈jM st st.length):l<st.length/\∃y,st.getD l none=some y/\y<n/\homes.getD l 0<n:=by
 obtain⟨a,b⟩:=jN h;refine⟨a,_,b,S.ss _ ?_,S.hs _ ?_⟩
 .rw[<-b,aT,bh a];exact fk _
 .rw[fL (by rw[S.len];exact a)];exact fk _
theorem Qm(n:Int)(tl ol ds:Addr):(lV n tl ol ds).lookup ("good":Str)=none:=lW n tl ol ds (by decide +kernel) (by decide +kernel) (by decide +kernel) (by decide +kernel)
theorem V5(n:Int)(tl ol ds:Addr):(lV n tl ol ds).lookup ("out":Str)=none:=lW n tl ol ds (by decide +kernel) (by decide +kernel) (by decide +kernel) (by decide +kernel)
theorem o5{n:Nat}{ts:Ts}{homes:List Nat}{st:List (Option Nat)}:∀ {ls:List Nat} {gs:List (Option Nat)},(ls.foldl (q_ n ts homes st) gs).length=gs.length
 |[],gs=>rfl
 |l::ls,gs=>by rw[iX,o5];unfold q_;rw[kj]
theorem Ao{n:Nat}{ts:Ts}{h:Nat}:(di n ts h).length<=n:=bj (gX _ _) (by simp)
theorem cL.Hv{C:Addr}{H:Hp}{L:Addr->Prop}{p:Addr}{n:Nat}{ts:Ts}(N:cL C H L p n ts):∃dx fs,H p=some (.ins C dx fs)/\fs.lookup ("good":Str)=none/\fs.lookup ("out":Str)=none:=by
 obtain⟨dx,tl,ol,ds,a,_⟩:=N.ob;exact⟨dx,_,a,Qm _ _ _ _,V5 _ _ _ _⟩
section
variable {P:Program} {w:World} {K:PySem.W.Frag} {mg:Str->Option Value} {base:Heap}
theorem LW:aE ["net","homes","stand","letters","goes","letter","house"] ["net","homes","stand","letters","goes"] (ap V3):=⟨rfl,rfl,rfl,by decide +kernel,rfl,by decide +kernel,by decide +kernel⟩
def LX(C:Addr):Sp:=fun vs H Q _=>∃ (L:Addr->Prop) (px ha sa la ga:Addr) (n:Nat) (ts:Ts) (homes:List Nat) (st gs:List (Option Nat)),vs=[.ref px,.ref ha,.ref sa,.ref la,.ref ga]/\cL C H L px n ts/\¬ L ga/\H ha=some (.tup (NV homes))/\H sa=some (.tup (st.map oV))/\v_ n homes st/\H la=some (.lst (NV (jM st st.length)))/\la≠ga/\H ga=some (.lst (gs.map oV))/\gs.length=st.length/\
 ∀H',aL ga H H'->H' ga=some (.lst (((jM st st.length).foldl (q_ n ts homes st) gs).map oV))->Q .bE H'
theorem Qn{f C:Addr}{fd:FuncData}(F:fJ K "hand_in_turn" "hand_in_turn" V3 f fd)(T:NT K mg C)(MG:kU P w K mg base bf 6 C "good" ["self","house","home"] (uK C))(MO:kU P w K mg base bf 5 C "out" ["self","house"] (uu C))(FF:cQ P w K mg base bf 1 "first_free" ["others","stand","goes","letter"] LV):
  bz P w K mg base bf 7 f fd ["net","homes","stand","letters","goes"] (LX C):=by
 obtain⟨fG,fdG,mG,bG,GG⟩:=MG.ex;obtain⟨fO,fdO,mO,bO,GO⟩:=MO.ex;refine F.ok LW (fun vs H Q E h=>?_) (fun dU A outer s H vs Q E hr h=>?_)
 .obtain⟨L,px,ha,sa,la,ga,n,ts,homes,st,gs,rfl,_⟩:=h;rfl
 .obtain⟨L,px,ha,sa,la,ga,n,ts,homes,st,gs,rfl,N,nLg,hH,hS,LO,hL,nlg,hG,gl,q⟩:=h;have h1:b9 1 _:=hr.mono (by decide);have h5:b9 5 _:=hr.mono (by decide);refine⟨_,(ao (dA dR rfl (bF (pv 3)) (aq (i:=5) LW.nd rfl (Or.inl rfl))
    (ah (aS (i:=6) LW.nd rfl (Or.inl rfl) (ba e_ (pv 2) (pv 5) (fun _ _=>rfl)))
    (ao (ik (aB FF h1 aI (aa (bJ C0 (fF (pv 0) T.cl mG GG hr bG .nil aI (aa (pv 6) (aa (ba e_ (pv 1) (pv 5) (fun _ _=>rfl)) ag))) (fF (pv 0) T.cl mO GO h5 bO .nil aI (aa (pv 6) ag))) (aa (pv 2) (aa (pv 4) (aa (pv 5) ag))))) (mW (pv 4) (pv 5) g9)))))),?_⟩
  have n2:=N.iR.n2;have npg:px≠ga:=by obtain⟨dx,fs,a,_⟩:=N.Hv;rintro rfl;rw[a] at hG;cases hG
  have nhg:ha≠ga:=by rintro rfl;rw[hH] at hG;cases hG
  have nsg:sa≠ga:=by rintro rfl;rw[hS] at hG;cases hG
  refine⟨_,rfl,la,rfl,⟨_,aM.of hL⟩,fW (K:=K) (xs:=NV (jM st st.length)) (fun j σ Hc=>(∃x y,σ=[some (.ref px),some (.ref ha),some (.ref sa),some (.ref la),some (.ref ga),x,y])/\aL ga H Hc/\Hc ga=some (.lst ((((jM st st.length).take j).foldl (q_ n ts homes st) gs).map oV))) ⟨⟨_,_,rfl⟩,aL.refl,hG⟩ (fun j σ Hc _ z=>aM.of (z.2.1 _ _ hL nlg)) ?_ ?_⟩
  .rintro j x σ Hc hx ⟨⟨x5,x6,rfl⟩,sc,Qo⟩;obtain⟨l,hv,rfl⟩:=v4 hx;obtain⟨hl,y,ey,hy,hhm⟩:=LO.at (cU hv);have tk:(jM st st.length).take (j+1)=(jM st st.length).take j++[l]:=by rw[gk,hv];rfl
   rw[tk,iD,iX,List.foldl_nil];have Y3:(((jM st st.length).take j).foldl (q_ n ts homes st) gs).length=st.length:=by rw[o5,gl]
   generalize ((jM st st.length).take j).foldl (q_ n ts homes st) gs=g at *;have Nc:=N.keep (fun b o l e=>sc b o e (by rintro rfl;exact nLg l)) (fun o e=>sc _ _ e npg);have SN:=sc _ _ hH nhg;have Ap:=sc _ _ hS nsg;obtain⟨dx,fs,i1,i2,i3⟩:=Nc.Hv;refine⟨_,rfl,_,rfl,sa,_,_,_,rfl,rfl,bV.of Ap,aw (l7 hl),?_⟩;rw[ey];refine⟨_,rfl,px,dx,fs,rfl,i1,i2,_,rfl,_,rfl,_,rfl,ha,_,_,_,rfl,rfl,bV.of SN,aw (sn (by rw[LO.len];exact hl)),L,px,n,ts,y,homes.getD l 0,rfl,Nc,hy,hhm,fun r1 H1 s1 NG g1=>?_⟩;refine⟨_,rfl,px,dx,fs,rfl,s1 _ _ i1,i3,_,rfl,L,px,n,ts,y,rfl,Nc.same s1,hy,fun r2 H2 s2 Y4 g2=>?_⟩;have lg:(qD n ts y (homes.getD l 0)).length<=n:=bj (gX _ _) Ao;have lo:=Ao (n:=n) (ts:=ts) (h:=y);refine⟨r1,r2,_,_,rfl,rfl,s2 _ _ g1,g2,by rw[bw,bw];exact bj (show _<=64 by lia) (by decide),fun r3 VF=>?_⟩;have s3:=ai (o:=.lst (NV (qD n ts y (homes.getD l 0))++NV (di n ts y))) VF;have JC:=(s1.trans s2).trans s3;refine⟨_,rfl,_,rfl,_,rfl,r3,sa,ga,qD n ts y (homes.getD l 0)++di n ts y,st,g,l,rfl,by rw[af];unfold NV;rw[bW],JC _ _ Ap,JC _ _ Qo,Y3,LO.le,hl,fun H4 s4=>?_⟩;have Qp:=JC.trans s4;refine⟨_,rfl,_,rfl,ga,_,(l:Int),l,rfl,rfl,Qp _ _ Qo,iu (by rw[aJ,Y3];exact hl),⟨_,_,rfl⟩,fun b o e m=>by rw[ak m];exact Qp _ _ (sc _ _ e m),?_⟩;rw[af];unfold q_;rw[ey,List.map_set];rfl
  .rintro σ Hc ⟨⟨x5,x6,rfl⟩,sc,Qo⟩;rw[bw,iW] at Qo;exact q Hc sc Qo
theorem yU:aE ["rule","net","homes","stand","beat","letters","goes"] ["rule","net","homes","stand","beat"] (ap EA):=⟨rfl,rfl,rfl,by decide +kernel,rfl,by decide +kernel,by decide +kernel⟩
def LY:Sp:=fun vs _ _ _=>vs.length=5/\False
theorem Qq{f:Addr}{fd:FuncData}{k:Nat}:bz P w K mg base bf k f fd ["net","homes","stand","letters","goes"] LY:=⟨fun _ _ _ _ h=>h.2.elim,fun _ _ _ _ _ _ _ _ _ _ _ _ _ h=>h.2.elim⟩
def yV(C CI:Addr):Sp:=fun vs H Q _=>∃ (L:Addr->Prop) (rx rd px ha sa:Addr) (bt:V) (n:Nat) (ts:Ts) (homes:List Nat) (st:List (Option Nat)),vs=[.ref rx,.ref px,.ref ha,.ref sa,bt]/\H rx=some (.ins CI rd [])/\cL C H L px n ts/\H ha=some (.tup (NV homes))/\H sa=some (.tup (st.map oV))/\v_ n homes st/\
 ∀ (t:Addr) (H':Hp),aF H H'->H' t=some (.tup ((fu n ts homes st).map oV))->Q (.ref t) H'
theorem Hw{f C CI:Addr}{fd:FuncData}(F:fJ K "hand" "hand" EA f fd)(B:Bl mg)(RT:Hu K mg CI)(MR:kU P w K mg base bf 2 CI "order" ["self","net","homes","stand","beat"] EF)(HT:cQ P w K mg base bf 7 "hand_in_turn" ["net","homes","stand","letters","goes"] (LX C))(HE:cQ P w K mg base bf 1 "hand_eagerly" ["net","homes","stand","letters","goes"] LY):
  bz P w K mg base bf 8 f fd ["rule","net","homes","stand","beat"] (yV C CI):=by
 obtain⟨fR,fdR,mR,bR,GR⟩:=MR.ex;refine F.ok yU (fun vs H Q E h=>?_) (fun dU A outer s H vs Q E hr h=>?_)
 .obtain⟨L,rx,rd,px,ha,sa,bt,n,ts,homes,st,rfl,_⟩:=h;rfl
 .obtain⟨L,rx,rd,px,ha,sa,bt,n,ts,homes,st,rfl,hR,N,hH,hS,LO,q⟩:=h;have h1:b9 1 _:=hr.mono (by decide);have h2:b9 2 _:=hr.mono (by decide);refine'⟨_,(ah (aS (i:=5) yU.nd rfl (Or.inl rfl) (fF (pv 0) RT.cl mR GR h2 bR .nil aI (aa (pv 1) (aa (pv 2) (aa (pv 3) (aa (pv 4) ag))))))
   (ah (df (i:=6) (g:=(a9 0)) (te:=(tC .bE)) (NB:=["home"]) (src:=[none]) (bq (by kernel_rfl)) rfl (Cv (pv 2)) ?g1 ?t1 ?e1 yU.nd rfl rfl rfl)
   (ah (cr (eY (aA A0 (by rfl) B.ND rf (aa (pv 0) (aa (oK (v:=.ref CI) rfl RT.PM rfl) ag)))) (ao (bu (aB HT hr aI (aa (pv 1) (aa (pv 2) (aa (pv 3) (aa (pv 5) (aa (pv 6) ag)))))))) (ao (bu (aB HE h1 aI (aa (pv 1) (aa (pv 2) (aa (pv 3) (aa (pv 5) (aa (pv 6) ag)))))))))
   (ao (aX (cx fg (by rfl) B.tup pb (aa (pv 6) ag))))))),?_⟩
  case g1=>exact fun cl C s₃ H₃ fp=>(aq (i:=0) Hr rfl (Or.inl rfl) (Or.inr rfl))
  case t1=>exact fun cl C s₃ H₃ fp=>cK
  case e1=>exact fun cl C s₃ H₃ fp=>dI
  refine⟨_,rfl,rx,rd,[],rfl,hR,rfl,_,rfl,_,rfl,_,rfl,_,rfl,_,_,_,_,sa,st,rfl,hS,LO.le,fun la H1 s1 Y5=>?_⟩;refine⟨_,rfl,ha,rfl,⟨_,bV.of (s1 _ _ hH)⟩,fun ga hg=>?_⟩;refine v7 (K:=K) (a:=ha) (xs:=NV homes) (fun i ys σ H2=>(∃x,σ=[x])/\aF H1 H2/\H2 ga=some (.lst ys)/\ys=List.replicate i V.bE) ⟨⟨_,rfl⟩,ai hg,af,rfl⟩ (fun i ys σ H2 _ z=>bV.of (z.2.1 _ _ (s1 _ _ hH))) ?_ ?_
  .rintro i x ys σ H2 Kt Kf hx ⟨⟨x',rfl⟩,sm,NF,rfl⟩ kt kf;have hi:i<homes.length:=by have:=(dw.mp hx).1;rwa [bw] at this
   have:=LO.len;have:=LO.le;exact kt _ _ _ NF (by rw[fj];exact bS (show i<17 by lia) (by decide)) ⟨⟨_,rfl⟩,a_ sm hg,af,by rw[mn]⟩
  rintro ys σ H2 ⟨_,sm,NF,rfl⟩;rw[bw,LO.len,show V.bE=oV none from rfl,<-List.map_replicate] at NF;have s2:=s1.trans sm;have Ll:=s2 _ _ hR;refine⟨_,rfl,.ref rx,CI,.ref CI,true,rfl,by unfold PySem.W.kitOne;rw[if_pos (xj _)],.of (.ins Ll RT.cl RT.ha RT.hn RT.Ot RT.hm),_,rfl,?_⟩;refine C3 ?_;have Y6:H ga=none:=s1.free hg;refine⟨_,rfl,_,rfl,_,rfl,_,rfl,_,rfl,fun b=>H b≠none,px,ha,sa,la,ga,n,ts,homes,st,_,rfl,N.own.same s2,fun z=>z Y6,s2 _ _ hH,s2 _ _ hS,LO,sm _ _ Y5,aj Y5 hg,NF,by rw[fj],fun H3 s3 hg3=>?_⟩;refine⟨_,rfl,ga,_,rfl,.inl ⟨aM.of hg3,fun t ht=>?_⟩⟩;exact q t _ (fun b o e=>ai ht _ _ (s3 _ _ (s2 _ _ e) (aj e Y6))) af
end
def u7(homes:List Nat)(fs:List (Option Nat)):List (Option Nat):=(List.range fs.length).map fun j=>if fs.getD j none=some (homes.getD j 0) then none else fs.getD j none
theorem iy{homes:List Nat}{fs:List (Option Nat)}:(u7 homes fs).length=fs.length:=by unfold u7;rw[aJ,d9]
theorem uL{homes:List Nat}{fs:List (Option Nat)}{j:Nat}(h:j<fs.length):(u7 homes fs).getD j none=if fs.getD j none=some (homes.getD j 0) then none else fs.getD j none:=by
 unfold u7;rw[aT,cw,ka h];rfl
def Qr(st:List (Option Nat)):Bool:=st.any Option.isSome
theorem EG{α:Type}{f g:α->Bool}:∀ {l:List α},(∀a∈l,f a=g a)->l.any f=l.any g
 |[],_=>rfl
 |x::l,h=>by rw[iH,iH,h x bK,EG fun a ha=>h a (bZ _ ha)]
theorem gQ{g:List (Option Nat)}{l a:Nat}{v:Option Nat}(h:l<g.length):(g.set l v).getD a none=if l=a then v else g.getD a none:=by
 rw[aT,aT,List.getElem?_set];by_cases e:l=a
 .rw[if_pos e,if_pos e,if_pos h];rfl
 .rw[am e,am e]
theorem jA{m a:Nat}:(List.replicate m (none:Option Nat)).getD a none=none:=by
 rw[aT,wT];split <;> rfl
theorem jB{n:Nat}{ts:Ts}{homes:List Nat}{st:List (Option Nat)}:(fu n ts homes st).length=st.length:=by unfold fu;rw[o5,fj]
theorem uM{l1 l2:List (Option Nat)}(hl:l1.length=l2.length)(h:∀a,a<l1.length->l1.getD a none=l2.getD a none):l1=l2:=by
 refine xg fun a=>?_;by_cases c:a<l1.length
 .have:=h a c;rw[aT,aT,bh c,bh (by lia)] at this;rw[bh c,bh (by lia)];exact congrArg some this
 .rw[lj (by lia),lj (by lia)]
theorem dk{l:List (Option Nat)}{k a:Nat}(h:a<k):(l.take k).getD a none=l.getD a none:=by
 rw[aT,aT,lh h]
theorem EH{l:List (Option Nat)}{a:Nat}(h:l.length<=a):l.getD a none=none:=by
 rw[aT,lj h];rfl
theorem wa{l:List (Option Nat)}{k i:Nat}{v:Option Nat}(h:k<=i):(l.set i v).take k=l.take k:=by
 rw[tH,Ci (by rw[cf];lia)]
theorem qE{l:List (Option Nat)}{k:Nat}(hk:k<=l.length)(h:∀i,i<k->l.getD i none=none):l.take k=List.replicate k none:=by
 refine uM (by rw[cf,fj];lia) fun a ha=>?_;rw[cf] at ha;rw[dk (by lia),jA];exact h a (by lia)
theorem qF{ts:Ts}:∀ {k a b:Nat},dF ts (k+1) a b->∃c,T ts a c/\dF ts k c b
 |0,a,b,⟨c,w,t⟩=>by
  have w:a=c:=w;subst w;exact⟨b,t,rfl⟩
 |k+1,a,b,⟨c,w,t⟩=>by
  obtain⟨d,t1,w1⟩:=qF w;exact⟨d,t1,c,w1,t⟩
section
variable {n k m i b:Nat} {ts:Ts} {homes:List Nat} {st es:List (Option Nat)}
theorem l8:∀ {ls:List Nat} {g:List (Option Nat)} {a:Nat},a∉ls->(ls.foldl (q_ n ts homes st) g).getD a none=g.getD a none
 |[],_,_,_=>rfl
 |l::ls,g,a,h=>by
  rw[iX,l8 fun z=>h (bZ _ z)];unfold q_;have ne:l≠a:=fun e=>h (by rw[e];exact bK);rw[aT,pf ne,<-aT]
theorem LZ{j:Nat}:j∈jM st i↔j<i/\(st.getD j none).isSome=true:=by
 unfold jM;rw[dQ,cq]
theorem jO{a:Nat}(h:st.getD a none=none):(fu n ts homes st).getD a none=none:=by
 unfold fu;rw[l8 (fun z=>by rw[(jN z).2] at h;cases h),jA]
theorem L3{g:List (Option Nat)}{l y:Nat}{os:List Nat}(h:BP st g l os=some y):y∈os:=List.mem_of_find?_eq_some h
theorem wb:∀ {ls:List Nat} {g:List (Option Nat)},(∀a y,g.getD a none=some y->y∈di n ts ((st.getD a none).getD 0))->∀a y,(ls.foldl (q_ n ts homes st) g).getD a none=some y->y∈di n ts ((st.getD a none).getD 0)
 |[],_,h=>h
 |l::ls,g,h=>by
  rw[iX];refine wb fun a y e=>?_;unfold q_ at e;by_cases c:l<g.length
  .rw[gQ c] at e;by_cases d:l=a
   .subst d;rw[if_pos rfl] at e;rcases cH.mp (L3 e) with z|z
    .exact(dQ.mp z).1
    .exact z
   .rw[am d] at e;exact h a y e
  .rw[Ci (by lia)] at e;exact h a y e
theorem EI{a y:Nat}(h:(fu n ts homes st).getD a none=some y):y∈di n ts ((st.getD a none).getD 0):=wb (ls:=jM st st.length) (g:=List.replicate st.length none) (fun a y e=>by rw[jA] at e;cases e) a y h
theorem L4{l:Nat}{os:List Nat}:BP st (List.replicate m none) l os=os.head?:=by
 unfold BP;cases os with
 |nil=>rfl
 |cons o os=>
  rw[i_];have z:(List.range st.length).any (fun a=>decide (st.getD a none=st.getD l none)&&decide ((List.replicate m (none:Option Nat)).getD a none=some o))=false:=by
   rw[pA];intro a _ q;rw[dH,jA] at q;cases of_decide_eq_true q.2
  rw[z];rfl
theorem Hy{y h:Nat}(F:ck n ts)(hy:y<n)(hh:h<n)(ne:y≠h):∃o os,qD n ts y h=o::os:=by
 have p:1<=far ts y h:=by
  rcases Nat.eq_zero_or_pos (far ts y h) with z|z
  .have w:=(F.K7 hy hh).1;rw[z] at w;exact absurd w ne
  .exact z
 have w:=(F.K7 hy hh).1;rw[show far ts y h=(far ts y h-1)+1 by lia] at w;obtain⟨c,t,w1⟩:=qF w;obtain⟨_,hc,_⟩:=F.Sh t;have:=F.K8 hc hh w1;exact List.exists_cons_of_ne_nil (List.ne_nil_of_mem (dQ.mpr ⟨(hW F hy).mpr t,cR (show far ts c h<far ts y h by lia)⟩))
theorem yW{l y:Nat}{r:List Nat}(F:ck n ts)(e:jM st st.length=l::r)(ey:st.getD l none=some y)(hy:y<n)(hh:homes.getD l 0<n)(ne:y≠homes.getD l 0):∃g,(fu n ts homes st).getD l none=some g/\g<n/\far ts g (homes.getD l 0)<far ts y (homes.getD l 0):=by
 have nd:(jM st st.length).Nodup:=kh.sublist List.filter_sublist;rw[e] at nd;have hl:l<st.length:=(jN (st:=st) (i:=st.length) (by rw[e];exact bK)).1;obtain⟨o,os,eo⟩:=Hy F hy hh ne;refine⟨o,?_,?_⟩
 .unfold fu;rw[e,iX,l8 (eU.mp nd).1];unfold q_;rw[gQ (by rw[fj];exact hl),if_pos rfl,L4,ey,pD,eo];rfl
 .have:o∈qD n ts y (homes.getD l 0):=by rw[eo];exact bK
  obtain⟨q1,q2⟩:=dQ.mp this;exact⟨oQ F hy q1,of_decide_eq_true q2⟩
end
def jC(pl:List iT)(i:Nat):iT:=pl.getD i (0,0,0)
def nQ(pl:List iT):List Nat:=pl.map fun r=>r.2.2
abbrev Fx:=List (Option Nat)×List (Option Nat)×Bool
noncomputable def qL(n:Nat)(ts:Ts)(pl:List iT)(b:Nat)(x:Fx)(i:Nat):Fx:=
 if x.2.2=true\/(x.1.getD i none).isSome=true then x
 else if (jC pl i).1<=b/\x.2.1.count (some (jC pl i).2.1)<(di n ts (jC pl i).2.1).length then (x.1.set i (some b),x.2.1.set i (some (jC pl i).2.1),false)
 else (x.1,x.2.1,true)
noncomputable def ic(n:Nat)(ts:Ts)(pl:List iT)(b m:Nat)(es st:List (Option Nat)):Fx:=(List.range m).foldl (qL n ts pl b) (es,st,false)
structure JF(m:Nat)(es st:List (Option Nat)):Prop where
 e:es.length=m
 s:st.length=m
 cl:∀i,es.getD i none=none->st.getD i none=none/\∀j,i<=j->es.getD j none=none
structure Hz(n:Nat)(pl:List iT)(m:Nat)(es st:List (Option Nat))(i:Nat)(x:Fx):Prop where
 c:JF m x.1 x.2.1
 go:x.2.2=false->∀j,j<i->x.1.getD j none≠none
 kp:∀j,es.getD j none≠none->x.1.getD j none=es.getD j none/\x.2.1.getD j none=st.getD j none
 wh:∀j y,x.2.1.getD j none=some y->st.getD j none=some y\/(j<m/\y=(jC pl j).2.1)
section
variable {n k m i b:Nat} {ts:Ts} {pl:List iT} {es st:List (Option Nat)} {x:Fx}
theorem Hz.start(c:JF m es st):Hz n pl m es st 0 (es,st,false):=⟨c,fun _ j h=>absurd h (pF _),fun j _=>⟨rfl,rfl⟩,fun j y h=>.inl h⟩
theorem Hz.step(h:Hz n pl m es st i x)(hi:i<m):Hz n pl m es st (i+1) (qL n ts pl b x i):=by
 unfold qL;split
 .rename_i c;refine⟨h.c,fun f j hj=>?_,h.kp,h.wh⟩;rcases c with z|z
  .rw[f] at z;cases z
  .rcases Ch.mp hj with q|q
   .exact h.go f j q
   .subst q;intro y;rw[y] at z;cases z
 .rename_i c;rw[jg] at c;have f:x.2.2=false:=by have:=c.1;cases e:x.2.2 <;> simp_all
  have ei:x.1.getD i none=none:=by cases e:x.1.getD i none with
   |none=>rfl
   |some v=>exact absurd (by rw[e];rfl) c.2
  obtain⟨si,bi⟩:=h.c.cl i ei;split
  .refine⟨⟨by rw[kj];exact h.c.e,by rw[kj];exact h.c.s,fun j hj=>?_⟩,fun _ j hj=>?_,fun j hj=>?_,fun j y hy=>?_⟩
   .rw[gQ (by rw[h.c.e];exact hi)] at hj;have ne:i≠j:=by intro z;rw[if_pos z] at hj;cases hj
    rw[am ne] at hj;have lt:i<j:=by
     rcases pL j i with q|q
     .exact absurd hj (h.go f j q)
     .lia
    refine⟨?_,fun k hk=>?_⟩
    .rw[gQ (by rw[h.c.s];exact hi),am ne];exact(h.c.cl j hj).1
    .rw[gQ (by rw[h.c.e];exact hi),am (by lia)];exact bi k (by lia)
   .rw[gQ (by rw[h.c.e];exact hi)];by_cases z:i=j
    .rw[if_pos z];intro q;cases q
    .rw[am z];exact h.go f j (by lia)
   .have ne:i≠j:=by intro z;subst z;rw[<-(h.kp i hj).1] at hj;exact hj ei
    rw[gQ (by rw[h.c.e];exact hi),gQ (by rw[h.c.s];exact hi),am ne,am ne];exact h.kp j hj
   .rw[gQ (by rw[h.c.s];exact hi)] at hy;by_cases z:i=j
    .subst z;rw[if_pos rfl] at hy;exact .inr ⟨hi,(be hy).symm⟩
    .rw[am z] at hy;exact h.wh j y hy
  .exact⟨h.c,(fun z=>by cases z),h.kp,h.wh⟩
theorem l9(c:JF m es st):∀ {i:Nat},i<=m->Hz n pl m es st i (ic n ts pl b i es st)
 |0,_=>Hz.start c
 |i+1,h=>by
  unfold ic;rw[fm,iD];exact(l9 c (by lia)).step h
structure HB(k:Nat)(x y:Fx):Prop where
 e:y.1=x.1.take k
 s:y.2.1=x.2.1.take k
 f:y.2.2=x.2.2
theorem EJ(h:i<k):jC (pl.take k) i=jC pl i:=by
 unfold jC;rw[aT,aT,lh h]
theorem EK{s:List (Option Nat)}{y:Nat}(h:∀j,k<=j->s.getD j none=none):(s.take k).count (some y)=s.count (some y):=by
 conv=>rhs;rw[<-nW k s]
 rw[List.count_append,show (s.drop k).count (some y)=0 from List.count_eq_zero.mpr fun z=>?_,pO];obtain⟨j,hj,e⟩:=mr z;have:=h (k+j) (iF _ _);rw[List.getElem_drop] at e;rw[aT,bh (by rw[lq] at hj;lia),e] at this;cases this
theorem HB.step{y:Fx}(h:HB k x y)(I:Hz n pl m es st i x)(hi:i<k)(hk:k<=m):HB k (qL n ts pl b x i) (qL n ts (pl.take k) b y i):=by
 obtain⟨ye,ys,yf⟩:=y;obtain⟨rfl,rfl,rfl⟩:=(⟨h.e,h.s,h.f⟩:ye=_/\ys=_/\yf=_)
 unfold qL;rw[EJ hi];dsimp only;rw[dk hi];by_cases c:x.2.2=true\/(x.1.getD i none).isSome=true
 .rw[if_pos c,if_pos c];exact h
 .rw[am c,am c];have ei:x.1.getD i none=none:=by cases e:x.1.getD i none with
   |none=>rfl
   |some v=>exact absurd (.inr (by rw[e];rfl)) c
  rw[EK fun j hj=>(I.c.cl j ((I.c.cl i ei).2 j (by lia))).1];split
  .exact⟨tH.symm,tH.symm,rfl⟩
  .exact⟨rfl,rfl,rfl⟩
theorem wc(c:JF m es st)(hk:k<=m):∀ {i:Nat},i<=k->HB k (ic n ts pl b i es st) (ic n ts (pl.take k) b i (es.take k) (st.take k))
 |0,_=>⟨rfl,rfl,rfl⟩
 |i+1,h=>by
  have:=wc c hk (i:=i) (by lia);have I:=l9 (n:=n) (ts:=ts) (pl:=pl) (b:=b) c (i:=i) (by lia);unfold ic at *;rw[fm,iD,iD];exact this.step I h hk
theorem L6(h:k<=i):(qL n ts pl b x i).1.take k=x.1.take k/\(qL n ts pl b x i).2.1.take k=x.2.1.take k:=by
 unfold qL;split
 .exact⟨rfl,rfl⟩
 .split
  .exact⟨wa h,wa h⟩
  .exact⟨rfl,rfl⟩
theorem EL:∀ {d:Nat},(ic n ts pl b (k+d) es st).1.take k=(ic n ts pl b k es st).1.take k/\(ic n ts pl b (k+d) es st).2.1.take k=(ic n ts pl b k es st).2.1.take k
 |0=>⟨rfl,rfl⟩
 |d+1=>by
  obtain⟨a,c⟩:=EL (d:=d);have e:ic n ts pl b (k+(d+1)) es st=qL n ts pl b (ic n ts pl b (k+d) es st) (k+d):=by
   unfold ic;rw[<-tG,fm,iD];rfl
  obtain⟨p,q⟩:=L6 (n:=n) (ts:=ts) (pl:=pl) (b:=b) (x:=ic n ts pl b (k+d) es st) (iF k d);rw[e];exact⟨p.trans a,q.trans c⟩
theorem Aq(c:JF m es st)(hk:k<=m):(ic n ts (pl.take k) b k (es.take k) (st.take k)).1=(ic n ts pl b m es st).1.take k/\(ic n ts (pl.take k) b k (es.take k) (st.take k)).2.1=(ic n ts pl b m es st).2.1.take k:=by
 have h:=wc (n:=n) (ts:=ts) (pl:=pl) (b:=b) c hk (aY k);obtain⟨d,rfl⟩:∃d,m=k+d:=⟨m-k,by lia⟩
 obtain⟨p,q⟩:=EL (n:=n) (ts:=ts) (pl:=pl) (b:=b) (es:=es) (st:=st) (k:=k) (d:=d);exact⟨h.e.trans p.symm,h.s.trans q.symm⟩
end
noncomputable def yX(n:Nat)(ts:Ts)(pl:List iT)(b:Nat)(x:List (Option Nat)×List (Option Nat)):Fx:=ic n ts pl b pl.length x.1 x.2
noncomputable def eO(n:Nat)(ts:Ts)(pl:List iT):Nat->List (Option Nat)×List (Option Nat)
 |0=>(List.replicate pl.length none,List.replicate pl.length none)
 |b+1=>((yX n ts pl b (eO n ts pl b)).1,u7 (nQ pl) (fu n ts (nQ pl) (yX n ts pl b (eO n ts pl b)).2.1))
noncomputable def jD(n:Nat)(ts:Ts)(pl:List iT)(b:Nat):List (Option Nat):=(yX n ts pl b (eO n ts pl b)).2.1
noncomputable def sq(n:Nat)(ts:Ts)(pl:List iT)(b:Nat):List (Option Nat):=fu n ts (nQ pl) (jD n ts pl b)
def EM(x:List (Option Nat)×List (Option Nat)):Prop:=none∈x.1\/Qr x.2=true
structure Ar(n:Nat)(ts:Ts)(pl:List iT)(most N:Nat):Prop where
 le:N<=most
 go:∀j,j<N->EM (eO n ts pl j)
 stop:N<most->¬ EM (eO n ts pl N)
section
variable {n k m i b most N M:Nat} {ts:Ts} {pl:List iT}
theorem EO(h:i<pl.length):(nQ pl).getD i 0=(jC pl i).2.2:=by
 unfold nQ jC;rw[aT,cw,aT,bh h];rfl
theorem jP(h:i<pl.length):jC pl i∈pl:=by
 unfold jC;rw[aT,bh h];exact fk h
theorem As{homes:List Nat}{fs:List (Option Nat)}(h:fs.getD i none=none):(u7 homes fs).getD i none=none:=by
 by_cases c:i<fs.length
 .rw[uL c,h];rfl
 .exact EH (by rw[iy];lia)
theorem gc:∀b,JF pl.length (eO n ts pl b).1 (eO n ts pl b).2
 |0=>⟨fj,fj,fun i _=>⟨jA,fun j _=>jA⟩⟩
 |b+1=>by
  have I:=l9 (n:=n) (ts:=ts) (pl:=pl) (b:=b) (gc b) (aY _);refine⟨I.c.e,by show (u7 _ (fu _ _ _ _)).length=_;rw[iy,jB];exact I.c.s,fun i hi=>⟨As (jO (I.c.cl i hi).1),(I.c.cl i hi).2⟩⟩
theorem qG(b:Nat):Hz n pl pl.length (eO n ts pl b).1 (eO n ts pl b).2 pl.length (yX n ts pl b (eO n ts pl b)):=l9 (gc b) (aY _)
theorem iz:(jD n ts pl b).length=pl.length:=(qG b).c.s
theorem JG(F:ck n ts)(O:nN n pl):∀b,∀j y,(eO n ts pl b).2.getD j none=some y->j<pl.length/\y<n/\y≠(jC pl j).2.2
 |0,j,y,h=>by rw[show (eO n ts pl 0).2=List.replicate pl.length none from rfl,jA] at h;cases h
 |b+1,j,y,h=>by
  have hj:j<pl.length:=by
   rcases pL j pl.length with q|q
   .exact q
   .rw[EH (by rw[(gc (b+1)).s];exact q)] at h;cases h
  have Uq:j<(fu n ts (nQ pl) (jD n ts pl b)).length:=by rw[jB,iz];exact hj
  have h:(u7 (nQ pl) (fu n ts (nQ pl) (jD n ts pl b))).getD j none=some y:=h;rw[uL Uq] at h;split at h
  .cases h
  .rename_i ne;have hm:=EI h;have sy:∀z,(jD n ts pl b).getD j none=some z->z<n:=fun z hz=>by
    rcases(qG b).wh j z hz with q|⟨q1,q2⟩
    .exact(JG F O b j z q).2.1
    .rw[q2];exact(O.hs _ (jP q1)).1
   cases e:(jD n ts pl b).getD j none with
   |none=>rw[jO e] at h;cases h
   |some z=>
    rw[e] at hm;refine⟨hj,oQ F (sy z e) hm,fun q=>ne ?_⟩;rw[h,EO hj,q]
theorem JI(F:ck n ts)(O:nN n pl){j y:Nat}(h:(jD n ts pl b).getD j none=some y):j<pl.length/\y<n/\y≠(jC pl j).2.2:=by
 rcases(qG b).wh j y h with q|⟨q1,q2⟩
 .exact JG F O b j y q
 .rw[q2];obtain⟨a,_,c⟩:=O.hs _ (jP q1);exact⟨q1,a,c⟩
theorem L7(F:ck n ts)(O:nN n pl):v_ n (nQ pl) (jD n ts pl b):=by
 refine⟨by rw[iz];exact O.len,by rw[iz];unfold nQ;rw[aJ],fun x hx=>?_,fun y hy=>?_⟩
 .obtain⟨r,hr,rfl⟩:=bH.mp hx;exact(O.hs r hr).2.1
 .obtain⟨j,hj,e⟩:=mr hy;exact(JI F O (j:=j) (b:=b) (by rw[aT,bh hj,e];rfl)).2.1
theorem HC(F:ck n ts)(O:nN n pl){l:Nat}{r:List Nat}(e:jM (jD n ts pl b) (jD n ts pl b).length=l::r):l<pl.length/\∃y g,(jD n ts pl b).getD l none=some y/\(sq n ts pl b).getD l none=some g/\y<n/\g<n/\far ts g (jC pl l).2.2<far ts y (jC pl l).2.2:=by
 obtain⟨hl,ey⟩:=jN (st:=jD n ts pl b) (i:=(jD n ts pl b).length) (j:=l) (by rw[e];exact bK);obtain⟨h1,h2,h3⟩:=JI F O ey;have hh:=(O.hs _ (jP h1)).2.1;rw[<-EO h1] at hh h3 |-;obtain⟨g,g1,g2,g3⟩:=yW F e ey h2 hh h3;exact⟨h1,_,g,ey,g1,h2,g2,g3⟩
theorem wd{st:List (Option Nat)}{hs:List Nat}(hk:k<=st.length):fu n ts (hs.take k) (st.take k)=(fu n ts hs st).take k:=by
 have sl:(st.take k).length=k:=by rw[cf];lia
 have low:∀ {ls:List Nat} {g:List (Option Nat)},(∀l∈ls,l<k)->g.length=st.length->(∀a,k<=a->g.getD a none=none)->ls.foldl (q_ n ts (hs.take k) (st.take k)) (g.take k)=(ls.foldl (q_ n ts hs st) g).take k/\∀a,k<=a->(ls.foldl (q_ n ts hs st) g).getD a none=none:=by
  intro ls;induction ls with
  |nil=>intro g _ _ hn;exact⟨rfl,hn⟩
  |cons l ls ih=>
   intro g hl gl hn;have lk:=hl l bK;rw[iX,iX];have e:q_ n ts (hs.take k) (st.take k) (g.take k) l=(q_ n ts hs st g l).take k:=by
    have ff:∀os,BP (st.take k) (g.take k) l os=BP st g l os:=fun os=>by
     unfold BP;congr 1;funext h;congr 1;obtain⟨d,hd⟩:∃d,st.length=k+d:=⟨st.length-k,by lia⟩
     rw[sl,hd,List.range_add,List.any_append];have z:(List.map (fun x=>k+x) (List.range d)).any (fun a=>decide (st.getD a none=st.getD l none)&&decide (g.getD a none=some h))=false:=by
      rw[pA];intro a ha q;obtain⟨x,_,rfl⟩:=bH.mp ha;rw[dH,hn _ (iF _ _)] at q;cases of_decide_eq_true q.2
     rw[z,Bool.or_false];refine EG fun a ha=>?_;have ha:=cq.mp ha;rw[dk ha,dk lk,dk ha]
    have hh:(hs.take k).getD l 0=hs.getD l 0:=by rw[aT,aT,lh lk]
    unfold q_;rw[ff,dk lk,hh,tH]
   rw[e];refine ih (fun x hx=>hl x (bZ _ hx)) (by unfold q_;rw[kj,gl]) fun a ha=>?_;unfold q_;rw[gQ (by rw[gl];lia),am (by lia)];exact hn a ha
 obtain⟨d,hd⟩:∃d,st.length=k+d:=⟨st.length-k,by lia⟩
 have u1:jM (st.take k) (st.take k).length=jM st k:=by
  rw[sl];exact List.filter_congr fun a ha=>by rw[dk (cq.mp ha)]
 have u2:jM st st.length=jM st k++((List.range d).map (k+·)).filter fun j=>(st.getD j none).isSome:=by
  unfold jM;rw[hd,List.range_add,eR]
 have lo:=(low (ls:=jM st k) (g:=List.replicate st.length none) (fun l hl=>(jN hl).1) fj (fun a _=>jA)).1;unfold fu;rw[u1,u2,iD,sl];have hr:(List.replicate st.length (none:Option Nat)).take k=List.replicate k none:=by rw[List.take_replicate,mF hk]
 rw[hr] at lo;rw[lo];generalize (jM st k).foldl _ _=g;refine uM ?_ fun a ha=>?_
 .rw[cf,cf,o5]
 .rw[cf] at ha;rw[dk (by lia),dk (by lia),l8];intro z;obtain⟨x,_,e⟩:=bH.mp (dQ.mp z).1;lia
theorem HD{homes:List Nat}{fs:List (Option Nat)}:u7 (homes.take k) (fs.take k)=(u7 homes fs).take k:=by
 refine uM (by rw[iy,cf,cf,iy]) fun a ha=>?_;rw[iy,cf] at ha;rw[uL (by rw[cf];lia),dk (by lia),dk (by lia),uL (by lia),aT (l:=homes.take k),lh (by lia),<-aT]
theorem At:nQ (pl.take k)=(nQ pl).take k:=pI
theorem k4(hk:k<=pl.length):∀b,(eO n ts (pl.take k) b).1=(eO n ts pl b).1.take k/\(eO n ts (pl.take k) b).2=(eO n ts pl b).2.take k
 |0=>by
  have e:(pl.take k).length=k:=by rw[cf];lia
  have hr:(List.replicate pl.length (none:Option Nat)).take k=List.replicate k none:=by rw[List.take_replicate,mF hk]
  show List.replicate (pl.take k).length none=(List.replicate pl.length none).take k/\_=(List.replicate pl.length none).take k;rw[e,hr];exact⟨rfl,by show List.replicate (pl.take k).length none=_;rw[e]⟩
 |b+1=>by
  obtain⟨h1,h2⟩:=k4 hk b;have e:(pl.take k).length=k:=by rw[cf];lia
  obtain⟨p,q⟩:=Aq (n:=n) (ts:=ts) (pl:=pl) (b:=b) (gc (n:=n) (ts:=ts) (pl:=pl) b) hk;have hp:yX n ts (pl.take k) b (eO n ts (pl.take k) b)=ic n ts (pl.take k) b k ((eO n ts pl b).1.take k) ((eO n ts pl b).2.take k):=by unfold yX;rw[e,h1,h2]
  refine⟨?_,?_⟩
  .show (yX n ts (pl.take k) b (eO n ts (pl.take k) b)).1=_;rw[hp];exact p
  .show u7 (nQ (pl.take k)) (fu n ts (nQ (pl.take k)) (yX n ts (pl.take k) b (eO n ts (pl.take k) b)).2.1)=_;rw[hp,At,q,wd (by show k<=(jD n ts pl b).length;rw[iz];exact hk),HD];rfl
theorem EQ(hk:k<=pl.length):jD n ts (pl.take k) b=(jD n ts pl b).take k:=by
 obtain⟨h1,h2⟩:=k4 (n:=n) (ts:=ts) hk b;have e:(pl.take k).length=k:=by rw[cf];lia
 obtain⟨p,q⟩:=Aq (n:=n) (ts:=ts) (pl:=pl) (b:=b) (gc (n:=n) (ts:=ts) (pl:=pl) b) hk;unfold jD yX;rw[e,h1,h2];exact q
theorem L9(hk:k<=pl.length):sq n ts (pl.take k) b=(sq n ts pl b).take k:=by
 unfold sq;rw[EQ hk,At,wd (by rw[iz];exact hk)]
theorem HF(hk:k<=pl.length)(h:EM (eO n ts (pl.take k) b)):EM (eO n ts pl b):=by
 obtain⟨h1,h2⟩:=k4 (n:=n) (ts:=ts) hk b;rcases h with h|h
 .rw[h1] at h;exact .inl (lm h)
 .rw[h2] at h;unfold Qr at h;obtain⟨x,hx,e⟩:=i8.mp h;exact .inr (show List.any _ _=true from i8.mpr ⟨x,lm hx,e⟩)
theorem Ar.cut(hk:k<=pl.length)(A:Ar n ts pl most N)(B:Ar n ts (pl.take k) most M):M<=N:=by
 rcases pL N M with h|h
 .exact absurd (HF hk (B.go N h)) (A.stop (bS h B.le))
 .exact h
theorem Au(hk:k<=pl.length)(B:Ar n ts (pl.take k) most M)(hM:M<most):∀d,(eO n ts pl (M+d)).1.take k=(eO n ts pl M).1.take k/\∀i,i<k->(eO n ts pl (M+d)).1.getD i none≠none/\(eO n ts pl (M+d)).2.getD i none=none
 |0=>by
  rw[pO];refine⟨rfl,fun i hi=>?_⟩;obtain⟨h1,h2⟩:=k4 (n:=n) (ts:=ts) hk M;have s:=B.stop hM;unfold EM at s;rw[jg,h1,h2] at s;have l1:i<((eO n ts pl M).1.take k).length:=by rw[cf,(gc M).e];lia
  have l2:i<((eO n ts pl M).2.take k).length:=by rw[cf,(gc M).s];lia
  refine⟨fun z=>s.1 ?_,?_⟩
  .rw[<-dk hi,aT,bh l1] at z;rw[<-show ((eO n ts pl M).1.take k)[i]=none from z];exact fk l1
  .rw[<-dk hi,aT,bh l2];cases e:((eO n ts pl M).2.take k)[i] with
   |none=>rfl
   |some v=>
    refine absurd ?_ s.2;unfold Qr;exact i8.mpr ⟨some v,by rw[<-e];exact fk l2,rfl⟩
 |d+1=>by
  obtain⟨h0,h⟩:=Au hk B hM d;have I:=qG (n:=n) (ts:=ts) (pl:=pl) (M+d);refine⟨?_,fun i hi=>?_⟩
  .rw[<-h0];show (yX n ts pl (M+d) (eO n ts pl (M+d))).1.take k=_;refine uM (by rw[cf,cf,I.c.e,(gc _).e]) fun a ha=>?_;rw[cf] at ha;rw[dk (by lia),dk (by lia),(I.kp a (h a (by lia)).1).1]
  .obtain⟨a,c⟩:=h i hi;obtain⟨p,q⟩:=I.kp i a;exact⟨by show (yX n ts pl (M+d) (eO n ts pl (M+d))).1.getD i none≠none;rw[p];exact a,As (jO (q.trans c))⟩
theorem uN(hk:k<=pl.length)(B:Ar n ts (pl.take k) most M)(hM:M<most){j:Nat}(h:M<=j):(eO n ts pl j).1.take k=(eO n ts pl M).1.take k/\(eO n ts pl j).2.take k=List.replicate k none/\(jD n ts pl j).take k=List.replicate k none/\(sq n ts pl j).take k=List.replicate k none:=by
 obtain⟨d,rfl⟩:∃d,j=M+d:=⟨j-M,by lia⟩
 obtain⟨h0,h1⟩:=Au hk B hM d;have I:=qG (n:=n) (ts:=ts) (pl:=pl) (M+d);have si:∀i,i<k->(jD n ts pl (M+d)).getD i none=none:=fun i hi=>(I.kp i (h1 i hi).1).2.trans (h1 i hi).2;exact⟨h0,qE (by rw[(gc _).s];exact hk) fun i hi=>(h1 i hi).2,qE (by rw[iz];exact hk) si,qE (by unfold sq;rw[jB,iz];exact hk) fun i hi=>jO (si i hi)⟩
end
end uq
namespace L2
open PySem PySem.Spec PyProof.Rows
def HG:V->List V->Hp->VK->Prop:=fun x vs H Q=>∃ (l:Addr) (xs:List V) (y:V),x=.ref l/\vs=[y]/\H l=some (.tup xs)/\d_ y=true/\xs.all d_=true/\Q (.int (xs.countP fun z=>m6 z y)) H
theorem BQ{X:Cx}:R1 X "tuple.count" HG:=by
 intro ae s σ H x vs v us Q I rx rv h;obtain⟨l,xs,y,rfl,rfl,hH,fy,fs,q⟩:=h;cases rx;obtain⟨u,rfl,ru⟩:=rv.one;obtain⟨its,r,⟨o,e,hc,n,d⟩,_⟩:=I.tuple (bV.of hH);obtain⟨oc,od,odt,u5⟩:=o;obtain rfl:oc=.type "tuple":=hc;obtain rfl:odt=.seq its.toArray n:=d;refine mN F.slot_tuple_count ⟨_,e,rfl⟩ F.entry_tuple_count (F.args_tuple_count_2 _ _) (SeqAt.tuple_countAt l its.toArray n od u5 u (tV y)) ⟨e,fun w hw=>g_ ru fy r fs w (by simpa using hw),?_⟩;refine⟨.int _,H,I.tok _,⟨s.toks,?_⟩,q⟩;rw[show its.toArray.toList=its by simp,qg r fs]
def V6(r:V->List V->Hp->VK->Prop)(to:TE)(t:TA):TE:=fun σ H Q=>to σ H fun x H1=>(∃p xs,x=.ref p/\H1 p=some (.tup xs))/\t σ H1 fun xs H2=>r x xs H2 Q
theorem L_{X:Cx}{o e:Expr}{es:List Expr}{to:TE}{t:TA}{name:Str}{kF jp:Pos}{id:String}{r:V->List V->Hp->VK->Prop}(pa:PlainAttrs "tuple")(slot:Slot "tuple" name id)(T7:typeOf (.builtin id)=pure (.type "method_descriptor"))(hm:XR X id r)(ho:PE X o to)(ha:PA X (e::es) t)(CS:attributeBase o name X.env (eval o X.env)=eval o X.env:=by rfl)(FV:((backTo jp (starEach (e::es) X.env)).all (fun x=>!x.1)&&(backToKw jp (keywordEach [] X.env)).all (fun x=>x.1.isSome)
   && decide ((e::es).length+([]:List Keyword).length+(if ([]:List Keyword).isEmpty then 0 else 1)<30))=true:=by rfl)(CU:(kF.endLine==jp.line)=true:=by rfl)(hs:starEach (e::es) X.env=(false,eval e X.env)::starEach es X.env:=by rfl)(p7:(backTo jp (starEach es X.env)).any (·.1)=false:=by rfl):
  PE X (.Call (.Attribute o name kF) (e::es) [] jp) (V6 r to t):=by
 intro ae s σ H Q I h;refine wpAny_Call_method_late CS FV CU rfl (b_ (ho ae s σ H _ I h) fun v s1 ⟨x,H1,I1,r1,ty,q1⟩=>?_);obtain⟨p,xs,rfl,hp⟩:=ty;cases r1;obtain⟨_,_,_,ob,e1,e2,_,_,e3⟩:=(show bX X.prog X.w H1 s1.heap p (.tup xs) from I1.bB p _ hp)
 refine⟨"tuple",id,pa,slot,T7,⟨ob,e1,e2⟩,fun a z=>by cases z;exact⟨ob,e1,e3⟩,?_⟩;have hA:=ha jp ae s1 σ H1 _ I1 q1;rw[hs] at hA |-;refine Calls.callWith_builtin (by show (false||(backTo jp (starEach es X.env)).any (·.1))=false;rw[p7] <;> rfl) (Calls.evalArgs_plain ?_);exact b_ hA fun us s2 ⟨vs,H2,I2,r2,q2⟩=>hm ae s2 σ H2 (.ref p) vs (.ref p) us Q I2 rfl r2 q2
end L2
namespace uq
open PySem L2 kQ
abbrev V7:Stmt:=top 14
abbrev Ma:Stmt:=top 29
abbrev Mb:Stmt:=top 28
abbrev V8:Stmt:=top 26
theorem l_:(["home","goes"]:List Str).Nodup:=by decide +kernel
theorem HI{homes:List Nat}{fs:List (Option Nat)}{i:Nat}(h:i<fs.length):((u7 homes fs).map oV)[i]?=some (if fs.getD i none=some (homes.getD i 0) then V.bE else oV (fs.getD i none)):=by
 unfold u7;rw[cw,cw,ka h];show some (oV (if _ then none else _))=_;split <;> rfl
theorem Qs{o:Option Nat}{h:Nat}:decide (oV o=.int (h:Int))=decide (o=some h):=JD (b:=some h)
theorem Mc{o:Option Nat}{h:Nat}:FI (oV o) (.int (h:Int))=true:=An (b:=some h)
theorem we{xs:List V}{k:Nat}:jR xs (some (k:Int)) none=xs.drop k:=by
 have h1:HT.dN xs.length 0 (some (k:Int))=min k xs.length:=by
  unfold HT.dN;simp;try lia
 have h2:HT.dN xs.length xs.length none=xs.length:=rfl;unfold jR;rw[h1,h2];by_cases c:k<=xs.length
 .rw[mF c];exact mj (by rw[lq];exact aY _)
 .rw[Nat.min_eq_right (by lia),List.drop_of_length_le (aY _),List.drop_of_length_le (by lia),List.take_nil]
theorem uO{st:List (Option Nat)}:(st.map oV).all d_=true:=lr.mpr fun x hx=>by
 obtain⟨o,_,rfl⟩:=bH.mp hx;cases o <;> rfl
theorem HJ{st:List (Option Nat)}{l:Nat}{o:Option Nat}(h:l<st.length):(st.map oV).take l++[oV o]++(st.map oV).drop (l+1)=(st.set l o).map oV:=by
 rw[List.set_eq_take_append_cons_drop,if_pos h,bW,dS,pI,List.map_drop,cG];rfl
theorem ER{es:List (Option Nat)}:B3 .bE (es.map oV)=decide (none∈es):=by
 unfold B3;rw[ja,i8,pi];constructor
 .rintro⟨x,hx,e⟩;obtain⟨o,ho,rfl⟩:=bH.mp hx;cases o with
  |none=>exact ho
  |some y=>simp[oV,m6] at e
 .intro h;exact⟨.bE,bH.mpr ⟨none,h,rfl⟩,rfl⟩
theorem Av{st:List (Option Nat)}:(jM st st.length).length > 0↔Qr st=true:=by
 unfold Qr;rw[i8];constructor
 .intro h;obtain⟨a,b⟩:=jN (fk h);rw[aT,bh a] at b;exact⟨_,fk a,by rw[show st[_]=some _ from b];rfl⟩
 .rintro⟨o,ho,hs⟩;obtain⟨i,hi,e⟩:=mr ho;exact sC (LZ.mpr ⟨hi,by rw[aT,bh hi,pD,e];exact hs⟩)
section
variable {P:Program} {w:World} {K:PySem.W.Frag} {mg:Str->Option Value} {base:Heap}
theorem V9:aE ["homes","handing"] ["homes","handing"] (ap V7):=⟨rfl,rfl,rfl,by decide +kernel,rfl,by decide +kernel,by decide +kernel⟩
def Md:Sp:=fun vs H Q _=>∃ (ha fa:Addr) (homes:List Nat) (fs:List (Option Nat)),vs=[.ref ha,.ref fa]/\H ha=some (.tup (NV homes))/\H fa=some (.tup (fs.map oV))/\homes.length=fs.length/\fs.length<=16/\∀t H',aF H H'->H' t=some (.tup ((u7 homes fs).map oV))->Q (.ref t) H'
theorem Qt{f:Addr}{fd:FuncData}(F:fJ K "stand_behind" "stand_behind" V7 f fd)(B:Bl mg)(B2:NL mg):bz P w K mg base bf 1 f fd ["homes","handing"] Md:=by
 refine F.ok V9 (fun vs H Q E h=>?_) (fun dU A outer s H vs Q E hr h=>?_)
 .obtain⟨ha,fa,homes,fs,rfl,_⟩:=h;rfl
 .obtain⟨ha,fa,homes,fs,rfl,Qu,SO,hl,ES,q⟩:=h;refine'⟨_,(ao (aX (cx fg (by rfl) B.tup pb (aa ?c1 ag)))),?_⟩;case c1=>
   refine' bU (g:=(oq K 2 (dC (a9 0) (dC (a9 1) oo)))) (te:=(XI (fD (im (IS) (aW 1) (aW 0))) (tC .bE) (aW 1))) (NB:=["home","goes"]) (src:=[none,none]) (bq (by kernel_rfl)) rfl (Gx rfl B2.zip (aa (pv 0) (aa (pv 1) ag))) ?g ?t ?e;case g=>exact fun cl C s₃ H₃ fp=>(dY (n:=2) rfl (aO (aq (i:=0) l_ rfl (Or.inl rfl) (Or.inr rfl)) (aO (aq (i:=1) l_ rfl (Or.inl rfl) (Or.inr rfl)) c_)))
   case t=>exact fun cl C s₃ H₃ fp=>cK
   case e=>exact fun cl C s₃ H₃ fp=>(va (aK jl (pv 1) (pv 0) (aU _)) dI (pv 1))
  refine⟨_,rfl,_,rfl,ha,fa,_,_,rfl,bV.of Qu,bV.of SO,by rw[bw,aJ];lia,fun D4 qx=>?_⟩;refine DE (K:=K) (xs:=NV homes) (ys:=fs.map oV) (by rw[bw,aJ];lia) (fun i zz σ H3=>(∃u v,σ=[u,v])/\aF H H3/\H3 D4=some (.lst zz)/\zz=((u7 homes fs).map oV).take i) ⟨⟨_,_,rfl⟩,ai qx,af,rfl⟩ (fun i zz σ H _ z=>⟨bV.of (z.2.1 _ _ Qu),bV.of (z.2.1 _ _ SO)⟩) ?_ ?_
  .rintro i x y pp zz σ H5 Kt Kf hx hy ⟨⟨u,v,rfl⟩,Es,so,rfl⟩ V_ kt kf;have SS:i<fs.length:=by have:=(dw.mp hx).1;rw[bw] at this;lia
   rw[sn (by lia)] at hx;obtain rfl:=be hx;rw[l7 SS] at hy;obtain rfl:=be hy;have sp:=ai (o:=.tup [.int ((homes.getD i 0:Nat):Int),oV (fs.getD i none)]) V_;have one:=HI (homes:=homes) (fs:=fs) SS;have lt:(((u7 homes fs).map oV).take i).length<sizeLine:=dX (List.length_take_le' _ _) (by rw[aJ,iy];exact dX ES (by decide));refine⟨pp,_,rfl,bV.of af,rfl,_,_,rfl,_,_,rfl,rfl,?_⟩;refine⟨_,rfl,_,rfl,Mc,_,rfl,?_⟩;rw[Qs];have go:∀v,((u7 homes fs).map oV)[i]?=some v->∀σ2,(∃u v,σ2=[u,v])->Kt v σ2 (upd H5 pp (.tup [.int ((homes.getD i 0:Nat):Int),oV (fs.getD i none)])):=fun v hv σ2 sh=>kt v σ2 _ (sp _ _ so) lt ⟨sh,a_ (Es.trans sp) qx,af,by rw[gk,hv];rfl⟩;by_cases c:fs.getD i none=some (homes.getD i 0)
   .rw[if_pos c] at one;rw[cR c];exact C3 (go _ one _ ⟨_,_,rfl⟩)
   .rw[am c] at one;rw[cM c];exact gg ⟨_,rfl,go _ one _ ⟨_,_,rfl⟩⟩
  .rintro zz σ H5 ⟨_,Es,so,rfl⟩;rw[bw,show homes.length=((u7 homes fs).map oV).length by rw[aJ,iy];exact hl,iW] at so;refine⟨D4,_,rfl,.inl ⟨aM.of so,fun t ht=>?_⟩⟩;exact q t _ (Es.trans (ai ht)) af
theorem Qv:aE ["row","at","thing"] ["row","at","thing"] (ap Ma):=⟨rfl,rfl,rfl,by decide +kernel,rfl,by decide +kernel,by decide +kernel⟩
def ET:Sp:=fun vs H Q _=>∃ (a:Addr) (l:Nat) (o:Option Nat) (st:List (Option Nat)),vs=[.ref a,.int l,oV o]/\H a=some (.tup (st.map oV))/\l<st.length/\st.length<=16/\∀t H',aF H H'->H' t=some (.tup ((st.set l o).map oV))->Q (.ref t) H'
theorem Me{f:Addr}{fd:FuncData}(F:fJ K "replaced" "replaced" Ma f fd):bz P w K mg base bf 1 f fd ["row","at","thing"] ET:=by
 refine F.ok Qv (fun vs H Q E h=>?_) (fun dU A outer s H vs Q E hr h=>?_)
 .obtain⟨a,l,o,st,rfl,_⟩:=h;rfl
 .obtain⟨a,l,o,st,rfl,hS,hl,ES,q⟩:=h;refine⟨_,(ao (aX (bJ Aj (bJ Aj (cS l4 (pv 0) dO (dP (pv 1))) (fX (aa (pv 2) ag))) (cS l4 (pv 0) (dP (bJ eE (pv 1) av)) dO)))),?_⟩;refine⟨_,rfl,_,rfl,_,rfl,a,_,rfl,hS,fun r1 H1 s1 h1=>⟨_,rfl,by show 1<=sizeLine;decide,fun r2 Y4=>?_⟩⟩;rw[uG] at h1;have s2:=ai (o:=.tup [oV o]) Y4;refine⟨r1,r2,_,_,rfl,rfl,s2 _ _ h1,af,?_,fun r3 H3 s3 h3=>?_⟩
  .rw[cf,aJ];exact bj (show _<=17 by show min l st.length+1<=17;lia) (by decide)
  refine⟨_,rfl,_,rfl,_,_,rfl,rfl,_,rfl,a,_,rfl,s3 _ _ (s2 _ _ (s1 _ _ hS)),fun r4 H4 s4 h4=>?_⟩;rw[show ((l:Int)+1)=((l+1:Nat):Int) by lia,we] at h4;refine⟨r3,r4,_,_,rfl,rfl,s4 _ _ h3,h4,?_,fun r5 H5 s5 h5=>?_⟩
  .rw[cV,cf,lq,aJ];exact bj (show _<=40 by show min l st.length+1+_<=40;lia) (by decide)
  rw[HJ hl] at h5;exact q r5 H5 ((((s1.trans s2).trans s3).trans s4).trans s5) h5
theorem JJ:aE ["net","plan","stand","letter","start"] ["net","plan","stand","letter"] (ap Mb):=⟨rfl,rfl,rfl,by decide +kernel,rfl,by decide +kernel,by decide +kernel⟩
def Aw(C:Addr):Sp:=fun vs H Q _=>∃ (L:Addr->Prop) (px pa sa:Addr) (n:Nat) (ts:Ts) (pl:List iT) (l:Nat) (st:List (Option Nat)),vs=[.ref px,.ref pa,.ref sa,.int l]/\cL C H L px n ts/\f_ H pa pl/\nN n pl/\H sa=some (.tup (st.map oV))/\l<pl.length/\st.length=pl.length/\
 (∀H',st.count (some (jC pl l).2.1)<(di n ts (jC pl l).2.1).length->∀t,aF H H'->H' t=some (.tup ((st.set l (some (jC pl l).2.1)).map oV))->Q (.ref t) H')/\(∀H',¬ st.count (some (jC pl l).2.1)<(di n ts (jC pl l).2.1).length->aF H H'->Q .bE H')
theorem f_.row{H:Hp}{a:Addr}{pl:List iT}(h:f_ H a pl){l:Nat}(hl:l<pl.length):∃ (as:List Addr) (b:Addr),H a=some (.lst (as.map V.ref))/\qQ (as.map V.ref) (l:Int)=some (.ref b)/\(as.map V.ref)[l]?=some (.ref b)/\H b=some (Ho (jC pl l)):=by
 obtain⟨as,a1,a2,a3⟩:=h;have e:(as.map V.ref)[l]?=some (.ref (as.getD l 0)):=by rw[cw,aT,bh (by lia)];rfl
 exact⟨as,as.getD l 0,a1,aw e,e,a3 l _ (by unfold jC;rw[aT,bh hl];rfl)⟩
theorem Mf{f C:Addr}{fd:FuncData}(F:fJ K "enter" "enter" Mb f fd)(B:Bl mg)(T:NT K mg C)(MO:kU P w K mg base bf 5 C "out" ["self","house"] (uu C))(RE:cQ P w K mg base bf 1 "replaced" ["row","at","thing"] ET):bz P w K mg base bf 6 f fd ["net","plan","stand","letter"] (Aw C):=by
 obtain⟨fO,fdO,mO,bO,GO⟩:=MO.ex;refine F.ok JJ (fun vs H Q E h=>?_) (fun dU A outer s H vs Q E hr h=>?_)
 .obtain⟨L,px,pa,sa,n,ts,pl,l,st,rfl,_⟩:=h;rfl
 .obtain⟨L,px,pa,sa,n,ts,pl,l,st,rfl,N,PA,oC,hS,hl,sl,q1,q2⟩:=h;have h1:b9 1 _:=hr.mono (by decide);have h5:b9 5 _:=hr.mono (by decide);refine⟨_,(ah (aS (i:=4) JJ.nd rfl (Or.inl rfl) (ba e_ (ba aR (pv 1) (pv 3) (fun _ _=>rfl)) av (fun _ _=>rfl)))
   (ah (cr (aK Op (L_ PySem.F.plainAttrs_tuple PySem.F.slot_tuple_count PySem.F.type_tuple_count BQ (pv 2) (aa (pv 4) ag)) (aA az (by rfl) B.len cB (aa (fF (pv 0) T.cl mO GO h5 bO .nil aI (aa (pv 4) ag)) ag)) (aU _)) (ao (aX dI)) bg)
   (ao (aX (aB RE h1 aI (aa (pv 2) (aa (pv 3) (aa (pv 4) ag)))))))),?_⟩
  obtain⟨as,b,a1,a2,_,a3⟩:=PA.row hl;obtain⟨o1,_,_⟩:=oC.hs _ (jP hl);have ES:=oC.len;refine⟨_,rfl,_,rfl,pa,_,_,_,rfl,rfl,aM.of a1,a2,b,_,_,_,rfl,rfl,bV.of a3,aw (j:=1) rfl,?_⟩;generalize (jC pl l).2.1=y at *;obtain⟨dx,fs,i1,i2,i3⟩:=N.Hv;refine⟨_,rfl,⟨sa,_,rfl,hS⟩,_,rfl,sa,_,_,rfl,rfl,hS,rfl,uO,_,rfl,px,dx,fs,rfl,i1,i3,_,rfl,L,px,n,ts,y,rfl,N,o1,fun r1 H1 s1 NG g1=>?_⟩;refine⟨r1,_,rfl,.inl (aM.of g1),_,_,rfl,rfl,_,rfl,?_⟩;rw[Ey,bw];refine gK (fun e=>?_) (fun e=>?_)
  .exact q2 H1 (by have:=of_decide_eq_true e;lia) s1
  .refine⟨_,rfl,_,rfl,_,rfl,sa,l,some y,st,rfl,s1 _ _ hS,by lia,by lia,fun t H2 s2 h2=>?_⟩;refine q1 H2 ?_ t (s1.trans s2) h2;rcases pL (st.count (some y)) (di n ts y).length with z|z
   .exact z
   .exact absurd (cR (by lia)) e
theorem Wa:aE ["entries","stand"] ["entries","stand"] (ap V8):=⟨rfl,rfl,rfl,by decide +kernel,rfl,by decide +kernel,by decide +kernel⟩
def Mg:Sp:=fun vs H Q _=>∃ (ea sa:Addr) (es st:List (Option Nat)),vs=[.ref ea,.ref sa]/\H ea=some (.lst (es.map oV))/\H sa=some (.tup (st.map oV))/\st.length<=16/\∀ (u:Bool) H',(u=true↔EM (es,st))->aF H H'->Q (.bl u) H'
theorem Qw{f:Addr}{fd:FuncData}(F:fJ K "is_unfinished" "is_unfinished" V8 f fd)(B:Bl mg)(UW:cQ P w K mg base bf 1 "under_way" ["stand"] Hs):bz P w K mg base bf 2 f fd ["entries","stand"] Mg:=by
 refine F.ok Wa (fun vs H Q E h=>?_) (fun dU A outer s H vs Q E hr h=>?_)
 .obtain⟨ea,sa,es,st,rfl,_⟩:=h;rfl
 .obtain⟨ea,sa,es,st,rfl,hE,hS,ES,q⟩:=h;have h1:b9 1 _:=hr.mono (by decide);refine⟨_,(ao (aX (Oe (io rF dI (pv 0) rfl) (mU (io zg (aA az (by rfl) B.len cB (aa (aB UW h1 aI (aa (pv 1) ag)) ag)) av (aU _)))))),?_⟩;refine⟨_,rfl,ea,_,rfl,.inl (aM.of hE),rfl,uO,?_⟩;rw[ER];by_cases c:none∈es
  .rw[cR c];exact⟨true,rfl,by rw[if_pos rfl];exact q true H ⟨fun _=>.inl c,fun _=>rfl⟩ (aF.refl _)⟩
  .rw[cM c];refine⟨false,rfl,?_⟩;rw[am (by decide)];refine⟨_,rfl,sa,st,rfl,hS,ES,fun r H1 s1 h1=>⟨r,_,rfl,.inl (aM.of h1),_,_,rfl,rfl,?_⟩⟩;rw[bw];refine q _ H1 ⟨fun e=>.inr (Av.mp (by have:=of_decide_eq_true e;lia)),fun e=>cR ?_⟩ s1;rcases e with z|z
   .exact absurd z c
   .have:=Av.mpr z;lia
end
end uq
namespace L2
open PySem PySem.Spec PyProof.Rows
def bY(cells:List (Str×Addr))(a:Addr):Prop:=∃x,cells.lookup x=some a
abbrev iN(h0:Heap)(b:Addr):HO:=.ext fun h=>h.get? b=h0.get? b
open Classical in
noncomputable def iA(S:Addr->Prop)(h0:Heap)(H:Hp):Hp:=fun b=>if S b then some (iN h0 b) else H b
open Classical in
noncomputable def wL(S:Addr->Prop)(H:Hp):Hp:=fun b=>if S b then none else H b
section
variable {S:Addr->Prop} {h0 h h':Heap} {H H':Hp} {b:Addr} {P:Program} {w:World} {fs:List Addr}
theorem md(e:S b):iA S h0 H b=some (iN h0 b):=if_pos e
theorem bN(e:¬ S b):iA S h0 H b=H b:=am e
theorem nR(e:S b):wL S H b=none:=if_pos e
theorem dE(e:¬ S b):wL S H b=H b:=am e
theorem ge(e:H b=none):wL S H b=none:=by
 by_cases c:S b
 .exact nR c
 .rw[dE c];exact e
theorem Ax(x:iO P w H h)(l:∀a,S a->H a=some (iN h0 a)):iO P w (wL S H) h:=fun a o e=>by
 by_cases c:S a
 .rw[nR c] at e;cases e
 .rw[dE c] at e;exact(x a o e).mP (fun _ _ _ q=>q) (fun d q=>by rw[dE fun z=>by rw[l d z] at q;cases q];exact q) fun d xs q=>by rw[dE fun z=>by rw[l d z] at q;cases q];exact q
theorem wf(x:iO P w H h)(l:∀a,S a->H a=none/\h.get? a=h0.get? a/\∃o,h0.get? a=some o):iO P w (iA S h0 H) h:=fun a o e=>by
 by_cases c:S a
 .rw[md c] at e;cases e;obtain⟨_,e1,o,e2⟩:=l a c;exact⟨e1,⟨o,e1.trans e2⟩,fun h1 h2 z k=>(k o (z.trans e2)).trans e2.symm⟩
 .rw[bN c] at e;exact(x a o e).mP (fun _ _ _ q=>q) (fun d q=>by rw[bN fun z=>by rw[(l d z).1] at q;cases q];exact q) fun d xs q=>by rw[bN fun z=>by rw[(l d z).1] at q;cases q];exact q
theorem Mh(u:Un fs [] (iA S h0 H) H' h h')(l:∀a,S a->H a=none/\h.get? a=h0.get? a/\a∉fs)(l':∀a,S a->h'.get? a=h0.get? a):Un fs [] H (wL S H') h h' where
 keep:=fun b o e n hb hx=>by
  by_cases c:S b
  .rw[l' b c,<-(l b c).2.1];exact e
  .exact u.keep b o e (by rw[bN c];exact n) hb hx
 slot:=fun b o e n hb hx=>u.slot b o e (by rw[bN fun z=>(l b z).2.2 hb];exact n) hb hx
 free:=fun b o e n hx=>by
  by_cases c:S b
  .exact nR c
  .exact ge (u.free b o e (by rw[bN c];exact n) hx)
 there:=u.there
 kC:=fun b xs e=>by
  have c:¬ S b:=fun z=>by rw[(l b z).1] at e;cases e
  rw[dE c];exact u.kC b xs (by rw[bN c];exact e)
 mQ:=fun b o v e=>by
  have c:¬ S b:=fun z=>by rw[(l b z).1] at e;cases e
  rw[dE c];exact u.mQ b o v (by rw[bN c];exact e)
 mS:=fun b ps e=>by
  have c:¬ S b:=fun z=>by rw[(l b z).1] at e;cases e
  rw[dE c];exact u.mS b ps (by rw[bN c];exact e)
theorem HK(u:Un fs [] (wL S H) H' h h')(l:∀a,S a->H a=some (iN h0 a)):Un fs [] H (iA S h0 H') h h' where
 keep:=fun b o e n hb hx=>u.keep b o e (ge n) hb hx
 slot:=fun b o e n hb hx=>u.slot b o e (ge n) hb hx
 free:=fun b o e n hx=>by
  have c:¬ S b:=fun z=>by rw[l b z] at n;cases n
  rw[bN c];exact u.free b o e (ge n) hx
 there:=u.there
 kC:=fun b xs e=>by
  have c:¬ S b:=fun z=>by rw[l b z] at e;cases e
  rw[bN c];exact u.kC b xs (by rw[dE c];exact e)
 mQ:=fun b o v e=>by
  have c:¬ S b:=fun z=>by rw[l b z] at e;cases e
  rw[bN c];exact u.mQ b o v (by rw[dE c];exact e)
 mS:=fun b ps e=>by
  have c:¬ S b:=fun z=>by rw[l b z] at e;cases e
  rw[bN c];exact u.mS b ps (by rw[dE c];exact e)
end
structure wg(cells:List (Str×Addr))(h0:Heap)(H:Hp):Prop where
 inj:∀x y c,cells.lookup x=some c->cells.lookup y=some c->x=y
 at_:∀a,bY cells a->H a=some (iN h0 a)
 cell:∀x c,cells.lookup x=some c->∃v,h0.IsCell c v
theorem wg.mono{cells:List (Str×Addr)}{h0:Heap}{H H':Hp}(l:wg cells h0 H)(s:∀a,bY cells a->H a=some (iN h0 a)->H' a=some (iN h0 a)):wg cells h0 H':=⟨l.inj,fun a c=>s a c (l.at_ a c),l.cell⟩
def wm(cells:List (Str×Addr))(h0:Heap)(x:Str)(v:V):Prop:=∃u c,bn v u/\cells.lookup x=some c/\h0.IsCell c (some u)
def Mi(X:Cx)(sp:Sp)(t:TA):TE:=fun σ H Q=>t σ H fun vs H1=>(∀a,bY X.env.cells a->H1 a=none)->∀h0:Heap,wg X.env.cells h0 (iA (bY X.env.cells) h0 H1)->(∀ (i:Nat) (x:Str) (v:V),X.N[i]?=some x->σ[i]?=some (some v)->X.env.scope.names.lookup x=some .cell->wm X.env.cells h0 x v)->
 sp vs (iA (bY X.env.cells) h0 H1) (fun v H'=>(∀a,bY X.env.cells a->H' a=some (iN h0 a))/\Q v (wL (bY X.env.cells) H')) E0
section
variable {X:Cx} {k:Nat} {x:Str} {ps:List Str} {sp:Sp} {e:Expr} {es:List Expr} {t:TA} {p pos:Pos}
theorem HL(C:cQ X.prog X.w X.K X.mg X.base bf k x ps sp)(hr:b9 k X.A)(N_:X.fn=fun _=>true)(hex:X.ex=[])(ha:PA X (e::es) t)(hg:Gl X x:=by rfl)(xR:(x==("__debug__":Str))=false:=by decide)(he:starEach (e::es) X.env=(false,eval e X.env)::starEach es X.env:=by rfl)(wG:(backTo pos (starEach es X.env)).any (·.1)=false:=by rfl):
  PE X (.Call (.Name x p) (e::es) [] pos) (Mi X sp t):=by
 obtain⟨f,fd,hm,hk,hb,F⟩:=C.ex;intro ae s σ H Q I h;refine iY (lu I hg hm ?_ xR);refine sO (h₀:=X.base) I.ok.mod.Ni hk (b_ (ha pos ae s σ H _ I h) fun us s1 ⟨vs,H1,I1,r,q⟩=>⟨I1.jW,?_⟩) he wG;have cF:∀a,bY X.env.cells a->H1 a=none/\(∃o,s1.heap.get? a=some o)/\a∉AI X.stack/\X.base.get? a=none:=fun a ⟨y,ey⟩=>by
  obtain⟨v,o,ho,hd⟩:=I1.cell y a ey;have ab:=I1.ok.Nj y a (by rw[N_]) ey;refine⟨I1.ji y a ey,⟨o,ho⟩,fun kJ=>?_,ph (bj I1.ok.BX ab)⟩;rcases aV.mp (I1.pT a kJ) with z|z
  .exact I1.IJ y a ey z
  .obtain⟨_,o',AJ,_⟩:=I1.ok.mT.mem z;exact absurd (bS (aQ AJ) ab) (gx _)
 have L:wg X.env.cells s1.heap (iA (bY X.env.cells) s1.heap H1):=⟨I1.ok.inj,fun a c=>md c,I1.cell⟩
 have q':=q (fun a c=>(cF a c).1) s1.heap L fun i y v h1 h2 h3=>by
  obtain⟨m,_,hl⟩:=I1.loc;obtain⟨u,ru,lk⟩:=hl i y v h1 h2 (.inr (.inl h3));rcases lk with ⟨z,_⟩|⟨_,c,e1,e2⟩
  .have z:X.env.scope.names.lookup y=some .local:=z;rw[h3] at z;cases z
  .exact⟨u,c,ru,e1,e2⟩
 have E0':vf X.prog X.w X.K X.mg X.base X.A X.stack s1 (iA (bY X.env.cells) s1.heap H1):=by
  obtain⟨e1,e2,e3,e4,e5,e6,e7,e8⟩:=I1.Kp;refine⟨e1,e2,fun b o eb=>⟨(e3 b o eb).1,?_⟩,e4,e5,fun b kJ=>?_,wf e7 fun a c=>⟨(cF a c).1,rfl,(cF a c).2.1⟩,e8⟩
  .rw[bN fun z=>by rw[(cF b z).2.2.2] at eb;cases eb];exact(e3 b o eb).2
  .rw[bN fun z=>(cF b z).2.2.1 kJ];exact e6 b kJ
 have hl:us.length=ps.length:=by rw[<-r.length];exact F.len _ _ _ _ q'
 have kJ:=hb s1 us I1.jW (by rw[jV];exact hl);rw[jV] at kJ;refine kr (kq (F.run X.A X.stack s1 _ ⟨us,[]⟩ us vs _ E0 hr E0' kJ r q') fun rr s' hq=>?_);cases rr with
 |error e=>exact hq.elim
 |ok fl=>
  cases fl with
  |ret u=>
   obtain⟨v,H',os,bare,un,bB,rv,k1,k2⟩:=hq;have l':∀a,bY X.env.cells a->s'.heap.get? a=s1.heap.get? a:=fun a c=>(bB a _ (k1 a c)).1;exact I1.after ⟨v,wL _ H',os,bare,Mh un (fun a c=>⟨(cF a c).1,rfl,(cF a c).2.2.1⟩) l',Ax bB k1,rv,k2⟩
  |next=>exact False.elim hq
  |brk=>exact False.elim hq
  |cont=>exact False.elim hq
end
def uP(scope:Scope)(dh:List (Str×Addr))(qual:Str)(f c L:Addr):Env:=
 { scope:=scope,locals:=L,globals:=mainGlobals,cells:=dh,qual:=qual++".<locals>.",func:=some f,code:=.ref c,frame:=some L,builtins:=builtinsNs }
def yY(X:Cx)(NB:List Str)(scope:Scope)(dh:List (Str×Addr))(qual:Str)(f c:Addr)(s:Shared)(H:Hp):Cx:=
 { X with A:=X.A.deeper (uP scope dh qual f c s.heap.objs.size),N:=NB,s₀:=s,H₀:=H,env:=uP scope dh qual f c s.heap.objs.size,outer:=X.stack,stack:=uP scope dh qual f c s.heap.objs.size::X.stack,ex:=[],fn:=fun _=>false,pn:=[],xe:=fun _ _=>False }
structure Ay(NB:List Str)(nP:Nat)(scope:Scope)(qual:Str)(params:Arguments)(body:Expr):Prop where
 kind:scope.kind=.function
 nd:NB.Nodup
 bind:∀dh pm c ud us,us.length=nP->bindArgs (PySem.W.kla_fn "<lambda>" qual params body scope dh pm (.ref c) ud) ⟨us,[]⟩=pure ((NB.take nP).zip us)
 par:∀x∈NB.take nP,scope.names.lookup x=some .local
 fr:∀i x,nP<=i->NB[i]?=some x->scope.names.lookup x=some .free
 ue:∀z∈scope.names,z.2≠.cell
 co:scope.isCoroutine=false
 gen:scope.isGenerator=false
theorem wo{x:Str}{v:Value}:∀ {l:List (Str×Value)},(l.map (·.1)).Nodup->(x,v)∈l->l.lookup x=some v
 |(y,u)::l,nd,h=>by
  obtain⟨n1,n2⟩:=eU.mp nd;rcases aV.mp h with z|z
  .injection z with z1 z2;rw[z1,z2,eS,xj]
  .have ne:x≠y:=fun e=>n1 (by rw[<-e];exact bH.mpr ⟨_,z,rfl⟩);rw[eS,show (x==y)=false by simpa using ne];exact wo n2 z
theorem EU{x:Str}{v:Value}{l:List Str}{us:List Value}{i:Nat}(nd:l.Nodup)(hl:l.length<=us.length)(h1:l[i]?=some x)(h2:us[i]?=some v):(l.zip us).reverse.lookup x=some v:=by
 refine wo ?_ (List.mem_reverse.mpr (cU (i:=i) ?_))
 .rw[List.map_reverse,List.map_fst_zip hl];exact(sV l).nodup_iff.mpr nd
 .rw[List.getElem?_zip_eq_some];exact⟨h1,h2⟩
section
variable {X:Cx} {ae:List (Addr×Obj)} {σ:St} {H:Hp} {s:Shared} {NB:List Str} {nP:Nat} {scope:Scope} {qual:Str} {params:Arguments} {body:Expr} {dh cells:List (Str×Addr)} {f c:Addr} {h₁ h0:Heap} {t₁:Nat} {vs ws:List V} {us:List Value}
theorem EV(I:aD X ae σ H s)(S:Ay NB nP scope qual params body)(hd:X.A.handled=none)(SU:X.calm=true)(c1:∀x c,dh.lookup x=some c->cells.lookup x=some c)(c2:∀x,(x,NameKind.free)∈scope.names->∃c,dh.lookup x=some c)(L:wg cells h0 H)(hw:∀ (i:Nat) (x:Str) (v:V),NB[nP+i]?=some x->ws[i]?=some v->wm cells h0 x v)(hn:h₁.Ns s.heap.objs.size (fun x=>((NB.take nP).zip us).reverse.lookup x))(hk:∀b o,s.heap.get? b=some o->h₁.get? b=some o)(rv:aP vs us)(hv:vs.length=nP)(dt:nP+ws.length=NB.length):
  aD (yY X NB scope dh qual f c s (wL (bY cells) H)) [] ((vs++ws).map some) (wL (bY cells) H) { s with heap:=h₁,toks:=t₁ }:=by
 have inS:∀ {x c},dh.lookup x=some c->bY cells c:=fun {x c} e=>⟨x,c1 x c e⟩
 have at0:∀a,bY cells a->s.heap.get? a=h0.get? a:=fun a z=>(I.bB a _ (L.at_ a z)).1;have p8:∀x c v,cells.lookup x=some c->h0.IsCell c v->h₁.IsCell c v:=fun x c v e ⟨o,ho,J9⟩=>⟨o,hk _ _ ((at0 c ⟨x,e⟩).trans ho),J9⟩
 refine⟨⟨I.ok.mod,S.kind,rfl,rfl,aY _,fun x y c e1 e2=>L.inj x y c (c1 x c e1) (c1 y c e2),fun x hx=>?_,(fun x c z e=>by cases z),fun _=>hd,Around.frames_deeper I.ok.frames,.inr ⟨rfl,rfl⟩,(fun b hb=>by cases hb),fun b o e=>⟨(I.bs b o e).1,ge (I.bs b o e).2⟩,bj I.ok.BX I.sz,(fun b o e hb=>by cases hb),(fun b hb=>by cases hb),I.stack,fun b hb=>ge (I.oJ b hb)⟩,
  rfl,I.bare,Un.kept hk,⟨_,hn,fun i x w e1 e2 e3=>?_⟩,fun x c e=>?_,ge (I.bB.fresh (aY _)),fun x c e=>nR (inS e),fun p hp=>absurd (show p∈([]:List (Addr×Obj)) from hp) (by simp),(Ax I.bB L.at_).kept hk,?_⟩
 .have hx:scope.names.lookup x=some .cell\/scope.names.lookup x=some .free:=hx;rcases hx with z|z
  .exact absurd rfl (S.ue _ (iV z))
  .exact c2 x (iV z)
 .have e1:NB[i]?=some x:=e1;have e2:(vs++ws)[i]?=some w:=by
   rw[cw] at e2;obtain⟨w',h1,h2⟩:=wV.mp e2;rw[h1];exact h2
  by_cases hi:i<nP
  .rw[fP (by rw[hv];exact hi)] at e2;obtain⟨u,hu,ru⟩:=rv.get e2;have hp:(NB.take nP)[i]?=some x:=by rw[lh hi];exact e1
   have hx:x∈NB.take nP:=cU hp;refine⟨u,ru,.inl ⟨S.par x hx,?_⟩⟩;exact EU (S.nd.sublist (mx _ _)) (by rw[<-rv.length,hv];exact j_ _ _) hp hu
  .rw[k8 (by rw[hv];lia),hv] at e2;obtain⟨u,c',ru,ec,hc⟩:=hw (i-nP) x w (by rw[show nP+(i-nP)=i by lia];exact e1) e2;have hF:=S.fr i x (by lia) e1;obtain⟨SV,Qx⟩:=c2 x (iV hF);have:SV=c':=by have:=c1 x SV Qx;rw[ec] at this;exact(be this).symm
   subst this;exact⟨u,ru,.inr ⟨.inr hF,SV,Qx,p8 x SV _ ec hc⟩⟩
 .obtain⟨v,xK⟩:=L.cell x c (c1 x c e);exact⟨v,p8 x c v (c1 x c e) xK⟩
 .show ((vs++ws).map some).length=NB.length;rw[aJ,cV,hv];exact dt
def JK(nP:Nat)(scope:Scope)(qual:Str)(params:Arguments)(body:Expr)(NB:List Str)(te:TE)(f:Addr)(vs:List V)(H:Hp)(Q:VK):Prop:=∃ (cells:List (Str×Addr)) (c:Addr) (h0:Heap) (ws:List V),H f=some (qc f qual params body scope cells c)/\H c=some (og c qual)/\vs.length=nP/\nP+ws.length=NB.length/\wg cells h0 H/\
 (∀ (i:Nat) (x:Str) (v:V),NB[nP+i]?=some x->ws[i]?=some v->wm cells h0 x v)/\te ((vs++ws).map some) (wL (bY cells) H) fun v H'=>(∀a,bY cells a->H' a=none)->Q v (iA (bY cells) h0 H')
theorem HN{te:TE}{Q:VK}{k:Nat}(hr:b9 k X.A)(SU:X.calm=true)(S:Ay NB nP scope qual params body)(I:aD X ae σ H s)(rv:aP vs us)(hb:∀dh c s H,PE (yY X NB scope dh qual f c s H) body te)(h:JK nP scope qual params body NB te f vs H Q):
  wpAny (model X.prog X.w) X.A (call (.ref f) us) (EP X ae σ Q) X.xe s:=by
 obtain⟨cells,c,h0,ws,hf,hc,hv,dt,L,hw,h⟩:=h;obtain⟨dh,pm,ud,c1,c2,KB⟩:=(I.bB f _ hf).1;have Ux:s.heap.CodeRec (.ref c) qual:=(I.bB c _ hc).1;have Dm:X.A.depth<recursionLimit:=by have:=hr.dp;lia
 have hul:us.length=nP:=by rw[<-rv.length];exact hv
 refine kr (PySem.W.kla_callFunE Dm KB rfl S.co S.gen rfl Ux ?_);rw[S.bind _ _ _ _ _ hul];refine wpAny_pure (wpAny_newFunctionEnv S.ue (fun x hx=>?_) (fun h₁ KP O7=>⟨I.nolimit.fresh _ O7,?_⟩) S.kind)
 .exact S.par _ (mH hx).1
 have KQ:∀b o,s.heap.get? b=some o->h₁.get? b=some o:=fun b o e=>O7.extBut b o (a8 (aQ e)) (bQ _ e);refine PySem.W.kla_codeExpr ?_;have J:=EV (f:=f) (c:=c) (t₁:=s.toks+((NB.take nP).zip us).length) I S hr.hd SU c1 c2 L hw KP KQ rv hv dt;refine gC (hb dh c s _ [] _ _ _ _ J h) (fun w s' ⟨v',H',J',r',q'⟩=>?_) fun _ _ z=>z.elim;have kp:∀a,bY cells a->H' a=none/\s'.heap.get? a=h0.get? a/\∃o,h0.get? a=some o:=fun a z=>by
  obtain⟨y,ey⟩:=id z;have e0:s.heap.get? a=h0.get? a:=(I.bB a _ (L.at_ a z)).1;obtain⟨v,o,ho,_⟩:=L.cell y a ey;have es:s.heap.get? a=some o:=e0.trans ho;refine⟨J'.base.free a o es (nR z) (by intro z;cases z),?_,o,ho⟩;rw[ho];exact J'.base.keep a o es (nR z) (fun kJ=>by have:=I.oJ a kJ;rw[L.at_ a z] at this;cases this) (by intro z;cases z)
 exact⟨v',iA (bY cells) h0 H',I.IP (ch:=[]) J'.os (HK J'.base L.at_) (wf J'.bB kp) J'.bare (fun b hb=>by cases hb),r',q' fun a z=>(kp a z).1⟩
def Qy(i:Nat)(nP:Nat)(scope:Scope)(qual:Str)(params:Arguments)(body:Expr)(NB:List Str)(te:TE)(t:TA):TE:=fun σ H Q=>∃f,σ[i]?=some (some (.ref f))/\(∃cells c,H f=some (qc f qual params body scope cells c))/\t σ H fun vs H1=>JK nP scope qual params body NB te f vs H1 Q
theorem HP{te:TE}{k i:Nat}{x:Str}{e:Expr}{es:List Expr}{t:TA}{p pos:Pos}(hr:b9 k X.A)(SU:X.calm=true)(S:Ay NB nP scope qual params body)(hx:PE X (.Name x p) (aW i))(ha:PA X (e::es) t)(hb:∀f dh c s H,PE (yY X NB scope dh qual f c s H) body te)(he:starEach (e::es) X.env=(false,eval e X.env)::starEach es X.env:=by rfl)(wG:(backTo pos (starEach es X.env)).any (·.1)=false:=by rfl):
  PE X (.Call (.Name x p) (e::es) [] pos) (Qy i nP scope qual params body NB te t):=by
 intro ae s σ H Q I h;obtain⟨f,hσ,⟨cells,c,hf⟩,h⟩:=h;have fn:∀ {s:Shared} {H:Hp} {cells:List (Str×Addr)} {c:Addr},iO X.prog X.w H s.heap->H f=some (qc f qual params body scope cells c)->PySem.W.FnAt f s.heap:=fun {s H cells c} bB hf=>by
  obtain⟨dh,pm,ud,_,_,e⟩:=(bB f _ hf).1;exact⟨_,_,_,_,e⟩
 refine iY (b_ (hx ae s σ H (fun v H1=>v=.ref f/\H1=H) I ⟨_,hσ,rfl,rfl⟩) fun u s1 ⟨v,H1,I1,r1,ev,eH⟩=>?_);subst ev;subst eH;cases r1;refine PySem.W.callWith_F (fn I1.bB hf) (b_ (ha pos ae s1 σ H1 _ I1 h) fun us s2 ⟨vs,H2,I2,r,q⟩=>⟨?_,?_⟩) he wG
 .obtain⟨Wb,c',_,_,zE,_⟩:=id q;exact fn I2.bB zE
 .exact HN hr SU S I2 r (hb f) q
end
end L2
namespace uq
open PySem L2 kQ
abbrev Wc:Stmt:=top 25
abbrev Wd:Stmt:=top 27
abbrev HQ:Stmt:=top 24
def Az:Expr:=match (bA HQ).getD 7 (.Pass ⟨0,0,0,0⟩) with
 |.While _ (.Assign _ (.Call _ (_::_::_::_::k::_) _ _) _::_) _ _=>k
 |_=>.Name "x" ⟨0,0,0,0⟩
def wq:Arguments:=match Az with
 |.Lambda a _ _ _=>a
 |_=>{ posonlyargs:=[],args:=[],vararg:=none,kwonlyargs:=[],kw_defaults:=[],kwarg:=none,defaults:=[] }
def wr:Expr:=match Az with
 |.Lambda _ b _ _=>b
 |e=>e
def EW:Scope:=match Az with
 |.Lambda _ _ s _=>s
 |_=>{ kind:=.function,names:=[],isGenerator:=false,isCoroutine:=false }
def HR:Pos:=match Az with
 |.Lambda _ _ _ p=>p
 |_=>⟨0,0,0,0⟩
def HS:Str:=("let_in_run":Str)++".<locals>."++"<lambda>"
abbrev uQ(Pt:Addr)(H:Hp):Prop:=cu HR HS Pt H
abbrev Y7:List Str:=["here","letter","net","plan"]
theorem Mj:Ay Y7 2 EW HS wq wr:=by
 refine⟨rfl,by decide +kernel,fun dh pm c ud us hl=>?_,by decide +kernel,fun i x hi hx=>?_,by decide +kernel,rfl,rfl⟩
 .match us,hl with
  |[_,_],_=>rfl
 .match i,hi,hx with
  |2,_,hx=>cases hx;rfl
  |3,_,hx=>cases hx;rfl
theorem wt{S:Addr->Prop}{h0:Heap}{H H':Hp}(n:∀a,S a->H a=some (iN h0 a))(s:aF (wL S H) H'):aF H (iA S h0 H'):=fun b o e=>by
 by_cases c:S b
 .rw[md c,<-e,n b c]
 .rw[bN c];exact s b o (by rw[dE c];exact e)
theorem uR{S:Addr->Prop}{h0:Heap}{H:Hp}{b:Addr}{o:HO}(n:∀a,S a->H a=some (iN h0 a))(e:H b=some o)(x:∀p,o≠.ext p):wL S H b=some o:=by
 rw[dE fun z=>by rw[n b z] at e;exact x _ (be e).symm];exact e
theorem wu{n:Nat}{ts:Ts}{pl:List iT}{b i:Nat}{es st:List (Option Nat)}(h:(ic n ts pl b i es st).2.2=true):∀d,ic n ts pl b (i+d) es st=ic n ts pl b i es st
 |0=>rfl
 |d+1=>by
  have e:ic n ts pl b (i+(d+1)) es st=qL n ts pl b (ic n ts pl b (i+d) es st) (i+d):=by
   unfold ic;rw[<-tG,fm,iD];rfl
  rw[e,wu h d];unfold qL;rw[if_pos (.inl h)]
theorem wv{n:Nat}{ts:Ts}{pl:List iT}{b i:Nat}{es st:List (Option Nat)}:ic n ts pl b (i+1) es st=qL n ts pl b (ic n ts pl b i es st) i:=by
 unfold ic;rw[fm,iD];rfl
theorem f_.j5{H H':Hp}{l e:Addr}{pl:List iT}{xs:List V}(h:f_ H l pl)(s:aL e H H')(he:H e=some (.lst xs))(n:l≠e):f_ H' l pl:=let ⟨as,a,b,c⟩:=h;⟨as,s _ _ a n,b,fun i r z=>s _ _ (c i r z) (by rintro rfl;have:=c i r z;rw[he] at this;cases this)⟩
theorem EX{A B:Prop}{b:Bool}(hb:b=true)(h:A):if b=true then A else B:=by rw[if_pos hb];exact h
theorem sr{A B:Prop}{b:Bool}(hb:b=false)(h:B):if b=true then A else B:=by rw[am (by rw[hb];decide)];exact h
section
variable {P:Program} {w:World} {K:PySem.W.Frag} {mg:Str->Option Value} {base:Heap}
theorem yZ:aE ["many","plan","earliest","row","beat","start","home"] ["many","plan"] (ap Wc):=⟨rfl,rfl,rfl,by decide +kernel,rfl,by decide +kernel,by decide +kernel⟩
def Ml:Sp:=fun vs H Q _=>∃ (n:Nat) (pa:Addr) (pl:List iT),vs=[.int n,.ref pa]/\f_ H pa pl/\nN n pl/\Q .bE H
theorem Qz{f:Addr}{fd:FuncData}(F:fJ K "check_plan" "check_plan" Wc f fd)(B:Bl mg)(RO:cQ P w K mg base bf 1 "is_row" ["thing","length"] (z_ K))(WH:cQ P w K mg base bf 1 "is_whole" ["thing"] (oW K))(UN:cQ P w K mg base bf 4 "are_unlike_houses" ["many","one","other"] Ag):bz P w K mg base bf 5 f fd ["many","plan"] Ml:=by
 refine F.ok yZ (fun vs H Q E h=>?_) (fun dU A outer s H vs Q E hr h=>?_)
 .obtain⟨n,pa,pl,rfl,_⟩:=h;rfl
 .obtain⟨n,pa,pl,rfl,PA,oC,k⟩:=h;have h1:b9 1 _:=hr.mono (by decide);have h4:b9 4 _:=hr.mono (by decide);refine⟨_,(ah (cr (gI (eY (aA jq (by rfl) B.ND rf (aa (pv 1) (aa (lw (v:=.ty "list") rfl B.lst nV rfl) ag))))) cC bg)
   (ah (aS (i:=2) yZ.nd rfl (Or.inl rfl) av)
   (ao (dA dR rfl (bF (pv 1)) (aq (i:=3) yZ.nd rfl (Or.inl rfl))
    (ah (cr (gI (eY (aB RO h1 aI (aa (pv 3) (aa av ag))))) cC bg)
    (ah (ik (pv 3) (dY (n:=3) rfl (aO (aq (i:=4) yZ.nd rfl (Or.inl rfl)) (aO (aq (i:=5) yZ.nd rfl (Or.inl rfl)) (aO (aq (i:=6) yZ.nd rfl (Or.inl rfl)) c_)))))
    (ah (cr (PW.pt (Cq (gI (eY (aB WH h1 aI (aa (pv 4) ag)))) (Cp (aK n0 (pv 4) (pv 2) (aU _))))) cC bg)
    (ah (cr (gI (eY (aB UN h4 aI (aa (pv 0) (aa (pv 5) (aa (pv 6) ag)))))) cC bg)
    (ao (aS (i:=2) yZ.nd rfl (Or.inl rfl) (pv 4))))))))))),?_⟩
  obtain⟨as,a1,a2,a3⟩:=id PA;refine⟨_,rfl,_,_,_,.type "list",true,rfl,⟨rfl,v1⟩,.of (.lst a1),_,rfl,gg ?_⟩;refine⟨_,rfl,pa,rfl,⟨_,aM.of a1⟩,fW (K:=K) (a:=pa) (xs:=as.map V.ref) (fun i σ H2=>H2=H/\∃e:Nat,(∀j,i<=j->j<pl.length->e<=(jC pl j).1)/\∃x3 x4 x5 x6,σ=[some (.int n),some (.ref pa),some (.int (e:Int)),x3,x4,x5,x6]) ⟨rfl,0,fun _ _ _=>cN _,_,_,_,_,rfl⟩ (fun i σ H2 _ ⟨e,_⟩=>by rw[e];exact aM.of a1) ?_ ?_⟩
  .rintro i x σ H2 hx ⟨rfl,e,he,x3,x4,x5,x6,rfl⟩;have hi:i<pl.length:=by have:=(dw.mp hx).1;rw[aJ] at this;lia
   obtain⟨oz,b,b1,b2,b3,b4⟩:=PA.row hi;obtain rfl:as=oz:=by
    have:=a1.symm.trans b1;exact sQ (f:=V.ref) (fun _ _ z=>V.ref.inj z) |>.mp (HO.lst.inj (be this))
   obtain rfl:x=.ref b:=be (hx.symm.trans b3);obtain⟨o1,o2,o3⟩:=oC.hs _ (jP hi);refine⟨_,rfl,_,_,_,rfl,.tup b4,_,rfl,?_⟩;refine gg ⟨_,rfl,b,_,rfl,bV.of b4,rfl,_,_,rfl,_,_,rfl,_,_,rfl,rfl,?_⟩;refine⟨_,rfl,_,_,rfl,.int _,_,rfl,gg ?_⟩;refine⟨_,rfl,_,rfl,_,_,rfl,rfl,_,rfl,sr (cM (by have:=he i (aY _) hi;lia)) ?_⟩;refine⟨_,rfl,_,rfl,_,rfl,_,_,_,rfl,by lia,by lia,by lia,by lia,by lia,_,rfl,gg ?_⟩;refine⟨_,rfl,rfl,(jC pl i).1,fun j hj Y8=>?_,_,_,_,_,rfl⟩;have SS:i<j:=hj;have:=wN.mp oC.up i j hi Y8 SS;unfold jC;rw[aT,aT,bh hi,bh Y8];exact this
  .rintro σ H2 ⟨rfl,_⟩;exact k
theorem EY:aE ["plan","entries","beat","state","entering","letter","row","entered"] ["plan","entries","beat","state","entering"] (ap Wd):=⟨rfl,rfl,rfl,by decide +kernel,rfl,by decide +kernel,by decide +kernel⟩
def Mm(C:Addr):Sp:=fun vs H Q _=>∃ (L:Addr->Prop) (px pa ea sa f c:Addr) (n:Nat) (ts:Ts) (pl:List iT) (es st:List (Option Nat)) (b:Nat) (cells:List (Str×Addr)) (h0:Heap) (H1:Hp),vs=[.ref pa,.ref ea,.int b,.ref sa,.ref f]/\H=iA (bY cells) h0 H1/\(∀a,bY cells a->H1 a=none)/\wg cells h0 H/\wm cells h0 "net" (.ref px)/\wm cells h0 "plan" (.ref pa)/\cL C H1 L px n ts/\¬ L ea/\f_ H1 pa pl/\pa≠ea/\nN n pl/\H1 ea=some (.lst (es.map oV))/\H1 sa=some (.tup (st.map oV))/\JF pl.length es st/\H1 f=some (qc f HS wq wr EW cells c)/\H1 c=some (og c HS)/\
 ∀ (t:Addr) (H':Hp),aL ea H H'->H' ea=some (.lst ((yX n ts pl b (es,st)).1.map oV))->H' t=some (.tup ((yX n ts pl b (es,st)).2.1.map oV))->Q (.ref t) H'
theorem QA{f C:Addr}{fd:FuncData}(F:fJ K "let_in" "let_in" Wd f fd)(B2:NL mg)(EN:cQ P w K mg base bf 6 "enter" ["net","plan","stand","letter"] (Aw C)):bz P w K mg base bf 8 f fd ["plan","entries","beat","state","entering"] (Mm C):=by
 refine F.ok EY (fun vs H Q E h=>?_) (fun dU A outer s H vs Q E hr h=>?_)
 .obtain⟨L,px,pa,ea,sa,f',c,n,ts,pl,es,st,b,cells,h0,H1,rfl,_⟩:=h;rfl
 .obtain⟨L,px,pa,ea,sa,f',c,n,ts,pl,es,st,b,cells,h0,H1,rfl,rfl,nS,LE,cn,cp,N,nLe,PA,NQ,oC,hE,hS,CL,hf,hc,q⟩:=h;have ES:=oC.len;have inj:aF H1 (iA (bY cells) h0 H1):=fun b o e=>by rw[bN fun z=>by rw[nS b z] at e;cases e];exact e
  have SW:¬ bY cells ea:=fun z=>by rw[nS _ z] at hE;cases hE
  have npx:px≠ea:=by obtain⟨dx,fs,a,_⟩:=N.Hv;rintro rfl;rw[a] at hE;cases hE
  refine⟨_,(ah (dA dR rfl (Gk rfl B2.enum (aa (pv 0) ag)) (dY (n:=2) rfl (aO (aq (i:=5) EY.nd rfl (Or.inl rfl)) (aO (aq (i:=6) EY.nd rfl (Or.inl rfl)) c_)))
    (ao (cr (aK xI (ba aR (pv 1) (pv 5) (fun _ _=>rfl)) dI (aU _)) (ah (aS (i:=7) EY.nd rfl (Or.inl rfl) (va (aK CA (ba e_ (pv 6) av (fun _ _=>rfl)) (pv 2) (aU _)) (HP (te:=pX (Aw C) [] E0 (cP (aW 2) (cP (aW 3) (cP (aW 0) (cP (aW 1) jn))))) (i:=4) hr rfl Mj (pv 4) (aa (pv 3) (aa (pv 5) ag)) (fun f dh c s H=>aB EN ((hr.mono (by decide)).deeper _) aI (aa (pv 2) (aa (pv 3) (aa (pv 0) (aa (pv 1) ag)))))) dI))
     (ah (cr (aK xI (pv 7) dI (aU _)) (ao (aX (pv 3))) bg)
     (ah (ik (pv 2) (mW (pv 1) (pv 5) g9))
     (ao (aS (i:=3) EY.nd rfl (Or.inl rfl) (pv 7)))))) bg)))
   (ao (aX (pv 3)))),?_⟩
  obtain⟨as,a1,a2,a3⟩:=id PA;have Y9:=inj _ _ hE;refine⟨_,rfl,pa,_,rfl,inj _ _ a1,Dv (K:=K) (xs:=as.map V.ref) (fun i σ Hc=>∃Fy:Addr,(ic n ts pl b i es st).2.2=false/\(∃x5 x6 x7,σ=[some (.ref pa),some (.ref ea),some (.int (b:Int)),some (.ref Fy),some (.ref f'),x5,x6,x7])/\aL ea (iA (bY cells) h0 H1) Hc/\Hc ea=some (.lst ((ic n ts pl b i es st).1.map oV))/\Hc Fy=some (.tup ((ic n ts pl b i es st).2.1.map oV))) ⟨sa,rfl,⟨_,_,_,rfl⟩,aL.refl,Y9,inj _ _ hS⟩ (fun i σ Hc _ ⟨_,_,_,sc,_⟩=>aM.of (sc _ _ (inj _ _ a1) NQ)) ?_ ?_⟩
  .rintro i x p σ Hc hx ⟨Fy,We,⟨x5,x6,x7,rfl⟩,sc,EZ,Ap⟩ hp;have hi:i<pl.length:=by have:=(dw.mp hx).1;rw[aJ] at this;lia
   have I:=l9 (n:=n) (ts:=ts) (pl:=pl) (b:=b) CL (i:=i) (by lia);have Y_:f_ Hc pa pl:=(PA.same inj).j5 sc Y9 NQ;obtain⟨oz,rb,b1,b2,b3,b4⟩:=Y_.row hi;obtain rfl:as=oz:=by
    have:=(sc _ _ (inj _ _ a1) NQ).symm.trans b1;exact sQ (f:=V.ref) (fun _ _ z=>V.ref.inj z) |>.mp (HO.lst.inj (be this))
   obtain rfl:x=.ref rb:=be (hx.symm.trans b3);have sp:=ai (o:=.tup [.int (i:Int),.ref rb]) hp;have stop:(qL n ts pl b (ic n ts pl b i es st) i)=((ic n ts pl b i es st).1,(ic n ts pl b i es st).2.1,true)->∀H3,aL ea (iA (bY cells) h0 H1) H3->H3 ea=some (.lst ((ic n ts pl b i es st).1.map oV))->H3 Fy=some (.tup ((ic n ts pl b i es st).2.1.map oV))->Q (.ref Fy) H3:=fun e H3 s3 e3 t3=>by
    rw[<-wv] at e;obtain⟨d,hd⟩:∃d,pl.length=(i+1)+d:=⟨pl.length-(i+1),by lia⟩
    have z:yX n ts pl b (es,st)=((ic n ts pl b i es st).1,(ic n ts pl b i es st).2.1,true):=by
     unfold yX;rw[hd,wu (by rw[e])];exact e
    exact q Fy H3 s3 (by rw[z];exact e3) (by rw[z];exact t3)
   have el:(ic n ts pl b i es st).1.length=pl.length:=I.c.e;have sl:(ic n ts pl b i es st).2.1.length=pl.length:=I.c.s;rw[wv];generalize ic n ts pl b i es st=xx at *;obtain⟨e1,s1,z1⟩:=xx;dsimp only at We EZ Ap el sl stop |-;subst We;refine⟨_,_,rfl,bV.of af,rfl,_,_,rfl,_,_,rfl,rfl,?_⟩;have QB:=sp _ _ EZ;refine⟨_,rfl,_,rfl,ea,_,_,_,rfl,rfl,aM.of QB,aw (l7 (by rw[el];exact hi)),rfl,_,rfl,?_⟩;have Fz:aL ea (iA (bY cells) h0 H1) (upd Hc p (.tup [.int (i:Int),.ref rb])):=fun b o e n=>sp _ _ (sc _ _ e n);have SX:=sp _ _ Ap;have b4p:=sp _ _ b4;clear sc EZ Ap b4 b1 Y_;generalize upd Hc p _=Hd at *;have Za:f'≠ea:=by rintro rfl;rw[hE] at hf;cases hf
   have nec:c≠ea:=by rintro rfl;rw[hE] at hc;cases hc
   cases ei:e1.getD i none with
   |some v=>
    have eT:qL n ts pl b (e1,s1,false) i=(e1,s1,false):=by unfold qL;rw[if_pos (.inr (by show (e1.getD i none).isSome=true;rw[ei];rfl))]
    rw[eT];exact sr (by simp[oV]) ⟨Fy,rfl,⟨_,_,_,rfl⟩,Fz,QB,SX⟩
   |none=>
    have c0:¬ (((e1,s1,false):Fx).2.2=true\/(((e1,s1,false):Fx).1.getD i none).isSome=true):=by
     rintro(z|z)
     .cases z
     .have z:(e1.getD i none).isSome=true:=z;rw[ei] at z;cases z
    refine EX rfl ?_;refine⟨_,rfl,rb,_,_,_,rfl,rfl,bV.of b4p,aw (j:=0) rfl,_,rfl,_,_,rfl,rfl,_,rfl,?_⟩;refine gK (fun c1=>?_) (fun c1=>?_)
    .have c1:(jC pl i).1<=b:=by have:=of_decide_eq_true c1;lia
     have su:aL ea H1 (wL (bY cells) Hd):=fun x o e m=>by rw[dE fun z=>by rw[nS x z] at e;cases e];exact Fz _ _ (inj _ _ e) m
     have nk:∀a,bY cells a->Hd a=some (iN h0 a):=fun a z=>Fz _ _ (md z) (by rintro rfl;exact SW z);refine⟨f',rfl,⟨cells,c,Fz _ _ (inj _ _ hf) Za⟩,_,rfl,_,rfl,?_⟩;refine⟨cells,c,h0,[.ref px,.ref pa],Fz _ _ (inj _ _ hf) Za,Fz _ _ (inj _ _ hc) nec,rfl,rfl,LE.mono (fun a z e=>Fz _ _ e (by rintro rfl;exact SW z)),fun i x v h1 h2=>?_,?_⟩
     .match i,h1,h2 with
      |0,h1,h2=>cases h1;cases h2;exact cn
      |1,h1,h2=>cases h1;cases h2;exact cp
     refine⟨_,rfl,_,rfl,_,rfl,_,rfl,L,px,pa,Fy,n,ts,pl,i,s1,rfl,N.keep (fun b o l e=>su b o e (by rintro rfl;exact nLe l)) (fun o e=>su _ _ e npx),PA.j5 su hE NQ,oC,uR nk SX (by intro p z;cases z),hi,sl,fun H4 cl t s4 ht n4=>?_,fun H4 cl s4 n4=>?_⟩
     .have eT:qL n ts pl b (e1,s1,false) i=(e1.set i (some b),s1.set i (some (jC pl i).2.1),false):=by unfold qL;rw[am c0,if_pos ⟨c1,cl⟩]
      have s5:=wt nk s4;have Wf:iA (bY cells) h0 H4 t=some (.tup ((s1.set i (some (jC pl i).2.1)).map oV)):=by rw[bN fun z=>by rw[n4 t z] at ht;cases ht];exact ht
      rw[eT];generalize iA (bY cells) h0 H4=H5 at *;have NS:=s5 _ _ QB;refine⟨_,rfl,rfl,_,rfl,sr (by simp) ?_⟩;refine⟨_,rfl,_,rfl,_,rfl,ea,_,(i:Int),i,rfl,rfl,NS,iu (by rw[aJ,el];exact hi),?_⟩;refine⟨_,rfl,t,rfl,⟨_,_,_,rfl⟩,fun b o e n=>by rw[ak n];exact s5 _ _ (Fz _ _ e n),by rw[af,List.map_set];rfl,by rw[ak (by rintro rfl;rw[NS] at Wf;cases Wf)];exact Wf⟩
     .have eT:qL n ts pl b (e1,s1,false) i=(e1,s1,true):=by unfold qL;rw[am c0,am fun z=>cl z.2]
      have s5:=wt nk s4;refine⟨_,rfl,rfl,_,rfl,EX rfl ?_⟩;exact⟨_,rfl,stop eT _ (fun b o e n=>s5 _ _ (Fz _ _ e n)) (s5 _ _ QB) (s5 _ _ SX)⟩
    .have eT:qL n ts pl b (e1,s1,false) i=(e1,s1,true):=by unfold qL;rw[am c0,am fun z=>c1 (cR (by have:=z.1;lia))]
     refine⟨_,rfl,rfl,_,rfl,EX rfl ?_⟩;exact⟨_,rfl,stop eT _ Fz QB SX⟩
  .rintro σ Hc ⟨Fy,We,⟨x5,x6,x7,rfl⟩,sc,EZ,Ap⟩;rw[aJ,a2] at EZ Ap;exact⟨_,rfl,q Fy Hc sc EZ Ap⟩
end
abbrev Mn:Stmt:=gn (top 16) 0
theorem y0:(["beat","start","home"]:List Str).Nodup:=by decide +kernel
theorem HU:(["row"]:List Str).Nodup:=by decide +kernel
theorem QC(n:Int)(tl ol ds:Addr):(lV n tl ol ds).lookup ("many":Str)=none:=lW n tl ol ds (by decide +kernel) (by decide +kernel) (by decide +kernel) (by decide +kernel)
theorem _root_.L2.cu.not{lp:Pos}{q:Str}{Pt:Addr}{H:Hp}(t:cu lp q Pt H){b:Addr}{o:HO}(h:H b=some o)(n:∀ps,o≠.kB ps):b≠Pt:=by
 rintro rfl;rcases t with z|⟨c,z,_⟩ <;> · rw[h] at z;exact n _ (be z)
theorem _root_.L2.cu.keep{lp:Pos}{q:Str}{Pt:Addr}{H H':Hp}(t:cu lp q Pt H)(e:∀b o,H b=some o->(b=Pt\/∃p,o=.ext p)->H' b=some o):cu lp q Pt H':=by
 rcases t with z|⟨c,z,y⟩
 .exact .inl (e _ _ z (.inl rfl))
 .exact .inr ⟨c,e _ _ z (.inl rfl),e _ _ y (.inr ⟨_,rfl⟩)⟩
theorem _root_.L2.cu.kB{lp:Pos}{q:Str}{P:Addr}{H:Hp}(t:cu lp q P H):∃ps,H P=some (.kB ps):=by
 rcases t with z|⟨c,z,y⟩
 .exact⟨_,z⟩
 .exact⟨_,z⟩
theorem _root_.L2.cu.putL{lp:Pos}{q:Str}{Pt A:Addr}{H:Hp}{xs:List V}{u:HO}(t:cu lp q Pt H)(h:H A=some (.lst xs)):cu lp q Pt (upd H A u):=by
 rcases t with z|⟨c,z,y⟩
 .exact .inl (by rw[ak (by rintro rfl;rw[h] at z;cases z)];exact z)
 .exact .inr ⟨c,by rw[ak (by rintro rfl;rw[h] at z;cases z)];exact z,by rw[ak (by rintro rfl;rw[h] at y;cases y)];exact y⟩
def E2(o:HO):Prop:=∀ps,o≠.kB ps
theorem cL.Zb{C:Addr}{H:Hp}{L:Addr->Prop}{p:Addr}{n:Nat}{ts:Ts}(N:cL C H L p n ts):cL C H (fun b=>L b/\∃o,H b=some o/\E2 o) p n ts:=by
 obtain⟨dx,tl,ol,ds,a,l1,l2,b,c,d⟩:=N.ob;have ne:∀ {b xs},L b->H b=some (.lst xs)->L b/\∃o,H b=some o/\E2 o:=fun l e=>⟨l,_,e,fun ps z=>by cases z⟩
 have ne':∀ {b xs},L b->H b=some (.tup xs)->L b/\∃o,H b=some o/\E2 o:=fun l e=>⟨l,_,e,fun ps z=>by cases z⟩
 have qR:∀ {l r},L l->f9 H L l n r->f9 H (fun b=>L b/\∃o,H b=some o/\E2 o) l n r/\(L l/\∃o,H l=some o/\E2 o):=fun hl ⟨bs,a,b,c⟩=>⟨⟨bs,a,fun x hx=>by
  obtain⟨j,hj,e⟩:=mr hx;have:=c.2 j (by rw[<-c.1];exact hj);rw[aT,bh hj,pD,e] at this;exact ne (b x hx) this,c⟩,ne hl a⟩
 obtain⟨t1,zs,t2,t3,t4,t5⟩:=d;exact⟨N.iR,dx,tl,ol,ds,a,(qR l1 b).2,(qR l2 c).2,(qR l1 b).1,(qR l2 c).1,ne t1 t2,zs,t2,t3,fun z hz=>ne' (t4 z hz) (t3 z hz),t5⟩
def bD(H:Hp)(a:Addr)(as:List Addr)(N:Nat)(o:Nat->List (Option Nat)):Prop:=H a=some (.lst (as.map V.ref))/\Holds H as N (fun k=>.tup ((o k).map oV))
theorem bD.same{H H':Hp}{a:Addr}{as:List Addr}{N:Nat}{o:Nat->List (Option Nat)}(h:bD H a as N o)(s:aF H H'):bD H' a as N o:=⟨s _ _ h.1,h.2.mono fun j _ e=>s _ _ e⟩
theorem bD.put{H:Hp}{a b:Addr}{as:List Addr}{N:Nat}{o:Nat->List (Option Nat)}{xs:List V}{u:HO}(h:bD H a as N o)(hb:H b=some (.lst xs))(n:a≠b):bD (upd H b u) a as N o:=⟨by rw[ak n];exact h.1,h.2.mono fun j _ e=>by rw[ak (by rintro rfl;rw[hb] at e;cases e)];exact e⟩
theorem bD.snoc{H:Hp}{a t:Addr}{as:List Addr}{N:Nat}{o:Nat->List (Option Nat)}(h:bD H a as N o)(ht:H t=some (.tup ((o N).map oV))):bD (upd H a (.lst (as.map V.ref++[.ref t]))) a (as++[t]) (N+1) o:=by
 have kp:∀ {b xs u},H b=some (.tup xs)->(upd H a u) b=some (.tup xs):=fun {b xs u} e=>by rw[ak (by rintro rfl;rw[h.1] at e;cases e)];exact e
 exact⟨by rw[af,bW];rfl,(h.2.mono fun j _ e=>kp e).snoc (kp ht)⟩
theorem _root_.L2.cu.kL{lp:Pos}{q:Str}{p Pt:Addr}{H H':Hp}{xs:List V}(t:cu lp q Pt H)(s:aL p H H')(hp:H p=some (.lst xs)):cu lp q Pt H':=t.keep fun b o e c=>s b o e (by
 rintro rfl;rcases c with rfl|⟨p,rfl⟩
 .obtain⟨ps,y⟩:=t.kB;rw[hp] at y;cases y
 .rw[hp] at e;cases e)
theorem _root_.L2.cu.kS{lp:Pos}{q:Str}{Pt:Addr}{H H':Hp}(t:cu lp q Pt H)(s:aF H H'):cu lp q Pt H':=t.keep fun b o e _=>s b o e
def KN(H H':Hp):Prop:=∀b o,H b=some o->E2 o->H' b=some o
theorem f_.kn{H H':Hp}{l:Addr}{pl:List iT}(h:f_ H l pl)(s:KN H H'):f_ H' l pl:=let ⟨as,a,b,c⟩:=h;⟨as,s _ _ a (by intro ps z;cases z),b,fun i r e=>s _ _ (c i r e) (by intro ps z;cases z)⟩
section
variable {P:Program} {w:World} {K:PySem.W.Frag} {mg:Str->Option Value} {base:Heap}
def JM:Sp:=fun vs H Q _=>∃x y,vs=[x,y]/\Q .bE H
theorem QD:aE ["self","homes"] ["self","homes"] (ap Mn):=⟨rfl,rfl,rfl,by decide +kernel,rfl,by decide +kernel,by decide +kernel⟩
theorem Mp{f:Addr}{fd:FuncData}(F:fJ K "check_letters" "Rule.check_letters" Mn f fd):bz P w K mg base bf 1 f fd ["self","homes"] JM:=by
 refine F.ok QD (fun vs H Q E h=>?_) (fun dU A outer s H vs Q E hr h=>?_)
 .obtain⟨x,y,rfl,_⟩:=h;rfl
 .obtain⟨x,y,rfl,q⟩:=h;exact⟨_,ao FG,q⟩
theorem on:aE ["rule","net","plan","most","homes","entries","log","stands","stand"] ["rule","net","plan","most"] (ap HQ):=⟨rfl,rfl,rfl,by decide +kernel,rfl,by decide +kernel,by decide +kernel⟩
noncomputable abbrev JN(n:Nat)(ts:Ts)(pl:List iT)(N:Nat):Nat->List (Option Nat):=fun j=>if j=N then (eO n ts pl N).2 else jD n ts pl j
def E3(C CI Pr:Addr):Sp:=fun vs H Q _=>∃ (L:Addr->Prop) (rx rd px pa:Addr) (n:Nat) (ts:Ts) (pl:List iT) (most:Nat),vs=[.ref rx,.ref px,.ref pa,.int most]/\H rx=some (.ins CI rd [])/\cL C H L px n ts/\f_ H pa pl/\nN n pl/\most<=500/\uQ Pr H/\
 ∀ (t ea LG SD:Addr) (N:Nat) (as bs:List Addr) (H':Hp),Ar n ts pl most N->uQ Pr H'->iL Pr H H'->H' t=some (.tup [.ref ea,.ref LG,.ref SD])->H' ea=some (.lst ((eO n ts pl N).1.map oV))->bD H' LG as N (sq n ts pl)->bD H' SD bs (N+1) (JN n ts pl N)->Q (.ref t) H'
theorem Mq{f c C CI Pr:Addr}{fd:FuncData}(F:vA K "let_in_run" "let_in_run" HQ f fd c)(kb:K.In base)(hb:qV mg base)(hc:PySem.W.codeHdIn K c Pr=true)(B:Bl mg)(T:NT K mg C)(RT:Hu K mg CI)(MM:kU P w K mg base bf 1 C "many" ["self"] (yK C))(MC:kU P w K mg base bf 1 CI "check_letters" ["self","homes"] JM)(CP:cQ P w K mg base bf 5 "check_plan" ["many","plan"] Ml)(IU:cQ P w K mg base bf 2 "is_unfinished" ["entries","stand"] Mg)(LI:cQ P w K mg base bf 8 "let_in" ["plan","entries","beat","state","entering"] (Mm C))(HA:cQ P w K mg base bf 8 "hand" ["rule","net","homes","stand","beat"] (yV C CI))(SB:cQ P w K mg base bf 1 "stand_behind" ["homes","handing"] Md):bz P w K mg base bf 9 f fd ["rule","net","plan","most"] (E3 C CI Pr):=by
 obtain⟨fM,U5,mM,bM,GM⟩:=MM.ex;obtain⟨fC,fdC,mC,bC,GC⟩:=MC.ex;refine F.ok on (fun vs H Q E h=>?_) (fun A outer s H vs Q E hr h=>?_)
 .obtain⟨L,rx,rd,px,pa,n,ts,pl,most,rfl,_⟩:=h;rfl
 .obtain⟨L,rx,rd,px,pa,n,ts,pl,most,rfl,hR,N,PA,oC,E4,tb,q⟩:=h;have h1:b9 1 _:=hr.mono (by decide);have h2:b9 2 _:=hr.mono (by decide);have h5:b9 5 _:=hr.mono (by decide);refine'⟨_,(ah (bu (aB CP h5 aI (aa (CH (pv 1) T.cl mM GM h1 bM .nil aI) (aa (pv 2) ag))))
   (ah (aS (i:=4) on.nd rfl (Or.inl rfl) (cx fg (by rfl) B.tup pb (aa ?c1 ag)))
   (ah (bu (fF (pv 0) RT.cl mC GC h1 bC .nil aI (aa (pv 4) ag)))
   (ah (df (i:=5) (g:=(a9 0)) (te:=(tC .bE)) (NB:=["row"]) (src:=[none]) (bq (by kernel_rfl)) rfl (bF (pv 2)) ?g2 ?t2 ?e2 on.nd rfl rfl rfl)
   (ah (aS (i:=6) on.nd rfl (Or.inl rfl) (cz ag))
   (ah (aS (i:=7) on.nd rfl (Or.inl rfl) (cz ag))
   (ah (aS (i:=8) on.nd rfl (Or.inl rfl) (cx fg (by rfl) B.tup pb (aa (pv 5) ag)))
   (ah (lB dR (PW.pt (xB (aK n0 (aA az (by rfl) B.len cB (aa (pv 6) ag)) (pv 3) (aU _)) (y_ (eY (aB IU h2 aI (aa (pv 5) (aa (pv 8) ag))))))) (ah (aS (i:=8) on.nd rfl (Or.inl rfl) (HL LI hr rfl rfl (aa (pv 2) (aa (pv 5) (aa (aA az (by rfl) B.len cB (aa (pv 6) ag)) (aa (pv 8) (aa (Dk (NB:=Y7) (src:=[none,none,some 1,some 2]) (zL kb hb hc) (bq (by kernel_rfl))) ag)))))))
    (ah (bu (iJ iB lf lc dv (pv 7) (aa (pv 8) ag)))
    (ah (bu (iJ iB lf lc dv (pv 6) (aa (aB HA hr aI (aa (pv 0) (aa (pv 1) (aa (pv 4) (aa (pv 8) (aa (aA az (by rfl) B.len cB (aa (pv 6) ag)) ag)))))) ag)))
    (ao (aS (i:=8) on.nd rfl (Or.inl rfl) (aB SB h1 aI (aa (pv 4) (aa (ba aR (pv 6) (On Km av) (fun _ _=>rfl)) ag)))))))))
   (ah (bu (iJ iB lf lc dv (pv 7) (aa (pv 8) ag)))
   (ao (aX (fX (aa (pv 5) (aa (pv 6) (aa (pv 7) ag))))))))))))))),?_⟩
  case c1=>
   refine' bU (g:=(oq K 3 (dC (a9 0) (dC (a9 1) (dC (a9 2) oo))))) (te:=(aW 2)) (NB:=["beat","start","home"]) (src:=[none,none,none]) (bq (by kernel_rfl)) rfl (bF (pv 2)) ?g ?t ?e;case g=>exact fun cl C s₃ H₃ fp=>(dY (n:=3) rfl (aO (aq (i:=0) y0 rfl (Or.inl rfl) (Or.inr rfl)) (aO (aq (i:=1) y0 rfl (Or.inl rfl) (Or.inr rfl)) (aO (aq (i:=2) y0 rfl (Or.inl rfl) (Or.inr rfl)) c_))))
   case t=>exact fun cl C s₃ H₃ fp=>cK
   case e=>exact fun cl C s₃ H₃ fp=>(pv 2)
  case g2=>exact fun cl C s₃ H₃ fp=>(aq (i:=0) HU rfl (Or.inl rfl) (Or.inr rfl))
  case t2=>exact fun cl C s₃ H₃ fp=>cK
  case e2=>exact fun cl C s₃ H₃ fp=>dI
  obtain⟨dx,tl,ol,ds,i1,_⟩:=N.ob;have F1:=N.iR;have ES:=oC.len;refine⟨_,rfl,px,dx,_,rfl,i1,QC _ _ _ _,L,px,n,ts,rfl,N,_,rfl,n,pa,pl,rfl,PA,oC,?_⟩;obtain⟨as,a1,a2,a3⟩:=id PA;refine⟨_,rfl,pa,rfl,⟨_,aM.of a1⟩,fun D1 BL=>?_⟩;refine cD (K:=K) (a:=pa) (xs:=as.map V.ref) (fun i ys σ H2=>(∃u v w,σ=[u,v,w])/\aF H H2/\H2 D1=some (.lst ys)/\ys=(NV (nQ pl)).take i) ⟨⟨_,_,_,rfl⟩,ai BL,af,rfl⟩ (fun i ys σ H2 _ z=>aM.of (z.2.1 _ _ a1)) ?_ ?_
  .rintro i x ys σ H2 Kt Kf hx ⟨⟨u,v,w,rfl⟩,sm,gh,rfl⟩ kt kf;have hi:i<pl.length:=by have:=(dw.mp hx).1;rw[aJ] at this;lia
   obtain⟨oz,b,b1,b2,b3,b4⟩:=PA.row hi;obtain rfl:as=oz:=sQ (f:=V.ref) (fun _ _ z=>V.ref.inj z) |>.mp (HO.lst.inj (be (a1.symm.trans b1)));obtain rfl:x=.ref b:=be (hx.symm.trans b3);have hl:i<(nQ pl).length:=by unfold nQ;rw[aJ];exact hi
   refine⟨b,_,rfl,bV.of (sm _ _ b4),rfl,_,_,rfl,_,_,rfl,_,_,rfl,rfl,?_⟩;refine⟨_,rfl,kt _ _ _ gh (dX (j_ _ _) (bS (show i<17 by lia) (by decide))) ⟨⟨_,_,_,rfl⟩,a_ sm BL,af,?_⟩⟩;rw[gk,sn hl,EO hi];rfl
  rintro ys σ H2 ⟨_,Jq,gh,rfl⟩;have Zc:(nQ pl).length=pl.length:=by unfold nQ;rw[aJ]
  rw[mj (by rw[bw,Zc,aJ,a2];exact aY _)] at gh;refine⟨D1,_,rfl,.inl ⟨aM.of gh,fun ha Qu=>?_⟩⟩;have sh:=ai (o:=.tup (NV (nQ pl))) Qu;have hH:(upd H2 ha (.tup (NV (nQ pl)))) ha=some (.tup (NV (nQ pl))):=af;have yI:=Jq.trans sh;generalize upd H2 ha _=H3 at *;have qZ:=yI _ _ hR;refine⟨_,rfl,rx,rd,[],rfl,qZ,rfl,_,rfl,_,_,rfl,?_⟩;refine⟨_,rfl,pa,rfl,⟨_,aM.of (yI _ _ a1)⟩,fun ea SY=>?_⟩;refine cD (K:=K) (a:=pa) (xs:=as.map V.ref) (fun i ys σ H4=>(∃u,σ=[u])/\aF H3 H4/\H4 ea=some (.lst ys)/\ys=(List.replicate i (none:Option Nat)).map oV) ⟨⟨_,rfl⟩,ai SY,af,rfl⟩ (fun i ys σ H4 _ z=>aM.of (z.2.1 _ _ (yI _ _ a1))) ?_ ?_
  .rintro i x ys σ H4 Kt Kf hx ⟨⟨u,rfl⟩,sm,qx,rfl⟩ kt kf;have hi:i<pl.length:=by have:=(dw.mp hx).1;rw[aJ] at this;lia
   refine kt _ _ _ qx (by rw[aJ,fj];exact bS (show i<17 by lia) (by decide)) ⟨⟨_,rfl⟩,a_ sm SY,af,?_⟩;rw[mn,bW];rfl
  rintro ys σ H4 ⟨_,oZ,JO,rfl⟩;rw[aJ,a2] at JO;have HV:H ea=none:=yI.free SY;refine⟨by show 0<=sizeLine;decide,fun LG SZ=>?_⟩;have Zd:ea≠LG:=aj JO SZ;have QE:=ai (o:=.lst []) SZ;refine⟨by show 0<=sizeLine;decide,fun SD QF=>?_⟩;have Wg:ea≠SD:=aj (QE _ _ JO) QF;have S0:LG≠SD:=aj (H:=upd H4 LG (.lst [])) af QF;have Wi:=ai (o:=.lst []) QF;have Es:=(oZ.trans QE).trans Wi;have LC:H LG=none:=(yI.trans oZ).free SZ;have SL:H SD=none:=(yI.trans (oZ.trans QE)).free QF;have NP:(upd (upd H4 LG (.lst [])) SD (.lst [])) LG=some (.lst (([]:List Addr).map V.ref)):=by rw[ak S0,af];rfl
  have Ze:(upd (upd H4 LG (.lst [])) SD (.lst [])) SD=some (.lst (([]:List Addr).map V.ref)):=af;have NS:=(QE.trans Wi) _ _ JO;generalize upd (upd H4 LG _) SD _=H5 at *;refine⟨_,rfl,ea,_,rfl,.inl ⟨aM.of NS,fun s0 Zf=>?_⟩⟩;have NU:=ai (o:=.tup ((List.replicate pl.length (none:Option Nat)).map oV)) Zf;have Wj:=(yI.trans Es).trans NU;refine⟨fun m σ Hc=>∃ (k:Nat) (sa:Addr) (as bs:List Addr),m=most-k/\σ=[some (.ref rx),some (.ref px),some (.ref pa),some (.int (most:Int)),some (.ref ha),some (.ref ea),some (.ref LG),some (.ref SD),some (.ref sa)]/\iL Pr H Hc/\uQ Pr Hc/\Hc ha=some (.tup (NV (nQ pl)))/\Hc ea=some (.lst ((eO n ts pl k).1.map oV))/\bD Hc LG as k (sq n ts pl)/\bD Hc SD bs k (jD n ts pl)/\Hc sa=some (.tup ((eO n ts pl k).2.map oV))/\k<=most/\∀j,j<k->EM (eO n ts pl j),⟨_,0,s0,[],[],rfl,rfl,fun b o e _=>Wj _ _ e,tb.kS Wj,NU _ _ (Es _ _ hH),NU _ _ NS,⟨NU _ _ NP,Holds.nil⟩,⟨NU _ _ Ze,Holds.nil⟩,af,cN _,fun j hj=>absurd hj (pF _)⟩,?_⟩;clear Zf NU Wj NP Ze NS Wi QE QF SZ JO oZ Es SY qZ yI Jq sh Qu gh BL;rintro m σ Hc ⟨k,sa,o6,k7,rfl,rfl,sc,tc,SN,EZ,rl,rs,Ap,QG,go⟩;have kn:KN H Hc:=fun b o e nt=>sc b o e (by rintro rfl;obtain⟨ps,hp⟩:=tb.kB;rw[hp] at e;cases e;exact nt _ rfl);have QH:∀ {Hx:Hp},KN H Hx->cL C Hx (fun b=>L b/\∃o,H b=some o/\E2 o) px n ts:=fun {Hx} kx=>N.Zb.keep (fun b o l e=>by obtain⟨_,o',e',n⟩:=l;rw[e] at e';cases e';exact kx b o e n) (fun o e=>kx _ _ e (by rw[i1] at e;cases e;intro ps z;cases z));have CL:=gc (n:=n) (ts:=ts) (pl:=pl) k;have Wk:(eO n ts pl k).2.length<=16:=by rw[CL.s];exact ES
  have cZ:∀H':Hp,aF Hc H'->¬ (k<most/\EM (eO n ts pl k))->∀t,(upd H' SD (.lst (k7.map V.ref++[.ref sa]))) t=none->Q (.ref t) (upd (upd H' SD (.lst (k7.map V.ref++[.ref sa]))) t (.tup [.ref ea,.ref LG,.ref SD])):=fun H' s' e t ht=>by
   have Wl:bD H' SD k7 k (JN n ts pl k):=⟨s' _ _ rs.1,rs.2.1,fun j hj=>by
    show H' _=some (HO.tup ((if j=k then _ else _:List (Option Nat)).map oV));rw[am (by lia)];exact s' _ _ (rs.2.2 j hj)⟩
   have st:=ai (o:=.tup [V.ref ea,.ref LG,.ref SD]) ht;refine q t ea LG SD k o6 (k7++[sa]) _ ⟨QG,go,fun h z=>e ⟨h,z⟩⟩ (((tc.kS s').putL Wl.1).kS st) (fun b o eb n=>st _ _ (by rw[ak (aj eb SL)];exact s' _ _ (sc b o eb n))) af (st _ _ (by rw[ak Wg];exact s' _ _ EZ)) (((rl.same s').put Wl.1 S0).same st) ((Wl.snoc ?_).same st);show _=some (HO.tup ((if k=k then _ else _:List (Option Nat)).map oV));rw[if_pos rfl];exact s' _ _ Ap
  refine⟨_,rfl,LG,_,rfl,.inl (aM.of rl.1),_,rfl,_,_,rfl,rfl,_,rfl,?_⟩;rw[aJ,rl.2.1];refine gK (fun e=>?_) (fun e=>?_)
  rotate_left
  .have e:¬ (k<most/\EM (eO n ts pl k)):=fun z=>e (cR (by have:=z.1;lia));refine⟨_,rfl,.inl ⟨rfl,_,aM.of ((aF.refl _) _ _ rs.1)⟩,_,rfl,SD,_,_,rfl,rfl,(aF.refl _) _ _ rs.1,by rw[aJ,rs.2.1];exact dX (show k<=500 by lia) (by decide),?_⟩;refine⟨_,rfl,_,rfl,_,rfl,by show 3<=sizeLine;decide,fun t ht=>?_⟩;exact cZ _ (aF.refl _) e t ht
  have hkm:k<most:=by have:=of_decide_eq_true e;lia
  refine⟨_,rfl,_,rfl,ea,sa,_,_,rfl,EZ,Ap,Wk,fun u Hd hu sd=>⟨u,rfl,?_⟩⟩;by_cases lv:EM (eO n ts pl k)
  rotate_left
  .have e:¬ (k<most/\EM (eO n ts pl k)):=fun z=>lv z.2;have hu:u=false:=by cases u with
    |false=>rfl
    |true=>exact absurd (hu.mp rfl) lv
   subst hu;refine j3 ?_;refine⟨_,rfl,.inl ⟨rfl,_,aM.of (sd _ _ rs.1)⟩,_,rfl,SD,_,_,rfl,rfl,sd _ _ rs.1,by rw[aJ,rs.2.1];exact dX (show k<=500 by lia) (by decide),?_⟩;refine⟨_,rfl,_,rfl,_,rfl,by show 3<=sizeLine;decide,fun t ht=>?_⟩;exact cZ _ sd e t ht
  have hu:u=true:=hu.mpr lv;subst hu;refine oj ⟨_,fun σ' H' z=>z,?_⟩;have Zg:iL Pr H Hd:=fun b o e n=>sd _ _ (sc b o e n);have td:=tc.kS sd;have Wm:=sd _ _ SN;have Wn:=sd _ _ EZ;have Zh:=sd _ _ Ap;have QI:=rl.same sd;have Wo:=rs.same sd;have knd:KN H Hd:=fun b o e nt=>sd _ _ (kn b o e nt);clear cZ rl rs SN EZ Ap tc sc sd kn;have hRd:=knd _ _ hR (by intro ps z;cases z);refine⟨_,rfl,_,rfl,_,rfl,LG,_,rfl,.inl (aM.of QI.1),_,rfl,td,fun f' c' H2 Sk iK Fm zE nS h0 LE cv=>?_⟩;have t2:uQ Pr H2:=Sk;have E5:∀ {b o},Hd b=some o->E2 o->H2 b=some o:=fun e n=>iK _ _ e (td.not e n);have S4:KN H H2:=fun b o e n=>E5 (knd b o e n) n;have JP:=E5 Wn (by intro ps z;cases z);have NQ:pa≠ea:=by rintro rfl;rw[HV] at a1;cases a1
  refine⟨_,px,pa,ea,sa,f',c',n,ts,pl,(eO n ts pl k).1,(eO n ts pl k).2,k,_,h0,H2,by rw[aJ,QI.2.1],rfl,nS,LE,cv 1 "net" _ rfl rfl rfl,cv 2 "plan" _ rfl rfl rfl,QH S4,(fun ⟨_,o,e,_⟩=>by rw[HV] at e;cases e),PA.kn S4,NQ,oC,JP,E5 Zh (by intro ps z;cases z),CL,zE,Fm,fun t H' s' Zi S5=>?_⟩;have SW:¬ bY _ ea:=fun z=>by rw[nS ea z] at JP;cases JP
  have nk:∀a,bY _ a->H' a=some (iN h0 a):=fun a z=>s' _ _ (md z) (by rintro rfl;exact SW z);refine⟨nk,?_⟩;have s3:aL ea H2 (wL (bY _) H'):=fun b o e m=>by
   have c:¬ bY _ b:=fun z=>by rw[nS b z] at e;cases e
   rw[dE c];exact s' b o (by rw[bN c];exact e) m
  have Zj:=uR nk Zi (by intro p z;cases z);have NN:=uR nk S5 (by intro p z;cases z);have t3:=t2.kL s3 JP;clear s' Zi S5 nk cv LE Fm zE Sk;generalize wL (bY _) H'=H3 at *;have k3:∀ {b o},Hd b=some o->E2 o->b≠ea->H3 b=some o:=fun e n m=>s3 _ _ (E5 e n) m;have nT:∀ {b xs},Hd b=some (.tup xs)->b≠ea:=fun {b xs} e=>by rintro rfl;rw[Wn] at e;cases e
  have Zk:bD H3 LG o6 k (sq n ts pl):=⟨k3 QI.1 (by intro ps z;cases z) Zd.symm,QI.2.mono fun j _ e=>k3 e (by intro ps z;cases z) (nT e)⟩
  have JQ:bD H3 SD k7 k (jD n ts pl):=⟨k3 Wo.1 (by intro ps z;cases z) Wg.symm,Wo.2.mono fun j _ e=>k3 e (by intro ps z;cases z) (nT e)⟩
  have Wp:=k3 Wm (by intro ps z;cases z) (nT Wm);have NW:KN H H3:=fun b o e n=>s3 _ _ (S4 b o e n) (aj e HV);have Qc:iL Pr H H3:=fun b o e n=>s3 _ _ (iK _ _ (Zg b o e n) n) (aj e HV);clear k3 nT s3 E5 iK JP t2 S4 hRd Wm Zh QI Wo td knd Zg Wn;refine⟨_,rfl,.inl ⟨rfl,_,aM.of JQ.1⟩,_,rfl,SD,_,_,rfl,rfl,JQ.1,by rw[aJ,JQ.2.1];exact dX (show k<=500 by lia) (by decide),?_⟩;have Wq:∀ {b xs},H3 b=some (.tup xs)->b≠SD:=fun {b xs} e=>by rintro rfl;rw[JQ.1] at e;cases e
  have Zl:=JQ.snoc (o:=jD n ts pl) NN;have S6:=Zk.put (u:=.lst (k7.map V.ref++[.ref t])) JQ.1 S0;have Zm:(upd H3 SD (.lst (k7.map V.ref++[.ref t]))) t=some (.tup ((jD n ts pl k).map oV)):=by rw[ak (Wq NN)];exact NN
  have S7:(upd H3 SD (.lst (k7.map V.ref++[.ref t]))) ha=some (.tup (NV (nQ pl))):=by rw[ak (Wq Wp)];exact Wp
  have JO:(upd H3 SD (.lst (k7.map V.ref++[.ref t]))) ea=some (.lst ((eO n ts pl (k+1)).1.map oV)):=by rw[ak Wg];exact Zj
  have t4:=t3.putL (u:=.lst (k7.map V.ref++[.ref t])) JQ.1;have Wr:KN H (upd H3 SD (.lst (k7.map V.ref++[.ref t]))):=fun b o e n=>by rw[ak (aj e SL)];exact NW b o e n
  have Zn:iL Pr H (upd H3 SD (.lst (k7.map V.ref++[.ref t]))):=fun b o e n=>by rw[ak (aj e SL)];exact Qc b o e n
  clear Wq Zj Wp NN t3 Zk JQ NW Qc;generalize upd H3 SD _=H4 at *;refine⟨_,rfl,.inl ⟨rfl,_,aM.of S6.1⟩,_,rfl,_,rfl,_,rfl,_,rfl,_,rfl,LG,_,rfl,.inl (aM.of S6.1),_,rx,rd,px,ha,t,_,n,ts,nQ pl,jD n ts pl k,rfl,Wr _ _ hR (by intro ps z;cases z),QH Wr,S7,Zm,L7 F1 oC,fun h H5 s5 S8=>?_⟩;have Mr:=S6.same s5;have Zo:=Zl.same s5;refine⟨LG,_,_,rfl,rfl,Mr.1,by rw[aJ,Mr.2.1];exact dX (show k<=500 by lia) (by decide),?_⟩;have Ws:∀ {b xs},H5 b=some (.tup xs)->b≠LG:=fun {b xs} e=>by rintro rfl;rw[Mr.1] at e;cases e
  have Zp:=Mr.snoc (o:=sq n ts pl) S8;have rs6:=Zo.put (u:=.lst (o6.map V.ref++[.ref h])) Mr.1 S0.symm;have hh6:(upd H5 LG (.lst (o6.map V.ref++[.ref h]))) h=some (.tup ((sq n ts pl k).map oV)):=by rw[ak (Ws S8)];exact S8
  have Zq:(upd H5 LG (.lst (o6.map V.ref++[.ref h]))) ha=some (.tup (NV (nQ pl))):=by rw[ak (Ws (s5 _ _ S7))];exact s5 _ _ S7
  have hE6:(upd H5 LG (.lst (o6.map V.ref++[.ref h]))) ea=some (.lst ((eO n ts pl (k+1)).1.map oV)):=by rw[ak Zd];exact s5 _ _ JO
  have t6:=(t4.kS s5).putL (u:=.lst (o6.map V.ref++[.ref h])) Mr.1;have Hk:iL Pr H (upd H5 LG (.lst (o6.map V.ref++[.ref h]))):=fun b o e n=>by rw[ak (aj e LC)];exact s5 _ _ (Zn b o e n)
  clear Ws JO S7 Zm t4 S6 Zl Wr Zn S8 s5 Mr Zo;generalize upd H5 LG _=H6 at *;have hl:(sq n ts pl k).length=pl.length:=by unfold sq;rw[jB,iz]
  refine⟨_,rfl,_,rfl,_,rfl,LG,_,_,_,rfl,rfl,aM.of Zp.1,by rw[bW];exact CO _ _,ha,h,nQ pl,_,rfl,Zq,hh6,by rw[hl];exact Zc,by rw[hl];exact ES,fun t' H7 s7 S5=>?_⟩;refine⟨most-(k+1),by lia,k+1,t',o6++[h],k7++[t],rfl,rfl,fun b o e n=>s7 _ _ (Hk b o e n),t6.kS s7,s7 _ _ Zq,s7 _ _ hE6,Zp.same s7,rs6.same s7,S5,by lia,fun j hj=>?_⟩;rcases Ch.mp hj with z|z
  .exact go j z
  .rw[z];exact lv
end
end uq
namespace L2
open PySem PySem.Spec PyProof.Rows
theorem AA{c it t:Addr}{h h':Heap}{k:Nat}(r:h.IsListIter it t k)(sb:Heap.SameBut c h h')(n:it≠c):h'.IsListIter it t k:=r.at fun o e=>bT sb n e
def Ms(K:PySem.W.Frag)(a b:Addr):It:=
 ⟨fun i H=>∃xs ys x y,aM K H a xs/\aM K H b ys/\xs[i]?=some x/\ys[i]?=some y,fun i H v H'=>∃p x y,v=.ref p/\H p=none/\H'=upd H p (.tup [x,y])/\(∀xs,aM K H a xs->xs[i]?=some x)/\∀ys,aM K H b ys->ys[i]?=some y,fun i H=>∃xs ys,aM K H a xs/\aM K H b ys/\(xs.length<=i\/ys.length<=i)⟩
theorem BR{P:Program}{w:World}{K:PySem.W.Frag}{es:List Expr}{x1:Nat}{pos:Pos}(a b z ti tq i1 i2:Addr)(dj:ZipApart z ti tq i1 i2 a b):
  qO P w K (.Tuple es x1 pos) (Ms K a b) [z,ti,tq,i1,i2] z (fun i h=>IsZip h z ti tq .none/\IsPair h ti (.ref i1) (.ref i2)/\(∃u v,IsPair h tq u v)/\h.IsListIter i1 a i/\h.IsListIter i2 b i) where
 mem:=by simp
 obj:=fun i h st c hc=>by
  obtain⟨gz,gi,⟨u,v,gq⟩,⟨o1,q1,c1,d1⟩,⟨o2,q2,c2,d2⟩⟩:=st;simp only[aV,eA,eB] at hc;rcases hc with rfl|rfl|rfl|rfl|rfl
  .exact⟨_,gz,fun v z=>by have z':Data.fields _=Data.cell v:=z;cases z'⟩
  .exact⟨_,gi,fun v z=>by have z':Data.seq _ _=Data.cell v:=z;cases z'⟩
  .exact⟨_,gq,fun v z=>by have z':Data.seq _ _=Data.cell v:=z;cases z'⟩
  .exact⟨o1,q1,fun v z=>by rw[d1] at z;cases z⟩
  .exact⟨o2,q2,fun v z=>by rw[d2] at z;cases z⟩
 keep:=fun i h h' st k=>by
  obtain⟨gz,gi,⟨u,v,gq⟩,r1,r2⟩:=st;exact⟨k z (by simp) _ gz,k ti (by simp) _ gi,⟨u,v,k tq (by simp) _ gq⟩,r1.at fun o q=>k i1 (by simp) o q,r2.at fun o q=>k i2 (by simp) o q⟩
 item:=by
  intro X hP hw hK hc i ae s σ H E I hf st hg;subst hP hw hK;obtain⟨xs,ys,x,y,hx,hy,ex,ey⟩:=hg;obtain⟨us,rx,px,_⟩:=I.list hx;obtain⟨vs,ry,py,_⟩:=I.list hy;obtain⟨u,hu,ru⟩:=rx.get ex;obtain⟨v,hv,rv⟩:=ry.get ey;obtain⟨gz,gi,⟨u0,v0,gq⟩,r1,r2⟩:=st;refine wpAny_pyNext_zip_item dj gz gi gq r1 r2 px.isList py.isList (x:=u) (y:=v) (by simpa using hu) (by simpa using hv) fun h1 DA K3 UT UU UV _ kp=>?_;refine⟨_,rfl,wpAny_letOwnedTupleGo_zip DA fun h2 Ny mf=>?_⟩;have zl:z<s.heap.objs.size:=aQ gz;have nz:s.heap.objs.size≠z:=fQ zl;have Pw:∀c o,c∉[z,tq,i1,i2]->s.heap.get? c=some o->h2.get? c=some o:=fun c o hc e=>by
   simp only[aV,eA,eB,jg] at hc;exact bT mf hc.1 (kp c o hc.1 hc.2.1 hc.2.2.1 hc.2.2.2 e)
  have UX:IsPair h2 ti (.ref i1) (.ref i2):=Pw _ _ (by simp only[aV,eA,eB,jg];exact⟨dj.TIz,dj.TITO,dj.TIi1,dj.TIi2⟩) gi;have fe:∀e∈[z,tq,i1,i2],gf X ae H e:=fun e he=>hf e (by simp only[aV,eA,eB] at he |-;rcases he with h|h|h|h <;> simp[h]);have I2:aD X ae σ (upd H s.heap.objs.size (.tup [x,y])) { s with heap:=h2,toks:=s.toks }:=
   I.z0 (its:=[u,v]) fe Pw (aY _) (by show 2<=sizeLine;decide) (.cons ru (.cons rv .nil)) (bT mf nz UV)
  refine⟨.ref s.heap.objs.size,_,I2,rfl,⟨_,x,y,rfl,I.bB.fresh (aY _),rfl,fun zs hz=>by rw[I.lz hz hx];exact ex,fun zs hz=>by rw[I.lz hz hy];exact ey⟩,⟨Ny,UX,⟨u,v,bT mf dj.TOz K3⟩,AA UT mf dj.i1z,AA UU mf dj.i2z⟩,fun c hc=>?_⟩;have f0:=(hf c hc).1;have cl:c<s.heap.objs.size:=by
   simp only[aV,eA,eB] at hc;rcases hc with rfl|rfl|rfl|rfl|rfl
   .exact zl
   .exact aQ gi
   .exact aQ gq
   .obtain⟨o,q,_⟩:=r1;exact aQ q
   .obtain⟨o,q,_⟩:=r2;exact aQ q
  rw[ak (a8 cl)];exact f0
 done:=by
  intro X hP hw hK hc i ae s σ H E I hf st hg;subst hP hw hK;obtain⟨xs,ys,hx,hy,hi⟩:=hg;obtain⟨us,rx,px,_⟩:=I.list hx;obtain⟨vs,ry,py,_⟩:=I.list hy;obtain⟨gz,gi,⟨u0,v0,gq⟩,r1,r2⟩:=st;have hl:=rx.length;have CW:=ry.length;refine wpAny_pyNext_zip_end (I.ok.hd hc) dj gz gi gq r1 r2 px.isList py.isList (hi.imp (fun hi=>by simp;lia) fun hi=>by simp;lia) fun h' kp=>⟨rfl,?_⟩
  have fe:∀e∈[z,tq,i1,i2],gf X ae H e:=fun e he=>hf e (by simp only[aV,eA,eB] at he |-;rcases he with h|h|h|h <;> simp[h]);refine I.zZ (t':=s.toks) fe fun c o hc e=>?_;simp only[aV,eA,eB,jg] at hc;exact kp c o hc.1 hc.2.1 hc.2.2.1 hc.2.2.2 e
 self:=fun _ _ _ _ _ st h=>tu st.1 h
section
variable {X:Cx}
def QJ(K:PySem.W.Frag)(ta:TA):TI:=fun σ H R=>ta σ H fun vs H1=>∃a b xs ys,vs=[.ref a,.ref b]/\aM K H1 a xs/\aM K H1 b ys/\R (Ms K a b) H1
theorem HW{es:List Expr}{x1:Nat}{xN:Pos}{a b:Expr}{ta:TA}{p pos:Pos}(hg:Gl X "zip")(hm:X.mg "zip"=none)(ha:PA X [a,b] ta)(hs:starEach [a,b] X.env=[(false,eval a X.env),(false,eval b X.env)]:=by rfl)(lC:starEach [b] X.env=[(false,eval b X.env)]:=by rfl):
  PI X (.Tuple es x1 xN) (.Call (.Name "zip" p) [a,b] [] pos) (QJ X.K ta):=by
 intro ae s σ H R I h;refine Call_ (gH I hg hm PyProof.Rows.boot_zip (o7 (b_ (ha pos ae s σ H _ I h) fun us s1 ⟨vs,H1,I1,r1,q1⟩=>?_) (by rw[hs,lC]) (by rw[lC];rfl)));obtain⟨l,m,xs,ys,rfl,hl,UY,q⟩:=q1;obtain⟨u1,u2,rfl,KU,UZ⟩:=r1.two;obtain rfl:u1=Value.ref l:=KU;obtain rfl:u2=Value.ref m:=UZ;obtain⟨its,rv,pt,_⟩:=I1.list hl;obtain⟨iQ,rv2,Py,_⟩:=I1.list UY;have eh:l<s1.heap.objs.size:=by obtain⟨o,e,_⟩:=pt.isList;exact aQ e
 have ul:m<s1.heap.objs.size:=by obtain⟨o,e,_⟩:=Py.isList;exact aQ e
 refine call_zip_2 pt.isList Py.isList fun h' gz gi gq r1 r2 _ k=>?_;refine tu gz ?_;have I2:aD X ae σ H1 { s1 with heap:=h' }:=I1.kept (t':=s1.toks) k;refine⟨s1.heap.objs.size+4,[s1.heap.objs.size+4,s1.heap.objs.size+2,s1.heap.objs.size+3,s1.heap.objs.size,s1.heap.objs.size+1],_,_,H1,rfl,I2,BR l m _ _ _ _ _ (zipApart_new eh ul),⟨gz,gi,⟨_,_,gq⟩,r1,r2⟩,fun b hb=>?_,q⟩;have kJ:s1.heap.objs.size<=b:=by
  simp only[aV,eA,eB] at hb;rcases hb with rfl|rfl|rfl|rfl|rfl
  .exact iF _ _
  .exact iF _ _
  .exact iF _ _
  .exact aY _
  .exact iF _ _
 exact I1.vc kJ (I1.bB.fresh kJ)
theorem BS{K:PySem.W.Frag}{a b D:Addr}{xs ys:List V}{g:TG}{tt:TT}{te:TE}{cZ:Hp->Prop}{σB:St}{H0:Hp}(K2:ys.length<=xs.length)(Pv:Nat->List V->St->Hp->Prop)(h0:Pv 0 [] σB H0)(hl:∀i zs σ H,i<=ys.length->Pv i zs σ H->aM K H a xs/\aM K H b ys)(hs:∀i x y p zs σ H (Kt:V->St->Hp->Prop) (Kf:St->Hp->Prop),xs[i]?=some x->ys[i]?=some y->Pv i zs σ H->H p=none->
   (∀v σ2 H4,H4 D=some (.lst zs)->zs.length<sizeLine->Pv (i+1) (zs++[v]) σ2 (upd H4 D (.lst (zs++[v])))->Kt v σ2 H4)->(∀σ2 H3,Pv (i+1) zs σ2 H3->Kf σ2 H3)->
   g (.ref p) σ (upd H p (.tup [x,y])) fun σ2 H2=>tt σ2 H2 fun b H3=>if b=true then te σ2 H3 fun v H4=>Kt v σ2 H4 else Kf σ2 H3)(hd:∀zs σ H,Pv ys.length zs σ H->cZ H):fq (Ms K a b) g tt te D cZ σB H0:=by
 refine⟨fun i m σ H=>m=ys.length-i/\i<=ys.length/\∃zs,Pv i zs σ H,⟨ys.length,by simp,cN _,[],h0⟩,?_⟩;rintro i m σ H ⟨rfl,hi,zs,p⟩;obtain⟨q1,q2⟩:=hl i zs σ H hi p;by_cases ul:i<ys.length
 .have eh:i<xs.length:=by lia
  refine .inr ⟨⟨xs,ys,xs[i],ys[i],q1,q2,by simp[eh],by simp[ul]⟩,?_⟩;rintro v H' ⟨pp,x,y,rfl,hn,rfl,F9,U0⟩;exact hs i x y pp zs σ _ (fun v σ2 H4=>∃zs,H4 D=some (.lst zs)/\zs.length<sizeLine/\∃m',m'<ys.length-i/\m'=ys.length-(i+1)/\i+1<=ys.length/\∃kP,Pv (i+1) kP σ2 (upd H4 D (.lst (zs++[v]))))
   (fun σ2 H3=>∃m',m'<ys.length-i/\m'=ys.length-(i+1)/\i+1<=ys.length/\∃kP,Pv (i+1) kP σ2 H3) (F9 xs q1) (U0 ys q2) p hn
   (fun v σ2 H4 z1 z2 z3=>⟨zs,z1,z2,_,by lia,rfl,ul,_,z3⟩) (fun σ2 H3 z=>⟨_,by lia,rfl,ul,_,z⟩)
 .have e:i=ys.length:=by lia
  subst e;exact .inl ⟨⟨xs,ys,q1,q2,.inr (aY _)⟩,hd zs σ H p⟩
end
end L2
namespace uq
open PySem L2 kQ
abbrev Wt:Stmt:=top 52
theorem qH:(["_law_i","_law_house"]:List Str).Nodup:=by decide +kernel
theorem JR{X:Cx}{H:Hp}{o:Option Nat}:GZ X H 0 (oV o) (oV o):=by
 intro ae s σ A u v I hu rx ry;have h:=xX (A:=A) (s:=s) rx ry (by cases o <;> rfl) (by cases o <;> rfl);rw[show m6 (oV o) (oV o)=true by cases o <;> simp[oV,m6]] at h;exact h
theorem HX{X:Cx}{H:Hp}{a b:Addr}{os:List (Option Nat)}(ha:H a=some (.tup (os.map oV)))(hb:H b=some (.tup (os.map oV))):GZ X H 1 (.ref a) (.ref b):=by
 refine G0 (bV.of ha) (bV.of hb) rfl fun i h1 h2=>?_;rw[aJ] at h1;rw[aT,cw,bh h1];exact JR
theorem bD.Zr{H:Hp}{a b:Addr}{as bs:List Addr}{N:Nat}{o:Nat->List (Option Nat)}(h:bD H a as N o)(h':bD H b bs N o):(as.map V.ref).length=(bs.map V.ref).length:=by rw[aJ,aJ,h.2.1,h'.2.1]
theorem bD.Zt{X:Cx}{H:Hp}{a b:Addr}{as bs:List Addr}{N:Nat}{o:Nat->List (Option Nat)}(h:bD H a as N o)(h':bD H b bs N o):∀i,i<(as.map V.ref).length->i<(bs.map V.ref).length->GZ X H 1 ((as.map V.ref).getD i .bE) ((bs.map V.ref).getD i .bE):=by
 intro i h1 h2;rw[aJ] at h1 h2;have e1:=h.2.2 i (by rw[<-h.2.1];exact h1);have e2:=h'.2.2 i (by rw[<-h'.2.1];exact h2);rw[aT,bh h1] at e1;rw[aT,bh h2] at e2;rw[aT,cw,bh h1,aT,cw,bh h2];exact HX e1 e2
theorem _root_.L2.cu.kD{lp:Pos}{q:Str}{P P' x c d:Addr}{fs:List (Str×V)}{H H':Hp}(t:cu lp q P H)(hx:H x=some (.ins c d fs))(hP:∃ps,H P'=some (.kB ps))(n:P≠P')(s:∀b o,H b=some o->b≠x->b≠P'->H' b=some o):cu lp q P H':=by
 obtain⟨ps,hP⟩:=hP;rcases t with z|⟨k,z,y⟩
 .exact .inl (s _ _ z (by rintro rfl;rw[z] at hx;cases hx) n)
 .exact .inr ⟨k,s _ _ z (by rintro rfl;rw[z] at hx;cases hx) n,s _ _ y (by rintro rfl;rw[y] at hx;cases hx) (by rintro rfl;rw[y] at hP;cases hP)⟩
theorem nU{H:Hp}{y dx c:Addr}(ny:H y=none)(Wu:H dx=none)(ne:dx≠y):aF H (upd (upd H dx (.own y)) y (.ins c dx [])):=(ai (o:=.own y) Wu).trans (ai (D:=y) (o:=.ins c dx []) (by rw[ak ne.symm];exact ny))
theorem _root_.L2.cu.JS{lp:Pos}{q:Str}{P P':Addr}{H H':Hp}(t:cu lp q P H)(s:iL P' H H')(hp:∃ps,H P'=some (.kB ps))(n:P≠P'):cu lp q P H':=by
 obtain⟨ps,hp⟩:=hp;rcases t with z|⟨c,z,y⟩
 .exact .inl (s _ _ z n)
 .exact .inr ⟨c,s _ _ z n,s _ _ y (by rintro rfl;rw[hp] at y;cases y)⟩
theorem bD.QK{H:Hp}{a:Addr}{as:List Addr}{N:Nat}{o o':Nat->List (Option Nat)}(h:bD H a as N o)(e:∀k,k<N->o' k=o k):bD H a as N o':=⟨h.1,h.2.1,fun k hk=>by show _=some (HO.tup ((o' k).map oV));rw[e k hk];exact h.2.2 k hk⟩
theorem uS{os:List (Option Nat)}{k:Nat}:jR (os.map oV) none (some (k:Int))=(os.take k).map oV:=by rw[uG,pI]
theorem ww{α:Type}{x:α}:∀ {k:Nat},(List.replicate k [x]).flatten=List.replicate k x
 |0=>rfl
 |k+1=>by rw[j9,pr,ww,j9];rfl
theorem HY{k:Nat}:(List.replicate k [V.bE]).flatten=(List.replicate k none).map oV:=by rw[ww,List.map_replicate];rfl
theorem KN.trans{H1 H2 H3:Hp}(a:KN H1 H2)(b:KN H2 H3):KN H1 H3:=fun c o e n=>b c o (a c o e n) n
theorem KN.of{H1 H2:Hp}(s:aF H1 H2):KN H1 H2:=fun c o e _=>s c o e
theorem E6{X:Cx}{H:Hp}{os:List (Option Nat)}:∀i,i<(os.map oV).length->i<(os.map oV).length->GZ X H 0 ((os.map oV).getD i .bE) ((os.map oV).getD i .bE):=fun i h _=>by
 rw[aT,bh h,pD,pE];exact JR
theorem bD.JT{H:Hp}{a b:Addr}{as:List Addr}{N M:Nat}{o:Nat->List (Option Nat)}(h:bD H a as N o)(hM:M<=N)(hb:H b=some (.lst ((as.take M).map V.ref))):bD H b (as.take M) M o:=⟨hb,by rw[cf,h.2.1];lia,fun k hk=>by
 rw[aT,lh hk,<-aT];exact h.2.2 k (by lia)⟩
theorem bD.JU{H:Hp}{a b:Addr}{as:List Addr}{N M:Nat}{o:Nat->List (Option Nat)}(h:bD H a as N o)(hM:M<=N)(hb:H b=some (.lst ((as.drop M).map V.ref))):bD H b (as.drop M) (N-M) (fun j=>o (M+j)):=⟨hb,by rw[lq,h.2.1],fun k hk=>by
 rw[aT,List.getElem?_drop,<-aT];exact h.2.2 (M+k) (by lia)⟩
theorem bD.app{H:Hp}{a b c:Addr}{as bs:List Addr}{N M:Nat}{o o':Nat->List (Option Nat)}(h:bD H a as N o)(h':bD H b bs M o')(hc:H c=some (.lst ((as++bs).map V.ref))):bD H c (as++bs) (N+M) (fun j=>if j<N then o j else o' (j-N)):=⟨hc,by rw[cV,h.2.1,h'.2.1],fun k hk=>by
 show _=some (HO.tup ((if k<N then _ else _:List (Option Nat)).map oV));rw[aT];by_cases e:k<N
 .rw[if_pos e,fP (by rw[h.2.1];exact e),<-aT];exact h.2.2 k e
 .rw[am e,k8 (by rw[h.2.1];lia),h.2.1,<-aT];exact h'.2.2 (k-N) (by lia)⟩
theorem wx{K:PySem.W.Frag}{a D:Addr}{mi:Nat}{as:List Addr}{N:Nat}{o:Nat->List (Option Nat)}{cZ:Hp->Prop}{u:Option V}{H0:Hp}(h:bD H0 a as N o)(hN:N<=600)(hD:H0 D=none)(hd:∀H bs,aF H0 H->bD H D bs N (fun j=>(o j).take mi)->cZ H):fq (BY K a) (a9 0) OG (Ku BH (aW 0) ip (p6 (aW 1))) D cZ [u,some (.int (mi:Int))] (upd H0 D (.lst [])):=by
 refine cD (xs:=as.map V.ref) (fun i ys σ H=>(∃u,σ=[u,some (.int (mi:Int))])/\aF H0 H/\H D=some (.lst ys)/\∃bs:List Addr,ys=bs.map V.ref/\Holds H bs i (fun j=>.tup (((o j).take mi).map oV))) ⟨⟨_,rfl⟩,ai hD,af,[],rfl,Holds.nil⟩ (fun i ys σ H _ z=>aM.of (z.2.1 _ _ h.1)) ?_ ?_
 .rintro i x ys σ H Kt Kf hx ⟨⟨u,rfl⟩,sm,iS,bs,rfl,ho⟩ kt kf;have hi:i<N:=by have:=(dw.mp hx).1;rw[aJ,h.2.1] at this;exact this
  obtain rfl:x=.ref (as.getD i 0):=by
   rw[cw,bh (by rw[h.2.1];exact hi)] at hx;rw[aT,bh (by rw[h.2.1];exact hi)];exact(be hx).symm
  refine⟨_,rfl,_,rfl,_,rfl,as.getD i 0,_,rfl,sm _ _ (h.2.2 i hi),fun r H' s' hr=>?_⟩;rw[uS] at hr;have PU:=s' _ _ iS;have nT:∀ {b xs},H' b=some (.tup xs)->b≠D:=fun {b xs} e=>by rintro rfl;rw[PU] at e;cases e
  have AJ:Holds H' bs i (fun j=>.tup (((o j).take mi).map oV)):=ho.mono fun j _ e=>s' _ _ e;refine kt _ _ _ PU (by rw[aJ,ho.1];exact bS (show i<601 by lia) (by decide)) ⟨⟨_,rfl⟩,a_ (sm.trans s') hD,af,bs++[r],by rw[bW];rfl,?_⟩;exact(AJ.mono fun j _ e=>by rw[ak (nT e)];exact e).snoc (by rw[ak (nT hr)];exact hr)
 .rintro ys σ H ⟨_,sm,iS,bs,rfl,ho⟩;rw[aJ,h.2.1] at ho;exact hd H bs sm ⟨iS,ho⟩
section
variable {P:Program} {w:World} {K:PySem.W.Frag} {mg:Str->Option Value} {base:Heap}
theorem Mt:aE ["_law_fars_here","_law_plan_here","_law_stand","_law_handing","_law_some","_law_home"] ["_law_fars_here","_law_plan_here","_law_stand","_law_handing"] (ap Wt):=⟨rfl,rfl,rfl,by decide +kernel,rfl,by decide +kernel,by decide +kernel⟩
def HZ:Sp:=fun vs H Q _=>∃ (fa pa sa ha:Addr) (n:Nat) (ts:Ts) (pl:List iT) (b:Nat),vs=[.ref fa,.ref pa,.ref sa,.ref ha]/\yS H fa n ts/\f_ H pa pl/\ck n ts/\nN n pl/\H sa=some (.tup ((jD n ts pl b).map oV))/\H ha=some (.tup ((sq n ts pl b).map oV))/\∀H',aF H H'->Q (.bl true) H'
theorem QL{f:Addr}{fd:FuncData}(F:fJ K "_law_nearer" "_law_nearer" Wt f fd)(B2:NL mg):bz P w K mg base bf 1 f fd ["_law_fars_here","_law_plan_here","_law_stand","_law_handing"] HZ:=by
 refine F.ok Mt (fun vs H Q E h=>?_) (fun dU A outer s H vs Q E hr h=>?_)
 .obtain⟨fa,pa,sa,ha,n,ts,pl,b,rfl,_⟩:=h;rfl
 .obtain⟨fa,pa,sa,ha,n,ts,pl,b,rfl,FA,PA,F1,oC,hS,hH,q⟩:=h;refine'⟨_,(ah (df (i:=4) (g:=(oq K 2 (dC (a9 0) (dC (a9 1) oo)))) (tt:=(fD (im EB (aW 1) (tC .bE)))) (te:=(aW 0)) (NB:=["_law_i","_law_house"]) (src:=[none,none]) (bq (by kernel_rfl)) rfl (vF rfl B2.enum (aa (pv 2) ag)) ?g1 ?t1 ?e1 Mt.nd rfl rfl rfl)
   (ah (cr (aK (Dh (e:=m6) hr.u) (pv 4) (cz ag) (aU _)) (ao (aX nZ)) bg)
   (ah (aS (i:=5) Mt.nd rfl (Or.inl rfl) (ba e_ (ba aR (pv 1) (ba aR (pv 4) av (fun _ _=>rfl)) (fun _ _=>rfl)) av (fun _ _=>rfl)))
   (ao (aX (io n0 (ba aR (ba aR (pv 0) (ba e_ (pv 3) (ba aR (pv 4) av (fun _ _=>rfl)) (fun _ _=>rfl)) (fun _ _=>rfl)) (pv 5) (fun _ _=>rfl)) (ba aR (ba aR (pv 0) (ba e_ (pv 2) (ba aR (pv 4) av (fun _ _=>rfl)) (fun _ _=>rfl)) (fun _ _=>rfl)) (pv 5) (fun _ _=>rfl)) (aU _))))))),?_⟩
  case g1=>exact fun cl C s₃ H₃ fp=>(dY (n:=2) rfl (aO (aq (i:=0) qH rfl (Or.inl rfl) (Or.inr rfl)) (aO (aq (i:=1) qH rfl (Or.inl rfl) (Or.inr rfl)) c_)))
  case t1=>exact fun cl C s₃ H₃ fp=>dD (aK tP (pv 1) dI (aU _))
  case e1=>exact fun cl C s₃ H₃ fp=>(pv 0)
  have ES:=oC.len;have sl:=iz (n:=n) (ts:=ts) (pl:=pl) (b:=b);have hl:(sq n ts pl b).length=pl.length:=by unfold sq;rw[jB,sl]
  refine⟨_,rfl,sa,_,rfl,bV.of hS,fun D hD=>?_⟩;refine qh (K:=K) (a:=sa) (xs:=(jD n ts pl b).map oV) (fun i ys σ H3=>(∃u v,σ=[u,v])/\ys=NV (jM (jD n ts pl b) i)/\aF H H3/\H3 D=some (.lst ys)) ⟨⟨_,_,rfl⟩,rfl,ai hD,af⟩ (fun i ys σ H3 _ z=>bV.of (z.2.2.1 _ _ hS)) ?_ ?_
  .rintro i x t ys σ H3 Kt Kf hx ⟨⟨u,v,rfl⟩,rfl,sm,gU⟩ ht kt kf;obtain⟨hi,rfl⟩:=EC hx;have aZ:=ai (o:=.tup [.int (i:Int),oV ((jD n ts pl b).getD i none)]) ht;refine⟨_,_,rfl,bV.of af,rfl,_,_,rfl,_,_,rfl,rfl,?_⟩;refine⟨_,rfl,rfl,_,rfl,?_⟩;rw[uJ];refine gK (fun e=>?_) (fun e=>?_)
   .refine⟨_,rfl,kt _ _ _ (aZ _ _ gU) (by rw[bw];exact dX Am (bS (show i<17 by lia) (by decide))) ⟨⟨_,_,rfl⟩,?_,a_ (sm.trans aZ) hD,af⟩⟩;rw[l6,if_pos e,ix]
   .refine kf _ _ ⟨⟨_,_,rfl⟩,?_,sm.trans aZ,aZ _ _ gU⟩;rw[l6,am e,jV]
  rintro ys σ H3 ⟨_,rfl,sm,gU⟩;rw[aJ] at gU;refine⟨_,rfl,by show 0<=sizeLine;decide,fun E1 Fs=>?_⟩;have sE:=ai (o:=.lst []) Fs;refine⟨D,E1,_,[],rfl,rfl,aM.of (sE _ _ gU),aM.of af,fun i h1 h2=>absurd h2 (by simp),_,rfl,?_⟩;rw[am (by decide),jL];have oZ:=sm.trans sE;have qx:=sE _ _ gU;generalize upd H3 E1 (.lst [])=H4 at *;cases e:jM (jD n ts pl b) (jD n ts pl b).length with
  |nil=>
   rw[cR (by rfl)];exact oj (q H4 oZ)
  |cons l r=>
   rw[cM (by intro z;cases z)];refine j3 ?_;rw[e] at qx;obtain⟨Zu,y,g,ey,eg,hy,hg,lt⟩:=HC F1 oC e;obtain⟨as,rb,b1,b2,b3,b4⟩:=PA.row Zu;obtain⟨bs,f1,f2,f3⟩:=FA;have hh:(jC pl l).2.2<n:=(oC.hs _ (jP Zu)).2.1;have l0:qQ (NV (l::r)) 0=some (.int (l:Int)):=aw (j:=0) rfl;have fr:∀x,x<n->(bs.map V.ref)[x]?=some (.ref (bs.getD x 0)):=fun x hx=>by rw[cw,bh (by lia),aT,bh (by lia)];rfl
   have ff:∀x,(NV ((List.range n).map (far ts x)))[(jC pl l).2.2]?=some (.int ((far ts x (jC pl l).2.2:Nat):Int)):=fun x=>by rw[cw,cw,ka hh];rfl
   have oS:qQ ((jD n ts pl b).map oV) (l:Int)=some (.int (y:Int)):=by rw[show V.int (y:Int)=oV ((jD n ts pl b).getD l none) by rw[ey];rfl];exact aw (l7 (by lia))
   have oH:qQ ((sq n ts pl b).map oV) (l:Int)=some (.int (g:Int)):=by rw[show V.int (g:Int)=oV ((sq n ts pl b).getD l none) by rw[eg];rfl];exact aw (l7 (by lia))
   refine⟨_,rfl,_,rfl,D,_,_,_,rfl,rfl,aM.of qx,l0,pa,_,_,_,rfl,rfl,aM.of (oZ _ _ b1),b2,rb,_,_,_,rfl,rfl,bV.of (oZ _ _ b4),aw (j:=2) rfl,?_⟩;refine⟨_,rfl,_,rfl,_,rfl,D,_,_,_,rfl,rfl,aM.of qx,l0,ha,_,_,_,rfl,rfl,bV.of (oZ _ _ hH),oH,fa,_,_,_,rfl,rfl,aM.of (oZ _ _ f1),aw (fr g hg),_,rfl,bs.getD g 0,_,_,_,rfl,rfl,aM.of (oZ _ _ (f3 g hg)),aw (ff g),?_⟩;refine⟨_,rfl,_,rfl,_,rfl,D,_,_,_,rfl,rfl,aM.of qx,l0,sa,_,_,_,rfl,rfl,bV.of (oZ _ _ hS),oS,fa,_,_,_,rfl,rfl,aM.of (oZ _ _ f1),aw (fr y hy),_,rfl,bs.getD y 0,_,_,_,rfl,rfl,aM.of (oZ _ _ (f3 y hy)),aw (ff y),_,_,rfl,rfl,?_⟩;show Q (.bl (decide (((far ts g (jC pl l).2.2:Nat):Int)<((far ts y (jC pl l).2.2:Nat):Int)))) H4;rw[cR (Int.ofNat_lt.mpr lt)];exact q H4 oZ
end
abbrev S9:Stmt:=top 53
theorem k5:(["_law_row","_law_few"]:List Str).Nodup:=by decide +kernel
theorem cg:(["_law_stand","_law_handing","_law_fars_here","_law_plan_here"]:List Str).Nodup:=by decide +kernel
theorem uT:(["_law_i","_law_entries"]:List Str).Nodup:=by decide +kernel
theorem cL.kn{C px:Addr}{H H':Hp}{L:Addr->Prop}{n:Nat}{ts:Ts}(N:cL C H L px n ts)(s:KN H H'):∃L',cL C H' L' px n ts:=by
 obtain⟨dx,tl,ol,ds,i0,_⟩:=N.ob;exact⟨_,N.Zb.keep (H':=H') (fun b o l e=>by obtain⟨_,o',e',n⟩:=l;rw[e] at e';cases e';exact s _ _ e n) (fun o e=>s _ _ e (by rw[i0] at e;cases e;intro ps z;cases z))⟩
def y4(zm:Bool):R2:=fun x y H Q=>∃ (p q:Addr) (os:List (Option Nat)),x=.ref p/\y=.ref q/\H p=some (.tup (os.map oV))/\H q=some (.tup (os.map oV))/\Q (.bl (!zm)) H
theorem H_{X:Cx}(hu:X.A.units+2<cLine):jF X (compareOp .NotEq) (y4 true):=fun ae s σ H x y v u Q I rx ry ⟨p,q,os,e1,e2,h1,h2,k⟩=>G4 (d:=0) (by lia) ae s σ H x y v u Q I rx ry ⟨p,q,_,_,e1,e2,bV.of h1,bV.of h2,rfl,E6,k⟩
theorem BU{K:PySem.W.Frag}{a D:Addr}{mi:Nat}{as:List Addr}{N:Nat}{o:Nat->List (Option Nat)}{cZ:Hp->Prop}{u:Option V}{H0:Hp}(h:bD H0 a as N o)(hf:mi<=16)(hn:∀j,j<N->(o j).take mi=List.replicate mi none)(hD:H0 D=none)(hd:∀H,aF H0 H->H D=some (.lst [])->cZ H):fq (BY K a) (a9 0) (fD (im (y4 true) (Ku BH (aW 0) ip (p6 (aW 1))) (im Ed (AR (cP (tC .bE) jn)) (aW 1)))) (aW 0) D cZ [u,some (.int (mi:Int))] (upd H0 D (.lst [])):=by
 refine cD (xs:=as.map V.ref) (fun i ys σ H=>(∃u,σ=[u,some (.int (mi:Int))])/\aF H0 H/\H D=some (.lst ys)/\ys=[]) ⟨⟨_,rfl⟩,ai hD,af,rfl⟩ (fun i ys σ H _ z=>aM.of (z.2.1 _ _ h.1)) ?_ ?_
 .rintro i x ys σ H Kt Kf hx ⟨⟨u,rfl⟩,sm,iS,rfl⟩ kt kf;have hi:i<N:=by have:=(dw.mp hx).1;rw[aJ,h.2.1] at this;exact this
  obtain rfl:x=.ref (as.getD i 0):=by
   rw[cw,bh (by rw[h.2.1];exact hi)] at hx;rw[aT,bh (by rw[h.2.1];exact hi)];exact(be hx).symm
  refine⟨_,rfl,_,rfl,_,rfl,as.getD i 0,_,rfl,sm _ _ (h.2.2 i hi),fun r H' s' hr=>?_⟩;rw[uS,hn i hi] at hr;refine⟨by show 1<=sizeLine;decide,fun t1 Jz=>⟨_,rfl,t1,_,_,rfl,rfl,af,by simp,by simp,by lia,by lia,fun nn H8 s8 Zv=>?_⟩⟩;rw[iZ,HY] at Zv;have s2:=(ai (o:=.tup [V.bE]) Jz).trans s8;exact⟨r,nn,_,rfl,rfl,s2 _ _ hr,Zv,_,rfl,gg (kf _ _ ⟨⟨_,rfl⟩,(sm.trans s').trans s2,s2 _ _ (s' _ _ iS),rfl⟩)⟩
 .rintro ys σ H ⟨_,sm,iS,rfl⟩;exact hd H sm iS
section
variable {n k most N M:Nat} {ts:Ts} {pl:List iT}
theorem Ib(hk:k<=pl.length)(A:Ar n ts pl most N)(B:Ar n ts (pl.take k) most M):(eO n ts (pl.take k) M).1=(eO n ts pl N).1.take k:=by
 have le:=A.cut hk B;rw[(k4 hk M).1];rcases pL M N with c|c
 .exact((uN hk B (bS c A.le) (je c)).1).symm
 .rw[show M=N by lia]
theorem Ic(hk:k<=pl.length)(A:Ar n ts pl most N)(B:Ar n ts (pl.take k) most M){j:Nat}(hj:j<M+1):JN n ts (pl.take k) M j=(JN n ts pl N j).take k:=by
 have le:=A.cut hk B;show (if j=M then _ else _)=(if j=N then _ else _:List (Option Nat)).take k;by_cases c:j=M
 .subst c;rw[if_pos rfl];by_cases d:j=N
  .subst d;rw[if_pos rfl];exact(k4 hk j).2
  .rw[am d];obtain⟨_,f2,f3,_⟩:=uN hk B (j:=j) (by have:=A.le;lia) (aY _);rw[(k4 hk j).2,f2,f3]
 .rw[am c,am (by lia)];exact EQ hk
theorem Mu(hk:k<=pl.length)(A:Ar n ts pl most N)(B:Ar n ts (pl.take k) most M){j:Nat}(hj:j<N-M):(sq n ts pl (M+j)).take k=List.replicate k none:=(uN hk B (by have:=A.le;lia) (iF _ _)).2.2.2
theorem Mv(hk:k<=pl.length)(A:Ar n ts pl most N)(B:Ar n ts (pl.take k) most M){j:Nat}(hj:j<N+1-(M+1)):(JN n ts pl N (M+1+j)).take k=List.replicate k none:=by
 obtain⟨_,f2,f3,_⟩:=uN hk B (j:=M+1+j) (by have:=A.le;lia) (by lia);show (if _ then _ else _:List (Option Nat)).take k=_;split
 .rename_i c;rw[<-c];exact f2
 .exact f3
theorem Mw{es st:List (Option Nat)}{m i:Nat}(C:JF m es st)(h:es.getD i none≠none):none∉es.take i:=fun z=>by
 obtain⟨j,hj,e⟩:=mr z;rw[cf] at hj;have:es.getD j none=none:=by
  rw[List.getElem_take] at e;rw[aT,bh (by lia),e];rfl
 exact h ((C.cl j this).2 i (by lia))
theorem E7(O:nN n pl):nN n (pl.take k):=⟨by have:=O.len;rw[cf];lia,fun r hr=>O.hs r (lm hr),O.up.sublist (mx _ _)⟩
end
theorem f_.take{H:Hp}{a b:Addr}{as:List Addr}{pl:List iT}{k:Nat}(h:f_ H a pl)(ha:H a=some (.lst (as.map V.ref)))(hb:H b=some (.lst ((as.take k).map V.ref))):f_ H b (pl.take k):=by
 obtain⟨oz,a1,a2,a3⟩:=h;obtain rfl:as=oz:=sQ (f:=V.ref) (fun _ _ z=>V.ref.inj z) |>.mp (HO.lst.inj (be (ha.symm.trans a1)));refine⟨as.take k,hb,by rw[cf,cf,a2],fun i r e=>?_⟩;have hi:i<k:=by have:=(dw.mp e).1;rw[cf] at this;lia
 rw[lh hi] at e;rw[aT,lh hi,<-aT];exact a3 i r e
theorem uU{as:List Addr}{k:Nat}:jR (as.map V.ref) none (some (k:Int))=(as.take k).map V.ref:=by rw[uG,pI]
theorem wy{as:List Addr}{k:Nat}:jR (as.map V.ref) (some (k:Int)) none=(as.drop k).map V.ref:=by rw[we,List.map_drop]
section
variable {P:Program} {w:World} {K:PySem.W.Frag} {mg:Str->Option Value} {base:Heap}
theorem uV:aE ["_law_many","_law_ties_here","_law_plan_here","_law_few","_law_most","_law_fars_here","_law_net","_law_entries","_law_log","_law_stands","_law_own_entries","_law_own_log","_law_own_stands"] ["_law_many","_law_ties_here","_law_plan_here","_law_few","_law_most"] (ap S9):=⟨rfl,rfl,rfl,by decide +kernel,rfl,by decide +kernel,by decide +kernel⟩
def Mx(Pt Pr:Addr):Sp:=fun vs H Q _=>∃ (LT pa:Addr) (n mi most:Nat) (zs:Zs) (pl:List iT),vs=[.int n,.ref LT,.ref pa,.int mi,.int most]/\H LT=some (.lst (zr zs))/\PO H zs/\ck n (zp zs)/\f_ H pa pl/\nN n pl/\mi<=pl.length/\most<=500/\nJ Pt H/\uQ Pr H/\∀H',KN H H'->nJ Pt H'->uQ Pr H'->Q (.bl true) H'
theorem QM{f C CI Pt Pr fI:Addr}{fd Zw:FuncData}(F:fJ K "_law_right" "_law_right" S9 f fd)(B:Bl mg)(B2:NL mg)(TN:NT K mg C)(M:Mk K C fI)(bI:iI K Zw ["self","many","ties"] [])(GI:bz P w K mg base bf 7 fI Zw ["self","many","ties"] (yJ C Pt))(nP:Pr≠Pt)(RT:Hu K mg CI)(OU:cQ P w K mg base bf 1 "_law_outs" ["_law_many","_law_ties_here"] LF)(FA:cQ P w K mg base bf 1 "_law_fars" ["_law_many","_law_outs_here"] LH)(LR:cQ P w K mg base bf 9 "let_in_run" ["rule","net","plan","most"] (E3 C CI Pr))(NR:cQ P w K mg base bf 1 "_law_nearer" ["_law_fars_here","_law_plan_here","_law_stand","_law_handing"] HZ):bz P w K mg base bf 10 f fd ["_law_many","_law_ties_here","_law_plan_here","_law_few","_law_most"] (Mx Pt Pr):=by
 refine F.ok uV (fun vs H Q E h=>?_) (fun dU A outer s H vs Q E hr h=>?_)
 .obtain⟨LT,pa,n,mi,most,zs,pl,rfl,_⟩:=h;rfl
 .obtain⟨LT,pa,n,mi,most,zs,pl,rfl,S_,po,Fi,PA,oC,hf,E4,tb,tr,q⟩:=h;have h1:b9 1 _:=hr.mono (by decide);have h8:b9 8 _:=hr.mono (by decide);have B6:(A.deeper (PyProof.Rows.envOfC "_law_right" (ap S9) s.heap.objs.size f dU)).units+(0+1)<cLine:=by have:_+2<_:=hr.u;exact Nat.lt_of_succ_lt this
  refine'⟨_,(ah (aS (i:=5) uV.nd rfl (Or.inr rfl) (aB FA h1 aI (aa (pv 0) (aa (aB OU h1 aI (aa (pv 0) (aa (pv 1) ag))) ag))))
   (ah (aS (i:=6) uV.nd rfl (Or.inl rfl) (FS M GI h8 rfl TN.PM bI .nil aI (aa (pv 0) (aa (cx fH (by rfl) B.lst nV (aa (pv 1) ag)) ag))))
   (ah (ik (aB LR hr aI (aa (Eb RT.new rfl RT.PM) (aa (pv 6) (aa (cx fH (by rfl) B.lst nV (aa (pv 2) ag)) (aa (pv 4) ag))))) (dY (n:=3) rfl (aO (aq (i:=7) uV.nd rfl (Or.inr rfl)) (aO (aq (i:=8) uV.nd rfl (Or.inl rfl)) (aO (aq (i:=9) uV.nd rfl (Or.inl rfl)) c_)))))
   (ah (ik (aB LR hr aI (aa (Eb RT.new rfl RT.PM) (aa (pv 6) (aa (cS gm (pv 2) dO (dP (pv 3))) (aa (pv 4) ag))))) (dY (n:=3) rfl (aO (aq (i:=10) uV.nd rfl (Or.inl rfl)) (aO (aq (i:=11) uV.nd rfl (Or.inl rfl)) (aO (aq (i:=12) uV.nd rfl (Or.inl rfl)) c_)))))
   (ah (cr (PW.pt (Cq (aK (o0 (d:=0) B6) (cS gm (pv 7) dO (dP (pv 3))) (pv 10) (aU _)) (Cq (aK zg (aA az (by rfl) B.len cB (aa (pv 11) ag)) (aA az (by rfl) B.len cB (aa (pv 8) ag)) (aU _)) (Cp (aK ve (aA az (by rfl) B.len cB (aa (pv 9) ag)) (bJ eE (aA az (by rfl) B.len cB (aa (pv 8) ag)) av) (aU _)))))) (ao (aX nZ)) bg)
   (ah (cr (aK (o0 (d:=1) hr.u) ?c1 (pv 11) (aU _)) (ao (aX nZ)) bg)
   (ah (cr (aK (o0 (d:=1) hr.u) ?c2 (pv 12) (aU _)) (ao (aX nZ)) bg)
   (ah (cr (aK (o0 (d:=1) hr.u) ?c3 (cz ag) (aU _)) (ao (aX nZ)) bg)
   (ah (cr (gI (eY (aA (rV rfl) (by rfl) B.all PyProof.Rows.boot_all (aa ?c4 ag)))) (ao (aX nZ)) bg)
   (ao (aX (aA (rV rfl) (by rfl) B.all PyProof.Rows.boot_all (aa ?c5 ag))))))))))))),?_⟩
  case c1=>
   refine' bU (g:=(a9 0)) (te:=(Ku BH (aW 0) ip (p6 (aW 1)))) (NB:=["_law_row","_law_few"]) (src:=[none,some 3]) (bq (by kernel_rfl)) rfl (bF (cS gm (pv 8) dO (dP (aA az (by rfl) B.len cB (aa (pv 11) ag))))) ?g ?t ?e;case g=>exact fun cl C s₃ H₃ fp=>(aq (i:=0) k5 rfl (Or.inl rfl) (Or.inr rfl))
   case t=>exact fun cl C s₃ H₃ fp=>cK
   case e=>exact fun cl C s₃ H₃ fp=>(cS l4 (pv 0) dO (dP (pv 1)))
  case c2=>
   refine' bU (g:=(a9 0)) (te:=(Ku BH (aW 0) ip (p6 (aW 1)))) (NB:=["_law_row","_law_few"]) (src:=[none,some 3]) (bq (by kernel_rfl)) rfl (bF (cS gm (pv 9) dO (dP (aA az (by rfl) B.len cB (aa (pv 12) ag))))) ?g ?t ?e;case g=>exact fun cl C s₃ H₃ fp=>(aq (i:=0) k5 rfl (Or.inl rfl) (Or.inr rfl))
   case t=>exact fun cl C s₃ H₃ fp=>cK
   case e=>exact fun cl C s₃ H₃ fp=>(cS l4 (pv 0) dO (dP (pv 1)))
  case c3=>
   refine' bU (g:=(a9 0)) (tt:=(fD (im (y4 true) (Ku BH (aW 0) ip (p6 (aW 1))) (im Ed (AR (cP (tC .bE) jn)) (aW 1))))) (te:=(aW 0)) (NB:=["_law_row","_law_few"]) (src:=[none,some 3]) (bq (by kernel_rfl)) rfl (bF (bJ C0 (cS gm (pv 8) (dP (aA az (by rfl) B.len cB (aa (pv 11) ag))) dO) (cS gm (pv 9) (dP (aA az (by rfl) B.len cB (aa (pv 12) ag))) dO))) ?g ?t ?e;case g=>exact fun cl C s₃ H₃ fp=>(aq (i:=0) k5 rfl (Or.inl rfl) (Or.inr rfl))
   case t=>exact fun cl C s₃ H₃ fp=>dD (aK (H_ hr.u) (cS l4 (pv 0) dO (dP (pv 1))) (bJ G7 (fX (aa dI ag)) (pv 1)) (aU _))
   case e=>exact fun cl C s₃ H₃ fp=>(pv 0)
  case c4=>
   refine' bU (g:=(oq K 2 (dC (a9 0) (dC (a9 1) oo)))) (te:=(pX HZ [] E0 (cP (aW 2) (cP (aW 3) (cP (aW 0) (cP (aW 1) jn)))))) (NB:=["_law_stand","_law_handing","_law_fars_here","_law_plan_here"]) (src:=[none,none,some 5,some 2]) (bq (by kernel_rfl)) rfl (HW rfl B2.zip (aa (pv 9) (aa (pv 8) ag))) ?g ?t ?e;case g=>exact fun cl C s₃ H₃ fp=>(dY (n:=2) rfl (aO (aq (i:=0) cg rfl (Or.inl rfl) (Or.inr rfl)) (aO (aq (i:=1) cg rfl (Or.inl rfl) (Or.inr rfl)) c_)))
   case t=>exact fun cl C s₃ H₃ fp=>cK
   case e=>exact fun cl C s₃ H₃ fp=>(aB NR h1 aI (aa (pv 2) (aa (pv 3) (aa (pv 0) (aa (pv 1) ag)))))
  case c5=>
   refine' bU (g:=(a9 0)) (tt:=(fD (im EB (im (xU K) (aW 1) (aW 0)) (tC .bE)))) (te:=(im (R0 K true) (tC .bE) (Ku (Oz K) (aW 1) ip (p6 (aW 0))))) (NB:=["_law_i","_law_entries"]) (src:=[none,some 7]) (bq (by kernel_rfl)) rfl (bP rfl B.range (aa (aA az (by rfl) B.len cB (aa (pv 2) ag)) ag)) ?g ?t ?e;case g=>exact fun cl C s₃ H₃ fp=>(aq (i:=0) uT rfl (Or.inl rfl) (Or.inr rfl))
   case t=>exact fun cl C s₃ H₃ fp=>dD (aK tP (ba aR (pv 1) (pv 0) (fun _ _=>rfl)) dI (aU _))
   case e=>exact fun cl C s₃ H₃ fp=>(io lH dI (cS gm (pv 1) dO (dP (pv 0))) rfl)
  have ES:=oC.len;refine⟨_,rfl,_,rfl,_,rfl,n,LT,zs,rfl,S_,po,Fi,fun O H1 s1 nO OP=>⟨n,O,zp zs,rfl,OP,Fi,fun fa H2 s2 nfa FP=>?_⟩⟩;have Ea:=s1.trans s2;refine⟨_,rfl,_,rfl,LT,_,rfl,.inl (aM.of (Ea _ _ S_)),fun Z hZ bx dx nx Wu nex=>?_⟩;have sD:=ai (o:=.lst (zr zs)) hZ;have Zy:upd H2 Z (.lst (zr zs)) Z=some (.lst (zr zs)):=af;generalize upd H2 Z (.lst (zr zs))=NX at *;have sN:=nU (c:=C) nx Wu nex;have Wv:(upd (upd NX dx (.own bx)) bx (.ins C dx [])) bx=some (.ins C dx []):=af;generalize upd (upd NX dx (.own bx)) bx (.ins C dx [])=HM at *;have Ta:aF H HM:=Ea.trans (sD.trans sN);have tM:=tb.kS Ta;refine⟨bx,dx,n,Z,zs,rfl,Wv,⟨Fi,sN _ _ Zy,fun z hz=>Ta _ _ (po z hz)⟩,tM,fun H3 NA t3 s3=>⟨rfl,?_⟩⟩;have k3:KN H2 H3:=fun b o e nt=>s3 _ _ (sN _ _ (sD _ _ e)) (fun z=>by subst z;exact aj (sD _ _ e) nx rfl) (tM.not (sN _ _ (sD _ _ e)) nt);have r3:uQ Pr H3:=cu.kD (tr.kS Ta) Wv tM.kB nP s3;have NW:KN H H3:=(KN.of Ea).trans k3;have nl:∀ {xs},E2 (.lst xs):=fun {xs} ps z=>by cases z
  have nt:∀ {xs},E2 (.tup xs):=fun {xs} ps z=>by cases z
  have Zz:yS H3 fa n (zp zs):=let ⟨bs,a,b,c⟩:=FP;⟨bs,k3 _ _ a nl,b,fun h hh=>k3 _ _ (c h hh) nl⟩;have Tb:=PA.kn NW;clear k3 s3 tM Ta Wv sN sD Zy FP Ea s1 s2 OP nO nfa;intro rx rd nrx nrd Ww;have sR:=nU (c:=CI) nrx nrd Ww;have gR:(upd (upd H3 rd (.own rx)) rx (.ins CI rd [])) rx=some (.ins CI rd []):=af;generalize upd (upd H3 rd (.own rx)) rx _=H4 at *;obtain⟨as,a1,a2,a3⟩:=id Tb;refine⟨_,rfl,_,rfl,pa,_,rfl,.inl (aM.of (sR _ _ a1)),fun P2 hP2=>?_⟩;have sP:=ai (o:=.lst (as.map V.ref)) hP2;have gP:(upd H4 P2 (.lst (as.map V.ref))) P2=some (.lst (as.map V.ref)):=af;generalize upd H4 P2 _=H5 at *;have Ie:=sR.trans sP;obtain⟨L5,N5⟩:=NA.kn (KN.of Ie);refine⟨_,rfl,L5,rx,rd,bx,P2,n,zp zs,pl,most,rfl,sP _ _ gR,N5,⟨as,gP,a2,fun i r e=>Ie _ _ (a3 i r e)⟩,oC,E4,r3.kS Ie,fun t1 ea LG SD N o6 k7 H6 RN r6 sT Jz hE rl rs=>⟨t1,_,rfl,bV.of Jz,rfl,_,_,rfl,_,_,rfl,_,_,rfl,rfl,?_⟩⟩;have k6:KN H3 H6:=fun b o e nn=>sT _ _ (Ie _ _ e) ((r3.kS Ie).not (Ie _ _ e) nn);have t6:nJ Pt H6:=cu.JS (t3.kS Ie) sT (r3.kS Ie).kB nP.symm;clear sT Ie sP gP gR sR N5;intro NY QN Wx Wy QO;have sR:=nU (c:=CI) Wx Wy QO;have gR:(upd (upd H6 QN (.own NY)) NY (.ins CI QN [])) NY=some (.ins CI QN []):=af;generalize upd (upd H6 QN (.own NY)) NY _=H7 at *;have ZA:=(Tb.kn k6).same sR;have a7:=sR _ _ (k6 _ _ a1 nl);refine⟨_,rfl,_,rfl,_,rfl,_,rfl,pa,_,rfl,aM.of a7,fun P3 hP3=>?_⟩;rw[uU];have sP:=ai (o:=.lst ((as.take mi).map V.ref)) hP3;have gP:(upd H7 P3 (.lst ((as.take mi).map V.ref))) P3=some (.lst ((as.take mi).map V.ref)):=af;generalize upd H7 P3 _=H8 at *;have JV:=sR.trans sP;obtain⟨L8,N8⟩:=NA.kn (k6.trans (KN.of JV));refine⟨_,rfl,L8,NY,QN,bx,P3,n,zp zs,pl.take mi,most,rfl,sP _ _ gR,N8,(ZA.same sP).take (sP _ _ a7) gP,E7 oC,E4,r6.kS JV,fun t2 oe OL OS N1 ola osa H9 QP r9 sT Ss JP QQ Tc=>⟨t2,_,rfl,bV.of Ss,rfl,_,_,rfl,_,_,rfl,_,_,rfl,rfl,?_⟩⟩;have k9:KN H6 H9:=fun b o e nn=>sT _ _ (JV _ _ e) ((r6.kS JV).not (JV _ _ e) nn);have t9:nJ Pt H9:=cu.JS (t6.kS JV) sT (r6.kS JV).kB nP.symm;have kR:∀ {a as N o},bD H6 a as N o->bD H9 a as N o:=fun h=>⟨k9 _ _ h.1 nl,h.2.mono fun j _ e=>k9 _ _ e nt⟩
  have JW:=kR rl;have My:=kR rs;have ZB:=k9 _ _ hE nl;have Td:=(Tb.kn k6).kn k9;have FP9:yS H9 fa n (zp zs):=let ⟨bs,a,b,c⟩:=Zz;⟨bs,k9 _ _ (k6 _ _ a nl) nl,b,fun h hh=>k9 _ _ (k6 _ _ (c h hh) nl) nl⟩;have kn9:=(NW.trans k6).trans k9;rw[Ib hf RN QP] at JP;have le:=RN.cut hf QP;have Nle:=RN.le;clear sT JV sP gP gR sR N8 kR rl rs hE Tb ZA a7 t6 r6 t3 r3 k6 k9 Zz a3 Jz Ss NA NW;refine⟨_,rfl,_,rfl,_,rfl,ea,_,rfl,aM.of ZB,fun pe Jj=>?_⟩;rw[uS];have Ig:=ai (o:=.lst (((eO n (zp zs) pl N).1.take mi).map oV)) Jj;have QR:(upd H9 pe (.lst (((eO n (zp zs) pl N).1.take mi).map oV))) pe=some (.lst (((eO n (zp zs) pl N).1.take mi).map oV)):=af;generalize upd H9 pe _=NX at *;refine⟨_,rfl,pe,oe,_,_,rfl,rfl,aM.of QR,aM.of (Ig _ _ JP),rfl,E6,_,rfl,gg ?_⟩;have Wz:ola.length=N1:=QQ.2.1;have lN:o6.length=N:=JW.2.1;have lS:k7.length=N+1:=My.2.1;have ZC:osa.length=N1+1:=Tc.2.1;refine⟨_,rfl,OL,_,rfl,.inl (aM.of (Ig _ _ QQ.1)),_,rfl,LG,_,rfl,.inl (aM.of (Ig _ _ JW.1)),_,_,rfl,rfl,_,rfl,sr (cM (by rw[aJ,aJ,lN,Wz];lia)) ?_⟩;refine⟨_,rfl,SD,_,rfl,.inl (aM.of (Ig _ _ My.1)),_,rfl,LG,_,rfl,.inl (aM.of (Ig _ _ JW.1)),_,_,rfl,rfl,rfl,_,rfl,sr (by rw[aJ,aJ,lN,lS];simp) ?_⟩;refine⟨_,rfl,_,rfl,OL,_,rfl,.inl (aM.of (Ig _ _ QQ.1)),_,rfl,LG,_,rfl,aM.of (Ig _ _ JW.1),fun q1 C7=>?_⟩;rw[aJ,Wz,uU];have ZD:=ai (o:=.lst ((o6.take N1).map V.ref)) C7;have K3:(upd NX q1 (.lst ((o6.take N1).map V.ref))) q1=some (.lst ((o6.take N1).map V.ref)):=af;generalize upd NX q1 _=H11 at *;have Mz:=Ig.trans ZD;refine⟨q1,rfl,⟨_,aM.of K3⟩,fun D1 BL=>?_⟩;refine wx ((JW.same Mz).JT le K3) (by lia) BL fun WA bs1 Ea ZE=>?_;have E8:=Mz.trans Ea;have Ih:bD WA D1 bs1 N1 (sq n (zp zs) (pl.take mi)):=ZE.QK fun k _=>L9 hf;have rO:=QQ.same E8;refine⟨_,rfl,D1,OL,_,_,rfl,rfl,aM.of Ih.1,aM.of rO.1,Ih.Zr rO,Ih.Zt rO,_,rfl,gg ?_⟩;refine⟨_,rfl,_,rfl,OS,_,rfl,.inl (aM.of (E8 _ _ Tc.1)),_,rfl,SD,_,rfl,aM.of (E8 _ _ My.1),fun q2 KI=>?_⟩;rw[aJ,ZC,uU];have JC:=ai (o:=.lst ((k7.take (N1+1)).map V.ref)) KI;have Nw:(upd WA q2 (.lst ((k7.take (N1+1)).map V.ref))) q2=some (.lst ((k7.take (N1+1)).map V.ref)):=af;generalize upd WA q2 _=H13 at *;have MA:=E8.trans JC;refine⟨q2,rfl,⟨_,aM.of Nw⟩,fun D2 gh=>?_⟩;refine wx ((My.same MA).JT (by lia) Nw) (by lia) gh fun WB Y2 Qp ZF=>?_;have E9:=MA.trans Qp;have Ii:bD WB D2 Y2 (N1+1) (JN n (zp zs) (pl.take mi) N1):=ZF.QK fun k hk=>Ic hf RN QP hk;have Te:=Tc.same E9;refine⟨_,rfl,D2,OS,_,_,rfl,rfl,aM.of Ii.1,aM.of Te.1,Ii.Zr Te,Ii.Zt Te,_,rfl,gg ?_⟩;clear Ig ZD Ea JC Qp Mz E8 MA ZE Ih rO ZF Ii Te K3 Nw C7 KI BL gh Jj QR;refine⟨_,rfl,_,rfl,OL,_,rfl,.inl (aM.of (E9 _ _ QQ.1)),_,rfl,LG,_,rfl,aM.of (E9 _ _ JW.1),fun q3 OQ=>?_⟩;rw[aJ,Wz,wy];have ZG:=ai (o:=.lst ((o6.drop N1).map V.ref)) OQ;have Nx:(upd WB q3 (.lst ((o6.drop N1).map V.ref))) q3=some (.lst ((o6.drop N1).map V.ref)):=af;generalize upd WB q3 _=ZH at *;have Ij:=E9.trans ZG;refine⟨_,rfl,_,rfl,OS,_,rfl,.inl (aM.of (Ij _ _ Tc.1)),_,rfl,SD,_,rfl,aM.of (Ij _ _ My.1),fun q4 ZI=>?_⟩;rw[aJ,ZC,wy];have WC:=ai (o:=.lst ((k7.drop (N1+1)).map V.ref)) ZI;have Ps:(upd ZH q4 (.lst ((k7.drop (N1+1)).map V.ref))) q4=some (.lst ((k7.drop (N1+1)).map V.ref)):=af;generalize upd ZH q4 _=ZJ at *;have Ik:=Ij.trans WC;have WD:=(JW.same Ik).JU le (WC _ _ Nx);have WE:=(My.same Ik).JU (M:=N1+1) (by lia) Ps;refine⟨q3,q4,_,_,rfl,rfl,WD.1,WE.1,by rw[aJ,aJ,lq,lq];exact bj (show _<=1002 by lia) (by decide),fun q5 ZK=>?_⟩;rw[<-bW];have Tf:=ai (o:=.lst ((o6.drop N1++k7.drop (N1+1)).map V.ref)) ZK;have Jn:(upd ZJ q5 (.lst ((o6.drop N1++k7.drop (N1+1)).map V.ref))) q5=some (.lst ((o6.drop N1++k7.drop (N1+1)).map V.ref)):=af;generalize upd ZJ q5 _=H17 at *;have QS:=Ik.trans Tf;refine⟨q5,rfl,⟨_,aM.of Jn⟩,fun D3 gU=>?_⟩;refine BU ((WD.same Tf).app (WE.same Tf) Jn) (by lia) (fun j hj=>?_) gU fun H18 ZL BG=>?_
  .show (if j<N-N1 then _ else _:List (Option Nat)).take mi=_;split
   .rename_i c;exact Mu hf RN QP c
   .exact Mv hf RN QP (by lia)
  refine⟨by show 0<=sizeLine;decide,fun E1 Fs=>?_⟩;have sE:=ai (o:=.lst []) Fs;refine⟨D3,E1,[],[],rfl,rfl,aM.of (sE _ _ BG),aM.of af,rfl,(fun i h=>absurd h (pF _)),_,rfl,gg ?_⟩;have Il:=(QS.trans ZL).trans sE;generalize upd H18 E1 (.lst [])=WF at *;clear sE Fs ZL QS Tf Jn ZK WD WE Ik WC Ps ZI Ij ZG Nx OQ E9 gU BG;have WG:=JW.same Il;have WI:=My.same Il;refine⟨_,rfl,_,rfl,SD,LG,_,_,rfl,aM.of WI.1,aM.of WG.1,fun D4 qx=>?_⟩;refine BS (K:=K) (xs:=k7.map V.ref) (ys:=o6.map V.ref) (by rw[aJ,aJ];lia) (fun i zz σ NZ=>(∃u v,σ=[u,v,some (.ref fa),some (.ref pa)])/\aF WF NZ/\NZ D4=some (.lst zz)/\zz=(List.replicate i true).map V.bl) ⟨⟨_,_,rfl⟩,ai qx,af,rfl⟩ (fun i zz σ NZ _ z=>⟨aM.of (z.2.1 _ _ WI.1),aM.of (z.2.1 _ _ WG.1)⟩) ?_ ?_
  .rintro i x y pp zz σ NZ Kt Kf hx hy ⟨⟨u,v,rfl⟩,sm,MB,rfl⟩ V_ kt kf;have hi:i<N:=by have:=(dw.mp hy).1;rw[aJ,lN] at this;exact this
   obtain rfl:x=.ref (k7.getD i 0):=by
    rw[cw,bh (by lia)] at hx;rw[aT,bh (by lia)];exact(be hx).symm
   obtain rfl:y=.ref (o6.getD i 0):=by
    rw[cw,bh (by lia)] at hy;rw[aT,bh (by lia)];exact(be hy).symm
   have sp:=ai (o:=.tup [.ref (k7.getD i 0),.ref (o6.getD i 0)]) V_;have Tg:=Il.trans (sm.trans sp);have e1:=WI.2.2 i (by lia);have e2:=WG.2.2 i hi;have e1:WF (k7.getD i 0)=some (.tup ((jD n (zp zs) pl i).map oV)):=by
    have e1:WF (k7.getD i 0)=some (.tup ((JN n (zp zs) pl N i).map oV)):=e1;rw[show JN n (zp zs) pl N i=jD n (zp zs) pl i from am (by lia)] at e1;exact e1
   refine⟨pp,_,rfl,bV.of af,rfl,_,_,rfl,_,_,rfl,rfl,?_⟩;refine⟨_,rfl,_,rfl,_,rfl,_,rfl,fa,pa,k7.getD i 0,o6.getD i 0,n,zp zs,pl,i,rfl,FP9.same Tg,Td.same Tg,Fi,oC,(sm.trans sp) _ _ e1,(sm.trans sp) _ _ e2,fun N0 ZM=>?_⟩;refine kt _ _ _ (ZM _ _ (sp _ _ MB)) (by rw[aJ,fj];exact bS (show i<501 by lia) (by decide)) ⟨⟨_,_,rfl⟩,a_ ((sm.trans sp).trans ZM) qx,af,by rw[mn,bW];rfl⟩
  rintro zz σ NZ ⟨_,Tg,MB,rfl⟩;have al:∀k,(List.replicate k true).all id=true:=fun k=>by rw[lr];intro x hx;rw[List.eq_of_mem_replicate hx];rfl
  refine⟨D4,_,rfl,aM.of MB,_,rfl,sr (by rw[al];rfl) ?_⟩;have sF:=Il.trans Tg;have CL:=gc (n:=n) (ts:=zp zs) (pl:=pl) N;obtain⟨oz,x1,x2,x3⟩:=Td.same sF;refine⟨_,rfl,pa,_,rfl,.inl (aM.of x1),((pl.length:Nat):Int),by rw[aJ,x2],by lia,by lia,fun D5 so=>?_⟩;rw[iZ];refine dL (lo:=0) (n:=pl.length) (fun i ys σ N0=>(∃u,σ=[u,some (.ref ea)])/\aF NZ N0/\N0 D5=some (.lst ys)/\∃k,k<=i/\ys=(List.replicate k true).map V.bl) ⟨⟨_,rfl⟩,ai so,af,0,aY _,rfl⟩ ?_ ?_
  .rintro i ys σ N0 Kt Kf hi ⟨⟨u,rfl⟩,sm,Im,k,kk,rfl⟩ kt kf;rw[g7];have ZN:=sm _ _ (sF _ _ ZB);refine⟨_,rfl,_,rfl,ea,_,_,_,rfl,rfl,aM.of ZN,aw (l7 (by rw[CL.e];exact hi)),rfl,_,rfl,?_⟩;rw[uJ];refine gK (fun c=>?_) (fun c=>kf _ _ ⟨⟨_,rfl⟩,sm,Im,k,by lia,rfl⟩);have nn:(eO n (zp zs) pl N).1.getD i none≠none:=fun z=>by rw[z] at c;cases c
   refine⟨_,rfl,_,rfl,_,rfl,ea,_,rfl,aM.of ZN,fun pz hpz=>?_⟩;rw[uS];have sz:=ai (o:=.lst (((eO n (zp zs) pl N).1.take i).map oV)) hpz;refine⟨pz,_,rfl,.inl (aM.of af),rfl,uO,?_⟩;rw[ER,cM (Mw CL nn)];exact kt _ _ _ (sz _ _ Im) (by rw[aJ,fj];exact bS (show k<17 by lia) (by decide)) ⟨⟨_,rfl⟩,a_ (sm.trans sz) so,af,k+1,by lia,by rw[mn,bW];rfl⟩
  .rintro ys σ N0 ⟨_,sm,Im,k,_,rfl⟩;refine⟨D5,_,rfl,aM.of Im,?_⟩;rw[al];have sG:=sF.trans sm;exact q N0 (kn9.trans (KN.of sG)) (t9.kS sG) (r9.kS sG)
end
abbrev uW:Stmt:=top 54
theorem _root_.L2.cu.kE{lp:Pos}{q:Str}{p Pt:Addr}{H H':Hp}(t:cu lp q Pt H)(s:aL p H H')(hp:bL H p):cu lp q Pt H':=by
 obtain⟨a,b,e,_⟩:=hp;rcases t with z|⟨c,z,y⟩
 .exact .inl (s _ _ z (by rintro rfl;rw[z] at e;cases e))
 .exact .inr ⟨c,s _ _ z (by rintro rfl;rw[z] at e;cases e),s _ _ y (by rintro rfl;rw[y] at e;cases e)⟩
abbrev QT:List Zx:=[.c 0,.c 2,.c 5,.c 12,.c 30,.c 60,.c 120,.c 300]
def Th(k:Nat):Stmt:=(bA uW).getD k SJ
def ME(k:Nat):Stmt:=(fB (Th 0)).getD k SJ
def WJ:Stmt->List Expr
 |.Assign _ (.Subscript (.List es _) _ _) _=>es
 |_=>[]
def WK:Stmt->Expr
 |.Assign _ (.Subscript _ c _) _=>c
 |_=>.Name "x" ⟨0,0,0,0⟩
theorem E_:∃es os q0 q1 q2 q3 q4,bA uW=[.For (fT (Th 0)) (fI (Th 0)) [ME 0,.Assign [.Name "_law_most" q1] (.Subscript (.List es q2) (WK (ME 1)) q3) q4,ME 2,ME 3,ME 4,ME 5] [] q0,Th 1]/\Ew es=some os/\os=QT:=
 ⟨WJ (ME 1),QT,_,_,_,_,_,rfl,by kernel_rfl,rfl⟩
section
variable {P:Program} {w:World} {K:PySem.W.Frag} {mg:Str->Option Value} {base:Heap}
def JX(K:PySem.W.Frag)(H:Hp)(a:Addr)(xs:List V):Prop:=(∃o,H a=some (.uZ o (.lst xs)))\/(∀H':Hp,aM K H' a xs)
theorem JX.seq{H:Hp}{a:Addr}{xs:List V}(h:JX K H a xs):aM K H a xs:=by
 rcases h with ⟨o,h⟩|h
 .exact .inl (.inr ⟨o,h⟩)
 .exact h H
theorem JX.mono{H H':Hp}{a:Addr}{xs:List V}(h:JX K H a xs)(e:∀o u,H a=some (.uZ o u)->H' a=some (.uZ o u)):JX K H' a xs:=by
 rcases h with ⟨o,h⟩|h
 .exact .inl ⟨o,e _ _ h⟩
 .exact .inr h
theorem qI:aE ["_law_script","_law_k","_law_pot_here","_law_most","_law_many","_law_ties_here","_law_plan_here"] ["_law_script"] (ap uW):=⟨rfl,rfl,rfl,by decide +kernel,rfl,by decide +kernel,by decide +kernel⟩
def AB(K:PySem.W.Frag)(Pt Pr:Addr):Sp:=fun vs H Q _=>∃ (a:Addr) (ns:List Int),vs=[.ref a]/\JX K H a (ns.map V.int)/\ns.length<=63/\nJ Pt H/\uQ Pr H/\∀H',Q (.bl true) H'
theorem MF{f Pt Pr:Addr}{fd:FuncData}(F:fJ K "law" "law" uW f fd)(B:Bl mg)(PT:cQ P w K mg base bf 1 "_law_pot" ["_law_script","_law_k"] (Eh K))(DR:cQ P w K mg base bf 1 "_law_draw" ["_law_pot_here","_law_many"] jy)(LTi:cQ P w K mg base bf 3 "_law_ties" ["_law_pot_here","_law_many"] LB)(PLa:cQ P w K mg base bf 2 "_law_plan" ["_law_pot_here","_law_many"] yT)(RG:cQ P w K mg base bf 10 "_law_right" ["_law_many","_law_ties_here","_law_plan_here","_law_few","_law_most"] (Mx Pt Pr)):bz P w K mg base bf 11 f fd ["_law_script"] (AB K Pt Pr):=by
 refine F.ok qI (fun vs H Q E h=>?_) (fun dU A outer s H vs Q E hr h=>?_)
 .obtain⟨a,ns,rfl,_⟩:=h;rfl
 .obtain⟨a,ns,rfl,hS,KP,tb,tr,q⟩:=h;have h1:b9 1 _:=hr.mono (by decide);have h2:b9 2 _:=hr.mono (by decide);have h3:b9 3 _:=hr.mono (by decide);obtain⟨es,os,q0,q1,q2,q3,q4,eb,OR,LN⟩:=E_;rw[eb];refine⟨_,(ah (dA dR rfl (bP rfl B.range (aa (aA (rq rfl) (by rfl) B.max wY (aa av (aa (aA (AM rfl) (by rfl) B.min PyProof.Rows.boot_min (aa av (aa (aA az (by rfl) B.len cB (aa (pv 0) ag)) ag))) ag))) ag)) (aq (i:=1) qI.nd rfl (Or.inl rfl))
    (ah (aS (i:=2) qI.nd rfl (Or.inl rfl) (aB PT h1 aI (aa (pv 0) (aa (pv 1) ag))))
    (ah (aS (i:=3) qI.nd rfl (Or.inl rfl) (ba aR (cz (Ex OR)) (aB DR h1 aI (aa (pv 2) (aa av ag))) (fun _ _=>rfl)))
    (ah (aS (i:=4) qI.nd rfl (Or.inl rfl) (bJ eE av (aB DR h1 aI (aa (pv 2) (aa (ba aR (cz (aa av (aa av (aa av (aa av ag))))) (aB DR h1 aI (aa (pv 2) (aa av ag))) (fun _ _=>rfl)) ag)))))
    (ah (aS (i:=5) qI.nd rfl (Or.inl rfl) (aB LTi h3 aI (aa (pv 2) (aa (pv 4) ag))))
    (ah (aS (i:=6) qI.nd rfl (Or.inl rfl) (aB PLa h2 aI (aa (pv 2) (aa (pv 4) ag))))
    (ao (cr (gI (eY (aB RG hr aI (aa (pv 4) (aa (pv 5) (aa (pv 6) (aa (aB DR h1 aI (aa (pv 2) (aa (bJ eE (aA az (by rfl) B.len cB (aa (pv 6) ag)) av) ag))) (aa (pv 3) ag)))))))) (ao (aX nZ)) bg))))))))
   (ao (aX nZ))),?_⟩
  refine⟨_,rfl,a,_,rfl,.inl hS.seq,2,_,rfl,1,_,rfl,_,rfl,?_⟩;obtain⟨j,hj,j1⟩:∃j:Int,(if (if (((ns.map V.int).length:Nat):Int)<2 then (((ns.map V.int).length:Nat):Int) else 2) > 1 then (if (((ns.map V.int).length:Nat):Int)<2 then (((ns.map V.int).length:Nat):Int) else 2) else 1)=j/\1<=j/\j<=2:=⟨_,rfl,by split <;> split <;> lia⟩
  rw[hj];refine⟨by lia,by lia,du (n:=j.toNat) (lo:=0) (fun k σ H2=>(∃x1 x2 x3 x4 x5 x6,σ=[some (.ref a),x1,x2,x3,x4,x5,x6])/\JX K H2 a (ns.map V.int)/\nJ Pt H2/\uQ Pr H2) ⟨⟨_,_,_,_,_,_,rfl⟩,hS,tb,tr⟩ ?_ ?_⟩
  rotate_left
  .rintro σ H2 ⟨⟨x1,x2,x3,x4,x5,x6,rfl⟩,_⟩;exact q H2
  .rintro k σ H2 hk ⟨⟨x1,x2,x3,x4,x5,x6,rfl⟩,S2,t2,r2⟩;rw[g7];refine⟨_,rfl,_,rfl,a,ns,k,rfl,S2.seq,by lia,fun p H3 s3 PL Al=>?_⟩;refine LJ (os:=os) (fun o ho=>?_) ⟨by rw[LN];show 8<=sizeLine;decide,fun l3 JA=>?_⟩
   .rw[LN] at ho;simp only[aV,eA,eB] at ho;rcases ho with rfl|rfl|rfl|rfl|rfl|rfl|rfl|rfl <;> trivial
   rw[LN];have LP:=ai (o:=.lst (QT.map vZ)) JA;refine⟨_,rfl,p,8,rfl,by decide,by decide,Al.same LP,fun d4 H4 VX s4 BI=>?_⟩;have Qj:=s4 _ _ (af (H:=H3) (a:=l3) (o:=.lst (QT.map vZ))) (Al.ne JA);obtain⟨most,hz,E4⟩:∃z:Nat,qQ (QT.map vZ) (d4:Int)=some (.int (z:Int))/\z<=500:=by
    match d4,VX with
    |0,_=>exact⟨0,aw (j:=0) rfl,by decide⟩
    |1,_=>exact⟨2,aw (j:=1) rfl,by decide⟩
    |2,_=>exact⟨5,aw (j:=2) rfl,by decide⟩
    |3,_=>exact⟨12,aw (j:=3) rfl,by decide⟩
    |4,_=>exact⟨30,aw (j:=4) rfl,by decide⟩
    |5,_=>exact⟨60,aw (j:=5) rfl,by decide⟩
    |6,_=>exact⟨120,aw (j:=6) rfl,by decide⟩
    |7,_=>exact⟨300,aw (j:=7) rfl,by decide⟩
   refine⟨l3,_,_,_,rfl,rfl,aM.of Qj,hz,?_⟩;have e34:aL p H3 H4:=(aL.of LP).trans s4;clear Qj hz s4 LP;refine⟨_,rfl,by show 4<=sizeLine;decide,fun l5 Sv=>?_⟩;have WL:=ai (o:=.lst [V.int 7,.int 7,.int 7,.int 31]) Sv;refine⟨_,rfl,p,4,rfl,by decide,by decide,BI.same WL,fun d5 H5 VY s5 Fv=>?_⟩;have ZO:=s5 _ _ (af (H:=H4) (a:=l5) (o:=.lst [V.int 7,.int 7,.int 7,.int 31])) (BI.ne Sv);obtain⟨m,hm,m0,m1⟩:∃m:Nat,qQ [V.int 7,.int 7,.int 7,.int 31] (d5:Int)=some (.int (m:Int))/\0<m/\m<=31:=by
    match d5,VY with
    |0,_=>exact⟨7,aw (j:=0) rfl,by decide,by decide⟩
    |1,_=>exact⟨7,aw (j:=1) rfl,by decide,by decide⟩
    |2,_=>exact⟨7,aw (j:=2) rfl,by decide,by decide⟩
    |3,_=>exact⟨31,aw (j:=3) rfl,by decide,by decide⟩
   refine⟨l5,_,_,_,rfl,rfl,aM.of ZO,hm,p,m,rfl,m0,by lia,Fv,fun d H6 hd s6 Bq=>?_⟩;have e36:aL p H3 H6:=(e34.trans ((aL.of WL).trans s5)).trans s6;clear ZO hm s5 WL;refine⟨_,_,rfl,rfl,?_⟩;change a9 4 (V.int ((2:Int)+(d:Int))) _ H6 _;rw[show (2:Int)+(d:Int)=((2+d:Nat):Int) by lia];refine⟨_,rfl,_,rfl,p,2+d,rfl,by lia,by lia,Bq,fun LT zs H7 s7 Eu ZP S_ po Fi=>?_⟩;refine⟨_,rfl,_,rfl,p,2+d,rfl,by lia,by lia,Eu,fun pa pl H8 s8 LD npa PA oC=>?_⟩;have WM:=s8 _ _ S_ (Bq.ne ZP);have Sy:PO H8 zs:=fun z hz=>s8 _ _ (po z hz) (Eu.neT (po z hz));obtain⟨as,a1,a2,a3⟩:=id PA;refine⟨_,rfl,_,rfl,_,rfl,_,rfl,_,rfl,pa,_,rfl,.inl (aM.of a1),_,_,rfl,rfl,p,pl.length+1,by rw[aJ,a2];rfl,by lia,by have:=oC.len;lia,LD,fun mi H9 FV s9 Sz=>?_⟩;have WN:aL p H3 H9:=((e36.trans s7).trans s8).trans s9;have WO:pa≠p:=Eu.ne npa;have Td:f_ H9 pa pl:=⟨as,s9 _ _ a1 WO,a2,fun i r e=>s9 _ _ (a3 i r e) (LD.neT (a3 i r e))⟩
   refine⟨_,rfl,LT,pa,2+d,mi,most,zs,pl,rfl,s9 _ _ WM (Bq.ne ZP),fun z hz=>s9 _ _ (Sy z hz) (LD.neT (Sy z hz)),Fi,Td,oC,by lia,E4,(t2.kS s3).kE WN Al,(r2.kS s3).kE WN Al,fun NX kn t10 r10=>⟨_,rfl,gg ⟨⟨_,_,_,_,_,_,rfl⟩,S2.mono fun o u e=>kn _ _ (WN _ _ (s3 _ _ e) (aj e PL)) (by intro ps z;cases z),t10,r10⟩⟩⟩
end
def FD(K:PySem.W.Frag)(n:Str)(st:Stmt):Prop:=∃ (f:Addr) (oc:Value) (od an:Option Addr) (sl:Array (Option Value)) (kV dc pm cd ct:Value),PySem.W.nsIn K mainGlobals n=some (some (.ref f))/\K.lookup f=some ⟨oc,od,.func (PySem.W.fnOf n n (cJ st) (bA st) (ap st) .none kV dc pm an cd ct),sl⟩/\PySem.W.codeIn K cd n=true/\PySem.W.keepIn K (.ref f)=true
def FC(K:PySem.W.Frag)(n:Str)(st:Stmt)(c:Addr):Prop:=∃ (f:Addr) (oc:Value) (od an:Option Addr) (sl:Array (Option Value)) (kV dc pm ct:Value),PySem.W.nsIn K mainGlobals n=some (some (.ref f))/\K.lookup f=some ⟨oc,od,.func (PySem.W.fnOf n n (cJ st) (bA st) (ap st) .none kV dc pm an (.ref c) ct),sl⟩/\PySem.W.codeIn K (.ref c) n=true/\PySem.W.keepIn K (.ref f)=true
def MD(K:PySem.W.Frag)(C:Addr)(n q:Str)(st:Stmt):Prop:=∃ (f:Addr) (oc:Value) (od an:Option Addr) (sl:Array (Option Value)) (kV dc pm cd ct:Value),PySem.W.findIn K (.ref C) n=some (some (.ref f))/\PySem.W.isFn K (.ref f)=true/\K.lookup f=some ⟨oc,od,.func (PySem.W.fnOf n q (cJ st) (bA st) (ap st) .none kV dc pm an cd ct),sl⟩/\PySem.W.codeIn K cd q=true/\PySem.W.keepIn K (.ref f)=true
def MC(K:PySem.W.Frag)(C:Addr)(n q:Str)(st:Stmt)(c:Addr):Prop:=∃ (f:Addr) (oc:Value) (od an:Option Addr) (sl:Array (Option Value)) (kV dc pm ct:Value),PySem.W.findIn K (.ref C) n=some (some (.ref f))/\PySem.W.isFn K (.ref f)=true/\K.lookup f=some ⟨oc,od,.func (PySem.W.fnOf n q (cJ st) (bA st) (ap st) .none kV dc pm an (.ref c) ct),sl⟩/\PySem.W.codeIn K (.ref c) q=true/\PySem.W.keepIn K (.ref f)=true
section
variable {P:Program} {w:World} {K:PySem.W.Frag} {mg:Str->Option Value} {base h:Heap} {n q:Str} {st:Stmt} {f c C:Addr} {oc kV dc pm cd ct:Value} {od an:Option Addr} {sl:Array (Option Value)} {CX:wF} {k:Nat} {ps:List Str} {sp:Sp}
theorem FD.mk(a:PySem.W.nsIn K mainGlobals n=some (some (.ref f)))(l:K.lookup f=some ⟨oc,od,.func (PySem.W.fnOf n n (cJ st) (bA st) (ap st) .none kV dc pm an cd ct),sl⟩)(d:PySem.W.codeIn K cd n=true)(k:PySem.W.keepIn K (.ref f)=true):FD K n st:=⟨f,oc,od,an,sl,kV,dc,pm,cd,ct,a,l,d,k⟩
theorem FC.mk(a:PySem.W.nsIn K mainGlobals n=some (some (.ref f)))(l:K.lookup f=some ⟨oc,od,.func (PySem.W.fnOf n n (cJ st) (bA st) (ap st) .none kV dc pm an (.ref c) ct),sl⟩)(d:PySem.W.codeIn K (.ref c) n=true)(k:PySem.W.keepIn K (.ref f)=true):FC K n st c:=⟨f,oc,od,an,sl,kV,dc,pm,ct,a,l,d,k⟩
theorem MD.mk(a:PySem.W.findIn K (.ref C) n=some (some (.ref f)))(i:PySem.W.isFn K (.ref f)=true)(l:K.lookup f=some ⟨oc,od,.func (PySem.W.fnOf n q (cJ st) (bA st) (ap st) .none kV dc pm an cd ct),sl⟩)(d:PySem.W.codeIn K cd q=true)(k:PySem.W.keepIn K (.ref f)=true):MD K C n q st:=⟨f,oc,od,an,sl,kV,dc,pm,cd,ct,a,i,l,d,k⟩
theorem MC.mk(a:PySem.W.findIn K (.ref C) n=some (some (.ref f)))(i:PySem.W.isFn K (.ref f)=true)(l:K.lookup f=some ⟨oc,od,.func (PySem.W.fnOf n q (cJ st) (bA st) (ap st) .none kV dc pm an (.ref c) ct),sl⟩)(d:PySem.W.codeIn K (.ref c) q=true)(k:PySem.W.keepIn K (.ref f)=true):MC K C n q st c:=⟨f,oc,od,an,sl,kV,dc,pm,ct,a,i,l,d,k⟩
def BD(n q:Str)(st:Stmt)(ps:List Str):Prop:=∀ (kV lE pm:Value) (an:Option Addr) (dU ct:Value) (us:List Value),us.length=ps.length->bindArgs (PySem.W.fnOf n q (cJ st) (bA st) (ap st) .none kV lE pm an dU ct) ⟨us,[]⟩=pure (ps.zip us)
theorem FD.gw(X:K.In h)(G:h.Ns mainGlobals mg)(D:FD K n st)(b:BD n n st ps)(o:∀ {f fd},fJ K n n st f fd->bz P w K mg base CX k f fd ps sp):cQ P w K mg base CX k n ps sp:=by
 obtain⟨f,_,_,_,_,_,_,_,_,_,a,l,d,kp⟩:=D;have F:=tW (x:=n) (qual:=n) (st:=st) l d kp;exact⟨⟨f,_,jc X G a,kp,F.binds b,o F⟩⟩
theorem FC.gw(X:K.In h)(G:h.Ns mainGlobals mg)(D:FC K n st c)(b:BD n n st ps)(o:∀ {f fd},vA K n n st f fd c->bz P w K mg base CX k f fd ps sp):cQ P w K mg base CX k n ps sp:=by
 obtain⟨f,_,_,_,_,_,_,_,_,a,l,d,kp⟩:=D;have F:=Gc (x:=n) (qual:=n) (st:=st) l d kp;exact⟨⟨f,_,jc X G a,kp,F.fun.binds b,o F⟩⟩
theorem MD.gw(D:MD K C n q st)(b:BD n q st ps)(o:∀ {f fd},fJ K n q st f fd->bz P w K mg base CX k f fd ps sp):kU P w K mg base CX k C n ps sp:=by
 obtain⟨f,_,_,_,_,_,_,_,_,_,a,i,l,d,kp⟩:=D;have F:=tW (x:=n) (qual:=q) (st:=st) l d kp;exact⟨⟨f,_,⟨a,i,kp⟩,F.binds b,o F⟩⟩
end
theorem wz{α:Type}{P:List α->Prop}(h:∀a0,P [a0])(l:List α)(e:l.length=1):P l:=by
 cases l with
 |nil=>cases e
 |cons a t=>cases t with
  |nil=>exact h a
  |cons b t=>cases e
theorem dW{α:Type}{P:List α->Prop}(h:∀a0 a1,P [a0,a1])(l:List α)(e:l.length=2):P l:=by
 cases l with
 |nil=>cases e
 |cons a t=>exact wz (P:=fun t=>P (a::t)) (h a) t (tJ e)
theorem me{α:Type}{P:List α->Prop}(h:∀a0 a1 a2,P [a0,a1,a2])(l:List α)(e:l.length=3):P l:=by
 cases l with
 |nil=>cases e
 |cons a t=>exact dW (P:=fun t=>P (a::t)) (h a) t (tJ e)
theorem wA{α:Type}{P:List α->Prop}(h:∀a0 a1 a2 a3,P [a0,a1,a2,a3])(l:List α)(e:l.length=4):P l:=by
 cases l with
 |nil=>cases e
 |cons a t=>exact me (P:=fun t=>P (a::t)) (h a) t (tJ e)
theorem sw{α:Type}{P:List α->Prop}(h:∀a0 a1 a2 a3 a4,P [a0,a1,a2,a3,a4])(l:List α)(e:l.length=5):P l:=by
 cases l with
 |nil=>cases e
 |cons a t=>exact wA (P:=fun t=>P (a::t)) (h a) t (tJ e)
theorem MH{l:PySem.W.OpenLaw}{w:World}{K:PySem.W.Frag}{h:Heap}{mg:Str->Option Value}{fa:Addr}(X:K.In h)(G:h.Ns mainGlobals mg)(SO:mg "law"=some (.ref fa)){C cO Pt cW Pr cA:Addr}{oE ra oF:Tok}(aC:PySem.W.nsIn K mainGlobals "Net"=some (some (.ref C)))(Fa:PySem.W.nsIn K mainGlobals "InTurn"=some (some (.ref cA)))(Io:FD K "is_whole" yz)(Fb:FD K "is_whole_within" ur)(Ip:FD K "is_house" yA)(QU:FD K "is_row" K9)(QV:FD K "are_unlike_houses" Lg)(QW:FD K "is_tie" Le)(Iq:FD K "check_ties" yF)(QX:FD K "check_balance" Lf)(MI:FC K "houses_out" v3 cO)(MJ:FD K "distances_from" DZ)(Ir:FD K "check_reached" yG)(WP:FD K "under_way" V1)(WQ:FD K "stand_behind" V7)(WR:FD K "first_free" V2)(WS:FD K "hand_in_turn" V3)(WT:FD K "hand_eagerly" sHE)(ML:FD K "hand" EA)(QY:FD K "replaced" Ma)(QZ:FD K "enter" Mb)(WU:FD K "is_unfinished" V8)(WV:FD K "check_plan" Wc)(WW:FD K "let_in" Wd)(Q0:FC K "let_in_run" HQ cW)(Q3:FD K "_law_pot" Lu)(MN:FD K "_law_draw" Ef)(Iu:FD K "_law_mixed" yM)(Q4:FD K "_law_cycle" Ly)(MP:FD K "_law_tied" Em)(MQ:FD K "_law_tree" En)(WX:FD K "_law_ties" yP)(WY:FD K "_law_outs" VM)(WZ:FD K "_law_fars" VO)(MS:FD K "_law_plan" v9)(W0:FD K "_law_nearer" Wt)(W1:FD K "_law_right" S9)(Q5:FD K "law" uW)(MT:MD K C "__init__" "Net.__init__" Ac)(Iv:MD K C "check_house" "Net.check_house" yC)(Q6:MD K C "far" "Net.far" Lc)(Q7:MD K C "out" "Net.out" Lb)(MU:MD K C "many" "Net.many" DU)(MV:MD K C "good" "Net.good" DV)(pg:PySem.W.plainGet K C Str.empty=true)(W2:PySem.W.hasDictIn K C=true)(po:PySem.W.plainOver K C=true)(sa:PySem.W.findIn K (.ref C) "__setattr__"=some (some (.builtin "object.__setattr__")))(mk:PySem.W.makesIn K C=true)(kc:PySem.W.keepIn K (.ref C)=true)(nH:PySem.W.findIn K (.ref C) "house_count"=some none)(nT:PySem.W.findIn K (.ref C) "tie_list"=some none)(nO:PySem.W.findIn K (.ref C) "out_lists"=some none)(nD:PySem.W.findIn K (.ref C) "distances"=some none)(uX:PySem.W.nsIn K mainGlobals "isinstance"=some none)(Q8:PySem.W.nsIn K mainGlobals "int"=some none)(MW:PySem.W.nsIn K mainGlobals "bool"=some none)(Iw:PySem.W.nsIn K mainGlobals "tuple"=some none)(MY:PySem.W.nsIn K mainGlobals "list"=some none)(Q9:PySem.W.nsIn K mainGlobals "str"=some none)(Q_:PySem.W.nsIn K mainGlobals "set"=some none)(Ra:PySem.W.nsIn K mainGlobals "len"=some none)(Ix:PySem.W.nsIn K mainGlobals "range"=some none)(Fc:PySem.W.nsIn K mainGlobals "sorted"=some none)(Rb:PySem.W.nsIn K mainGlobals "any"=some none)(Rc:PySem.W.nsIn K mainGlobals "max"=some none)(Re:PySem.W.nsIn K mainGlobals "min"=some none)(uY:PySem.W.nsIn K mainGlobals "ValueError"=some none)(Rf:PySem.W.nsIn K mainGlobals "all"=some none)(Rg:PySem.W.nsIn K mainGlobals "zip"=some none)(wB:PySem.W.nsIn K mainGlobals "enumerate"=some none)(Rh:PySem.W.nsIn K mainGlobals "abs"=some none)(oG:PySem.W.nsIn K mainGlobals "FEWEST_HOUSES"=some (some (.int 2 oE)))(rc:PySem.W.nsIn K mainGlobals "MOST_HOUSES"=some (some (.int 32 ra)))(oI:PySem.W.nsIn K mainGlobals "MOST_TIES_OUT"=some (some (.int 8 oF)))(o_m:MD K cA "order" "Rule.order" Ez)(o_c:MD K cA "check_letters" "Rule.check_letters" Mn)(W3:PySem.W.plainGet K cA Str.empty=true)(W4:PySem.W.hasDictIn K cA=true)(W5:PySem.W.plainOver K cA=true)(W6:PySem.W.findIn K (.ref cA) "__setattr__"=some (some (.builtin "object.__setattr__")))(W7:PySem.W.makesIn K cA=true)(W8:PySem.W.findIn K (.ref cA) "__init__"=some (some (.builtin "object.__init__")))(W9:PySem.W.keepIn K (.ref cA)=true)(W_:PySem.W.findIn K (.ref cA) "__class__"=some (some (.builtin "object.__class__")))(Xa:PySem.W.specialIn K (.builtin "object.__class__") "__get__"=some (some (.builtin "getset_descriptor.__get__")))(Xb:PySem.W.takesIn K (.builtin "object.__class__")=some true)(Xc:PySem.W.mroIn K cA (.type "object")=some true)(nPt:Pr≠Pt)(MZ:PySem.W.codeHdIn K cO Pt=true)(Ri:PySem.W.codeHdIn K cW Pr=true):
  ∃fd:FuncData,(∀ (s:Shared) (v:Value),BindsTo s fd ⟨[v],[]⟩ [("_law_script",v)])/\∀base:Heap,K.In base->base.Ns mainGlobals mg->qV mg base->bz l.prog w K mg base bf 11 fa fd ["_law_script"] (AB K Pt Pr):=by
 obtain⟨ZQ,oc,od,an,sl,kV,dc,pm,cd,ct,Rj,Rk,Rl,Rm⟩:=Q5;have e:=SO.symm.trans (jc X G Rj);cases e;have Rn:=tW (x:="law") (qual:="law") (st:=uW) Rk Rl Rm;obtain⟨ZR,oci,odi,ani,sli,kVi,dci,pmi,cdi,cti,a_i,i_i,l_i,d_i,k_i⟩:=MT;have wC:=tW (x:="__init__") (qual:="Net.__init__") (st:=Ac) l_i d_i k_i;have Fd:=wC.binds (ps:=["self","many","ties"]) fun _ _ _ _ _ _=>me fun _ _ _=>rfl;have MK:Mk K C ZR:=⟨mk,a_i,i_i,kc⟩
 have B:Bl mg:=⟨eQ X G uX,eQ X G Q8,eQ X G MW,eQ X G Iw,eQ X G MY,eQ X G Q9,eQ X G Q_,eQ X G Ra,eQ X G Ix,eQ X G Fc,eQ X G Rb,eQ X G Rc,eQ X G Re,eQ X G uY,eQ X G Rf⟩
 have T:NT K mg C:=⟨⟨pg,W2,po,sa⟩,nH,nT,nO,nD,jc X G aC⟩
 have B2:NL mg:=⟨eQ X G Rg,eQ X G wB,eQ X G Rh⟩
 have RT:Hu K mg cA:=⟨⟨W3,W4,W5,W6⟩,⟨W7,W8,W9⟩,jc X G Fa,W_,Xa,Xb,Xc⟩
 refine⟨PySem.W.fnOf "law" "law" (cJ uW) (bA uW) (ap uW) .none kV dc pm an cd ct,fun s v=>.of_eq rfl,fun base kb nb hb=>?_⟩;have AC:cQ l.prog w K mg base bf 1 "is_whole" ["thing"] (oW K):=FD.gw X G Io (fun _ _ _ _ _ _=>wz fun _=>rfl) fun Iy=>DL Iy B;have wD:cQ l.prog w K mg base bf 2 "is_whole_within" ["thing","least","most"] (lU K):=FD.gw X G Fb (fun _ _ _ _ _ _=>me fun _ _ _=>rfl) fun Fe=>BA Fe AC;have AD:cQ l.prog w K mg base bf 3 "is_house" ["many","thing"] (oX K):=FD.gw X G Ip (fun _ _ _ _ _ _=>dW fun _ _=>rfl) fun Iz=>DN Iz wD;have JY:cQ l.prog w K mg base bf 1 "is_row" ["thing","length"] (z_ K):=FD.gw X G QU (fun _ _ _ _ _ _=>dW fun _ _=>rfl) fun Ro=>K_ Ro B;have JZ:cQ l.prog w K mg base bf 4 "are_unlike_houses" ["many","one","other"] Ag:=FD.gw X G QV (fun _ _ _ _ _ _=>me fun _ _ _=>rfl) fun Rp=>Lh Rp AD;have Rq:cQ l.prog w K mg base bf 5 "is_tie" ["many","thing"] DW:=FD.gw X G QW (fun _ _ _ _ _ _=>dW fun _ _=>rfl) fun Rr=>Li Rr JY JZ;have IA:cQ l.prog w K mg base bf 6 "check_ties" ["many","ties"] jJ:=FD.gw X G Iq (fun _ _ _ _ _ _=>dW fun _ _=>rfl) fun IC=>DX IC B ⟨_,jc X G oG⟩ ⟨_,jc X G rc⟩ wD Rq;have Rt:cQ l.prog w K mg base bf 1 "check_balance" ["many","ties"] jJ:=FD.gw X G QX (fun _ _ _ _ _ _=>dW fun _ _=>rfl) fun Ru=>Lj Ru B ⟨_,jc X G oI⟩;have M0:cQ l.prog w K mg base bf 1 "houses_out" ["many","ties","house"] (uv Pt):=FC.gw X G MI (fun _ _ _ _ _ _=>me fun _ _ _=>rfl) fun M1=>GU M1 B kb hb MZ;have M2:cQ l.prog w K mg base bf 1 "distances_from" ["out_lists","start"] uw:=FD.gw X G MJ (fun _ _ _ _ _ _=>dW fun _ _=>rfl) fun M3=>GV M3 B;have ID:cQ l.prog w K mg base bf 1 "check_reached" ["distances"] ux:=FD.gw X G Ir (fun _ _ _ _ _ _=>wz fun _=>rfl) fun IE=>D9 IE B;have M4:bz l.prog w K mg base bf 7 ZR _ ["self","many","ties"] (yJ C Pt):=GX wC T B IA Rt M0 M2 ID;have AE:kU l.prog w K mg base bf 4 C "check_house" ["self","thing"] (lX C):=MD.gw Iv (fun _ _ _ _ _ _=>dW fun _ _=>rfl) fun BV=>BE BV T AD;have Rv:kU l.prog w K mg base bf 5 C "far" ["self","one","other"] (yE C):=MD.gw Q6 (fun _ _ _ _ _ _=>me fun _ _ _=>rfl) fun IF=>GK IF T AE;have J0:kU l.prog w K mg base bf 5 C "out" ["self","house"] (uu C):=MD.gw Q7 (fun _ _ _ _ _ _=>dW fun _ _=>rfl) fun IG=>GJ IG T B AE;have M5:kU l.prog w K mg base bf 1 C "many" ["self"] (yK C):=MD.gw MU (fun _ _ _ _ _ _=>wz fun _=>rfl) fun Ff=>G5 Ff T;have M6:kU l.prog w K mg base bf 6 C "good" ["self","house","home"] (uK C):=MD.gw MV (fun _ _ _ _ _ _=>me fun _ _ _=>rfl) fun Fg=>EE Fg T Rv;have Rx:cQ l.prog w K mg base bf 1 "under_way" ["stand"] Hs:=FD.gw X G WP (fun _ _ _ _ _ _=>wz fun _=>rfl) fun Xd=>Qk Xd B2.enum;have Xe:cQ l.prog w K mg base bf 1 "stand_behind" ["homes","handing"] Md:=FD.gw X G WQ (fun _ _ _ _ _ _=>dW fun _ _=>rfl) fun Xf=>Qt Xf B B2;have Xg:cQ l.prog w K mg base bf 1 "first_free" ["others","stand","goes","letter"] LV:=FD.gw X G WR (fun _ _ _ _ _ _=>wA fun _ _ _ _=>rfl) fun Xh=>Ql Xh B;have Xi:cQ l.prog w K mg base bf 7 "hand_in_turn" ["net","homes","stand","letters","goes"] (LX C):=FD.gw X G WS (fun _ _ _ _ _ _=>sw fun _ _ _ _ _=>rfl) fun Xj=>Qn Xj T M6 J0 Xg;have Xk:cQ l.prog w K mg base bf 1 "hand_eagerly" ["net","homes","stand","letters","goes"] LY:=FD.gw X G WT (fun _ _ _ _ _ _=>sw fun _ _ _ _ _=>rfl) fun aag=>Qq;have M7:cQ l.prog w K mg base bf 8 "hand" ["rule","net","homes","stand","beat"] (yV C cA):=FD.gw X G ML (fun _ _ _ _ _ _=>sw fun _ _ _ _ _=>rfl) fun M8=>Hw M8 B RT (MD.gw o_m (fun _ _ _ _ _ _=>sw fun _ _ _ _ _=>rfl) fun F=>Ht F Rx) Xi Xk;have Ry:cQ l.prog w K mg base bf 1 "replaced" ["row","at","thing"] ET:=FD.gw X G QY (fun _ _ _ _ _ _=>me fun _ _ _=>rfl) fun Rz=>Me Rz;have RA:cQ l.prog w K mg base bf 6 "enter" ["net","plan","stand","letter"] (Aw C):=FD.gw X G QZ (fun _ _ _ _ _ _=>wA fun _ _ _ _=>rfl) fun RB=>Mf RB B T J0 Ry;have Xl:cQ l.prog w K mg base bf 2 "is_unfinished" ["entries","stand"] Mg:=FD.gw X G WU (fun _ _ _ _ _ _=>dW fun _ _=>rfl) fun Xm=>Qw Xm B Rx;have Xn:cQ l.prog w K mg base bf 5 "check_plan" ["many","plan"] Ml:=FD.gw X G WV (fun _ _ _ _ _ _=>dW fun _ _=>rfl) fun Xo=>Qz Xo B JY AC JZ;have Xp:cQ l.prog w K mg base bf 8 "let_in" ["plan","entries","beat","state","entering"] (Mm C):=FD.gw X G WW (fun _ _ _ _ _ _=>sw fun _ _ _ _ _=>rfl) fun Xq=>QA Xq B2 RA;have RC:cQ l.prog w K mg base bf 9 "let_in_run" ["rule","net","plan","most"] (E3 C cA Pr):=FC.gw X G Q0 (fun _ _ _ _ _ _=>wA fun _ _ _ _=>rfl) fun RD=>Mq RD kb hb Ri B T RT M5 (MD.gw o_c (fun _ _ _ _ _ _=>dW fun _ _=>rfl) fun F=>Mp F) Xn Xl Xp M7 Xe;have RF:cQ l.prog w K mg base bf 1 "_law_pot" ["_law_script","_law_k"] (Eh K):=FD.gw X G Q3 (fun _ _ _ _ _ _=>dW fun _ _=>rfl) fun RH=>Lv RH B B2;have qJ:cQ l.prog w K mg base bf 1 "_law_draw" ["_law_pot_here","_law_many"] jy:=FD.gw X G MN (fun _ _ _ _ _ _=>dW fun _ _=>rfl) fun M9=>Ha M9;have IH:cQ l.prog w K mg base bf 2 "_law_mixed" ["_law_pot_here","_law_some"] uA:=FD.gw X G Iu (fun _ _ _ _ _ _=>dW fun _ _=>rfl) fun II=>Ek II B qJ;have RI:cQ l.prog w K mg base bf 1 "_law_cycle" ["_law_row","_law_ties_here"] Ep:=FD.gw X G Q4 (fun _ _ _ _ _ _=>dW fun _ _=>rfl) fun RJ=>Lz RJ B;have Fh:cQ l.prog w K mg base bf 1 "_law_tied" ["_law_ties_here","_law_one","_law_other"] uE:=FD.gw X G MP (fun _ _ _ _ _ _=>me fun _ _ _=>rfl) fun M_=>Hh M_ B;have Na:cQ l.prog w K mg base bf 2 "_law_tree" ["_law_pot_here","_law_many"] yR:=FD.gw X G MQ (fun _ _ _ _ _ _=>dW fun _ _=>rfl) fun Nb=>Hj Nb B qJ Fh;have Xr:cQ l.prog w K mg base bf 3 "_law_ties" ["_law_pot_here","_law_many"] LB:=FD.gw X G WX (fun _ _ _ _ _ _=>dW fun _ _=>rfl) fun Xs=>Et Xs B qJ Fh RI IH Na;have Xt:cQ l.prog w K mg base bf 1 "_law_outs" ["_law_many","_law_ties_here"] LF:=FD.gw X G WY (fun _ _ _ _ _ _=>dW fun _ _=>rfl) fun Xu=>Qb Xu B;have Xv:cQ l.prog w K mg base bf 1 "_law_fars" ["_law_many","_law_outs_here"] LH:=FD.gw X G WZ (fun _ _ _ _ _ _=>dW fun _ _=>rfl) fun Xw=>Qd Xw B;have Nd:cQ l.prog w K mg base bf 2 "_law_plan" ["_law_pot_here","_law_many"] yT:=FD.gw X G MS (fun _ _ _ _ _ _=>dW fun _ _=>rfl) fun Nf=>Hq Nf B qJ;have Xx:cQ l.prog w K mg base bf 1 "_law_nearer" ["_law_fars_here","_law_plan_here","_law_stand","_law_handing"] HZ:=FD.gw X G W0 (fun _ _ _ _ _ _=>wA fun _ _ _ _=>rfl) fun Xy=>QL Xy B2;have Xz:cQ l.prog w K mg base bf 10 "_law_right" ["_law_many","_law_ties_here","_law_plan_here","_law_few","_law_most"] (Mx Pt Pr):=FD.gw X G W1 (fun _ _ _ _ _ _=>sw fun _ _ _ _ _=>rfl) fun XA=>QM XA B B2 T MK Fd M4 nPt RT Xt Xv RC Xx;exact MF Rn B RF qJ Xr Nd Xz
theorem J1(h:((List.range 2000).any fun c=>PySem.W.codeHdIn K c P)=true):∃c,PySem.W.codeHdIn K c P=true:=
 let ⟨c,_,e⟩:=i8.mp h;⟨c,e⟩
theorem Ng(hO:zK ts H)(h:aM K H a xs):JX K H a xs:=by
 rcases h with h|h
 .rcases h with h|⟨o,h⟩
  .rcases hO.2 a with z|⟨_,z⟩|⟨o,ys,z⟩ <;> · rw[h] at z;cases z
  .exact .inl ⟨o,h⟩
 .exact .inr fun H'=>.inr h
theorem walk{l:PySem.W.OpenLaw}{q:Program}{rJ:List Str}{XP:(Str->Option Value)->Heap->Prop}{YP:World->Heap->Prop}{d:DefRec}{K:Params->PySem.W.Frag}{Pt Pr:Addr}(hn:l.most=some 63)(OC:d.params.defaults=[])(hY:∀ (w:World) (h:Heap),YP w h->(K w.params).In h)(hT:∀ (w:World) (h:Heap),YP w h->∀P∈[Pt,Pr],h.get? P=some (PySem.W.tabObj #[]))(XB:∀ (w:World),((List.range 2000).any fun c=>PySem.W.codeHdIn (K w.params) c Pt)=true)(XC:∀ (w:World),(K w.params).lookup Pt=none)(XD:∀ (w:World),((List.range 2000).any fun c=>PySem.W.codeHdIn (K w.params) c Pr)=true)(XE:∀ (w:World),(K w.params).lookup Pr=none)(F:∀ (w:World) (mg:Str->Option Value) (fa:Addr) (h:Heap),(K w.params).In h->h.Ns mainGlobals mg->mg d.name=some (.ref fa)->
   ∃fd:FuncData,(∀ (s:Shared) (u:Value),BindsTo s fd ⟨[u],[]⟩ [("_law_script",u)])/\∀base:Heap,(K w.params).In base->base.Ns mainGlobals mg->qV mg base->bz l.prog w (K w.params) mg base bf 11 fa fd ["_law_script"] (AB (K w.params) Pt Pr)):
  PySem.W.WalkO q rJ XP YP l.row.toRowW d [] (fun f vs=>PySem.call f vs):=
 Dn (n:=63) (k:=11) (x:="_law_script") (ts:=[Pt,Pr]) (K:=K) (CX:=fun _=>bf) (sp:=fun w=>(AB (K w.params) Pt Pr)) hn (by decide) OC ⟨rfl,by decide,by decide,rfl⟩ hY hT
  (fun w P=>fun e=>(aV.mp e).elim (fun e=>by rw[e];exact J1 (XB w)) (fun e=>by rw[cy.mp e];exact J1 (XD w))) (fun w P=>fun e=>(aV.mp e).elim (fun e=>by rw[e];exact XC w) (fun e=>by rw[cy.mp e];exact XE w)) F
  (fun w H a ns hl hO hS=>⟨a,ns,rfl,Ng hO hS,hl,.inl (hO.1 _ (by simp)),.inl (hO.1 _ (by simp)),fun _=>rfl⟩) fun _ _ _ _ _ z=>z
end uq
open PySem PySem.W PyProof.Rows
namespace PySem.W.Fast
def tw4716344035188340264:=trivial
def tw3389566693590419631:=trivial
def tw16844666386397204116:=trivial
def tw12877726672805013567:=trivial
def tw80190471524067143:=trivial
def tw11953190663461920160:=trivial
def tw3779313298609764711:=trivial
def tw10425023184191459815:=trivial
def tw8941399836677441776:=trivial
def tw12032811637067495508:=trivial
def tw18069155081317301888:=trivial
def tw16082747084046749317:=trivial
def tw5020347986880305600:=trivial
def tw1989558055915645687:=trivial
def tw18334610304532847494:=trivial
def tw7421016413445658090:=trivial
def tw11393069031709495879:=trivial
def tw15355305853802742099:=trivial
def tw5676600833714785609:=trivial
def tw11621078848977177507:=trivial
def tw8957625984201428428:=trivial
def tw16211076750848038139:=trivial
def tw13843906182981621381:=trivial
def tw17988615949476567327:=trivial
def tw16811688404502691911:=trivial
def tw8235194214232569737:=trivial
def tw15868850689756791854:=trivial
def tw16644631284195762289:=trivial
def tw2632291284713637394:=trivial
def tw12242619230440258556:=trivial
def tw17328449327763910208:=trivial
def tw14024518664400707730:=trivial
def tw13345824463376983232:=trivial
def tw9297093138661705037:=trivial
def tw6270469501878116836:=trivial
def tw13815693213988992020:=trivial
def tw6446968592248318162:=trivial
def tw16261330624835041548:=trivial
def tw6217038621831926142:=trivial
def tw10990127354599352014:=trivial
def tw12932370536075662496:=trivial
def tw18391031473131329732:=trivial
def tw426995293291329446:=trivial
def tw11847382333977919143:=trivial
def tw7075656654412458396:=trivial
def tw16457762036015411765:=trivial
def tw17421647202447792179:=trivial
def tw5205303257796285586:=trivial
def tw168563098662717050:=trivial
def tw5858773318640746338:=trivial
def tw7525245646913630350:=trivial
def tw3620068984584211575:=trivial
def tw11662488719432923102:=trivial
def tw8261793790367408463:=trivial
def tw11133995242628497094:=trivial
def tw5978615711488190494:=trivial
def tw6206863633658820469:=trivial
def tw16832817583144985915:=trivial
def tw1137533437543590366:=trivial
def tw1880077861779203151:=trivial
def tw12039813768731668151:=trivial
def tw9359247094350201475:=trivial
def tw9574358195879113998:=trivial
def tw9493219622833889473:=trivial
def tw3290933243372871141:=trivial
def tw51811077664802207:=trivial
def tw13364883386109127488:=trivial
def tw18293665942286382865:=trivial
def tw5006519537456632943:=trivial
def tw3456407018556871322:=trivial
def tw7623146262387938678:=trivial
def tw4508857342839760072:=trivial
def tw8992340708378887962:=trivial
def tw12619418453263800029:=trivial
def tw11844570384876196843:=trivial
def tw7560427984143775408:=trivial
def tw14378337669322102394:=trivial
def tw1209531661814456201:=trivial
def tw4549158262548140832:=trivial
def tw10570672581082160028:=trivial
def tw12143035241088071692:=trivial
def tw2441182933769928075:=trivial
def tw3173011557056525446:=trivial
def tw10965439361787386254:=trivial
def tw993563528395040728:=trivial
def tw14972307463930003989:=trivial
def tw13081838533483382965:=trivial
def tw9784875147700516763:=trivial
def tw16450548704651842640:=trivial
def tw6081836809272920173:=trivial
def tw9497819479851634725:=trivial
def tw4866960009717315571:=trivial
def tw11408022286984028928:=trivial
def tw15964760422619741368:=trivial
def tw13855970847986807127:=trivial
def tw12034646178738735723:=trivial
def tw6973081774323999926:=trivial
def tw1801914048596799528:=trivial
def tw2545162612001816543:=trivial
def tw10350062347905875598:=trivial
def tw13454465240244667763:=trivial
def tw7132801004555158138:=trivial
def tw673465717345218801:=trivial
def tw1591864040645893783:=trivial
def tw821427585914712271:=trivial
def tw8698017110533110581:=trivial
def tw9903881525937640460:=trivial
def tw8283148408892109960:=trivial
def tw16508982442008927344:=trivial
def tw3522085220429073878:=trivial
def tw342714786925061023:=trivial
def tw4611397130237414596:=trivial
def tw1911856435787357475:=trivial
def tw11139401853095758011:=trivial
def tw8590100123621397561:=trivial
def tw1881562209236678126:=trivial
def tw8750077698058406115:=trivial
def tw1391517495358960039:=trivial
def tw1557155612171318527:=trivial
def tw8547170966149793831:=trivial
def tw934689398226742253:=trivial
def tw335327549823651180:=trivial
def tw6452263918750705283:=trivial
def tw7916477148737699805:=trivial
def tw12201226442901896595:=trivial
def tw955279514564494897:=trivial
def tw18391582041520981959:=trivial
def tw399753219031533568:=trivial
def tw15191514616220158023:=trivial
def tw14698880729270834687:=trivial
def tw7857002660361376632:=trivial
def tw9214876908604635927:=trivial
def tw517728627821484218:=trivial
def tw16171048264605277581:=trivial
def tw12761525750701792185:=trivial
def tw5006927283371142857:=trivial
def tw2649475230867779072:=trivial
def tw7910982798503993869:=trivial
def tw17632119098485380830:=trivial
def tw13998251805708338047:=trivial
def tw13901782142690251251:=trivial
def tw138449480351900286:=trivial
def tw12233519344385552553:=trivial
def tw4404489220582702263:=trivial
def tw5706968600899197613:=trivial
def tw7611903638897952174:=trivial
def tw13827084217627115875:=trivial
def tw1253048615363097345:=trivial
def tw9779992078196816710:=trivial
def tw7777138147148101295:=trivial
def tw18023636395809552174:=trivial
def tw4737644498100807502:=trivial
def tw9295631897764296213:=trivial
def tw17673300930243866392:=trivial
def tw7982093329900301361:=trivial
def tw8768513315405263969:=trivial
def tw7248995326378896796:=trivial
def tw10924279260541330997:=trivial
def tw3439111577713747436:=trivial
def tw12520208672772660072:=trivial
def tw12293125140311933066:=trivial
def tw17381058078629619310:=trivial
def tw6084512532840872732:=trivial
def tw1758340128223049997:=trivial
def tw11620411948283625966:=trivial
def tw16221652935496688141:=trivial
def tw12705181891507382111:=trivial
def tw1608118203884277096:=trivial
def tw10021096123418413413:=trivial
def tw4506649560077990639:=trivial
def tw2921037758924646592:=trivial
def tw3568583273901583601:=trivial
def tw7697526287411005590:=trivial
def tw6710881961199451611:=trivial
def tw12997624661944878114:=trivial
def tw13921693873301804517:=trivial
def tw1056838505654548698:=trivial
def tw6633732690889667571:=trivial
def tw11816792246131966489:=trivial
def tw14581406733178533062:=trivial
def tw11469130352622921078:=trivial
def tw1362005653193486562:=trivial
def tw11301836012407907110:=trivial
def tw14456539928753849426:=trivial
def tw12190663809293719563:=trivial
def tw3438443860564872756:=trivial
def tw8936938286098662913:=trivial
def tw16639069124177192393:=trivial
def tw15071083308418254431:=trivial
def tw6131552720002644281:=trivial
def tw11079958540114888640:=trivial
def tw6382973147920718850:=trivial
def tw14594250123216099051:=trivial
def tw3467023915136823395:=trivial
def tw16867670396906539137:=trivial
def tw869862242647097749:=trivial
def tw5761425535909725401:=trivial
def tw14581588922474792689:=trivial
def tw5368337863977369514:=trivial
def tw16302314380817124740:=trivial
def tw10154676622140385695:=trivial
def tw9340819255735171050:=trivial
def tw6144686842758192503:=trivial
def tw6873982008204764902:=trivial
def tw91682081158093081:=trivial
def tw5858426475737184403:=trivial
def tw16957049229193688236:=trivial
def tw4639567894362861865:=trivial
def tw11111964892116067811:=trivial
def tw15525396170223926255:=trivial
def tw17884718620764980177:=trivial
def tw14989150589438502127:=trivial
def tw9783617791605563826:=trivial
def tw9115287061058708941:=trivial
def tw3822916629022472631:=trivial
def tw326928579419025590:=trivial
def tw5378103945079079935:=trivial
def tw12765396698681701078:=trivial
def tw10695394692354476394:=trivial
def tw4653955593964174728:=trivial
def tw11378826021106781616:=trivial
def tw13744560739125274837:=trivial
def tw13519443976774758134:=trivial
def tw1988596361782657477:=trivial
def tw6454027167073639418:=trivial
def tw5586393904037692930:=trivial
def tw7467375685270762470:=trivial
def tw11799685925468741605:=trivial
def tw6239065509108041786:=trivial
def tw10896588660518831771:=trivial
def tw1393719669609071827:=trivial
def tw15293458378599257277:=trivial
def tw5568976140425600613:=trivial
def tw2369729692473997855:=trivial
def tw12568202710150053270:=trivial
def tw3117657079171948296:=trivial
def tw17216795647583518056:=trivial
def tw964810227357123305:=trivial
def tw508705008498402111:=trivial
def tw4503286565554342323:=trivial
def tw5540509702851218863:=trivial
def tw1577811438151225039:=trivial
def tw4027097672698834020:=trivial
def tw18108795964604809483:=trivial
def tw15669346155128157946:=trivial
def tw14058453228181352121:=trivial
def tw3590156246967791919:=trivial
def tw4337822437911644799:=trivial
def tw6426567183218896017:=trivial
def tw12239137543708979388:=trivial
def tw576402766558087247:=trivial
def tw3140868770585633152:=trivial
def tw1519785979530836224:=trivial
def tw12874191023697050985:=trivial
def tw11714247559300415546:=trivial
def tw16563148191816608030:=trivial
def tw5470521910193301925:=trivial
def tw12130848712165472506:=trivial
def tw7609598830634838577:=trivial
def tw4316621151092439868:=trivial
def tw16288988669344457266:=trivial
def tw11066221892315900182:=trivial
def tw9988004412325899415:=trivial
def tw13866697062982612993:=trivial
def tw4807312832240208860:=trivial
def tw4935437168915169551:=trivial
def tw9178785384063838147:=trivial
def tw1981137834909838603:=trivial
def tw7360953299881251280:=trivial
def tw10447646246528753058:=trivial
def tw8769386652735295493:=trivial
def tw17939017618045843235:=trivial
def tw3606936783217971164:=trivial
def tw6275156884601436078:=trivial
def tw5846000728853881757:=trivial
def tw15029811444323328750:=trivial
def tw3575123837942970068:=trivial
def tw9629209274894421829:=trivial
def tw838584418628038533:=trivial
def tw10278279846546273699:=trivial
def tw14494350903075541372:=trivial
def tw543976506727457309:=trivial
def tw8327540646780750110:=trivial
def tw12161781728389551354:=trivial
def tw6627144557694582542:=trivial
def tw11088405171313699923:=trivial
def tw6252587169755581838:=trivial
def tw17817403643390802269:=trivial
def tw16271361470218987100:=trivial
def tw798786304516558779:=trivial
def tw15503875200875727668:=trivial
def tw13735594406964513061:=trivial
def tw15992168282386376182:=trivial
def tw16665350656811076429:=trivial
def tw9122910965726824460:=trivial
def tw17596447099103679060:=trivial
def tw108881305252658112:=trivial
def tw11247499622623621838:=trivial
def tw555264194898206915:=trivial
def tw16092611127871251497:=trivial
def tw6708558101976103808:=trivial
def tw8419072723545177347:=trivial
def tw5752096977010930812:=trivial
def tw13148500084093446651:=trivial
def tw7664867772990015118:=trivial
def tw3103413768531652074:=trivial
def tw11536652315645678206:=trivial
def tw6620628830214075456:=trivial
def tw16396966940318616261:=trivial
def tw12031672976722123004:=trivial
def tw18044768161535590960:=trivial
def tw3507173243203584380:=trivial
def tw6730231920096153757:=trivial
def tw12262973070952870426:=trivial
def tw8731790844421870876:=trivial
def tw738221706613658664:=trivial
def tw6077259932266345538:=trivial
def tw17575066798248396792:=trivial
def tw8512450357673626731:=trivial
def tw10939590779448003812:=trivial
def tw17683829438269290268:=trivial
def tw6642142502125343435:=trivial
def tw2002184845519390526:=trivial
def tw1314511533473232993:=trivial
def tw13127050727205794853:=trivial
def tw9632883459005054313:=trivial
def tw15767565625111900824:=trivial
def tw7894676983324445934:=trivial
def tw14586289940891457615:=trivial
def tw4172161864013283583:=trivial
def tw17086393783780431617:=trivial
def tw15500870549475556634:=trivial
def tw12406495183000742507:=trivial
def tw2794801954370291337:=trivial
def tw14760977807556186868:=trivial
def tw13631080345177851358:=trivial
def tw1115143252403038440:=trivial
def tw633192965885695738:=trivial
def tw1706508708404984449:=trivial
def tw3082037014977706431:=trivial
def tw4242698991529751942:=trivial
def tw4573702901310803991:=trivial
def tw11928054624473303537:=trivial
def tw2036093795145919877:=trivial
def tw2480230973036248314:=trivial
def tw8403665709622120976:=trivial
def tw7296954044733174051:=trivial
def tw5021062341137227326:=trivial
def tw7868118082333853416:=trivial
def tw16616702527658583986:=trivial
def tw12195386082916432547:=trivial
def tw7504181990196555335:=trivial
def tw4618669403270351578:=trivial
def tw13475806060333398191:=trivial
def tw18167211180759803630:=trivial
def tw13142217633020193814:=trivial
def tw9797740486831006438:=trivial
def tw17700328249666361470:=trivial
def tw4119811754138255977:=trivial
def tw71422056034727182:=trivial
def tw4238744330239319149:=trivial
def tw12396346084938845285:=trivial
def tw7857536018937466799:=trivial
def tw15236889203771619423:=trivial
def tw17958519381284927469:=trivial
def tw13955246361235226858:=trivial
def tw1445118862027494857:=trivial
def tw8079538981706017685:=trivial
def tw10253788661277713908:=trivial
def tw12229796589477815342:=trivial
def tw11338122873188372690:=trivial
def tw6344485385946014019:=trivial
def tw3738557233530231735:=trivial
def tw11311279238471641617:=trivial
def tw12281301124002975654:=trivial
def tw6869480484294862843:=trivial
def tw9265930224393687721:=trivial
def tw10218608253431614141:=trivial
def tw13406368535626170470:=trivial
def tw8090734862783679371:=trivial
def tw2768922062702154160:=trivial
def tw15307508093836194686:=trivial
def tw12849338390751645968:=trivial
end PySem.W.Fast
set_option maxRecDepth 100000 in
set_option maxHeartbeats 0 in
theorem PySem.Challenge.cw_neverwait_k82_whole_first_letters_alone_holds : PySem.Challenge.rw_neverwait_k82_whole_first_letters_alone.Holds := by
 w_on; o_law; k_head; (case hw=>w_witness2)
 k_fill
 refine uq.walk (l:=PySem.Challenge.rw_neverwait_k82_whole_first_letters_alone) (Pt:=_) (Pr:=_) rfl rfl (fun w h Y=>PySem.W.km_in_of Y) (fun w h Y=>PySem.W.km_tabs_of Y) ?cd0 ?kt0 ?cd1 ?kt1 ?F;case F =>
  intro w mg fa h KX G OD;refine' uq.MH (Pt:=_) (Pr:=_) KX G OD ?_ ?_ ?_ ?_ ?_ ?_ ?_ ?_ ?_ ?_ ?_ ?_ ?_ ?_ ?_ ?_ ?_ ?_ ?_ ?_ ?_ ?_ ?_ ?_ ?_ ?_ ?_ ?_ ?_ ?_ ?_ ?_ ?_ ?_ ?_ ?_ ?_ ?_ ?_ ?_ ?_ ?_ ?_ ?_ ?_ ?_ ?_ ?_ ?_ ?_ ?_ ?_ ?_ ?_ ?_ ?_ ?_ ?_ ?_ ?_ ?_ ?_ ?_ ?_ ?_ ?_ ?_ ?_ ?_ ?_ ?_ ?_ ?_ ?_ ?_ ?_ ?_ ?_ ?_ ?_ ?_ ?_ ?_ ?_ ?_ ?_ ?_ ?_ ?_ ?_ ?_;all_goals first
   | (refine' uq.FD.mk ?a ?l ?d ?k; (case a=>k_is); (case l=>k_is); (case d=>k_is); (case k=>k_is))
   | (refine' uq.FC.mk ?a ?l ?d ?k; (case a=>k_is); (case l=>k_is); (case d=>k_is); (case k=>k_is))
   | (refine' uq.MD.mk ?a ?i ?l ?d ?k; (case a=>k_is); (case i=>k_is); (case l=>k_is); (case d=>k_is); (case k=>k_is))
   | (refine' uq.MC.mk ?a ?i ?l ?d ?k; (case a=>k_is); (case i=>k_is); (case l=>k_is); (case d=>k_is); (case k=>k_is))
   | k_is
   | kernel_rfl
   | decide
   | exact ⟨by kernel_rfl,by k_is,by k_is,by k_is,by k_is,by k_is,by k_is,by kernel_rfl⟩
   | skip
 case kt0=>intro w; kernel_rfl
 case cd0=>intro w; kernel_rfl
 case kt1=>intro w; kernel_rfl
 case cd1=>intro w; kernel_rfl
