import PyProof.Rows.All
import Wide.All
import OpenK.AllK
import Wide.FinOn
import Lean
import PyProof.EqAt
import PyProof.EqKinds
import PyProof.TupleCall
import PySem.Challenge.RW_neverwait_k72_whole_measure_falls
set_option Elab.async false
set_option linter.all false
set_option maxRecDepth 100000
set_option maxHeartbeats 8000000
def ak:=@PySem.wpAny_bind
def aH:=@List.length_map
def bv:=@PySem.Heap.get?_push_of_some
def b9:=@List.getD_eq_getElem?_getD
def bT:=@List.getElem?_eq_getElem
def aA:=@PyProof.Rows.wpS_bind
def dS:=@List.getElem?_eq_some_iff
def bb:=@PySem.Heap.lt_size
def cC:=@Nat.lt_of_lt_of_le
def cD:=@List.mem_cons_self
def aI:=@Nat.le_refl
def bi:=@List.getElem?_map
def aM:=@Nat.ne_of_lt
def aj:=@if_neg
def bP:=@List.mem_cons_of_mem
def a_:=@Option.some.inj
def aS:=@List.mem_cons
def ao:=@if_pos
def b_:=@PySem.Heap.get?_push_size
def aD:=@PyProof.Rows.wpS_pure
def bX:=@Bool.false_ne_true
def aX:=@Nat.le_trans
def bY:=@List.size_toArray
def bu:=@List.mem_range
def cE:=@List.mem_singleton
def cZ:=@List.mem_append_right
def cz:=@Nat.lt_succ_of_lt
def bo:=@List.mem_map
def cJ:=@List.append_assoc
def cg:=@List.mem_filter
def cn:=@List.map_append
def du:=@List.mem_of_getElem?
def c_:=@of_decide_eq_true
def et:=@Array.toList_append
def df:=@Bool.and_eq_true
def cX:=@List.mem_append
def dv:=@List.length_cons
def eA:=@Nat.lt_of_le_of_lt
def ce:=@Nat.zero_le
def eB:=@PySem.Heap.get?_push_ne
def dg:=@decide_eq_true
def eC:=@List.getElem_mem
def cM:=@getElem?_pos
def ft:=@PySem.W.mg_none_of
def eJ:=@List.filter_cons
def eD:=@decide_eq_false
def eY:=@List.lookup_cons
def dh:=@List.map_map
def eK:=@PySem.PassesOwn.never
def fK:=@List.length_range
def fY:=@List.length_append
def fu:=@List.all_eq_true
def gE:=@PySem.mem_of_lookup
def fv:=@PySem.Heap.size_update
def di:=@PyProof.Rows.wpS_forRange
def hX:=@List.mem_append_left
def j4:=@Array.perm_iff_toList_perm
def fL:=@List.not_mem_nil
def iP:=@List.getElem?_eq_none
def gI:=@List.take_add_one
def h9:=@Bool.false_eq_true
def i6:=@List.perm_append_comm
def i7:=@List.length_replicate
def i8:=@List.length_filter_le
def j5:=@PySem.F.plainAttrs_list
def lr:=@Classical.byContradiction
def dI:=@PySem.wpAny_field
def fZ:=@List.nodup_cons
def fN:=@PySem.boot_len
def lu:=@PySem.F.type_list_append
def lw:=@PySem.F.slot_list_append
def iQ:=@List.filter_append
def j6:=@Nat.eq_of_beq_eq_true
def f8:=@PySem.wpAny_seqItems
def nL:=@List.getElem?_append_left
def h_:=@PySem.W.kia_one
def oM:=@PyProof.Rows.boot_isinstance
def i9:=@PySem.wpAny_setField_rec
def iR:=@List.take_length
def oO:=@PyProof.Rows.callWith_type1
def i_:=@List.pairwise_map
def f9:=@PySem.wpAny_holding
def oQ:=@List.getElem?_append_right
def iS:=@List.range_succ
def fw:=@PySem.sizeLine_eq
def lx:=@Array.length_toList
def nM:=@PySem.Heap.get?_update_other
def nN:=@List.Perm.append_left
def ic:=@PySem.W.mg_of
def ie:=@List.map_cons
def ja:=@List.foldl_cons
def lz:=@PySem.Heap.get?_update_ne
def oR:=@PyProof.Rows.boot_tuple
def j7:=@Nat.lt_succ_self
def iT:=@PySem.Heap.size_push
def dk:=@PyProof.Rows.wpS_mono
def iU:=@Nat.lt_irrefl
def oT:=@PySem.wpAny_callSpecial?_slot
def ig:=@Nat.ne_of_gt
def lA:=@Int.toNat_natCast
def ix:=@Bool.eq_false_iff
def f_:=@Array.size_map
def jb:=@List.getElem?_range
def dJ:=@PySem.wpAny_rule
def jc:=@PySem.F.called_set
def kC:=@List.Pairwise.filter
def dL:=@PyProof.Rows.wpS_modify
def iy:=@PySem.wpAny_call_entry
def jd:=@PySem.wpAny_Call_Name_kw
def eM:=@beq_iff_eq
def iz:=@List.append_nil
def iA:=@Bool.eq_iff_iff
def kD:=@beq_eq_false_iff_ne
def kE:=@List.replicate_succ
def kF:=@List.map_congr_left
def mh:=@PySem.F.plain_max_loop
def mi:=@List.getElem?_set_self
def gW:=@Int.ofNat.inj
def je:=@Nat.le_add_right
def dw:=@if_false
def kG:=@decide_eq_true_iff
def kH:=@Int.emod_lt_of_pos
def mm:=@List.take_append_drop
def mn:=@Array.getElem?_toList
def eN:=@PyProof.Rows.size_push'
def jf:=@List.length_set
def jg:=@List.forIn_cons
def dM:=@or_false
def kI:=@List.nodup_append
def oU:=@PyProof.Rows.boot_sorted
def kJ:=@PySem.wpAny_truthy_bool
def jh:=@List.forIn_nil
def iB:=@Nat.le_of_lt
def mq:=@List.mem_filterMap
def iC:=@Int.zero_add
def mr:=@PySem.Heap.SameBut.update
def ji:=@PyProof.Rows.get?_update_seq
def kK:=@Int.emod_nonneg
def kL:=@Bool.or_eq_true
def oW:=@PyProof.Rows.boot_max
def oX:=@Nat.le_of_ble_eq_true
def dN:=@Ne.symm
def mv:=@Array.toList_push
def rK:=@Array.getD_eq_getD_getElem?
def kM:=@PySem.wpAny_passesOwn
def oY:=@List.getElem?_set_ne
def jj:=@PySem.wpAny_attempt
def jk:=@Nat.zero_add
def mw:=@List.countP_cons
def oZ:=@PySem.Heap.get?_update_self
def rL:=@List.drop_eq_getElem_cons
def wy:=@PyProof.Rows.F.plain_set_update_loop
def dz:=@PyProof.Rows.wpS_get
def gX:=@PySem.wpAny_mono
def iD:=@PySem.wpAny_letGo
def rM:=@Option.isSome_iff_exists
def o0:=@PySem.Heap.get?_none_of_le
def mx:=@ne_of_beq_false
def my:=@List.of_mem_zip
def o4:=@of_decide_eq_false
def o5:=@List.pairwise_cons
def o6:=@Array.forIn_toList
def jl:=@Int.le_refl
def rN:=@List.take_of_length_le
def o7:=@List.flatten_cons
def rO:=@Array.toList_filterMap
def mz:=@PySem.codeAny_builtin
def o8:=@PySem.wpAny_pyIter_tuple
def o9:=@List.zipIdx_cons
def o_:=@List.mem_flatMap
def pc:=@List.length_take
def pe:=@List.any_eq_true
def pf:=@Array.toList_map
def mB:=@List.cons.inj
def mC:=@List.any_cons
def mD:=@List.all_cons
def mE:=@Bool.false_or
def ph:=@PySem.wpAny_newObj_type
def kN:=@PySem.codeAny_mono
def rP:=@List.replicate_succ'
def rQ:=@List.mem_of_mem_take
def rR:=@List.mem_of_mem_drop
def rS:=@List.mem_iff_getElem
def kO:=@PyProof.Rows.listUpdate_at
def rT:=@List.getElem_of_mem
def rV:=@List.filter_eq_self
def jm:=@PySem.wpAny_call
def gb:=@if_true
def mH:=@Nat.pow_succ
def mI:=@PySem.wpAny_standAt
def mJ:=@PySem.wpAny_onRaise
def rW:=@PySem.wpAny_updateSeq_pair
def rX:=@PySem.codeAny_call_builtin
def rY:=@PySem.W.callWith_K
def rZ:=@PySem.Around.under_plainId
def wz:=@List.pairwise_iff_getElem
def wA:=@Array.getElem?_eq_getElem
def r0:=@decide_eq_true_eq
def r9:=@List.reverse_perm
def mK:=@List.map_id
def r_:=@List.ext_getElem?
def se:=@List.any_eq_false
def wB:=@List.length_erase_of_mem
def pi:=@Bool.not_true
def pj:=@PySem.wpAny_newTuple
def wC:=@decide_eq_false_iff_not
def sf:=@Nat.mod_eq_of_lt
def sg:=@List.nodup_range
def wD:=@List.getElem?_replicate
def gY:=@PyProof.Rows.wpS_lift
def wE:=@PyProof.Rows.boot_list
def wF:=@Option.map_eq_some_iff
def pk:=@Nat.succ.inj
def pq:=@Nat.min_self
def pr:=@Nat.le_of_eq
def wG:=@Nat.div_div_eq_div_mul
def pz:=@Nat.beq_refl
def wH:=@List.length_pos_of_mem
def wI:=@List.Perm.append_right
def si:=@PySem.wpAny_setState_of
def sj:=@PySem.wpAny_pyIter_enum
def sk:=@Nat.not_lt_zero
def sn:=@List.zipIdx_nil
def sq:=@List.Perm.of_eq
def pA:=@PySem.plainId_quiet
def wJ:=@PyProof.Rows.boot_int
def wK:=@List.length_singleton
def wL:=@PySem.W.kla_codeExpr
def wM:=@PySem.W.kla_callFunE
def pB:=@Nat.le_succ
def wN:=@List.pairwise_append
def wO:=@List.mem_erase_of_ne
def wP:=@List.length_take_le'
def wQ:=@Array.toList_reverse
def wR:=@Array.toList_extract
def mL:=@PySem.wpAny_Name
def wS:=@PySem.W.plainGet_of
def BM:=@PyProof.Rows.F.entry_set_update_loop
def wU:=@List.length_take_le
def wV:=@List.filterMap_cons
def sr:=@PySem.wpAny_execs_nil
def wW:=@Option.toList_some
def wX:=@List.map_replicate
def wY:=@PySem.wpAny_newFunctionEnv
def wZ:=@PySem.wpAny_loadName_local
def w9:=@bne_self_eq_false
def mN:=@Prod.ext
def sv:=@Nat.succ_pos
def sw:=@Nat.lt_or_ge
def w_:=@List.foldl_append
def xa:=@Bool.not_eq_true'
def xb:=@PySem.Around.frames_deeper
def xc:=@PySem.wpAny_loadName_free
def xf:=@PySem.W.makes_of
def xg:=@Option.getD_some
def sB:=@PySem.wpAny_newList
def BN:=@Int.mul_le_mul_of_nonneg_left
def xh:=@Option.map_some
def xi:=@List.nil_append
def BO:=@List.countP_eq_length_filter
def xj:=@Int.natCast_mul
def xk:=@Array.Perm.refl
def BP:=@PySem.F.typeOf_object_class
def xl:=@PySem.wpAny_pyIter_list
def xm:=@PySem.wpAny_loadPart_at
def sD:=@Nat.mod_lt
def xn:=@List.nodup_nil
def BQ:=@Int.fmod_eq_emod_of_nonneg
def BR:=@Array.toList_setIfInBounds
def BS:=@Array.getElem?_eq_some_iff
def pC:=@PyProof.Rows.seqEpoch_at
def BU:=@List.getElem?_zip_eq_some
def xo:=@PySem.wpAny_pyIter_zip
def xp:=@PySem.wpAny_isInstance
def xq:=@PySem.wpAny_eqBool_int
def BV:=@List.getElem?_take_of_lt
def BW:=@List.filterMap_cons_some
def BX:=@List.eq_of_mem_replicate
def BY:=@List.Pairwise.imp_of_mem
namespace L2
open PySem PySem.Spec PyProof.Rows
abbrev qx:=Sum Int Str
def Hr:qx->Value->Bool
 |.inl k,v=>Value.isInt k v
 |.inr x,v=>Value.isStrOf x v
def Q9(w:World):qx->Int
 |.inl k=>hashInt k
 |.inr x=>hashStr w x
theorem cG:∀ {k:qx} {v:Value},Hr k v=true->(∃i t,k=Sum.inl i/\v=Value.int i t)\/(∃x t,k=Sum.inr x/\v=Value.str x t)
 |.inl i,v,h=>by
  obtain⟨t,e⟩:=Value.isInt_shape (k:=i) (v:=v) h;exact .inl ⟨i,t,rfl,e⟩
 |.inr x,v,h=>by
  obtain⟨t,e⟩:=Value.isStrOf_shape (x:=x) (v:=v) h;exact .inr ⟨x,t,rfl,e⟩
theorem ID(a b:Int):decide ((Sum.inl a:qx)=Sum.inl b)=(a==b):=by
 by_cases e:a=b
 .subst e;simp
 .have h:¬ (Sum.inl a:qx)=Sum.inl b:=fun q=>e (Sum.inl.inj q);rw[eD h];exact(kD.mpr e).symm
theorem IE(a b:Str):decide ((Sum.inr a:qx)=Sum.inr b)=decide (a=b):=by
 by_cases e:a=b
 .subst e;simp
 .have h:¬ (Sum.inr a:qx)=Sum.inr b:=fun q=>e (Sum.inr.inj q);rw[eD h,eD e]
theorem IF(a:Int)(b:Str):decide ((Sum.inl a:qx)=Sum.inr b)=false:=eD (fun q=>nomatch q)
theorem IG(a:Str)(b:Int):decide ((Sum.inr a:qx)=Sum.inl b)=false:=eD (fun q=>nomatch q)
def sG(prog:Program)(w:World):PySem.KeyKind prog w qx where
 is:=Hr
 hash:=Q9 w
 inj:=fun v a b ha hb=>by
  rcases cG ha with ⟨i,t,rfl,rfl⟩|⟨x,t,rfl,rfl⟩
  .rcases cG hb with ⟨j,u,rfl,e⟩|⟨y,u,rfl,e⟩
   .injection e with e1 _;rw[e1]
   .exact nomatch e
  .rcases cG hb with ⟨j,u,rfl,e⟩|⟨y,u,rfl,e⟩
   .exact nomatch e
   .injection e with e1 _;rw[e1]
 byValue:=fun k v h=>by
  rcases cG h with ⟨i,t,rfl,rfl⟩|⟨x,t,rfl,rfl⟩ <;> rfl
 pyHash:=fun hv h=>by
  rcases cG hv with ⟨i,t,rfl,rfl⟩|⟨x,t,rfl,rfl⟩
  .exact wpAny_pyHash_int h
  .exact wpAny_pyHash_str h
 eqBool:=fun hu hv h=>by
  rcases cG hu with ⟨i,t,rfl,rfl⟩|⟨x,t,rfl,rfl⟩
  .rcases cG hv with ⟨j,u,rfl,rfl⟩|⟨y,u,rfl,rfl⟩
   .rw[ID] at h;exact xq h
   .rw[IF] at h;exact SeqAt.EqAt.int_str i t y u _ _ _ _ h
  .rcases cG hv with ⟨j,u,rfl,rfl⟩|⟨y,u,rfl,rfl⟩
   .rw[IG] at h;exact SeqAt.EqAt.str_int x t j u _ _ _ _ h
   .rw[IE] at h;exact wpAny_eqBool_str h
 «strs»:=fun k x t v h=>by
  rcases cG h with ⟨i,u,rfl,e⟩|⟨y,u,rfl,e⟩
  .exact nomatch e
  .injection e with e1 _
   subst e1
   cases v <;> rfl
inductive V where
 |bD|bl (b:Bool)|int (i:Int)|str (x:Str)|yL (b:Array UInt8)|II (b:UInt64)|ref (a:Addr)|ty (n:String)
 deriving DecidableEq
def bw:V->Value->Prop
 |.bD,u=>u=Value.none
 |.bl b,u=>u=Value.bool b
 |.int i,u=>∃t,u=Value.int i t
 |.str x,u=>∃t,u=Value.str x t
 |.yL b,u=>∃t,u=Value.bytes b t
 |.II b,u=>∃t,u=Value.float b t
 |.ref a,u=>u=Value.ref a
 |.ty n,u=>u=Value.type n
abbrev aO:List V->List Value->Prop:=Paired bw
theorem aO.length(r:aO xs us):xs.length=us.length:=Paired.length r
theorem aO.get:∀ {xs:List V} {us:List Value} {i:Nat} {x:V},aO xs us->xs[i]?=some x->∃u,us[i]?=some u/\bw x u
 |_,_,_,_,.nil,e=>by simp at e
 |_,_,0,_,.cons r _,e=>by simp at e;subst e;exact⟨_,rfl,r⟩
 |_,_,i+1,x,.cons _ t,e=>by
  obtain⟨u,h1,h2⟩:=aO.get (i:=i) (x:=x) t (by simpa using e);exact⟨u,by simpa using h1,h2⟩
theorem aO.set(r:bw x u):∀ {xs:List V} {us:List Value} (i:Nat),aO xs us->aO (xs.set i x) (us.set i u)
 |_,_,_,.nil=>.nil
 |_,_,0,.cons _ t=>.cons r t
 |_,_,i+1,.cons q t=>.cons q (aO.set r i t)
theorem aO.append:∀ {xs ys:List V} {us ws:List Value},aO xs us->aO ys ws->aO (xs++ys) (us++ws)
 |_,_,_,_,.nil,s=>s
 |_,_,_,_,.cons r t,s=>.cons r (aO.append t s)
theorem aO.take:∀ {xs:List V} {us:List Value} (n:Nat),aO xs us->aO (xs.take n) (us.take n)
 |_,_,0,_=>.nil
 |_,_,_+1,.nil=>.nil
 |_,_,n+1,.cons r t=>.cons r (aO.take n t)
theorem aO.drop:∀ {xs:List V} {us:List Value} (n:Nat),aO xs us->aO (xs.drop n) (us.drop n)
 |_,_,0,r=>r
 |_,_,_+1,.nil=>.nil
 |_,_,n+1,.cons _ t=>aO.drop n t
def qy:Option V->Option Value->Prop
 |some v,some u=>bw v u
 |none,none=>True
 |_,_=>False
def KV{κ:Type}:List (κ×V)->List (κ×Value)->Prop:=Paired fun (p:κ×V) (q:κ×Value)=>p.1=q.1/\bw p.2 q.2
def kV:qx->V
 |.inl i=>.int i
 |.inr x=>.str x
inductive HO where
 |lst (xs:List V)
 |tup (xs:List V)
 |dK (hW:List (qx×V))|dT (hW:List (List qx×V))
 |set (S:Int->Bool) (n:Nat)
 |ins (C dx:Addr) (fs:List (Str×V))
 |own (x:Addr)
 |xd (fs:List (Str×V))
 |met (f x:Addr)
 |Qi (lo hi:Int)
 |uJ (o:Obj) (u:HO)
 |j8 (ps:Array Value)
 |ext (φ:Heap->Prop)
abbrev Hp:=Addr->Option HO
def upd(H:Hp)(a:Addr)(o:HO):Hp:=fun b=>if b=a then some o else H b
theorem af:upd H a o a=some o:=by unfold upd;rw[ao rfl]
theorem am(h:b≠a):upd H a o b=H b:=by unfold upd;rw[aj h]
theorem lB:upd (upd H a o) a u=upd H a u:=by
 funext b;unfold upd;split <;> rfl
theorem eZ{H:Hp}{a b:Addr}{o u:HO}(h:H a=some o)(h':H b=some u)(d:o≠u):a≠b:=by
 intro e;subst e;rw[h] at h';exact d (a_ h')
theorem ap{H:Hp}{a b:Addr}{o:HO}(h:H a=some o)(h':H b=none):a≠b:=by
 intro e;subst e;rw[h] at h';cases h'
section
variable (P:Program) (w:World)
def mP(h:Heap)(a:Addr)(items:Array Value):Prop:=∃o,h.get? a=some o/\o.cls=.type "tuple"/\∃n,o.data=.seq items n/\o.dict=none
theorem mP.tup(p:mP h a items):IsTup h a items:=let ⟨o,e,c,n,d,_⟩:=p;⟨o,e,c,n,d⟩
theorem mP.new(h:Heap)(items:Array Value):mP (h.push { cls:=.type "tuple",data:=.seq items }) h.objs.size items:=⟨_,b_ _ rfl,rfl,_,rfl,rfl⟩
def cK(H:Hp)(h:Heap)(a:Addr):HO->Prop
 |.lst xs=>xs.length<=sizeLine/\∃ (its:List Value) (n:Nat),aO xs its/\h.get? a=some { cls:=.type "list",data:=.seq its.toArray n }
 |.tup xs=>xs.length<=sizeLine/\∃its:List Value,aO xs its/\mP h a its.toArray
 |.dK hW=>hW.length<=sizeLine/\(a==sysModules)=false/\∃vs,KV hW vs/\h.DictOf (sG P w) a vs
 |.dT hW=>hW.length<=sizeLine/\(a==sysModules)=false/\∃xs:List (List qx×Addr×Value),
   Paired (fun (p:List qx×V) (q:List qx×Addr×Value)=>p.1=q.1/\H q.2.1=some (.tup (p.1.map kV))/\bw p.2 q.2.2) hW xs/\
   ∃o es ep,h.get? a=some o/\o.ExactDict/\o.data=.dict es ep/\es.toList=xs.map (entryOfKey (tupleKind (sG P w)))/\(xs.map (·.1)).Nodup
 |.set S n=>h.SetOf (intKind P w) a S n
 |.ins C dx fs=>H dx=some (.own a)/\fs.length<=1000/\dx≠a/\h.get? a=some (PySem.W.instObj C dx)/\
   ∃mA,h.Ns1 dx mA/\(∀f,qy (fs.lookup f) (mA f))/\PySem.Within mA (fs.map (·.1))
 |.own _=>∃o,h.get? a=some o
 |.xd fs=>∃mA,h.Ns1 a mA/\∀f,qy (fs.lookup f) (mA f)
 |.Qi lo hi=>∃t u v,h.get? a=some { cls:=.type "range",data:=.fields #[.int lo t,.int hi u,.int 1 v] }
 |.uJ o u=>h.get? a=some o/\cK H h a u
 |.j8 ps=>h.get? a=some { cls:=.none,data:=.fields ps }
 |.met f x=>h.get? a=some (PySem.W.methodObj (.ref f) (.ref x))
 |.ext φ=>φ h/\(∃o,h.get? a=some o)/\∀h1 h2:Heap,φ h1->(∀o,h1.get? a=some o->h2.get? a=some o)->φ h2
def kP(H:Hp)(h:Heap):Prop:=∀a o,H a=some o->cK P w H h a o
end
section
variable {P:Program} {w:World} {H H':Hp} {h h':Heap} {a:Addr} {o:HO}
theorem cK.lt(x:cK P w H h a o):a<h.objs.size:=by
 cases o with
 |lst xs=>obtain⟨_,_,_,_,e⟩:=x;exact bb e
 |tup xs=>obtain⟨_,_,_,p⟩:=x;exact p.tup.lt
 |dK hW=>obtain⟨_,_,_,_,o,_,_,e,_⟩:=x;exact bb e
 |dT hW=>obtain⟨_,_,_,_,o,_,_,e,_⟩:=x;exact bb e
 |set S n=>obtain⟨o,_,_,_,e,_⟩:=x;exact bb e
 |ins C dx fs=>obtain⟨_,_,_,e,_⟩:=x;exact bb e
 |own y=>obtain⟨_,e⟩:=x;exact bb e
 |xd fs=>obtain⟨_,⟨_,_,_,e,_⟩,_⟩:=x;exact bb e
 |Qi lo hi=>obtain⟨_,_,_,e⟩:=x;exact bb e
 |uJ ob u=>obtain⟨e,_⟩:=x;exact bb e
 |j8 ps=>exact bb (show h.get? a=some _ from x)
 |met f y=>exact bb (show h.get? a=some _ from x)
 |ext φ=>obtain⟨_,⟨_,e⟩,_⟩:=x;exact bb e
theorem Paired.Me:∀ {l₁:List α} {l₂:List β},Paired F l₁ l₂->(∀a b,F a b->G a b)->Paired G l₁ l₂
 |_,_,.nil,_=>.nil
 |_,_,.cons r t,f=>.cons (f _ _ r) (Paired.Me t f)
theorem cK.lC(x:cK P w H h a o)(k:∀b u,(b=a\/H b=some (.own a))->h.get? b=some u->h'.get? b=some u)(ho:∀b,H b=some (.own a)->H' b=some (.own a))(ht:∀b xs,H b=some (.tup xs)->H' b=some (.tup xs)):cK P w H' h' a o:=by
 induction o with
 |lst xs=>obtain⟨z,its,n,r,e⟩:=x;exact⟨z,its,n,r,k _ _ (.inl rfl) e⟩
 |tup xs=>obtain⟨z,its,r,ob,e,c⟩:=x;exact⟨z,its,r,ob,k _ _ (.inl rfl) e,c⟩
 |dK hW=>obtain⟨z,y,vs,r,ob,es,ep,e,c⟩:=x;exact⟨z,y,vs,r,ob,es,ep,k _ _ (.inl rfl) e,c⟩
 |dT hW=>
  obtain⟨z,y,xs,r,ob,es,ep,e,c⟩:=x;exact⟨z,y,xs,Paired.Me r fun p q z=>⟨z.1,ht _ _ z.2.1,z.2.2⟩,ob,es,ep,k _ _ (.inl rfl) e,c⟩
 |set S n=>obtain⟨ob,es,ep,t,e,c⟩:=x;exact⟨ob,es,ep,t,k _ _ (.inl rfl) e,c⟩
 |ins C dx fs=>
  obtain⟨d,z,ne,e,mA,⟨od,es,ep,e2,c⟩,r⟩:=x;exact⟨ho _ d,z,ne,k _ _ (.inl rfl) e,mA,⟨od,es,ep,k _ _ (.inr d) e2,c⟩,r⟩
 |own y=>obtain⟨ob,e⟩:=x;exact⟨ob,k _ _ (.inl rfl) e⟩
 |xd fs=>obtain⟨mA,⟨od,es,ep,e,c⟩,r⟩:=x;exact⟨mA,⟨od,es,ep,k _ _ (.inl rfl) e,c⟩,r⟩
 |Qi lo hi=>obtain⟨t,u,v,e⟩:=x;exact⟨t,u,v,k _ _ (.inl rfl) e⟩
 |uJ ob u ih=>obtain⟨e,q⟩:=x;exact⟨k _ _ (.inl rfl) e,ih q⟩
 |j8 ps=>
  have e:h.get? a=some { cls:=.none,data:=.fields ps }:=x;show h'.get? a=some { cls:=.none,data:=.fields ps };exact k a _ (.inl rfl) e
 |met f y=>
  have e:h.get? a=some (PySem.W.methodObj (.ref f) (.ref y)):=x;show h'.get? a=some (PySem.W.methodObj (.ref f) (.ref y));exact k a _ (.inl rfl) e
 |ext φ=>obtain⟨p,⟨o,e⟩,st⟩:=x;exact⟨st _ _ p fun o q=>k _ _ (.inl rfl) q,⟨o,k _ _ (.inl rfl) e⟩,st⟩
theorem kP.lt(x:kP P w H h)(e:H a=some o):a<h.objs.size:=(x a o e).lt
theorem kP.fresh(x:kP P w H h)(e:h.objs.size<=a):H a=none:=by
 cases q:H a with
 |none=>rfl
 |some u=>exact absurd (cC (x.lt q) e) (iU _)
theorem kP.kept(x:kP P w H h)(k:∀b u,h.get? b=some u->h'.get? b=some u):kP P w H h':=fun a o e=>
 (x a o e).lC (fun b u _ q=>k b u q) (fun _ q=>q) fun _ _ q=>q
theorem kP.laid(x:kP P w H h)(k:∀b u,h.get? b=some u->h'.get? b=some u)(hp:h.objs.size<=a)(new:cK P w (upd H a o) h' a o):kP P w (upd H a o) h':=fun b u e=>by
 have hn:=x.fresh hp;by_cases hb:b=a
 .subst hb;rw[af] at e;cases e;exact new
 .rw[am hb] at e;exact(x b u e).lC (fun c v _ q=>k c v q) (fun c q=>by rw[am (ap q hn)];exact q) fun c xs q=>by rw[am (ap q hn)];exact q
end
def Rd(H:Hp)(a:Addr)(u:HO):Prop:=H a=some u\/∃o,H a=some (.uJ o u)
theorem Rd.ok(r:Rd H a u)(x:kP P w H h):cK P w H h a u:=by
 rcases r with r|⟨o,r⟩
 .exact x a u r
 .obtain⟨_,q⟩:=x a _ r;exact q
def Qj:Option HO->Prop
 |some (.lst _)=>True
 |some (.dK _)=>True
 |some (.dT _)=>True
 |some (.set _ _)=>True
 |some (.ins _ _ _)=>True
 |some (.ext _)=>True
 |_=>False
section
variable {P:Program} {w:World} {H:Hp} {h h':Heap} {x e:Addr} {o':HO}
theorem kP.write(ok:kP P w H h)(mu:Qj (H x))(he:e=x\/H e=some (.own x))(k:∀b u,b≠e->h.get? b=some u->h'.get? b=some u)(Ln:∃u,h'.get? e=some u)(new:cK P w (upd H x o') h' x o'):kP P w (upd H x o') h':=fun b u q=>by
 have Mf:∀c y,H c=some (.own y)->c≠x:=fun c y r z=>by subst z;rw[r] at mu;exact mu
 have Q_:∀c xs,H c=some (.tup xs)->c≠x:=fun c xs r z=>by subst z;rw[r] at mu;exact mu
 by_cases hb:b=x
 .subst hb;rw[af] at q;cases q;exact new
 .rw[am hb] at q;by_cases EF:b=e
  .have q':H b=some (.own x):=by
    rcases he with z|z
    .exact absurd (EF.trans z) hb
    .rw[EF];exact z
   rw[q] at q';cases q';obtain⟨v,hv⟩:=Ln;exact⟨v,by rw[EF];exact hv⟩
  .refine(ok b u q).lC (fun c v hc r=>k c v ?_ r) (fun c r=>by rw[am (Mf c b r)];exact r) fun c xs r=>by rw[am (Q_ c xs r)];exact r
   rcases hc with rfl|hc
   .exact EF
   .rintro rfl;rcases he with z|z
    .exact Mf c b hc z
    .rw[hc] at z;cases z;exact hb rfl
end
structure Un(fs ex:List Addr)(H H':Hp)(h h':Heap):Prop where
 keep:∀b o,h.get? b=some o->H b=none->b∉fs->b∉ex->h'.get? b=some o
 slot:∀b o,h.get? b=some o->H b=none->b∈fs->b∉ex->∃sl,h'.get? b=some { o with slots:=sl }
 free:∀b o,h.get? b=some o->H b=none->b∉ex->H' b=none
 there:∀b o,h.get? b=some o->b∉ex->∃o',h'.get? b=some o'
 kQ:∀b xs,H b=some (.tup xs)->H' b=some (.tup xs)
 mQ:∀b o u,H b=some (.uJ o u)->H' b=some (.uJ o u)
 mR:∀b ps,H b=some (.j8 ps)->∃more,H' b=some (.j8 (ps++more))
section
variable {fs XN ex Lo:List Addr} {H H1 H2:Hp} {h h1 h2 h':Heap} {a x e:Addr} {o:HO}
theorem Un.any(u:Un fs ex H H1 h h1)(q:h.get? b=some ob)(n:H b=none)(hx:b∉ex):∃sl,h1.get? b=some { ob with slots:=sl }:=by
 by_cases hb:b∈fs
 .exact u.slot b ob q n hb hx
 .exact⟨ob.slots,u.keep b ob q n hb hx⟩
theorem Un.kept(k:∀b u,h.get? b=some u->h'.get? b=some u):Un fs ex H H h h':=
 ⟨fun b ob q _ _ _=>k b ob q,fun b ob q _ _ _=>⟨ob.slots,k b ob q⟩,fun _ _ _ n _=>n,fun b ob q _=>⟨ob,k b ob q⟩,fun _ _ q=>q,fun _ _ _ q=>q,fun _ ps q=>⟨#[],by rw[q];simp⟩⟩
theorem Un.refl:Un fs ex H H h h:=Un.kept fun _ _ q=>q
theorem Un.laid(k:∀b u,h.get? b=some u->h'.get? b=some u)(hp:h.objs.size<=a)(hn:H a=none):Un fs ex H (upd H a o) h h' where
 keep:=fun b u q _ _ _=>k b u q
 slot:=fun b u q _ _ _=>⟨u.slots,k b u q⟩
 free:=fun b u q n _=>by rw[am (aM (cC (bb q) hp))];exact n
 there:=fun b u q _=>⟨u,k b u q⟩
 kQ:=fun b xs q=>by rw[am (ap q hn)];exact q
 mQ:=fun b u xs q=>by rw[am (ap q hn)];exact q
 mR:=fun b ps q=>⟨#[],by rw[am (ap q hn),q];simp⟩
theorem Un.write(mu:Qj (H x))(he:e=x\/H e=some (.own x))(k:∀b u,b≠e->h.get? b=some u->h'.get? b=some u)(Ln:∃u,h'.get? e=some u):Un fs ex H (upd H x o) h h':=by
 have hx:∀b,H b=none->b≠x:=fun b n z=>by subst z;rw[n] at mu;exact mu
 have hb:∀b,H b=none->b≠e:=fun b n z=>by
  subst z;rcases he with r|r
  .exact hx b n r
  .rw[n] at r;cases r
 have hm:∀b u,H b=some u->¬ Qj (some u)->b≠x:=fun b u q nm z=>by subst z;rw[q] at mu;exact nm mu
 refine⟨fun b u q n _ _=>k b u (hb b n) q,fun b u q n _ _=>⟨u.slots,k b u (hb b n) q⟩,fun b u q n _=>by rw[am (hx b n)];exact n,fun b u q _=>?_,
  fun b xs q=>by rw[am (hm b _ q fun z=>z)];exact q,fun b u xs q=>by rw[am (hm b _ q fun z=>z)];exact q,fun b ps q=>⟨#[],by rw[am (hm b _ q fun z=>z),q];simp⟩⟩
 by_cases EF:b=e
 .subst EF;exact Ln
 .exact⟨u,k b u EF q⟩
end
def Qk(h:Heap)(H:Hp):List Addr:=(List.range h.objs.size).filter fun a=>(H a).isSome
def qz(h:Heap)(H:Hp):Heap:=PySem.W.hideAll h (Qk h H)
theorem Af(h:Heap)(H:Hp):(qz h H).objs.size=h.objs.size:=PySem.W.hideAll_size _ _
theorem BZ(e:h.get? b=some o)(n:H b=none):(qz h H).get? b=some o:=
 PySem.W.hideAll_get _ e fun hm=>by
  have q:(H b).isSome=true:=(cg.mp hm).2;rw[n] at q;simp at q
theorem EU(e:(qz h H).get? b=some o):h.get? b=some o/\H b=none:=by
 have e':h.get? b=some o:=PySem.W.of_hideAll (Qk h H) e;refine⟨e',?_⟩;cases q:H b with
 |none=>rfl
 |some x=>
  have hm:b∈Qk h H:=cg.mpr ⟨bu.mpr (bb e'),by simp[q]⟩;have z:(qz h H).get? b=none:=PySem.W.hideAll_none (Qk h H) hm;rw[z] at e;cases e
def iE(g h:Heap)(L:Addr):List (Addr×Obj):=(List.range h.objs.size).filterMap fun a=>if a=L\/(g.get? a).isSome=true then none else (h.get? a).map fun o=>(a,o)
theorem jo(h1:a≠L)(h2:g.get? a=none)(h3:h.get? a=some o):(a,o)∈iE g h L:=
 mq.mpr ⟨a,bu.mpr (bb h3),by simp[h1,h2,h3]⟩
theorem pD(hp:p∈iE g h L):p.1≠L/\g.get? p.1=none/\h.get? p.1=some p.2:=by
 obtain⟨b,_,e⟩:=mq.mp hp;split at e
 .cases e
 .rename_i hn;cases q:h.get? b with
  |none=>rw[q] at e;simp at e
  |some u=>
   rw[q] at e;simp only[xh,Option.some.injEq] at e;subst e;refine⟨fun z=>hn (.inl z),?_,q⟩;show g.get? b=none;cases r:g.get? b with
   |none=>rfl
   |some v=>exact(hn (.inr (by simp[r]))).elim
theorem B0:News g L h (iE g h L):=fun p hp=>let ⟨a,b,c⟩:=pD hp;⟨c,a,b⟩
structure Mod(K:PySem.W.Frag)(mg:Str->Option Value)(base:Heap):Prop where
 Lp:K.In base
 glob:base.Ns mainGlobals mg
 blt:∃mb,base.Ns builtinsNs mb/\∀x:Str,x≠"__name__"->mb x=bootBuiltins x
 nolimit:base.NoLimit
structure Cx where
 prog:Program
 w:World
 K:PySem.W.Frag
 mg:Str->Option Value
 base:Heap
 A:Around
 N:List Str
 s₀:Shared
 H₀:Hp
 env:Env
 outer:List Env
 stack:List Env
 ex:List Addr
 fn:Str->Bool
 calm:Bool
 pn:List (Addr×Obj)
 xe:Value->Shared->Prop
def Ag(l:List Env):List Addr:=l.filterMap (·.frame)
abbrev Cx.fs(X:Cx):List Addr:=Ag X.outer
def Lq(sc:Scope)(x:Str):Prop:=sc.names.lookup x=some .local\/sc.names.lookup x=some .cell\/sc.names.lookup x=some .free
def Mg(sc:Scope)(x:Str):Prop:=sc.names.lookup x=some .local\/sc.names.lookup x=some .cell
def Ra(env:Env)(h:Heap)(m:Str->Option Value)(x:Str)(u:Value):Prop:=
 (env.kindOf x=some .local/\m x=some u)\/((env.kindOf x=some .cell\/env.kindOf x=some .free)/\∃c,env.cells.lookup x=some c/\h.IsCell c (some u))
structure Cx.Ok(X:Cx):Prop where
 mod:Mod X.K X.mg X.base
 kind:X.env.scope.kind=.function
 glob:X.env.globals=mainGlobals
 blt:X.env.builtins=builtinsNs
 above:X.s₀.heap.objs.size<=X.env.locals
 inj:∀x y c,X.env.cells.lookup x=some c->X.env.cells.lookup y=some c->x=y
 has:∀x,(X.env.kindOf x=some .cell\/X.env.kindOf x=some .free)->∃c,X.env.cells.lookup x=some c
 Lr:∀x c,X.fn x=true->X.env.cells.lookup x=some c->X.s₀.heap.objs.size<=c
 hd:X.calm=true->X.A.handled=none
 frames:X.A.frames=some X.stack
 Ls:X.stack=X.outer\/(X.stack=X.env::X.outer/\X.env.frame=some X.env.locals)
 Rb:∀b∈X.ex,b≠X.env.locals/\∀x c,X.env.cells.lookup x=some c->c≠b
 bs:∀b o,X.base.get? b=some o->X.s₀.heap.get? b=some o/\X.H₀ b=none
 Ah:X.base.objs.size<=X.s₀.heap.objs.size
 B1:∀b o,X.base.get? b=some o->b∉X.ex
 EV:∀b∈X.ex,b∉X.fs
 mT:X.s₀.heap.FunFrames X.base X.outer
 IJ:∀b∈X.fs,X.H₀ b=none
structure aE(X:Cx)(ae:List (Addr×Obj))(σ:List (Option V))(H:Hp)(s:Shared):Prop where
 ok:X.Ok
 os:s.os=X.s₀.os
 bare:AllBare s.gens
 base:Un X.fs X.ex X.H₀ H X.s₀.heap s.heap
 loc:∃m,s.heap.Ns X.env.locals m/\∀ (i:Nat) (x:Str) (v:V),X.N[i]?=some x->σ[i]?=some (some v)->Lq X.env.scope x->∃u,bw v u/\Ra X.env s.heap m x u
 cell:∀x c,X.env.cells.lookup x=some c->∃v,s.heap.IsCell c v
 free:H X.env.locals=none
 iV:∀x c,X.env.cells.lookup x=some c->H c=none
 pin:∀p∈X.pn++ae,s.heap.get? p.1=some p.2/\H p.1=none/\p.1≠X.env.locals/\p.1∉X.fs/\∀v,p.2.data≠.cell v
 bE:kP X.prog X.w H s.heap
 len:σ.length=X.N.length
section
variable {X:Cx} {ae:List (Addr×Obj)} {σ:List (Option V)} {H H':Hp} {s:Shared} {h':Heap}
theorem Cx.Ok.Rc(ok:X.Ok)(e:X.base.get? b=some o):b∉X.fs:=fun hb=>by
 have:=(ok.mT.mem hb).1;rw[e] at this;cases this
theorem aE.bs(I:aE X ae σ H s):∀b o,X.base.get? b=some o->s.heap.get? b=some o/\H b=none:=fun b o e=>
 ⟨I.base.keep b o (I.ok.bs b o e).1 (I.ok.bs b o e).2 (I.ok.Rc e) (I.ok.B1 b o e),I.base.free b o (I.ok.bs b o e).1 (I.ok.bs b o e).2 (I.ok.B1 b o e)⟩
theorem aE.bk(I:aE X ae σ H s):∀b o,X.base.get? b=some o->s.heap.get? b=some o:=fun b o e=>(I.bs b o e).1
theorem aE.mod(I:aE X ae σ H s):Mod X.K X.mg X.base:=I.ok.mod
theorem aE.kR(I:aE X ae σ H s):X.K.In s.heap:=I.ok.mod.Lp.keeps I.bk
theorem aE.nolimit(I:aE X ae σ H s):s.heap.NoLimit:=I.ok.mod.nolimit.keeps I.bk
theorem aE.fr(I:aE X ae σ H s):∃m,Fr X.base X.env.locals s.heap m:=
 let ⟨m,hn,_⟩:=I.loc
 ⟨m,hn,I.bk,aX I.ok.Ah I.ok.above⟩
theorem aE.lt(I:aE X ae σ H s):X.env.locals<s.heap.objs.size:=let ⟨_,hn,_⟩:=I.loc;hn.lt
theorem aE.sz(I:aE X ae σ H s):X.s₀.heap.objs.size<=s.heap.objs.size:=aX I.ok.above (iB I.lt)
theorem aE.Re(I:aE X ae σ H s)(h:s.heap.objs.size<=a):a∉X.fs:=fun hb=>by
 obtain⟨_,o,ho,_⟩:=I.ok.mT.mem hb;exact absurd (cC (bb ho) (aX I.sz h)) (iU _)
theorem aE.Ht(I:aE X ae σ H s):∀x c,X.env.cells.lookup x=some c->c≠X.env.locals:=fun x c e z=>by
 obtain⟨v,o,ho,hd⟩:=I.cell x c e;obtain⟨m,⟨o',es,ep,qA,Ai,_⟩,_⟩:=I.loc;rw[z,qA] at ho;cases ho;rw[Ai] at hd;cases hd
theorem aE.mT(I:aE X ae σ H s):s.heap.FunFrames X.base X.outer:=by
 have all:∀ (l:List Env),(∀b∈Ag l,b∈X.fs)->X.s₀.heap.FunFrames X.base l->s.heap.FunFrames X.base l:=by
  intro l;induction l with
  |nil=>intro _ _;trivial
  |cons env r ih=>
   intro hs hl;obtain⟨hk,⟨L,o,hf,hn,ho,hd⟩,hr⟩:=hl;have hL:L∈X.fs:=hs L (by unfold Ag;rw[wV,hf];exact cD);obtain⟨sl,e⟩:=I.base.slot L o ho (I.ok.IJ L hL) hL fun z=>I.ok.EV L z hL;exact⟨hk,⟨L,_,hf,hn,e,hd⟩,ih (fun b hb=>hs b (by unfold Ag;rw[wV,hf];exact bP _ hb)) hr⟩
 exact all X.outer (fun _ hb=>hb) I.ok.mT
theorem aE.stack(I:aE X ae σ H s):s.heap.FunFrames X.base X.stack:=by
 rcases I.ok.Ls with e|⟨e,hf⟩
 .rw[e];exact I.mT
 .rw[e];obtain⟨m,hn,_⟩:=I.loc;refine .cons (by rw[I.ok.kind];decide) hf hn ?_ I.mT;exact o0 (aX I.ok.Ah I.ok.above)
theorem aE.pE(I:aE X ae σ H s):∀b∈Ag X.stack,b∈X.env.locals::X.fs:=fun b hb=>by
 rcases I.ok.Ls with e|⟨e,hf⟩
 .rw[e] at hb;exact bP _ hb
 .rw[e] at hb;unfold Ag at hb;rw[wV,hf] at hb;exact hb
theorem aE.lD(I:aE X ae σ H s):∀b∈Ag X.stack,H b=none:=fun b hb=>by
 rcases aS.mp (I.pE b hb) with e|hb
 .rw[e];exact I.free
 .obtain⟨_,o,ho,_⟩:=I.ok.mT.mem hb;exact I.base.free b o ho (I.ok.IJ b hb) fun z=>I.ok.EV b z hb
theorem aE.step{g':Array GenState}{t':Nat}{d':Drawn}{ch:List Addr}(I:aE X ae σ H s)(EG:∀b∈ch,(b∈X.ex\/X.s₀.heap.objs.size<=b)/\b≠X.env.locals/\(∀x c,X.env.cells.lookup x=some c->c≠b)/\∀p∈X.pn++ae,p.1≠b)(keep:∀b o,b≠X.env.locals->b∉X.fs->b∉ch->s.heap.get? b=some o->H b=none->h'.get? b=some o)(slot:∀b o,b≠X.env.locals->b∈X.fs->b∉ch->s.heap.get? b=some o->H b=none->∃sl,h'.get? b=some { o with slots:=sl })(free:∀b o,b∉ch->s.heap.get? b=some o->H b=none->H' b=none)(there:∀b o,b∉ch->s.heap.get? b=some o->∃o',h'.get? b=some o')(kQ:∀b xs,H b=some (.tup xs)->H' b=some (.tup xs))(mQ:∀b o u,H b=some (.uJ o u)->H' b=some (.uJ o u))(mR:∀b ps,H b=some (.j8 ps)->∃more,H' b=some (.j8 (ps++more)))(ns:∀m,s.heap.Ns X.env.locals m->h'.Ns X.env.locals m)(bE:kP X.prog X.w H' h')(hg:AllBare g'):
  aE X ae σ H' { s with heap:=h',gens:=g',drawn:=d',toks:=t' }:=by
 have Ql:∀b o,X.s₀.heap.get? b=some o->b≠X.env.locals:=fun b o e=>aM (cC (bb e) I.ok.above);have Qm:∀b o,X.s₀.heap.get? b=some o->b∉X.ex->b∉ch:=fun b o e hx hb=>by
  rcases(EG b hb).1 with z|z
  .exact hx z
  .exact absurd (cC (bb e) z) (iU _)
 have Hu:∀x c,X.env.cells.lookup x=some c->∀v,s.heap.IsCell c v->h'.IsCell c v:=fun x c e v ⟨o,ho,hd⟩=>by
  have Mh:c∉ch:=fun z=>(EG c z).2.2.1 x c e rfl;by_cases hc:c∈X.fs
  .obtain⟨sl,q⟩:=slot c o (I.Ht x c e) hc Mh ho (I.iV x c e);exact⟨_,q,hd⟩
  .exact⟨o,keep c o (I.Ht x c e) hc Mh ho (I.iV x c e),hd⟩
 refine⟨I.ok,I.os,hg,⟨fun b o e n hb hx=>?_,fun b o e n hb hx=>?_,fun b o e n hx=>?_,fun b o e hx=>?_,fun b xs e=>kQ b xs (I.base.kQ b xs e),fun b o xs e=>mQ b o xs (I.base.mQ b o xs e),fun b ps e=>?_⟩,?_,fun x c e=>?_,?_,fun x c e=>?_,fun p hp=>?_,bE,I.len⟩
 .exact keep b o (Ql b o e) hb (Qm b o e hx) (I.base.keep b o e n hb hx) (I.base.free b o e n hx)
 .obtain⟨sl,e1⟩:=I.base.slot b o e n hb hx;obtain⟨Rf,e2⟩:=slot b _ (Ql b o e) hb (Qm b o e hx) e1 (I.base.free b o e n hx);exact⟨Rf,e2⟩
 .obtain⟨o',e1⟩:=I.base.there b o e hx;exact free b o' (Qm b o e hx) e1 (I.base.free b o e n hx)
 .obtain⟨o',e1⟩:=I.base.there b o e hx;exact there b o' (Qm b o e hx) e1
 .obtain⟨m1,e1⟩:=I.base.mR b ps e;obtain⟨m2,e2⟩:=mR b _ e1;exact⟨m1++m2,by rw[e2,Array.append_assoc]⟩
 .obtain⟨m,hn,hl⟩:=I.loc;refine⟨m,ns m hn,fun i x v e1 e2 e3=>?_⟩;obtain⟨u,r,l⟩:=hl i x v e1 e2 e3;refine⟨u,r,?_⟩;rcases l with l|⟨k,c,e,z⟩
  .exact .inl l
  .exact .inr ⟨k,c,e,Hu x c e _ z⟩
 .obtain⟨v,z⟩:=I.cell x c e;exact⟨v,Hu x c e v z⟩
 .obtain⟨m,⟨o,_,_,ho,_⟩,_⟩:=I.loc;exact free _ o (fun z=>(EG _ z).2.1 rfl) ho I.free
 .obtain⟨v,o,ho,hd⟩:=I.cell x c e;exact free c o (fun z=>(EG c z).2.2.1 x c e rfl) ho (I.iV x c e)
 .obtain⟨e,n,ne,nf,d⟩:=I.pin p hp;have Mh:p.1∉ch:=fun z=>(EG p.1 z).2.2.2 p hp rfl;exact⟨keep p.1 p.2 ne nf Mh e n,free p.1 p.2 Mh e n,ne,nf,d⟩
theorem aE.un{t':Nat}(I:aE X ae σ H s)(u:Un X.fs [] H H' s.heap h')(bE:kP X.prog X.w H' h'):aE X ae σ H' { s with heap:=h',toks:=t' }:=by
 obtain⟨m,⟨o,es,ep,ho,r⟩,_⟩:=id I.loc;obtain⟨sl,hL⟩:=u.any ho I.free (by simp);exact I.step (g':=s.gens) (d':=s.drawn) (ch:=[]) (fun _ z=>nomatch z) (fun b o _ hb _ e n=>u.keep b o e n hb (by simp)) (fun b o _ hb _ e n=>u.slot b o e n hb (by simp)) (fun b o _ e n=>u.free b o e n (by simp)) (fun b o _ e=>u.there b o e (by simp)) u.kQ u.mQ u.mR (fun m' hm=>by
  obtain⟨o',wg,Qn,qA,r'⟩:=hm;rw[ho] at qA;cases qA;exact⟨_,wg,Qn,hL,r'⟩) bE I.bare
theorem aE.call{g':Array GenState}{t':Nat}{d':Drawn}{ch:List Addr}(I:aE X ae σ H s)(u:Un (Ag X.stack) ch H H' s.heap h')(bE:kP X.prog X.w H' h')(hg:AllBare g')(EG:∀b∈ch,(b∈X.ex\/X.s₀.heap.objs.size<=b)/\b≠X.env.locals/\(∀x c,X.env.cells.lookup x=some c->c≠b)/\∀p∈X.pn++ae,p.1≠b):
  aE X ae σ H' { s with heap:=h',gens:=g',drawn:=d',toks:=t' }:=by
 obtain⟨m,⟨o,es,ep,ho,r⟩,_⟩:=id I.loc;obtain⟨sl,hL⟩:=u.any ho I.free fun z=>(EG _ z).2.1 rfl;exact I.step (ch:=ch) EG (fun b o hL hb hc e n=>u.keep b o e n (fun z=>(aS.mp (I.pE b z)).elim hL hb) hc) (fun b o _ _ hc e n=>u.any e n hc) (fun b o hc e n=>u.free b o e n hc) (fun b o hc e=>u.there b o e hc) u.kQ u.mQ u.mR (fun m' hm=>by
  obtain⟨o',wg,Qn,qA,r'⟩:=hm;rw[ho] at qA;cases qA;exact⟨_,wg,Qn,hL,r'⟩) bE hg
theorem aE.turned{t':Nat}{it:Addr}(I:aE X ae σ H s)(k:∀b o,b≠it->s.heap.get? b=some o->h'.get? b=some o)(hn:H it=none)(hL:it≠X.env.locals)(h1:it∈X.ex\/X.s₀.heap.objs.size<=it)(h2:∀x c,X.env.cells.lookup x=some c->c≠it)(h3:∀p∈X.pn++ae,p.1≠it):aE X ae σ H { s with heap:=h',toks:=t' }:=by
 have Hv:∀b u,H b=some u->b≠it:=fun b u e z=>by rw[z,hn] at e;cases e
 refine I.step (g':=s.gens) (d':=s.drawn) (ch:=[it]) (fun b hb=>?_) (fun b o _ _ hc e _=>k b o (fun z=>hc (by simp[z])) e) (fun b o _ _ hc e _=>⟨o.slots,k b o (fun z=>hc (by simp[z])) e⟩) (fun _ _ _ _ n=>n)
  (fun b o hc e=>⟨o,k b o (fun z=>hc (by simp[z])) e⟩) (fun _ _ e=>e) (fun _ _ _ e=>e) (fun b ps e=>⟨#[],by rw[e];simp⟩) (fun m hm=>?_) (fun b u e=>?_) I.bare
 .have e:b=it:=by simpa using hb
  subst e;exact⟨h1,hL,h2,h3⟩
 .obtain⟨o,es,ep,ho,r⟩:=hm;exact⟨o,es,ep,k _ o (dN hL) ho,r⟩
 .refine(I.bE b u e).lC (fun c v hc q=>k c v ?_ q) (fun _ q=>q) fun _ _ q=>q;rcases hc with z|z
  .rw[z];exact Hv b u e
  .exact Hv c _ z
theorem aE.tok(I:aE X ae σ H s)(t:Nat):aE X ae σ H { s with toks:=t }:=I.un (h':=s.heap) (t':=t) Un.refl I.bE
theorem aE.kept(I:aE X ae σ H s)(k:∀b u,s.heap.get? b=some u->h'.get? b=some u):aE X ae σ H { s with heap:=h',toks:=t' }:=I.un (Un.kept k) (I.bE.kept k)
theorem aE.laid(I:aE X ae σ H s)(k:∀b u,s.heap.get? b=some u->h'.get? b=some u)(hp:s.heap.objs.size<=a)(new:cK X.prog X.w (upd H a o) h' a o):
  aE X ae σ (upd H a o) { s with heap:=h',toks:=t' }:=I.un (Un.laid k hp (I.bE.fresh hp)) (I.bE.laid k hp new)
theorem aE.write(I:aE X ae σ H s)(mu:Qj (H x))(he:e=x\/H e=some (.own x))(k:∀b u,b≠e->s.heap.get? b=some u->h'.get? b=some u)(Ln:∃u,h'.get? e=some u)(new:cK X.prog X.w (upd H x o) h' x o):aE X ae σ (upd H x o) { s with heap:=h',toks:=t' }:=I.un (Un.write mu he k Ln) (I.bE.write mu he k Ln new)
theorem aE.lE(I:aE X ae σ H s)(h:∀p∈pins',s.heap.get? p.1=some p.2/\H p.1=none/\p.1≠X.env.locals/\p.1∉X.fs/\∀v,p.2.data≠.cell v):aE X pins' σ H s:=
 ⟨I.ok,I.os,I.bare,I.base,I.loc,I.cell,I.free,I.iV,fun p hp=>(cX.mp hp).elim (fun z=>I.pin p (hX _ z)) (h p),I.bE,I.len⟩
theorem uO{N:List Str}(hN:N.Nodup){i j:Nat}{x:Str}(a:N[i]?=some x)(b:N[j]?=some x):i=j:=by
 obtain⟨h1,e1⟩:=dS.mp a;obtain⟨h2,e2⟩:=dS.mp b;exact(List.getElem_inj hN).mp (e1.trans e2.symm)
theorem qQ{M:Model}{A:Around}{E:Value->Shared->Prop}{i:Nat}{x:Str}{v:V}{u:Value}{Q:Unit->Shared->Prop}(I:aE X ae σ H s)(hN:X.N.Nodup)(hi:X.N[i]?=some x)(hx:Mg X.env.scope x)(r:bw v u)(h:∀s',aE X ae (σ.set i (some v)) H s'->(∃a,Heap.SameBut a s.heap s'.heap/\(a=X.env.locals\/X.env.cells.lookup x=some a))->Q () s')(hf:X.fn x=true\/X.env.scope.names.lookup x=some .local:=by first|exact .inl rfl|exact .inr rfl|assumption):wpAny M A (storeName X.env x u) Q E s:=by
 obtain⟨m,hn,hl⟩:=id I.loc;have Rg:(X.env.scope.kind==.class||(X.env.scope.kind==.module&&X.env.locals != X.env.globals))=false:=by rw[I.ok.kind];rfl
 have hiσ:i<σ.length:=by rw[I.len];exact(dS.mp hi).1
 have Ht:=I.Ht;have yM:∀ {a:Addr} {h':Heap},(∃o,s.heap.get? a=some o/\H a=none)->Heap.SameBut a s.heap h'->kP X.prog X.w H h':=fun {a h'} ha hs b ob e=>by
  obtain⟨_,_,Hw⟩:=ha;refine(I.bE b ob e).lC (fun c w' hc q=>(hs.2 c ?_).trans q) (fun _ q=>q) fun _ _ q=>q;rintro rfl;rcases hc with rfl|hc
  .rw[Hw] at e;cases e
  .rw[Hw] at hc;cases hc
 rcases hx with hk|hk
 .refine wpAny_storeName_local hk hn (fun h' VW hs=>?_) Rg;obtain⟨oL,_,_,uP,_⟩:=id hn;refine h _ ⟨I.ok,I.os,I.bare,⟨fun b o e n hb hx=>?_,fun b o e n hb hx=>?_,I.base.free,fun b o e hx=>?_,I.base.kQ,I.base.mQ,I.base.mR⟩,⟨_,VW,fun j y v' e1 e2 e3=>?_⟩,fun y c e=>?_,I.free,I.iV,fun p hp=>?_,yM ⟨oL,uP,I.free⟩ hs,by simpa using I.len⟩ ⟨_,hs,.inl rfl⟩
  .exact(hs.2 b (aM (cC (bb e) I.ok.above))).trans (I.base.keep b o e n hb hx)
  .obtain⟨sl,e1⟩:=I.base.slot b o e n hb hx;exact⟨sl,(hs.2 b (aM (cC (bb e) I.ok.above))).trans e1⟩
  .obtain⟨o',e1⟩:=I.base.there b o e hx;exact⟨o',(hs.2 b (aM (cC (bb e) I.ok.above))).trans e1⟩
  .by_cases hj:j=i
   .subst hj;rw[hi] at e1;cases e1;rw[mi hiσ] at e2;cases e2;exact⟨u,r,.inl ⟨hk,by simp⟩⟩
   .rw[oY (dN hj)] at e2;obtain⟨u',r',q⟩:=hl j y v' e1 e2 e3;refine⟨u',r',?_⟩;rcases q with ⟨k,e⟩|⟨k,c,e,z⟩
    .refine .inl ⟨k,?_⟩;have:y≠x:=fun e=>hj (uO hN e1 (e ▸ hi));simp[this,e]
    .exact .inr ⟨k,c,e,z.sameBut hs (Ht y c e)⟩
  .obtain⟨w',z⟩:=I.cell y c e;exact⟨w',z.sameBut hs (Ht y c e)⟩
  .obtain⟨e,n,ne,nf,d⟩:=I.pin p hp;exact⟨(hs.2 p.1 ne).trans e,n,ne,nf,d⟩
 .have Mi:X.fn x=true:=by
   rcases hf with z|z
   .exact z
   .rw[z] at hk;cases hk
  obtain⟨c,hc⟩:=I.ok.has x (.inl hk);obtain⟨w',z⟩:=I.cell x c hc;refine wpAny_storeName_cell I.ok.kind hk hc z (fun h' Aj hs=>?_);obtain⟨oc,Qo,Rh⟩:=id z;refine h { s with heap:=h' } ⟨I.ok,I.os,I.bare,⟨fun b o e n hb hx=>?_,fun b o e n hb hx=>?_,I.base.free,fun b o e hx=>?_,I.base.kQ,I.base.mQ,I.base.mR⟩,⟨m,hn.sameBut hs (dN (Ht x c hc)),fun j y v' e1 e2 e3=>?_⟩,fun y c' e=>?_,I.free,I.iV,fun p hp=>?_,yM ⟨oc,Qo,I.iV x c hc⟩ hs,by simpa using I.len⟩ ⟨c,hs,.inr hc⟩
  .exact(hs.2 b (aM (cC (bb e) (I.ok.Lr x c Mi hc)))).trans (I.base.keep b o e n hb hx)
  .obtain⟨sl,e1⟩:=I.base.slot b o e n hb hx;exact⟨sl,(hs.2 b (aM (cC (bb e) (I.ok.Lr x c Mi hc)))).trans e1⟩
  .obtain⟨o',e1⟩:=I.base.there b o e hx;exact⟨o',(hs.2 b (aM (cC (bb e) (I.ok.Lr x c Mi hc)))).trans e1⟩
  .by_cases hj:j=i
   .subst hj;rw[hi] at e1;cases e1;rw[mi hiσ] at e2;cases e2;exact⟨u,r,.inr ⟨.inl hk,c,hc,Aj⟩⟩
   .rw[oY (dN hj)] at e2;obtain⟨u',r',q⟩:=hl j y v' e1 e2 e3;refine⟨u',r',?_⟩;rcases q with q|⟨k,c',e,z'⟩
    .exact .inl q
    .refine .inr ⟨k,c',e,z'.sameBut hs ?_⟩;rintro rfl;exact hj (uO hN e1 (I.ok.inj _ _ _ e hc ▸ hi))
  .by_cases VX:c'=c
   .subst VX;exact⟨_,Aj⟩
   .obtain⟨w2,z2⟩:=I.cell y c' e;exact⟨w2,z2.sameBut hs VX⟩
  .obtain⟨e,n,ne,nf,d⟩:=I.pin p hp;refine⟨(hs.2 p.1 ?_).trans e,n,ne,nf,d⟩;intro q;rw[q,Qo] at e;have q':oc=p.2:=a_ e;exact d w' (by rw[<-q'];exact Rh)
theorem jp(I:aE X ae σ H s)(hN:X.N.Nodup)(hi:X.N[i]?=some x)(hx:Mg X.env.scope x)(r:bw v u)(h:∀s',aE X ae (σ.set i (some v)) H s'->Q () s')(hf:X.fn x=true\/X.env.scope.names.lookup x=some .local:=by first|exact .inl rfl|exact .inr rfl|assumption):wpAny M A (storeName X.env x u) Q E s:=
 qQ I hN hi hx r (fun s' I' _=>h s' I') hf
theorem aE.B3(I:aE X ae σ H s)(ho:s'.os=s.os)(u:Un (Ag X.stack) ch H H' s.heap s'.heap)(bE:kP X.prog X.w H' s'.heap)(hg:AllBare s'.gens)(EG:∀b∈ch,(b∈X.ex\/X.s₀.heap.objs.size<=b)/\b≠X.env.locals/\(∀x c,X.env.cells.lookup x=some c->c≠b)/\∀p∈X.pn++ae,p.1≠b):aE X ae σ H' s':=by
 obtain⟨h',g',d',t',o'⟩:=s';have e:o'=s.os:=ho;subst e;exact I.call (g':=g') (t':=t') (d':=d') u bE hg EG
end
abbrev XK:=Value->Option Addr->Hp->Prop
abbrev St:=List (Option V)
abbrev VK:=V->Hp->Prop
abbrev TE:=St->Hp->VK->Prop
abbrev TT:=St->Hp->(Bool->Hp->Prop)->Prop
abbrev TA:=St->Hp->(List V->Hp->Prop)->Prop
structure sH where
 nx:St->Hp->Prop
 rt:VK
 bk:St->Hp->Prop:=fun _ _=>False
 ct:St->Hp->Prop:=fun _ _=>False
abbrev TS:=sH->St->Hp->Prop
def EP(X:Cx)(ae:List (Addr×Obj))(σ:St)(Q:VK)(u:Value)(s':Shared):Prop:=∃v H',aE X ae σ H' s'/\bw v u/\Q v H'
def TP(X:Cx)(ae:List (Addr×Obj))(σ:St)(Q:Bool->Hp->Prop)(b:Bool)(s':Shared):Prop:=∃H',aE X ae σ H' s'/\Q b H'
def AP(X:Cx)(ae:List (Addr×Obj))(σ:St)(Q:List V->Hp->Prop)(us:List Value)(s':Shared):Prop:=∃vs H',aE X ae σ H' s'/\aO vs us/\Q vs H'
def SP(X:Cx)(ae:List (Addr×Obj))(D:sH)(f:Flow)(s':Shared):Prop:=
 match f with
 |.next=>∃σ' H',aE X ae σ' H' s'/\D.nx σ' H'
 |.brk=>∃σ' H',aE X ae σ' H' s'/\D.bk σ' H'
 |.cont=>∃σ' H',aE X ae σ' H' s'/\D.ct σ' H'
 |.ret u=>∃v σ' H',aE X ae σ' H' s'/\bw v u/\D.rt v H'
def PE(X:Cx)(e:Expr)(t:TE):Prop:=
 ∀ (ae:List (Addr×Obj)) (s:Shared) (σ:St) (H:Hp) (Q:VK),aE X ae σ H s->t σ H Q->wpAny (model X.prog X.w) X.A (eval e X.env) (EP X ae σ Q) X.xe s
def PT(X:Cx)(e:Expr)(t:TT):Prop:=
 ∀ (ae:List (Addr×Obj)) (s:Shared) (σ:St) (H:Hp) (Q:Bool->Hp->Prop),aE X ae σ H s->t σ H Q->wpAny (model X.prog X.w) X.A (isTrue e X.env (eval e X.env)) (TP X ae σ Q) X.xe s
def PW(X:Cx)(e:Expr)(t:TT):Prop:=
 ∀ (pF:Sem Value) (ae:List (Addr×Obj)) (s:Shared) (σ:St) (H:Hp) (Q:Bool->Hp->Prop),aE X ae σ H s->t σ H Q->wpAny (model X.prog X.w) X.A (isTrue e X.env pF) (TP X ae σ Q) X.xe s
theorem PW.pt(h:PW X e t):PT X e t:=h _
def PA(X:Cx)(es:List Expr)(t:TA):Prop:=
 ∀ (pos:Pos) (ae:List (Addr×Obj)) (s:Shared) (σ:St) (H:Hp) (Q:List V->Hp->Prop),aE X ae σ H s->t σ H Q->wpAny (model X.prog X.w) X.A (spliced (backTo pos (starEach es X.env))) (AP X ae σ Q) X.xe s
def PS(X:Cx)(st:Stmt)(t:TS):Prop:=
 ∀ (ae:List (Addr×Obj)) (s:Shared) (σ:St) (H:Hp) (D:sH),aE X ae σ H s->t D σ H->wpAny (model X.prog X.w) X.A (exec st X.env) (SP X ae D) X.xe s
def xr(X:Cx)(st:List Stmt)(t:TS):Prop:=
 ∀ (ae:List (Addr×Obj)) (s:Shared) (σ:St) (H:Hp) (D:sH),aE X ae σ H s->t D σ H->wpAny (model X.prog X.w) X.A (execs st X.env) (SP X ae D) X.xe s
theorem cI(h:wpAny M A t Q E s)(hQ:∀a s,Q a s->Q' a s):wpAny M A t Q' E s:=gX h hQ fun _ _ x=>x
section
variable {X:Cx}
def bj(i:Nat):TE:=fun σ H Q=>∃v,σ[i]?=some (some v)/\Q v H
def tC(v:V):TE:=fun _ H Q=>Q v H
theorem IK(hN:X.N[i]?=some x)(hv:Lq X.env.scope x)(hd:(x==("__debug__":Str))=false:=by decide)(qR:(x==("__classdict__":Str))=false:=by decide):PE X (.Name x pos) (bj i):=by
 intro ae s σ H Q I h;obtain⟨v,e,h⟩:=h;obtain⟨m,hn,hl⟩:=I.loc;obtain⟨u,r,l⟩:=hl i x v hN e hv;have dU:EP X ae σ Q u s:=⟨v,H,I,r,h⟩
 rcases l with ⟨hk,hm⟩|⟨hk,c,hc,yN⟩
 .exact mL (wZ I.ok.kind hk hn hm dU) hd
 .rcases hk with hk|hk
  .exact mL (wpAny_loadName_cell I.ok.kind hk hc yN dU) hd
  .exact mL (xc I.ok.kind hk hc yN dU qR) hd
theorem aB{i j pos}:PE X (.Constant (.int i) j pos) (tC (.int i)):=fun _ _ _ H _ I h=>wpAny_Constant_int ⟨.int i,H,I.tok _,⟨_,rfl⟩,h⟩
theorem ii{b j pos}:PE X (.Constant (.bool b) j pos) (tC (.bl b)):=fun _ _ _ H _ I h=>Constant_bool ⟨.bl b,H,I,rfl,h⟩
theorem eO{j pos}:PE X (.Constant .none j pos) (tC .bD):=fun _ _ _ H _ I h=>Constant_none ⟨.bD,H,I,rfl,h⟩
def Gl(X:Cx)(x:Str):Prop:=X.env.kindOf x=some .globalImplicit
theorem lF(I:aE X ae σ H s)(hg:Gl X x)(hm:X.mg x=some u)(h:Q u s)(hd:(x==("__debug__":Str))=false:=by decide):wpAny (model X.prog X.w) X.A (eval (.Name x pos) X.env) Q E s:=
 Calls.Name_function_global I.ok.kind hg (Calls.loadGlobal_global (by rw[I.ok.glob];exact I.mod.glob.keeps I.bk) hm h) hd
theorem gZ(I:aE X ae σ H s)(hg:Gl X x)(hm:X.mg x=none)(hv:bootBuiltins x=some u)(h:Q u s)(hn:x≠"__name__":=by decide)(hd:(x==("__debug__":Str))=false:=by decide):wpAny (model X.prog X.w) X.A (eval (.Name x pos) X.env) Q E s:=by
 obtain⟨mb,h1,h2⟩:=I.mod.blt;exact Calls.Name_function_global I.ok.kind hg (Calls.loadGlobal_builtin (by rw[I.ok.glob];exact I.mod.glob.keeps I.bk) hm (by rw[I.ok.blt];exact h1.keeps I.bk) ((h2 x hn).trans hv) h) hd
theorem gJ(hg:Gl X x)(hm:X.mg x=some u)(r:bw v u)(hd:(x==("__debug__":Str))=false:=by decide):PE X (.Name x pos) (tC v):=
 fun _ _ _ H _ I h=>lF I hg hm ⟨v,H,I,r,h⟩ hd
theorem jM(hg:Gl X x)(hm:X.mg x=none)(hv:bootBuiltins x=some u)(r:bw v u)(hn:x≠"__name__":=by decide)(hd:(x==("__debug__":Str))=false:=by decide):PE X (.Name x pos) (tC v):=
 fun _ _ _ H _ I h=>gZ I hg hm hv ⟨v,H,I,r,h⟩ hn hd
variable {a b:Expr} {ta tb:TE} {pos:Pos}
def tB(t:TE):TT:=fun σ H Q=>t σ H fun x H1=>∃c,x=.bl c/\Q c H1
theorem fc(h:PE X e t)(he:∀pF,isTrue e X.env pF=(do let v <- pF;standAt e.pos;holding [v] (truthy v)):=by intro _;rfl):PT X e (tB t):=by
 intro ae s σ H Q I hw;refine isTrue_plain (cI (h ae s σ H _ I hw) fun v s1 ⟨x,H1,I1,r1,q1⟩=>?_) (he _);obtain⟨d,rfl,q⟩:=q1;cases r1;exact kJ ⟨H1,I1,q⟩
variable {tA Qp:TT} {rest:List Expr}
def Mj(t u:TT):TT:=fun σ H Q=>t σ H fun c H1=>if c=true then u σ H1 Q else Q false H1
def XO(t u:TT):TT:=fun σ H Q=>t σ H fun c H1=>if c=true then Q true H1 else u σ H1 Q
def Ri(t:TT):TT:=fun σ H Q=>t σ H fun c H1=>Q (!c) H1
theorem sI(ha:PT X a tA):PW X (.BoolOp .And [a] pos) tA:=by
 intro wh ae s σ H Q I h;refine isTrue_and (cI (ha ae s σ H Q I h) fun c s1 e=>?_);cases c with
 |true=>exact isTrue_and_nil e
 |false=>exact e
theorem sJ(ha:PT X a tA):PW X (.BoolOp .Or [a] pos) tA:=by
 intro wh ae s σ H Q I h;refine isTrue_or (cI (ha ae s σ H Q I h) fun c s1 e=>?_);cases c with
 |false=>exact isTrue_or_nil e
 |true=>exact e
theorem xt(ha:PT X a tA)(hb:PW X (.BoolOp .And (b::rest) pos) Qp):PW X (.BoolOp .And (a::b::rest) pos) (Mj tA Qp):=by
 intro wh ae s σ H Q I h;refine isTrue_and (cI (ha ae s σ H _ I h) fun c s1 ⟨H1,I1,q1⟩=>?_);cases c with
 |true=>exact hb wh ae s1 σ H1 Q I1 q1
 |false=>exact⟨H1,I1,q1⟩
theorem uQ(ha:PT X a tA)(hb:PW X (.BoolOp .Or (b::rest) pos) Qp):PW X (.BoolOp .Or (a::b::rest) pos) (XO tA Qp):=by
 intro wh ae s σ H Q I h;refine isTrue_or (cI (ha ae s σ H _ I h) fun c s1 ⟨H1,I1,q1⟩=>?_);cases c with
 |true=>exact⟨H1,I1,q1⟩
 |false=>exact hb wh ae s1 σ H1 Q I1 q1
theorem gc(ha:PT X a tA):PT X (.UnaryOp .Not a pos) (Ri tA):=by
 intro ae s σ H Q I h;exact isTrue_not (ha ae s σ H (fun c H1=>Q (!c) H1) I h)
def Ml(ta tb:TE):TE:=fun σ H Q=>ta σ H fun x H1=>∃c,x=.bl c/\if c=true then tb σ H1 Q else Q (.bl false) H1
def Mm(ta:TE):TE:=fun σ H Q=>ta σ H fun x H1=>∃c,x=.bl c/\Q (.bl (!c)) H1
theorem mU{op}(h:PE X a t):PE X (.BoolOp op [a] pos) t:=fun ae s σ H Q I hw=>BoolOp_one (h ae s σ H Q I hw)
theorem jq(ha:PE X a ta)(hb:PE X (.BoolOp .And (b::rest) pos) tb):PE X (.BoolOp .And (a::b::rest) pos) (Ml ta tb):=by
 intro ae s σ H Q I h;refine BoolOp_and (cI (ha ae s σ H _ I h) fun v s1 ⟨x,H1,I1,r1,q1⟩=>?_);obtain⟨c,rfl,q1⟩:=q1;cases r1;refine kJ ?_;cases c with
 |true=>exact hb ae s1 σ H1 Q I1 q1
 |false=>exact⟨.bl false,H1,I1,rfl,q1⟩
theorem IL(ha:PE X a ta):PE X (.UnaryOp .Not a pos) (Mm ta):=by
 intro ae s σ H Q I h;refine UnaryOp_ (cI (ha ae s σ H _ I h) fun v s1 ⟨x,H1,I1,r1,q1⟩=>?_);obtain⟨c,rfl,q1⟩:=q1;cases r1;exact not_of (kJ ⟨.bl (!c),H1,I1,rfl,q1⟩)
def Rj(t:TT)(ta tb:TE):TE:=fun σ H Q=>t σ H fun c H1=>if c=true then ta σ H1 Q else tb σ H1 Q
theorem uR(hc:PT X c tA)(ha:PE X a ta)(hb:PE X b tb):PE X (.IfExp c a b pos) (Rj tA ta tb):=by
 intro ae s σ H Q I h;refine wpAny_IfExp (cI (hc ae s σ H _ I h) fun d s1 ⟨H1,I1,q1⟩=>?_);cases d with
 |true=>exact ha ae s1 σ H1 Q I1 q1
 |false=>exact hb ae s1 σ H1 Q I1 q1
end
def ba(K:PySem.W.Frag)(H:Hp)(a:Addr)(xs:List V):Prop:=
 Rd H a (.lst xs)\/
  ∃ (o:Obj) (its:Array Value) (n:Nat),K.lookup a=some o/\o.cls=.type "list"/\o.dict=none/\o.data=.seq its n/\its.size<=sizeLine/\aO xs its.toList
def bW(K:PySem.W.Frag)(H:Hp)(a:Addr)(xs:List V):Prop:=
 Rd H a (.tup xs)\/
  ∃ (o:Obj) (its:Array Value) (n:Nat),K.lookup a=some o/\o.cls=.type "tuple"/\o.data=.seq its n/\its.size<=sizeLine/\aO xs its.toList
def Rk:Value->Option V
 |.none=>some .bD
 |.bool b=>some (.bl b)
 |.int i _=>some (.int i)
 |.str x _=>some (.str x)
 |.bytes b _=>some (.yL b)
 |.float b _=>some (.II b)
 |.ref a=>some (.ref a)
 |.type n=>some (.ty n)
 |_=>none
theorem bw.abs(r:bw x u):Rk u=some x:=by
 cases x with
 |bD=>cases r;rfl
 |bl _=>cases r;rfl
 |int _=>obtain⟨t,rfl⟩:=r;rfl
 |str _=>obtain⟨t,rfl⟩:=r;rfl
 |yL _=>obtain⟨t,rfl⟩:=r;rfl
 |II _=>obtain⟨t,rfl⟩:=r;rfl
 |ref _=>cases r;rfl
 |ty _=>cases r;rfl
theorem bw.inj(r:bw x u)(q:bw y u):x=y:=a_ (r.abs.symm.trans q.abs)
theorem aO.inj:∀ {xs ys:List V} {us:List Value},aO xs us->aO ys us->xs=ys
 |_,_,_,.nil,.nil=>rfl
 |_,_,_,.cons r t,.cons r' t'=>by rw[r.inj r',aO.inj t t']
section
variable {X:Cx} {ae:List (Addr×Obj)} {σ:St} {H:Hp} {s:Shared} {a:Addr} {xs ys:List V}
theorem ba.of{K:PySem.W.Frag}(h:H a=some (.lst xs)):ba K H a xs:=.inl (.inl h)
theorem bW.of{K:PySem.W.Frag}(h:H a=some (.tup xs)):bW K H a xs:=.inl (.inl h)
theorem aE.list(I:aE X ae σ H s)(h:ba X.K H a xs):∃its:List Value,aO xs its/\PlainL s.heap a its.toArray/\xs.length<=sizeLine:=by
 rcases h with h|⟨o,its,n,hk,hc,hd,hs,hz,r⟩
 .obtain⟨z,its,n,r,e⟩:=h.ok I.bE;exact⟨its,r,⟨_,n,e,rfl,rfl,rfl⟩,z⟩
 .refine⟨its.toList,r,⟨o,n,I.kR a o hk,hc,hd,by simpa using hs⟩,?_⟩;have e:=r.length;simp only[lx] at e;lia
theorem aE.tuple(I:aE X ae σ H s)(h:bW X.K H a xs):∃its:List Value,aO xs its/\IsTup s.heap a its.toArray/\xs.length<=sizeLine:=by
 rcases h with h|⟨o,its,n,hk,hc,hs,hz,r⟩
 .obtain⟨z,its,r,p⟩:=h.ok I.bE;exact⟨its,r,p.tup,z⟩
 .refine⟨its.toList,r,⟨o,I.kR a o hk,hc,n,by simpa using hs⟩,?_⟩;have e:=r.length;simp only[lx] at e;lia
theorem aE.uS(I:aE X ae σ H s)(h:ba X.K H a xs)(h':ba X.K H a ys):xs=ys:=by
 obtain⟨its,r,⟨o,n,e,_,_,d⟩,_⟩:=I.list h;obtain⟨its',r',⟨o',n',e',_,_,d'⟩,_⟩:=I.list h';rw[e] at e';cases e';rw[d] at d';injection d' with d1 _;have:its=its':=by simpa using congrArg Array.toList d1
 subst this;exact r.inj r'
theorem aE.eE(I:aE X ae σ H s)(h:bW X.K H a xs)(h':bW X.K H a ys):xs=ys:=by
 obtain⟨its,r,⟨o,e,_,n,d⟩,_⟩:=I.tuple h;obtain⟨its',r',⟨o',e',_,n',d'⟩,_⟩:=I.tuple h';rw[e] at e';cases e';rw[d] at d';injection d' with d1 _;have:its=its':=by simpa using congrArg Array.toList d1
 subst this;exact r.inj r'
end
abbrev Cx.qB(X:Cx)(E:Value->Shared->Prop):Cx:={ X with xe:=E }
abbrev Cx.EH(X:Cx):Cx:=X.qB fun _ _=>False
theorem Cx.Ok.qB{X:Cx}(ok:X.Ok)(E:Value->Shared->Prop):(X.qB E).Ok:=
 ⟨ok.mod,ok.kind,ok.glob,ok.blt,ok.above,ok.inj,ok.has,ok.Lr,ok.hd,ok.frames,ok.Ls,ok.Rb,ok.bs,ok.Ah,ok.B1,ok.EV,ok.mT,ok.IJ⟩
theorem Cx.Ok.jr{X:Cx}{E:Value->Shared->Prop}(ok:(X.qB E).Ok):X.Ok:=
 ⟨ok.mod,ok.kind,ok.glob,ok.blt,ok.above,ok.inj,ok.has,ok.Lr,ok.hd,ok.frames,ok.Ls,ok.Rb,ok.bs,ok.Ah,ok.B1,ok.EV,ok.mT,ok.IJ⟩
section
variable {X:Cx} {ae:List (Addr×Obj)} {σ:St} {H:Hp} {s:Shared} {E:Value->Shared->Prop}
theorem aE.qB(I:aE X ae σ H s)(E:Value->Shared->Prop):aE (X.qB E) ae σ H s:=⟨I.ok.qB E,I.os,I.bare,I.base,I.loc,I.cell,I.free,I.iV,I.pin,I.bE,I.len⟩
theorem aE.jr(I:aE (X.qB E) ae σ H s):aE X ae σ H s:=⟨I.ok.jr,I.os,I.bare,I.base,I.loc,I.cell,I.free,I.iV,I.pin,I.bE,I.len⟩
theorem SP.jr(h:SP (X.qB E) ae D f s'):SP X ae D f s':=by
 cases f with
 |next=>obtain⟨σ',H',I,q⟩:=h;exact⟨σ',H',I.jr,q⟩
 |brk=>obtain⟨σ',H',I,q⟩:=h;exact⟨σ',H',I.jr,q⟩
 |cont=>obtain⟨σ',H',I,q⟩:=h;exact⟨σ',H',I.jr,q⟩
 |ret u=>obtain⟨v,σ',H',I,r,q⟩:=h;exact⟨v,σ',H',I.jr,r,q⟩
theorem xr.EH{st:List Stmt}{t:TS}(h:xr X.EH st t):xr X st t:=fun ae s σ H D I hw=>
 gX (h ae s σ H D (I.qB _) hw) (fun _ _ q=>q.jr) fun _ _ z=>False.elim z
end
section
variable {X:Cx} {st:Stmt} {rest:List Stmt} {t u:TS} {e:Expr} {te:TE} {pos:Pos}
def Hx:TS:=fun D σ H=>D.nx σ H
def Mn(t u:TS):TS:=fun D σ H=>t { D with nx:=u D } σ H
theorem be:xr X [] Hx:=fun _ _ σ H _ I h=>sr ⟨σ,H,I,h⟩
theorem ah(h1:PS X st t)(h2:xr X rest u):xr X (st::rest) (Mn t u):=by
 intro ae s σ H D I h;refine wpAny_execs_cons (cI (h1 ae s σ H { D with nx:=u D } I h) fun f s1 q=>?_);cases f with
 |next=>
  obtain⟨σ',H',I',q⟩:=q;exact h2 ae s1 σ' H' D I' q
 |ret v=>exact q
 |brk=>exact q
 |cont=>exact q
theorem aq(h1:PS X st t):xr X [st] t:=by
 intro ae s σ H D I h;refine wpAny_execs_cons (cI (h1 ae s σ H D I h) fun f s1 q=>?_);cases f with
 |next=>exact sr q
 |ret v=>exact q
 |brk=>exact q
 |cont=>exact q
theorem EW:PS X (.Pass pos) Hx:=fun _ _ σ H _ I h=>wpAny_Pass ⟨σ,H,I,h⟩
theorem aE.quiet(I:aE X ae σ H s):interactive X.env=false:=by simp[interactive,I.ok.kind]
def Mo(te:TE):TS:=fun D σ H=>te σ H fun _ H1=>D.nx σ H1
theorem cu(he:PE X e te)(hs:swapsWith e none pos.line X.env=pure false:=by rfl):PS X (.Expr e pos) (Mo te):=by
 intro ae s σ H D I h;exact wpAny_Expr_any (cI (he ae s σ H _ I h) fun v s1 ⟨x,H1,I1,r1,q1⟩=>⟨σ,H1,I1,q1⟩) I.quiet hs
def Rl(te:TE):TS:=fun D σ H=>te σ H D.rt
theorem aP(he:PE X e te):PS X (.Return (some e) pos) (Rl te):=by
 intro ae s σ H D I h;exact wpAny_Return_some (cI (he ae s σ H _ I h) fun v s1 ⟨x,H1,I1,r1,q1⟩=>⟨x,σ,H1,I1,r1,q1⟩)
def Rm(c:TT)(t u:TS):TS:=fun D σ H=>c σ H fun b H1=>if b=true then t D σ H1 else u D σ H1
theorem cr(hc:PT X c tc)(ha:xr X a t)(hb:xr X b u):PS X (.If c a b pos) (Rm tc t u):=by
 intro ae s σ H D I h;refine wpAny_If (cI (hc ae s σ H _ I h) fun d s1 ⟨H1,I1,q1⟩=>?_);cases d with
 |true=>exact ha ae s1 σ H1 D I1 q1
 |false=>exact hb ae s1 σ H1 D I1 q1
def IM:TS:=fun _ _ _=>False
theorem cp:xr X sts IM:=fun _ _ _ _ _ _ h=>h.elim
end
abbrev TG:=V->St->Hp->(St->Hp->Prop)->Prop
abbrev Mp:=List V->St->Hp->(St->Hp->Prop)->Prop
def PG(X:Cx)(IN:Expr)(t:TG):Prop:=
 ∀ (ae:List (Addr×Obj)) (s:Shared) (σ:St) (H:Hp) (v:V) (u:Value) (Q:St->Hp->Prop),aE X ae σ H s->bw v u->t v σ H Q->
  wpAny (model X.prog X.w) X.A (assign IN X.env u) (fun _ s'=>∃σ' H',aE X ae σ' H' s'/\Q σ' H') X.xe s
def Qq(X:Cx)(ts:List Expr)(t:Mp):Prop:=
 ∀ (ae:List (Addr×Obj)) (s:Shared) (σ:St) (H:Hp) (vs:List V) (us:List Value) (Q:St->Hp->Prop),aE X ae σ H s->aO vs us->t vs σ H Q->
  wpAny (model X.prog X.w) X.A (assignInOrder ((assignEach ts X.env).map (·.2)) us) (fun _ s'=>∃σ' H',aE X ae σ' H' s'/\Q σ' H') X.xe s
abbrev Mq:=V->V->V->Hp->(Hp->Prop)->Prop
def Mr(X:Cx)(t:Mq):Prop:=
 ∀ (ae:List (Addr×Obj)) (s:Shared) (σ:St) (H:Hp) (o i v:V) (ov iv u:Value) (Q:Hp->Prop),aE X ae σ H s->bw o ov->bw i iv->bw v u->t o i v H Q->
  wpAny (model X.prog X.w) X.A (setItem ov iv u) (fun _ s'=>∃H',aE X ae σ H' s'/\Q H') X.xe s
abbrev Rn:=V->V->Hp->VK->Prop
def Ro(X:Cx)(op:Operator)(t:Rn):Prop:=
 ∀ (ae:List (Addr×Obj)) (s:Shared) (σ:St) (H:Hp) (x y:V) (v u:Value) (Q:VK),aE X ae σ H s->bw x v->bw y u->t x y H Q->
  wpAny (model X.prog X.w) X.A (inplaceOp op v u) (EP X ae σ Q) X.xe s
section
variable {X:Cx} {pos:Pos}
def bQ(i:Nat):TG:=fun v σ H Q=>Q (σ.set i (some v)) H
theorem av(hN:X.N.Nodup)(hi:X.N[i]?=some x)(hx:Mg X.env.scope x)(hf:X.fn x=true\/X.env.scope.names.lookup x=some .local:=by first|exact .inl rfl|exact .inr rfl|assumption):PG X (.Name x pos) (bQ i):=by
 intro ae s σ H v u Q I r h;exact wpAny_assign_Name (jp I hN hi hx r (fun s' I'=>⟨_,H,I',h⟩) hf)
def pG:Mp:=fun vs σ H Q=>vs=[]/\Q σ H
def dW(t:TG)(u:Mp):Mp:=fun vs σ H Q=>∃v r,vs=v::r/\t v σ H fun σ' H'=>u r σ' H' Q
theorem cL:Qq X [] pG:=by
 intro ae s σ H vs us Q I r h;obtain⟨e,h⟩:=h;subst e;cases r;exact assignInOrder_nil ⟨σ,H,I,h⟩
theorem aN(h1:PG X e t)(h2:Qq X es u)(hs:(assignEach (e::es) X.env).map (·.2)=assign e X.env::(assignEach es X.env).map (·.2):=by rfl):Qq X (e::es) (dW t u):=by
 intro ae s σ H vs us Q I r h;obtain⟨v,vr,e1,h⟩:=h;subst e1;cases r with
 |cons r rr=>
  rw[hs];refine assignInOrder_cons (cI (h1 ae s σ H _ _ _ I r h) fun _ s1 ⟨σ1,H1,I1,q1⟩=>?_);exact h2 ae s1 σ1 H1 _ _ Q I1 rr q1
def pH(K:PySem.W.Frag)(n:Nat)(t:Mp):TG:=fun v σ H Q=>∃a xs,v=.ref a/\bW K H a xs/\xs.length=n/\t xs σ H Q
theorem dO(hc:X.calm=true)(h:Qq X es t)(hn:(assignEach es X.env).length=n:=by rfl)(lG:(assignEach es X.env).findIdx? (·.1)=none:=by rfl):PG X (.Tuple es k pos) (pH X.K n t):=by
 intro ae s σ H v u Q I r hw;obtain⟨a,xs,e1,hq,hl,hw⟩:=hw;subst e1;cases r;obtain⟨its,rv,ht,hz⟩:=I.tuple hq;refine assign_Tuple_tuple (I.ok.hd hc) ht (by simp[hn,<-hl,rv.length]) lG fun h' hx=>?_;have I1:aE X ae σ H { s with heap:=h' }:=I.kept (t':=s.toks) fun b o e=>hx b o (aM (bb e)) e;exact h ae _ σ H xs _ Q I1 (by simpa using rv) hw
def Rp(to ti:TE)(t:Mq):TG:=fun v σ H Q=>to σ H fun o H1=>ti σ H1 fun i H2=>t o i v H2 fun H3=>Q σ H3
theorem mV(ho:PE X o to)(hi:PE X i ti)(hs:Mr X t)(ha:∀v,assign (.Subscript o i pos) X.env v=(do
   let ov <- holding [v] (eval o X.env)
   let iv <- holding [v,ov] (eval i X.env)
   standAt pos
   holding [v,ov,iv] (setItem ov iv v)
   release [v,ov,iv] []):=by intro _;rfl):PG X (.Subscript o i pos) (Rp to ti t):=by
 intro ae s σ H v u Q I r h;rw[ha];refine ak (f9 (cI (ho ae s σ H _ I h) fun ov s1 ⟨x,H1,I1,r1,q1⟩=>?_));refine ak (f9 (cI (hi ae s1 σ H1 _ I1 q1) fun iv s2 ⟨y,H2,I2,r2,q2⟩=>?_));refine ak (mI (ak (f9 (cI (hs ae s2 σ H2 x y v ov iv u _ I2 r1 r2 r q2) fun _ s3 ⟨H3,I3,q3⟩=>?_))));exact wpAny_release ⟨σ,H3,I3,q3⟩
def IP(te:TE)(g:TG):TS:=fun D σ H=>te σ H fun x H1=>g x σ H1 D.nx
theorem g7(he:PE X e te)(hg:PG X tg g)(hs:swapsWithSole [tg] e pos.line X.env=pure false:=by rfl)(hw:swappedStores [tg] e X.env=pure none:=by rfl)(h1:(assignEach [tg] X.env).map (·.2)=[assign tg X.env]:=by rfl):PS X (.Assign [tg] e pos) (IP te g):=by
 intro ae s σ H D I h;refine wpAny_Assign_stores (cI (he ae s σ H _ I h) fun v s1 ⟨x,H1,I1,r1,q1⟩=>?_) hs hw;rw[h1];exact cI (hg ae s1 σ H1 x v _ I1 r1 q1) fun _ s2 q=>q
theorem aY(hN:X.N.Nodup)(hi:X.N[i]?=some x)(hx:Mg X.env.scope x)(he:PE X e te)(hs:swapsWith e (some (.Name x Ak)) pos.line X.env=pure false:=by rfl)(hf:X.fn x=true\/X.env.scope.names.lookup x=some .local:=by first|exact .inl rfl|exact .inr rfl|assumption):
  PS X (.Assign [.Name x Ak] e pos) (IP te (bQ i)):=by
 intro ae s σ H D I h;refine wpAny_Assign_Name (cI (he ae s σ H _ I h) fun v s1 ⟨y,H1,I1,r1,q1⟩=>?_) hs;exact jp I1 hN hi hx r1 (fun s2 I2=>⟨_,H1,I2,q1⟩) hf
def Rq(i j:Nat)(ta:TA):TS:=fun D σ H=>ta σ H fun vs H1=>∃v w,vs=[v,w]/\D.nx ((σ.set i (some v)).set j (some w)) H1
theorem IQ{kt k2 EX}(hc:X.calm=true)(hN:X.N.Nodup)(hi:X.N[i]?=some x)(hj:X.N[j]?=some y)(Bx:i≠j)(hx:X.env.scope.names.lookup x=some .local)(hy:X.env.scope.names.lookup y=some .local)(ha:PA X [a,b] ta)(hw:swappedStores [.Tuple [.Name x px,.Name y py] kt pt] (.Tuple [a,b] k2 EX) X.env=pure (some [x,y]))(hs:swapsWithSole [.Tuple [.Name x px,.Name y py] kt pt] (.Tuple [a,b] k2 EX) pos.line X.env=pure false:=by rfl):
  PS X (.Assign [.Tuple [.Name x px,.Name y py] kt pt] (.Tuple [a,b] k2 EX) pos) (Rq i j ta):=by
 intro ae s σ H D I h;rw[exec_Assign_arm];refine ak (mI ?_);rw[hs];refine ak (wpAny_pure ?_);rw[aj (by decide)];refine ak (Tuple_ (cI (ha _ ae s σ H _ I h) fun us s1 ⟨vs,H1,I1,r1,q1⟩=>?_));obtain⟨v,w,e1,q1⟩:=q1;subst e1;obtain⟨u1,u2,rfl,rv,uT⟩:∃u1 u2,us=[u1,u2]/\bw v u1/\bw w u2:=by
  cases r1 with
  |cons p q=>
   cases q with
   |cons p' q'=>
    cases q';exact⟨_,_,rfl,p,p'⟩
 refine ph ?_ (by show 2<=sizeLine;decide);have I2:aE X ae σ H1 { s1 with heap:=s1.heap.push { cls:=.type "tuple",data:=.seq [u1,u2].toArray } }:=I1.kept (t':=s1.toks) fun b o e=>bv _ e;rw[hw];refine ak (wpAny_pure ?_);show wpAny (model X.prog X.w) X.A (do rule "assign.swapped-stores";let items <- unpackItems (.ref s1.heap.objs.size) 2 none;assignInOrder [fun v=>bindName X.env y v,fun v=>bindName X.env x v] items.reverse;pure Flow.next) _ _ _;refine ak (dJ (ak (unpackItems_tuple (items:=#[u1,u2]) (I.ok.hd hc) (IsTup.new s1.heap _) fun h' qC=>?_)));have I3:=I2.kept (h':=h') (t':=s1.toks) fun b o e=>qC b o (aM (bb e)) e;show wpAny _ _ (assignInOrder [fun v=>bindName X.env y v,fun v=>bindName X.env x v] [u2,u1] >>= fun _=>pure Flow.next) _ _ _;refine ak (assignInOrder_cons (wpAny_bindName (jp I3 hN hj (.inl hy) uT (fun s2 I4=>?_) (.inr hy))));refine assignInOrder_cons (wpAny_bindName (jp I4 hN hi (.inl hx) rv (fun s3 I5=>assignInOrder_nil (wpAny_pure ?_)) (.inr hx)));rw[List.set_comm _ _ (dN Bx)] at I5;exact⟨_,H1,I5,q1⟩
def Rr(i:Nat)(te:TE)(ti:Rn):TS:=fun D σ H=>∃x,σ[i]?=some (some x)/\te σ H fun y H1=>ti x y H1 fun z H2=>D.nx (σ.set i (some z)) H2
theorem xu(hN:X.N.Nodup)(hi:X.N[i]?=some x)(hx:Mg X.env.scope x)(he:PE X e te)(ho:Ro X op ti)(hf:X.fn x=true\/X.env.scope.names.lookup x=some .local:=by first|exact .inl rfl|exact .inr rfl|assumption):
  PS X (.AugAssign (.Name x Ak) op e pos) (Rr i te ti):=by
 intro ae s σ H D I h;obtain⟨v,e1,h⟩:=h;obtain⟨m,hn,hl⟩:=I.loc;have Ms:Lq X.env.scope x:=by rcases hx with k|k;exact .inl k;exact .inr (.inl k)
 obtain⟨u,r,l⟩:=hl i x v hi e1 Ms;refine wpAny_AugAssign_Name ?_;have go:wpAny (model X.prog X.w) X.A (eval e X.env) (fun w s₂=>wpAny (model X.prog X.w) X.A (inplaceOp op u w) (fun r s₃=>wpAny (model X.prog X.w) X.A (storeName X.env x r) (fun _=>SP X ae D .next) X.xe s₃) X.xe s₂) X.xe s:=by
  refine cI (he ae s σ H _ I h) fun w s1 ⟨y,H1,I1,r1,q1⟩=>?_;refine cI (ho ae s1 σ H1 v y u w _ I1 r r1 q1) fun z s2 ⟨zv,H2,I2,r2,q2⟩=>?_;exact jp I2 hN hi hx r2 (fun s3 I3=>⟨_,H2,I3,q2⟩) hf
 rcases l with ⟨hk,hm⟩|⟨hk,c,hc,yN⟩
 .exact wZ I.ok.kind hk hn hm go
 .rcases hk with hk|hk
  .exact wpAny_loadName_cell I.ok.kind hk hc yN go
  .rcases hx with k|k
   .have:X.env.scope.names.lookup x=some .free:=hk;rw[k] at this;cases this
   .have:X.env.scope.names.lookup x=some .free:=hk;rw[k] at this;cases this
def XQ(f:Int->Int->Int):Rn:=fun x y H Q=>∃i j,x=.int i/\y=.int j/\Q (.int (f i j)) H
theorem IR:Ro X .Add (XQ fun i j=>i+j):=by
 intro ae s σ H x y v u Q I r1 r2 h;obtain⟨i,j,e1,e2,q⟩:=h;subst e1;subst e2;obtain⟨t,rfl⟩:=r1;obtain⟨t',rfl⟩:=r2;exact iadd_int ⟨.int _,H,I.tok _,⟨_,rfl⟩,q⟩
def B4(c:TT)(tb:TS):TS:=fun D σ H=>∃W:Nat->St->Hp->Prop,(∃m,W m σ H)/\∀m σ H,W m σ H->
 c σ H fun b H1=>if b=true then ∃N:St->Hp->Prop,(∀σ' H',N σ' H'->∃m',m'<m/\W m' σ' H')/\tb { D with nx:=N,ct:=N,bk:=D.nx } σ H1 else D.nx σ H1
theorem uU(hp:PassesOwn (model X.prog X.w) X.A X.env X.xe)(hc:PT X c tc)(hb:xr X body tb):PS X (.While c body [] pos) (B4 tc tb):=by
 intro ae s σ H D I h;obtain⟨W,⟨m0,w0⟩,B5⟩:=h;refine wpAny_While (codeAny_whileLoop (fun n s'=>∃σ' H',aE X ae σ' H' s'/\W n σ' H') ?_ m0 ⟨σ,H,I,w0⟩);rintro n s1 ⟨σ1,H1,I1,w1⟩;refine kM hp (cI (hc ae s1 σ1 H1 _ I1 (B5 n σ1 H1 w1)) fun b s2 ⟨H2,I2,q2⟩=>?_);cases b with
 |true=>
  obtain⟨N,hN,q2⟩:=q2;rw[ao rfl];refine kM hp (cI (hb ae s2 σ1 H2 _ I2 q2) fun f s3 q3=>?_);cases f with
  |next=>
   obtain⟨σ3,H3,I3,n3⟩:=q3;obtain⟨m',hm,w3⟩:=hN σ3 H3 n3;exact⟨m',hm,σ3,H3,I3,w3⟩
  |cont=>
   obtain⟨σ3,H3,I3,n3⟩:=q3;obtain⟨m',hm,w3⟩:=hN σ3 H3 n3;exact⟨m',hm,σ3,H3,I3,w3⟩
  |brk=>exact q3
  |ret v=>exact q3
 |false=>
  rw[aj bX];exact sr ⟨σ1,H2,I2,q2⟩
end
structure It where
 go:Nat->Hp->Prop
 Hy:Nat->Hp->V->Hp->Prop
 stop:Nat->Hp->Prop
def eG(X:Cx)(ae:List (Addr×Obj))(H:Hp)(b:Addr):Prop:=
 H b=none/\b≠X.env.locals/\b∉X.fs/\(b∈X.ex\/X.s₀.heap.objs.size<=b)/\(∀x c,X.env.cells.lookup x=some c->c≠b)/\∀p∈X.pn++ae,p.1≠b
theorem aE.qD(I:aE X ae σ H s)(hb:s.heap.objs.size<=b)(hn:H' b=none):eG X ae H' b:=by
 refine⟨hn,ig (cC I.lt hb),I.Re hb,.inr (aX I.sz hb),fun x c e z=>?_,fun p hp z=>?_⟩
 .obtain⟨v,q⟩:=I.cell x c e;exact absurd (cC q.lt (by rw[z];exact hb)) (iU _)
 .exact absurd (cC (bb (I.pin p hp).1) (by rw[z];exact hb)) (iU _)
structure qE(P:Program)(w:World)(K:PySem.W.Frag)(tg:Expr)(J:It)(fp:List Addr)(it:Addr)(tn:Nat->Heap->Prop):Prop where
 mem:it∈fp
 obj:∀i h,tn i h->∀b∈fp,∃o,h.get? b=some o/\∀v,o.data≠.cell v
 keep:∀i h h',tn i h->(∀b∈fp,∀o,h.get? b=some o->h'.get? b=some o)->tn i h'
 item:∀ (X:Cx),X.prog=P->X.w=w->X.K=K->X.calm=true->∀ (i:Nat) (ae:List (Addr×Obj)) (s:Shared) (σ:St) (H:Hp) (E:Value->Shared->Prop),aE X ae σ H s->(∀b∈fp,eG X ae H b)->tn i s.heap->J.go i H->
  wpAny (model P w) X.A (pyNext (.ref it)) (fun r s1=>∃u,r=some u/\
   wpAny (model P w) X.A (letOwnedTupleGo tg (.ref it) u) (fun _ s2=>∃x H',aE X ae σ H' s2/\bw x u/\J.Hy i H x H'/\tn (i+1) s2.heap/\∀b∈fp,H' b=none) E s1) E s
 done:∀ (X:Cx),X.prog=P->X.w=w->X.K=K->X.calm=true->∀ (i:Nat) (ae:List (Addr×Obj)) (s:Shared) (σ:St) (H:Hp) (E:Value->Shared->Prop),aE X ae σ H s->(∀b∈fp,eG X ae H b)->tn i s.heap->J.stop i H->
  wpAny (model P w) X.A (pyNext (.ref it)) (fun r s1=>r=none/\aE X ae σ H s1) E s
 self:∀ (A:Around) (i:Nat) (s:Shared) (Q:Value->Shared->Prop) (E:Value->Shared->Prop),tn i s.heap->Q (.ref it) s->wpAny (model P w) A (pyIter (.ref it)) Q E s
abbrev TI:=St->Hp->(It->Hp->Prop)->Prop
def VY(X:Cx)(ae:List (Addr×Obj))(σ:St)(tg:Expr)(R:It->Hp->Prop)(Qr:Value)(s2:Shared):Prop:=
 ∃ (it:Addr) (fp:List Addr) (tn:Nat->Heap->Prop) (J:It) (H':Hp),Qr=.ref it/\aE X ae σ H' s2/\qE X.prog X.w X.K tg J fp it tn/\tn 0 s2.heap/\(∀b∈fp,eG X ae H' b)/\R J H'
def PI(X:Cx)(tg iY:Expr)(wi:TI):Prop:=
 ∀ (ae:List (Addr×Obj)) (s:Shared) (σ:St) (H:Hp) (R:It->Hp->Prop),aE X ae σ H s->wi σ H R->
  wpAny (model X.prog X.w) X.A (eval iY X.env) (fun v s1=>wpAny (model X.prog X.w) X.A (pyIter v) (VY X ae σ tg R) X.xe s1) X.xe s
theorem B6(ho:s.heap.get? it=some o)(hc:o.cls=.type n)(hd:o.data=.fields vs)(hn:["enumerate","zip","dict_itemiterator","dict_reverseitemiterator","odict_iterator","itertools.zip_longest","itertools.pairwise"].contains n=false)(hQ:Q () s):wpAny M A (letOwnedTupleGo tg (.ref it) u) Q E s:=by
 unfold letOwnedTupleGo;cases tg <;> first
  |exact wpAny_pure hQ
  |(cases u <;> first
    |exact wpAny_pure hQ
    |(refine ak (wpAny_load ho ?_);rw[hc,hd];show wpAny M A (if (["enumerate","zip","dict_itemiterator","dict_reverseitemiterator","odict_iterator","itertools.zip_longest","itertools.pairwise"].contains n&&vs[0]?==some (rawInt _))=true then _ else _) Q E s;rw[aj (by intro h;rw[hn,Bool.false_and] at h;cases h)];exact wpAny_pure hQ))
def EY(K:PySem.W.Frag)(a:Addr):It:=
 ⟨fun i H=>∃xs x,ba K H a xs/\xs[i]?=some x,fun i H x H'=>H'=H/\∀xs,ba K H a xs->xs[i]?=some x,fun i H=>∃xs,ba K H a xs/\xs.length<=i⟩
def Lu(K:PySem.W.Frag)(a:Addr):It:=
 ⟨fun i H=>∃xs x,bW K H a xs/\xs[i]?=some x,fun i H x H'=>H'=H/\∀xs,bW K H a xs->xs[i]?=some x,fun i H=>∃xs,bW K H a xs/\xs.length<=i⟩
def EZ(lo:Int)(n:Nat):It:=⟨fun i _=>i<n,fun i H x H'=>H'=H/\x=.int (lo+i),fun i _=>n<=i⟩
theorem Al{P:Program}{w:World}{K:PySem.W.Frag}{tg:Expr}(a it:Addr):qE P w K tg (EY K a) [it] it (fun i h=>h.IsListIter it a i) where
 mem:=by simp
 obj:=fun i h st b hb=>by
  have e:b=it:=by simpa using hb
  subst e;obtain⟨o,e,c,d⟩:=st;exact⟨o,e,fun v z=>by rw[d] at z;cases z⟩
 keep:=fun i h h' st k=>st.at fun o e=>k it (by simp) o e
 item:=by
  intro X hP hw hK hc i ae s σ H E I hf st hg;subst hP hw hK;obtain⟨xs,x,hq,hx⟩:=hg;obtain⟨its,rv,p,hz⟩:=I.list hq;obtain⟨u,hu,ru⟩:=rv.get hx;obtain⟨f0,f1,f2,f3,f4,f5⟩:=hf it (by simp);refine wpAny_pyNext_list_item st p.isList (x:=u) (by simpa using hu) fun h' aw sb=>?_;have I1:aE X ae σ H { s with heap:=h' }:=I.turned (t':=s.toks) (fun b o hb e=>(sb.2 b hb).trans e) f0 f1 f3 f4 f5;obtain⟨o,e,c,d⟩:=id aw;exact⟨u,rfl,B6 (s:={ s with heap:=h' }) e c d (by decide) ⟨x,H,I1,ru,⟨rfl,fun ys hy=>by rw[I.uS hy hq];exact hx⟩,aw,fun b hb=>(hf b hb).1⟩⟩
 done:=by
  intro X hP hw hK hc i ae s σ H E I hf st hg;subst hP hw hK;obtain⟨xs,hq,hx⟩:=hg;obtain⟨its,rv,p,hz⟩:=I.list hq;obtain⟨f0,f1,f2,f3,f4,f5⟩:=hf it (by simp);have hl:=rv.length;exact wpAny_pyNext_list_end (I.ok.hd hc) st p.isList (by simp;lia) fun h' eb=>⟨rfl,I.turned (t':=s.toks) (fun b o hb e=>eb b o hb e) f0 f1 f3 f4 f5⟩
 self:=fun _ _ _ _ _ st h=>wpAny_pyIter_listiter st h
theorem xv{P:Program}{w:World}{K:PySem.W.Frag}{tg:Expr}(a it:Addr):qE P w K tg (Lu K a) [it] it (fun i h=>h.IsTupleIter it a i) where
 mem:=by simp
 obj:=fun i h st b hb=>by
  have e:b=it:=by simpa using hb
  subst e;obtain⟨o,e,c,d⟩:=st;exact⟨o,e,fun v z=>by rw[d] at z;cases z⟩
 keep:=fun i h h' st k=>st.at fun o e=>k it (by simp) o e
 item:=by
  intro X hP hw hK hc i ae s σ H E I hf st hg;subst hP hw hK;obtain⟨xs,x,hq,hx⟩:=hg;obtain⟨its,rv,p,hz⟩:=I.tuple hq;obtain⟨u,hu,ru⟩:=rv.get hx;obtain⟨f0,f1,f2,f3,f4,f5⟩:=hf it (by simp);refine wpAny_pyNext_tuple_item st (show s.heap.IsTuple a its.toArray from p) (x:=u) (by simpa using hu) fun h' aw sb=>?_;have I1:aE X ae σ H { s with heap:=h' }:=I.turned (t':=s.toks) (fun b o hb e=>(sb.2 b hb).trans e) f0 f1 f3 f4 f5;obtain⟨o,e,c,d⟩:=id aw;exact⟨u,rfl,B6 (s:={ s with heap:=h' }) e c d (by decide) ⟨x,H,I1,ru,⟨rfl,fun ys hy=>by rw[I.eE hy hq];exact hx⟩,aw,fun b hb=>(hf b hb).1⟩⟩
 done:=by
  intro X hP hw hK hc i ae s σ H E I hf st hg;subst hP hw hK;obtain⟨xs,hq,hx⟩:=hg;obtain⟨its,rv,p,hz⟩:=I.tuple hq;obtain⟨f0,f1,f2,f3,f4,f5⟩:=hf it (by simp);have hl:=rv.length;exact wpAny_pyNext_tuple_end (I.ok.hd hc) st (show s.heap.IsTuple a its.toArray from p) (by simp;lia) fun h' eb=>⟨rfl,I.turned (t':=s.toks) (fun b o hb e=>eb b o hb e) f0 f1 f3 f4 f5⟩
 self:=fun _ _ _ _ _ st h=>wpAny_pyIter_tupleiter st h
theorem xw{P:Program}{w:World}{K:PySem.W.Frag}{tg:Expr}(it:Addr)(lo:Int)(n:Nat):qE P w K tg (EZ lo n) [it] it (fun i h=>IsRangeIter h it (lo+(i:Nat)*1) ((n:Int)-(i:Nat)) 1) where
 mem:=by simp
 obj:=fun i h st b hb=>by
  have e:b=it:=by simpa using hb
  subst e;exact⟨_,st,fun v z=>by
   have z':Data.fields _=Data.cell v:=z;cases z'⟩
 keep:=fun i h h' st k=>k it (by simp) _ st
 item:=by
  intro X hP hw hK hc i ae s σ H E I hf st hg;subst hP hw hK;obtain⟨f0,f1,f2,f3,f4,f5⟩:=hf it (by simp);have W:=Walks.range (prog:=X.prog) (w:=X.w) (I.ok.hd hc) it lo 1 n;refine W.item i s _ _ hg st fun v h' tk hv aw kk=>?_;obtain⟨t,rfl⟩:=hv;have I1:aE X ae σ H { s with heap:=h',toks:=tk }:=I.turned (fun b o hb e=>kk b o (by simpa using hb) e) f0 f1 f3 f4 f5;refine⟨_,rfl,B6 (s:={ s with heap:=h',toks:=tk }) (n:="range_iterator") aw rfl rfl (by decide) ⟨.int (lo+i),H,I1,⟨t,?_⟩,⟨rfl,rfl⟩,aw,fun b hb=>(hf b hb).1⟩⟩;rw[Int.mul_one]
 done:=by
  intro X hP hw hK hc i ae s σ H E I hf st hg;subst hP hw hK;obtain⟨f0,f1,f2,f3,f4,f5⟩:=hf it (by simp);exact wpAny_pyNext_range_end (I.ok.hd hc) st (by have:n<=i:=hg;lia) fun h' eb=>⟨rfl,I.turned (t':=s.toks) (fun b o hb e=>eb b o hb e) f0 f1 f3 f4 f5⟩
 self:=fun _ _ _ _ _ st h=>wpAny_pyIter_rangeiter st h
section
variable {X:Cx} {tg:Expr}
def Mt(K:PySem.W.Frag)(tl:TE):TI:=fun σ H R=>tl σ H fun x H1=>∃a,x=.ref a/\(∃xs,ba K H1 a xs)/\R (EY K a) H1
def Rt(K:PySem.W.Frag)(tl:TE):TI:=fun σ H R=>tl σ H fun x H1=>∃a,x=.ref a/\(∃xs,bW K H1 a xs)/\R (Lu K a) H1
theorem cw{l:Expr}{tl:TE}(hl:PE X l tl):PI X tg l (Mt X.K tl):=by
 intro ae s σ H R I h;refine cI (hl ae s σ H _ I h) fun v s1 ⟨x,H1,I1,r1,q1⟩=>?_;obtain⟨a,e,⟨xs,hq⟩,q⟩:=q1;subst e;cases r1;obtain⟨its,rv,p,hz⟩:=I1.list hq;refine xl p.isList ?_;refine⟨s1.heap.objs.size,[s1.heap.objs.size],_,_,H1,rfl,I1.kept (t':=s1.toks) fun b o e=>bv _ e,Al a _,⟨_,b_ _ rfl,rfl,rfl⟩,fun b hb=>?_,q⟩;have e:b=s1.heap.objs.size:=by simpa using hb
 subst e;exact I1.qD (aI _) (I1.bE.fresh (aI _))
theorem B7{l:Expr}{tl:TE}(hl:PE X l tl):PI X tg l (Rt X.K tl):=by
 intro ae s σ H R I h;refine cI (hl ae s σ H _ I h) fun v s1 ⟨x,H1,I1,r1,q1⟩=>?_;obtain⟨a,e,⟨xs,hq⟩,q⟩:=q1;subst e;cases r1;obtain⟨its,rv,p,hz⟩:=I1.tuple hq;refine o8 (show s1.heap.IsTuple a its.toArray from p) ?_;refine⟨s1.heap.objs.size,[s1.heap.objs.size],_,_,H1,rfl,I1.kept (t':=s1.toks) fun b o e=>bv _ e,xv a _,⟨_,b_ _ rfl,rfl,rfl⟩,fun b hb=>?_,q⟩;have e:b=s1.heap.objs.size:=by simpa using hb
 subst e;exact I1.qD (aI _) (I1.bE.fresh (aI _))
theorem uV{ae:List (Addr×Obj)}{σ:St}{H:Hp}{s:Shared}{R:It->Hp->Prop}{E:Value->Shared->Prop}{lo hi:Int}{t u v:Tok}{tk:Nat}(I:aE X ae σ H s)(h1:-(2 ^ 62)<=lo)(h2:lo<2 ^ 62)(h3:-(2 ^ 62)<=hi)(h4:hi<2 ^ 62)(q:R (EZ lo (hi-lo).toNat) H):wpAny (model X.prog X.w) X.A (pyIter (.ref s.heap.objs.size)) (VY X ae σ tg R) E { s with heap:=s.heap.push { cls:=.type "range",data:=.fields #[.int lo t,.int hi u,.int 1 v] },toks:=tk }:=by
 refine wpAny_pyIter_range (IsRange.new ..) (small_one h1 h2 h3 h4) ?_;have I1:aE X ae σ H { s with heap:=s.heap.push { cls:=.type "range",data:=.fields #[.int lo t,.int hi u,.int 1 v] },toks:=tk }:=I.kept fun b o e=>bv _ e;refine⟨(s.heap.push { cls:=.type "range",data:=.fields #[.int lo t,.int hi u,.int 1 v] }).objs.size,[(s.heap.push { cls:=.type "range",data:=.fields #[.int lo t,.int hi u,.int 1 v] }).objs.size],_,_,H,rfl,
  I1.kept (t':=tk) fun b o e=>bv _ e,xw _ lo (hi-lo).toNat,?_,fun b hb=>?_,q⟩
 .have e1:lo+((0:Nat):Int)*1=lo:=by simp
  have e2:(((hi-lo).toNat:Nat):Int)-((0:Nat):Int)=Builtin.Range.rangeSize lo hi 1:=by rw[rangeSize_one];split <;> lia
  show IsRangeIter _ _ (lo+((0:Nat):Int)*1) ((((hi-lo).toNat:Nat):Int)-((0:Nat):Int)) 1;rw[e1,e2];exact b_ _ rfl
 .have e:b=(s.heap.push { cls:=.type "range",data:=.fields #[.int lo t,.int hi u,.int 1 v] }).objs.size:=by simpa using hb
  subst e;exact I1.qD (aI _) (I1.bE.fresh (aI _))
def Mu(ta:TA):TI:=fun σ H R=>ta σ H fun vs H1=>∃j:Int,vs=[.int j]/\-(2 ^ 62)<=j/\j<2 ^ 62/\R (EZ 0 j.toNat) H1
def Mv(ta:TA):TI:=fun σ H R=>ta σ H fun vs H1=>∃i j:Int,vs=[.int i,.int j]/\(-(2 ^ 62)<=i/\i<2 ^ 62/\-(2 ^ 62)<=j/\j<2 ^ 62)/\R (EZ i (j-i).toNat) H1
theorem cP{a:Expr}{ta:TA}{p pos:Pos}(hg:Gl X "range")(hm:X.mg "range"=none)(ha:PA X [a] ta)(hs:starEach [a] X.env=[(false,eval a X.env)]:=by rfl):PI X tg (.Call (.Name "range" p) [a] [] pos) (Mu ta):=by
 intro ae s σ H R I h;refine Call_ (gZ I hg hm boot_range (oO (cI (ha pos ae s σ H _ I h) fun us s1 ⟨vs,H1,I1,r1,q1⟩=>?_) hs rfl));obtain⟨j,e,q1,q2,q⟩:=q1;subst e;cases r1 with
 |cons r rr=>
  cases rr;obtain⟨t,rfl⟩:=r;exact call_range_1 (uV I1 (by lia) (by lia) q1 q2 (by simpa using q))
theorem Am(hg:Gl X "range")(hm:X.mg "range"=none)(ha:PA X [a,b] ta)(hs:starEach [a,b] X.env=[(false,eval a X.env),(false,eval b X.env)]:=by rfl)(j9:starEach [b] X.env=[(false,eval b X.env)]:=by rfl):
  PI X tg (.Call (.Name "range" p) [a,b] [] pos) (Mv ta):=by
 intro ae s σ H R I h;refine Call_ (gZ I hg hm boot_range (oO (cI (ha pos ae s σ H _ I h) fun us s1 ⟨vs,H1,I1,r1,q1⟩=>?_) (by rw[hs,j9]) (by rw[j9];rfl)));obtain⟨i,j,e,⟨q1,q2,q3,q4⟩,q⟩:=q1;subst e;cases r1 with
 |cons r rr=>
  cases rr with
  |cons r' rr=>
   cases rr;obtain⟨t,rfl⟩:=r;obtain⟨t',rfl⟩:=r';exact call_range_2 (uV I1 q1 q2 q3 q4 q)
def Ru(wi:TI)(g:TG)(tb:TS):TS:=fun D σ H=>wi σ H fun J H1=>∃W:Nat->Nat->St->Hp->Prop,(∃m,W 0 m σ H1)/\∀i m σ H,W i m σ H->
 (J.stop i H/\D.nx σ H)\/(J.go i H/\∃N:St->Hp->Prop,(∀σ' H',N σ' H'->∃m',m'<m/\W (i+1) m' σ' H')/\∀x H',J.Hy i H x H'->g x σ H' fun σ2 H2=>tb { D with nx:=N,ct:=N,bk:=D.nx } σ2 H2)
def pI(fp:List Addr)(h:Heap):List (Addr×Obj):=fp.filterMap fun b=>(h.get? b).map fun o=>(b,o)
theorem iF(hb:b∈fp)(e:h.get? b=some o):(b,o)∈pI fp h:=mq.mpr ⟨b,hb,by rw[e];rfl⟩
theorem An(hp:p∈pI fp h):p.1∈fp/\h.get? p.1=some p.2:=by
 obtain⟨b,hb,e⟩:=mq.mp hp;cases q:h.get? b with
 |none=>rw[q] at e;cases e
 |some o=>
  rw[q] at e;have e':(b,o)=p:=a_ e;subst e';exact⟨hb,q⟩
theorem aE.pinned(I:aE X ae σ H s)(hf:∀b∈fp,eG X ae H b)(ho:∀b∈fp,∃o,s.heap.get? b=some o/\∀v,o.data≠.cell v):aE X (ae++pI fp s.heap) σ H s:=
 I.lE fun p hp=>(cX.mp hp).elim (fun z=>I.pin p (cZ _ z)) fun z=>by
  obtain⟨hb,e⟩:=An z;obtain⟨f0,f1,f2,_⟩:=hf p.1 hb;obtain⟨o,e',d⟩:=ho p.1 hb;rw[e] at e';cases e';exact⟨e,f0,f1,f2,d⟩
theorem aE.lH(I:aE X (ae++pl) σ H s):aE X ae σ H s:=I.lE fun p hp=>I.pin p (cZ _ (hX _ hp))
theorem dA(hp:PassesOwn (model X.prog X.w) X.A X.env X.xe)(hc:X.calm=true)(hi:PI X tg iY wi)(hg:PG X tg g)(hb:xr X body tb)(hs:∀x,foldedSetIterable iY X.env x=pure x:=by intro _;rfl):PS X (.For tg iY body [] pos) (Ru wi g tb):=by
 intro ae s σ H D I h;refine wpAny_For (cI (hi ae s σ H _ I h) fun v s1 h1=>cI h1 fun Qr s2 h2=>?_) hs;obtain⟨it,fp,tn,J,H2,e,I2,T,md,f2,W,⟨m0,w0⟩,B5⟩:=h2;subst e;have xx:∀ {H':Hp},(∀b∈fp,H' b=none)->∀b∈fp,eG X ae H' b:=fun hn b hb=>⟨hn b hb,(f2 b hb).2⟩
 refine codeAny_forLoop_any (fun n s'=>∃i σ' H',aE X ae σ' H' s'/\tn i s'.heap/\(∀b∈fp,H' b=none)/\W i n σ' H') ?_ m0 ⟨0,σ,H2,I2,md,fun b hb=>(f2 b hb).1,w0⟩;rintro n s3 ⟨i,σ3,H3,I3,iW,IS,w3⟩;rcases B5 i n σ3 H3 w3 with ⟨stop,qn⟩|⟨go,N,hN,step⟩
 .refine kM hp (cI (T.done X rfl rfl rfl hc i ae s3 σ3 H3 X.xe I3 (xx IS) iW stop) fun r s4 ⟨hr,I4⟩=>?_);subst hr;exact sr ⟨σ3,H3,I4,qn⟩
 .refine kM hp (cI (T.item X rfl rfl rfl hc i ae s3 σ3 H3 X.xe I3 (xx IS) iW go) fun r s4 ⟨u,hr,h4⟩=>?_);subst hr;refine kM hp (cI h4 fun _ s5 ⟨x,H5,I5,r5,y5,uK,Rv⟩=>?_);have Rx:=I5.pinned (xx Rv) (T.obj _ _ uK);refine kM hp (cI (hg _ s5 σ3 H5 x u _ Rx r5 (step x H5 y5)) fun _ s6 ⟨σ6,H6,I6,q6⟩=>?_);refine kM hp (cI (hb _ s6 σ6 H6 _ I6 q6) fun f s7 q7=>?_);have again:∀ {σ7:St} {H7:Hp},aE X (ae++pI fp s5.heap) σ7 H7 s7->N σ7 H7->∃m,m<n/\∃i σ' H',aE X ae σ' H' s7/\tn i s7.heap/\(∀b∈fp,H' b=none)/\W i m σ' H':=fun {σ7 H7} I7 n7=>by
   obtain⟨m',hm,w7⟩:=hN σ7 H7 n7;refine⟨m',hm,i+1,σ7,H7,I7.lH,T.keep _ _ _ uK fun b hb o e=>(I7.pin (b,o) (cZ _ (cZ _ (iF hb e)))).1,fun b hb=>?_,w7⟩;obtain⟨o,e,d⟩:=T.obj _ _ uK b hb;exact(I7.pin (b,o) (cZ _ (cZ _ (iF hb e)))).2.1
  cases f with
  |next=>obtain⟨σ7,H7,I7,n7⟩:=q7;exact again I7 n7
  |cont=>obtain⟨σ7,H7,I7,n7⟩:=q7;exact again I7 n7
  |brk=>obtain⟨σ7,H7,I7,q7⟩:=q7;exact⟨σ7,H7,I7.lH,q7⟩
  |ret v=>obtain⟨x7,σ7,H7,I7,r7,q7⟩:=q7;exact⟨x7,σ7,H7,I7.lH,r7,q7⟩
end
theorem ge{K:PySem.W.Frag}{a:Addr}{xs:List V}{g:TG}{tb:TS}{D:sH}{σ:St}{H:Hp}(Pv:Nat->St->Hp->Prop)(h0:Pv 0 σ H)(hl:∀i σ H,i<=xs.length->Pv i σ H->ba K H a xs)(hs:∀i x σ H,xs[i]?=some x->Pv i σ H->g x σ H fun σ2 H2=>tb { D with nx:=Pv (i+1),ct:=Pv (i+1),bk:=D.nx } σ2 H2)(hd:∀σ H,Pv xs.length σ H->D.nx σ H):
  ∃W:Nat->Nat->St->Hp->Prop,(∃m,W 0 m σ H)/\∀i m σ H,W i m σ H->
   ((EY K a).stop i H/\D.nx σ H)\/((EY K a).go i H/\∃N:St->Hp->Prop,(∀σ' H',N σ' H'->∃m',m'<m/\W (i+1) m' σ' H')/\∀x H',(EY K a).Hy i H x H'->g x σ H' fun σ2 H2=>tb { D with nx:=N,ct:=N,bk:=D.nx } σ2 H2):=by
 refine⟨fun i m σ H=>m=xs.length-i/\i<=xs.length/\Pv i σ H,⟨xs.length,by simp,ce _,h0⟩,?_⟩;rintro i m σ H ⟨rfl,hi,p⟩;have q:=hl i σ H hi p;by_cases cV:i<xs.length
 .refine .inr ⟨⟨xs,xs[i],q,by simp[cV]⟩,Pv (i+1),fun σ' H' p'=>⟨xs.length-(i+1),by lia,rfl,cV,p'⟩,fun x H' y=>?_⟩;obtain⟨e,y⟩:=y;subst e;exact hs i x σ _ (y xs q) p
 .have e:i=xs.length:=by lia
  subst e;exact .inl ⟨⟨xs,q,aI _⟩,hd σ H p⟩
theorem E3{K:PySem.W.Frag}{a:Addr}{xs:List V}{g:TG}{tb:TS}{D:sH}{σ:St}{H:Hp}(Pv:Nat->St->Hp->Prop)(h0:Pv 0 σ H)(hl:∀i σ H,i<=xs.length->Pv i σ H->bW K H a xs)(hs:∀i x σ H,xs[i]?=some x->Pv i σ H->g x σ H fun σ2 H2=>tb { D with nx:=Pv (i+1),ct:=Pv (i+1),bk:=D.nx } σ2 H2)(hd:∀σ H,Pv xs.length σ H->D.nx σ H):
  ∃W:Nat->Nat->St->Hp->Prop,(∃m,W 0 m σ H)/\∀i m σ H,W i m σ H->
   ((Lu K a).stop i H/\D.nx σ H)\/((Lu K a).go i H/\∃N:St->Hp->Prop,(∀σ' H',N σ' H'->∃m',m'<m/\W (i+1) m' σ' H')/\∀x H',(Lu K a).Hy i H x H'->g x σ H' fun σ2 H2=>tb { D with nx:=N,ct:=N,bk:=D.nx } σ2 H2):=by
 refine⟨fun i m σ H=>m=xs.length-i/\i<=xs.length/\Pv i σ H,⟨xs.length,by simp,ce _,h0⟩,?_⟩;rintro i m σ H ⟨rfl,hi,p⟩;have q:=hl i σ H hi p;by_cases cV:i<xs.length
 .refine .inr ⟨⟨xs,xs[i],q,by simp[cV]⟩,Pv (i+1),fun σ' H' p'=>⟨xs.length-(i+1),by lia,rfl,cV,p'⟩,fun x H' y=>?_⟩;obtain⟨e,y⟩:=y;subst e;exact hs i x σ _ (y xs q) p
 .have e:i=xs.length:=by lia
  subst e;exact .inl ⟨⟨xs,q,aI _⟩,hd σ H p⟩
theorem eF{lo:Int}{n:Nat}{g:TG}{tb:TS}{D:sH}{σ:St}{H:Hp}(Pv:Nat->St->Hp->Prop)(h0:Pv 0 σ H)(hs:∀i σ H,i<n->Pv i σ H->g (.int (lo+i)) σ H fun σ2 H2=>tb { D with nx:=Pv (i+1),ct:=Pv (i+1),bk:=D.nx } σ2 H2)(hd:∀σ H,Pv n σ H->D.nx σ H):
  ∃W:Nat->Nat->St->Hp->Prop,(∃m,W 0 m σ H)/\∀i m σ H,W i m σ H->
   ((EZ lo n).stop i H/\D.nx σ H)\/((EZ lo n).go i H/\∃N:St->Hp->Prop,(∀σ' H',N σ' H'->∃m',m'<m/\W (i+1) m' σ' H')/\∀x H',(EZ lo n).Hy i H x H'->g x σ H' fun σ2 H2=>tb { D with nx:=N,ct:=N,bk:=D.nx } σ2 H2):=by
 refine⟨fun i m σ H=>m=n-i/\i<=n/\Pv i σ H,⟨n,by simp,ce _,h0⟩,?_⟩;rintro i m σ H ⟨rfl,hi,p⟩;by_cases cV:i<n
 .refine .inr ⟨cV,Pv (i+1),fun σ' H' p'=>⟨n-(i+1),by lia,rfl,cV,p'⟩,fun x H' y=>?_⟩;obtain⟨e,y⟩:=y;subst e y;exact hs i σ _ cV p
 .have e:i=n:=by lia
  subst e;exact .inl ⟨aI _,hd σ H p⟩
theorem B8(Pv:St->Hp->Prop)(μ:St->Hp->Nat)(h0:Pv σ H)(hs:∀σ H,Pv σ H->c σ H fun b H1=>if b=true then tb { D with nx:=fun σ' H'=>Pv σ' H'/\μ σ' H'<μ σ H,ct:=fun σ' H'=>Pv σ' H'/\μ σ' H'<μ σ H,bk:=D.nx } σ H1 else D.nx σ H1)(mono:∀σ H Q Q',(∀b H1,Q b H1->Q' b H1)->c σ H Q->c σ H Q'):B4 c tb D σ H:=by
 refine⟨fun m σ H=>m=μ σ H/\Pv σ H,⟨_,rfl,h0⟩,?_⟩;rintro m σ H ⟨rfl,p⟩;refine mono σ H _ _ (fun b H1 q=>?_) (hs σ H p);cases b with
 |true=>exact⟨_,fun σ' H' ⟨p',l⟩=>⟨_,l,rfl,p'⟩,q⟩
 |false=>exact q
abbrev R2:=V->V->Hp->VK->Prop
def lI(X:Cx)(f:Value->Value->Sem Value)(r:R2):Prop:=
 ∀ (ae:List (Addr×Obj)) (s:Shared) (σ:St) (H:Hp) (x y:V) (v u:Value) (Q:VK),aE X ae σ H s->bw x v->bw y u->r x y H Q->
  wpAny (model X.prog X.w) X.A (f v u) (EP X ae σ Q) X.xe s
def Ry(X:Cx)(f:Value->Sem Value)(r:V->Hp->VK->Prop):Prop:=
 ∀ (ae:List (Addr×Obj)) (s:Shared) (σ:St) (H:Hp) (x:V) (v:Value) (Q:VK),aE X ae σ H s->bw x v->r x H Q->
  wpAny (model X.prog X.w) X.A (f v) (EP X ae σ Q) X.xe s
def gf(X:Cx)(f:Value)(r:List V->Hp->VK->Prop):Prop:=
 ∀ (ae:List (Addr×Obj)) (s:Shared) (σ:St) (H:Hp) (xs:List V) (us:List Value) (Q:VK),aE X ae σ H s->aO xs us->r xs H Q->
  wpAny (model X.prog X.w) X.A (call f us) (EP X ae σ Q) X.xe s
def Rz(X:Cx)(r:V->Hp->(Bool->Hp->Prop)->Prop):Prop:=
 ∀ (ae:List (Addr×Obj)) (s:Shared) (σ:St) (H:Hp) (x:V) (v:Value) (Q:Bool->Hp->Prop),aE X ae σ H s->bw x v->r x H Q->
  wpAny (model X.prog X.w) X.A (truthy v) (TP X ae σ Q) X.xe s
def mW(r:R2)(ta tb:TE):TE:=fun σ H Q=>ta σ H fun x H1=>tb σ H1 fun y H2=>r x y H2 Q
def XR(r:V->Hp->VK->Prop)(ta:TE):TE:=fun σ H Q=>ta σ H fun x H1=>r x H1 Q
def rI(C:Int->Int->Prop)(g:Int->Int->V):R2:=fun x y H Q=>∃i j,x=.int i/\y=.int j/\C i j/\Q (g i j) H
def By(g:Int->Int->V):R2:=fun x y H Q=>∃i j,x=.int i/\y=.int j/\Q (g i j) H
def rU(g:Int->V):V->Hp->VK->Prop:=fun x H Q=>∃i,x=.int i/\Q (g i) H
section
variable {X:Cx} {a b c:Expr} {ta tb tc:TE} {pos:Pos}
theorem IT(ha:PE X a ta)(hb:PE X b tb){ae:List (Addr×Obj)}{s:Shared}{σ:St}{H:Hp}{R:V->V->Hp->Prop}(I:aE X ae σ H s)(h:ta σ H fun x H1=>tb σ H1 fun y H2=>R x y H2){Q:Value->Shared->Prop}{f:Value->Value->Sem Value}(hf:∀v u s2 x y H2,aE X ae σ H2 s2->bw x v->bw y u->R x y H2->wpAny (model X.prog X.w) X.A (f v u) Q X.xe s2):
  wpAny (model X.prog X.w) X.A (eval a X.env) (fun v s₁=>wpAny (model X.prog X.w) X.A (eval b X.env) (fun u s₂=>wpAny (model X.prog X.w) X.A (f v u) Q X.xe s₂) X.xe s₁) X.xe s:=by
 refine cI (ha ae s σ H _ I h) fun v s1 ⟨x,H1,I1,r1,q1⟩=>?_;refine cI (hb ae s1 σ H1 _ I1 q1) fun u s2 ⟨y,H2,I2,r2,q2⟩=>?_;exact hf v u s2 x y H2 I2 r1 r2 q2
theorem a8{op:Operator}{r:R2}(ho:lI X (binaryOp op) r)(ha:PE X a ta)(hb:PE X b tb):PE X (.BinOp a op b pos) (mW r ta tb):=by
 intro ae s σ H Q I h;exact wpAny_BinOp (IT ha hb I h fun v u s2 x y H2 I2 rx ry q=>ho ae s2 σ H2 x y v u Q I2 rx ry q)
theorem Hz(ho:Ry X (unaryOp op) r)(ha:PE X a ta):PE X (.UnaryOp op a pos) (XR r ta):=by
 intro ae s σ H Q I h;exact UnaryOp_ (cI (ha ae s σ H _ I h) fun v s1 ⟨x,H1,I1,r1,q1⟩=>ho ae s1 σ H1 x v Q I1 r1 q1)
theorem Qs{f:Value->Value->Sem Value}{C:Int->Int->Prop}{g:Int->Int->Int}(rule:∀ (i j:Int) (t u:Tok) (s:Shared) (Q:Value->Shared->Prop) (E:Value->Shared->Prop),C i j->Q (.int (g i j) s.toks) { s with toks:=s.toks+1 }->wpAny (model X.prog X.w) X.A (f (.int i t) (.int j u)) Q E s):
  lI X f (rI C fun i j=>.int (g i j)):=by
 intro ae s σ H x y v u Q I rx ry h;obtain⟨i,j,rfl,rfl,hc,q⟩:=h;obtain⟨t,rfl⟩:=rx;obtain⟨t',rfl⟩:=ry;exact rule i j t t' s _ _ hc ⟨.int (g i j),H,I.tok _,⟨_,rfl⟩,q⟩
theorem Mw{f:Value->Value->Sem Value}{g:Int->Int->Int}(rule:∀ (i j:Int) (t u:Tok) (s:Shared) (Q:Value->Shared->Prop) (E:Value->Shared->Prop),Q (.int (g i j) s.toks) { s with toks:=s.toks+1 }->wpAny (model X.prog X.w) X.A (f (.int i t) (.int j u)) Q E s):
  lI X f (By fun i j=>.int (g i j)):=by
 intro ae s σ H x y v u Q I rx ry h;obtain⟨i,j,rfl,rfl,q⟩:=h;obtain⟨t,rfl⟩:=rx;obtain⟨t',rfl⟩:=ry;exact rule i j t t' s _ _ ⟨.int (g i j),H,I.tok _,⟨_,rfl⟩,q⟩
theorem E4{f:Value->Value->Sem Value}{g:Int->Int->Bool}(rule:∀ (i j:Int) (t u:Tok) (s:Shared) (Q:Value->Shared->Prop) (E:Value->Shared->Prop),Q (.bool (g i j)) s->wpAny (model X.prog X.w) X.A (f (.int i t) (.int j u)) Q E s):
  lI X f (By fun i j=>.bl (g i j)):=by
 intro ae s σ H x y v u Q I rx ry h;obtain⟨i,j,rfl,rfl,q⟩:=h;obtain⟨t,rfl⟩:=rx;obtain⟨t',rfl⟩:=ry;exact rule i j t t' s _ _ ⟨.bl (g i j),H,I,rfl,q⟩
def RA(i j:Int):Prop:=0<j/\j<1073741824
def RB(i j:Int):Prop:=0<=j/\j<=1000000/\i.natAbs<2 ^ 64
def Ao(i j:Int):Prop:=(-(2 ^ 64)<i/\i<2 ^ 64)\/(-(2 ^ 64)<j/\j<2 ^ 64)
theorem Ao.ok(h:Ao i j):IntMulOk i j:=by
 rcases h with ⟨h1,h2⟩|⟨h1,h2⟩
 .exact .of_left (intBits_le_64 h1 h2)
 .exact .of_right (intBits_le_64 h1 h2)
theorem g8:lI X (binaryOp .Add) (By fun i j=>.int (i+j)):=Mw fun _ _ _ _ _ _ _ q=>add_int q
theorem sK:lI X (binaryOp .Sub) (By fun i j=>.int (i-j)):=Mw fun _ _ _ _ _ _ _ q=>sub_int q
theorem ff:lI X (binaryOp .Mult) (rI Ao fun i j=>.int (i*j)):=Qs fun _ _ _ _ _ _ _ hc q=>mul_int q hc.ok
theorem lJ:lI X (binaryOp .FloorDiv) (rI RA fun i j=>.int (i / j)):=Qs fun i j _ _ _ _ _ hc q=>by
 have h1:(0:Int)<j:=hc.1;have h2:j<1073741824:=hc.2;exact floordiv_int (by lia) (by rw[Int.fdiv_eq_ediv_of_nonneg i (by lia)];exact q) (.inl (PyProof.noPylong_small (by lia)))
theorem gg:lI X (binaryOp .Mod) (rI (fun _ j=>0<j) fun i j=>.int (i % j)):=Qs fun i j _ _ _ _ _ hc q=>by
 have h1:(0:Int)<j:=hc;exact mod_int' (by lia) (by rw[BQ i (by lia)];exact q)
theorem IU:lI X (binaryOp .Pow) (rI RB fun i j=>.int (i ^ j.toNat)):=Qs fun _ _ _ _ _ _ _ hc q=>pow_int_small hc.1 hc.2.1 hc.2.2 q
theorem XS{f:Value->Sem Value}{g:Int->Int}(rule:∀ (i:Int) (t:Tok) (s:Shared) (Q:Value->Shared->Prop) (E:Value->Shared->Prop),Q (.int (g i) s.toks) { s with toks:=s.toks+1 }->wpAny (model X.prog X.w) X.A (f (.int i t)) Q E s):
  Ry X f (rU fun i=>.int (g i)):=by
 intro ae s σ H x v Q I rx h;obtain⟨i,rfl,q⟩:=h;obtain⟨t,rfl⟩:=rx;exact rule i t s _ _ ⟨.int (g i),H,I.tok _,⟨_,rfl⟩,q⟩
theorem B9:Ry X (unaryOp .USub) (rU fun i=>.int (-i)):=XS fun _ _ _ _ _ q=>neg_int q
end
def E5:V->V->Bool
 |.bD,.bD=>true|.bD,.int _=>true|.int _,.bD=>true|.bD,.bl _=>true|.bl _,.bD=>true|.bD,.str _=>true|.str _,.bD=>true
 |.int _,.int _=>true|.bl _,.bl _=>true|.str _,.str _=>true|.yL _,.yL _=>true
 |.int _,.str _=>true|.str _,.int _=>true|.bl _,.str _=>true|.str _,.bl _=>true
 |_,_=>false
def Qt:R2:=fun x y H Q=>E5 x y=true/\Q (.bl (decide (x=y))) H
def VZ:R2:=fun x y H Q=>E5 x y=true/\Q (.bl (!decide (x=y))) H
theorem yO:decide (V.int i=V.int j)=(i==j):=by
 rw[iA];simp
theorem B_:decide (V.bl i=V.bl j)=(i==j):=by
 rw[iA];simp
theorem yP:decide (V.str i=V.str j)=(i==j):=by
 rw[iA];simp
theorem yQ:decide (V.yL i=V.yL j)=(i.toList==j.toList):=by
 rw[iA];cases i;cases j;simp
section
variable {X:Cx} {a b c:Expr} {ta tb tc:TE} {pos:Pos}
theorem bp(I:aE X ae σ H s)(q:Q (.bl k) H)(e:k=k'):EP X ae σ Q (.bool k') s:=by
 subst e;exact⟨.bl k,H,I,rfl,q⟩
theorem j_:lI X (compareOp .Eq) Qt:=by
 intro ae s σ H x y v u Q I rx ry h;obtain⟨hs,q⟩:=h;cases x with
 |bD=>
  cases rx;cases y with
  |bD=>cases ry;exact PySem.EqNone.eq_none_none (bp I q (by simp))
  |bl j=>cases ry;exact PySem.EqNone.eq_none_bool (bp I q (by simp))
  |int j=>obtain⟨t',rfl⟩:=ry;exact PySem.EqNone.eq_none_int (bp I q (by simp))
  |str j=>obtain⟨t',rfl⟩:=ry;exact PySem.EqNone.eq_none_str (bp I q (by simp))
  |_=>exact absurd (show false=true from hs) bX
 |bl i=>
  cases rx;cases y with
  |bD=>cases ry;exact PySem.EqNone.eq_bool_none (bp I q (by simp))
  |bl j=>cases ry;exact eq_bool (bp I q B_)
  |str j=>obtain⟨t',rfl⟩:=ry;exact PySem.EqMixed.eq_bool_str (bp I q (by simp))
  |_=>exact absurd (show false=true from hs) bX
 |int i=>
  obtain⟨t,rfl⟩:=rx;cases y with
  |bD=>cases ry;exact PySem.EqNone.eq_int_none (bp I q (by simp))
  |int j=>obtain⟨t',rfl⟩:=ry;exact eq_int (bp I q yO)
  |str j=>obtain⟨t',rfl⟩:=ry;exact PySem.EqMixed.eq_int_str (bp I q (by simp))
  |_=>exact absurd (show false=true from hs) bX
 |str i=>
  obtain⟨t,rfl⟩:=rx;cases y with
  |bD=>cases ry;exact PySem.EqNone.eq_str_none (bp I q (by simp))
  |bl j=>cases ry;exact PySem.EqMixed.eq_str_bool (bp I q (by simp))
  |int j=>obtain⟨t',rfl⟩:=ry;exact PySem.EqMixed.eq_str_int (bp I q (by simp))
  |str j=>obtain⟨t',rfl⟩:=ry;exact eq_str (bp I q yP)
  |_=>exact absurd (show false=true from hs) bX
 |yL i=>
  obtain⟨t,rfl⟩:=rx;cases y with
  |yL j=>obtain⟨t',rfl⟩:=ry;exact PySem.W.eq_bytes (bp I q yQ)
  |_=>exact absurd (show false=true from hs) bX
 |_=>cases y <;> exact absurd (show false=true from hs) bX
theorem nQ:lI X (compareOp .NotEq) VZ:=by
 intro ae s σ H x y v u Q I rx ry h;obtain⟨hs,q⟩:=h;cases x with
 |bD=>
  cases rx;cases y with
  |bD=>cases ry;exact PySem.EqNone.ne_none_none (bp I q (by simp))
  |bl j=>cases ry;exact PySem.EqNone.ne_none_bool (bp I q (by simp))
  |int j=>obtain⟨t',rfl⟩:=ry;exact PySem.EqNone.ne_none_int (bp I q (by simp))
  |str j=>obtain⟨t',rfl⟩:=ry;exact PySem.EqNone.ne_none_str (bp I q (by simp))
  |_=>exact absurd (show false=true from hs) bX
 |bl i=>
  cases rx;cases y with
  |bD=>cases ry;exact PySem.EqNone.ne_bool_none (bp I q (by simp))
  |bl j=>cases ry;exact ne_bool (bp I q (congrArg not B_))
  |str j=>obtain⟨t',rfl⟩:=ry;exact PySem.EqMixed.ne_bool_str (bp I q (by simp))
  |_=>exact absurd (show false=true from hs) bX
 |int i=>
  obtain⟨t,rfl⟩:=rx;cases y with
  |bD=>cases ry;exact PySem.EqNone.ne_int_none (bp I q (by simp))
  |int j=>obtain⟨t',rfl⟩:=ry;exact ne_int (bp I q (congrArg not yO))
  |str j=>obtain⟨t',rfl⟩:=ry;exact PySem.EqMixed.ne_int_str (bp I q (by simp))
  |_=>exact absurd (show false=true from hs) bX
 |str i=>
  obtain⟨t,rfl⟩:=rx;cases y with
  |bD=>cases ry;exact PySem.EqNone.ne_str_none (bp I q (by simp))
  |bl j=>cases ry;exact PySem.EqMixed.ne_str_bool (bp I q (by simp))
  |int j=>obtain⟨t',rfl⟩:=ry;exact PySem.EqMixed.ne_str_int (bp I q (by simp))
  |str j=>obtain⟨t',rfl⟩:=ry;exact ne_str (bp I q (congrArg not yP))
  |_=>exact absurd (show false=true from hs) bX
 |yL i=>
  obtain⟨t,rfl⟩:=rx;cases y with
  |yL j=>obtain⟨t',rfl⟩:=ry;exact PySem.W.ne_bytes (bp I q (congrArg not yQ))
  |_=>exact absurd (show false=true from hs) bX
 |_=>cases y <;> exact absurd (show false=true from hs) bX
theorem uW:lI X (compareOp .Lt) (By fun i j=>.bl (decide (i<j))):=E4 fun _ _ _ _ _ _ _ q=>lt_int q
theorem Ca:lI X (compareOp .LtE) (By fun i j=>.bl (decide (i<=j))):=E4 fun _ _ _ _ _ _ _ q=>le_int q
theorem uX:lI X (compareOp .Gt) (By fun i j=>.bl (decide (j<i))):=E4 fun _ _ _ _ _ _ _ q=>gt_int q
theorem HB:lI X (compareOp .GtE) (By fun i j=>.bl (decide (j<=i))):=E4 fun _ _ _ _ _ _ _ q=>ge_int q
theorem sL:lI X (compareOp .Is) (fun x y H Q=>y=.bD/\Q (.bl (decide (x=.bD))) H):=by
 intro ae s σ H x y v u Q I rx ry h;obtain⟨rfl,q⟩:=h;cases ry;refine is_none_gen (bp I q ?_);cases x <;> first
  |(cases rx;rfl)
  |(obtain⟨t,rfl⟩:=rx;rfl)
theorem sO:lI X (compareOp .IsNot) (fun x y H Q=>y=.bD/\Q (.bl (!decide (x=.bD))) H):=by
 intro ae s σ H x y v u Q I rx ry h;obtain⟨rfl,q⟩:=h;cases ry;refine isnot_none_gen (bp I q ?_);cases x <;> first
  |(cases rx;rfl)
  |(obtain⟨t,rfl⟩:=rx;rfl)
theorem aT(b:Expr)(h:op≠.In:=by decide)(h2:op≠.NotIn:=by decide):behindInMarks op b=false:=by
 have e1:(op==CmpOp.In)=false:=by cases op <;> first|rfl|exact absurd rfl h
 have e2:(op==CmpOp.NotIn)=false:=by cases op <;> first|rfl|exact absurd rfl h2
 cases b <;> simp[behindInMarks,e1,e2]
theorem gK(ho:lI X (compareOp op) r)(ha:PE X a ta)(hb:PE X b tb)(hm:behindInMarks op b=false):PE X (.Compare a [op] [b] pos) (mW r ta tb):=by
 intro ae s σ H Q I h;exact wpAny_Compare1 (IT ha hb I h fun v u s2 x y H2 I2 rx ry q=>ho ae s2 σ H2 x y v u Q I2 rx ry q) hm
def lK(t:TE):TT:=fun σ H Q=>t σ H fun x H'=>∃k,x=.bl k/\Q k H'
theorem aQ(ho:lI X (compareOp op) r)(ha:PE X a ta)(hb:PE X b tb)(hm:behindInMarks op b=false):PT X (.Compare a [op] [b] pos) (lK (mW r ta tb)):=by
 intro ae s σ H Q I h;refine wpAny_isTrue_Compare1 (cI (ha ae s σ H _ I h) fun v s1 ⟨x,H1,I1,r1,q1⟩=>cI (hb ae s1 σ H1 _ I1 q1) fun u s2 ⟨y,H2,I2,r2,q2⟩=>
  cI (ho ae s2 σ H2 x y v u _ I2 r1 r2 q2) fun c s3 ⟨z,H3,I3,r3,k,e,q3⟩=>?_) hm
 subst e;cases r3;exact kJ ⟨H3,I3,q3⟩
def IW(r r':R2)(ta tb tc:TE):TE:=fun σ H Q=>ta σ H fun x H1=>tb σ H1 fun y H2=>r x y H2 fun z H3=>∃k,z=.bl k/\
 (if k=true then tc σ H3 fun w' H4=>r' y w' H4 Q else Q (.bl false) H3)
theorem Cb(ho:lI X (compareOp op) r)(qA:lI X (compareOp V0) r')(ha:PE X a ta)(hb:PE X b tb)(hc:PE X c tc)(hm:lastMarks [op,V0] [b,c]=false:=by with_unfolding_all rfl):PE X (.Compare a [op,V0] [b,c] pos) (IW r r' ta tb tc):=by
 intro ae s σ H Q I h;refine Compare_chain (cI (ha ae s σ H _ I h) fun v s1 ⟨x,H1,I1,r1,q1⟩=>chain_link (cI (hb ae s1 σ H1 _ I1 q1) fun u s2 ⟨y,H2,I2,r2,q2⟩=>
  cI (ho ae s2 σ H2 x y v u _ I2 r1 r2 q2) fun d s3 ⟨z,H3,I3,r3,k,e,q3⟩=>?_)) hm
 subst e;cases r3;refine kJ ?_;cases k with
 |false=>exact ite_ff ⟨.bl false,H3,I3,rfl,q3⟩
 |true=>exact ite_tt (chain_last (cI (hc ae s3 σ H3 _ I3 q3) fun w' s4 ⟨z',H4,I4,r4,q4⟩=>qA ae s4 σ H4 y z' u w' Q I4 r2 r4 q4))
def Mx(K:PySem.W.Frag)(x:V)(H:Hp)(k:Bool):Prop:=
 match x with
 |.bD=>k=false
 |.bl b=>k=b
 |.int i=>k=(i != 0)
 |.str y=>y.length<=sizeLine/\k=((y.length:Int) != 0)
 |.yL y=>y.size<=sizeLine/\k=((y.size:Int) != 0)
 |.ref p=>(∃xs,ba K H p xs/\k=!xs.isEmpty)\/(∃xs,bW K H p xs/\k=!xs.isEmpty)\/∃hW,H p=some (.dK hW)/\k=!hW.isEmpty
 |_=>False
theorem xy{κ:Type}{hW:List (κ×V)}{vs:List (κ×Value)}(r:KV hW vs):(!vs.isEmpty)=!hW.isEmpty:=by
 cases r <;> rfl
theorem pJ{xs:List V}{its:List Value}(r:aO xs its):(!its.toArray.isEmpty)=!xs.isEmpty:=by
 cases r <;> simp
theorem pK:(sizeLine:Nat)<2 ^ 63:=by rw[fw];decide
theorem IX:Rz X (fun x H Q=>∃k,Mx X.K x H k/\Q k H):=by
 intro ae s σ H x v Q I rx h;obtain⟨k,e,q⟩:=h;have hl:=pK;have hs:sizeLine=16777216:=fw;cases x with
 |bD=>
  cases rx;have e':k=false:=e;subst e';exact truthy_none ⟨H,I,q⟩
 |bl b=>
  cases rx;have e':k=b:=e;subst e';exact kJ ⟨H,I,q⟩
 |int i=>
  obtain⟨t,rfl⟩:=rx;have e':k=(i != 0):=e;subst e';exact PySem.P.truthy_int ⟨H,I,q⟩
 |str y=>
  obtain⟨t,rfl⟩:=rx;obtain⟨hy,e'⟩:y.length<=sizeLine/\k=((y.length:Int) != 0):=e;subst e';exact PySem.P.truthy_str (by lia) ⟨H,I.tok _,q⟩
 |yL y=>
  obtain⟨t,rfl⟩:=rx;obtain⟨hy,e'⟩:y.size<=sizeLine/\k=((y.size:Int) != 0):=e;subst e';exact PySem.W.truthy_bytes (by lia) ⟨H,I.tok _,q⟩
 |ref p=>
  cases rx;have e':(∃xs,ba X.K H p xs/\k=!xs.isEmpty)\/(∃xs,bW X.K H p xs/\k=!xs.isEmpty)\/∃hW,H p=some (.dK hW)/\k=!hW.isEmpty:=e;rcases e' with ⟨xs,hx,e'⟩|⟨xs,hx,e'⟩|⟨hW,hx,e'⟩
  .subst e';obtain⟨its,r,pl,hz⟩:=I.list hx;have dX:=r.length;exact wpAny_truthy_list pl.isList (by simp only[bY];lia) ⟨H,I.tok _,by rw[pJ r];exact q⟩
  .subst e';obtain⟨its,r,pl,hz⟩:=I.tuple hx;have dX:=r.length;exact truthy_tuple pl (by simp only[bY];lia) ⟨H,I.tok _,by rw[pJ r];exact q⟩
  .subst e';obtain⟨hz,hS,vs,r,m⟩:hW.length<=sizeLine/\(p==sysModules)=false/\∃vs,KV hW vs/\s.heap.DictOf (sG X.prog X.w) p vs:=I.bE p _ hx;have dX:hW.length=vs.length:=Paired.length r;exact wpAny_truthy_dict hS m (by lia) ⟨H,I.tok _,by rw[xy r];exact q⟩
 |_=>exact(show False from e).elim
theorem Cc(ha:PE X a ta)(he:∀pF,isTrue a X.env pF=(do let v <- pF;standAt a.pos;holding [v] (truthy v))):
  PT X a (fun σ H Q=>ta σ H fun x H'=>∃k,Mx X.K x H' k/\Q k H'):=by
 intro ae s σ H Q I h;exact isTrue_plain (cI (ha ae s σ H _ I h) fun v s1 ⟨x,H1,I1,r1,q1⟩=>IX ae s1 σ H1 x v Q I1 r1 q1) (he _)
theorem uY(r:aO [x] us):∃u,us=[u]/\bw x u:=by
 cases r with
 |cons r1 r2=>cases r2;exact⟨_,rfl,r1⟩
theorem HC(r:aO [x,y] us):∃u w',us=[u,w']/\bw x u/\bw y w':=by
 cases r with
 |cons r1 r2=>
  cases r2 with
  |cons r3 r4=>cases r4;exact⟨_,_,rfl,r1,r3⟩
theorem qS(hc:X.calm=true):gf X (.builtin "max") (fun xs H Q=>∃i j,xs=[.int i,.int j]/\Q (.int (if j > i then j else i)) H):=by
 intro ae s σ H xs us Q I r h;obtain⟨i,j,rfl,q⟩:=h;obtain⟨u,w',rfl,⟨t,rfl⟩,⟨t',rfl⟩⟩:=HC r;refine max_two_ints (I.ok.hd hc) fun h' tk k=>⟨_,H,I.kept k,?_,q⟩
 by_cases hj:j > i
 .rw[ao hj,ao hj];exact⟨_,rfl⟩
 .rw[aj hj,aj hj];exact⟨_,rfl⟩
theorem Ap(hc:X.calm=true):gf X (.builtin "min") (fun xs H Q=>∃i j,xs=[.int i,.int j]/\Q (.int (if j<i then j else i)) H):=by
 intro ae s σ H xs us Q I r h;obtain⟨i,j,rfl,q⟩:=h;obtain⟨u,w',rfl,⟨t,rfl⟩,⟨t',rfl⟩⟩:=HC r;refine min_two_ints (I.ok.hd hc) fun h' tk k=>⟨_,H,I.kept k,?_,q⟩
 by_cases hj:j<i
 .rw[ao hj,ao hj];exact⟨_,rfl⟩
 .rw[aj hj,aj hj];exact⟨_,rfl⟩
theorem qT:gf X (.type "int") (fun xs H Q=>(∃i,xs=[.int i]/\Q (.int i) H)\/∃k,xs=[.bl k]/\Q (.int (if k then 1 else 0)) H):=by
 intro ae s σ H xs us Q I r h;rcases h with ⟨i,rfl,q⟩|⟨k,rfl,q⟩
 .obtain⟨u,rfl,t,rfl⟩:=uY r;exact call_int_int ⟨.int i,H,I,⟨_,rfl⟩,q⟩
 .obtain⟨u,rfl,r1⟩:=uY r;cases r1;exact call_int_bool ⟨.int (if k then 1 else 0),H,I.tok _,⟨_,rfl⟩,q⟩
end
structure xz(h:Heap)(x dx C:Addr)(mA:Str->Option Value):Prop where
 obj:h.get? x=some (PySem.W.instObj C dx)
 ns:h.Ns1 dx mA
 ne:dx≠x
theorem Aq{h:Heap}{dx:Addr}{mA:Str->Option Value}(n:h.Ns1 dx mA):∃od,h.get? dx=some od/\∀name,PySem.W.lookIn name od=some (mA name):=by
 obtain⟨o,es,ep,ho,hd,hk,_,hm⟩:=n;refine⟨o,ho,fun name=>?_⟩;have e:=hm name;unfold nsFind findBy at e;rw[<-Array.find?_toList] at e;unfold PySem.W.lookIn;rw[hd];dsimp only;split
 .rename_i y q;rw[q] at e;exact congrArg some e
 .rename_i q;rw[q] at e;have a:es.toList.any (·.refKey)=false:=by
   rw[se];intro y hy;obtain⟨z,t,qF⟩:=hk y (Array.mem_toList_iff.mp hy);simp[DictEntry.refKey,qF]
  have a':¬ es.toList.any (·.refKey)=true:=by rw[a];exact bX
  rw[aj a'];exact congrArg some e
theorem xz.look(I:xz h x dx C mA):∃od,PySem.W.InstAt h x (PySem.W.instObj C dx) C (some od)/\∀name,PySem.W.lookIn name od=some (mA name):=
 let ⟨od,ho,hl⟩:=Aq I.ns
 ⟨od,⟨I.obj,rfl,rfl,ho⟩,hl⟩
section
variable {prog:Program} {w:World} {A:Around} {E:Value->Shared->Prop} {s:Shared} {K:PySem.W.Frag} {x dx C f:Addr} {mA:Str->Option Value} {name:Str} {v:Value}
theorem E6(X:K.In s.heap)(I:xz s.heap x dx C mA)(hg:PySem.W.plainGet K C name=true)(hh:PySem.W.hasDictIn K C=true)(ha:PySem.W.findIn K (.ref C) name=some none)(hv:mA name=some v)(E7:PySem.W.handedIn v=true)(h:Q v { s with toks:=s.toks+1 }):
  wpAny (model prog w) A (getAttr (.ref x) name E8) Q E s:=by
 obtain⟨od,J,hl⟩:=I.look;exact PySem.W.get_value X J (wS hg).1 (PySem.W.findObj_own hh ha rfl (by rw[hl,hv])) E7 h
theorem Cd(X:K.In s.heap)(I:xz s.heap x dx C mA)(hg:PySem.W.plainGet K C name=true)(hf:PySem.W.findIn K (.ref C) name=some (some (.ref f)))(ht:PySem.W.isFn K (.ref f)=true)(hv:mA name=none)(h:Q (.ref f,[.ref x]) s):
  wpAny (model prog w) A (getMethod (.ref x) name pl) Q E s:=by
 obtain⟨od,J,hl⟩:=I.look;exact PySem.W.method_fn X J (wS hg).1 (wS hg).2 hf (eM.mp ht) (by show (PySem.W.lookIn name od).map (·.isSome)=some false;rw[hl,hv];rfl) h
theorem E9(X:K.In s.heap)(I:xz s.heap x dx C mA)(hs:PySem.W.findIn K (.ref C) "__setattr__"=some (some (.builtin "object.__setattr__")))(hp:PySem.W.plainOver K C=true)(ht:PySem.W.takerIn K C name=some none)(hh:PySem.W.hasDictIn K C=true)(hw:PySem.Within mA ns)(iG:ns.length<=sizeLine)(h:∀h',xz h' x dx C (fun y=>if y=name then some v else mA y)->Heap.SameBut dx s.heap h'->Q () { s with heap:=h',toks:=s.toks+2 }):
  wpAny (model prog w) A (setAttr (.ref x) name v) Q E s:=by
 obtain⟨od,J,hl⟩:=I.look;refine PySem.W.set_plain X J hs (PySem.W.osa_open (s:={ s with toks:=s.toks+1 }) (r:=none) X J hp ht fun b=>?_);obtain⟨cd,hc,Ai⟩:=PySem.W.any_some hh;have hx:s.heap.get? x=some ⟨.ref C,some dx,.plain,#[]⟩:=I.obj;refine ak (wpAny_pure (ak (ak (wpAny_loadPart hx (ak (PySem.W.Looks.here (s:={ s with toks:=s.toks+1 }) (PySem.W.looks_clsIn X hc) ?_))))));rw[Ai];refine wpAny_pure (a:=some dx) (ak (wpAny_pure (ak ?_)));refine wpAny_nsSet1 (s:={ s with toks:=s.toks+1 }) I.ns fun h' Qu j9=>?_;obtain⟨oD,esD,epD,XT,My,E_⟩:=Qu.count (PySem.Within.cons name v hw);refine ak (wpAny_lookBehind XT (by rw[My];exact pastItsLine_dict (aX E_ (by rw[dv];lia))) ?_);exact wpAny_pure (h _ ⟨(j9.2 _ (dN I.ne)).trans I.obj,Qu,I.ne⟩ j9)
theorem Ce(X:K.In s.heap)(hm:PySem.W.makesIn K C=true)(hi:PySem.W.findIn K (.ref C) "__init__"=some (some (.ref f)))(hf:PySem.W.typeIn K (.ref f)=some (.type "function"))(h:codeAny (model prog w) (A.under (.builtin "type.__call__" ⟨.ref C::vs,kw⟩)) (.call (.ref f) ⟨.ref (s.heap.objs.size+1)::vs,kw⟩) (PySem.W.InitBack (s.heap.objs.size+1) R)
   { s with heap:=(s.heap.push PySem.W.emptyDict).push (PySem.W.instObj C s.heap.objs.size) }):
  codeAny (model prog w) A (.call (.ref C) ⟨vs,kw⟩) R s:=by
 obtain⟨hh,g,d,t,os⟩:=s;exact PySem.W.make_core (xf X hm) (PySem.W.looks_findIn X hi) (fun self=>PySem.W.bind_fn X self hf) (.inl rfl) h
theorem Ar(X:K.In s.heap)(hm:PySem.W.makesIn K C=true)(hi:PySem.W.findIn K (.ref C) "__init__"=some (some (.builtin "object.__init__")))(hb:∀self,PySem.W.Looks (model prog w) s.heap (bindSpecial (.builtin "object.__init__") self) (.builtin "object.__init__",[self]))(h:codeAny (model prog w) (A.under (.builtin "type.__call__" ⟨[.ref C],[]⟩)) (.call (.builtin "object.__init__") ⟨[.ref (s.heap.objs.size+1)],[]⟩) (PySem.W.InitBack (s.heap.objs.size+1) R)
   { s with heap:=(s.heap.push PySem.W.emptyDict).push (PySem.W.instObj C s.heap.objs.size) }):
  codeAny (model prog w) A (.call (.ref C) ⟨[],[]⟩) R s:=by
 obtain⟨hh,g,d,t,os⟩:=s;exact PySem.W.make_core (xf X hm) (PySem.W.looks_findIn X hi) hb (.inr ⟨rfl,rfl⟩) h
end
def cS(f:Str)(v:V):List (Str×V)->List (Str×V)
 |[]=>[(f,v)]
 |(g,x)::r=>if g=f then (g,v)::r else (g,x)::cS f v r
theorem bg(f g:Str)(v:V):∀fs:List (Str×V),(cS f v fs).lookup g=if g=f then some v else fs.lookup g
 |[]=>by
  show List.lookup g [(f,v)]=_;by_cases h:g=f
  .have hb:(g==f)=true:=eM.mpr h;simp only[List.lookup,hb,ao h]
  .have hb:(g==f)=false:=kD.mpr h;simp only[List.lookup,hb,aj h]
 |(k,x)::r=>by
  have ih:=bg f g v r;rw[show cS f v ((k,x)::r)=(if k=f then (k,v)::r else (k,x)::cS f v r) from rfl];by_cases hk:k=f
  .rw[ao hk];by_cases h:g=k
   .have hb:(g==k)=true:=eM.mpr h;simp only[List.lookup,hb,ao (h.trans hk)]
   .have hb:(g==k)=false:=kD.mpr h;simp only[List.lookup,hb,aj (fun e:g=f=>h (e.trans hk.symm))]
  .rw[aj hk];by_cases h:g=k
   .have hb:(g==k)=true:=eM.mpr h;simp only[List.lookup,hb,aj (fun e:g=f=>hk (h.symm.trans e))]
   .have hb:(g==k)=false:=kD.mpr h;simp only[List.lookup,hb];exact ih
theorem mX(f:Str)(v:V):∀fs:List (Str×V),f∈(cS f v fs).map (·.1)/\∀g,g∈fs.map (·.1)->g∈(cS f v fs).map (·.1)
 |[]=>⟨by simp[cS],fun g h=>by simp at h⟩
 |(k,x)::r=>by
  obtain⟨i1,i2⟩:=mX f v r;rw[show cS f v ((k,x)::r)=(if k=f then (k,v)::r else (k,x)::cS f v r) from rfl];by_cases hk:k=f
  .rw[ao hk];subst hk;exact⟨by simp,fun g h=>by simpa using h⟩
  .rw[aj hk];refine⟨?_,fun g h=>?_⟩
   .rw[ie];exact bP _ i1
   .rw[ie] at h |-;rcases aS.mp h with e|e
    .exact aS.mpr (.inl e)
    .exact bP _ (i2 g e)
theorem dB(f:Str)(v:V):∀fs:List (Str×V),(cS f v fs).length<=fs.length+1
 |[]=>by simp[cS]
 |(k,x)::r=>by
  have ih:=dB f v r;rw[show cS f v ((k,x)::r)=(if k=f then (k,v)::r else (k,x)::cS f v r) from rfl];by_cases hk:k=f
  .rw[ao hk,dv,dv];lia
  .rw[aj hk,dv,dv];lia
theorem qy.some_of(r:qy (some v) o):∃u,o=some u/\bw v u:=by
 cases o with
 |none=>exact(show False from r).elim
 |some u=>exact⟨u,rfl,r⟩
theorem qy.none_of(r:qy none o):o=none:=by
 cases o with
 |none=>rfl
 |some u=>exact(show False from r).elim
theorem As(r:bw v u):PySem.W.handedIn u=true:=by
 cases v with
 |bD=>cases (show u=Value.none from r);rfl
 |bl b=>cases (show u=Value.bool b from r);rfl
 |int i=>obtain⟨t,e⟩:=(show ∃t,u=Value.int i t from r);cases e;rfl
 |str x=>obtain⟨t,e⟩:=(show ∃t,u=Value.str x t from r);cases e;rfl
 |yL b=>obtain⟨t,e⟩:=(show ∃t,u=Value.bytes b t from r);cases e;rfl
 |II b=>obtain⟨t,e⟩:=(show ∃t,u=Value.float b t from r);cases e;rfl
 |ref a=>cases (show u=Value.ref a from r);rfl
 |ty n=>cases (show u=Value.type n from r);rfl
section
variable {P:Program} {w:World} {H H':Hp} {h h':Heap} {a C dx:Addr} {fs XN:List (Str×V)}
theorem oy(bE:kP P w H h)(e:H a=some (.ins C dx fs)):∃mA,xz h a dx C mA/\(∀f,qy (fs.lookup f) (mA f))/\PySem.Within mA (fs.map (·.1))/\fs.length<=1000/\H dx=some (.own a):=by
 obtain⟨d,z,ne,ob,mA,n,r,q⟩:=(show cK P w H h a (.ins C dx fs) from bE a _ e)
 exact⟨mA,⟨ob,n,ne⟩,r,q,z,d⟩
end
structure Cf(K:PySem.W.Frag)(C:Addr):Prop where
 pg:PySem.W.plainGet K C Str.empty=true
 hd:PySem.W.hasDictIn K C=true
 po:PySem.W.plainOver K C=true
 sa:PySem.W.findIn K (.ref C) "__setattr__"=some (some (.builtin "object.__setattr__"))
theorem Cf.get{K:PySem.W.Frag}{C:Addr}(c:Cf K C)(f:Str):PySem.W.plainGet K C f=true:=c.pg
def g9(K:PySem.W.Frag)(C:Addr)(f:Str):Prop:=PySem.W.findIn K (.ref C) f=some none
theorem g9.Mz{K:PySem.W.Frag}{C:Addr}{f:Str}(n:g9 K C f):PySem.W.takerIn K C f=some none:=by
 unfold PySem.W.takerIn;rw[show PySem.W.findIn K (.ref C) f=some none from n];rfl
structure IY(K:PySem.W.Frag)(C:Addr)(m:Str)(f:Addr):Prop where
 at_:PySem.W.findIn K (.ref C) m=some (some (.ref f))
 fn:PySem.W.isFn K (.ref f)=true
 kp:PySem.W.keepIn K (.ref f)=true
section
variable {X:Cx} {ae:List (Addr×Obj)} {σ:St} {H:Hp} {s:Shared} {a C dx:Addr} {fs:List (Str×V)} {f:Str} {v:V} {A:Around} {E:Value->Shared->Prop}
theorem xA(I:aE X ae σ H s)(e:H a=some (.ins C dx fs))(c:Cf X.K C)(n:g9 X.K C f)(l:fs.lookup f=some v)(h:∀u s',aE X ae σ H s'->bw v u->Q u s'):wpAny (model X.prog X.w) A (getAttr (.ref a) f b) Q E s:=by
 obtain⟨mA,O,r,_,_,_⟩:=oy I.bE e;obtain⟨u,hu,ru⟩:=qy.some_of (v:=v) (o:=mA f) (by rw[<-l];exact r f);exact E6 I.kR O (c.get f) c.hd n hu (As ru) (h u _ (I.tok _) ru)
theorem xB(I:aE X ae σ H s)(e:H a=some (.ins C dx fs))(c:Cf X.K C)(k:IY X.K C m g)(l:fs.lookup m=none)(h:Q (.ref g,[.ref a]) s):wpAny (model X.prog X.w) A (getMethod (.ref a) m pl) Q E s:=by
 obtain⟨mA,O,r,_,_,_⟩:=oy I.bE e;have hn:mA m=none:=qy.none_of (by rw[<-l];exact r m);exact Cd I.kR O (c.get m) k.at_ k.fn hn h
theorem xC(I:aE X ae σ H s)(e:H a=some (.ins C dx fs))(c:Cf X.K C)(n:g9 X.K C f)(hl:fs.length<1000)(ry:bw y u)(h:∀s',aE X ae σ (upd H a (.ins C dx (cS f y fs))) s'->Q () s'):wpAny (model X.prog X.w) A (setAttr (.ref a) f u) Q E s:=by
 obtain⟨mA,O,r,wi,_,ho⟩:=oy I.bE e;have hz:(fs.map (·.1)).length<=sizeLine:=by rw[aH,fw];lia
 refine E9 I.kR O c.sa c.po n.Mz c.hd wi hz fun h' O' sb=>h _ ?_;have hd:∃o,h'.get? dx=some o:=let ⟨o,_,_,e',_⟩:=O'.ns;⟨o,e'⟩;refine I.write (x:=a) (e:=dx) (by rw[e];exact True.intro) (.inr ho) (fun b q hb z=>(sb.2 b hb).trans z) hd ?_;refine⟨by rw[am O.ne];exact ho,?_,O.ne,O'.obj,_,O'.ns,fun g=>?_,fun g hg=>?_⟩
 .have:=dB f y fs;lia
 .show qy ((cS f y fs).lookup g) (if g=f then some u else mA g);rw[bg];by_cases q:g=f
  .rw[ao q,ao q];exact ry
  .rw[aj q,aj q];exact r g
 .by_cases q:g=f
  .rw[q];exact(mX f y fs).1
  .refine(mX f y fs).2 g (wi g fun z=>hg ?_);show (if g=f then some u else mA g)=none;rw[aj q];exact z
theorem aE.made(I:aE X ae σ H s):aE X ae σ (upd (upd H s.heap.objs.size (.own (s.heap.objs.size+1))) (s.heap.objs.size+1) (.ins C s.heap.objs.size []))
  { s with heap:=(s.heap.push PySem.W.emptyDict).push (PySem.W.instObj C s.heap.objs.size) }:=by
 have e1:(s.heap.push PySem.W.emptyDict).get? s.heap.objs.size=some PySem.W.emptyDict:=b_ s.heap rfl;have e2:((s.heap.push PySem.W.emptyDict).push (PySem.W.instObj C s.heap.objs.size)).get? (s.heap.objs.size+1)=some (PySem.W.instObj C s.heap.objs.size):=by
  have:=b_ (s.heap.push PySem.W.emptyDict) (o:=PySem.W.instObj C s.heap.objs.size) rfl;rwa [iT] at this
 have e3:(s.heap.push PySem.W.emptyDict).Ns s.heap.objs.size (fun _=>none):=⟨PySem.W.emptyDict,#[],_,e1,rfl,(fun e he=>absurd he (by simp)),fun _=>rfl⟩
 have I1:=I.laid (a:=s.heap.objs.size) (o:=.own (s.heap.objs.size+1)) (h':=s.heap.push PySem.W.emptyDict) (t':=s.toks) (fun b u q=>bv _ q) (aI _) ⟨_,e1⟩;refine I1.laid (a:=s.heap.objs.size+1) (o:=.ins C s.heap.objs.size []) (t':=s.toks) (fun b u q=>bv _ q) (pr (iT _ _)) ?_;have ne:s.heap.objs.size≠s.heap.objs.size+1:=aM (j7 _);refine⟨by rw[am ne,af],ce _,ne,e2,fun _=>none,(Heap.Ns1.of_empty e3).at fun o q=>bv _ q,fun _=>True.intro,fun y hy=>absurd rfl hy⟩
theorem Fa(hb:attributeBase e f env (eval e env)=eval e env)(h:wpAny (model prog w) A (eval e env) (fun o s₁=>wpAny (model prog w) A (getAttr o f true) Q E s₁) E s):wpAny (model prog w) A (eval (.Attribute e f pos) env) Q E s:=
 Attribute_any_ h (by rw[arm_eval_Attribute,hb])
end
def IZ(K:PySem.W.Frag)(ta:TE)(f:Str):TE:=fun σ H Q=>ta σ H fun x H1=>∃a C dx fs v,x=.ref a/\H1 a=some (.ins C dx fs)/\Cf K C/\g9 K C f/\fs.lookup f=some v/\Q v H1
def RC(K:PySem.W.Frag)(ta tv:TE)(f:Str):TS:=fun D σ H=>tv σ H fun y H1=>ta σ H1 fun x H2=>∃a C dx fs,x=.ref a/\H2 a=some (.ins C dx fs)/\Cf K C/\g9 K C f/\fs.length<1000/\
 D.nx σ (upd H2 a (.ins C dx (cS f y fs)))
section
variable {X:Cx} {o e value:Expr} {f:Str} {pos Ak xD:Pos} {ta tv:TE}
theorem kT(he:PE X e ta)(hb:attributeBase e f X.env (eval e X.env)=eval e X.env):PE X (.Attribute e f pos) (IZ X.K ta f):=by
 intro ae s σ H Q I h;refine Fa hb (cI (he ae s σ H _ I h) fun u s1 ⟨x,H1,I1,rx,a,C,dx,fs,v,ex,ea,c,n,l,q⟩=>?_);subst ex;obtain rfl:u=Value.ref a:=rx;exact xA I1 ea c n l fun u' s2 I2 ru=>⟨v,H1,I2,ru,q⟩
theorem sP(ha:PE X o ta)(hv:PE X value tv)(hs:swapsWith value (some (.Attribute o f Ak)) pos.line X.env=pure false):PS X (.Assign [.Attribute o f Ak] value pos) (RC X.K ta tv f):=by
 intro ae s σ H D I h;refine plainObj_wpAny_Assign_Attribute (cI (hv ae s σ H _ I h) fun u s1 ⟨y,H1,I1,ry,q⟩=>cI (ha ae s1 σ H1 _ I1 q) fun ov s2 ⟨x,H2,I2,rx,a,C,dx,fs,ex,ea,c,n,l,q2⟩=>?_) hs;subst ex;obtain rfl:ov=Value.ref a:=rx;exact xC I2 ea c n l ry fun s3 I3=>⟨σ,_,I3,q2⟩
end
section
variable {X:Cx} {ae:List (Addr×Obj)} {σ:St} {H:Hp} {s:Shared} {A:Around} {E:Value->Shared->Prop} {Q:Value->Shared->Prop} {c:Value} {b:Bool}
inductive mY (K:PySem.W.Frag) (H:Hp):V->Value->Prop where
 |bD:mY K H .bD (.type "NoneType")
 |bl (x:Bool):mY K H (.bl x) (.type "bool")
 |int (i:Int):mY K H (.int i) (.type "int")
 |str (x:Str):mY K H (.str x) (.type "str")
 |II (x:UInt64):mY K H (.II x) (.type "float")
 |lst {a:Addr} {xs:List V} (e:H a=some (.lst xs)):mY K H (.ref a) (.type "list")
 |uJ {a:Addr} {o:Obj} {xs:List V} (e:H a=some (.uJ o (.lst xs))):mY K H (.ref a) (.type "list")
 |tup {a:Addr} {xs:List V} (e:H a=some (.tup xs)):mY K H (.ref a) (.type "tuple")
 |dK {a:Addr} {hW:List (qx×V)} (e:H a=some (.dK hW)):mY K H (.ref a) (.type "dict")
 |dT {a:Addr} {hW:List (List qx×V)} (e:H a=some (.dT hW)):mY K H (.ref a) (.type "dict")
 |ins {a C dx:Addr} {fs:List (Str×V)} (e:H a=some (.ins C dx fs)) (cl:Cf K C) (ha:PySem.W.findIn K (.ref C) "__class__"=some (some (.builtin "object.__class__")))
   (hn:PySem.W.specialIn K (.builtin "object.__class__") "__get__"=some (some (.builtin "getset_descriptor.__get__"))) (MB:PySem.W.takesIn K (.builtin "object.__class__")=some true)
   (hm:PySem.W.mroIn K C (.type "object")=some true):mY K H (.ref a) (.ref C)
theorem qU(I:aE X ae σ H s)(rx:bw x u)(ty:mY X.K H x t)(e:PySem.W.kitOne X.K t c=some b)(h:∀tk,Q (.bool b) { s with toks:=tk }):
  wpAny (model X.prog X.w) A (call (.builtin "isinstance") [u,c]) Q E s:=by
 cases ty with
 |bD=>cases (show u=Value.none from rx);exact h_ PySem.W.kitx_none I.kR True.intro e (fun z=>nomatch z) h
 |bl y=>cases (show u=Value.bool y from rx);exact h_ PySem.W.kitx_bool I.kR True.intro e (fun z=>nomatch z) h
 |int i=>obtain⟨t,q⟩:=(show ∃t,u=Value.int i t from rx);cases q;exact h_ PySem.W.kitx_int I.kR True.intro e (fun z=>nomatch z) h
 |str y=>obtain⟨t,q⟩:=(show ∃t,u=Value.str y t from rx);cases q;exact h_ PySem.W.kitx_str I.kR True.intro e (fun z=>nomatch z) h
 |II y=>obtain⟨t,q⟩:=(show ∃t,u=Value.float y t from rx);cases q;exact h_ PySem.W.kitx_float I.kR True.intro e (fun z=>nomatch z) h
 |@lst a xs ea=>
  cases (show u=Value.ref a from rx);obtain⟨_,_,n,_,h1⟩:=(show cK X.prog X.w H s.heap a (.lst xs) from I.bE a _ ea)
  exact h_ PySem.W.kitx_list I.kR ⟨_,h1,rfl⟩ e (fun z=>nomatch z) h
 |@uJ a ob xs ea=>
  cases (show u=Value.ref a from rx);obtain⟨_,_,_,n,_,h1⟩:=(show cK X.prog X.w H s.heap a (.uJ ob (.lst xs)) from I.bE a _ ea)
  exact h_ PySem.W.kitx_list I.kR ⟨_,h1,rfl⟩ e (fun z=>nomatch z) h
 |@tup a xs ea=>
  cases (show u=Value.ref a from rx);obtain⟨_,_,_,p⟩:=(show cK X.prog X.w H s.heap a (.tup xs) from I.bE a _ ea)
  obtain⟨o,h1,h2,_⟩:=p;exact h_ PySem.W.kitx_tuple I.kR ⟨o,h1,h2⟩ e (fun z=>nomatch z) h
 |@dK a hW ea=>
  cases (show u=Value.ref a from rx);obtain⟨_,_,vs,_,p⟩:=(show cK X.prog X.w H s.heap a (.dK hW) from I.bE a _ ea)
  obtain⟨o,es,ep,h1,h2,_⟩:=p;exact h_ PySem.W.kitx_dict I.kR ⟨o,h1,h2.1⟩ e (fun z=>nomatch z) h
 |@dT a hW ea=>
  cases (show u=Value.ref a from rx);obtain⟨_,_,xs,_,o,es,ep,h1,h2,_⟩:=(show cK X.prog X.w H s.heap a (.dT hW) from I.bE a _ ea)
  exact h_ PySem.W.kitx_dict I.kR ⟨o,h1,h2.1⟩ e (fun z=>nomatch z) h
 |@ins a C dx fs ea cl ha hn MB hm=>
  cases (show u=Value.ref a from rx);obtain⟨mA,O,_⟩:=oy I.bE ea;obtain⟨od,J,_⟩:=O.look;exact h_ (PySem.W.kitx_own (cl.get _) cl.hd ha hn MB hm) I.kR J e (fun z=>nomatch z) h
end
structure bA(k:Nat)(A:Around):Prop where
 hd:A.handled=none
 dp:A.depth+3*k+5<recursionLimit
 un:A.units+16*k+200<cLine
 gd:A.guards=some []
theorem bA.mono(r:bA k A)(h:j<=k):bA j A:=⟨r.hd,by have:=r.dp;lia,by have:=r.un;lia,r.gd⟩
theorem bA.deeper(r:bA (k+1) A)(env:Env):bA k (A.deeper env):=
 ⟨r.hd,by have:=r.dp;show A.depth+1+3*k+5<_;lia,by have:=r.un;show A.units+3+16*k+200<_;lia,r.gd⟩
theorem bA.in1(r:bA (k+1) A):bA k A.in1:=
 ⟨r.hd,by have:=r.dp;show A.depth+3*k+5<_;lia,by have:=r.un;show A.units+1+16*k+200<_;lia,r.gd⟩
theorem xE{A:Around}{C:Addr}{us:List Value}{kw:List (Str×Value)}:(A.under (.builtin "type.__call__" ⟨.ref C::us,kw⟩)).depth=A.depth+1:=by
 first|rfl|simp[Around.under,Code.weight,Code.isCreation,Code.isGuard,Code.isCaller,Code.frames,Code.isFrame,guardIds]
theorem xF{A:Around}{C:Addr}{us:List Value}{kw:List (Str×Value)}:(A.under (.builtin "type.__call__" ⟨.ref C::us,kw⟩)).units=A.units+1:=by
 first|rfl|simp[Around.under,Code.cUnits,Code.frames,Code.isFrame]
theorem bA.make(r:bA (k+1) A)(C:Addr)(us:List Value)(kw:List (Str×Value)):bA k (A.under (.builtin "type.__call__" ⟨.ref C::us,kw⟩)):=
 ⟨r.hd,by have:=r.dp;rw[xE];lia,by have:=r.un;rw[xF];lia,r.gd⟩
theorem bA.depth(r:bA k A):A.depth<recursionLimit:=by have:=r.dp;lia
theorem bA.u(r:bA k A)(h:n<=200:=by decide):A.units+n<cLine:=by have:=r.un;lia
def kU:TA:=fun _ H Q=>Q [] H
def cA(ta:TE)(tr:TA):TA:=fun σ H Q=>ta σ H fun x H1=>tr σ H1 fun xs H2=>Q (x::xs) H2
section
variable {X:Cx} {e:Expr} {es:List Expr} {te:TE} {t:TA} {pos:Pos}
theorem ag:PA X [] kU:=fun _ _ _ _ H Q I h=>Calls.spliced_nil ⟨[],H,I,.nil,h⟩
theorem aa(ha:PE X e te)(hr:PA X es t)(hs:starEach (e::es) X.env=(false,eval e X.env)::starEach es X.env:=by rfl):PA X (e::es) (cA te t):=by
 intro pos ae s σ H Q I h;rw[hs];show wpAny _ _ (spliced ((false,eval e X.env)::backTo pos (starEach es X.env))) _ _ s;refine Calls.spliced_cons (cI (ha ae s σ H _ I h) fun u s1 ⟨x,H1,I1,r1,q1⟩=>?_);exact cI (hr pos ae s1 σ H1 _ I1 q1) fun us s2 ⟨xs,H2,I2,r2,q2⟩=>⟨x::xs,H2,I2,.cons r1 r2,q2⟩
def I0(t:TA):TE:=fun σ H Q=>t σ H fun xs H1=>xs.length<=sizeLine/\∀p,H1 p=none->Q (.ref p) (upd H1 p (.tup xs))
def RD(t:TA):TE:=fun σ H Q=>t σ H fun xs H1=>xs.length<=sizeLine/\∀p,H1 p=none->Q (.ref p) (upd H1 p (.lst xs))
theorem iH{x1}(h:PA X es t):PE X (.Tuple es x1 pos) (I0 t):=by
 intro ae s σ H Q I hq;refine wpAny_Tuple_spliced (cI (h pos ae s σ H _ I hq) fun us s1 ⟨xs,H1,I1,r,z,q⟩=>⟨by rw[<-r.length];exact z,?_⟩);have hf:H1 s1.heap.objs.size=none:=I1.bE.fresh (aI _);refine⟨.ref s1.heap.objs.size,upd H1 s1.heap.objs.size (.tup xs),I1.laid (t':=s1.toks) (fun b u e=>bv _ e) (aI _) ?_,rfl,q _ hf⟩;exact⟨z,us,r,⟨_,b_ _ rfl,rfl,_,rfl,rfl⟩⟩
theorem dP(h:PA X es t):PE X (.List es pos) (RD t):=by
 intro ae s σ H Q I hq;refine wpAny_List_spliced (cI (h pos ae s σ H _ I hq) fun us s1 ⟨xs,H1,I1,r,z,q⟩=>⟨by rw[<-r.length];exact z,?_⟩);have hf:H1 s1.heap.objs.size=none:=I1.bE.fresh (aI _);refine⟨.ref s1.heap.objs.size,upd H1 s1.heap.objs.size (.lst xs),I1.laid (t':=s1.toks) (fun b u e=>bv _ e) (aI _) ?_,rfl,q _ hf⟩;exact⟨z,us,0,r,b_ _ rfl⟩
end
abbrev Sp:=List V->Hp->VK->XK->Prop
abbrev wm:=List Env->Hp->Shared->XK->Value->Shared->Prop
structure uZ(P:Program)(w:World)(K:PySem.W.Frag)(mg:Str->Option Value)(base:Heap)(A:Around)(outer:List Env)(s:Shared)(H:Hp):Prop where
 frames:A.frames=some outer
 mod:Mod K mg base
 bs:∀b o,base.get? b=some o->s.heap.get? b=some o/\H b=none
 Ah:base.objs.size<=s.heap.objs.size
 mT:s.heap.FunFrames base outer
 IJ:∀b∈Ag outer,H b=none
 bE:kP P w H s.heap
 bare:AllBare s.gens
def CE(outer:List Env)(P:Program)(w:World)(H:Hp)(s:Shared)(Q:VK)(u:Value)(s':Shared):Prop:=
 ∃v H',s'.os=s.os/\AllBare s'.gens/\Un (Ag outer) [] H H' s.heap s'.heap/\kP P w H' s'.heap/\bw v u/\Q v H'
def CR(CX:wm)(outer:List Env)(P:Program)(w:World)(H:Hp)(s:Shared)(Q:VK)(E:XK)(r:Result)(s':Shared):Prop:=
 match r with
 |.ok (.ret u)=>CE outer P w H s Q u s'
 |.ok _=>False
 |.error e=>CX outer H s E e s'
structure bq(P:Program)(w:World)(K:PySem.W.Frag)(mg:Str->Option Value)(base:Heap)(CX:wm)(k:Nat)(f:Addr)(fd:FuncData)(ps:List Str)(sp:Sp):Prop where
 len:∀vs H Q E,sp vs H Q E->vs.length=ps.length
 run:∀ (A:Around) (outer:List Env) (s:Shared) (H:Hp) (args:Args) (us:List Value) (vs:List V) (Q:VK) (E:XK),bA k A->uZ P w K mg base A outer s H->BindsTo s fd args (ps.zip us)->aO vs us->sp vs H Q E->
  codeAny (model P w) A (.call (.ref f) args) (CR CX outer P w H s Q E) s
theorem uZ.make{P:Program}{w:World}{K:PySem.W.Frag}{mg:Str->Option Value}{base:Heap}{A:Around}{outer:List Env}{s:Shared}{H:Hp}(e:uZ P w K mg base A outer s H)(C:Addr)(us:List Value)(kw:List (Str×Value)):
  uZ P w K mg base (A.under (.builtin "type.__call__" ⟨.ref C::us,kw⟩)) outer s H:=⟨by first|exact e.frames|(simpa [Around.under,Code.envs,Code.isFrame,pushEnvs] using e.frames),e.mod,e.bs,e.Ah,e.mT,e.IJ,e.bE,e.bare⟩
section
variable {X:Cx} {ae:List (Addr×Obj)} {σ:St} {H:Hp} {s s':Shared}
theorem aE.I_(I:aE X ae σ H s):uZ X.prog X.w X.K X.mg X.base X.A X.stack s H:=
 ⟨I.ok.frames,I.ok.mod,I.bs,aX I.ok.Ah I.sz,I.stack,I.lD,I.bE,I.bare⟩
theorem aE.after(I:aE X ae σ H s)(h:CE X.stack X.prog X.w H s Q u s'):EP X ae σ Q u s':=by
 obtain⟨v,H',os,bare,un,bE,r,q⟩:=h;obtain⟨hh,g,d,t,XU⟩:=s';obtain rfl:XU=s.os:=os;exact⟨v,H',I.call (h':=hh) (g':=g) (d':=d) (t':=t) (ch:=[]) un bE bare (fun b z=>absurd z (by simp)),r,q⟩
end
def nR(sp:Sp)(qG:List V)(E:XK)(t:TA):TE:=fun σ H Q=>t σ H fun vs H1=>sp (vs++qG) H1 Q E
def Cg(C:Addr)(m:Str)(sp:Sp)(qG:List V)(E:XK)(ta:TE)(t:TA):TE:=fun σ H Q=>ta σ H fun x H1=>∃a dx fs,x=.ref a/\H1 a=some (.ins C dx fs)/\fs.lookup m=none/\
 t σ H1 fun vs H2=>sp (x::(vs++qG)) H2 Q E
def MH(C:Addr)(sp:Sp)(qG:List V)(E:XK)(t:TA):TE:=fun σ H Q=>t σ H fun vs H1=>∀x dx,H1 x=none->H1 dx=none->dx≠x->
 sp (.ref x::(vs++qG)) (upd (upd H1 dx (.own x)) x (.ins C dx [])) (fun v H2=>v=.bD/\Q (.ref x) H2) E
def js(K:PySem.W.Frag)(fd:FuncData)(ps:List Str)(ds:List Value):Prop:=
 ∀ (s:Shared) (us:List Value),K.In s.heap->(us++ds).length=ps.length->BindsTo s fd ⟨us,[]⟩ (ps.zip (us++ds))
theorem js.all{K:PySem.W.Frag}{fd:FuncData}{ps:List Str}(h:∀us:List Value,us.length=ps.length->bindArgs fd ⟨us,[]⟩=pure (ps.zip us)):js K fd ps []:=fun s us _ hl=>by
 rw[iz] at hl |-;exact .of_eq (h us hl)
def kW(CX:wm)(X:Cx)(E:XK):Prop:=∀ (ae:List (Addr×Obj)) (σ:St) (H:Hp) (s:Shared) (e:Value) (s':Shared),aE X ae σ H s->CX X.stack H s E e s'->X.xe e s'
section
variable {X:Cx} {CX:wm} {k:Nat} {f C:Addr} {fd:FuncData} {ps:List Str} {sp:Sp} {qG:List V} {ds:List Value} {E:XK} {x m:Str} {p pos sQ:Pos} {e o:Expr} {es:List Expr} {ta:TE} {t:TA}
theorem Ch(F:bq X.prog X.w X.K X.mg X.base CX k f fd ps sp)(hr:bA k X.A)(hb:js X.K fd ps ds)(hd:aO qG ds)(hx:kW CX X E)(I:aE X ae σ H s)(r:aO vs us)(h:sp (vs++qG) H Q E):wpAny (model X.prog X.w) X.A (call (.ref f) us) (EP X ae σ Q) X.xe s:=by
 have r2:aO (vs++qG) (us++ds):=r.append hd;have hl:(us++ds).length=ps.length:=by rw[<-r2.length];exact F.len _ _ _ _ h
 refine jm (kN (F.run X.A X.stack s H ⟨us,[]⟩ (us++ds) (vs++qG) Q E hr I.I_ (hb s us I.kR hl) r2 h) fun r s' hq=>?_);cases r with
 |error e=>exact hx ae σ H s e s' I hq
 |ok fl=>
  cases fl with
  |ret u=>exact I.after hq
  |next=>exact False.elim hq
  |brk=>exact False.elim hq
  |cont=>exact False.elim hq
theorem Fb(F:bq X.prog X.w X.K X.mg X.base CX k f fd ps sp)(hr:bA k X.A)(hg:Gl X x)(hm:X.mg x=some (.ref f))(hk:PySem.W.keepIn X.K (.ref f)=true)(hb:js X.K fd ps ds)(hd:aO qG ds)(hx:kW CX X E)(ha:PA X (e::es) t)(xG:(x==("__debug__":Str))=false:=by decide)(he:starEach (e::es) X.env=(false,eval e X.env)::starEach es X.env:=by rfl)(wn:(backTo pos (starEach es X.env)).any (·.1)=false:=by rfl):
  PE X (.Call (.Name x p) (e::es) [] pos) (nR sp qG E t):=by
 intro ae s σ H Q I h;refine jd (lF I hg hm ?_ xG);refine rY (h₀:=X.base) I.ok.mod.Lp hk (cI (ha pos ae s σ H _ I h) fun us s1 ⟨vs,H1,I1,r,q⟩=>⟨I1.kR,?_⟩) he wn;exact Ch F hr hb hd hx I1 r q
theorem fm(he:PE X o ta)(c:Cf X.K C)(hm:IY X.K C m f)(F:bq X.prog X.w X.K X.mg X.base CX k f fd ps sp)(hr:bA k X.A)(hb:js X.K fd ps ds)(hd:aO qG ds)(hx:kW CX X E)(ha:PA X (e::es) t)(lG:starEach (e::es) X.env=(false,eval e X.env)::starEach es X.env:=by rfl)(wn:(backTo pos (starEach es X.env)).any (·.1)=false:=by rfl)(ht:eval (.Call (.Attribute o m sQ) (e::es) [] pos) X.env=(do
   let ov <- eval o X.env
   standAt sQ.atName
   let (f,first) <- holding [ov] (getMethod ov m pl)
   callWith pos f first (backTo pos (starEach (e::es) X.env)) (backToKw pos (keywordEach [] X.env))):=by rfl):
  PE X (.Call (.Attribute o m sQ) (e::es) [] pos) (Cg C m sp qG E ta t):=by
 intro ae s σ H Q I h;refine PySem.W.methodCall_KW (pl:=pl) (cI (he ae s σ H _ I h) fun u s1 ⟨x,H1,I1,rx,a,dx,fs,ex,ea,l,q⟩=>?_) ht;subst ex;obtain rfl:u=Value.ref a:=rx;refine xB I1 ea c hm l ?_;refine rY (first:=[.ref a]) (h₀:=X.base) I.ok.mod.Lp hm.kp (cI (ha pos ae s1 σ H1 _ I1 q) fun us s2 ⟨vs,H2,I2,r,q2⟩=>⟨I2.kR,?_⟩) lG wn;exact Ch (us:=.ref a::us) (vs:=.ref a::vs) F hr hb hd hx I2 (.cons rfl r) q2
structure Mk(K:PySem.W.Frag)(C f:Addr):Prop where
 makes:PySem.W.makesIn K C=true
 init:PySem.W.findIn K (.ref C) "__init__"=some (some (.ref f))
 fn:PySem.W.isFn K (.ref f)=true
 kp:PySem.W.keepIn K (.ref C)=true
theorem Cj(M:Mk X.K C f)(F:bq X.prog X.w X.K X.mg X.base CX k f fd ps sp)(hr:bA (k+1) X.A)(hb:js X.K fd ps ds)(hd:aO qG ds)(hx:kW CX X E)(I:aE X ae σ H s)(r:aO vs us)(h:∀x dx,H x=none->H dx=none->dx≠x->sp (.ref x::(vs++qG)) (upd (upd H dx (.own x)) x (.ins C dx [])) (fun v H2=>v=.bD/\Q (.ref x) H2) E):
  wpAny (model X.prog X.w) X.A (call (.ref C) us) (EP X ae σ Q) X.xe s:=by
 have hq:=h (s.heap.objs.size+1) s.heap.objs.size (I.bE.fresh (pB _)) (I.bE.fresh (aI _)) (aM (j7 _));have I2:=aE.made (C:=C) I;have r2:aO (V.ref (s.heap.objs.size+1)::(vs++qG)) (Value.ref (s.heap.objs.size+1)::(us++ds)):=.cons rfl (r.append hd);have hl:(Value.ref (s.heap.objs.size+1)::us++ds).length=ps.length:=by
  have e:=r2.length;rw[F.len _ _ _ _ hq] at e;exact e.symm
 refine jm (Ce (f:=f) I.kR M.makes M.init (eM.mp M.fn) (kN (F.run _ X.stack _ _ ⟨Value.ref (s.heap.objs.size+1)::us,[]⟩ (Value.ref (s.heap.objs.size+1)::(us++ds)) _ _ E (hr.make C us [])
  (I2.I_.make C us []) (hb _ (Value.ref (s.heap.objs.size+1)::us) I2.kR hl) r2 hq) fun r s' Ja=>?_))
 cases r with
 |error e=>exact hx ae σ _ _ e s' I2 Ja
 |ok fl=>
  cases fl with
  |ret u=>
   obtain⟨v,H',I3,rv,ev,q3⟩:=I2.after Ja;subst ev;exact⟨rv,⟨V.ref (s.heap.objs.size+1),H',I3,rfl,q3⟩⟩
  |next=>exact False.elim Ja
  |brk=>exact False.elim Ja
  |cont=>exact False.elim Ja
theorem Fc(M:Mk X.K C f)(F:bq X.prog X.w X.K X.mg X.base CX k f fd ps sp)(hr:bA (k+1) X.A)(hg:Gl X x)(hm:X.mg x=some (.ref C))(hb:js X.K fd ps ds)(hd:aO qG ds)(hx:kW CX X E)(ha:PA X (e::es) t)(xG:(x==("__debug__":Str))=false:=by decide)(he:starEach (e::es) X.env=(false,eval e X.env)::starEach es X.env:=by rfl)(wn:(backTo pos (starEach es X.env)).any (·.1)=false:=by rfl):
  PE X (.Call (.Name x p) (e::es) [] pos) (MH C sp qG E t):=by
 intro ae s σ H Q I h;refine jd (lF I hg hm ?_ xG);refine rY (h₀:=X.base) I.ok.mod.Lp M.kp (cI (ha pos ae s σ H _ I h) fun us s1 ⟨vs,H1,I1,r,q⟩=>⟨I1.kR,?_⟩) he wn;exact Cj M F hr hb hd hx I1 r q
end
def PK(X:Cx)(Ck:List Keyword)(t:TA):Prop:=
 ∀ (pos:Pos) (ae:List (Addr×Obj)) (s:Shared) (σ:St) (H:Hp) (Q:List V->Hp->Prop),aE X ae σ H s->t σ H Q->wpAny (model X.prog X.w) X.A (evalAll ((backToKw pos (keywordEach Ck X.env)).map (·.2))) (AP X ae σ Q) X.xe s
section
variable {X:Cx} {CX:wm} {k:Nat} {f C:Addr} {fd:FuncData} {ps ks:List Str} {sp:Sp} {E:XK} {x m:Str} {p pos sQ RE:Pos} {e o:Expr} {es:List Expr} {Ck:List Keyword} {te ta:TE} {t tk:TA} {nm:Option Str}
theorem pL:PK X [] kU:=fun _ _ _ _ H Q I h=>wpAny_evalAll_nil ⟨[],H,I,.nil,h⟩
theorem lL(ha:PE X e te)(hr:PK X Ck t):PK X (⟨nm,e,RE⟩::Ck) (cA te t):=by
 intro pos ae s σ H Q I h;show wpAny _ _ (evalAll ((do let v <- eval e X.env;standAt pos;pure v)::(backToKw pos (keywordEach Ck X.env)).map (·.2))) _ _ s;refine wpAny_evalAll_cons (ak (cI (ha ae s σ H _ I h) fun u s1 ⟨x,H1,I1,r1,q1⟩=>ak (mI (wpAny_pure ?_))));exact cI (hr pos ae s1 σ H1 _ I1 q1) fun us s2 ⟨xs,H2,I2,r2,q2⟩=>⟨x::xs,H2,I2,.cons r1 r2,q2⟩
variable {g:List Value->List Value->List Value} {gV:List V->List V->List V}
end
structure aG(N P:List Str)(sc:Scope):Prop where
 kind:sc.kind=.function
 co:sc.isCoroutine=false
 gen:sc.isGenerator=false
 nd:N.Nodup
 pre:N.take P.length=P
 par:∀x∈P,sc.names.lookup x=some .local\/sc.names.lookup x=some .cell
 Jb:∀y∈sc.names,y.2≠.free
theorem qV{kindOf:Str->Option NameKind}{x:Str}:∀ {binds:List (Str×Value)} {m:Str->Option Value},(∀v,(x,v)∉binds)->bindL kindOf binds m x=m x
 |[],_,_=>rfl
 |(n,v)::r,m,h=>by
  unfold bindL;rw[qV fun w hw=>h w (bP _ hw)];split
  .have:x≠n:=by rintro rfl;exact h v cD
   simp[this]
  .rfl
theorem qW{kindOf:Str->Option NameKind}{x:Str}:∀ {binds:List (Str×Value)} {m:Str->Option Value},(∀v,(x,v)∉binds)->bindC kindOf binds m x=m x
 |[],_,_=>rfl
 |(n,v)::r,m,h=>by
  unfold bindC;rw[qW fun w hw=>h w (bP _ hw)];split
  .rfl
  .have:x≠n:=by rintro rfl;exact h v cD
   simp[this]
theorem qX{kindOf:Str->Option NameKind}{x:Str}{v:Value}:∀ {P:List Str} {vs:List Value} {i:Nat} {m:Str->Option Value},P.Nodup->P[i]?=some x->vs[i]?=some v->kindOf x=some .local->
  bindL kindOf (P.zip vs) m x=some v
 |[],_,_,_,_,h,_,_=>by simp at h
 |_::_,[],_,_,_,_,h,_=>by simp at h
 |p::P,w::vs,0,m,nd,h1,h2,hk=>by
  simp at h1 h2;subst h1;subst h2;show bindL kindOf ((p,w)::P.zip vs) m p=_;unfold bindL;rw[qV fun v hv=>(fZ.mp nd).1 (my hv).1,ao hk];simp
 |p::P,w::vs,i+1,m,nd,h1,h2,hk=>by
  show bindL kindOf ((p,w)::P.zip vs) m x=_;unfold bindL;exact qX (i:=i) (fZ.mp nd).2 (by simpa using h1) (by simpa using h2) hk
theorem qY{kindOf:Str->Option NameKind}{x:Str}{v:Value}:∀ {P:List Str} {vs:List Value} {i:Nat} {m:Str->Option Value},P.Nodup->P[i]?=some x->vs[i]?=some v->kindOf x≠some .local->
  bindC kindOf (P.zip vs) m x=some v
 |[],_,_,_,_,h,_,_=>by simp at h
 |_::_,[],_,_,_,_,h,_=>by simp at h
 |p::P,w::vs,0,m,nd,h1,h2,hk=>by
  simp at h1 h2;subst h1;subst h2;show bindC kindOf ((p,w)::P.zip vs) m p=_;unfold bindC;rw[qW fun v hv=>(fZ.mp nd).1 (my hv).1,aj hk];simp
 |p::P,w::vs,i+1,m,nd,h1,h2,hk=>by
  show bindC kindOf ((p,w)::P.zip vs) m x=_;unfold bindC;exact qY (i:=i) (fZ.mp nd).2 (by simpa using h1) (by simpa using h2) hk
def start(N:List Str)(vs:List V):St:=vs.map some++List.replicate (N.length-vs.length) none
def pM(CX:wm)(P:Program)(w:World)(K:PySem.W.Frag)(mg:Str->Option Value)(base:Heap)(N:List Str)(qual:Str)(scope:Scope)(f:Addr)(cd:Value)(A:Around)(outer:List Env)(s:Shared)(H:Hp)(E:XK):Cx where
 prog:=P
 w:=w
 K:=K
 mg:=mg
 base:=base
 A:=A.deeper (envOfC qual scope s.heap.objs.size f cd)
 N:=N
 s₀:=s
 H₀:=H
 env:=envOfC qual scope s.heap.objs.size f cd
 outer:=outer
 stack:=envOfC qual scope s.heap.objs.size f cd::outer
 ex:=[]
 calm:=true
 fn:=fun _=>true
 pn:=[]
 xe:=fun e s'=>wpAny (model P w) (A.deeper (envOfC qual scope s.heap.objs.size f cd)) (leaving (envOfC qual scope s.heap.objs.size f cd) e) (fun _ EI=>CX outer H s E e EI) (fun e' EI=>CX outer H s E e' EI) s'
theorem u3{sc:Scope}{n:Nat}{x:Str}(h:sc.names.lookup x=some .cell):∃c,(cellsFrom n sc.names []).lookup x=some c:=by
 have q:=PySem.W.cellsFrom_some sc.names n [] (.inl h);exact rM.mp q
theorem At{CX:wm}{P:Program}{w:World}{K:PySem.W.Frag}{mg:Str->Option Value}{base:Heap}{N ps:List Str}{qual:Str}{scope:Scope}{f:Addr}{cd:Value}{A:Around}{outer:List Env}{s s1:Shared}{H:Hp}{E:XK}{us:List Value}{vs:List V}(S:aG N ps scope)(hd:A.handled=none)(e0:uZ P w K mg base A outer s H)(hl:vs.length=ps.length)(r:aO vs us)(x:InCallC s s.heap.objs.size (bindL (envOfC qual scope s.heap.objs.size f cd).kindOf (ps.zip us) fun _=>none) (cellsFrom (s.heap.objs.size+1) scope.names []) (bindC (envOfC qual scope s.heap.objs.size f cd).kindOf (ps.zip us) fun _=>none) s1):
  aE (pM CX P w K mg base N qual scope f cd A outer s H E) [] (start N vs) H s1:=by
 have wn:ps.length<=N.length:=by have:=congrArg List.length S.pre;rw[pc] at this;lia
 obtain⟨h1,tk,rfl,hk⟩:=x.done;have Lv:∀b:Addr,b∉(pM CX P w K mg base N qual scope f cd A outer s H E).ex:=fun b z=>absurd (show b∈([]:List Addr) from z) (by simp);refine⟨⟨e0.mod,S.kind,rfl,rfl,aI _,fun y z c h1 h2=>?_,fun y hy=>?_,fun y c _ h=>?_,fun _=>hd,xb e0.frames,.inr ⟨rfl,rfl⟩,fun b z=>absurd z (Lv b),e0.bs,e0.Ah,fun b _ _=>Lv b,fun b z=>absurd z (Lv b),e0.mT,e0.IJ⟩,
  rfl,e0.bare,Un.kept hk,⟨_,x.toInCall.ns,fun i y v h1 h2 h3=>?_⟩,fun y c h=>⟨_,x.cell y c h⟩,e0.bE.fresh (aI _),fun y c h=>?_,fun p hp=>absurd (show p∈([]:List (Addr×Obj)) from hp) (by simp),e0.bE.kept hk,?_⟩
 .exact name_of_addr x.apart (gE h1) (gE h2)
 .have hy:scope.names.lookup y=some .cell\/scope.names.lookup y=some .free:=hy;rcases hy with hy|hy
  .exact u3 hy
  .exact absurd rfl (S.Jb _ (gE hy))
 .exact iB (x.above y c (gE h))
 .have hi:i<vs.length:=by
   unfold start at h2;by_cases hi:i<vs.length
   .exact hi
   .rw[oQ (by simpa using hi)] at h2;rw[wD] at h2;split at h2 <;> cases h2
  have ha:vs[i]?=some v:=by
   unfold start at h2;rw[nL (by simpa using hi),bi] at h2;cases e:vs[i]? with
   |none=>rw[e] at h2;cases h2
   |some a=>rw[e] at h2;cases h2;rfl
  obtain⟨u,hu,rv⟩:=r.get ha;have hp:ps[i]?=some y:=by
   rw[<-S.pre,BV (by lia)];exact h1
  have V1:ps.Nodup:=by rw[<-S.pre];exact S.nd.sublist (List.take_sublist _ _)
  refine⟨u,rv,?_⟩;rcases S.par y (du hp) with k|k
  .exact .inl ⟨k,qX V1 hp hu k⟩
  .obtain⟨c,e⟩:=u3 (n:=s.heap.objs.size+1) k;refine .inr ⟨.inl k,c,e,?_⟩;have q:=x.cell y c e;rw[qY V1 hp hu (by show scope.names.lookup y≠_;rw[k];decide)] at q;exact q
 .exact e0.bE.fresh (iB (x.above y c (gE h)))
 .unfold start;show _=N.length;rw[fY,aH,i7];lia
theorem HF{CX:wm}{P:Program}{w:World}{K:PySem.W.Frag}{mg:Str->Option Value}{base:Heap}{k:Nat}{f:Addr}{name qual:Str}{params:Arguments}{body:List Stmt}{scope:Scope}{dV kV lM pm dR ct oc:Value}{an od:Option Addr}{wo:Array (Option Value)}{N ps:List Str}{sp:Sp}(lk:K.lookup f=some ⟨oc,od,.func (PySem.W.fnOf name qual params body scope dV kV lM pm an dR ct),wo⟩)(qR:PySem.W.codeIn K dR qual=true)(S:aG N ps scope)(len:∀vs H Q E,sp vs H Q E->vs.length=ps.length)(u4:∀ (A:Around) (outer:List Env) (s:Shared) (H:Hp) (vs:List V) (Q:VK) (E:XK),bA k (A.deeper (envOfC qual scope s.heap.objs.size f dR))->sp vs H Q E->
   ∃t,xr (pM CX P w K mg base N qual scope f dR A outer s H E) body t/\t { nx:=fun _ H'=>Q .bD H',rt:=Q } (start N vs) H):
  bq P w K mg base CX (k+1) f (PySem.W.fnOf name qual params body scope dV kV lM pm an dR ct) ps sp:=by
 refine⟨len,fun A outer s H args us vs Q E hr e0 hb r EJ=>?_⟩;have hl:=len _ _ _ _ EJ;have KX:K.In s.heap:=e0.mod.Lp.keeps fun b o e=>(e0.bs b o e).1;have XV:s.heap.NoLimit:=e0.mod.nolimit.keeps fun b o e=>(e0.bs b o e).1;have MI:∀y∈ps.zip us,scope.names.lookup y.1=some .local\/(scope.names.lookup y.1=some .cell/\((cellsFrom (s.heap.objs.size+1) scope.names []).lookup y.1).isSome=true):=fun ⟨n,v⟩ hy=>by
  rcases S.par n (my hy).1 with q|q
  .exact .inl q
  .exact .inr ⟨q,PySem.W.cellsFrom_some _ _ _ (.inl q)⟩
 refine codeAny_call_function hr.depth (KX _ _ lk) rfl S.co S.gen rfl (PySem.W.codeRec_of KX qR) (hb _ _ _ _ ?_);refine wpAny_newFunctionEnv_cells S.kind MI fun env he s1 x=>?_;subst he;refine⟨XV.keeps x.toInCall.keep,codeAny_func ?_⟩;obtain⟨t,ht,hq⟩:=u4 A outer s H vs Q E (hr.deeper _) EJ;have I:aE (pM CX P w K mg base N qual scope f dR A outer s H E) [] (start N vs) H s1:=At S hr.hd e0 hl r x;refine gX (ht [] s1 (start N vs) H _ I hq) (fun fl s' hs=>?_) fun e s' hs=>hs;have dU:∀ {σ':St} {H':Hp} {v:V} {u:Value},aE (pM CX P w K mg base N qual scope f dR A outer s H E) [] σ' H' s'->bw v u->Q v H'->CE outer P w H s Q u s':=
  fun {σ' H' v u} J rv q=>⟨v,H',J.os,J.bare,J.base,J.bE,rv,q⟩
 cases fl with
 |ret u=>
  obtain⟨v,σ',H',J,rv,q⟩:=hs;exact dU J rv q
 |next=>
  obtain⟨σ',H',J,q⟩:=hs;exact dU (v:=V.bD) (u:=Value.none) J rfl q
 |brk=>
  obtain⟨_,_,_,q⟩:=hs;exact False.elim q
 |cont=>
  obtain⟨_,_,_,q⟩:=hs;exact False.elim q
section
variable {X:Cx} {x:Str} {p pos:Pos} {e:Expr} {es:List Expr} {t:TA} {id T:String} {r:List V->Hp->VK->Prop}
def V2(r:List V->Hp->VK->Prop)(t:TA):TE:=fun σ H Q=>t σ H fun vs H1=>r vs H1 Q
theorem aR(hc:gf X (.builtin id) r)(hg:Gl X x)(hm:X.mg x=none)(hv:bootBuiltins x=some (.builtin id))(ha:PA X (e::es) t)(hn:x≠"__name__":=by decide)(xG:(x==("__debug__":Str))=false:=by decide)(he:starEach (e::es) X.env=(false,eval e X.env)::starEach es X.env:=by rfl)(wn:(backTo pos (starEach es X.env)).any (·.1)=false:=by rfl):PE X (.Call (.Name x p) (e::es) [] pos) (V2 r t):=by
 intro ae s σ H Q I h;refine jd (gZ I hg hm hv ?_ hn xG);exact PyProof.Rows.callWith_builtin1 (cI (ha pos ae s σ H _ I h) fun us s1 ⟨vs,H1,I1,r1,q1⟩=>hc ae s1 σ H1 vs us Q I1 r1 q1) he wn
theorem dH(hc:gf X (.type T) r)(hg:Gl X x)(hm:X.mg x=none)(hv:bootBuiltins x=some (.type T))(ha:PA X (e::es) t)(hn:x≠"__name__":=by decide)(xG:(x==("__debug__":Str))=false:=by decide)(he:starEach (e::es) X.env=(false,eval e X.env)::starEach es X.env:=by rfl)(wn:(backTo pos (starEach es X.env)).any (·.1)=false:=by rfl):PE X (.Call (.Name x p) (e::es) [] pos) (V2 r t):=by
 intro ae s σ H Q I h;refine jd (gZ I hg hm hv ?_ hn xG);exact oO (cI (ha pos ae s σ H _ I h) fun us s1 ⟨vs,H1,I1,r1,q1⟩=>hc ae s1 σ H1 vs us Q I1 r1 q1) he wn
end
end L2
namespace HT
open PySem PyProof.Rows
section
open PySem.SeqAt
open PySem.AutoSeq1 (wpAny_loadPart')
open PySem.MeetsSeq PySem.MeetsSeq2 PySem.MeetsSeq3
end
section
variable {prog:Program} {w:World} {A:Around} {E:Value->Shared->Prop} {s:Shared}
def qH(n d:Nat):Option Int->Nat
 |none=>d
 |some v=>if v<0 then (v+(n:Int)).toNat else min v.toNat n
end
end HT
namespace L2
open PySem PySem.Spec PyProof.Rows
abbrev TO:=St->Hp->(Option Int->Hp->Prop)->Prop
def PO(X:Cx)(e:Option Expr)(t:TO):Prop:=
 ∀ (ae:List (Addr×Obj)) (s:Shared) (σ:St) (H:Hp) (Q:Option Int->Hp->Prop),aE X ae σ H s->t σ H Q->
  wpAny (model X.prog X.w) X.A (evalPart e X.env) (fun u s'=>∃o H',aE X ae σ H' s'/\IsPart u o/\Q o H') X.xe s
def Fd:TO:=fun _ H Q=>Q none H
def MJ(t:TE):TO:=fun σ H Q=>t σ H fun x H1=>∃i,x=.int i/\Q (some i) H1
theorem xH{ns:List Int}:∀ {us:List Value},aO (ns.map V.int) us->IntsAre us ns:=by
 induction ns with
 |nil=>intro us r;rw[List.map_nil] at r;cases r;exact .nil
 |cons n ns ih=>
  intro us r;rw[ie] at r;cases r with
  |cons r1 r2=>
   obtain⟨t,e⟩:=r1;subst e;exact .cons n t (ih r2)
section
variable {X:Cx} {e:Expr} {te:TE} {lo hi:Option Expr} {tl th:TO} {pos p2:Pos}
theorem yR:PO X none Fd:=by
 intro ae s σ H Q I h;rw[evalPart_none];exact wpAny_pure ⟨none,H,I,.none,h⟩
theorem yS(h:PE X e te):PO X (some e) (MJ te):=by
 intro ae s σ H Q I hw;rw[evalPart_some];refine cI (h ae s σ H _ I hw) fun u s1 ⟨x,H1,I1,r1,q1⟩=>?_;obtain⟨i,rfl,q⟩:=q1;obtain⟨t,rfl⟩:=r1;exact⟨some i,H1,I1,.int i t,q⟩
def V3(X:Cx)(r:V->Option Int->Option Int->Hp->VK->Prop):Prop:=
 ∀ (ae:List (Addr×Obj)) (s:Shared) (σ:St) (H:Hp) (x:V) (v vl vu:Value) (lo hi:Option Int) (sl:Addr) (Q:VK),aE X ae σ H s->bw x v->s.heap.IsSliceOf sl vl vu .none->IsPart vl lo->IsPart vu hi->r x lo hi H Q->
  ∃T id,typeLookup (.type T) "__getitem__"=pure (some (.builtin id))/\s.TypeIs v T/\wpAny (model X.prog X.w) X.A (getItem v (.ref sl)) (EP X ae σ Q) X.xe s
def XW(r:V->Option Int->Option Int->Hp->VK->Prop)(te:TE)(tl th:TO):TE:=fun σ H Q=>te σ H fun x H1=>tl σ H1 fun l H2=>th σ H2 fun u H3=>r x l u H3 Q
theorem u5(hr:V3 X r)(he:PE X e te)(hl:PO X lo tl)(hu:PO X hi th):PE X (.Subscript e (.Slice lo hi none p2) pos) (XW r te tl th):=by
 intro ae s σ H Q I h;refine Subscript_ (cI (he ae s σ H _ I h) fun v s1 ⟨x,H1,I1,r1,q1⟩=>?_);refine wpAny_Slice (cI (hl ae s1 σ H1 _ I1 q1) fun vl s2 ⟨l,H2,I2,pl,q2⟩=>cI (hu ae s2 σ H2 _ I2 q2) fun vu s3 ⟨u,H3,I3,pu,q3⟩=>?_);rw[evalPart_none];refine wpAny_pure ?_;have I4:aE X ae σ H3 { s3 with heap:=s3.heap.push { cls:=.type "slice",data:=.fields #[vl,vu,.none] } }:=I3.kept (t':=s3.toks) fun b ob q=>bv _ q;obtain⟨T,id,hT,ht,hg⟩:=hr ae { s3 with heap:=s3.heap.push { cls:=.type "slice",data:=.fields #[vl,vu,.none] } } σ H3 x v vl vu l u s3.heap.objs.size Q I4 r1 (Heap.IsSliceOf.new ..) pl pu q3;show wpAny (model X.prog X.w) X.A (subscriptTail e (.Slice lo hi none p2) v (.ref s3.heap.objs.size)) (EP X ae σ Q) X.xe { s3 with heap:=s3.heap.push { cls:=.type "slice",data:=.fields #[vl,vu,.none] } };exact tail_any (ops:=[.ref s3.heap.objs.size,v]) ht hT hg (by with_unfolding_all rfl)
def lO(xs:List V)(lo hi:Option Int):List V:=(xs.drop (HT.qH xs.length 0 lo)).take (HT.qH xs.length xs.length hi-HT.qH xs.length 0 lo)
theorem u6(xs:List V)(lo hi:Option Int):(lO xs lo hi).length<=xs.length:=by
 unfold lO;rw[pc,List.length_drop];lia
end
def Cm(n:Nat)(i:Int):Option Nat:=if 0<=i then (if i<n then some i.toNat else none) else if -(n:Int)<=i then some (i+n).toNat else none
def EK{α:Type}(xs:List α)(i:Int):Option α:=(Cm xs.length i).bind fun j=>xs[j]?
theorem yT(h:Cm n i=some j):seqIndex? i n=some j/\j<n/\-(n:Int)<=i/\i<n:=by
 unfold Cm at h;by_cases h0:0<=i
 .rw[ao h0] at h;by_cases h1:i<n
  .rw[ao h1] at h;have e:i.toNat=j:=a_ h;exact⟨by rw[seqIndex_of h0 h1,e],by lia,by lia,h1⟩
  .rw[aj h1] at h;cases h
 .rw[aj h0] at h;by_cases h1:-(n:Int)<=i
  .rw[ao h1] at h;have e:(i+n).toNat=j:=a_ h;exact⟨by rw[seqIndex_neg (by lia) h1,e],by lia,h1,by lia⟩
  .rw[aj h1] at h;cases h
theorem yU(h:EK xs i=some v):∃j,seqIndex? i xs.length=some j/\xs[j]?=some v/\j<xs.length/\-(xs.length:Int)<=i/\i<xs.length:=by
 unfold EK at h;cases e:Cm xs.length i with
 |none=>rw[e] at h;cases h
 |some j=>
  rw[e] at h;obtain⟨h1,h2,h3,h4⟩:=yT e;exact⟨j,h1,h,h2,h3,h4⟩
theorem aU{α:Type}{xs:List α}{j:Nat}{v:α}(h:xs[j]?=some v):EK xs (j:Int)=some v:=by
 have hj:j<xs.length:=(dS.mp h).1;have e:Cm xs.length (j:Int)=some j:=by
  unfold Cm;rw[ao (by lia),ao (by lia)];simp
 unfold EK;rw[e];exact h
theorem Cn(xs:List α)(v:α):EK (xs++[v]) (-1)=some v:=by
 have hl:(xs++[v]).length=xs.length+1:=by simp
 have e:Cm (xs++[v]).length (-1)=some xs.length:=by
  unfold Cm;rw[hl,aj (by decide),ao (by lia)];congr 1;lia
 unfold EK;rw[e];show (xs++[v])[xs.length]?=some v;simp
def Fe(b:Expr):Prop:=∀o i,subscripted b false o i=operate [o,i] (getItem o i)
def RF(X:Cx)(r:R2):Prop:=
 ∀ (value slice:Expr) (ae:List (Addr×Obj)) (s:Shared) (σ:St) (H:Hp) (x y:V) (v u:Value) (Q:VK),aE X ae σ H s->bw x v->bw y u->r x y H Q->
  subscripted slice false v u=operate [v,u] (getItem v u)->wpAny (model X.prog X.w) X.A (subscriptTail value slice v u) (EP X ae σ Q) X.xe s
def XX(X:Cx)(id:String)(r:V->List V->Hp->VK->Prop):Prop:=
 ∀ (ae:List (Addr×Obj)) (s:Shared) (σ:St) (H:Hp) (x:V) (xs:List V) (v:Value) (us:List Value) (Q:VK),aE X ae σ H s->bw x v->aO xs us->r x xs H Q->
  wpAny (model X.prog X.w) X.A (call (.builtin id) (v::us)) (EP X ae σ Q) X.xe s
section
variable {X:Cx} {a b:Expr} {ta tb:TE} {pos:Pos}
theorem bZ(hr:RF X r)(ha:PE X a ta)(hb:PE X b tb)(hs:Fe b):PE X (.Subscript a b pos) (mW r ta tb):=by
 intro ae s σ H Q I h;exact Subscript_ (IT ha hb I h fun v u s2 x y H2 I2 rx ry q=>hr a b ae s2 σ H2 x y v u Q I2 rx ry q (hs _ _))
def Ff(K:PySem.W.Frag):R2:=fun x y H Q=>∃p xs i v,x=.ref p/\y=.int i/\ba K H p xs/\EK xs i=some v/\Q v H
def u7(K:PySem.W.Frag):R2:=fun x y H Q=>∃p xs i v,x=.ref p/\y=.int i/\bW K H p xs/\EK xs i=some v/\Q v H
theorem bL:RF X (Ff X.K):=by
 intro value slice ae s σ H x y v u Q I rx ry h hs;obtain⟨p,xs,i,z,rfl,rfl,hq,he,q⟩:=h;cases rx;obtain⟨t,rfl⟩:=ry;obtain⟨its,r,pl,hz⟩:=I.list hq;obtain⟨j,h1,h2,h3,h4,h5⟩:=yU he;obtain⟨w,ew,uT⟩:=r.get h2;have hl:=r.length;have hn:=pK;have dU:EP X ae σ Q w s:=⟨z,H,I,uT,q⟩
 by_cases h0:0<=i
 .have hj:i.toNat=j:=by
   rw[seqIndex_of h0 h5] at h1;exact a_ h1
  exact item_listR pl.isList h0 (by lia) (by rw[hj];simpa using ew) dU hs
 .have hj:(i+(its.toArray.size:Int)).toNat=j:=by
   rw[seqIndex_neg (by lia) h4] at h1;rw[bY,<-hl];exact a_ h1
  exact subscriptTail_builtinR (x:=w) pl.isList.typeIs slot_list_getitem.lookup
   (wpAny_getItem_list_neg (Q:=fun r s'=>r=w/\EP X ae σ Q r s') pl.isList (by lia) (by rw[bY] <;> lia) (by lia) (by rw[hj];simpa using ew) ⟨rfl,dU⟩) hs
theorem fH:RF X (u7 X.K):=by
 intro value slice ae s σ H x y v u Q I rx ry h hs;obtain⟨p,xs,i,z,rfl,rfl,hq,he,q⟩:=h;cases rx;obtain⟨t,rfl⟩:=ry;obtain⟨its,r,pl,hz⟩:=I.tuple hq;obtain⟨j,h1,h2,h3,h4,h5⟩:=yU he;obtain⟨w,ew,uT⟩:=r.get h2;have hl:=r.length;have hn:=pK;have dU:EP X ae σ Q w s:=⟨z,H,I,uT,q⟩
 exact subscriptTail_builtinR (x:=w) pl.typeIs slot_tuple_getitem.lookup
  (getItem_tuple (j:=j) (Q:=fun r s'=>r=w/\EP X ae σ Q r s') pl (by lia) (by lia) (by rw[bY,<-hl];exact h1) (by simpa using ew) ⟨rfl,dU⟩) hs
theorem xI(its:List Value)(n j:Nat)(u:Value):Obj.mapSeq (·.setIfInBounds j u) { cls:=.type "list",data:=.seq its.toArray n }={ cls:=.type "list",data:=.seq (its.set j u).toArray n }:=by
 simp[Obj.mapSeq]
theorem aE.lst(I:aE X ae σ H s)(h:H p=some (.lst xs)):
  ∃ (its:List Value) (n:Nat),aO xs its/\s.heap.get? p=some { cls:=.type "list",data:=.seq its.toArray n }/\xs.length<=sizeLine:=by
 obtain⟨z,its,n,r,e⟩:=I.bE p _ h;exact⟨its,n,r,e,z⟩
theorem aE.Jc{ae:List (Addr×Obj)}{σ:St}{H:Hp}{s:Shared}{p:Addr}{xs ys:List V}{its its':List Value}{n n':Nat}{f:Obj->Obj}(I:aE X ae σ H s)(h:H p=some (.lst xs))(ho:s.heap.get? p=some { cls:=.type "list",data:=.seq its.toArray n })(hf:f { cls:=.type "list",data:=.seq its.toArray n }={ cls:=.type "list",data:=.seq its'.toArray n' })(r:aO ys its')(hz:ys.length<=sizeLine)(t:Nat):
  aE X ae σ (upd H p (.lst ys)) { s with heap:=s.heap.update p f,toks:=t }:=by
 have e:(s.heap.update p f).get? p=some { cls:=.type "list",data:=.seq its'.toArray n' }:=by
  rw[oZ f ho (by rw[hf] <;> rfl),hf]
 refine I.write (x:=p) (e:=p) (by rw[h];trivial) (.inl rfl) (fun b u hb q=>(nM _ _ (dN hb)).trans q) ⟨_,e⟩ ?_;exact⟨hz,its',n',r,e⟩
def ML:V->V->V->Hp->(Hp->Prop)->Prop:=fun o i v H Q=>∃p xs k j,o=.ref p/\i=.int k/\H p=some (.lst xs)/\Cm xs.length k=some j/\Q (upd H p (.lst (xs.set j v)))
theorem ij:Mr X ML:=by
 intro ae s σ H o i v ov iv u Q I ro ri rv h;obtain⟨p,xs,k,j,rfl,rfl,hp,hj,q⟩:=h;cases ro;obtain⟨t,rfl⟩:=ri;obtain⟨its,n,r,ho,hz⟩:=I.lst hp;obtain⟨h1,h2,h3,h4⟩:=yT hj;have hl:=r.length;have hn:=pK;have I':aE X ae σ (upd H p (.lst (xs.set j v))) { s with heap:=s.heap.update p (Obj.mapSeq (·.setIfInBounds j u)) }:=
  I.Jc hp ho (xI its n j u) (r.set rv j) (by rw[jf];exact hz) s.toks
 by_cases h0:0<=k
 .have hk:k.toNat=j:=by
   rw[seqIndex_of h0 h4] at h1;exact a_ h1
  exact PySem.W.ki_setAt ho h0 (by lia) (by rw[bY,<-hl];exact h4) (by rw[hk];exact⟨_,I',q⟩)
 .have hk:(k+(its.toArray.size:Int)).toNat=j:=by
   rw[seqIndex_neg (by lia) h3] at h1;rw[bY,<-hl];exact a_ h1
  exact PySem.W.ki_setBack ho (by lia) (by rw[bY,<-hl];exact h3) (by lia) (by rw[hk];exact⟨_,I',q⟩)
theorem sR(lo hi:Option Int)(n:Nat):(sliceBounds lo hi none n).1=((HT.qH n 0 lo:Nat):Int)/\(sliceBounds lo hi none n).2.1=((HT.qH n n hi:Nat):Int)/\(sliceBounds lo hi none n).2.2=1:=by
 refine⟨?_,?_,rfl⟩
 .cases lo with
  |none=>simp[sliceBounds,HT.qH]
  |some i=>
   simp only[sliceBounds,HT.qH,Option.getD_none,show (1:Int) > 0 by decide,gb];by_cases h:i<0
   .simp only[h,gb] <;> lia
   .simp only[h,dw] <;> lia
 .cases hi with
  |none=>simp[sliceBounds,HT.qH]
  |some i=>
   simp only[sliceBounds,HT.qH,Option.getD_none,show (1:Int) > 0 by decide,gb];by_cases h:i<0
   .simp only[h,gb] <;> lia
   .simp only[h,dw] <;> lia
theorem qI(its:List Value)(lo hi:Option Int):slicePick its.toArray lo hi none=((its.drop (HT.qH its.length 0 lo)).take (HT.qH its.length its.length hi-HT.qH its.length 0 lo)).toArray:=by
 obtain⟨h1,h2,h3⟩:=sR lo hi its.toArray.size;unfold slicePick;rw[h1,h2,h3];simp only[sliceRange_one,pick_run,bY] <;> rfl
def RG(K:PySem.W.Frag):V->Option Int->Option Int->Hp->VK->Prop:=fun x lo hi H Q=>∃a xs,x=.ref a/\ba K H a xs/\∀p,H p=none->Q (.ref p) (upd H p (.lst (lO xs lo hi)))
theorem yV:V3 X (RG X.K):=by
 intro ae s σ H x v vl vu lo hi sl Q I rx hs pl pu h;obtain⟨a,xs,rfl,hx,q⟩:=h;cases rx;obtain⟨its,r,ht,hz⟩:=I.list hx;have dX:=r.length;refine⟨"list",_,slot_list_getitem.lookup,ht.isList.typeIs,?_⟩;refine wpAny_getItem_list_slice ht.isList hs pl pu .none (by simp) ?_ (by rw[bY] <;> lia);rw[qI,<-dX];refine⟨.ref s.heap.objs.size,_,I.laid (t':=s.toks) (o:=.lst (lO xs lo hi)) (fun b ob q=>bv _ q) (aI _) ?_,rfl,q _ (I.bE.fresh (aI _))⟩;exact⟨aX (u6 xs lo hi) hz,_,0,(r.drop (HT.qH xs.length 0 lo)).take (HT.qH xs.length xs.length hi-HT.qH xs.length 0 lo),b_ _ rfl⟩
def cQ:V->Bool
 |.bD=>true
 |.bl _=>true
 |.int _=>true
 |.str _=>true
 |_=>false
def jt:V->V->Bool
 |.bD,.bD=>true
 |.bl a,.bl b=>a==b
 |.bl a,.int b=>(if a then 1 else 0)==b
 |.int a,.bl b=>a==(if b then 1 else 0)
 |.int a,.int b=>a==b
 |.str a,.str b=>a==b
 |_,_=>false
theorem sU(ry:bw y u)(rx:bw x v)(fy:cQ y=true)(fx:cQ x=true):SeqAt.EqAt A s u v (jt y x):=by
 cases y with
 |bD=>
  cases ry;cases x with
  |bD=>cases rx;exact SeqAt.EqAt.same _
  |bl b=>cases rx;exact SeqAt.EqAt.none_bool b
  |int b=>obtain⟨t,rfl⟩:=rx;exact SeqAt.EqAt.none_int b t
  |str b=>obtain⟨t,rfl⟩:=rx;exact SeqAt.EqAt.none_str b t
  |_=>exact absurd (show false=true from fx) bX
 |bl a=>
  cases ry;cases x with
  |bD=>cases rx;exact SeqAt.EqAt.bool_none a
  |bl b=>cases rx;exact SeqAt.EqAt.bool_bool a b
  |int b=>obtain⟨t,rfl⟩:=rx;exact SeqAt.EqAt.bool_int a b t
  |str b=>obtain⟨t,rfl⟩:=rx;exact SeqAt.EqAt.bool_str a b t
  |_=>exact absurd (show false=true from fx) bX
 |int a=>
  obtain⟨t',rfl⟩:=ry;cases x with
  |bD=>cases rx;exact SeqAt.EqAt.int_none a t'
  |bl b=>cases rx;exact SeqAt.EqAt.int_bool a t' b
  |int b=>obtain⟨t,rfl⟩:=rx;exact SeqAt.EqAt.int_int a t' b t
  |str b=>obtain⟨t,rfl⟩:=rx;exact SeqAt.EqAt.int_str a t' b t
  |_=>exact absurd (show false=true from fx) bX
 |str a=>
  obtain⟨t',rfl⟩:=ry;cases x with
  |bD=>cases rx;exact SeqAt.EqAt.str_none a t'
  |bl b=>cases rx;exact SeqAt.EqAt.str_bool a t' b
  |int b=>obtain⟨t,rfl⟩:=rx;exact SeqAt.EqAt.str_int a t' b t
  |str b=>obtain⟨t,rfl⟩:=rx;exact SeqAt.EqAt.str_str a t' b t
  |_=>exact absurd (show false=true from fx) bX
 |_=>exact absurd (show false=true from fy) bX
def sV(x:V)(u:Value):Bool:=match u with
 |.none=>jt .bD x
 |.bool b=>jt (.bl b) x
 |.int i _=>jt (.int i) x
 |.str z _=>jt (.str z) x
 |_=>false
theorem Co(r:bw y u)(f:cQ y=true):sV x u=jt y x:=by
 cases y with
 |bD=>cases r;rfl
 |bl b=>cases r;rfl
 |int i=>obtain⟨t,rfl⟩:=r;rfl
 |str z=>obtain⟨t,rfl⟩:=r;rfl
 |_=>exact absurd (show false=true from f) bX
theorem jN:∀ {xs:List V} {us:List Value},aO xs us->xs.all cQ=true->us.any (sV x)=xs.any fun y=>jt y x
 |_,_,.nil,_=>rfl
 |y::xs,u::us,.cons r t,f=>by
  rw[mD,df] at f;rw[mC,mC,Co r f.1,jN t f.2]
theorem ik(rx:bw x v)(fx:cQ x=true):∀ {xs:List V} {us:List Value},aO xs us->xs.all cQ=true->∀u∈us,SeqAt.EqAt A s u v (sV x u)
 |_,_,.nil,_=>fun u hu=>by cases hu
 |y::xs,u::us,.cons r t,f=>fun u' hu=>by
  rw[mD,df] at f;rcases aS.mp hu with rfl|hu
  .rw[Co r f.1];exact sU r rx f.1 fx
  .exact ik rx fx t f.2 u' hu
def Bz(x:V)(xs:List V):Bool:=xs.any fun y=>jt y x
def RH(K:PySem.W.Frag)(MM:Bool):R2:=fun x y H Q=>∃p xs,y=.ref p/\(ba K H p xs\/bW K H p xs)/\cQ x=true/\xs.all cQ=true/\Q (.bl (if MM then !Bz x xs else Bz x xs)) H
theorem Au:lI X (compareOp .In) (RH X.K false):=by
 intro ae s σ H x y v u Q I rx ry h;obtain⟨p,xs,rfl,hq,fx,fs,q⟩:=h;cases ry;rcases hq with hq|hq
 .obtain⟨its,r,pl,hz⟩:=I.list hq;refine SeqAt.in_listAt (sV x) pl.isList (fun w hw=>ik rx fx r fs w (by simpa using hw)) ⟨.bl _,H,I,rfl,?_⟩;rw[show its.toArray.any (sV x)=its.any (sV x) by simp,jN r fs];exact q
 .obtain⟨its,r,pl,hz⟩:=I.tuple hq;refine SeqAt.in_tupleAt (sV x) pl (fun w hw=>ik rx fx r fs w (by simpa using hw)) ⟨.bl _,H,I,rfl,?_⟩;rw[show its.toArray.any (sV x)=its.any (sV x) by simp,jN r fs];exact q
theorem lP:lI X (compareOp .NotIn) (RH X.K true):=by
 intro ae s σ H x y v u Q I rx ry h;obtain⟨p,xs,rfl,hq,fx,fs,q⟩:=h;cases ry;rcases hq with hq|hq
 .obtain⟨its,r,pl,hz⟩:=I.list hq;refine SeqAt.notIn_listAt (sV x) pl.isList (fun w hw=>ik rx fx r fs w (by simpa using hw)) ⟨.bl _,H,I,rfl,?_⟩;rw[show its.toArray.any (sV x)=its.any (sV x) by simp,jN r fs];exact q
 .obtain⟨its,r,pl,hz⟩:=I.tuple hq;refine SeqAt.notIn_tupleAt (sV x) pl (fun w hw=>ik rx fx r fs w (by simpa using hw)) ⟨.bl _,H,I,rfl,?_⟩;rw[show its.toArray.any (sV x)=its.any (sV x) by simp,jN r fs];exact q
theorem aV:gf X (.builtin "len") (fun xs H Q=>∃p ys,xs=[.ref p]/\(ba X.K H p ys\/bW X.K H p ys)/\Q (.int ys.length) H):=by
 intro ae s σ H xs us Q I r h;obtain⟨p,ys,rfl,hq,q⟩:=h;obtain⟨u,rfl,rx⟩:=uY r;cases rx;have hn:=pK;rcases hq with hq|hq
 .obtain⟨its,r',pl,hz⟩:=I.list hq;have dX:=r'.length;exact Calls.call_len_list pl.isList (by simp only[bY] <;> lia) ⟨.int ys.length,H,I.tok _,⟨s.toks+1,by rw[bY,dX]⟩,q⟩
 .obtain⟨its,r',pl,hz⟩:=I.tuple hq;have dX:=r'.length;exact len_tuple pl (by simp only[bY] <;> lia) ⟨.int ys.length,H,I.tok _,⟨s.toks+1,by rw[bY,dX]⟩,q⟩
theorem sW:gf X (.type "list") (fun xs H Q=>∃p ys,xs=[.ref p]/\(ba X.K H p ys\/bW X.K H p ys)/\∀l,H l=none->Q (.ref l) (upd H l (.lst ys))):=by
 intro ae s σ H xs us Q I r h;obtain⟨p,ys,rfl,hq,q⟩:=h;obtain⟨u,rfl,rx⟩:=uY r;cases rx;have dU:∀ (its:List Value),aO ys its->ys.length<=sizeLine->∀ (h':Heap) (c':Nat),(∀b o',s.heap.get? b=some o'->h'.get? b=some o')->
   h'.get? s.heap.objs.size=some { cls:=.type "list",dict:=none,data:=.seq its.toArray c',slots:=#[] }->EP X ae σ Q (.ref s.heap.objs.size) { s with heap:=h' }:=fun its r' hz h' c' kp e=>
  ⟨.ref s.heap.objs.size,_,I.laid (t':=s.toks) kp (aI _) (show cK X.prog X.w _ h' _ (.lst ys) from ⟨hz,its,c',r',e⟩),rfl,q _ (I.bE.fresh (aI _))⟩
 rcases hq with hq|hq
 .obtain⟨its,r',pl,hz⟩:=I.list hq;have dX:=r'.length;obtain⟨o,ho,hc,n,hd⟩:=pl.isList;exact call_list_seq p (.inl rfl) ho hc hd (fun h' c' kp e=>dU its r' hz h' c' kp e) (by simp only[bY] <;> lia)
 .obtain⟨its,r',pl,hz⟩:=I.tuple hq;have dX:=r'.length;obtain⟨o,ho,hc,n,hd⟩:=pl;exact call_list_seq p (.inr rfl) ho hc hd (fun h' c' kp e=>dU its r' hz h' c' kp e) (by simp only[bY] <;> lia)
theorem dY:gf X (.type "tuple") (fun xs H Q=>∃p ys,xs=[.ref p]/\((ba X.K H p ys/\∀l,H l=none->Q (.ref l) (upd H l (.tup ys)))\/(bW X.K H p ys/\Q (.ref p) H))):=by
 intro ae s σ H xs us Q I r h;obtain⟨p,ys,rfl,h⟩:=h;obtain⟨u,rfl,rx⟩:=uY r;cases rx;rcases h with ⟨hq,q⟩|⟨hq,q⟩
 .obtain⟨its,r',pl,hz⟩:=I.list hq;have dX:=r'.length;refine call_tuple_list pl.isList (fun h' kp=>?_) (by simp only[bY] <;> lia);have I1:aE X ae σ H { s with heap:=h' }:=I.kept (t':=s.toks) kp;have I2:aE X ae σ (upd H h'.objs.size (.tup ys)) { s with heap:=h'.push { cls:=.type "tuple",data:=.seq its.toArray } }:=
   I1.laid (t':=s.toks) (fun b o e=>bv _ e) (aI _) (show cK X.prog X.w _ _ _ (.tup ys) from ⟨hz,its,r',mP.new _ _⟩)
  exact⟨.ref h'.objs.size,_,I2,rfl,q _ (I1.bE.fresh (aI _))⟩
 .obtain⟨its,r',pl,hz⟩:=I.tuple hq;exact call_tuple_same pl ⟨.ref p,H,I,rfl,q⟩
def V4(K:PySem.W.Frag)(T:String)(x:V)(H:Hp):Prop:=match x with
 |.str _=>T="str"
 |.int _=>T="int"
 |.ref p=>(T="list"/\∃xs,ba K H p xs)\/(T="tuple"/\∃o,K.lookup p=some o/\o.cls=.type "tuple"/\o.dict=none)\/
   (T="dict"/\((∃hW,H p=some (.dK hW))\/∃hW,H p=some (.dT hW)))\/(T="set"/\∃S n,H p=some (.set S n))
 |_=>False
theorem Jd(I:aE X ae σ H s)(r:bw x v)(ty:V4 X.K T x H):
  s.TypeIs v T/\∀a,v=.ref a->∃ob,s.heap.get? a=some ob/\ob.dict=none:=by
 cases x with
 |str z=>
  obtain⟨t,rfl⟩:=r;cases (show T="str" from ty);exact⟨typeIs_str s z t,fun _ e=>nomatch e⟩
 |int i=>
  obtain⟨t,rfl⟩:=r;cases (show T="int" from ty);exact⟨typeIs_int s i t,fun _ e=>nomatch e⟩
 |ref p=>
  cases r;rcases ty with ⟨rfl,xs,hq⟩|⟨rfl,o,hk,hc,hd⟩|⟨rfl,hk⟩|⟨rfl,S,n,hk⟩
  .obtain⟨its,_,pl,_⟩:=I.list hq;refine⟨pl.isList.typeIs,fun a e=>?_⟩;cases e;obtain⟨o,n,e,c,hd,_⟩:=pl;exact⟨o,e,hd⟩
  .refine⟨⟨o,I.kR p o hk,hc⟩,fun a e=>?_⟩;cases e;exact⟨o,I.kR _ o hk,hd⟩
  .have z:∃o,s.heap.get? p=some o/\o.ExactDict:=by
    rcases hk with ⟨hW,hk⟩|⟨hW,hk⟩
    .obtain⟨_,_,_,_,o,_,_,e,ex,_⟩:=I.bE p _ hk;exact⟨o,e,ex⟩
    .obtain⟨_,_,_,_,o,_,_,e,ex,_⟩:=I.bE p _ hk;exact⟨o,e,ex⟩
   obtain⟨o,e,ex⟩:=z;refine⟨⟨o,e,ex.1⟩,fun a e2=>?_⟩;cases e2;exact⟨o,e,ex.2.1⟩
  .obtain⟨o,_,_,_,e,ex,_⟩:=I.bE p _ hk;refine⟨⟨o,e,ex.1⟩,fun a e2=>?_⟩;cases e2;exact⟨o,e,ex.2.1⟩
 |_=>exact False.elim ty
def V5(K:PySem.W.Frag)(T:String)(r:V->List V->Hp->VK->Prop)(to:TE)(t:TA):TE:=fun σ H Q=>to σ H fun x H1=>V4 K T x H1/\t σ H1 fun xs H2=>r x xs H2 Q
variable {o e:Expr} {es:List Expr} {to:TE} {t:TA} {name:Str} {sQ sX:Pos} {T id:String} {r:V->List V->Hp->VK->Prop}
theorem ka(pa:PlainAttrs T)(slot:Slot T name id)(XY:typeOf (.builtin id)=pure (.type "method_descriptor"))(hm:XX X id r)(ho:PE X o to)(ha:PA X (e::es) t)(MN:attributeBase o name X.env (eval o X.env)=eval o X.env:=by rfl)(RI:((backTo sX (starEach (e::es) X.env)).all (fun x=>!x.1)&&(backToKw sX (keywordEach [] X.env)).all (fun x=>x.1.isSome)
   && decide ((e::es).length+([]:List Keyword).length+(if ([]:List Keyword).isEmpty then 0 else 1)<30))=true:=by rfl)(MP:(sQ.endLine==sX.line)=true:=by rfl)(hs:starEach (e::es) X.env=(false,eval e X.env)::starEach es X.env:=by rfl)(xJ:(backTo sX (starEach es X.env)).any (·.1)=false:=by rfl):
  PE X (.Call (.Attribute o name sQ) (e::es) [] sX) (V5 X.K T r to t):=by
 intro ae s σ H Q I h;refine wpAny_Call_method_late MN RI MP rfl (cI (ho ae s σ H _ I h) fun v s1 ⟨x,H1,I1,r1,ty,q1⟩=>?_);obtain⟨h1,h2⟩:=Jd I1 r1 ty;refine⟨T,id,pa,slot,XY,h1,h2,?_⟩;have hA:=ha sX ae s1 σ H1 _ I1 q1;rw[hs] at hA |-;refine Calls.callWith_builtin (by show (false||(backTo sX (starEach es X.env)).any (·.1))=false;rw[xJ] <;> rfl) (Calls.evalArgs_plain ?_);exact cI hA fun us s2 ⟨vs,H2,I2,r2,q2⟩=>hm ae s2 σ H2 x vs v us Q I2 r1 r2 q2
end
def V6(X:Cx)(id:String)(r:V->List V->Hp->VK->Prop):Prop:=
 ∀ (ae:List (Addr×Obj)) (s:Shared) (σ:St) (H:Hp) (x:V) (xs:List V) (v:Value) (us:List Value) (Q:VK),aE X ae σ H s->bw x v->aO xs us->r x xs H Q->
  wpAny (model X.prog X.w) X.A (call (.builtin id) (v::us)) (EP X ae σ Q) X.xe s
theorem aO.one{x:V}{us:List Value}(h:aO [x] us):∃u,us=[u]/\bw x u:=by
 cases h with
 |cons r h=>cases h;exact⟨_,rfl,r⟩
theorem aO.two{x y:V}{us:List Value}(h:aO [x,y] us):∃u v,us=[u,v]/\bw x u/\bw y v:=by
 cases h with
 |cons r h=>
  cases h with
  |cons q h=>cases h;exact⟨_,_,rfl,r,q⟩
theorem aO.rep(h:aO xs us):∀k:Nat,aO (List.replicate k xs).flatten (List.replicate k us).flatten
 |0=>.nil
 |k+1=>by
  rw[kE,kE,o7,o7];exact aO.append h (aO.rep h k)
theorem qZ(its:List Value):∀ (k:Nat) (dt:List Value),
  List.foldl (fun x1 x2=>x1++x2) dt.toArray (List.replicate k its.toArray)=(dt++(List.replicate k its).flatten).toArray
 |0,dt=>by simp
 |k+1,dt=>by
  have e:dt.toArray++its.toArray=(dt++its).toArray:=by simp
  have e2:(dt++its)++(List.replicate k its).flatten=dt++(List.replicate (k+1) its).flatten:=by
   rw[kE,o7,cJ]
  rw[<-e2,<-qZ its k (dt++its),<-e,kE,ja]
section
variable {X:Cx} {ae:List (Addr×Obj)} {σ:St} {H:Hp} {s:Shared} {l b:Addr} {xs ys zs:List V}
theorem aE.RJ{its its':List Value}{n:Nat}{f:Array Value->Array Value}{t':Nat}(I:aE X ae σ H s)(hH:H l=some (.lst xs))(e:s.heap.get? l=some { cls:=.type "list",data:=.seq its.toArray n })(hf:f its.toArray=its'.toArray)(hv:aO ys its')(hz:ys.length<=sizeLine):
  aE X ae σ (upd H l (.lst ys)) { s with heap:=s.heap.update l (Obj.mapSeq f),toks:=t' }:=by
 have q:=PySem.IsL.update e f;rw[hf] at q;refine I.write (x:=l) (e:=l) (by rw[hH];exact trivial) (.inl rfl) (fun b' u hb hu=>(nM s.heap (Obj.mapSeq f) (dN hb)).trans hu) ⟨_,q⟩ ?_;exact⟨hz,its',_,hv,q⟩
theorem aE.Je(I:aE X ae σ H s)(hv:aO ys its)(hz:ys.length<=sizeLine):
  aE X ae σ (upd H s.heap.objs.size (.lst ys)) { s with heap:=s.heap.push { cls:=.type "list",data:=.seq its.toArray },toks:=t' }:=
 I.laid (fun _ _ q=>bv _ q) (aI _) ⟨hz,its,0,hv,b_ _ rfl⟩
theorem aE.fresh(I:aE X ae σ H s):H s.heap.objs.size=none:=I.bE.fresh (aI _)
theorem aE.Av(I:aE X ae σ H s)(hH:H l=some (.lst xs)):xs.length<=sizeLine/\∃ (its:List Value) (n:Nat),aO xs its/\xs.length=its.length/\s.heap.get? l=some { cls:=.type "list",data:=.seq its.toArray n }:=by
 obtain⟨z,its,n,r,e⟩:=I.bE l _ hH;exact⟨z,its,n,r,r.length,e⟩
theorem Cp(h:n<=sizeLine):Builtin.List.listTooLong n=false:=by
 unfold Builtin.List.listTooLong;exact eD (by lia)
end
section
variable {X:Cx}
def Fg:V->List V->Hp->VK->Prop:=fun x vs H Q=>∃l xs y,x=.ref l/\vs=[y]/\H l=some (.lst xs)/\xs.length<sizeLine/\Q .bD (upd H l (.lst (xs++[y])))
theorem cY:V6 X "list.append" Fg:=by
 intro ae s σ H x vs v us Q I rx rv h;obtain⟨l,xs,y,rfl,rfl,hH,hz,q⟩:=h;cases rx;obtain⟨u,rfl,ru⟩:=rv.one;obtain⟨z,its,n,r,hl,e⟩:=I.Av hH;refine call_meets F.slot_list_append ⟨_,e,rfl⟩ F.entry_list_append (F.args_list_append_2 _ _) (PySem.list_append l its.toArray n u (by rw[bY];lia)) ⟨e,?_⟩;refine⟨.bD,_,I.RJ (its':=its++[u]) hH e (by simp) (r.append (.cons ru .nil)) ?_,rfl,q⟩;rw[fY,wK];lia
def RK:R2:=fun x y H Q=>∃l b xs zs,x=.ref l/\y=.ref b/\H l=some (.lst xs)/\H b=some (.lst zs)/\xs.length+zs.length<=sizeLine/\∀p,H p=none->Q (.ref p) (upd H p (.lst (xs++zs)))
theorem sY:lI X (binaryOp .Add) RK:=by
 intro ae s σ H x y v u Q I rx ry h;obtain⟨l,b,xs,zs,rfl,rfl,hH,hB,hz,q⟩:=h;cases rx;cases ry;obtain⟨z,its,n,r,hl,e⟩:=I.Av hH;obtain⟨z2,Aw,n2,r2,HG,e2⟩:=I.Av hB;refine PySem.P.add_list e e2 ?_ (by rw[bY,bY];lia);have ea:its.toArray++Aw.toArray=(its++Aw).toArray:=by simp
 rw[ea];exact⟨.ref _,_,I.Je (t':=s.toks) (r.append r2) (by rw[fY];lia),rfl,q _ I.fresh⟩
def RL:R2:=fun x y H Q=>∃l k xs,x=.ref l/\y=.int k/\H l=some (.lst xs)/\-(2 ^ 63)<=k/\k<2 ^ 63/\xs.length*k.toNat<=sizeLine/\
 ∀p,H p=none->Q (.ref p) (upd H p (.lst (List.replicate k.toNat xs).flatten))
theorem Fh(xs:List α)(k:Nat):(List.replicate k xs).flatten.length=k*xs.length:=by
 induction k with
 |zero=>simp
 |succ k ih=>rw[kE,o7,fY,ih,Nat.succ_mul,Nat.add_comm]
theorem Cq:lI X (binaryOp .Mult) RL:=by
 intro ae s σ H x y v u Q I rx ry h;obtain⟨l,k,xs,rfl,rfl,hH,h1,h2,hz,q⟩:=h;cases rx;obtain⟨t,rfl⟩:=ry;obtain⟨z,its,n,r,hl,e⟩:=I.Av hH;have dX:its.toArray.size*k.toNat<=sizeLine:=by rw[bY,<-hl];exact hz
 have RM:¬ its.toArray.size*k.toNat > (2 ^ 63-1) / 8:=by
  have:(sizeLine:Nat)<=(2 ^ 63-1) / 8:=by decide
  lia
 have RP:¬ (!Builtin.List.listFitsIndex k)=true:=by
  rw[fitsIndex_both h1 h2];exact bX
 have MQ:¬ Builtin.List.listTooLong (its.toArray.size*k.toNat)=true:=by
  rw[Cp dX];exact bX
 have u8:List.foldl (fun x1 x2=>x1++x2) #[] (List.replicate (if its.toArray.isEmpty=true then 0 else k.toNat) its.toArray)=(List.replicate k.toNat its).flatten.toArray:=by
  have f0:∀m:Nat,List.foldl (fun x1 x2=>x1++x2) #[] (List.replicate m its.toArray)=(List.replicate m its).flatten.toArray:=fun m=>by
   have:=qZ its m [];rw[xi] at this;exact this
  rw[f0];cases its with
  |nil=>simp
  |cons a r'=>rw[aj (by simp)]
 refine wpAny_binaryOp_repeat_ref (T:="list") (U:="int") (by decide) ⟨_,e,rfl⟩ (fun s'=>typeIs_int s' k t) noFill_list_mul F.fills_int_mul F.slot_int_rmul repeat_list F.slot_int_index.lookup
  (call_meets F.slot_int_rmul (typeIs_int s k t) F.entry_int_rmul (F.args_int_rmul_2 _ _) (int___rmul___int_list k t l its.toArray n)
   ⟨e,rfl,⟨_,e,rfl⟩,call_meets F.slot_list_mul ⟨_,e,rfl⟩ F.entry_list_mul (F.args_list_mul_2 _ _) (AutoListH.list___mul___list_int_3 l its.toArray n k t RP RM MQ) ⟨e,?_⟩⟩)
 rw[u8];exact⟨.ref _,_,I.Je (t':=s.toks) (r.rep k.toNat) (by rw[Fh,Nat.mul_comm];exact hz),rfl,q _ I.fresh⟩
end
section
variable {prog:Program} {w:World} {A:Around} {E:Value->Shared->Prop} {s:Shared}
end
section
variable {X:Cx}
end
end L2
namespace V7
open PySem PySem.W PySem.Calls PyProof.Rows
theorem n6:∀ (ns:List Int) (vs:List Value),WellAll P h vs (ns.map WData.int)->IntsAre vs ns:=by
 intro ns;induction ns with
 |nil=>
  intro vs w;rw[List.map_nil] at w;cases w;exact .nil
 |cons n ns ih=>
  intro vs w;rw[ie] at w;cases w with
  |cons a b=>
   cases a;exact .cons _ _ (ih _ b)
theorem Ax{l:OpenLaw}{n:Nat}(hn:l.most=some n){P:Params}{h:Heap}{args:List WData}{Cr:List Value}(Fi:l.row.toRowW.claim.pre args=true)(RQ:WellAll P h Cr args):
  ∃a vs ns,Cr=[Value.ref a]/\args=[WData.list (ns.map WData.int)]/\h.get? a=some { cls:=.type "list",data:=.seq vs.toArray }/\IntsAre vs ns/\ns.length<=n:=by
 have XZ:WShape.hasAll [] args [.list .int]=true:=(pre_splitW Fi).1;have hc:l.pre.holds [] { args:=args }=true:=(pre_splitW Fi).2;obtain⟨d,r,rfl,h1,h2⟩:=hasAllW_cons XZ;obtain rfl:=hasAllW_nil h2;obtain⟨xs,rfl,h3⟩:=hasW_list h1;obtain⟨ns,rfl⟩:=items_int h3;have dX:ns.length<=n:=by
  unfold OpenLaw.pre at hc;have h4:(WTm.not (.lt (.lit (.int (n:Int))) (.len (.arg 0)))).holds [] { args:=[.list (ns.map .int)] }=true:=by
   have h4:=(holds_andW hc).1;rw[hn] at h4;exact h4
  have h5:=condW_of h4 (w_not (w_lt w_lit (w_len_list (w_arg rfl))));rw[aH] at h5;refine Nat.le_of_not_lt fun q=>?_;have q':(n:Int)<((ns.length:Nat):Int):=by lia
  first
   |(rw[dg q'] at h5;exact absurd h5 (by decide))
   |(simp at h5;lia)
 cases RQ with
 |cons w1 w2=>
  cases w2;cases w1 with
  |list ho u9=>exact⟨_,_,ns,rfl,rfl,ho,n6 ns _ u9,dX⟩
theorem Ay(l:OpenLaw)(args:List WData):l.row.toRowW.claim.post args (.bool true) args=true:=
 postW_of (r:=l.row.toRowW) (X:=(true==true))
  (show WShape.has [] (.bool true) .bool=true by first|rfl|decide|simp[WShape.has,WShape.arms,WShape.armsAll])
  (show (WTm.eq .res (.lit (.bool true))).value [] { args:=args,res:=some (.bool true),after:=args }=some (.bool (true==true)) from w_eq_bool (w_res rfl) w_lit) rfl
theorem u_{l:OpenLaw}{n:Nat}{q:Program}{q0:List Str}{XP:(Str->Option Value)->Heap->Prop}{YP:World->Heap->Prop}{d:DefRec}(hn:l.most=some n)(MR:d.params.defaults=[])(call:∀ (w:World) (s₀ s₁:Shared) (mg mb:Str->Option Value) (fa:Addr) (o:Obj) (pm cd lM:Value) (a:Addr) (vs:List Value) (ns:List Int),
   Ground q q0 [] XP w s₀ mg mb s₁.heap->YP w s₁.heap->
   s₁.heap.get? fa=some o->o.data=.func (docDef d.name d.params d.body d.scope pm cd lM)->s₁.heap.CodeRec cd d.name->mg d.name=some (.ref fa)->
   s₁.heap.get? a=some { cls:=.type "list",data:=.seq vs.toArray }->IntsAre vs ns->ns.length<=n->s₁.gens=#[]->
   codeAny (model l.prog w) callerA (.call (.ref fa) ⟨[.ref a],[]⟩) (fun r s'=>r=.ok (.ret (.bool true))/\OldK s₁.heap s'.heap/\s'.os=s₁.os/\AllBare s'.gens) s₁):
  WalkO q q0 XP YP l.row.toRowW d [] (fun f vs=>PySem.call f vs):=by
 intro w s₀ s₁ mg mb G Y fa o pm cd lM dV kV ho hd qR hD MS hg args Cr as Fi X0 hrd RQ Qv;obtain rfl:dV=.none:=Dflts.none hD MR;obtain rfl:kV=.none:=Dflts.noKw hD;obtain⟨a,vs,ns,rfl,rfl,Jf,Cs,dX⟩:=Ax hn Fi RQ;refine enter_call (kN (call w s₀ s₁ mg mb fa o pm cd lM a vs ns G Y ho (fd_plain hd) qR MS Jf Cs dX hg) fun r s' hq=>?_);obtain⟨rfl,h2,h3,h4⟩:=hq;exact⟨.inl ⟨.bool true,.bool true,[],rfl,fun _=>rfl,.bool true,Ay l _,fun _=>⟨List.Pairwise.nil,fun _ hm=>(nomatch hm)⟩⟩,h2,h3,h4⟩
section
variable {prog:Program} {w:World} {A:Around} {E:Value->Shared->Prop} {s:Shared} {K:Frag}
end
end V7
namespace L2
open PySem PySem.Spec PyProof.Rows
theorem mZ:∀ {vs:List Value} {ns:List Int},IntsAre vs ns->aO (ns.map V.int) vs
 |_,_,.nil=>.nil
 |_,_,.cons n t h=>.cons ⟨t,rfl⟩ (mZ h)
def iI(s:Stmt)(j:Nat):Stmt:=match s with
 |.ClassDef _ _ _ body _ _ _ _ _ _ _=>body.getD j (.Pass ⟨0,0,0,0⟩)
 |_=>.Pass ⟨0,0,0,0⟩
def cH(s:Stmt):Arguments:=match s with
 |.FunctionDef _ a _ _ _ _ _ _ _ _=>a
 |_=>{ posonlyargs:=[],args:=[],vararg:=none,kwonlyargs:=[],kw_defaults:=[],kwarg:=none,defaults:=[] }
def bC(s:Stmt):List Stmt:=match s with
 |.FunctionDef _ _ b _ _ _ _ _ _ _=>b
 |_=>[]
def au(s:Stmt):Scope:=match s with
 |.FunctionDef _ _ _ _ _ _ sc _ _ _=>sc
 |_=>{ kind:=.function,names:=[],isGenerator:=false,isCoroutine:=false }
abbrev aW:wm:=fun _ _ _ _ _ _=>False
abbrev E0:XK:=fun _ _ _=>False
theorem aJ:kW aW X E0:=fun _ _ _ _ _ _ _ h=>h.elim
structure fW(K:PySem.W.Frag)(x qual:Str)(st:Stmt)(f:Addr)(fd:FuncData):Prop where
 ex:∃ (oc:Value) (od:Option Addr) (kV lM pm:Value) (an:Option Addr) (dR ct:Value) (wo:Array (Option Value)),
  fd=PySem.W.fnOf x qual (cH st) (bC st) (au st) .none kV lM pm an dR ct/\K.lookup f=some ⟨oc,od,.func fd,wo⟩/\PySem.W.codeIn K dR qual=true
 kp:PySem.W.keepIn K (.ref f)=true
section
variable {P:Program} {w:World} {K:PySem.W.Frag} {mg:Str->Option Value} {base:Heap}
theorem fW.ok{x qual:Str}{st:Stmt}{f:Addr}{fd:FuncData}{N ps:List Str}{k:Nat}{sp:Sp}(F:fW K x qual st f fd)(S:aG N ps (au st))(len:∀vs H Q E,sp vs H Q E->vs.length=ps.length)(u4:∀ (dR:Value) (A:Around) (outer:List Env) (s:Shared) (H:Hp) (vs:List V) (Q:VK) (E:XK),bA k (A.deeper (envOfC qual (au st) s.heap.objs.size f dR))->sp vs H Q E->
   ∃t,xr (pM aW P w K mg base N qual (au st) f dR A outer s H E).EH (bC st) t/\t { nx:=fun _ H'=>Q .bD H',rt:=Q } (start N vs) H):bq P w K mg base aW (k+1) f fd ps sp:=by
 obtain⟨oc,od,kV,lM,pm,an,dR,ct,wo,rfl,lk,qR⟩:=F.ex;refine HF lk qR S len fun A outer s H vs Q E hr EJ=>?_;obtain⟨t,h,q⟩:=u4 dR A outer s H vs Q E hr EJ;exact⟨t,h.EH,q⟩
theorem fW.binds{x qual:Str}{st:Stmt}{f:Addr}{fd:FuncData}{ps:List Str}(F:fW K x qual st f fd)(h:∀ (kV lM pm:Value) (an:Option Addr) (dR ct:Value) (us:List Value),us.length=ps.length->bindArgs (PySem.W.fnOf x qual (cH st) (bC st) (au st) .none kV lM pm an dR ct) ⟨us,[]⟩=pure (ps.zip us)):js K fd ps []:=by
 obtain⟨oc,od,kV,lM,pm,an,dR,ct,wo,rfl,lk,qR⟩:=F.ex;exact .all (h kV lM pm an dR ct)
theorem s_{x qual:Str}{st:Stmt}{f:Addr}{oc:Value}{od an:Option Addr}{wo:Array (Option Value)}{kV lM pm dR ct:Value}(l:K.lookup f=some ⟨oc,od,.func (PySem.W.fnOf x qual (cH st) (bC st) (au st) .none kV lM pm an dR ct),wo⟩)(c:PySem.W.codeIn K dR qual=true)(k:PySem.W.keepIn K (.ref f)=true):fW K x qual st f (PySem.W.fnOf x qual (cH st) (bC st) (au st) .none kV lM pm an dR ct):=⟨⟨oc,od,kV,lM,pm,an,dR,ct,wo,rfl,l,c⟩,k⟩
end
section
variable {X:Cx}
theorem pv(i:Nat)(hN:X.N[i]?=some x:=by rfl)(hv:Lq X.env.scope x:=by first|exact Or.inl rfl|exact Or.inr (Or.inl rfl)|exact Or.inr (Or.inr rfl))(hd:(x==("__debug__":Str))=false:=by decide)(qR:(x==("__classdict__":Str))=false:=by decide):PE X (.Name x pos) (bj i):=IK hN hv hd qR
end
theorem fT{A B:Prop}(h:B):if false=true then A else B:=by
 rw[aj bX];exact h
theorem va{A B:Prop}(h:A):if true=true then A else B:=by
 rw[ao rfl];exact h
theorem il{c A B:Prop}[Decidable c](h1:c->A)(h2:¬ c->B):if c then A else B:=by
 by_cases h:c
 .rw[ao h];exact h1 h
 .rw[aj h];exact h2 h
def aK(H H':Hp):Prop:=∀b o,H b=some o->H' b=some o
theorem aK.refl(H:Hp):aK H H:=fun _ _ h=>h
theorem aK.trans(a:aK H H1)(b:aK H1 H2):aK H H2:=fun c o h=>b c o (a c o h)
theorem aK.free(e:aK H H')(h:H' l=Option.none):H l=Option.none:=by
 cases q:H l with
 |none=>rfl
 |some o=>
  rw[e l o q] at h;cases h
def wq(src:List (Option Nat))(σ:St):St:=src.map fun o=>match o with|some j=>σ.getD j none|none=>none
theorem yW{src:List (Option Nat)}{σ:St}{i:Nat}{v:V}(h:(wq src σ)[i]?=some (some v)):∃j,src[i]?=some (some j)/\σ[j]?=some (some v):=by
 unfold wq at h;rw[bi] at h;cases e:src[i]? with
 |none=>rw[e] at h;cases h
 |some o=>
  rw[e] at h;cases o with
  |none=>cases h
  |some j=>
   refine⟨j,rfl,?_⟩;have h':σ.getD j none=some v:=a_ h;rw[b9] at h';cases e2:σ[j]? with
   |none=>rw[e2] at h';cases h'
   |some o=>rw[e2] at h';rw[show o=some v from h']
structure fA(NB:List Str)(src:List (Option Nat))(scope:Scope)(X:Cx):Prop where
 kind:scope.kind=.function
 nd:NB.Nodup
 len:src.length=NB.length
 cells:∀y∈scope.names,y.2=.cell->scope.names.lookup y.1=some .cell
 names:∀y∈scope.names,y.2=.local->scope.names.lookup y.1=some .local
 free:∀y∈scope.names,y.2=.free->X.env.scope.names.lookup y.1=some .cell\/X.env.scope.names.lookup y.1=some .free
 src:∀ (i:Nat) (x:Str) (j:Nat),NB[i]?=some x->src[i]?=some (some j)->X.N[j]?=some x/\scope.names.lookup x=some .free
def tf(scope:Scope)(x:Str):Bool:=match scope.names.lookup x with
 |some .cell=>true
 |_=>false
theorem vb:tf scope x=true↔scope.names.lookup x=some .cell:=by
 unfold tf;split
 .rename_i h;exact⟨fun _=>h,fun _=>rfl⟩
 .rename_i h;exact⟨fun z=>(by cases z),fun z=>absurd z h⟩
def yX(X:Cx)(NB:List Str)(scope:Scope)(cl:List (Str×Addr))(C:Addr)(s₃:Shared)(H₃:Hp)(fp:List Addr):Cx:=
 { X with N:=NB,s₀:=s₃,H₀:=H₃,env:=compEnvC scope cl C X.env,outer:=X.stack,stack:=X.stack,ex:=fp,fn:=tf scope,pn:=[],xe:=fun _ _=>False }
theorem kX:∀ (names:List (Str×NameKind)) (dt:List (Str×Addr)),(∀y∈names,y.2=NameKind.free->∃c,env.cells.lookup y.1=some c)->(∀x c,dt.lookup x=some c->env.cells.lookup x=some c)->
  ∃cl,(forIn names dt fun x r=>(if (x.2==NameKind.free)=true then (do let a <- cellOf env x.1;pure (ForInStep.yield ((x.1,a)::r))) else pure (ForInStep.yield r):Sem (ForInStep (List (Str×Addr)))))=(pure cl:Sem (List (Str×Addr)))/\
   (∀x c,cl.lookup x=some c->env.cells.lookup x=some c)/\(∀x c,dt.lookup x=some c->∃c',cl.lookup x=some c')/\∀x,(x,NameKind.free)∈names->∃c,cl.lookup x=some c
 |[],dt,_,ha=>⟨dt,by rw[jh],ha,fun x c h=>⟨c,h⟩,fun x h=>nomatch h⟩
 |(n,k)::r,dt,hf,ha=>by
  by_cases hk:k=NameKind.free
  .subst hk;obtain⟨c,hc⟩:=hf (n,NameKind.free) cD rfl;have RS:∀x c',((n,c)::dt).lookup x=some c'->env.cells.lookup x=some c':=fun x c' h=>by
    rw[eY] at h;cases hx:x==n with
    |true=>
     rw[hx] at h;cases h;have:x=n:=by simpa using hx
     rw[this];exact hc
    |false=>rw[hx] at h;exact ha x c' h
   obtain⟨cl,e1,e2,e3,e4⟩:=kX r ((n,c)::dt) (fun y hy=>hf y (bP _ hy)) RS;refine⟨cl,?_,e2,fun x c' h=>?_,fun x h=>?_⟩
   .rw[jg];have ec:cellOf env n=pure c:=by unfold cellOf;rw[hc]
    have e0:(if ((n,NameKind.free).2==NameKind.free)=true then (do let a <- cellOf env (n,NameKind.free).1;pure (ForInStep.yield (((n,NameKind.free).1,a)::dt))) else pure (ForInStep.yield dt):Sem (ForInStep (List (Str×Addr))))=pure (ForInStep.yield ((n,c)::dt)):=by
     rw[ao (show (NameKind.free==NameKind.free)=true by decide)];show cellOf env n >>= _=_;rw[ec];rfl
    rw[e0];exact e1
   .cases hx:x==n with
    |true=>exact e3 x c (by rw[eY,hx])
    |false=>exact e3 x c' (by rw[eY,hx];exact h)
   .rcases aS.mp h with h|h
    .cases h;exact e3 n c (by rw[eY];simp)
    .exact e4 x h
  .obtain⟨cl,e1,e2,e3,e4⟩:=kX r dt (fun y hy=>hf y (bP _ hy)) ha;refine⟨cl,?_,e2,e3,fun x h=>?_⟩
   .rw[jg];have hb:(k==NameKind.free)=false:=by simpa using hk
    have e0:(if ((n,k).2==NameKind.free)=true then (do let a <- cellOf env (n,k).1;pure (ForInStep.yield (((n,k).1,a)::dt))) else pure (ForInStep.yield dt):Sem (ForInStep (List (Str×Addr))))=pure (ForInStep.yield dt):=by
     rw[aj (by show ¬ (k==NameKind.free)=true;rw[hb];decide)]
    rw[e0];exact e1
   .rcases aS.mp h with h|h
    .cases h;exact absurd rfl hk
    .exact e4 x h
theorem kY(ok:X.Ok)(S:fA NB src scope X):
  ∃cl,closureFor scope X.env=pure cl/\(∀x c,cl.lookup x=some c->X.env.cells.lookup x=some c)/\∀x,(x,NameKind.free)∈scope.names->∃c,cl.lookup x=some c:=by
 obtain⟨cl,e1,e2,_,e4⟩:=kX (env:=X.env) scope.names [] (fun y hy hk=>ok.has y.1 (S.free y hy hk)) (fun x c h=>nomatch h);refine⟨cl,?_,e2,e4⟩;unfold closureFor;simp only[bind_pure];exact e1
theorem tj(h:scope.names.lookup x=some .free):(relabel scope env).names.lookup x=some .cell\/(relabel scope env).names.lookup x=some .free:=by
 have go:∀names:List (Str×NameKind),names.lookup x=some .free->
   (names.map fun (n,k)=>if (k==NameKind.free&&env.scope.kind==.function&&env.kindOf n==some .cell) then (n,NameKind.cell) else (n,k)).lookup x=some .cell\/
   (names.map fun (n,k)=>if (k==NameKind.free&&env.scope.kind==.function&&env.kindOf n==some .cell) then (n,NameKind.cell) else (n,k)).lookup x=some .free:=by
  intro names;induction names with
  |nil=>intro h;simp at h
  |cons y r ih=>
   intro h;obtain⟨n,k⟩:=y;rw[eY] at h;rw[ie];cases hx:x==n with
   |true=>
    rw[hx] at h;cases h;by_cases hc:(NameKind.free==NameKind.free&&env.scope.kind==.function&&env.kindOf n==some .cell)=true
    .left;show List.lookup x ((if _ then _ else _)::_)=_;rw[ao hc,eY,hx]
    .right;show List.lookup x ((if _ then _ else _)::_)=_;rw[aj hc,eY,hx]
   |false=>
    rw[hx] at h;by_cases hc:(k==NameKind.free&&env.scope.kind==.function&&env.kindOf n==some .cell)=true
    .show List.lookup x ((if _ then _ else _)::_)=_\/List.lookup x ((if _ then _ else _)::_)=_;rw[ao hc,eY,hx];exact ih h
    .show List.lookup x ((if _ then _ else _)::_)=_\/List.lookup x ((if _ then _ else _)::_)=_;rw[aj hc,eY,hx];exact ih h
 exact go scope.names h
theorem lQ(h:(relabel scope env).names.lookup x=some k)(hk:k=.cell\/k=.free):(x,NameKind.free)∈scope.names\/(x,NameKind.cell)∈scope.names:=by
 have m:=gE h;obtain⟨⟨n,k'⟩,hm,e⟩:=bo.mp m;by_cases q:(k'==NameKind.free&&env.scope.kind==.function&&env.kindOf n==some .cell)=true
 .have e':(n,NameKind.cell)=(x,k):=by simpa [q] using e
  have k1:k'=NameKind.free:=by
   simp only[df,eM] at q;exact q.1.1
  cases e';left;rw[<-k1];exact hm
 .have e':(n,k')=(x,k):=by simpa [q] using e
  cases e';rcases hk with z|z
  .subst z;exact .inr hm
  .subst z;exact .inl hm
theorem m6:∀ (names:List (Str×NameKind)) (h:Heap) (dt:List (Str×Addr)) (x:Str) (c:Addr),(cellsFrom h.objs.size names dt).lookup x=some c->dt.lookup x=some c\/(h.objs.size<=c/\(pushCells h names).IsCell c none)
 |[],_,_,_,_,e=>.inl e
 |(name,kind)::r,h,dt,x,c,e=>by
  unfold cellsFrom at e;unfold pushCells;split at e
  .rename_i hk;rw[ao hk];have iG:(h.push { cls:=.type "cell",data:=.cell none }).objs.size=h.objs.size+1:=iT ..;rw[<-iG] at e;rcases m6 r _ _ x c e with z|⟨z1,z2⟩
   .rw[eY] at z;cases hx:x==name with
    |true=>
     rw[hx] at z;cases z;exact .inr ⟨aI _,_,pushCells_keeps r _ _ _ (b_ _ rfl),rfl⟩
    |false=>rw[hx] at z;exact .inl z
   .exact .inr ⟨by lia,z2⟩
  .rename_i hk;rw[aj hk];exact m6 r h dt x c e
theorem q8:∀ (names:List (Str×NameKind)) (n:Nat) (dt:List (Str×Addr)) (x:Str),(x,NameKind.cell)∈names->∃c,n<=c/\(cellsFrom n names dt).lookup x=some c:=by
 have up:∀ (names:List (Str×NameKind)) (n m:Nat) (dt:List (Str×Addr)) (x:Str) (c:Addr),dt.lookup x=some c->m<=c->m<=n->∃c',m<=c'/\(cellsFrom n names dt).lookup x=some c':=by
  intro names;induction names with
  |nil=>intro n m dt x c e h _;exact⟨c,h,e⟩
  |cons y r ih=>
   intro n m dt x c e h hm;obtain⟨name,kind⟩:=y;unfold cellsFrom;split
   .cases hx:x==name with
    |true=>exact ih (n+1) m _ x n (by rw[eY,hx]) hm (by lia)
    |false=>exact ih (n+1) m _ x c (by rw[eY,hx];exact e) h (by lia)
   .exact ih n m dt x c e h hm
 intro names;induction names with
 |nil=>intro n dt x h;cases h
 |cons y r ih=>
  intro n dt x h;obtain⟨name,kind⟩:=y;unfold cellsFrom;rcases aS.mp h with z|z
  .cases z;rw[ao (by decide)];exact up r (n+1) n _ x n (by rw[eY];simp) (aI _) (by lia)
  .split
   .obtain⟨c,h1,h2⟩:=ih (n+1) ((name,n)::dt) x z;exact⟨c,by lia,h2⟩
   .exact ih n dt x z
theorem jO:∀ (names:List (Str×NameKind)) (n:Nat) (dt:List (Str×Addr)) (x:Str) (c:Addr),dt.lookup x=some c->(x,NameKind.cell)∉names->(cellsFrom n names dt).lookup x=some c
 |[],_,_,_,_,e,_=>e
 |(name,kind)::r,n,dt,x,c,e,h=>by
  have hr:(x,NameKind.cell)∉r:=fun z=>h (bP _ z);unfold cellsFrom;split
  .rename_i hk;have m9:(x==name)=false:=by
    cases hx:x==name with
    |false=>rfl
    |true=>
     have e1:x=name:=by simpa using hx
     have e2:kind=.cell:=by simpa using hk
     exact absurd (by rw[e1,e2];exact cD) h
   exact jO r (n+1) _ x c (by rw[eY,m9];exact e) hr
  .exact jO r n dt x c e hr
theorem m_:∀ (names:List (Str×NameKind)) (n:Nat) (dt:List (Str×Addr)),(∀x y c,dt.lookup x=some c->dt.lookup y=some c->x=y)->(∀x c,dt.lookup x=some c->c<n)->∀x y c,(cellsFrom n names dt).lookup x=some c->(cellsFrom n names dt).lookup y=some c->x=y
 |[],_,_,hi,_=>hi
 |(name,kind)::r,n,dt,hi,hl=>by
  unfold cellsFrom;split
  .refine m_ r (n+1) _ (fun x y c h1 h2=>?_) (fun x c h=>?_)
   .rw[eY] at h1 h2;cases hx:x==name <;> cases hy:y==name <;> rw[hx] at h1 <;> rw[hy] at h2
    .exact hi x y c h1 h2
    .cases h2;exact absurd (hl x _ h1) (iU _)
    .cases h1;exact absurd (hl y _ h2) (iU _)
    .have e1:x=name:=by simpa using hx
     have e2:y=name:=by simpa using hy
     rw[e1,e2]
   .rw[eY] at h;cases hx:x==name <;> rw[hx] at h
    .exact cz (hl x c h)
    .cases h;exact j7 _
  .exact m_ r n dt hi hl
section
variable {X:Cx} {ae:List (Addr×Obj)} {σ:St} {H:Hp} {s:Shared} {NB:List Str} {src:List (Option Nat)} {scope:Scope} {cl:List (Str×Addr)} {fp:List Addr} {h₁:Heap} {t₁:Nat}
theorem Fj(I:aE X ae σ H s)(S:fA NB src scope X)(c1:∀x c,cl.lookup x=some c->X.env.cells.lookup x=some c)(c2:∀x,(x,NameKind.free)∈scope.names->∃c,cl.lookup x=some c)(hf:∀b∈fp,eG X ae H b)(Fk:∀b∈fp,b<s.heap.objs.size){m:Str->Option Value}(hn:h₁.Ns s.heap.objs.size m)(hk:∀b o,s.heap.get? b=some o->h₁.get? b=some o)(u8:∀x c,(cellsFrom (s.heap.objs.size+1) scope.names cl).lookup x=some c->cl.lookup x=some c\/(s.heap.objs.size<c/\h₁.IsCell c none)):
  aE (yX X NB scope (cellsFrom (s.heap.objs.size+1) scope.names cl) s.heap.objs.size s H fp) [] (wq src σ) H { s with heap:=h₁,toks:=t₁ }:=by
 have Ls:∀b∈Ag X.stack,b∈X.env.locals::X.fs:=I.pE;have kZ:∀x c,cl.lookup x=some c->∃v,s.heap.IsCell c v:=fun x c e=>I.cell x c (c1 x c e);have RT:∀x c,cl.lookup x=some c->c<s.heap.objs.size:=fun x c e=>by obtain⟨v,o,ho,_⟩:=kZ x c e;exact bb ho
 refine⟨⟨I.ok.mod,S.kind,I.ok.glob,I.ok.blt,aI _,m_ _ _ _ (fun x y c e1 e2=>I.ok.inj x y c (c1 x c e1) (c1 y c e2)) (fun x c e=>cz (RT x c e)),fun x hx=>?_,fun x c z e=>?_,I.ok.hd,I.ok.frames,.inl rfl,fun b hb=>⟨?_,fun x c e=>?_⟩,I.bs,aX I.ok.Ah I.sz,fun b o e hb=>?_,fun b hb=>?_,I.stack,I.lD⟩,
  rfl,I.bare,Un.kept hk,⟨m,hn,fun i x v e1 e2 e3=>?_⟩,fun x c e=>?_,I.bE.fresh (aI _),fun x c e=>?_,fun p hp=>absurd (show p∈([]:List (Addr×Obj)) from hp) (by simp),I.bE.kept hk,?_⟩
 .have Fl:(x,NameKind.free)∈scope.names\/(x,NameKind.cell)∈scope.names:=by
   rcases hx with hx|hx
   .exact lQ hx (.inl rfl)
   .exact lQ hx (.inr rfl)
  by_cases hc:(x,NameKind.cell)∈scope.names
  .obtain⟨c,_,e⟩:=q8 scope.names (s.heap.objs.size+1) cl x hc;exact⟨c,e⟩
  .rcases Fl with z|z
   .obtain⟨c,e⟩:=c2 x z;exact⟨c,jO _ _ _ _ _ e hc⟩
   .exact absurd z hc
 .have hm:=gE (vb.mp z);obtain⟨c',h1,h2⟩:=q8 scope.names (s.heap.objs.size+1) cl x hm;have e':(cellsFrom (s.heap.objs.size+1) scope.names cl).lookup x=some c:=e;rw[h2] at e';cases e';exact Nat.le_of_succ_le h1
 .exact aM (Fk b hb)
 .rcases u8 x c e with z|⟨z,_⟩
  .exact(hf b hb).2.2.2.2.1 x c (c1 x c z)
  .exact ig (Nat.lt_trans (Fk b hb) z)
 .rcases(hf b hb).2.2.2.1 with z|z
  .exact I.ok.B1 b o e z
  .exact absurd (cC (bb e) (aX I.ok.Ah z)) (iU _)
 .intro z;rcases aS.mp (Ls b z) with e|e
  .exact(hf b hb).2.1 e
  .exact(hf b hb).2.2.1 e
 .obtain⟨j,hj,hv⟩:=yW e2;obtain⟨hN,hF⟩:=S.src i x j e1 hj;obtain⟨m0,X1,Qw⟩:=I.loc;have xK:=gE hF;have kx:=S.free _ xK rfl;have Ms:Lq X.env.scope x:=by
   rcases kx with z|z
   .exact .inr (.inl z)
   .exact .inr (.inr z)
  obtain⟨u,r,l⟩:=Qw j x v hN hv Ms;refine⟨u,r,.inr ⟨tj hF,?_⟩⟩;obtain⟨c,hc⟩:=c2 x xK;have X2:(x,NameKind.cell)∉scope.names:=fun z=>by
   have:=S.cells _ z rfl;rw[hF] at this;cases this
  refine⟨c,jO _ _ _ _ _ hc X2,?_⟩;rcases l with ⟨EL,_⟩|⟨_,c',e,z⟩
  .have Ct:X.env.scope.names.lookup x=some .local:=EL;rcases kx with z|z <;> (rw[z] at Ct;cases Ct)
  .rw[c1 x c hc] at e;cases e;obtain⟨o,ho,hd⟩:=z;exact⟨o,hk _ _ ho,hd⟩
 .rcases u8 x c e with z|⟨_,z⟩
  .obtain⟨v,o,ho,hd⟩:=kZ x c z;exact⟨v,o,hk _ _ ho,hd⟩
  .exact⟨none,z⟩
 .rcases u8 x c e with z|⟨z,_⟩
  .exact I.iV x c (c1 x c z)
  .exact I.bE.fresh (iB z)
 .show (wq src σ).length=NB.length;unfold wq;rw[aH];exact S.len
theorem aE.MT(I:aE X ae σ H s)(J:aE (yX X NB scope cl C s H fp) [] σB H' s')(hf:∀b∈fp,eG X ae H b):aE X ae σ H' s':=by
 refine I.B3 (ch:=fp) J.os J.base J.bE J.bare fun b hb=>?_;obtain⟨_,f1,_,f3,f4,f5⟩:=hf b hb;exact⟨f3,f1,f4,f5⟩
end
def Lw(X:Cx)(yY:List Expr)(t:TT):Prop:=
 ∀ (ae:List (Addr×Obj)) (s:Shared) (σ:St) (H:Hp) (Q:Bool->Hp->Prop),aE X ae σ H s->t σ H Q->
  wpAny (model X.prog X.w) X.A (forIn yY true fun c r=>if r=true then do let ok <- isTrue c X.env (eval c X.env);pure (ForInStep.yield ok) else pure (ForInStep.yield r)) (TP X ae σ Q) X.xe s
def RV:TT:=fun _ H Q=>Q true H
theorem dq:Lw X [] RV:=fun _ _ _ H _ I h=>wpAny_tests_nil ⟨H,I,h⟩
theorem gO(h:PT X c t):Lw X [c] t:=fun ae s σ H Q I q=>wpAny_tests_one (h ae s σ H Q I q)
def im(J:It)(g:TG)(tt:TT)(te:TE)(D:Addr)(dU:Hp->Prop)(σB:St)(H1:Hp):Prop:=
 ∃W:Nat->Nat->St->Hp->Prop,(∃m,W 0 m σB H1)/\∀i m σ H,W i m σ H->(J.stop i H/\dU H)\/(J.go i H/\∀x H',J.Hy i H x H'->g x σ H' fun σ2 H2=>tt σ2 H2 fun b H3=>
  if b=true then te σ2 H3 fun v H4=>∃ys,H4 D=some (.lst ys)/\ys.length<sizeLine/\∃m',m'<m/\W (i+1) m' σ2 (upd H4 D (.lst (ys++[v]))) else ∃m',m'<m/\W (i+1) m' σ2 H3)
theorem Az(hx:B.xe=fun _ _=>False)(hc:B.calm=true)(T:qE B.prog B.w B.K tg J fp it tn)(hg:PG B tg g)(ht:Lw B yY tt)(he:PE B BA te)(I:aE B [] σB H1 s)(st:tn 0 s.heap)(hf:∀b∈fp,eG B [] H1 b)(hw:im J g tt te D dU σB H1)(hR:∀σ' H' s',aE B [] σ' H' s'->dU H'->R (.ok .next) s'):
  codeAny (model B.prog B.w) B.A (.compLoop (.ListComp BA [⟨tg,iY,yY,0⟩] scope pos) 0 (.ref it) (.ref D) B.env) R s:=by
 obtain⟨W,⟨m0,w0⟩,B5⟩:=hw;have xx:∀ {H':Hp},(∀b∈fp,H' b=none)->∀b∈fp,eG B [] H' b:=fun hn b hb=>⟨hn b hb,(hf b hb).2⟩
 refine codeAny_loop rfl (fun n s'=>∃i σ' H',aE B [] σ' H' s'/\tn i s'.heap/\(∀b∈fp,H' b=none)/\W i n σ' H') ?_ m0 ⟨0,σB,H1,I,st,fun b hb=>(hf b hb).1,w0⟩;rintro n s3 ⟨i,σ3,H3,I3,iW,IS,w3⟩;show wpAny _ B.A ((compTurn (.ListComp BA [⟨tg,iY,yY,0⟩] scope pos) 0 (.ref it) (.ref D) B.env).onRaise (fun x=>do noteFrame x B.env;theTreesLotGoes x)) _ _ s3;refine wpAny_noted ?_;rw[compTurn_list];have nx:∀ {α:Type} {t:Sem α} {Q:α->Shared->Prop} {E':Value->Shared->Prop} {s:Shared},wpAny (model B.prog B.w) B.A t Q B.xe s->wpAny (model B.prog B.w) B.A t Q E' s:=fun h=>
  gX h (fun _ _ q=>q) fun _ _ z=>by rw[hx] at z;exact z.elim
 rcases B5 i n σ3 H3 w3 with ⟨stop,qn⟩|⟨go,step⟩
 .refine ak (mI (ak (cI (T.done B rfl rfl rfl hc i [] s3 σ3 H3 _ I3 (xx IS) iW stop) fun r s4 ⟨hr,I4⟩=>?_)));subst hr;exact wpAny_pure (hR σ3 H3 s4 I4 qn)
 .refine ak (mI (ak (cI (T.item B rfl rfl rfl hc i [] s3 σ3 H3 _ I3 (xx IS) iW go) fun r s4 ⟨u,hr,h4⟩=>?_)));subst hr;refine ak (cI h4 fun _ s5 ⟨x,H5,I5,r5,y5,uK,Rv⟩=>?_);have Rx:=I5.pinned (xx Rv) (T.obj _ _ uK);refine ak (nx (cI (hg _ s5 σ3 H5 x u _ Rx r5 (step x H5 y5)) fun _ s6 ⟨σ6,H6,I6,q6⟩=>?_));have back:∀ {σ7:St} {H7:Hp} {s7:Shared} {m':Nat},aE B ([]++pI fp s5.heap) σ7 H7 s7->m'<n->W (i+1) m' σ7 H7->∃m,m<n/\∃i σ' H',aE B [] σ' H' s7/\tn i s7.heap/\(∀b∈fp,H' b=none)/\W i m σ' H':=fun {σ7 H7 s7 m'} I7 hm w7=>by
   refine⟨m',hm,i+1,σ7,H7,I7.lH,T.keep _ _ _ uK fun b hb o e=>(I7.pin (b,o) (cZ _ (cZ _ (iF hb e)))).1,fun b hb=>?_,w7⟩;obtain⟨o,e,d⟩:=T.obj _ _ uK b hb;exact(I7.pin (b,o) (cZ _ (cZ _ (iF hb e)))).2.1
  refine ak (nx (cI (ht _ s6 σ6 H6 _ I6 q6) fun ok s7 ⟨H7,I7,q7⟩=>?_));cases ok with
  |false=>
   rw[aj bX] at q7;obtain⟨m',hm,w7⟩:=q7;exact wpAny_pure ⟨rfl,back I7 hm w7⟩
  |true=>
   rw[ao rfl] at q7;refine ak (ak (nx (cI (he _ s7 σ6 H7 _ I7 q7) fun v s8 ⟨y,H8,I8,r8,ys,hD,hl,m',hm,w8⟩=>?_)));refine ak (nx (cI (cY _ s8 σ6 H8 (.ref D) [y] (.ref D) [v] (fun _ H9=>H9=upd H8 D (.lst (ys++[y]))) I8 rfl (.cons r8 .nil) ⟨D,ys,y,rfl,rfl,hD,hl,rfl⟩) fun _ s9 ⟨_,H9,I9,_,e9⟩=>?_));subst e9;exact wpAny_pure (wpAny_pure ⟨rfl,back I9 hm w8⟩)
theorem tm(hQ:Q { scope:=scope,locals:=s.heap.objs.size,globals:=globals,cells:=cellsFrom (s.heap.objs.size+1) scope.names cl,qual:=qual,func:=none,code:=outer.code,frame:=outer.frame,builtins:=outer.builtins }
   { s with heap:=pushCells (s.heap.push { cls:=.type "dict",data:=.dict #[] }) scope.names }):
  wpAny M A (newFunctionEnv scope globals cl [] qual none .none (some outer)) Q E s:=by
 simp only[newFunctionEnv,Option.isSome_some,gb];refine ak (wpAny_alloc ?_);refine ak (wpAny_layCells _ (fun name kind cells=>by cases X3:kind==NameKind.cell <;> simp[X3]) _ _ _ _ ?_);rw[show ({ s with heap:=s.heap.push { cls:=.type "dict",data:=.dict #[] } }:Shared).heap.objs.size=s.heap.objs.size+1 from iT ..];refine ak ?_;rw[jh];exact wpAny_pure (wpAny_pure hQ)
section
variable {X:Cx} {BA tg iY:Expr} {yY:List Expr} {scope:Scope} {pos:Pos} {wi:TI} {g:TG} {tt:TT} {te:TE} {NB:List Str} {src:List (Option Nat)}
def HI(src:List (Option Nat))(wi:TI)(g:TG)(tt:TT)(te:TE):TE:=fun σ H Q=>wi σ H fun J H1=>∀D,H1 D=none->im J g tt te D (fun H'=>Q (.ref D) H') (wq src σ) (upd H1 D (.lst []))
theorem pN{ae:List (Addr×Obj)}{σ:St}{H2:Hp}{s2:Shared}{J:It}{fp:List Addr}{it:Addr}{tn:Nat->Heap->Prop}{cl:List (Str×Addr)}{dU:Addr->Hp->Prop}{E':Value->Shared->Prop}{RR:Value->Addr->Result->Shared->Prop}(S:fA NB src scope X)(hc:X.calm=true)(c1:∀x c,cl.lookup x=some c->X.env.cells.lookup x=some c)(c2:∀x,(x,NameKind.free)∈scope.names->∃c,cl.lookup x=some c)(hg:∀cl C s₃ H₃ fp,PG (yX X NB scope cl C s₃ H₃ fp) tg g)(ht:∀cl C s₃ H₃ fp,Lw (yX X NB scope cl C s₃ H₃ fp) yY tt)(he:∀cl C s₃ H₃ fp,PE (yX X NB scope cl C s₃ H₃ fp) BA te)(I2:aE X ae σ H2 s2)(T:qE X.prog X.w X.K tg J fp it tn)(md:tn 0 s2.heap)(f2:∀b∈fp,eG X ae H2 b)(hw:∀D,H2 D=none->im J g tt te D (dU D) (wq src σ) (upd H2 D (.lst [])))(hR:∀D C H' s',eG X ae H' C->aE X ae σ H' s'->(∃m,s'.heap.Ns C m)->dU D H'->RR (.ref D) C (.ok .next) s'):
  wpAny (model X.prog X.w) X.A (newList []) (fun dt s₃=>wpAny (model X.prog X.w) X.A (newFunctionEnv scope X.env.globals cl [] X.env.qual none .none (some X.env)) (fun MU s₄=>
   codeAny (model X.prog X.w) X.A (.compStart (.ListComp BA [⟨tg,iY,yY,0⟩] scope pos) 0 (.ref it) dt { MU with scope:=relabel scope X.env }) (RR dt MU.locals) s₄) E' s₃) E' s2:=by
 refine ph (tm ?_);have I3:=I2.Je (ys:=[]) (its:=[]) (t':=s2.toks) .nil (ce _);have hD:H2 s2.heap.objs.size=none:=I2.fresh;have fo:∀b∈fp,b<s2.heap.objs.size:=fun b hb=>by obtain⟨o,e,_⟩:=T.obj _ _ md b hb;exact bb e
 have up:∀ {b:Addr},b∈fp->upd H2 s2.heap.objs.size (.lst []) b=H2 b:=fun {b} hb=>am (aM (fo b hb));have f3:∀b∈fp,eG X ae (upd H2 s2.heap.objs.size (.lst [])) b:=fun b hb=>⟨by rw[up hb];exact(f2 b hb).1,(f2 b hb).2⟩
 have iG:(s2.heap.push { cls:=.type "list",data:=.seq ([]:List Value).toArray }).objs.size=s2.heap.objs.size+1:=by rw[iT]
 generalize RW:({ s2 with heap:=s2.heap.push { cls:=.type "list",data:=.seq ([]:List Value).toArray } }:Shared)=s3 at I3 |-;have V8:s3.heap=s2.heap.push { cls:=.type "list",data:=.seq ([]:List Value).toArray }:=by rw[<-RW]
 have V9:∀b∈fp,b<s3.heap.objs.size:=fun b hb=>by rw[V8,iG];exact cz (fo b hb)
 have MV:(s3.heap.push { cls:=.type "dict",data:=.dict #[] }).objs.size=s3.heap.objs.size+1:=iT ..;have u8:∀x c,(cellsFrom (s3.heap.objs.size+1) scope.names cl).lookup x=some c->cl.lookup x=some c\/(s3.heap.objs.size<c/\(pushCells (s3.heap.push { cls:=.type "dict",data:=.dict #[] }) scope.names).IsCell c none):=fun x c e=>by
  rw[<-MV] at e;rcases m6 _ _ _ _ _ e with z|⟨z1,z2⟩
  .exact .inl z
  .exact .inr ⟨by rw[MV] at z1;exact z1,z2⟩
 have MW:=(Heap.Ns.new s3.heap (.type "dict")).keeps (pushCells_keeps scope.names _);have keep:∀b o,s3.heap.get? b=some o->(pushCells (s3.heap.push { cls:=.type "dict",data:=.dict #[] }) scope.names).get? b=some o:=fun b o e=>pushCells_keeps _ _ b o (bv _ e);generalize hh1:pushCells (s3.heap.push { cls:=.type "dict",data:=.dict #[] }) scope.names=h₁ at u8 MW keep |-;have IB:aE (yX X NB scope (cellsFrom (s3.heap.objs.size+1) scope.names cl) s3.heap.objs.size s3 (upd H2 s2.heap.objs.size (.lst [])) fp) [] (wq src σ) (upd H2 s2.heap.objs.size (.lst [])) { s3 with heap:=h₁,toks:=s3.toks }:=
  Fj I3 S c1 c2 f3 V9 MW keep u8
 have V_:tn 0 h₁:=T.keep 0 s2.heap h₁ md fun b hb o e=>keep b o (by rw[V8];exact bv _ e);have fB:∀b∈fp,eG (yX X NB scope (cellsFrom (s3.heap.objs.size+1) scope.names cl) s3.heap.objs.size s3 (upd H2 s2.heap.objs.size (.lst [])) fp) [] (upd H2 s2.heap.objs.size (.lst [])) b:=fun b hb=>by
  refine⟨(f3 b hb).1,aM (V9 b hb),fun z=>?_,.inl hb,fun x c e=>(IB.ok.Rb b hb).2 x c e,fun p hp=>absurd (show p∈([]:List (Addr×Obj)) from hp) (by simp)⟩;rcases aS.mp (I3.pE b z) with e|e
  .exact(f3 b hb).2.1 e
  .exact(f3 b hb).2.2.1 e
 have loop:codeAny (model X.prog X.w) X.A (.compLoop (.ListComp BA [⟨tg,iY,yY,0⟩] scope pos) 0 (.ref it) (.ref s2.heap.objs.size) (compEnvC scope (cellsFrom (s3.heap.objs.size+1) scope.names cl) s3.heap.objs.size X.env)) (RR (.ref s2.heap.objs.size) s3.heap.objs.size)
   { s3 with heap:=h₁,toks:=s3.toks }:=by
  refine Az (B:=yX X NB scope (cellsFrom (s3.heap.objs.size+1) scope.names cl) s3.heap.objs.size s3 (upd H2 s2.heap.objs.size (.lst [])) fp) rfl hc T (hg _ _ _ _ _) (ht _ _ _ _ _) (he _ _ _ _ _) IB V_ fB (hw _ hD) fun σ' H' s' J' q=>?_;obtain⟨m,hm,_⟩:=J'.loc;exact hR _ _ H' s' (I3.qD (aI _) J'.free) (I3.MT J' f3) ⟨m,hm⟩ q
 exact codeAny_compStart_list loop (T.self _ 0 _ _ _ V_ loop)
theorem cT(S:fA NB src scope X)(hc:X.calm=true)(hi:PI X tg iY wi)(hg:∀cl C s₃ H₃ fp,PG (yX X NB scope cl C s₃ H₃ fp) tg g)(ht:∀cl C s₃ H₃ fp,Lw (yX X NB scope cl C s₃ H₃ fp) yY tt)(he:∀cl C s₃ H₃ fp,PE (yX X NB scope cl C s₃ H₃ fp) BA te)(hs:∀x,foldedSetIterable iY X.env x=pure x:=by intro _;rfl):PE X (.ListComp BA [⟨tg,iY,yY,0⟩] scope pos) (HI src wi g tt te):=by
 intro ae s σ H Q I h;obtain⟨cl,HJ,c1,c2⟩:=kY I.ok S;rw[eval_ListComp];refine wpAny_comprehension_free (use:=none) (cl:=cl) rfl hs HJ S.kind S.names (cI (hi ae s σ H _ I h) fun v s1 h1=>cI h1 fun Qr s2 h2=>?_);obtain⟨it,fp,tn,J,H2,e,I2,T,md,f2,hw⟩:=h2;subst e;refine pN (RR:=fun dt C=>compPost (model X.prog X.w) X.A X.xe none (EP X ae σ Q) dt C) S hc c1 c2 hg ht he I2 T md f2 hw fun D C H' s' fC I' hm q=>?_;obtain⟨m,hm⟩:=hm;refine⟨m,hm,fun h' sb=>⟨.ref D,H',?_,rfl,q⟩⟩;obtain⟨g0,g1,_,g3,g4,g5⟩:=fC;exact I'.turned (t':=s'.toks) (fun b o hb e=>(sb.2 b hb).trans e) g0 g1 g3 g4 g5
theorem d8{i:Nat}{y:Str}{py MX:Pos}(S:fA NB src scope X)(hc:X.calm=true)(hi:PI X tg iY wi)(hg:∀cl C s₃ H₃ fp,PG (yX X NB scope cl C s₃ H₃ fp) tg g)(ht:∀cl C s₃ H₃ fp,Lw (yX X NB scope cl C s₃ H₃ fp) yY tt)(he:∀cl C s₃ H₃ fp,PE (yX X NB scope cl C s₃ H₃ fp) BA te)(hN:X.N.Nodup)(X4:X.N[i]?=some y)(hy:X.env.scope.names.lookup y=some .local)(X5:swapsWith (.ListComp BA [⟨tg,iY,yY,0⟩] scope pos) (some (.Name y py)) MX.line X.env=pure true)(hs:∀x,foldedSetIterable iY X.env x=pure x:=by intro _;rfl):
  PS X (.Assign [.Name y py] (.ListComp BA [⟨tg,iY,yY,0⟩] scope pos) MX) (IP (HI src wi g tt te) (bQ i)):=by
 intro ae s σ H D0 I h;obtain⟨cl,HJ,c1,c2⟩:=kY I.ok S;rw[exec_Assign_Name_used _ _ _ _ X5];refine ak (mI (ak ?_));show wpAny _ X.A (do let _ <- comprehension (.ListComp BA [⟨tg,iY,yY,0⟩] scope pos) scope X.env _ (newList []) false (eval iY X.env) (some (assign (.Name y py) X.env))) _ _ s;refine ak (gX (wpAny_comprehension_free (use:=some (assign (.Name y py) X.env)) (Q:=fun _ s'=>SP X ae D0 .next s') (cl:=cl) rfl hs HJ S.kind S.names
  (cI (hi ae s σ H _ I h) fun v s1 h1=>cI h1 fun Qr s2 h2=>?_)) (fun _ s' hq=>wpAny_pure (wpAny_pure hq)) fun _ _ e=>e)
 obtain⟨it,fp,tn,J,H2,e,I2,T,md,f2,hw⟩:=h2;subst e;refine pN (RR:=fun dt C=>compPost (model X.prog X.w) X.A X.xe (some (assign (.Name y py) X.env)) (fun _ s'=>SP X ae D0 .next s') dt C) S hc c1 c2 hg ht he I2 T md f2 hw fun D C H' s' fC I' hm q=>?_;obtain⟨m,hm⟩:=hm;obtain⟨g0,g1,_,g3,g4,g5⟩:=fC;show wpAny _ X.A (assign (.Name y py) X.env (.ref D)) _ _ _;refine wpAny_assign_Name (qQ I' hN X4 (.inl hy) (v:=.ref D) rfl (fun EI X6 sb=>?_) (.inr hy));obtain⟨a,sb,ha⟩:=sb;have m9:C≠a:=by
  rcases ha with z|z
  .rw[z];exact g1
  .exact fun z'=>g4 y a z z'.symm
 refine⟨m,hm.sameBut sb m9,fun h' X7=>⟨_,H',X6.turned (t':=EI.toks) (fun b o hb e=>(X7.2 b hb).trans e) g0 g1 g3 g4 g5,q⟩⟩
end
section
variable {P:Program} {w:World} {K:PySem.W.Frag} {mg:Str->Option Value} {base:Heap} {N:List Str} {qual:Str} {scope:Scope} {f:Addr} {cd:Value} {A:Around} {outer:List Env} {s:Shared} {H:Hp} {E:XK}
end
open PySem PySem.Spec PyProof.Rows PySem.W
abbrev X8:List Value:=[.type "ValueError",.type "Exception",.type "BaseException",.type "object"]
structure AA(K:PySem.W.Frag)(C:Addr):Prop where
 ex:PySem.W.excIn K C X8 "ValueError.__new__"=true
 kp:PySem.W.keepIn K (.ref C)=true
 ga:PySem.W.findIn K (.ref C) "__getattribute__"=some (some (.builtin "BaseException.__getattribute__"))
 gt:PySem.W.findIn K (.ref C) "__getattr__"=some none
 cl:PySem.W.findIn K (.ref C) "__class__"=some (some (.builtin "object.__class__"))
 mo:PySem.W.mroIn K C (.type "object")=some true
 mb:PySem.W.mroIn K C (.type "BaseException")=some true
 ty:(PySem.W.clsIn K C).isSome=true
def Qx(p:Addr)(C:Value)(h:Heap):Prop:=∃o,h.get? p=some o/\o.cls=C
abbrev RX(p:Addr)(C:Value):HO:=.ext (Qx p C)
theorem cK.get(x:cK P w H h a o):∃u,h.get? a=some u:=by
 cases o with
 |lst xs=>obtain⟨_,_,_,_,e⟩:=x;exact⟨_,e⟩
 |tup xs=>obtain⟨_,_,_,ob,e,_⟩:=x;exact⟨_,e⟩
 |dK hW=>obtain⟨_,_,_,_,o,_,_,e,_⟩:=x;exact⟨_,e⟩
 |dT hW=>obtain⟨_,_,_,_,o,_,_,e,_⟩:=x;exact⟨_,e⟩
 |set S n=>obtain⟨o,_,_,_,e,_⟩:=x;exact⟨_,e⟩
 |ins C dx fs=>obtain⟨_,_,_,e,_⟩:=x;exact⟨_,e⟩
 |own y=>exact x
 |xd fs=>obtain⟨_,⟨_,_,_,e,_⟩,_⟩:=x;exact⟨_,e⟩
 |Qi lo hi=>obtain⟨_,_,_,e⟩:=x;exact⟨_,e⟩
 |uJ ob u=>obtain⟨e,_⟩:=x;exact⟨_,e⟩
 |j8 ps=>exact⟨_,(show h.get? a=some _ from x)⟩
 |met f y=>exact⟨_,(show h.get? a=some _ from x)⟩
 |ext φ=>exact x.2.1
theorem kP.pO(x:kP P w H h)(e:h.get? a=none):H a=none:=by
 cases q:H a with
 |none=>rfl
 |some u=>obtain⟨o,z⟩:=(x a u q).get;rw[e] at z;cases z
theorem aE.Cu(I:aE X ae σ H s)(k:∀b u,s.heap.get? b=some u->h'.get? b=some u)(hp:s.heap.get? a=none)(new:cK X.prog X.w (upd H a o) h' a o):
  aE X ae σ (upd H a o) { s with heap:=h',toks:=t' }:=by
 have hn:=I.bE.pO hp;have ne:∀b u,s.heap.get? b=some u->b≠a:=fun b u e z=>by rw[z,hp] at e;cases e
 refine I.un ⟨fun b u e _ _ _=>k b u e,fun b u e _ _ _=>⟨u.slots,k b u e⟩,fun b u e n _=>by rw[am (ne b u e)];exact n,fun b u e _=>⟨u,k b u e⟩,fun b xs e=>by rw[am (ap e hn)];exact e,fun b u v e=>by rw[am (ap e hn)];exact e,fun b ps e=>⟨#[],by rw[am (ap e hn),e];simp⟩⟩ fun b u e=>?_;by_cases hb:b=a
 .subst hb;rw[af] at e;cases e;exact new
 .rw[am hb] at e;exact(I.bE b u e).lC (fun c v _ q=>k c v q) (fun c q=>by rw[am (ap q hn)];exact q) fun c xs q=>by rw[am (ap q hn)];exact q
section
variable {prog:Program} {w:World} {A:Around} {E:Value->Shared->Prop} {s:Shared} {K:PySem.W.Frag} {x C:Addr} {ox:Obj}
theorem yZ(hx:h.get? x=some ox)(hc:ox.cls=.ref C):PySem.W.Looks M h (typeOf (.ref x)) (.ref C):=hc ▸ (PySem.W.Looks.ld hx).andThen .now
open Builtin Builtin.ObjectAttr Builtin.Getset_descriptor in
theorem xL(X:K.In s.heap)(hx:s.heap.get? x=some ox)(hc:ox.cls=.ref C)(hm:PySem.W.mroIn K C (.type "object")=some true)(h:R (.ok (.ret (.ref C))) s):codeAny (model prog w) A (.call (.builtin "getset_descriptor.__get__") ⟨[.builtin "object.__class__",.ref x,tp],[]⟩) R s:=by
 obtain⟨hh,g,dr,t,os⟩:=s;have L0:=yZ (M:=model prog w) hx hc;have L1:=looks_mroIn (M:=model prog w) X hm;refine rX KF.slot_gs.plain KF.entry_gs (KF.slot_gs.check _ _ _ _ _ _ _ _ KF.type_class (KF.args_gs _ _ _) ?_);unfold Builtin.«getset_descriptor.__get__» descrGet;rw[dga_obj];refine ak (wpAny_pure ?_);unfold descrGetter descrCheckInstance descrNameAndClass isInstance;simp only[KF.owner_class];repeat lk
 refine⟨Code.quiet_builtin _ (by decide +kernel),mz KF.entry_class ?_⟩;unfold Builtin.«object.__class__» shownTypeOf;repeat lk
 exact h
theorem AB{g d t os}(T:AA K C)(X:K.In h)(hx:h.get? x=some ox)(hc:ox.cls=.ref C)(hq:Q (.done (.ret (.ref C))) ⟨h,g,d,t,os⟩):
  wpAny (model prog w) A (Builtin.«object.__getattribute__» ⟨[.ref x,.str "__class__" tk],[]⟩) Q E ⟨h,g,d,t,os⟩:=by
 have f5:=F.typeOf_bexc_args;have hT5:(⟨h,g,d,t,os⟩:Shared).TypeIs (.builtin "object.__class__") "getset_descriptor":=BP;have f5':=BP;have f6:=F.slot_gs_get.lookup;have f7:=F.slot_gs_set.lookup;have L1:=looks_findIn (M:=model prog w) X T.cl;repeat (any_goals (first|assumption|(with_reducible refine xm hx ?_;rw[hc])|with_reducible refine L1.at ?_|wp_step))
 refine xL (s:=⟨h,g,d,t,os⟩) X hx hc T.mo ?_;repeat (any_goals (first|assumption|wp_step))
theorem AC{g d t os}(T:AA K C)(X:K.In h)(hx:h.get? x=some ox)(hc:ox.cls=.ref C)(hq:Q () ⟨h,g,d,t,os⟩):
  wpAny M A (checkBuiltinCall "BaseException.__getattribute__" ⟨[.ref x,MY],[]⟩) Q E ⟨h,g,d,t,os⟩:=by
 have hk:builtinKind "BaseException.__getattribute__"=some .slot:=by decide +kernel
 have Jg:splitId "BaseException.__getattribute__"=some ("BaseException","__getattribute__"):=by decide +kernel
 have ha:=F.args_bexc_ga (.ref x) MY;have L1:=looks_mroIn (M:=M) X T.mb;simp only[checkBuiltinCall,hk,Jg];refine ak ?_
 .unfold isInstance;repeat (first|(with_reducible refine xm hx ?_;rw[hc])|with_reducible refine L1.at ?_|wp_step)
  exact hq
theorem Jh{tk:Tok}{fill E8:Bool}{Q:Value->Shared->Prop}{h:Heap}{g d t os}(T:AA K C)(X:K.In h)(hx:h.get? x=some ox)(hc:ox.cls=.ref C)(hq:Q (.ref C) ⟨h,g,d,t,os⟩):
  wpAny (model prog w) A (getAttrBy (.ref x) (.str "__class__" tk) fill E8) Q E ⟨h,g,d,t,os⟩:=by
 have f3:=F.attr_ValueError.ga.bind (.ref x);have hx0:(E8&&onTheHeap (Value.builtin "BaseException.__getattribute__"))=false:=by cases E8 <;> rfl
 have X9:(Value.builtin "BaseException.__getattribute__"==Value.builtin "object.__getattribute__")=false:=by decide +kernel
 have X_:(onTheHeap (Value.ref C)&&Value.builtin "BaseException.__getattribute__"==Value.builtin "object.__getattribute__")=false:=by rw[X9];rfl
 have L1:=looks_findIn (M:=model prog w) X T.ga;have L2:=looks_findIn (M:=model prog w) X T.gt;repeat (any_goals (first|assumption|(with_reducible refine xm hx ?_;rw[hc])|with_reducible refine L1.at ?_|with_reducible refine L2.at ?_|wp_step))
 refine rX F.attr_ValueError.ga.plain F.entry_bexc_ga (AC T X hx hc (AB T X hx hc ?_));repeat (any_goals (first|assumption|wp_step))
theorem Cv{Q:Option Value->Shared->Prop}{h:Heap}{g d t os}(T:AA K C)(X:K.In h)(hx:h.get? x=some ox)(hc:ox.cls=.ref C)(hq:Q (some (.ref C)) ⟨h,g,d,t+1,os⟩):
  wpAny (model prog w) A (getAttr? (.ref x) "__class__") Q E ⟨h,g,d,t,os⟩:=by
 unfold getAttr?;repeat (any_goals (first|assumption|with_reducible apply Jh T X hx hc|wp_step))
theorem vc(T:AA K C):PySem.W.KitX K (.ref x) (.ref C) (Qx x (.ref C)) where
 ty:=fun _ _ _ ⟨o,e,c⟩=>yZ e c
 it:=fun _ _ X _=>by
  obtain⟨Ya,E_⟩:=rM.mp T.ty;unfold clsIn at E_;split at E_
  .rename_i c' d' Yb Rf ho;intro A' Q' E' s' k q;unfold isType loadHead;exact ak (wpAny_loadPart (k _ _ (X _ _ ho)) (wpAny_pure q))
  .cases E_
 ne:=fun h tp dd its n sl X Yc=>by
  obtain⟨Ya,E_⟩:=rM.mp T.ty;refine ix.mpr fun q=>?_;have e:C=tp:=Value.ref.inj (eM.mp q);subst e;unfold clsIn at E_;split at E_
  .rename_i c' d' Yb Rf ho;have z:=(X _ _ ho).symm.trans Yc;cases z
  .cases E_
 ca:=fun {_ _ _ _ _ s} X ⟨o,e,c⟩ k=>by
  obtain⟨h,g,d,t,os⟩:=s;exact Cv T X e c k
end
section
variable {X:Cx}
inductive Ji (K:PySem.W.Frag) (H:Hp):V->Value->Prop where
 |of {v:V} {t:Value} (h:mY K H v t):Ji K H v t
 |exc {p C:Addr} (T:AA K C) (e:H p=some (RX p (.ref C))):Ji K H (.ref p) (.ref C)
def RY(K:PySem.W.Frag):List V->Hp->VK->Prop:=fun xs H Q=>∃x c cv t b,xs=[x,c]/\(c=.ty cv/\PySem.W.kitOne K t (.type cv)=some b)/\Ji K H x t/\Q (.bl b) H
theorem io:gf X (.builtin "isinstance") (RY X.K):=by
 intro ae s σ H xs us Q I r h;obtain⟨x,c,cv,t,b,rfl,⟨rfl,e⟩,ty,q⟩:=h;obtain⟨u1,u2,rfl,r1,r2⟩:=r.two;obtain rfl:u2=Value.type cv:=r2;cases ty with
 |of ty=>exact qU I r1 ty e fun tk=>⟨.bl b,H,I.tok tk,rfl,q⟩
 |@exc p C T ea=>
  obtain rfl:u1=Value.ref p:=r1;have p1:Qx p (.ref C) s.heap:=(I.bE p _ ea).1;exact h_ (vc T) I.kR p1 e (fun z=>nomatch z) fun tk=>⟨.bl b,H,I.tok tk,rfl,q⟩
def MZ(K:PySem.W.Frag):List V->Hp->VK->Prop:=fun xs H Q=>∃x c t b,xs=[x,.ref c]/\PySem.W.kitOne K t (.ref c)=some b/\Ji K H x t/\Q (.bl b) H
theorem AD:gf X (.builtin "isinstance") (MZ X.K):=by
 intro ae s σ H xs us Q I r h;obtain⟨x,c,t,b,rfl,e,ty,q⟩:=h;obtain⟨u1,u2,rfl,r1,r2⟩:=r.two;obtain rfl:u2=Value.ref c:=r2;cases ty with
 |of ty=>exact qU I r1 ty e fun tk=>⟨.bl b,H,I.tok tk,rfl,q⟩
 |@exc p C T ea=>
  obtain rfl:u1=Value.ref p:=r1;have p1:Qx p (.ref C) s.heap:=(I.bE p _ ea).1;exact h_ (vc T) I.kR p1 e (fun z=>nomatch z) fun tk=>⟨.bl b,H,I.tok tk,rfl,q⟩
end
section
variable {X:Cx} {x:Str} {C:Addr} {np sX pos:Pos} {e:Expr} {es:List Expr} {t:TA}
end
section
variable {X:Cx} {CX:wm} {k:Nat} {f C:Addr} {fd:FuncData} {ps:List Str} {sp:Sp} {qG:List V} {ds:List Value} {E:St->XK} {x m:Str} {p pos sQ:Pos} {e o:Expr} {es:List Expr} {ta:TE} {t:TA}
end
section
variable {X:Cx} {CX:wm} {k:Nat} {f:Addr} {fd:FuncData} {ps:List Str} {sp:Sp} {qG:List V} {ds:List Value} {E:XK} {x:Str} {p pos:Pos} {e:Expr} {es:List Expr} {t:TA}
end
section
variable {P:Program} {w:World} {K:PySem.W.Frag} {mg:Str->Option Value} {base:Heap}
end
section
variable {X:Cx} {ae:List (Addr×Obj)} {σ:St} {H:Hp} {s:Shared}
end
theorem Fm{h:Heap}{a:Addr}{m m':Str->Option Value}(x:h.Ns a m)(y:h.Ns a m'):m=m':=by
 obtain⟨o,es,ep,e,d,_,q⟩:=x;obtain⟨o',wg,Qn,e',d',_,q'⟩:=y;rw[e] at e';cases e';rw[d] at d';cases d';funext z;rw[<-q z,q' z]
theorem aE.M1{X:Cx}{ae:List (Addr×Obj)}{σ:St}{H:Hp}{s:Shared}{h':Heap}{m:Str->Option Value}{D:Addr}{o:HO}{t':Nat}(I:aE X ae σ H s)(F:Fr X.base X.env.locals s.heap m)(F':Fr X.base X.env.locals h' m)(N':News X.base X.env.locals h' (iE X.base s.heap X.env.locals))(hD:s.heap.get? D=none)(new:cK X.prog X.w (upd H D o) h' D o):aE X ae σ (upd H D o) { s with heap:=h',toks:=t' }:=by
 have hn:=I.bE.pO hD;have ne:∀b u,s.heap.get? b=some u->b≠D:=fun b u e z=>by rw[z,hD] at e;cases e
 have keep:∀b u,b≠X.env.locals->s.heap.get? b=some u->h'.get? b=some u:=fun b u hb e=>by
  cases q:X.base.get? b with
  |some v=>
   have:=I.bk b v q;rw[e] at this;cases this;exact F'.keep b _ q
  |none=>exact(N' (b,u) (jo hb q e)).1
 refine I.step (g':=s.gens) (d':=s.drawn) (ch:=[]) (fun _ z=>absurd z (by simp)) (fun b u hb _ _ e _=>keep b u hb e) (fun b u hb _ _ e _=>⟨u.slots,keep b u hb e⟩) (fun b u _ e n=>by rw[am (ne b u e)];exact n) (fun b u _ e=>?_)
  (fun b xs e=>by rw[am (ap e hn)];exact e) (fun b u v e=>by rw[am (ap e hn)];exact e) (fun b ps e=>⟨#[],by rw[am (ap e hn),e];simp⟩) (fun m1 hm=>by rw[Fm hm F.ns];exact F'.ns) (fun b u e=>?_) I.bare
 .by_cases hb:b=X.env.locals
  .obtain⟨o',_,_,q,_⟩:=F'.ns;exact⟨o',by rw[hb];exact q⟩
  .exact⟨u,keep b u hb e⟩
 .by_cases hb:b=D
  .subst hb;rw[af] at e;cases e;exact new
  .rw[am hb] at e;refine(I.bE b u e).lC (fun c v hc q=>keep c v ?_ q) (fun c q=>by rw[am (ap q hn)];exact q) fun c xs q=>by rw[am (ap q hn)];exact q
   rintro rfl;rcases hc with z|hc
   .have f:=I.free;rw[z,e] at f;cases f
   .rw[I.free] at hc;cases hc
theorem qJ(I:aE X ae σ H s)(N:News X.base X.env.locals h' ((D,o)::iE X.base s.heap X.env.locals))(cV:∀q∈iE X.base s.heap X.env.locals,q.1<D):s.heap.get? D=none:=by
 cases e:s.heap.get? D with
 |none=>rfl
 |some u=>
  obtain⟨_,n1,n2⟩:=N (D,o) cD;exact absurd (cV (D,u) (jo n1 n2 e)) (iU _)
def Cw(K:PySem.W.Frag)(H:Hp)(a:Addr)(y:Int×Int):Prop:=bW K H a [.int y.1,.int y.2]
section
variable {X:Cx}
theorem xM(I:aE X ae σ H s)(h:Cw X.K H a y):∃o n t u,s.heap.get? a=some o/\o.cls=.type "tuple"/\o.data=.seq #[.int y.1 t,.int y.2 u] n:=by
 obtain⟨its,r,p,_⟩:=I.tuple h;obtain⟨u1,u2,rfl,r1,r2⟩:=r.two;obtain⟨t,rfl⟩:=r1;obtain⟨t',rfl⟩:=r2;obtain⟨o,e,c,n,d⟩:=p;exact⟨o,n,t,t',e,c,d⟩
end
def Jj(hs:Array Int)(i:Nat):Int:=(hs[i]?).getD 0
def fq(hs:Array Int)(t:SetTable)(h:Int):Option (Array Int×SetTable):=
 if t.gaveWay then none else
 match t.probe (Jj hs) h (t.probeStart h) with
 |some (.empty j none)=>
  let q:=t.put j
  let EM:=SetTable.insertAt hs q.2 h
  if q.1.fits EM.size&&decide (EM.size<=4096) then
   if q.1.tooFull then
    (match q.1.relaid EM (SetTable.grown (hs.size+1)) with
    |some (t2,order)=>
     let j9:=order.filterMap (EM[·]?)
     if j9.size==EM.size&&t2.fits j9.size&&decide (SetTable.sizeAbove (SetTable.grown (hs.size+1))<=4096) then some (j9,t2) else none
    |none=>none)
   else some (EM,q.1)
  else none
 |_=>none
def tu(led:Bool):List Int->Option (Array Int×SetTable):=fun l=>l.foldlM (fun q h=>fq q.1 q.2 h) (#[],SetTable.fresh 0 0 led)
def ju(h:Heap)(S:Addr)(hs:Array Int)(t:SetTable):Prop:=∃o es ep,h.get? S=some o/\o.cls=.type "set"/\(o.dict=none/\o.slots=#[])/\o.data=.set es ep t/\es.map (·.1)=hs/\t.fits es.size=true
section
variable {prog:Program} {w:World} {A:Around} {E:Value->Shared->Prop} {s:Shared} {S:Addr}
theorem Jk(es:Array (Int×Value)):(fun i=>(es[i]?.map (·.1)).getD 0)=Jj (es.map (·.1)):=by
 funext i;unfold Jj;rw[Array.getElem?_map]
theorem lR(es:Array (Int×Value))(p:Nat)(x:Int×Value):(SetTable.insertAt es p x).map (·.1)=SetTable.insertAt (es.map (·.1)) p x.1:=by
 unfold SetTable.insertAt;simp
theorem ng(es:Array (Int×Value))(order:Array Nat):(order.filterMap (es[·]?)).map (·.1)=order.filterMap ((es.map (·.1))[·]?):=by
 apply Array.ext';rw[pf,rO,rO,List.map_filterMap];congr 1;funext i;rw[Array.getElem?_map]
theorem xN(hS:ju s.heap S hs t)(hg:t.gaveWay=false)(hp:t.probe (Jj hs) h (t.probeStart h)=some (.empty j none))(q:Q (.free j false) s):
  wpAny (model prog w) A (setSearch S x h true) Q E s:=by
 obtain⟨o,es,ep,ho,hc,Wa,hd,hm,hf⟩:=hS;unfold setSearch setSearchFrom;refine ak (si ho hd hf ?_);dsimp only;rw[hg,aj bX];have Lx:t.probe (fun i=>(es[i]?.map (·.1)).getD 0) h (t.probeStart h)=some (.empty j none):=by rw[Jk,hm];exact hp
 refine ak (wpAny_pure ?_);erw[Lx];exact wpAny_pure q
theorem AE(ho:s.heap.get? a=some o)(hc:o.cls=.type "tuple")(hd:o.data=.seq #[.int x t,.int y u] n)(q:Q true s):
  wpAny (model prog w) A (hashByValue 8 (.ref a)) Q E s:=by
 have hT:s.TypeIs (.ref a) "tuple":=⟨_,ho,hc⟩
 unfold hashByValue;refine ak (wpAny_specialOf hT PySem.F.slot_tuple_hash.lookup ?_);refine ak (f8 ho hd ?_);refine ak ?_;show wpAny _ _ (forIn #[Value.int x t,Value.int y u] _ _) _ _ s;rw[<-o6];refine wpAny_forIn_list _ (fun rest r s'=>r.1=none/\s'=s/\∀v∈rest,∃z k,v=Value.int z k) _ ?_ ?_ _ _ ⟨rfl,rfl,fun v hv=>?_⟩
 .rintro v rest r s' ⟨hr,rfl,u9⟩;obtain⟨z,k,rfl⟩:=u9 v cD;refine ak (wpAny_pure ?_);exact wpAny_pure ⟨rfl,rfl,fun u' wt=>u9 u' (bP _ wt)⟩
 .rintro⟨r1,r2⟩ s' ⟨hr,rfl,_⟩;have y3:r1=none:=hr;subst y3;exact wpAny_pure q
 .rcases aS.mp hv with z|z
  .exact⟨_,_,z⟩
  .rcases aS.mp z with z|z
   .exact⟨_,_,z⟩
   .cases z
theorem y4(hS:ju s.heap S hs t)(hf:t'.fits wg.size=true)(hz:wg.size<=4096)(q:∀h',Heap.SameBut S s.heap h'->ju h' S (wg.map (·.1)) t'->Q () { s with heap:=h' }):wpAny (model prog w) A (storeSet S wg t') Q E s:=by
 obtain⟨o,es,ep,ho,hc,Wa,hd,hm,_⟩:=hS;refine wpAny_storeSet_of ho hd (q _ (mr s.heap S (Obj.putSet wg t')) ?_) (aX hz (by decide));have g:=oZ (Obj.putSet wg t') ho (by rw[putSet_of wg t' hd];rfl);rw[putSet_of wg t' hd] at g;exact⟨_,wg,ep+1,g,hc,Wa,rfl,rfl,hf⟩
theorem Fn(hu:A.units<cLine)(hS:ju s.heap S hs t)(ho:s.heap.get? a=some o)(hc:o.cls=.type "tuple")(hd:o.data=.seq #[.int x tx,.int y ty] n)(m9:a≠S)(lG:fq hs t (tupleKeyHash (intKind prog w) [x,y])=some (hs',t'))(q:∀h' tk,Heap.SameBut S s.heap h'->ju h' S hs' t'->Q true { s with heap:=h',toks:=tk }):wpAny (model prog w) A (setAdd S (.ref a)) Q E s:=by
 have hk:IsTupleKey (intKind prog w) s.heap [x,y] a:=⟨o,_,n,ho,hc,hd,.cons (intKind_is _ _ _ _) (.cons (intKind_is _ _ _ _) .nil)⟩
 unfold setAdd;refine f9 (ak (wpAny_pyHash_tuple hu hk ?_));generalize MB:s.toks+([x,y].length+1)=tk;generalize hh:tupleKeyHash (intKind prog w) [x,y]=h at lG |-;have Wb:=hS;obtain⟨ob,es,ep,hb,RZ,hbd,EF,hm,hf⟩:=hS;unfold setAddHashed setAddHashedIn;refine f9 (ak (si (s:={ s with toks:=tk }) hb EF hf ?_));dsimp only;have Ly:byScan (.ref a) es=false:=by unfold byScan;rfl
 rw[Ly,aj bX];unfold fq at lG;cases hg:t.gaveWay with
 |true=>rw[hg,ao rfl] at lG;cases lG
 |false=>
  rw[hg,aj bX] at lG;split at lG
  .rename_i j hp;dsimp only at lG;split at lG
   .rename_i Qy;rw[df,r0] at Qy;refine ak (xN (s:={ s with toks:=tk }) Wb hg hp ?_);dsimp only;refine ak (si (s:={ s with toks:=tk }) hb EF hf ?_);dsimp only;have Yd:∀ {kk:Bool->Sem Bool},wpAny (model prog w) A (kk true) Q E { s with toks:=tk }->wpAny (model prog w) A (if (t.put j).1.plain=true then hashByValue 8 (.ref a) >>= kk else pure true >>= kk) Q E { s with toks:=tk }:=fun {kk} hP=>by
     split
     .exact ak (AE (s:={ s with toks:=tk }) ho hc hd hP)
     .exact ak (wpAny_pure hP)
    refine Yd ?_;simp only[gb];have iG:(SetTable.insertAt es (t.put j).2 (h,Value.ref a)).size=(SetTable.insertAt hs (t.put j).2 h).size:=by
     rw[<-hm,<-lR es (t.put j).2 (h,Value.ref a),f_]
    refine ak (y4 (s:={ s with toks:=tk }) Wb (by rw[iG];exact Qy.1) (by rw[iG];exact Qy.2) fun h1 gP S1=>?_);rw[lR,hm] at S1;split at lG
    .rename_i R0;rw[show (!false&&(t.put j).1.tooFull)=true by rw[R0];rfl,ao rfl];split at lG
     .rename_i t2 order hr;split at lG
      .rename_i hq;rw[df,df,r0,eM] at hq;obtain⟨⟨HK,HN⟩,Wc⟩:=hq;cases lG;have R1:es.size=hs.size:=by rw[<-hm,f_]
       refine ak ?_;unfold setRelay;obtain⟨o1,Fo,ep1,g1,g2,g3,g4,g5,g6⟩:=id S1;refine ak (si (s:={ s with heap:=h1,toks:=tk }) g1 g4 g6 ?_);dsimp only;rw[R1];rw[aj (by (have h4:(4096:Nat)<=sizeLine:=by decide);lia)];refine ak ?_;rw[g5,hr];have xO:(order.filterMap (Fo[·]?)).size=Fo.size:=by
        have e1:=congrArg Array.size (ng Fo order);rw[f_,g5] at e1;rw[e1,HK,<-g5,f_]
       refine wpAny_of_eq (show _=(pure (order.filterMap (Fo[·]?),t'):Sem (Array (Int×Value)×SetTable)) from ?_) ?_
       .show (do
         let wg:=order.filterMap (Fo[·]?)
         if wg.size != Fo.size then unsupported "internal:set-table-lost-an-element"
         pure (wg,t'):Sem (Array (Int×Value)×SetTable))=_
        simp[xO]
       dsimp only;have R3:Fo.size<=4096:=by
        have e1:=congrArg Array.size g5;rw[f_] at e1;rw[e1];exact Qy.2
       have Ye:(order.filterMap (Fo[·]?)).size=(order.filterMap ((SetTable.insertAt hs (t.put j).2 h)[·]?)).size:=by
        have e1:=congrArg Array.size (ng Fo order);rw[f_,g5] at e1;exact e1
       refine y4 (s:={ s with heap:=h1,toks:=tk }) S1 (by rw[Ye];exact HN) (by rw[xO];exact R3) fun h2 ip S2=>?_;rw[ng,g5] at S2;exact wpAny_pure (q h2 tk (gP.trans ip) S2)
      .cases lG
     .cases lG
    .rename_i R0;cases lG;have R4:(t.put j).1.tooFull=false:=by simpa using R0
     rw[show (!false&&(t.put j).1.tooFull)=false by rw[R4];rfl,aj bX];exact wpAny_pure (q h1 tk gP S1)
   .cases lG
  .cases lG
end
section
variable {prog:Program} {w:World} {A:Around} {E:Value->Shared->Prop} {s:Shared} {S Ia l:Addr} {R:Result->Shared->Prop}
def iJ(h:Heap)(vs:List Value)(ys:List (Int×Int)):Prop:=vs.length=ys.length/\∀i v,vs[i]?=some v->∃a o n t u,v=.ref a/\h.get? a=some o/\o.cls=.type "tuple"/\o.data=.seq #[.int (ys.getD i (0,0)).1 t,.int (ys.getD i (0,0)).2 u] n
theorem iJ.keeps(p:iJ h vs ys)(k:∀b o,(∃xs n,o.data=.seq xs n)->h.get? b=some o->h'.get? b=some o):iJ h' vs ys:=
 ⟨p.1,fun i v e=>let ⟨a,o,n,t,u,e1,e2,c,d⟩:=p.2 i v e;⟨a,o,n,t,u,e1,k a o ⟨_,_,d⟩ e2,c,d⟩⟩
def eQ(prog:Program)(w:World)(y:Int×Int):Int:=tupleKeyHash (intKind prog w) [y.1,y.2]
theorem Cy(hh:A.handled=none)(hu:A.units+1<cLine)(Yf:l≠S)(R5:l≠Ia)(R6:S≠Ia):
  ∀ (k i:Nat) (s:Shared) (hs:Array Int) (t:SetTable),vs.length-i=k->i<=vs.length->s.heap.IsListIter Ia l i->s.heap.IsList l vs.toArray->iJ s.heap vs ys->ju s.heap S hs t->
   ((ys.drop i).map (eQ prog w)).foldlM (fun q h=>fq q.1 q.2 h) (hs,t)=some (hsN,tN)->
   (∀h' tk,(∀b o,b≠S->b≠Ia->s.heap.get? b=some o->h'.get? b=some o)->ju h' S hsN tN->R (.ok (.ret .none)) { s with heap:=h',toks:=tk })->
   codeAny (model prog w) A (.builtin "set.update.loop" ⟨[.ref S,.ref Ia],[]⟩) R s:=by
 intro k;induction k with
 |zero=>
  intro i s hs t hk hi BB hl hp hS hf hR;have e:i=vs.length:=by lia
  refine mz BM ?_;rw[rZ wy _];show wpAny _ A.in1 (pyNext (.ref Ia) >>= _) _ _ s;refine ak (wpAny_pyNext_list_end (show A.in1.handled=none from hh) BB hl (by simp;lia) fun h' eb=>?_);show wpAny _ A.in1 (ret Value.none) _ _ _;have hd:ys.drop i=[]:=by rw[List.drop_eq_nil_iff];have:=hp.1;lia
  rw[hd] at hf;cases hf;obtain⟨o,es,ep,q1,q2⟩:=hS;exact wpAny_pure (hR h' s.toks (fun b o hb Qz e=>eb b o Qz e) ⟨o,es,ep,eb S o R6 q1,q2⟩)
 |succ k ih=>
  intro i s hs t hk hi BB hl hp hS hf hR;have cV:i<vs.length:=by lia
  refine mz BM ?_;rw[rZ wy _];show wpAny _ A.in1 (pyNext (.ref Ia) >>= _) _ _ s;have hv:vs[i]?=some vs[i]:=bT cV;refine ak (wpAny_pyNext_list_item BB hl (x:=vs[i]) (by simpa using hv) fun h1 R7 gP=>?_);obtain⟨a,o,n,tx,ty,ea,eo,ec,ed⟩:=hp.2 i _ hv;rw[ea];have We:∀b ob,(∃xs n,ob.data=.seq xs n)->s.heap.get? b=some ob->b≠Ia:=fun b ob ⟨xs,m,z⟩ e z'=>by
   obtain⟨oi,e1,_,d1⟩:=BB;rw[z',e1] at e;cases e;rw[d1] at z;cases z
  have R8:iJ h1 vs ys:=hp.keeps fun b ob hb e=>(gP.2 b (We b ob hb e)).trans e;have Wf:ju h1 S hs t:=by
   obtain⟨oS,es,ep,q1,q2⟩:=hS;exact⟨oS,es,ep,(gP.2 S R6).trans q1,q2⟩
  have Lz:h1.IsList l vs.toArray:=by
   obtain⟨ol,q1,q2⟩:=hl;exact⟨ol,(gP.2 l R5).trans q1,q2⟩
  have Wg:h1.get? a=some o:=(gP.2 a (We a o ⟨_,_,ed⟩ eo)).trans eo;have Wi:∀b ob,(∃xs n,ob.data=.seq xs n)->h1.get? b=some ob->b≠S:=fun b ob ⟨xs,m,z⟩ e z'=>by
   obtain⟨oS,es,ep,q1,_,_,q4,_⟩:=Wf;rw[z',q1] at e;cases e;rw[q4] at z;cases z
  have vd:i<ys.length:=by have:=hp.1;lia
  have Yg:ys.drop i=ys[i]::ys.drop (i+1):=rL vd;have Yh:ys.getD i (0,0)=ys[i]:=by rw[b9,bT vd];rfl
  rw[Yg,ie,List.foldlM_cons] at hf;cases lG:fq hs t (eQ prog w ys[i]) with
  |none=>rw[lG] at hf;cases hf
  |some q=>
   obtain⟨j9,t2⟩:=q;rw[lG] at hf;have Wj:((ys.drop (i+1)).map (eQ prog w)).foldlM (fun q h=>fq q.1 q.2 h) (j9,t2)=some (hsN,tN):=hf;show wpAny _ A.in1 (holding [Value.ref a] (setAdd S (.ref a)) >>= _) _ _ _;refine ak (f9 (Fn (s:={ s with heap:=h1 }) (by show A.units+1<cLine;exact hu) Wf Wg ec ed (Wi a o ⟨_,_,ed⟩ Wg) (hs':=j9) (t':=t2) (by rw[Yh];exact lG) fun h2 tk ip S2=>?_));refine wpAny_pure ⟨pA wy _,?_⟩;refine ih (i+1) { s with heap:=h2,toks:=tk } j9 t2 (by lia) cV ?_ ?_ (R8.keeps fun b ob hb e=>(ip.2 b (Wi b ob hb e)).trans e) S2 Wj fun h3 Yi k3 S3=>?_
   .obtain⟨oi,q1,q2⟩:=R7;exact⟨oi,(ip.2 Ia (dN R6)).trans q1,q2⟩
   .obtain⟨ol,q1,q2⟩:=Lz;exact⟨ol,(ip.2 l Yf).trans q1,q2⟩
   .exact hR h3 Yi (fun b ob hb Qz e=>k3 b ob hb Qz ((ip.2 b hb).trans ((gP.2 b Qz).trans e))) S3
theorem Cz{vs:List Value}{ys:List (Int×Int)}{hsN:Bool->Array Int}{tN:Bool->SetTable}{Q:Value->Shared->Prop}(hh:A.handled=none)(hu:A.units+8<cLine)(hl:s.heap.IsList l vs.toArray)(hp:iJ s.heap vs ys)(AF:∀led,tu led (ys.map (eQ prog w))=some (hsN led,tN led))(h:∀ (led:Bool) (h':Heap) (tk:Nat),ju h' s.heap.objs.size (hsN led) (tN led)->(∀b o,b<s.heap.objs.size->s.heap.get? b=some o->h'.get? b=some o)->Q (.ref s.heap.objs.size) { s with heap:=h',toks:=tk }):
  wpAny (model prog w) A (call (.type "set") [.ref l]) Q E s:=by
 obtain⟨c,tl,Yj⟩:=jc.mro;have c1:=jc.made;have c2:=jc.sub;refine jm (codeAny_of_tree ?_);show wpAny _ _ (callAny (.type "set") _) _ _ _;refine wpAny_pure ⟨Code.quiet_builtin _ (by decide +kernel),mz PySem.F.entry_type_call ?_⟩;rw[Around.under_plain (weight_type_call_type "set" [.ref l] []) rfl];have c3:=jc.notType;have c4:=jc.canCreate;have c5:=PySem.F.typeCall_set_1 (.ref l);repeat (any_goals (first|assumption|wp_step))
 refine kN (code_set_new_1 (.ref l) (E:=E) (Q₁:=fun obj s₁=>∃led:Bool,obj=.ref s.heap.objs.size/\s₁={ s with heap:=s.heap.push { cls:=.type "set",dict:=none,data:=.set #[] 0 (.fresh 0 0 led) } }) fun led=>⟨led,rfl,rfl⟩) fun r s₁ hr=>?_;cases r with
 |error e=>exact hr
 |ok fl=>
  cases fl with
  |next=>exact hr.elim
  |brk=>exact hr.elim
  |cont=>exact hr.elim
  |ret obj=>
   obtain⟨led,rfl,rfl⟩:=hr;generalize R9:s.heap.push { cls:=.type "set",dict:=none,data:=.set #[] 0 (.fresh 0 0 led) }=hS;have iG:hS.objs.size=s.heap.objs.size+1:=by rw[<-R9,iT]
   have gS:hS.get? s.heap.objs.size=some { cls:=.type "set",dict:=none,data:=.set #[] 0 (.fresh 0 0 led) }:=by rw[<-R9];exact b_ _ rfl
   have up:∀b o,s.heap.get? b=some o->hS.get? b=some o:=fun b o e=>by rw[<-R9];exact bv _ e
   have hT:Shared.TypeIs { s with heap:=hS } (.ref s.heap.objs.size) "set":=⟨_,gS,rfl⟩
   have c6:=jc.init.lookup;have c7:=jc.init.bind (.ref s.heap.objs.size);repeat (any_goals (first|assumption|wp_step))
   refine kN (rX (R:=wants (fun r s₂=>r=.none/\∃h' tk,s₂={ s with heap:=h',toks:=tk }/\ju h' s.heap.objs.size (hsN led) (tN led)/\
     (∀b o,b<s.heap.objs.size->s.heap.get? b=some o->h'.get? b=some o)) E) jc.init.plain PySem.F.entry_set_init (check_set_init_1 hT ?_)) fun r₂ s₂ M4=>?_
   .obtain⟨ol,HP,HJ,nl,Wk⟩:=hl;obtain⟨Yk,Wl,Wm,R_⟩:=ol;simp only at HJ Wk;subst HJ;subst Wk;have Sa:=up _ _ HP;have c8:=PySem.F.sub_list_set;have c9:=PySem.F.sub_list_frozenset;have c10:(Value.type "list"==Value.type "dict")=false:=by decide
    have Lz:hS.IsList l vs.toArray:=⟨_,Sa,rfl,nl,rfl⟩
    unfold Builtin.«set.__init__» noKeywords Builtin.Frozenset.updateFrom;generalize Yl:pyIter=PI
    wp_walk
    subst Yl;refine xl Lz ?_;refine ak (wpAny_runValue ?_);have cV:l<s.heap.objs.size:=bb HP;refine Cy (l:=l) (vs:=vs) (ys:=ys) (hsN:=hsN led) (tN:=tN led) (by simp[hh]) (by simp;lia) (aM cV) (by rw[iG];exact aM (cz cV)) (by rw[iG];exact aM (j7 _))
     (vs.length-0) 0 _ #[] (.fresh 0 0 led) rfl (ce _) ⟨_,b_ _ rfl,rfl,rfl⟩ (Lz.push _) (hp.keeps fun b o _ e=>bv _ (up b o e)) ⟨_,#[],0,bv _ gS,rfl,⟨rfl,rfl⟩,rfl,by simp,rfl⟩ (AF led) fun h' tk k S'=>?_
    show wpAny _ _ _ _ _ _;refine wpAny_pure ?_;show wpAny _ _ (ret Value.none) _ _ _;refine wpAny_pure ⟨rfl,h',tk,rfl,S',fun b o hb e=>?_⟩;exact k b o (aM hb) (by rw[iG];exact aM (cz hb)) (bv _ (up b o e))
   .cases r₂ with
    |error e=>exact M4
    |ok Ym=>
     cases Ym with
     |next=>exact M4.elim
     |brk=>exact M4.elim
     |cont=>exact M4.elim
     |ret r=>
      obtain⟨rfl,h',tk,rfl,S',k⟩:=M4;repeat (any_goals (first|assumption|wp_step))
      exact h led h' tk S' k
end
open PySem
def CA(l:List Nat):Nat:=l.foldl (fun a x=>a ||| (1 <<< x)) 0
theorem AG(l:List Nat)(a j:Nat):(l.foldl (fun a x=>a ||| (1 <<< x)) a).testBit j=(a.testBit j||l.contains j):=by
 induction l generalizing a with
 |nil=>simp
 |cons x xs ih=>
  rw[ja,ih,Nat.testBit_or,List.contains_cons];have:(1 <<< x).testBit j=(j==x):=by
   rw[Nat.one_shiftLeft,Nat.testBit_two_pow];by_cases h:x=j
   .simp[h]
   .have h':¬ j=x:=fun e=>h e.symm;simp[h,h']
  rw[this,Bool.or_assoc]
theorem nU(h:CA l=2 ^ n-1)(hj:j<n):j∈l:=by
 have e:=AG l 0 j;have h':l.foldl (fun a x=>a ||| (1 <<< x)) 0=2 ^ n-1:=h;rw[h',Nat.testBit_two_pow_sub_one] at e;simp[hj] at e;exact e
def CC(M:Nat):Nat->Nat->Nat
 |0,i=>i
 |n+1,i=>CC M n ((i*5+1) % M)
theorem oz(M a:Nat):∀b i,CC M (b+a) i=CC M a (CC M b i)
 |0,i=>by rw[jk];rfl
 |b+1,i=>by
  rw[show b+1+a=(b+a)+1 by lia];show CC M (b+a) _=CC M a (CC M b _);exact oz M a b _
def Jl(M:Nat):Nat->Nat->List Nat
 |0,_=>[]
 |n+1,i=>i::Jl M n ((i*5+1) % M)
theorem pP:∀ {n i},j∈Jl M n i->∃k,k<n/\CC M k i=j
 |0,_,h=>by cases h
 |n+1,i,h=>by
  rcases aS.mp h with z|z
  .exact⟨0,by lia,z.symm⟩
  .obtain⟨k,a,b⟩:=pP z;exact⟨k+1,by lia,b⟩
structure AH(M:Nat):Prop where
 all:CA (Jl M M 0)=2 ^ M-1
 back:CC M M 0=0
theorem Sb:AH 8:=⟨by decide +kernel,by decide +kernel⟩
theorem HQ:AH 32:=⟨by decide +kernel,by decide +kernel⟩
theorem CD:AH 128:=⟨by decide +kernel,by decide +kernel⟩
theorem CF:AH 512:=⟨by decide +kernel,by decide +kernel⟩
theorem AH.cover(R:AH M)(hi:i<M)(hj:j<M):∃n,n<M/\CC M n i=j:=by
 obtain⟨a,ha,ea⟩:=pP (nU R.all hi);obtain⟨b,hb,eb⟩:=pP (nU R.all hj);by_cases h:a<=b
 .refine⟨b-a,by lia,?_⟩;rw[<-ea,<-oz,show a+(b-a)=b by lia,eb]
 .refine⟨M+b-a,by lia,?_⟩;rw[<-ea,<-oz,show a+(M+b-a)=M+b by lia,oz,R.back,eb]
def fP(mask:Nat):Nat->Nat×Nat->Nat×Nat
 |0,q=>q
 |n+1,q=>fP mask n (SetTable.leap mask q.1 q.2)
theorem q9(m a:Nat):∀b q,fP m (b+a) q=fP m a (fP m b q)
 |0,q=>by rw[jk];rfl
 |b+1,q=>by
  rw[show b+1+a=(b+a)+1 by lia];exact q9 m a b _
theorem ve:∀ {n:Nat} {q:Nat×Nat},q.1<m+1->(fP m n q).1<m+1
 |0,_,h=>h
 |n+1,q,h=>ve (n:=n) (sD _ (sv _))
theorem y6:∀ {n:Nat} {q:Nat×Nat},(fP m n q).2=q.2 / 32 ^ n
 |0,_=>by simp[fP]
 |n+1,q=>by
  show (fP m n _).2=_;rw[y6];show q.2 / 32 / 32 ^ n=_;rw[wG,mH,Nat.mul_comm]
theorem q_:∀ {n i:Nat},fP m n (i,0)=(CC (m+1) n i,0)
 |0,_=>rfl
 |n+1,i=>by
  show fP m n (SetTable.leap m i 0)=_;unfold SetTable.leap;simp only[Nat.zero_div,Nat.add_zero];exact q_
theorem nV(R:AH (m+1))(hi:i<m+1)(hp:p<2 ^ 64)(hj:j<m+1):∃n,n<m+14/\(fP m n (i,p)).1=j:=by
 have h1:=ve (m:=m) (n:=13) (q:=(i,p)) hi;have h2:(fP m 13 (i,p)).2=0:=by
  rw[y6];exact Nat.div_eq_of_lt (cC hp (by decide))
 obtain⟨n,hn,e⟩:=R.cover h1 hj;refine⟨13+n,by lia,?_⟩;rw[q9];have:fP m 13 (i,p)=((fP m 13 (i,p)).1,0):=mN rfl h2;rw[this,q_];exact e
theorem y7(h:Int):SetTable.bits h<2 ^ 64:=by
 unfold SetTable.bits;have a:=kK h (show (2 ^ 64:Int)≠0 by decide);have b:=kH h (show (0:Int)<2 ^ 64 by decide);lia
theorem M5{M:Nat}{l:List Nat}(h:l.length<M):∃j,j<M/\j∉l:=by
 have key:∀ (a b:List Nat),a.Nodup->(∀x∈a,x∈b)->a.length<=b.length:=by
  intro a;induction a with
  |nil=>intro b _ _;exact ce _
  |cons x xs ih=>
   intro b hn hs;obtain⟨h1,h2⟩:=fZ.mp hn;have hx:x∈b:=hs x cD;have:=ih (b.erase x) h2 fun y hy=>(wO (fun (e:y=x)=>h1 (e ▸ hy))).mpr (hs y (bP _ hy));rw[wB hx] at this;have:0<b.length:=wH hx;rw[dv];lia
 apply lr;intro Jm;have:=key (List.range M) l sg fun x hx=>lr fun qC=>Jm ⟨x,bu.mp hx,qC⟩;rw[fK] at this;lia
def xP(mask i p:Nat):SetTable.Probe:={ j:=i,more:=SetTable.runEnd mask i-i,i:=i,perturb:=p,dummy:=none }
theorem Jn(mask i:Nat):SetTable.runEnd mask i-i<=9:=by unfold SetTable.runEnd;split <;> lia
theorem tw {t : SetTable} (hd : t.dummies = #[]) (j : Nat) : t.slot j = .empty\/∃ i,t.slot j = .live i/\t.place[i]? = some j:=by
 unfold SetTable.slot;dsimp only;split
 .rename_i h;exact .inr ⟨_,rfl,by simpa using h⟩
 .left;rw [hd];rfl
theorem xQ{t:SetTable}(hd:t.dummies=#[]){j:Nat}(h:j∉t.place.toList):t.slot j=.empty:=by
 rcases tw hd j with e|⟨i,_,e2⟩
 .exact e
 .exact absurd (by rw[<-mn] at e2;exact du e2) h
section
variable {t:SetTable} {hashAt:Nat->Int} {h:Int}
theorem CG(hd:t.dummies=#[])(hh:∀i,i<t.place.size->hashAt i≠h)(i p:Nat):∀ (r:Nat) (j fD:Nat),
  (∃j',SetTable.probe.go t hashAt h (fD+r+1) { j:=j,more:=r,i:=i,perturb:=p,dummy:=none }=some (.empty j' none))\/
  SetTable.probe.go t hashAt h (fD+r+1) { j:=j,more:=r,i:=i,perturb:=p,dummy:=none }=SetTable.probe.go t hashAt h fD (xP t.mask (SetTable.leap t.mask i p).1 (SetTable.leap t.mask i p).2)
 |0,j,fD=>by
  rcases tw hd j with e|⟨k,e,e2⟩
  .exact .inl ⟨j,by unfold SetTable.probe.go;rw[e]⟩
  .right;have hk:k<t.place.size:=(BS.mp e2).1;conv=>lhs;unfold SetTable.probe.go
   rw[e];simp only[eM,hh k hk,dw];rfl
 |r+1,j,fD=>by
  rcases tw hd j with e|⟨k,e,e2⟩
  .exact .inl ⟨j,by rw[show fD+(r+1)+1=(fD+r+1)+1 by lia];unfold SetTable.probe.go;rw[e]⟩
  .have hk:k<t.place.size:=(BS.mp e2).1;have st:SetTable.probe.go t hashAt h (fD+(r+1)+1) { j:=j,more:=r+1,i:=i,perturb:=p,dummy:=none }=SetTable.probe.go t hashAt h (fD+r+1) { j:=j+1,more:=r,i:=i,perturb:=p,dummy:=none }:=by
    rw[show fD+(r+1)+1=(fD+r+1)+1 by lia];conv=>lhs;unfold SetTable.probe.go
    rw[e];simp only[eM,hh k hk,dw];rfl
   rw[st];exact CG hd hh i p r (j+1) fD
theorem y8(hd:t.dummies=#[])(hh:∀i,i<t.place.size->hashAt i≠h):∀ (m:Nat) (i p fD:Nat),10*(m+1)<=fD->t.slot (fP t.mask m (i,p)).1=.empty->
  ∃j',SetTable.probe.go t hashAt h fD (xP t.mask i p)=some (.empty j' none)
 |0,i,p,fD,hf,e=>by
  obtain⟨f,rfl⟩:∃f,fD=f+1:=⟨fD-1,by lia⟩
  refine⟨i,?_⟩;have e':t.slot i=.empty:=e;unfold SetTable.probe.go xP;dsimp only;rw[e']
 |m+1,i,p,fD,hf,e=>by
  have hr:=Jn t.mask i;obtain⟨f,xR⟩:∃f,fD=f+(SetTable.runEnd t.mask i-i)+1:=⟨fD-(SetTable.runEnd t.mask i-i)-1,by lia⟩
  rcases CG (hashAt:=hashAt) (h:=h) hd hh i p (SetTable.runEnd t.mask i-i) i f with z|z
  .rw[xR];exact z
  .rw[xR];show ∃j',SetTable.probe.go t hashAt h _ { j:=i,more:=_,i:=i,perturb:=p,dummy:=none }=_;rw[z];exact y8 hd hh m _ _ f (by lia) e
theorem xS(R:AH (t.mask+1))(hd:t.dummies=#[])(hs:t.place.size<=t.mask)(hh:∀i,i<t.place.size->hashAt i≠h):∃j,t.probe hashAt h (t.probeStart h)=some (.empty j none):=by
 obtain⟨j,hj,hn⟩:=M5 (M:=t.mask+1) (l:=t.place.toList) (by simpa using Nat.lt_succ_of_le hs);obtain⟨m,hm,e⟩:=nV R (sD (SetTable.bits h) (sv t.mask)) (y7 h) hj;refine y8 hd hh m _ _ _ ?_ (by rw[e];exact xQ hd hn);unfold SetTable.turns;lia
end
theorem CH{α β:Type}{f:α->Option β}:∀ {l:List α},(∀q∈l,(f q).isSome=true)->(l.filterMap f).length=l.length
 |[],_=>rfl
 |q::l,h=>by
  have hq:=h q cD;cases e:f q with
  |none=>rw[e] at hq;cases hq
  |some b=>rw[BW e,dv,dv,CH fun x hx=>h x (bP _ hx)]
theorem ra:∀ (m fD i p:Nat),m<fD->owner.getD (fP mask m (i,p)).1 (some 0)=none->∃j,SetTable.layClean.free mask owner fD i p=some j/\owner.getD j (some 0)=none
 |m,0,_,_,h,_=>by lia
 |m,fD+1,i,p,h,e=>by
  unfold SetTable.layClean.free;cases hf:(List.range (SetTable.runEnd mask i+1-i)).find? fun k=>(owner.getD (i+k) (some 0)).isNone with
  |some k=>
   refine⟨i+k,rfl,?_⟩;have:=List.find?_some hf;simpa using this
  |none=>
   cases m with
   |zero=>
    have h0:(0:Nat)∈List.range (SetTable.runEnd mask i+1-i):=bu.mpr (by unfold SetTable.runEnd;split <;> lia);have:=List.find?_eq_none.mp hf 0 h0;have e':owner.getD i (some 0)=none:=e;rw[Nat.add_zero,e'] at this;exact absurd rfl this
   |succ m=>
    exact ra m fD _ _ (by lia) e
structure vf(M:Nat)(owner:Array (Option Nat))(k:Nat):Prop where
 size:owner.size=M
 cnt:owner.toList.countP Option.isSome=k
 lt:∀x,some x∈owner.toList->x<k
theorem xT{l:List (Option Nat)}{j:Nat}{x:Nat}(hj:l[j]?=some none):(l.set j (some x)).countP Option.isSome=l.countP Option.isSome+1:=by
 induction l generalizing j with
 |nil=>cases hj
 |cons a l ih=>
  cases j with
  |zero=>
   obtain rfl:a=none:=by simpa using hj
   simp
  |succ j=>
   rw[List.set_cons_succ,mw,mw,ih (by simpa using hj)];lia
theorem vf.one{mask:Nat}{owner:Array (Option Nat)}{k:Nat}(L:vf (mask+1) owner k)(R:AH (mask+1))(hk:k<mask+1)(h:Int):
  ∃j,SetTable.layClean.free mask owner (SetTable.turns mask) (SetTable.bits h % (mask+1)) (SetTable.bits h)=some j/\vf (mask+1) (owner.setIfInBounds j (some k)) (k+1):=by
 have Jm:∃j,j<mask+1/\owner.toList[j]?=some none:=by
  apply lr;intro Jm;have u9:∀x∈owner.toList,x.isSome=true:=by
   intro x hx;obtain⟨j,hj,e⟩:=rS.mp hx;cases x with
   |some _=>rfl
   |none=>
    refine absurd ⟨j,?_,?_⟩ Jm
    .rw[<-L.size];simpa using hj
    .rw[bT hj,e]
  have:=List.countP_eq_length.mpr u9;rw[L.cnt,lx,L.size] at this;lia
 obtain⟨j0,Yn,e0⟩:=Jm;obtain⟨m,hm,em⟩:=nV R (sD (SetTable.bits h) (sv mask)) (y7 h) Yn;obtain⟨j,ej,en⟩:=ra (mask:=mask) (owner:=owner) m (SetTable.turns mask) (SetTable.bits h % (mask+1)) (SetTable.bits h) (by unfold SetTable.turns;lia)
  (by rw[em,rK,<-mn,e0];rfl)
 refine⟨j,ej,?_⟩;have Yo:owner.toList[j]?=some none:=by
  rw[rK,<-mn] at en;cases hq:owner.toList[j]? with
  |none=>rw[hq] at en;cases en
  |some v=>rw[hq] at en;rw[show v=none from en]
 have M6:(owner.setIfInBounds j (some k)).toList=owner.toList.set j (some k):=by simp
 refine⟨by simp[L.size],by rw[M6,xT Yo,L.cnt],fun x hx=>?_⟩;rw[M6] at hx;rcases List.mem_or_eq_of_mem_set hx with z|z
 .exact cz (L.lt x z)
 .cases z;exact j7 _
theorem y9(R:AH (mask+1)):∀ (l:List Int) (owner:Array (Option Nat)) (k:Nat),vf (mask+1) owner k->k+l.length<=mask->
  ∃CJ,l.foldl (fun dt h=>do
   let (owner,k) <- dt
   let j <- SetTable.layClean.free mask owner (SetTable.turns mask) (SetTable.bits h % (mask+1)) (SetTable.bits h)
   pure (owner.setIfInBounds j (some k),k+1)) (some (owner,k))=some (CJ,k+l.length)/\vf (mask+1) CJ (k+l.length)
 |[],owner,k,L,_=>⟨owner,rfl,L⟩
 |h::l,owner,k,L,hl=>by
  rw[dv] at hl;obtain⟨j,ej,L'⟩:=L.one R (by lia) h;obtain⟨o',e,L2⟩:=y9 R l _ _ L' (by lia);refine⟨o',?_,by rw[dv,show k+(l.length+1)=k+1+l.length by lia];exact L2⟩;rw[ja];have:(do
   let (owner,k) <- some (owner,k)
   let j <- SetTable.layClean.free mask owner (SetTable.turns mask) (SetTable.bits h % (mask+1)) (SetTable.bits h)
   pure (owner.setIfInBounds j (some k),k+1):Option (Array (Option Nat)×Nat))=some (owner.setIfInBounds j (some k),k+1):=by
   show (SetTable.layClean.free mask owner (SetTable.turns mask) (SetTable.bits h % (mask+1)) (SetTable.bits h)).bind _=_;rw[ej];rfl
  rw[this,e,dv,show k+(l.length+1)=k+1+l.length by lia]
theorem vg(R:AH (mask+1))(hs:Array Int)(h:hs.size<=mask):∃owner,SetTable.layClean mask hs=some owner/\vf (mask+1) owner hs.size:=by
 have L0:vf (mask+1) (Array.replicate (mask+1) none) 0:=⟨by simp,by simp[List.countP_replicate],fun x hx=>by simp at hx⟩
 obtain⟨o,e,L⟩:=y9 R hs.toList _ 0 L0 (by simpa using h);refine⟨o,?_,by simpa using L⟩;unfold SetTable.layClean;rw[<-Array.foldl_toList];have e':=congrArg (Option.map (·.1)) e;exact e'
theorem xU(L:vf M owner n):
  ((List.range M).filterMap fun j=>(owner.getD j none).map (j,·)).length=n/\∀q∈(List.range M).filterMap (fun j=>(owner.getD j none).map (j,·)),q.2<n:=by
 constructor
 .rw[<-L.cnt];have e:owner.toList=(List.range M).map fun j=>owner.getD j none:=by
   apply List.ext_getElem
   .simp[L.size]
   .intro i h1 h2;simp only[List.getElem_map,List.getElem_range,Array.getElem_toList];rw[rK,wA (by simpa using h1)];rfl
  conv=>rhs;rw[e]
  rw[List.countP_map];generalize List.range M=l;induction l with
  |nil=>rfl
  |cons a l ih=>
   rw[mw,<-ih];cases hq:owner.getD a none with
   |none=>rw[List.filterMap_cons_none (by rw[hq];rfl),show (Option.isSome ∘ fun j=>owner.getD j none) a=false by show (owner.getD a none).isSome=false;rw[hq];rfl];simp
   |some x=>rw[BW (b:=(a,x)) (by rw[hq];rfl),show (Option.isSome ∘ fun j=>owner.getD j none) a=true by show (owner.getD a none).isSome=true;rw[hq];rfl];simp
 .intro q hq;obtain⟨j,_,e⟩:=mq.mp hq;cases hx:owner.getD j none with
  |none=>rw[hx] at e;cases e
  |some x=>
   rw[hx] at e;cases e;refine L.lt x ?_;rw[rK,<-mn] at hx;cases hy:owner.toList[j]? with
   |none=>rw[hy] at hx;cases hx
   |some v=>rw[hy] at hx;obtain rfl:v=some x:=hx;exact du hy
structure vh(hs:Array Int)(t:SetTable):Prop where
 dm:t.dummies=#[]
 sz:t.place.size=hs.size
 ms:(t.mask=7/\hs.size<=4)\/(t.mask=31/\hs.size<=18)\/(t.mask=127/\hs.size<=76)\/(t.mask=511/\hs.size<=306)
theorem vh.Yp(T:vh hs t):AH (t.mask+1):=by
 rcases T.ms with ⟨e,_⟩|⟨e,_⟩|⟨e,_⟩|⟨e,_⟩ <;> rw[e]
 .exact Sb
 .exact HQ
 .exact CD
 .exact CF
theorem kd(xs:Array α)(p:Nat)(x:α):(SetTable.insertAt xs p x).size=xs.size+1:=by
 unfold SetTable.insertAt;simp;lia
theorem lS(h:y∈(SetTable.insertAt xs p x).toList):y=x\/y∈xs.toList:=by
 unfold SetTable.insertAt at h;rw[et,mv,wR,wR] at h;rcases cX.mp h with z|z
 .rcases cX.mp z with z|z
  .right;rw[List.extract_eq_drop_take] at z;exact rR (rQ z)
  .left;simpa using z
 .right;rw[List.extract_eq_drop_take] at z;exact rR (rQ z)
theorem xV{hs:Array Int}{t:SetTable}{h:Int}(T:vh hs t)(hn:h∉hs.toList)(hl:hs.size<300):∃hs' t',fq hs t h=some (hs',t')/\vh hs' t'/\hs'.size=hs.size+1/\∀x∈hs'.toList,x=h\/x∈hs.toList:=by
 have R3:t.place.size<=t.mask:=by rw[T.sz];rcases T.ms with ⟨e,z⟩|⟨e,z⟩|⟨e,z⟩|⟨e,z⟩ <;> lia
 have hh:∀i,i<t.place.size->Jj hs i≠h:=by
  intro i hi e;rw[T.sz] at hi;unfold Jj at e;rw[wA hi] at e;exact hn (by rw[<-e];simp)
 obtain⟨j,hp⟩:=xS (hashAt:=Jj hs) (h:=h) T.Yp T.dm R3 hh;have hg:t.gaveWay=false:=by
  unfold SetTable.gaveWay;rcases T.ms with ⟨e,_⟩|⟨e,_⟩|⟨e,_⟩|⟨e,_⟩ <;> rw[e] <;> rfl
 have q1:(t.put j).1.place=SetTable.insertAt t.place (SetTable.below t.place j) j:=rfl;have q2:(t.put j).1.dummies=#[]:=by
  show (if SetTable.has t.dummies j=true then _ else t.dummies)=_;rw[T.dm];rfl
 have q3:(t.put j).1.mask=t.mask:=rfl;have s1:(SetTable.insertAt hs (t.put j).2 h).size=hs.size+1:=kd _ _ _;have s2:(t.put j).1.place.size=hs.size+1:=by rw[q1,kd,T.sz]
 have fl:(t.put j).1.fill=hs.size+1:=by unfold SetTable.fill;rw[s2,q2];rfl
 have Yq:(t.put j).1.fits (SetTable.insertAt hs (t.put j).2 h).size=true:=by
  unfold SetTable.fits;rw[s1,s2,fl,q3];simp;rcases T.ms with ⟨e,z⟩|⟨e,z⟩|⟨e,z⟩|⟨e,z⟩ <;> lia
 unfold fq;rw[hg,aj bX,hp];dsimp only;rw[ao (by rw[Yq,s1];simp;lia)];by_cases hf:(t.put j).1.tooFull=true
 .rw[ao hf];have xR:=hf;unfold SetTable.tooFull at xR;rw[fl,q3] at xR;have Wj:(hs.size+1)*5>=t.mask*3:=by simpa using xR
  have gr:SetTable.grown (hs.size+1)=(hs.size+1)*4:=by unfold SetTable.grown;rw[aj (by lia)]
  obtain⟨m2,Wn,LD,R2⟩:∃m2,SetTable.sizeAbove (SetTable.grown (hs.size+1))=m2+1/\((m2=31/\hs.size+1<=18)\/(m2=127/\hs.size+1<=76)\/(m2=511/\hs.size+1<=306))/\AH (m2+1):=by
   rw[gr];rcases T.ms with ⟨e,z⟩|⟨e,z⟩|⟨e,z⟩|⟨e,z⟩
   .have:hs.size=4:=by lia
    exact⟨31,by rw[this];rfl,.inl ⟨rfl,by lia⟩,HQ⟩
   .have:hs.size=18:=by lia
    exact⟨127,by rw[this];rfl,.inr (.inl ⟨rfl,by lia⟩),CD⟩
   .have:hs.size=76:=by lia
    exact⟨511,by rw[this];rfl,.inr (.inr ⟨rfl,by lia⟩),CF⟩
   .lia
  have Wo:(SetTable.insertAt hs (t.put j).2 h).size<=m2:=by rw[s1];rcases LD with ⟨e,z⟩|⟨e,z⟩|⟨e,z⟩ <;> lia
  obtain⟨owner,eo,L⟩:=vg R2 (SetTable.insertAt hs (t.put j).2 h) Wo;obtain⟨M7,Sc⟩:=xU L;rw[s1] at M7 Sc;generalize M8:(List.range (m2+1)).filterMap (fun j=>(owner.getD j none).map (j,·))=live at M7 Sc;have er:(t.put j).1.relaid (SetTable.insertAt hs (t.put j).2 h) (SetTable.grown (hs.size+1))=some ({ mask:=m2,place:=(live.map (·.1)).toArray,dummies:=#[],finger:=(t.put j).1.finger,led:=(t.put j).1.led,moves:=(t.put j).1.movedTo m2,plain:=(t.put j).1.plain },(live.map (·.2)).toArray):=by
   unfold SetTable.relaid SetTable.laid;rw[Wn];simp only[Nat.add_sub_cancel];rw[eo];show some _=some _;rw[<-M8]
  rw[er];dsimp only;have xO:((live.map (·.2)).toArray.filterMap ((SetTable.insertAt hs (t.put j).2 h)[·]?)).size=hs.size+1:=by
   rw[<-lx,rO];show ((live.map (·.2)).filterMap _).length=_;rw[<-M7,List.filterMap_map];refine CH fun q hq=>?_;show ((SetTable.insertAt hs (t.put j).2 h)[q.2]?).isSome=true;rw[wA (by rw[s1];exact Sc q hq)];rfl
  have Yr:∀x,({ mask:=m2,place:=(live.map (·.1)).toArray,dummies:=#[],finger:=(t.put j).1.finger,led:=(t.put j).1.led,moves:=(t.put j).1.movedTo m2,plain:=(t.put j).1.plain }:SetTable).fits x=(decide (hs.size+1=x)&&decide (hs.size+1<=m2)):=by
   intro x;unfold SetTable.fits SetTable.fill;simp[M7];rw[iA];simp
  rw[ao (by
   rw[xO,s1,Yr,Wn];have:hs.size+1<=m2:=by rw[<-s1];exact Wo
   simp[this];rcases LD with ⟨e,z⟩|⟨e,z⟩|⟨e,z⟩ <;> lia)]
  refine⟨_,_,rfl,⟨rfl,?_,?_⟩,xO,fun x hx=>?_⟩
  .rw[xO];simp[M7]
  .rw[xO];exact .inr LD
  .rw[rO] at hx;obtain⟨k,_,ek⟩:=mq.mp hx;refine lS (p:=(t.put j).2) ?_;rw[<-mn] at ek;exact du ek
 .rw[aj hf];refine⟨_,_,rfl,⟨q2,by rw[s2,s1],?_⟩,s1,fun x hx=>lS hx⟩;have xR:¬ (hs.size+1)*5>=t.mask*3:=by
   intro z;refine hf ?_;unfold SetTable.tooFull;rw[fl,q3];simpa using z
  rw[s1,q3];rcases T.ms with ⟨e,z⟩|⟨e,z⟩|⟨e,z⟩|⟨e,z⟩ <;> lia
theorem nW:∀ (l:List Int) (hs:Array Int) (t:SetTable),vh hs t->(∀x∈l,x∉hs.toList)->l.Nodup->hs.size+l.length<=300->∃hs' t',l.foldlM (fun q h=>fq q.1 q.2 h) (hs,t)=some (hs',t')/\hs'.size=hs.size+l.length
 |[],hs,t,_,_,_,_=>⟨hs,t,rfl,rfl⟩
 |h::l,hs,t,T,hn,nd,hl=>by
  rw[dv] at hl;obtain⟨n1,n2⟩:=fZ.mp nd;obtain⟨EM,t1,e1,T1,z1,m1⟩:=xV T (hn h cD) (by lia);obtain⟨j9,t2,e2,z2⟩:=nW l EM t1 T1 (fun x hx hy=>by
   rcases m1 x hy with e|e
   .exact n1 (e ▸ hx)
   .exact hn x (bP _ hx) e) n2 (by lia)
  refine⟨j9,t2,?_,by rw[z2,z1,dv];lia⟩;rw[List.foldlM_cons];show (fq hs t h).bind _=_;rw[e1];exact e2
theorem AI(led:Bool)(nd:l.Nodup)(hl:l.length<=300):∃hs t,tu led l=some (hs,t)/\hs.size=l.length:=by
 obtain⟨hs,t,e,z⟩:=nW l #[] (SetTable.fresh 0 0 led) ⟨rfl,rfl,.inl ⟨rfl,by decide⟩⟩ (fun x _ h=>by simp at h) nd (by simpa using hl);exact⟨hs,t,e,by simpa using z⟩
def y_:List Nat->Nat->Bool
 |[],_=>true
 |x::xs,dt=>bif Nat.testBit dt x then false else y_ xs (dt ||| (1 <<< x))
theorem vi:∀ (l:List Nat) (dt:Nat),y_ l dt=true->l.Nodup/\∀x∈l,dt.testBit x=false
 |[],_,_=>⟨xn,fun x h=>(nomatch h)⟩
 |x::xs,dt,h=>by
  unfold y_ at h;cases hb:dt.testBit x with
  |true=>rw[hb] at h;cases h
  |false=>
   rw[hb] at h;obtain⟨nd,hx⟩:=vi xs _ h;have Wp:∀y∈xs,dt.testBit y=false/\y≠x:=by
    intro y hy;have:=hx y hy;rw[Nat.testBit_or,Nat.one_shiftLeft,Nat.testBit_two_pow] at this;rw[Bool.or_eq_false_iff] at this;exact⟨this.1,fun e=>by have:=this.2;simp[e] at this⟩
   refine⟨fZ.mpr ⟨fun hm=>(Wp x hm).2 rfl,nd⟩,fun y hy=>?_⟩;rcases aS.mp hy with z|z
   .rw[z];exact hb
   .exact(Wp y z).1
def pQ:List (Int×Int):=(List.range 32).flatMap fun a=>(List.range 32).map fun b=>(Int.ofNat a,Int.ofNat b)
def HR(h:Int):Nat:=(h % 6554).toNat
theorem AJ(P:Program)(w:World):y_ (pQ.map fun y=>HR (eQ P w y)) 0=true:=by kernel_rfl
theorem zc(h1:0<=y.1/\y.1<32)(h2:0<=y.2/\y.2<32):y∈pQ:=by
 unfold pQ;refine o_.mpr ⟨y.1.toNat,bu.mpr (by lia),bo.mpr ⟨y.2.toNat,bu.mpr (by lia),mN ?_ ?_⟩⟩
 .show ((y.1.toNat:Nat):Int)=y.1;lia
 .show ((y.2.toNat:Nat):Int)=y.2;lia
theorem kg:∀ {l:List α},(l.map f).Nodup->∀x∈l,∀y∈l,f x=f y->x=y
 |[],_,_,h,_,_,_=>by cases h
 |a::l,h,x,hx,y,hy,e=>by
  rw[ie] at h;obtain⟨h1,h2⟩:=fZ.mp h;rcases aS.mp hx with z|z <;> rcases aS.mp hy with z'|z'
  .rw[z,z']
  .exact absurd (bo.mpr ⟨y,z',by rw[<-e,z]⟩) h1
  .exact absurd (bo.mpr ⟨x,z,by rw[e,z']⟩) h1
  .exact kg h2 x z y z' e
theorem tD(hx:(0<=x.1/\x.1<32)/\(0<=x.2/\x.2<32))(hy:(0<=y.1/\y.1<32)/\(0<=y.2/\y.2<32))(e:eQ P w x=eQ P w y):x=y:=
 kg (vi _ _ (AJ P w)).1 x (zc hx.1 hx.2) y (zc hy.1 hy.2) (congrArg HR e)
theorem nh:∀ {l:List α},l.Nodup->(∀x∈l,∀y∈l,f x=f y->x=y)->(l.map f).Nodup
 |[],_,_=>xn
 |a::l,h,hf=>by
  obtain⟨h1,h2⟩:=fZ.mp h;rw[ie];refine fZ.mpr ⟨fun z=>?_,nh h2 fun x hx y hy=>hf x (bP _ hx) y (bP _ hy)⟩;obtain⟨y,hy,e⟩:=bo.mp z;have:=hf y (bP _ hy) a cD e;exact h1 (this ▸ hy)
theorem vj{P:Program}{w:World}(led:Bool){ys:List (Int×Int)}(nd:ys.Nodup)(hr:∀y∈ys,(0<=y.1/\y.1<32)/\(0<=y.2/\y.2<32))(hl:ys.length<=300):
  ∃hs t,tu led (ys.map (eQ P w))=some (hs,t)/\hs.size=ys.length:=by
 obtain⟨hs,t,e,z⟩:=AI led (nh nd fun x hx y hy e=>tD (P:=P) (w:=w) (hr x hx) (hr y hy) e) (by rw[aH];exact hl);exact⟨hs,t,e,by rw[z,aH]⟩
theorem zd:∀ {as:List Addr} {its:List Value},aO (as.map V.ref) its->its=as.map Value.ref
 |[],_,r=>by cases r;rfl
 |a::as,_,r=>by
  cases r with
  |cons r rr=>
   obtain rfl:=(show _=Value.ref a from r)
   rw[zd rr];rfl
def Fp(D:Addr)(n:Nat):HO:=.ext fun h=>∃hs t,ju h D hs t/\hs.size=n
section
variable {X:Cx}
def M9(K:PySem.W.Frag):List V->Hp->VK->Prop:=fun xs H Q=>∃ (l:Addr) (as:List Addr) (ys:List (Int×Int)),xs=[.ref l]/\ba K H l (as.map V.ref)/\as.length=ys.length/\
 (∀i,i<ys.length->Cw K H (as.getD i 0) (ys.getD i (0,0)))/\ys.Nodup/\(∀y∈ys,(0<=y.1/\y.1<32)/\(0<=y.2/\y.2<32))/\ys.length<=300/\∀D,H D=none->Q (.ref D) (upd H D (Fp D ys.length))
theorem AK(hc:X.calm=true)(hu:X.A.units+8<cLine):gf X (.type "set") (M9 X.K):=by
 intro ae s σ H xs us Q I r h;obtain⟨l,as,ys,rfl,hl,dX,hp,nd,rg,h3,q⟩:=h;obtain⟨u1,rfl,r1⟩:=r.one;obtain rfl:u1=Value.ref l:=r1;obtain⟨its,rv,pl,hz⟩:=I.list hl;have e:=zd rv;subst e;have Ys:iJ s.heap (as.map Value.ref) ys:=⟨by rw[aH,dX],fun i v hv=>by
  rw[bi] at hv;cases ea:as[i]? with
  |none=>rw[ea] at hv;cases hv
  |some a=>
   rw[ea] at hv;obtain rfl:Value.ref a=v:=a_ hv;have hi:i<as.length:=(dS.mp ea).1;obtain⟨o,n,t,u,e1,c,d⟩:=xM I (hp i (by lia));have eg:as.getD i 0=a:=by rw[b9,ea];rfl
   rw[eg] at e1;exact⟨a,o,n,t,u,rfl,e1,c,d⟩⟩
 have AF:∀led,∃q:Array Int×SetTable,tu led (ys.map (eQ X.prog X.w))=some q/\q.1.size=ys.length:=fun led=>
  let ⟨hs,t,e,z⟩:=vj (P:=X.prog) (w:=X.w) led nd rg h3;⟨(hs,t),e,z⟩
 refine Cz (I.ok.hd hc) hu pl.isList Ys (hsN:=fun led=>(AF led).choose.1) (tN:=fun led=>(AF led).choose.2) (fun led=>(AF led).choose_spec.1) fun led h' tk S' k=>?_;refine⟨.ref s.heap.objs.size,_,I.Cu (t':=tk) (o:=Fp s.heap.objs.size ys.length) (fun b u e=>k b u (bb e) e) (o0 (aI _)) ⟨⟨_,_,S',(AF led).choose_spec.2⟩,?_,fun h1 h2 ⟨hs,t,⟨o,es,ep,q1,q2⟩,z⟩ kk=>⟨hs,t,⟨o,es,ep,kk o q1,q2⟩,z⟩⟩,rfl,q _ I.fresh⟩;obtain⟨o,_,_,q1,_⟩:=S';exact⟨o,q1⟩
theorem vk:gf X (.builtin "len") (fun xs H Q=>∃D n,xs=[.ref D]/\H D=some (Fp D n)/\n<=4096/\Q (.int n) H):=by
 intro ae s σ H xs us Q I r h;obtain⟨D,n,rfl,e,hn,q⟩:=h;obtain⟨u1,rfl,r1⟩:=r.one;obtain rfl:u1=Value.ref D:=r1;obtain⟨⟨hs,t,⟨o,es,ep,q1,q2,q3,q4,q5,q6⟩,z⟩,_⟩:=(show cK X.prog X.w H s.heap D (Fp D n) from I.bE D _ e)
 have iG:es.size=n:=by rw[<-z,<-q5,f_]
 exact call_len_set q1 ⟨q2,q3.1,q3.2⟩ q4 q6 (by rw[iG];lia) ⟨.int n,H,I.tok _,⟨_,by rw[iG]⟩,q⟩
end
def fQ(e:V->V->Bool):List V->List V->Bool
 |[],[]=>true
 |x::xs,y::ys=>e x y&&fQ e xs ys
 |_,_=>false
theorem jv:∀ {xs ys:List V},xs.length=ys.length->fQ e xs ys=(List.range xs.length).all fun i=>e (xs.getD i .bD) (ys.getD i .bD)
 |[],[],_=>rfl
 |x::xs,y::ys,h=>by
  have h':xs.length=ys.length:=by simpa using h
  rw[fQ,jv h',dv,List.range_succ_eq_map,mD,List.all_map];rfl
 |[],_::_,h=>by simp at h
 |_::_,[],h=>by simp at h
theorem rb:∀ {xs ys:List V},xs.length≠ys.length->fQ e xs ys=false
 |[],[],h=>absurd rfl h
 |x::xs,y::ys,h=>by
  have h':xs.length≠ys.length:=fun z=>h (by simp[z]);rw[fQ,rb h',Bool.and_false]
 |[],_::_,_=>rfl
 |_::_,[],_=>rfl
section
variable {X:Cx}
def Jo(X:Cx)(H:Hp)(e:V->V->Bool)(x y:V):Prop:=∀ (ae:List (Addr×Obj)) (s:Shared) (σ:St) (A:Around) (u v:Value),aE X ae σ H s->A.units+1<cLine->bw x u->bw y v->SeqAt.EqAt A s u v (e x y)
theorem rc{H:Hp}{x y:V}(fx:cQ x=true)(fy:cQ y=true):Jo X H jt x y:=fun _ _ _ _ _ _ _ _ rx ry=>sU rx ry fx fy
def Sd(X:Cx)(MM:Bool)(e:V->V->Bool):R2:=fun x y H Q=>∃p q xs ys,x=.ref p/\y=.ref q/\ba X.K H p xs/\ba X.K H q ys/\(∀i,i<xs.length->i<ys.length->Jo X H e (xs.getD i .bD) (ys.getD i .bD))/\Q (.bl (if MM then !fQ e xs ys else fQ e xs ys)) H
theorem CL(I:aE X ae σ H s)(hu:A.units+1<cLine)(rx:aO xs us)(ry:aO ys vs)(he:∀i,i<xs.length->i<ys.length->Jo X H e (xs.getD i .bD) (ys.getD i .bD)):∀j (h1:j<us.toArray.size) (h2:j<vs.toArray.size),SeqAt.EqAt A s us.toArray[j] vs.toArray[j] (e (xs.getD j .bD) (ys.getD j .bD)):=by
 intro j h1 h2;have j1:j<xs.length:=by rw[rx.length];simpa using h1
 have j2:j<ys.length:=by rw[ry.length];simpa using h2
 have e1:xs[j]?=some (xs.getD j .bD):=by rw[b9,bT j1];rfl
 have e2:ys[j]?=some (ys.getD j .bD):=by rw[b9,bT j2];rfl
 obtain⟨u,Jp,ru⟩:=rx.get e1;obtain⟨v,Fq,rv⟩:=ry.get e2;have eu:us.toArray[j]=u:=by
  have:us[j]?=some us.toArray[j]:=by simp at h1 |-
  rw[Jp] at this;exact(a_ this).symm
 have ev:vs.toArray[j]=v:=by
  have:vs[j]?=some vs.toArray[j]:=by simp at h2 |-
  rw[Fq] at this;exact(a_ this).symm
 rw[eu,ev];exact he j j1 j2 ae s σ A u v I hu ru rv
theorem CM{e:V->V->Bool}(hu:X.A.units+2<cLine):lI X (compareOp .NotEq) (Sd X true e):=by
 intro ae s σ H x y v u Q I rx ry h;obtain⟨p,q,xs,ys,rfl,rfl,hp,hq,he,k⟩:=h;obtain rfl:v=Value.ref p:=rx;obtain rfl:u=Value.ref q:=ry;obtain⟨us,r1,p1,_⟩:=I.list hp;obtain⟨vs,r2,p2,_⟩:=I.list hq;by_cases hl:xs.length=ys.length
 .refine SeqAt.RcNeAt.lists (e:=fun i=>e (xs.getD i .bD) (ys.getD i .bD)) p1.isList p2.isList (by simp only[bY];rw[<-r1.length,<-r2.length];exact hl) (by lia) (CL I (by show X.A.units+1+1<cLine;lia) r1 r2 he) _ _ _ _ ⟨.bl _,H,I,rfl,?_⟩;rw[show us.toArray.size=xs.length by rw[bY,r1.length],<-jv hl];exact k
 .refine SeqAt.RcNeAt.lists_lengths p1.isList p2.isList (by simp only[bY];rw[<-r1.length,<-r2.length];simpa using hl) (by lia) _ _ _ _ ⟨.bl _,H,I,rfl,?_⟩;have k':=k;rw[rb hl] at k';exact k'
theorem AL(hc:X.calm=true):gf X (.builtin "any") (fun xs H Q=>∃ (p:Addr) (bs:List Bool),xs=[.ref p]/\ba X.K H p (bs.map V.bl)/\Q (.bl (bs.any id)) H):=by
 intro ae s σ H xs us Q I r h;obtain⟨p,bs,rfl,hp,q⟩:=h;obtain⟨u1,rfl,r1⟩:=r.one;obtain rfl:u1=Value.ref p:=r1;obtain⟨its,rv,pl,hz⟩:=I.list hp;have Jq:its=bs.map Value.bool:=by
  have go:∀ (bs:List Bool) (its:List Value),aO (bs.map V.bl) its->its=bs.map Value.bool:=by
   intro bs;induction bs with
   |nil=>intro its r;cases r;rfl
   |cons b bs ih=>
    intro its r;cases r with
    |cons r rr=>
     obtain rfl:=(show _=Value.bool b from r)
     rw[ih _ rr];rfl
  exact go bs its rv
 subst Jq;obtain⟨ob,Fs,_⟩:=id pl.isList;have cV:p<s.heap.objs.size:=bb Fs;refine call_any_walk (xl pl.isList ⟨s.heap.objs.size,_,_,_,_,_,fun i=>bs.getD i false,rfl,Walks.list (show X.A.in1.handled=none from I.ok.hd hc) _ p (aM cV) _,⟨⟨_,b_ _ rfl,rfl,rfl⟩,pl.isList.push _⟩,fun i v s1 Q' E' hv hq=>?_,fun h' tk k=>?_⟩)
 .have E7:(bs.map Value.bool)[i]?=some v:=by simpa using hv
  rw[bi] at E7;cases eb:bs[i]? with
  |none=>rw[eb] at E7;cases E7
  |some b=>
   rw[eb] at E7;obtain rfl:Value.bool b=v:=a_ E7;have:bs.getD i false=b:=by rw[b9,eb];rfl
   have Ja:Q' b s1:=by rw[<-this];exact hq
   exact wpAny_pure Ja
 .have keep:∀b o,s.heap.get? b=some o->h'.get? b=some o:=fun b o e=>k b o (by simpa using aM (bb e)) (bv _ e);refine⟨.bl (bs.any id),H,I.kept (t':=tk) keep,?_,q⟩;show Value.bool _=Value.bool _;congr 1;have go:∀ (bs:List Bool),((List.range bs.length).any fun i=>bs.getD i false)=bs.any id:=by
   intro bs;induction bs with
   |nil=>rfl
   |cons b bs ih=>
    rw[dv,List.range_succ_eq_map,mC,List.any_map,mC,<-ih];rfl
  rw[<-go bs];simp
end
def jw(c:Addr)(qual:Str):HO:=.ext fun h=>h.CodeRec (.ref c) qual
theorem CO(x:h.CodeRec (.ref c) qual):cK P w H h c (jw c qual):=by
 refine⟨x,?_,?_⟩
 .obtain⟨c',o,vs,t,e,ho,_⟩:=x;cases e;exact⟨o,ho⟩
 .rintro h1 h2 ⟨c',o,vs,t,e,ho,r⟩ k;cases e;exact⟨c,o,vs,t,rfl,k o ho,r⟩
def HS(f:Addr)(qual:Str)(params:Arguments)(body:Expr)(scope:Scope)(cells:List (Str×Addr))(c:Addr)(h:Heap):Prop:=
 ∃ (bz:List (Str×Addr)) (pm qv:Value),(∀x a,bz.lookup x=some a->cells.lookup x=some a)/\(∀x,(x,NameKind.free)∈scope.names->∃a,bz.lookup x=some a)/\
  h.get? f=some (PySem.W.kla_obj "<lambda>" qual params body scope bz pm c qv)
def lT(f:Addr)(qual:Str)(params:Arguments)(body:Expr)(scope:Scope)(cells:List (Str×Addr))(c:Addr):HO:=.ext (HS f qual params body scope cells c)
theorem ze(x:HS f qual params body scope cells c h):
  cK P w H h f (lT f qual params body scope cells c):=by
 refine⟨x,?_,?_⟩
 .obtain⟨_,_,_,_,_,e⟩:=x;exact⟨_,e⟩
 .rintro h1 h2 ⟨bz,pm,qv,a,b,e⟩ k;exact⟨bz,pm,qv,a,b,k _ e⟩
def bR(lp:Pos)(qual:Str)(P:Addr)(H:Hp):Prop:=H P=some (.j8 #[])\/∃c,H P=some (.j8 #[rawInt lp.line,rawInt lp.col,.ref c])/\H c=some (jw c qual)
structure Ft(X:Cx)(c P:Addr):Prop where
 code:X.env.code=.ref c
 hd:PySem.W.CodeHd X.base c P
 bm:∃bm o,X.mg "__builtins__"=some (.ref bm)/\bm≠builtinsNs/\bm≠mainGlobals/\X.base.get? bm=some o/\o.cls=.type "module"/\o.dict=some builtinsNs/\o.data=.plain
def Se(lp:Pos)(qual:Str)(P:Addr)(params:Arguments)(body:Expr)(scope:Scope)(cells:List (Str×Addr)):TE:=fun _ H Q=>bR lp qual P H/\
 ∀ (f c:Addr) (H2:Hp),bR lp qual P H2->(∀b o,H b=some o->b≠P->H2 b=some o)->H2 c=some (jw c qual)->H2 f=some (lT f qual params body scope cells c)->Q (.ref f) H2
theorem vm{lp:Pos}{c:Addr}:TriplesOk (#[rawInt lp.line,rawInt lp.col,.ref c]:Array Value).toList:=trivial
theorem AM:codeAmong lp (#[rawInt lp.line,rawInt lp.col,.ref c]:Array Value).toList=some (.ref c):=by
 show (if ((lp.line:Int)==(lp.line:Int)&&(lp.col:Int)==(lp.col:Int))=true then some (Value.ref c) else _)=_;simp
section
variable {X:Cx} {c P:Addr} {params:Arguments} {body:Expr} {scope:Scope} {lp:Pos} {NB:List Str} {src:List (Option Nat)}
theorem Ft.at(C:Ft X c P)(I:aE X ae σ H s)(hP:H P=some (.j8 ps)):s.heap.BuiltinsAt X.mg P:=by
 obtain⟨bm,o,b1,b2,b3,b4,b5,b6,b7⟩:=C.bm;refine⟨bm,o,b1,b2,b3,fun z=>?_,I.bk _ _ b4,b5,b6,b7⟩;have:=(I.bs _ _ b4).2;rw[z,hP] at this;cases this
theorem aE.HU(I:aE X ae σ H s):s.heap.Ns mainGlobals X.mg:=I.mod.glob.keeps I.bk
theorem xW(C:Ft X c P)(S:fA NB src scope X)(Sf:defaultsOf params X.env=([],[]):=by rfl):PE X (.Lambda params body scope lp) (Se lp (X.env.qual++"<lambda>") P params body scope X.env.cells):=by
 intro ae s σ H Q I h;obtain⟨Yt,h⟩:=h;obtain⟨bz,Wq,c1,c2⟩:=kY I.ok S;refine PySem.W.kla_eval Sf ?_;have iG:∀b o,s.heap.get? b=some o->b<s.heap.objs.size:=fun b o e=>bb e;rcases Yt with hP|⟨c',hP,Aj⟩
 .-- Yu first time
  have M_:s.heap.get? P=some (PySem.W.tabObj #[]):=I.bE P _ hP;have Yv:X.env.locals≠P:=fun z=>by have f:=I.free;rw[z,hP] at f;cases f
  have Yw:mainGlobals≠P:=fun z=>by
   obtain⟨o,es,ep,e,d,_⟩:=I.mod.glob;have:=(I.bs _ _ e).2;rw[z,hP] at this;cases this
  refine PySem.W.kla_makeFunction (mg:=X.mg) Wq I.ok.glob I.HU C.code (C.hd.keeps I.bk) M_ (by trivial) rfl Yw (C.at I hP) fun c' qv h' tk hx Fu cV Sg Wr=>?_;have Fv:∀b o,b≠P->s.heap.get? b=some o->(h'.push (PySem.W.kla_obj "<lambda>" (X.env.qual++"<lambda>") params body scope bz ((X.mg "__name__").getD .none) c' qv)).get? b=some o:=fun b o hb e=>bv _ (hx b o hb e);have Yx:c'≠P:=ig (cC (iG _ _ M_) Fu);have Yy:h'.objs.size≠P:=ig (cC (iG _ _ M_) (aX Fu (iB cV)));have Yz:h'.objs.size≠c':=ig cV;have nf:H h'.objs.size=none:=I.bE.fresh (by lia);have nc:H c'=none:=I.bE.fresh Fu
  let H2:Hp:=upd (upd (upd H P (.j8 #[rawInt lp.line,rawInt lp.col,.ref c'])) c' (jw c' (X.env.qual++"<lambda>"))) h'.objs.size (lT h'.objs.size (X.env.qual++"<lambda>") params body scope X.env.cells c')
  have eP:H2 P=some (.j8 #[rawInt lp.line,rawInt lp.col,.ref c']):=by
   show upd _ _ _ _=_;rw[am Yy.symm,am Yx.symm,af]
  have ec:H2 c'=some (jw c' (X.env.qual++"<lambda>")):=by
   show upd _ _ _ _=_;rw[am Yz.symm,af]
  have ef:H2 h'.objs.size=some (lT h'.objs.size (X.env.qual++"<lambda>") params body scope X.env.cells c'):=af;have eo:∀b,b≠P->b≠c'->b≠h'.objs.size->H2 b=H b:=fun b h1 h2 h3=>by
   show upd _ _ _ _=_;rw[am h3,am h2,am h1]
  have gv:∀b o,H b=some o->b≠P->H2 b=some o:=fun b o e hb=>by
   rw[eo b hb (ap e nc) (ap e nf)];exact e
  have I2:aE X ae σ H2 { s with heap:=h'.push (PySem.W.kla_obj "<lambda>" (X.env.qual++"<lambda>") params body scope bz ((X.mg "__name__").getD .none) c' qv),toks:=tk }:=by
   refine I.step (g':=s.gens) (d':=s.drawn) (ch:=[]) (fun _ z=>absurd z (by simp)) (fun b o _ _ _ e n=>Fv b o (fun z=>by rw[z,hP] at n;cases n) e) (fun b o _ _ _ e n=>⟨o.slots,Fv b o (fun z=>by rw[z,hP] at n;cases n) e⟩)
    (fun b o _ e n=>?_) (fun b o _ e=>?_) (fun b xs e=>gv b _ e fun z=>by rw[z,hP] at e;cases e) (fun b o u e=>gv b _ e fun z=>by rw[z,hP] at e;cases e) (fun b ps e=>?_) (fun m hm=>?_) (fun b o e=>?_) I.bare
   .rw[eo b (fun z=>by rw[z,hP] at n;cases n) (aM (cC (iG b o e) Fu)) (aM (cC (iG b o e) (aX Fu (iB cV))))];exact n
   .by_cases hb:b=P
    .exact⟨_,by rw[hb];exact bv _ Wr⟩
    .exact⟨o,Fv b o hb e⟩
   .by_cases hb:b=P
    .rw[hb] at e |-;rw[hP] at e;cases e;exact⟨#[rawInt lp.line,rawInt lp.col,.ref c'],by rw[eP];simp⟩
    .exact⟨#[],by rw[gv b _ e hb];simp⟩
   .exact(hm.extBut hx Yv).push _
   .by_cases Ws:b=h'.objs.size
    .subst Ws;rw[ef] at e;cases e;exact ze ⟨bz,_,qv,c1,c2,b_ _ rfl⟩
    .by_cases RZ:b=c'
     .subst RZ;rw[ec] at e;cases e;refine CO ?_;obtain⟨c₂,oc,vs,t,e2,Qo,r⟩:=Sg;exact⟨c₂,oc,vs,t,e2,bv _ Qo,r⟩
     .by_cases Sh:b=P
      .subst Sh;rw[eP] at e;cases e;exact bv _ Wr
      .rw[eo b Sh RZ Ws] at e;refine(I.bE b o e).lC (fun d u hd q=>Fv d u ?_ q) (fun d q=>gv d _ q fun z=>by rw[z,hP] at q;cases q) fun d xs q=>gv d _ q fun z=>by rw[z,hP] at q;cases q
       rintro rfl;rcases hd with z|z
       .exact Sh z.symm
       .rw[hP] at z;cases z
  exact⟨.ref h'.objs.size,H2,I2,rfl,h _ c' H2 (.inr ⟨c',eP,ec⟩) gv ec ef⟩
 .-- again
  have M_:s.heap.get? P=some (PySem.W.tabObj #[rawInt lp.line,rawInt lp.col,.ref c']):=I.bE P _ hP;refine PySem.W.kla_makeFunctionHit (mg:=X.mg) Wq I.ok.glob I.HU C.code (C.hd.keeps I.bk) M_ vm AM (C.at I hP) fun qv h' tk hk Fu=>?_;have nf:H h'.objs.size=none:=I.bE.fresh Fu
  let H2:Hp:=upd H h'.objs.size (lT h'.objs.size (X.env.qual++"<lambda>") params body scope X.env.cells c')
  have ef:H2 h'.objs.size=some (lT h'.objs.size (X.env.qual++"<lambda>") params body scope X.env.cells c'):=af;have gv:∀b o,H b=some o->H2 b=some o:=fun b o e=>by
   show upd _ _ _ _=_;rw[am (ap e nf)];exact e
  have Fv:∀b o,s.heap.get? b=some o->(h'.push (PySem.W.kla_obj "<lambda>" (X.env.qual++"<lambda>") params body scope bz ((X.mg "__name__").getD .none) c' qv)).get? b=some o:=fun b o e=>bv _ (hk b o e);have I2:aE X ae σ H2 { s with heap:=h'.push (PySem.W.kla_obj "<lambda>" (X.env.qual++"<lambda>") params body scope bz ((X.mg "__name__").getD .none) c' qv),toks:=tk }:=by
   refine I.step (g':=s.gens) (d':=s.drawn) (ch:=[]) (fun _ z=>absurd z (by simp)) (fun b o _ _ _ e n=>Fv b o e) (fun b o _ _ _ e n=>⟨o.slots,Fv b o e⟩)
    (fun b o _ e n=>?_) (fun b o _ e=>⟨o,Fv b o e⟩) (fun b xs e=>gv b _ e) (fun b o u e=>gv b _ e) (fun b ps e=>⟨#[],by rw[gv b _ e];simp⟩) (fun m hm=>(hm.keeps hk).push _) (I.bE.laid Fv Fu (ze ⟨bz,_,qv,c1,c2,b_ _ rfl⟩)) I.bare
   .show upd _ _ _ _=_;rw[am (aM (cC (iG b o e) Fu))];exact n
  exact⟨.ref h'.objs.size,H2,I2,rfl,h _ c' H2 (.inr ⟨c',gv _ _ hP,gv _ _ Aj⟩) (fun b o e _=>gv b o e) (gv _ _ Aj) ef⟩
end
def pR(X:Cx)(id:String)(ks:List Str)(r:St->List V->List V->Hp->VK->Prop):Prop:=
 ∀ (ae:List (Addr×Obj)) (s:Shared) (σ:St) (H:Hp) (vs zs:List V) (us ws:List Value) (Q:VK),aE X ae σ H s->aO vs us->aO zs ws->r σ vs zs H Q->
  wpAny (model X.prog X.w) X.A (call (.builtin id) us (ks.zip ws)) (EP X ae σ Q) X.xe s
def Si(r:St->List V->List V->Hp->VK->Prop)(t tk:TA):TE:=fun σ H Q=>t σ H fun vs H1=>tk σ H1 fun zs H2=>r σ vs zs H2 Q
section
variable {X:Cx} {x:Str} {p pos:Pos} {e:Expr} {es:List Expr} {Ck:List Keyword} {t tk:TA} {id:String} {ks:List Str} {r:St->List V->List V->Hp->VK->Prop}
theorem iq(hc:pR X id ks r)(hg:Gl X x)(hm:X.mg x=none)(hv:bootBuiltins x=some (.builtin id))(ha:PA X (e::es) t)(YA:PK X Ck tk)(hn:x≠"__name__":=by decide)(xG:(x==("__debug__":Str))=false:=by decide)(YB:(backToKw pos (keywordEach Ck X.env)).filterMap (·.1)=ks:=by rfl)(he:backTo pos (starEach (e::es) X.env)=(false,eval e X.env)::backTo pos (starEach es X.env):=by rfl)(xJ:(backTo pos (starEach (e::es) X.env)).any (·.1)=false:=by rfl)(u9:(backToKw pos (keywordEach Ck X.env)).all (·.1.isSome)=true:=by rfl)(Jm:(backToKw pos (keywordEach Ck X.env)).any (·.1.isNone)=false:=by rfl):PE X (.Call (.Name x p) (e::es) Ck pos) (Si r t tk):=by
 intro ae s σ H Q I h;refine jd (gZ I hg hm hv ?_ hn xG);refine PyProof.Rows.callWith_kw (cI (ha pos ae s σ H _ I h) fun us s1 ⟨vs,H1,I1,r1,q1⟩=>?_) he xJ u9 Jm;refine cI (YA pos ae s1 σ H1 _ I1 q1) fun ws s2 ⟨zs,H2,I2,rz,q2⟩=>?_;rw[YB];exact hc ae s2 σ H2 vs zs us ws Q I2 r1 rz q2
end
def Jr(za zb:Int)(ns out:List Int):Prop:=∃ps:List (Int×Int),ps.Perm (ns.map fun z=>((z-za) % zb,z))/\out=ps.map (·.2)/\ps.Pairwise fun p q=>p.1<=q.1
def Js(X:Cx)(qual:Str)(params:Arguments)(body:Expr)(scope:Scope)(ia ib:Nat):St->List V->List V->Hp->VK->Prop:=fun σ vs zs H Q=>
 ∃ (l f c:Addr) (ns:List Int) (za zb:Int),vs=[.ref l]/\zs=[.ref f]/\ba X.K H l (ns.map V.int)/\ns.length<64/\H f=some (lT f qual params body scope X.env.cells c)/\H c=some (jw c qual)/\
  σ[ia]?=some (some (.int za))/\σ[ib]?=some (some (.int zb))/\0<zb/\∀ (r:Addr) (out:List Int),H r=none->Jr za zb ns out->Q (.ref r) (upd H r (.lst (out.map V.int)))
theorem rd:∀ {ns:List Int} {vs:List Value},aO (ns.map V.int) vs->IntsAre vs ns
 |[],_,.nil=>.nil
 |_::_,_,.cons ⟨t,e⟩ r=>by subst e;exact .cons _ t (rd r)
structure Na(X:Cx)(qual:Str)(params:Arguments)(body:Expr)(scope:Scope)(y a b:Str)(ia ib:Nat):Prop where
 bd:∃p1 p2 p3 p4 p5,body=.BinOp (.BinOp (.Name y p1) .Sub (.Name a p2) p3) .Mod (.Name b p4) p5
 bind:∀bz pm c qv v,bindArgs (PySem.W.kla_fn "<lambda>" qual params body scope bz pm (.ref c) qv) ⟨[v],[]⟩=pure [(y,v)]
 na:X.N[ia]?=some a
 nb:X.N[ib]?=some b
 ca:X.env.scope.names.lookup a=some .cell
 cb:X.env.scope.names.lookup b=some .cell
 ly:scope.names.lookup y=some .local
 fa:scope.names.lookup a=some .free
 fb:scope.names.lookup b=some .free
 ma:(a,NameKind.free)∈scope.names
 mb:(b,NameKind.free)∈scope.names
 k0:∀z∈scope.names,z.2≠.cell
 kind:scope.kind=.function
 co:scope.isCoroutine=false
 gen:scope.isGenerator=false
 dy:(y==("__debug__":Str))=false
 da:(a==("__debug__":Str))=false/\(a==("__classdict__":Str))=false
 db:(b==("__debug__":Str))=false/\(b==("__classdict__":Str))=false
theorem xX(S:Na X qual params body scope y a b ia ib)(hr:bA k X.A):
  pR X "sorted" ["key"] (Js X qual params body scope ia ib):=by
 intro ae s σ H vs zs us ws Q I r rz h;obtain⟨l,f,c,ns,za,zb,rfl,rfl,hl,AN,hf,hc,sa,sb,hb0,q⟩:=h;obtain⟨u1,rfl,r1⟩:=r.one;obtain rfl:u1=Value.ref l:=r1;obtain⟨w1,rfl,Jt⟩:=rz.one;obtain rfl:w1=Value.ref f:=Jt;obtain⟨its,rv,pl,hz⟩:=I.list hl;have hI:=rd rv;obtain⟨m,F⟩:=I.fr;obtain⟨p1,p2,p3,p4,p5,rfl⟩:=S.bd;obtain⟨bz,pm,qv,c1,c2,Fk⟩:=(I.bE f _ hf).1;have Nb:s.heap.CodeRec (.ref c) qual:=(I.bE c _ hc).1;obtain⟨m',VW,Wt⟩:=I.loc;have Nd:∃ca ta,bz.lookup a=some ca/\s.heap.IsCell ca (some (.int za ta)):=by
  obtain⟨u,⟨ta,rfl⟩,lk⟩:=Wt ia a (.int za) S.na sa (.inr (.inl S.ca));obtain⟨ca,e1⟩:=c2 a S.ma;rcases lk with ⟨z,_⟩|⟨_,ca',e2,e3⟩
  .have z':X.env.scope.names.lookup a=some .local:=z;rw[S.ca] at z';cases z'
  .have e4:=c1 a ca e1;rw[e2] at e4;cases e4;exact⟨ca,ta,e1,e3⟩
 have Nf:∃cb tb,bz.lookup b=some cb/\s.heap.IsCell cb (some (.int zb tb)):=by
  obtain⟨u,⟨tb,rfl⟩,lk⟩:=Wt ib b (.int zb) S.nb sb (.inr (.inl S.cb));obtain⟨cb,e1⟩:=c2 b S.mb;rcases lk with ⟨z,_⟩|⟨_,cb',e2,e3⟩
  .have z':X.env.scope.names.lookup b=some .local:=z;rw[S.cb] at z';cases z'
  .have e4:=c1 b cb e1;rw[e2] at e4;cases e4;exact⟨cb,tb,e1,e3⟩
 obtain⟨ca,ta,ea,ha⟩:=Nd;obtain⟨cb,tb,eb,hb⟩:=Nf;have QA:∀b' (o:Obj),s.heap.get? b'=some o->(∀es ep,o.data≠.dict es ep)->b'≠X.env.locals:=fun b' o e d z=>by
  obtain⟨o',es,ep,e',d',_⟩:=F.ns;rw[z,e'] at e;cases e;exact d _ _ d'
 have len:(ns.map fun z=>(z-za) % zb).length=its.length:=by rw[aH,hI.length]
 refine ksk_sorted (b:=false) (f:=.ref f) (kz:=ns.map fun z=>(z-za) % zb) F B0 pl.isList len (by rw[hI.length];exact AN) (ksk_s1 _ _) (fun x=>ksk_l1 _ _) (fun x=>ksk_t1 _ _) ?_ ?_
 .-- one key
  intro i v k hv hk h tk own F' N';have at_:∀b' u,b'≠X.env.locals->s.heap.get? b'=some u->h.get? b'=some u:=fun b' u m9 e=>by
   cases z:X.base.get? b' with
   |some o=>
    have:=I.bk b' o z;rw[e] at this;cases this;exact F'.keep b' _ z
   |none=>exact(N' (b',u) (hX _ (jo m9 z e))).1
  have Sj:=at_ f _ (QA f _ Fk (by intro es ep z;cases z)) Fk;have Sl:h.CodeRec (.ref c) qual:=by
   obtain⟨c0,o,YC,t0,e0,ho,hd,YD⟩:=Nb;refine⟨c0,o,YC,t0,e0,at_ _ _ (QA _ _ ho (by rw[hd];intro es ep z;cases z)) ho,hd,YD⟩
  have RS:h.IsCell ca (some (.int za ta)):=by
   obtain⟨o,ho,hd⟩:=ha;exact⟨o,at_ _ _ (QA _ _ ho (by rw[hd];intro es ep z;cases z)) ho,hd⟩
  have k7:h.IsCell cb (some (.int zb tb)):=by
   obtain⟨o,ho,hd⟩:=hb;exact⟨o,at_ _ _ (QA _ _ ho (by rw[hd];intro es ep z;cases z)) ho,hd⟩
  obtain⟨z,tz,rfl,rfl⟩:∃z tz,v=.int z tz/\k=(z-za) % zb:=by
   obtain⟨n,t,e⟩:=hI.all v (du hv);refine⟨n,t,e,?_⟩;rw[bi] at hk;have hn:=hI.nums;have e1:(its.map numOf)[i]?=some n:=by rw[bi,hv,e];rfl
   rw[hn] at e1;rw[e1] at hk;exact(a_ hk).symm
  have vn:X.A.in1.in1.depth<recursionLimit:=by
   have:=hr.dp;show X.A.depth<_;lia
  refine jm (wM vn Sj rfl S.co S.gen rfl Sl ?_);rw[S.bind];refine wpAny_pure (wY S.k0 (fun x hx=>by rw[cE.mp hx];exact S.ly) (fun h₁ Fw CP=>⟨((I.ok.mod.nolimit).keeps F'.keep).fresh _ CP,?_⟩) S.kind);have Fx:∀b o,h.get? b=some o->h₁.get? b=some o:=fun b o e=>CP.extBut b o (aM (bb e)) (bv _ e);have YE:=RS.keeps Fx;have YF:=k7.keeps Fx;refine wL ?_;refine wpAny_BinOp (wpAny_BinOp ?_);refine mL (wZ S.kind S.ly Fw (v:=.int z tz) (by simp) ?_) S.dy;refine mL (xc S.kind S.fa ea YE ?_ S.da.2) S.da.1;refine sub_int ?_;refine mL (xc S.kind S.fb eb YF ?_ S.db.2) S.db.1;refine mod_int' (by lia) ?_;rw[BQ _ (by lia)];refine KskEnd.intro (news':=iE X.base s.heap X.env.locals++own) ⟨F'.ns.keeps Fx,fun b o e=>Fx b o (F'.keep b o e),F'.above⟩ (fun p hp=>⟨Fx _ _ (N' p hp).1,(N' p hp).2⟩) fun p hp=>hp
 .-- Yu list
  intro D h' tk out cc F' N' cV Sm;have hD:=qJ I N' cV;obtain⟨ps,hp,ho,hs⟩:=Sm;have xK:∀p∈ps,∃n t,p.2=.int n t:=fun p Lx=>by
   have:=hp.mem_iff.mp Lx;exact hI.all _ (my this).2
  have YG:((ns.map fun z=>(z-za) % zb).zip its).map (fun p=>(p.1,numOf p.2))=ns.map fun z=>((z-za) % zb,z):=by
   have hn:=hI.nums;rw[<-hn];have go:∀ (l:List Value),((((l.map numOf).map fun z=>(z-za) % zb).zip l).map fun p=>(p.1,numOf p.2))=(l.map numOf).map fun z=>((z-za) % zb,z):=by
    intro l;induction l with
    |nil=>rfl
    |cons x l ih=>simp only[ie,List.zip_cons_cons,ih]
   exact go its
  have Cr:aO ((ps.map fun p=>(p.1,numOf p.2)).map (fun p=>V.int p.2)) (ps.map Prod.snd):=by
   have go:∀ (l:List (Int×Value)),(∀p∈l,∃n t,p.2=.int n t)->aO ((l.map fun p=>(p.1,numOf p.2)).map (fun p=>V.int p.2)) (l.map Prod.snd):=by
    intro l;induction l with
    |nil=>intro _;exact .nil
    |cons x l ih=>
     intro hx;refine .cons ?_ (ih fun p hp=>hx p (bP _ hp));obtain⟨n,t,e⟩:=hx x cD;show ∃t,x.2=Value.int (numOf x.2) t;rw[e];exact⟨t,rfl⟩
   exact go ps xK
  have AO:Jr za zb ns ((ps.map fun p=>(p.1,numOf p.2)).map (·.2)):=by
   refine⟨ps.map fun p=>(p.1,numOf p.2),?_,rfl,?_⟩
   .rw[<-YG];exact hp.map _
   .refine i_.mpr (hs.imp fun {p q} z=>?_);simpa using z
  have YH:h'.get? D=some (seqObj "list" out cc):=(N' _ cD).1;have I2:aE X ae σ (upd H D (.lst (((ps.map fun p=>(p.1,numOf p.2)).map (·.2)).map V.int))) { s with heap:=h',toks:=tk }:=by
   refine I.M1 F F' (fun p hp=>N' p (bP _ hp)) hD ⟨?_,ps.map Prod.snd,cc,?_,?_⟩
   .have h1:=hp.length_eq;rw[List.length_zip,len,pq] at h1;simp only[aH];rw[h1,hI.length];exact aX (iB AN) (by decide)
   .have ev:=Cr;simp only[dh] at ev |-;exact ev
   .rw[YH,<-ho]
  exact⟨.ref D,_,I2,rfl,q D _ (I.bE.pO hD) AO⟩
def pS(mg:Str->Option Value)(base:Heap):Prop:=∃bm o,mg "__builtins__"=some (.ref bm)/\bm≠builtinsNs/\bm≠mainGlobals/\base.get? bm=some o/\o.cls=.type "module"/\o.dict=some builtinsNs/\o.data=.plain
def zf(ts:List Addr)(H:Hp):Prop:=(∀P∈ts,H P=some (.j8 #[]))/\∀b,H b=none\/(b∈ts/\H b=some (.j8 #[]))\/∃o xs,H b=some (.uJ o (.lst xs))
theorem AQ{P:Program}{w:World}{K:PySem.W.Frag}{mg mb:Str->Option Value}{CX:wm}{k:Nat}{fa a:Addr}{fd:FuncData}{x:Str}{sp:Sp}{s₁:Shared}{vs:List Value}{ns:List Int}{ts:List Addr}(KX:K.In s₁.heap)(Fw:s₁.heap.Ns mainGlobals mg)(hb:s₁.heap.Ns builtinsNs mb)(YI:∀x:Str,x≠"__name__"->mb x=bootBuiltins x)(Sn:s₁.heap.NoLimit)(hg:s₁.gens=#[])(YJ:pS mg s₁.heap)(Ng:∀P∈ts,s₁.heap.get? P=some (PySem.W.tabObj #[]))(qR:∀P∈ts,∃c,PySem.W.codeHdIn K c P=true)(So:∀P∈ts,K.lookup P=none)(ha:s₁.heap.get? a=some { cls:=.type "list",data:=.seq vs.toArray })(hi:IntsAre vs ns)(hl:ns.length<=sizeLine)(hr:bA k callerA)(F:∀base:Heap,K.In base->base.Ns mainGlobals mg->pS mg base->bq P w K mg base CX k fa fd [x] sp)(Nh:∀ (s:Shared) (u:Value),BindsTo s fd ⟨[u],[]⟩ [(x,u)])(EJ:∀H:Hp,zf ts H->ba K H a (ns.map V.int)->sp [.ref a] H (fun v _=>v=.bl true) fun _ _ _=>False)(Sq:∀H e s',CX [] H s₁ (fun _ _ _=>False) e s'->False):
  codeAny (model P w) callerA (.call (.ref fa) ⟨[.ref a],[]⟩) (fun r s'=>r=.ok (.ret (.bool true))/\OldK s₁.heap s'.heap/\s'.os=s₁.os/\AllBare s'.gens) s₁:=by
 have rv:=mZ hi;have Sr:=hi.length;have Wu:a∉ts:=fun z=>by
  have:=Ng a z;rw[ha] at this;cases this
 have Ni:∀H:Hp,zf ts H->ba K H a (ns.map V.int)->kP P w H s₁.heap->(∀b,H b≠none->b=a\/b∈ts)->(H a≠none->K.lookup a=none)->
   codeAny (model P w) callerA (.call (.ref fa) ⟨[.ref a],[]⟩) (fun r s'=>r=.ok (.ret (.bool true))/\OldK s₁.heap s'.heap/\s'.os=s₁.os/\AllBare s'.gens) s₁:=by
  intro H hO hS bE hA hK;have tE:∀ {b:Addr} {o:Obj},s₁.heap.get? b=some o->H b=none->(qz s₁.heap H).get? b=some o:=fun e n=>BZ e n;have Lv:∀ {b:Addr} {o:Obj},s₁.heap.get? b=some o->(∀v n,o.data≠.seq v n)->(∀v,o.data≠.fields v)->H b=none:=fun {b o} e d1 d2=>by
   cases q:H b with
   |none=>rfl
   |some u=>
    rcases hA b (by rw[q];simp) with e'|e'
    .subst e';rw[ha] at e;cases e;exact absurd rfl (d1 _ _)
    .rw[Ng b e'] at e;cases e;exact absurd rfl (d2 _)
  have QB:∀ {b:Addr} {m:Str->Option Value},s₁.heap.Ns b m->(qz s₁.heap H).Ns b m:=fun {b m} ⟨o,es,ep,e,d,r⟩=>⟨o,es,ep,tE e (Lv e (by rw[d];intro v n z;cases z) (by rw[d];intro v z;cases z)),d,r⟩
  have Wv:K.In (qz s₁.heap H):=fun b o e=>tE (KX b o e) (by
   cases q:H b with
   |none=>rfl
   |some u=>
    rcases hA b (by rw[q];simp) with e'|e'
    .subst e';rw[hK (by rw[q];simp)] at e;cases e
    .rw[So b e'] at e;cases e)
  have hB:pS mg (qz s₁.heap H):=by
   obtain⟨bm,o,b1,b2,b3,b4,b5,b6,b7⟩:=YJ;exact⟨bm,o,b1,b2,b3,tE b4 (Lv b4 (by rw[b7];intro v n z;cases z) (by rw[b7];intro v z;cases z)),b5,b6,b7⟩
  have hM:Mod K mg (qz s₁.heap H):=⟨Wv,QB Fw,⟨mb,QB hb,YI⟩,let ⟨mc,h1,h2⟩:=Sn;⟨mc,QB h1,h2⟩⟩
  have e0:uZ P w K mg (qz s₁.heap H) callerA [] s₁ H:=⟨rfl,hM,fun b o e=>EU e,pr (Af _ _),trivial,fun b hb=>absurd (show b∈([]:List Addr) from hb) (by simp),bE,.of_eq hg⟩
  refine kN ((F _ Wv (QB Fw) hB).run callerA [] s₁ H ⟨[.ref a],[]⟩ [.ref a] [.ref a] _ _ hr e0 (Nh s₁ (.ref a)) (.cons rfl .nil) (EJ H hO hS)) fun r s' h=>?_;cases r with
  |error e=>exact(Sq H e s' h).elim
  |ok fl=>
   cases fl with
   |next=>exact False.elim h
   |brk=>exact False.elim h
   |cont=>exact False.elim h
   |ret u=>
    obtain⟨v,H',os,bare,un,Nj,r',q⟩:=h;have q':v=.bl true:=q;subst q';obtain rfl:u=Value.bool true:=r';refine⟨rfl,⟨fun b o e=>?_,fun b o e=>un.there b o e (by simp)⟩,os,bare⟩;cases q:H b with
    |none=>exact .inl (un.keep b o e q (by intro z;exact absurd (show b∈([]:List Addr) from z) (by simp)) (by simp))
    |some u=>
     rcases hO.2 b with z|⟨zt,z⟩|⟨ob,xs,z⟩
     .rw[q] at z;cases z
     .obtain⟨more,z2⟩:=un.mR b _ z;have e1:=Ng b zt;rw[e] at e1;cases e1;have e2:s'.heap.get? b=some { cls:=.none,data:=.fields (#[]++more) }:=Nj b _ z2;obtain⟨c,hc⟩:=qR b zt;obtain⟨oc,YK,_,_,_,_,_,_,_,g1,g2,g3,g4,_⟩:=PySem.W.codeHd_of_K KX hc;exact .inr (.inl ⟨⟨c,oc,YK,g1,g2,g3,g4⟩,rfl,#[],more,rfl,e2⟩)
     .have z2:=un.mQ b ob _ z;obtain⟨e1,_⟩:=bE b _ z;obtain⟨e2,_⟩:=Nj b _ z2;rw[e] at e1;cases e1;exact .inl e2
 have Ww:∀ (H:Hp),(∀P∈ts,H P=some (.j8 #[]))->True:=fun _ _=>trivial
 classical
 cases hk:K.lookup a with
 |some o=>
  have e:=KX a o hk;rw[ha] at e;cases e;refine Ni (fun b=>if b∈ts then some (.j8 #[]) else none) ⟨fun P hP=>ao hP,fun b=>?_⟩ (.inr ⟨_,vs.toArray,_,hk,rfl,rfl,rfl,by rw[bY,Sr];exact hl,by simpa using rv⟩) (fun b u z=>?_) (fun b z=>?_) fun z=>absurd (aj Wu) z
  .by_cases hb:b∈ts
   .exact .inr (.inl ⟨hb,ao hb⟩)
   .exact .inl (aj hb)
  .by_cases hb:b∈ts
   .have z':=(ao hb).symm.trans z;cases z';exact Ng b hb
   .have z':=(aj hb).symm.trans z;cases z'
  .by_cases hb:b∈ts
   .exact .inr hb
   .exact absurd (aj hb) z
 |none=>
  refine Ni (fun b=>if b=a then some (.uJ { cls:=.type "list",data:=.seq vs.toArray } (.lst (ns.map V.int))) else if b∈ts then some (.j8 #[]) else none) ⟨fun P hP=>?_,fun b=>?_⟩ (.inl (.inr ⟨{ cls:=.type "list",data:=.seq vs.toArray },ao rfl⟩)) (fun b u z=>?_) (fun b z=>?_) fun _=>hk
  .have:P≠a:=fun z=>Wu (z ▸ hP);show (if P=a then _ else if P∈ts then _ else _)=_;rw[aj this,ao hP]
  .by_cases hb:b=a
   .exact .inr (.inr ⟨_,_,ao hb⟩)
   .by_cases ht:b∈ts
    .exact .inr (.inl ⟨ht,by show (if b=a then _ else if b∈ts then _ else _)=_;rw[aj hb,ao ht]⟩)
    .exact .inl (by show (if b=a then _ else if b∈ts then _ else _)=_;rw[aj hb,aj ht])
  .by_cases hb:b=a
   .have z':=(ao hb).symm.trans z;cases z';subst hb;exact⟨ha,by rw[aH];exact hl,vs,_,rv,ha⟩
   .have z1:(if b∈ts then some (HO.j8 #[]) else none)=some u:=(aj hb).symm.trans z;by_cases ht:b∈ts
    .rw[ao ht] at z1;cases z1;exact Ng b ht
    .rw[aj ht] at z1;cases z1
  .by_cases hb:b=a
   .exact .inl hb
   .by_cases ht:b∈ts
    .exact .inr ht
    .exact absurd (by show (if b=a then _ else if b∈ts then _ else _)=_;rw[aj hb,aj ht]) z
theorem CQ{l:PySem.W.OpenLaw}{n k:Nat}{q:Program}{q0:List Str}{XP:(Str->Option Value)->Heap->Prop}{YP:World->Heap->Prop}{d:DefRec}{K:Params->PySem.W.Frag}{CX:World->wm}{sp:World->Sp}{x:Str}{ts:List Addr}(hn:l.most=some n)(Qu:n<=sizeLine)(MR:d.params.defaults=[])(hr:bA k callerA)(hY:∀ (w:World) (h:Heap),YP w h->(K w.params).In h)(hT:∀ (w:World) (h:Heap),YP w h->∀P∈ts,h.get? P=some (PySem.W.tabObj #[]))(qR:∀ (w:World),∀P∈ts,∃c,PySem.W.codeHdIn (K w.params) c P=true)(So:∀ (w:World),∀P∈ts,(K w.params).lookup P=none)(F:∀ (w:World) (mg:Str->Option Value) (fa:Addr) (h:Heap),(K w.params).In h->h.Ns mainGlobals mg->mg d.name=some (.ref fa)->
   ∃fd:FuncData,(∀ (s:Shared) (u:Value),BindsTo s fd ⟨[u],[]⟩ [(x,u)])/\
    ∀base:Heap,(K w.params).In base->base.Ns mainGlobals mg->pS mg base->bq l.prog w (K w.params) mg base (CX w) k fa fd [x] (sp w))(EJ:∀ (w:World) (H:Hp) (a:Addr) (ns:List Int),ns.length<=n->zf ts H->ba (K w.params) H a (ns.map V.int)->sp w [.ref a] H (fun v _=>v=.bl true) fun _ _ _=>False)(Sq:∀ (w:World) (H:Hp) (s:Shared) (e:Value) (s':Shared),CX w [] H s (fun _ _ _=>False) e s'->False):
  PySem.W.WalkO q q0 XP YP l.row.toRowW d [] (fun f vs=>PySem.call f vs):=by
 refine V7.u_ hn MR fun w s₀ s₁ mg mb fa o pm cd lM a vs ns G Y ho hd YL MS Jf Cs dX hg=>?_;have KX:=hY w _ Y;obtain⟨fd,hb,hF⟩:=F w mg fa _ KX G.T.g MS;have hB:pS mg s₁.heap:=by
  obtain⟨bm,ob,b1,b2,b3,b4,b5,b6⟩:=G.T.bmain;refine⟨bm,ob,b1,b2,fun z=>?_,b3,b4,b5,b6⟩;obtain⟨o',es,ep,e,Ai,_⟩:=G.T.g;rw[z,e] at b3;cases b3;rw[Ai] at b6;cases b6
 exact AQ KX G.T.g G.T.b G.T.builtins G.T.nolimit hg hB (hT w _ Y) (qR w) (So w) Jf Cs (aX dX Qu) hr hF hb (fun H hO hS=>EJ w H a ns dX hO hS) fun H e s'=>Sq w H s₁ e s'
structure qK(K:PySem.W.Frag)(x qual:Str)(st:Stmt)(f:Addr)(fd:FuncData)(c:Addr):Prop where
 ex:∃ (oc:Value) (od:Option Addr) (kV lM pm:Value) (an:Option Addr) (ct:Value) (wo:Array (Option Value)),
  fd=PySem.W.fnOf x qual (cH st) (bC st) (au st) .none kV lM pm an (.ref c) ct/\K.lookup f=some ⟨oc,od,.func fd,wo⟩/\PySem.W.codeIn K (.ref c) qual=true
 kp:PySem.W.keepIn K (.ref f)=true
theorem qK.fun{K:PySem.W.Frag}{x qual:Str}{st:Stmt}{f:Addr}{fd:FuncData}{c:Addr}(F:qK K x qual st f fd c):fW K x qual st f fd:=by
 obtain⟨oc,od,kV,lM,pm,an,ct,wo,e,lk,qR⟩:=F.ex;exact⟨⟨oc,od,kV,lM,pm,an,_,ct,wo,e,lk,qR⟩,F.kp⟩
section
variable {P:Program} {w:World} {K:PySem.W.Frag} {mg:Str->Option Value} {base:Heap}
theorem qK.ok{x qual:Str}{st:Stmt}{f:Addr}{fd:FuncData}{c:Addr}{N ps:List Str}{k:Nat}{sp:Sp}(F:qK K x qual st f fd c)(S:aG N ps (au st))(len:∀vs H Q E,sp vs H Q E->vs.length=ps.length)(u4:∀ (A:Around) (outer:List Env) (s:Shared) (H:Hp) (vs:List V) (Q:VK) (E:XK),bA k (A.deeper (envOfC qual (au st) s.heap.objs.size f (.ref c)))->sp vs H Q E->
   ∃t,xr (pM aW P w K mg base N qual (au st) f (.ref c) A outer s H E).EH (bC st) t/\t { nx:=fun _ H'=>Q .bD H',rt:=Q } (start N vs) H):bq P w K mg base aW (k+1) f fd ps sp:=by
 obtain⟨oc,od,kV,lM,pm,an,ct,wo,rfl,lk,qR⟩:=F.ex;refine HF lk qR S len fun A outer s H vs Q E hr EJ=>?_;obtain⟨t,h,q⟩:=u4 A outer s H vs Q E hr EJ;exact⟨t,h.EH,q⟩
theorem zg{x qual:Str}{st:Stmt}{f c:Addr}{oc:Value}{od an:Option Addr}{wo:Array (Option Value)}{kV lM pm ct:Value}(l:K.lookup f=some ⟨oc,od,.func (PySem.W.fnOf x qual (cH st) (bC st) (au st) .none kV lM pm an (.ref c) ct),wo⟩)(qR:PySem.W.codeIn K (.ref c) qual=true)(kp:PySem.W.keepIn K (.ref f)=true):qK K x qual st f (PySem.W.fnOf x qual (cH st) (bC st) (au st) .none kV lM pm an (.ref c) ct) c:=⟨⟨oc,od,kV,lM,pm,an,ct,wo,rfl,l,qR⟩,kp⟩
theorem tH(kb:K.In base)(hb:pS mg base)(hc:PySem.W.codeHdIn K c P'=true):
  Ft (pM CX P w K mg base N qual scope f (.ref c) A outer s H E).EH c P':=⟨rfl,PySem.W.codeHd_of_K kb hc,hb⟩
end
def oA(sc Ss:Scope)(y:Str×NameKind):Bool:=match y.2 with
 |.cell=>(match sc.names.lookup y.1 with|some .cell=>true|_=>false)
 |.local=>(match sc.names.lookup y.1 with|some .local=>true|_=>false)
 |.free=>(match Ss.names.lookup y.1 with|some .cell=>true|some .free=>true|_=>false)
 |_=>true
def CS(NB:List Str)(src:List (Option Nat))(sc:Scope)(N:List Str)(i:Nat):Bool:=match NB[i]?,src[i]? with
 |some x,some (some j)=>(N[j]?==some x)&&(match sc.names.lookup x with|some .free=>true|_=>false)
 |_,_=>true
def zh(sc:Scope):Bool:=match sc.kind with|.function=>true|_=>false
def CU(NB:List Str)(src:List (Option Nat))(sc Ss:Scope)(N:List Str):Bool:=
 zh sc&&decide NB.Nodup&&(src.length==NB.length)&&(sc.names.all (oA sc Ss))&&(List.range NB.length).all (CS NB src sc N)
theorem bU(h:CU NB src sc X.env.scope X.N=true):fA NB src sc X:=by
 unfold CU at h;simp only[df,r0,eM,fu] at h;obtain⟨⟨⟨⟨h1,h2⟩,h3⟩,h4⟩,h5⟩:=h;refine⟨?_,h2,h3,fun y hy z=>?_,fun y hy z=>?_,fun y hy z=>?_,fun i x j e1 e2=>?_⟩
 .unfold zh at h1;split at h1
  .assumption
  .cases h1
 .have:=h4 y hy;obtain⟨n,k⟩:=y;obtain rfl:k=.cell:=z;dsimp only[oA] at this |-;split at this
  .assumption
  .cases this
 .have:=h4 y hy;obtain⟨n,k⟩:=y;obtain rfl:k=.local:=z;dsimp only[oA] at this |-;split at this
  .assumption
  .cases this
 .have:=h4 y hy;obtain⟨n,k⟩:=y;obtain rfl:k=.free:=z;dsimp only[oA] at this |-;split at this
  .exact .inl (by assumption)
  .exact .inr (by assumption)
  .cases this
 .have hi:i<NB.length:=(dS.mp e1).1;have:=h5 i (bu.mpr hi);unfold CS at this;rw[e1,e2] at this;simp only[df,eM] at this;refine⟨this.1,?_⟩;have t2:=this.2;split at t2
  .assumption
  .cases t2
theorem fg{K:PySem.W.Frag}{a D:Addr}{xs:List V}{g:TG}{tt:TT}{te:TE}{dU:Hp->Prop}{σB:St}{H0:Hp}(Pv:Nat->List V->St->Hp->Prop)(h0:Pv 0 [] σB H0)(hl:∀i ys σ H,i<=xs.length->Pv i ys σ H->ba K H a xs)(hs:∀i x ys σ H (Kt:V->St->Hp->Prop) (Kf:St->Hp->Prop),xs[i]?=some x->Pv i ys σ H->
   (∀v σ2 H4,H4 D=some (.lst ys)->ys.length<sizeLine->Pv (i+1) (ys++[v]) σ2 (upd H4 D (.lst (ys++[v])))->Kt v σ2 H4)->(∀σ2 H3,Pv (i+1) ys σ2 H3->Kf σ2 H3)->
   g x σ H fun σ2 H2=>tt σ2 H2 fun b H3=>if b=true then te σ2 H3 fun v H4=>Kt v σ2 H4 else Kf σ2 H3)(hd:∀ys σ H,Pv xs.length ys σ H->dU H):im (EY K a) g tt te D dU σB H0:=by
 refine⟨fun i m σ H=>m=xs.length-i/\i<=xs.length/\∃ys,Pv i ys σ H,⟨xs.length,by simp,ce _,[],h0⟩,?_⟩;rintro i m σ H ⟨rfl,hi,ys,p⟩;have q:=hl i ys σ H hi p;by_cases cV:i<xs.length
 .refine .inr ⟨⟨xs,xs[i],q,by simp[cV]⟩,?_⟩;rintro x H' ⟨rfl,y⟩;exact hs i x ys σ _ (fun v σ2 H4=>∃ys,H4 D=some (.lst ys)/\ys.length<sizeLine/\∃m',m'<xs.length-i/\m'=xs.length-(i+1)/\i+1<=xs.length/\∃n8,Pv (i+1) n8 σ2 (upd H4 D (.lst (ys++[v]))))
   (fun σ2 H3=>∃m',m'<xs.length-i/\m'=xs.length-(i+1)/\i+1<=xs.length/\∃n8,Pv (i+1) n8 σ2 H3) (y xs q) p
   (fun v σ2 H4 z1 z2 z3=>⟨ys,z1,z2,_,by lia,rfl,cV,_,z3⟩) (fun σ2 H3 z=>⟨_,by lia,rfl,cV,_,z⟩)
 .have e:i=xs.length:=by lia
  subst e;exact .inl ⟨⟨xs,q,aI _⟩,hd ys σ H p⟩
theorem iK{lo:Int}{n:Nat}{D:Addr}{g:TG}{tt:TT}{te:TE}{dU:Hp->Prop}{σB:St}{H0:Hp}(Pv:Nat->List V->St->Hp->Prop)(h0:Pv 0 [] σB H0)(hs:∀i ys σ H (Kt:V->St->Hp->Prop) (Kf:St->Hp->Prop),i<n->Pv i ys σ H->
   (∀v σ2 H4,H4 D=some (.lst ys)->ys.length<sizeLine->Pv (i+1) (ys++[v]) σ2 (upd H4 D (.lst (ys++[v])))->Kt v σ2 H4)->(∀σ2 H3,Pv (i+1) ys σ2 H3->Kf σ2 H3)->
   g (.int (lo+i)) σ H fun σ2 H2=>tt σ2 H2 fun b H3=>if b=true then te σ2 H3 fun v H4=>Kt v σ2 H4 else Kf σ2 H3)(hd:∀ys σ H,Pv n ys σ H->dU H):im (EZ lo n) g tt te D dU σB H0:=by
 refine⟨fun i m σ H=>m=n-i/\i<=n/\∃ys,Pv i ys σ H,⟨n,by simp,ce _,[],h0⟩,?_⟩;rintro i m σ H ⟨rfl,hi,ys,p⟩;by_cases cV:i<n
 .refine .inr ⟨cV,?_⟩;rintro x H' ⟨rfl,rfl⟩;exact hs i ys σ _ (fun v σ2 H4=>∃ys,H4 D=some (.lst ys)/\ys.length<sizeLine/\∃m',m'<n-i/\m'=n-(i+1)/\i+1<=n/\∃n8,Pv (i+1) n8 σ2 (upd H4 D (.lst (ys++[v]))))
   (fun σ2 H3=>∃m',m'<n-i/\m'=n-(i+1)/\i+1<=n/\∃n8,Pv (i+1) n8 σ2 H3) cV p
   (fun v σ2 H4 z1 z2 z3=>⟨ys,z1,z2,_,by lia,rfl,cV,_,z3⟩) (fun σ2 H3 z=>⟨_,by lia,rfl,cV,_,z⟩)
 .have e:i=n:=by lia
  subst e;exact .inl ⟨aI _,hd ys σ H p⟩
section
variable {κ:Type} [DecidableEq κ]
end
section
variable {P:Program} {w:World} {H:Hp} {h:Heap} {a:Addr}
end
section
variable {X:Cx} {ae:List (Addr×Obj)} {σ:St} {H:Hp} {s:Shared} {a:Addr} {y v:V} {u r:Value} {o:Option V} {A:Around} {E:Value->Shared->Prop}
end
section
variable {X:Cx} {ae:List (Addr×Obj)} {σ:St} {H:Hp} {s:Shared} {a:Addr} {hW:List (qx×V)} {k:qx} {u:Value} {A:Around} {E:Value->Shared->Prop}
end
section
variable {X:Cx} {o i e value:Expr} {pos Ak xD:Pos} {td ty tv:TE}
end
section
variable {X:Cx} {pos:Pos}
end
section
variable {X:Cx} {ae:List (Addr×Obj)} {σ:St} {H:Hp} {s:Shared} {a:Addr} {y d:V} {u r:Value} {o:Option V} {A:Around} {E:Value->Shared->Prop}
end
section
variable {X:Cx} {o e f:Expr} {sQ sX:Pos} {td ty tx:TE}
end
section
variable {X:Cx} {ae:List (Addr×Obj)} {σ:St} {H:Hp} {s:Shared} {a:Addr} {hW:List (qx×V)} {A:Around} {E:Value->Shared->Prop}
end
section
variable {X:Cx} {ae:List (Addr×Obj)} {σ:St} {H:Hp} {s:Shared} {a:Addr} {y:V} {u:Value} {A:Around} {E:Value->Shared->Prop}
end
section
variable {X:Cx}
end
section
variable {κ:Type} [DecidableEq κ]
end
section
variable {X:Cx}
theorem pT:∀ {xs:List V} {its:List Value},aO xs its->xs.all cQ=true->its.countP (sV x)=xs.countP (fun z=>jt z x)
 |[],_,.nil,_=>rfl
 |y::xs,_,.cons (b:=u) r rr,f=>by
  have fy:cQ y=true:=by rw[mD,df] at f;exact f.1
  have fx:xs.all cQ=true:=by rw[mD,df] at f;exact f.2
  have h1:[u].any (sV x)=[y].any (fun z=>jt z x):=jN (.cons r .nil) (by simp[fy]);have h2:sV x u=jt y x:=by simpa using h1
  rw[mw,mw,pT rr fx,h2]
def CV:V->List V->Hp->VK->Prop:=fun x vs H Q=>∃ (l:Addr) (xs:List V) (y:V),x=.ref l/\vs=[y]/\H l=some (.lst xs)/\cQ y=true/\xs.all cQ=true/\Q (.int (xs.countP fun z=>jt z y)) H
theorem CW:V6 X "list.count" CV:=by
 intro ae s σ H x vs v us Q I rx rv h;obtain⟨l,xs,y,rfl,rfl,hH,fy,fs,q⟩:=h;cases rx;obtain⟨u,rfl,ru⟩:=rv.one;obtain⟨z,its,n,r,hl,e⟩:=I.Av hH;refine call_meets F.slot_list_count ⟨_,e,rfl⟩ F.entry_list_count (F.args_list_count_2 _ _) (SeqAt.list_countAt l its.toArray n none #[] u (sV y)) ⟨e,fun w hw=>ik ru fy r fs w (by simpa using hw),?_⟩;refine⟨.int _,H,I.tok _,⟨s.toks,?_⟩,q⟩;rw[show its.toArray.toList=its by simp,pT r fs]
end
def LH(K:PySem.W.Frag)(a:Addr):It:=
 ⟨fun i H=>∃xs x,ba K H a xs/\xs[i]?=some x,fun i H x H'=>∃p v,x=.ref p/\H p=none/\H'=upd H p (.tup [.int i,v])/\∀xs,ba K H a xs->xs[i]?=some v,fun i H=>∃xs,ba K H a xs/\xs.length<=i⟩
theorem aE.zi(I:aE X ae σ H s)(fe:eG X ae H e)(fi:eG X ae H it)(k:∀b o,b≠e->b≠it->s.heap.get? b=some o->h'.get? b=some o)(ke:∃o,h'.get? e=some o)(ki:∃o,h'.get? it=some o)(hp:s.heap.objs.size<=p)(hl:xs.length<=sizeLine)(r:aO xs its)(ht:h'.get? p=some { cls:=.type "tuple",data:=.seq its.toArray }):aE X ae σ (upd H p (.tup xs)) { s with heap:=h',toks:=t' }:=by
 have hn:=I.bE.fresh hp;obtain⟨e0,e1,e2,e3,e4,e5⟩:=fe;obtain⟨i0,i1,i2,i3,i4,i5⟩:=fi;have ne:∀b o,s.heap.get? b=some o->b≠p:=fun b o q=>aM (cC (bb q) hp);have zj:∀b o,H b=some o->b≠e/\b≠it:=fun b o q=>⟨(fun z=>by rw[z,e0] at q;cases q),(fun z=>by rw[z,i0] at q;cases q)⟩
 refine I.step (g':=s.gens) (d':=s.drawn) (ch:=[e,it]) (fun b hb=>?_) (fun b o _ _ hb q _=>?_) (fun b o _ _ hb q _=>⟨o.slots,?_⟩) (fun b o hb q n=>by rw[am (ne b o q)];exact n) (fun b o hb q=>⟨o,?_⟩)
  (fun b ys q=>by rw[am (ap q hn)];exact q) (fun b o u q=>by rw[am (ap q hn)];exact q) (fun b ps q=>⟨#[],by rw[am (ap q hn),q];simp⟩) (fun m hm=>?_) (fun b o q=>?_) I.bare
 .rcases aS.mp hb with rfl|hb
  .exact⟨e3,e1,e4,e5⟩
  .rw[cE.mp hb];exact⟨i3,i1,i4,i5⟩
 .exact k b o (fun z=>hb (z ▸ cD)) (fun z=>hb (z ▸ bP _ cD)) q
 .exact k b o (fun z=>hb (z ▸ cD)) (fun z=>hb (z ▸ bP _ cD)) q
 .exact k b o (fun z=>hb (z ▸ cD)) (fun z=>hb (z ▸ bP _ cD)) q
 .obtain⟨o,es,ep,q,d,r'⟩:=hm;exact⟨o,es,ep,k _ _ e1.symm i1.symm q,d,r'⟩
 .by_cases hb:b=p
  .subst hb;rw[af] at q;cases q;exact⟨hl,its,r,_,ht,rfl,_,rfl,rfl⟩
  .rw[am hb] at q;refine(I.bE b o q).lC (fun c u hc z=>k c u ?_ ?_ z) (fun c z=>by rw[am (ap z hn)];exact z) fun c ys z=>by rw[am (ap z hn)];exact z
   .rcases hc with rfl|hc
    .exact(zj _ _ q).1
    .exact(zj _ _ hc).1
   .rcases hc with rfl|hc
    .exact(zj _ _ q).2
    .exact(zj _ _ hc).2
theorem AR{P:Program}{w:World}{K:PySem.W.Frag}{es:List Expr}{x1:Nat}{pos:Pos}(a e it:Addr)(m9:e≠it):
  qE P w K (.Tuple es x1 pos) (LH K a) [e,it] e (fun i h=>(∃gv,IsEnum h e it (i:Int) gv)/\h.IsListIter it a i) where
 mem:=by simp
 obj:=fun i h st b hb=>by
  obtain⟨⟨gv,he⟩,⟨o,q,c,d⟩⟩:=st;rcases aS.mp hb with rfl|hb
  .exact⟨_,he,fun v z=>by
    have z':Data.fields _=Data.cell v:=z;cases z'⟩
  .rw[cE.mp hb];exact⟨o,q,fun v z=>by rw[d] at z;cases z⟩
 keep:=fun i h h' st k=>by
  obtain⟨⟨gv,he⟩,hi⟩:=st;exact⟨⟨gv,k e (by simp) _ he⟩,hi.at fun o q=>k it (by simp) o q⟩
 item:=by
  intro X hP hw hK hc i ae s σ H E I hf st hg;subst hP hw hK;obtain⟨xs,x,hq,hx⟩:=hg;obtain⟨its,rv,p,hz⟩:=I.list hq;obtain⟨u,hu,ru⟩:=rv.get hx;obtain⟨⟨gv,he⟩,hi⟩:=st;refine wpAny_pyNext_enum_item he hi p.isList (x:=u) (by simpa using hu) m9 fun h' ho qL ht iG k=>?_;refine⟨_,rfl,wpAny_letOwnedTupleGo_enum ho fun h2 Nk j9=>?_⟩;have Nl:s.heap.objs.size≠e:=ig (bb he);have vd:h2.IsListIter it a (i+1):=qL.extBut j9.extBut m9.symm;have fe:=hf e (by simp);have fi:=hf it (by simp);have I2:aE X ae σ (upd H s.heap.objs.size (.tup [.int i,x])) { s with heap:=h2,toks:=s.toks+1 }:=by
   refine I.zi (its:=[.int i s.toks,u]) fe fi (fun b o h1 h3 q=>(j9.2 b h1).trans (k b o h1 h3 q)) ⟨_,Nk⟩ ?_ (aI _) (by show 2<=sizeLine;decide) (.cons ⟨_,rfl⟩ (.cons ru .nil)) ((j9.2 _ Nl).trans ht);obtain⟨o,q,_⟩:=vd;exact⟨o,q⟩
  refine⟨.ref s.heap.objs.size,_,I2,rfl,⟨_,x,rfl,I.bE.fresh (aI _),rfl,fun ys hy=>by rw[I.uS hy hq];exact hx⟩,⟨⟨u,Nk⟩,vd⟩,fun b hb=>?_⟩;have f0:=(hf b hb).1;rw[am]
  .exact f0
  .rcases aS.mp hb with rfl|hb
   .exact Nl.symm
   .rw[cE.mp hb];obtain⟨o,q,_⟩:=hi;exact aM (bb q)
 done:=by
  intro X hP hw hK hc i ae s σ H E I hf st hg;subst hP hw hK;obtain⟨xs,hq,hx⟩:=hg;obtain⟨its,rv,p,hz⟩:=I.list hq;obtain⟨f0,f1,f2,f3,f4,f5⟩:=hf it (by simp);obtain⟨⟨gv,he⟩,hi⟩:=st;have hl:=rv.length;exact wpAny_pyNext_enum_end (I.ok.hd hc) he hi p.isList (by simp;lia) fun h' eb=>⟨rfl,I.turned (t':=s.toks) (fun b o hb e=>eb b o hb e) f0 f1 f3 f4 f5⟩
 self:=fun _ _ _ _ _ st h=>by
  obtain⟨⟨gv,he⟩,_⟩:=st;exact sj he h
section
variable {X:Cx}
def Nm(K:PySem.W.Frag)(ta:TA):TI:=fun σ H R=>ta σ H fun vs H1=>∃a xs,vs=[.ref a]/\H1 a=some (.lst xs)/\R (LH K a) H1
theorem tI(hg:Gl X "enumerate")(hm:X.mg "enumerate"=none)(ha:PA X [a] ta)(hs:starEach [a] X.env=[(false,eval a X.env)]:=by rfl):
  PI X (.Tuple es x1 xD) (.Call (.Name "enumerate" p) [a] [] pos) (Nm X.K ta):=by
 intro ae s σ H R I h;refine Call_ (gZ I hg hm (by decide +kernel:bootBuiltins "enumerate"=some (.type "enumerate")) (oO (cI (ha pos ae s σ H _ I h) fun us s1 ⟨vs,H1,I1,r1,q1⟩=>?_) hs rfl));obtain⟨l,xs,rfl,hl,q⟩:=q1;obtain⟨u1,rfl,Ju⟩:=r1.one;obtain rfl:u1=Value.ref l:=Ju;obtain⟨z,its,n,r,_,e⟩:=I1.Av hl;refine call_enumerate_1 e fun h' he hi iG k=>?_;have m9:s1.heap.objs.size+1≠s1.heap.objs.size:=Nat.succ_ne_self _;refine sj he ?_;have I2:aE X ae σ H1 { s1 with heap:=h' }:=I1.kept (t':=s1.toks) k;refine⟨s1.heap.objs.size+1,[s1.heap.objs.size+1,s1.heap.objs.size],_,_,H1,rfl,I2,AR l _ _ m9,⟨⟨_,he⟩,hi⟩,fun b hb=>?_,q⟩;have k7:s1.heap.objs.size<=b:=by
  rcases aS.mp hb with rfl|hb
  .exact pB _
  .rw[cE.mp hb];exact aI _
 exact I1.qD k7 (I1.bE.fresh k7)
theorem CY{K:PySem.W.Frag}{a:Addr}{xs:List V}{g:TG}{tb:TS}{D:sH}{σ:St}{H:Hp}(Pv:Nat->St->Hp->Prop)(h0:Pv 0 σ H)(hl:∀i σ H,i<=xs.length->Pv i σ H->ba K H a xs)(hs:∀i x p σ H,xs[i]?=some x->Pv i σ H->H p=none->g (.ref p) σ (upd H p (.tup [.int i,x])) fun σ2 H2=>tb { D with nx:=Pv (i+1),ct:=Pv (i+1),bk:=D.nx } σ2 H2)(hd:∀σ H,Pv xs.length σ H->D.nx σ H):
  ∃W:Nat->Nat->St->Hp->Prop,(∃m,W 0 m σ H)/\∀i m σ H,W i m σ H->
   ((LH K a).stop i H/\D.nx σ H)\/((LH K a).go i H/\∃N:St->Hp->Prop,(∀σ' H',N σ' H'->∃m',m'<m/\W (i+1) m' σ' H')/\∀x H',(LH K a).Hy i H x H'->g x σ H' fun σ2 H2=>tb { D with nx:=N,ct:=N,bk:=D.nx } σ2 H2):=by
 refine⟨fun i m σ H=>m=xs.length-i/\i<=xs.length/\Pv i σ H,⟨xs.length,by simp,ce _,h0⟩,?_⟩;rintro i m σ H ⟨rfl,hi,p⟩;have q:=hl i σ H hi p;by_cases cV:i<xs.length
 .refine .inr ⟨⟨xs,xs[i],q,by simp[cV]⟩,Pv (i+1),fun σ' H' p'=>⟨xs.length-(i+1),by lia,rfl,cV,p'⟩,fun x H' y=>?_⟩;obtain⟨pp,v,rfl,hn,rfl,hv⟩:=y;exact hs i v pp σ _ (hv xs q) p hn
 .have e:i=xs.length:=by lia
  subst e;exact .inl ⟨⟨xs,q,aI _⟩,hd σ H p⟩
theorem re{K:PySem.W.Frag}{a D:Addr}{xs:List V}{g:TG}{tt:TT}{te:TE}{dU:Hp->Prop}{σB:St}{H0:Hp}(Pv:Nat->List V->St->Hp->Prop)(h0:Pv 0 [] σB H0)(hl:∀i ys σ H,i<=xs.length->Pv i ys σ H->ba K H a xs)(hs:∀i x p ys σ H (Kt:V->St->Hp->Prop) (Kf:St->Hp->Prop),xs[i]?=some x->Pv i ys σ H->H p=none->
   (∀v σ2 H4,H4 D=some (.lst ys)->ys.length<sizeLine->Pv (i+1) (ys++[v]) σ2 (upd H4 D (.lst (ys++[v])))->Kt v σ2 H4)->(∀σ2 H3,Pv (i+1) ys σ2 H3->Kf σ2 H3)->
   g (.ref p) σ (upd H p (.tup [.int i,x])) fun σ2 H2=>tt σ2 H2 fun b H3=>if b=true then te σ2 H3 fun v H4=>Kt v σ2 H4 else Kf σ2 H3)(hd:∀ys σ H,Pv xs.length ys σ H->dU H):im (LH K a) g tt te D dU σB H0:=by
 refine⟨fun i m σ H=>m=xs.length-i/\i<=xs.length/\∃ys,Pv i ys σ H,⟨xs.length,by simp,ce _,[],h0⟩,?_⟩;rintro i m σ H ⟨rfl,hi,ys,p⟩;have q:=hl i ys σ H hi p;by_cases cV:i<xs.length
 .refine .inr ⟨⟨xs,xs[i],q,by simp[cV]⟩,?_⟩;rintro x H' ⟨pp,v,rfl,hn,rfl,hv⟩;exact hs i v pp ys σ _ (fun v σ2 H4=>∃ys,H4 D=some (.lst ys)/\ys.length<sizeLine/\∃m',m'<xs.length-i/\m'=xs.length-(i+1)/\i+1<=xs.length/\∃n8,Pv (i+1) n8 σ2 (upd H4 D (.lst (ys++[v]))))
   (fun σ2 H3=>∃m',m'<xs.length-i/\m'=xs.length-(i+1)/\i+1<=xs.length/\∃n8,Pv (i+1) n8 σ2 H3) (hv xs q) p hn
   (fun v σ2 H4 z1 z2 z3=>⟨ys,z1,z2,_,by lia,rfl,cV,_,z3⟩) (fun σ2 H3 z=>⟨_,by lia,rfl,cV,_,z⟩)
 .have e:i=xs.length:=by lia
  subst e;exact .inl ⟨⟨xs,q,aI _⟩,hd ys σ H p⟩
end
section
variable {prog:Program} {w:World} {A:Around} {E:Value->Shared->Prop} {s:Shared}
theorem d9(BB:s.heap.IsTupleIter it t i)(ht:s.heap.IsTuple t xs)(hx:xs[i]?=some x)(q:∀h',h'.IsTupleIter it t (i+1)->Heap.SameBut it s.heap h'->Q x { s with heap:=h' }):wpAny (model prog w) A (Builtin.SmallTypes.nextOf (.ref it)) Q E s:=by
 obtain⟨o,h1,h2,h3⟩:=id BB;obtain⟨p,k1,_,n,k3⟩:=ht;unfold Builtin.SmallTypes.nextOf;refine ak (oT (name:=Str.ofString "__next__") BB.typeIs F.slot_tuple_iterator_next (iy F.slot_tuple_iterator_next BB.typeIs F.entry_tuple_iterator_next ?_ (F.args_tuple_iterator_next_1 _)));change wpAny _ _ (field (.ref it) 0 >>= _) _ _ s;refine ak (dI h1 h3 (x:=.ref t) rfl ?_);change wpAny _ _ (if (Value.ref t==Value.none)=true then _ else _) _ _ s;rw[aj (by exact bX)];change wpAny _ _ (field (.ref it) 1 >>= _) _ _ s;refine ak (dI h1 h3 (x:=.int i 0) rfl ?_);change wpAny _ _ (seqItems? (.ref t) >>= _) _ _ s;refine ak (f8 k1 k3 ?_);simp only[lA,hx];refine ak (wpAny_setField h1 h3 (by simp) (wpAny_pure ⟨x,rfl,wpAny_pure (q _ ?_ (mr ..))⟩));refine⟨_,oZ _ h1 (Obj.isFreed_of_fields (Obj.data_mapFields h3 _)),(Obj.cls_mapFields ..).trans h2,?_⟩;rw[Obj.data_mapFields h3];simp[rawInt]
theorem ir(hh:A.handled=none)(BB:s.heap.IsTupleIter it t i)(ht:s.heap.IsTuple t xs)(hx:xs[i]?=none)(q:∀h' e,Heap.ExtBut it s.heap h'->(∃o,h'.get? e=some o/\o.cls=.type "StopIteration")->E (.ref e) { s with heap:=h' }):wpAny (model prog w) A (Builtin.SmallTypes.nextOf (.ref it)) Q E s:=by
 obtain⟨o,h1,h2,h3⟩:=id BB;obtain⟨p,k1,_,n,k3⟩:=ht;unfold Builtin.SmallTypes.nextOf;refine ak (oT (name:=Str.ofString "__next__") BB.typeIs F.slot_tuple_iterator_next (iy F.slot_tuple_iterator_next BB.typeIs F.entry_tuple_iterator_next ?_ (F.args_tuple_iterator_next_1 _)));change wpAny _ _ (field (.ref it) 0 >>= _) _ _ s;refine ak (dI h1 h3 (x:=.ref t) rfl ?_);change wpAny _ _ (if (Value.ref t==Value.none)=true then _ else _) _ _ s;rw[aj (by exact bX)];change wpAny _ _ (field (.ref it) 1 >>= _) _ _ s;refine ak (dI h1 h3 (x:=.int i 0) rfl ?_);change wpAny _ _ (seqItems? (.ref t) >>= _) _ _ s;refine ak (f8 k1 k3 ?_);simp only[lA,hx];refine ak (dJ (ak (wpAny_setField h1 h3 (by simp) ?stop)));case stop=>
  change wpAny _ _ (newExc (.type "StopIteration") [] >>= _) _ _ _;refine ak ?_;simp only[newExc,newTuple];refine ak (ph (ak (m:=firstArgMember _ _) (wpAny_of_eq (a:=Value.none) (by simp only[firstArgMember];rfl) (ph ?_ (by size_fits)))) (by size_fits));simp only[raiseNew];refine ak (wpAny_handled ?_);rw[show A.in1.handled=none from hh];exact ak (wpAny_pure (wpAny_throw (q _ _ (fun b u hb z=>bv _ (bv _ ((nM _ _ (dN hb)).trans z))) ⟨_,b_ _ rfl,rfl⟩)))
theorem vo(hh:A.handled=none)(it t:Addr)(m9:t≠it)(xs:Array Value):Draws prog w A it [it,t] xs.size (fun i v=>xs[i]?=some v) (fun i h=>h.IsTupleIter it t i/\h.IsTuple t xs) where
 live:=fun _ _ st=>let ⟨o,ho,_⟩:=st.1;⟨o,ho⟩
 frame:=fun _ _ _ st hk=>⟨st.1.at fun o e=>hk it (by simp) o e,let ⟨o,e,r⟩:=st.2;⟨o,hk t (by simp) o e,r⟩⟩
 item:=fun i s Q E hi st q=>by
  refine d9 st.1 st.2 (x:=xs[i]) (by simp[hi]) fun h' a b=>?_;obtain⟨o,e,r⟩:=st.2;exact q _ h' s.toks (by simp[hi]) ⟨a,o,(b.2 t m9).trans e,r⟩ b
 done:=fun s Q E st q=>ir hh st.1 st.2 (by simp) q
end
theorem AS(t:Addr)(xs:Array Value):
  Meets (Builtin.«enumerate.__new__» ⟨[.type "enumerate",.ref t],[]⟩) (fun _ R s=>s.heap.IsTuple t xs/\
   R (.ok (.ret (.ref (s.heap.push { cls:=.type "tuple_iterator",data:=.fields #[.ref t,.int 0 0] }).objs.size)))
    { s with heap:=(s.heap.push { cls:=.type "tuple_iterator",data:=.fields #[.ref t,.int 0 0] }).push { cls:=.type "enumerate",data:=.fields #[.none,.bool false,.ref s.heap.objs.size,rawInt 0,.none,.none] } }):=
 .of_wp fun prog w A R s h=>by
  obtain⟨hp,g,d,tk,os⟩:=s;obtain⟨hT,h⟩:=h;have hs:=sub_enumerate
  wp_walk
  refine wpAny_stack_any fun st=>wpAny_pure ?_;split
  .rename_i c _ _ _ _ _;cases (c==Value.type "enumerate") <;> (wp_walk using o8 hT;exact⟨_,rfl,h⟩)
  .wp_walk using o8 hT
   exact⟨_,rfl,h⟩
theorem xY(ht:s.heap.IsTuple t xs)(h:∀h',IsEnum h' (s.heap.objs.size+1) s.heap.objs.size 0 .none->h'.IsTupleIter s.heap.objs.size t 0->(∀b o,s.heap.get? b=some o->h'.get? b=some o)->Q (.ref (s.heap.objs.size+1)) { s with heap:=h' }):
  wpAny (model prog w) A (call (.type "enumerate") [.ref t]) Q E s:=by
 refine callType_new F.called_enumerate (by decide) (F.typeCall_enumerate_1 _) (F.newCall_enumerate_1 _) (fun obj=>F.args_object_init_2 obj _) F.entry_enumerate_new (AS t xs) ⟨ht,?_⟩;have hz:(s.heap.push { cls:=.type "tuple_iterator",data:=.fields #[.ref t,.int 0 0] }).objs.size=s.heap.objs.size+1:=iT ..;have he:IsEnum ((s.heap.push { cls:=.type "tuple_iterator",data:=.fields #[.ref t,.int 0 0] }).push
   { cls:=.type "enumerate",data:=.fields #[.none,.bool false,.ref s.heap.objs.size,rawInt 0,.none,.none] }) (s.heap.objs.size+1) s.heap.objs.size 0 .none:=by
  have q:=b_ (s.heap.push { cls:=.type "tuple_iterator",data:=.fields #[.ref t,.int 0 0] }) (o:={ cls:=.type "enumerate",data:=.fields #[.none,.bool false,.ref s.heap.objs.size,rawInt 0,.none,.none] }) rfl;rw[hz] at q;exact q
 show _/\_;rw[hz];exact⟨⟨_,he,rfl⟩,h _ he ⟨_,bv _ (b_ _ rfl),rfl,rfl⟩ fun b o x=>bv _ (bv _ x)⟩
def Jv(K:PySem.W.Frag)(a:Addr):It:=
 ⟨fun i H=>∃xs x,bW K H a xs/\xs[i]?=some x,fun i H x H'=>∃p v,x=.ref p/\H p=none/\H'=upd H p (.tup [.int i,v])/\∀xs,bW K H a xs->xs[i]?=some v,fun i H=>∃xs,bW K H a xs/\xs.length<=i⟩
theorem xZ{P:Program}{w:World}{K:PySem.W.Frag}{es:List Expr}{x1:Nat}{pos:Pos}(a e it:Addr)(m9:e≠it)(YM:a≠e)(YN:a≠it):
  qE P w K (.Tuple es x1 pos) (Jv K a) [e,it] e (fun i h=>(∃gv,IsEnum h e it (i:Int) gv)/\h.IsTupleIter it a i) where
 mem:=by simp
 obj:=fun i h st b hb=>by
  obtain⟨⟨gv,he⟩,⟨o,q,c,d⟩⟩:=st;rcases aS.mp hb with rfl|hb
  .exact⟨_,he,fun v z=>by
    have z':Data.fields _=Data.cell v:=z;cases z'⟩
  .rw[cE.mp hb];exact⟨o,q,fun v z=>by rw[d] at z;cases z⟩
 keep:=fun i h h' st k=>by
  obtain⟨⟨gv,he⟩,hi⟩:=st;exact⟨⟨gv,k e (by simp) _ he⟩,hi.at fun o q=>k it (by simp) o q⟩
 item:=by
  intro X hP hw hK hc i ae s σ H E I hf st hg;subst hP hw hK;obtain⟨xs,x,hq,hx⟩:=hg;obtain⟨its,rv,p,hz⟩:=I.tuple hq;obtain⟨u,hu,ru⟩:=rv.get hx;obtain⟨⟨gv,he⟩,hi⟩:=st;have cV:i<its.toArray.size:=by
   have:=(dS.mp hu).1;simpa using this
  have D:=vo (prog:=X.prog) (w:=X.w) (A:=X.A.in1) (I.ok.hd hc) it a YN its.toArray;refine wpAny_pyNext_enum_itemD D he ⟨hi,p⟩ cV m9 (by simp[m9,YM.symm]) fun u' h' tk wt ho lG ht iG k=>?_;have eu:u'=u:=by
   have h1:its.toArray[i]?=some u:=by simpa using hu
   rw[h1] at wt;exact(a_ wt).symm
  subst eu;refine⟨_,rfl,wpAny_letOwnedTupleGo_enum ho fun h2 Nk j9=>?_⟩;have Nl:s.heap.objs.size≠e:=ig (bb he);have vd:h2.IsTupleIter it a (i+1):=lG.1.at fun o q=>(j9.2 it m9.symm).trans q;have fe:=hf e (by simp);have fi:=hf it (by simp);have I2:aE X ae σ (upd H s.heap.objs.size (.tup [.int i,x])) { s with heap:=h2,toks:=tk+1 }:=by
   refine I.zi (its:=[.int i tk,u']) fe fi (fun b o h1 h3 q=>(j9.2 b h1).trans (k b o h1 h3 q)) ⟨_,Nk⟩ ?_ (aI _) (by show 2<=sizeLine;decide) (.cons ⟨_,rfl⟩ (.cons ru .nil)) ((j9.2 _ Nl).trans ht);obtain⟨o,q,_⟩:=vd;exact⟨o,q⟩
  refine⟨.ref s.heap.objs.size,_,I2,rfl,⟨_,x,rfl,I.bE.fresh (aI _),rfl,fun ys hy=>by rw[I.eE hy hq];exact hx⟩,⟨⟨u',Nk⟩,vd⟩,fun b hb=>?_⟩;have f0:=(hf b hb).1;rw[am]
  .exact f0
  .rcases aS.mp hb with rfl|hb
   .exact Nl.symm
   .rw[cE.mp hb];obtain⟨o,q,_⟩:=hi;exact aM (bb q)
 done:=by
  intro X hP hw hK hc i ae s σ H E I hf st hg;subst hP hw hK;obtain⟨xs,hq,hx⟩:=hg;obtain⟨its,rv,p,hz⟩:=I.tuple hq;obtain⟨f0,f1,f2,f3,f4,f5⟩:=hf it (by simp);obtain⟨⟨gv,he⟩,hi⟩:=st;have hl:=rv.length;unfold pyNext;have hT:s.TypeIs (.ref e) "enumerate":=⟨_,he,rfl⟩
  refine ak (jj (oT (name:=Str.ofString "__next__") hT F.slot_enumerate_next (iy F.slot_enumerate_next hT F.entry_enumerate_next ?_ (F.args_enumerate_next_1 _))));change wpAny _ _ (field (.ref e) 2 >>= _) _ _ _;refine ak (dI he rfl (x:=.ref it) rfl (ak (ir (I.ok.hd hc) hi p (by simp;lia) fun h' x eb qC=>?_)));obtain⟨o,ho,HJ⟩:=qC;exact ak (xp (T:="StopIteration") (b:=true) ⟨o,ho,HJ⟩ isSubtype_stop (wpAny_pure ⟨rfl,I.turned (t':=s.toks) (fun b o hb e=>eb b o hb e) f0 f1 f3 f4 f5⟩))
 self:=fun _ _ _ _ _ st h=>by
  obtain⟨⟨gv,he⟩,_⟩:=st;exact sj he h
section
variable {X:Cx}
def Jw(K:PySem.W.Frag)(ta:TA):TI:=fun σ H R=>ta σ H fun vs H1=>∃a xs,vs=[.ref a]/\bW K H1 a xs/\R (Jv K a) H1
theorem CZ(hg:Gl X "enumerate")(hm:X.mg "enumerate"=none)(ha:PA X [a] ta)(hs:starEach [a] X.env=[(false,eval a X.env)]:=by rfl):
  PI X (.Tuple es x1 xD) (.Call (.Name "enumerate" p) [a] [] pos) (Jw X.K ta):=by
 intro ae s σ H R I h;refine Call_ (gZ I hg hm (by decide +kernel:bootBuiltins "enumerate"=some (.type "enumerate")) (oO (cI (ha pos ae s σ H _ I h) fun us s1 ⟨vs,H1,I1,r1,q1⟩=>?_) hs rfl));obtain⟨l,xs,rfl,hl,q⟩:=q1;obtain⟨u1,rfl,Ju⟩:=r1.one;obtain rfl:u1=Value.ref l:=Ju;obtain⟨its,rv,pt,hz⟩:=I1.tuple hl;have cV:l<s1.heap.objs.size:=by obtain⟨o,e,_⟩:=pt;exact bb e
 refine xY (show s1.heap.IsTuple l its.toArray from pt) fun h' he hi k=>?_;have m9:s1.heap.objs.size+1≠s1.heap.objs.size:=Nat.succ_ne_self _;refine sj he ?_;have I2:aE X ae σ H1 { s1 with heap:=h' }:=I1.kept (t':=s1.toks) k;refine⟨s1.heap.objs.size+1,[s1.heap.objs.size+1,s1.heap.objs.size],_,_,H1,rfl,I2,xZ l _ _ m9 (aM (cz cV)) (aM cV),⟨⟨_,he⟩,hi⟩,fun b hb=>?_,q⟩;have k7:s1.heap.objs.size<=b:=by
  rcases aS.mp hb with rfl|hb
  .exact pB _
  .rw[cE.mp hb];exact aI _
 exact I1.qD k7 (I1.bE.fresh k7)
theorem x_{K:PySem.W.Frag}{a D:Addr}{xs:List V}{g:TG}{tt:TT}{te:TE}{dU:Hp->Prop}{σB:St}{H0:Hp}(Pv:Nat->List V->St->Hp->Prop)(h0:Pv 0 [] σB H0)(hl:∀i ys σ H,i<=xs.length->Pv i ys σ H->bW K H a xs)(hs:∀i x p ys σ H (Kt:V->St->Hp->Prop) (Kf:St->Hp->Prop),xs[i]?=some x->Pv i ys σ H->H p=none->
   (∀v σ2 H4,H4 D=some (.lst ys)->ys.length<sizeLine->Pv (i+1) (ys++[v]) σ2 (upd H4 D (.lst (ys++[v])))->Kt v σ2 H4)->(∀σ2 H3,Pv (i+1) ys σ2 H3->Kf σ2 H3)->
   g (.ref p) σ (upd H p (.tup [.int i,x])) fun σ2 H2=>tt σ2 H2 fun b H3=>if b=true then te σ2 H3 fun v H4=>Kt v σ2 H4 else Kf σ2 H3)(hd:∀ys σ H,Pv xs.length ys σ H->dU H):im (Jv K a) g tt te D dU σB H0:=by
 refine⟨fun i m σ H=>m=xs.length-i/\i<=xs.length/\∃ys,Pv i ys σ H,⟨xs.length,by simp,ce _,[],h0⟩,?_⟩;rintro i m σ H ⟨rfl,hi,ys,p⟩;have q:=hl i ys σ H hi p;by_cases cV:i<xs.length
 .refine .inr ⟨⟨xs,xs[i],q,by simp[cV]⟩,?_⟩;rintro x H' ⟨pp,v,rfl,hn,rfl,hv⟩;exact hs i v pp ys σ _ (fun v σ2 H4=>∃ys,H4 D=some (.lst ys)/\ys.length<sizeLine/\∃m',m'<xs.length-i/\m'=xs.length-(i+1)/\i+1<=xs.length/\∃n8,Pv (i+1) n8 σ2 (upd H4 D (.lst (ys++[v]))))
   (fun σ2 H3=>∃m',m'<xs.length-i/\m'=xs.length-(i+1)/\i+1<=xs.length/\∃n8,Pv (i+1) n8 σ2 H3) (hv xs q) p hn
   (fun v σ2 H4 z1 z2 z3=>⟨ys,z1,z2,_,by lia,rfl,cV,_,z3⟩) (fun σ2 H3 z=>⟨_,by lia,rfl,cV,_,z⟩)
 .have e:i=xs.length:=by lia
  subst e;exact .inl ⟨⟨xs,q,aI _⟩,hd ys σ H p⟩
end
section
variable {X:Cx} {tg:Expr}
end
section
variable {prog:Program} {w:World} {A:Around} {E:Value->Shared->Prop} {s:Shared} {R:Result->Shared->Prop} {l d Ia:Addr}
end
section
variable {prog:Program} {w:World} {A:Around} {E:Value->Shared->Prop} {s:Shared} {l:Addr}
end
section
variable {X:Cx}
end
structure cB(P:Program)(w:World)(K:PySem.W.Frag)(mg:Str->Option Value)(base:Heap)(CX:wm)(k:Nat)(x:Str)(ps:List Str)(sp:Sp):Prop where
 ex:∃f fd,mg x=some (.ref f)/\PySem.W.keepIn K (.ref f)=true/\js K fd ps []/\bq P w K mg base CX k f fd ps sp
theorem aF(C:cB X.prog X.w X.K X.mg X.base CX k x ps sp)(hr:bA k X.A)(hx:kW CX X E)(ha:PA X (e::es) t)(hg:Gl X x:=by rfl)(xG:(x==("__debug__":Str))=false:=by decide)(he:starEach (e::es) X.env=(false,eval e X.env)::starEach es X.env:=by rfl)(wn:(backTo pos (starEach es X.env)).any (·.1)=false:=by rfl):
  PE X (.Call (.Name x p) (e::es) [] pos) (nR sp [] E t):=by
 obtain⟨f,fd,a,b,c,d⟩:=C.ex;exact Fb d hr hg a b c .nil hx ha xG he wn
theorem ai(h:H D=none):aK H (upd H D o):=fun b u e=>by rw[am (ap e h)];exact e
def bJ(p:Addr)(H H':Hp):Prop:=∀b o,H b=some o->b≠p->H' b=some o
theorem bJ.refl:bJ p H H:=fun _ _ h _=>h
theorem bJ.trans(a:bJ p H H1)(b:bJ p H1 H2):bJ p H H2:=fun c o h n=>b c o (a c o h n) n
theorem bJ.upd:bJ p H (upd H p o):=fun b u h n=>by rw[am n];exact h
theorem bJ.of(s:aK H H'):bJ p H H':=fun b o h _=>s b o h
theorem jP(h:j<n):Cm n (j:Int)=some j:=by
 unfold Cm;rw[ao (by lia),ao (by lia)];simp
theorem AT(h:as.length=n):(as++[t]).getD j 0=if j=n then t else as.getD j 0:=by
 rw[b9,b9];by_cases hj:j=n
 .subst hj;subst h;rw[ao rfl,oQ (aI _),Nat.sub_self];rfl
 .rw[aj hj];by_cases cV:j<as.length
  .rw[nL cV]
  .rw[oQ (by lia),iP (by simp;lia),iP (by lia)]
def Holds(H:Hp)(as:List Addr)(n:Nat)(o:Nat->HO):Prop:=as.length=n/\∀j,j<n->H (as.getD j 0)=some (o j)
theorem Holds.nil:Holds H [] 0 o:=⟨rfl,fun j hj=>absurd hj (by lia)⟩
theorem Holds.snoc(h:Holds H as n o)(ht:H t=some (o n)):Holds H (as++[t]) (n+1) o:=by
 refine⟨by rw[fY,h.1];rfl,fun j hj=>?_⟩;rw[AT h.1];by_cases e:j=n
 .rw[ao e,e];exact ht
 .rw[aj e];exact h.2 j (by lia)
theorem Holds.mono(h:Holds H as n o)(e:∀j,j<n->H (as.getD j 0)=some (o j)->H' (as.getD j 0)=some (o j)):Holds H' as n o:=⟨h.1,fun j hj=>e j hj (h.2 j hj)⟩
end L2
namespace PyProof.Rows
open PySem
def gQ:Bool->Keyed->Array Keyed->Nat->Nat->Nat->StateT SortSt Sem (Option Nat):=sortPriv% PySem.Builtin.gallop
def pU:Array Keyed->Array Keyed->StateT SortSt Sem (Array Keyed):=sortPriv% PySem.Builtin.mergeLo
def pV:Array Keyed->Array Keyed->StateT SortSt Sem (Array Keyed):=sortPriv% PySem.Builtin.mergeHi
def g_:Nat->StateT SortSt Sem Unit:=sortPriv% PySem.Builtin.setMinGallop
def Fy(prog:Program)(w:World)(A:Around)(s:Shared)(κ:SortKind)(a₀:Array Keyed)(key:Keyed->Int):Prop:=
 ∀x y,x∈a₀.toList->y∈a₀.toList->∀ (Q:Bool->Shared->Prop) (E:Value->Shared->Prop),Q (decide (key x<key y)) s->wpAny (model prog w) A (keyLt' κ x.1 y.1) Q E s
structure SQ(κ:SortKind)(a₀:Array Keyed)(pd:Array (Nat×Nat×Nat))(st:SortSt):Prop where
 perm:(arrOf st).Perm a₀
 kind:kindOf st=κ
 failed:failedOf st=none
 pend:pendingOf st=pd
def kk(key:Keyed->Int)(a:Array Keyed)(i:Nat):Int:=(a[i]?.map key).getD 0
theorem tJ(h:i<a.size):kk key a i=key a[i]:=by unfold kk;rw[cM a i h];rfl
theorem vp(h:a[i]?=b[j]?):kk key a i=kk key b j:=by unfold kk;rw[h]
section
variable {prog:Program} {w:World} {A:Around} {E:Value->Shared->Prop} {s:Shared} {κ:SortKind} {a₀:Array Keyed} {pd:Array (Nat×Nat×Nat)} {key:Keyed->Int}
theorem SQ.size{st:SortSt}(h:SQ κ a₀ pd st):(arrOf st).size=a₀.size:=h.perm.size_eq
theorem SQ.setArr{st:SortSt}(h:SQ κ a₀ pd st){xs:Array Keyed}(hp:xs.Perm (arrOf st)):SQ κ a₀ pd (setArr st xs):=⟨hp.trans h.perm,h.kind,h.failed,h.pend⟩
theorem SQ.at{st:SortSt}(h:SQ κ a₀ pd st){i:Nat}(hi:i<a₀.size):∃p,(arrOf st)[i]?=some p/\p∈a₀.toList:=by
 have qL:i<(arrOf st).size:=by rw[h.size];exact hi
 exact⟨(arrOf st)[i],cM _ i qL,(j4.mp h.perm).mem_iff.mp (by simp)⟩
theorem Jx{st:SortSt}{x y:Keyed}{Q:Option Bool->SortSt->Prop}(hC:Fy prog w A s κ a₀ key)(hk:kindOf st=κ)(hx:x∈a₀.toList)(hy:y∈a₀.toList)(h:Q (some (decide (key x<key y))) st):wpS (model prog w) A E s (lt' x y) Q st:=by
 rw[lt'_eq];refine aA (dz ?_);rw[hk];refine aA (gY (jj (hC x y hx hy _ _ ⟨rfl,?_⟩)));exact aD h
theorem aZ{st:SortSt}{arr:Array Keyed}{i:Nat}{p:Keyed}{Q:Keyed->SortSt->Prop}(hi:arr[i]?=some p)(h:Q p st):wpS (model prog w) A E s (elem' arr i) Q st:=by
 rw[elem'_eq,hi];exact aD h
theorem lU{st:SortSt}{i j:Nat}{Q:Option Bool->SortSt->Prop}(hC:Fy prog w A s κ a₀ key)(hB:SQ κ a₀ pd st)(hi:i<a₀.size)(hj:j<a₀.size)(h:∀b,b=decide (kk key (arrOf st) i<kk key (arrOf st) j)->Q (some b) st):wpS (model prog w) A E s (ltAt' i j) Q st:=by
 obtain⟨p,e1,m1⟩:=hB.at hi;obtain⟨q,e2,m2⟩:=hB.at hj;rw[ltAt'_eq];refine aA (dz ?_);refine aA (aZ e1 (aA (aZ e2 (Jx hC hB.kind m1 m2 (h _ ?_)))));unfold kk;rw[e1,e2];rfl
theorem oB{st:SortSt}{i j:Nat}{Q:Unit->SortSt->Prop}(hB:SQ κ a₀ pd st)(hj:j<=a₀.size)(h:∀aw,SQ κ a₀ pd aw->(∀k,(arrOf aw)[k]?=if i<=k/\k<j then (arrOf st)[i+j-1-k]? else (arrOf st)[k]?)->Q () aw):wpS (model prog w) A E s (reverseSlice' i j) Q st:=by
 rw[reverseSlice'_eq];exact dL (h _ (hB.setArr (mirror_perm _ _ _ _)) (getElem?_mirror_all (by rw[hB.size];exact hj)))
theorem C0{st:SortSt}{i j:Nat}{Q:Unit->SortSt->Prop}(hB:SQ κ a₀ pd st)(hi:i<a₀.size)(hj:j<=i)(h:∀aw,SQ κ a₀ pd aw->(∀k,(arrOf aw)[k]?=if k=j then (arrOf st)[i]? else if j<k/\k<=i then (arrOf st)[k-1]? else (arrOf st)[k]?)->Q () aw):wpS (model prog w) A E s (moveDown' i j) Q st:=by
 rw[moveDown'_eq];refine dL (h _ (hB.setArr (bubble_perm _ _ _)) fun k=>?_);have:=getElem?_bubble (xs:=arrOf st) (src:=i) (by rw[hB.size];exact hi) (i-j) (by lia) k;rw[show i-(i-j)=j by lia] at this;exact this
end
def Jy(lo bV n:Nat):StateT SortSt Sem (Option Nat):=do
 reverseSlice' lo (lo+n)
 let mut n:=n
 for _ in [n:bV] do
  let some iL <- ltAt' (lo+n) (lo+n-1)|return none
  if iL then break
  n:=n+1
 return some n
def Jz(lo bV n:Nat):StateT SortSt Sem (Option Nat):=do
 rule "list.sort.descending-run"
 let mut n:=n+1
 let mut neq:=0
 for _ in [n:bV] do
  let some iL <- ltAt' (lo+n) (lo+n-1)|return none
  if iL then
   if neq > 0 then reverseSlice' (lo+n-(neq+1)) (lo+n)
   neq:=0
  else
   let some JA <- ltAt' (lo+n-1) (lo+n)|return none
   if JA then break
   neq:=neq+1
  n:=n+1
 if neq > 0 then reverseSlice' (lo+n-(neq+1)) (lo+n)
 Jy lo bV n
theorem qM(lo bV:Nat):countRun' lo bV=(do
 let mut n:=1
 for _ in [1:bV] do
  let some iL <- ltAt' (lo+n) (lo+n-1)|return none
  if iL then break
  n:=n+1
 if n==bV then return some n
 if n > 1 then
  let some Su <- ltAt' lo (lo+n-1)|return none
  if Su then return some n
  reverseSlice' lo (lo+n)
 Jz lo bV n):=rfl
section
variable {prog:Program} {w:World} {A:Around} {E:Value->Shared->Prop} {s:Shared} {κ:SortKind} {a₀:Array Keyed} {pd:Array (Nat×Nat×Nat)} {key:Keyed->Int} {ar:Array Keyed}
theorem dQ(h:∀k,b[k]?=if i<=k/\k<j then a[i+j-1-k]? else a[k]?)(k:Nat):kk key b k=if i<=k/\k<j then kk key a (i+j-1-k) else kk key a k:=by
 unfold kk;rw[h k];split <;> rfl
end
section
variable {prog:Program} {w:World} {A:Around} {E:Value->Shared->Prop} {s:Shared} {κ:SortKind} {a₀:Array Keyed} {pd:Array (Nat×Nat×Nat)} {ck nu:Keyed->Int}
structure Nu(nu:Keyed->Int)(a₀:Array Keyed):Prop where
 up:∀i j,i<j->j<a₀.size->kk nu a₀ i<kk nu a₀ j
 bd:∀x∈a₀.toList,0<=nu x/\nu x<64
structure SK(κ:SortKind)(a₀:Array Keyed)(pd:Array (Nat×Nat×Nat))(nu:Keyed->Int)(k:Nat)(st:SortSt):Prop where
 q:SQ κ a₀ pd st
 rest:∀j,k<=j->(arrOf st)[j]?=a₀[j]?
 nu:∀i j,i<k->k<=j->j<a₀.size->kk nu (arrOf st) i<kk nu (arrOf st) j
theorem SK.bd{k:Nat}{st:SortSt}(N:Nu nu a₀)(h:SK κ a₀ pd nu k st){i:Nat}(hi:i<a₀.size):0<=kk nu (arrOf st) i/\kk nu (arrOf st) i<64:=by
 obtain⟨p,e,m⟩:=h.q.at hi;unfold kk;rw[e];exact N.bd p m
theorem SK.later{k:Nat}{st:SortSt}(N:Nu nu a₀)(h:SK κ a₀ pd nu k st){i j:Nat}(hi:k<=i)(Bx:i<j)(hj:j<a₀.size):kk nu (arrOf st) i<kk nu (arrOf st) j:=by
 rw[vp (h.rest i hi),vp (h.rest j (by lia))];exact N.up i j Bx hj
theorem SK.up{k:Nat}{st:SortSt}(N:Nu nu a₀)(h:SK κ a₀ pd nu k st){m:Nat}(hm:k<=m):SK κ a₀ pd nu m st:=
 ⟨h.q,fun j hj=>h.rest j (by lia),fun i j hi hj hz=>by
  by_cases c:i<k
  .exact h.nu i j c (by lia) hz
  .exact h.later N (by lia) (by lia) hz⟩
theorem SK.lt{k:Nat}{st:SortSt}(N:Nu nu a₀)(h:SK κ a₀ pd nu k st){i j:Nat}(hi:i<j)(hk:k<=j)(hj:j<a₀.size):kk nu (arrOf st) i<kk nu (arrOf st) j:=by
 by_cases c:i<k
 .exact h.nu i j c hk hj
 .exact h.later N (by lia) hi hj
def uL(ck nu:Keyed->Int)(a:Array Keyed)(hi:Nat):Prop:=∀i j,i<=j->j<hi->64*kk ck a i+kk nu a i<=64*kk ck a j+kk nu a j
def BC(ck nu:Keyed->Int)(a:Array Keyed)(hi:Nat):Prop:=∀i j,i<=j->j<hi->64*kk ck a j+kk nu a j<=64*kk ck a i+kk nu a i
theorem C1{st:SortSt}{n ok:Nat}{Q:Bool->SortSt->Prop}(hC:Fy prog w A s κ a₀ ck)(N:Nu nu a₀)(hn:n<=a₀.size)(h1:1<=ok)(bE:ok<=n)(hB:SK κ a₀ pd nu ok st)(hs:uL ck nu (arrOf st) ok)(h:∀aw,SK κ a₀ pd nu n aw->uL ck nu (arrOf aw) n->Q true aw):wpS (model prog w) A E s (binarySort' 0 n ok) Q st:=by
 rw[binarySort'_eq];simp only[jk];rw[show max ok 1=ok by lia];refine aA (dk (di (I:=fun k c aw=>c=(none,())/\SK κ a₀ pd nu k aw/\uL ck nu (arrOf aw) k) (Q:=fun c aw=>c=(none,())/\SK κ a₀ pd nu n aw/\uL ck nu (arrOf aw) n) ?_ (fun c aw hh=>?_) ⟨rfl,hB,hs⟩) ?_)
 .rintro k c aw YO QC ⟨rfl,vq,so⟩;refine aA (dk (di (I:=fun x c ni=>(∃l r,c=(none,l,r)/\l<=r/\r<=k/\r<=l+(k-x)/\(∀i,i<l->64*kk ck (arrOf aw) i+kk nu (arrOf aw) i<=64*kk ck (arrOf aw) k+kk nu (arrOf aw) k)/\(∀i,r<=i->i<k->64*kk ck (arrOf aw) k+kk nu (arrOf aw) k<=64*kk ck (arrOf aw) i+kk nu (arrOf aw) i))/\ni=aw)
   (Q:=fun c ni=>(∃l r,c=(none,l,r)/\l<=k/\(∀i,i<l->64*kk ck (arrOf aw) i+kk nu (arrOf aw) i<=64*kk ck (arrOf aw) k+kk nu (arrOf aw) k)/\(∀i,l<=i->i<k->64*kk ck (arrOf aw) k+kk nu (arrOf aw) k<=64*kk ck (arrOf aw) i+kk nu (arrOf aw) i))/\ni=aw) ?_ ?_ ⟨⟨_,_,rfl,ce _,aI _,by lia,fun i h=>by lia,fun i h h'=>by lia⟩,rfl⟩) ?_)
  .rintro x c md _ hx ⟨⟨l,r,rfl,Sv,hr,YQ,f1,f2⟩,rfl⟩;dsimp only;by_cases vt:l>=r
   .rw[ao vt];exact aD ⟨⟨_,_,rfl,by lia,f1,fun i hi qL=>f2 i (by lia) qL⟩,rfl⟩
   .rw[aj vt];refine aA (lU hC vq.q (by lia) (by lia) fun b eb=>?_);have nn:=vq.lt N (i:=(l+r) / 2) (j:=k) (by lia) (aI _) (by lia);have b1:=vq.bd N (i:=(l+r) / 2) (by lia);have b2:=vq.bd N (i:=k) (by lia);cases b
    .have e:=o4 eb.symm;refine aD ⟨⟨_,_,rfl,by lia,hr,by lia,fun i hi=>?_,f2⟩,rfl⟩;have:=so i ((l+r) / 2) (by lia) (by lia);lia
    .have e:=c_ eb.symm;refine aD ⟨⟨_,_,rfl,by lia,by lia,by lia,f1,fun i hi qL=>?_⟩,rfl⟩;have:=so ((l+r) / 2) i (by lia) (by lia);lia
  .rintro c md ⟨⟨l,r,rfl,Sv,hr,YQ,f1,f2⟩,rfl⟩;exact⟨⟨_,_,rfl,by lia,f1,fun i hi qL=>f2 i (by lia) qL⟩,rfl⟩
  .rintro c md ⟨⟨l,r,rfl,hl,f1,f2⟩,rfl⟩;dsimp only;refine aA (C0 vq.q (by lia) (by lia) fun iW fX hg=>aD ?_);have ee:∀ (key:Keyed->Int) i,kk key (arrOf iW) i=if i=l then kk key (arrOf md) k else if l<i/\i<=k then kk key (arrOf md) (i-1) else kk key (arrOf md) i:=fun key i=>by
    unfold kk;rw[hg i];split
    .rfl
    .split <;> rfl
   refine⟨rfl,⟨fX,fun j hj=>?_,fun i j hi hj hz=>?_⟩,fun i j h2 h3=>?_⟩
   .rw[hg j,aj (by lia),aj (by lia)];exact vq.rest j (by lia)
   .rw[ee nu j,aj (by lia),aj (by lia),ee nu i];split
    .exact vq.lt N (by lia) (by lia) hz
    .split
     .exact vq.lt N (by lia) (by lia) hz
     .exact vq.lt N (by lia) (by lia) hz
   .rw[ee ck,ee ck,ee nu,ee nu];by_cases c1:i=l
    .rw[ao c1,ao c1];by_cases c2:j=l
     .rw[ao c2,ao c2];exact jl _
     .have c4:l<j/\j<=k:=by lia
      rw[aj c2,aj c2,ao c4,ao c4];exact f2 (j-1) (by lia) (by lia)
    .rw[aj c1,aj c1];by_cases c3:l<i/\i<=k
     .have c2:¬ j=l:=by lia
      have c4:l<j/\j<=k:=by lia
      rw[ao c3,ao c3,aj c2,aj c2,ao c4,ao c4];exact so _ _ (by lia) (by lia)
     .rw[aj c3,aj c3];by_cases c2:j=l
      .rw[ao c2,ao c2];exact f1 i (by lia)
      .rw[aj c2,aj c2];by_cases c4:l<j/\j<=k
       .rw[ao c4,ao c4];exact so _ _ (by lia) (by lia)
       .rw[aj c4,aj c4];exact so _ _ (by lia) (by lia)
 .obtain⟨h2,h3,h4⟩:=hh;have e:max ok n=n:=by lia
  rw[e] at h3 h4;exact⟨h2,h3,h4⟩
 .rintro c aw ⟨rfl,vq,so⟩;exact aD (h aw vq so)
theorem vv{st:SortSt}{bV n:Nat}{Q:Option (Option Nat)×Nat->SortSt->Prop}(hC:Fy prog w A s κ a₀ ck)(N:Nu nu a₀)(hn:bV<=a₀.size)(h1:1<=n)(h2:n<=bV)(hB:SK κ a₀ pd nu n st)(so:uL ck nu (arrOf st) n)(h:∀m,n<=m->m<=bV->uL ck nu (arrOf st) m->(m=bV\/kk ck (arrOf st) m<kk ck (arrOf st) (m-1))->Q (none,m) st):
  wpS (model prog w) A E s (forIn [n:bV] ((none:Option (Option Nat)),n) fun _ r=>do
   let some iL <- ltAt' r.2 (r.2-1)|pure (ForInStep.done (some none,r.2))
   if iL then pure (ForInStep.done (none,r.2)) else pure (ForInStep.yield (none,r.2+1))) Q st:=by
 refine dk (di (I:=fun i c aw=>aw=st/\c=(none,i)/\uL ck nu (arrOf st) i) (Q:=fun c aw=>aw=st/\∃m,c=(none,m)/\n<=m/\m<=bV/\uL ck nu (arrOf st) m/\(m=bV\/kk ck (arrOf st) m<kk ck (arrOf st) (m-1))) ?_ ?_ ⟨rfl,rfl,so⟩) ?_
 .rintro i c Fz HV vd ⟨rfl,rfl,HW⟩;dsimp only;have nn:=hB.lt N (i:=i-1) (j:=i) (by lia) (by lia) (by lia);refine aA (lU hC hB.q (by lia) (by lia) fun b eb=>?_);cases b
  .have e:=o4 eb.symm;refine aD ⟨rfl,rfl,fun x y BE hy=>?_⟩;by_cases c1:y<i
   .exact HW x y BE c1
   .have:y=i:=by lia
    subst this;by_cases c2:x=y
    .rw[c2];exact jl _
    .have:=HW x (y-1) (by lia) (by lia);lia
  .exact aD ⟨rfl,_,rfl,by lia,by lia,HW,.inr (c_ eb.symm)⟩
 .rintro c Fz ⟨rfl,rfl,HW⟩;have:max n bV=bV:=by lia
  rw[this] at HW |-;exact⟨rfl,_,rfl,by lia,by lia,HW,.inl rfl⟩
 .rintro c Fz ⟨rfl,m,rfl,m1,m2,HW,e⟩;exact h m m1 m2 HW e
theorem SK.rev{st aw:SortSt}{b i:Nat}(N:Nu nu a₀)(hB:SK κ a₀ pd nu b st)(hb:b<=i)(hi:i<=a₀.size)(hq:SQ κ a₀ pd aw)(hg:∀k,(arrOf aw)[k]?=if b<=k/\k<i then (arrOf st)[b+i-1-k]? else (arrOf st)[k]?):SK κ a₀ pd nu i aw:=
 ⟨hq,fun j hj=>by rw[hg j,aj (by lia)];exact hB.rest j (by lia),fun x j hx hj hz=>by
  rw[dQ hg,dQ hg,aj (by lia:¬ (b<=j/\j<i))];split
  .exact hB.lt N (by lia) (by lia) hz
  .exact hB.lt N (by lia) (by lia) hz⟩
theorem BC.rev{st aw:SortSt}{b i:Nat}(N:Nu nu a₀)(hB:SK κ a₀ pd nu b st)(hb:b<=i)(hi:i<=a₀.size)(hg:∀k,(arrOf aw)[k]?=if b<=k/\k<i then (arrOf st)[b+i-1-k]? else (arrOf st)[k]?)(de:BC ck nu (arrOf st) b)(d1:∀x y,x<b->b<=y->y<i->kk ck (arrOf st) y<kk ck (arrOf st) x)(d2:∀x,b<=x->x<i->kk ck (arrOf st) x=kk ck (arrOf st) (i-1)):BC ck nu (arrOf aw) i:=fun x y BE hy=>by
 rw[dQ hg,dQ hg,dQ hg,dQ hg];by_cases cy:b<=y
 .rw[ao (by lia:b<=y/\y<i),ao (by lia:b<=y/\y<i)];have by1:=hB.bd N (i:=b+i-1-y) (by lia);by_cases cx:b<=x
  .rw[ao (by lia:b<=x/\x<i),ao (by lia:b<=x/\x<i)];have e1:=d2 (b+i-1-x) (by lia) (by lia);have e2:=d2 (b+i-1-y) (by lia) (by lia);by_cases c:x=y
   .rw[c];exact jl _
   .have:=hB.later N (i:=b+i-1-y) (j:=b+i-1-x) (by lia) (by lia) (by lia);lia
  .rw[aj (by lia:¬ (b<=x/\x<i)),aj (by lia:¬ (b<=x/\x<i))];have:=d1 x (b+i-1-y) (by lia) (by lia) (by lia);have bx:=hB.bd N (i:=x) (by lia);lia
 .rw[aj (by lia:¬ (b<=y/\y<i)),aj (by lia:¬ (b<=y/\y<i)),aj (by lia:¬ (b<=x/\x<i)),aj (by lia:¬ (b<=x/\x<i))];exact de x y BE (by lia)
theorem tK{a:Array Keyed}{b:Nat}:∀k,a[k]?=if b<=k/\k<b+1 then a[b+(b+1)-1-k]? else a[k]?:=fun k=>by
 split
 .rename_i c;rw[show b+(b+1)-1-k=k by lia]
 .rfl
theorem vw{st:SortSt}{bV n:Nat}{Q:Option Nat->SortSt->Prop}(hC:Fy prog w A s κ a₀ ck)(N:Nu nu a₀)(hn:bV<=a₀.size)(h1:1<=n)(h2:n<=bV)(hB:SK κ a₀ pd nu n st)(de:BC ck nu (arrOf st) n)(h:∀n aw,SK κ a₀ pd nu n aw->1<=n->n<=bV->uL ck nu (arrOf aw) n->Q (some n) aw):wpS (model prog w) A E s (Jy 0 bV n) Q st:=by
 unfold Jy;simp only[jk];refine aA (oB hB.q (by lia) fun md HN hg=>?_);have me:SK κ a₀ pd nu n md:=⟨HN,fun j hj=>by rw[hg j,aj (by lia)];exact hB.rest j hj,fun i j hi hj hz=>by
  rw[dQ hg,dQ hg,aj (by lia:¬ (0<=j/\j<n))];split
  .exact hB.nu _ _ (by lia) hj hz
  .exact hB.nu _ _ hi hj hz⟩
 refine aA (vv hC N hn h1 h2 me (fun i j Bx hj=>?_) fun m m1 m2 so _=>?_)
 .rw[dQ hg,dQ hg,dQ hg,dQ hg,ao (by lia),ao (by lia),ao (by lia),ao (by lia)];exact de _ _ (by lia) (by lia)
 .exact aD (h m md (me.up N m1) (by lia) m2 so)
theorem vx{st:SortSt}{bV n:Nat}{Q:Option Nat->SortSt->Prop}(hC:Fy prog w A s κ a₀ ck)(N:Nu nu a₀)(hn:bV<=a₀.size)(h1:1<=n)(h2:n<bV)(hB:SK κ a₀ pd nu n st)(de:BC ck nu (arrOf st) n)(d1:∀x,x<n->kk ck (arrOf st) n<kk ck (arrOf st) x)(h:∀n aw,SK κ a₀ pd nu n aw->1<=n->n<=bV->uL ck nu (arrOf aw) n->Q (some n) aw):wpS (model prog w) A E s (Jz 0 bV n) Q st:=by
 unfold Jz;simp only[jk];refine aA (gY (dJ ⟨rfl,?_⟩));refine aA (dk (di (I:=fun i c aw=>∃q b,c=(none,i,q)/\i=b+(q+1)/\SK κ a₀ pd nu b aw/\BC ck nu (arrOf aw) b/\(∀x y,x<b->b<=y->y<i->kk ck (arrOf aw) y<kk ck (arrOf aw) x)/\∀x,b<=x->x<i->kk ck (arrOf aw) x=kk ck (arrOf aw) (i-1))
  (Q:=fun c aw=>∃i q b,c=(none,i,q)/\i<=bV/\i=b+(q+1)/\SK κ a₀ pd nu b aw/\BC ck nu (arrOf aw) b/\(∀x y,x<b->b<=y->y<i->kk ck (arrOf aw) y<kk ck (arrOf aw) x)/\∀x,b<=x->x<i->kk ck (arrOf aw) x=kk ck (arrOf aw) (i-1)) ?_ ?_ ⟨0,n,rfl,rfl,hB,de,fun x y hx hy Wx=>by rw[show y=n by lia];exact d1 x hx,fun x hx qC=>by rw[show x=n by lia];rfl⟩) ?_)
 .rintro i c iW HV vd ⟨q,b,rfl,rfl,fX,HX,d3,e3⟩;dsimp only;have step:∀aw,SQ κ a₀ pd aw->(∀k,(arrOf aw)[k]?=if b<=k/\k<b+(q+1) then (arrOf iW)[b+(b+(q+1))-1-k]? else (arrOf iW)[k]?)->kk ck (arrOf iW) (b+(q+1))<kk ck (arrOf iW) (b+(q+1)-1)->
    SK κ a₀ pd nu (b+(q+1)) aw/\BC ck nu (arrOf aw) (b+(q+1))/\(∀x y,x<b+(q+1)->b+(q+1)<=y->y<b+(q+1)+1->kk ck (arrOf aw) y<kk ck (arrOf aw) x):=fun aw hq hg lt=>by
   refine⟨fX.rev N (by lia) (by lia) hq hg,BC.rev N fX (by lia) (by lia) hg HX d3 e3,fun x y hx hy Wx=>?_⟩;rw[show y=b+(q+1) by lia,dQ hg,dQ hg,aj (by lia)];split
   .rw[e3 (b+(b+(q+1))-1-x) (by lia) (by lia)];exact lt
   .have:=d3 x (b+(q+1)-1) (by lia) (by lia) (by lia);lia
  refine aA (lU hC fX.q (by lia) (by lia) fun b3 Wy=>?_);cases b3
  .have Sw:=o4 Wy.symm;dsimp only;rw[aj (by decide)];refine aA (lU hC fX.q (by lia) (by lia) fun b4 YR=>?_);cases b4
   .have e4':=o4 YR.symm;have eq:kk ck (arrOf iW) (b+(q+1))=kk ck (arrOf iW) (b+(q+1)-1):=by lia
    refine aD ⟨q+1,b,rfl,rfl,fX,HX,fun x y hx hy Wx=>?_,fun x hx qC=>?_⟩
    .by_cases c:y<b+(q+1)
     .exact d3 x y hx hy c
     .rw[show y=b+(q+1) by lia,eq];exact d3 x _ hx (by lia) (by lia)
    .rw[show b+(q+1)+1-1=b+(q+1) by lia];by_cases c:x<b+(q+1)
     .rw[e3 x hx c,eq]
     .rw[show x=b+(q+1) by lia]
   .exact aD ⟨_,_,_,rfl,by lia,rfl,fX,HX,d3,e3⟩
  .have Sw:=c_ Wy.symm;dsimp only;rw[ao rfl];split
   .rename_i cq;rw[show b+(q+1)-(q+1)=b by lia];refine aA (oB fX.q (by lia) fun n9 Sx hg=>aD ?_);obtain⟨s1,s2,s3⟩:=step n9 Sx hg Sw;exact⟨0,b+(q+1),rfl,rfl,s1,s2,s3,fun x hx qC=>by rw[show x=b+(q+1) by lia];rfl⟩
   .rename_i cq;have cq:q=0:=by lia
    subst cq;obtain⟨s1,s2,s3⟩:=step iW fX.q tK Sw;exact aD ⟨0,b+(0+1),rfl,rfl,s1,s2,s3,fun x hx qC=>by rw[show x=b+(0+1) by lia];rfl⟩
 .rintro c iW ⟨q,b,rfl,e,fX,HX,d3,e3⟩;have:max (n+1) bV=bV:=by lia
  rw[this] at e d3 e3 |-;exact⟨_,_,_,rfl,by lia,e,fX,HX,d3,e3⟩
 .rintro c iW ⟨i,q,b,rfl,hi,rfl,fX,HX,d3,e3⟩;dsimp only;split
  .rename_i cq;rw[show b+(q+1)-(q+1)=b by lia];refine aA (oB fX.q (by lia) fun n9 Sx hg=>?_);exact vw hC N hn (by lia) hi (fX.rev N (by lia) (by lia) Sx hg) (BC.rev N fX (by lia) (by lia) hg HX d3 e3) h
  .rename_i cq;have cq:q=0:=by lia
   subst cq;exact vw hC N hn (by lia) hi (fX.rev N (by lia) (by lia) fX.q tK) (BC.rev N fX (by lia) (by lia) tK HX d3 e3) h
theorem ya{st:SortSt}{bV:Nat}{Q:Option Nat->SortSt->Prop}(hC:Fy prog w A s κ a₀ ck)(N:Nu nu a₀)(hn:bV<=a₀.size)(h1:1<=bV)(hB:SK κ a₀ pd nu 0 st)(h:∀n aw,SK κ a₀ pd nu n aw->1<=n->n<=bV->uL ck nu (arrOf aw) n->Q (some n) aw):wpS (model prog w) A E s (countRun' 0 bV) Q st:=by
 rw[qM];simp only[jk];refine aA (vv hC N hn (aI 1) h1 (hB.up N (ce 1)) (fun i j Bx hj=>by rw[show i=j by lia];exact jl _) fun n n1 n2 so e=>?_);dsimp only;by_cases e1:(n==bV)=true
 .rw[ao e1];exact aD (h n st (hB.up N (by lia)) n1 n2 so)
 rw[aj e1];have g1:¬ (n=bV):=by simpa using e1
 have cV:kk ck (arrOf st) n<kk ck (arrOf st) (n-1):=e.resolve_left g1;by_cases e2:n > 1
 .rw[ao e2];refine aA (lU hC hB.q (by lia) (by lia) fun b2 eb=>?_);cases b2
  .have e3:=o4 eb.symm;dsimp only;rw[aj (by decide)];have eq:∀k,0<=k->k<n->kk ck (arrOf st) k=kk ck (arrOf st) (n-1):=fun k _ QC=>by
    have a1:=so 0 k (by lia) QC;have a2:=so k (n-1) (by lia) (by lia);have c0:=hB.bd N (i:=0) (by lia);have c1:=hB.bd N (i:=k) (by lia);have c2:=hB.bd N (i:=n-1) (by lia);lia
   refine aA (oB hB.q (by lia) fun md HN hg=>?_);have QD:∀k,(arrOf md)[k]?=if 0<=k/\k<n then (arrOf st)[0+n-1-k]? else (arrOf st)[k]?:=hg
   refine vx hC N hn n1 (by lia) (hB.rev N (by lia) (by lia) HN QD) (BC.rev N hB (by lia) (by lia) QD (fun i j Bx hj=>by lia) (fun x y hx _ _=>by lia) eq) (fun x hx=>?_) h;rw[dQ QD,dQ QD,aj (by lia:¬ (0<=n/\n<n)),ao (by lia:0<=x/\x<n),eq (0+n-1-x) (by lia) (by lia)];exact cV
  .exact aD (h n st (hB.up N (by lia)) n1 n2 so)
 .rw[aj e2];have:n=1:=by lia
  subst this;refine vx hC N hn n1 (by lia) (hB.up N (by lia)) (fun i j Bx hj=>by rw[show i=j by lia];exact jl _) (fun x hx=>?_) h;rw[show x=1-1 by lia];exact cV
theorem yb{st:SortSt}{Q:Unit->SortSt->Prop}(hC:Fy prog w A s κ a₀ ck)(N:Nu nu a₀)(ha:arrOf st=a₀)(hk:kindOf st=κ)(hf:failedOf st=none)(Sy:pendingOf st=#[])(h2:2<=a₀.size)(AN:a₀.size<64)(h:∀aw,(arrOf aw).Perm a₀->failedOf aw=none->uL ck nu (arrOf aw) a₀.size->Q () aw):wpS (model prog w) A E s sortRuns' Q st:=by
 rw[sortRuns'_eq];refine aA (dz ?_);dsimp only;have YS:minRun' a₀.size a₀.size 0=a₀.size:=by
  obtain⟨f,hf⟩:∃f,a₀.size=f+1:=⟨a₀.size-1,by lia⟩
  have:minRun' (f+1) a₀.size 0=a₀.size:=by rw[minRun'_succ,ao AN];rfl
  rwa [<-hf] at this
 rw[ha];simp only[YS];have hB:SK κ a₀ #[] nu 0 st:=⟨⟨by rw[ha],hk,hf,Sy⟩,fun j _=>by rw[ha],fun i j hi _ _=>absurd hi (sk _)⟩
 refine aA (dk (di
  (I:=fun x c aw=>(x=0/\c=(none,0)/\SK κ a₀ #[] nu 0 aw)\/(1<=x/\c=(none,a₀.size)/\SQ κ a₀ #[(0,a₀.size,0)] aw/\uL ck nu (arrOf aw) a₀.size))
  (Q:=fun c aw=>c=(none,a₀.size)/\SQ κ a₀ #[(0,a₀.size,0)] aw/\uL ck nu (arrOf aw) a₀.size) ?step ?dU (.inl ⟨rfl,rfl,hB⟩)) ?post)
 case dU=>
  rintro c aw (⟨hx,_,_⟩|⟨_,hc,hD⟩)
  .lia
  .exact⟨hc,hD⟩
 case step=>
  rintro x c aw _ hx (⟨rfl,rfl,vq⟩|⟨X_,rfl,hD⟩)
  .dsimp only;rw[aj (by lia)];simp only[Nat.sub_zero,pq,jk];have dU:∀ {iW:SortSt},SK κ a₀ #[] nu a₀.size iW->uL ck nu (arrOf iW) a₀.size->SQ κ a₀ #[(0,a₀.size,0)] (setPending iW ((pendingOf iW).push (0,a₀.size,0)))/\uL ck nu (arrOf (setPending iW ((pendingOf iW).push (0,a₀.size,0)))) a₀.size:=fun {iW} k so=>⟨⟨k.q.perm,k.q.kind,k.q.failed,by show (pendingOf iW).push _=_;rw[k.q.pend];rfl⟩,so⟩
   refine aA (ya hC N (aI _) (by lia) vq fun m md me YT LD j9=>?_);dsimp only;by_cases cV:m<a₀.size
   .rw[ao cV];refine aA (gY (dJ ⟨rfl,?_⟩));refine aA (C1 hC N (aI _) YT LD me j9 fun iW fX RW=>?_);simp only[pi,h9,dw];refine aA (dz ?_);have hb:(pendingOf iW).back?=none:=by rw[fX.q.pend];rfl
    rw[hb];dsimp only;exact aA (dL (aD (.inr ⟨by lia,rfl,dU fX RW⟩)))
   .rw[aj cV];have hm:m=a₀.size:=by lia
    subst hm;refine aA (dz ?_);have hb:(pendingOf md).back?=none:=by rw[me.q.pend];rfl
    rw[hb];dsimp only;exact aA (dL (aD (.inr ⟨by lia,rfl,dU me j9⟩)))
  .dsimp only;rw[ao (aI _)];exact aD ⟨rfl,hD⟩
 case post=>
  rintro c aw ⟨rfl,hD⟩;dsimp only;refine aA (dk (di (I:=fun _ c ni=>ni=aw/\c=(none,())) (Q:=fun c ni=>ni=aw/\c=(none,())) ?_ (fun _ _ hh=>hh) ⟨rfl,rfl⟩) ?_)
  .rintro x c ni _ _ ⟨rfl,rfl⟩;refine aA (dz ?_);rw[ao (by rw[hD.1.pend];exact aI 1)];exact aD ⟨rfl,rfl⟩
  .rintro c ni ⟨rfl,rfl⟩;exact aD (h _ hD.1.perm hD.1.failed hD.2)
end
def jx(prog:Program)(w:World)(A:Around)(s:Shared)(κ:SortKind)(a₀:Array Keyed):Prop:=
 ∀x y,x∈a₀.toList->y∈a₀.toList->∀ (Q:Bool->Shared->Prop) (E:Value->Shared->Prop),(∀b,Q b s)->wpAny (model prog w) A (keyLt' κ x.1 y.1) Q E s
section
variable {prog:Program} {w:World} {A:Around} {E:Value->Shared->Prop} {s:Shared} {κ:SortKind} {a₀:Array Keyed} {pd:Array (Nat×Nat×Nat)}
theorem lV{st:SortSt}{x y:Keyed}{Q:Option Bool->SortSt->Prop}(hC:jx prog w A s κ a₀)(hk:kindOf st=κ)(hx:x∈a₀.toList)(hy:y∈a₀.toList)(h:∀b,Q (some b) st):wpS (model prog w) A E s (lt' x y) Q st:=by
 rw[lt'_eq];refine aA (dz ?_);rw[hk];refine aA (gY (jj (hC x y hx hy _ _ fun b=>⟨rfl,?_⟩)));exact aD (h b)
theorem dC{st:SortSt}{i j:Nat}{Q:Option Bool->SortSt->Prop}(hC:jx prog w A s κ a₀)(hB:SQ κ a₀ pd st)(hi:i<a₀.size)(hj:j<a₀.size)(h:∀b,Q (some b) st):wpS (model prog w) A E s (ltAt' i j) Q st:=by
 obtain⟨p,e1,m1⟩:=hB.at hi;obtain⟨q,e2,m2⟩:=hB.at hj;rw[ltAt'_eq];refine aA (dz ?_);exact aA (aZ e1 (aA (aZ e2 (lV hC hB.kind m1 m2 h))))
theorem eR{st:SortSt}{i j:Nat}{Q:Unit->SortSt->Prop}(hB:SQ κ a₀ pd st)(h:∀aw,SQ κ a₀ pd aw->Q () aw):wpS (model prog w) A E s (reverseSlice' i j) Q st:=by
 rw[reverseSlice'_eq];exact dL (h _ (hB.setArr (mirror_perm _ _ _ _)))
theorem AU{st:SortSt}{i j:Nat}{Q:Unit->SortSt->Prop}(hB:SQ κ a₀ pd st)(h:∀aw,SQ κ a₀ pd aw->Q () aw):wpS (model prog w) A E s (moveDown' i j) Q st:=by
 rw[moveDown'_eq];exact dL (h _ (hB.setArr (bubble_perm _ _ _)))
theorem C2{st:SortSt}{lo n ok:Nat}{Q:Bool->SortSt->Prop}(hC:jx prog w A s κ a₀)(hn:lo+n<=a₀.size)(hB:SQ κ a₀ pd st)(h:∀aw,SQ κ a₀ pd aw->Q true aw):wpS (model prog w) A E s (binarySort' lo n ok) Q st:=by
 rw[binarySort'_eq];refine aA (dk (di (I:=fun _ c aw=>c=(none,())/\SQ κ a₀ pd aw) (Q:=fun c aw=>c=(none,())/\SQ κ a₀ pd aw) ?_ (fun c aw hh=>hh) ⟨rfl,hB⟩) ?_)
 .rintro k c aw YO QC ⟨rfl,vq⟩;dsimp only;refine aA (dk (di (I:=fun _ c ni=>(∃l r,c=(none,l,r)/\r<=k)/\SQ κ a₀ pd ni) (Q:=fun c ni=>(∃l r,c=(none,l,r)/\r<=k)/\SQ κ a₀ pd ni) ?_ (fun c aw hh=>hh) ⟨⟨_,_,rfl,aI _⟩,vq⟩) ?_)
  .rintro x c md _ _ ⟨⟨l,r,rfl,hr⟩,me⟩;dsimp only;by_cases vt:l>=r
   .rw[ao vt];exact aD ⟨⟨_,_,rfl,hr⟩,me⟩
   .rw[aj vt];refine aA (dC hC me (by lia) (by lia) fun b=>?_);cases b
    .exact aD ⟨⟨_,_,rfl,hr⟩,me⟩
    .exact aD ⟨⟨_,_,rfl,by lia⟩,me⟩
  .rintro c md ⟨⟨l,r,rfl,hr⟩,me⟩;dsimp only;exact aA (AU me fun iW fX=>aD ⟨rfl,fX⟩)
 .rintro c aw ⟨rfl,vq⟩;exact aD (h aw vq)
end
theorem yc(left:Bool)(key:Keyed)(arr:Array Keyed)(base n k8:Nat):gQ left key arr base n k8=(do
 let tO (i:Nat):StateT SortSt Sem (Option Bool):=do
  let x <- elem' arr (base+i)
  if left then lt' x key else return (<-lt' key x).map (!·)
 let mut lastofs:=0
 let mut ofs:=1
 let mut lo:=0
 let mut hi:=0
 let some right <- tO k8|return none
 if right then
  let pW:=n-k8
  for _ in [0:n] do
   if ofs>=pW then break
   let some more <- tO (k8+ofs)|return none
   if !more then break
   lastofs:=ofs
   ofs:=2*ofs+1
  lo:=k8+lastofs+1
  hi:=k8+min ofs pW
 else
  let pW:=k8+1
  for _ in [0:n] do
   if ofs>=pW then break
   let some C3 <- tO (k8-ofs)|return none
   if C3 then break
   lastofs:=ofs
   ofs:=2*ofs+1
  lo:=k8+1-min ofs pW
  hi:=k8-lastofs
 for _ in [0:n] do
  if lo>=hi then break
  let m:=lo+(hi-lo) / 2
  let some more <- tO m|return none
  if more then lo:=m+1 else hi:=m
 return some hi):=rfl
section
variable {prog:Program} {w:World} {A:Around} {E:Value->Shared->Prop} {s:Shared} {κ:SortKind} {a₀:Array Keyed} {pd:Array (Nat×Nat×Nat)}
theorem gj{st:SortSt}{left:Bool}{key:Keyed}{arr:Array Keyed}{j:Nat}{Q:Option Bool->SortSt->Prop}(hC:jx prog w A s κ a₀)(hk:kindOf st=κ)(qF:key∈a₀.toList)(wu:∀x∈arr.toList,x∈a₀.toList)(hj:j<arr.size)(h:∀b,Q (some b) st):
  wpS (model prog w) A E s (do
  let x <- elem' arr j
  if left then lt' x key else return (<-lt' key x).map (!·)) Q st:=by
 have hm:arr[j]∈a₀.toList:=wu _ (by simp);refine aA (aZ (cM arr j hj) ?_);cases left
 .rw[aj (by decide)];exact aA (lV hC hk qF hm fun b=>aD (h (!b)))
 .rw[ao rfl];exact lV hC hk hm qF h
theorem fh{st:SortSt}{left:Bool}{key:Keyed}{arr:Array Keyed}{base n k8:Nat}{Q:Option Nat->SortSt->Prop}(hC:jx prog w A s κ a₀)(hk:kindOf st=κ)(qF:key∈a₀.toList)(wu:∀x∈arr.toList,x∈a₀.toList)(hn:base+n<=arr.size)(hh:k8<n)(h:∀k,k<=n->Q (some k) st):wpS (model prog w) A E s (gQ left key arr base n k8) Q st:=by
 rw[yc];refine aA (gj hC hk qF wu (by lia) fun right=>?_);cases right
 .dsimp only;rw[aj (by decide)];refine aA (dk (di (I:=fun _ c aw=>(∃l o,c=(none,l,o))/\st=aw) (Q:=fun c aw=>(∃l o,c=(none,l,o))/\st=aw) ?_ (fun c aw hh=>hh) ⟨⟨_,_,rfl⟩,rfl⟩) ?_)
  .rintro x c aw _ _ ⟨⟨l,o,rfl⟩,rfl⟩;dsimp only;by_cases vt:o>=k8+1
   .rw[ao vt];exact aD ⟨⟨_,_,rfl⟩,rfl⟩
   .rw[aj vt];refine aA (gj hC hk qF wu (by lia) fun C3=>?_);cases C3
    .exact aD ⟨⟨_,_,rfl⟩,rfl⟩
    .exact aD ⟨⟨_,_,rfl⟩,rfl⟩
  .rintro c aw ⟨⟨l,o,rfl⟩,rfl⟩;dsimp only;refine aA (dk (di (I:=fun _ c aw=>(∃l u,c=(none,l,u)/\u<=n)/\st=aw) (Q:=fun c aw=>(∃l u,c=(none,l,u)/\u<=n)/\st=aw) ?_ (fun c aw hh=>hh) ⟨⟨_,_,rfl,by lia⟩,rfl⟩) ?_)
   .rintro x c aw _ _ ⟨⟨l,u,rfl,hu⟩,rfl⟩;dsimp only;by_cases vt:l>=u
    .rw[ao vt];exact aD ⟨⟨_,_,rfl,hu⟩,rfl⟩
    .rw[aj vt];refine aA (gj hC hk qF wu (by lia) fun more=>?_);cases more
     .exact aD ⟨⟨_,_,rfl,by lia⟩,rfl⟩
     .exact aD ⟨⟨_,_,rfl,hu⟩,rfl⟩
   .rintro c aw ⟨⟨l,u,rfl,hu⟩,rfl⟩;exact aD (h u hu)
 .dsimp only;rw[ao rfl];refine aA (dk (di (I:=fun _ c aw=>(∃l o,c=(none,l,o))/\st=aw) (Q:=fun c aw=>(∃l o,c=(none,l,o))/\st=aw) ?_ (fun c aw hh=>hh) ⟨⟨_,_,rfl⟩,rfl⟩) ?_)
  .rintro x c aw _ _ ⟨⟨l,o,rfl⟩,rfl⟩;dsimp only;by_cases vt:o>=n-k8
   .rw[ao vt];exact aD ⟨⟨_,_,rfl⟩,rfl⟩
   .rw[aj vt];refine aA (gj hC hk qF wu (by lia) fun more=>?_);cases more
    .exact aD ⟨⟨_,_,rfl⟩,rfl⟩
    .exact aD ⟨⟨_,_,rfl⟩,rfl⟩
  .rintro c aw ⟨⟨l,o,rfl⟩,rfl⟩;dsimp only;refine aA (dk (di (I:=fun _ c aw=>(∃l u,c=(none,l,u)/\u<=n)/\st=aw) (Q:=fun c aw=>(∃l u,c=(none,l,u)/\u<=n)/\st=aw) ?_ (fun c aw hh=>hh) ⟨⟨_,_,rfl,by lia⟩,rfl⟩) ?_)
   .rintro x c aw _ _ ⟨⟨l,u,rfl,hu⟩,rfl⟩;dsimp only;by_cases vt:l>=u
    .rw[ao vt];exact aD ⟨⟨_,_,rfl,hu⟩,rfl⟩
    .rw[aj vt];refine aA (gj hC hk qF wu (by lia) fun more=>?_);cases more
     .exact aD ⟨⟨_,_,rfl,by lia⟩,rfl⟩
     .exact aD ⟨⟨_,_,rfl,hu⟩,rfl⟩
   .rintro c aw ⟨⟨l,u,rfl,hu⟩,rfl⟩;exact aD (h u hu)
end
structure SM(κ:SortKind)(ar:Array Keyed)(pd:Array (Nat×Nat×Nat))(st:SortSt):Prop where
 arr:arrOf st=ar
 kind:kindOf st=κ
 failed:failedOf st=none
 pend:pendingOf st=pd
abbrev n_:=Option (Array Keyed)
abbrev rf:=StateT SortSt Sem
def vy{τ:Type}(c:Bool)(d:Prop)[Decidable d](r:Array Keyed)(t:τ):rf (ForInStep (n_×τ)):=if c then pure (.done (some r,t)) else if d then pure (.done (none,t)) else pure (.yield (none,t))
def Wz{α β γ:Type}(N:Nat)(f:Nat->n_×α×β×γ×Nat×Nat->rf (ForInStep (n_×α×β×γ×Nat×Nat)))(g:n_×α×β×γ×Nat×Nat×Nat->rf (ForInStep (n_×α×β×γ×Nat×Nat×Nat)))(s:n_×α×β×γ×Nat):rf (ForInStep (n_×α×β×γ×Nat)):=do
 let t <- forIn [0:N] ((none,s.2.1,s.2.2.1,s.2.2.2.1,0,0):n_×α×β×γ×Nat×Nat) fun _ t=>f s.2.2.2.2 t
 match t.1 with
 |some r=>pure (.done (some r,t.2.1,t.2.2.1,t.2.2.2.1,s.2.2.2.2))
 |none=>do
  liftM (rule "list.sort.gallop")
  let u <- forIn [0:N] ((none,t.2.1,t.2.2.1,t.2.2.2.1,s.2.2.2.2+1,t.2.2.2.2.1,t.2.2.2.2.2):n_×α×β×γ×Nat×Nat×Nat) fun _ u=>g u
  match u.1 with
  |some r=>pure (.done (some r,u.2.1,u.2.2.1,u.2.2.2.1,u.2.2.2.2.1))
  |none=>do
   g_ (u.2.2.2.2.1+1)
   pure (.yield (none,u.2.1,u.2.2.1,u.2.2.2.1,u.2.2.2.2.1+1))
def QE{α β γ:Type}(N:Nat)(f:Nat->n_×α×β×γ×Nat×Nat->rf (ForInStep (n_×α×β×γ×Nat×Nat)))(g:n_×α×β×γ×Nat×Nat×Nat->rf (ForInStep (n_×α×β×γ×Nat×Nat×Nat)))(x:α)(y:β)(z:γ):rf (Array Keyed):=do
 let st <- get
 let s <- forIn [0:N] ((none,x,y,z,gallopOf st):n_×α×β×γ×Nat) fun _ s=>Wz N f g s
 match s.1 with
 |some r=>pure r
 |none=>liftM (unsupported "internal:list.sort.merge-bound")
section
variable {prog:Program} {w:World} {A:Around} {E:Value->Shared->Prop} {s:Shared} {κ:SortKind} {a₀:Array Keyed} {pd:Array (Nat×Nat×Nat)} {ar:Array Keyed} {F:Array Keyed->Prop}
def GP{τ:Type}(κ:SortKind)(ar:Array Keyed)(pd:Array (Nat×Nat×Nat))(F:Array Keyed->Prop)(D J:τ->Prop)(r:ForInStep (n_×τ))(st:SortSt):Prop:=SM κ ar pd st/\
 ((∃x t,r=.done (some x,t)/\F x)\/(∃t,r=.done (none,t)/\D t)\/∃t,r=.yield (none,t)/\J t)
theorem eS{τ:Type}{D J:τ->Prop}{st:SortSt}{x:Array Keyed}{t:τ}(m:SM κ ar pd st)(h:F x):wpS (model prog w) A E s (pure (.done (some x,t))) (GP κ ar pd F D J) st:=aD ⟨m,.inl ⟨_,_,rfl,h⟩⟩
theorem iu{τ:Type}{D J:τ->Prop}{c:Bool}{d:Prop}[Decidable d]{r:Array Keyed}{t:τ}{st:SortSt}(m:SM κ ar pd st)(h1:c=true->F r)(h2:c=false->D t/\J t):wpS (model prog w) A E s (vy c d r t) (GP κ ar pd F D J) st:=by
 unfold vy;cases c
 .rw[aj bX];split
  .exact aD ⟨m,.inr (.inl ⟨_,rfl,(h2 rfl).1⟩)⟩
  .exact aD ⟨m,.inr (.inr ⟨_,rfl,(h2 rfl).2⟩)⟩
 .rw[ao rfl];exact eS m (h1 rfl)
theorem nq{τ:Type}{D:τ->Prop}{J:Nat->τ->Prop}{N:Nat}{f:n_×τ->rf (ForInStep (n_×τ))}{t:τ}{st:SortSt}{Q:n_×τ->SortSt->Prop}(m:SM κ ar pd st)(hJ:J 0 t)(up:∀t,J N t->D t)(b:∀t st,SM κ ar pd st->∀i,J i t->wpS (model prog w) A E s (f (none,t)) (GP κ ar pd F D (J (i+1))) st)(h1:∀x t aw,SM κ ar pd aw->F x->Q (some x,t) aw)(h2:∀t aw,SM κ ar pd aw->D t->Q (none,t) aw):wpS (model prog w) A E s (forIn [0:N] ((none,t):n_×τ) fun _ c=>f c) Q st:=by
 refine di (I:=fun i c aw=>c.1=none/\SM κ ar pd aw/\J i c.2) ?_ ?_ ⟨rfl,m,hJ⟩
 .rintro i ⟨_,t⟩ aw _ _ ⟨rfl,m',j⟩;refine dk (b t aw m' i j) ?_;rintro r md ⟨m2,⟨x,t,rfl,h⟩|⟨t,rfl,h⟩|⟨t,rfl,h⟩⟩
  .exact h1 _ _ _ m2 h
  .exact h2 _ _ m2 h
  .exact⟨rfl,m2,h⟩
 .rintro⟨_,t⟩ aw ⟨rfl,m',j⟩;rw[Nat.max_eq_right (ce _)] at j;exact h2 _ _ m' (up _ j)
theorem zk{α β γ:Type}{N:Nat}{f:Nat->n_×α×β×γ×Nat×Nat->rf (ForInStep (n_×α×β×γ×Nat×Nat))}{g:n_×α×β×γ×Nat×Nat×Nat->rf (ForInStep (n_×α×β×γ×Nat×Nat×Nat))}{x:α}{y:β}{z:γ}{J:Nat->α->β->γ->Prop}{st:SortSt}{Q:Array Keyed->SortSt->Prop}(m:SM κ ar pd st)(h0:J 0 x y z)(dn:∀i k x y z,J (i+k) x y z->J i x y z)(no:∀x y z,¬ J N x y z)(N1:1<=N)(hf:∀mg n k x y z p st,SM κ ar pd st->J (n+k) x y z->wpS (model prog w) A E s (f mg (none,x,y,z,p)) (GP κ ar pd F (fun t=>J (n+1) t.1 t.2.1 t.2.2.1) fun t=>J (n+(k+1)) t.1 t.2.1 t.2.2.1) st)(hg:∀n x y z p st,SM κ ar pd st->J n x y z->wpS (model prog w) A E s (g (none,x,y,z,p)) (GP κ ar pd F (fun t=>J n t.1 t.2.1 t.2.2.1) fun t=>J n t.1 t.2.1 t.2.2.1) st)(h:∀x aw,F x->SM κ ar pd aw->Q x aw):wpS (model prog w) A E s (QE N f g x y z) Q st:=by
 unfold QE;refine aA (dz ?_);refine aA (nq (F:=F) (D:=fun _=>False) (J:=fun n (t:α×β×γ×Nat)=>J n t.1 t.2.1 t.2.2.1) m h0 (fun t h=>no _ _ _ h) ?_ (fun x t st m hx=>aD (h _ _ hx m)) fun t st m j=>j.elim);intro t st m i j;unfold Wz;refine aA (nq (F:=F) (D:=fun t=>J (i+1) t.1 t.2.1 t.2.2.1) (J:=fun n (t:α×β×γ×Nat×Nat)=>J (i+n) t.1 t.2.1 t.2.2.1) m j (fun t h=>dn _ (N-1) _ _ _ (by rw[show i+1+(N-1)=i+N by lia];exact h)) (fun t st m n j=>hf _ _ _ _ _ _ _ _ m j) (fun x t st m hx=>eS m hx) ?_);intro t st m j;refine aA (gY (dJ ⟨rfl,?_⟩));refine aA (nq (F:=F) (D:=fun t=>J (i+1) t.1 t.2.1 t.2.2.1) (J:=fun n (t:α×β×γ×Nat×Nat×Nat)=>J (i+1) t.1 t.2.1 t.2.2.1) m j (fun _ h=>h) (fun t st m n j=>hg _ _ _ _ _ _ m j) (fun x t st m hx=>eS m hx) ?_);intro t st m j;refine aA (dL ?_);exact aD ⟨⟨m.arr,m.kind,m.failed,m.pend⟩,.inr (.inr ⟨_,rfl,j⟩)⟩
end
abbrev jy(a b out:Array Keyed)(ia ib:Nat):=out++a.extract ia a.size++b.extract ib b.size
abbrev tP(a b out:Array Keyed)(ia ib:Nat):=out++b.extract ib b.size++a.extract ia a.size
abbrev HY ρ:=n_×Array Keyed×Nat×Nat×ρ
def WA(a b:Array Keyed)(mg:Nat)(t:HY (Nat×Nat)):rf (ForInStep (HY (Nat×Nat))):=do
 let x <- elem' b t.2.2.2.1
 let y <- elem' a t.2.2.1
 let some w <- lt' x y|pure (.done (some (jy a b t.2.1 t.2.2.1 t.2.2.2.1),t.2.1,t.2.2.1,t.2.2.2.1,t.2.2.2.2.1,t.2.2.2.2.2))
 if w then do
  let x <- elem' b t.2.2.2.1
  vy (t.2.2.2.1+1==b.size) (t.2.2.2.2.2+1>=mg) (jy a b (t.2.1.push x) t.2.2.1 (t.2.2.2.1+1)) (t.2.1.push x,t.2.2.1,t.2.2.2.1+1,0,t.2.2.2.2.2+1)
 else do
  let x <- elem' a t.2.2.1
  vy (t.2.2.1+1+1==a.size) (t.2.2.2.2.1+1>=mg) (tP a b (t.2.1.push x) (t.2.2.1+1) t.2.2.2.1) (t.2.1.push x,t.2.2.1+1,t.2.2.2.1,t.2.2.2.2.1+1,0)
def Sz(a b out:Array Keyed)(ia ib mg ac bc:Nat):rf (ForInStep (HY (Nat×Nat×Nat))):=do
 let x <- elem' a ia
 vy (ia+1+1==a.size) ((ac<7&&bc<7)=true) (tP a b (out.push x) (ia+1) ib) (out.push x,ia+1,ib,mg,ac,bc)
def SA(a b out:Array Keyed)(ia ib mg ac bc:Nat):rf (ForInStep (HY (Nat×Nat×Nat))):=do
 let x <- elem' b ib
 if ib+1==b.size then pure (.done (some (jy a b (out.push x) ia (ib+1)),out.push x,ia,ib+1,mg,ac,bc))
 else do
  let y <- elem' a ia
  let some k <- gQ true y b (ib+1) (b.size-(ib+1)) 0|pure (.done (some (jy a b (out.push x) ia (ib+1)),out.push x,ia,ib+1,mg,ac,bc))
  if k > 0 then
   if ib+1+k==b.size then pure (.done (some (jy a b (out.push x++b.extract (ib+1) (ib+1+k)) ia (ib+1+k)),out.push x++b.extract (ib+1) (ib+1+k),ia,ib+1+k,mg,ac,k))
   else Sz a b (out.push x++b.extract (ib+1) (ib+1+k)) ia (ib+1+k) mg ac k
  else Sz a b (out.push x) ia (ib+1) mg ac k
def SC(a b out:Array Keyed)(ia ib mg ac bc:Nat):rf (ForInStep (HY (Nat×Nat×Nat))):=do
 g_ mg
 let y <- elem' b ib
 let some k <- gQ false y a ia (a.size-ia) 0|pure (.done (some (jy a b out ia ib),out,ia,ib,mg,ac,bc))
 if k > 0 then
  if ia+k+1==a.size then pure (.done (some (tP a b (out++a.extract ia (ia+k)) (ia+k) ib),out++a.extract ia (ia+k),ia+k,ib,mg,k,bc))
  else if ia+k==a.size then pure (.done (some (jy a b (out++a.extract ia (ia+k)) (ia+k) ib),out++a.extract ia (ia+k),ia+k,ib,mg,k,bc))
  else SA a b (out++a.extract ia (ia+k)) (ia+k) ib mg k bc
 else SA a b out ia ib mg k bc
def WB(a b:Array Keyed)(t:HY (Nat×Nat×Nat)):rf (ForInStep (HY (Nat×Nat×Nat))):=
 if t.2.2.2.2.1 > 1 then SC a b t.2.1 t.2.2.1 t.2.2.2.1 (t.2.2.2.2.1-1) t.2.2.2.2.2.1 t.2.2.2.2.2.2 else SC a b t.2.1 t.2.2.1 t.2.2.2.1 t.2.2.2.2.1 t.2.2.2.2.2.1 t.2.2.2.2.2.2
theorem vz(a b:Array Keyed):pU a b=(do
 liftM (rule "list.sort.merge-lo")
 let x <- elem' b 0
 if 1==b.size then pure (jy a b #[x] 0 1) else if 0+1==a.size then pure (tP a b #[x] 0 1) else QE (a.size+b.size) (WA a b) (WB a b) #[x] 0 1):=by kernel_rfl
def PI(a b out:Array Keyed)(ia ib:Nat):Prop:=out.toList.Perm (a.toList.take ia++b.toList.take ib)
theorem vA{l:List Keyed}{i:Nat}(h:i<l.length):l.take (i+1)=l.take i++[l[i]]:=by rw[gI,bT h];rfl
theorem PI.rh{a b out:Array Keyed}{ia ib:Nat}(h:PI a b out ia ib)(hi:ia<a.size):PI a b (out.push a[ia]) (ia+1) ib:=by
 unfold PI at h |-;rw[mv,vA (by simpa using hi),cJ];refine(h.append_right _).trans ?_;rw[cJ];refine nN _ ?_;have:a.toList[ia]'(by simpa using hi)=a[ia]:=by simp
 rw[this];exact i6
theorem PI.rj{a b out:Array Keyed}{ia ib:Nat}(h:PI a b out ia ib)(hi:ib<b.size):PI a b (out.push b[ib]) ia (ib+1):=by
 unfold PI at h |-;rw[mv,vA (by simpa using hi),<-cJ];have:b.toList[ib]'(by simpa using hi)=b[ib]:=by simp
 rw[this];exact h.append_right _
theorem dD{a:Array Keyed}{i j:Nat}:(a.extract i j).toList=(a.toList.drop i).take (j-i):=by
 rw[wR,List.extract_eq_take_drop]
theorem PI.AV{a b out:Array Keyed}{ia ib:Nat}(h:PI a b out ia ib)(k:Nat):PI a b (out++a.extract ia (ia+k)) (ia+k) ib:=by
 unfold PI at h |-;rw[et,dD,Nat.add_sub_cancel_left,List.take_add,cJ];refine(h.append_right _).trans ?_;rw[cJ];exact nN _ i6
theorem PI.AW{a b out:Array Keyed}{ia ib:Nat}(h:PI a b out ia ib)(k:Nat):PI a b (out++b.extract ib (ib+k)) ia (ib+k):=by
 unfold PI at h |-;rw[et,dD,Nat.add_sub_cancel_left,List.take_add,<-cJ];exact h.append_right _
theorem PI.done{a b out:Array Keyed}{ia ib:Nat}(h:PI a b out ia ib):(out++a.extract ia a.size++b.extract ib b.size).Perm (a++b):=by
 rw[j4];unfold PI at h;rw[et,et,et,dD,dD];have e1:(a.toList.drop ia).take (a.size-ia)=a.toList.drop ia:=rN (by simp);have e2:(b.toList.drop ib).take (b.size-ib)=b.toList.drop ib:=rN (by simp);rw[e1,e2];refine((h.append_right _).append_right _).trans ?_;conv=>rhs;rw[<-mm ia a.toList,<-mm ib b.toList]
 rw[cJ,cJ,cJ];refine nN _ ?_;rw[<-cJ,<-cJ];exact wI _ i6
theorem PI.last{a b out:Array Keyed}{ia ib:Nat}(h:PI a b out ia ib):(out++b.extract ib b.size++a.extract ia a.size).Perm (a++b):=by
 refine Array.Perm.trans ?_ h.done;rw[j4];rw[et,et,et,et,cJ,cJ];exact nN _ i6
section
variable {prog:Program} {w:World} {A:Around} {E:Value->Shared->Prop} {s:Shared} {κ:SortKind} {a₀:Array Keyed} {pd:Array (Nat×Nat×Nat)} {ar:Array Keyed} {a b out:Array Keyed} {ia ib mg ac bc n:Nat} {st:SortSt}
def JL(a b:Array Keyed)(n:Nat)(out:Array Keyed)(ia ib:Nat):Prop:=PI a b out ia ib/\ia+1<a.size/\ib<b.size/\n<=ia+ib
abbrev GL{ρ:Type}(κ:SortKind)(ar:Array Keyed)(pd:Array (Nat×Nat×Nat))(a b:Array Keyed)(n m:Nat):ForInStep (HY ρ)->SortSt->Prop:=GP κ ar pd (fun x=>x.Perm (a++b)) (fun t=>JL a b n t.1 t.2.1 t.2.2.1) fun t=>JL a b m t.1 t.2.1 t.2.2.1
theorem zm(hB:SM κ ar pd st)(h:JL a b n out ia ib):wpS (model prog w) A E s (Sz a b out ia ib mg ac bc) (GL κ ar pd a b n n) st:=by
 obtain⟨p,la,lb,li⟩:=h;refine aA (aZ (cM a ia (by lia)) ?_);have p:=p.rh (show ia<a.size by lia);refine iu hB (fun _=>p.last) fun f=>?_;have g:=mx f;have j:JL a b n (out.push a[ia]) (ia+1) ib:=⟨p,by lia,lb,by lia⟩
 exact⟨j,j⟩
theorem zn(hC:jx prog w A s κ a₀)(ha:∀x∈a.toList,x∈a₀.toList)(hb:∀x∈b.toList,x∈a₀.toList)(hB:SM κ ar pd st)(h:JL a b n out ia ib):wpS (model prog w) A E s (SA a b out ia ib mg ac bc) (GL κ ar pd a b n n) st:=by
 obtain⟨p,la,lb,li⟩:=h;refine aA (aZ (cM b ib lb) ?_);have p:=p.rj lb;split
 .exact eS hB p.done
 next f=>
 have g:ib+1≠b.size:=by simpa using f
 refine aA (aZ (cM a ia (by lia)) ?_);refine aA (fh hC hB.kind (ha _ (by simp)) hb (by lia) (by lia) fun k hk=>?_);dsimp only;split
 .split
  .exact eS hB (p.AW k).done
  next f=>
  have g:ib+1+k≠b.size:=by simpa using f
  exact zm hB ⟨p.AW k,la,by lia,by lia⟩
 .exact zm hB ⟨p,la,by lia,by lia⟩
theorem FB(hC:jx prog w A s κ a₀)(ha:∀x∈a.toList,x∈a₀.toList)(hb:∀x∈b.toList,x∈a₀.toList)(hB:SM κ ar pd st)(h:JL a b n out ia ib):wpS (model prog w) A E s (SC a b out ia ib mg ac bc) (GL κ ar pd a b n n) st:=by
 obtain⟨p,la,lb,li⟩:=h;refine aA (dL ?_);refine aA (aZ (cM b ib lb) ?_);have me:SM κ ar pd (SortSt.mk' (kindOf st) (arrOf st) (pendingOf st) mg (failedOf st)):=⟨hB.arr,hB.kind,hB.failed,hB.pend⟩
 refine aA (fh hC me.kind (hb _ (by simp)) ha (by lia) (by lia) fun k hk=>?_);dsimp only;split
 .split
  .exact eS me (p.AV k).last
  next f=>
  split
  .exact eS me (p.AV k).done
  next f'=>
  have g:ia+k+1≠a.size:=by simpa using f
  have g':ia+k≠a.size:=by simpa using f'
  exact zn hC ha hb me ⟨p.AV k,by lia,lb,by lia⟩
 .exact zn hC ha hb me ⟨p,la,lb,li⟩
theorem FE{k:Nat}(hC:jx prog w A s κ a₀)(ha:∀x∈a.toList,x∈a₀.toList)(hb:∀x∈b.toList,x∈a₀.toList)(hB:SM κ ar pd st)(h:JL a b (n+k) out ia ib){q:Nat×Nat}:wpS (model prog w) A E s (WA a b mg (none,out,ia,ib,q)) (GL κ ar pd a b (n+1) (n+(k+1))) st:=by
 obtain⟨p,la,lb,li⟩:=h;refine aA (aZ (cM b ib lb) (aA (aZ (cM a ia (by lia)) (aA (lV hC hB.kind (hb _ (by simp)) (ha _ (by simp)) fun w=>?_)))));cases w
 .refine aA (aZ (cM a ia (by lia)) ?_);have p:=p.rh (show ia<a.size by lia);refine iu hB (fun _=>p.last) fun f=>?_;have g:=mx f;exact⟨⟨p,by dsimp only;lia,lb,by dsimp only;lia⟩,p,by dsimp only;lia,lb,by dsimp only;lia⟩
 .refine aA (aZ (cM b ib lb) ?_);have p:=p.rj lb;refine iu hB (fun _=>p.done) fun f=>?_;have g:=mx f;exact⟨⟨p,la,by dsimp only at g |-;lia,by dsimp only;lia⟩,p,la,by dsimp only at g |-;lia,by dsimp only;lia⟩
theorem vB{Q:Array Keyed->SortSt->Prop}(hC:jx prog w A s κ a₀)(hB:SM κ ar pd st)(ha:∀x∈a.toList,x∈a₀.toList)(hb:∀x∈b.toList,x∈a₀.toList)(a1:1<=a.size)(b1:1<=b.size)(h:∀out aw,out.Perm (a++b)->SM κ ar pd aw->Q out aw):wpS (model prog w) A E s (pU a b) Q st:=by
 rw[vz];refine aA (gY (dJ ⟨rfl,?_⟩));refine aA (aZ (cM b 0 (by lia)) ?_);have p0:PI a b #[b[0]] 0 1:=by
  have:PI a b #[] 0 0:=by unfold PI;simp
  exact this.rj (by lia)
 split
 .exact aD (h _ _ p0.done hB)
 next f=>
 split
 .exact aD (h _ _ p0.last hB)
 next f'=>
 have g:1≠b.size:=by simpa using f
 have g':0+1≠a.size:=by simpa using f'
 refine zk (J:=JL a b) hB ⟨p0,by lia,by lia,by lia⟩ (fun i k x y z h=>⟨h.1,h.2.1,h.2.2.1,by have:=h.2.2.2;lia⟩) (fun x y z h=>by have:=h.2;lia) (by lia) (fun mg n k x y z p st m j=>FE hC ha hb m j) (fun n x y z p st m j=>?_) h;unfold WB;split <;> exact FB hC ha hb m j
end
abbrev jz(a b out:Array Keyed)(na nb:Nat):=a.extract 0 na++b.extract 0 nb++out.reverse
abbrev oC(a b out:Array Keyed)(na nb:Nat):=b.extract 0 nb++a.extract 0 na++out.reverse
abbrev HZ ρ:=n_×Nat×Nat×Array Keyed×ρ
def WC(a b:Array Keyed)(mg:Nat)(t:HZ (Nat×Nat)):rf (ForInStep (HZ (Nat×Nat))):=do
 let x <- elem' b (t.2.2.1-1)
 let y <- elem' a (t.2.1-1)
 let some w <- lt' x y|pure (.done (some (jz a b t.2.2.2.1 t.2.1 t.2.2.1),t.2.1,t.2.2.1,t.2.2.2.1,t.2.2.2.2.1,t.2.2.2.2.2))
 if w then do
  let x <- elem' a (t.2.1-1)
  vy (t.2.1-1==0) (t.2.2.2.2.1+1>=mg) (jz a b (t.2.2.2.1.push x) (t.2.1-1) t.2.2.1) (t.2.1-1,t.2.2.1,t.2.2.2.1.push x,t.2.2.2.2.1+1,0)
 else do
  let x <- elem' b (t.2.2.1-1)
  vy (t.2.2.1-1==1) (t.2.2.2.2.2+1>=mg) (oC a b (t.2.2.2.1.push x) t.2.1 (t.2.2.1-1)) (t.2.1,t.2.2.1-1,t.2.2.2.1.push x,0,t.2.2.2.2.2+1)
def SE(a b:Array Keyed)(na nb:Nat)(out:Array Keyed)(mg ac bc:Nat):rf (ForInStep (HZ (Nat×Nat×Nat))):=do
 let x <- elem' a (na-1)
 vy (na-1==0) ((ac<7&&bc<7)=true) (jz a b (out.push x) (na-1) nb) (na-1,nb,out.push x,mg,ac,bc)
def SF(a b:Array Keyed)(na nb:Nat)(out:Array Keyed)(mg ac bc:Nat):rf (ForInStep (HZ (Nat×Nat×Nat))):=do
 let x <- elem' b (nb-1)
 if nb-1==1 then pure (.done (some (oC a b (out.push x) na (nb-1)),na,nb-1,out.push x,mg,ac,bc))
 else do
  let y <- elem' a (na-1)
  let some k <- gQ true y b 0 (nb-1) (nb-1-1)|pure (.done (some (jz a b (out.push x) na (nb-1)),na,nb-1,out.push x,mg,ac,bc))
  if nb-1-k > 0 then
   if k==1 then pure (.done (some (oC a b (out.push x++(b.extract k (nb-1)).reverse) na k),na,k,out.push x++(b.extract k (nb-1)).reverse,mg,ac,nb-1-k))
   else if k==0 then pure (.done (some (jz a b (out.push x++(b.extract k (nb-1)).reverse) na k),na,k,out.push x++(b.extract k (nb-1)).reverse,mg,ac,nb-1-k))
   else SE a b na k (out.push x++(b.extract k (nb-1)).reverse) mg ac (nb-1-k)
  else SE a b na (nb-1) (out.push x) mg ac (nb-1-k)
def SI(a b:Array Keyed)(na nb:Nat)(out:Array Keyed)(mg ac bc:Nat):rf (ForInStep (HZ (Nat×Nat×Nat))):=do
 g_ mg
 let y <- elem' b (nb-1)
 let some k <- gQ false y a 0 na (na-1)|pure (.done (some (jz a b out na nb),na,nb,out,mg,ac,bc))
 if na-k > 0 then
  if k==0 then pure (.done (some (jz a b (out++(a.extract k na).reverse) k nb),k,nb,out++(a.extract k na).reverse,mg,na-k,bc))
  else SF a b k nb (out++(a.extract k na).reverse) mg (na-k) bc
 else SF a b na nb out mg (na-k) bc
def WD(a b:Array Keyed)(t:HZ (Nat×Nat×Nat)):rf (ForInStep (HZ (Nat×Nat×Nat))):=
 if t.2.2.2.2.1 > 1 then SI a b t.2.1 t.2.2.1 t.2.2.2.1 (t.2.2.2.2.1-1) t.2.2.2.2.2.1 t.2.2.2.2.2.2 else SI a b t.2.1 t.2.2.1 t.2.2.2.1 t.2.2.2.2.1 t.2.2.2.2.2.1 t.2.2.2.2.2.2
theorem vC(a b:Array Keyed):pV a b=(do
 liftM (rule "list.sort.merge-hi")
 let x <- elem' a (a.size-1)
 if a.size-1==0 then pure (jz a b #[x] (a.size-1) b.size) else if b.size==1 then pure (oC a b #[x] (a.size-1) b.size) else QE (a.size+b.size) (WC a b) (WD a b) (a.size-1) b.size #[x]):=by kernel_rfl
def PH(a b out:Array Keyed)(na nb:Nat):Prop:=out.toList.Perm (a.toList.drop na++b.toList.drop nb)
theorem PH.rh{a b out:Array Keyed}{na nb:Nat}(h:PH a b out na nb)(h1:1<=na)(hi:na-1<a.size):PH a b (out.push a[na-1]) (na-1) nb:=by
 unfold PH at h |-;have e:a.toList.drop (na-1)=a[na-1]::a.toList.drop na:=by
  have:=rL (l:=a.toList) (i:=na-1) (by simpa using hi);rw[this,Nat.sub_add_cancel h1];simp
 rw[mv,e];refine(h.append_right _).trans ?_;exact i6
theorem PH.rj{a b out:Array Keyed}{na nb:Nat}(h:PH a b out na nb)(h1:1<=nb)(hi:nb-1<b.size):PH a b (out.push b[nb-1]) na (nb-1):=by
 unfold PH at h |-;have e:b.toList.drop (nb-1)=b[nb-1]::b.toList.drop nb:=by
  have:=rL (l:=b.toList) (i:=nb-1) (by simpa using hi);rw[this,Nat.sub_add_cancel h1];simp
 rw[mv,e];refine(h.append_right _).trans ?_;rw[cJ];exact nN _ i6
theorem lW{l:List Keyed}{i j:Nat}(h:i<=j):l.drop i=(l.drop i).take (j-i)++l.drop j:=by
 have:=(mm (j-i) (l.drop i)).symm;rw[List.drop_drop,show i+(j-i)=j by lia] at this;exact this
theorem PH.AV{a b out:Array Keyed}{na nb:Nat}(h:PH a b out na nb){k:Nat}(hk:k<=na):PH a b (out++(a.extract k na).reverse) k nb:=by
 unfold PH at h |-;rw[et,wQ,dD];conv=>rhs;rw[lW hk]
 refine((h.append_left _).trans ?_ |> fun z=>(List.Perm.trans i6 ((r9 _).append_right _)).trans z);rw[cJ]
theorem PH.AW{a b out:Array Keyed}{na nb:Nat}(h:PH a b out na nb){k:Nat}(hk:k<=nb):PH a b (out++(b.extract k nb).reverse) na k:=by
 unfold PH at h |-;rw[et,wQ,dD];conv=>rhs;rw[lW hk]
 refine(h.append_right _).trans ?_;rw[cJ];refine nN _ ?_;exact i6.trans ((r9 _).append_right _)
theorem Nn{a:Array Keyed}{j:Nat}:(a.extract 0 j).toList=a.toList.take j:=by rw[dD,List.drop_zero,Nat.sub_zero]
theorem PH.done{a b out:Array Keyed}{na nb:Nat}(h:PH a b out na nb):(a.extract 0 na++b.extract 0 nb++out.reverse).Perm (a++b):=by
 rw[j4];unfold PH at h;rw[et,et,et,wQ,Nn,Nn];conv=>rhs;rw[<-mm na a.toList,<-mm nb b.toList]
 refine(nN _ ((r9 _).trans h)).trans ?_;rw[cJ,cJ];refine nN _ ?_;rw[<-cJ,<-cJ];exact wI _ i6
theorem PH.first{a b out:Array Keyed}{na nb:Nat}(h:PH a b out na nb):(b.extract 0 nb++a.extract 0 na++out.reverse).Perm (a++b):=by
 refine Array.Perm.trans ?_ h.done;rw[j4];rw[et,et,et,et];exact wI _ i6
section
variable {prog:Program} {w:World} {A:Around} {E:Value->Shared->Prop} {s:Shared} {κ:SortKind} {a₀:Array Keyed} {pd:Array (Nat×Nat×Nat)} {ar:Array Keyed} {a b out:Array Keyed} {na nb mg ac bc n:Nat} {st:SortSt}
def JH(a b:Array Keyed)(n na nb:Nat)(out:Array Keyed):Prop:=PH a b out na nb/\1<=na/\2<=nb/\na<=a.size/\nb<=b.size/\n+na+nb<=a.size+b.size
abbrev GH{ρ:Type}(κ:SortKind)(ar:Array Keyed)(pd:Array (Nat×Nat×Nat))(a b:Array Keyed)(n m:Nat):ForInStep (HZ ρ)->SortSt->Prop:=GP κ ar pd (fun x=>x.Perm (a++b)) (fun t=>JH a b n t.1 t.2.1 t.2.2.1) fun t=>JH a b m t.1 t.2.1 t.2.2.1
theorem zo(hB:SM κ ar pd st)(p:PH a b out na nb)(la:1<=na)(lb:2<=nb)(ma:na<=a.size)(mb:nb<=b.size)(li:n+na+nb<=a.size+b.size+1):wpS (model prog w) A E s (SE a b na nb out mg ac bc) (GH κ ar pd a b n n) st:=by
 refine aA (aZ (cM a (na-1) (by lia)) ?_);have p:=p.rh la (show na-1<a.size by lia);refine iu hB (fun _=>p.done) fun f=>?_;have g:=mx f;have j:JH a b n (na-1) nb (out.push a[na-1]):=⟨p,by lia,lb,by lia,mb,by lia⟩
 exact⟨j,j⟩
theorem zq(hC:jx prog w A s κ a₀)(ha:∀x∈a.toList,x∈a₀.toList)(hb:∀x∈b.toList,x∈a₀.toList)(hB:SM κ ar pd st)(h:JH a b n na nb out):wpS (model prog w) A E s (SF a b na nb out mg ac bc) (GH κ ar pd a b n n) st:=by
 obtain⟨p,la,lb,ma,mb,li⟩:=h;refine aA (aZ (cM b (nb-1) (by lia)) ?_);have p:=p.rj (show 1<=nb by lia) (show nb-1<b.size by lia);split
 .exact eS hB p.first
 next f=>
 have g:nb-1≠1:=by simpa using f
 refine aA (aZ (cM a (na-1) (by lia)) ?_);refine aA (fh hC hB.kind (ha _ (by simp)) hb (by lia) (by lia) fun k hk=>?_);dsimp only;split
 .split
  .exact eS hB (p.AW hk).first
  next f=>
  split
  .exact eS hB (p.AW hk).done
  next f'=>
  have g:k≠1:=by simpa using f
  have g':k≠0:=by simpa using f'
  exact zo hB (p.AW hk) la (by lia) ma (by lia) (by lia)
 .exact zo hB p la (by lia) ma (by lia) (by lia)
theorem FG(hC:jx prog w A s κ a₀)(ha:∀x∈a.toList,x∈a₀.toList)(hb:∀x∈b.toList,x∈a₀.toList)(hB:SM κ ar pd st)(h:JH a b n na nb out):wpS (model prog w) A E s (SI a b na nb out mg ac bc) (GH κ ar pd a b n n) st:=by
 obtain⟨p,la,lb,ma,mb,li⟩:=h;refine aA (dL ?_);refine aA (aZ (cM b (nb-1) (by lia)) ?_);have me:SM κ ar pd (SortSt.mk' (kindOf st) (arrOf st) (pendingOf st) mg (failedOf st)):=⟨hB.arr,hB.kind,hB.failed,hB.pend⟩
 refine aA (fh hC me.kind (hb _ (by simp)) ha (by lia) (by lia) fun k hk=>?_);dsimp only;split
 .split
  .exact eS me (p.AV hk).done
  next f=>
  have g:k≠0:=by simpa using f
  exact zq hC ha hb me ⟨p.AV hk,by lia,lb,by lia,mb,by lia⟩
 .exact zq hC ha hb me ⟨p,la,lb,ma,mb,li⟩
theorem FH{k:Nat}(hC:jx prog w A s κ a₀)(ha:∀x∈a.toList,x∈a₀.toList)(hb:∀x∈b.toList,x∈a₀.toList)(hB:SM κ ar pd st)(h:JH a b (n+k) na nb out){q:Nat×Nat}:wpS (model prog w) A E s (WC a b mg (none,na,nb,out,q)) (GH κ ar pd a b (n+1) (n+(k+1))) st:=by
 obtain⟨p,la,lb,ma,mb,li⟩:=h;refine aA (aZ (cM b (nb-1) (by lia)) (aA (aZ (cM a (na-1) (by lia)) (aA (lV hC hB.kind (hb _ (by simp)) (ha _ (by simp)) fun w=>?_)))));cases w
 .refine aA (aZ (cM b (nb-1) (by lia)) ?_);have p:=p.rj (show 1<=nb by lia) (show nb-1<b.size by lia);refine iu hB (fun _=>p.first) fun f=>?_;have g:nb-1≠1:=mx f;have j:JH a b (n+(k+1)) na (nb-1) (out.push b[nb-1]):=⟨p,la,by lia,ma,by lia,by lia⟩
  exact⟨⟨p,la,j.2.2.1,ma,j.2.2.2.2.1,by have:=j.2.2.2.2.2;dsimp only;lia⟩,j⟩
 .refine aA (aZ (cM a (na-1) (by lia)) ?_);have p:=p.rh la (show na-1<a.size by lia);refine iu hB (fun _=>p.done) fun f=>?_;have g:na-1≠0:=mx f;have j:JH a b (n+(k+1)) (na-1) nb (out.push a[na-1]):=⟨p,by lia,lb,by lia,mb,by lia⟩
  exact⟨⟨p,j.2.1,lb,j.2.2.2.1,mb,by have:=j.2.2.2.2.2;dsimp only;lia⟩,j⟩
theorem vD{Q:Array Keyed->SortSt->Prop}(hC:jx prog w A s κ a₀)(hB:SM κ ar pd st)(ha:∀x∈a.toList,x∈a₀.toList)(hb:∀x∈b.toList,x∈a₀.toList)(a1:1<=a.size)(b1:1<=b.size)(h:∀out aw,out.Perm (a++b)->SM κ ar pd aw->Q out aw):wpS (model prog w) A E s (pV a b) Q st:=by
 rw[vC];refine aA (gY (dJ ⟨rfl,?_⟩));refine aA (aZ (cM a (a.size-1) (by lia)) ?_);have p0:PH a b #[a[a.size-1]] (a.size-1) b.size:=by
  have:PH a b #[] a.size b.size:=by unfold PH;simp
  exact this.rh a1 (by lia)
 split
 .exact aD (h _ _ p0.done hB)
 next f=>
 split
 .exact aD (h _ _ p0.first hB)
 next f'=>
 have g:a.size-1≠0:=by simpa using f
 have g':b.size≠1:=by simpa using f'
 refine zk (J:=JH a b) hB ⟨p0,by lia,by lia,by lia,by lia,by lia⟩ (fun i k x y z h=>⟨h.1,h.2.1,h.2.2.1,h.2.2.2.1,h.2.2.2.2.1,by have:=h.2.2.2.2.2;lia⟩) (fun x y z h=>by have:=h.2;lia) (by lia) (fun mg n k x y z p st m j=>FH hC ha hb m j) (fun n x y z p st m j=>?_) h;unfold WD;split <;> exact FG hC ha hb m j
end
section
variable {prog:Program} {w:World} {A:Around} {E:Value->Shared->Prop} {s:Shared} {κ:SortKind} {a₀:Array Keyed} {pd:Array (Nat×Nat×Nat)}
theorem yd{st:SortSt}{lo bV:Nat}{Q:Option Nat->SortSt->Prop}(hC:jx prog w A s κ a₀)(hn:lo+bV<=a₀.size)(h1:1<=bV)(hB:SQ κ a₀ pd st)(h:∀n aw,SQ κ a₀ pd aw->1<=n->n<=bV->Q (some n) aw):wpS (model prog w) A E s (countRun' lo bV) Q st:=by
 rw[countRun'_eq];refine aA (dk (di (I:=fun i c aw=>SQ κ a₀ pd aw/\∃m,c=(none,m)/\m=i) (Q:=fun c aw=>SQ κ a₀ pd aw/\∃m,c=(none,m)/\1<=m/\m<=bV) ?_ ?_ ⟨hB,_,rfl,rfl⟩) ?_)
 .rintro i c Fz HV vd ⟨C4,m,rfl,rfl⟩;dsimp only;refine aA (dC hC C4 (by lia) (by lia) fun b1=>?_);cases b1
  .exact aD ⟨C4,_,rfl,rfl⟩
  .exact aD ⟨C4,_,rfl,by lia,by lia⟩
 .rintro c Fz ⟨C4,m,rfl,rfl⟩;exact⟨C4,_,rfl,by lia,by lia⟩
 .rintro c Fz ⟨C4,n,rfl,n1,n2⟩;dsimp only;by_cases e1:(n==bV)=true
  .rw[ao e1];exact aD (h n Fz C4 n1 n2)
  rw[aj e1];have g1:¬ (n=bV):=by simpa using e1
  by_cases e2:n > 1
  .rw[ao e2];refine aA (dC hC C4 (by lia) (by lia) fun b2=>?_);cases b2
   .dsimp only;rw[aj (by decide)];refine aA (eR C4 fun md me=>?_);refine aA (gY (dJ ⟨rfl,?_⟩));refine aA (dk (di (I:=fun i c aw=>SQ κ a₀ pd aw/\∃m q,c=(none,m,q)/\m=i) (Q:=fun c aw=>SQ κ a₀ pd aw/\∃m q,c=(none,m,q)/\1<=m/\m<=bV) ?_ ?_ ⟨me,_,_,rfl,rfl⟩) ?_)
    .rintro i c iW HV vd ⟨fX,m,q,rfl,rfl⟩;dsimp only;refine aA (dC hC fX (by lia) (by lia) fun b3=>?_);cases b3
     .dsimp only;rw[aj (by decide)];refine aA (dC hC fX (by lia) (by lia) fun b4=>?_);cases b4
      .exact aD ⟨fX,_,_,rfl,rfl⟩
      .exact aD ⟨fX,_,_,rfl,by lia,by lia⟩
     .dsimp only;rw[ao rfl];split
      .exact aA (eR fX fun n9 JB=>aD ⟨JB,_,_,rfl,rfl⟩)
      .exact aD ⟨fX,_,_,rfl,rfl⟩
    .rintro c iW ⟨fX,m,q,rfl,rfl⟩;exact⟨fX,_,_,rfl,by lia,by lia⟩
    .rintro c iW ⟨fX,m,q,rfl,m1,m2⟩;dsimp only;split
     .refine aA (eR fX fun n9 JB=>?_);refine aA (eR JB fun uK JC=>?_);refine aA (dk (di (I:=fun i c aw=>SQ κ a₀ pd aw/\∃m,c=(none,m)/\m=i) (Q:=fun c aw=>SQ κ a₀ pd aw/\∃m,c=(none,m)/\1<=m/\m<=bV) ?_ ?_ ⟨JC,_,rfl,rfl⟩) ?_)
      .rintro i c ye HV vd ⟨k_,m,rfl,rfl⟩;dsimp only;refine aA (dC hC k_ (by lia) (by lia) fun b6=>?_);cases b6
       .exact aD ⟨k_,_,rfl,rfl⟩
       .exact aD ⟨k_,_,rfl,by lia,by lia⟩
      .rintro c ye ⟨k_,m,rfl,rfl⟩;exact⟨k_,_,rfl,by lia,by lia⟩
      .rintro c ye ⟨k_,m,rfl,h1,h2⟩;exact aD (h m ye k_ h1 h2)
     .refine aA (eR fX fun uK JC=>?_);refine aA (dk (di (I:=fun i c aw=>SQ κ a₀ pd aw/\∃m,c=(none,m)/\m=i) (Q:=fun c aw=>SQ κ a₀ pd aw/\∃m,c=(none,m)/\1<=m/\m<=bV) ?_ ?_ ⟨JC,_,rfl,rfl⟩) ?_)
      .rintro i c ye HV vd ⟨k_,m,rfl,rfl⟩;dsimp only;refine aA (dC hC k_ (by lia) (by lia) fun b6=>?_);cases b6
       .exact aD ⟨k_,_,rfl,rfl⟩
       .exact aD ⟨k_,_,rfl,by lia,by lia⟩
      .rintro c ye ⟨k_,m,rfl,rfl⟩;exact⟨k_,_,rfl,by lia,by lia⟩
      .rintro c ye ⟨k_,m,rfl,h1,h2⟩;exact aD (h m ye k_ h1 h2)
   .exact aD (h n Fz C4 n1 n2)
  .rw[aj e2];have me:=C4;refine aA (gY (dJ ⟨rfl,?_⟩));refine aA (dk (di (I:=fun i c aw=>SQ κ a₀ pd aw/\∃m q,c=(none,m,q)/\m=i) (Q:=fun c aw=>SQ κ a₀ pd aw/\∃m q,c=(none,m,q)/\1<=m/\m<=bV) ?_ ?_ ⟨me,_,_,rfl,rfl⟩) ?_)
   .rintro i c iW HV vd ⟨fX,m,q,rfl,rfl⟩;dsimp only;refine aA (dC hC fX (by lia) (by lia) fun b3=>?_);cases b3
    .dsimp only;rw[aj (by decide)];refine aA (dC hC fX (by lia) (by lia) fun b4=>?_);cases b4
     .exact aD ⟨fX,_,_,rfl,rfl⟩
     .exact aD ⟨fX,_,_,rfl,by lia,by lia⟩
    .dsimp only;rw[ao rfl];split
     .exact aA (eR fX fun n9 JB=>aD ⟨JB,_,_,rfl,rfl⟩)
     .exact aD ⟨fX,_,_,rfl,rfl⟩
   .rintro c iW ⟨fX,m,q,rfl,rfl⟩;exact⟨fX,_,_,rfl,by lia,by lia⟩
   .rintro c iW ⟨fX,m,q,rfl,m1,m2⟩;dsimp only;split
    .refine aA (eR fX fun n9 JB=>?_);refine aA (eR JB fun uK JC=>?_);refine aA (dk (di (I:=fun i c aw=>SQ κ a₀ pd aw/\∃m,c=(none,m)/\m=i) (Q:=fun c aw=>SQ κ a₀ pd aw/\∃m,c=(none,m)/\1<=m/\m<=bV) ?_ ?_ ⟨JC,_,rfl,rfl⟩) ?_)
     .rintro i c ye HV vd ⟨k_,m,rfl,rfl⟩;dsimp only;refine aA (dC hC k_ (by lia) (by lia) fun b6=>?_);cases b6
      .exact aD ⟨k_,_,rfl,rfl⟩
      .exact aD ⟨k_,_,rfl,by lia,by lia⟩
     .rintro c ye ⟨k_,m,rfl,rfl⟩;exact⟨k_,_,rfl,by lia,by lia⟩
     .rintro c ye ⟨k_,m,rfl,h1,h2⟩;exact aD (h m ye k_ h1 h2)
    .refine aA (eR fX fun uK JC=>?_);refine aA (dk (di (I:=fun i c aw=>SQ κ a₀ pd aw/\∃m,c=(none,m)/\m=i) (Q:=fun c aw=>SQ κ a₀ pd aw/\∃m,c=(none,m)/\1<=m/\m<=bV) ?_ ?_ ⟨JC,_,rfl,rfl⟩) ?_)
     .rintro i c ye HV vd ⟨k_,m,rfl,rfl⟩;dsimp only;refine aA (dC hC k_ (by lia) (by lia) fun b6=>?_);cases b6
      .exact aD ⟨k_,_,rfl,rfl⟩
      .exact aD ⟨k_,_,rfl,by lia,by lia⟩
     .rintro c ye ⟨k_,m,rfl,rfl⟩;exact⟨k_,_,rfl,by lia,by lia⟩
     .rintro c ye ⟨k_,m,rfl,h1,h2⟩;exact aD (h m ye k_ h1 h2)
end
abbrev LI:=Nat×Nat×Nat
def iw:List LI->Nat->Nat->Prop
 |[],s,e=>s=e
 |r::rs,s,e=>r.1=s/\1<=r.2.1/\iw rs (s+r.2.1) e
theorem iw.le:∀ {l:List LI} {s e:Nat},iw l s e->s<=e
 |[],_,_,h=>pr h
 |r::rs,s,e,⟨_,h2,h3⟩=>by have:=h3.le;lia
theorem iw.two:∀ {l:List LI} {s e i:Nat} {x y:LI},iw l s e->l[i]?=some x->l[i+1]?=some y->
  x.1+x.2.1=y.1/\y.1+y.2.1<=e/\1<=x.2.1/\1<=y.2.1/\∀p,iw ((l.set i (x.1,x.2.1+y.2.1,p)).eraseIdx (i+1)) s e
 |r::q::rs,s,e,0,x,y,⟨h1,h2,h3,h4,h5⟩,hx,hy=>by
  obtain rfl:=a_ hx;obtain rfl:=a_ hy;have:=h5.le;refine⟨by lia,by lia,h2,h4,fun p=>⟨h1,by show 1<=r.2.1+q.2.1;lia,?_⟩⟩;show iw rs (s+(r.2.1+q.2.1)) e;rw[<-Nat.add_assoc];exact h5
 |r::rs,s,e,i+1,x,y,⟨h1,h2,h3⟩,hx,hy=>by
  obtain⟨a1,a2,a3,a4,a5⟩:=iw.two (i:=i) h3 hx hy;exact⟨a1,a2,a3,a4,fun p=>⟨h1,h2,a5 p⟩⟩
theorem iw.push:∀ {l:List LI} {s e n p:Nat},iw l s e->1<=n->iw (l++[(e,n,p)]) s (e+n)
 |[],s,e,n,p,h,hn=>⟨h.symm,hn,by rw[h];rfl⟩
 |r::rs,s,e,n,p,⟨h1,h2,h3⟩,hn=>⟨h1,h2,iw.push h3 hn⟩
theorem iw.pw:∀ {l:List LI} {s e:Nat} (i p:Nat),iw l s e->iw (l.modify i fun r=>(r.1,r.2.1,p)) s e
 |[],s,e,i,p,h=>by cases i <;> exact h
 |r::rs,s,e,0,p,⟨h1,h2,h3⟩=>⟨h1,h2,h3⟩
 |r::rs,s,e,i+1,p,⟨h1,h2,h3⟩=>⟨h1,h2,iw.pw i p h3⟩
theorem FI{M:Model}{A:Around}{E:Value->Shared->Prop}{s:Shared}{σ:Type}{x:σ}{Q:PUnit->σ->Prop}{st:σ}(h:Q ⟨⟩ x):wpS M A E s (set x:StateT σ Sem PUnit) Q st:=by
 unfold wpS;rw[StateT.run_set];exact wpAny_pure ⟨rfl,h⟩
theorem vE(i:Nat):mergeAt' i=(do
 let s <- get
 let (some (sa,na,No),some (sb,nb,_)):=((pendingOf s)[i]?,(pendingOf s)[i+1]?)|unsupported "internal:list.sort.pending"
 set (setPending s (((pendingOf s).setIfInBounds i (sa,na+nb,No)).eraseIdxIfInBounds (i+1)))
 let some k <- gQ false (<-elem' (arrOf s) sb) (arrOf s) sa na 0|return false
 let (sa,na):=(sa+k,na-k)
 if na==0 then return true
 let some nb <- gQ true (<-elem' (arrOf s) (sa+na-1)) (arrOf s) sb nb (nb-1)|return false
 if nb==0 then return true
 let x:=(arrOf s).extract sa sb
 let y:=(arrOf s).extract sb (sb+nb)
 let merged <- if na<=nb then pU x y else pV x y
 modify fun s=>setArr s (merged.toList.zipIdx.foldl (fun a (p,j)=>a.setIfInBounds (sa+j) p) (arrOf s))
 return (failedOf (<-get)).isNone):=rfl
theorem pX{sa:Nat}:∀ (l:List Keyed) (k:Nat) (arr:Array Keyed),sa+k+l.length<=arr.size->
  ((l.zipIdx k).foldl (fun (a:Array Keyed) (x:Keyed×Nat)=>a.setIfInBounds (sa+x.2) x.1) arr).toList=arr.toList.take (sa+k)++l++arr.toList.drop (sa+k+l.length)
 |[],k,arr,_=>by simp
 |x::l,k,arr,h=>by
  rw[dv] at h;have hs:sa+k<arr.toList.length:=by rw[lx];lia
  rw[o9,ja,pX l (k+1) _ (by rw[Array.size_setIfInBounds];lia),BR];dsimp only;have e1:(arr.toList.set (sa+k) x).take (sa+(k+1))=arr.toList.take (sa+k)++[x]:=by
   rw[<-Nat.add_assoc,gI,mi hs,List.take_set_of_le (aI _)];rfl
  have e2:(arr.toList.set (sa+k) x).drop (sa+(k+1)+l.length)=arr.toList.drop (sa+k+(x::l).length):=by
   rw[List.drop_set_of_lt (by lia),dv];congr 1;lia
  rw[e1,e2,cJ,cJ,cJ];rfl
section
variable {prog:Program} {w:World} {A:Around} {E:Value->Shared->Prop} {s:Shared} {κ:SortKind} {a₀:Array Keyed}
def SR(κ:SortKind)(a₀:Array Keyed)(lo:Nat)(st:SortSt):Prop:=∃pd,SQ κ a₀ pd st/\iw pd.toList 0 lo/\lo<=a₀.size
theorem jA{st:SortSt}{i lo:Nat}{Q:Bool->SortSt->Prop}(hC:jx prog w A s κ a₀)(hB:SR κ a₀ lo st)(hi:i+1<(pendingOf st).size)(h:∀aw,SR κ a₀ lo aw->Q true aw):wpS (model prog w) A E s (mergeAt' i) Q st:=by
 obtain⟨pd,hq,hr,Qv⟩:=hB;rw[hq.pend] at hi;rw[vE];refine aA (dz ?_);have e1:pd[i]?=some pd[i]:=cM pd i (by lia);have e2:pd[i+1]?=some pd[i+1]:=cM pd (i+1) hi;obtain⟨a1,a2,a3,a4,a5⟩:=hr.two (i:=i) (x:=pd[i]) (y:=pd[i+1]) (by simpa using e1) (by simpa using e2);rw[hq.pend,e1,e2];revert a1 a2 a3 a4 a5;generalize pd[i]=x;generalize pd[i+1]=y;obtain⟨sa,na,pw⟩:=x;obtain⟨sb,nb,pw2⟩:=y;intro a1 a2 a3 a4 a5;dsimp only at a1 a2 a3 a4 a5 |-;obtain⟨FJ,Np⟩:∃FJ,FJ=(pd.setIfInBounds i (sa,na+nb,pw)).eraseIdxIfInBounds (i+1):=⟨_,rfl⟩
 have y3:iw FJ.toList 0 lo:=by
  rw[Np,Array.toList_eraseIdxIfInBounds,BR];exact a5 pw
 refine aA (FI ?_);rw[<-Np];have HK:SM κ (arrOf st) FJ (setPending st FJ):=⟨rfl,hq.kind,hq.failed,rfl⟩
 have iG:=hq.size;have wu:∀x∈(arrOf st).toList,x∈a₀.toList:=fun x hx=>(j4.mp hq.perm).mem_iff.mp hx;have dU:∀aw,SM κ (arrOf st) FJ aw->SR κ a₀ lo aw:=fun aw m=>⟨FJ,⟨by rw[m.arr];exact hq.perm,m.kind,m.failed,m.pend⟩,y3,Qv⟩
 refine aA (aZ (cM (arrOf st) sb (by lia)) ?_);refine aA (fh hC HK.kind (wu _ (by simp)) wu (by lia) (by lia) fun k hk=>?_);dsimp only;by_cases f1:(na-k==0)=true
 .rw[ao f1];exact aD (h _ (dU _ HK))
 rw[aj f1];have g1:¬ (na-k=0):=by simpa using f1
 refine aA (aZ (cM (arrOf st) (sa+k+(na-k)-1) (by lia)) ?_);refine aA (fh hC HK.kind (wu _ (by simp)) wu (by lia) (by lia) fun k2 QC=>?_);dsimp only;by_cases f2:(k2==0)=true
 .rw[ao f2];exact aD (h _ (dU _ HK))
 rw[aj f2];have g2:¬ (k2=0):=by simpa using f2
 have hx:∀x∈((arrOf st).extract (sa+k) sb).toList,x∈a₀.toList:=fun x hx=>wu x (by rw[dD] at hx;exact rR (rQ hx));have hy:∀x∈((arrOf st).extract sb (sb+k2)).toList,x∈a₀.toList:=fun x hx=>wu x (by rw[dD] at hx;exact rR (rQ hx));have sx:((arrOf st).extract (sa+k) sb).size=sb-(sa+k):=by rw[Array.size_extract];lia
 have sy:((arrOf st).extract sb (sb+k2)).size=k2:=by rw[Array.size_extract];lia
 have last:∀ (out:Array Keyed) (aw:SortSt),out.Perm ((arrOf st).extract (sa+k) sb++(arrOf st).extract sb (sb+k2))->SM κ (arrOf st) FJ aw->wpS (model prog w) A E s (do
   modify fun s=>setArr s (out.toList.zipIdx.foldl (fun a (p,j)=>a.setIfInBounds (sa+k+j) p) (arrOf s))
   return (failedOf (<-get)).isNone) Q aw:=by
  intro out aw hp m;refine aA (dL ?_);refine aA (dz (aD ?_));have WE:out.toList.length=sb-(sa+k)+k2:=by
   rw[lx,hp.size_eq,Array.size_append,sx,sy]
  have wl:=pX (sa:=sa+k) out.toList 0 (arrOf aw) (by rw[m.arr,WE];lia);have pm:(out.toList.zipIdx.foldl (fun a (p,j)=>a.setIfInBounds (sa+k+j) p) (arrOf aw)).Perm (arrOf st):=by
   rw[j4];refine(sq wl).trans ?_;rw[m.arr,WE,Nat.add_zero];have Lx:=j4.mp hp;rw[et,dD,dD] at Lx;refine((Lx.append_left _).append_right _).trans ?_;have e1:(arrOf st).toList.drop (sa+k)=((arrOf st).toList.drop (sa+k)).take (sb-(sa+k))++(arrOf st).toList.drop sb:=lW (by lia);have e2:(arrOf st).toList.drop sb=((arrOf st).toList.drop sb).take (sb+k2-sb)++(arrOf st).toList.drop (sb+k2):=lW (by lia);have e3:sa+k+(sb-(sa+k)+k2)=sb+k2:=by lia
   rw[e3];refine sq ?_;conv=>rhs;rw[<-mm (sa+k) (arrOf st).toList,e1,e2]
   simp only[cJ]
  have hf:(failedOf aw).isNone=true:=by rw[m.failed];rfl
  show Q (failedOf aw).isNone _;rw[hf];exact h _ ⟨FJ,⟨pm.trans hq.perm,m.kind,m.failed,m.pend⟩,y3,Qv⟩
 by_cases f3:na-k<=k2
 .rw[ao f3];exact aA (vB hC HK hx hy (by lia) (by lia) fun out aw hp m=>last out aw hp m)
 .rw[aj f3];exact aA (vD hC HK hx hy (by lia) (by lia) fun out aw hp m=>last out aw hp m)
theorem vF{c:Prop}[Decidable c]{x:Nat}:(if c then x-1 else x)<=x:=by split <;> lia
theorem SR.pw{lo:Nat}{st:SortSt}(h:SR κ a₀ lo st)(i p:Nat):SR κ a₀ lo (setPending st ((pendingOf st).modify i fun r=>(r.1,r.2.1,p))):=by
 obtain⟨pd,hq,hr,hl⟩:=h;refine⟨_,⟨hq.perm,hq.kind,hq.failed,rfl⟩,?_,hl⟩;show iw ((pendingOf st).modify i fun r=>(r.1,r.2.1,p)).toList 0 lo;rw[hq.pend,Array.toList_modify];exact hr.pw i p
theorem SR.push{lo n:Nat}{st:SortSt}(h:SR κ a₀ lo st)(h1:1<=n)(hn:lo+n<=a₀.size):SR κ a₀ (lo+n) (setPending st ((pendingOf st).push (lo,n,0))):=by
 obtain⟨pd,hq,hr,hl⟩:=h;refine⟨_,⟨hq.perm,hq.kind,hq.failed,rfl⟩,?_,hn⟩;show iw ((pendingOf st).push (lo,n,0)).toList 0 (lo+n);rw[hq.pend,mv];exact hr.push h1
theorem AX{st:SortSt}{Q:Unit->SortSt->Prop}(hC:jx prog w A s κ a₀)(hp:(arrOf st).Perm a₀)(hk:kindOf st=κ)(hf:failedOf st=none)(Sy:pendingOf st=#[])(h:∀aw,(arrOf aw).Perm a₀->failedOf aw=none->Q () aw):wpS (model prog w) A E s sortRuns' Q st:=by
 have h0:SR κ a₀ 0 st:=⟨#[],⟨hp,hk,hf,Sy⟩,rfl,ce _⟩
 have iG:(arrOf st).size=a₀.size:=hp.size_eq;rw[sortRuns'_eq];refine aA (dz ?_);dsimp only;rw[iG];refine aA (dk (di (I:=fun _ c aw=>∃lo,c=(none,lo)/\SR κ a₀ lo aw) (Q:=fun c aw=>∃lo,c=(none,lo)/\SR κ a₀ lo aw) ?_ (fun c aw hh=>hh) ⟨0,rfl,h0⟩) ?_)
 .rintro i c Fz _ _ ⟨lo,rfl,hR⟩;dsimp only;by_cases e1:lo>=a₀.size
  .rw[ao e1];exact aD ⟨lo,rfl,hR⟩
  rw[aj e1];have Qv:lo<a₀.size:=by lia
  obtain⟨pd,hq,hr,hl⟩:=hR;refine aA (yd hC (by lia) (by lia) hq fun n md HN n1 n2=>?_);dsimp only;by_cases hm:n<minRun' a₀.size a₀.size 0
  .rw[ao hm];refine aA (gY (dJ ⟨rfl,?_⟩));refine aA (C2 hC (by lia) HN fun iW Wc=>?_);simp only[pi,h9,dw];have EN:SR κ a₀ lo iW:=⟨pd,Wc,hr,hl⟩
   refine aA (dz ?_);cases hb:(pendingOf iW).back? with
   |none=>
    dsimp only;exact aA (dL (aD ⟨_,rfl,EN.push (by lia) (by lia)⟩))
   |some r=>
    obtain⟨s1,YU,YV⟩:=r;dsimp only;refine aA (dk (di (I:=fun _ c aw=>c=(none,())/\SR κ a₀ lo aw) (Q:=fun c aw=>c=(none,())/\SR κ a₀ lo aw) ?_ (fun c aw hh=>hh) ⟨rfl,EN⟩) ?_)
    .rintro x c n9 _ _ ⟨rfl,vG⟩;refine aA (dz ?_);by_cases hs:(pendingOf n9).size > 1
     .rw[ao hs,cM (pendingOf n9) ((pendingOf n9).size-2) (by lia)];generalize (pendingOf n9)[(pendingOf n9).size-2]=r4;obtain⟨_,_,Nq⟩:=r4;dsimp only;split
      .exact aD ⟨rfl,vG⟩
      .refine aA (jA hC vG (by lia) fun uK Nr=>?_);simp only[pi,h9,dw];exact aD ⟨rfl,Nr⟩
     .rw[aj hs];exact aD ⟨rfl,vG⟩
    .rintro c n9 ⟨rfl,vG⟩;dsimp only;exact aA (dL (aA (dL (aD ⟨_,rfl,(vG.pw _ _).push (by lia) (by lia)⟩))))
  .rw[aj hm];have EN:SR κ a₀ lo md:=⟨pd,HN,hr,hl⟩
   refine aA (dz ?_);cases hb:(pendingOf md).back? with
   |none=>
    dsimp only;exact aA (dL (aD ⟨_,rfl,EN.push (by lia) (by lia)⟩))
   |some r=>
    obtain⟨s1,YU,YV⟩:=r;dsimp only;refine aA (dk (di (I:=fun _ c aw=>c=(none,())/\SR κ a₀ lo aw) (Q:=fun c aw=>c=(none,())/\SR κ a₀ lo aw) ?_ (fun c aw hh=>hh) ⟨rfl,EN⟩) ?_)
    .rintro x c n9 _ _ ⟨rfl,vG⟩;refine aA (dz ?_);by_cases hs:(pendingOf n9).size > 1
     .rw[ao hs,cM (pendingOf n9) ((pendingOf n9).size-2) (by lia)];generalize (pendingOf n9)[(pendingOf n9).size-2]=r4;obtain⟨_,_,Nq⟩:=r4;dsimp only;split
      .exact aD ⟨rfl,vG⟩
      .refine aA (jA hC vG (by lia) fun uK Nr=>?_);simp only[pi,h9,dw];exact aD ⟨rfl,Nr⟩
     .rw[aj hs];exact aD ⟨rfl,vG⟩
    .rintro c n9 ⟨rfl,vG⟩;dsimp only;exact aA (dL (aA (dL (aD ⟨_,rfl,(vG.pw _ _).push (by lia) (by lia)⟩))))
 .rintro c Fz ⟨lo,rfl,hR⟩;dsimp only;refine aA (dk (di (I:=fun _ c aw=>c=(none,())/\SR κ a₀ lo aw) (Q:=fun c aw=>c=(none,())/\SR κ a₀ lo aw) ?_ (fun c aw hh=>hh) ⟨rfl,hR⟩) ?_)
  .rintro x c n9 _ _ ⟨rfl,vG⟩;refine aA (dz ?_);by_cases hs:(pendingOf n9).size<=1
   .rw[ao hs];exact aD ⟨rfl,vG⟩
   rw[aj hs];refine aA (jA hC vG ?_ fun uK Nr=>?_)
   .exact eA (Nat.succ_le_succ vF) (show (pendingOf n9).size-2+1<(pendingOf n9).size by lia)
   .simp only[pi,h9,dw];exact aD ⟨rfl,Nr⟩
  .rintro c n9 ⟨rfl,pd,hq,_⟩;exact aD (h _ hq.perm hq.failed)
end
end PyProof.Rows
namespace L2
open PySem PySem.Spec PyProof.Rows PySem.W
def iM(h:Heap)(vs:List Value):Prop:=∀v∈vs,∃a o n x t y u,v=Value.ref a/\h.get? a=some o/\o.cls=.type "tuple"/\o.data=.seq #[.int x t,.int y u] n
theorem iM.kQ{h:Heap}:∀ {vs:List Value},iM h vs->∃fs,KatTups h vs fs/\fs.length=vs.length/\∀v∈fs,∃n t,v=Value.int n t
 |[],_=>⟨[],trivial,rfl,fun v hv=>nomatch hv⟩
 |v::vs,hp=>by
  obtain⟨fs,k1,k2,k3⟩:=iM.kQ (vs:=vs) fun b hb=>hp b (bP _ hb);obtain⟨a,o,n,x,t,y,u,rfl,e,c,d⟩:=hp v cD;refine⟨.int x t::fs,KatTups.cons e c d rfl k1,by simp[k2],fun v hv=>?_⟩;rcases aS.mp hv with z|z
  .exact⟨x,t,z⟩
  .exact k3 v z
section
variable {prog:Program} {w:World} {A:Around} {E:Value->Shared->Prop} {s:Shared}
theorem AY{vs:List Value}(hp:iM s.heap vs):jx prog w A s (tuples' true) (vs.toArray.zip vs.toArray):=by
 have mem:∀x∈(vs.toArray.zip vs.toArray).toList,x.1∈vs:=by
  intro x hx;rw[Array.toList_zip] at hx;exact(my hx).1
 intro x y hx hy Q E' q;obtain⟨a,o,n,x1,t1,x2,t2,e1,eo,_,ed⟩:=hp x.1 (mem x hx);obtain⟨b,o',n',y1,u1,y2,u2,e2,YW,_,YX⟩:=hp y.1 (mem y hy);rw[e1,e2];refine kat_lt eo ed YW YX (kat_cons (xq ?_));by_cases h1:x1=y1
 .rw[eM.mpr h1];refine kat_yes (kat_cons (xq ?_));by_cases h2:x2=y2
  .rw[eM.mpr h2];exact kat_yes (kat_nil (q _))
  .rw[kD.mpr h2];exact kat_no (kat_one _ _ (lt_int (q _)))
 .rw[kD.mpr h1];exact kat_no (oneLt_int (q _))
theorem FK{vs:List Value}:((vs.toArray.zip vs.toArray).map (·.2)).toList=vs:=by
 rw[pf,Array.toList_zip];show (vs.zip vs).map (·.2)=vs;rw[<-List.unzip_snd,List.unzip_zip_right (aI _)]
theorem og{a:Addr}{vs:List Value}{n:Nat}{P:PySem.Fin->Shared->Prop}(ho:s.heap.get? a=some (seqObj "list" vs.toArray n))(hp:iM s.heap vs)(hz:vs.length<=4096)(h:∀ (out:Array Value),out.toList.Perm vs->P (.done (.ret .none)) { s with heap:=sortedHeap s.heap a vs out }):
  wpAny (model prog w) A (Builtin.«list.sort» ⟨[.ref a],[]⟩) P E s:=by
 rw[list_sort_plain];have ha:a<s.heap.objs.size:=bb ho;have QF:vs.toArray.size<=sizeLine:=by rw[bY,fw];lia
 refine ak (listItems_at ho rfl ?_);refine ak (kO ho rfl ?_ QF (ce _));obtain⟨e1,FM⟩:∃e1,(s.heap.update a (Obj.mapSeq fun _=>#[])).get? a=some (seqObj "list" #[] e1):=⟨_,ji ho (fun _=>#[])⟩
 refine ak (pC FM rfl ?_);refine ak (pj ?_ (by show vs.length<=_;rw[fw];lia));refine ak (sB ?_ (ce _));refine f9 ?_;have EO:(((s.heap.update a (Obj.mapSeq fun _=>#[])).push (seqObj "tuple" vs.toArray 0)).push (seqObj "list" #[] 0)).get? a=some (seqObj "list" #[] e1):=by
  rw[eB _ _ _ (by rw[eN,fv];exact aM (cz ha)),eB _ _ _ (by rw[fv];exact aM ha)];exact FM
 have LJ:iM (((s.heap.update a (Obj.mapSeq fun _=>#[])).push (seqObj "tuple" vs.toArray 0)).push (seqObj "list" #[] 0)) vs:=by
  intro v hv;obtain⟨b,o,n,x,t,y,u,ev,e,c,d⟩:=hp v hv;have hb:b<s.heap.objs.size:=bb e;have m9:b≠a:=by
   rintro rfl;rw[ho] at e;cases e;exact absurd (Value.type.inj c) (by decide)
  refine⟨b,o,n,x,t,y,u,ev,?_,c,d⟩;rw[eB _ _ _ (by rw[eN,fv];exact aM (cz hb)),eB _ _ _ (by rw[fv];exact aM hb),lz _ _ _ _ m9];exact e
 show wpAny (model prog w) A _ P E { s with heap:=((s.heap.update a (Obj.mapSeq fun _=>#[])).push (seqObj "tuple" vs.toArray 0)).push (seqObj "list" #[] 0) };dsimp only;have dU:∀aw:SortSt,(arrOf aw).Perm (vs.toArray.zip vs.toArray)->P (.done (.ret .none)) { s with heap:=sortedHeap s.heap a vs ((arrOf aw).map (·.2)) }:=by
  intro aw QG;refine h _ ?_;have:=(j4.mp QG).map (·.2);rw[<-pf,<-pf,FK] at this;exact this
 have WF:(vs.toArray.zip vs.toArray).size=vs.length:=by simp
 by_cases h2:vs.toArray.size<2
 .rw[ao h2,ao h2];refine ak (wpAny_pure ?_);rw[StateT.run_pure];refine ak (wpAny_pure ?_);dsimp only;refine ak (pC EO rfl ?_);refine ak (kO EO rfl ?_ (ce _) (by show ((vs.toArray.zip vs.toArray).map (·.2)).size<=_;rw[f_,WF,fw];lia));simp only[w9,h9,dw];exact wpAny_pure (dU (SortSt.mk' general' (vs.toArray.zip vs.toArray) #[] 7 none) (xk _))
 .rw[aj h2,aj h2];have dX:2<=vs.length:=by rw[bY] at h2;lia
  obtain⟨fs,k1,k2,k3⟩:=LJ.kQ;refine ak (kat_kind (T:=.type "int") k1 (by lia) (fun v hv=>?_) rfl ?_)
  .obtain⟨m,t,rfl⟩:=k3 v hv;exact .now
  refine ak (gX (AX (a₀:=vs.toArray.zip vs.toArray) (κ:=tuples' true) (st:=SortSt.mk' (tuples' true) (vs.toArray.zip vs.toArray) #[] 7 none)
   (Q:=fun _ aw=>(arrOf aw).Perm (vs.toArray.zip vs.toArray)/\failedOf aw=none) (AY LJ) (xk _) rfl rfl rfl fun aw b1 b2=>⟨b1,b2⟩) ?_ fun _ _ e=>e)
  rintro⟨⟨⟩,aw⟩ s' ⟨rfl,QG,hf⟩;dsimp only;refine ak (pC EO rfl ?_);refine ak (kO EO rfl ?_ (ce _) (by refine aX (pr ((f_ ..).trans (QG.size_eq.trans WF))) ?_;rw[fw];lia));rw[hf];simp only[w9,h9,dw];exact wpAny_pure (dU aw QG)
theorem tQ{l:Addr}{vs:List Value}{Q:Value->Shared->Prop}(hl:s.heap.IsList l vs.toArray)(hp:iM s.heap vs)(hz:vs.length<=4096)(h:∀ (out:Array Value),out.toList.Perm vs->Q (.ref (s.heap.objs.size+1)) { s with heap:=sortedAll s.heap vs out }):
  wpAny (model prog w) A (call (.builtin "sorted") [.ref l]) Q E s:=by
 have QF:vs.length<=sizeLine:=by rw[fw];lia
 refine Calls.call_function_entry kind_sorted plain_sorted entry_sorted (args_sorted1 _) ?_;unfold Builtin.«sorted»;refine ak (m:=checkCount "sorted" 1 1 _) (wpAny_pure ?_);refine ak (collect_list hl ?_ QF);refine ak (sB ?_ QF);have iG:((s.heap.push (seqObj "list" #[] 0)).update s.heap.objs.size (Obj.mapSeq (·++vs.toArray))).objs.size=s.heap.objs.size+1:=by
  rw[fv,eN]
 have uP:(((s.heap.push (seqObj "list" #[] 0)).update s.heap.objs.size (Obj.mapSeq (·++vs.toArray))).push (seqObj "list" vs.toArray 0)).get? (s.heap.objs.size+1)=some (seqObj "list" vs.toArray 0):=by
  rw[<-iG];exact b_ _ rfl
 have YY:iM (((s.heap.push (seqObj "list" #[] 0)).update s.heap.objs.size (Obj.mapSeq (·++vs.toArray))).push (seqObj "list" vs.toArray 0)) vs:=by
  intro v hv;obtain⟨b,o,n,x,t,y,u,ev,e,c,d⟩:=hp v hv;have hb:b<s.heap.objs.size:=bb e;refine⟨b,o,n,x,t,y,u,ev,?_,c,d⟩;rw[eB _ _ _ (by rw[iG];exact aM (cz hb)),lz _ _ _ _ (aM hb),eB _ _ _ (aM hb)];exact e
 show wpAny _ _ _ _ _ { s with heap:=((s.heap.push (seqObj "list" #[] 0)).update s.heap.objs.size (Obj.mapSeq (·++vs.toArray))).push (seqObj "list" vs.toArray 0) };rw[iG];refine ak (f9 (iy slot_list_sort ⟨_,uP,rfl⟩ entry_list_sort (og uP YY hz fun out a1=>⟨_,rfl,?_⟩) (args_list_sort _)));exact wpAny_pure ⟨_,rfl,h out a1⟩
end
theorem pY:∀ {as:List Addr} {its:List Value},aO (as.map V.ref) its->its=as.map Value.ref
 |[],_,r=>by cases r;rfl
 |a::as,_,r=>by
  cases r with
  |cons r rr=>
   obtain rfl:=(show _=Value.ref a from r)
   rw[pY rr];rfl
theorem rk:∀ {as:List Addr},aO (as.map V.ref) (as.map Value.ref)
 |[]=>.nil
 |_::_=>.cons rfl rk
theorem AZ{as:List Addr}{vs:List Value}(h:vs.Perm (as.map Value.ref)):∃wv:List Addr,vs=wv.map Value.ref/\wv.Perm as:=by
 let un:Value->Addr:=fun v=>match v with|.ref a=>a|_=>0
 refine⟨vs.map un,?_,?_⟩
 .rw[dh];have:∀v∈vs,(Value.ref ∘ un) v=v:=by
   intro v hv;obtain⟨a,_,rfl⟩:=bo.mp (h.mem_iff.mp hv);rfl
  conv=>lhs;rw[<-mK vs]
  exact kF fun v hv=>(this v hv).symm
 .have:=h.map un;rw[dh] at this;have e:as.map (un ∘ Value.ref)=as:=by
   conv=>rhs;rw[<-mK as]
   exact kF fun a _=>rfl
  rw[e] at this;exact this
def C5(K:PySem.W.Frag):List V->Hp->VK->Prop:=fun xs H Q=>∃ (l:Addr) (as:List Addr),xs=[.ref l]/\ba K H l (as.map V.ref)/\(∀a∈as,∃x y:Int,bW K H a [.int x,.int y])/\as.length<=4096/\
 ∀ (D:Addr) (wv:List Addr),H D=none->wv.Perm as->Q (.ref D) (upd H D (.lst (wv.map V.ref)))
theorem yf{X:Cx}:gf X (.builtin "sorted") (C5 X.K):=by
 intro ae s σ H xs us Q I r h;obtain⟨l,as,rfl,hl,hp,hz,q⟩:=h;obtain⟨u1,rfl,r1⟩:=r.one;obtain rfl:u1=Value.ref l:=r1;obtain⟨its,rv,pl,_⟩:=I.list hl;have Jq:=pY rv;subst Jq;have YZ:iM s.heap (as.map Value.ref):=by
  intro v hv;obtain⟨a,ha,rfl⟩:=bo.mp hv;obtain⟨x,y,BE⟩:=hp a ha;obtain⟨its,r,⟨o,e,c,n,d⟩,_⟩:=I.tuple BE;obtain⟨u1,u2,rfl,r1,r2⟩:=r.two;obtain⟨t,rfl⟩:=r1;obtain⟨t',rfl⟩:=r2;exact⟨a,o,n,x,t,y,t',rfl,e,c,d⟩
 refine tQ pl.isList YZ (by rw[aH];exact hz) fun out Nt=>?_;obtain⟨wv,eo,pa⟩:=AZ Nt;have AO:out=(wv.map Value.ref).toArray:=by rw[<-eo]
 subst AO;have JD:((s.heap.push (seqObj "list" #[] 0)).update s.heap.objs.size (Obj.mapSeq (·++(as.map Value.ref).toArray))).objs.size=s.heap.objs.size+1:=by rw[fv,eN]
 have k1:∀b u,s.heap.get? b=some u->(((s.heap.push (seqObj "list" #[] 0)).update s.heap.objs.size (Obj.mapSeq (·++(as.map Value.ref).toArray))).push (seqObj "list" (as.map Value.ref).toArray 0)).get? b=some u:=fun b u e=>by
  have hb:b<s.heap.objs.size:=bb e;rw[eB _ _ _ (by rw[JD];exact aM (cz hb)),lz _ _ _ _ (aM hb),eB _ _ _ (aM hb)];exact e
 have uP:(((s.heap.push (seqObj "list" #[] 0)).update s.heap.objs.size (Obj.mapSeq (·++(as.map Value.ref).toArray))).push (seqObj "list" (as.map Value.ref).toArray 0)).get? (s.heap.objs.size+1)=some (seqObj "list" (as.map Value.ref).toArray 0):=by
  rw[<-JD];exact b_ _ rfl
 have A0:(((s.heap.push (seqObj "list" #[] 0)).update s.heap.objs.size (Obj.mapSeq (·++(as.map Value.ref).toArray))).push (seqObj "list" (as.map Value.ref).toArray 0)).objs.size=s.heap.objs.size+2:=by rw[eN,JD]
 show EP X ae σ Q (.ref (s.heap.objs.size+1)) { s with heap:=sortedHeap (((s.heap.push (seqObj "list" #[] 0)).update s.heap.objs.size (Obj.mapSeq (·++(as.map Value.ref).toArray))).push (seqObj "list" (as.map Value.ref).toArray 0)) (s.heap.objs.size+1) (as.map Value.ref) (wv.map Value.ref).toArray };revert k1 uP A0;generalize ((s.heap.push (seqObj "list" #[] 0)).update s.heap.objs.size (Obj.mapSeq (·++(as.map Value.ref).toArray))).push (seqObj "list" (as.map Value.ref).toArray 0)=h1;intro k1 uP A0;obtain⟨e1,FM⟩:∃e1,(h1.update (s.heap.objs.size+1) (Obj.mapSeq fun _=>(#[]:Array Value))).get? (s.heap.objs.size+1)=some (seqObj "list" #[] e1):=⟨_,ji uP (fun _=>#[])⟩
 have EO:(((h1.update (s.heap.objs.size+1) (Obj.mapSeq fun _=>(#[]:Array Value))).push (seqObj "tuple" (as.map Value.ref).toArray 0)).push (seqObj "list" #[] 0)).get? (s.heap.objs.size+1)=some (seqObj "list" #[] e1):=by
  rw[eB _ _ _ (by rw[eN,fv,A0];exact aM (cz (j7 _))),eB _ _ _ (by rw[fv,A0];exact aM (j7 _))];exact FM
 obtain⟨e2,Y0⟩:∃e2,(sortedHeap h1 (s.heap.objs.size+1) (as.map Value.ref) (wv.map Value.ref).toArray).get? (s.heap.objs.size+1)=some (seqObj "list" (wv.map Value.ref).toArray e2):=⟨_,ji EO (fun _=>(wv.map Value.ref).toArray)⟩
 have keep:∀b u,s.heap.get? b=some u->(sortedHeap h1 (s.heap.objs.size+1) (as.map Value.ref) (wv.map Value.ref).toArray).get? b=some u:=fun b u e=>by
  have hb:b<s.heap.objs.size:=bb e;unfold sortedHeap;rw[lz _ _ _ _ (aM (cz hb)),eB _ _ _ (by rw[eN,fv,A0];exact aM (cz (cz (cz hb)))),eB _ _ _ (by rw[fv,A0];exact aM (cz (cz hb))),lz _ _ _ _ (aM (cz hb))];exact k1 b u e
 have vH:s.heap.get? (s.heap.objs.size+1)=none:=o0 (by lia);refine⟨.ref (s.heap.objs.size+1),_,I.Cu (t':=s.toks) (o:=.lst (wv.map V.ref)) keep vH ⟨?_,wv.map Value.ref,e2,rk,Y0⟩,rfl,q _ wv (I.bE.pO vH) pa⟩;rw[aH,pa.length_eq];exact aX hz (by decide)
section
variable {prog:Program} {w:World} {A:Around} {E:Value->Shared->Prop} {s:Shared} {g:Addr->Int×Int}
end
open PySem PySem.Spec PyProof.Rows
theorem aL(sb:Heap.SameBut c h h')(n:b≠c)(e:h.get? b=some o):h'.get? b=some o:=(sb.2 b n).trans e
theorem br(r:h.IsTupleIter it t k)(sb:Heap.SameBut c h h')(n:it≠c):h'.IsTupleIter it t k:=r.at fun o e=>aL sb n e
theorem eT(r:h.IsTuple t xs)(sb:Heap.SameBut c h h')(n:t≠c):h'.IsTuple t xs:=let ⟨o,e,z⟩:=r;⟨o,aL sb n e,z⟩
section
variable {prog:Program} {w:World} {A:Around} {E:Value->Shared->Prop} {s:Shared}
theorem A4{z ti tq i1 i2 t1 t2:Addr}{k:Nat}{xs ys:Array Value}{x y a b:Value}{Q:Value->Shared->Prop}(dj:ZipApart z ti tq i1 i2 t1 t2)(gz:IsZip s.heap z ti tq .none)(gi:IsPair s.heap ti (.ref i1) (.ref i2))(gq:IsPair s.heap tq a b)(r1:s.heap.IsTupleIter i1 t1 k)(r2:s.heap.IsTupleIter i2 t2 k)(g1:s.heap.IsTuple t1 xs)(g2:s.heap.IsTuple t2 ys)(ex:xs[k]?=some x)(ey:ys[k]?=some y)(q:∀h',IsZip h' z ti tq (rawInt s.heap.objs.size)->IsPair h' tq x y->h'.IsTupleIter i1 t1 (k+1)->h'.IsTupleIter i2 t2 (k+1)->IsPair h' s.heap.objs.size x y->(∀c o,c≠z->c≠tq->c≠i1->c≠i2->s.heap.get? c=some o->h'.get? c=some o)->Q (.ref s.heap.objs.size) { s with heap:=h' }):
  wpAny (model prog w) A (Builtin.«zip.__next__» ⟨[.ref z],[]⟩) (fun dU s'=>∃v,dU=.done (.ret v)/\Q v s') E s:=by
 change wpAny _ _ (field (.ref z) 2 >>= _) _ _ _;refine ak (dI gz rfl (x:=.bool false) rfl ?_);change wpAny _ _ (field (.ref z) 3 >>= _) _ _ _;refine ak (dI gz rfl (x:=.ref ti) rfl (ak (f8 gi rfl ?_)));change wpAny _ _ (Builtin.SmallTypes.ownedTupleIsFree (.ref z) >>= _) _ _ _;refine ak ?_;unfold Builtin.SmallTypes.ownedTupleIsFree;refine ak (dI gz rfl (x:=.none) rfl (wpAny_pure ?_));simp only[gb];refine ak (dJ (ak (dI gz rfl (x:=.ref tq) rfl ?_)));refine ak (i9 gz (by simp) fun m1 qw gP=>?_);replace qw:IsZip m1 z ti tq .ellipsis:=qw;refine ak ?_;simp only[o9,sn,jg,jh];refine ak (ak (mJ ?_));change wpAny _ _ (Builtin.SmallTypes.nextOf (.ref i1) >>= _) _ _ _;refine ak (d9 (br r1 gP dj.i1z) (eT g1 gP dj.l1z) ex fun m2 Nv ip=>wpAny_pure ?_);have Nw:IsPair m2 tq a b:=aL ip dj.TOi1 (aL gP dj.TOz gq);refine ak (f8 Nw rfl (ak (rW Nw fun m3 JE oh=>?_)));replace JE:IsPair m3 tq x b:=JE;refine ak (iD (wpAny_pure ?_));refine ak (ak (mJ ?_));change wpAny _ _ (Builtin.SmallTypes.nextOf (.ref i2) >>= _) _ _ _;refine ak (d9 (br (br (br r2 gP dj.i2z) ip dj.i12.symm) oh dj.TOi2.symm) (eT (eT (eT g2 gP dj.l2z) ip dj.l2i1) oh dj.l2TO) ey fun m4 SJ C6=>wpAny_pure ?_);have Ny:IsPair m4 tq x b:=aL C6 dj.TOi2 JE;refine ak (f8 Ny rfl (ak (rW Ny fun m5 FO C7=>?_)));replace FO:IsPair m5 tq x y:=FO;refine ak (iD (wpAny_pure (wpAny_pure ?_)));refine ak (f8 FO rfl (ak (pj ?_)));have sz:m5.objs.size=s.heap.objs.size:=by rw[C7.1,C6.1,oh.1,ip.1,gP.1]
 have Nz:IsZip m5 z ti tq .ellipsis:=aL C7 dj.TOz.symm (aL C6 dj.i2z.symm (aL oh dj.TOz.symm (aL ip dj.i1z.symm qw)));have SL:∀c o,c≠z->c≠tq->c≠i1->c≠i2->s.heap.get? c=some o->m5.get? c=some o:=fun c o c1 c2 c3 c4 e=>
  aL C7 c2 (aL C6 c4 (aL oh c2 (aL ip c3 (aL gP c1 e))))
 have SU:m5.IsTupleIter i1 t1 (k+1):=br (br (br Nv oh dj.TOi1.symm) C6 dj.i12) C7 dj.TOi1.symm;have SV:m5.IsTupleIter i2 t2 (k+1):=br SJ C7 dj.TOi2.symm;have zl:z<m5.objs.size:=bb Nz;change wpAny _ _ (Builtin.SmallTypes.ownedTupleHandOut (.ref z) (.ref m5.objs.size) >>= _) _ _ _;refine ak ?_;unfold Builtin.SmallTypes.ownedTupleHandOut;have SW:IsZip (m5.push { cls:=.type "tuple",data:=.seq #[x,y] }) z ti tq .ellipsis:=bv _ Nz;refine ak (i9 SW (by simp) fun m7 JF NC=>?_);replace JF:IsZip m7 z ti tq (rawInt m5.objs.size):=JF;refine i9 JF (by simp) fun m8 H_ ND=>?_;replace H_:IsZip m8 z ti tq (rawInt m5.objs.size):=H_;have up:∀c o,c≠z->m5.get? c=some o->m8.get? c=some o:=fun c o c1 e=>aL ND c1 (aL NC c1 (bv _ e));have NE:IsPair m8 m5.objs.size x y:=aL ND (ig zl) (aL NC (ig zl) (b_ _ rfl));rw[sz] at H_ NE;refine wpAny_pure ⟨_,rfl,?_⟩;change Q (.ref m5.objs.size) _;rw[sz];exact q m8 H_ (up _ _ dj.TOz FO) (SU.at fun o e=>up _ o dj.i1z e) (SV.at fun o e=>up _ o dj.i2z e) NE fun c o c1 c2 c3 c4 e=>up c o c1 (SL c o c1 c2 c3 c4 e)
theorem C8(hh:A.handled=none)(dj:ZipApart z ti tq i1 i2 t1 t2)(gz:IsZip s.heap z ti tq .none)(gi:IsPair s.heap ti (.ref i1) (.ref i2))(r1:s.heap.IsTupleIter i1 t1 k)(g1:s.heap.IsTuple t1 xs)(ex:xs[k]?=none)(q:∀h' e,(∀c o,c≠z->c≠i1->s.heap.get? c=some o->h'.get? c=some o)->(∃o,h'.get? e=some o/\o.cls=.type "StopIteration")->E (.ref e) { s with heap:=h' }):
  wpAny (model prog w) A (Builtin.«zip.__next__» ⟨[.ref z],[]⟩) Q E s:=by
 change wpAny _ _ (field (.ref z) 2 >>= _) _ _ _;refine ak (dI gz rfl (x:=.bool false) rfl ?_);change wpAny _ _ (field (.ref z) 3 >>= _) _ _ _;refine ak (dI gz rfl (x:=.ref ti) rfl (ak (f8 gi rfl ?_)));change wpAny _ _ (Builtin.SmallTypes.ownedTupleIsFree (.ref z) >>= _) _ _ _;refine ak ?_;unfold Builtin.SmallTypes.ownedTupleIsFree;refine ak (dI gz rfl (x:=.none) rfl (wpAny_pure ?_));simp only[gb];refine ak (dJ (ak (dI gz rfl (x:=.ref tq) rfl ?_)));refine ak (i9 gz (by simp) fun m1 qw gP=>?_);replace qw:IsZip m1 z ti tq .ellipsis:=qw;refine ak ?_;simp only[o9,sn,jg,jh];refine ak (ak (mJ ?_));change wpAny _ _ (Builtin.SmallTypes.nextOf (.ref i1) >>= _) _ _ _;refine ak (ir hh (br r1 gP dj.i1z) (eT g1 gP dj.l1z) ex fun m2 e ip he=>?_);obtain⟨oe,JG,NF⟩:=he;have FP:IsZip m2 z ti tq .ellipsis:=ip _ _ dj.i1z.symm qw;have SX:e≠z:=fun y=>by subst y;rw[FP] at JG;cases JG;simp at NF
 exact i9 FP (by simp) fun m3 _ oh=>q m3 e (fun c o c1 c3 y=>aL oh c1 (ip _ _ c3 (aL gP c1 y))) ⟨oe,aL oh SX JG,NF⟩
theorem yg(dj:ZipApart z ti tq i1 i2 t1 t2)(gz:IsZip s.heap z ti tq .none)(gi:IsPair s.heap ti (.ref i1) (.ref i2))(gq:IsPair s.heap tq a b)(r1:s.heap.IsTupleIter i1 t1 k)(r2:s.heap.IsTupleIter i2 t2 k)(g1:s.heap.IsTuple t1 xs)(g2:s.heap.IsTuple t2 ys)(ex:xs[k]?=some x)(ey:ys[k]?=some y)(q:∀h',IsZip h' z ti tq (rawInt s.heap.objs.size)->IsPair h' tq x y->h'.IsTupleIter i1 t1 (k+1)->h'.IsTupleIter i2 t2 (k+1)->IsPair h' s.heap.objs.size x y->(∀c o,c≠z->c≠tq->c≠i1->c≠i2->s.heap.get? c=some o->h'.get? c=some o)->Q (some (.ref s.heap.objs.size)) { s with heap:=h' }):
  wpAny (model prog w) A (pyNext (.ref z)) Q E s:=by
 have ty:s.TypeIs (.ref z) "zip":=⟨_,gz,rfl⟩
 unfold pyNext;refine ak (jj (oT (name:=Str.ofString "__next__") ty F.slot_zip_next (iy F.slot_zip_next ty F.entry_zip_next ?_ (F.args_zip_next_1 _))));exact A4 dj gz gi gq r1 r2 g1 g2 ex ey fun h' a1 a2 a3 a4 a5 a6=>wpAny_pure (q h' a1 a2 a3 a4 a5 a6)
theorem yh(hh:A.handled=none)(dj:ZipApart z ti tq i1 i2 t1 t2)(gz:IsZip s.heap z ti tq .none)(gi:IsPair s.heap ti (.ref i1) (.ref i2))(r1:s.heap.IsTupleIter i1 t1 k)(g1:s.heap.IsTuple t1 xs)(ex:xs[k]?=none)(q:∀h',(∀c o,c≠z->c≠i1->s.heap.get? c=some o->h'.get? c=some o)->Q none { s with heap:=h' }):wpAny (model prog w) A (pyNext (.ref z)) Q E s:=by
 have ty:s.TypeIs (.ref z) "zip":=⟨_,gz,rfl⟩
 unfold pyNext;refine ak (jj (oT (name:=Str.ofString "__next__") ty F.slot_zip_next (iy F.slot_zip_next ty F.entry_zip_next (C8 hh dj gz gi r1 g1 ex fun h' e hk he=>?_) (F.args_zip_next_1 _))));obtain⟨o,ho,hc⟩:=he;exact ak (xp (T:="StopIteration") (b:=true) ⟨o,ho,hc⟩ isSubtype_stop (wpAny_pure (q _ hk)))
abbrev zT(t:Addr):Obj:={ cls:=.type "tuple_iterator",data:=.fields #[.ref t,.int 0 0] }
abbrev QH(h:Heap)(t1 t2:Addr):Heap:=((h.push (zT t1)).push (zT t2)).push { cls:=.type "tuple",data:=.seq #[.ref h.objs.size,.ref (h.push (zT t1)).objs.size] }
abbrev QI(h:Heap)(t1 t2:Addr):Heap:=(QH h t1 t2).push { cls:=.type "tuple",data:=.seq #[.none,.none] }
abbrev LK(h:Heap)(t1 t2:Addr):Heap:=(QI h t1 t2).push { cls:=.type "zip",data:=.fields #[.none,.bool false,.bool false,.ref ((h.push (zT t1)).push (zT t2)).objs.size,.ref (QH h t1 t2).objs.size] }
theorem C9(t1 t2:Addr)(xs ys:Array Value):
  Meets (Builtin.«zip.__new__» ⟨[.type "zip",.ref t1,.ref t2],[]⟩) (fun _ R s=>s.heap.IsTuple t1 xs/\s.heap.IsTuple t2 ys/\R (.ok (.ret (.ref (QI s.heap t1 t2).objs.size))) { s with heap:=LK s.heap t1 t2 }):=
 .of_wp fun prog w A R s h=>by
  obtain⟨hp,g,d,tk,os⟩:=s;obtain⟨g1,g2,h⟩:=h;have Y1:=sub_zip;have gA:Heap.IsTuple (Shared.heap ⟨hp,g,d,tk,os⟩) t1 xs:=g1;have gB:Heap.IsTuple (Shared.heap ⟨hp.push (zT t1),g,d,tk,os⟩) t2 ys:=let ⟨o,e,z⟩:=g2;⟨o,bv _ e,z⟩
  wp_walk using o8 gA,o8 gB
  exact⟨_,rfl,h⟩
theorem rn(g1:s.heap.IsTuple t1 xs)(g2:s.heap.IsTuple t2 ys)(q:∀h',IsZip h' (s.heap.objs.size+4) (s.heap.objs.size+2) (s.heap.objs.size+3) .none->IsPair h' (s.heap.objs.size+2) (.ref s.heap.objs.size) (.ref (s.heap.objs.size+1))->IsPair h' (s.heap.objs.size+3) .none .none->
   h'.IsTupleIter s.heap.objs.size t1 0->h'.IsTupleIter (s.heap.objs.size+1) t2 0->(∀c o,s.heap.get? c=some o->h'.get? c=some o)->Q (.ref (s.heap.objs.size+4)) { s with heap:=h' }):
  wpAny (model prog w) A (call (.type "zip") [.ref t1,.ref t2]) Q E s:=by
 refine callType_new F.called_zip (by decide) (F.typeCall_zip_2 _ _) (F.newCall_zip_2 _ _) (fun obj=>F.args_object_init_3 obj _ _) F.entry_zip_new (C9 t1 t2 xs ys) ⟨g1,g2,?_⟩;have n1:(s.heap.push (zT t1)).objs.size=s.heap.objs.size+1:=iT ..;have n2:((s.heap.push (zT t1)).push (zT t2)).objs.size=s.heap.objs.size+2:=by rw[iT,n1]
 have n3:(QH s.heap t1 t2).objs.size=s.heap.objs.size+3:=by rw[iT,n2]
 have n4:(QI s.heap t1 t2).objs.size=s.heap.objs.size+4:=by rw[iT,n3]
 have e5:(LK s.heap t1 t2).get? (QI s.heap t1 t2).objs.size=some _:=b_ _ rfl;have e4:(LK s.heap t1 t2).get? (QH s.heap t1 t2).objs.size=some _:=bv _ (b_ _ rfl);have e3:(LK s.heap t1 t2).get? ((s.heap.push (zT t1)).push (zT t2)).objs.size=some _:=bv _ (bv _ (b_ _ rfl));have e2:(LK s.heap t1 t2).get? (s.heap.push (zT t1)).objs.size=some _:=bv _ (bv _ (bv _ (b_ _ rfl)));have e1:(LK s.heap t1 t2).get? s.heap.objs.size=some _:=bv _ (bv _ (bv _ (bv _ (b_ _ rfl))));change _/\_;rw[n2,n3,n4] at e5;rw[n1,n2] at e3;rw[n3] at e4;rw[n1] at e2;rw[n4];exact⟨⟨_,e5,rfl⟩,q _ e5 e3 e4 ⟨_,e1,rfl,rfl⟩ ⟨_,e2,rfl,rfl⟩ fun c o y=>
  bv _ (bv _ (bv _ (bv _ (bv _ y))))⟩
end
theorem aE.zu{X:Cx}{ae:List (Addr×Obj)}{σ:St}{H:Hp}{s:Shared}{h':Heap}{t':Nat}{ch:List Addr}(I:aE X ae σ H s)(fe:∀e∈ch,eG X ae H e)(k:∀b o,b∉ch->s.heap.get? b=some o->h'.get? b=some o):aE X ae σ H { s with heap:=h',toks:=t' }:=by
 have Hv:∀b u,H b=some u->b∉ch:=fun b u e z=>by rw[(fe b z).1] at e;cases e
 refine I.step (g':=s.gens) (d':=s.drawn) (ch:=ch) (fun b hb=>?_) (fun b o _ _ hc e _=>k b o hc e) (fun b o _ _ hc e _=>⟨o.slots,k b o hc e⟩) (fun _ _ _ _ n=>n) (fun b o hc e=>⟨o,k b o hc e⟩) (fun _ _ e=>e) (fun _ _ _ e=>e) (fun b ps e=>⟨#[],by rw[e];simp⟩) (fun m hm=>?_) (fun b u e=>?_) I.bare
 .obtain⟨_,f1,_,f3,f4,f5⟩:=fe b hb;exact⟨f3,f1,f4,f5⟩
 .obtain⟨o,es,ep,ho,r⟩:=hm;exact⟨o,es,ep,k _ o (fun z=>(fe _ z).2.1 rfl) ho,r⟩
 .refine(I.bE b u e).lC (fun c v hc q=>k c v ?_ q) (fun _ q=>q) fun _ _ q=>q;rcases hc with z|z
  .rw[z];exact Hv b u e
  .exact Hv c _ z
theorem aE.zw{X:Cx}{ae:List (Addr×Obj)}{σ:St}{H:Hp}{s:Shared}{h':Heap}{p:Addr}{t':Nat}{ch:List Addr}{xs:List V}{its:List Value}(I:aE X ae σ H s)(fe:∀e∈ch,eG X ae H e)(k:∀b o,b∉ch->s.heap.get? b=some o->h'.get? b=some o)(hp:s.heap.objs.size<=p)(hl:xs.length<=sizeLine)(r:aO xs its)(ht:h'.get? p=some { cls:=.type "tuple",data:=.seq its.toArray }):aE X ae σ (upd H p (.tup xs)) { s with heap:=h',toks:=t' }:=by
 have hn:=I.bE.fresh hp;have ne:∀b o,s.heap.get? b=some o->b≠p:=fun b o q=>aM (cC (bb q) hp);have Hv:∀b u,H b=some u->b∉ch:=fun b u e z=>by rw[(fe b z).1] at e;cases e
 refine I.step (g':=s.gens) (d':=s.drawn) (ch:=ch) (fun b hb=>?_) (fun b o _ _ hb q _=>k b o hb q) (fun b o _ _ hb q _=>⟨o.slots,k b o hb q⟩) (fun b o hb q n=>by rw[am (ne b o q)];exact n) (fun b o hb q=>⟨o,k b o hb q⟩)
  (fun b ys q=>by rw[am (ap q hn)];exact q) (fun b o u q=>by rw[am (ap q hn)];exact q) (fun b ps q=>⟨#[],by rw[am (ap q hn),q];simp⟩) (fun m hm=>?_) (fun b o q=>?_) I.bare
 .obtain⟨_,f1,_,f3,f4,f5⟩:=fe b hb;exact⟨f3,f1,f4,f5⟩
 .obtain⟨o,es,ep,q,d,r'⟩:=hm;exact⟨o,es,ep,k _ _ (fun z=>(fe _ z).2.1 rfl) q,d,r'⟩
 .by_cases hb:b=p
  .subst hb;rw[af] at q;cases q;exact⟨hl,its,r,_,ht,rfl,_,rfl,rfl⟩
  .rw[am hb] at q;refine(I.bE b o q).lC (fun c u hc z=>k c u ?_ z) (fun c z=>by rw[am (ap z hn)];exact z) fun c ys z=>by rw[am (ap z hn)];exact z
   rcases hc with rfl|hc
   .exact Hv _ _ q
   .exact Hv _ _ hc
def JI(K:PySem.W.Frag)(a b:Addr):It:=
 ⟨fun i H=>∃xs ys x y,bW K H a xs/\bW K H b ys/\xs[i]?=some x/\ys[i]?=some y,fun i H v H'=>∃p x y,v=.ref p/\H p=none/\H'=upd H p (.tup [x,y])/\(∀xs,bW K H a xs->xs[i]?=some x)/\∀ys,bW K H b ys->ys[i]?=some y,fun i H=>∃xs,bW K H a xs/\xs.length<=i⟩
theorem C_{P:Program}{w:World}{K:PySem.W.Frag}{es:List Expr}{x1:Nat}{pos:Pos}(a b z ti tq i1 i2:Addr)(dj:ZipApart z ti tq i1 i2 a b):
  qE P w K (.Tuple es x1 pos) (JI K a b) [z,ti,tq,i1,i2] z (fun i h=>IsZip h z ti tq .none/\IsPair h ti (.ref i1) (.ref i2)/\(∃u v,IsPair h tq u v)/\h.IsTupleIter i1 a i/\h.IsTupleIter i2 b i) where
 mem:=by simp
 obj:=fun i h st c hc=>by
  obtain⟨gz,gi,⟨u,v,gq⟩,⟨o1,q1,c1,d1⟩,⟨o2,q2,c2,d2⟩⟩:=st;simp only[aS,fL,dM] at hc;rcases hc with rfl|rfl|rfl|rfl|rfl
  .exact⟨_,gz,fun v z=>by have z':Data.fields _=Data.cell v:=z;cases z'⟩
  .exact⟨_,gi,fun v z=>by have z':Data.seq _ _=Data.cell v:=z;cases z'⟩
  .exact⟨_,gq,fun v z=>by have z':Data.seq _ _=Data.cell v:=z;cases z'⟩
  .exact⟨o1,q1,fun v z=>by rw[d1] at z;cases z⟩
  .exact⟨o2,q2,fun v z=>by rw[d2] at z;cases z⟩
 keep:=fun i h h' st k=>by
  obtain⟨gz,gi,⟨u,v,gq⟩,r1,r2⟩:=st;exact⟨k z (by simp) _ gz,k ti (by simp) _ gi,⟨u,v,k tq (by simp) _ gq⟩,r1.at fun o q=>k i1 (by simp) o q,r2.at fun o q=>k i2 (by simp) o q⟩
 item:=by
  intro X hP hw hK hc i ae s σ H E I hf st hg;subst hP hw hK;obtain⟨xs,ys,x,y,hx,hy,ex,ey⟩:=hg;obtain⟨us,rx,px,_⟩:=I.tuple hx;obtain⟨vs,ry,py,_⟩:=I.tuple hy;obtain⟨u,hu,ru⟩:=rx.get ex;obtain⟨v,hv,rv⟩:=ry.get ey;obtain⟨gz,gi,⟨u0,v0,gq⟩,r1,r2⟩:=st;refine yg dj gz gi gq r1 r2 (show s.heap.IsTuple a us.toArray from px) (show s.heap.IsTuple b vs.toArray from py) (x:=u) (y:=v) (by simpa using hu) (by simpa using hv) fun h1 qw SY SZ S0 S7 kp=>?_;refine⟨_,rfl,wpAny_letOwnedTupleGo_zip qw fun h2 FP ip=>?_⟩;have zl:z<s.heap.objs.size:=bb gz;have nz:s.heap.objs.size≠z:=ig zl;have NG:∀c o,c∉[z,tq,i1,i2]->s.heap.get? c=some o->h2.get? c=some o:=fun c o hc e=>by
   simp only[aS,fL,dM,not_or] at hc;exact aL ip hc.1 (kp c o hc.1 hc.2.1 hc.2.2.1 hc.2.2.2 e)
  have S8:IsPair h2 ti (.ref i1) (.ref i2):=NG _ _ (by simp only[aS,fL,dM,not_or];exact⟨dj.TIz,dj.TITO,dj.TIi1,dj.TIi2⟩) gi;have fe:∀e∈[z,tq,i1,i2],eG X ae H e:=fun e he=>hf e (by simp only[aS,fL,dM] at he |-;rcases he with h|h|h|h <;> simp[h]);have I2:aE X ae σ (upd H s.heap.objs.size (.tup [x,y])) { s with heap:=h2,toks:=s.toks }:=
   I.zw (its:=[u,v]) fe NG (aI _) (by show 2<=sizeLine;decide) (.cons ru (.cons rv .nil)) (aL ip nz S7)
  refine⟨.ref s.heap.objs.size,_,I2,rfl,⟨_,x,y,rfl,I.bE.fresh (aI _),rfl,fun zs hz=>by rw[I.eE hz hx];exact ex,fun zs hz=>by rw[I.eE hz hy];exact ey⟩,⟨FP,S8,⟨u,v,aL ip dj.TOz SY⟩,br SZ ip dj.i1z,br S0 ip dj.i2z⟩,fun c hc=>?_⟩;have f0:=(hf c hc).1;have cl:c<s.heap.objs.size:=by
   simp only[aS,fL,dM] at hc;rcases hc with rfl|rfl|rfl|rfl|rfl
   .exact zl
   .exact bb gi
   .exact bb gq
   .obtain⟨o,q,_⟩:=r1;exact bb q
   .obtain⟨o,q,_⟩:=r2;exact bb q
  rw[am (aM cl)];exact f0
 done:=by
  intro X hP hw hK hc i ae s σ H E I hf st hg;subst hP hw hK;obtain⟨xs,hx,hi⟩:=hg;obtain⟨us,rx,px,_⟩:=I.tuple hx;obtain⟨gz,gi,⟨u0,v0,gq⟩,r1,r2⟩:=st;have hl:=rx.length;refine yh (I.ok.hd hc) dj gz gi r1 (show s.heap.IsTuple a us.toArray from px) (by simp;lia) fun h' kp=>⟨rfl,?_⟩
  have fe:∀e∈[z,i1],eG X ae H e:=fun e he=>hf e (by simp only[aS,fL,dM] at he |-;rcases he with h|h <;> simp[h]);refine I.zu (t':=s.toks) fe fun c o hc e=>?_;simp only[aS,fL,dM,not_or] at hc;exact kp c o hc.1 hc.2 e
 self:=fun _ _ _ _ _ st h=>xo st.1 h
section
variable {X:Cx}
def Ib(K:PySem.W.Frag)(ta:TA):TI:=fun σ H R=>ta σ H fun vs H1=>∃a b xs ys,vs=[.ref a,.ref b]/\bW K H1 a xs/\bW K H1 b ys/\xs.length=ys.length/\R (JI K a b) H1
theorem tR{es:List Expr}{x1:Nat}{xD:Pos}{a b:Expr}{ta:TA}{p pos:Pos}(hg:Gl X "zip")(hm:X.mg "zip"=none)(ha:PA X [a,b] ta)(hs:starEach [a,b] X.env=[(false,eval a X.env),(false,eval b X.env)]:=by rfl)(j9:starEach [b] X.env=[(false,eval b X.env)]:=by rfl):
  PI X (.Tuple es x1 xD) (.Call (.Name "zip" p) [a,b] [] pos) (Ib X.K ta):=by
 intro ae s σ H R I h;refine Call_ (gZ I hg hm PyProof.Rows.boot_zip (oO (cI (ha pos ae s σ H _ I h) fun us s1 ⟨vs,H1,I1,r1,q1⟩=>?_) (by rw[hs,j9]) (by rw[j9];rfl)));obtain⟨l,m,xs,ys,rfl,hl,S_,BE,q⟩:=q1;obtain⟨u1,u2,rfl,Ju,Ta⟩:=r1.two;obtain rfl:u1=Value.ref l:=Ju;obtain rfl:u2=Value.ref m:=Ta;obtain⟨its,rv,pt,_⟩:=I1.tuple hl;obtain⟨Aw,Y2,EX,_⟩:=I1.tuple S_;have cV:l<s1.heap.objs.size:=by obtain⟨o,e,_⟩:=pt;exact bb e
 have yi:m<s1.heap.objs.size:=by obtain⟨o,e,_⟩:=EX;exact bb e
 refine rn (show s1.heap.IsTuple l its.toArray from pt) (show s1.heap.IsTuple m Aw.toArray from EX) fun h' gz gi gq r1 r2 k=>?_;refine xo gz ?_;have I2:aE X ae σ H1 { s1 with heap:=h' }:=I1.kept (t':=s1.toks) k;refine⟨s1.heap.objs.size+4,[s1.heap.objs.size+4,s1.heap.objs.size+2,s1.heap.objs.size+3,s1.heap.objs.size,s1.heap.objs.size+1],_,_,H1,rfl,I2,C_ l m _ _ _ _ _ (zipApart_new cV yi),⟨gz,gi,⟨_,_,gq⟩,r1,r2⟩,fun b hb=>?_,q⟩;have k7:s1.heap.objs.size<=b:=by
  simp only[aS,fL,dM] at hb;rcases hb with rfl|rfl|rfl|rfl|rfl
  .exact je _ _
  .exact je _ _
  .exact je _ _
  .exact aI _
  .exact je _ _
 exact I1.qD k7 (I1.bE.fresh k7)
theorem pZ{K:PySem.W.Frag}{a b D:Addr}{xs ys:List V}{g:TG}{tt:TT}{te:TE}{dU:Hp->Prop}{σB:St}{H0:Hp}(BE:xs.length=ys.length)(Pv:Nat->List V->St->Hp->Prop)(h0:Pv 0 [] σB H0)(hl:∀i zs σ H,i<=xs.length->Pv i zs σ H->bW K H a xs/\bW K H b ys)(hs:∀i x y p zs σ H (Kt:V->St->Hp->Prop) (Kf:St->Hp->Prop),xs[i]?=some x->ys[i]?=some y->Pv i zs σ H->H p=none->
   (∀v σ2 H4,H4 D=some (.lst zs)->zs.length<sizeLine->Pv (i+1) (zs++[v]) σ2 (upd H4 D (.lst (zs++[v])))->Kt v σ2 H4)->(∀σ2 H3,Pv (i+1) zs σ2 H3->Kf σ2 H3)->
   g (.ref p) σ (upd H p (.tup [x,y])) fun σ2 H2=>tt σ2 H2 fun b H3=>if b=true then te σ2 H3 fun v H4=>Kt v σ2 H4 else Kf σ2 H3)(hd:∀zs σ H,Pv xs.length zs σ H->dU H):im (JI K a b) g tt te D dU σB H0:=by
 refine⟨fun i m σ H=>m=xs.length-i/\i<=xs.length/\∃zs,Pv i zs σ H,⟨xs.length,by simp,ce _,[],h0⟩,?_⟩;rintro i m σ H ⟨rfl,hi,zs,p⟩;obtain⟨q1,q2⟩:=hl i zs σ H hi p;by_cases cV:i<xs.length
 .have yi:i<ys.length:=by lia
  refine .inr ⟨⟨xs,ys,xs[i],ys[i],q1,q2,by simp[cV],by simp[yi]⟩,?_⟩;rintro v H' ⟨pp,x,y,rfl,hn,rfl,Fq,Tb⟩;exact hs i x y pp zs σ _ (fun v σ2 H4=>∃zs,H4 D=some (.lst zs)/\zs.length<sizeLine/\∃m',m'<xs.length-i/\m'=xs.length-(i+1)/\i+1<=xs.length/\∃vI,Pv (i+1) vI σ2 (upd H4 D (.lst (zs++[v]))))
   (fun σ2 H3=>∃m',m'<xs.length-i/\m'=xs.length-(i+1)/\i+1<=xs.length/\∃vI,Pv (i+1) vI σ2 H3) (Fq xs q1) (Tb ys q2) p hn
   (fun v σ2 H4 z1 z2 z3=>⟨zs,z1,z2,_,by lia,rfl,cV,_,z3⟩) (fun σ2 H3 z=>⟨_,by lia,rfl,cV,_,z⟩)
 .have e:i=xs.length:=by lia
  subst e;exact .inl ⟨⟨xs,q1,aI _⟩,hd zs σ H p⟩
theorem yj(rx:aO xs us)(ry:aO ys vs)(fx:xs.all cQ=true)(fy:ys.all cQ=true):
  ∀j (h1:j<us.toArray.size) (h2:j<vs.toArray.size),SeqAt.EqAt A s us.toArray[j] vs.toArray[j] (jt (xs.getD j .bD) (ys.getD j .bD)):=by
 intro j h1 h2;have j1:j<xs.length:=by rw[rx.length];simpa using h1
 have j2:j<ys.length:=by rw[ry.length];simpa using h2
 have e1:xs[j]?=some (xs.getD j .bD):=by rw[b9,bT j1];rfl
 have e2:ys[j]?=some (ys.getD j .bD):=by rw[b9,bT j2];rfl
 obtain⟨u,Jp,ru⟩:=rx.get e1;obtain⟨v,Fq,rv⟩:=ry.get e2;have eu:us.toArray[j]=u:=by
  have:us[j]?=some us.toArray[j]:=by simp at h1 |-
  rw[Jp] at this;exact(a_ this).symm
 have ev:vs.toArray[j]=v:=by
  have:vs[j]?=some vs.toArray[j]:=by simp at h2 |-
  rw[Fq] at this;exact(a_ this).symm
 rw[eu,ev];exact sU ru rv (fu.mp fx _ (du e1)) (fu.mp fy _ (du e2))
theorem Da(I:aE X ae σ H s)(hu:A.units+1<cLine)(ha:bW X.K H a xs)(hb:bW X.K H b ys)(hl:xs.length=ys.length)(fx:xs.all cQ=true)(fy:ys.all cQ=true):
  SeqAt.EqAt A s (.ref a) (.ref b) (fQ jt xs ys):=by
 by_cases Ic:a=b
 .subst Ic;have e1:=I.eE ha hb;subst e1;have e2:fQ jt xs xs=true:=by
   clear ha hb hl fy;induction xs with
   |nil=>rfl
   |cons x xs ih=>
    rw[mD,df] at fx;rw[fQ,ih fx.2,Bool.and_true];cases x <;> first|rfl|(show (_==_)=true;simp)|exact absurd (show false=true from fx.1) bX
  rw[e2];exact SeqAt.EqAt.same _
 .obtain⟨us,r1,p1,_⟩:=I.tuple ha;obtain⟨vs,r2,p2,_⟩:=I.tuple hb;have h:=SeqAt.RcAt.tuples (A:=A) (s:=s) (l:=a) (b:=b) (e:=fun i=>jt (xs.getD i .bD) (ys.getD i .bD)) (show s.heap.IsTuple a us.toArray from p1) (show s.heap.IsTuple b vs.toArray from p2) (by lia)
   (yj r1 r2 fx fy)
  refine SeqAt.EqAt.of_refs Ic ?_;have er:((List.range (min us.toArray.size vs.toArray.size)).all (fun i=>jt (xs.getD i .bD) (ys.getD i .bD))&&us.toArray.size==vs.toArray.size)=fQ jt xs ys:=by
   rw[bY,bY,<-r1.length,<-r2.length,<-hl,pq,beq_self_eq_true,Bool.and_true,jv hl]
  rw[er] at h;exact h
end
theorem vJ{h:Heap}{vs:List Value}{out:Array Value}:(∃e,(sortedAll h vs out).get? (h.objs.size+1)=some (seqObj "list" out e))/\∀b u,h.get? b=some u->(sortedAll h vs out).get? b=some u:=by
 have JD:((h.push (seqObj "list" #[] 0)).update h.objs.size (Obj.mapSeq (·++vs.toArray))).objs.size=h.objs.size+1:=by rw[fv,eN]
 have k1:∀b u,h.get? b=some u->(((h.push (seqObj "list" #[] 0)).update h.objs.size (Obj.mapSeq (·++vs.toArray))).push (seqObj "list" vs.toArray 0)).get? b=some u:=fun b u e=>by
  have hb:b<h.objs.size:=bb e;rw[eB _ _ _ (by rw[JD];exact aM (cz hb)),lz _ _ _ _ (aM hb),eB _ _ _ (aM hb)];exact e
 have uP:(((h.push (seqObj "list" #[] 0)).update h.objs.size (Obj.mapSeq (·++vs.toArray))).push (seqObj "list" vs.toArray 0)).get? (h.objs.size+1)=some (seqObj "list" vs.toArray 0):=by
  rw[<-JD];exact b_ _ rfl
 have A0:(((h.push (seqObj "list" #[] 0)).update h.objs.size (Obj.mapSeq (·++vs.toArray))).push (seqObj "list" vs.toArray 0)).objs.size=h.objs.size+2:=by rw[eN,JD]
 unfold sortedAll;revert k1 uP A0;generalize ((h.push (seqObj "list" #[] 0)).update h.objs.size (Obj.mapSeq (·++vs.toArray))).push (seqObj "list" vs.toArray 0)=h1;intro k1 uP A0;obtain⟨e1,FM⟩:∃e1,(h1.update (h.objs.size+1) (Obj.mapSeq fun _=>(#[]:Array Value))).get? (h.objs.size+1)=some (seqObj "list" #[] e1):=⟨_,ji uP (fun _=>#[])⟩
 have EO:(((h1.update (h.objs.size+1) (Obj.mapSeq fun _=>(#[]:Array Value))).push (seqObj "tuple" vs.toArray 0)).push (seqObj "list" #[] 0)).get? (h.objs.size+1)=some (seqObj "list" #[] e1):=by
  rw[eB _ _ _ (by rw[eN,fv,A0];exact aM (cz (j7 _))),eB _ _ _ (by rw[fv,A0];exact aM (j7 _))];exact FM
 refine⟨⟨_,ji EO (fun _=>out)⟩,fun b u e=>?_⟩;have hb:b<h.objs.size:=bb e;unfold sortedHeap;rw[lz _ _ _ _ (aM (cz hb)),eB _ _ _ (by rw[eN,fv,A0];exact aM (cz (cz (cz hb)))),eB _ _ _ (by rw[fv,A0];exact aM (cz (cz hb))),lz _ _ _ _ (aM (cz hb))];exact k1 b u e
end L2
namespace iN
abbrev Ts:=List (Int×Int)
def T(ts:Ts)(a b:Nat):Prop:=(((a:Nat):Int),((b:Nat):Int))∈ts
instance (ts:Ts) (a b:Nat):Decidable (T ts a b):=inferInstanceAs (Decidable (_∈_))
def d_(ts:Ts):Nat->Nat->Nat->Prop
 |0,a,b=>a=b
 |k+1,a,b=>∃c,d_ ts k a c/\T ts c b
theorem d_.trans(h:d_ ts k a b):∀ {l:Nat} {c:Nat},d_ ts l b c->d_ ts (k+l) a c
 |0,_,e=>by cases e;exact h
 |l+1,_,⟨d,w,t⟩=>⟨d,h.trans w,t⟩
theorem d_.one(h:T ts a b):d_ ts 1 a b:=⟨a,rfl,h⟩
theorem d_.cons(h:T ts a b)(w:d_ ts k b c):d_ ts (k+1) a c:=by
 have:=(d_.one h).trans w;rwa [Nat.add_comm] at this
theorem d_.Db{ts:Ts}:∀ {k:Nat} {a c:Nat},d_ ts (k+1) a c->∃b,T ts a b/\d_ ts k b c
 |0,a,c,⟨d,e,t⟩=>by cases e;exact⟨c,t,rfl⟩
 |k+1,a,c,⟨d,w,t⟩=>by
  obtain⟨b,t',w'⟩:=d_.Db w;exact⟨b,t',d,w',t⟩
def lX(ts:Ts)(a b d:Nat):Prop:=d_ ts d a b/\∀k,d_ ts k a b->d<=k
theorem lX.uniq(h:lX ts a b d)(g:lX ts a b e):d=e:=Nat.le_antisymm (h.2 _ g.1) (g.2 _ h.1)
theorem JJ{ts:Ts}{a b:Nat}:∀k,d_ ts k a b->∃d,lX ts a b d:=by
 intro k;induction k using Nat.strongRecOn with
 |ind k ih=>
  intro w;by_cases h:∃j,j<k/\d_ ts j a b
  .obtain⟨j,hj,wj⟩:=h;exact ih j hj wj
  .exact⟨k,w,fun j wj=>lr fun z=>h ⟨j,by lia,wj⟩⟩
open Classical in
noncomputable def far(ts:Ts)(a b:Nat):Nat:=if h:∃d,lX ts a b d then h.choose else 0
theorem Dc(h:lX ts a b d):far ts a b=d:=by
 unfold far;have hx:∃d,lX ts a b d:=⟨d,h⟩
 rw[dif_pos hx];exact hx.choose_spec.uniq h
theorem JK{ts:Ts}{a b k:Nat}(w:d_ ts k a b):lX ts a b (far ts a b):=by
 obtain⟨d,h⟩:=JJ k w;rw[Dc h];exact h
structure eU(n:Nat)(ts:Ts):Prop where
 n1:2<=n
 n2:n<=32
 nd:ts.Nodup
 rg:∀t∈ts,(0<=t.1/\t.1<n)/\(0<=t.2/\t.2<n)
 ne:∀t∈ts,t.1≠t.2
 QJ:∀h:Int,(ts.filter fun t=>decide (t.1=h)).length=(ts.filter fun t=>decide (t.2=h)).length
 most:∀h:Int,(ts.filter fun t=>decide (t.1=h)).length<=8
 con:∀a b,a<n->b<n->∃k,d_ ts k a b
theorem A5(f:α->Int):∀ (l:List α) (n:Nat),(∀x∈l,0<=f x/\f x<n)->(∀h:Int,(l.filter fun t=>decide (f t=h)).length<=8)->l.length<=8*n:=by
 intro l n;induction n generalizing l with
 |zero=>
  intro h _;cases l with
  |nil=>simp
  |cons x xs=>have:=h x cD;lia
 |succ n ih=>
  intro h h8;have e:l.length=(l.filter fun t=>decide (f t=(n:Int))).length+(l.filter fun t=>!decide (f t=(n:Int))).length:=by
   induction l with
   |nil=>rfl
   |cons x xs Tc=>
    have:=Tc (fun y hy=>h y (bP _ hy)) (fun hh=>aX (by rw[eJ];split <;> simp) (h8 hh));by_cases q:f x=(n:Int) <;> simp[eJ,q] <;> lia
  have i2:=ih (l.filter fun t=>!decide (f t=(n:Int))) (fun x hx=>by
   have a:=h x (cg.mp hx |>.1);have b:=(cg.mp hx).2;simp at b;lia) (fun hh=>by
   refine aX ?_ (h8 hh);exact(List.filter_sublist.filter _).length_le)
  have:=h8 (n:Int);lia
theorem eU.len(F:eU n ts):ts.length<=256:=by
 have:=A5 (·.1) ts n (fun t ht=>(F.rg t ht).1) F.most;have:=F.n2;lia
theorem eU.QK(F:eU n ts)(h:T ts a b):a<n/\b<n/\a≠b:=by
 have q:=F.rg _ h;have q2:=F.ne _ h;refine⟨by have:=q.1;simp at this;lia,by have:=q.2;simp at this;lia,fun e=>q2 (by rw[e])⟩
theorem eU.vK{n:Nat}{ts:Ts}(F:eU n ts){a b:Nat}(ha:a<n)(hb:b<n):lX ts a b (far ts a b):=
 let ⟨_,w⟩:=F.con a b ha hb;JK w
def cf(n:Nat)(ts:Ts)(h:Nat):List Nat:=((List.range n).map fun s=>(h+s) % n).filter fun o=>decide (T ts h o)
theorem dE(F:eU n ts)(hh:h<n):o∈cf n ts h↔T ts h o:=by
 unfold cf;rw[cg,r0];refine⟨fun z=>z.2,fun z=>⟨?_,z⟩⟩;obtain⟨_,h2,_⟩:=F.QK z;refine bo.mpr ⟨if h<=o then o-h else o+n-h,bu.mpr (by split <;> lia),?_⟩;split
 .rw[show h+(o-h)=o by lia,sf h2]
 .rw[show h+(o+n-h)=o+n by lia,Nat.add_mod_right,sf h2]
theorem tS(F:eU n ts)(hh:h<n)(ho:o∈cf n ts h):o<n:=(F.QK ((dE F hh).mp ho)).2.1
def key(n h o:Nat):Int:=((o:Int)-(h:Int)) % (n:Int)
theorem Dd(hh:h<n)(hs:s<n):key n h ((h+s) % n)=(s:Int):=by
 unfold key;by_cases c:h+s<n
 .rw[sf c,show (((h+s:Nat):Int)-(h:Int))=(s:Int) by lia];exact Int.emod_eq_of_lt (by lia) (by lia)
 .have e:(h+s) % n=h+s-n:=by
   rw[Nat.mod_eq_sub_mod (by lia),sf (by lia)]
  rw[e,show ((((h+s-n:Nat)):Int)-(h:Int))=(s:Int)-(n:Int) by lia,Int.sub_emod_right];exact Int.emod_eq_of_lt (by lia) (by lia)
theorem nX(hh:h<n):(cf n ts h).Pairwise fun a b=>key n h a<key n h b:=by
 unfold cf;refine kC _ ?_;refine i_.mpr ?_;refine BY ?_ (List.pairwise_lt_range (n:=n));intro a b ha hb Ic;rw[Dd hh (bu.mp ha),Dd hh (bu.mp hb)];lia
theorem nY{α:Type}{k:α->Int}:∀ {a b:List α},a.Pairwise (fun x y=>k x<k y)->b.Pairwise (fun x y=>k x<k y)->(∀x,x∈a↔x∈b)->a=b
 |[],[],_,_,_=>rfl
 |[],y::ys,_,_,h=>absurd ((h y).mpr cD) (by simp)
 |x::xs,[],_,_,h=>absurd ((h x).mp cD) (by simp)
 |x::xs,y::ys,ha,hb,h=>by
  obtain⟨a1,a2⟩:=o5.mp ha;obtain⟨b1,b2⟩:=o5.mp hb;have e:x=y:=by
   rcases aS.mp ((h x).mp cD) with z|z
   .exact z
   .rcases aS.mp ((h y).mpr cD) with z'|z'
    .exact z'.symm
    .have q1:=b1 x z;have q2:=a1 y z';lia
  subst e;refine congrArg (x::·) (nY a2 b2 fun z=>⟨fun hz=>?_,fun hz=>?_⟩)
  .rcases aS.mp ((h z).mp (bP _ hz)) with q|q
   .subst q;exact absurd (a1 _ hz) (by lia)
   .exact q
  .rcases aS.mp ((h z).mpr (bP _ hz)) with q|q
   .subst q;exact absurd (b1 _ hz) (by lia)
   .exact q
structure A6(n:Nat)(ts:Ts)(s i:Nat)(R:List Nat)(f:Nat->Nat):Prop where
 nd:R.Nodup
 lt:∀x∈R,x<n
 st:s∈R
 z:f s=0
 wk:∀x∈R,d_ ts (f x) s x
 up:R.Pairwise fun a b=>f a<=f b
 bd:∀u,R[i]?=some u->∀x∈R,f x<=f u+1
 cl:∀j u,j<i->R[j]?=some u->∀v,T ts u v->v∈R/\f v<=f u+1
theorem A6.start(hs:s<n):A6 n ts s 0 [s] (fun _=>0):=
 ⟨by simp,fun x hx=>by simp at hx;lia,by simp,rfl,fun x hx=>by simp at hx;subst hx;rfl,by simp,fun u _ x _=>by lia,fun j u h=>absurd h (by lia)⟩
def put(f:Nat->Nat)(v k:Nat):Nat->Nat:=fun y=>if y=v then k else f y
theorem jB:put f v k v=k:=by simp[put]
theorem fJ(h:x≠v):put f v k x=f x:=by simp[put,h]
theorem A6.add(B:A6 n ts s i R f)(hu:R[i]?=some u)(hv:v<n)(t:T ts u v)(hn:v∉R):A6 n ts s i (R++[v]) (put f v (f u+1)):=by
 have WG:u∈R:=du hu;have nv:∀x∈R,x≠v:=fun x hx e=>hn (e ▸ hx);have hi:i<R.length:=(dS.mp hu).1;refine⟨?_,fun x hx=>?_,hX _ B.st,by rw[fJ (nv s B.st)];exact B.z,fun x hx=>?_,?_,fun w hw x hx=>?_,fun j w hj hw x hx=>?_⟩
 .rw[kI];exact⟨B.nd,by simp,fun a ha b hb e=>by simp at hb;subst hb;exact hn (e ▸ ha)⟩
 .rcases cX.mp hx with z|z
  .exact B.lt x z
  .simp at z;lia
 .rcases cX.mp hx with z|z
  .rw[fJ (nv x z)];exact B.wk x z
  .simp at z;subst z;rw[jB];exact⟨u,B.wk u WG,t⟩
 .rw[wN];refine⟨B.up.imp_of_mem fun {a b} ha hb h=>by rw[fJ (nv a ha),fJ (nv b hb)];exact h,by simp,fun a ha b hb=>?_⟩;simp at hb;subst hb;rw[fJ (nv a ha),jB];exact B.bd u hu a ha
 .have Y3:w=u:=by
   rw[nL hi,hu] at hw;exact(a_ hw).symm
  subst Y3;rw[fJ (nv w WG)];rcases cX.mp hx with z|z
  .rw[fJ (nv x z)];exact B.bd w hu x z
  .simp at z;subst z;rw[jB];exact aI _
 .rw[nL (by lia)] at hw;obtain⟨a,b⟩:=B.cl j w hj hw x hx;refine⟨hX _ a,?_⟩;rw[fJ (nv x a),fJ (nv w (du hw))];exact b
theorem A6.next(B:A6 n ts s i R f)(hu:R[i]?=some u)(h:∀v,T ts u v->v∈R/\f v<=f u+1):A6 n ts s (i+1) R f:=by
 refine⟨B.nd,B.lt,B.st,B.z,B.wk,B.up,fun w hw x hx=>?_,fun j w hj hw v hv=>?_⟩
 .have h1:=B.bd u hu x hx;have h2:f u<=f w:=by
   have hi:i<R.length:=(dS.mp hu).1;have qL:i+1<R.length:=(dS.mp hw).1;have:=wz.mp B.up i (i+1) hi qL (by lia);rw[bT hi] at hu;rw[bT qL] at hw;rw[a_ hu,a_ hw] at this;exact this
  lia
 .by_cases e:j=i
  .subst e;rw[hu] at hw;cases hw;exact h v hv
  .exact B.cl j w (by lia) hw v hv
theorem fU:∀ {n:Nat} {R:List Nat},R.Nodup->(∀x∈R,x<n)->R.length<=n:=by
 intro n R hn hl;have key:∀ (a b:List Nat),a.Nodup->(∀x∈a,x∈b)->a.length<=b.length:=by
  intro a;induction a with
  |nil=>intro b _ _;exact ce _
  |cons x xs ih=>
   intro b hn hs;obtain⟨h1,h2⟩:=fZ.mp hn;have hx:x∈b:=hs x cD;have:=ih (b.erase x) h2 fun y hy=>(wO (fun (e:y=x)=>h1 (e ▸ hy))).mpr (hs y (bP _ hy));rw[wB hx] at this;have:0<b.length:=wH hx;rw[dv];lia
 have:=key R (List.range n) hn fun x hx=>bu.mpr (hl x hx);rwa [fK] at this
theorem A6.done(B:A6 n ts s i R f)(F:eU n ts)(hi:R.length<=i)(hx:x<n):x∈R/\f x=far ts s x:=by
 have cl:∀u∈R,∀v,T ts u v->v∈R/\f v<=f u+1:=fun u hu v hv=>by
  obtain⟨j,hj,e⟩:=rS.mp hu;exact B.cl j u (by lia) (by rw[bT hj,e]) v hv
 have walk:∀k x,d_ ts k s x->x∈R/\f x<=k:=by
  intro k;induction k with
  |zero=>intro x e;cases e;exact⟨B.st,by rw[B.z];exact aI _⟩
  |succ k ih=>
   rintro x ⟨c,w,t⟩;obtain⟨c1,c2⟩:=ih c w;obtain⟨d1,d2⟩:=cl c c1 x t;exact⟨d1,by lia⟩
 obtain⟨k,w⟩:=F.con s x (B.lt s B.st) hx;obtain⟨m,_⟩:=walk k x w;exact⟨m,(Dc ⟨B.wk x m,fun k w=>(walk k x w).2⟩).symm⟩
abbrev ci(x:Nat):Int:=(x:Int)
theorem fV{xs:List Nat}{k:Nat}(h:k<xs.length):xs.getD k 0=xs[k]:=by rw[b9,bT h];rfl
theorem eU.De{n:Nat}{ts:Ts}(F:eU n ts){a b k:Nat}(ha:a<n)(hb:b<n)(w:d_ ts k a b):far ts a b<=k:=(F.vK ha hb).2 k w
theorem lc(hh:h<n):(cf n ts h).Nodup:=(nX hh).imp fun {a b} Ic e=>by subst e;lia
end iN
namespace L2
open PySem PySem.Spec PyProof.Rows
section
variable {X:Cx}
theorem p7:∀ {ns:List Int} {its:List Value},aO (ns.map V.int) its->∃xs:List (Int×Tok),its=xs.map (fun p=>Value.int p.1 p.2)/\xs.map (·.1)=ns
 |[],_,r=>by cases r;exact⟨[],rfl,rfl⟩
 |n::ns,_,r=>by
  cases r with
  |cons r rr=>
   obtain⟨t,rfl⟩:=(show ∃t,_=Value.int n t from r)
   obtain⟨xs,rfl,e⟩:=p7 rr;exact⟨(n,t)::xs,rfl,by rw[ie,e]⟩
def NH(K:PySem.W.Frag):List V->Hp->VK->Prop:=fun xs H Q=>∃ (l:Addr) (ns:List Int),xs=[.ref l]/\ba K H l (ns.map V.int)/\ns≠[]/\∀M,M∈ns->(∀a∈ns,a<=M)->Q (.int M) H
theorem rp(hc:X.calm=true):gf X (.builtin "max") (NH X.K):=by
 intro ae s σ H xs us Q I r h;obtain⟨l,ns,rfl,hl,m9,q⟩:=h;obtain⟨u1,rfl,r1⟩:=r.one;obtain rfl:u1=Value.ref l:=r1;obtain⟨its,rv,pl,_⟩:=I.list hl;obtain⟨ps,rfl,rfl⟩:=p7 rv;have hi:intItems ps.toArray=(ps.map (fun p=>Value.int p.1 p.2)).toArray:=by unfold intItems;simp
 have iG:0<ps.toArray.size:=by
  cases ps with
  |nil=>exact absurd rfl m9
  |cons p ps=>simp
 refine max_intList (I.ok.hd hc) (xs:=ps.toArray) (by rw[hi];exact pl.isList) iG fun v h' tk hv hk=>?_;obtain⟨t,rfl⟩:=intItems_at hv;obtain⟨h1,h2⟩:=argBest_gt (numAt ps.toArray) (ps.toArray.size-1);have num:∀j,j<ps.length->numAt ps.toArray j∈ps.map (·.1)/\numAt ps.toArray j=(ps.map (·.1)).getD j 0:=fun j hj=>by
  have e:numAt ps.toArray j=ps[j].1:=by unfold numAt;simp[bT hj]
  refine⟨by rw[e];exact bo.mpr ⟨_,eC hj,rfl⟩,?_⟩;rw[e,b9,bi,bT hj];rfl
 have hb:argBest (fun i j=>decide (numAt ps.toArray i > numAt ps.toArray j)) (ps.toArray.size-1)<ps.length:=by
  have:ps.toArray.size=ps.length:=by simp
  lia
 refine⟨.int _,H,I.kept (t':=tk) hk,⟨t,rfl⟩,q _ (num _ hb).1 fun a ha=>?_⟩;obtain⟨j,hj,e⟩:=rS.mp ha;rw[aH] at hj;have:=h2 j (by (have:ps.toArray.size=ps.length:=by simp);lia);rw[(num j hj).2,b9,bT (by rw[aH];exact hj)] at this;rw[<-e];exact this
end
end L2
namespace iN
abbrev yk(u:Int×Int):Int×Int:=(u.2,u.1)
def jQ(ps:Ts):Ts:=ps.flatMap fun u=>[u,yk u]
theorem yl:jQ (ps++qs)=jQ ps++jQ qs:=List.flatMap_append
theorem lY:∀ {ps:Ts},(jQ ps).Perm (ps++ps.map yk)
 |[]=>List.Perm.refl _
 |u::ps=>by
  have ih:=lY (ps:=ps);show (u::yk u::jQ ps).Perm (u::(ps++yk u::ps.map yk));refine List.Perm.cons _ ?_;exact(ih.cons _).trans List.perm_middle.symm
theorem tT:∀ {ps:Ts},(jQ ps).length=2*ps.length
 |[]=>rfl
 |u::ps=>by
  have ih:=tT (ps:=ps);show (jQ ps).length+2=2*(ps.length+1);lia
theorem zx(h:u∈jQ ps):yk u∈jQ ps:=by
 obtain⟨v,hv,hu⟩:=o_.mp h;refine o_.mpr ⟨v,hv,?_⟩;rcases aS.mp hu with e|e
 .rw[e];exact bP _ (cE.mpr rfl)
 .rw[cE.mp e];exact cD
theorem FQ:u∈jQ ps↔u∈ps\/yk u∈ps:=by
 rw[(lY (ps:=ps)).mem_iff,cX];refine or_congr Iff.rfl ⟨fun h=>?_,fun h=>bo.mpr ⟨_,h,rfl⟩⟩;obtain⟨v,hv,rfl⟩:=bo.mp h;exact hv
theorem FR:((jQ ps).map yk).Perm (jQ ps):=by
 refine((lY (ps:=ps)).map yk).trans (List.Perm.trans ?_ (lY (ps:=ps)).symm);rw[cn,dh];have e:ps.map (yk ∘ yk)=ps:=(kF fun u _=>rfl).trans (mK ps);rw[e];exact i6
def A7(x:Nat):List Nat->Bool
 |[]=>false
 |y::ys=>Nat.beq x y||A7 x ys
theorem p8:∀ {ys:List Nat},A7 x ys=true↔x∈ys
 |[]=>by simp[A7]
 |y::ys=>by
  unfold A7;rw[kL,p8 (ys:=ys),aS];exact or_congr ⟨fun h=>j6 h,fun h=>by rw[h];exact pz y⟩ Iff.rfl
def NI:List Nat->Bool
 |[]=>true
 |x::xs=>!A7 x xs&&NI xs
theorem ym:∀ {xs:List Nat},NI xs=true->xs.Nodup
 |[],_=>xn
 |x::xs,h=>by
  unfold NI at h;rw[df] at h;refine fZ.mpr ⟨fun z=>?_,ym h.2⟩;rw[p8.mpr z] at h;exact absurd h.1 (by decide)
def QL:List Nat->Bool
 |x::y::r=>Nat.ble x y&&QL (y::r)
 |_=>true
theorem Df:∀ {xs:List Nat},QL xs=true->xs.Pairwise (·<=·)
 |[],_=>List.Pairwise.nil
 |[x],_=>List.pairwise_singleton _ _
 |x::y::r,h=>by
  unfold QL at h;rw[df] at h;have ih:=Df h.2;refine o5.mpr ⟨fun z hz=>?_,ih⟩;have h1:=oX h.1;rcases aS.mp hz with e|e
  .rw[e];exact h1
  .exact aX h1 ((o5.mp ih).1 z e)
abbrev kh(q:Nat×Nat):Int×Int:=((q.1:Int),(q.2:Int))
def NJ(qs:List (Nat×Nat)):List Nat:=qs.flatMap fun q=>[64*q.1+q.2,64*q.2+q.1]
def FT(c:Nat):Int×Int:=(((c / 64:Nat):Int),((c % 64:Nat):Int))
theorem p9(h:b<64):FT (64*a+b)=((a:Int),(b:Int)):=by
 unfold FT;rw[show (64*a+b) / 64=a by lia,show (64*a+b) % 64=b by lia]
theorem oE:∀ {qs:List (Nat×Nat)},(∀q∈qs,q.1<64/\q.2<64)->(NJ qs).map FT=jQ (qs.map kh)
 |[],_=>rfl
 |q::qs,h=>by
  have ih:=oE (qs:=qs) fun x hx=>h x (bP _ hx);obtain⟨h1,h2⟩:=h q cD;show FT (64*q.1+q.2)::FT (64*q.2+q.1)::(NJ qs).map FT=kh q::yk (kh q)::jQ (qs.map kh);rw[ih,p9 h2,p9 h1]
def b1(b:Bool):Nat:=cond b 1 0
def Dg(h:Nat):List (Nat×Nat)->Nat
 |[]=>0
 |q::qs=>b1 (Nat.beq q.1 h)+(b1 (Nat.beq q.2 h)+Dg h qs)
theorem tU{h:Nat}:∀ {qs:List (Nat×Nat)},((jQ (qs.map kh)).filter fun t=>decide (t.1=(h:Int))).length=Dg h qs
 |[]=>rfl
 |q::qs=>by
  have ih:=tU (h:=h) (qs:=qs);have e:∀a:Nat,(if decide ((a:Int)=(h:Int))=true then 1 else 0)=b1 (Nat.beq a h):=fun a=>by
   by_cases c:a=h
   .subst c;rw[ao (by simp),pz];rfl
   .rw[aj (by simp;lia),show Nat.beq a h=false from ix.mpr fun z=>c (j6 z)];rfl
  show ((kh q::yk (kh q)::jQ (qs.map kh)).filter _).length=b1 (Nat.beq q.1 h)+(b1 (Nat.beq q.2 h)+Dg h qs);rw[<-ih,<-e q.1,<-e q.2,eJ,eJ];split <;> split <;> simp <;> lia
def Dh(n:Nat)(qs:List (Nat×Nat)):Bool:=Nat.ble 2 n&&(Nat.ble n 32&&(NI (NJ qs)&&(qs.all (fun q=>Nat.blt q.1 n&&(Nat.blt q.2 n&&!Nat.beq q.1 q.2))&&((List.range n).all (fun h=>Nat.ble (Dg h qs) 8) &&
 (List.range n).all (fun v=>Nat.beq v 0||(List.range v).reverse.any (fun u=>A7 (64*u+v) (NJ qs)))))))
theorem eh(h:Nat.blt a b=true):a<b:=oX h
theorem Di(h:Dh n qs=true):eU n (jQ (qs.map kh))/\∀q∈qs,q.1<64/\q.2<64:=by
 unfold Dh at h;simp only[df,fu,bu,kL,pe,List.mem_reverse] at h;obtain⟨h1,h2,h3,h4,h5,h6⟩:=h;have h1:=oX h1;have h2:=oX h2;have NK:∀q∈qs,q.1<64/\q.2<64:=fun q hq=>⟨by have:=eh (h4 q hq).1;lia,by have:=eh (h4 q hq).2.1;lia⟩
 have mem:∀t∈jQ (qs.map kh),∃q∈qs,t=kh q\/t=yk (kh q):=fun t ht=>by
  rcases FQ.mp ht with z|z
  .obtain⟨q,hq,e⟩:=bo.mp z;exact⟨q,hq,.inl e.symm⟩
  .obtain⟨q,hq,e⟩:=bo.mp z;exact⟨q,hq,.inr (by rw[e])⟩
 have rg:∀t∈jQ (qs.map kh),((0<=t.1/\t.1<n)/\(0<=t.2/\t.2<n))/\t.1≠t.2:=fun t ht=>by
  obtain⟨q,hq,e⟩:=mem t ht;have a:=eh (h4 q hq).1;have b:=eh (h4 q hq).2.1;have c:q.1≠q.2:=fun z=>by have:=(h4 q hq).2.2;rw[z,pz] at this;exact absurd this (by decide)
  rcases e with rfl|rfl
  .exact⟨⟨⟨by show (0:Int)<=(q.1:Int);lia,by show (q.1:Int)<n;lia⟩,by show (0:Int)<=(q.2:Int);lia,by show (q.2:Int)<n;lia⟩,by show ((q.1:Nat):Int)≠(q.2:Nat);lia⟩
  .exact⟨⟨⟨by show (0:Int)<=(q.2:Int);lia,by show (q.2:Int)<n;lia⟩,by show (0:Int)<=(q.1:Int);lia,by show (q.1:Int)<n;lia⟩,by show ((q.2:Nat):Int)≠(q.1:Nat);lia⟩
 have QJ:∀h:Int,((jQ (qs.map kh)).filter fun t=>decide (t.1=h)).length=((jQ (qs.map kh)).filter fun t=>decide (t.2=h)).length:=fun h=>by
  rw[<-(FR (ps:=qs.map kh)).filter (fun t=>decide (t.1=h)) |>.length_eq,List.filter_map,aH];rfl
 have nd:(jQ (qs.map kh)).Nodup:=by
  rw[<-oE NK];refine List.Pairwise.map _ (fun a b Ic e=>Ic ?_) (List.nodup_iff_pairwise_ne.mp (ym h3));have e1:a / 64=b / 64:=gW (congrArg Prod.fst e);have e2:a % 64=b % 64:=gW (congrArg Prod.snd e);lia
 refine⟨⟨h1,h2,nd,fun t ht=>(rg t ht).1,fun t ht=>(rg t ht).2,QJ,fun h=>?_,fun a b ha hb=>?_⟩,NK⟩
 .by_cases c:0<=h/\h<n
  .have:=oX (h5 h.toNat (by lia));rw[<-tU,Int.toNat_of_nonneg c.1] at this;exact this
  .have e:(jQ (qs.map kh)).filter (fun t=>decide (t.1=h))=[]:=List.filter_eq_nil_iff.mpr fun t ht e=>c ((show t.1=h from c_ e) ▸ (rg t ht).1.1);rw[e];exact ce _
 .have Fl:∀v,v<n->(∃k,d_ (jQ (qs.map kh)) k 0 v)/\∃k,d_ (jQ (qs.map kh)) k v 0:=by
   intro v;induction v using Nat.strongRecOn with
   |ind v ih=>
    intro hv;rcases h6 v hv with e|⟨u,hu,t1⟩
    .have e:=j6 e;subst e;exact⟨⟨0,rfl⟩,0,rfl⟩
    .obtain⟨⟨k,w⟩,l,w'⟩:=ih u hu (by lia);have t:T (jQ (qs.map kh)) u v:=by
      have:=bo.mpr ⟨_,p8.mp t1,p9 (a:=u) (b:=v) (by lia)⟩;rw[oE NK] at this;exact this
     have t':T (jQ (qs.map kh)) v u:=zx t;exact⟨⟨k+1,u,w,t⟩,l+1,d_.cons t' w'⟩
  obtain⟨_,k,w⟩:=Fl a ha;obtain⟨⟨l,w'⟩,_⟩:=Fl b hb;exact⟨_,w.trans w'⟩
def jC(f b:Nat):List (Nat×Nat):=(List.range f).flatMap fun at_=>(List.range (b ^ f)).flatMap fun h=>(List.range (b-h / b ^ at_ % b-1)).map fun k=>(h,h+(k+1)*b ^ at_)
def A8(f b h:Nat):List Nat:=(List.range f).map fun k=>h / b ^ k % b
def mf(f b o p:Nat):Nat:=((List.range f).filter fun k=>!Nat.beq ((A8 f b o).getD k 0) ((A8 f b p).getD k 0)).length
def tV(f b:Nat):List Nat:=(List.range (b ^ f)).flatMap fun o=>((List.range (b ^ f)).filter fun p=>Nat.beq (mf f b o p) 1).map fun p=>64*o+p
def tW(f b:Nat):Ts:=(tV f b).map FT
def zy(f b:Nat):Bool:=Dh (b ^ f) (jC f b)&&((NJ (jC f b)).isPerm (tV f b)&&QL (tV f b))
theorem yn:(List.range 6).all (fun f=>(List.range 6).all fun b=>Nat.blt f 1||(Nat.blt b 2||(Nat.blt 32 (b ^ f)||zy f b)))=true:=by decide +kernel
theorem lf(f1:1<=f)(f2:f<=5)(b1:2<=b)(b2:b<=5)(hm:b ^ f<=32):eU (b ^ f) (jQ ((jC f b).map kh))/\(jQ ((jC f b).map kh)).Perm (tW f b)/\(tW f b).Pairwise (fun u v=>64*u.1+u.2<=64*v.1+v.2):=by
 have:=fu.mp (fu.mp yn f (bu.mpr (by lia))) b (bu.mpr (by lia));rw[kL,kL,kL] at this;rcases this with z|z|z|z
 .have:=eh z;lia
 .have:=eh z;lia
 .have:=eh z;lia
 .unfold zy at z;rw[df,df] at z;obtain⟨h1,h2,h3⟩:=z;obtain⟨F,NK⟩:=Di h1;refine⟨F,?_,?_⟩
  .rw[<-oE NK];exact(List.isPerm_iff.mp h2).map FT
  .unfold tW;rw[i_];refine(Df h3).imp fun {a b} h=>?_;unfold FT;show 64*((a / 64:Nat):Int)+((a % 64:Nat):Int)<=64*((b / 64:Nat):Int)+((b % 64:Nat):Int);lia
end iN
namespace L2
open PySem PySem.Spec PyProof.Rows
def yo(scope:Scope)(bz:List (Str×Addr))(qual:Str)(f c L:Addr):Env:=
 { scope:=scope,locals:=L,globals:=mainGlobals,cells:=bz,qual:=qual++".<locals>.",func:=some f,code:=.ref c,frame:=some L,builtins:=builtinsNs }
def vL(X:Cx)(NB:List Str)(scope:Scope)(bz:List (Str×Addr))(qual:Str)(f c:Addr)(s:Shared)(H:Hp):Cx:=
 { X with A:=X.A.in1.in1.deeper (yo scope bz qual f c s.heap.objs.size),N:=NB,s₀:=s,H₀:=H,env:=yo scope bz qual f c s.heap.objs.size,outer:=X.stack,stack:=yo scope bz qual f c s.heap.objs.size::X.stack,ex:=[],fn:=fun _=>false,pn:=[],xe:=fun _ _=>False }
structure Dj(X:Cx)(NB:List Str)(src:List (Option Nat))(scope:Scope)(qual:Str)(params:Arguments)(body:Expr)(y:Str):Prop where
 bs:fA NB src scope X
 bind:∀bz pm c qv v,bindArgs (PySem.W.kla_fn "<lambda>" qual params body scope bz pm (.ref c) qv) ⟨[v],[]⟩=pure [(y,v)]
 y0:NB[0]?=some y
 s0:src[0]?=some none
 ly:scope.names.lookup y=some .local
 k0:∀z∈scope.names,z.2≠.cell
 co:scope.isCoroutine=false
 gen:scope.isGenerator=false
section
variable {X:Cx} {ae:List (Addr×Obj)} {σ:St} {H:Hp} {s:Shared} {NB:List Str} {src:List (Option Nat)} {scope:Scope} {qual:Str} {params:Arguments} {body:Expr} {y:Str} {bz:List (Str×Addr)} {f c:Addr} {h₁:Heap} {t₁:Nat} {v:V} {u:Value}
theorem FU(I:aE X ae σ H s)(S:Dj X NB src scope qual params body y)(hd:X.A.handled=none)(c1:∀x c,bz.lookup x=some c->X.env.cells.lookup x=some c)(c2:∀x,(x,NameKind.free)∈scope.names->∃c,bz.lookup x=some c)(hn:h₁.Ns s.heap.objs.size (fun x=>[(y,u)].lookup x))(hk:∀b o,s.heap.get? b=some o->h₁.get? b=some o)(rv:bw v u):
  aE (vL X NB scope bz qual f c s H) [] ((wq src σ).set 0 (some v)) H { s with heap:=h₁,toks:=t₁ }:=by
 have kZ:∀x c,bz.lookup x=some c->∃v,s.heap.IsCell c v:=fun x c e=>I.cell x c (c1 x c e);have B:=S.bs;refine⟨⟨I.ok.mod,B.kind,rfl,rfl,aI _,fun x y c e1 e2=>I.ok.inj x y c (c1 x c e1) (c1 y c e2),fun x hx=>?_,(fun x c z e=>by cases z),fun _=>hd,xb I.ok.frames,.inr ⟨rfl,rfl⟩,(fun b hb=>by cases hb),I.bs,aX I.ok.Ah I.sz,(fun b o e hb=>by cases hb),(fun b hb=>by cases hb),I.stack,I.lD⟩,
  rfl,I.bare,Un.kept hk,⟨_,hn,fun i x w e1 e2 e3=>?_⟩,fun x c e=>?_,I.bE.fresh (aI _),fun x c e=>I.iV x c (c1 x c e),fun p hp=>absurd (show p∈([]:List (Addr×Obj)) from hp) (by simp),I.bE.kept hk,?_⟩
 .have hx:scope.names.lookup x=some .cell\/scope.names.lookup x=some .free:=hx;rcases hx with z|z
  .exact absurd rfl (S.k0 _ (gE z))
  .exact c2 x (gE z)
 .have e1:NB[i]?=some x:=e1;cases i with
  |zero=>
   rw[S.y0] at e1;cases e1;have hl:0<(wq src σ).length:=by
    unfold wq;rw[aH];exact(dS.mp S.s0).1
   rw[mi hl] at e2;cases e2;exact⟨u,rv,.inl ⟨S.ly,by simp⟩⟩
  |succ i=>
   rw[oY (by lia)] at e2;obtain⟨j,hj,hv⟩:=yW e2;obtain⟨hN,hF⟩:=B.src (i+1) x j e1 hj;obtain⟨m0,X1,Qw⟩:=I.loc;have xK:=gE hF;have kx:=B.free _ xK rfl;have Ms:Lq X.env.scope x:=by
    rcases kx with z|z
    .exact .inr (.inl z)
    .exact .inr (.inr z)
   obtain⟨u',r,l⟩:=Qw j x w hN hv Ms;obtain⟨c',hc⟩:=c2 x xK;refine⟨u',r,.inr ⟨.inr hF,c',hc,?_⟩⟩;rcases l with ⟨EL,_⟩|⟨_,NL,e,z⟩
   .have Ct:X.env.scope.names.lookup x=some .local:=EL;rcases kx with z|z <;> (rw[z] at Ct;cases Ct)
   .rw[c1 x c' hc] at e;cases e;obtain⟨o,ho,Ai⟩:=z;exact⟨o,hk _ _ ho,Ai⟩
 .obtain⟨v,o,ho,Ai⟩:=kZ x c e;exact⟨v,o,hk _ _ ho,Ai⟩
 .show ((wq src σ).set 0 (some v)).length=NB.length;unfold wq;rw[jf,aH];exact B.len
theorem Dk(hr:bA k X.A)(S:Dj X NB src scope qual params body y)(I:aE X ae σ H s)(hf:H f=some (lT f qual params body scope X.env.cells c))(hc:H c=some (jw c qual))(rv:bw v u)(hb:∀bz s H,PE (vL X NB scope bz qual f c s H) body te)(h:te ((wq src σ).set 0 (some v)) H Q):
  wpAny (model X.prog X.w) X.A.in1.in1 (call (.ref f) [u]) (EP X ae σ Q) (fun _ _=>False) s:=by
 obtain⟨bz,pm,qv,c1,c2,Fk⟩:=(I.bE f _ hf).1;have Nb:s.heap.CodeRec (.ref c) qual:=(I.bE c _ hc).1;have vn:X.A.in1.in1.depth<recursionLimit:=by
  have:=hr.dp;show X.A.depth<_;lia
 refine jm (wM vn Fk rfl S.co S.gen rfl Nb ?_);rw[S.bind];refine wpAny_pure (wY S.k0 (fun x hx=>by rw[cE.mp hx];exact S.ly) (fun h₁ Fw CP=>⟨I.nolimit.fresh _ CP,?_⟩) S.bs.kind);have Fx:∀b o,s.heap.get? b=some o->h₁.get? b=some o:=fun b o e=>CP.extBut b o (aM (bb e)) (bv _ e);refine wL ?_;have J:=FU (f:=f) (c:=c) (t₁:=s.toks+1) I S hr.hd c1 c2 Fw Fx rv;refine gX (hb bz s H [] _ _ H Q J h) (fun w s' ⟨v',H',J',r',q'⟩=>?_) fun _ _ z=>z.elim;exact⟨v',H',I.B3 (ch:=[]) J'.os J'.base J'.bE J'.bare (fun b hb=>by cases hb),r',q'⟩
end
def zA(kz:Nat->Int)(a b:Nat):Prop:=64*kz a+a<=64*kz b+b
structure BF(ns:List Nat)(kz:Nat->Int)(ps:List Keyed):Prop where
 len:ps.length=ns.length
 at_:∀ (i n:Nat),ns[i]?=some n->∃t u,ps[i]?=some (Value.int (kz n) t,Value.int (n:Int) u)
theorem BF.mem(P:BF ns kz ps)(h:p∈ps):∃n∈ns,∃t u,p=(Value.int (kz n) t,Value.int (n:Int) u):=by
 obtain⟨i,hi,e⟩:=rT h;have hn:i<ns.length:=by rw[<-P.len];exact hi
 obtain⟨t,u,e2⟩:=P.at_ i ns[i] (bT hn);rw[bT hi] at e2;exact⟨_,eC hn,t,u,by rw[<-e];exact a_ e2⟩
theorem BF.map(P:BF ns kz ps):ps.map (fun p=>(numOf p.2).toNat)=ns:=by
 refine r_ fun i=>?_;rw[bi];cases e:ns[i]? with
 |none=>
  have:ns.length<=i:=List.getElem?_eq_none_iff.mp e;rw[iP (by rw[P.len];exact this)];rfl
 |some n=>
  obtain⟨t,u,e2⟩:=P.at_ i n e;rw[e2];rfl
def QM(p:Keyed):Int:=numOf p.1
def NM(p:Keyed):Int:=numOf p.2
theorem BF.nu(P:BF ns kz a.toList)(JM:ns.Pairwise (·<·))(JN:∀n∈ns,n<64):Nu NM a:=by
 have g:∀ (i n:Nat),ns[i]?=some n->kk NM a i=(n:Int):=fun i n e=>by
  obtain⟨t,u,e2⟩:=P.at_ i n e;unfold kk;rw[<-mn,e2];rfl
 refine⟨fun i j Bx hj=>?_,fun x hx=>?_⟩
 .have hj:j<ns.length:=by rw[<-P.len];simpa using hj
  rw[g i _ (bT (show i<ns.length by lia)),g j _ (bT hj)];have:=wz.mp JM i j (by lia) hj Bx;lia
 .obtain⟨n,hn,t,u,rfl⟩:=P.mem hx;have:=JN n hn;show 0<=(n:Int)/\(n:Int)<64;lia
theorem BF.cmp(P:BF ns kz a.toList):Fy prog w A s oneType' a QM:=fun x y hx hy Q E h=>by
 obtain⟨n,_,t,u,rfl⟩:=P.mem hx;obtain⟨m,_,t',u',rfl⟩:=P.mem hy;rw[keyLt'_oneType];exact oneLt_int h
theorem BF.out{ns:List Nat}{kz:Nat->Int}{a b:Array Keyed}(P:BF ns kz a.toList)(hp:b.Perm a)(so:uL QM NM b a.size):
  ∃out:List Nat,out.Perm ns/\out.Pairwise (zA kz)/\aO (out.map fun (x:Nat)=>V.int (x:Int)) (b.map (·.2)).toList:=by
 have hl:b.toList.Perm a.toList:=j4.mp hp;have mem:∀p∈b.toList,∃n∈ns,∃t u,p=(Value.int (kz n) t,Value.int (n:Int) u):=fun p h=>P.mem (hl.mem_iff.mp h);refine⟨b.toList.map fun p=>(numOf p.2).toNat,by rw[<-P.map];exact hl.map _,?_,?_⟩
 .refine i_.mpr ?_;rw[wz];intro i j hi hj Bx;have qL:i<b.size:=by simpa using hi
  have Td:j<b.size:=by simpa using hj
  have q:=so i j (iB Bx) (by rw[<-hp.size_eq];exact Td);rw[tJ qL,tJ qL,tJ Td,tJ Td] at q;obtain⟨n,_,t,u,e⟩:=mem b[i] (by simp);obtain⟨m,_,t',u',e'⟩:=mem b[j] (by simp);have e1:b.toList[i]=b[i]:=by simp
  have e2:b.toList[j]=b[j]:=by simp
  rw[e1,e2];rw[e,e'] at q;rw[e,e'];exact q
 .rw[pf,dh];have go:∀l:List Keyed,(∀p∈l,∃n∈ns,∃t u,p=(Value.int (kz n) t,Value.int (n:Int) u))->aO (l.map ((fun (x:Nat)=>V.int (x:Int)) ∘ fun p=>(numOf p.2).toNat)) (l.map (·.2)):=fun l=>by
   induction l with
   |nil=>intro _;exact .nil
   |cons x l ih=>
    intro h;obtain⟨n,_,t,u,rfl⟩:=h x cD;exact .cons ⟨u,rfl⟩ (ih fun p hp=>h p (bP _ hp))
  exact go _ mem
section
variable {X:Cx} {ae:List (Addr×Obj)} {σ:St} {H:Hp} {s:Shared}
theorem aE.NN(I:aE X ae σ H s)(f:eG X ae H a)(new:cK X.prog X.w (upd H a o) s.heap a o):aE X ae σ (upd H a o) s:=by
 have ne:∀ {b u},H b=some u->b≠a:=fun {b u} e z=>by rw[z,f.1] at e;cases e
 obtain⟨h,g,d,t,os⟩:=s;refine I.step (g':=g) (d':=d) (t':=t) (h':=h) (ch:=[a]) (fun b hb=>?_) (fun b o _ _ _ e _=>e) (fun b o _ _ _ e _=>⟨o.slots,e⟩) (fun b o hc _ n=>by rw[am (fun z=>hc (by simp[z]))];exact n)
  (fun b o _ e=>⟨o,e⟩) (fun b xs e=>by rw[am (ne e)];exact e) (fun b o u e=>by rw[am (ne e)];exact e) (fun b ps e=>⟨#[],by rw[am (ne e),e];simp⟩) (fun m hm=>hm) (fun b u e=>?_) I.bare
 .have e:b=a:=by simpa using hb
  subst e;exact⟨f.2.2.2.1,f.2.1,f.2.2.2.2.1,f.2.2.2.2.2⟩
 .by_cases hb:b=a
  .subst hb;rw[af] at e;cases e;exact new
  .rw[am hb] at e;exact(I.bE b u e).lC (fun _ _ _ q=>q) (fun d q=>by rw[am (ne q)];exact q) fun d xs q=>by rw[am (ne q)];exact q
variable {NB:List Str} {src:List (Option Nat)} {scope:Scope} {qual:Str} {params:Arguments} {body:Expr} {y:Str} {f c:Addr} {te:TE} {k:Nat} {ns:List Nat} {kz:Nat->Int} {its:List Value} {a kS:Addr} {e1:Nat}
theorem vM{st:SortSt}{jW:Array Value}{e:Nat}{E:Value->Shared->Prop}{A:Around}(I:aE X ae σ H s)(fa:eG X ae H a)(fk:eG X ae H kS)(JO:kS≠a)(oa:s.heap.get? a=some (seqObj "list" #[] e1))(ok:s.heap.get? kS=some (seqObj "list" jW e))(hk:jW.size<64)(AN:(arrOf st).size<64)(WI:failedOf st=none){out:List Nat}(hv:aO (out.map fun (x:Nat)=>V.int (x:Int)) ((arrOf st).map (·.2)).toList){P:PySem.Fin->Shared->Prop}(h:∀s',aE X ae σ (upd H a (.lst (out.map fun (x:Nat)=>V.int (x:Int)))) s'->P (.done (.ret .none)) s'):
  wpAny (model X.prog X.w) A (ksk_tail a false e1 (.ref kS) st) P E s:=by
 have s1:=mr s.heap kS (Obj.mapSeq fun _=>(#[]:Array Value));have Te:(s.heap.update kS (Obj.mapSeq fun _=>(#[]:Array Value))).get? a=some (seqObj "list" #[] e1):=(s1.2 a JO.symm).trans oa;have s2:=mr (s.heap.update kS (Obj.mapSeq fun _=>(#[]:Array Value))) a (Obj.mapSeq fun _=>(arrOf st).map (·.2));obtain⟨c2,Tf⟩:∃c2,((s.heap.update kS (Obj.mapSeq fun _=>(#[]:Array Value))).update a (Obj.mapSeq fun _=>(arrOf st).map (·.2))).get? a=some (seqObj "list" ((arrOf st).map (·.2)) c2):=⟨_,ji Te fun _=>(arrOf st).map (·.2)⟩
 have J1:=I.turned (t':=s.toks) (h':=s.heap.update kS (Obj.mapSeq fun _=>(#[]:Array Value))) (it:=kS) (fun b o hb q=>(s1.2 b hb).trans q) fk.1 fk.2.1 fk.2.2.2.1 fk.2.2.2.2.1 fk.2.2.2.2.2;have J2:=J1.turned (t':=s.toks) (h':=(s.heap.update kS (Obj.mapSeq fun _=>(#[]:Array Value))).update a (Obj.mapSeq fun _=>(arrOf st).map (·.2))) (it:=a) (fun b o hb q=>(s2.2 b hb).trans q) fa.1 fa.2.1 fa.2.2.2.1 fa.2.2.2.2.1 fa.2.2.2.2.2;have J3:=J2.NN fa (o:=.lst (out.map fun (x:Nat)=>V.int (x:Int))) ⟨?_,((arrOf st).map (·.2)).toList,c2,hv,by rw[Tf]⟩
 .unfold ksk_tail;try dsimp only
  refine ak (kO ok rfl ?_ (by rw[fw];lia) (ce _));refine ak (iD ?_);refine ak (pC Te rfl ?_);simp only[h9,dw];refine ak (kO Te rfl ?_ (ce _) (by rw[f_,fw];lia));rw[WI];simp only[w9,h9,dw];exact wpAny_pure (h _ J3)
 .have:=hv.length;rw[this,lx,f_,fw];lia
theorem FV{jW:Array Value}{e:Nat}{E:Value->Shared->Prop}{A:Around}(I:aE X ae σ H s)(fa:eG X ae H a)(fk:eG X ae H kS)(JO:kS≠a)(oa:s.heap.get? a=some (seqObj "list" #[] e1))(ok:s.heap.get? kS=some (seqObj "list" jW e))(hk:IntsAre jW.toList (ns.map kz))(hP:BF ns kz (jW.zip its.toArray).toList)(hl:its.length=ns.length)(AN:ns.length<64)(JM:ns.Pairwise (·<·))(JN:∀n∈ns,n<64){P:PySem.Fin->Shared->Prop}(h:∀s' (out:List Nat),out.Perm ns->out.Pairwise (zA kz)->aE X ae σ (upd H a (.lst (out.map fun (x:Nat)=>V.int (x:Int)))) s'->P (.done (.ret .none)) s'):
  wpAny (model X.prog X.w) A (ksk_end a false its.toArray e1 (.ref kS) jW) P E s:=by
 have iG:jW.size=ns.length:=by
  have h1:=hk.length;rw[lx,aH] at h1;exact h1
 have Y4:(jW.zip its.toArray).size=ns.length:=by rw[Array.size_zip,iG,bY,hl,pq]
 unfold ksk_end;simp only[h9,dw];by_cases h2:its.toArray.size<2
 .rw[ao h2,ao h2];refine ak (wpAny_pure ?_);rw[StateT.run_pure];refine ak (wpAny_pure ?_);try dsimp only
  rw[bY,hl] at h2;obtain⟨out,o1,o2,o3⟩:=hP.out (b:=jW.zip its.toArray) (xk _) (fun i j Bx hj=>by rw[Y4] at hj;rw[show i=j by lia];exact jl _);exact vM (st:=SortSt.mk' general' (jW.zip its.toArray) #[] 7 none) I fa fk JO oa ok (by lia) (by show (jW.zip its.toArray).size<64;lia) rfl o3 fun s' J=>h s' out o1 o2 J
 .rw[aj h2,aj h2];rw[bY,hl] at h2;rw[ksk_kind hk (by lia)];refine ak (wpAny_pure ?_);refine ak (gX (yb (st:=SortSt.mk' oneType' (jW.zip its.toArray) #[] 7 none) (a₀:=jW.zip its.toArray) (ck:=QM) (nu:=NM)
   (Q:=fun _ aw=>(arrOf aw).Perm (jW.zip its.toArray)/\failedOf aw=none/\uL QM NM (arrOf aw) (jW.zip its.toArray).size)
   hP.cmp (hP.nu JM JN) rfl rfl rfl rfl (by lia) (by lia) fun aw a1 a2 a3=>⟨a1,a2,a3⟩) ?_ fun _ _ e=>e)
  rintro⟨⟨⟩,aw⟩ s' ⟨rfl,hp,hf,hs⟩;try dsimp only
  obtain⟨out,o1,o2,o3⟩:=hP.out hp hs;exact vM I fa fk JO oa ok (by lia) (by rw[hp.size_eq];lia) hf o3 fun s' J=>h s' out o1 o2 J
theorem Dl(hr:bA k X.A)(S:Dj X NB src scope qual params body y)(hb:∀bz s H,PE (vL X NB scope bz qual f c s H) body te)(I:aE X ae σ H s)(hf:H f=some (lT f qual params body scope X.env.cells c))(hc:H c=some (jw c qual))(hv:aO (ns.map fun (x:Nat)=>V.int (x:Int)) its)(AN:ns.length<64)(JM:ns.Pairwise (·<·))(JN:∀n∈ns,n<64)(fa:eG X ae H a)(fk:eG X ae H kS)(JO:kS≠a)(oa:s.heap.get? a=some (seqObj "list" #[] e1))(ok:s.heap.get? kS=some (seqObj "list" #[] 0))(Tg:∀n∈ns,∀H',aK H H'->te ((wq src σ).set 0 (some (.int (n:Nat)))) H' fun v NO=>v=.int (kz n)/\aK H' NO)(h:∀H' s' (out:List Nat),aK H H'->H' a=none->out.Perm ns->out.Pairwise (zA kz)->aE X ae σ (upd H' a (.lst (out.map fun (x:Nat)=>V.int (x:Int)))) s'->P (.done (.ret .none)) s'):
  wpAny (model X.prog X.w) X.A.in1.in1 (ksk_rest a (.ref f) false its.toArray e1 (.ref kS)) P E s:=by
 have hl:its.length=ns.length:=by have:=hv.length;rw[aH] at this;exact this.symm
 unfold ksk_rest;refine ak (dJ ?_);first
  |rw[List.forIn_toArray]
  |(rw[<-o6];simp only[List.toList_toArray])
  |rw[<-o6]
 have NP:∀ {p:Addr×Obj} {b:Addr} {o:Obj} {H':Hp} {s':Shared},eG X ae H b->H' b=none->s'.heap.get? b=some o->(∀v,o.data≠.cell v)->p=(b,o)->s'.heap.get? p.1=some p.2/\H' p.1=none/\p.1≠X.env.locals/\p.1∉X.fs/\∀v,p.2.data≠.cell v:=fun {p b o H' s'} F n e d z=>by
  subst z;exact⟨e,n,F.2.1,F.2.2.1,d⟩
 have two:∀ {H':Hp} {s':Shared} {oK:Obj} {Th:List (Addr×Obj)},aE X Th σ H' s'->(∀p∈ae,p∈Th)->H' a=none->H' kS=none->s'.heap.get? a=some (seqObj "list" #[] e1)->s'.heap.get? kS=some oK->(∀v,oK.data≠.cell v)->aE X (ae++[(kS,oK),(a,seqObj "list" #[] e1)]) σ H' s':=fun {H' s' oK Th} J sub na nk ea ek d=>J.lE fun p hp=>by
  rcases cX.mp hp with z|z
  .exact J.pin p (cZ _ (sub p z))
  .rcases aS.mp z with z|z
   .exact NP fk nk ek d z
   .exact NP fa na ea (fun v z=>by cases z) (cE.mp z)
 refine ak (ksk_fold (fun i s'=>∃H' kA e,aK H H'/\aE X (ae++[(kS,seqObj "list" kA e),(a,seqObj "list" #[] e1)]) σ H' s'/\IntsAre kA.toList ((ns.take i).map kz)) its 0 s
  ⟨H,#[],0,aK.refl _,two I (fun p z=>z) fa.1 fk.1 oa ok (fun v z=>by cases z),by simpa using IntsAre.nil⟩ ?step ?done)
 case step=>
  rintro j x s' hx ⟨H',kA,e,sm,J,hk⟩;simp only[jk] at hk |-;have hj:j<ns.length:=by rw[<-hl];exact(dS.mp hx).1
  have WJ:ns[j]?=some ns[j]:=bT hj;obtain⟨u,hu,ru⟩:=hv.get (i:=j) (x:=V.int ((ns[j]:Nat):Int)) (by rw[bi,WJ];rfl);rw[hx] at hu;cases hu;refine ak (jj (gX (Dk hr S J (sm _ _ hf) (sm _ _ hc) ru hb (Tg ns[j] (eC hj) H' sm)) (fun w EI he=>?_) fun _ _ hF=>hF.elim));obtain⟨v,NO,J2,⟨uT,Y5⟩⟩:=he;obtain⟨rfl,vN⟩:=Y5;obtain⟨t2,rfl⟩:∃t,w=Value.int (kz ns[j]) t:=uT;try dsimp only
  have nk:=J2.pin (kS,seqObj "list" kA e) (cZ _ (cZ _ (.head _)));have na:=J2.pin (a,seqObj "list" #[] e1) (cZ _ (cZ _ (.tail _ (.head _))));have s1:=mr EI.heap kS (Obj.mapSeq (·.push (.int (kz ns[j]) t2)));obtain⟨c2,Tf⟩:∃c2,(EI.heap.update kS (Obj.mapSeq (·.push (.int (kz ns[j]) t2)))).get? kS=some (seqObj "list" (kA.push (.int (kz ns[j]) t2)) c2):=⟨_,ji nk.1 (·.push (.int (kz ns[j]) t2))⟩
  have hz:kA.size<=64:=by
   have h1:=hk.length;rw[lx,aH,pc] at h1;lia
  have J3:=(J2.lE (pins':=ae) fun p hp=>J2.pin p (cZ _ (hX _ hp))).turned (t':=EI.toks) (h':=EI.heap.update kS (Obj.mapSeq (·.push (.int (kz ns[j]) t2)))) (it:=kS) (fun b o hb q=>(s1.2 b hb).trans q) nk.2.1 fk.2.1 fk.2.2.2.1 fk.2.2.2.2.1 fk.2.2.2.2.2;refine ak (kO nk.1 rfl ?_ (by rw[fw];lia) (aX (pr (Array.size_push ..)) (by rw[fw];lia)));refine wpAny_pure ⟨rfl,NO,_,c2,sm.trans vN,two J3 (fun p z=>z) na.2.1 nk.2.1 ((s1.2 a JO.symm).trans na.1) Tf (fun v z=>by cases z),?_⟩;have ek:(ns.take (j+1)).map kz=(ns.take j).map kz++[kz ns[j]]:=by rw[gI,WJ,wW,cn];rfl
  have ea:(kA.push (Value.int (kz ns[j]) t2)).toList=kA.toList++[Value.int (kz ns[j]) t2]:=by simp
  rw[ea,ek];exact ksk_snoc hk
 case done=>
  rintro s' ⟨H',kA,e,sm,J,hk⟩;have EL:IntsAre kA.toList (ns.map kz):=by
   have e3:ns.take (0+its.length)=ns:=rN (by lia);rw[e3] at hk;exact hk
  have nk:=J.pin (kS,seqObj "list" kA e) (cZ _ (cZ _ (.head _)));have na:=J.pin (a,seqObj "list" #[] e1) (cZ _ (cZ _ (.tail _ (.head _))));try dsimp only
  refine ak (listItems_at nk.1 rfl ?_);have hP:BF ns kz (kA.zip its.toArray).toList:=by
   rw[ksk_zip];have l1:=EL.length;rw[aH] at l1;refine⟨by rw[List.length_zip,l1,hl,pq],fun i n hn=>?_⟩;have hi:i<ns.length:=(dS.mp hn).1;obtain⟨u,hu,t',rfl⟩:=hv.get (i:=i) (x:=V.int ((n:Nat):Int)) (by rw[bi,hn];rfl);have WK:i<kA.toList.length:=by rw[l1];exact hi
   obtain⟨m,t,em,en⟩:=EL.at i kA.toList[i] (bT WK);rw[bi,hn] at en;cases en;refine⟨t,t',?_⟩;rw[BU];exact⟨by rw[bT WK,em],hu⟩
  exact FV (J.lE (pins':=ae) fun p hp=>J.pin p (cZ _ (hX _ hp))) ⟨na.2.1,fa.2⟩ ⟨nk.2.1,fk.2⟩ JO na.1 nk.1 EL hP hl AN JM JN fun s2 out o1 o2 J2=>h H' s2 out sm na.2.1 o1 o2 J2
end
def JP(X:Cx)(NB:List Str)(src:List (Option Nat))(qual:Str)(params:Arguments)(body:Expr)(scope:Scope)(te:TE):St->List V->List V->Hp->VK->Prop:=fun σ vs zs H Q=>
 ∃ (l f c:Addr) (ns:List Nat) (kz:Nat->Int),vs=[.ref l]/\zs=[.ref f]/\ba X.K H l (ns.map fun (x:Nat)=>V.int (x:Int))/\ns.length<64/\ns.Pairwise (·<·)/\(∀n∈ns,n<64)/\H f=some (lT f qual params body scope X.env.cells c)/\H c=some (jw c qual)/\
  (∀n∈ns,∀H',aK H H'->te ((wq src σ).set 0 (some (.int (n:Nat)))) H' fun v NO=>v=.int (kz n)/\aK H' NO)/\
  ∀ (r:Addr) (H':Hp) (out:List Nat),aK H H'->H' r=none->out.Perm ns->out.Pairwise (zA kz)->Q (.ref r) (upd H' r (.lst (out.map fun (x:Nat)=>V.int (x:Int))))
theorem yp(hr:bA k X.A)(S:Dj X NB src scope qual params body y)(hb:∀f c bz s H,PE (vL X NB scope bz qual f c s H) body te):
  pR X "sorted" ["key"] (JP X NB src qual params body scope te):=by
 intro ae s σ H vs zs us ws Q I r rz h;obtain⟨l,f,c,ns,kz,rfl,rfl,hl,AN,JM,JN,hf,hc,Tg,q⟩:=h;obtain⟨u1,rfl,r1⟩:=r.one;obtain rfl:u1=Value.ref l:=r1;obtain⟨w1,rfl,Jt⟩:=rz.one;obtain rfl:w1=Value.ref f:=Jt;obtain⟨its,rv,pl,hz⟩:=I.list hl;have hln:its.length=ns.length:=by have:=rv.length;rw[aH] at this;exact this.symm
 show wpAny (model X.prog X.w) X.A (call (.builtin "sorted") [.ref l] [(Str.ofString "key",.ref f)]) _ _ s;refine call_function_entry_kw kind_sorted plain_sorted entry_sorted (ksk_s1 _ _) ?_;unfold Builtin.«sorted»;refine ak (m:=checkCount "sorted" 1 1 _) (wpAny_pure ?_);refine ak (collect_list pl.isList ?_ (by rw[fw];lia));refine ak (sB ?_ (by rw[fw];lia));have iG:((s.heap.push (seqObj "list" #[] 0)).update s.heap.objs.size (Obj.mapSeq (·++its.toArray))).objs.size=s.heap.objs.size+1:=by
  rw[fv,eN]
 have uP:(((s.heap.push (seqObj "list" #[] 0)).update s.heap.objs.size (Obj.mapSeq (·++its.toArray))).push (seqObj "list" its.toArray 0)).get? (s.heap.objs.size+1)=some (seqObj "list" its.toArray 0):=by
  rw[<-iG];exact b_ _ rfl
 have keep:∀b o,s.heap.get? b=some o->(((s.heap.push (seqObj "list" #[] 0)).update s.heap.objs.size (Obj.mapSeq (·++its.toArray))).push (seqObj "list" its.toArray 0)).get? b=some o:=fun b o q=>by
  have cV:b<s.heap.objs.size:=bb q;rw[eB _ _ _ (by rw[iG];exact aM (cz cV)),lz _ _ _ _ (aM cV),eB _ _ _ (aM cV)];exact q
 show wpAny _ _ _ _ _ { s with heap:=((s.heap.push (seqObj "list" #[] 0)).update s.heap.objs.size (Obj.mapSeq (·++its.toArray))).push (seqObj "list" its.toArray 0) };rw[iG];have EM:(((s.heap.push (seqObj "list" #[] 0)).update s.heap.objs.size (Obj.mapSeq (·++its.toArray))).push (seqObj "list" its.toArray 0)).objs.size=s.heap.objs.size+2:=by rw[eN,iG]
 generalize (((s.heap.push (seqObj "list" #[] 0)).update s.heap.objs.size (Obj.mapSeq (·++its.toArray))).push (seqObj "list" its.toArray 0))=h1 at *;refine ak (f9 (wpAny_call_entry_kw slot_list_sort ⟨_,uP,rfl⟩ entry_list_sort ?body (ksk_l1 _ _)));case body=>
  have Dm:=ksk_t1 f (s.heap.objs.size+1);show wpAny (model X.prog X.w) X.A.in1.in1 (Builtin.«list.sort» ⟨[.ref (s.heap.objs.size+1)],[(Str.ofString "key",.ref f)]⟩) _ _ _;rw[Dm];have s1:=mr h1 (s.heap.objs.size+1) (Obj.mapSeq fun _=>(#[]:Array Value));obtain⟨e1,FM⟩:∃e1,(h1.update (s.heap.objs.size+1) (Obj.mapSeq fun _=>(#[]:Array Value))).get? (s.heap.objs.size+1)=some (seqObj "list" #[] e1):=⟨_,ji uP fun _=>#[]⟩
  have hkS:((h1.update (s.heap.objs.size+1) (Obj.mapSeq fun _=>(#[]:Array Value))).push (seqObj "tuple" its.toArray 0)).objs.size=s.heap.objs.size+3:=by rw[eN,fv,EM]
  unfold ksk_tree;refine ak (listItems_at uP rfl ?_);refine ak (kO uP rfl ?_ (by rw[bY,fw];lia) (ce _));refine ak (pC FM rfl ?_);refine ak (pj ?_ (by show its.length<=_;rw[fw];lia));refine ak (sB ?_ (ce _));refine f9 ?_;have NQ:∀b o,s.heap.get? b=some o->(((h1.update (s.heap.objs.size+1) (Obj.mapSeq fun _=>(#[]:Array Value))).push (seqObj "tuple" its.toArray 0)).push (seqObj "list" #[] 0)).get? b=some o:=fun b o e=>
   bv _ (bv _ ((s1.2 b (aM (cz (bb e)))).trans (keep b o e)))
  have I2:aE X ae σ H { s with heap:=((h1.update (s.heap.objs.size+1) (Obj.mapSeq fun _=>(#[]:Array Value))).push (seqObj "tuple" its.toArray 0)).push (seqObj "list" #[] 0) }:=I.kept (t':=s.toks) NQ;refine Dl hr S (hb f c) I2 hf hc rv AN JM JN (I.qD (by lia) (I.bE.fresh (by lia))) (I.qD (b:=((h1.update (s.heap.objs.size+1) (Obj.mapSeq fun _=>(#[]:Array Value))).push (seqObj "tuple" its.toArray 0)).objs.size) (by lia) (I.bE.fresh (by lia))) (by lia) (bv _ (bv _ FM)) (b_ _ rfl) Tg fun H' s' out sm na o1 o2 J=>⟨_,rfl,?_⟩
  exact wpAny_pure ⟨_,rfl,.ref (s.heap.objs.size+1),_,J,rfl,q _ H' out sm na o1 o2⟩
def a9(cells:List (Str×Addr))(a:Addr):Prop:=∃x,cells.lookup x=some a
abbrev jD(h0:Heap)(b:Addr):HO:=.ext fun h=>h.get? b=h0.get? b
open Classical in
noncomputable def gw(S:Addr->Prop)(h0:Heap)(H:Hp):Hp:=fun b=>if S b then some (jD h0 b) else H b
open Classical in
noncomputable def mf(S:Addr->Prop)(H:Hp):Hp:=fun b=>if S b then none else H b
section
variable {S:Addr->Prop} {h0 h h':Heap} {H H':Hp} {b:Addr} {P:Program} {w:World} {fs:List Addr}
theorem lZ(e:S b):gw S h0 H b=some (jD h0 b):=ao e
theorem bB(e:¬ S b):gw S h0 H b=H b:=aj e
theorem hU(e:S b):mf S H b=none:=ao e
theorem b8(e:¬ S b):mf S H b=H b:=aj e
theorem gk(e:H b=none):mf S H b=none:=by
 by_cases c:S b
 .exact hU c
 .rw[b8 c];exact e
theorem zB(x:kP P w H h)(l:∀a,S a->H a=some (jD h0 a)):kP P w (mf S H) h:=fun a o e=>by
 by_cases c:S a
 .rw[hU c] at e;cases e
 .rw[b8 c] at e;exact(x a o e).lC (fun _ _ _ q=>q) (fun d q=>by rw[b8 fun z=>by rw[l d z] at q;cases q];exact q) fun d xs q=>by rw[b8 fun z=>by rw[l d z] at q;cases q];exact q
theorem vO(x:kP P w H h)(l:∀a,S a->H a=none/\h.get? a=h0.get? a/\∃o,h0.get? a=some o):kP P w (gw S h0 H) h:=fun a o e=>by
 by_cases c:S a
 .rw[lZ c] at e;cases e;obtain⟨_,e1,o,e2⟩:=l a c;exact⟨e1,⟨o,e1.trans e2⟩,fun h1 h2 z k=>(k o (z.trans e2)).trans e2.symm⟩
 .rw[bB c] at e;exact(x a o e).lC (fun _ _ _ q=>q) (fun d q=>by rw[bB fun z=>by rw[(l d z).1] at q;cases q];exact q) fun d xs q=>by rw[bB fun z=>by rw[(l d z).1] at q;cases q];exact q
theorem JQ(u:Un fs [] (gw S h0 H) H' h h')(l:∀a,S a->H a=none/\h.get? a=h0.get? a/\a∉fs)(l':∀a,S a->h'.get? a=h0.get? a):Un fs [] H (mf S H') h h' where
 keep:=fun b o e n hb hx=>by
  by_cases c:S b
  .rw[l' b c,<-(l b c).2.1];exact e
  .exact u.keep b o e (by rw[bB c];exact n) hb hx
 slot:=fun b o e n hb hx=>u.slot b o e (by rw[bB fun z=>(l b z).2.2 hb];exact n) hb hx
 free:=fun b o e n hx=>by
  by_cases c:S b
  .exact hU c
  .exact gk (u.free b o e (by rw[bB c];exact n) hx)
 there:=u.there
 kQ:=fun b xs e=>by
  have c:¬ S b:=fun z=>by rw[(l b z).1] at e;cases e
  rw[b8 c];exact u.kQ b xs (by rw[bB c];exact e)
 mQ:=fun b o v e=>by
  have c:¬ S b:=fun z=>by rw[(l b z).1] at e;cases e
  rw[b8 c];exact u.mQ b o v (by rw[bB c];exact e)
 mR:=fun b ps e=>by
  have c:¬ S b:=fun z=>by rw[(l b z).1] at e;cases e
  rw[b8 c];exact u.mR b ps (by rw[bB c];exact e)
theorem FW(u:Un fs [] (mf S H) H' h h')(l:∀a,S a->H a=some (jD h0 a)):Un fs [] H (gw S h0 H') h h' where
 keep:=fun b o e n hb hx=>u.keep b o e (gk n) hb hx
 slot:=fun b o e n hb hx=>u.slot b o e (gk n) hb hx
 free:=fun b o e n hx=>by
  have c:¬ S b:=fun z=>by rw[l b z] at n;cases n
  rw[bB c];exact u.free b o e (gk n) hx
 there:=u.there
 kQ:=fun b xs e=>by
  have c:¬ S b:=fun z=>by rw[l b z] at e;cases e
  rw[bB c];exact u.kQ b xs (by rw[b8 c];exact e)
 mQ:=fun b o v e=>by
  have c:¬ S b:=fun z=>by rw[l b z] at e;cases e
  rw[bB c];exact u.mQ b o v (by rw[b8 c];exact e)
 mR:=fun b ps e=>by
  have c:¬ S b:=fun z=>by rw[l b z] at e;cases e
  rw[bB c];exact u.mR b ps (by rw[b8 c];exact e)
end
structure vP(cells:List (Str×Addr))(h0:Heap)(H:Hp):Prop where
 inj:∀x y c,cells.lookup x=some c->cells.lookup y=some c->x=y
 at_:∀a,a9 cells a->H a=some (jD h0 a)
 cell:∀x c,cells.lookup x=some c->∃v,h0.IsCell c v
theorem vP.mono{cells:List (Str×Addr)}{h0:Heap}{H H':Hp}(l:vP cells h0 H)(s:∀a,a9 cells a->H a=some (jD h0 a)->H' a=some (jD h0 a)):vP cells h0 H':=⟨l.inj,fun a c=>s a c (l.at_ a c),l.cell⟩
def rq(cells:List (Str×Addr))(h0:Heap)(x:Str)(v:V):Prop:=∃u c,bw v u/\cells.lookup x=some c/\h0.IsCell c (some u)
def JR(X:Cx)(sp:Sp)(t:TA):TE:=fun σ H Q=>t σ H fun vs H1=>(∀a,a9 X.env.cells a->H1 a=none)->∀h0:Heap,vP X.env.cells h0 (gw (a9 X.env.cells) h0 H1)->(∀ (i:Nat) (x:Str) (v:V),X.N[i]?=some x->σ[i]?=some (some v)->X.env.scope.names.lookup x=some .cell->rq X.env.cells h0 x v)->
 sp vs (gw (a9 X.env.cells) h0 H1) (fun v H'=>(∀a,a9 X.env.cells a->H' a=some (jD h0 a))/\Q v (mf (a9 X.env.cells) H')) E0
section
variable {X:Cx} {k:Nat} {x:Str} {ps:List Str} {sp:Sp} {e:Expr} {es:List Expr} {t:TA} {p pos:Pos}
theorem FX(C:cB X.prog X.w X.K X.mg X.base aW k x ps sp)(hr:bA k X.A)(Mi:X.fn=fun _=>true)(hex:X.ex=[])(ha:PA X (e::es) t)(hg:Gl X x:=by rfl)(xG:(x==("__debug__":Str))=false:=by decide)(he:starEach (e::es) X.env=(false,eval e X.env)::starEach es X.env:=by rfl)(wn:(backTo pos (starEach es X.env)).any (·.1)=false:=by rfl):
  PE X (.Call (.Name x p) (e::es) [] pos) (JR X sp t):=by
 obtain⟨f,fd,hm,hk,hb,F⟩:=C.ex;intro ae s σ H Q I h;refine jd (lF I hg hm ?_ xG);refine rY (h₀:=X.base) I.ok.mod.Lp hk (cI (ha pos ae s σ H _ I h) fun us s1 ⟨vs,H1,I1,r,q⟩=>⟨I1.kR,?_⟩) he wn;have cF:∀a,a9 X.env.cells a->H1 a=none/\(∃o,s1.heap.get? a=some o)/\a∉Ag X.stack/\X.base.get? a=none:=fun a ⟨y,ey⟩=>by
  obtain⟨v,o,ho,hd⟩:=I1.cell y a ey;have ab:=I1.ok.Lr y a (by rw[Mi]) ey;refine⟨I1.iV y a ey,⟨o,ho⟩,fun k7=>?_,o0 (aX I1.ok.Ah ab)⟩;rcases aS.mp (I1.pE a k7) with z|z
  .exact I1.Ht y a ey z
  .obtain⟨_,o',qA,_⟩:=I1.ok.mT.mem z;exact absurd (cC (bb qA) ab) (iU _)
 have L:vP X.env.cells s1.heap (gw (a9 X.env.cells) s1.heap H1):=⟨I1.ok.inj,fun a c=>lZ c,I1.cell⟩
 have q':=q (fun a c=>(cF a c).1) s1.heap L fun i y v h1 h2 h3=>by
  obtain⟨m,_,hl⟩:=I1.loc;obtain⟨u,ru,lk⟩:=hl i y v h1 h2 (.inr (.inl h3));rcases lk with ⟨z,_⟩|⟨_,c,e1,e2⟩
  .have z:X.env.scope.names.lookup y=some .local:=z;rw[h3] at z;cases z
  .exact⟨u,c,ru,e1,e2⟩
 have Y6:uZ X.prog X.w X.K X.mg X.base X.A X.stack s1 (gw (a9 X.env.cells) s1.heap H1):=by
  obtain⟨e1,e2,e3,e4,e5,e6,e7,e8⟩:=I1.I_;refine⟨e1,e2,fun b o eb=>⟨(e3 b o eb).1,?_⟩,e4,e5,fun b k7=>?_,vO e7 fun a c=>⟨(cF a c).1,rfl,(cF a c).2.1⟩,e8⟩
  .rw[bB fun z=>by rw[(cF b z).2.2.2] at eb;cases eb];exact(e3 b o eb).2
  .rw[bB fun z=>(cF b z).2.2.1 k7];exact e6 b k7
 have hl:us.length=ps.length:=by rw[<-r.length];exact F.len _ _ _ _ q'
 have k7:=hb s1 us I1.kR (by rw[iz];exact hl);rw[iz] at k7;refine jm (kN (F.run X.A X.stack s1 _ ⟨us,[]⟩ us vs _ E0 hr Y6 k7 r q') fun rr s' hq=>?_);cases rr with
 |error e=>exact hq.elim
 |ok fl=>
  cases fl with
  |ret u=>
   obtain⟨v,H',os,bare,un,bE,rv,k1,k2⟩:=hq;have l':∀a,a9 X.env.cells a->s'.heap.get? a=s1.heap.get? a:=fun a c=>(bE a _ (k1 a c)).1;exact I1.after ⟨v,mf _ H',os,bare,JQ un (fun a c=>⟨(cF a c).1,rfl,(cF a c).2.2.1⟩) l',zB bE k1,rv,k2⟩
  |next=>exact False.elim hq
  |brk=>exact False.elim hq
  |cont=>exact False.elim hq
end
def tX(scope:Scope)(bz:List (Str×Addr))(qual:Str)(f c L:Addr):Env:=
 { scope:=scope,locals:=L,globals:=mainGlobals,cells:=bz,qual:=qual++".<locals>.",func:=some f,code:=.ref c,frame:=some L,builtins:=builtinsNs }
def yq(X:Cx)(NB:List Str)(scope:Scope)(bz:List (Str×Addr))(qual:Str)(f c:Addr)(s:Shared)(H:Hp):Cx:=
 { X with A:=X.A.deeper (tX scope bz qual f c s.heap.objs.size),N:=NB,s₀:=s,H₀:=H,env:=tX scope bz qual f c s.heap.objs.size,outer:=X.stack,stack:=tX scope bz qual f c s.heap.objs.size::X.stack,ex:=[],fn:=fun _=>false,pn:=[],xe:=fun _ _=>False }
structure zC(NB:List Str)(nP:Nat)(scope:Scope)(qual:Str)(params:Arguments)(body:Expr):Prop where
 kind:scope.kind=.function
 nd:NB.Nodup
 bind:∀bz pm c qv us,us.length=nP->bindArgs (PySem.W.kla_fn "<lambda>" qual params body scope bz pm (.ref c) qv) ⟨us,[]⟩=pure ((NB.take nP).zip us)
 par:∀x∈NB.take nP,scope.names.lookup x=some .local
 fr:∀i x,nP<=i->NB[i]?=some x->scope.names.lookup x=some .free
 k0:∀z∈scope.names,z.2≠.cell
 co:scope.isCoroutine=false
 gen:scope.isGenerator=false
theorem vQ{x:Str}{v:Value}:∀ {l:List (Str×Value)},(l.map (·.1)).Nodup->(x,v)∈l->l.lookup x=some v
 |(y,u)::l,nd,h=>by
  obtain⟨n1,n2⟩:=fZ.mp nd;rcases aS.mp h with z|z
  .injection z with z1 z2;rw[z1,z2,eY,beq_self_eq_true]
  .have ne:x≠y:=fun e=>n1 (by rw[<-e];exact bo.mpr ⟨_,z,rfl⟩);rw[eY,show (x==y)=false by simpa using ne];exact vQ n2 z
theorem Dn{x:Str}{v:Value}{l:List Str}{us:List Value}{i:Nat}(nd:l.Nodup)(hl:l.length<=us.length)(h1:l[i]?=some x)(h2:us[i]?=some v):(l.zip us).reverse.lookup x=some v:=by
 refine vQ ?_ (List.mem_reverse.mpr (du (i:=i) ?_))
 .rw[List.map_reverse,List.map_fst_zip hl];exact(r9 l).nodup_iff.mpr nd
 .rw[BU];exact⟨h1,h2⟩
section
variable {X:Cx} {ae:List (Addr×Obj)} {σ:St} {H:Hp} {s:Shared} {NB:List Str} {nP:Nat} {scope:Scope} {qual:Str} {params:Arguments} {body:Expr} {bz cells:List (Str×Addr)} {f c:Addr} {h₁ h0:Heap} {t₁:Nat} {vs ws:List V} {us:List Value}
theorem Do(I:aE X ae σ H s)(S:zC NB nP scope qual params body)(hd:X.A.handled=none)(QN:X.calm=true)(c1:∀x c,bz.lookup x=some c->cells.lookup x=some c)(c2:∀x,(x,NameKind.free)∈scope.names->∃c,bz.lookup x=some c)(L:vP cells h0 H)(hw:∀ (i:Nat) (x:Str) (v:V),NB[nP+i]?=some x->ws[i]?=some v->rq cells h0 x v)(hn:h₁.Ns s.heap.objs.size (fun x=>((NB.take nP).zip us).reverse.lookup x))(hk:∀b o,s.heap.get? b=some o->h₁.get? b=some o)(rv:aO vs us)(hv:vs.length=nP)(dX:nP+ws.length=NB.length):
  aE (yq X NB scope bz qual f c s (mf (a9 cells) H)) [] ((vs++ws).map some) (mf (a9 cells) H) { s with heap:=h₁,toks:=t₁ }:=by
 have Y7:∀ {x c},bz.lookup x=some c->a9 cells c:=fun {x c} e=>⟨x,c1 x c e⟩
 have Y8:∀a,a9 cells a->s.heap.get? a=h0.get? a:=fun a z=>(I.bE a _ (L.at_ a z)).1;have kZ:∀x c v,cells.lookup x=some c->h0.IsCell c v->h₁.IsCell c v:=fun x c v e ⟨o,ho,Ai⟩=>⟨o,hk _ _ ((Y8 c ⟨x,e⟩).trans ho),Ai⟩
 refine⟨⟨I.ok.mod,S.kind,rfl,rfl,aI _,fun x y c e1 e2=>L.inj x y c (c1 x c e1) (c1 y c e2),fun x hx=>?_,(fun x c z e=>by cases z),fun _=>hd,xb I.ok.frames,.inr ⟨rfl,rfl⟩,(fun b hb=>by cases hb),fun b o e=>⟨(I.bs b o e).1,gk (I.bs b o e).2⟩,aX I.ok.Ah I.sz,(fun b o e hb=>by cases hb),(fun b hb=>by cases hb),I.stack,fun b hb=>gk (I.lD b hb)⟩,
  rfl,I.bare,Un.kept hk,⟨_,hn,fun i x w e1 e2 e3=>?_⟩,fun x c e=>?_,gk (I.bE.fresh (aI _)),fun x c e=>hU (Y7 e),fun p hp=>absurd (show p∈([]:List (Addr×Obj)) from hp) (by simp),(zB I.bE L.at_).kept hk,?_⟩
 .have hx:scope.names.lookup x=some .cell\/scope.names.lookup x=some .free:=hx;rcases hx with z|z
  .exact absurd rfl (S.k0 _ (gE z))
  .exact c2 x (gE z)
 .have e1:NB[i]?=some x:=e1;have e2:(vs++ws)[i]?=some w:=by
   rw[bi] at e2;obtain⟨w',h1,h2⟩:=wF.mp e2;rw[h1];exact h2
  by_cases hi:i<nP
  .rw[nL (by rw[hv];exact hi)] at e2;obtain⟨u,hu,ru⟩:=rv.get e2;have hp:(NB.take nP)[i]?=some x:=by rw[BV hi];exact e1
   have hx:x∈NB.take nP:=du hp;refine⟨u,ru,.inl ⟨S.par x hx,?_⟩⟩;exact Dn (S.nd.sublist (List.take_sublist _ _)) (by rw[<-rv.length,hv];exact wU _ _) hp hu
  .rw[oQ (by rw[hv];lia),hv] at e2;obtain⟨u,c',ru,ec,hc⟩:=hw (i-nP) x w (by rw[show nP+(i-nP)=i by lia];exact e1) e2;have hF:=S.fr i x (by lia) e1;obtain⟨NL,NR⟩:=c2 x (gE hF);have:NL=c':=by have:=c1 x NL NR;rw[ec] at this;exact(a_ this).symm
   subst this;exact⟨u,ru,.inr ⟨.inr hF,NL,NR,kZ x NL _ ec hc⟩⟩
 .obtain⟨v,E7⟩:=L.cell x c (c1 x c e);exact⟨v,kZ x c v (c1 x c e) E7⟩
 .show ((vs++ws).map some).length=NB.length;rw[aH,fY,hv];exact dX
def Ie(nP:Nat)(scope:Scope)(qual:Str)(params:Arguments)(body:Expr)(NB:List Str)(te:TE)(f:Addr)(vs:List V)(H:Hp)(Q:VK):Prop:=∃ (cells:List (Str×Addr)) (c:Addr) (h0:Heap) (ws:List V),H f=some (lT f qual params body scope cells c)/\H c=some (jw c qual)/\vs.length=nP/\nP+ws.length=NB.length/\vP cells h0 H/\
 (∀ (i:Nat) (x:Str) (v:V),NB[nP+i]?=some x->ws[i]?=some v->rq cells h0 x v)/\te ((vs++ws).map some) (mf (a9 cells) H) fun v H'=>(∀a,a9 cells a->H' a=none)->Q v (gw (a9 cells) h0 H')
theorem FY{te:TE}{Q:VK}{k:Nat}(hr:bA k X.A)(QN:X.calm=true)(S:zC NB nP scope qual params body)(I:aE X ae σ H s)(rv:aO vs us)(hb:∀bz c s H,PE (yq X NB scope bz qual f c s H) body te)(h:Ie nP scope qual params body NB te f vs H Q):
  wpAny (model X.prog X.w) X.A (call (.ref f) us) (EP X ae σ Q) X.xe s:=by
 obtain⟨cells,c,h0,ws,hf,hc,hv,dX,L,hw,h⟩:=h;obtain⟨bz,pm,qv,c1,c2,Fk⟩:=(I.bE f _ hf).1;have Nb:s.heap.CodeRec (.ref c) qual:=(I.bE c _ hc).1;have vn:X.A.depth<recursionLimit:=by have:=hr.dp;lia
 have Y9:us.length=nP:=by rw[<-rv.length];exact hv
 refine jm (wM vn Fk rfl S.co S.gen rfl Nb ?_);rw[S.bind _ _ _ _ _ Y9];refine wpAny_pure (wY S.k0 (fun x hx=>?_) (fun h₁ Fw CP=>⟨I.nolimit.fresh _ CP,?_⟩) S.kind)
 .exact S.par _ (my hx).1
 have Fx:∀b o,s.heap.get? b=some o->h₁.get? b=some o:=fun b o e=>CP.extBut b o (aM (bb e)) (bv _ e);refine wL ?_;have J:=Do (f:=f) (c:=c) (t₁:=s.toks+((NB.take nP).zip us).length) I S hr.hd QN c1 c2 L hw Fw Fx rv hv dX;refine gX (hb bz c s _ [] _ _ _ _ J h) (fun w s' ⟨v',H',J',r',q'⟩=>?_) fun _ _ z=>z.elim;have kp:∀a,a9 cells a->H' a=none/\s'.heap.get? a=h0.get? a/\∃o,h0.get? a=some o:=fun a z=>by
  obtain⟨y,ey⟩:=id z;have e0:s.heap.get? a=h0.get? a:=(I.bE a _ (L.at_ a z)).1;obtain⟨v,o,ho,_⟩:=L.cell y a ey;have es:s.heap.get? a=some o:=e0.trans ho;refine⟨J'.base.free a o es (hU z) (by intro z;cases z),?_,o,ho⟩;rw[ho];exact J'.base.keep a o es (hU z) (fun k7=>by have:=I.lD a k7;rw[L.at_ a z] at this;cases this) (by intro z;cases z)
 exact⟨v',gw (a9 cells) h0 H',I.B3 (ch:=[]) J'.os (FW J'.base L.at_) (vO J'.bE kp) J'.bare (fun b hb=>by cases hb),r',q' fun a z=>(kp a z).1⟩
def NS(i:Nat)(nP:Nat)(scope:Scope)(qual:Str)(params:Arguments)(body:Expr)(NB:List Str)(te:TE)(t:TA):TE:=fun σ H Q=>∃f,σ[i]?=some (some (.ref f))/\(∃cells c,H f=some (lT f qual params body scope cells c))/\t σ H fun vs H1=>Ie nP scope qual params body NB te f vs H1 Q
theorem FZ{te:TE}{k i:Nat}{x:Str}{e:Expr}{es:List Expr}{t:TA}{p pos:Pos}(hr:bA k X.A)(QN:X.calm=true)(S:zC NB nP scope qual params body)(hx:PE X (.Name x p) (bj i))(ha:PA X (e::es) t)(hb:∀f bz c s H,PE (yq X NB scope bz qual f c s H) body te)(he:starEach (e::es) X.env=(false,eval e X.env)::starEach es X.env:=by rfl)(wn:(backTo pos (starEach es X.env)).any (·.1)=false:=by rfl):
  PE X (.Call (.Name x p) (e::es) [] pos) (NS i nP scope qual params body NB te t):=by
 intro ae s σ H Q I h;obtain⟨f,hσ,⟨cells,c,hf⟩,h⟩:=h;have fn:∀ {s:Shared} {H:Hp} {cells:List (Str×Addr)} {c:Addr},kP X.prog X.w H s.heap->H f=some (lT f qual params body scope cells c)->PySem.W.FnAt f s.heap:=fun {s H cells c} bE hf=>by
  obtain⟨bz,pm,qv,_,_,e⟩:=(bE f _ hf).1;exact⟨_,_,_,_,e⟩
 refine jd (cI (hx ae s σ H (fun v H1=>v=.ref f/\H1=H) I ⟨_,hσ,rfl,rfl⟩) fun u s1 ⟨v,H1,I1,r1,ev,eH⟩=>?_);subst ev;subst eH;cases r1;refine PySem.W.callWith_F (fn I1.bE hf) (cI (ha pos ae s1 σ H1 _ I1 h) fun us s2 ⟨vs,H2,I2,r,q⟩=>⟨?_,?_⟩) he wn
 .obtain⟨Ti,c',_,_,xR,_⟩:=id q;exact fn I2.bE xR
 .exact FY hr QN S I2 r (hb f) q
end
end L2
namespace tY
open PySem L2
def top(i:Nat):Stmt:=PySem.Challenge.pw_neverwait_k72_whole_measure_falls.main.body.getD i (.Pass ⟨0,0,0,0⟩)
abbrev yr:Stmt:=top 2
abbrev tZ:Stmt:=top 3
abbrev yt:Stmt:=top 4
abbrev JS:Stmt:=top 6
structure Bl(mg:Str->Option Value):Prop where
 JT:mg "isinstance"=none
 int:mg "int"=none
 bool:mg "bool"=none
 tup:mg "tuple"=none
 lst:mg "list"=none
 str:mg "str"=none
 set:mg "set"=none
 len:mg "len"=none
 range:mg "range"=none
 sorted:mg "sorted"=none
 any:mg "any"=none
 max:mg "max"=none
 min:mg "min"=none
 Y_:mg "ValueError"=none
 all:mg "all"=none
def Dp(K:PySem.W.Frag)(H:Hp)(x:V):Prop:=∃t,Ji K H x t/\(PySem.W.kitOne K t (.type "int")=some false\/(PySem.W.kitOne K t (.type "int")=some true/\PySem.W.kitOne K t (.type "bool")=some true))
theorem vR:PySem.W.kitOne K (.type "int") (.type "int")=some true:=by kernel_rfl
theorem t8:PySem.W.kitOne K (.type "int") (.type "bool")=some false:=by kernel_rfl
inductive Wh (K:PySem.W.Frag) (H:Hp):V->Option Int->Prop where
 |int (i:Int):Wh K H (.int i) (some i)
 |no {x:V} (h:Dp K H x):Wh K H x none
def t_(K:PySem.W.Frag):Sp:=fun vs H Q _=>∃x o,vs=[x]/\Wh K H x o/\Q (.bl o.isSome) H
section
variable {P:Program} {w:World} {K:PySem.W.Frag} {mg:Str->Option Value} {base:Heap}
theorem F0:aG ["thing"] ["thing"] (au yr):=⟨rfl,rfl,rfl,by decide +kernel,rfl,by decide +kernel,by decide +kernel⟩
theorem Dq(F:fW K "is_whole" "is_whole" yr f fd)(B:Bl mg):bq P w K mg base aW 1 f fd ["thing"] (t_ K):=by
 refine F.ok F0 (fun vs H Q E h=>?_) (fun dR A outer s H vs Q E hr h=>?_)
 .obtain⟨x,o,rfl,_⟩:=h;rfl
 .obtain⟨x,o,rfl,W,k⟩:=h;refine⟨_,aq (aP (jq (aR io (by rfl) B.JT oM (aa (pv 0) (aa (jM (v:=.ty "int") rfl B.int wJ rfl) ag)))
   (mU (IL (aR io (by rfl) B.JT oM (aa (pv 0) (aa (jM (v:=.ty "bool") rfl B.bool PyProof.Rows.boot_bool rfl) ag))))))),?_⟩
  cases W with
  |int i=>
   refine⟨_,rfl,_,_,_,.type "int",true,rfl,⟨rfl,vR⟩,.of (.int _),true,rfl,?_⟩;exact⟨_,rfl,_,_,_,.type "int",false,rfl,⟨rfl,t8⟩,.of (.int _),false,rfl,k⟩
  |no h=>
   obtain⟨t,ty,h|⟨h1,h2⟩⟩:=h
   .exact⟨_,rfl,_,_,_,t,false,rfl,⟨rfl,h⟩,ty,false,rfl,k⟩
   .refine⟨_,rfl,_,_,_,t,true,rfl,⟨rfl,h1⟩,ty,true,rfl,?_⟩;exact⟨_,rfl,_,_,_,t,true,rfl,⟨rfl,h2⟩,ty,true,rfl,k⟩
def eV(o:Option Int)(lo hi:Int):Bool:=match o with
 |some i=>decide (lo<=i)&&decide (i<=hi)
 |none=>false
def jE(K:PySem.W.Frag):Sp:=fun vs H Q _=>∃x o lo hi,vs=[x,.int lo,.int hi]/\Wh K H x o/\Q (.bl (eV o lo hi)) H
theorem Dr:aG ["thing","least","most"] ["thing","least","most"] (au tZ):=⟨rfl,rfl,rfl,by decide +kernel,rfl,by decide +kernel,by decide +kernel⟩
theorem A9(F:fW K "is_whole_within" "is_whole_within" tZ f fd)(W:cB P w K mg base aW 1 "is_whole" ["thing"] (t_ K)):bq P w K mg base aW 2 f fd ["thing","least","most"] (jE K):=by
 refine F.ok Dr (fun vs H Q E h=>?_) (fun dR A outer s H vs Q E hr h=>?_)
 .obtain⟨x,o,lo,hi,rfl,_⟩:=h;rfl
 .obtain⟨x,o,lo,hi,rfl,wh,k⟩:=h;refine⟨_,aq (aP (jq (aF W hr aJ (aa (pv 0) ag)) (mU (Cb Ca Ca (pv 1) (pv 0) (pv 2))))),?_⟩;refine⟨_,rfl,x,o,rfl,wh,?_⟩;cases wh with
  |no h=>exact⟨false,rfl,k⟩
  |int i=>
   refine⟨true,rfl,_,rfl,_,rfl,_,_,rfl,rfl,_,rfl,?_⟩;show if decide (lo<=i)=true then _ else _
   have k':Q (.bl (decide (lo<=i)&&decide (i<=hi))) H:=k;by_cases h:lo<=i
   .rw[dg h] at k' |-;exact⟨_,rfl,_,_,rfl,rfl,k'⟩
   .rw[eD h] at k' |-;exact k'
def oF(K:PySem.W.Frag):Sp:=fun vs H Q _=>∃x o n,vs=[.int n,x]/\Wh K H x o/\Q (.bl (eV o 0 (n-1))) H
theorem F1:aG ["many","thing"] ["many","thing"] (au yt):=⟨rfl,rfl,rfl,by decide +kernel,rfl,by decide +kernel,by decide +kernel⟩
theorem Ds(F:fW K "is_house" "is_house" yt f fd)(W:cB P w K mg base aW 2 "is_whole_within" ["thing","least","most"] (jE K)):bq P w K mg base aW 3 f fd ["many","thing"] (oF K):=by
 refine F.ok F1 (fun vs H Q E h=>?_) (fun dR A outer s H vs Q E hr h=>?_)
 .obtain⟨x,o,n,rfl,_⟩:=h;rfl
 .obtain⟨x,o,n,rfl,wh,k⟩:=h;refine⟨_,aq (aP (aF W hr aJ (aa (pv 1) (aa aB (aa (a8 sK (pv 0) aB) ag))))),?_⟩;exact⟨_,rfl,_,rfl,_,_,rfl,rfl,x,o,0,n-1,rfl,wh,k⟩
inductive Rw (K:PySem.W.Frag) (H:Hp):V->Option (List V)->Prop where
 |tup {p:Addr} {xs:List V} (h:H p=some (.tup xs)):Rw K H (.ref p) (some xs)
 |no {x:V} {t:Value} (ty:Ji K H x t) (h:PySem.W.kitOne K t (.type "tuple")=some false):Rw K H x none
def NU(o:Option (List V))(m:Int):Bool:=match o with
 |some xs=>decide ((xs.length:Int)=m)
 |none=>false
theorem F2:PySem.W.kitOne K (.type "tuple") (.type "tuple")=some true:=by kernel_rfl
def zD(K:PySem.W.Frag):Sp:=fun vs H Q _=>∃x o m,vs=[x,.int m]/\Rw K H x o/\Q (.bl (NU o m)) H
theorem NW:aG ["thing","length"] ["thing","length"] (au JS):=⟨rfl,rfl,rfl,by decide +kernel,rfl,by decide +kernel,by decide +kernel⟩
theorem JU(F:fW K "is_row" "is_row" JS f fd)(B:Bl mg):bq P w K mg base aW 1 f fd ["thing","length"] (zD K):=by
 refine F.ok NW (fun vs H Q E h=>?_) (fun dR A outer s H vs Q E hr h=>?_)
 .obtain⟨x,o,m,rfl,_⟩:=h;rfl
 .obtain⟨x,o,m,rfl,W,k⟩:=h;refine⟨_,aq (aP (jq (aR io (by rfl) B.JT oM (aa (pv 0) (aa (jM (v:=.ty "tuple") rfl B.tup oR rfl) ag)))
   (mU (gK j_ (aR aV (by rfl) B.len fN (aa (pv 0) ag)) (pv 1) (aT _))))),?_⟩
  cases W with
  |@tup p xs h=>
   refine⟨_,rfl,_,_,_,.type "tuple",true,rfl,⟨rfl,F2⟩,.of (.tup h),true,rfl,?_⟩;refine⟨_,rfl,_,_,rfl,.inr (bW.of h),_,rfl,rfl,?_⟩;have e:decide (V.int ((xs.length:Nat):Int)=V.int m)=decide (((xs.length:Nat):Int)=m):=by simp
   rw[e];exact k
  |no ty h=>exact⟨_,rfl,_,_,_,_,false,rfl,⟨rfl,h⟩,ty,false,rfl,k⟩
end
theorem bH(s:aK H H')(hD:H D=none):aK H (upd H' D o):=fun b u e=>by rw[am (ap e hD)];exact s b u e
abbrev IV(ns:List Int):List V:=ns.map V.int
abbrev NV(ns:List Nat):List V:=ns.map fun (x:Nat)=>V.int (x:Int)
theorem p_(G:St->Hp->Prop)(hr:∀σ H,G σ H->u D σ H)(ht:∀N:St->Hp->Prop,(∀σ H,G σ H->N σ H)->t { D with nx:=N } σ H):Mn t u D σ H:=ht _ hr
theorem NX{A B:Prop}(h:A):if true=true then A else B:=by rw[ao rfl];exact h
theorem NY{A B:Prop}(h:B):if false=true then A else B:=by rw[aj (by decide)];exact h
abbrev Zs:=List (Addr×(Int×Int))
abbrev Ig(u:Int×Int):HO:=.tup [.int u.1,.int u.2]
def zr(zs:Zs):List V:=zs.map fun z=>V.ref z.1
def zp(zs:Zs):List (Int×Int):=zs.map (·.2)
def PO(H:Hp)(zs:Zs):Prop:=∀z∈zs,H z.1=some (Ig z.2)
theorem nA:zr (a++b)=zr a++zr b:=cn
theorem nB:zp (a++b)=zp a++zp b:=cn
theorem jF:(zr a).length=a.length:=aH _
theorem cU:(zp a).length=a.length:=aH _
theorem ua:zr a=(a.map (·.1)).map V.ref:=by unfold zr;rw[dh];rfl
theorem ub{zs:Zs}{i:Nat}{x:V}(h:(zr zs)[i]?=some x):∃z,zs[i]?=some z/\x=.ref z.1:=by
 unfold zr at h;rw[bi] at h;cases e:zs[i]? with
 |none=>rw[e] at h;cases h
 |some z=>rw[e] at h;exact⟨z,rfl,(a_ h).symm⟩
theorem PO.nil:PO H []:=fun z hz=>(nomatch hz)
theorem PO.same(h:PO H zs)(s:aK H H'):PO H' zs:=fun z hz=>s _ _ (h z hz)
theorem PO.putL(h:PO H zs)(e:H D=some (.lst xs)):PO (upd H D o) zs:=fun z hz=>by
 have:=h z hz;rw[am (by rintro rfl;rw[e] at this;cases this)];exact this
theorem PO.putN(h:PO H zs)(e:H D=none):PO (upd H D o) zs:=h.same (ai e)
theorem PO.append(h:PO H a)(h':PO H b):PO H (a++b):=fun z hz=>(cX.mp hz).elim (h z) (h' z)
theorem PO.one(h:H p=some (Ig u)):PO H [(p,u)]:=fun z hz=>by rw[cE.mp hz];exact h
theorem Dt{zs:Zs}{i:Nat}(h:i<zs.length):(zs.map (·.1)).getD i 0=zs[i].1:=by
 rw[b9,bi,bT h];rfl
theorem F3(h:i<zs.length):(zp zs).getD i (0,0)=zs[i].2:=by
 unfold zp;rw[b9,bi,bT h];rfl
theorem A_{H:Hp}{zs:Zs}(ho:PO H zs){as:List Addr}(h:as.Perm (zs.map (·.1))):∃vI:Zs,vI.Perm zs/\as=vI.map (·.1):=by
 classical
 let f:Addr->Int×Int:=fun a=>match H a with
  |some (.tup [.int x,.int y])=>(x,y)
  |_=>(0,0)
 have e:(zs.map (·.1)).map (fun a=>(a,f a))=zs:=by
  rw[dh];conv=>rhs;rw[<-mK zs]
  refine kF fun z hz=>?_;have:=ho z hz;show (z.1,f z.1)=z;have e2:f z.1=z.2:=by
   show (match H z.1 with|some (.tup [.int x,.int y])=>(x,y)|_=>(0,0))=z.2;rw[this]
  rw[e2]
 refine⟨as.map fun a=>(a,f a),?_,?_⟩
 .have:=h.map (fun a=>(a,f a));rw[e] at this;exact this
 .rw[dh];exact(mK as).symm
abbrev WL(us:List (Int×Int)):Prop:=us=us
theorem F4{K:PySem.W.Frag}{H:Hp}{l:Addr}{zs:Zs}{Q:VK}(hl:H l=some (.lst (zr zs)))(ho:PO H zs)(hz:zs.length<=4096)(hb:∀u∈zp zs,0<=u.2/\u.2<64)(q:∀ (D:Addr) (vI:Zs),H D=none->vI.Perm zs->WL (zp vI)->Q (.ref D) (upd H D (.lst (zr vI)))):C5 K [.ref l] H Q:=by
 refine⟨l,zs.map (·.1),rfl,ba.of (by rw[<-ua];exact hl),fun a ha=>?_,by rw[aH];exact hz,fun D wv hD hp=>?_⟩
 .obtain⟨z,hz,rfl⟩:=bo.mp ha;exact⟨_,_,bW.of (ho z hz)⟩
 .obtain⟨vI,h1,rfl⟩:=A_ ho hp;rw[<-ua];exact q D vI hD h1 rfl
theorem Du{K:PySem.W.Frag}{a D:Addr}{EQ:Zs}{g:TG}{tt:TT}{te:TE}{dU:Hp->Prop}{σB:St}{H0:Hp}(F:Int×Int->Int×Int)(fR:St->Prop)(ha:H0 a=some (.lst (zr EQ)))(Za:PO H0 EQ)(hD:H0 D=none)(hn:EQ.length<=100000)(h0:fR σB)(hs:∀z σ H (R:V->St->Hp->Prop) (Kf:St->Hp->Prop),z∈EQ->fR σ->aK H0 H->H z.1=some (Ig z.2)->(∀σ2 p,fR σ2->H p=none->R (.ref p) σ2 (upd H p (Ig (F z.2))))->g (.ref z.1) σ H fun σ2 H2=>tt σ2 H2 fun b H3=>if b=true then te σ2 H3 fun v H4=>R v σ2 H4 else Kf σ2 H3)(hd:∀zs H,aK H0 H->H D=some (.lst (zr zs))->PO H zs->zp zs=(zp EQ).map F->(∀z∈zs,H0 z.1=none)->dU H):im (EY K a) g tt te D dU σB (upd H0 D (.lst [])):=by
 refine fg (xs:=zr EQ) (fun i ys σ H=>fR σ/\aK H0 H/\H D=some (.lst ys)/\∃zs:Zs,ys=zr zs/\PO H zs/\zp zs=((zp EQ).take i).map F/\∀z∈zs,H0 z.1=none) ⟨h0,ai hD,af,[],rfl,PO.nil,rfl,fun z hz=>nomatch hz⟩ (fun i ys σ H _ z=>ba.of (z.2.1 _ _ ha)) ?_ ?_
 .rintro i x ys σ H Kt Kf hx ⟨sh,sm,ww,zs,rfl,po,ep,fr⟩ kt kf;obtain⟨z,hz,rfl⟩:=ub hx;have hi:i<EQ.length:=(dS.mp hz).1;have rA:z∈EQ:=du hz;have hl:zs.length=i:=by rw[<-cU,ep,aH,pc,cU];lia
  refine hs z σ H Kt Kf rA sh sm (sm _ _ (Za z rA)) (fun σ2 p F5 hp=>?_)
  .have nD:D≠p:=ap ww hp;refine kt _ _ _ (by rw[am nD];exact ww) (by rw[jF,hl];exact cC hi (aX hn (by decide))) ⟨F5,bH (sm.trans (ai hp)) hD,af,zs++[(p,F z.2)],?_,?_,?_,?_⟩
   .rw[nA];rfl
   .refine PO.putL (xs:=zr zs) ?_ (by rw[am nD];exact ww);exact(po.putN hp).append (PO.one af)
   .have e2:(zp EQ)[i]?=some z.2:=by unfold zp;rw[bi,hz];rfl
    rw[nB,ep,gI,e2,wW,cn];rfl
   .intro z hz;rcases cX.mp hz with z'|z'
    .exact fr z z'
    .rw[cE.mp z'];exact sm.free hp
 .rintro ys σ H ⟨_,sm,ww,zs,rfl,po,ep,fr⟩;rw[jF,<-cU,iR] at ep;exact hd zs H sm ww po ep fr
open iN
abbrev zE:Stmt:=iI (top 35) 0
abbrev JV:Stmt:=iI (top 35) 3
abbrev JW:Stmt:=iI (top 35) 4
abbrev Dv:Stmt:=iI (top 35) 6
abbrev yu:Stmt:=iI (top 35) 8
theorem Zb:¬ (("house_count":Str)="tie_list"):=by decide +kernel
theorem Zc:¬ (("house_count":Str)="out_lists"):=by decide +kernel
theorem Zd:¬ (("house_count":Str)="distances"):=by decide +kernel
theorem Ze:¬ (("out_lists":Str)="distances"):=by decide +kernel
def nC(n:Int)(tl ol ds:Addr):List (Str×V):=cS "distances" (.ref ds) (cS "out_lists" (.ref ol) (cS "tie_list" (.ref tl) (cS "house_count" (.int n) [])))
theorem F6(n:Int)(tl ol ds:Addr):(nC n tl ol ds).lookup ("house_count":Str)=some (.int n):=by
 unfold nC;rw[bg,aj Zd,bg,aj Zc,bg,aj Zb,bg,ao rfl]
theorem oG(n:Int)(tl ol ds:Addr){m:Str}(h1:¬ m="house_count")(h2:¬ m="tie_list")(h3:¬ m="out_lists")(h4:¬ m="distances"):(nC n tl ol ds).lookup m=none:=by
 unfold nC;rw[bg,aj h4,bg,aj h3,bg,aj h2,bg,aj h1];all_goals rfl
theorem zF(n:Int)(tl ol ds:Addr):(nC n tl ol ds).lookup ("out_lists":Str)=some (.ref ol):=by
 unfold nC;rw[bg,aj Ze,bg,ao rfl]
theorem zG(n:Int)(tl ol ds:Addr):(nC n tl ol ds).lookup ("distances":Str)=some (.ref ds):=by
 unfold nC;rw[bg,ao rfl]
def eW(H:Hp)(L:Addr->Prop)(l:Addr)(n:Nat)(r:Nat->List Nat):Prop:=∃bs:List Addr,H l=some (.lst (bs.map V.ref))/\(∀b∈bs,L b)/\Holds H bs n (fun h=>.lst (NV (r h)))
theorem eW.keep(R:eW H L l n r)(hl:L l)(k:∀b o,L b->H b=some o->H' b=some o):eW H' L l n r:=
 let ⟨bs,a,b,c⟩:=R
 ⟨bs,k _ _ hl a,b,c.mono fun j hj e=>k _ _ (b _ (by rw[b9,bT (by rw[c.1];exact hj)];exact eC _)) e⟩
theorem eW.row(R:eW H L l n r)(hh:h<n):∃ (bs:List Addr) (b:Addr),H l=some (.lst (bs.map V.ref))/\(bs.map V.ref)[h]?=some (V.ref b)/\H b=some (.lst (NV (r h)))/\L b:=by
 obtain⟨bs,a,b,c⟩:=R;have hl:h<bs.length:=by rw[c.1];exact hh
 refine⟨bs,bs[h],a,by rw[bi,bT hl];rfl,?_,b _ (eC _)⟩;have:=c.2 h hh;rw[b9,bT hl] at this;exact this
def F7(H:Hp)(L:Addr->Prop)(tl:Addr)(ts:Ts):Prop:=L tl/\∃zs:Zs,H tl=some (.lst (zr zs))/\PO H zs/\(∀z∈zs,L z.1)/\(zp zs).Perm ts/\WL (zp zs)
theorem F7.keep(h:F7 H L tl ts)(k:∀b o,L b->H b=some o->H' b=some o):F7 H' L tl ts:=
 let ⟨a,zs,b,c,d,e⟩:=h;⟨a,zs,k _ _ a b,fun z hz=>k _ _ (d z hz) (c z hz),d,e⟩
structure bK(C:Addr)(H:Hp)(L:Addr->Prop)(p:Addr)(n:Nat)(ts:Ts):Prop where
 gm:eU n ts
 ob:∃dx tl ol ds,H p=some (.ins C dx (nC n tl ol ds))/\L ol/\L ds/\eW H L ol n (cf n ts)/\eW H L ds n (fun h=>(List.range n).map (far ts h))/\F7 H L tl ts
theorem bK.keep(N:bK C H L p n ts)(k:∀b o,L b->H b=some o->H' b=some o)(kp:∀o,H p=some o->H' p=some o):bK C H' L p n ts:=
 let ⟨dx,tl,ol,ds,a,l1,l2,b,c,d⟩:=N.ob
 ⟨N.gm,dx,tl,ol,ds,kp _ a,l1,l2,b.keep l1 k,c.keep l2 k,d.keep k⟩
theorem bK.same(N:bK C H L p n ts)(s:aK H H'):bK C H' L p n ts:=N.keep (fun b o _ e=>s b o e) (fun o e=>s _ o e)
structure NT(K:PySem.W.Frag)(mg:Str->Option Value)(C:Addr):Prop where
 cl:Cf K C
 nH:g9 K C "house_count"
 nT:g9 K C "tie_list"
 nO:g9 K C "out_lists"
 nD:g9 K C "distances"
 QO:mg "Net"=some (.ref C)
structure jX(P:Program)(w:World)(K:PySem.W.Frag)(mg:Str->Option Value)(base:Heap)(CX:wm)(k:Nat)(C:Addr)(x:Str)(ps:List Str)(sp:Sp):Prop where
 ex:∃f fd,IY K C x f/\js K fd ps []/\bq P w K mg base CX k f fd ps sp
section
variable {P:Program} {w:World} {K:PySem.W.Frag} {mg:Str->Option Value} {base:Heap}
theorem F8:aG ["self","thing"] ["self","thing"] (au yu):=⟨rfl,rfl,rfl,by decide +kernel,rfl,by decide +kernel,by decide +kernel⟩
theorem Ba{i n:Nat}(h:i<n):eV (some (i:Int)) 0 ((n:Int)-1)=true:=by unfold eV;simp;lia
def l0(C:Addr):Sp:=fun vs H Q _=>∃ (L:Addr->Prop) (p:Addr) (n:Nat) (ts:Ts) (i:Nat),vs=[.ref p,.int i]/\bK C H L p n ts/\i<n/\Q .bD H
theorem Bb{f C:Addr}{fd:FuncData}(F:fW K "check_house" "Net.check_house" yu f fd)(T:NT K mg C)(HH:cB P w K mg base aW 3 "is_house" ["many","thing"] (oF K)):
  bq P w K mg base aW 4 f fd ["self","thing"] (l0 C):=by
 refine F.ok F8 (fun vs H Q E h=>?_) (fun dR A outer s H vs Q E hr h=>?_)
 .obtain⟨L,p,n,ts,i,rfl,_⟩:=h;rfl
 .obtain⟨L,p,n,ts,i,rfl,N,hi,k⟩:=h;obtain⟨dx,tl,ol,ds,h1,_⟩:=N.ob;refine⟨_,aq (cr (gc (fc (aF HH hr aJ (aa (kT (pv 0) rfl) (aa (pv 1) ag))))) cp be),?_⟩;refine⟨_,rfl,p,C,dx,_,_,rfl,h1,T.cl,T.nH,F6 _ _ _ _,_,rfl,_,some (i:Int),n,rfl,.int _,_,rfl,?_⟩;rw[Ba hi];exact fT k
theorem JX(n:Int)(tl ol ds:Addr):(nC n tl ol ds).lookup ("check_house":Str)=none:=oG n tl ol ds (by decide +kernel) (by decide +kernel) (by decide +kernel) (by decide +kernel)
theorem JY(n:Int)(tl ol ds:Addr):(nC n tl ol ds).lookup ("far":Str)=none:=oG n tl ol ds (by decide +kernel) (by decide +kernel) (by decide +kernel) (by decide +kernel)
theorem bh:(NV xs).length=xs.length:=aH _
theorem NZ:aG ["self","house"] ["self","house"] (au JV):=⟨rfl,rfl,rfl,by decide +kernel,rfl,by decide +kernel,by decide +kernel⟩
def yv(C:Addr):Sp:=fun vs H Q _=>∃ (L:Addr->Prop) (p:Addr) (n:Nat) (ts:Ts) (i:Nat),vs=[.ref p,.int i]/\bK C H L p n ts/\i<n/\∀r H',aK H H'->H r=none->H' r=some (.lst (NV (cf n ts i)))->Q (.ref r) H'
theorem F9(F:fW K "out" "Net.out" JV f fd)(T:NT K mg C)(B:Bl mg)(M:jX P w K mg base aW 4 C "check_house" ["self","thing"] (l0 C)):
  bq P w K mg base aW 5 f fd ["self","house"] (yv C):=by
 obtain⟨fM,WM,mM,bM,GM⟩:=M.ex;refine F.ok NZ (fun vs H Q E h=>?_) (fun dR A outer s H vs Q E hr h=>?_)
 .obtain⟨L,p,n,ts,i,rfl,_⟩:=h;rfl
 .obtain⟨L,p,n,ts,i,rfl,N,hi,k2⟩:=h;obtain⟨dx,tl,ol,ds,h1,_,_,R,_⟩:=N.ob;refine⟨_,ah (cu (fm (pv 0) T.cl mM GM hr bM .nil aJ (aa (pv 1) ag)))
   (aq (aP (dH sW (by rfl) B.lst wE (aa (bZ bL (kT (pv 0) rfl) (pv 1) (fun _ _=>rfl)) ag)))),?_⟩
  refine⟨_,rfl,p,dx,_,rfl,h1,JX _ _ _ _,_,rfl,L,p,n,ts,i,rfl,N,hi,?_⟩;obtain⟨bs,b,r1,r2,r3,_⟩:=R.row hi;exact⟨_,rfl,p,C,dx,_,_,rfl,h1,T.cl,T.nO,zF _ _ _ _,_,rfl,ol,_,_,_,rfl,rfl,ba.of r1,aU r2,b,_,rfl,.inl (ba.of r3),fun l hl=>k2 l _ (ai hl) hl af⟩
theorem N0:aG ["self","one","other"] ["self","one","other"] (au JW):=⟨rfl,rfl,rfl,by decide +kernel,rfl,by decide +kernel,by decide +kernel⟩
def lh(C:Addr):Sp:=fun vs H Q _=>∃ (L:Addr->Prop) (p:Addr) (n:Nat) (ts:Ts) (i j:Nat),vs=[.ref p,.int i,.int j]/\bK C H L p n ts/\i<n/\j<n/\Q (.int (far ts i j:Nat)) H
theorem F_(F:fW K "far" "Net.far" JW f fd)(T:NT K mg C)(M:jX P w K mg base aW 4 C "check_house" ["self","thing"] (l0 C)):
  bq P w K mg base aW 5 f fd ["self","one","other"] (lh C):=by
 obtain⟨fM,WM,mM,bM,GM⟩:=M.ex;refine F.ok N0 (fun vs H Q E h=>?_) (fun dR A outer s H vs Q E hr h=>?_)
 .obtain⟨L,p,n,ts,i,j,rfl,_⟩:=h;rfl
 .obtain⟨L,p,n,ts,i,j,rfl,N,hi,hj,k⟩:=h;obtain⟨dx,tl,ol,ds,h1,_,_,_,R,_⟩:=N.ob;refine⟨_,ah (cu (fm (pv 0) T.cl mM GM hr bM .nil aJ (aa (pv 1) ag)))
   (ah (cu (fm (pv 0) T.cl mM GM hr bM .nil aJ (aa (pv 2) ag)))
   (aq (aP (bZ bL (bZ bL (kT (pv 0) rfl) (pv 1) (fun _ _=>rfl)) (pv 2) (fun _ _=>rfl))))),?_⟩
  refine⟨_,rfl,p,dx,_,rfl,h1,JX _ _ _ _,_,rfl,L,p,n,ts,i,rfl,N,hi,?_⟩;refine⟨_,rfl,p,dx,_,rfl,h1,JX _ _ _ _,_,rfl,L,p,n,ts,j,rfl,N,hj,?_⟩;obtain⟨bs,b,r1,r2,r3,_⟩:=R.row hi;have hg:(NV ((List.range n).map (far ts i)))[j]?=some (.int (far ts i j:Nat)):=by
   rw[bi,bi,jb hj];rfl
  exact⟨_,rfl,p,C,dx,_,_,rfl,h1,T.cl,T.nD,zG _ _ _ _,_,rfl,ds,_,_,_,rfl,rfl,ba.of r1,aU r2,_,rfl,b,_,_,_,rfl,rfl,ba.of r3,aU hg,k⟩
end
open PySem L2 iN
abbrev yw:Stmt:=top 36
abbrev JZ:Stmt:=top 37
abbrev J0:Stmt:=top 38
section
variable {P:Program} {w:World} {K:PySem.W.Frag} {mg:Str->Option Value} {base:Heap}
abbrev J4:Stmt:=top 5
theorem N8:aG ["many","one","other"] ["many","one","other"] (au J4):=⟨rfl,rfl,rfl,by decide +kernel,rfl,by decide +kernel,by decide +kernel⟩
def Dw:Sp:=fun vs H Q _=>∃ (n a b:Int),vs=[.int n,.int a,.int b]/\0<=a/\a<n/\0<=b/\b<n/\a≠b/\Q (.bl true) H
theorem J5(F:fW K "are_unlike_houses" "are_unlike_houses" J4 f fd)(HH:cB P w K mg base aW 3 "is_house" ["many","thing"] (oF K)):
  bq P w K mg base aW 4 f fd ["many","one","other"] Dw:=by
 refine F.ok N8 (fun vs H Q E h=>?_) (fun dR A outer s H vs Q E hr h=>?_)
 .obtain⟨n,a,b,rfl,_⟩:=h;rfl
 .obtain⟨n,a,b,rfl,a1,a2,b1,b2,m9,k⟩:=h;refine⟨_,aq (aP (jq (aF HH hr aJ (aa (pv 0) (aa (pv 1) ag))) (jq (aF HH hr aJ (aa (pv 0) (aa (pv 2) ag))) (mU (gK nQ (pv 1) (pv 2) (aT _)))))),?_⟩;refine⟨_,rfl,_,rfl,_,_,n,rfl,.int a,_,rfl,?_⟩;rw[ao (show eV (some a) 0 (n-1)=true by unfold eV;simp;lia)];refine⟨_,rfl,_,rfl,_,_,n,rfl,.int b,_,rfl,?_⟩;rw[ao (show eV (some b) 0 (n-1)=true by unfold eV;simp;lia)];refine⟨_,rfl,_,rfl,rfl,?_⟩;have e:(!decide (V.int a=V.int b))=true:=by simp[m9]
  rw[e];exact k
theorem N_:aG ["many","thing"] ["many","thing"] (au JZ):=⟨rfl,rfl,rfl,by decide +kernel,rfl,by decide +kernel,by decide +kernel⟩
def Dx:Sp:=fun vs H Q _=>∃ (n:Int) (p:Addr) (a b:Int),vs=[.int n,.ref p]/\H p=some (.tup [.int a,.int b])/\0<=a/\a<n/\0<=b/\b<n/\a≠b/\Q (.bl true) H
theorem J6(F:fW K "is_tie" "is_tie" JZ f fd)(R:cB P w K mg base aW 1 "is_row" ["thing","length"] (zD K))(U:cB P w K mg base aW 4 "are_unlike_houses" ["many","one","other"] Dw):
  bq P w K mg base aW 5 f fd ["many","thing"] Dx:=by
 refine F.ok N_ (fun vs H Q E h=>?_) (fun dR A outer s H vs Q E hr h=>?_)
 .obtain⟨n,p,a,b,rfl,_⟩:=h;rfl
 .obtain⟨n,p,a,b,rfl,hp,a1,a2,b1,b2,m9,k⟩:=h;refine⟨_,aq (aP (jq (aF R (hr.mono (by decide)) aJ (aa (pv 1) (aa aB ag)))
   (mU (aF U hr aJ (aa (pv 0) (aa (bZ fH (pv 1) aB (fun _ _=>rfl)) (aa (bZ fH (pv 1) aB (fun _ _=>rfl)) ag))))))),?_⟩
  refine⟨_,rfl,_,_,_,rfl,.tup hp,true,rfl,?_⟩;exact⟨_,rfl,_,rfl,p,_,_,_,rfl,rfl,bW.of hp,aU (j:=0) rfl,_,rfl,p,_,_,_,rfl,rfl,bW.of hp,aU (j:=1) rfl,n,a,b,rfl,a1,a2,b1,b2,m9,k⟩
theorem zH:aG ["many","ties","tie"] ["many","ties"] (au yw):=⟨rfl,rfl,rfl,by decide +kernel,rfl,by decide +kernel,by decide +kernel⟩
theorem vS:PySem.W.kitOne K (.type "list") (.type "list")=some true:=by kernel_rfl
structure fj(H:Hp)(l:Addr)(n:Nat)(zs:Zs):Prop where
 gm:eU n (zp zs)
 at_:H l=some (.lst (zr zs))
 po:PO H zs
theorem fj.same(h:fj H l n zs)(s:aK H H'):fj H' l n zs:=⟨h.gm,s _ _ h.at_,h.po.same s⟩
def jR:Sp:=fun vs H Q _=>∃ (n:Nat) (l:Addr) (zs:Zs),vs=[.int n,.ref l]/\fj H l n zs/\∀H',aK H H'->Q .bD H'
theorem Dy(F:fW K "check_ties" "check_ties" yw f fd)(B:Bl mg)(gF:∃t,mg "FEWEST_HOUSES"=some (.int 2 t))(gM:∃t,mg "MOST_HOUSES"=some (.int 32 t))(W:cB P w K mg base aW 2 "is_whole_within" ["thing","least","most"] (jE K))(T:cB P w K mg base aW 5 "is_tie" ["many","thing"] Dx):
  bq P w K mg base aW 6 f fd ["many","ties"] jR:=by
 obtain⟨tF,gF⟩:=gF;obtain⟨tM,gM⟩:=gM;refine F.ok zH (fun vs H Q E h=>?_) (fun dR A outer s H vs Q E hr h=>?_)
 .obtain⟨n,l,zs,rfl,_⟩:=h;rfl
 .refine⟨_,ah (cr (gc (fc (aF W (hr.mono (by decide)) aJ (aa (pv 0) (aa (gJ (v:=.int 2) rfl gF ⟨_,rfl⟩) (aa (gJ (v:=.int 32) rfl gM ⟨_,rfl⟩) ag)))))) cp be)
   (ah (cr (gc (fc (aR io (by rfl) B.JT oM (aa (pv 1) (aa (jM (v:=.ty "list") rfl B.lst wE rfl) ag))))) cp be)
   (ah (dA eK rfl (cw (pv 1)) (av (i:=2) zH.nd rfl (Or.inl rfl)) (aq (cr (gc (fc (aF T hr aJ (aa (pv 0) (aa (pv 2) ag))))) cp be)))
   (aq (cr (aQ nQ (aR vk (by rfl) B.len fN (aa (dH (AK rfl (by have:=hr.un;show (A.deeper _).units+8<_;lia)) (by rfl) B.set PyProof.Rows.boot_set (aa (pv 1) ag)) ag)) (aR aV (by rfl) B.len fN (aa (pv 1) ag)) (aT _)) cp be)))),?_⟩
  obtain⟨n,l,zs,rfl,tt,k⟩:=h;obtain⟨fi,hl,po⟩:=id tt;have n1:=fi.n1;have n2:=fi.n2;refine⟨_,rfl,_,_,2,32,rfl,.int n,_,rfl,?_⟩;rw[show eV (some (n:Int)) 2 32=true by unfold eV;simp;lia];refine fT ?_;refine⟨_,rfl,_,_,_,.type "list",true,rfl,⟨rfl,vS⟩,.of (.lst hl),_,rfl,fT ?_⟩;refine⟨_,rfl,l,rfl,⟨_,ba.of hl⟩,ge (K:=K) (a:=l) (xs:=zr zs) (fun i σ H2=>H2=H/\∃v,σ=[some (.int n),some (.ref l),v]) ⟨rfl,none,rfl⟩ (fun i σ H2 _ ⟨e,_⟩=>by rw[e];exact ba.of hl) ?_ ?_⟩
  .rintro i x σ H2 hx ⟨rfl,v,rfl⟩;obtain⟨z,hz,rfl⟩:=ub hx;have rA:z∈zs:=du hz;have WO:z.2∈zp zs:=bo.mpr ⟨z,rA,rfl⟩;have r:=fi.rg _ WO;exact⟨_,rfl,_,rfl,n,_,_,_,rfl,po z rA,r.1.1,r.1.2,r.2.1,r.2.2,fi.ne _ WO,_,rfl,fT ⟨rfl,_,rfl⟩⟩
  .rintro σ H2 ⟨rfl,v,rfl⟩;have dX:(zp zs).length<=256:=fi.len;refine⟨_,rfl,l,zs.map (·.1),zp zs,rfl,ba.of (by rw[<-ua];exact hl),by rw[aH,cU],fun i hi=>?_,fi.nd,fun y hy=>?_,by lia,fun D hD=>?_⟩
   .rw[cU] at hi;rw[Dt hi,F3 hi];exact bW.of (po _ (eC hi))
   .have r:=fi.rg _ hy;lia
   .have nl:l≠D:=ap hl hD;refine⟨D,_,rfl,af,by lia,_,rfl,l,zr zs,rfl,.inl (ba.of (by rw[am nl];exact hl)),rfl,_,rfl,?_⟩;have ez:(!decide (V.int (((zp zs).length:Nat):Int)=V.int (((zr zs).length:Nat):Int)))=false:=by rw[cU,jF];simp
    rw[ez];exact fT (k _ (ai hD))
end
abbrev vT:Stmt:=top 39
section
variable {P:Program} {w:World} {K:PySem.W.Frag} {mg:Str->Option Value} {base:Heap}
theorem nE(S:St->Prop)(p q:Int×Int->Int)(h:Int)(hD:H D=none)(hl:H l=some (.lst (zr zs)))(po:PO H zs)(hn:zs.length<=1000)(s0:S σB)(hg:∀z σ H2 (Kt:V->St->Hp->Prop) (Kf:St->Hp->Prop),z∈zs->S σ->H2 z.1=some (Ig z.2)->(∀σ2,S σ2->p z.2=h->Kt (.int (q z.2)) σ2 H2)->(∀σ2,S σ2->p z.2≠h->Kf σ2 H2)->
   g (.ref z.1) σ H2 fun σ2 H2=>tt σ2 H2 fun b H3=>if b=true then te σ2 H3 fun v H4=>Kt v σ2 H4 else Kf σ2 H3)(hd:dU (upd H D (.lst (IV (((zp zs).filter fun y=>decide (p y=h)).map q))))):im (EY K l) g tt te D dU σB (upd H D (.lst [])):=by
 have nl:l≠D:=ap hl hD;have tk:∀ {i:Nat} {z:Addr×(Int×Int)},zs[i]?=some z->(zp zs).take (i+1)=(zp zs).take i++[z.2]:=fun {i z} hz=>by
  rw[gI,show (zp zs)[i]?=some z.2 by unfold zp;rw[bi,hz];rfl];rfl
 refine fg (xs:=zr zs) (fun i ys σ H2=>S σ/\ys=IV ((((zp zs).take i).filter fun y=>decide (p y=h)).map q)/\H2=upd H D (.lst ys)) ⟨s0,by simp,rfl⟩ (fun i ys σ H2 _ ⟨_,_,e⟩=>by rw[e];exact ba.of (by rw[am nl];exact hl)) ?_ ?_
 .rintro i x ys σ H2 Kt Kf hx ⟨hS,ey,rfl⟩ kt kf;obtain⟨z,hz,rfl⟩:=ub hx;have rA:z∈zs:=du hz;have hp:=po z rA;have na:z.1≠D:=ap hp hD;have hi:i<zs.length:=(dS.mp hz).1;refine hg z σ _ Kt Kf rA hS (by rw[am na];exact hp) (fun σ2 s2 e=>?_) (fun σ2 s2 e=>?_)
  .refine kt _ _ _ af ?_ ⟨s2,?_,?_⟩
   .rw[ey,aH,aH];exact eA (i8 _ _) (eA (wU _ _) (cC (show i<1000 by lia) (by decide)))
   .rw[ey,tk hz,iQ,cn];have:decide (p z.2=h)=true:=by simp[e]
    simp[eJ,this]
   .rw[lB]
  .refine kf _ _ ⟨s2,?_,rfl⟩;have:decide (p z.2=h)=false:=by simp[e]
   rw[ey,tk hz,iQ];simp[eJ,this]
 .rintro ys σ H2 ⟨_,ey,rfl⟩;rw[jF,<-cU,iR] at ey;rw[ey];exact hd
theorem LL:(["one","other","house"]:List Str).Nodup:=by decide +kernel
theorem zI:aG ["many","ties","house","leading_out","leading_in"] ["many","ties"] (au J0):=⟨rfl,rfl,rfl,by decide +kernel,rfl,by decide +kernel,by decide +kernel⟩
theorem J7(F:fW K "check_balance" "check_balance" J0 f fd)(B:Bl mg)(gM:∃t,mg "MOST_TIES_OUT"=some (.int 8 t)):
  bq P w K mg base aW 1 f fd ["many","ties"] jR:=by
 obtain⟨tM,gM⟩:=gM;refine F.ok zI (fun vs H Q E h=>?_) (fun dR A outer s H vs Q E hr h=>?_)
 .obtain⟨n,l,zs,rfl,_⟩:=h;rfl
 .obtain⟨n,l,zs,rfl,T,k⟩:=h;have fi:=T.gm;have n1:=fi.n1;have n2:=fi.n2;have dX:zs.length<=256:=by have:=fi.len;rw[cU] at this;exact this
  refine'⟨_,aq (dA eK rfl (cP rfl B.range (aa (pv 0) ag)) (av (i:=2) zI.nd rfl (Or.inr rfl))
   (ah (aY (i:=3) zI.nd rfl (Or.inl rfl) (aR aV (by rfl) B.len fN (aa ?c1 ag)))
   (ah (aY (i:=4) zI.nd rfl (Or.inl rfl) (aR aV (by rfl) B.len fN (aa ?c2 ag)))
   (ah (cr (aQ nQ (pv 3) (pv 4) (aT _)) cp be)
   (aq (cr (aQ uX (pv 3) (gJ (v:=.int 8) rfl gM ⟨_,rfl⟩) (aT _)) cp be)))))),?_⟩
  case c1=>
   refine' cT (g:=pH K 2 (dW (bQ 0) (dW (bQ 1) pG))) (NB:=["one","other","house"]) (src:=[none,none,some 2]) (bU (by kernel_rfl)) rfl (cw (pv 1)) ?g ?t ?e;case g=>exact fun cl C s₃ H₃ fp=>dO (n:=2) rfl (aN (av (i:=0) LL rfl (Or.inl rfl) (Or.inr rfl)) (aN (av (i:=1) LL rfl (Or.inl rfl) (Or.inr rfl)) cL))
   case t=>exact fun cl C s₃ H₃ fp=>gO (aQ j_ (pv 0) (pv 2) (aT _))
   case e=>exact fun cl C s₃ H₃ fp=>pv 0
  case c2=>
   refine' cT (g:=pH K 2 (dW (bQ 0) (dW (bQ 1) pG))) (NB:=["one","other","house"]) (src:=[none,none,some 2]) (bU (by kernel_rfl)) rfl (cw (pv 1)) ?g ?t ?e;case g=>exact fun cl C s₃ H₃ fp=>dO (n:=2) rfl (aN (av (i:=0) LL rfl (Or.inl rfl) (Or.inr rfl)) (aN (av (i:=1) LL rfl (Or.inl rfl) (Or.inr rfl)) cL))
   case t=>exact fun cl C s₃ H₃ fp=>gO (aQ j_ (pv 1) (pv 2) (aT _))
   case e=>exact fun cl C s₃ H₃ fp=>pv 1
  refine⟨_,rfl,n,rfl,by lia,by lia,eF (n:=n) (lo:=0) (fun i σ H2=>aK H H2/\∃a b c,σ=[some (.int n),some (.ref l),a,b,c]) ⟨aK.refl _,none,none,none,rfl⟩ ?_ ?_⟩
  .rintro i σ H2 hi ⟨sm,a,b,c,rfl⟩;have T2:=T.same sm;refine⟨_,rfl,l,rfl,⟨_,ba.of T2.at_⟩,fun D hD=>nE (fun σ=>∃a b,σ=[a,b,some (.int (0+(i:Int)))]) (·.1) (·.1) (0+(i:Int)) hD T2.at_ T2.po (by lia) ⟨_,_,rfl⟩ ?_ ?_⟩
   .rintro z σ H3 Kt Kf hj ⟨x,y,rfl⟩ ha kt kf;refine⟨z.1,_,rfl,bW.of ha,rfl,_,_,rfl,_,_,rfl,rfl,?_⟩;refine⟨_,rfl,_,rfl,rfl,_,rfl,?_⟩;refine il (fun e=>?_) (fun e=>?_)
    .exact⟨_,rfl,kt _ ⟨_,_,rfl⟩ (by simpa using e)⟩
    .exact kf _ ⟨_,_,rfl⟩ (by simpa using e)
   .refine⟨D,_,rfl,.inl (ba.of af),?_⟩;have vN:=bH (o:=.lst (IV (((zp zs).filter fun y=>decide (y.1=0+(i:Int))).map (·.1)))) (sm.trans (aK.refl _)) (H:=H) (by cases z:H D with|none=>rfl|some o=>rw[sm _ _ z] at hD;cases hD);have T3:=T.same vN;refine⟨_,rfl,l,rfl,⟨_,ba.of T3.at_⟩,fun D' WQ=>nE (fun σ=>∃a b,σ=[a,b,some (.int (0+(i:Int)))]) (·.2) (·.2) (0+(i:Int)) WQ T3.at_ T3.po (by lia) ⟨_,_,rfl⟩ ?_ ?_⟩
    .rintro z σ H3 Kt Kf hj ⟨x,y,rfl⟩ ha kt kf;refine⟨z.1,_,rfl,bW.of ha,rfl,_,_,rfl,_,_,rfl,rfl,?_⟩;refine⟨_,rfl,_,rfl,rfl,_,rfl,?_⟩;refine il (fun e=>?_) (fun e=>?_)
     .exact⟨_,rfl,kt _ ⟨_,_,rfl⟩ (by simpa using e)⟩
     .exact kf _ ⟨_,_,rfl⟩ (by simpa using e)
    .refine⟨D',_,rfl,.inl (ba.of af),?_⟩;rw[iC] at *;have q1:(IV (((zp zs).filter fun y=>decide (y.1=(i:Int))).map (·.1))).length=(IV (((zp zs).filter fun y=>decide (y.2=(i:Int))).map (·.2))).length:=by
      rw[aH,aH,aH,aH];exact fi.QJ i
     have q2:(IV (((zp zs).filter fun y=>decide (y.1=(i:Int))).map (·.1))).length<=8:=by
      rw[aH,aH];exact fi.most i
     refine⟨_,rfl,_,rfl,rfl,_,rfl,?_⟩;rw[<-q1];rw[show (!decide (V.int (((IV (((zp zs).filter fun y=>decide (y.1=(i:Int))).map (·.1))).length:Nat):Int)=V.int (((IV (((zp zs).filter fun y=>decide (y.1=(i:Int))).map (·.1))).length:Nat):Int)))=false by simp];refine fT ?_;refine⟨_,rfl,_,_,rfl,rfl,_,rfl,?_⟩;rw[show decide ((((IV (((zp zs).filter fun y=>decide (y.1=(i:Int))).map (·.1))).length:Nat):Int) > 8)=false by rw[wC];lia];exact fT ⟨vN.trans (ai WQ),_,_,_,rfl⟩
  .rintro σ H2 ⟨sm,a,b,c,rfl⟩;exact k H2 sm
end
def Ga:Expr:=match (bC vT).getD 1 (.Pass ⟨0,0,0,0⟩) with
 |.Return (some (.Call _ _ (k::_) _)) _=>k.value
 |_=>.Name "x" ⟨0,0,0,0⟩
def Gb:Arguments:=match Ga with
 |.Lambda a _ _ _=>a
 |_=>{ posonlyargs:=[],args:=[],vararg:=none,kwonlyargs:=[],kw_defaults:=[],kwarg:=none,defaults:=[] }
def Gc:Expr:=match Ga with
 |.Lambda _ b _ _=>b
 |e=>e
def Oa:Scope:=match Ga with
 |.Lambda _ _ s _=>s
 |_=>{ kind:=.function,names:=[],isGenerator:=false,isCoroutine:=false }
def J8:Pos:=match Ga with
 |.Lambda _ _ _ p=>p
 |_=>⟨0,0,0,0⟩
def Ih:Str:=("houses_out":Str)++".<locals>."++"<lambda>"
abbrev lq(Pt:Addr)(H:Hp):Prop:=bR J8 Ih Pt H
def bN(Pt:Addr)(H H':Hp):Prop:=∀b o,H b=some o->b≠Pt->H' b=some o
theorem bN.trans{Pt:Addr}{H H1 H2:Hp}(a:bN Pt H H1)(b:bN Pt H1 H2):bN Pt H H2:=fun c o h n=>b c o (a c o h n) n
theorem bN.of(a:aK H H'):bN Pt H H':=fun c o h _=>a c o h
theorem lq.not(t:lq Pt H)(h:H b=some o)(n:∀ps,o≠.j8 ps):b≠Pt:=by
 rintro rfl;rcases t with z|⟨c,z,_⟩ <;> · rw[h] at z;exact n _ (a_ z)
theorem lq.same(t:lq Pt H)(e:aK H H'):lq Pt H':=by
 rcases t with z|⟨c,z,y⟩
 .exact .inl (e _ _ z)
 .exact .inr ⟨c,e _ _ z,e _ _ y⟩
theorem Gd{n a b h:Int}(hn:0<n)(a0:0<=a)(a1:a<n)(b0:0<=b)(b1:b<n)(e:(a-h) % n=(b-h) % n):a=b:=by
 have h1:=Int.emod_emod_of_dvd (a-h) (Int.dvd_refl n);have q:(a-b) % n=0:=by
  have:a-b=(a-h)-(b-h):=by lia
  rw[this,Int.sub_emod,e,Int.sub_self,Int.zero_emod]
 obtain⟨c,hc⟩:=Int.dvd_of_emod_eq_zero q;have c0:c=0:=by
  rcases Int.lt_trichotomy c 0 with z|z|z
  .have:n*c<=n*(-1):=BN (by lia) (by lia);lia
  .exact z
  .have:n*1<=n*c:=BN (by lia) (by lia);lia
 rw[c0] at hc;lia
theorem qN{ts:Ts}{h:Int}(nd:ts.Nodup):((ts.filter fun y=>decide (y.1=h)).map (·.2)).Nodup:=by
 refine L2.nh (nd.filter _) fun x hx y hy e=>?_;have a:=(cg.mp hx).2;have b:=(cg.mp hy).2;simp at a b;exact mN (a.trans b.symm) e
theorem Bc{n:Nat}{ts:Ts}{h:Nat}(F:eU n ts)(hh:h<n){out:List Int}(ko:Jr (h:Int) (n:Int) ((ts.filter fun y=>decide (y.1=(h:Int))).map (·.2)) out):out.map V.int=NV (cf n ts h):=by
 obtain⟨ps,hp,rfl,hs⟩:=ko;have AO:(ps.map (·.2)).Perm ((ts.filter fun y=>decide (y.1=(h:Int))).map (·.2)):=by
  have:=hp.map (·.2);rw[dh] at this;refine this.trans (sq ?_);conv=>rhs;rw[<-mK ((ts.filter fun y=>decide (y.1=(h:Int))).map (·.2))]
  rfl
 have mem:∀z,z∈ps.map (·.2)↔((h:Int),z)∈ts:=fun z=>by
  rw[AO.mem_iff,bo];constructor
  .rintro⟨y,hy,rfl⟩;obtain⟨y1,y2⟩:=cg.mp hy;have:y.1=(h:Int):=by simpa using y2
   rw[<-this];exact y1
  .intro hz;exact⟨_,cg.mpr ⟨hz,by simp⟩,rfl⟩
 have nd:(ps.map (·.2)).Nodup:=AO.nodup_iff.mpr (qN F.nd);have key:∀q∈ps,q.1=(q.2-(h:Int)) % (n:Int):=fun q hq=>by
  obtain⟨z,_,e⟩:=bo.mp (hp.mem_iff.mp hq);rw[<-e]
 have hn:(0:Int)<n:=by have:=F.n1;lia
 have sorted:(ps.map (·.2)).Pairwise fun x y=>(x-(h:Int)) % (n:Int)<(y-(h:Int)) % (n:Int):=by
  refine i_.mpr ?_;have Zf:=i_.mp nd;refine(hs.and Zf).imp_of_mem fun {x y} hx hy BE=>?_;have l1:=BE.1;rw[key x hx,key y hy] at l1;have ax:=F.rg _ ((mem x.2).mp (bo.mpr ⟨x,hx,rfl⟩));have ay:=F.rg _ ((mem y.2).mp (bo.mpr ⟨y,hy,rfl⟩));have ne:(x.2-(h:Int)) % (n:Int)≠(y.2-(h:Int)) % (n:Int):=fun z=>BE.2 (Gd hn ax.2.1 ax.2.2 ay.2.1 ay.2.2 z);lia
 have e:ps.map (·.2)=(cf n ts h).map fun (o:Nat)=>(o:Int):=by
  refine nY (k:=fun z=>(z-(h:Int)) % (n:Int)) sorted ?_ fun z=>?_
  .refine i_.mpr ?_;exact nX hh
  .rw[mem,bo];constructor
   .intro hz;have r:=F.rg _ hz;refine⟨z.toNat,(dE F hh).mpr ?_,by lia⟩;show (((h:Nat):Int),((z.toNat:Nat):Int))∈ts;rw[show ((z.toNat:Nat):Int)=z by lia];exact hz
   .rintro⟨o,ho,rfl⟩;exact(dE F hh).mp ho
 rw[e,dh];rfl
section
variable {P:Program} {w:World} {K:PySem.W.Frag} {mg:Str->Option Value} {base:Heap}
theorem Dz:aG ["many","ties","house","others"] ["many","ties","house"] (au vT):=⟨rfl,rfl,rfl,by decide +kernel,rfl,by decide +kernel,by decide +kernel⟩
def uc(Pt:Addr):Sp:=fun vs H Q _=>∃ (n:Nat) (l:Addr) (h:Nat) (zs:Zs),vs=[.int n,.ref l,.int h]/\h<n/\fj H l n zs/\lq Pt H/\
 ∀ (r:Addr) (H':Hp),lq Pt H'->bN Pt H H'->H r=none->H' r=some (.lst (NV (cf n (zp zs) h)))->Q (.ref r) H'
theorem Ge(F:qK K "houses_out" "houses_out" vT f fd c)(B:Bl mg)(kb:K.In base)(hb:pS mg base)(hc:PySem.W.codeHdIn K c Pt=true):
  bq P w K mg base aW 1 f fd ["many","ties","house"] (uc Pt):=by
 refine F.ok Dz (fun vs H Q E h=>?_) (fun A outer s H vs Q E hr h=>?_)
 .obtain⟨n,l,h,zs,rfl,_⟩:=h;rfl
 .obtain⟨n,l,h,zs,rfl,hh,T,tb,k⟩:=h;have fi:=T.gm;have n1:=fi.n1;have dX:zs.length<=256:=by have:=fi.len;rw[cU] at this;exact this
  have LS:Na (pM aW P w K mg base ["many","ties","house","others"] "houses_out" (au vT) f (.ref c) A outer s H E).EH Ih Gb Gc Oa "other" "house" "many" 2 0:=
   ⟨⟨_,_,_,_,_,rfl⟩,fun _ _ _ _ _=>rfl,rfl,rfl,rfl,rfl,rfl,rfl,rfl,by decide +kernel,by decide +kernel,by decide +kernel,rfl,rfl,rfl,by decide,⟨by decide,by decide⟩,⟨by decide,by decide⟩⟩
  refine'⟨_,ah (d8 (i:=3) (g:=pH K 2 (dW (bQ 0) (dW (bQ 1) pG))) (NB:=["one","other","house"]) (src:=[none,none,some 2]) (bU (by kernel_rfl)) rfl (cw (pv 1)) ?g ?t ?e Dz.nd rfl rfl rfl)
   (aq (aP (iq (xX LS hr) rfl B.sorted oU (aa (pv 3) ag) (lL (xW (NB:=["other","house","many"]) (src:=[none,some 2,some 0]) (tH kb hb hc) (bU (by kernel_rfl))) pL)))),?_⟩
  case g=>exact fun cl C s₃ H₃ fp=>dO (n:=2) rfl (aN (av (i:=0) LL rfl (Or.inl rfl) (Or.inr rfl)) (aN (av (i:=1) LL rfl (Or.inl rfl) (Or.inr rfl)) cL))
  case t=>exact fun cl C s₃ H₃ fp=>gO (aQ j_ (pv 0) (pv 2) (aT _))
  case e=>exact fun cl C s₃ H₃ fp=>pv 1
  refine⟨_,rfl,l,rfl,⟨_,ba.of T.at_⟩,fun D hD=>nE (fun σ=>∃a b,σ=[a,b,some (.int (h:Int))]) (·.1) (·.2) (h:Int) hD T.at_ T.po (by lia) ⟨_,_,rfl⟩ ?_ ?_⟩
  .rintro z σ H3 Kt Kf hj ⟨x,y,rfl⟩ ha kt kf;refine⟨z.1,_,rfl,bW.of ha,rfl,_,_,rfl,_,_,rfl,rfl,?_⟩;refine⟨_,rfl,_,rfl,rfl,_,rfl,?_⟩;refine il (fun e=>?_) (fun e=>?_)
   .exact⟨_,rfl,kt _ ⟨_,_,rfl⟩ (by simpa using e)⟩
   .exact kf _ ⟨_,_,rfl⟩ (by simpa using e)
  .generalize WR:((zp zs).filter fun y=>decide (y.1=(h:Int))).map (·.2)=os;have HP:os.length<=8:=by rw[<-WR,aH];exact fi.most h
   have sm:aK H (upd H D (.lst (IV os))):=ai hD;refine⟨_,rfl,tb.same sm,fun f' c' H2 Tj gv Aj xR=>?_⟩;have t2:lq Pt H2:=Tj;have nF:H2 D=some (.lst (IV os)):=gv _ _ af ((tb.same sm).not af (by intro ps z;cases z));refine⟨D,f',c',os,h,n,rfl,rfl,ba.of nF,(by lia),xR,Aj,rfl,rfl,by lia,fun r out y3 ko=>?_⟩;rw[<-WR] at ko;rw[Bc fi hh ko];have vN:aK H2 (upd H2 r (.lst (NV (cf n (zp zs) h)))):=ai y3;refine k r _ (t2.same vN) (fun b o e hb=>vN _ _ (gv b o (sm _ _ e) hb)) ?_ af;cases z:H r with
   |none=>rfl
   |some o=>
    by_cases hP:r=Pt
    .rcases t2 with q|⟨_,q,_⟩ <;> · rw[<-hP,y3] at q;cases q
    .rw[gv r o (sm _ _ z) hP] at y3;cases y3
end
abbrev DA:Stmt:=top 40
abbrev yx:Stmt:=top 41
def jY(n:Nat)(R:List Nat)(f:Nat->Nat):List V:=(List.range n).map fun x=>if x∈R then V.int ((f x:Nat):Int) else .bD
theorem jG:(jY n R f).length=n:=by unfold jY;rw[aH,fK]
theorem jH(h:x<n):(jY n R f)[x]?=some (if x∈R then V.int ((f x:Nat):Int) else .bD):=by
 unfold jY;rw[bi,jb h];rfl
theorem yy(hs:s<n):(List.replicate n V.bD).set s (V.int 0)=jY n [s] (fun _=>0):=by
 apply r_;intro x;by_cases hx:x<n
 .rw[jH hx];by_cases e:x=s
  .subst e;rw[mi (by rw[i7];exact hx),ao (by simp)];rfl
  .rw[oY (fun z=>e z.symm),wD,ao hx,aj (by simp[e])]
 .rw[iP (by rw[jf,i7];lia),iP (by rw[jG];lia)]
theorem DB(hv:v<n):(jY n R f).set v (V.int ((k:Nat):Int))=jY n (R++[v]) (put f v k):=by
 apply r_;intro x;by_cases hx:x<n
 .rw[jH hx];by_cases e:x=v
  .subst e;rw[mi (by rw[jG];exact hx),ao (by simp),jB]
  .rw[oY (fun z=>e z.symm),jH hx,fJ e];by_cases h:x∈R
   .rw[ao h,ao (hX _ h)]
   .rw[aj h,aj (fun z=>(cX.mp z).elim h fun z=>e (by simpa using z))]
 .rw[iP (by rw[jf,jG];lia),iP (by rw[jG];lia)]
def Ob(σ:St):Nat:=match σ[4]? with
 |some (some (V.int z))=>z.toNat
 |_=>0
theorem Zg:(["others"]:List Str).Nodup:=by decide +kernel
def qa(H:Hp)(ol:Addr)(n:Nat)(ts:Ts):Prop:=∃bs:List Addr,H ol=some (.lst (bs.map V.ref))/\Holds H bs n (fun h=>.lst (NV (cf n ts h)))
theorem qa.same(x:qa H ol n ts)(e:aK H H'):qa H' ol n ts:=let ⟨bs,a,b⟩:=x;⟨bs,e _ _ a,b.mono fun _ _ z=>e _ _ z⟩
theorem Ii{as:List Addr}{i:Nat}{x:V}(h:(as.map V.ref)[i]?=some x):i<as.length/\x=.ref (as.getD i 0):=by
 rw[bi] at h;cases e:as[i]? with
 |none=>rw[e] at h;cases h
 |some a=>
  rw[e] at h;refine⟨(dS.mp e).1,?_⟩;rw[b9,e];exact(a_ h).symm
section
variable {P:Program} {w:World} {K:PySem.W.Frag} {mg:Str->Option Value} {base:Heap}
theorem lj:aG ["out_lists","start","distances","reached","at","house","other"] ["out_lists","start"] (au DA):=⟨rfl,rfl,rfl,by decide +kernel,rfl,by decide +kernel,by decide +kernel⟩
def ud:Sp:=fun vs H Q _=>∃ (ol:Addr) (n s:Nat) (ts:Ts),vs=[.ref ol,.int s]/\eU n ts/\s<n/\qa H ol n ts/\
 ∀ (r:Addr) (H':Hp),aK H H'->H r=none->H' r=some (.lst (NV ((List.range n).map (far ts s))))->Q (.ref r) H'
theorem Gf{f:Addr}{fd:FuncData}(F:fW K "distances_from" "distances_from" DA f fd)(B:Bl mg):bq P w K mg base aW 1 f fd ["out_lists","start"] ud:=by
 refine F.ok lj (fun vs H Q E h=>?_) (fun dR A outer s H vs Q E hr h=>?_)
 .obtain⟨ol,n,s,ts,rfl,_⟩:=h;rfl
 .obtain⟨ol,n,st,ts,rfl,fi,hs,O,k⟩:=h;have n1:=fi.n1;have n2:=fi.n2;refine'⟨_,ah (d8 (i:=2) (g:=bQ 0) (NB:=["others"]) (src:=[none]) (bU (by kernel_rfl)) rfl (cw (pv 0)) ?g ?t ?e lj.nd rfl rfl rfl)
   (ah (g7 aB (mV (pv 2) (pv 1) ij))
   (ah (aY (i:=3) lj.nd rfl (Or.inl rfl) (dP (aa (pv 1) ag)))
   (ah (aY (i:=4) lj.nd rfl (Or.inl rfl) aB)
   (ah (uU eK (aQ uW (pv 4) (aR aV (by rfl) B.len fN (aa (pv 3) ag)) (aT _))
    (ah (aY (i:=5) lj.nd rfl (Or.inl rfl) (bZ bL (pv 3) (pv 4) (fun _ _=>rfl)))
    (ah (dA eK rfl (cw (bZ bL (pv 0) (pv 5) (fun _ _=>rfl))) (av (i:=6) lj.nd rfl (Or.inl rfl))
     (aq (cr (aQ sL (bZ bL (pv 2) (pv 6) (fun _ _=>rfl)) eO (aT _))
      (ah (g7 (a8 g8 (bZ bL (pv 2) (pv 5) (fun _ _=>rfl)) aB) (mV (pv 2) (pv 6) ij))
      (aq (cu (ka j5 lw lu cY (pv 3) (aa (pv 6) ag))))) be)))
    (aq (xu (i:=4) lj.nd rfl (Or.inl rfl) aB IR)))))
   (aq (aP (pv 2))))))),?_⟩
  case g=>exact fun cl C s₃ H₃ fp=>av (i:=0) Zg rfl (Or.inl rfl) (Or.inr rfl)
  case t=>exact fun cl C s₃ H₃ fp=>dq
  case e=>exact fun cl C s₃ H₃ fp=>eO
  obtain⟨bs,HP,Tk,Ly⟩:=id O;refine⟨_,rfl,ol,rfl,⟨_,ba.of HP⟩,fun D hD=>?_⟩;have Zh:ol≠D:=ap HP hD;refine fg (xs:=bs.map V.ref) (fun i ys σ H2=>(∃a,σ=[a])/\ys=List.replicate i V.bD/\H2=upd H D (.lst ys)) ⟨⟨_,rfl⟩,rfl,rfl⟩ (fun i ys σ H2 _ ⟨_,_,e⟩=>by rw[e];exact ba.of (by rw[am Zh];exact HP)) ?_ ?_
  .rintro i x ys σ H2 Kt Kf hx ⟨⟨a,rfl⟩,rfl,rfl⟩ kt kf;have hi:=(Ii hx).1;refine kt _ _ _ af ?_ ⟨⟨_,rfl⟩,?_,by rw[lB]⟩
   .rw[i7];exact cC hi (by rw[Tk];exact aX n2 (by decide))
   .rw[rP]
  .rintro ys σ H2 ⟨_,rfl,rfl⟩;rw[aH,Tk];refine⟨_,rfl,_,rfl,D,_,st,st,rfl,rfl,af,by rw[i7];exact jP hs,?_⟩;rw[lB,yy hs];refine⟨_,rfl,by show 1<=sizeLine;decide,fun R hR=>?_⟩;have QP:D≠R:=ap (H:=upd H D (.lst (jY n [st] (fun _=>0)))) af hR;have Tl:H R=none:=by rw[am QP.symm] at hR;exact hR
   refine B8 (fun σ H2=>∃ (i:Nat) (Rs:List Nat) (f:Nat->Nat),i<=Rs.length/\A6 n ts st i Rs f/\(∃a b,σ=[some (.ref ol),some (.int st),some (.ref D),some (.ref R),some (.int (i:Int)),a,b])/\aK H H2/\H2 D=some (.lst (jY n Rs f))/\H2 R=some (.lst (NV Rs)))
    (fun σ _=>n-Ob σ) ⟨0,[st],fun _=>0,ce _,A6.start hs,⟨none,none,rfl⟩,bH (ai hD) Tl,?_,af⟩ ?_ ?_
   .rw[am QP,af]
   .rintro σ H2 ⟨i,Rs,f,hi,Bf,⟨a,b,rfl⟩,sm,nF,Oc⟩;have hRn:Rs.length<=n:=fU Bf.nd Bf.lt;refine⟨_,rfl,_,rfl,R,_,rfl,.inl (ba.of Oc),_,_,rfl,rfl,_,rfl,?_⟩;rw[bh];by_cases wu:i<Rs.length
    .rw[show decide ((i:Int)<((Rs.length:Nat):Int))=true by simp;lia];refine va ?_;have hu:Rs[i]?=some Rs[i]:=bT wu;generalize Rs[i]=u at hu;have Gg:u<n:=Bf.lt u (du hu);have Zi:(NV Rs)[i]?=some (.int (u:Int)):=by rw[bi,hu];rfl
     refine⟨_,rfl,_,rfl,R,_,_,_,rfl,rfl,ba.of Oc,aU Zi,?_⟩;have Zj:(bs.map V.ref)[u]?=some (.ref (bs.getD u 0)):=by
      rw[bi,b9,bT (by rw[Tk];exact Gg)];rfl
     have Zk:=sm _ _ (Ly _ Gg);refine⟨_,rfl,_,rfl,ol,_,_,_,rfl,rfl,ba.of (sm _ _ HP),aU Zj,_,rfl,⟨_,ba.of Zk⟩,?_⟩;have nbD:bs.getD u 0≠D:=ap (Ly _ Gg) hD;have nbR:bs.getD u 0≠R:=ap (Ly _ Gg) Tl;refine ge (K:=K) (xs:=NV (cf n ts u)) (fun j σ H3=>∃ (oj:List Nat) (f':Nat->Nat),A6 n ts st i oj f'/\oj[i]?=some u/\(∀v∈(cf n ts u).take j,v∈oj/\f' v<=f' u+1)/\
      (∃b,σ=[some (.ref ol),some (.int st),some (.ref D),some (.ref R),some (.int (i:Int)),some (.int (u:Int)),b])/\aK H H3/\H3 D=some (.lst (jY n oj f'))/\H3 R=some (.lst (NV oj)))
      ⟨Rs,f,Bf,hu,fun v hv=>by simp at hv,⟨_,rfl⟩,sm,nF,Oc⟩ (fun j σ H3 _ ⟨_,_,_,_,_,_,Ij,_⟩=>ba.of (Ij _ _ (Ly _ Gg))) ?_ ?_
     .rintro j x σ H3 hx ⟨oj,f',Gh,wt,dn,⟨b',rfl⟩,Ij,l4,EN⟩;rw[bi] at hx;cases hv:(cf n ts u)[j]? with
      |none=>rw[hv] at hx;cases hx
      |some v=>
       rw[hv] at hx;obtain rfl:V.int ((v:Nat):Int)=x:=a_ hx;have QQ:v∈cf n ts u:=du hv;have LN:v<n:=tS fi Gg QQ;have Zl:T ts u v:=(dE fi Gg).mp QQ;have tk:(cf n ts u).take (j+1)=(cf n ts u).take j++[v]:=by rw[gI,hv];rfl
       have Od:u∈oj:=du wt;refine⟨_,rfl,_,rfl,D,_,_,_,rfl,rfl,ba.of l4,aU (jH LN),rfl,_,rfl,?_⟩;by_cases J9:v∈oj
       .rw[ao J9];refine fT ⟨oj,f',Gh,wt,fun x hx=>?_,⟨_,rfl⟩,Ij,l4,EN⟩;rw[tk] at hx;rcases cX.mp hx with z|z
        .exact dn x z
        .simp at z;subst z;exact⟨J9,Gh.bd u wt _ J9⟩
       .rw[aj J9];refine va ?_;have LP:(jY n oj f')[u]?=some (.int ((f' u:Nat):Int)):=by rw[jH Gg,ao Od]
        refine⟨_,rfl,_,rfl,D,_,_,_,rfl,rfl,ba.of l4,aU LP,_,_,rfl,rfl,_,rfl,_,rfl,D,_,_,_,rfl,rfl,l4,by rw[jG];exact jP LN,?_⟩;have e1:(jY n oj f').set v (.int (((f' u:Nat):Int)+1))=jY n (oj++[v]) (put f' v (f' u+1)):=by
         rw[show ((f' u:Nat):Int)+1=((f' u+1:Nat):Int) by lia,DB LN]
        rw[e1];have vG:(upd H3 D (.lst (jY n (oj++[v]) (put f' v (f' u+1))))) R=some (.lst (NV oj)):=by rw[am QP.symm];exact EN
        have Oe:oj.length<=n:=fU Gh.nd Gh.lt;refine⟨_,rfl,.inl ⟨rfl,_,ba.of vG⟩,_,rfl,R,_,_,rfl,rfl,vG,by rw[bh];exact cC (show oj.length<33 by lia) (by decide),?_⟩;have qL:i<oj.length:=(dS.mp wt).1;have Zm:u≠v:=fun z=>J9 (z ▸ Od);refine⟨oj++[v],put f' v (f' u+1),Gh.add wt LN Zl J9,by rw[nL qL];exact wt,fun x hx=>?_,⟨_,rfl⟩,bH (bH Ij hD) Tl,?_,?_⟩
        .rw[fJ Zm];rw[tk] at hx;rcases cX.mp hx with z|z
         .obtain⟨q1,q2⟩:=dn x z;exact⟨hX _ q1,by rw[fJ (fun (z:x=v)=>J9 (z ▸ q1))];exact q2⟩
         .simp at z;subst z;exact⟨by simp,by rw[jB];exact aI _⟩
        .rw[am QP,af]
        .rw[af];show _=some (HO.lst (NV (oj++[v])));rw[show NV (oj++[v])=NV oj++[.int (v:Int)] by unfold NV;rw[cn];rfl]
     .rintro σ H3 ⟨oj,f',Gh,wt,dn,⟨b',rfl⟩,Ij,l4,EN⟩;rw[bh,iR] at dn;have qL:i<oj.length:=(dS.mp wt).1;have Oe:oj.length<=n:=fU Gh.nd Gh.lt;refine⟨_,rfl,_,_,rfl,rfl,⟨⟨i+1,oj,f',qL,Gh.next wt (fun v t=>dn v ((dE fi Gg).mpr t)),⟨_,_,rfl⟩,Ij,l4,EN⟩,?_⟩⟩;show n-((i:Int)+1).toNat<n-(i:Int).toNat;lia
    .rw[show decide ((i:Int)<((Rs.length:Nat):Int))=false by rw[wC];lia];have e:jY n Rs f=NV ((List.range n).map (far ts st)):=by
      unfold jY NV;rw[dh];refine kF fun x hx=>?_;obtain⟨q1,q2⟩:=Bf.done fi (by lia) (bu.mp hx);rw[ao q1,q2];rfl
     rw[e] at nF;refine fT ⟨_,rfl,k D H2 sm hD nF⟩
   .rintro σ H2 Q1 Q2 imp ⟨v,e1,v2,e2,p,ys,e3,e4,i1,i2,e5,e6,kk,e7,q⟩;exact⟨v,e1,v2,e2,p,ys,e3,e4,i1,i2,e5,e6,kk,e7,imp _ _ q⟩
end
theorem Of:(["row"]:List Str).Nodup:=by decide +kernel
section
variable {P:Program} {w:World} {K:PySem.W.Frag} {mg:Str->Option Value} {base:Heap}
theorem Gi:aG ["distances"] ["distances"] (au yx):=⟨rfl,rfl,rfl,by decide +kernel,rfl,by decide +kernel,by decide +kernel⟩
def uf:Sp:=fun vs H Q _=>∃ (l:Addr) (ds:List Addr) (n:Nat) (o:Nat->List V),vs=[.ref l]/\H l=some (.lst (ds.map V.ref))/\n<=32/\Holds H ds n (fun j=>.lst (o j))/\(∀j,j<n->∀x∈o j,∃i,x=.int i)/\∀H',aK H H'->Q .bD H'
theorem DC(F:fW K "check_reached" "check_reached" yx f fd)(B:Bl mg):bq P w K mg base aW 1 f fd ["distances"] uf:=by
 refine F.ok Gi (fun vs H Q E h=>?_) (fun dR A outer s H vs Q E hr h=>?_)
 .obtain⟨l,ds,n,o,rfl,_⟩:=h;rfl
 .obtain⟨l,ds,n,o,rfl,hl,n2,hh,hx,k⟩:=h;refine'⟨_,aq (cr (fc (aR (AL rfl) (by rfl) B.any PyProof.Rows.boot_any (aa ?c ag))) cp be),?_⟩;case c=>
   refine' cT (g:=bQ 0) (te:=mW (RH K false) (tC .bD) (bj 0)) (NB:=["row"]) (src:=[none]) (bU (by kernel_rfl)) rfl (cw (pv 0)) ?g ?t ?e;case g=>exact fun cl C s₃ H₃ fp=>av (i:=0) Of rfl (Or.inl rfl) (Or.inr rfl)
   case t=>exact fun cl C s₃ H₃ fp=>dq
   case e=>exact fun cl C s₃ H₃ fp=>gK Au eO (pv 0) rfl
  refine⟨_,rfl,l,rfl,⟨_,ba.of hl⟩,fun D hD=>?_⟩;have nl:l≠D:=ap hl hD;refine fg (xs:=ds.map V.ref) (fun i ys σ H2=>(∃a,σ=[a])/\ys=(List.replicate i false).map V.bl/\H2=upd H D (.lst ys)) ⟨⟨_,rfl⟩,rfl,rfl⟩ (fun i ys σ H2 _ ⟨_,_,e⟩=>by rw[e];exact ba.of (by rw[am nl];exact hl)) ?_ ?_
  .rintro i x ys σ H2 Kt Kf Zn ⟨⟨a,rfl⟩,rfl,rfl⟩ kt kf;obtain⟨hi,rfl⟩:=Ii Zn;rw[hh.1] at hi;have hd:=hh.2 i hi;have nd:ds.getD i 0≠D:=ap hd hD;have q1:(o i).all cQ=true:=fu.mpr fun x qC=>by obtain⟨z,rfl⟩:=hx i hi x qC;rfl
   have q2:Bz .bD (o i)=false:=by
    unfold Bz;rw[se];intro x qC;obtain⟨z,rfl⟩:=hx i hi x qC;exact fun z=>by cases z
   refine⟨_,rfl,_,_,rfl,.inl (ba.of (by rw[am nd];exact hd)),rfl,q1,?_⟩;refine kt _ _ _ af ?_ ⟨⟨_,rfl⟩,?_,by rw[lB]⟩
   .rw[aH,i7];exact cC hi (aX n2 (by decide))
   .rw[rP,cn,q2];rfl
  .rintro ys σ H2 ⟨_,rfl,rfl⟩;refine⟨D,_,rfl,ba.of af,_,rfl,?_⟩;have e:(List.replicate (ds.map V.ref).length false).any id=false:=by
    rw[se];intro x qC;rw[(List.mem_replicate.mp qC).2];decide
   rw[e];exact fT (k _ (ai hD))
end
theorem WS:(["one","other"]:List Str).Nodup:=by decide +kernel
theorem Og:(["house","many","ties"]:List Str).Nodup:=by decide +kernel
theorem Tn:(["house","self"]:List Str).Nodup:=by decide +kernel
def l5(p Pt:Addr)(H H':Hp):Prop:=∀b o,H b=some o->b≠p->b≠Pt->H' b=some o
theorem fj.mono(h:fj H l n zs)(e:l5 p Pt H H')(hp:H p=some (.ins C dx fs))(tb:lq Pt H):fj H' l n zs:=
 ⟨h.gm,e _ _ h.at_ (eZ h.at_ hp (by intro z;cases z)) (tb.not h.at_ (by intro ps z;cases z)),fun z hz=>e _ _ (h.po z hz) (eZ (h.po z hz) hp (by intro z;cases z)) (tb.not (h.po z hz) (by intro ps z;cases z))⟩
theorem lq.mono(t:lq Pt H)(e:∀b o,H b=some o->b≠p->H' b=some o)(hp:H p=some (.ins C dx fs)):lq Pt H':=by
 rcases t with z|⟨c,z,y⟩
 .exact .inl (e _ _ z (eZ z hp (by intro q;cases q)))
 .exact .inr ⟨c,e _ _ z (eZ z hp (by intro q;cases q)),e _ _ y (eZ y hp (by intro q;cases q))⟩
theorem lq.full(t:lq Pt H):H Pt≠none:=by
 rcases t with z|⟨c,z,y⟩ <;> rw[z] <;> intro q <;> cases q
theorem l5.free(s:l5 p Pt H H')(hp:H' p≠none)(tb:lq Pt H')(h:H' r=none):H r=none:=by
 cases z:H r with
 |none=>rfl
 |some o=>
  by_cases e1:r=p
  .subst e1;exact absurd h hp
  .by_cases e2:r=Pt
   .subst e2;exact absurd h tb.full
   .rw[s r o z e1 e2] at h;cases h
theorem Oh(h:k [] H):kU σ H k:=h
theorem jS{H:Hp}{p:Addr}{o:HO}(h:H p=some o):H p≠none:=by rw[h];intro z;cases z
section
variable {P:Program} {w:World} {K:PySem.W.Frag} {mg:Str->Option Value} {base:Heap}
theorem J_:aG ["self","many","ties"] ["self","many","ties"] (au zE):=⟨rfl,rfl,rfl,by decide +kernel,rfl,by decide +kernel,by decide +kernel⟩
def yz(C Pt:Addr):Sp:=fun vs H Q E=>∃ (p dx:Addr) (n:Nat) (l:Addr) (zs:Zs),vs=[.ref p,.int n,.ref l]/\H p=some (.ins C dx [])/\fj H l n zs/\lq Pt H/\
  ∀H',bK C H' (fun a=>H a=none) p n (zp zs)->lq Pt H'->l5 p Pt H H'->Q .bD H'
theorem Gj{f C Pt:Addr}{fd:FuncData}(F:fW K "__init__" "Net.__init__" zE f fd)(T:NT K mg C)(B:Bl mg)(CT:cB P w K mg base aW 6 "check_ties" ["many","ties"] jR)(CB:cB P w K mg base aW 1 "check_balance" ["many","ties"] jR)(Zo:cB P w K mg base aW 1 "houses_out" ["many","ties","house"] (uc Pt))(DF:cB P w K mg base aW 1 "distances_from" ["out_lists","start"] ud)(CR:cB P w K mg base aW 1 "check_reached" ["distances"] uf):
  bq P w K mg base aW 7 f fd ["self","many","ties"] (yz C Pt):=by
 refine F.ok J_ (fun vs H Q E h=>?_) (fun dR A outer s H vs Q E hr h=>?_)
 .obtain⟨p,dx,n,l,zs,rfl,_⟩:=h;rfl
 .have Bd:bA 1 _:=hr.mono (by decide);refine'⟨_,ah (cu (aF CT hr aJ (aa (pv 1) (aa (pv 2) ag))))
   (ah (cu (aF CB Bd aJ (aa (pv 1) (aa (pv 2) ag))))
   (ah (sP (pv 0) (pv 1) rfl)
   (ah (sP (pv 0) (aR yf (by rfl) B.sorted oU (aa ?c1 ag)) rfl)
   (ah (sP (pv 0) ?c2 rfl)
   (ah (sP (pv 0) ?c3 rfl)
   (aq (cu (aF CR Bd aJ (aa (kT (pv 0) rfl) ag))))))))),?_⟩
  case c1=>
   refine' cT (g:=pH K 2 (dW (bQ 0) (dW (bQ 1) pG))) (te:=I0 (cA (bj 0) (cA (bj 1) kU))) (NB:=["one","other"]) (src:=[none,none]) (bU (by kernel_rfl)) rfl (cw (pv 2)) ?g ?t ?e;case g=>exact fun cl C s₃ H₃ fp=>dO (n:=2) rfl (aN (av (i:=0) WS rfl (Or.inl rfl) (Or.inr rfl)) (aN (av (i:=1) WS rfl (Or.inl rfl) (Or.inr rfl)) cL))
   case t=>exact fun cl C s₃ H₃ fp=>dq
   case e=>exact fun cl C s₃ H₃ fp=>iH (aa (pv 0) (aa (pv 1) ag))
  case c2=>
   refine' cT (g:=bQ 0) (te:=nR (uc Pt) [] E0 (cA (bj 1) (cA (bj 2) (cA (bj 0) kU)))) (NB:=["house","many","ties"]) (src:=[none,some 1,some 2]) (bU (by kernel_rfl)) rfl (cP rfl B.range (aa (pv 1) ag)) ?g ?t ?e;case g=>exact fun cl C s₃ H₃ fp=>av (i:=0) Og rfl (Or.inl rfl) (Or.inr rfl)
   case t=>exact fun cl C s₃ H₃ fp=>dq
   case e=>exact fun cl C s₃ H₃ fp=>aF Zo Bd aJ (aa (pv 1) (aa (pv 2) (aa (pv 0) ag)))
  case c3=>
   refine' cT (g:=bQ 0) (te:=nR ud [] E0 (cA (IZ K (bj 1) "out_lists") (cA (bj 0) kU))) (NB:=["house","self"]) (src:=[none,some 0]) (bU (by kernel_rfl)) rfl (cP rfl B.range (aa (pv 1) ag)) ?g ?t ?e;case g=>exact fun cl C s₃ H₃ fp=>av (i:=0) Tn rfl (Or.inl rfl) (Or.inr rfl)
   case t=>exact fun cl C s₃ H₃ fp=>dq
   case e=>exact fun cl C s₃ H₃ fp=>aF DF Bd aJ (aa (kT (pv 1) rfl) (aa (pv 0) ag))
  obtain⟨p,dx,n,l,zs,rfl,hp,TT,tb,k⟩:=h;have fi:=TT.gm;have n1:=fi.n1;have n2:=fi.n2;have dX:zs.length<=256:=by have:=fi.len;rw[cU] at this;exact this
  refine⟨_,rfl,_,rfl,n,l,zs,rfl,TT,fun H1 s1=>?_⟩;refine⟨_,rfl,_,rfl,n,l,zs,rfl,TT.same s1,fun H2 s2=>?_⟩;have To:aK H H2:=s1.trans s2;refine⟨_,rfl,_,rfl,p,C,dx,[],rfl,To _ _ hp,T.cl,T.nH,(by show 0<1000;decide),?_⟩
  let G1:Hp:=upd H2 p (.ins C dx (cS "house_count" (.int n) []))
  have d1:l5 p Pt H G1:=fun b o e h1 _=>by show upd _ _ _ _=_;rw[am h1];exact To _ _ e
  have QR:G1 p=some (.ins C dx (cS "house_count" (.int n) [])):=af;have Tp:fj G1 l n zs:=TT.mono d1 hp tb;have Tq:lq Pt G1:=tb.mono (fun b o e h1=>by show upd _ _ _ _=_;rw[am h1];exact To _ _ e) hp;refine⟨_,rfl,l,rfl,⟨_,ba.of Tp.at_⟩,fun D hD=>?_⟩;refine Du (fun y=>y) (fun σ=>∃a b,σ=[a,b]) Tp.at_ Tp.po hD (by lia) ⟨_,_,rfl⟩ ?_ ?_
  .rintro z σ H3 R Kf hz ⟨a,b,rfl⟩ _ ha kk;refine⟨_,_,rfl,bW.of ha,rfl,_,_,rfl,_,_,rfl,rfl,?_⟩;exact⟨_,rfl,_,rfl,by show 2<=sizeLine;decide,fun t ht=>kk _ _ ⟨_,_,rfl⟩ ht⟩
  .intro WT H3 sm l4 Oi ez Zp;rw[List.map_id'] at ez;have HG:WT.length=zs.length:=by rw[<-cU,ez,cU]
   refine Oh ?_;refine F4 l4 Oi (by lia) (fun u hu=>by have:=(fi.rg u (ez ▸ hu)).2;lia) fun tl LQ Tr pm jT=>?_;have Tt:H tl=none:=d1.free (jS QR) Tq (sm.free Tr);have IS:∀z∈LQ,H z.1=none:=fun z hz=>d1.free (jS QR) Tq (Zp z (pm.mem_iff.mp hz));have Tu:H3 p=some (.ins C dx (cS "house_count" (.int n) [])):=sm _ _ QR;have Ka:p≠tl:=ap Tu Tr;refine⟨_,rfl,p,C,dx,_,rfl,by rw[am Ka];exact Tu,T.cl,T.nT,by show 1<1000;decide,?_⟩
   let G2:Hp:=upd (upd H3 tl (.lst (zr LQ))) p (.ins C dx (cS "tie_list" (.ref tl) (cS "house_count" (.int n) [])))
   have q2:∀b o,H3 b=some o->b≠p->G2 b=some o:=fun b o e h1=>by
    show upd _ _ _ _=_;rw[am h1,am (ap e Tr)];exact e
   have d2:l5 p Pt H G2:=fun b o e h1 h2=>q2 _ _ (sm _ _ (d1 _ _ e h1 h2)) h1;have WU:G2 tl=some (.lst (zr LQ)):=by show upd _ _ _ _=_;rw[am Ka.symm,af]
   have Tv:PO G2 LQ:=fun z hz=>q2 _ _ (Oi z (pm.mem_iff.mp hz)) (eZ (Oi z (pm.mem_iff.mp hz)) Tu (by intro z;cases z));have Kb:G2 p=some (.ins C dx (cS "tie_list" (.ref tl) (cS "house_count" (.int n) []))):=af;have Zq:fj G2 l n zs:=TT.mono d2 hp tb;have Kc:lq Pt G2:=Tq.mono (fun b o e h1=>q2 _ _ (sm _ _ e) h1) QR;refine⟨_,rfl,n,rfl,by lia,by lia,fun D2 nF=>?_⟩;refine iK (n:=n) (lo:=0) (fun i ys σ H4=>(∃a,σ=[a,some (.int n),some (.ref l)])/\∃bs:List Addr,ys=bs.map V.ref/\(∀b∈bs,H b=none)/\Holds H4 bs i (fun h=>.lst (NV (cf n (zp zs) h)))/\bN Pt G2 H4/\lq Pt H4/\H4 D2=some (.lst ys)/\∀b∈bs,b≠D2)
    ⟨⟨_,rfl⟩,[],rfl,(fun _ h=>nomatch h),Holds.nil,bN.of (ai nF),Kc.same (ai nF),af,(fun _ h=>nomatch h)⟩ ?_ ?_
   .rintro i ys σ H4 Kt Kf hi ⟨⟨a,rfl⟩,bs,rfl,Tw,hb,BG,LR,yA,Tx⟩ kt kf;have Zr:fj H4 l n zs:=Zq.mono (p:=p) (fun b o e _ h2=>BG _ _ e h2) Kb Kc;have LU:=BG _ _ Kb (Kc.not Kb (by intro ps z;cases z));refine⟨_,rfl,_,rfl,_,rfl,n,l,i,zs,by rw[iC];rfl,hi,Zr,LR,fun r H5 t5 uK QS Zt=>?_⟩;have Tz:H r=none:=l5.free (fun b o e h1 h2=>BG _ _ (d2 _ _ e h1 h2) h2) (jS LU) LR QS;have QT:H5 D2=some (.lst (bs.map V.ref)):=uK _ _ yA (LR.not yA (by intro ps z;cases z));have Oj:r≠D2:=by rintro rfl;rw[yA] at QS;cases QS
    have kj:∀b o n8,H5 b=some o->b≠D2->(upd H5 D2 n8) b=some o:=fun b o n8 e h=>by rw[am h];exact e
    refine kt _ _ _ QT (by rw[aH,hb.1];exact cC hi (aX n2 (by decide))) ⟨⟨_,rfl⟩,bs++[r],by rw[cn];rfl,?_,?_,?_,?_,af,?_⟩
    .intro b k7;rcases cX.mp k7 with z|z
     .exact Tw b z
     .rw[cE.mp z];exact Tz
    .refine Holds.snoc (hb.mono fun j hj e=>?_) (kj _ _ _ Zt Oj);refine kj _ _ _ (uK _ _ e (LR.not e (by intro ps z;cases z))) (Tx _ ?_);rw[b9,bT (by rw[hb.1];exact hj)];exact eC _
    .intro b o e h;exact kj _ _ _ (uK _ _ (BG _ _ e h) h) (ap e nF)
    .rcases t5 with z|⟨c,z,y⟩
     .exact .inl (kj _ _ _ z (eZ z QT (by intro q;cases q)))
     .exact .inr ⟨c,kj _ _ _ z (eZ z QT (by intro q;cases q)),kj _ _ _ y (eZ y QT (by intro q;cases q))⟩
    .intro b k7;rcases cX.mp k7 with z|z
     .exact Tx b z
     .rw[cE.mp z];exact Oj
   .rintro ys σ H4 ⟨_,bs,rfl,Tw,hb,BG,LR,yA,Tx⟩;have LU:H4 p=some (.ins C dx (cS "tie_list" (.ref tl) (cS "house_count" (.int n) []))):=BG _ _ Kb (Kc.not Kb (by intro ps z;cases z));have TB:H D2=none:=d2.free (jS Kb) Kc nF;refine⟨_,rfl,p,C,dx,_,rfl,LU,T.cl,T.nO,by have h1:=dB "tie_list" (V.ref tl) (cS "house_count" (V.int n) []);have h2:=dB "house_count" (V.int n) [];simp at h2;lia,?_⟩
    let G3:Hp:=upd H4 p (.ins C dx (cS "out_lists" (.ref D2) (cS "tie_list" (.ref tl) (cS "house_count" (.int n) []))))
    have q3:∀b o,H4 b=some o->b≠p->G3 b=some o:=fun b o e h1=>by show upd _ _ _ _=_;rw[am h1];exact e
    have Kd:G3 p=some (.ins C dx (cS "out_lists" (.ref D2) (cS "tie_list" (.ref tl) (cS "house_count" (.int n) [])))):=af;have d3:l5 p Pt H G3:=fun b o e h1 h2=>q3 _ _ (BG _ _ (d2 _ _ e h1 h2) h2) h1;have TC:lq Pt G3:=LR.mono q3 LU;have WV:Holds G3 bs n (fun h=>.lst (NV (cf n (zp zs) h))):=hb.mono fun j hj e=>q3 _ _ e (eZ e LU (by intro z;cases z));have TD:G3 D2=some (.lst (bs.map V.ref)):=q3 _ _ yA (eZ yA LU (by intro z;cases z));have O3:qa G3 D2 n (zp zs):=⟨bs,TD,WV⟩
    refine⟨_,rfl,n,rfl,by lia,by lia,fun D3 Ke=>?_⟩;refine iK (n:=n) (lo:=0) (fun i ys σ H6=>(∃a,σ=[a,some (.ref p)])/\∃ds:List Addr,ys=ds.map V.ref/\(∀b∈ds,H b=none)/\Holds H6 ds i (fun s=>.lst (NV ((List.range n).map (far (zp zs) s))))/\aK G3 H6/\H6 D3=some (.lst ys)/\∀b∈ds,b≠D3)
     ⟨⟨_,rfl⟩,[],rfl,(fun _ h=>nomatch h),Holds.nil,ai Ke,af,(fun _ h=>nomatch h)⟩ ?_ ?_
    .rintro i ys σ H6 Kt Kf hi ⟨⟨a,rfl⟩,ds,rfl,uM,hd,Gk,BH,My⟩ kt kf;refine⟨_,rfl,p,C,dx,_,_,rfl,Gk _ _ Kd,T.cl,T.nO,by rw[bg,ao rfl],_,rfl,D2,n,i,zp zs,by rw[iC];rfl,fi,hi,O3.same Gk,fun r H7 TF TH Zu=>?_⟩;have Zv:H7 D3=some (.lst (ds.map V.ref)):=TF _ _ BH;have Oj:r≠D3:=by rintro rfl;rw[BH] at TH;cases TH
     have Tz:H r=none:=l5.free (fun b o e h1 h2=>Gk _ _ (d3 _ _ e h1 h2)) (jS (Gk _ _ Kd)) (TC.same Gk) TH;have kj:∀b o n8,H7 b=some o->b≠D3->(upd H7 D3 n8) b=some o:=fun b o n8 e h=>by rw[am h];exact e
     refine kt _ _ _ Zv (by rw[aH,hd.1];exact cC hi (aX n2 (by decide))) ⟨⟨_,rfl⟩,ds++[r],by rw[cn];rfl,?_,?_,?_,af,?_⟩
     .intro b k7;rcases cX.mp k7 with z|z
      .exact uM b z
      .rw[cE.mp z];exact Tz
     .refine Holds.snoc (hd.mono fun j hj e=>?_) (kj _ _ _ Zu Oj);refine kj _ _ _ (TF _ _ e) (My _ ?_);rw[b9,bT (by rw[hd.1];exact hj)];exact eC _
     .intro b o e;exact kj _ _ _ (TF _ _ (Gk _ _ e)) (ap e Ke)
     .intro b k7;rcases cX.mp k7 with z|z
      .exact My b z
      .rw[cE.mp z];exact Oj
    .rintro ys σ H6 ⟨_,ds,rfl,uM,hd,Gk,BH,My⟩;have Ol:=Gk _ _ Kd;refine⟨_,rfl,p,C,dx,_,rfl,Ol,T.cl,T.nD,by have h1:=dB "tie_list" (V.ref tl) (cS "house_count" (V.int n) []);have h2:=dB "house_count" (V.int n) [];have h3:=dB "out_lists" (V.ref D2) (cS "tie_list" (V.ref tl) (cS "house_count" (V.int n) []));simp at h2;lia,?_⟩;have q4:∀b o u,H6 b=some o->b≠p->(upd H6 p u) b=some o:=fun b o u e h1=>by rw[am h1];exact e
     refine⟨_,rfl,p,C,dx,_,_,rfl,af,T.cl,T.nD,by rw[bg,ao rfl],D3,ds,n,fun s=>NV ((List.range n).map (far (zp zs) s)),rfl,q4 _ _ _ BH (eZ BH Ol (by intro z;cases z)),n2,hd.mono fun j hj e=>q4 _ _ _ e (eZ e Ol (by intro z;cases z)),fun j hj x hx=>?_,fun H8 s8=>?_⟩
     .obtain⟨y,hy,rfl⟩:=bo.mp hx;exact⟨_,rfl⟩
     .have up:∀b o,G3 b=some o->b≠p->H8 b=some o:=fun b o e h1=>s8 _ _ (q4 _ _ _ (Gk _ _ e) h1);have TJ:H D3=none:=d3.free (jS Kd) TC Ke;have WW:∀b o,G2 b=some o->b≠p->b≠Pt->H8 b=some o:=fun b o e h1 h2=>up _ _ (q3 _ _ (BG _ _ e h2) h1) h1;refine k H8 ⟨fi,dx,tl,D2,D3,s8 _ _ af,TB,TJ,⟨bs,up _ _ TD (eZ TD Kd (by intro z;cases z)),Tw,WV.mono fun j hj e=>up _ _ e (eZ e Kd (by intro z;cases z))⟩,
       ⟨ds,s8 _ _ (q4 _ _ _ BH (eZ BH Ol (by intro z;cases z))),uM,hd.mono fun j hj e=>s8 _ _ (q4 _ _ _ e (eZ e Ol (by intro z;cases z)))⟩,
       ⟨Tt,LQ,WW _ _ WU Ka.symm (Kc.not WU (by intro ps z;cases z)),fun z hz=>WW _ _ (Tv z hz) (eZ (Tv z hz) Kb (by intro z;cases z)) (Kc.not (Tv z hz) (by intro ps z;cases z)),IS,((show (zp LQ).Perm (zp WT) from pm.map _).trans (sq ez)),jT⟩⟩ ?_ fun b o e h1 h2=>up _ _ (d3 _ _ e h1 h2) h1
      exact TC.mono up Kd
end
theorem ug:NV xs++[.int (x:Int)]=NV (xs++[x]):=by unfold NV;rw[cn];rfl
theorem vU{xs:List Nat}{i:Nat}{x:V}(h:(NV xs)[i]?=some x):∃y,xs[i]?=some y/\x=.int (y:Int):=by
 unfold NV at h;rw[bi] at h;cases e:xs[i]? with
 |none=>rw[e] at h;cases h
 |some z=>rw[e] at h;exact⟨z,rfl,(a_ h).symm⟩
end tY
namespace L2
open PySem PySem.Spec PyProof.Rows
section
variable {X:Cx}
def QU(X:Cx)(H:Hp)(d:Nat)(x y:V):Prop:=∀ (ae:List (Addr×Obj)) (s:Shared) (σ:St) (A:Around) (u v:Value),aE X ae σ H s->A.units+d<cLine->bw x u->bw y v->SeqAt.EqAt A s u v true
theorem Be(I:aE X ae σ H s)(hu:A.units+d<cLine)(rx:aO xs us)(ry:aO ys vs)(he:∀i,i<xs.length->i<ys.length->QU X H d (xs.getD i .bD) (ys.getD i .bD)):∀j (h1:j<us.toArray.size) (h2:j<vs.toArray.size),SeqAt.EqAt A s us.toArray[j] vs.toArray[j] true:=by
 intro j h1 h2;have j1:j<xs.length:=by rw[rx.length];simpa using h1
 have j2:j<ys.length:=by rw[ry.length];simpa using h2
 have e1:xs[j]?=some (xs.getD j .bD):=by rw[b9,bT j1];rfl
 have e2:ys[j]?=some (ys.getD j .bD):=by rw[b9,bT j2];rfl
 obtain⟨u,Jp,ru⟩:=rx.get e1;obtain⟨v,Fq,rv⟩:=ry.get e2;have eu:us.toArray[j]=u:=by
  have:us[j]?=some us.toArray[j]:=by simp at h1 |-
  rw[Jp] at this;exact(a_ this).symm
 have ev:vs.toArray[j]=v:=by
  have:vs[j]?=some vs.toArray[j]:=by simp at h2 |-
  rw[Fq] at this;exact(a_ this).symm
 rw[eu,ev];exact he j j1 j2 ae s σ A u v I hu ru rv
theorem DD:(List.range n).all (fun _=>true)=true:=fu.mpr fun _ _=>rfl
def TK(X:Cx)(MM:Bool)(d:Nat):R2:=fun x y H Q=>∃p q xs ys,x=.ref p/\y=.ref q/\bW X.K H p xs/\bW X.K H q ys/\xs.length=ys.length/\(∀i,i<xs.length->i<ys.length->QU X H d (xs.getD i .bD) (ys.getD i .bD))/\Q (.bl (!MM)) H
theorem Gm{d:Nat}(hu:X.A.units+(d+1)<cLine):lI X (compareOp .NotEq) (TK X true d):=by
 intro ae s σ H x y v u Q I rx ry h;obtain⟨p,q,xs,ys,rfl,rfl,hp,hq,hl,he,k⟩:=h;obtain rfl:v=Value.ref p:=rx;obtain rfl:u=Value.ref q:=ry;obtain⟨us,r1,p1,_⟩:=I.tuple hp;obtain⟨vs,r2,p2,_⟩:=I.tuple hq;have e:(us.toArray.size==vs.toArray.size)=true:=by simp only[bY];rw[<-r1.length,<-r2.length,hl];simp
 refine SeqAt.RcNeAt.tuples (e:=fun _=>true) (show s.heap.IsTuple p us.toArray from p1) (show s.heap.IsTuple q vs.toArray from p2) (by lia) (Be I (by show X.A.units+1+d<cLine;lia) r1 r2 he) _ _ _ _ ⟨.bl _,H,I,rfl,?_⟩;rw[DD,e];exact k
end
end L2
namespace tY
open PySem L2 iN
section
variable {P:Program} {w:World} {K:PySem.W.Frag} {mg:Str->Option Value} {base:Heap}
end
end tY
namespace L2
open PySem PySem.Spec PyProof.Rows
section
variable {prog:Program} {w:World} {A:Around} {E:Value->Shared->Prop} {s:Shared} {R:Result->Shared->Prop} {l d Ia:Addr}
end
section
variable {prog:Program} {w:World} {A:Around} {E:Value->Shared->Prop} {s:Shared} {l:Addr}
end
section
variable {X:Cx}
end
structure WX(K:PySem.W.Frag)(C:Addr):Prop where
 makes:PySem.W.makesIn K C=true
 init:PySem.W.findIn K (.ref C) "__init__"=some (some (.builtin "object.__init__"))
 keep:PySem.W.keepIn K (.ref C)=true
section
variable {X:Cx} {C:Addr} {x:Str} {p pos:Pos}
def TL(C:Addr):TE:=fun _ H Q=>∀y dx,H y=none->H dx=none->dx≠y->Q (.ref y) (upd (upd H dx (.own y)) y (.ins C dx []))
theorem DE(M:WX X.K C)(hg:Gl X x)(hm:X.mg x=some (.ref C))(xG:(x==("__debug__":Str))=false:=by decide):PE X (.Call (.Name x p) [] [] pos) (TL C):=by
 intro ae s σ H Q I h;refine jd (lF I hg hm ?_ xG);have I2:=aE.made (C:=C) I;have dU:wpAny (model X.prog X.w) X.A (call (.ref C) []) (EP X ae σ Q) X.xe s:=by
  refine jm ?_;refine Ar I.kR M.makes M.init (fun self=>PySem.W.Looks.of_pure (PySem.W.oi_bind self)) ?_;have Y:=xf (M:=model X.prog X.w) I.kR M.makes;have t1:PySem.W.Looks (model X.prog X.w) ((s.heap.push PySem.W.emptyDict).push (PySem.W.instObj C s.heap.objs.size)) (typeOf (.ref (s.heap.objs.size+1))) (.ref C):=(PySem.W.Looks.ld (by heap_get)).andThen .now;have t2:PySem.W.Looks (model X.prog X.w) ((s.heap.push PySem.W.emptyDict).push (PySem.W.instObj C s.heap.objs.size)) (isInstance (.ref (s.heap.objs.size+1)) (.type "object")) true:=t1.andThen (Y.top.keeps fun b o e=>bv _ (bv _ e));refine rX PySem.W.oi_plain PySem.W.entry_oi (@PySem.W.check_slot (model X.prog X.w) _ _ _ "object.__init__" "object" "__init__" (.ref (s.heap.objs.size+1)) [] [] _ PySem.W.oi_kind PySem.W.oi_split t2 (PySem.W.oi_args (.ref (s.heap.objs.size+1))) ?_);rw[PySem.W.oi_run];refine wpAny_pure (And.intro rfl ?_);exact⟨.ref (s.heap.objs.size+1),_,I2,rfl,h _ _ (I.bE.fresh (pB _)) (I.bE.fresh (aI _)) (aM (j7 _))⟩
 exact PySem.W.callWith_K0 I.kR M.keep dU
end
section
variable {X:Cx}
end
end L2
namespace iN
abbrev TN(ts:Ts)(h:Int):Nat:=(ts.filter fun t=>decide (t.1=h)).length
end iN
namespace L2
open PySem PySem.Spec PyProof.Rows
theorem DG{X:Cx}:Ro X .Mult (fun x y H Q=>∃i j,x=.int i/\y=.int j/\Ao i j/\Q (.int (i*j)) H):=by
 intro ae s σ H x y v u Q I r1 r2 h;obtain⟨i,j,e1,e2,c,q⟩:=h;subst e1;subst e2;obtain⟨t,rfl⟩:=r1;obtain⟨t',rfl⟩:=r2;exact imul_int ⟨.int _,H,I.tok _,⟨_,rfl⟩,q⟩ c.ok
theorem Om{X:Cx}{tg e:Expr}{a b:TI}(ha:PI X tg e a)(hb:PI X tg e b):PI X tg e (fun σ H R=>a σ H R\/b σ H R):=fun ae s σ H R I h=>h.elim (ha ae s σ H R I) (hb ae s σ H R I)
end L2
namespace tY
open PySem L2 iN
abbrev uh:Stmt:=top 48
abbrev DH:Stmt:=top 49
theorem qb{α:Type}{x:α}:∀ {k:Nat},(List.replicate k [x]).flatten=List.replicate k x
 |0=>rfl
 |k+1=>by rw[kE,o7,qb,kE];rfl
def km(ns:List Nat):Nat:=ns.foldl (·*·) 1
theorem qc{ns:List Nat}{x:Nat}:km (ns++[x])=km ns*x:=by unfold km;rw[w_];rfl
theorem nG{b:Nat}:∀ {f:Nat},km (List.replicate f b)=b ^ f
 |0=>rfl
 |f+1=>by rw[rP,qc,nG,mH]
section
variable {P:Program} {w:World} {K:PySem.W.Frag} {mg:Str->Option Value} {base:Heap}
theorem ui:aG ["numbers","result","number"] ["numbers"] (au DH):=⟨rfl,rfl,rfl,by decide +kernel,rfl,by decide +kernel,by decide +kernel⟩
def uj(K:PySem.W.Frag):Sp:=fun vs H Q _=>∃ (a:Addr) (ns:List Nat),vs=[.ref a]/\(ba K H a (NV ns)\/bW K H a (NV ns))/\(∀x∈ns,x<=1000)/\Q (.int (km ns)) H
theorem Gn{f:Addr}{fd:FuncData}(F:fW K "product" "product" DH f fd):bq P w K mg base aW 1 f fd ["numbers"] (uj K):=by
 refine F.ok ui (fun vs H Q E h=>?_) (fun dR A outer s H vs Q E hr h=>?_)
 .obtain⟨a,ns,rfl,_⟩:=h;rfl
 .obtain⟨a,ns,rfl,hS,hx,k⟩:=h;refine⟨_,ah (aY (i:=1) ui.nd rfl (Or.inl rfl) aB)
   (ah (dA eK rfl (Om (cw (pv 0)) (B7 (pv 0))) (av (i:=2) ui.nd rfl (Or.inl rfl)) (aq (xu (i:=1) ui.nd rfl (Or.inl rfl) (pv 2) DG)))
   (aq (aP (pv 1)))),?_⟩
  have step:∀ (i:Nat) (x:V) (σ:St) (H2:Hp),(NV ns)[i]?=some x->(H2=H/\∃y,σ=[some (.ref a),some (.int (km (ns.take i))),y])->∃v:Nat,x=.int v/\v<=1000/\km (ns.take (i+1))=km (ns.take i)*v:=fun i x σ H2 qC _=>by
   obtain⟨v,hv,rfl⟩:=vU qC;exact⟨v,rfl,hx v (du hv),by rw[gI,hv];exact qc⟩
  rcases hS with hS|hS
  .refine .inl ⟨_,rfl,a,rfl,⟨_,hS⟩,ge (K:=K) (xs:=NV ns) (fun i σ H2=>H2=H/\∃x,σ=[some (.ref a),some (.int (km (ns.take i))),x]) ⟨rfl,_,rfl⟩ (fun i σ H2 _ z=>by rw[z.1];exact hS) ?_ ?_⟩
   .intro i x σ H2 qC z;obtain⟨v,rfl,h1,e⟩:=step i x σ H2 qC z;obtain⟨rfl,y,rfl⟩:=z;refine⟨_,rfl,_,rfl,_,_,rfl,rfl,.inr ⟨by lia,by lia⟩,rfl,some (.int v),?_⟩;rw[e];rfl
   .rintro σ H2 ⟨rfl,x,rfl⟩;rw[bh,iR];exact⟨_,rfl,k⟩
  .refine .inr ⟨_,rfl,a,rfl,⟨_,hS⟩,E3 (K:=K) (xs:=NV ns) (fun i σ H2=>H2=H/\∃x,σ=[some (.ref a),some (.int (km (ns.take i))),x]) ⟨rfl,_,rfl⟩ (fun i σ H2 _ z=>by rw[z.1];exact hS) ?_ ?_⟩
   .intro i x σ H2 qC z;obtain⟨v,rfl,h1,e⟩:=step i x σ H2 qC z;obtain⟨rfl,y,rfl⟩:=z;refine⟨_,rfl,_,rfl,_,_,rfl,rfl,.inr ⟨by lia,by lia⟩,rfl,some (.int v),?_⟩;rw[e];rfl
   .rintro σ H2 ⟨rfl,x,rfl⟩;rw[bh,iR];exact⟨_,rfl,k⟩
theorem gn:aG ["figures","base","pairs","step","at","house","more"] ["figures","base"] (au uh):=⟨rfl,rfl,rfl,by decide +kernel,rfl,by decide +kernel,by decide +kernel⟩
def qO(b at_ h:Nat):List (Nat×Nat):=(List.range (b-h / b ^ at_ % b-1)).map fun k=>(h,h+(k+1)*b ^ at_)
def qd:Sp:=fun vs H Q _=>∃ (f b:Nat),vs=[.int f,.int b]/\1<=f/\f<=5/\2<=b/\b<=5/\b ^ f<=32/\∀ (r:Addr) (zs:Zs) (H':Hp),aK H H'->H r=none->H' r=some (.lst (zr zs))->PO H' zs->zp zs=(jC f b).map kh->Q (.ref r) H'
def Bg(H:Hp)(D:Addr)(qs:List (Nat×Nat))(H2:Hp):Prop:=aK H H2/\∃zs:Zs,H2 D=some (.lst (zr zs))/\PO H2 zs/\zp zs=qs.map kh
theorem Bg.add{H H2:Hp}{D t:Addr}{qs:List (Nat×Nat)}{q:Nat×Nat}{zs:Zs}(hD:H D=none)(sm:aK H H2)(h1:H2 D=some (.lst (zr zs)))(po:PO H2 zs)(ez:zp zs=qs.map kh)(ht:H2 t=none):Bg H D (qs++[q]) (upd (upd H2 t (Ig (kh q))) D (.lst (zr zs++[.ref t]))):=by
 have nD:D≠t:=ap h1 ht;refine⟨bH (sm.trans (ai ht)) hD,zs++[(t,kh q)],by rw[af,nA];rfl,?_,?_⟩
 .refine PO.putL (xs:=zr zs) ?_ (by rw[am nD];exact h1);exact(po.putN ht).append (PO.one af)
 .rw[nB,ez,cn];rfl
theorem iO{α:Type}{f:Nat->List α}{n:Nat}:(List.range (n+1)).flatMap f=(List.range n).flatMap f++f n:=by
 rw[iS,List.flatMap_append];simp
theorem Bh{f:Addr}{fd:FuncData}(F:fW K "words_pairs" "words_pairs" uh f fd)(B:Bl mg)(PR:cB P w K mg base aW 1 "product" ["numbers"] (uj K)):bq P w K mg base aW 2 f fd ["figures","base"] qd:=by
 refine F.ok gn (fun vs H Q E h=>?_) (fun dR A outer s H vs Q E hr h=>?_)
 .obtain⟨f,b,rfl,_⟩:=h;rfl
 .obtain⟨f,b,rfl,f1,f2,b1,b2,hm,k⟩:=h;have h1:bA 1 _:=hr.mono (by decide);refine⟨_,ah (aY (i:=2) gn.nd rfl (Or.inl rfl) (dP ag))
   (ah (aY (i:=3) gn.nd rfl (Or.inl rfl) aB)
   (ah (dA eK rfl (cP rfl B.range (aa (pv 0) ag)) (av (i:=4) gn.nd rfl (Or.inl rfl))
    (ah (dA eK rfl (cP rfl B.range (aa (aF PR h1 aJ (aa (a8 Cq (dP (aa (pv 1) ag)) (pv 0)) ag)) ag)) (av (i:=5) gn.nd rfl (Or.inl rfl))
     (aq (dA eK rfl (Am rfl B.range (aa aB (aa (a8 sK (pv 1) (a8 gg (a8 lJ (pv 5) (pv 3)) (pv 1))) ag))) (av (i:=6) gn.nd rfl (Or.inl rfl))
      (aq (cu (ka j5 lw lu cY (pv 2) (aa (iH (aa (pv 5) (aa (a8 g8 (pv 5) (a8 ff (pv 6) (pv 3))) ag))) ag)))))))
    (aq (xu (i:=3) gn.nd rfl (Or.inl rfl) (pv 1) DG))))
   (aq (aP (pv 2))))),?_⟩
  refine⟨by show 0<=sizeLine;decide,fun D hD=>?_⟩;refine⟨_,rfl,(f:Int),rfl,by lia,by lia,eF (n:=f) (lo:=0) (fun i σ H2=>(∃x4 x5 x6,σ=[some (.int f),some (.int b),some (.ref D),some (.int ((b ^ i:Nat):Int)),x4,x5,x6])/\Bg H D ((List.range i).flatMap fun at_=>(List.range (b ^ f)).flatMap (qO b at_)) H2) ⟨⟨_,_,_,rfl⟩,ai hD,[],af,PO.nil,rfl⟩ ?_ ?_⟩
  .rintro i σ H2 hi ⟨⟨x4,x5,x6,rfl⟩,vN,zs,hz,po,ez⟩;have hbi:b ^ i<=32:=aX (Nat.pow_le_pow_right (by lia) (by lia)) hm;have hbp:0<b ^ i:=Nat.pow_pos (by lia);refine⟨_,rfl,by show 1<=sizeLine;decide,fun L1 Ik=>⟨_,rfl,L1,(f:Int),[.int b],rfl,rfl,af,by lia,by lia,?_,fun L2 Kg=>?_⟩⟩
   .show 1*(f:Int).toNat<=sizeLine;exact aX (show _<=5 by lia) (by decide)
   have s3:=(ai (o:=.lst [.int b]) Ik).trans (ai (o:=.lst (List.replicate (f:Int).toNat [V.int b]).flatten) Kg);have eL:(List.replicate (f:Int).toNat [V.int b]).flatten=NV (List.replicate f b):=by rw[qb,lA];unfold NV;rw[wX]
   refine⟨L2,List.replicate f b,rfl,.inl (ba.of (by rw[af,eL])),fun x hx=>by rw[BX hx];lia,?_⟩;rw[nG];have Zw:=s3 _ _ hz;have Zx:=po.same s3;have Zy:=vN.trans s3;generalize upd (upd H2 L1 _) L2 _=HL at *;refine⟨((b ^ f:Nat):Int),rfl,by lia,by lia,eF (n:=b ^ f) (lo:=0) (fun j σ H4=>(∃x4 x5 x6,σ=[some (.int f),some (.int b),some (.ref D),some (.int ((b ^ i:Nat):Int)),x4,x5,x6])/\Bg H D (((List.range i).flatMap fun at_=>(List.range (b ^ f)).flatMap (qO b at_))++(List.range j).flatMap (qO b i)) H4) ⟨⟨_,_,_,rfl⟩,Zy,zs,Zw,Zx,by rw[ez];simp⟩ ?_ ?_⟩
   .rintro j σ H4 hj ⟨⟨x4,x5,x6,rfl⟩,BG,Zz,ZA,TQ,ZB⟩;have TR:((0:Int)+(j:Int)) / ((b ^ i:Nat):Int) % (b:Int)=((j / b ^ i % b:Nat):Int):=by rw[iC];rfl
    have cV:j / b ^ i % b<b:=sD _ (by lia);refine⟨_,rfl,_,rfl,_,rfl,_,_,rfl,rfl,⟨by lia,by lia⟩,_,rfl,_,_,rfl,rfl,(by show (0:Int)<(b:Int);lia),_,_,rfl,rfl,1,_,rfl,⟨by lia,by lia,?_,?_⟩,?_⟩
    .rw[TR];lia
    .rw[TR];lia
    rw[TR];have hn:((b:Int)-((j / b ^ i % b:Nat):Int)-1).toNat=b-j / b ^ i % b-1:=by lia
    rw[hn];refine eF (n:=b-j / b ^ i % b-1) (lo:=1) (fun c σ H5=>(∃x4 x6,σ=[some (.int f),some (.int b),some (.ref D),some (.int ((b ^ i:Nat):Int)),x4,some (.int (j:Int)),x6])/\Bg H D (((List.range i).flatMap fun at_=>(List.range (b ^ f)).flatMap (qO b at_))++(List.range j).flatMap (qO b i)++(List.range c).map fun k=>(j,j+(k+1)*b ^ i)) H5) ⟨⟨_,_,by rw[iC];rfl⟩,BG,Zz,ZA,TQ,by rw[ZB];simp⟩ ?_ ?_
    .rintro c σ H5 hc ⟨⟨x4,x6,rfl⟩,DI,ZC,TU,ZD,WY⟩;have hq:(1+(c:Int))*((b ^ i:Nat):Int)=(((c+1)*b ^ i:Nat):Int):=by rw[Int.add_comm];exact(xj _ _).symm
     refine⟨_,rfl,.inl ⟨rfl,_,ba.of TU⟩,_,rfl,_,rfl,_,rfl,_,rfl,_,_,rfl,rfl,.inr ⟨by lia,by lia⟩,_,_,rfl,rfl,by show 2<=sizeLine;decide,fun t ht=>?_⟩;rw[hq];have TV:ZC.length<=100000:=by
      have e:=congrArg List.length WY;rw[cU,aH] at e;have z1:∀at_ h,(qO b at_ h).length<=5:=fun at_ h=>by unfold qO;rw[aH,fK];lia
      have z2:∀ (g:Nat->List (Nat×Nat)) (m M:Nat),(∀x,(g x).length<=M)->((List.range m).flatMap g).length<=m*M:=fun g m M hg=>by
       induction m with
       |zero=>simp
       |succ m ih=>rw[iO,fY,Nat.succ_mul];have:=hg m;lia
      have z3:∀at_,((List.range (b ^ f)).flatMap (qO b at_)).length<=160:=fun at_=>aX (z2 _ _ 5 (z1 at_)) (by lia);have z4:=z2 (fun at_=>(List.range (b ^ f)).flatMap (qO b at_)) i 160 z3;have z5:=z2 (qO b i) j 5 (z1 i);rw[fY,fY,aH,fK] at e;lia
     have st:=ai (o:=Ig (kh (j,j+(c+1)*b ^ i))) ht;refine⟨D,_,_,rfl,rfl,st _ _ TU,by rw[jF];exact eA TV (by decide),⟨_,_,rfl⟩,?_⟩;have:=Bg.add (q:=(j,j+(c+1)*b ^ i)) hD DI TU ZD WY ht;rw[iS,cn,<-cJ];exact this
    .rintro σ H5 ⟨⟨x4,x6,rfl⟩,P5⟩;refine⟨⟨_,_,_,rfl⟩,?_⟩;rw[iO,<-cJ];exact P5
   .rintro σ H4 ⟨⟨x4,x5,x6,rfl⟩,P4⟩;refine⟨_,rfl,_,rfl,_,_,rfl,rfl,.inr ⟨by lia,by lia⟩,⟨x4,x5,x6,?_⟩,?_⟩
    .rw[mH];rfl
    .rw[iO];exact P4
  .rintro σ H2 ⟨⟨x4,x5,x6,rfl⟩,vN,zs,hz,po,ez⟩;exact⟨_,rfl,k D zs H2 vN hD hz po ez⟩
end
abbrev uk:Stmt:=top 46
abbrev um:Stmt:=top 47
theorem eW.weak{H:Hp}{L L':Addr->Prop}{l:Addr}{n:Nat}{r:Nat->List Nat}(R:eW H L l n r)(h:∀a,L a->L' a):eW H L' l n r:=let ⟨bs,a,b,c⟩:=R;⟨bs,a,fun x hx=>h _ (b x hx),c⟩
theorem bK.weak{C:Addr}{H:Hp}{L L':Addr->Prop}{p:Addr}{n:Nat}{ts:Ts}(N:bK C H L p n ts)(h:∀a,L a->L' a):bK C H L' p n ts:=
 let ⟨dx,tl,ol,ds,a,l1,l2,b,c,d1,zs,d2,d3,d4,d5⟩:=N.ob
 ⟨N.gm,dx,tl,ol,ds,a,h _ l1,h _ l2,b.weak h,c.weak h,h _ d1,zs,d2,d3,fun z hz=>h _ (d4 z hz),d5⟩
def vV(H:Hp)(D:Addr)(ts:Ts)(H2:Hp):Prop:=aK H H2/\∃zs:Zs,H2 D=some (.lst (zr zs))/\PO H2 zs/\zp zs=ts
theorem vV.add{H H2:Hp}{D t:Addr}{ts:Ts}{u:Int×Int}{zs:Zs}(hD:H D=none)(sm:aK H H2)(h1:H2 D=some (.lst (zr zs)))(po:PO H2 zs)(ez:zp zs=ts)(ht:H2 t=none):vV H D (ts++[u]) (upd (upd H2 t (Ig u)) D (.lst (zr zs++[.ref t]))):=by
 have nD:D≠t:=ap h1 ht;refine⟨bH (sm.trans (ai ht)) hD,zs++[(t,u)],by rw[af,nA];rfl,?_,?_⟩
 .refine PO.putL (xs:=zr zs) ?_ (by rw[am nD];exact h1);exact(po.putN ht).append (PO.one af)
 .rw[nB,ez];rfl
theorem On{A B:Prop}{b:Bool}(hb:b=true)(h:A):if b=true then A else B:=by rw[ao hb];exact h
theorem l6{A B:Prop}{b:Bool}(hb:b=false)(h:B):if b=true then A else B:=by rw[aj (by rw[hb];decide)];exact h
section
variable {P:Program} {w:World} {K:PySem.W.Frag} {mg:Str->Option Value} {base:Heap}
abbrev DJ(C Pt:Addr)(H:Hp)(n:Nat)(ts:Ts)(Q:VK):Prop:=∀ (p:Addr) (H':Hp),H p=none->bK C H' (fun a=>H a=none) p n ts->lq Pt H'->bN Pt H H'->Q (.ref p) H'
theorem jI:aG ["many","pairs","ties","pair","one","other"] ["many","pairs"] (au um):=⟨rfl,rfl,rfl,by decide +kernel,rfl,by decide +kernel,by decide +kernel⟩
def qe(C Pt:Addr):Sp:=fun vs H Q _=>∃ (n:Nat) (l:Addr) (zs:Zs),vs=[.int n,.ref l]/\H l=some (.lst (zr zs))/\PO H zs/\eU n (jQ (zp zs))/\lq Pt H/\DJ C Pt H n (jQ (zp zs)) Q
theorem Bi{f C Pt fI:Addr}{fd WZ:FuncData}(F:fW K "pairs_net" "pairs_net" um f fd)(B:Bl mg)(T:NT K mg C)(M:Mk K C fI)(bI:js K WZ ["self","many","ties"] [])(GI:bq P w K mg base aW 7 fI WZ ["self","many","ties"] (yz C Pt))(R:cB P w K mg base aW 1 "is_row" ["thing","length"] (zD K)):
  bq P w K mg base aW 9 f fd ["many","pairs"] (qe C Pt):=by
 refine F.ok jI (fun vs H Q E h=>?_) (fun dR A outer s H vs Q E hr h=>?_)
 .obtain⟨n,l,zs,rfl,_⟩:=h;rfl
 .obtain⟨n,l,zs,rfl,hl,po,fi,tb,k⟩:=h;have h1:bA 1 _:=hr.mono (by decide);refine⟨_,ah (cr (gc (fc (aR io (by rfl) B.JT oM (aa (pv 1) (aa (jM (v:=.ty "list") rfl B.lst wE rfl) ag))))) cp be)
   (ah (aY (i:=2) jI.nd rfl (Or.inl rfl) (dP ag))
   (ah (dA eK rfl (cw (pv 1)) (av (i:=3) jI.nd rfl (Or.inl rfl))
    (ah (cr (gc (fc (aF R h1 aJ (aa (pv 3) (aa aB ag))))) cp be)
    (ah (g7 (pv 3) (dO (n:=2) rfl (aN (av (i:=4) jI.nd rfl (Or.inl rfl)) (aN (av (i:=5) jI.nd rfl (Or.inl rfl)) cL))))
    (ah (cu (ka j5 lw lu cY (pv 2) (aa (iH (aa (pv 4) (aa (pv 5) ag))) ag)))
    (aq (cu (ka j5 lw lu cY (pv 2) (aa (iH (aa (pv 5) (aa (pv 4) ag))) ag))))))))
   (aq (aP (Fc M GI hr rfl T.QO bI .nil aJ (aa (pv 0) (aa (pv 2) ag))))))),?_⟩
  have dX:2*zs.length<=256:=by have:=fi.len;rw[tT,cU] at this;exact this
  refine⟨_,rfl,_,_,_,.type "list",true,rfl,⟨rfl,vS⟩,.of (.lst hl),_,rfl,fT ?_⟩;refine⟨by show 0<=sizeLine;decide,fun D hD=>?_⟩;refine⟨_,rfl,l,rfl,⟨_,ba.of (ai hD _ _ hl)⟩,ge (K:=K) (xs:=zr zs) (fun i σ H2=>(∃x3 x4 x5,σ=[some (.int n),some (.ref l),some (.ref D),x3,x4,x5])/\vV H D (jQ ((zp zs).take i)) H2) ⟨⟨_,_,_,rfl⟩,ai hD,[],af,PO.nil,rfl⟩ (fun i σ H2 _ z=>ba.of (z.2.1 _ _ hl)) ?_ ?_⟩
  .rintro i x σ H2 hx ⟨⟨x3,x4,x5,rfl⟩,vN,ys,hy,TW,ey⟩;obtain⟨z,hz,rfl⟩:=ub hx;have hi:i<zs.length:=(dS.mp hz).1;have ha:=vN _ _ (po z (du hz));have Oo:ys.length<=256:=by rw[<-cU,ey,tT,pc,cU];lia
   refine⟨_,rfl,_,_,_,rfl,.tup ha,_,rfl,fT ?_⟩;refine⟨_,rfl,_,_,rfl,bW.of ha,rfl,_,_,rfl,_,_,rfl,rfl,?_⟩;refine⟨_,rfl,.inl ⟨rfl,_,ba.of hy⟩,_,rfl,_,rfl,by show 2<=sizeLine;decide,fun t ht=>?_⟩;refine⟨D,_,_,rfl,rfl,ai ht _ _ hy,by rw[jF];exact eA Oo (by decide),?_⟩;obtain⟨Ij,ZE,TX,Oi,W0⟩:=vV.add (u:=z.2) hD vN hy TW ey ht;have TY:ZE.length=ys.length+1:=by rw[<-cU,W0,<-ey,fY,cU];rfl
   generalize upd (upd H2 t _) D _=H3 at *;refine⟨_,rfl,.inl ⟨rfl,_,ba.of TX⟩,_,rfl,_,rfl,by show 2<=sizeLine;decide,fun t2 W1=>?_⟩;refine⟨D,_,_,rfl,rfl,ai W1 _ _ TX,by rw[jF,TY];exact eA (Nat.succ_le_succ Oo) (by decide),⟨_,_,_,rfl⟩,?_⟩;have P4:=vV.add (u:=yk z.2) hD Ij TX Oi W0 W1;have e2:(zp zs)[i]?=some z.2:=by unfold zp;rw[bi,hz];rfl
   rw[gI,e2,wW,yl];rw[cJ] at P4;exact P4
  .rintro σ H2 ⟨⟨x3,x4,x5,rfl⟩,vN,ys,hy,TW,ey⟩;rw[jF,<-cU,iR] at ey;refine⟨_,rfl,_,rfl,fun px dx nx Op Oq=>?_⟩;have sN:aK H2 (upd (upd H2 dx (.own px)) px (.ins C dx [])):=(ai (o:=.own px) Op).trans (ai (D:=px) (o:=.ins C dx []) (by rw[am Oq.symm];exact nx));have ZF:(upd (upd H2 dx (.own px)) px (.ins C dx [])) px=some (.ins C dx []):=af;have sM:=vN.trans sN;generalize upd (upd H2 dx (.own px)) px (.ins C dx [])=HM at *;have TM:fj HM D n ys:=⟨by rw[ey];exact fi,sN _ _ hy,TW.same sN⟩
   refine⟨px,dx,n,D,ys,rfl,ZF,TM,tb.same sM,fun H7 N7 t7 s7=>⟨rfl,?_⟩⟩;have QV:H px=none:=vN.free nx;rw[ey] at N7;exact k px H7 QV (N7.weak fun a ha=>sM.free ha) t7 fun b o e h=>s7 _ _ (sM _ _ e) (ap e QV) h
theorem DJ.same{C Pt:Addr}{H H1:Hp}{n:Nat}{ts:Ts}{Q:VK}(k:DJ C Pt H n ts Q)(s:aK H H1):DJ C Pt H1 n ts Q:=fun p H' hp N t st=>k p H' (s.free hp) (N.weak fun a ha=>s.free ha) t fun b o e h=>st _ _ (s _ _ e) h
theorem vW:aG ["figures","base","many"] ["figures","base"] (au uk):=⟨rfl,rfl,rfl,by decide +kernel,rfl,by decide +kernel,by decide +kernel⟩
def qf(C Pt:Addr):Sp:=fun vs H Q _=>∃f b:Nat,vs=[.int f,.int b]/\1<=f/\f<=5/\2<=b/\b<=5/\b ^ f<=32/\lq Pt H/\DJ C Pt H (b ^ f) (jQ ((jC f b).map kh)) Q
theorem Bj{f C Pt:Addr}{fd:FuncData}(F:fW K "words_net" "words_net" uk f fd)(B:Bl mg)(gF:∃t,mg "MOST_FIGURES"=some (.int 5 t))(gL:∃t,mg "LEAST_BASE"=some (.int 2 t))(gG:∃t,mg "GREATEST_BASE"=some (.int 5 t))(gM:∃t,mg "MOST_HOUSES"=some (.int 32 t))(W:cB P w K mg base aW 2 "is_whole_within" ["thing","least","most"] (jE K))(PN:cB P w K mg base aW 9 "pairs_net" ["many","pairs"] (qe C Pt))(PR:cB P w K mg base aW 1 "product" ["numbers"] (uj K))(WP:cB P w K mg base aW 2 "words_pairs" ["figures","base"] qd):
  bq P w K mg base aW 10 f fd ["figures","base"] (qf C Pt):=by
 obtain⟨tF,gF⟩:=gF;obtain⟨tL,gL⟩:=gL;obtain⟨tG,gG⟩:=gG;obtain⟨tM,gM⟩:=gM;refine F.ok vW (fun vs H Q E h=>?_) (fun dR A outer s H vs Q E hr h=>?_)
 .obtain⟨f,b,rfl,_⟩:=h;rfl
 .obtain⟨f,b,rfl,f1,f2,b1,b2,hm,tb,k2⟩:=h;have h1:bA 1 _:=hr.mono (by decide);have h2:bA 2 _:=hr.mono (by decide);refine⟨_,ah (cr (gc (fc (aF W h2 aJ (aa (pv 0) (aa aB (aa (gJ (v:=.int 5) rfl gF ⟨_,rfl⟩) ag)))))) cp be)
   (ah (cr (gc (fc (aF W h2 aJ (aa (pv 1) (aa (gJ (v:=.int 2) rfl gL ⟨_,rfl⟩) (aa (gJ (v:=.int 5) rfl gG ⟨_,rfl⟩) ag)))))) cp be)
   (ah (aY (i:=2) vW.nd rfl (Or.inl rfl) (aF PR h1 aJ (aa (a8 Cq (dP (aa (pv 1) ag)) (pv 0)) ag)))
   (ah (cr (aQ uX (pv 2) (gJ (v:=.int 32) rfl gM ⟨_,rfl⟩) (aT _)) cp be)
   (aq (aP (aF PN hr aJ (aa (pv 2) (aa (aF WP h2 aJ (aa (pv 0) (aa (pv 1) ag))) ag)))))))),?_⟩
  refine⟨_,rfl,_,some (f:Int),1,5,rfl,.int _,_,rfl,?_⟩;rw[show eV (some (f:Int)) 1 5=true by unfold eV;simp;lia];refine fT ⟨_,rfl,_,some (b:Int),2,5,rfl,.int _,_,rfl,?_⟩;rw[show eV (some (b:Int)) 2 5=true by unfold eV;simp;lia];refine fT ?_;refine⟨_,rfl,by show 1<=sizeLine;decide,fun L1 Ik=>⟨_,rfl,L1,(f:Int),[.int b],rfl,rfl,af,by lia,by lia,?_,fun L2 Kg=>?_⟩⟩
  .show 1*(f:Int).toNat<=sizeLine;exact aX (show _<=5 by lia) (by decide)
  have s3:=(ai (o:=.lst [.int b]) Ik).trans (ai (o:=.lst (List.replicate (f:Int).toNat [V.int b]).flatten) Kg);have eL:(List.replicate (f:Int).toNat [V.int b]).flatten=NV (List.replicate f b):=by rw[qb,lA];unfold NV;rw[wX]
  refine⟨L2,List.replicate f b,rfl,.inl (ba.of (by rw[af,eL])),fun x hx=>by rw[BX hx];lia,?_⟩;rw[nG];generalize upd (upd H L1 _) L2 _=HL at *;refine⟨_,rfl,_,_,rfl,rfl,_,rfl,?_⟩;refine l6 (eD (show ¬ (32:Int)<((b ^ f:Nat):Int) by lia)) ?_;refine⟨_,rfl,_,rfl,_,rfl,f,b,rfl,f1,f2,b1,b2,hm,fun r zs H4 s4 QS TZ TQ ez=>?_⟩;have sm:=s3.trans s4;refine⟨b ^ f,r,zs,rfl,TZ,TQ,by rw[ez];exact(lf f1 f2 b1 b2 hm).1,tb.same sm,?_⟩;rw[ez];exact k2.same sm
end
end tY
namespace L2
open PySem PySem.Spec PyProof.Rows
def Kh(K:PySem.W.Frag):St->List V->List V->Hp->VK->Prop:=fun _ vs zs H Q=>∃ (l:Addr) (ns:List Int) (b:Bool),vs=[.ref l]/\zs=[.bl b]/\ba K H l (ns.map V.int)/\ns.length<64/\∀ (D:Addr) (LV:List Int),H D=none->LV.Perm ns->Ordered b LV->Q (.ref D) (upd H D (.lst (LV.map V.int)))
theorem qg{X:Cx}:pR X "sorted" ["reverse"] (Kh X.K):=by
 intro ae s σ H vs zs us ws Q I r rz h;obtain⟨l,ns,b,rfl,rfl,hl,AN,q⟩:=h;obtain⟨u1,rfl,r1⟩:=r.one;obtain rfl:u1=Value.ref l:=r1;obtain⟨w1,rfl,Jt⟩:=rz.one;obtain rfl:w1=Value.bool b:=Jt;obtain⟨its,rv,pl,_⟩:=I.list hl;have ia:=xH rv;refine sorted_ints_rev pl.isList ia (by rw[ia.length];exact AN) fun out LV a1 a2 a3=>?_;obtain⟨⟨e,ho⟩,keep⟩:=vJ (h:=s.heap) (vs:=its) (out:=out);have vH:s.heap.get? (s.heap.objs.size+1)=none:=o0 (pB _);have eo:out=out.toList.toArray:=by simp
 refine⟨.ref (s.heap.objs.size+1),_,I.Cu (t':=s.toks) (o:=.lst (LV.map V.int)) keep vH ⟨?_,out.toList,e,mZ a1,by rw[ho]⟩,rfl,q _ LV (I.bE.pO vH) a2 a3⟩;rw[aH,a2.length_eq];exact aX (iB AN) (by decide)
theorem DK{prog:Program}{w:World}{A:Around}{R:Result->Shared->Prop}{I:Addr}{fp wr:List Addr}{n:Nat}{Pv:Nat->Value->Prop}{Z:Nat->Heap->Prop}(W:Walks prog w A.in1 I fp wr n Pv Z)(BI:Nat->Int)(hv:∀i v,Pv i v->∃t,v=.int (BI i) t)(L:Addr)(hL:L∉fp)(d:Value):
  ∀ (k j:Nat) (s:Shared) (c:Nat) (ob:Option (Nat×Value)),n-j=k->j<=n->Z j s.heap->
  s.heap.get? L=some { cls:=.type "list",data:=.seq (match ob with|none=>#[]|some p=>#[p.2,p.2]) c }->
  (match ob with|none=>j=0|some p=>Pv p.1 p.2/\p.1<n/\∀i,i<j->BI i<=BI p.1)->
  (∀v h' tk,(n=0/\v=d\/∃b,b<n/\Pv b v/\∀i,i<n->BI i<=BI b)->(∀b o,b∉wr->b≠L->s.heap.get? b=some o->h'.get? b=some o)->R (.ok (.ret v)) { s with heap:=h',toks:=tk })->
  codeAny (model prog w) A (.builtin "max.loop" ⟨[.ref I,.none,.ref L],[("default",d)]⟩) R s:=by
 have nw:L∉wr:=fun h=>hL (W.sub _ h);have en:(toString "max"++toString ".loop":String)="max.loop":=by decide
 have cm:=CmpOf.ints_gt (prog:=prog) (w:=w) (A:=A.in1) BI hv;intro k;induction k with
 |zero=>
  intro j s c ob hk hj z g Fs q;have ej:j=n:=by lia
  subst ej;refine mz PySem.F.entry_max_loop ?_;rw[rZ mh _];refine ak (m:=seqItems? (.ref L)) (f8 g rfl ?_);refine ak (m:=tryCatch (pyNext (.ref I)) _) (wpAny_tryCatch (W.done s _ _ z fun h' tk k'=>?_));have g':=k' L _ nw g;cases ob with
  |none=>
   refine ak (dJ (wpAny_pure ?_));exact q d _ tk (.inl ⟨Fs,rfl⟩) fun b o hb ER e=>k' b o hb e
  |some p=>
   refine ak (m:=updateSeq L (fun _=>#[])) (wpAny_updateSeq g' rfl (ak (iD (wpAny_pure ?_))));exact q p.2 _ tk (.inr ⟨p.1,Fs.2.1,Fs.1,Fs.2.2⟩) fun b o hb ER e=>(nM _ _ (dN ER)).trans (k' b o hb e)
 |succ k ih=>
  intro j s c ob hk hj z g Fs q;have jn:j<n:=by lia
  refine mz PySem.F.entry_max_loop ?_;rw[rZ mh _];refine ak (m:=seqItems? (.ref L)) (f8 g rfl ?_);refine ak (m:=tryCatch (pyNext (.ref I)) _) (wpAny_tryCatch (W.item j s _ _ jn z fun v h' tk hP z' k'=>?_));have g':=k' L _ nw g;have fr:∀ (o:Obj->Obj) (h:Heap),Z (j+1) h->(∀b,b≠L->(h.update L o).get? b=h.get? b)->Z (j+1) (h.update L o):=fun o h zz e=>W.frame _ _ _ zz fun b hb o' eb=>(e b fun x=>hL (x ▸ hb)).trans eb;cases ob with
  |none=>
   refine ak (m:=pure v) (wpAny_pure ?_);refine ak (m:=updateSeq L (fun _=>#[v,v])) (wpAny_updateSeq g' rfl ?_);rw[en];refine wpAny_pure ⟨pA mh _,ih (j+1) _ _ (some (j,v)) (by lia) (by lia) (fr _ _ z' fun b hb=>nM _ _ (dN hb)) (oZ _ g' rfl) ⟨hP,jn,fun i hi=>?_⟩ fun v' h2 Ot hq kk=>q v' h2 Ot hq fun b o hb ER e=>kk b o hb ER ((nM _ _ (dN ER)).trans (k' b o hb e))⟩;have j0:j=0:=Fs;have:i=j:=by lia
   rw[this];exact jl _
  |some p=>
   obtain⟨pb,pn,pm⟩:=Fs;refine ak (m:=pure v) (wpAny_pure ?_);refine ak (m:=tryCatch (holding [v,v] (richCompare .Gt v p.2 >>= _)) _) (wpAny_tryCatch (f9 (ak (cm j p.1 v p.2 _ _ _ hP pb ?_))));refine ak (f9 (kJ (ak (iD (wpAny_pure ?_)))));by_cases hb:BI j > BI p.1
   .rw[ao (show (fun i j=>decide (BI i > BI j)) j p.1=true from dg hb)];refine ak (wpAny_updateSeq g' rfl (ak (iD ?_)));rw[en];refine wpAny_pure ⟨pA mh _,ih (j+1) _ _ (some (j,v)) (by lia) (by lia) (fr _ _ z' fun b hb=>nM _ _ (dN hb)) (oZ _ g' rfl) ⟨hP,jn,fun i hi=>?_⟩ fun v' h2 Ot hq kk=>q v' h2 Ot hq fun b o hb ER e=>kk b o hb ER ((nM _ _ (dN ER)).trans (k' b o hb e))⟩;by_cases ci:i<j
    .exact Int.le_trans (pm i ci) (Int.le_of_lt hb)
    .have:i=j:=by lia
     rw[this];exact jl _
   .rw[aj (show ¬ (fun i j=>decide (BI i > BI j)) j p.1=true from fun z=>hb (c_ z))];refine ak (iD ?_);rw[en];refine wpAny_pure ⟨pA mh _,ih (j+1) _ _ (some p) (by lia) (by lia) z' g' ⟨pb,pn,fun i hi=>?_⟩ fun v' h2 Ot hq kk=>q v' h2 Ot hq fun b o hb ER e=>kk b o hb ER (k' b o hb e)⟩;by_cases ci:i<j
    .exact pm i ci
    .have:i=j:=by lia
     rw[this];lia
theorem DL(a d:Value):argsOk "max" ⟨[a],[(Str.ofString "default",d)]⟩:=by unfold argsOk;kernel_rfl
def Ou(K:PySem.W.Frag):St->List V->List V->Hp->VK->Prop:=fun _ vs zs H Q=>∃ (l:Addr) (ns:List Int) (d:Int),vs=[.ref l]/\zs=[.int d]/\ba K H l (ns.map V.int)/\∀M,(ns=[]/\M=d\/M∈ns/\∀a∈ns,a<=M)->Q (.int M) H
theorem Bk{X:Cx}(hc:X.calm=true):pR X "max" ["default"] (Ou X.K):=by
 intro ae s σ H vs zs us ws Q I r rz h;obtain⟨l,ns,d,rfl,rfl,hl,q⟩:=h;obtain⟨u1,rfl,r1⟩:=r.one;obtain rfl:u1=Value.ref l:=r1;obtain⟨w1,rfl,Jt⟩:=rz.one;obtain⟨td,rfl⟩:=(show ∃t,_=Value.int d t from Jt)
 obtain⟨its,rv,pl,_⟩:=I.list hl;obtain⟨ps,rfl,rfl⟩:=p7 rv;have hi:intItems ps.toArray=(ps.map (fun p=>Value.int p.1 p.2)).toArray:=by unfold intItems;simp
 have en:(toString "max"++toString ".loop":String)="max.loop":=by decide
 have num:∀j,j<ps.length->numAt ps.toArray j∈ps.map (·.1)/\numAt ps.toArray j=(ps.map (·.1)).getD j 0:=fun j hj=>by
  have e:numAt ps.toArray j=ps[j].1:=by unfold numAt;simp[bT hj]
  refine⟨by rw[e];exact bo.mpr ⟨_,eC hj,rfl⟩,?_⟩;rw[e,b9,bi,bT hj];rfl
 refine kmk_tree PySem.F.kind_max PySem.F.plain_max PySem.F.entry_max (DL _ _) ?_;refine ak (m:=Builtin.Builtins.bindParams "max" ["key","default"] 0 ⟨[],[(Str.ofString "default",.int d td)]⟩) (wpAny_of_eq (a:=[none,some (.int d td)]) rfl ?_);refine ak (wpAny_pure (ak (iter_intList (xs:=ps.toArray) (by rw[hi];exact pl.isList) fun s2 e2 st ZG R5=>?_)));subst e2;refine ak (ph ?_);have W:=Walks.list (prog:=X.prog) (w:=X.w) (A:=X.A.in1) (I.ok.hd hc) s.heap.objs.size l R5 (intItems ps.toArray);have nf:(s.heap.push { cls:=.type "list_iterator",data:=.fields #[.ref l,.int 0 0] }).objs.size∉[s.heap.objs.size,l]:=fun hm=>iU _ (ZG _ hm);rw[en];have ZH:(intItems ps.toArray).size=ps.length:=by simp[intItems]
 refine wpAny_pure ⟨pA mh _,DK W (numAt ps.toArray) (fun _ _=>intItems_at) _ nf _ _ 0 _ _ none rfl (ce _) (W.frame _ _ _ st fun b _ o e=>bv _ e) (b_ _ rfl) rfl fun v h' tk hv hk=>?_⟩;have EL:∀b o,s.heap.get? b=some o->h'.get? b=some o:=old_kept (l:=l) fun b o hb e=>hk b o hb (aM (bb e)) (bv _ e);rw[ZH] at hv;rcases hv with ⟨z,rfl⟩|⟨b,hb,hP,hm⟩
 .refine⟨.int d,H,I.kept (t':=tk) EL,⟨td,rfl⟩,q _ (.inl ⟨?_,rfl⟩)⟩;rw[List.length_eq_zero_iff] at z;rw[z];rfl
 .obtain⟨t,rfl⟩:=intItems_at hP;refine⟨.int _,H,I.kept (t':=tk) EL,⟨t,rfl⟩,q _ (.inr ⟨(num b hb).1,fun a ha=>?_⟩)⟩;obtain⟨j,hj,e⟩:=rS.mp ha;rw[aH] at hj;have:=hm j hj;rw[(num j hj).2,b9,bT (by rw[aH];exact hj)] at this;rw[<-e];exact this
end L2
namespace iN
theorem rB{n:Nat}{ts:Ts}{s:Nat}(F:eU n ts)(hs:s<n):∀ {k x:Nat},x<n->far ts s x=k->∃l:List Nat,l.length=k+1/\l.Nodup/\∀y∈l,y<n/\far ts s y<=k
 |0,x,hx,e=>⟨[x],rfl,by simp,fun y hy=>by rw[cE.mp hy];exact⟨hx,by lia⟩⟩
 |k+1,x,hx,e=>by
  have w:=(F.vK hs hx).1;rw[e] at w;obtain⟨c,wc,t⟩:=w;have hc:=(F.QK t).1;have h1:=(F.vK hs hc).2 _ wc;have h2:=(F.vK hs hx).2 (far ts s c+1) ⟨c,(F.vK hs hc).1,t⟩;obtain⟨l,l1,l2,l3⟩:=rB F hs (k:=k) hc (by lia);refine⟨x::l,by rw[dv,l1],fZ.mpr ⟨fun z=>?_,l2⟩,fun y hy=>?_⟩
  .have:=(l3 x z).2;lia
  .rcases aS.mp hy with rfl|z
   .exact⟨hx,by lia⟩
   .have:=l3 y z;exact⟨this.1,by lia⟩
theorem Ki{n:Nat}{ts:Ts}{a b:Nat}(F:eU n ts)(ha:a<n)(hb:b<n):far ts a b<n:=by
 obtain⟨l,l1,l2,l3⟩:=rB F ha hb rfl;have:=fU l2 fun y hy=>(l3 y hy).1;lia
theorem Go{n:Nat}{ts:Ts}{a b:Nat}(F:eU n ts)(ha:a<n)(hb:b<n)(h:a≠b):1<=far ts a b:=by
 have w:=(F.vK ha hb).1;cases e:far ts a b with
 |zero=>rw[e] at w;exact absurd w h
 |succ k=>lia
def jZ(ds:List Nat)(a:Nat):Nat:=(ds.filter fun d=>decide (a<=d)).length
theorem qh:∀ {es:List Nat} {a i:Nat},es.Pairwise (·>=·)->i<es.length->(a<=es.getD i 0↔i<jZ es a)
 |e::es,a,i,h,hi=>by
  obtain⟨h1,h2⟩:=o5.mp h;unfold jZ;rw[eJ];by_cases c:a<=e
  .rw[ao (dg c),dv];cases i with
   |zero=>exact⟨fun _=>sv _,fun _=>c⟩
   |succ i=>
    rw[List.getD_cons_succ,qh h2 (by simpa using hi)];exact Nat.succ_lt_succ_iff.symm
  .have z:es.filter (fun d=>decide (a<=d))=[]:=List.filter_eq_nil_iff.mpr fun x hx q=>c (aX (c_ q) (h1 x hx));rw[aj (fun q=>c (c_ q)),z];refine⟨fun q=>?_,fun q=>absurd q (sk _)⟩;cases i with
   |zero=>exact absurd q c
   |succ i=>
    rw[List.getD_cons_succ,fV (by simpa using hi)] at q;exact absurd (aX q (h1 _ (eC _))) c
def ll(ds:List Nat)(M:Int):Prop:=∃es:List Nat,es.Perm ds/\es.Pairwise (·>=·)/\(es=[]/\M=0\/(∃i,i<es.length/\M=((es.getD i 0+2*i:Nat):Int))/\∀i,i<es.length->((es.getD i 0+2*i:Nat):Int)<=M)
def fE(st:List (Option Nat))(i:Nat):List Nat:=(List.range i).filter fun j=>(st.getD j none).isSome
noncomputable def dZ(ts:Ts)(homes:List Nat)(st:List (Option Nat))(i:Nat):List Nat:=(fE st i).map fun j=>far ts ((st.getD j none).getD 0) (homes.getD j 0)
theorem qi{st:List (Option Nat)}{i:Nat}:fE st (i+1)=fE st i++if (st.getD i none).isSome then [i] else []:=by
 unfold fE;rw[iS,iQ,eJ];rfl
theorem jU{st:List (Option Nat)}{i:Nat}:(fE st i).length<=i:=aX (i8 _ _) (by rw[fK];exact aI _)
theorem qj{ts:Ts}{homes:List Nat}{st:List (Option Nat)}{i:Nat}:(dZ ts homes st i).length<=i:=by unfold dZ;rw[aH];exact jU
end iN
namespace tY
open PySem L2 iN
abbrev Kj:Stmt:=top 51
abbrev T4:Stmt:=top 52
structure Il(mg:Str->Option Value):Prop where
 zip:mg "zip"=none
 enum:mg "enumerate"=none
def cR(H:Hp)(p:Addr):Prop:=∃a b:Int,H p=some (.lst [.int a,.int b])/\0<=a/\0<=b/\b<4294967296
theorem cR.same{H H':Hp}{p:Addr}(h:cR H p)(s:aK H H'):cR H' p:=let ⟨a,b,e,r⟩:=h;⟨a,b,s _ _ e,r⟩
theorem cR.full{H:Hp}{p:Addr}(h:cR H p):H p≠none:=by obtain⟨a,b,e,_⟩:=h;rw[e];intro z;cases z
theorem cR.ne{H:Hp}{p q:Addr}(h:cR H p)(e:H q=none):q≠p:=by rintro rfl;exact h.full e
theorem cR.put{H:Hp}{p q:Addr}{o:HO}(h:cR H p)(n:p≠q):cR (upd H q o) p:=let ⟨a,b,e,r⟩:=h;⟨a,b,by rw[am n];exact e,r⟩
theorem cR.neT{H:Hp}{p q:Addr}{xs:List V}(h:cR H p)(e:H q=some (.tup xs)):q≠p:=by rintro rfl;obtain⟨a,b,z,_⟩:=h;rw[e] at z;cases z
section
variable {P:Program} {w:World} {K:PySem.W.Frag} {mg:Str->Option Value} {base:Heap}
theorem zJ:aG ["_law_script","_law_place","_law_cell","_law_seed"] ["_law_script","_law_place"] (au Kj):=⟨rfl,rfl,rfl,by decide +kernel,rfl,by decide +kernel,by decide +kernel⟩
def DM(K:PySem.W.Frag):Sp:=fun vs H Q _=>∃ (a:Addr) (ns:List Int) (k:Nat),vs=[.ref a,.int k]/\ba K H a (ns.map V.int)/\k<64/\∀ (r:Addr) (H':Hp),aK H H'->H r=none->cR H' r->Q (.ref r) H'
theorem Kk{f:Addr}{fd:FuncData}(F:fW K "_law_pot" "_law_pot" Kj f fd)(B:Bl mg):bq P w K mg base aW 1 f fd ["_law_script","_law_place"] (DM K):=by
 refine F.ok zJ (fun vs H Q E h=>?_) (fun dR A outer s H vs Q E hr h=>?_)
 .obtain⟨a,ns,k,rfl,_⟩:=h;rfl
 .obtain⟨a,ns,k,rfl,hS,hk,q⟩:=h;refine⟨_,(ah (aY (i:=2) zJ.nd rfl (Or.inl rfl) aB)
   (ah (cr (aQ uW (pv 1) (aR aV (by rfl) B.len fN (aa (pv 0) ag)) (aT _)) (aq (aY (i:=2) zJ.nd rfl (Or.inl rfl) (bZ bL (pv 0) (pv 1) (fun _ _=>rfl)))) be)
   (ah (aY (i:=3) zJ.nd rfl (Or.inl rfl) (a8 gg (a8 g8 (a8 g8 (a8 ff (a8 gg (pv 2) aB) aB) (a8 ff aB (pv 1))) aB) aB))
   (aq (aP (dP (aa (a8 ff (pv 2) (dH qT (by rfl) B.int wJ (aa (gK HB (pv 2) (a8 IU aB aB) (aT _)) ag))) (aa (a8 gg (a8 ff (a8 gg (a8 ff (pv 3) (pv 3)) aB) (pv 3)) aB) ag)))))))),?_⟩
  refine p_ (fun σ Hc=>H=Hc/\σ=[some (.ref a),some (.int k),some (.int 0),none]) ?_ (fun N hN=>hN _ _ ⟨rfl,rfl⟩);rintro σ _ ⟨rfl,rfl⟩;refine p_ (fun σ Hc=>H=Hc/\∃c:Int,σ=[some (.ref a),some (.int k),some (.int c),none]) ?_ ?_
  rotate_left
  .intro N hN;refine⟨_,rfl,_,rfl,a,_,rfl,.inl hS,_,_,rfl,rfl,_,rfl,il (fun e=>?_) (fun e=>hN _ _ ⟨rfl,0,rfl⟩)⟩;have e:k<ns.length:=by have:=c_ e;rw[aH] at this;lia
   exact⟨_,rfl,_,rfl,a,_,_,_,rfl,rfl,hS,aU (by rw[bi,bT e];rfl),hN _ _ ⟨rfl,_,rfl⟩⟩
  rintro σ _ ⟨rfl,c,rfl⟩;have m0:0<=c % 2147483629:=kK _ (by decide);have m1:c % 2147483629<2147483629:=kH _ (by decide);refine⟨_,rfl,_,_,rfl,rfl,(by show (0:Int)<2147483629;decide),_,_,rfl,rfl,.inr ⟨by decide,by decide⟩,_,rfl,_,_,rfl,rfl,.inl ⟨by decide,by decide⟩,_,_,rfl,rfl,_,_,rfl,rfl,_,_,rfl,rfl,(by show (0:Int)<2147483629;decide),?_⟩;have z0:0<=(c % 2147483629*48271+104729*(k:Int)+7) % 2147483629:=kK _ (by decide);have z1:(c % 2147483629*48271+104729*(k:Int)+7) % 2147483629<2147483629:=kH _ (by decide);change bQ 3 (V.int ((c % 2147483629*48271+104729*(k:Int)+7) % 2147483629)) _ H _;generalize (c % 2147483629*48271+104729*(k:Int)+7) % 2147483629=z at *;refine⟨_,rfl,_,rfl,_,_,rfl,rfl,⟨by decide,by decide,by decide⟩,_,_,rfl,rfl,.inr ⟨_,rfl,?_⟩⟩;refine⟨_,_,rfl,rfl,.inr (by split <;> decide),_,rfl,_,rfl,_,_,rfl,rfl,.inl ⟨by lia,by lia⟩,_,_,rfl,rfl,(by show (0:Int)<2147483587;decide),_,rfl,_,_,rfl,rfl,.inr ⟨by lia,by lia⟩,_,_,rfl,rfl,(by show (0:Int)<2147483587;decide),by show 2<=sizeLine;decide,fun r y3=>?_⟩;have v0:0<=z*z % 2147483587*z % 2147483587:=kK _ (by decide);have v1:z*z % 2147483587*z % 2147483587<2147483587:=kH _ (by decide);refine q r _ (ai y3) y3 ⟨_,_,af,?_,v0,by show z*z % 2147483587*z % 2147483587<_;lia⟩;have ZI:(10:Int) ^ Int.toNat 18=1000000000000000000:=by decide
  show 0<=c*(if decide ((10:Int) ^ Int.toNat 18<=c)=true then 1 else 0);rw[ZI];by_cases d:(1000000000000000000:Int)<=c
  .rw[ao (dg d)];lia
  .rw[aj (by rw[eD d];decide)];lia
theorem Ov:aG ["_law_pot_here","_law_many_here","_law_found"] ["_law_pot_here","_law_many_here"] (au T4):=⟨rfl,rfl,rfl,by decide +kernel,rfl,by decide +kernel,by decide +kernel⟩
def Gp:Sp:=fun vs H Q _=>∃ (p:Addr) (m:Nat),vs=[.ref p,.int m]/\0<m/\m<1000000/\cR H p/\∀ (d:Nat) (H':Hp),d<m->bJ p H H'->cR H' p->Q (.int d) H'
theorem Ow{f:Addr}{fd:FuncData}(F:fW K "_law_draw" "_law_draw" T4 f fd):bq P w K mg base aW 1 f fd ["_law_pot_here","_law_many_here"] Gp:=by
 refine F.ok Ov (fun vs H Q E h=>?_) (fun dR A outer s H vs Q E hr h=>?_)
 .obtain⟨p,m,rfl,_⟩:=h;rfl
 .obtain⟨p,m',rfl,m0',m1',⟨a,b,hp,a0,b0,b1⟩,q'⟩:=h;generalize hm:((m':Nat):Int)=m;have m0:0<m:=by lia
  have m1:m<1000000:=by lia
  have q:∀ (d a b:Int) (H':Hp),0<=d->d<m->0<=a->0<=b->b<4294967296->bJ p H H'->H' p=some (.lst [.int a,.int b])->Q (.int d) H':=fun d a b H' h1 h2 h3 h4 h5 h6 h7=>by
   have:=q' d.toNat H' (by lia) h6 ⟨a,b,h7,h3,h4,h5⟩;rw[Int.toNat_of_nonneg h1] at this;exact this
  refine⟨_,(ah (cr (aQ uX (bZ bL (pv 0) aB (fun _ _=>rfl)) aB (aT _)) (ah (aY (i:=2) Ov.nd rfl (Or.inl rfl) (a8 gg (bZ bL (pv 0) aB (fun _ _=>rfl)) (pv 1)))
    (ah (g7 (a8 lJ (bZ bL (pv 0) aB (fun _ _=>rfl)) (pv 1)) (mV (pv 0) aB ij))
    (aq (aP (pv 2))))) be)
   (ah (g7 (a8 gg (a8 g8 (a8 ff (bZ bL (pv 0) aB (fun _ _=>rfl)) aB) aB) aB) (mV (pv 0) aB ij))
   (aq (aP (a8 gg (a8 lJ (a8 gg (a8 ff (bZ bL (pv 0) aB (fun _ _=>rfl)) (bZ bL (pv 0) aB (fun _ _=>rfl))) aB) aB) (pv 1)))))),?_⟩
  have g0:EK [V.int a,V.int b] 0=some (.int a):=aU (j:=0) rfl;have g1:EK [V.int a,V.int b] 1=some (.int b):=aU (j:=1) rfl;refine⟨_,rfl,p,_,_,_,rfl,rfl,ba.of hp,g0,_,_,rfl,rfl,_,rfl,?_⟩;refine il (fun e=>?_) (fun e=>?_)
  .refine⟨_,rfl,p,_,_,_,rfl,rfl,ba.of hp,g0,_,rfl,_,_,rfl,rfl,m0,_,rfl,p,_,_,_,rfl,rfl,ba.of hp,g0,_,rfl,_,_,rfl,rfl,⟨m0,by lia⟩,?_⟩;refine⟨_,rfl,p,_,0,0,rfl,rfl,hp,jP (j:=0) (by show 0<2;decide),_,rfl,?_⟩;exact q _ _ _ _ (kK _ (by lia)) (kH _ m0) (Int.ediv_nonneg a0 (by lia)) b0 b1 bJ.upd af
  .refine⟨_,rfl,p,_,_,_,rfl,rfl,ba.of hp,g1,_,_,rfl,rfl,.inl ⟨by lia,by lia⟩,_,_,rfl,rfl,_,_,rfl,rfl,(by show (0:Int)<2147483629;decide),?_⟩;refine⟨_,rfl,p,_,1,1,rfl,rfl,hp,jP (j:=1) (by show 1<2;decide),?_⟩;have c0:0<=(b*39373+611953) % 2147483629:=kK _ (by decide);have c1:(b*39373+611953) % 2147483629<2147483629:=kH _ (by decide);refine⟨_,rfl,p,_,_,_,rfl,rfl,ba.of af,aU (j:=1) rfl,_,rfl,p,_,_,_,rfl,rfl,ba.of af,aU (j:=1) rfl,_,_,rfl,rfl,.inl ⟨by lia,by lia⟩,_,_,rfl,rfl,(by show (0:Int)<2147483563;decide),_,_,rfl,rfl,⟨by decide,by decide⟩,_,rfl,_,_,rfl,rfl,m0,?_⟩;exact q _ _ _ _ (kK _ (by lia)) (kH _ m0) a0 c0 (by lia) bJ.upd af
end
end tY
namespace iN
end iN
namespace tY
open PySem L2 iN
theorem Gq(c:Nat->Bool)(fR:St->Prop)(hD:H0 D=none)(hn:n<=1000)(h0:fR σB)(hs:∀x σ H (Kt:V->St->Hp->Prop) (Kf:St->Hp->Prop),x<n->fR σ->aK H0 H->(∀σ2 H2,fR σ2->aK H H2->c x=true->Kt (.int (lo+(x:Nat))) σ2 H2)->(∀σ2 H2,fR σ2->aK H H2->c x=false->Kf σ2 H2)->
   g (.int (lo+(x:Nat))) σ H fun σ2 H2=>tt σ2 H2 fun b H3=>if b=true then te σ2 H3 fun v H4=>Kt v σ2 H4 else Kf σ2 H3)(hd:∀H,aK H0 H->H D=some (.lst (((List.range n).filter c).map fun (x:Nat)=>V.int (lo+(x:Int))))->dU H):im (EZ lo n) g tt te D dU σB (upd H0 D (.lst [])):=by
 refine iK (fun i ys σ H=>fR σ/\aK H0 H/\H D=some (.lst ys)/\ys=((List.range i).filter c).map fun (x:Nat)=>V.int (lo+(x:Int))) ⟨h0,ai hD,af,rfl⟩ ?_ ?_
 .rintro i ys σ H Kt Kf hi ⟨sh,sm,ww,rfl⟩ kt kf;refine hs i σ H Kt Kf hi sh sm (fun σ2 H2 F5 s2 e=>?_) (fun σ2 H2 F5 s2 e=>?_)
  .refine kt _ _ _ (s2 _ _ ww) ?_ ⟨F5,bH (sm.trans s2) hD,af,?_⟩
   .rw[aH];refine eA (i8 _ _) ?_;rw[fK];exact cC (show i<1000 by lia) (by decide)
   .rw[iS,iQ,cn];simp[eJ,e]
  .refine kf _ _ ⟨F5,sm.trans s2,s2 _ _ ww,?_⟩;rw[iS,iQ];simp[eJ,e]
 .rintro ys σ H ⟨_,sm,ww,rfl⟩;exact hd H sm ww
theorem kq(h:j<xs.length):(NV xs)[j]?=some (.int ((xs.getD j 0:Nat):Int)):=by
 unfold NV;rw[bi,b9,bT h];rfl
theorem DN(Pv:Nat->List V->St->Hp->Prop)(h0:Pv 0 [] σB H0)(hl:∀i ys σ H,i<=xs.length->Pv i ys σ H->bW K H a xs)(hs:∀i x ys σ H (Kt:V->St->Hp->Prop) (Kf:St->Hp->Prop),xs[i]?=some x->Pv i ys σ H->
   (∀v σ2 H4,H4 D=some (.lst ys)->ys.length<sizeLine->Pv (i+1) (ys++[v]) σ2 (upd H4 D (.lst (ys++[v])))->Kt v σ2 H4)->(∀σ2 H3,Pv (i+1) ys σ2 H3->Kf σ2 H3)->
   g x σ H fun σ2 H2=>tt σ2 H2 fun b H3=>if b=true then te σ2 H3 fun v H4=>Kt v σ2 H4 else Kf σ2 H3)(hd:∀ys σ H,Pv xs.length ys σ H->dU H):im (Lu K a) g tt te D dU σB H0:=by
 refine⟨fun i m σ H=>m=xs.length-i/\i<=xs.length/\∃ys,Pv i ys σ H,⟨xs.length,by simp,ce _,[],h0⟩,?_⟩;rintro i m σ H ⟨rfl,hi,ys,p⟩;have q:=hl i ys σ H hi p;by_cases cV:i<xs.length
 .refine .inr ⟨⟨xs,xs[i],q,by simp[cV]⟩,?_⟩;rintro x H' ⟨rfl,y⟩;exact hs i x ys σ _ (fun v σ2 H4=>∃ys,H4 D=some (.lst ys)/\ys.length<sizeLine/\∃m',m'<xs.length-i/\m'=xs.length-(i+1)/\i+1<=xs.length/\∃n8,Pv (i+1) n8 σ2 (upd H4 D (.lst (ys++[v]))))
   (fun σ2 H3=>∃m',m'<xs.length-i/\m'=xs.length-(i+1)/\i+1<=xs.length/\∃n8,Pv (i+1) n8 σ2 H3) (y xs q) p
   (fun v σ2 H4 z1 z2 z3=>⟨ys,z1,z2,_,by lia,rfl,cV,_,z3⟩) (fun σ2 H3 z=>⟨_,by lia,rfl,cV,_,z⟩)
 .have e:i=xs.length:=by lia
  subst e;exact .inl ⟨⟨xs,q,aI _⟩,hd ys σ H p⟩
section
variable {K:PySem.W.Frag}
end
theorem Kl{xs:List V}{k:Nat}:lO xs none (some (k:Int))=xs.take k:=by
 have h1:HT.qH xs.length 0 none=0:=rfl;have h2:HT.qH xs.length xs.length (some (k:Int))=min k xs.length:=by
  unfold HT.qH;simp;try lia
 unfold lO;rw[h1,h2,List.drop_zero,Nat.sub_zero,List.take_eq_take_iff];simp;try lia
def oV:Option Nat->V
 |none=>.bD
 |some y=>.int (y:Nat)
theorem DO{y:Nat}:∀ {st:List (Option Nat)},(st.map oV).countP (fun z=>jt z (.int (y:Int)))=st.count (some y)
 |[]=>rfl
 |o::st=>by
  rw[ie,mw,DO,List.count_cons];cases o with
  |none=>rfl
  |some x=>
   congr 1;show (if decide ((x:Int)=(y:Int))=true then 1 else 0)=_;by_cases h:x=y
   .subst h;simp
   .rw[aj (by simp;lia),aj (by simp[h])]
theorem l7:∀ {st:List (Option Nat)},(st.map oV).all cQ=true
 |[]=>rfl
 |none::st=>l7 (st:=st)
 |some _::st=>l7 (st:=st)
structure eI(n:Nat)(ts:Ts)(homes:List Nat)(st:List (Option Nat)):Prop where
 len:homes.length=st.length
 hs:∀x∈homes,x<n
 ss:∀i y:Nat,st[i]?=some (some y)->y<n/\homes[i]?≠some y
 W2:∀y,y<n->st.count (some y)<=(cf n ts y).length
theorem eI.snoc{n:Nat}{ts:Ts}{homes:List Nat}{st:List (Option Nat)}{h:Nat}{o:Option Nat}(S:eI n ts homes st)(hh:h<n)(ho:∀y,o=some y->y<n/\y≠h/\st.count (some y)<(cf n ts y).length):eI n ts (homes++[h]) (st++[o]):=by
 refine⟨by rw[fY,fY,S.len];rfl,fun x hx=>?_,fun i y e=>?_,fun y hy=>?_⟩
 .rcases cX.mp hx with z|z
  .exact S.hs x z
  .rw[cE.mp z];exact hh
 .by_cases c:i<st.length
  .rw[nL c] at e;rw[nL (by rw[S.len];exact c)];exact S.ss i y e
  .rw[oQ (by lia)] at e;have hi:i=st.length:=by
    have:=(dS.mp e).1;rw[wK] at this;lia
   subst hi;rw[Nat.sub_self] at e;have:=ho y (a_ e);refine⟨this.1,?_⟩;rw[<-S.len,oQ (aI _),Nat.sub_self];exact fun z=>this.2.1 (a_ z).symm
 .rw[List.count_append,List.count_singleton];by_cases e:o=some y
  .rw[ao (by rw[e];simp)];exact(ho y e).2.2
  .rw[aj (by simpa using e)];exact S.W2 y hy
abbrev T5:Stmt:=top 13
abbrev T6:Stmt:=top 27
abbrev DP:Stmt:=top 24
theorem iX:(["letter","house"]:List Str).Nodup:=by decide +kernel
theorem gu:(["ahead","goes","stand","letter"]:List Str).Nodup:=by decide +kernel
theorem Gr:(["home"]:List Str).Nodup:=by decide +kernel
noncomputable def d0(n:Nat)(ts:Ts)(i j:Nat):List Nat:=(cf n ts i).filter fun o=>decide (far ts o j<far ts i j)
theorem ZJ:(["other","self","home","own"]:List Str).Nodup:=by decide +kernel
def Im:R2:=fun x y H Q=>y=.bD/\Q (.bl (!decide (x=.bD))) H
theorem uq{st:List (Option Nat)}{i:Nat}{x:V}(h:(st.map oV)[i]?=some x):i<st.length/\x=oV (st.getD i none):=by
 have hi:=(dS.mp h).1;rw[aH] at hi;refine⟨hi,?_⟩;rw[bi,bT hi] at h;rw[b9,bT hi];exact(a_ h).symm
theorem zK:(!decide (oV o=.bD))=o.isSome:=by cases o <;> simp[oV]
theorem gR{α:Type}{l:List α}{i:Nat}{d:α}(h:i<l.length):l[i]?=some (l.getD i d):=by rw[b9,bT h];rfl
theorem gT(h:j∈fE st i):j<i/\st.getD j none=some ((st.getD j none).getD 0):=by
 obtain⟨a,b⟩:=cg.mp h;refine⟨bu.mp a,?_⟩;cases e:st.getD j none with
 |none=>rw[e] at b;cases b
 |some y=>rfl
def lm(st gs:List (Option Nat))(l:Nat)(os:List Nat):Option Nat:=os.find? fun h=>!((List.range st.length).any fun a=>decide (st.getD a none=st.getD l none)&&decide (gs.getD a none=some h))
theorem l8{st:List (Option Nat)}{i:Nat}(h:i<st.length):(st.map oV)[i]?=some (oV (st.getD i none)):=by
 rw[bi,b9,bT h];rfl
theorem Io:decide (oV a=oV b)=decide (a=b):=by
 cases a <;> cases b <;> simp[oV];exact⟨fun h=>gW h,fun h=>by rw[h]⟩
theorem zL:E5 (oV a) (oV b)=true:=by cases a <;> cases b <;> rfl
theorem Ip{h:Nat}:∀ {xs:List (Option Nat)},Bz (.int (h:Int)) (xs.map oV)=xs.any fun o=>decide (o=some h)
 |[]=>rfl
 |o::xs=>by
  have ih:=Ip (h:=h) (xs:=xs);unfold Bz at *;rw[ie,mC,mC,ih];cases o with
  |none=>rfl
  |some x=>
   congr 1;show decide ((x:Int)=(h:Int))=_;by_cases e:x=h
   .subst e;simp
   .rw[eD (by lia),eD (by simp[e])]
theorem bK.own(N:bK C H L p n ts):bK C H (fun b=>H b≠none) p n ts:=by
 obtain⟨dx,tl,ol,ds,a,l1,l2,b,c,d⟩:=N.ob;have ne:∀ {b o},H b=some o->H b≠none:=fun e z=>by rw[e] at z;cases z
 have uT:∀ {l r},eW H L l n r->eW H (fun b=>H b≠none) l n r/\H l≠none:=fun ⟨bs,a,b,c⟩=>⟨⟨bs,a,fun x hx=>by
  obtain⟨j,hj,e⟩:=rT hx;have:=c.2 j (by rw[<-c.1];exact hj);rw[b9,bT hj,xg,e] at this;exact ne this,c⟩,ne a⟩
 obtain⟨t1,zs,t2,t3,t4,t5⟩:=d;exact⟨N.gm,dx,tl,ol,ds,a,(uT b).2,(uT c).2,(uT b).1,(uT c).1,ne t2,zs,t2,t3,fun z hz=>ne (t3 z hz),t5⟩
section
variable {P:Program} {w:World} {K:PySem.W.Frag} {mg:Str->Option Value} {base:Heap}
theorem DQ:aG ["self","house","home","own"] ["self","house","home"] (au Dv):=⟨rfl,rfl,rfl,by decide +kernel,rfl,by decide +kernel,by decide +kernel⟩
def ur(C:Addr):Sp:=fun vs H Q _=>∃ (L:Addr->Prop) (p:Addr) (n:Nat) (ts:Ts) (i j:Nat),vs=[.ref p,.int i,.int j]/\bK C H L p n ts/\i<n/\j<n/\∀r H',aK H H'->H r=none->H' r=some (.lst (NV (d0 n ts i j)))->Q (.ref r) H'
theorem DR(F:fW K "good" "Net.good" Dv f fd)(T:NT K mg C)(M:jX P w K mg base aW 5 C "far" ["self","one","other"] (lh C)):
  bq P w K mg base aW 6 f fd ["self","house","home"] (ur C):=by
 obtain⟨fM,WM,mM,bM,GM⟩:=M.ex;refine F.ok DQ (fun vs H Q E h=>?_) (fun dR A outer s H vs Q E hr h=>?_)
 .obtain⟨L,p,n,ts,i,j,rfl,_⟩:=h;rfl
 .obtain⟨L,p,n,ts,i,j,rfl,N,hi,hj,k2⟩:=h;obtain⟨dx,tl,ol,ds,h1,_,_,RO,R,_⟩:=N.ob;have fi:=N.gm;have n2:=fi.n2;refine'⟨_,ah (aY (i:=3) DQ.nd rfl (Or.inr rfl) (fm (pv 0) T.cl mM GM hr bM .nil aJ (aa (pv 1) (aa (pv 2) ag))))
   (aq (aP ?c)),?_⟩
  case c=>
   refine' cT (g:=bQ 0) (tt:=lK (mW (By fun i j=>.bl (decide (i<j))) (mW (Ff K) (mW (Ff K) (IZ K (bj 1) "distances") (bj 0)) (bj 2)) (bj 3))) (te:=bj 0) (NB:=["other","self","home","own"]) (src:=[none,some 0,some 2,some 3]) (bU (by kernel_rfl)) rfl (cw (bZ bL (kT (pv 0) rfl) (pv 1) (fun _ _=>rfl))) ?g ?t ?e;case g=>exact fun cl C s₃ H₃ fp=>av (i:=0) ZJ rfl (Or.inl rfl) (Or.inr rfl)
   case t=>exact fun cl C s₃ H₃ fp=>gO (aQ uW (bZ bL (bZ bL (kT (pv 1) rfl) (pv 0) (fun _ _=>rfl)) (pv 2) (fun _ _=>rfl)) (pv 3) (aT _))
   case e=>exact fun cl C s₃ H₃ fp=>pv 0
  refine⟨_,rfl,p,dx,_,rfl,h1,JY _ _ _ _,_,rfl,_,rfl,L,p,n,ts,i,j,rfl,N,hi,hj,?_⟩;obtain⟨bs,b,r1,r2,r3,_⟩:=RO.row hi;refine⟨_,rfl,p,C,dx,_,_,rfl,h1,T.cl,T.nO,zF _ _ _ _,_,rfl,ol,_,_,_,rfl,rfl,ba.of r1,aU r2,b,rfl,⟨_,ba.of r3⟩,fun D hD=>?_⟩;have nb:b≠D:=ap r3 hD;refine fg (xs:=NV (cf n ts i)) (fun m ys σ H2=>(∃a,σ=[a,some (.ref p),some (.int (j:Int)),some (.int ((far ts i j:Nat):Int))])/\ys=NV (((cf n ts i).take m).filter fun o=>decide (far ts o j<far ts i j))/\H2=upd H D (.lst ys)) ⟨⟨_,rfl⟩,by simp,rfl⟩ (fun m ys σ H2 _ ⟨_,_,e⟩=>by rw[e];exact ba.of (by rw[am nb];exact r3)) ?_ ?_
  .rintro m x ys σ H2 Kt Kf hx ⟨⟨a,rfl⟩,ey,rfl⟩ kt kf;obtain⟨v,hv,rfl⟩:=vU hx;have QQ:v∈cf n ts i:=du hv;have LN:v<n:=tS fi hi QQ;have sm:aK H (upd H D (.lst ys)):=ai hD;obtain⟨bs2,b2,q1,q2,q3,_⟩:=R.row LN;have hg:(NV ((List.range n).map (far ts v)))[j]?=some (.int (far ts v j:Nat)):=by
    rw[bi,bi,jb hj];rfl
   have tk:(cf n ts i).take (m+1)=(cf n ts i).take m++[v]:=by rw[gI,hv];rfl
   have hm:m<(cf n ts i).length:=(dS.mp hv).1;refine⟨_,rfl,p,C,dx,_,_,rfl,sm _ _ h1,T.cl,T.nD,zG _ _ _ _,_,rfl,ds,_,_,_,rfl,rfl,ba.of (sm _ _ q1),aU q2,_,rfl,b2,_,_,_,rfl,rfl,ba.of (sm _ _ q3),aU hg,_,rfl,_,_,rfl,rfl,_,rfl,?_⟩;refine il (fun e=>?_) (fun e=>?_)
   .refine⟨_,rfl,kt _ _ _ af ?_ ⟨⟨_,rfl⟩,?_,by rw[lB]⟩⟩
    .rw[ey,bh];refine eA (i8 _ _) (eA (wU _ _) (cC (show m<33 from ?_) (by decide)));have:(cf n ts i).length<=n:=aX (i8 _ _) (by simp);lia
    .have:decide (far ts v j<far ts i j)=true:=by simp at e |-;lia
     rw[ey,tk,iQ,ug];simp[eJ,this]
   .refine kf _ _ ⟨⟨_,rfl⟩,?_,rfl⟩;have:decide (far ts v j<far ts i j)=false:=by simp at e |-;lia
    rw[ey,tk,iQ];simp[eJ,this]
  .rintro ys σ H2 ⟨_,ey,rfl⟩;rw[bh,iR] at ey;refine k2 D _ (ai hD) hD ?_;rw[af,ey];rfl
theorem T7:aG ["stand"] ["stand"] (au T5):=⟨rfl,rfl,rfl,by decide +kernel,rfl,by decide +kernel,by decide +kernel⟩
def DS:Sp:=fun vs H Q _=>∃ (sa:Addr) (st:List (Option Nat)),vs=[.ref sa]/\H sa=some (.tup (st.map oV))/\st.length<=16/\∀ (r:Addr) (H':Hp),aK H H'->H r=none->H' r=some (.lst (NV (fE st st.length)))->Q (.ref r) H'
theorem Ox{f:Addr}{fd:FuncData}(F:fW K "under_way" "under_way" T5 f fd)(hE:mg "enumerate"=none):bq P w K mg base aW 1 f fd ["stand"] DS:=by
 refine F.ok T7 (fun vs H Q E h=>?_) (fun dR A outer s H vs Q E hr h=>?_)
 .obtain⟨sa,st,rfl,_⟩:=h;rfl
 .obtain⟨sa,st,rfl,hS,hl,q⟩:=h;refine'⟨_,(aq (aP ?c1)),?_⟩;case c1=>
   refine' cT (g:=(pH K 2 (dW (bQ 0) (dW (bQ 1) pG)))) (tt:=(lK (mW Im (bj 1) (tC .bD)))) (te:=(bj 0)) (NB:=["letter","house"]) (src:=[none,none]) (bU (by kernel_rfl)) rfl (CZ rfl hE (aa (pv 0) ag)) ?g ?t ?e;case g=>exact fun cl C s₃ H₃ fp=>(dO (n:=2) rfl (aN (av (i:=0) iX rfl (Or.inl rfl) (Or.inr rfl)) (aN (av (i:=1) iX rfl (Or.inl rfl) (Or.inr rfl)) cL)))
   case t=>exact fun cl C s₃ H₃ fp=>gO (aQ sO (pv 1) eO (aT _))
   case e=>exact fun cl C s₃ H₃ fp=>(pv 0)
  refine⟨_,rfl,sa,_,rfl,bW.of hS,fun D hD=>?_⟩;refine x_ (K:=K) (a:=sa) (xs:=st.map oV) (fun i ys σ H3=>(∃u v,σ=[u,v])/\ys=NV (fE st i)/\aK H H3/\H3 D=some (.lst ys)) ⟨⟨_,_,rfl⟩,rfl,ai hD,af⟩ (fun i ys σ H3 _ z=>bW.of (z.2.2.1 _ _ hS)) ?_ ?_
  .rintro i x t ys σ H3 Kt Kf hx ⟨⟨u,v,rfl⟩,rfl,sm,l4⟩ ht kt kf;obtain⟨hi,rfl⟩:=uq hx;have aw:=ai (o:=.tup [.int (i:Int),oV (st.getD i none)]) ht;refine⟨_,_,rfl,bW.of af,rfl,_,_,rfl,_,_,rfl,rfl,?_⟩;refine⟨_,rfl,rfl,_,rfl,?_⟩;rw[zK];refine il (fun e=>?_) (fun e=>?_)
   .refine⟨_,rfl,kt _ _ _ (aw _ _ l4) (by rw[bh];exact eA jU (cC (show i<17 by lia) (by decide))) ⟨⟨_,_,rfl⟩,?_,bH (sm.trans aw) hD,af⟩⟩;rw[qi,ao e,ug]
   .refine kf _ _ ⟨⟨_,_,rfl⟩,?_,sm.trans aw,aw _ _ l4⟩;rw[qi,aj e,iz]
  .rintro ys σ H3 ⟨_,rfl,sm,l4⟩;rw[aH] at l4;exact q D H3 sm hD l4
theorem Km:aG ["others","stand","goes","letter","taken","house"] ["others","stand","goes","letter"] (au T6):=⟨rfl,rfl,rfl,by decide +kernel,rfl,by decide +kernel,by decide +kernel⟩
def Kn:Sp:=fun vs H Q _=>∃ (oa sa ga:Addr) (os:List Nat) (st gs:List (Option Nat)) (l:Nat),vs=[.ref oa,.ref sa,.ref ga,.int l]/\H oa=some (.lst (NV os))/\H sa=some (.tup (st.map oV))/\H ga=some (.lst (gs.map oV))/\gs.length=st.length/\st.length<=16/\l<st.length/\∀H',aK H H'->Q (oV (lm st gs l os)) H'
theorem Oy{f:Addr}{fd:FuncData}(F:fW K "first_free" "first_free" T6 f fd)(B:Bl mg):bq P w K mg base aW 1 f fd ["others","stand","goes","letter"] Kn:=by
 refine F.ok Km (fun vs H Q E h=>?_) (fun dR A outer s H vs Q E hr h=>?_)
 .obtain⟨oa,sa,ga,os,st,gs,l,rfl,_⟩:=h;rfl
 .obtain⟨oa,sa,ga,os,st,gs,l,rfl,hO,hS,hG,gl,sl,hl,q⟩:=h;refine'⟨_,(ah (d8 (i:=4) (g:=(bQ 0)) (tt:=(lK (mW (Qt) (mW (u7 K) (bj 2) (bj 0)) (mW (u7 K) (bj 2) (bj 3))))) (te:=(mW (Ff K) (bj 1) (bj 0))) (NB:=["ahead","goes","stand","letter"]) (src:=[none,some 2,some 1,some 3]) (bU (by kernel_rfl)) rfl (cP rfl B.range (aa (aR aV (by rfl) B.len fN (aa (pv 1) ag)) ag)) ?g1 ?t1 ?e1 Km.nd rfl rfl rfl)
   (ah (dA eK rfl (cw (pv 0)) (av (i:=5) Km.nd rfl (Or.inl rfl))
    (aq (cr (aQ lP (pv 5) (pv 4) rfl) (aq (aP (pv 5))) be)))
   (aq (aP eO)))),?_⟩
  case g1=>exact fun cl C s₃ H₃ fp=>(av (i:=0) gu rfl (Or.inl rfl) (Or.inr rfl))
  case t1=>exact fun cl C s₃ H₃ fp=>gO (aQ j_ (bZ fH (pv 2) (pv 0) (fun _ _=>rfl)) (bZ fH (pv 2) (pv 3) (fun _ _=>rfl)) (aT _))
  case e1=>exact fun cl C s₃ H₃ fp=>(bZ bL (pv 1) (pv 0) (fun _ _=>rfl))
  refine⟨_,rfl,sa,_,rfl,.inr (bW.of hS),(((st.map oV).length:Nat):Int),rfl,by lia,by rw[aH];lia,fun D hD=>?_⟩;rw[lA,aH];refine iK (fun i ys σ H2=>(∃x,σ=[x,some (.ref ga),some (.ref sa),some (.int (l:Int))])/\aK H H2/\H2 D=some (.lst ys)/\ys=(((List.range i).filter fun a=>decide (st.getD a none=st.getD l none)).map fun a=>gs.getD a none).map oV) ⟨⟨_,rfl⟩,ai hD,af,rfl⟩ ?_ ?_
  .rintro i ys σ H2 Kt Kf hi ⟨⟨x,rfl⟩,sm,nF,rfl⟩ kt kf;rw[iC];refine⟨_,rfl,_,rfl,sa,_,_,_,rfl,rfl,bW.of (sm _ _ hS),aU (l8 hi),_,rfl,_,rfl,sa,_,_,_,rfl,rfl,bW.of (sm _ _ hS),aU (l8 hl),zL,_,rfl,?_⟩;rw[Io];refine il (fun c=>?_) (fun c=>?_)
   .refine⟨_,rfl,_,rfl,ga,_,_,_,rfl,rfl,ba.of (sm _ _ hG),aU (l8 (by lia)),?_⟩;refine kt _ _ _ nF ?_ ⟨⟨_,rfl⟩,bH sm hD,af,?_⟩
    .rw[aH,aH];refine eA (i8 _ _) ?_;rw[fK];exact cC (show i<17 by lia) (by decide)
    .rw[iS,iQ,cn,cn,eJ,ao c];rfl
   .refine kf _ _ ⟨⟨_,rfl⟩,sm,nF,?_⟩;rw[iS,iQ,eJ,aj c,List.filter_nil,iz]
  rintro ys σ H2 ⟨_,sm,nF,rfl⟩;have ZK:∀h:Nat,Bz (.int (h:Int)) ((((List.range st.length).filter fun a=>decide (st.getD a none=st.getD l none)).map fun a=>gs.getD a none).map oV)=(List.range st.length).any fun a=>decide (st.getD a none=st.getD l none)&&decide (gs.getD a none=some h):=fun h=>by
   rw[Ip,List.any_map,List.any_filter];rfl
  generalize hw:(((List.range st.length).filter fun a=>decide (st.getD a none=st.getD l none)).map fun a=>gs.getD a none)=ws at *;refine⟨_,rfl,oa,rfl,⟨_,ba.of (sm _ _ hO)⟩,ge (K:=K) (xs:=NV os) (fun j σ H3=>(∃x,σ=[some (.ref oa),some (.ref sa),some (.ref ga),some (.int (l:Int)),some (.ref D),x])/\H3=H2/\lm st gs l os=lm st gs l (os.drop j)) ⟨⟨_,rfl⟩,rfl,rfl⟩ (fun j σ H3 _ z=>by rw[z.2.1];exact ba.of (sm _ _ hO)) ?_ ?_⟩
  .rintro j x σ H3 hx ⟨⟨x5,rfl⟩,rfl,ef⟩;obtain⟨h,hv,rfl⟩:=vU hx;have hj:j<os.length:=(dS.mp hv).1;have ed:os.drop j=h::os.drop (j+1):=by
    rw[rL hj];congr 1;exact(dS.mp hv).2
   refine⟨_,rfl,_,rfl,D,_,rfl,.inl (ba.of nF),rfl,l7,_,rfl,?_⟩;have ZL:lm st gs l (h::os.drop (j+1))=if (!Bz (.int (h:Int)) (ws.map oV))=true then some h else lm st gs l (os.drop (j+1)):=by
    rw[ZK];unfold lm;rw[List.find?_cons];cases (!((List.range st.length).any fun a=>decide (st.getD a none=st.getD l none)&&decide (gs.getD a none=some h))) <;> rfl
   rw[ed,ZL] at ef;refine il (fun c=>?_) (fun c=>?_)
   .have c:(!Bz (.int (h:Int)) (ws.map oV))=true:=c;rw[ao c] at ef;refine⟨_,rfl,?_⟩;have:=q H3 sm;rw[ef] at this;exact this
   .have c:¬ (!Bz (.int (h:Int)) (ws.map oV))=true:=c;rw[aj c] at ef;exact⟨⟨_,rfl⟩,rfl,ef⟩
  .rintro σ H3 ⟨⟨x5,rfl⟩,rfl,ef⟩;have:=q H3 sm;rw[ef,bh,List.drop_length] at this;exact this
end
structure nZ(n:Nat)(homes:List Nat)(st:List (Option Nat)):Prop where
 le:st.length<=16
 len:homes.length=st.length
 hs:∀x∈homes,x<n
 ss:∀y,some y∈st->y<n
theorem nZ.at(S:nZ n homes st)(h:l∈fE st st.length):l<st.length/\∃y,st.getD l none=some y/\y<n/\homes.getD l 0<n:=by
 obtain⟨a,b⟩:=gT h;refine⟨a,_,b,S.ss _ ?_,S.hs _ ?_⟩
 .rw[<-b,b9,bT a];exact eC _
 .rw[fV (by rw[S.len];exact a)];exact eC _
theorem Oz(n:Int)(tl ol ds:Addr):(nC n tl ol ds).lookup ("good":Str)=none:=oG n tl ol ds (by decide +kernel) (by decide +kernel) (by decide +kernel) (by decide +kernel)
theorem T8(n:Int)(tl ol ds:Addr):(nC n tl ol ds).lookup ("out":Str)=none:=oG n tl ol ds (by decide +kernel) (by decide +kernel) (by decide +kernel) (by decide +kernel)
theorem zM:(cf n ts h).length<=n:=aX (i8 _ _) (by simp)
theorem bK.Gs(N:bK C H L p n ts):∃dx fs,H p=some (.ins C dx fs)/\fs.lookup ("good":Str)=none/\fs.lookup ("out":Str)=none:=by
 obtain⟨dx,tl,ol,ds,a,_⟩:=N.ob;exact⟨dx,_,a,Oz _ _ _ _,T8 _ _ _ _⟩
theorem ln[DecidableEq α]:∀ {a b:List α},a.Nodup->(∀x∈a,x∈b)->a.length<=b.length
 |[],b,_,_=>ce _
 |x::xs,b,hn,hs=>by
  obtain⟨h1,h2⟩:=fZ.mp hn;have hx:x∈b:=hs x cD;have:=ln (b:=b.erase x) h2 fun y hy=>(wO (fun (e:y=x)=>h1 (e ▸ hy))).mpr (hs y (bP _ hy));rw[wB hx] at this;have:0<b.length:=wH hx;rw[dv];lia
theorem vX{n:Nat}{ts:Ts}{h:Nat}(F:eU n ts)(hh:h<n):(cf n ts h).length=TN ts (ci h):=by
 have p:((cf n ts h).map fun (o:Nat)=>(ci h,ci o)).Perm (ts.filter fun t=>decide (t.1=ci h)):=by
  refine(List.perm_ext_iff_of_nodup (i_.mpr ((lc hh).imp fun {x y} q e=>q (gW (congrArg Prod.snd e)))) (F.nd.filter _)).mpr fun u=>?_;rw[bo,cg];constructor
  .rintro⟨o,ho,rfl⟩;exact⟨(dE F hh).mp ho,dg rfl⟩
  .rintro⟨a,b⟩;have r:=F.rg u a;refine⟨u.2.toNat,(dE F hh).mpr ?_,?_⟩
   .show (ci h,ci u.2.toNat)∈ts;rw[show (ci h,ci u.2.toNat)=u from mN (c_ b).symm (show ((u.2.toNat:Nat):Int)=u.2 by lia)];exact a
   .exact mN (c_ b).symm (show ((u.2.toNat:Nat):Int)=u.2 by lia)
 unfold TN;rw[<-p.length_eq,aH]
theorem zN(he:∀j,j≠i->P' j=P j)(hi:P i=false):∀ {m:Nat},i<m->(List.range m).countP P'=(List.range m).countP P+(if P' i=true then 1 else 0)
 |0,h=>absurd h (sk _)
 |m+1,h=>by
  rw[iS,List.countP_append,List.countP_append,List.countP_singleton,List.countP_singleton];by_cases c:i<m
  .rw[zN he hi c,he m (by lia)];lia
  .obtain rfl:i=m:=by lia
   rw[show (List.range i).countP P'=(List.range i).countP P from List.countP_congr fun j hj=>by rw[he j (by have:=bu.mp hj;lia)],hi];simp
theorem vY(h:∀j,P j=true->P' j=true):(List.range m).countP P<=(List.range m).countP P':=List.countP_mono_left fun j _=>h j
theorem Ko(h:∀j,P j=true->P' j=true)(hi:P i=false)(qL:P' i=true)(hm:i<m):(List.range m).countP P<(List.range m).countP P':=by
 have a:=zN (P:=P) (P':=fun j=>if j=i then true else P j) (i:=i) (fun j hj=>aj hj) hi hm;have b:=vY (P:=fun j=>if j=i then true else P j) (P':=P') (m:=m) fun j hj=>by
  by_cases c:j=i
  .rw[c];exact qL
  .rw[aj c] at hj;exact h j hj
 rw[ao rfl,ao rfl] at a;lia
theorem Kp{st:List (Option Nat)}:st=(List.range st.length).map fun j=>st.getD j none:=by
 apply r_;intro i;by_cases h:i<st.length
 .rw[bi,jb h];simp[b9,h]
 .rw[iP (by lia),iP (by rw[aH,fK];lia)]
theorem zO{st:List (Option Nat)}{o:Option Nat}:st.count o=(List.range st.length).countP fun j=>decide (st.getD j none=o):=by
 have e:st.count o=((List.range st.length).map fun j=>st.getD j none).count o:=congrArg _ Kp;rw[e,List.count_eq_countP,List.countP_map];exact List.countP_congr fun j _=>by simp
theorem qk:(List.replicate m (none:Option Nat)).getD j none=none:=by
 rw[b9,wD];split <;> rfl
theorem ut{fs:List (Option Nat)}{i j:Nat}{o:Option Nat}(hi:i<fs.length):(fs.set i o).getD j none=if j=i then o else fs.getD j none:=by
 rw[b9,List.getElem?_set];by_cases c:i=j
 .subst c;rw[ao rfl,ao hi,ao rfl];rfl
 .rw[aj c,aj (fun z=>c z.symm),b9]
structure Hd(n:Nat)(ts:Ts)(st fs:List (Option Nat)):Prop where
 len:fs.length=st.length
 bD:∀j,st.getD j none=none->fs.getD j none=none
 out:∀j h,st.getD j none=some h->∃y,fs.getD j none=some y/\y∈cf n ts h
 inj:∀j k y,j≠k->fs.getD j none=some y->fs.getD k none=some y->st.getD j none≠st.getD k none
def j3(homes:List Nat)(fs:List (Option Nat)):List (Option Nat):=(List.range fs.length).map fun j=>if fs.getD j none=some (homes.getD j 0) then none else fs.getD j none
theorem gU:(j3 homes fs).length=fs.length:=by unfold j3;rw[aH,fK]
theorem oH(h:(j3 homes fs).getD j none=some y):fs.getD j none=some y:=by
 unfold j3 at h;by_cases hj:j<fs.length
 .rw[b9,bi,jb hj,xh,xg] at h;split at h
  .cases h
  .exact h
 .rw[b9,iP (by rw[aH,fK];lia)] at h;cases h
theorem Hd.next{n:Nat}{ts:Ts}{homes:List Nat}{st fs:List (Option Nat)}(F:eU n ts)(S:eI n ts homes st)(d:Hd n ts st fs):eI n ts homes (j3 homes fs):=by
 have W3:∀j y,fs.getD j none=some y->∃h,h<n/\st.getD j none=some h/\y∈cf n ts h:=fun j y hy=>by
  match e:st.getD j none with
  |none=>rw[d.bD j e] at hy;cases hy
  |some h=>
   obtain⟨y',a,b⟩:=d.out j h e;rw[hy] at a;cases a;have hj:j<st.length:=by
    rcases sw j st.length with c|c
    .exact c
    .rw[b9,iP c] at e;cases e
   exact⟨h,(S.ss j h (by rw[gR (d:=none) hj,e])).1,rfl,b⟩
 refine⟨by rw[gU,d.len];exact S.len,S.hs,fun i y hy=>?_,fun y hy=>?_⟩
 .have hi:i<fs.length:=by have:=(dS.mp hy).1;rwa [gU] at this
  have e:(j3 homes fs).getD i none=some y:=by rw[b9,hy];rfl
  obtain⟨h,hh,_,b⟩:=W3 i y (oH e);refine⟨tS F hh b,fun z=>?_⟩;have f:=oH e;unfold j3 at hy;rw[bi,jb hi,xh,f,ao (by rw[b9,z];rfl)] at hy;cases hy
 .rw[zO,gU,vX F hy];refine aX (vY (P':=fun j=>decide (fs.getD j none=some y)) fun j hj=>dg (oH (c_ hj))) ?_;unfold TN;rw[F.QJ,BO];have e:∀j∈(List.range fs.length).filter (fun j=>decide (fs.getD j none=some y)),∃h:Nat,st.getD j none=some h/\(ci h,ci y)∈ts:=fun j hj=>by
   obtain⟨h,hh,a,b⟩:=W3 j y (c_ (cg.mp hj).2);exact⟨h,a,(dE F hh).mp b⟩
  have nd:(((List.range fs.length).filter (fun j=>decide (fs.getD j none=some y))).map fun j=>(ci ((st.getD j none).getD 0),ci y)).Nodup:=by
   refine i_.mpr ?_;refine BY ?_ (kC _ sg);intro a b ha hb Ic ee;obtain⟨h1,g1,_⟩:=e a ha;obtain⟨h2,g2,_⟩:=e b hb;rw[g1,g2] at ee;have:h1=h2:=gW (congrArg Prod.fst ee);exact d.inj a b y Ic (c_ (cg.mp ha).2) (c_ (cg.mp hb).2) (by rw[g1,g2,this])
  have:=ln (b:=ts.filter fun t=>decide (t.2=ci y)) nd fun u hu=>by
   obtain⟨j,hj,rfl⟩:=bo.mp hu;obtain⟨h,g,t⟩:=e j hj;rw[g];exact cg.mpr ⟨t,dg rfl⟩
  rw[aH] at this;exact this
theorem rC{g:List (Option Nat)}{a x:Nat}(h:g.getD a none=some x):a<g.length:=by
 rcases sw a g.length with c|c
 .exact c
 .rw[b9,iP c] at h;cases h
section
variable {n:Nat} {ts:Ts} {homes:List Nat} {st g g1:List (Option Nat)} {gd ou:Nat->List Nat} {l x y:Nat} {os p:List Nat}
theorem oI(h:lm st g l os=some x):x∈os/\∀a,a<st.length->st.getD a none=st.getD l none->g.getD a none≠some x:=by
 unfold lm at h;refine⟨List.mem_of_find?_eq_some h,fun a ha e z=>?_⟩;have:=List.find?_some h;rw[xa,se] at this;exact this a (bu.mpr ha) (by rw[dg e,dg z];rfl)
theorem uu(h:lm st g l os=none)(hx:x∈os):∃a,a<st.length/\st.getD a none=st.getD l none/\g.getD a none=some x:=by
 unfold lm at h;have:=List.find?_eq_none.mp h x hx;rw[xa,Bool.not_eq_false,pe] at this;obtain⟨a,ha,b⟩:=this;rw[df] at b;exact⟨a,bu.mp ha,c_ b.1,c_ b.2⟩
def OA(st g:List (Option Nat)):Prop:=∀j k y,j≠k->g.getD j none=some y->g.getD k none=some y->st.getD j none≠st.getD k none
theorem OA.put(I:OA st g)(gl:g.length=st.length)(hl:l<st.length):OA st (g.set l (lm st g l os)):=by
 intro j k y n hj hk e;rw[ut (by rw[gl];exact hl)] at hj hk;by_cases cj:j=l
 .rw[ao cj] at hj;rw[aj (fun z=>n (cj.trans z.symm))] at hk;exact(oI hj).2 k (by rw[<-gl];exact rC hk) (by rw[<-cj];exact e.symm) hk
 .rw[aj cj] at hj;by_cases ck:k=l
  .rw[ao ck] at hk;exact(oI hk).2 j (by rw[<-gl];exact rC hj) (by rw[<-ck];exact e) hj
  .rw[aj ck] at hk;exact I j k y n hj hk e
structure E1(st g:List (Option Nat))(gd:Nat->List Nat)(p:List Nat):Prop where
 len:g.length=st.length
 inj:OA st g
 bD:∀l,l∉p->g.getD l none=none
 ok:∀l,l∈p->(∃x,g.getD l none=some x/\x∈gd l)\/(g.getD l none=none/\∀o∈gd l,∃a,st.getD a none=st.getD l none/\g.getD a none=some o)
theorem E1.step(I:E1 st g gd p)(hl:l<st.length)(np:l∉p):E1 st (g.set l (lm st g l (gd l))) gd (p++[l]):=by
 have gs:∀ {j:Nat},(g.set l (lm st g l (gd l))).getD j none=if j=l then lm st g l (gd l) else g.getD j none:=ut (by rw[I.len];exact hl)
 have nl:=I.bD l np;have kp:∀ {a o:Nat},g.getD a none=some o->(g.set l (lm st g l (gd l))).getD a none=some o:=fun {a o} e=>by rw[gs,aj (by rintro rfl;rw[nl] at e;cases e)];exact e
 refine⟨by rw[jf,I.len],I.inj.put I.len hl,fun j hj=>?_,fun j hj=>?_⟩
 .rw[gs,aj (by rintro rfl;exact hj (cZ _ cD))];exact I.bD j fun z=>hj (hX _ z)
 .by_cases c:j=l
  .subst c;rw[gs,ao rfl];cases e:lm st g j (gd j) with
   |some x=>exact .inl ⟨x,rfl,(oI e).1⟩
   |none=>exact .inr ⟨rfl,fun o ho=>let ⟨a,_,e1,e2⟩:=uu e ho;⟨a,e1,by have:=kp e2;rwa [e] at this⟩⟩
  .rw[gs,aj c];have hj:j∈p:=by
    rcases cX.mp hj with z|z
    .exact z
    .exact absurd (cE.mp z) c
   rcases I.ok j hj with z|⟨z,f⟩
   .exact .inl z
   .exact .inr ⟨z,fun o ho=>let ⟨a,e1,e2⟩:=f o ho;⟨a,e1,kp e2⟩⟩
theorem E1.fold:∀ {ls p:List Nat} {g:List (Option Nat)},E1 st g gd p->(∀l∈ls,l<st.length)->(p++ls).Nodup->E1 st (ls.foldl (fun g l=>g.set l (lm st g l (gd l))) g) gd (p++ls)
 |[],p,g,I,_,_=>by rw[iz];exact I
 |l::ls,p,g,I,h,nd=>by
  rw[ja,show p++l::ls=(p++[l])++ls by simp];rw[show p++l::ls=(p++[l])++ls by simp] at nd;refine E1.fold (I.step (h l cD) fun z=>?_) (fun j hj=>h j (bP _ hj)) nd;exact(kI.mp (kI.mp nd).1).2.2 l z l cD rfl
noncomputable def DT(n:Nat)(ts:Ts)(st g:List (Option Nat))(l:Nat):List (Option Nat):=if g.getD l none=none then g.set l (lm st g l (cf n ts ((st.getD l none).getD 0))) else g
noncomputable def vZ(n:Nat)(ts:Ts)(homes:List Nat)(st g:List (Option Nat))(l:Nat):List (Option Nat):=g.set l (lm st g l (d0 n ts ((st.getD l none).getD 0) (homes.getD l 0)))
noncomputable def Kq(n:Nat)(ts:Ts)(homes:List Nat)(st:List (Option Nat))(jT:List Nat):List (Option Nat):=jT.foldl (DT n ts st) (jT.foldl (vZ n ts homes st) (List.replicate st.length none))
theorem Gu(S:eI n ts homes st)(hl:l<st.length)(ey:st.getD l none=some y)(hy:y<n)(en:g.getD l none=none):∃x,lm st g l (cf n ts y)=some x:=by
 cases e:lm st g l (cf n ts y) with
 |some x=>exact⟨x,rfl⟩
 |none=>
  exfalso;have a:=ln (b:=((List.range st.length).filter fun j=>decide (st.getD j none=some y)&&(g.getD j none).isSome).map fun j=>(g.getD j none).getD 0) (lc hy) fun x hx=>by
   obtain⟨a,ha,e1,e2⟩:=uu e hx;exact bo.mpr ⟨a,cg.mpr ⟨bu.mpr ha,by rw[e1,ey,e2];simp⟩,by rw[e2];rfl⟩
  rw[aH,<-BO] at a;have b:=Ko (P:=fun j=>decide (st.getD j none=some y)&&(g.getD j none).isSome) (P':=fun j=>decide (st.getD j none=some y)) (i:=l) (fun j h=>(df _ _ ▸ h:_/\_).1) (by rw[en];simp) (by rw[ey];simp) hl;have c:=S.W2 y hy;rw[zO] at c;lia
structure E2(n:Nat)(ts:Ts)(st g1 g:List (Option Nat))(p:List Nat):Prop where
 len:g.length=st.length
 inj:OA st g
 keep:∀l x,g1.getD l none=some x->g.getD l none=some x
 bD:∀l,l∉p->g.getD l none=g1.getD l none
 out:∀l,l∈p->∃x,g.getD l none=some x/\(g1.getD l none=some x\/x∈cf n ts ((st.getD l none).getD 0))
theorem E2.step(S:eI n ts homes st)(I:E2 n ts st g1 g p)(hl:l<st.length)(ey:st.getD l none=some y)(hy:y<n)(np:l∉p):E2 n ts st g1 (DT n ts st g l) (p++[l]):=by
 have nl:=I.bD l np;unfold DT;by_cases c:g.getD l none=none
 .rw[ao c,ey];obtain⟨x,ex⟩:=Gu S hl ey hy c;have gs:∀ {j:Nat},(g.set l (lm st g l (cf n ts y))).getD j none=if j=l then lm st g l (cf n ts y) else g.getD j none:=ut (by rw[I.len];exact hl)
  refine⟨by rw[jf,I.len],I.inj.put I.len hl,fun j x e=>?_,fun j hj=>?_,fun j hj=>?_⟩
  .show (g.set l (lm st g l (cf n ts y))).getD j none=_;rw[gs,aj (by rintro rfl;rw[<-nl,c] at e;cases e)];exact I.keep j x e
  .show (g.set l (lm st g l (cf n ts y))).getD j none=_;rw[gs,aj (by rintro rfl;exact hj (cZ _ cD))];exact I.bD j fun z=>hj (hX _ z)
  .show ∃x,(g.set l (lm st g l (cf n ts y))).getD j none=some x/\_;rw[gs];by_cases d:j=l
   .subst d;rw[ao rfl,ex,ey];exact⟨x,rfl,.inr (oI ex).1⟩
   .rw[aj d];rcases cX.mp hj with z|z
    .exact I.out j z
    .exact absurd (cE.mp z) d
 .rw[aj c];refine⟨I.len,I.inj,I.keep,fun j hj=>I.bD j fun z=>hj (hX _ z),fun j hj=>?_⟩;rcases cX.mp hj with z|z
  .exact I.out j z
  .rw[cE.mp z];cases e:g.getD l none with
   |none=>exact absurd e c
   |some x=>exact⟨x,rfl,.inl (by rw[<-nl,e])⟩
theorem E2.fold(S:eI n ts homes st):∀ {ls p:List Nat} {g:List (Option Nat)},E2 n ts st g1 g p->(∀l∈ls,∃y,l<st.length/\st.getD l none=some y/\y<n)->(p++ls).Nodup->E2 n ts st g1 (ls.foldl (DT n ts st) g) (p++ls)
 |[],p,g,I,_,_=>by rw[iz];exact I
 |l::ls,p,g,I,h,nd=>by
  rw[ja,show p++l::ls=(p++[l])++ls by simp];rw[show p++l::ls=(p++[l])++ls by simp] at nd;obtain⟨y,a,b,c⟩:=h l cD;refine E2.fold S (I.step S a b c fun z=>?_) (fun j hj=>h j (bP _ hj)) nd;exact(kI.mp (kI.mp nd).1).2.2 l z l cD rfl
structure ZM(n:Nat)(ts:Ts)(homes:List Nat)(st fs:List (Option Nat)):Prop where
 hd:Hd n ts st fs
 eag:∀l y,st.getD l none=some y->(∃x,fs.getD l none=some x/\x∈d0 n ts y (homes.getD l 0))\/∀o∈d0 n ts y (homes.getD l 0),∃a,st.getD a none=some y/\fs.getD a none=some o/\o∈d0 n ts y (homes.getD a 0)
theorem zP{jT:List Nat}(S:eI n ts homes st)(pm:jT.Perm (fE st st.length)):∀l∈jT,∃y,l<st.length/\st.getD l none=some y/\y<n:=fun l hl=>by
 obtain⟨a,b⟩:=gT (pm.mem_iff.mp hl);exact⟨_,a,b,(S.ss l _ (by rw[gR (d:=none) a];exact congrArg some b)).1⟩
theorem yB(h:st.getD l none=some y):l∈fE st st.length:=cg.mpr ⟨bu.mpr (rC h),by rw[h];rfl⟩
theorem DU{jT:List Nat}(pm:jT.Perm (fE st st.length)):jT.Nodup:=pm.nodup_iff.mpr (kC _ sg)
theorem Kr{jT:List Nat}(S:eI n ts homes st)(pm:jT.Perm (fE st st.length)):ZM n ts homes st (Kq n ts homes st jT):=by
 have al:=zP S pm;have nd:=DU pm;have i1:E1 st (jT.foldl (vZ n ts homes st) (List.replicate st.length none)) (fun l=>d0 n ts ((st.getD l none).getD 0) (homes.getD l 0)) ([]++jT):=E1.fold (gd:=fun l=>d0 n ts ((st.getD l none).getD 0) (homes.getD l 0)) ⟨i7,(fun j k y _ hy=>by rw[qk] at hy;cases hy),fun l _=>qk,fun l hl=>(nomatch hl)⟩ (fun l hl=>let ⟨_,a,_⟩:=al l hl;a) nd;have i2:=E2.fold S (g1:=jT.foldl (vZ n ts homes st) (List.replicate st.length none)) (p:=[]) ⟨i1.len,i1.inj,fun _ _ e=>e,fun _ _=>rfl,fun l hl=>(nomatch hl)⟩ al nd;rw[xi] at i1 i2;have T9:∀ {i j o},o∈d0 n ts i j->o∈cf n ts i:=fun h=>(cg.mp h).1;have uo:∀ {l y},st.getD l none=some y->l∈jT:=fun h=>pm.mem_iff.mpr (yB h);have W4:∀ {l y x},st.getD l none=some y->(jT.foldl (vZ n ts homes st) (List.replicate st.length none)).getD l none=some x->x∈d0 n ts y (homes.getD l 0):=fun {l y x} h e=>by
  rcases i1.ok l (uo h) with ⟨x',a,b⟩|⟨a,_⟩
  .rw[e] at a;cases a;rw[h] at b;exact b
  .rw[e] at a;cases a
 refine⟨⟨i2.len,fun j hj=>?_,fun j y hj=>?_,i2.inj⟩,fun l y hl=>?_⟩
 .have nj:j∉jT:=fun z=>by obtain⟨y,_,e,_⟩:=al j z;rw[hj] at e;cases e
  exact(i2.bD j nj).trans (i1.bD j nj)
 .obtain⟨x,a,b⟩:=i2.out j (uo hj);rcases b with b|b
  .exact⟨x,a,T9 (W4 hj b)⟩
  .rw[hj] at b;exact⟨x,a,b⟩
 .rcases i1.ok l (uo hl) with ⟨x,a,b⟩|⟨a,f⟩
  .rw[hl] at b;exact .inl ⟨x,i2.keep l x a,b⟩
  .refine .inr fun o ho=>?_;obtain⟨a',e1,e2⟩:=f o (by rw[hl];exact ho);rw[hl] at e1;exact⟨a',e1,i2.keep _ _ e2,W4 e1 e2⟩
end
theorem eI.let(S:eI n ts homes st)(le:st.length<=16):nZ n homes st:=⟨le,S.len,S.hs,fun y hy=>by obtain⟨i,hi⟩:=List.mem_iff_getElem?.mp hy;exact(S.ss i y hi).1⟩
def v3(o:HO):Prop:=∀ps,o≠.j8 ps
theorem bK.QW(N:bK C H L p n ts):bK C H (fun b=>L b/\∃o,H b=some o/\v3 o) p n ts:=by
 obtain⟨dx,tl,ol,ds,a,l1,l2,b,c,d⟩:=N.ob;have ne:∀ {b xs},L b->H b=some (.lst xs)->L b/\∃o,H b=some o/\v3 o:=fun l e=>⟨l,_,e,fun ps z=>by cases z⟩
 have ZN:∀ {b xs},L b->H b=some (.tup xs)->L b/\∃o,H b=some o/\v3 o:=fun l e=>⟨l,_,e,fun ps z=>by cases z⟩
 have uT:∀ {l r},L l->eW H L l n r->eW H (fun b=>L b/\∃o,H b=some o/\v3 o) l n r/\(L l/\∃o,H l=some o/\v3 o):=fun hl ⟨bs,a,b,c⟩=>⟨⟨bs,a,fun x hx=>by
  obtain⟨j,hj,e⟩:=rT hx;have:=c.2 j (by rw[<-c.1];exact hj);rw[b9,bT hj,xg,e] at this;exact ne (b x hx) this,c⟩,ne hl a⟩
 obtain⟨t1,zs,t2,t3,t4,t5⟩:=d;exact⟨N.gm,dx,tl,ol,ds,a,(uT l1 b).2,(uT l2 c).2,(uT l1 b).1,(uT l2 c).1,ne t1 t2,zs,t2,t3,fun z hz=>ZN (t4 z hz) (t3 z hz),t5⟩
theorem _root_.L2.bR.not(t:bR lp q Pt H)(h:H b=some o)(n:∀ps,o≠.j8 ps):b≠Pt:=by
 rintro rfl;rcases t with z|⟨c,z,_⟩ <;> · rw[h] at z;exact n _ (a_ z)
theorem _root_.L2.bR.same(t:bR lp q Pt H)(e:aK H H'):bR lp q Pt H':=by
 rcases t with z|⟨c,z,y⟩
 .exact .inl (e _ _ z)
 .exact .inr ⟨c,e _ _ z,e _ _ y⟩
def Ks(st:Stmt)(i:Nat):Expr:=match (bC st).getD i (.Pass ⟨0,0,0,0⟩) with
 |.Return (some (.Call _ _ (k::_) _)) _=>k.value
 |_=>.Name "x" ⟨0,0,0,0⟩
def ZO:Expr->Arguments
 |.Lambda a _ _ _=>a
 |_=>{ posonlyargs:=[],args:=[],vararg:=none,kwonlyargs:=[],kw_defaults:=[],kwarg:=none,defaults:=[] }
def W5:Expr->Expr
 |.Lambda _ b _ _=>b
 |e=>e
def W6:Expr->Scope
 |.Lambda _ _ s _=>s
 |_=>{ kind:=.function,names:=[],isGenerator:=false,isCoroutine:=false }
def ZP:Expr->Pos
 |.Lambda _ _ _ p=>p
 |_=>⟨0,0,0,0⟩
theorem bA.lam(r:bA (k+3) A)(env:Env):bA k (A.in1.in1.deeper env):=r.in1.in1.deeper env
theorem Gv:(fE st i).Pairwise (·<·):=kC _ List.pairwise_lt_range
noncomputable def kr(ts:Ts)(homes:List Nat)(st:List (Option Nat))(l:Nat):Int:=((far ts ((st.getD l none).getD 0) (homes.getD l 0):Nat):Int)
theorem v4(s1:aK H H1)(t2:bR lp q PN H2)(gv:∀b o,H1 b=some o->b≠PN->H2 b=some o)(s3:aK H2 H3)(LW:H3 r=none):H r=none:=by
 have h2:H2 r=none:=s3.free LW;cases z:H r with
 |none=>rfl
 |some o=>
  by_cases e:r=PN
  .subst e;rcases t2 with q|⟨_,q,_⟩ <;> (rw[h2] at q;cases q)
  .rw[gv r o (s1 _ _ z) e] at h2;cases h2
abbrev rD:Stmt:=iI (top 22) 0
def LX:Expr:=Ks rD 0
def T_:Str:=("Nearest.order":Str)++".<locals>."++"<lambda>"
abbrev bS(PN:Addr)(H:Hp):Prop:=bR (ZP LX) T_ PN H
section
variable {P:Program} {w:World} {K:PySem.W.Frag} {mg:Str->Option Value} {base:Heap}
theorem Ku:aG ["self","net","homes","stand","beat"] ["self","net","homes","stand","beat"] (au rD):=⟨rfl,rfl,rfl,by decide +kernel,rfl,by decide +kernel,by decide +kernel⟩
def DV(C PN:Addr):Sp:=fun vs H Q _=>∃ (L:Addr->Prop) (x0 x4:V) (px ha sa:Addr) (n:Nat) (ts:Ts) (homes:List Nat) (st:List (Option Nat)),vs=[x0,.ref px,.ref ha,.ref sa,x4]/\bK C H L px n ts/\H ha=some (.tup (NV homes))/\H sa=some (.tup (st.map oV))/\nZ n homes st/\bS PN H/\
 ∀ (r:Addr) (H':Hp) (out:List Nat),bS PN H'->bN PN H H'->H r=none->out.Perm (fE st st.length)->out.Pairwise (zA (kr ts homes st))->H' r=some (.lst (NV out))->Q (.ref r) H'
theorem OB{f c C PN:Addr}{fd:FuncData}(F:qK K "order" "Nearest.order" rD f fd c)(B:Bl mg)(kb:K.In base)(hb:pS mg base)(hc:PySem.W.codeHdIn K c PN=true)(T:NT K mg C)(MF:jX P w K mg base aW 5 C "far" ["self","one","other"] (lh C))(UW:cB P w K mg base aW 1 "under_way" ["stand"] DS):
  bq P w K mg base aW 9 f fd ["self","net","homes","stand","beat"] (DV C PN):=by
 obtain⟨fF,ZQ,mF,bF,GF⟩:=MF.ex;refine F.ok Ku (fun vs H Q E h=>?_) (fun A outer s H vs Q E hr h=>?_)
 .obtain⟨L,x0,x4,px,ha,sa,n,ts,homes,st,rfl,_⟩:=h;rfl
 .obtain⟨L,x0,x4,px,ha,sa,n,ts,homes,st,rfl,N,hH,hS,LO,tb,q⟩:=h;have h1:bA 1 _:=hr.mono (by decide);have LF:Dj (pM aW P w K mg base ["self","net","homes","stand","beat"] "Nearest.order" (au rD) f (.ref c) A outer s H E).EH ["letter","net","stand","homes"] [none,some 1,some 3,some 2] (W6 LX) T_ (ZO LX) (W5 LX) "letter":=
   ⟨bU (by kernel_rfl),fun _ _ _ _ _=>rfl,rfl,rfl,rfl,by decide +kernel,rfl,rfl⟩
  have PB:∀f' c' bz s' H',PE (vL (pM aW P w K mg base ["self","net","homes","stand","beat"] "Nearest.order" (au rD) f (.ref c) A outer s H E).EH ["letter","net","stand","homes"] (W6 LX) bz T_ f' c' s' H') (W5 LX) (Cg C "far" (lh C) [] E0 (bj 1) (cA (mW (u7 K) (bj 2) (bj 0)) (cA (mW (u7 K) (bj 3) (bj 0)) kU))):=fun f' c' bz s' H'=>
   fm (pv 1) T.cl mF GF (bA.lam hr _) bF .nil aJ (aa (bZ fH (pv 2) (pv 0) (fun _ _=>rfl)) (aa (bZ fH (pv 3) (pv 0) (fun _ _=>rfl)) ag))
  refine⟨_,(aq (aP (iq (yp hr LF PB) rfl B.sorted oU (aa (aF UW h1 aJ (aa (pv 3) ag)) ag) (lL (xW (NB:=["letter","net","stand","homes"]) (src:=[none,some 1,some 3,some 2]) (tH kb hb hc) (bU (by kernel_rfl))) pL)))),?_⟩;refine⟨_,rfl,sa,st,rfl,hS,LO.le,fun l H1 s1 Qw hl=>?_⟩;have t1:=tb.same s1;refine⟨t1,fun f' c' H2 t2 gv Aj xR=>?_⟩;have OC:∀ {b o},H1 b=some o->(∀ps,o≠.j8 ps)->H2 b=some o:=fun e n=>gv _ _ e (t1.not e n);have HG:=OC hl (by intro ps z;cases z);have ZR:=OC (s1 _ _ hH) (by intro ps z;cases z);have LY:=OC (s1 _ _ hS) (by intro ps z;cases z);obtain⟨dx0,fs0,i0⟩:∃dx fs,H1 px=some (.ins C dx fs):=by obtain⟨dx,tl,ol,ds,a,_⟩:=(N.same s1).ob;exact⟨dx,_,a⟩
  have N2:=(N.same s1).QW.keep (H':=H2) (fun b o l e=>by obtain⟨_,o',e',n⟩:=l;rw[e] at e';cases e';exact OC e n) (fun o e=>OC e (by rw[i0] at e;cases e;intro ps z;cases z));refine⟨l,f',c',fE st st.length,(kr ts homes st),rfl,rfl,ba.of HG,eA jU (by have:=LO.le;lia),Gv,fun n hn=>by have:=(gT hn).1;have:=LO.le;lia,xR,Aj,fun m hm H3 s3=>?_,fun r H3 out s3 LW op pw=>?_⟩
  .obtain⟨Iq,y,ey,hy,QX⟩:=LO.at hm;have N3:=N2.same s3;obtain⟨dx,tl,ol,ds,i1,_⟩:=N3.ob;refine⟨_,rfl,px,dx,_,rfl,i1,JY _ _ _ _,_,rfl,_,rfl,sa,_,_,_,rfl,rfl,bW.of (s3 _ _ LY),aU (l8 Iq),_,rfl,_,rfl,ha,_,_,_,rfl,rfl,bW.of (s3 _ _ ZR),aU (kq (by rw[LO.len];exact Iq)),?_⟩;rw[ey];refine⟨_,px,n,ts,y,homes.getD m 0,rfl,N3,hy,QX,?_,aK.refl _⟩;unfold kr;rw[ey];rfl
  .have sm:=ai (o:=.lst (NV out)) LW;exact q r _ out ((bR.same t2 s3).same sm) (fun b o e n=>sm _ _ (s3 _ _ (gv _ _ (s1 _ _ e) n))) (v4 s1 t2 gv s3 LW) op pw af
end
abbrev Ua:Stmt:=top 25
section
variable {P:Program} {w:World} {K:PySem.W.Frag} {mg:Str->Option Value} {base:Heap}
theorem Kv:aG ["net","homes","stand","letters","goes","letter"] ["net","homes","stand","letters","goes"] (au Ua):=⟨rfl,rfl,rfl,by decide +kernel,rfl,by decide +kernel,by decide +kernel⟩
def Kw(C:Addr):Sp:=fun vs H Q _=>∃ (L:Addr->Prop) (px ha sa la ga:Addr) (n:Nat) (ts:Ts) (homes os:List Nat) (st gs:List (Option Nat)),vs=[.ref px,.ref ha,.ref sa,.ref la,.ref ga]/\bK C H L px n ts/\¬ L ga/\H ha=some (.tup (NV homes))/\H sa=some (.tup (st.map oV))/\nZ n homes st/\(∀l∈os,l∈fE st st.length)/\H la=some (.lst (NV os))/\la≠ga/\H ga=some (.lst (gs.map oV))/\gs.length=st.length/\
 ∀H',bJ ga H H'->H' ga=some (.lst ((os.foldl (DT n ts st) (os.foldl (vZ n ts homes st) gs)).map oV))->Q .bD H'
theorem uv{n:Nat}{ts:Ts}{homes:List Nat}{st:List (Option Nat)}:∀ {ls:List Nat} {gs:List (Option Nat)},(ls.foldl (vZ n ts homes st) gs).length=gs.length
 |[],gs=>rfl
 |l::ls,gs=>by rw[ja,uv];unfold vZ;rw[jf]
theorem zQ{n:Nat}{ts:Ts}{st:List (Option Nat)}:∀ {ls:List Nat} {gs:List (Option Nat)},(ls.foldl (DT n ts st) gs).length=gs.length
 |[],gs=>rfl
 |l::ls,gs=>by rw[ja,zQ];unfold DT;split <;> simp
theorem OD{f C:Addr}{fd:FuncData}(F:fW K "hand_eagerly" "hand_eagerly" Ua f fd)(T:NT K mg C)(MG:jX P w K mg base aW 6 C "good" ["self","house","home"] (ur C))(MO:jX P w K mg base aW 5 C "out" ["self","house"] (yv C))(FF:cB P w K mg base aW 1 "first_free" ["others","stand","goes","letter"] Kn):
  bq P w K mg base aW 7 f fd ["net","homes","stand","letters","goes"] (Kw C):=by
 obtain⟨fG,fdG,mG,bG,GG⟩:=MG.ex;obtain⟨fO,fdO,mO,bO,GO⟩:=MO.ex;refine F.ok Kv (fun vs H Q E h=>?_) (fun dR A outer s H vs Q E hr h=>?_)
 .obtain⟨L,px,ha,sa,la,ga,n,ts,homes,os,st,gs,rfl,_⟩:=h;rfl
 .obtain⟨L,px,ha,sa,la,ga,n,ts,homes,os,st,gs,rfl,N,W7,hH,hS,LO,ho,hL,Ub,hG,gl,q⟩:=h;have h1:bA 1 _:=hr.mono (by decide);have h5:bA 5 _:=hr.mono (by decide);refine⟨_,(ah (dA eK rfl (cw (pv 3)) (av (i:=5) Kv.nd rfl (Or.inl rfl))
    (aq (g7 (aF FF h1 aJ (aa (fm (pv 0) T.cl mG GG hr bG .nil aJ (aa (bZ fH (pv 2) (pv 5) (fun _ _=>rfl)) (aa (bZ fH (pv 1) (pv 5) (fun _ _=>rfl)) ag))) (aa (pv 2) (aa (pv 4) (aa (pv 5) ag))))) (mV (pv 4) (pv 5) ij))))
   (aq (dA eK rfl (cw (pv 3)) (av (i:=5) Kv.nd rfl (Or.inl rfl))
    (aq (cr (aQ sL (bZ bL (pv 4) (pv 5) (fun _ _=>rfl)) eO (aT _)) (aq (g7 (aF FF h1 aJ (aa (fm (pv 0) T.cl mO GO h5 bO .nil aJ (aa (bZ fH (pv 2) (pv 5) (fun _ _=>rfl)) ag)) (aa (pv 2) (aa (pv 4) (aa (pv 5) ag))))) (mV (pv 4) (pv 5) ij))) be))))),?_⟩
  have n2:=N.gm.n2;have W8:px≠ga:=by obtain⟨dx,fs,a,_⟩:=N.Gs;rintro rfl;rw[a] at hG;cases hG
  have ZS:ha≠ga:=by rintro rfl;rw[hH] at hG;cases hG
  have W9:sa≠ga:=by rintro rfl;rw[hS] at hG;cases hG
  refine⟨_,rfl,la,rfl,⟨_,ba.of hL⟩,ge (K:=K) (xs:=NV os) (fun j σ Hc=>(∃x,σ=[some (.ref px),some (.ref ha),some (.ref sa),some (.ref la),some (.ref ga),x])/\bJ ga H Hc/\Hc ga=some (.lst (((os.take j).foldl (vZ n ts homes st) gs).map oV))) ⟨⟨_,rfl⟩,bJ.refl,hG⟩ (fun j σ Hc _ z=>ba.of (z.2.1 _ _ hL Ub)) ?_ ?_⟩
  .rintro j x σ Hc hx ⟨⟨x5,rfl⟩,sc,zR⟩;obtain⟨l,hv,rfl⟩:=vU hx;obtain⟨hl,y,ey,hy,QX⟩:=LO.at (ho l (du hv));have tk:os.take (j+1)=os.take j++[l]:=by rw[gI,hv];rfl
   rw[tk,w_,ja,List.foldl_nil];have QY:((os.take j).foldl (vZ n ts homes st) gs).length=st.length:=by rw[uv,gl]
   generalize (os.take j).foldl (vZ n ts homes st) gs=g at *;have Nc:=N.keep (fun b o l e=>sc b o e (by rintro rfl;exact W7 l)) (fun o e=>sc _ _ e W8);have LZ:=sc _ _ hH ZS;have ES:=sc _ _ hS W9;obtain⟨dx,fs,i1,i2,i3⟩:=Nc.Gs;refine⟨_,rfl,px,dx,fs,rfl,i1,i2,_,rfl,_,rfl,sa,_,_,_,rfl,rfl,bW.of ES,aU (l8 hl),?_⟩;rw[ey];have lg:(d0 n ts y (homes.getD l 0)).length<=n:=aX (i8 _ _) zM;refine⟨_,rfl,_,rfl,ha,_,_,_,rfl,rfl,bW.of LZ,aU (kq (by rw[LO.len];exact hl)),L,px,n,ts,y,homes.getD l 0,rfl,Nc,hy,QX,fun r1 H1 s1 Bd g1=>?_⟩;refine⟨_,rfl,_,rfl,_,rfl,r1,sa,ga,d0 n ts y (homes.getD l 0),st,g,l,rfl,g1,s1 _ _ ES,s1 _ _ zR,QY,LO.le,hl,fun H4 s4=>?_⟩;have OE:=s1.trans s4;refine⟨_,rfl,_,rfl,ga,_,(l:Int),l,rfl,rfl,OE _ _ zR,jP (by rw[aH,QY];exact hl),⟨_,rfl⟩,fun b o e m=>by rw[am m];exact OE _ _ (sc _ _ e m),?_⟩;rw[af];unfold vZ;rw[ey,List.map_set];rfl
  .rintro σ Hc ⟨⟨x5,rfl⟩,sc,zR⟩;rw[bh,iR] at zR;have QY:(os.foldl (vZ n ts homes st) gs).length=st.length:=by rw[uv,gl]
   generalize os.foldl (vZ n ts homes st) gs=g0 at *;refine⟨_,rfl,la,rfl,⟨_,ba.of (sc _ _ hL Ub)⟩,ge (K:=K) (xs:=NV os) (fun j σ Hc=>(∃x,σ=[some (.ref px),some (.ref ha),some (.ref sa),some (.ref la),some (.ref ga),x])/\bJ ga H Hc/\Hc ga=some (.lst (((os.take j).foldl (DT n ts st) g0).map oV))) ⟨⟨_,rfl⟩,sc,zR⟩ (fun j σ Hc _ z=>ba.of (z.2.1 _ _ hL Ub)) ?_ ?_⟩
   .clear sc zR;rintro j x σ Hc hx ⟨⟨x5,rfl⟩,sc,zR⟩;obtain⟨l,hv,rfl⟩:=vU hx;obtain⟨hl,y,ey,hy,QX⟩:=LO.at (ho l (du hv));have tk:os.take (j+1)=os.take j++[l]:=by rw[gI,hv];rfl
    rw[tk,w_,ja,List.foldl_nil];have Uc:((os.take j).foldl (DT n ts st) g0).length=st.length:=by rw[zQ,QY]
    generalize (os.take j).foldl (DT n ts st) g0=g at *;have Nc:=N.keep (fun b o l e=>sc b o e (by rintro rfl;exact W7 l)) (fun o e=>sc _ _ e W8);have ES:=sc _ _ hS W9;obtain⟨dx,fs,i1,i2,i3⟩:=Nc.Gs;refine⟨_,rfl,_,rfl,ga,_,_,_,rfl,rfl,ba.of zR,aU (l8 (by rw[Uc];exact hl)),rfl,_,rfl,?_⟩;unfold DT;cases eg:g.getD l none with
    |some z=>refine l6 rfl ⟨⟨_,rfl⟩,sc,?_⟩;rw[aj (fun z=>by cases z)];exact zR
    |none=>
    rw[ao rfl];refine On rfl ⟨_,rfl,px,dx,fs,rfl,i1,i3,_,rfl,_,rfl,sa,_,_,_,rfl,rfl,bW.of ES,aU (l8 hl),?_⟩;rw[ey];refine⟨L,px,n,ts,y,rfl,Nc,hy,fun r1 H1 s1 Bd g1=>?_⟩;have lo:=zM (n:=n) (ts:=ts) (h:=y);refine⟨_,rfl,_,rfl,_,rfl,r1,sa,ga,cf n ts y,st,g,l,rfl,g1,s1 _ _ ES,s1 _ _ zR,Uc,LO.le,hl,fun H4 s4=>?_⟩;have OE:=s1.trans s4;refine⟨_,rfl,_,rfl,ga,_,(l:Int),l,rfl,rfl,OE _ _ zR,jP (by rw[aH,Uc];exact hl),⟨_,rfl⟩,fun b o e m=>by rw[am m];exact OE _ _ (sc _ _ e m),?_⟩;rw[af,List.map_set];rfl
   .rintro σ Hc ⟨⟨x5,rfl⟩,sc,zR⟩;rw[bh,iR] at zR;exact q Hc sc zR
end
def hm(b:Nat):Nat->Nat->Nat->Nat
 |0,_,_=>0
 |f+1,x,y=>hm b f x y+b1 (!Nat.beq (x / b ^ f % b) (y / b ^ f % b))
theorem Kx{a b c:Nat}:b1 (!Nat.beq a c)<=b1 (!Nat.beq a b)+b1 (!Nat.beq b c):=by
 cases e1:Nat.beq a b with
 |false=>cases Nat.beq a c <;> simp[b1]
 |true=>
  rw[j6 e1];simp[b1]
theorem yC{b x c y:Nat}:∀ {f:Nat},hm b f x y<=hm b f x c+hm b f c y
 |0=>aI _
 |f+1=>by
  have:=yC (b:=b) (x:=x) (c:=c) (y:=y) (f:=f);have:=Kx (a:=x / b ^ f % b) (b:=c / b ^ f % b) (c:=y / b ^ f % b);unfold hm;lia
theorem zS{b x:Nat}:∀ {f:Nat},hm b f x x=0
 |0=>rfl
 |f+1=>by unfold hm;rw[zS,pz];rfl
theorem v5{f b h k:Nat}(hk:k<f):(A8 f b h).getD k 0=h / b ^ k % b:=by
 unfold A8;rw[b9,bi,jb hk];rfl
theorem DW{f b x y:Nat}:mf f b x y=hm b f x y:=by
 have:∀g,g<=f->((List.range g).filter fun k=>!Nat.beq ((A8 f b x).getD k 0) ((A8 f b y).getD k 0)).length=hm b g x y:=by
  intro g;induction g with
  |zero=>intro _;rfl
  |succ g ih=>
   intro hg;rw[iS,iQ,fY,ih (by lia),eJ,v5 (by lia),v5 (by lia)];show _=hm b g x y+_;cases Nat.beq (x / b ^ g % b) (y / b ^ g % b) <;> rfl
 exact this f (aI _)
def Ir(f b x y:Nat):List Nat:=((List.range f).filter fun k=>!Nat.beq (x / b ^ k % b) (y / b ^ k % b)).map fun k=>x+y / b ^ k % b*b ^ k-x / b ^ k % b*b ^ k
def ZT(f b:Nat):Bool:=(List.range (b ^ f)).all fun x=>(List.range (b ^ f)).all fun y=>(!(Nat.beq (hm b f x y) 0)||Nat.beq x y)&&(Nat.beq (Ir f b x y).length (hm b f x y)&&(NI (Ir f b x y)&&(Ir f b x y).all (fun c=>Nat.blt c (b ^ f)&&(Nat.beq (hm b f x c) 1&&Nat.blt (hm b f c y) (hm b f x y)))))
theorem Gw:(List.range 6).all (fun f=>(List.range 6).all fun b=>Nat.blt f 1||(Nat.blt b 2||(Nat.blt 32 (b ^ f)||ZT f b)))=true:=by decide +kernel
structure Wd(f b:Nat):Prop where
 f1:1<=f
 f5:f<=5
 b2:2<=b
 b5:b<=5
 m:b ^ f<=32
abbrev wT(f b:Nat):Ts:=jQ ((jC f b).map kh)
section
variable {f b x y c:Nat}
theorem Wd.gm(W:Wd f b):eU (b ^ f) (wT f b):=(lf W.f1 W.f5 W.b2 W.b5 W.m).1
theorem Wd.Ky(W:Wd f b)(hx:x<b ^ f)(hy:y<b ^ f):(hm b f x y=0->x=y)/\(Ir f b x y).length=hm b f x y/\(Ir f b x y).Nodup/\∀c∈Ir f b x y,c<b ^ f/\hm b f x c=1/\hm b f c y<hm b f x y:=by
 have k:=fu.mp (fu.mp Gw f (bu.mpr (by have:=W.f5;lia))) b (bu.mpr (by have:=W.b5;lia));have z1:Nat.blt f 1=false:=by rw[ix];intro z;have:=eh z;have:=W.f1;lia
 have z2:Nat.blt b 2=false:=by rw[ix];intro z;have:=eh z;have:=W.b2;lia
 have z3:Nat.blt 32 (b ^ f)=false:=by rw[ix];intro z;have:=eh z;have:=W.m;lia
 rw[z1,z2,z3,mE,mE,mE] at k;have k:=fu.mp (fu.mp k x (bu.mpr hx)) y (bu.mpr hy);rw[df,df,df,kL] at k;obtain⟨k1,k2,k3,k4⟩:=k;refine⟨fun e=>?_,j6 k2,ym k3,fun c hc=>?_⟩
 .rcases k1 with z|z
  .rw[e] at z;cases z
  .exact j6 z
 .have:=fu.mp k4 c hc;rw[df,df] at this;exact⟨eh this.1,j6 this.2.1,eh this.2.2⟩
theorem Wd.tie(W:Wd f b):T (wT f b) x c↔x<b ^ f/\c<b ^ f/\hm b f x c=1:=by
 have pm:=(lf W.f1 W.f5 W.b2 W.b5 W.m).2.1;have m32:=W.m;unfold T;rw[pm.mem_iff];unfold tW tV;rw[bo];constructor
 .rintro⟨k,hk,e⟩;obtain⟨o,ho,hk⟩:=o_.mp hk;obtain⟨p,hp,rfl⟩:=bo.mp hk;obtain⟨hp,u⟩:=cg.mp hp;have hp:=bu.mp hp;rw[p9 (by lia)] at e;have e1:=gW (congrArg Prod.fst e);have e2:=gW (congrArg Prod.snd e);subst e1;subst e2;exact⟨bu.mp ho,hp,by rw[<-DW];exact j6 u⟩
 .rintro⟨hx,hc,e⟩;refine⟨64*x+c,o_.mpr ⟨x,bu.mpr hx,bo.mpr ⟨c,cg.mpr ⟨bu.mpr hc,by rw[DW,e];rfl⟩,rfl⟩⟩,p9 (by lia)⟩
theorem Wd.sym(W:Wd f b)(h:T (wT f b) x c):T (wT f b) c x:=zx h
theorem Wd.walk(W:Wd f b)(hy:y<b ^ f):∀ {k x:Nat},x<b ^ f->hm b f x y=k->d_ (wT f b) k x y
 |0,x,hx,e=>(W.Ky hx hy).1 e
 |k+1,x,hx,e=>by
  obtain⟨_,k2,_,k4⟩:=W.Ky hx hy;obtain⟨c,hc⟩:∃c,c∈Ir f b x y:=by
   cases z:Ir f b x y with
   |nil=>rw[z,e] at k2;cases k2
   |cons c l=>exact⟨c,cD⟩
  obtain⟨c1,c2,c3⟩:=k4 c hc;have:=yC (b:=b) (x:=x) (c:=c) (y:=y) (f:=f);exact d_.cons (W.tie.mpr ⟨hx,c1,c2⟩) (W.walk hy c1 (by lia))
theorem Wd.low(W:Wd f b):∀ {k x:Nat},d_ (wT f b) k x y->hm b f x y<=k
 |0,x,e=>by cases e;rw[zS];exact aI _
 |k+1,x,w=>by
  obtain⟨c,t,w'⟩:=w.Db;have:=W.low w';have:=(W.tie.mp t).2.2;have:=yC (b:=b) (x:=x) (c:=c) (y:=y) (f:=f);lia
theorem Wd.far(W:Wd f b)(hx:x<b ^ f)(hy:y<b ^ f):iN.far (wT f b) x y=hm b f x y:=
 Nat.le_antisymm (W.gm.De hx hy (W.walk hy hx rfl)) (W.low (W.gm.vK hx hy).1)
theorem Wd.good(W:Wd f b)(hx:x<b ^ f)(hy:y<b ^ f):iN.far (wT f b) x y<=(d0 (b ^ f) (wT f b) x y).length:=by
 obtain⟨_,k2,k3,k4⟩:=W.Ky hx hy;rw[W.far hx hy,<-k2];refine ln k3 fun c hc=>?_;obtain⟨c1,c2,c3⟩:=k4 c hc;exact cg.mpr ⟨(dE W.gm hx).mpr (W.tie.mpr ⟨hx,c1,c2⟩),dg (by rw[W.far c1 hy,W.far hx hy];exact c3)⟩
end
theorem yD{ds:List Nat}{M:Int}{a:Nat}(p:ll ds M)(c0:0<jZ ds a):((a+2*(jZ ds a-1):Nat):Int)<=M:=by
 obtain⟨es,pm,so,p⟩:=p;have ec:jZ ds a=jZ es a:=(pm.filter _).length_eq.symm;have cl:jZ es a<=es.length:=i8 _ _;rw[ec] at c0 |-;rcases p with ⟨z,_⟩|⟨_,q⟩
 .rw[z] at c0;exact absurd c0 (iU _)
 .have h:=(qh (a:=a) (i:=jZ es a-1) so (by lia)).mpr (by lia);have:=q (jZ es a-1) (by lia);lia
theorem DX{ds:List Nat}{M:Int}(hb:∀d∈ds,1<=d)(p:ll ds M):(ds=[]/\M=0)\/∃a,1<=a/\0<jZ ds a/\M<=((a+2*(jZ ds a-1):Nat):Int):=by
 obtain⟨es,pm,so,p⟩:=p;have ec:∀a,jZ ds a=jZ es a:=fun a=>(pm.filter _).length_eq.symm;rcases p with ⟨z,e⟩|⟨⟨i,hi,e⟩,_⟩
 .subst z;exact .inl ⟨pm.nil_eq.symm,e⟩
 .have hm:es.getD i 0∈ds:=pm.mem_iff.mp (by rw[fV hi];exact eC _);have c:=(qh (a:=es.getD i 0) so hi).mp (aI _);exact .inr ⟨es.getD i 0,hb _ hm,by rw[ec];lia,by rw[ec,e];lia⟩
noncomputable def BJ(ts:Ts)(homes:List Nat)(st:List (Option Nat))(l:Nat):Nat:=far ts ((st.getD l none).getD 0) (homes.getD l 0)
theorem uw{ts:Ts}{homes:List Nat}{st:List (Option Nat)}{m a:Nat}:jZ (dZ ts homes st m) a=((fE st m).filter fun l=>decide (a<=BJ ts homes st l)).length:=by
 unfold jZ dZ;rw[List.filter_map,aH];rfl
theorem zU{c:Nat->Bool}:∀ {us:List Nat},(us.filter c).length+(us.filter fun a=>!c a).length=us.length
 |[]=>rfl
 |u::us=>by
  have:=zU (c:=c) (us:=us);rw[eJ,eJ,dv];cases c u <;> simp <;> lia
theorem Kz{st:List (Option Nat)}{m:Nat}:(fE st m).Nodup:=kC _ sg
section
variable {n:Nat} {ts:Ts} {homes:List Nat} {st fs:List (Option Nat)}
theorem eI.Gx(F:eU n ts)(S:eI n ts homes st){l:Nat}(h:l∈fE st st.length):1<=BJ ts homes st l:=by
 obtain⟨a,b⟩:=gT h;have e:=S.ss l ((st.getD l none).getD 0) (by rw[gR (d:=none) a,b];rfl);have hl:l<homes.length:=by rw[S.len];exact a
 refine Go F e.1 (S.hs _ (by rw[fV hl];exact eC _)) fun z=>e.2 ?_;rw[gR (d:=0) hl,z]
def Ud(n:Nat)(ts:Ts)(homes:List Nat)(st fs:List (Option Nat)):Prop:=∀l y,st.getD l none=some y->(∃x,fs.getD l none=some x/\x∈d0 n ts y (homes.getD l 0))\/∀o∈d0 n ts y (homes.getD l 0),∃a,st.getD a none=some y/\fs.getD a none=some o/\o∈d0 n ts y (homes.getD a 0)/\far ts y (homes.getD a 0)<=far ts y (homes.getD l 0)
theorem Bm{M M':Int}(F:eU n ts)(sy:∀ {a b},T ts a b->T ts b a)(gl:∀ {x y},x<n->y<n->far ts x y<=(d0 n ts x y).length)(S:eI n ts homes st)(hd:Hd n ts st fs)(nr:Ud n ts homes st fs)(p:ll (dZ ts homes st st.length) M)(p':ll (dZ ts homes (j3 homes fs) (j3 homes fs).length) M')(ne:fE st st.length≠[]):M'<M:=by
 have S':=hd.next F S;have u1:(fE st st.length).filter (fun l=>decide (1<=BJ ts homes st l))=fE st st.length:=rV.mpr fun l hl=>dg (S.Gx F hl);have c1:jZ (dZ ts homes st st.length) 1=(fE st st.length).length:=by rw[uw,u1]
 have up:0<(fE st st.length).length:=List.length_pos_iff.mpr ne;have m1:=yD (a:=1) p (by rw[c1];exact up);rw[c1] at m1;have d1:∀d∈dZ ts homes (j3 homes fs) (j3 homes fs).length,1<=d:=fun d h=>by
  obtain⟨l,hl,rfl⟩:=bo.mp h;exact S'.Gx F hl
 rcases DX d1 p' with ⟨_,e⟩|⟨j,j1,c0,mj⟩
 .lia
 .rw[uw] at c0 mj;have key:∀l,l∈fE (j3 homes fs) (j3 homes fs).length->∃y x,st.getD l none=some y/\fs.getD l none=some x/\l∈fE st st.length/\T ts y x/\y<n/\x<n/\homes.getD l 0<n/\BJ ts homes st l=far ts y (homes.getD l 0)/\BJ ts homes (j3 homes fs) l=far ts x (homes.getD l 0):=fun l hl=>by
   obtain⟨a,b⟩:=gT hl;have fx:=oH b;cases e:st.getD l none with
   |none=>rw[hd.bD l e] at fx;cases fx
   |some y=>
    have Iq:=rC e;have hy:=(S.ss l y (by rw[gR (d:=none) Iq,e])).1;obtain⟨x,ex,ox⟩:=hd.out l y e;have t:=(dE F hy).mp ox;have hh:l<homes.length:=by rw[S.len];exact Iq
    refine⟨y,x,rfl,ex,cg.mpr ⟨bu.mpr Iq,by rw[e];rfl⟩,t,hy,(F.QK t).2.1,S.hs _ (by rw[fV hh];exact eC _),?_,?_⟩
    .unfold BJ;rw[e];rfl
    .unfold BJ;rw[ex] at fx;rw[b,<-a_ fx];rfl
  generalize hS:(fE (j3 homes fs) (j3 homes fs).length).filter (fun l=>decide (j<=BJ ts homes (j3 homes fs) l))=SS at *;have nS:SS.Nodup:=by rw[<-hS];exact kC _ Kz
  have mS:∀l,l∈SS↔l∈fE (j3 homes fs) (j3 homes fs).length/\j<=BJ ts homes (j3 homes fs) l:=fun l=>by rw[<-hS,cg,kG]
  by_cases h:∀l∈SS,j+1<=BJ ts homes st l
  .have q:=ln nS (b:=(fE st st.length).filter fun l=>decide (j+1<=BJ ts homes st l)) fun l hl=>by
    obtain⟨y,x,_,_,hu,_⟩:=key l ((mS l).mp hl).1;exact cg.mpr ⟨hu,dg (h l hl)⟩
   have:=yD (a:=j+1) p (by rw[uw];lia);rw[uw] at this;lia
  .have ⟨l,hl,Ai⟩:∃l,l∈SS/\BJ ts homes st l<=j:=lr fun z=>h fun l hl=>lr fun w=>z ⟨l,hl,by lia⟩;obtain⟨Lz,HG⟩:=(mS l).mp hl;obtain⟨y,x,ey,ex,hu,t,hy,hx,hh,e1,e2⟩:=key l Lz;rw[e1] at Ai;rw[e2] at HG;have up1:far ts x (homes.getD l 0)<=far ts y (homes.getD l 0)+1:=F.De hx hh (d_.cons (sy t) (F.vK hy hh).1);have f1:=S.Gx F hu;rw[e1] at f1;rcases nr l y ey with ⟨x',Lo,gx⟩|al
   .rw[ex] at Lo;cases Lo;have:=c_ (cg.mp gx).2;lia
   .have g1:=gl hy hh;have g2:=ln (a:=d0 n ts y (homes.getD l 0)) (b:=((fE st st.length).filter fun a=>!decide (a∈SS)).map fun a=>(fs.getD a none).getD 0) (kC _ (lc hy)) fun o ho=>by
     obtain⟨a,ea,fa,ga,le⟩:=al o ho;refine bo.mpr ⟨a,cg.mpr ⟨cg.mpr ⟨bu.mpr (rC ea),by rw[ea];rfl⟩,?_⟩,by rw[fa];rfl⟩;rw[xa,wC];intro hs;obtain⟨q1,q2⟩:=(mS a).mp hs;obtain⟨y',x',ey',Lo,_,_,_,_,_,_,KA⟩:=key a q1;rw[fa] at Lo;cases Lo;rw[KA] at q2;have:=c_ (cg.mp ga).2;lia
    rw[aH] at g2;have g3:=ln nS (b:=(fE st st.length).filter fun a=>decide (a∈SS)) fun a ha=>by
     obtain⟨_,_,_,_,wt,_⟩:=key a ((mS a).mp ha).1;exact cg.mpr ⟨wt,dg ha⟩
    have g4:=zU (c:=fun a=>decide (a∈SS)) (us:=fE st st.length);lia
theorem zV{gd:Nat->List Nat}{Bf:Nat->Nat->Prop}:∀ {ls p:List Nat} {g:List (Option Nat)},g.length=st.length->(∀l,l∉p->g.getD l none=none)->(∀l∈p,g.getD l none=none->∀o∈gd l,∃a,st.getD a none=st.getD l none/\g.getD a none=some o/\Bf a l)->(∀l∈ls,l<st.length)->(p++ls).Nodup->(p++ls).Pairwise Bf->
  ∀l∈p++ls,(ls.foldl (fun g l=>g.set l (lm st g l (gd l))) g).getD l none=none->∀o∈gd l,∃a,st.getD a none=st.getD l none/\(ls.foldl (fun g l=>g.set l (lm st g l (gd l))) g).getD a none=some o/\Bf a l
 |[],p,g,gl,bD,ok,_,_,_=>by rw[iz];exact ok
 |k::ls,p,g,gl,bD,ok,lt,nd,pw=>by
  rw[ja];rw[show p++k::ls=(p++[k])++ls by simp] at nd pw |-;have kl:=lt k cD;have gs:∀ {j:Nat},(g.set k (lm st g k (gd k))).getD j none=if j=k then lm st g k (gd k) else g.getD j none:=ut (by rw[gl];exact kl)
  have kp:k∉p:=fun z=>(kI.mp (kI.mp nd).1).2.2 k z k cD rfl;have nk:=bD k kp;have kk:∀ {a o:Nat},g.getD a none=some o->(g.set k (lm st g k (gd k))).getD a none=some o:=fun {a o} e=>by rw[gs,aj (by rintro rfl;rw[nk] at e;cases e)];exact e
  refine zV (by rw[jf];exact gl) (fun j hj=>?_) (fun j hj hn o ho=>?_) (fun j hj=>lt j (bP _ hj)) nd pw
  .rw[gs,aj (by rintro rfl;exact hj (cZ _ cD))];exact bD j fun z=>hj (hX _ z)
  .rw[gs] at hn;by_cases c:j=k
   .subst c;rw[ao rfl] at hn;obtain⟨a,_,e1,e2⟩:=uu hn ho;have ZU:a∈p:=lr fun z=>by rw[bD a z] at e2;cases e2
    exact⟨a,e1,kk e2,(wN.mp (wN.mp pw).1).2.2 a ZU j cD⟩
   .rw[aj c] at hn;rcases cX.mp hj with z|z
    .obtain⟨a,e1,e2,e3⟩:=ok j z hn o ho;exact⟨a,e1,kk e2,e3⟩
    .exact absurd (cE.mp z) c
theorem Gy{jT:List Nat}(S:eI n ts homes st)(iZ:st.length<=16)(pm:jT.Perm (fE st st.length))(pw:jT.Pairwise (zA (kr ts homes st))):Ud n ts homes st (Kq n ts homes st jT):=by
 have al:=zP S pm;have nd:=DU pm;have lt:∀l∈jT,l<st.length:=fun l hl=>let ⟨_,a,_⟩:=al l hl;a;have bf:=zV (st:=st) (g:=List.replicate st.length none) (p:=[]) (ls:=jT) (gd:=fun l=>d0 n ts ((st.getD l none).getD 0) (homes.getD l 0)) (Bf:=zA (kr ts homes st)) i7 (fun l _=>qk) (fun l hl=>(nomatch hl)) lt nd pw;have i1:E1 st (jT.foldl (vZ n ts homes st) (List.replicate st.length none)) (fun l=>d0 n ts ((st.getD l none).getD 0) (homes.getD l 0)) ([]++jT):=E1.fold (gd:=fun l=>d0 n ts ((st.getD l none).getD 0) (homes.getD l 0)) ⟨i7,(fun j k y _ hy=>by rw[qk] at hy;cases hy),fun l _=>qk,fun l hl=>(nomatch hl)⟩ lt nd;have i2:=E2.fold S (g1:=jT.foldl (vZ n ts homes st) (List.replicate st.length none)) (p:=[]) ⟨i1.len,i1.inj,fun _ _ e=>e,fun _ _=>rfl,fun l hl=>(nomatch hl)⟩ al nd;rw[xi] at bf i1 i2;intro l y ey;have hl:l∈jT:=pm.mem_iff.mpr (yB ey);rcases i1.ok l hl with ⟨x,ex,gx⟩|⟨z,_⟩
 .rw[ey] at gx;exact .inl ⟨x,i2.keep l x ex,gx⟩
 .refine .inr fun o ho=>?_;have qA:o∈d0 n ts ((st.getD l none).getD 0) (homes.getD l 0):=by rw[ey];exact ho
  obtain⟨a,e1,e2,e3⟩:=bf l hl z o qA;have ea:st.getD a none=some y:=e1.trans ey;have ha:a∈jT:=pm.mem_iff.mpr (yB ea);refine⟨a,ea,i2.keep a o e2,?_,?_⟩
  .rcases i1.ok a ha with ⟨x,ex,gx⟩|⟨z',_⟩
   .have KA:(jT.foldl (vZ n ts homes st) (List.replicate st.length none)).getD a none=some o:=e2;rw[ex] at KA;cases KA;rw[ea] at gx;exact gx
   .have KA:(jT.foldl (vZ n ts homes st) (List.replicate st.length none)).getD a none=some o:=e2;rw[z'] at KA;cases KA
  .have:=lt l hl;unfold zA kr at e3;rw[ea,ey] at e3;have q:64*((far ts y (homes.getD a 0):Nat):Int)+a<=64*((far ts y (homes.getD l 0):Nat):Int)+l:=e3;lia
end
abbrev Ue:Stmt:=top 14
abbrev Uf:Stmt:=top 61
theorem l9:(["home","goes"]:List Str).Nodup:=by decide +kernel
theorem ku:(["_law_house","_law_home"]:List Str).Nodup:=by decide +kernel
theorem zW{homes:List Nat}{fs:List (Option Nat)}{i:Nat}(h:i<fs.length):((j3 homes fs).map oV)[i]?=some (if fs.getD i none=some (homes.getD i 0) then V.bD else oV (fs.getD i none)):=by
 unfold j3;rw[bi,bi,jb h];show some (oV (if _ then none else _))=_;split <;> rfl
theorem Iu{o:Option Nat}{h:Nat}:decide (oV o=.int (h:Int))=decide (o=some h):=Io (b:=some h)
theorem DY{o:Option Nat}{h:Nat}:E5 (oV o) (.int (h:Int))=true:=zL (b:=some h)
theorem KB{kz:Nat->Int}{us:List Nat}(b:∀n∈us,n<64):∀ {l1 l2:List Nat},l1.Perm us->l2.Perm us->l1.Pairwise (zA kz)->l2.Pairwise (zA kz)->l1=l2:=fun {l1 l2} p1 p2 s1 s2=>by
 refine List.Perm.eq_of_pairwise (le:=zA kz) (fun x y hx hy h1 h2=>?_) s1 s2 (p1.trans p2.symm);have:=b x (p1.mem_iff.mp hx);have:=b y (p2.mem_iff.mp hy);unfold zA at h1 h2;lia
def Gz(kz:Nat->Int)(a b:Nat):Bool:=decide (64*kz a+a<=64*kz b+b)
noncomputable def GA(ts:Ts)(homes:List Nat)(st:List (Option Nat)):List Nat:=(fE st st.length).mergeSort (Gz (kr ts homes st))
section
variable {n:Nat} {ts:Ts} {homes:List Nat} {st:List (Option Nat)} {o:List Nat}
theorem ux:(GA ts homes st).Perm (fE st st.length):=List.mergeSort_perm _ _
theorem zX:(GA ts homes st).Pairwise (zA (kr ts homes st)):=by
 have:=List.pairwise_mergeSort (le:=Gz (kr ts homes st)) (fun a b c h1 h2=>by unfold Gz at *;rw[kG] at *;lia) (fun a b=>by unfold Gz;rw[kL,kG,kG];lia) (fE st st.length);exact this.imp fun {a b} h=>c_ h
theorem GB(iZ:st.length<=16)(p:o.Perm (fE st st.length))(w:o.Pairwise (zA (kr ts homes st))):o=GA ts homes st:=
 KB (fun n hn=>by have:=(gT hn).1;lia) p ux w zX
noncomputable def GC(n:Nat)(ts:Ts)(homes:List Nat)(st:List (Option Nat)):List (Option Nat):=Kq n ts homes st (GA ts homes st)
theorem nI(S:eI n ts homes st):Hd n ts st (GC n ts homes st):=(Kr S ux).hd
theorem KC(S:eI n ts homes st)(iZ:st.length<=16):Ud n ts homes st (GC n ts homes st):=Gy S iZ ux zX
end
abbrev ZV:List Str:=["self","net","homes","stand","beat"]
structure Ug(K:PySem.W.Frag)(mg:Str->Option Value)(nm:Str)(CB Ci:Addr)(bt:Bool):Prop where
 cl:Cf K Ci
 QO:mg nm=some (.ref Ci)
 ha:PySem.W.findIn K (.ref Ci) "__class__"=some (some (.builtin "object.__class__"))
 hn:PySem.W.specialIn K (.builtin "object.__class__") "__get__"=some (some (.builtin "getset_descriptor.__get__"))
 MB:PySem.W.takesIn K (.builtin "object.__class__")=some true
 hm:PySem.W.mroIn K Ci (.type "object")=some true
 kt:PySem.W.kitOne K (.ref Ci) (.ref CB)=some bt
theorem Ug.ty{K:PySem.W.Frag}{mg:Str->Option Value}{nm:Str}{CB Ci a d:Addr}{fs:List (Str×V)}{H:Hp}{bt:Bool}(T:Ug K mg nm CB Ci bt)(e:H a=some (.ins Ci d fs)):Ji K H (.ref a) (.ref Ci):=.of (.ins e T.cl T.ha T.hn T.MB T.hm)
section
variable {P:Program} {w:World} {K:PySem.W.Frag} {mg:Str->Option Value} {base:Heap}
structure OF(P:Program)(w:World)(K:PySem.W.Frag)(mg:Str->Option Value)(base:Heap)(C CN CI PN:Addr):Prop where
 n:Ug K mg "Nearest" CI CN false
 ZW:mg "InTurn"=some (.ref CI)
 new:WX K CN
 oN:jX P w K mg base aW 9 CN "order" ZV (DV C PN)
theorem Uh:aG ["homes","handing"] ["homes","handing"] (au Ue):=⟨rfl,rfl,rfl,by decide +kernel,rfl,by decide +kernel,by decide +kernel⟩
def v6:Sp:=fun vs H Q _=>∃ (ha fa:Addr) (homes:List Nat) (fs:List (Option Nat)),vs=[.ref ha,.ref fa]/\H ha=some (.tup (NV homes))/\H fa=some (.tup (fs.map oV))/\homes.length=fs.length/\fs.length<=16/\∀t H',aK H H'->H' t=some (.tup ((j3 homes fs).map oV))->Q (.ref t) H'
theorem OG{f:Addr}{fd:FuncData}(F:fW K "stand_behind" "stand_behind" Ue f fd)(B:Bl mg)(B2:Il mg):bq P w K mg base aW 1 f fd ["homes","handing"] v6:=by
 refine F.ok Uh (fun vs H Q E h=>?_) (fun dR A outer s H vs Q E hr h=>?_)
 .obtain⟨ha,fa,homes,fs,rfl,_⟩:=h;rfl
 .obtain⟨ha,fa,homes,fs,rfl,GD,GE,hl,iZ,q⟩:=h;refine'⟨_,(aq (aP (dH dY (by rfl) B.tup oR (aa ?c1 ag)))),?_⟩;case c1=>
   refine' cT (g:=(pH K 2 (dW (bQ 0) (dW (bQ 1) pG)))) (te:=(Rj (lK (mW (Qt) (bj 1) (bj 0))) (tC .bD) (bj 1))) (NB:=["home","goes"]) (src:=[none,none]) (bU (by kernel_rfl)) rfl (tR rfl B2.zip (aa (pv 0) (aa (pv 1) ag))) ?g ?t ?e;case g=>exact fun cl C s₃ H₃ fp=>(dO (n:=2) rfl (aN (av (i:=0) l9 rfl (Or.inl rfl) (Or.inr rfl)) (aN (av (i:=1) l9 rfl (Or.inl rfl) (Or.inr rfl)) cL)))
   case t=>exact fun cl C s₃ H₃ fp=>dq
   case e=>exact fun cl C s₃ H₃ fp=>(uR (aQ j_ (pv 1) (pv 0) (aT _)) eO (pv 1))
  refine⟨_,rfl,_,rfl,ha,fa,_,_,rfl,bW.of GD,bW.of GE,by rw[bh,aH];lia,fun D4 yA=>?_⟩;refine pZ (K:=K) (xs:=NV homes) (ys:=fs.map oV) (by rw[bh,aH];lia) (fun i zz σ H3=>(∃u v,σ=[u,v])/\aK H H3/\H3 D4=some (.lst zz)/\zz=((j3 homes fs).map oV).take i) ⟨⟨_,_,rfl⟩,ai yA,af,rfl⟩ (fun i zz σ H _ z=>⟨bW.of (z.2.1 _ _ GD),bW.of (z.2.1 _ _ GE)⟩) ?_ ?_
  .rintro i x y pp zz σ H5 Kt Kf hx hy ⟨⟨u,v,rfl⟩,DI,uN,rfl⟩ Ui kt kf;have OH:i<fs.length:=by have:=(dS.mp hx).1;rw[bh] at this;lia
   rw[kq (by lia)] at hx;obtain rfl:=a_ hx;rw[l8 OH] at hy;obtain rfl:=a_ hy;have sp:=ai (o:=.tup [.int ((homes.getD i 0:Nat):Int),oV (fs.getD i none)]) Ui;have one:=zW (homes:=homes) (fs:=fs) OH;have lt:(((j3 homes fs).map oV).take i).length<sizeLine:=eA (wP _ _) (by rw[aH,gU];exact eA iZ (by decide));refine⟨pp,_,rfl,bW.of af,rfl,_,_,rfl,_,_,rfl,rfl,?_⟩;refine⟨_,rfl,_,rfl,DY,_,rfl,?_⟩;rw[Iu];have go:∀v,((j3 homes fs).map oV)[i]?=some v->∀σ2,(∃u v,σ2=[u,v])->Kt v σ2 (upd H5 pp (.tup [.int ((homes.getD i 0:Nat):Int),oV (fs.getD i none)])):=fun v hv σ2 sh=>kt v σ2 _ (sp _ _ uN) lt ⟨sh,bH (DI.trans sp) yA,af,by rw[gI,hv];rfl⟩;by_cases c:fs.getD i none=some (homes.getD i 0)
   .rw[ao c] at one;rw[dg c];exact va (go _ one _ ⟨_,_,rfl⟩)
   .rw[aj c] at one;rw[eD c];exact fT ⟨_,rfl,go _ one _ ⟨_,_,rfl⟩⟩
  .rintro zz σ H5 ⟨_,DI,uN,rfl⟩;rw[bh,show homes.length=((j3 homes fs).map oV).length by rw[aH,gU];exact hl,iR] at uN;refine⟨D4,_,rfl,.inl ⟨ba.of uN,fun t ht=>?_⟩⟩;exact q t _ (DI.trans (ai ht)) af
theorem Uj:aG ["_law_homes","_law_handing"] ["_law_homes","_law_handing"] (au Uf):=⟨rfl,rfl,rfl,by decide +kernel,rfl,by decide +kernel,by decide +kernel⟩
theorem OI{f:Addr}{fd:FuncData}(F:fW K "_law_behind" "_law_behind" Uf f fd)(B:Bl mg)(B2:Il mg):bq P w K mg base aW 1 f fd ["_law_homes","_law_handing"] v6:=by
 refine F.ok Uj (fun vs H Q E h=>?_) (fun dR A outer s H vs Q E hr h=>?_)
 .obtain⟨ha,fa,homes,fs,rfl,_⟩:=h;rfl
 .obtain⟨ha,fa,homes,fs,rfl,GD,GE,hl,iZ,q⟩:=h;refine'⟨_,(aq (aP (dH dY (by rfl) B.tup oR (aa ?c1 ag)))),?_⟩;case c1=>
   refine' cT (g:=(pH K 2 (dW (bQ 0) (dW (bQ 1) pG)))) (te:=(Rj (lK (mW (Qt) (bj 0) (bj 1))) (tC .bD) (bj 0))) (NB:=["_law_house","_law_home"]) (src:=[none,none]) (bU (by kernel_rfl)) rfl (tR rfl B2.zip (aa (pv 1) (aa (pv 0) ag))) ?g ?t ?e;case g=>exact fun cl C s₃ H₃ fp=>(dO (n:=2) rfl (aN (av (i:=0) ku rfl (Or.inl rfl) (Or.inr rfl)) (aN (av (i:=1) ku rfl (Or.inl rfl) (Or.inr rfl)) cL)))
   case t=>exact fun cl C s₃ H₃ fp=>dq
   case e=>exact fun cl C s₃ H₃ fp=>(uR (aQ j_ (pv 0) (pv 1) (aT _)) eO (pv 0))
  refine⟨_,rfl,_,rfl,fa,ha,_,_,rfl,bW.of GE,bW.of GD,by rw[aH,bh];lia,fun D4 yA=>?_⟩;refine pZ (K:=K) (xs:=fs.map oV) (ys:=NV homes) (by rw[aH,bh];lia) (fun i zz σ H3=>(∃u v,σ=[u,v])/\aK H H3/\H3 D4=some (.lst zz)/\zz=((j3 homes fs).map oV).take i) ⟨⟨_,_,rfl⟩,ai yA,af,rfl⟩ (fun i zz σ H _ z=>⟨bW.of (z.2.1 _ _ GE),bW.of (z.2.1 _ _ GD)⟩) ?_ ?_
  .rintro i x y pp zz σ H5 Kt Kf hx hy ⟨⟨u,v,rfl⟩,DI,uN,rfl⟩ Ui kt kf;have OH:i<fs.length:=by have:=(dS.mp hx).1;rwa [aH] at this
   rw[l8 OH] at hx;obtain rfl:=a_ hx;rw[kq (by lia)] at hy;obtain rfl:=a_ hy;have sp:=ai (o:=.tup [oV (fs.getD i none),.int ((homes.getD i 0:Nat):Int)]) Ui;have one:=zW (homes:=homes) (fs:=fs) OH;have lt:(((j3 homes fs).map oV).take i).length<sizeLine:=eA (wP _ _) (by rw[aH,gU];exact eA iZ (by decide));refine⟨pp,_,rfl,bW.of af,rfl,_,_,rfl,_,_,rfl,rfl,?_⟩;refine⟨_,rfl,_,rfl,DY,_,rfl,?_⟩;rw[Iu];have go:∀v,((j3 homes fs).map oV)[i]?=some v->∀σ2,(∃u v,σ2=[u,v])->Kt v σ2 (upd H5 pp (.tup [oV (fs.getD i none),.int ((homes.getD i 0:Nat):Int)])):=fun v hv σ2 sh=>kt v σ2 _ (sp _ _ uN) lt ⟨sh,bH (DI.trans sp) yA,af,by rw[gI,hv];rfl⟩;by_cases c:fs.getD i none=some (homes.getD i 0)
   .rw[ao c] at one;rw[dg c];exact va (go _ one _ ⟨_,_,rfl⟩)
   .rw[aj c] at one;rw[eD c];exact fT ⟨_,rfl,go _ one _ ⟨_,_,rfl⟩⟩
  .rintro zz σ H5 ⟨_,DI,uN,rfl⟩;rw[aH,show fs.length=((j3 homes fs).map oV).length by rw[aH,gU],iR] at uN;refine⟨D4,_,rfl,.inl ⟨ba.of uN,fun t ht=>?_⟩⟩;exact q t _ (DI.trans (ai ht)) af
theorem yE:aG ["rule","net","homes","stand","beat","letters","goes"] ["rule","net","homes","stand","beat"] (au DP):=⟨rfl,rfl,rfl,by decide +kernel,rfl,by decide +kernel,by decide +kernel⟩
def KD:Sp:=fun vs _ _ _=>vs.length=5/\False
theorem OJ{f:Addr}{fd:FuncData}{k:Nat}:bq P w K mg base aW k f fd ["net","homes","stand","letters","goes"] KD:=⟨fun _ _ _ _ h=>h.2.elim,fun _ _ _ _ _ _ _ _ _ _ _ _ _ h=>h.2.elim⟩
def ql(C CN PN:Addr):Sp:=fun vs H Q _=>∃ (L:Addr->Prop) (a px ha sa:Addr) (bt:Int) (n:Nat) (ts:Ts) (homes:List Nat) (st:List (Option Nat)),vs=[.ref a,.ref px,.ref ha,.ref sa,.int bt]/\(∃d,H a=some (.ins CN d []))/\bK C H L px n ts/\H ha=some (.tup (NV homes))/\H sa=some (.tup (st.map oV))/\nZ n homes st/\bS PN H/\
 ∀ (t:Addr) (H':Hp),bS PN H'->bN PN H H'->H t=none->H' t=some (.tup ((GC n ts homes st).map oV))->Q (.ref t) H'
theorem GJ{f C CN CI PN:Addr}{fd:FuncData}(F:fW K "hand" "hand" DP f fd)(B:Bl mg)(R:OF P w K mg base C CN CI PN)(HT:cB P w K mg base aW 1 "hand_in_turn" ["net","homes","stand","letters","goes"] KD)(HE:cB P w K mg base aW 7 "hand_eagerly" ["net","homes","stand","letters","goes"] (Kw C)):
  bq P w K mg base aW 10 f fd ["rule","net","homes","stand","beat"] (ql C CN PN):=by
 obtain⟨f2,d2,m2,b2,G2⟩:=R.oN.ex;refine F.ok yE (fun vs H Q E h=>?_) (fun dR A outer s H vs Q E hr h=>?_)
 .obtain⟨L,a,px,ha,sa,bt,n,ts,homes,st,rfl,_⟩:=h;rfl
 .obtain⟨L,a,px,ha,sa,bt,n,ts,homes,st,rfl,⟨da,hR⟩,N,hH,hS,LO,tb,q⟩:=h;have h1:bA 1 _:=hr.mono (by decide);have h2:bA 2 _:=hr.mono (by decide);have h7:bA 7 _:=hr.mono (by decide);refine'⟨_,(ah (aY (i:=5) yE.nd rfl (Or.inl rfl) (fm (pv 0) R.n.cl m2 G2 hr b2 .nil aJ (aa (pv 1) (aa (pv 2) (aa (pv 3) (aa (pv 4) ag))))))
   (ah (d8 (i:=6) (g:=(bQ 0)) (te:=(tC .bD)) (NB:=["home"]) (src:=[none]) (bU (by kernel_rfl)) rfl (B7 (pv 2)) ?g1 ?t1 ?e1 yE.nd rfl rfl rfl)
   (ah (cr (fc (aR AD (by rfl) B.JT oM (aa (pv 0) (aa (gJ (v:=.ref CI) rfl R.ZW rfl) ag)))) (aq (cu (aF HT h1 aJ (aa (pv 1) (aa (pv 2) (aa (pv 3) (aa (pv 5) (aa (pv 6) ag)))))))) (aq (cu (aF HE h7 aJ (aa (pv 1) (aa (pv 2) (aa (pv 3) (aa (pv 5) (aa (pv 6) ag)))))))))
   (aq (aP (dH dY (by rfl) B.tup oR (aa (pv 6) ag))))))),?_⟩
  case g1=>exact fun cl C s₃ H₃ fp=>(av (i:=0) Gr rfl (Or.inl rfl) (Or.inr rfl))
  case t1=>exact fun cl C s₃ H₃ fp=>dq
  case e1=>exact fun cl C s₃ H₃ fp=>eO
  refine⟨_,rfl,a,da,[],rfl,hR,rfl,_,rfl,_,rfl,_,rfl,_,rfl,L,.ref a,.int bt,px,ha,sa,n,ts,homes,st,rfl,N,hH,hS,LO,tb,fun la H1 jT t1 k1 la0 op pw Ik=>?_⟩;have kn:∀b o,H b=some o->v3 o->H1 b=some o:=fun b o e n=>k1 _ _ e (tb.not e n);have Uk:=kn _ _ hH (fun ps z=>by cases z);have ins:∃dx fs,H px=some (.ins C dx fs):=let ⟨dx,fs,a,_⟩:=N.Gs;⟨dx,fs,a⟩;have N1:bK C H1 (fun b=>H1 b≠none) px n ts:=by
   obtain⟨dx,fs,a⟩:=ins;exact(N.QW.keep (fun b o l e=>by obtain⟨_,o',e',n⟩:=l;rw[e] at e';cases e';exact kn b o e n) fun o e=>kn _ _ e (by rw[a] at e;cases e;exact fun ps z=>by cases z)).own
  refine⟨_,rfl,ha,rfl,⟨_,bW.of Uk⟩,fun ga hg=>?_⟩;refine DN (K:=K) (a:=ha) (xs:=NV homes) (fun i ys σ H2=>(∃x,σ=[x])/\aK H1 H2/\H2 ga=some (.lst ys)/\ys=List.replicate i V.bD) ⟨⟨_,rfl⟩,ai hg,af,rfl⟩ (fun i ys σ H2 _ z=>bW.of (z.2.1 _ _ Uk)) ?_ ?_
  .rintro i x ys σ H2 Kt Kf hx ⟨⟨x',rfl⟩,sm,LP,rfl⟩ kt kf;have hi:i<homes.length:=by have:=(dS.mp hx).1;rwa [bh] at this
   have:=LO.len;have:=LO.le;exact kt _ _ _ LP (by rw[i7];exact cC (show i<17 by lia) (by decide)) ⟨⟨_,rfl⟩,bH sm hg,af,by rw[rP]⟩
  rintro ys σ H2 ⟨_,sm,LP,rfl⟩;rw[bh,LO.len,show V.bD=oV none from rfl,<-wX] at LP;have Oc:=sm _ _ (kn _ _ hR (fun ps z=>by cases z));have LY:=sm _ _ (kn _ _ hS (fun ps z=>by cases z));refine⟨_,rfl,.ref a,CI,_,false,rfl,R.n.kt,R.n.ty Oc,_,rfl,?_⟩;refine fT ⟨_,rfl,_,rfl,_,rfl,_,rfl,_,rfl,fun b=>H1 b≠none,px,ha,sa,la,ga,n,ts,homes,jT,st,_,rfl,N1.same sm,fun z=>z hg,sm _ _ Uk,LY,LO,fun l hl=>op.mem_iff.mp hl,sm _ _ Ik,ap Ik hg,LP,by rw[i7],fun H3 s3 ZX=>?_⟩;refine⟨_,rfl,ga,_,rfl,.inl ⟨ba.of ZX,fun t ht=>?_⟩⟩;obtain rfl:=GB LO.le op pw;have k3:∀b o,H1 b=some o->(upd H3 t (.tup ((GC n ts homes st).map oV))) b=some o:=fun b o e=>ai ht _ _ (s3 _ _ (sm _ _ e) (ap e hg));have ZY:H1 t=none:=by
   cases z:H1 t with
   |none=>rfl
   |some o=>rw[s3 _ _ (sm _ _ z) (ap z hg)] at ht;cases ht
  exact q t _ (t1.same k3) (fun b o e n=>k3 _ _ (k1 b o e n)) (v4 (aK.refl _) t1 k1 (aK.refl _) ZY) af
end
abbrev KE:Stmt:=top 30
abbrev GK:Stmt:=top 29
abbrev KG:Stmt:=iI (top 20) 0
def zY:Expr:=match (bC GK).getD 1 (.Pass ⟨0,0,0,0⟩) with
 |.Return (some (.Call _ (_::_::_::k::_) _ _)) _=>k
 |_=>.Name "x" ⟨0,0,0,0⟩
def v7:Arguments:=match zY with
 |.Lambda a _ _ _=>a
 |_=>{ posonlyargs:=[],args:=[],vararg:=none,kwonlyargs:=[],kw_defaults:=[],kwarg:=none,defaults:=[] }
def v8:Expr:=match zY with
 |.Lambda _ b _ _=>b
 |e=>e
def DZ:Scope:=match zY with
 |.Lambda _ _ s _=>s
 |_=>{ kind:=.function,names:=[],isGenerator:=false,isCoroutine:=false }
def GN:Pos:=match zY with
 |.Lambda _ _ _ p=>p
 |_=>⟨0,0,0,0⟩
def GQ:Str:=("run":Str)++".<locals>."++"<lambda>"
abbrev uy(Pt:Addr)(H:Hp):Prop:=bR GN GQ Pt H
abbrev ZZ:List Str:=["here","beat","rule","net","homes"]
theorem KH:zC ZZ 2 DZ GQ v7 v8:=by
 refine⟨rfl,by decide +kernel,fun bz pm c qv us hl=>?_,by decide +kernel,fun i x hi hx=>?_,by decide +kernel,rfl,rfl⟩
 .match us,hl with
  |[_,_],_=>rfl
 .match i,hi,hx with
  |2,_,hx=>cases hx;rfl
  |3,_,hx=>cases hx;rfl
  |4,_,hx=>cases hx;rfl
theorem uA{S:Addr->Prop}{h0:Heap}{H:Hp}{b:Addr}{o:HO}(n:∀a,S a->H a=some (jD h0 a))(e:H b=some o)(x:∀p,o≠.ext p):mf S H b=some o:=by
 rw[b8 fun z=>by rw[n b z] at e;exact x _ (a_ e).symm];exact e
theorem l_{S:Addr->Prop}{H H':Hp}(s:aK H H'):aK (mf S H) (mf S H'):=fun b o e=>by
 by_cases c:S b
 .rw[hU c] at e;cases e
 .rw[b8 c] at e |-;exact s b o e
theorem v9{S:Addr->Prop}{h0:Heap}{H:Hp}(n:∀a,S a->H a=none):mf S (gw S h0 H)=H:=funext fun b=>by
 by_cases c:S b
 .rw[hU c,n b c]
 .rw[b8 c,bB c]
def BK(st:List (Option Nat)):Bool:=st.any Option.isSome
theorem oJ{st:List (Option Nat)}:BK st=true↔fE st st.length≠[]:=by
 unfold BK;rw[pe];constructor
 .rintro⟨x,hx,e⟩ z;obtain⟨i,hi,ei⟩:=rT hx;have:i∈fE st st.length:=cg.mpr ⟨bu.mpr hi,by rw[b9,bT hi,ei];exact e⟩;rw[z] at this;cases this
 .intro h;obtain⟨i,hi⟩:∃i,i∈fE st st.length:=by
   cases z:fE st st.length with
   |nil=>exact absurd z h
   |cons a l=>exact⟨a,cD⟩
  obtain⟨a,b⟩:=cg.mp hi;have hi:=bu.mp a;rw[b9,bT hi] at b;exact⟨st[i],eC hi,b⟩
theorem KI{st:List (Option Nat)}:BK st=!(NV (fE st st.length)).isEmpty:=by
 rw[iA,oJ];cases fE st st.length with
 |nil=>simp
 |cons a l=>simp
def QZ(homes:List Nat)(hd:List (Option Nat)->List (Option Nat))(st:List (Option Nat)):Nat->List (Option Nat)
 |0=>st
 |k+1=>j3 homes (hd (QZ homes hd st k))
structure Ul(homes:List Nat)(hd:List (Option Nat)->List (Option Nat))(st:List (Option Nat))(most N:Nat):Prop where
 al:∀j,j<N->j<most/\BK (QZ homes hd st j)=true
 stop:¬ (N<most/\BK (QZ homes hd st N)=true)
noncomputable abbrev jV(n:Nat)(ts:Ts)(homes:List Nat)(st:List (Option Nat))(k:Nat):List (Option Nat):=QZ homes (GC n ts homes) st k
noncomputable abbrev uM(n:Nat)(ts:Ts)(homes:List Nat)(st:List (Option Nat))(k:Nat):List (Option Nat):=GC n ts homes (jV n ts homes st k)
theorem eI.run{n:Nat}{ts:Ts}{homes:List Nat}{st:List (Option Nat)}(F:eU n ts)(S:eI n ts homes st):∀k,eI n ts homes (jV n ts homes st k)/\(jV n ts homes st k).length=st.length
 |0=>⟨S,rfl⟩
 |k+1=>by
  obtain⟨a,b⟩:=eI.run F S k;have h:=nI a;exact⟨h.next F a,by show (j3 homes _).length=_;rw[gU,h.len,b]⟩
theorem bK.kt{lp:Pos}{q:Str}{C PN px:Addr}{H H':Hp}{L:Addr->Prop}{n:Nat}{ts:Ts}(N:bK C H L px n ts)(t:bR lp q PN H)(s:bN PN H H'):∃L',bK C H' L' px n ts:=by
 obtain⟨dx,tl,ol,ds,i0,_⟩:=N.ob;exact⟨_,N.QW.keep (H':=H') (fun b o l e=>by obtain⟨_,o',e',n⟩:=l;rw[e] at e';cases e';exact s _ _ e (t.not e n)) (fun o e=>s _ _ e (t.not e (by rw[i0] at e;cases e;intro ps z;cases z)))⟩
theorem _root_.L2.bR.rE{lp:Pos}{q:Str}{P P':Addr}{H H':Hp}(t:bR lp q P H)(s:bN P' H H')(hp:∃ps,H P'=some (.j8 ps))(n:P≠P'):bR lp q P H':=by
 obtain⟨ps,hp⟩:=hp;rcases t with z|⟨c,z,y⟩
 .exact .inl (s _ _ z n)
 .exact .inr ⟨c,s _ _ z n,s _ _ y (by rintro rfl;rw[hp] at y;cases y)⟩
theorem _root_.L2.bR.j8{lp:Pos}{q:Str}{P:Addr}{H:Hp}(t:bR lp q P H):∃ps,H P=some (.j8 ps):=by
 rcases t with z|⟨c,z,y⟩
 .exact⟨_,z⟩
 .exact⟨_,z⟩
theorem _root_.L2.bR.putL{lp:Pos}{q:Str}{Pt A:Addr}{H:Hp}{xs:List V}{u:HO}(t:bR lp q Pt H)(h:H A=some (.lst xs)):bR lp q Pt (upd H A u):=by
 rcases t with z|⟨c,z,y⟩
 .exact .inl (by rw[am (by rintro rfl;rw[h] at z;cases z)];exact z)
 .exact .inr ⟨c,by rw[am (by rintro rfl;rw[h] at z;cases z)];exact z,by rw[am (by rintro rfl;rw[h] at y;cases y)];exact y⟩
section
variable {P:Program} {w:World} {K:PySem.W.Frag} {mg:Str->Option Value} {base:Heap}
theorem D5:aG ["homes","stand","most","handed","log"] ["homes","stand","most","handed"] (au KE):=⟨rfl,rfl,rfl,by decide +kernel,rfl,by decide +kernel,by decide +kernel⟩
def D6(C CN PN:Addr):Sp:=fun vs H Q _=>∃ (L:Addr->Prop) (a px ha sa f c:Addr) (n:Nat) (ts:Ts) (homes:List Nat) (st:List (Option Nat)) (most:Nat) (cells:List (Str×Addr)) (h0:Heap) (H1:Hp),vs=[.ref ha,.ref sa,.int most,.ref f]/\H=gw (a9 cells) h0 H1/\(∀a,a9 cells a->H1 a=none)/\vP cells h0 H/\rq cells h0 "rule" (.ref a)/\rq cells h0 "net" (.ref px)/\rq cells h0 "homes" (.ref ha)/\(∃d,H1 a=some (.ins CN d []))/\bK C H1 L px n ts/\H1 ha=some (.tup (NV homes))/\H1 sa=some (.tup (st.map oV))/\eI n ts homes st/\st.length<=16/\most<=500/\bS PN H1/\H1 f=some (lT f GQ v7 v8 DZ cells c)/\H1 c=some (jw c GQ)/\
 ∀ (r:Addr) (N:Nat) (as:List Addr) (H':Hp),Ul homes (GC n ts homes) st most N->bS PN (mf (a9 cells) H')->bN PN H H'->(∀a,a9 cells a->H' a=some (jD h0 a))->H r=none->H' r=some (.lst (as.map V.ref))->Holds H' as N (fun k=>.tup ((uM n ts homes st k).map oV))->Q (.ref r) H'
theorem KJ{f C CN PN:Addr}{fd:FuncData}(F:fW K "log_by" "log_by" KE f fd)(B:Bl mg)(UW:cB P w K mg base aW 1 "under_way" ["stand"] DS)(SB:cB P w K mg base aW 1 "stand_behind" ["homes","handing"] v6)(WH:cB P w K mg base aW 10 "hand" ["rule","net","homes","stand","beat"] (ql C CN PN)):bq P w K mg base aW 12 f fd ["homes","stand","most","handed"] (D6 C CN PN):=by
 refine F.ok D5 (fun vs H Q E h=>?_) (fun dR A outer s H vs Q E hr h=>?_)
 .obtain⟨L,a,px,ha,sa,f',c,n,ts,homes,st,most,cells,h0,H1,rfl,_⟩:=h;rfl
 .obtain⟨L,a,px,ha,sa,f',c,n,ts,homes,st,most,cells,h0,H1,rfl,rfl,nS,LE,ca,cb,ch,⟨da,hA⟩,NA,hH,hS,SG,iZ,OK,tb,hf,hc,q⟩:=h;have FN:=NA.gm;have h1:bA 1 _:=hr.mono (by decide);have nP:¬ a9 cells PN:=fun z=>by rcases tb with y|⟨_,y,_⟩ <;> (rw[nS _ z] at y;cases y)
  have inj:aK H1 (gw (a9 cells) h0 H1):=fun b o e=>by rw[bB fun z=>by rw[nS b z] at e;cases e];exact e
  refine⟨_,(ah (aY (i:=4) D5.nd rfl (Or.inl rfl) (dP ag))
   (ah (uU eK (PW.pt (xt (aQ uW (aR aV (by rfl) B.len fN (aa (pv 4) ag)) (pv 2) (aT _)) (sI (Cc (aF UW h1 aJ (aa (pv 1) ag)) (fun _=>rfl))))) (ah (cu (ka j5 lw lu cY (pv 4) (aa (FZ (te:=nR (ql C CN PN) [] E0 (cA (bj 2) (cA (bj 3) (cA (bj 4) (cA (bj 0) (cA (bj 1) kU)))))) (i:=3) hr rfl KH (pv 3) (aa (pv 1) (aa (aR aV (by rfl) B.len fN (aa (pv 4) ag)) ag)) (fun f bz c s H=>aF WH (hr.deeper _) aJ (aa (pv 2) (aa (pv 3) (aa (pv 4) (aa (pv 0) (aa (pv 1) ag))))))) ag)))
    (aq (aY (i:=1) D5.nd rfl (Or.inl rfl) (aF SB h1 aJ (aa (pv 0) (aa (bZ bL (pv 4) (Hz B9 aB) (fun _ _=>rfl)) ag)))))))
   (aq (aP (pv 4))))),?_⟩
  refine⟨by show 0<=sizeLine;decide,fun LG L6=>?_⟩;have s0:=ai (o:=.lst []) L6;have Um:H1 LG=none:=inj.free L6;have W_:¬ a9 cells LG:=fun z=>by rw[lZ z] at L6;cases L6
  have nLP:LG≠PN:=by rintro rfl;rcases tb with y|⟨_,y,_⟩ <;> (rw[Um] at y;cases y)
  have kx:∀ {H2:Hp},bN PN (gw (a9 cells) h0 H1) H2->∀a,a9 cells a->H2 a=some (jD h0 a):=fun s2 a z=>s2 _ _ (lZ z) (fun e=>nP (e ▸ z));have k1:∀ {H2:Hp} {b:Addr} {o:HO},bN PN (gw (a9 cells) h0 H1) H2->H1 b=some o->v3 o->H2 b=some o:=fun s2 e n=>s2 _ _ (inj _ _ e) (tb.not e n);refine⟨fun m σ H2=>∃ (k:Nat) (wx:Addr) (as:List Addr),m=most-k/\σ=[some (.ref ha),some (.ref wx),some (.int most),some (.ref f'),some (.ref LG)]/\bN PN (gw (a9 cells) h0 H1) H2/\bS PN (mf (a9 cells) H2)/\H2 LG=some (.lst (as.map V.ref))/\Holds H2 as k (fun k=>.tup ((uM n ts homes st k).map oV))/\H2 wx=some (.tup ((jV n ts homes st k).map oV))/\∀j,j<k->j<most/\BK (jV n ts homes st j)=true,⟨_,0,sa,[],rfl,rfl,bN.of s0,?_,af,Holds.nil,s0 _ _ (inj _ _ hS),fun j hj=>absurd hj (sk _)⟩,?_⟩
  .have:=tb.same (v9 (h0:=h0) nS ▸ l_ s0:aK H1 _);exact this
  rintro m σ H2 ⟨k,wx,as,rfl,rfl,s2,t2,Kg,Uo,LY,al⟩;obtain⟨Xa,lk⟩:=SG.run FN k;refine⟨_,rfl,LG,_,rfl,.inl (ba.of Kg),_,rfl,_,_,rfl,rfl,_,rfl,?_⟩;rw[aH,Uo.1];have stop:¬ (k<most/\BK (jV n ts homes st k)=true)->∀H3,aK H2 H3->Q (.ref LG) H3:=fun h H3 s3=>q LG k as H3 ⟨al,h⟩ (t2.same (l_ s3)) (s2.trans (bN.of s3)) (kx (s2.trans (bN.of s3))) L6 (s3 _ _ Kg) (Uo.mono fun j _ e=>s3 _ _ e);refine il (fun e=>?_) (fun e=>⟨_,rfl,stop (fun z=>e (dg (by have:=z.1;lia))) H2 (aK.refl _)⟩);have Z0:k<most:=by have:=c_ e;lia
  refine⟨_,rfl,wx,jV n ts homes st k,rfl,LY,by rw[lk];exact iZ,fun r H3 s3 nr LW=>⟨BK (jV n ts homes st k),.inl ⟨_,ba.of LW,KI⟩,?_⟩⟩;by_cases lv:BK (jV n ts homes st k)=true
  rotate_left
  .rw[Bool.not_eq_true] at lv;rw[lv];exact NY ⟨_,rfl,stop (fun z=>by rw[lv] at z;cases z.2) H3 s3⟩
  rw[lv];refine NX ⟨_,fun σ' H' z=>z,?_⟩;have L7:=s2.trans (bN.of s3);have t3:=t2.same (l_ (S:=a9 cells) s3);have OL:=s3 _ _ Kg;have Z1:Holds H3 as k (fun k=>.tup ((uM n ts homes st k).map oV)):=Uo.mono fun j _ e=>s3 _ _ e;have nk:=kx L7;have su:bN PN H1 (mf (a9 cells) H3):=fun b o e n=>by rw[b8 fun z=>by rw[nS b z] at e;cases e];exact L7 _ _ (inj _ _ e) n
  refine⟨_,rfl,.inl ⟨rfl,_,ba.of OL⟩,f',rfl,⟨cells,c,k1 L7 hf (by intro ps z;cases z)⟩,_,rfl,_,rfl,LG,_,rfl,.inl (ba.of OL),?_⟩;refine⟨cells,c,h0,[.ref a,.ref px,.ref ha],k1 L7 hf (by intro ps z;cases z),k1 L7 hc (by intro ps z;cases z),rfl,rfl,LE.mono (fun a z _=>nk a z),fun i x v h1 h2=>?_,?_⟩
  .match i,h1,h2 with
   |0,h1,h2=>cases h1;cases h2;exact ca
   |1,h1,h2=>cases h1;cases h2;exact cb
   |2,h1,h2=>cases h1;cases h2;exact ch
  obtain⟨L3,N3⟩:=NA.kt tb su;have u1:∀ {b:Addr} {o:HO},H1 b=some o->v3 o->mf (a9 cells) H3 b=some o:=fun e n=>su _ _ e (tb.not e n);refine⟨_,rfl,_,rfl,_,rfl,_,rfl,_,rfl,L3,a,px,ha,wx,_,n,ts,homes,_,rfl,⟨da,u1 hA (by intro ps z;cases z)⟩,N3,u1 hH (by intro ps z;cases z),uA nk (s3 _ _ LY) (by intro p z;cases z),Xa.let (by rw[lk];exact iZ),t3,fun t H4 t4 s4 nt ht n4=>?_⟩;have s5:bN PN H3 (gw (a9 cells) h0 H4):=fun b o e n=>by
   by_cases c:a9 cells b
   .rw[lZ c,<-e,nk b c]
   .rw[bB c];exact s4 b o (by rw[b8 c];exact e) n
  have Xb:gw (a9 cells) h0 H4 t=some (.tup ((uM n ts homes st k).map oV)):=by rw[bB fun z=>by rw[n4 t z] at ht;cases ht];exact ht
  have t5:bS PN (mf (a9 cells) (gw (a9 cells) h0 H4)):=by rw[v9 n4];exact t4
  generalize gw (a9 cells) h0 H4=H5 at *;have k5:∀ {b:Addr} {o:HO},H3 b=some o->v3 o->H5 b=some o:=fun {b o} e n=>by
   by_cases c:a9 cells b
   .exact s5 _ _ e (fun z=>nP (z ▸ c))
   .exact s5 _ _ e (t3.not (b:=b) (by rw[b8 c];exact e) n)
  have Up:=k5 OL (by intro ps z;cases z);have Xc:Holds H5 as k (fun k=>.tup ((uM n ts homes st k).map oV)):=Z1.mono fun j _ e=>k5 e (by intro ps z;cases z);have Z2:=L7.trans s5;refine⟨LG,_,_,rfl,rfl,Up,by rw[aH,Xc.1];exact cC (show k<501 by lia) (by decide),?_⟩;have Ql:∀ {b xs},H5 b=some (.tup xs)->b≠LG:=fun {b xs} e=>by rintro rfl;rw[Up] at e;cases e
  have kp:∀ {b xs o},H5 b=some (.tup xs)->(upd H5 LG o) b=some (.tup xs):=fun {b xs o} e=>by rw[am (Ql e)];exact e
  have EO:Holds (upd H5 LG (.lst (as.map V.ref++[.ref t]))) (as++[t]) (k+1) (fun k=>.tup ((uM n ts homes st k).map oV)):=(Xc.mono fun j _ e=>kp e).snoc (kp Xb);have Xd:bN PN (gw (a9 cells) h0 H1) (upd H5 LG (.lst (as.map V.ref++[.ref t]))):=fun b o e n=>by rw[am (ap e L6)];exact Z2 b o e n
  have t6:bS PN (mf (a9 cells) (upd H5 LG (.lst (as.map V.ref++[.ref t])))):=by
   have hu:mf (a9 cells) H5 LG=some (.lst (as.map V.ref)):=by rw[b8 W_];exact Up
   have:=bR.putL t5 hu (u:=.lst (as.map V.ref++[.ref t]));have e:mf (a9 cells) (upd H5 LG (.lst (as.map V.ref++[.ref t])))=upd (mf (a9 cells) H5) LG (.lst (as.map V.ref++[.ref t])):=funext fun b=>by
    by_cases c:a9 cells b
    .rw[hU c,am (by rintro rfl;exact W_ c),hU c]
    .rw[b8 c];by_cases d:b=LG
     .subst d;rw[af,af]
     .rw[am d,am d,b8 c]
   rw[e];exact this
  have Z3:=kp (o:=.lst (as.map V.ref++[.ref t])) Xb;have Xe:(upd H5 LG (.lst (as.map V.ref++[.ref t]))) LG=some (.lst ((as++[t]).map V.ref)):=by rw[af,cn];rfl
  generalize upd H5 LG _=H6 at *;have hl:(uM n ts homes st k).length=st.length:=by rw[(nI Xa).len,lk]
  refine⟨_,rfl,_,rfl,_,rfl,LG,_,_,_,rfl,rfl,ba.of Xe,by rw[cn];exact Cn _ _,ha,t,homes,_,rfl,k1 Xd hH (by intro ps z;cases z),Z3,by rw[hl];exact SG.len,by rw[hl];exact iZ,fun t' H7 s7 Dm=>?_⟩;refine⟨most-(k+1),by lia,k+1,t',as++[t],rfl,rfl,Xd.trans (bN.of s7),t6.same (l_ s7),s7 _ _ Xe,EO.mono fun j _ e=>s7 _ _ e,Dm,fun j hj=>?_⟩;rcases Nat.lt_succ_iff_lt_or_eq.mp hj with z|z
  .exact al j z
  .rw[z];exact⟨Z0,lv⟩
theorem OM:aG ["self","homes"] ["self","homes"] (au KG):=⟨rfl,rfl,rfl,by decide +kernel,rfl,by decide +kernel,by decide +kernel⟩
def D7:Sp:=fun vs H Q _=>∃x y:V,vs=[x,y]/\Q .bD H
theorem KL{f:Addr}{fd:FuncData}(F:fW K "check_letters" "Rule.check_letters" KG f fd):bq P w K mg base aW 1 f fd ["self","homes"] D7:=by
 refine F.ok OM (fun vs H Q E h=>?_) (fun dR A outer s H vs Q E hr h=>?_)
 .obtain⟨x,y,rfl,_⟩:=h;rfl
 .obtain⟨x,y,rfl,q⟩:=h;exact⟨_,aq EW,q⟩
theorem ON:aG ["rule","net","homes","stand","most"] ["rule","net","homes","stand","most"] (au GK):=⟨rfl,rfl,rfl,by decide +kernel,rfl,by decide +kernel,by decide +kernel⟩
def D8(C CN PN Pr:Addr):Sp:=fun vs H Q _=>∃ (L:Addr->Prop) (a px ha sa:Addr) (n:Nat) (ts:Ts) (homes:List Nat) (st:List (Option Nat)) (most:Nat),vs=[.ref a,.ref px,.ref ha,.ref sa,.int most]/\(∃d,H a=some (.ins CN d []))/\bK C H L px n ts/\H ha=some (.tup (NV homes))/\H sa=some (.tup (st.map oV))/\eI n ts homes st/\st.length<=16/\most<=500/\bS PN H/\uy Pr H/\
 ∀ (r:Addr) (N:Nat) (as:List Addr) (H':Hp),Ul homes (GC n ts homes) st most N->bS PN H'->uy Pr H'->(∀b o,H b=some o->b≠PN->b≠Pr->H' b=some o)->H' r=some (.lst (as.map V.ref))->Holds H' as N (fun k=>.tup ((uM n ts homes st k).map oV))->Q (.ref r) H'
theorem KM{f c C CN CI PN Pr:Addr}{fd:FuncData}(F:qK K "run" "run" GK f fd c)(kb:K.In base)(hb:pS mg base)(hc:PySem.W.codeHdIn K c Pr=true)(Xf:PN≠Pr)(R:OF P w K mg base C CN CI PN)(CK:jX P w K mg base aW 1 CN "check_letters" ["self","homes"] D7)(LB:cB P w K mg base aW 12 "log_by" ["homes","stand","most","handed"] (D6 C CN PN)):bq P w K mg base aW 13 f fd ["rule","net","homes","stand","most"] (D8 C CN PN Pr):=by
 obtain⟨f2,d2,m2,b2,G2⟩:=CK.ex;refine F.ok ON (fun vs H Q E h=>?_) (fun A outer s H vs Q E hr h=>?_)
 .obtain⟨L,a,px,ha,sa,n,ts,homes,st,most,rfl,_⟩:=h;rfl
 .obtain⟨L,a,px,ha,sa,n,ts,homes,st,most,rfl,⟨da,hA⟩,NA,hH,hS,SG,iZ,OK,tn,tb,q⟩:=h;have h1:bA 1 _:=hr.mono (by decide);refine⟨_,ah (cu (fm (pv 0) R.n.cl m2 G2 h1 b2 .nil aJ (aa (pv 2) ag))) (aq (aP (FX LB hr rfl rfl (aa (pv 2) (aa (pv 3) (aa (pv 4) (aa (xW (NB:=["here","beat","rule","net","homes"]) (src:=[none,none,some 0,some 1,some 2]) (tH kb hb hc) (bU (by kernel_rfl))) ag))))))),?_⟩;refine⟨_,rfl,a,da,[],rfl,hA,rfl,_,rfl,_,_,rfl,?_⟩;refine⟨_,rfl,_,rfl,_,rfl,tb,fun f' c' H2 Tj gv Aj xR nS h0 LE cv=>?_⟩;have t2:uy Pr H2:=Tj;have kn:∀b o,H b=some o->v3 o->H2 b=some o:=fun b o e n=>gv _ _ e (tb.not e n);have Xg:bS PN H2:=bR.rE tn gv tb.j8 Xf;obtain⟨L2,N2⟩:=NA.kt tb gv;refine⟨L2,a,px,ha,sa,f',c',n,ts,homes,st,most,_,h0,H2,rfl,rfl,nS,LE,cv 0 "rule" _ rfl rfl rfl,cv 1 "net" _ rfl rfl rfl,cv 2 "homes" _ rfl rfl rfl,⟨da,kn _ _ hA (by intro ps z;cases z)⟩,N2,kn _ _ hH (by intro ps z;cases z),kn _ _ hS (by intro ps z;cases z),SG,iZ,OK,Xg,xR,Aj,fun r N as H' RN Z4 s' nk nr y3 qA=>?_⟩;have su:bN PN H2 (mf (a9 _) H'):=fun b o e n=>by
   have c:¬ a9 _ b:=fun z=>by rw[nS b z] at e;cases e
   rw[b8 c];exact s' b o (by rw[bB c];exact e) n
  refine⟨nk,q r N as _ RN Z4 (bR.rE t2 su Xg.j8 (dN Xf)) (fun b o e n1 n2=>su _ _ (gv b o e n2) n1) (uA nk y3 (by intro p z;cases z)) (qA.mono fun j _ e=>uA nk e (by intro p z;cases z))⟩
end
end tY
namespace L2
open PySem PySem.Spec PyProof.Rows
def zZ:List Nat->TA
 |[]=>kU
 |n::ns=>cA (tC (.int (n:Nat))) (zZ ns)
def D9:List (List Nat)->TA
 |[]=>kU
 |c::cs=>cA (I0 (zZ c)) (D9 cs)
def Uq:Expr->Option Nat
 |.Constant (.int (.ofNat n)) _ _=>some n
 |_=>none
def GR:List Expr->Option (List Nat)
 |[]=>some []
 |e::es=>(Uq e).bind fun n=>(GR es).map (n::·)
def GS:List Expr->Option (List (List Nat))
 |[]=>some []
 |.Tuple es _ _::r=>(GR es).bind fun c=>(GS r).map (c::·)
 |_=>none
theorem KN{e:Expr}{n:Nat}(h:Uq e=some n):∃j pos,e=.Constant (.int (n:Nat)) j pos:=by
 unfold Uq at h;split at h
 .cases h;exact⟨_,_,rfl⟩
 .cases h
theorem z6{X:Cx}:∀ {es:List Expr} {ns:List Nat},GR es=some ns->PA X es (zZ ns)
 |[],ns,h=>by cases h;exact ag
 |e::es,ns,h=>by
  unfold GR at h;obtain⟨n,h1,h2⟩:=Option.bind_eq_some_iff.mp h;obtain⟨ms,h3,rfl⟩:=wF.mp h2;obtain⟨j,pos,rfl⟩:=KN h1;exact aa aB (z6 h3)
theorem z7{X:Cx}:∀ {es:List Expr} {cs:List (List Nat)},GS es=some cs->PA X es (D9 cs)
 |[],cs,h=>by cases h;exact ag
 |e::r,cs,h=>by
  unfold GS at h;split at h
  .cases h;contradiction
  .rename_i es _ _ r' e';cases e';obtain⟨n,h1,h2⟩:=Option.bind_eq_some_iff.mp h;obtain⟨ms,h3,rfl⟩:=wF.mp h2;exact aa (iH (z6 h1)) (z7 h3)
  .cases h
end L2
namespace tY
open PySem L2 iN
abbrev KO:Stmt:=top 18
abbrev qm:Stmt:=top 54
abbrev Ur:Stmt:=top 55
abbrev Us:Stmt:=top 56
theorem gC:(["letter","net","stand","homes"]:List Str).Nodup:=by decide +kernel
theorem jJ:(["farther","far"]:List Str).Nodup:=by decide +kernel
structure n0(H:Hp)(ha sa:Addr)(n:Nat)(homes:List Nat)(st:List (Option Nat)):Prop where
 h:H ha=some (.tup (NV homes))
 s:H sa=some (.tup (st.map oV))
 ok:nZ n homes st
theorem n0.le{H:Hp}{ha sa:Addr}{n:Nat}{homes:List Nat}{st:List (Option Nat)}(l:n0 H ha sa n homes st):st.length<=16:=l.ok.le
theorem n0.same{H H':Hp}{ha sa:Addr}{n:Nat}{homes:List Nat}{st:List (Option Nat)}(l:n0 H ha sa n homes st)(s:aK H H'):n0 H' ha sa n homes st:=⟨s _ _ l.h,s _ _ l.s,l.ok⟩
theorem n0.mem{H:Hp}{ha sa:Addr}{n:Nat}{homes:List Nat}{st:List (Option Nat)}(l:n0 H ha sa n homes st){j:Nat}(h:j∈fE st st.length):(st.getD j none).getD 0<n/\homes.getD j 0<n/\True:=by
 obtain⟨a,y,ey,hy,hh⟩:=l.ok.at h;rw[ey];exact⟨hy,hh,trivial⟩
theorem uB{β:Type}{K:PySem.W.Frag}{a D:Addr}{g:TG}{tt:TT}{te:TE}{dU:Hp->Prop}{σB:St}{H0:Hp}(ms:List β)(e G:β->V)(c:β->Bool)(fR:St->Prop)(ha:H0 a=some (.lst (ms.map e)))(hD:H0 D=none)(hn:ms.length<=1000)(h0:fR σB)(hs:∀m σ H (Kt:V->St->Hp->Prop) (Kf:St->Hp->Prop),m∈ms->fR σ->aK H0 H->(∀σ2 H2,fR σ2->aK H H2->c m=true->Kt (G m) σ2 H2)->(∀σ2 H2,fR σ2->aK H H2->c m=false->Kf σ2 H2)->
   g (e m) σ H fun σ2 H2=>tt σ2 H2 fun b H3=>if b=true then te σ2 H3 fun v H4=>Kt v σ2 H4 else Kf σ2 H3)(hd:∀H,aK H0 H->H D=some (.lst ((ms.filter c).map G))->dU H):im (EY K a) g tt te D dU σB (upd H0 D (.lst [])):=by
 refine fg (xs:=ms.map e) (fun i ys σ H=>fR σ/\aK H0 H/\H D=some (.lst ys)/\ys=((ms.take i).filter c).map G) ⟨h0,ai hD,af,rfl⟩ (fun i ys σ H _ z=>ba.of (z.2.1 _ _ ha)) ?_ ?_
 .rintro i x ys σ H Kt Kf hx ⟨sh,sm,ww,rfl⟩ kt kf;rw[bi] at hx;cases hz:ms[i]? with
  |none=>rw[hz] at hx;cases hx
  |some m=>
   rw[hz] at hx;obtain rfl:e m=x:=a_ hx;have tk:ms.take (i+1)=ms.take i++[m]:=by rw[gI,hz];rfl
   refine hs m σ H Kt Kf (du hz) sh sm (fun σ2 H2 F5 s2 e=>?_) (fun σ2 H2 F5 s2 e=>?_)
   .refine kt _ _ _ (s2 _ _ ww) ?_ ⟨F5,bH (sm.trans s2) hD,af,?_⟩
    .rw[aH];exact eA (i8 _ _) (eA (wP _ _) (eA hn (by decide)))
    .rw[tk,iQ,cn];simp[eJ,e]
   .refine kf _ _ ⟨F5,sm.trans s2,s2 _ _ ww,?_⟩;rw[tk,iQ];simp[eJ,e]
 .rintro ys σ H ⟨_,sm,ww,rfl⟩;rw[aH,iR] at ww;exact hd H sm ww
theorem v_{α β:Type}{f:α->β}{l m:List β}(p:l.Perm m):∀ {zs:List α},m=zs.map f->∃vI:List α,l=vI.map f/\vI.Perm zs:=by
 induction p with
 |nil=>intro zs e;exact⟨[],rfl,by rw[List.map_eq_nil_iff.mp e.symm]⟩
 |cons x _ ih=>
  intro zs e;cases zs with
  |nil=>cases e
  |cons z zt=>
   obtain⟨rfl,e2⟩:=mB e;obtain⟨vI,rfl,p⟩:=ih e2;exact⟨z::vI,rfl,p.cons z⟩
 |swap x y l=>
  intro zs e
  match zs,e with
  |a::b::zt,e=>
   obtain⟨rfl,e2⟩:=mB e;obtain⟨rfl,e3⟩:=mB e2;exact⟨b::a::zt,by rw[e3];rfl,List.Perm.swap a b zt⟩
 |trans _ _ Z5 Tc=>
  intro zs e;obtain⟨z1,e1,p1⟩:=Tc e;obtain⟨z2,e2,p2⟩:=Z5 e1;exact⟨z2,e2,p2.trans p1⟩
theorem D_:∀ {ns:List Nat} {σ:St} {H:Hp} {Q:List V->Hp->Prop},Q (NV ns) H->zZ ns σ H Q
 |[],σ,H,Q,h=>h
 |n::ns,σ,H,Q,h=>D_ (ns:=ns) (Q:=fun xs H2=>Q (.int (n:Nat)::xs) H2) h
theorem Ea:∀ {cs:List (List Nat)} {σ:St} {H:Hp} {Q:List V->Hp->Prop},(∀c∈cs,c.length<=5)->(∀ (as:List Addr) (H':Hp),aK H H'->as.length=cs.length->(∀i,i<cs.length->H' (as.getD i 0)=some (.tup (NV (cs.getD i []))))->Q (as.map V.ref) H')->D9 cs σ H Q
 |[],σ,H,Q,_,h=>h [] H (aK.refl _) rfl fun i hi=>nomatch hi
 |c::cs,σ,H,Q,hc,h=>by
  refine D_ (ns:=c) ⟨?_,fun t ht=>?_⟩
  .rw[bh];exact aX (hc c cD) (by decide)
  refine Ea (cs:=cs) (fun c Aj=>hc c (bP _ Aj)) fun as H' s l e=>?_;refine h (t::as) H' ((ai ht).trans s) (congrArg (·+1) l) fun i hi=>?_;cases i with
  |zero=>exact s _ _ af
  |succ i=>exact e i (Nat.lt_of_succ_lt_succ hi)
theorem bJ.put{p a:Addr}{H H':Hp}{o:HO}(s:bJ p H H')(e:H a=none):bJ p H (upd H' a o):=fun b o' h n=>by
 rw[am (ap h e)];exact s b o' h n
section
variable {P:Program} {w:World} {K:PySem.W.Frag} {mg:Str->Option Value} {base:Heap}
theorem Iv:aG ["net","homes","stand","distances"] ["net","homes","stand"] (au KO):=⟨rfl,rfl,rfl,by decide +kernel,rfl,by decide +kernel,by decide +kernel⟩
def wa(C:Addr):Sp:=fun vs H Q _=>∃ (L:Addr->Prop) (px:Addr) (n:Nat) (ts:Ts) (ha sa:Addr) (homes:List Nat) (st:List (Option Nat)),vs=[.ref px,.ref ha,.ref sa]/\bK C H L px n ts/\n0 H ha sa n homes st/\∀M H',aK H H'->ll (dZ ts homes st st.length) M->Q (.int M) H'
theorem KP{f C:Addr}{fd:FuncData}(F:fW K "measure" "measure" KO f fd)(B:Bl mg)(B2:Il mg)(T:NT K mg C)(UW:cB P w K mg base aW 1 "under_way" ["stand"] DS)(MF:jX P w K mg base aW 5 C "far" ["self","one","other"] (lh C)):bq P w K mg base aW 6 f fd ["net","homes","stand"] (wa C):=by
 obtain⟨fF,ZQ,mF,bF,GF⟩:=MF.ex;refine F.ok Iv (fun vs H Q E h=>?_) (fun dR A outer s H vs Q E hr h=>?_)
 .obtain⟨L,px,n,ts,ha,sa,homes,st,rfl,_⟩:=h;rfl
 .obtain⟨L,px,n,ts,ha,sa,homes,st,rfl,N,LA,q⟩:=h;have h1:bA 1 _:=hr.mono (by decide);refine'⟨_,(ah (d8 (i:=3) (g:=(bQ 0)) (te:=Cg C "far" (lh C) [] E0 (bj 1) (cA (mW (u7 K) (bj 2) (bj 0)) (cA (mW (u7 K) (bj 3) (bj 0)) kU))) (NB:=["letter","net","stand","homes"]) (src:=[none,some 0,some 2,some 1]) (bU (by kernel_rfl)) rfl (cw (aF UW h1 aJ (aa (pv 2) ag))) ?g1 ?t1 ?e1 Iv.nd rfl rfl rfl)
   (aq (aP (iq (Bk rfl) rfl B.max oW (aa ?c2 ag) (lL aB pL))))),?_⟩
  case g1=>exact fun cl C' s₃ H₃ fp=>(av (i:=0) gC rfl (Or.inl rfl) (Or.inr rfl))
  case t1=>exact fun cl C' s₃ H₃ fp=>dq
  case e1=>exact fun cl C' s₃ H₃ fp=>(fm (pv 1) T.cl mF GF hr bF .nil aJ (aa (bZ fH (pv 2) (pv 0) (fun _ _=>rfl)) (aa (bZ fH (pv 3) (pv 0) (fun _ _=>rfl)) ag)))
  case c2=>
   refine' cT (g:=(pH K 2 (dW (bQ 0) (dW (bQ 1) pG)))) (te:=(mW (By fun i j=>.int (i+j)) (bj 1) (mW (rI Ao fun i j=>.int (i*j)) (tC (.int 2)) (bj 0)))) (NB:=["farther","far"]) (src:=[none,none]) (bU (by kernel_rfl)) rfl (tI rfl B2.enum (aa (iq qg rfl B.sorted oU (aa (pv 3) ag) (lL ii pL)) ag)) ?g ?t ?e;case g=>exact fun cl C' s₃ H₃ fp=>(dO (n:=2) rfl (aN (av (i:=0) jJ rfl (Or.inl rfl) (Or.inr rfl)) (aN (av (i:=1) jJ rfl (Or.inl rfl) (Or.inr rfl)) cL)))
   case t=>exact fun cl C' s₃ H₃ fp=>dq
   case e=>exact fun cl C' s₃ H₃ fp=>(a8 g8 (pv 1) (a8 ff aB (pv 0)))
  refine⟨_,rfl,sa,st,rfl,LA.s,LA.le,fun r H1 s1 _ Bd=>⟨_,rfl,⟨_,ba.of Bd⟩,fun D hD=>?_⟩⟩;have ul:(fE st st.length).length<=16:=aX jU LA.le;refine uB (fE st st.length) (fun (x:Nat)=>V.int (x:Int)) (fun j=>V.int ((far ts ((st.getD j none).getD 0) (homes.getD j 0):Nat):Int)) (fun _=>true) (fun σ=>∃a,σ=[a,some (.ref px),some (.ref sa),some (.ref ha)]) Bd hD (by lia) ⟨_,rfl⟩ ?_ ?_
  .rintro j σ H3 Kt Kf hj ⟨a,rfl⟩ sm kt kf;have N3:=N.same (s1.trans sm);have L3:=LA.same (s1.trans sm);obtain⟨dx,tl,ol,ds,e1,_⟩:=N3.ob;obtain⟨m1,m2,m3⟩:=L3.mem hj;obtain⟨Xh,Z6⟩:=gT hj;have gs:(st.map oV)[j]?=some (.int (((st.getD j none).getD 0:Nat):Int)):=by
    rw[bi,gR (d:=none) Xh,Z6];rfl
   have gh:(NV homes)[j]?=some (.int ((homes.getD j 0:Nat):Int)):=kq (by rw[LA.ok.len];exact Xh);exact⟨_,rfl,px,dx,_,rfl,e1,JY _ _ _ _,_,rfl,_,rfl,sa,_,_,_,rfl,rfl,bW.of L3.s,aU gs,_,rfl,_,rfl,ha,_,_,_,rfl,rfl,bW.of L3.h,aU gh,L,px,n,ts,_,_,rfl,N3,m1,m2,kt _ _ ⟨_,rfl⟩ (aK.refl _) rfl⟩
  .intro H3 s3 l4;rw[rV.mpr fun _ _=>rfl] at l4;have l4:H3 D=some (.lst (((dZ ts homes st st.length).map fun (d:Nat)=>(d:Int)).map V.int)):=by rw[l4];unfold dZ;rw[dh,dh];rfl
   have dl:(dZ ts homes st st.length).length<=16:=aX qj LA.le;generalize dZ ts homes st st.length=ds at *;refine⟨_,rfl,D,_,true,rfl,rfl,ba.of l4,by rw[aH];lia,fun S ns hS pm so=>?_⟩;obtain⟨es,rfl,OO⟩:=v_ pm (f:=fun (d:Nat)=>(d:Int)) rfl;have Ut:es.Pairwise (·>=·):=(i_.mp so).imp fun {a b} h=>by have:(b:Int)<=(a:Int):=h;lia
   have el:es.length<=16:=by rw[OO.length_eq];exact dl
   have sS:=ai (o:=.lst ((es.map fun (d:Nat)=>(d:Int)).map V.int)) hS;have BL:(upd H3 S (.lst ((es.map fun (d:Nat)=>(d:Int)).map V.int))) S=some (.lst (NV es)):=by rw[af,dh];rfl
   have s4:=(s1.trans s3).trans sS;generalize upd H3 S _=H4 at *;refine⟨S,_,rfl,BL,fun D2 nF=>?_⟩;refine re (K:=K) (a:=S) (xs:=NV es) (fun i ys σ H5=>(∃u v,σ=[u,v])/\ys=((List.range i).map fun j=>((es.getD j 0+2*j:Nat):Int)).map V.int/\aK H4 H5/\H5 D2=some (.lst ys)) ⟨⟨_,_,rfl⟩,rfl,ai nF,af⟩ (fun i ys σ H5 _ z=>ba.of (z.2.2.1 _ _ BL)) ?_ ?_
   .rintro i x t ys σ H5 Kt Kf hx ⟨⟨u,v,rfl⟩,rfl,sm,uN⟩ ht kt kf;have hi:i<es.length:=by have:=(dS.mp hx).1;rwa [bh] at this
    obtain rfl:x=.int ((es.getD i 0:Nat):Int):=by rw[kq hi] at hx;exact(a_ hx).symm
    have aw:=ai (o:=.tup [.int (i:Int),.int ((es.getD i 0:Nat):Int)]) ht;refine⟨_,_,rfl,bW.of af,rfl,_,_,rfl,_,_,rfl,rfl,?_⟩;refine⟨_,rfl,_,rfl,_,_,rfl,rfl,.inl ⟨by decide,by decide⟩,_,_,rfl,rfl,kt _ _ _ (aw _ _ uN) (by rw[aH,aH,fK];exact cC (show i<17 by lia) (by decide)) ⟨⟨_,_,rfl⟩,?_,bH (sm.trans aw) nF,af⟩⟩;rw[iS,cn,cn];rfl
   .rintro ys σ H5 ⟨_,rfl,sm,uN⟩;rw[bh] at uN;refine⟨D2,_,0,rfl,rfl,ba.of uN,fun M hM=>q M H5 (s4.trans sm) ⟨es,OO,Ut,?_⟩⟩;rcases hM with ⟨z,e⟩|⟨hm,ha⟩
    .refine .inl ⟨?_,e⟩;have:=congrArg List.length z;rw[aH,fK] at this;exact List.length_eq_zero_iff.mp this
    .obtain⟨i,hi,e⟩:=bo.mp hm;exact .inr ⟨⟨i,bu.mp hi,e.symm⟩,fun i hi=>ha _ (bo.mpr ⟨i,bu.mpr hi,rfl⟩)⟩
theorem GT:aG ["_law_figures","_law_base","_law_many_here","_law_k"] ["_law_figures","_law_base"] (au Ur):=⟨rfl,rfl,rfl,by decide +kernel,rfl,by decide +kernel,by decide +kernel⟩
def KQ:Sp:=fun vs H Q _=>∃f b:Nat,vs=[.int f,.int b]/\f<=5/\b<=5/\Q (.int ((b ^ f:Nat):Int)) H
theorem OP{f:Addr}{fd:FuncData}(F:fW K "_law_many" "_law_many" Ur f fd)(B:Bl mg):bq P w K mg base aW 1 f fd ["_law_figures","_law_base"] KQ:=by
 refine F.ok GT (fun vs H Q E h=>?_) (fun dR A outer s H vs Q E hr h=>?_)
 .obtain⟨f,b,rfl,_⟩:=h;rfl
 .obtain⟨f,b,rfl,f5,b5,q⟩:=h;refine⟨_,(ah (aY (i:=2) GT.nd rfl (Or.inl rfl) aB)
   (ah (dA eK rfl (cP rfl B.range (aa (pv 0) ag)) (av (i:=3) GT.nd rfl (Or.inl rfl))
    (aq (aY (i:=2) GT.nd rfl (Or.inl rfl) (a8 ff (pv 2) (pv 1)))))
   (aq (aP (pv 2))))),?_⟩
  refine⟨_,rfl,_,rfl,by lia,by lia,?_⟩;rw[lA];refine eF (lo:=0) (n:=f) (fun i σ H2=>H=H2/\∃x,σ=[some (.int f),some (.int b),some (.int ((b ^ i:Nat):Int)),x]) ⟨rfl,_,rfl⟩ ?_ ?_
  .rintro i σ _ hi ⟨rfl,y,rfl⟩;refine⟨_,rfl,_,rfl,_,_,rfl,rfl,.inr ⟨by lia,by lia⟩,rfl,some (.int (0+i)),?_⟩;rw[mH,xj];rfl
  .rintro σ _ ⟨rfl,x,rfl⟩;exact⟨_,rfl,q⟩
theorem Eb:aG ["_law_figures","_law_base","_law_one","_law_other","_law_found","_law_k"] ["_law_figures","_law_base","_law_one","_law_other"] (au Us):=⟨rfl,rfl,rfl,by decide +kernel,rfl,by decide +kernel,by decide +kernel⟩
def Ec:Sp:=fun vs H Q _=>∃f b x y:Nat,vs=[.int f,.int b,.int x,.int y]/\f<=5/\2<=b/\b<=5/\Q (.int ((hm b f x y:Nat):Int)) H
theorem OQ{f:Addr}{fd:FuncData}(F:fW K "_law_far" "_law_far" Us f fd)(B:Bl mg):bq P w K mg base aW 1 f fd ["_law_figures","_law_base","_law_one","_law_other"] Ec:=by
 refine F.ok Eb (fun vs H Q E h=>?_) (fun dR A outer s H vs Q E hr h=>?_)
 .obtain⟨f,b,x,y,rfl,_⟩:=h;rfl
 .obtain⟨f,b,x,y,rfl,f5,b2,b5,q⟩:=h;refine⟨_,(ah (aY (i:=4) Eb.nd rfl (Or.inl rfl) aB)
   (ah (dA eK rfl (cP rfl B.range (aa (pv 0) ag)) (av (i:=5) Eb.nd rfl (Or.inl rfl))
    (ah (aY (i:=4) Eb.nd rfl (Or.inl rfl) (a8 g8 (pv 4) (dH qT (by rfl) B.int wJ (aa (gK nQ (a8 gg (pv 2) (pv 1)) (a8 gg (pv 3) (pv 1)) (aT _)) ag))))
    (aq (IQ (i:=2) (j:=3) rfl Eb.nd rfl rfl (by decide) rfl rfl (aa (a8 lJ (pv 2) (pv 1)) (aa (a8 lJ (pv 3) (pv 1)) ag)) (by rfl)))))
   (aq (aP (pv 4))))),?_⟩
  refine⟨_,rfl,_,rfl,by lia,by lia,?_⟩;rw[lA];refine eF (lo:=0) (n:=f) (fun i σ H2=>H=H2/\∃z,σ=[some (.int f),some (.int b),some (.int ((x / b ^ i:Nat):Int)),some (.int ((y / b ^ i:Nat):Int)),some (.int ((hm b i x y:Nat):Int)),z]) ⟨rfl,none,by rw[Nat.pow_zero,Nat.div_one,Nat.div_one];rfl⟩ ?_ ?_
  .rintro i σ _ hi ⟨rfl,z,rfl⟩;refine⟨_,rfl,_,rfl,_,rfl,_,_,rfl,rfl,by lia,_,rfl,_,rfl,_,_,rfl,rfl,by lia,rfl,.inr ⟨_,rfl,_,_,rfl,rfl,?_⟩⟩;refine⟨_,rfl,_,rfl,_,_,rfl,rfl,⟨by lia,by lia⟩,_,rfl,_,rfl,_,_,rfl,rfl,⟨by lia,by lia⟩,_,_,rfl,rfl,some (.int (0+i)),?_⟩;have e1:((x / b ^ (i+1):Nat):Int)=((x / b ^ i:Nat):Int) / (b:Int):=by rw[mH,<-wG];rfl
   have e2:((y / b ^ (i+1):Nat):Int)=((y / b ^ i:Nat):Int) / (b:Int):=by rw[mH,<-wG];rfl
   rw[e1,e2];have e3:((hm b (i+1) x y:Nat):Int)=((hm b i x y:Nat):Int)+(if (!decide (V.int (((x / b ^ i:Nat):Int) % (b:Int))=V.int (((y / b ^ i:Nat):Int) % (b:Int))))=true then 1 else 0):=by
    show ((hm b i x y+b1 (!Nat.beq (x / b ^ i % b) (y / b ^ i % b)):Nat):Int)=_;rw[Int.natCast_add];congr 1;have em:∀u:Nat,((u:Nat):Int) % (b:Int)=((u % b:Nat):Int):=fun u=>rfl;rw[em,em];by_cases c:x / b ^ i % b=y / b ^ i % b
    .rw[c,pz,dg rfl];rfl
    .have d:Nat.beq (x / b ^ i % b) (y / b ^ i % b)=false:=by
      cases z:Nat.beq (x / b ^ i % b) (y / b ^ i % b) with
      |false=>rfl
      |true=>exact absurd (j6 z) c
     rw[d,eD (fun z=>c (by injection z with z;exact gW z))];rfl
   rw[e3];rfl
  .rintro σ _ ⟨rfl,z,rfl⟩;exact⟨_,rfl,q⟩
theorem z8:aG ["_law_pot_here","_law_some"] ["_law_pot_here"] (au qm):=⟨rfl,rfl,rfl,by decide +kernel,rfl,by decide +kernel,by decide +kernel⟩
abbrev eX:List (List Nat):=[[1,2],[2,2],[3,2],[4,2],[5,2],[1,3],[2,3],[3,3],[1,4],[2,4],[1,5],[2,5]]
theorem yF:∃es q1 q2 q3 cs,bC qm=[.Assign [.Name "_law_some" q1] (.List es q2) q3,(bC qm).getD 1 (.Pass ⟨0,0,0,0⟩)]/\GS es=some cs/\cs=eX:=⟨_,_,_,_,eX,rfl,by decide +kernel,rfl⟩
def uC:Sp:=fun vs H Q _=>∃p:Addr,vs=[.ref p]/\cR H p/\∀ (r:Addr) (f b:Nat) (H':Hp),bJ p H H'->cR H' p->H' r=some (.tup (NV [f,b]))->1<=f/\f<=5/\2<=b/\b<=5/\b ^ f<=32->Q (.ref r) H'
theorem Ed{f:Addr}{fd:FuncData}(F:fW K "_law_shape" "_law_shape" qm f fd)(D:cB P w K mg base aW 1 "_law_draw" ["_law_pot_here","_law_many_here"] Gp):bq P w K mg base aW 2 f fd ["_law_pot_here"] uC:=by
 refine F.ok z8 (fun vs H Q E h=>?_) (fun dR A outer s H vs Q E hr h=>?_)
 .obtain⟨p,rfl,_⟩:=h;rfl
 .obtain⟨p,rfl,hp,q⟩:=h;obtain⟨es,q1,q2,q3,cs,eb,R1,ec⟩:=yF;rw[eb];refine⟨_,(ah (aY (i:=1) z8.nd rfl (Or.inl rfl) (dP (z7 R1))) (aq (aP (bZ bL (pv 1) (aF D hr aJ (aa (pv 0) (aa aB ag))) (fun _ _=>rfl))))),?_⟩;refine Ea (cs:=cs) (by rw[ec];decide) fun as H4 s4 la ea=>⟨?_,fun S hS=>?_⟩
  .rw[aH,la,ec];show 12<=sizeLine;decide
  have sS:=ai (o:=.lst (as.map V.ref)) hS;have L8:=hp.same s4;refine⟨_,rfl,_,rfl,p,12,rfl,by decide,by decide,L8.same sS,fun d H5 hd s5 Uu=>?_⟩;have Z7:as[d]?=some (as.getD d 0):=by rw[b9,bT (by rw[la,ec];exact hd)];rfl
  have ga:=ea d (by rw[ec];exact hd);have Xi:=s5 _ _ (sS _ _ ga) (L8.neT ga);have sd:∀d,d<12->eX.getD d []=[(eX.getD d []).getD 0 0,(eX.getD d []).getD 1 0]/\1<=(eX.getD d []).getD 0 0/\(eX.getD d []).getD 0 0<=5/\2<=(eX.getD d []).getD 1 0/\(eX.getD d []).getD 1 0<=5/\(eX.getD d []).getD 1 0 ^ (eX.getD d []).getD 0 0<=32:=by decide
  obtain⟨e,r⟩:=sd d hd;rw[ec,e] at Xi;exact⟨S,_,_,_,rfl,rfl,ba.of (s5 _ _ af (L8.ne hS)),aU (by rw[bi,Z7];rfl),q _ _ _ H5 ((bJ.of (s4.trans sS)).trans s5) Uu Xi r⟩
end
abbrev KR:Stmt:=top 57
theorem hV:(["_law_other","_law_home","_law_stand","_law_room"]:List Str).Nodup:=by decide +kernel
theorem Bn{e:V->V->Bool}:∀ {xs:List V},fQ e xs []=decide (xs=[])
 |[]=>rfl
 |x::xs=>by simp[fQ]
theorem Ee{xs:List Nat}:(NV xs).all cQ=true:=by
 unfold NV;rw[List.all_map];exact fu.mpr fun o _=>rfl
theorem GU{x:Nat}{xs:List Nat}:Bz (.int (x:Int)) (NV xs)=decide (x∈xs):=by
 unfold Bz NV;rw[iA];simp[jt];exact⟨fun ⟨y,hy,e⟩=>by rwa [show x=y by lia],fun h=>⟨x,h,rfl⟩⟩
theorem Bo:(List.range 6).all (fun f=>(List.range 6).all fun b=>Nat.blt f 1||(Nat.blt b 2||(Nat.blt 32 (b ^ f)||(List.range (b ^ f)).all fun h=>Nat.beq (Dg h (jC f b)) (f*(b-1)))))=true:=by decide +kernel
theorem Wd.room{f b y:Nat}(W:Wd f b)(h:y<b ^ f):(cf (b ^ f) (wT f b) y).length=f*(b-1):=by
 rw[vX W.gm h];have k:=fu.mp (fu.mp Bo f (bu.mpr (by have:=W.f5;lia))) b (bu.mpr (by have:=W.b5;lia));have z1:Nat.blt f 1=false:=by rw[ix];intro z;have:=eh z;have:=W.f1;lia
 have z2:Nat.blt b 2=false:=by rw[ix];intro z;have:=eh z;have:=W.b2;lia
 have z3:Nat.blt 32 (b ^ f)=false:=by rw[ix];intro z;have:=eh z;have:=W.m;lia
 rw[z1,z2,z3,mE,mE,mE] at k;rw[<-j6 (fu.mp k y (bu.mpr h)),<-tU]
section
variable {P:Program} {w:World} {K:PySem.W.Frag} {mg:Str->Option Value} {base:Heap}
theorem n5:aG ["_law_pot_here","_law_many_here","_law_room","_law_homes","_law_stand","_law_house","_law_k","_law_home","_law_some"] ["_law_pot_here","_law_many_here","_law_room"] (au KR):=⟨rfl,rfl,rfl,by decide +kernel,rfl,by decide +kernel,by decide +kernel⟩
def Ef:Sp:=fun vs H Q _=>∃ (p:Addr) (n:Nat) (ts:Ts) (rm:Nat),vs=[.ref p,.int n,.int rm]/\2<=n/\n<=32/\cR H p/\(∀y,y<n->(cf n ts y).length=rm)/\
 ∀ (t ha sa:Addr) (homes:List Nat) (st:List (Option Nat)) (H':Hp),bJ p H H'->cR H' p->H' t=some (.tup [.ref ha,.ref sa])->H' ha=some (.tup (NV homes))->H' sa=some (.tup (st.map oV))->eI n ts homes st->st.length<=16->Q (.ref t) H'
theorem yG{f:Addr}{fd:FuncData}(F:fW K "_law_letters" "_law_letters" KR f fd)(B:Bl mg)(D:cB P w K mg base aW 1 "_law_draw" ["_law_pot_here","_law_many_here"] Gp):bq P w K mg base aW 2 f fd ["_law_pot_here","_law_many_here","_law_room"] Ef:=by
 refine F.ok n5 (fun vs H Q E h=>?_) (fun dR A outer s H vs Q E hr h=>?_)
 .obtain⟨p,n,ts,rm,rfl,_⟩:=h;rfl
 .obtain⟨p,n,ts,rm,rfl,n1,n2,hp,ro,q⟩:=h;refine'⟨_,(ah (g7 (iH (aa (dP ag) (aa (dP ag) ag))) (dO (n:=2) rfl (aN (av (i:=3) n5.nd rfl (Or.inl rfl)) (aN (av (i:=4) n5.nd rfl (Or.inr rfl)) cL))))
   (ah (aY (i:=5) n5.nd rfl (Or.inl rfl) aB)
   (ah (dA eK rfl (cP rfl B.range (aa (a8 g8 aB (aF D hr aJ (aa (pv 0) (aa aB ag)))) ag)) (av (i:=6) n5.nd rfl (Or.inl rfl))
    (ah (aY (i:=7) n5.nd rfl (Or.inr rfl) (aF D hr aJ (aa (pv 0) (aa (pv 1) ag))))
    (ah (d8 (i:=8) (g:=(bQ 0)) (tt:=(Mj (lK (mW (VZ) (bj 0) (bj 1))) (lK (mW (By fun i j=>.bl (decide (i<j))) (V5 K "list" CV (bj 2) (cA (bj 0) kU)) (bj 3))))) (te:=(bj 0)) (NB:=["_law_other","_law_home","_law_stand","_law_room"]) (src:=[none,some 7,some 4,some 2]) (bU (by kernel_rfl)) rfl (cP rfl B.range (aa (pv 1) ag)) ?g1 ?t1 ?e1 n5.nd rfl rfl rfl)
    (ah (cr (PW.pt (xt (aQ (CM (e:=jt) hr.u) (pv 8) (dP ag) (aT _)) (sI (aQ uX (aF D hr aJ (aa (pv 0) (aa aB ag))) aB (aT _))))) (ah (cr (PW.pt (uQ (aQ lP (pv 5) (pv 8) rfl) (sJ (aQ j_ (aF D hr aJ (aa (pv 0) (aa aB ag))) aB (aT _))))) (aq (aY (i:=5) n5.nd rfl (Or.inl rfl) (bZ bL (pv 8) (aF D hr aJ (aa (pv 0) (aa (aR aV (by rfl) B.len fN (aa (pv 8) ag)) ag))) (fun _ _=>rfl)))) be)
     (aq (cu (ka j5 lw lu cY (pv 4) (aa (pv 5) ag))))) (aq (cu (ka j5 lw lu cY (pv 4) (aa eO ag)))))
    (aq (cu (ka j5 lw lu cY (pv 3) (aa (pv 7) ag))))))))
   (aq (aP (iH (aa (dH dY (by rfl) B.tup oR (aa (pv 3) ag)) (aa (dH dY (by rfl) B.tup oR (aa (pv 4) ag)) ag)))))))),?_⟩
  case g1=>exact fun cl C s₃ H₃ fp=>(av (i:=0) hV rfl (Or.inl rfl) (Or.inr rfl))
  case t1=>exact fun cl C s₃ H₃ fp=>gO (PW.pt (xt (aQ nQ (pv 0) (pv 1) (aT _)) (sI (aQ uW (ka j5 PySem.F.slot_list_count PySem.F.type_list_count CW (pv 2) (aa (pv 0) ag)) (pv 3) (aT _)))))
  case e1=>exact fun cl C s₃ H₃ fp=>(pv 0)
  refine⟨by show 0<=sizeLine;decide,fun Hs Uv=>⟨by show 0<=sizeLine;decide,fun St Q0=>⟨by show 2<=sizeLine;decide,fun T0 Uw=>⟨T0,_,rfl,bW.of af,rfl,_,_,rfl,_,_,rfl,rfl,?_⟩⟩⟩⟩;have s1:=ai (o:=.lst []) Uv;have s2:=s1.trans (ai (o:=.lst []) Q0);have s3:=s2.trans (ai (o:=.tup [.ref Hs,.ref St]) Uw);have fS:=s1.free Q0;have gH:=ai (o:=.tup [.ref Hs,.ref St]) Uw _ _ (ai (o:=.lst []) Q0 _ _ (af (H:=H) (a:=Hs) (o:=.lst [])));have gS:=ai (o:=.tup [.ref Hs,.ref St]) Uw _ _ (af (H:=upd H Hs (.lst [])) (a:=St) (o:=.lst []));have Xj:Hs≠St:=ap af Q0;have L_:=hp.ne Uv;have Iw:=hp.ne fS;generalize upd (upd (upd H Hs _) St _) T0 _=H1 at *;have R8:=hp.same s3;refine⟨_,rfl,p,16,rfl,by decide,by decide,R8,fun d H3 hd s6 Z8=>⟨_,_,rfl,rfl,1+(d:Int),rfl,by lia,by lia,?_⟩⟩;rw[show (1+(d:Int)).toNat=1+d by lia];refine eF (n:=1+d) (lo:=0) (fun i σ Hc=>∃ (ho:Nat) (homes:List Nat) (st:List (Option Nat)),(∃b c e,σ=[some (.ref p),some (.int (n:Int)),some (.int (rm:Int)),some (.ref Hs),some (.ref St),some (.int (ho:Int)),b,c,e])/\bJ p H Hc/\cR Hc p/\Hc Hs=some (.lst (NV homes))/\Hc St=some (.lst (st.map oV))/\st.length=i/\eI n ts homes st)
   ⟨0,[],[],⟨_,_,_,rfl⟩,(bJ.of s3).trans s6,Z8,s6 _ _ gH L_,s6 _ _ gS Iw,rfl,rfl,fun x hx=>(nomatch hx),(fun i y e=>by rw[List.getElem?_nil] at e;cases e),fun y hy=>ce _⟩ ?_ ?_
  .rintro i σ Hc hi ⟨ho,homes,st,⟨x6,x7,x8,rfl⟩,sc,Q3,LZ,ES,HG,SD⟩;refine⟨_,rfl,_,rfl,p,n,rfl,by lia,by lia,Q3,fun home H4 OR s7 L8=>?_⟩;have Z9:=sc.trans s7;have BL:=s7 _ _ ES Iw;refine⟨_,rfl,_,rfl,by lia,by lia,fun D1 Xk=>?_⟩;rw[lA];refine Gq (lo:=0) (n:=n) (fun x=>decide (x≠home)&&decide ((st.map oV).countP (fun z=>jt z (.int (x:Int)))<rm)) (fun σ=>∃a,σ=[a,some (.int (home:Int)),some (.ref St),some (.int (rm:Int))]) Xk (by lia) ⟨_,rfl⟩ ?_ ?_
   .rintro x σ H5 Kt Kf hx ⟨a',rfl⟩ DI kt kf;rw[iC] at kt |-;refine⟨_,rfl,_,rfl,rfl,_,rfl,?_⟩;refine il (fun c=>?_) (fun c=>?_)
    .have c:x≠home:=by have:=c;simp at this;lia
     have GV:=DI _ _ BL;refine⟨_,rfl,.inl ⟨rfl,_,ba.of GV⟩,_,rfl,St,_,_,rfl,rfl,GV,rfl,l7,_,rfl,_,_,rfl,rfl,_,rfl,?_⟩;refine il (fun c2=>?_) (fun c2=>?_)
     .have c2:=c_ c2;exact⟨_,rfl,kt _ _ ⟨_,rfl⟩ (aK.refl _) (by rw[dg c,dg (by lia)];rfl)⟩
     .exact kf _ _ ⟨_,rfl⟩ (aK.refl _) (by rw[eD (show ¬ (st.map oV).countP (fun z=>jt z (.int (x:Int)))<rm from fun z=>c2 (dg (by lia))),Bool.and_false])
    .have c:x=home:=by have:=c;simp at this;lia
     refine fT (kf _ _ ⟨_,rfl⟩ (aK.refl _) (by simp[c]))
   intro H5 s8 uN;have e0:∀c:Nat->Bool,(((List.range n).filter c).map fun (x:Nat)=>V.int (0+(x:Int)))=NV ((List.range n).filter c):=fun c=>kF fun x _=>by rw[iC]
   rw[e0] at uN;have Z_:∀x∈(List.range n).filter (fun x=>decide (x≠home)&&decide ((st.map oV).countP (fun z=>jt z (.int (x:Int)))<rm)),x<n/\x≠home/\st.count (some x)<rm:=fun x hx=>by
    obtain⟨a,b⟩:=cg.mp hx;rw[df] at b;exact⟨bu.mp a,c_ b.1,by rw[<-DO];exact c_ b.2⟩
   have WI:((List.range n).filter (fun x=>decide (x≠home)&&decide ((st.map oV).countP (fun z=>jt z (.int (x:Int)))<rm))).length<=32:=aX (i8 _ _) (by rw[fK];exact n2);generalize (List.range n).filter _=fs at *;have sH5:=Z9.trans (bJ.of s8);have Uu:=L8.same s8;have Q4:=s8 _ _ (s7 _ _ LZ L_);have GV:=s8 _ _ BL;have OS:D1≠p:=L8.ne Xk;clear s7 s8 LZ ES BL Q3 sc;dsimp only;refine p_ (fun σ H6=>∃ (ho:Nat) (o:Option Nat),(∃a,σ=[some (.ref p),some (.int (n:Int)),some (.int (rm:Int)),some (.ref Hs),some (.ref St),some (.int (ho:Int)),a,some (.int (home:Int)),some (.ref D1)])/\bJ p H H6/\cR H6 p/\H6 Hs=some (.lst (NV homes))/\H6 St=some (.lst (st.map oV++[oV o]))/\∀y,o=some y->y<n/\y≠home/\st.count (some y)<rm) ?_ ?_
   .rintro σ H6 ⟨qA,o,⟨x6,rfl⟩,Ux,LJ,KS,Xl,Uy⟩;refine⟨_,rfl,.inl ⟨rfl,_,ba.of KS⟩,_,rfl,Hs,_,_,rfl,rfl,KS,by rw[bh,SD.len];exact cC (show st.length<33 by lia) (by decide),?_⟩;exact⟨qA,homes++[home],st++[o],⟨_,_,_,rfl⟩,bJ.put Ux Uv,LJ.put L_.symm,by rw[af,ug],by rw[am Xj.symm,Xl,cn];rfl,by rw[fY,HG];rfl,SD.snoc OR fun y e=>by obtain⟨a,b,c⟩:=Uy y e;exact⟨a,b,by rw[ro y a];exact c⟩⟩
   .intro N hN;have Uz:∀ {H6:Hp} {o:Option Nat} {qA:Nat} {x6:Option V},bJ p H H6->cR H6 p->H6 Hs=some (.lst (NV homes))->H6 St=some (.lst (st.map oV))->(∀y,o=some y->y<n/\y≠home/\st.count (some y)<rm)->N [some (.ref p),some (.int (n:Int)),some (.int (rm:Int)),some (.ref Hs),some (.ref St),some (.int (qA:Int)),x6,some (.int (home:Int)),some (.ref D1)] (upd H6 St (.lst (st.map oV++[oV o]))):=fun {H6 o qA x6} Ux LJ KS Xl Uy=>hN _ _ ⟨qA,o,⟨_,rfl⟩,bJ.put Ux fS,LJ.put Iw.symm,by rw[am Xj];exact KS,af,Uy⟩;have UA:∀ {xs:List V},xs=st.map oV->xs.length<sizeLine:=fun e=>by rw[e,aH];exact cC (show st.length<33 by lia) (by decide)
    refine⟨_,rfl,by show 0<=sizeLine;decide,fun E1 UB=>?_⟩;have sE:=ai (o:=.lst []) UB;refine⟨D1,E1,_,[],rfl,rfl,ba.of (sE _ _ uN),ba.of af,fun i h1 h2=>absurd h2 (by simp),_,rfl,?_⟩;rw[ao rfl,Bn];have UC:=sH5.trans (bJ.of sE);have Xm:=Uu.same sE;have UD:=sE _ _ Q4;have KT:=sE _ _ GV;have hL7:=sE _ _ uN;by_cases e:NV fs=[]
    .rw[dg e];refine fT (fT ⟨_,rfl,.inl ⟨rfl,_,ba.of KT⟩,St,_,_,rfl,rfl,KT,UA rfl,Uz (o:=none) UC Xm UD KT fun y hy=>(nomatch hy)⟩)
    .rw[eD e];have hl:0<fs.length:=by
      rcases fs with _|⟨x,xs⟩
      .exact absurd rfl e
      .simp
     refine va ⟨_,rfl,p,8,rfl,by decide,by decide,Xm,fun d6 H8 hd6 s8 UE=>⟨_,_,rfl,rfl,_,rfl,il (fun c=>?_) (fun c=>?_)⟩⟩
     .have OT:=s8 _ _ hL7 OS;have sH8:=UC.trans s8;have hH8:=s8 _ _ UD L_;have hS8:=s8 _ _ KT Iw;refine p_ (fun σ H9=>∃y:Nat,(∃a,σ=[some (.ref p),some (.int (n:Int)),some (.int (rm:Int)),some (.ref Hs),some (.ref St),some (.int (y:Int)),a,some (.int (home:Int)),some (.ref D1)])/\bJ p H8 H9/\cR H9 p/\y∈fs) ?_ ?_
      .rintro σ H9 ⟨y,⟨x6,rfl⟩,s9,Ma,hy⟩;have UF:=s9 _ _ hS8 Iw;refine⟨_,rfl,.inl ⟨rfl,_,ba.of UF⟩,_,rfl,St,_,_,rfl,rfl,UF,UA rfl,Uz (o:=some y) (sH8.trans s9) Ma (s9 _ _ hH8 L_) UF fun z hz=>?_⟩;cases hz;exact Z_ y hy
      .intro N2 UG;refine⟨_,rfl,_,rfl,D1,_,rfl,.inl (ba.of OT),rfl,Ee,_,rfl,?_⟩;have UH:=GU (x:=ho) (xs:=fs);refine il (fun c=>va ?_) (fun c=>?_)
       .refine⟨_,rfl,_,rfl,_,rfl,D1,_,rfl,.inl (ba.of OT),p,_,rfl,by rw[bh];exact hl,by rw[bh];lia,UE,fun d7 H9 KU s9 Ma=>?_⟩;rw[bh] at KU;exact⟨D1,_,_,_,rfl,rfl,ba.of (s9 _ _ OT OS),aU (kq KU),UG _ _ ⟨_,⟨_,rfl⟩,s9,Ma,by rw[fV KU];exact eC _⟩⟩
       .refine⟨_,rfl,p,2,rfl,by decide,by decide,UE,fun d2 H9 hd2 s9 Ma=>⟨rfl,_,rfl,il (fun c2=>?_) (fun c2=>?_)⟩⟩
        .refine⟨_,rfl,_,rfl,_,rfl,D1,_,rfl,.inl (ba.of (s9 _ _ OT OS)),p,_,rfl,by rw[bh];exact hl,by rw[bh];lia,Ma,fun d7 OU KU Mb UI=>?_⟩;rw[bh] at KU;exact⟨D1,_,_,_,rfl,rfl,ba.of (Mb _ _ (s9 _ _ OT OS) OS),aU (kq KU),UG _ _ ⟨_,⟨_,rfl⟩,s9.trans Mb,UI,by rw[fV KU];exact eC _⟩⟩
        .refine UG _ _ ⟨ho,⟨_,rfl⟩,s9,Ma,?_⟩;have c:=c;simp[UH] at c;exact c
     .exact⟨_,rfl,.inl ⟨rfl,_,ba.of (s8 _ _ KT Iw)⟩,St,_,_,rfl,rfl,s8 _ _ KT Iw,UA rfl,Uz (o:=none) (UC.trans s8) UE (s8 _ _ UD L_) (s8 _ _ KT Iw) fun y hy=>(nomatch hy)⟩
  .rintro σ Hc ⟨ho,homes,st,⟨x6,x7,x8,rfl⟩,sc,Q3,LZ,ES,HG,SD⟩;refine⟨_,rfl,Hs,_,rfl,.inl ⟨ba.of LZ,fun a ha=>?_⟩⟩;have sa:=ai (o:=.tup (NV homes)) ha;refine⟨_,rfl,St,_,rfl,.inl ⟨ba.of (sa _ _ ES),fun b hb=>⟨by show 2<=sizeLine;decide,fun t ht=>?_⟩⟩⟩;have sb:=ai (o:=.tup (st.map oV)) hb;have aw:=ai (o:=.tup [.ref a,.ref b]) ht;exact q t a b homes st _ (((sc.trans (bJ.of sa)).trans (bJ.of sb)).trans (bJ.of aw)) (((Q3.same sa).same sb).same aw) af (aw _ _ (sb _ _ af)) (aw _ _ af) SD (by lia)
end
end tY
namespace L2
open PySem PySem.Spec PyProof.Rows
abbrev dF(h:Heap)(z TI TO:Addr)(u:Value)(f:Bool):Prop:=
 h.get? z=some { cls:=.type "zip",dict:=none,data:=.fields #[u,.bool f,.bool false,.ref TI,.ref TO],slots:=#[] }
section
variable {prog:Program} {w:World} {A:Around} {E:Value->Shared->Prop} {s:Shared}
theorem Bp{z ti tq:Addr}{u:Value}{f:Bool}{Q:Value->Shared->Prop}(gz:dF s.heap z ti tq u f)(h:Q (.ref z) s):wpAny (model prog w) A (pyIter (.ref z)) Q E s:=by
 have ty:s.TypeIs (.ref z) "zip":=⟨_,gz,rfl⟩
 refine wpAny_pyIter_slot ty F.slot_zip_iter (iy F.slot_zip_iter ty F.entry_zip_iter ?_ (F.args_zip_iter_1 _));exact wpAny_pure ⟨_,rfl,"zip",.builtin "zip.__next__",ty,by rw[typeLookup_type,builtinLookup_eq_fast];kernel_rfl,h⟩
theorem Bq{a:Addr}{Q:Option Obj->Shared->Prop}(ha:s.heap.get? a=none)(q:Q none s):wpAny (model prog w) A (loadIfAlive a) Q E s:=by
 intro Γ p _;show Sem.wp _ _ (Sem.loadIfAlive a Sem.pure) _ _ _ _;rw[Sem.wp_loadIfAlive,ha];exact q
theorem rF{z TI TO:Addr}{u:Value}{f:Bool}{Q:Bool->Shared->Prop}(hu:u=.none\/∃a:Addr,u=rawInt a)(hz:dF s.heap z TI TO u f)(q1:Q true s)(hQ:∀h',dF h' z TI TO u true->Heap.SameBut z s.heap h'->Q false { s with heap:=h' }):wpAny (model prog w) A (Builtin.SmallTypes.ownedTupleIsFree (.ref z)) Q E s:=by
 unfold Builtin.SmallTypes.ownedTupleIsFree;rcases hu with rfl|⟨a,rfl⟩
 .exact ak (dI hz rfl (x:=.none) rfl (wpAny_pure q1))
 .refine ak (dI hz rfl (x:=rawInt a) rfl ?_);show wpAny _ _ (loadIfAlive ((a:Int).toNat) >>= _) _ _ _;rw[lA];cases ha:s.heap.get? a with
  |none=>
   refine ak (Bq ha ?_);simp only[Option.isNone_none,gb];exact wpAny_pure q1
  |some oa=>
   refine ak (PySem.W.kdx_alive ha ?_);simp only[Option.isNone_some,h9,dw];refine ak (dI hz rfl (x:=.bool f) rfl ?_);cases f with
   |true=>
    rw[aj (show ¬ ((Value.bool true != Value.bool true)=true) from bX)];exact wpAny_pure (hQ s.heap hz (Heap.SameBut.refl _ _))
   |false=>
    rw[ao (show (Value.bool false != Value.bool true)=true from rfl)];refine ak (i9 hz (by simp) fun h₃ he₃ hs₃=>?_);exact wpAny_pure (hQ h₃ he₃ hs₃)
theorem Br{z ti tq i1 i2 t1 t2:Addr}{k:Nat}{f:Bool}{xs ys:Array Value}{x y a b u0:Value}{Q:Value->Shared->Prop}(dj:ZipApart z ti tq i1 i2 t1 t2)(hu:u0=.none\/∃a:Addr,u0=rawInt a)(gz:dF s.heap z ti tq u0 f)(gi:IsPair s.heap ti (.ref i1) (.ref i2))(gq:IsPair s.heap tq a b)(r1:s.heap.IsTupleIter i1 t1 k)(r2:s.heap.IsTupleIter i2 t2 k)(g1:s.heap.IsTuple t1 xs)(g2:s.heap.IsTuple t2 ys)(ex:xs[k]?=some x)(ey:ys[k]?=some y)(q:∀h' u' f',(u'=.none\/∃a:Addr,u'=rawInt a)->dF h' z ti tq u' f'->(∃a b,IsPair h' tq a b)->h'.IsTupleIter i1 t1 (k+1)->h'.IsTupleIter i2 t2 (k+1)->IsPair h' s.heap.objs.size x y->(∀c o,c≠z->c≠tq->c≠i1->c≠i2->s.heap.get? c=some o->h'.get? c=some o)->Q (.ref s.heap.objs.size) { s with heap:=h' }):
  wpAny (model prog w) A (Builtin.«zip.__next__» ⟨[.ref z],[]⟩) (fun dU s'=>∃v,dU=.done (.ret v)/\Q v s') E s:=by
 change wpAny _ _ (field (.ref z) 2 >>= _) _ _ _;refine ak (dI gz rfl (x:=.bool false) rfl ?_);change wpAny _ _ (field (.ref z) 3 >>= _) _ _ _;refine ak (dI gz rfl (x:=.ref ti) rfl (ak (f8 gi rfl ?_)));change wpAny _ _ (Builtin.SmallTypes.ownedTupleIsFree (.ref z) >>= _) _ _ _;refine ak (rF hu gz ?_ fun m1 qw gP=>?_)
 .simp only[gb];refine ak (dJ (ak (dI gz rfl (x:=.ref tq) rfl ?_)));refine ak (i9 gz (by simp) fun m1 qw gP=>?_);replace qw:dF m1 z ti tq .ellipsis f:=qw;refine ak ?_;simp only[o9,sn,jg,jh];refine ak (ak (mJ ?_));change wpAny _ _ (Builtin.SmallTypes.nextOf (.ref i1) >>= _) _ _ _;refine ak (d9 (br r1 gP dj.i1z) (eT g1 gP dj.l1z) ex fun m2 Nv ip=>wpAny_pure ?_);have Nw:IsPair m2 tq a b:=aL ip dj.TOi1 (aL gP dj.TOz gq);refine ak (f8 Nw rfl (ak (rW Nw fun m3 JE oh=>?_)));replace JE:IsPair m3 tq x b:=JE;refine ak (iD (wpAny_pure ?_));refine ak (ak (mJ ?_));change wpAny _ _ (Builtin.SmallTypes.nextOf (.ref i2) >>= _) _ _ _;refine ak (d9 (br (br (br r2 gP dj.i2z) ip dj.i12.symm) oh dj.TOi2.symm) (eT (eT (eT g2 gP dj.l2z) ip dj.l2i1) oh dj.l2TO) ey fun m4 SJ C6=>wpAny_pure ?_);have Ny:IsPair m4 tq x b:=aL C6 dj.TOi2 JE;refine ak (f8 Ny rfl (ak (rW Ny fun m5 FO C7=>?_)));replace FO:IsPair m5 tq x y:=FO;refine ak (iD (wpAny_pure (wpAny_pure ?_)));refine ak (f8 FO rfl (ak (pj ?_)));have sz:m5.objs.size=s.heap.objs.size:=by rw[C7.1,C6.1,oh.1,ip.1,gP.1]
  have Nz:dF m5 z ti tq .ellipsis f:=aL C7 dj.TOz.symm (aL C6 dj.i2z.symm (aL oh dj.TOz.symm (aL ip dj.i1z.symm qw)));have SL:∀c o,c≠z->c≠tq->c≠i1->c≠i2->s.heap.get? c=some o->m5.get? c=some o:=fun c o c1 c2 c3 c4 e=>
   aL C7 c2 (aL C6 c4 (aL oh c2 (aL ip c3 (aL gP c1 e))))
  have SU:m5.IsTupleIter i1 t1 (k+1):=br (br (br Nv oh dj.TOi1.symm) C6 dj.i12) C7 dj.TOi1.symm;have SV:m5.IsTupleIter i2 t2 (k+1):=br SJ C7 dj.TOi2.symm;have zl:z<m5.objs.size:=bb Nz;change wpAny _ _ (Builtin.SmallTypes.ownedTupleHandOut (.ref z) (.ref m5.objs.size) >>= _) _ _ _;refine ak ?_;unfold Builtin.SmallTypes.ownedTupleHandOut;have SW:dF (m5.push { cls:=.type "tuple",data:=.seq #[x,y] }) z ti tq .ellipsis f:=bv _ Nz;refine ak (i9 SW (by simp) fun m7 JF NC=>?_);replace JF:dF m7 z ti tq (rawInt m5.objs.size) f:=JF;refine i9 JF (by simp) fun m8 H_ ND=>?_;replace H_:dF m8 z ti tq (rawInt m5.objs.size) false:=H_;have up:∀c o,c≠z->m5.get? c=some o->m8.get? c=some o:=fun c o c1 e=>aL ND c1 (aL NC c1 (bv _ e));have NE:IsPair m8 m5.objs.size x y:=aL ND (ig zl) (aL NC (ig zl) (b_ _ rfl));rw[sz] at NE;refine wpAny_pure ⟨_,rfl,?_⟩;change Q (.ref m5.objs.size) _;rw[sz];exact q m8 _ _ (.inr ⟨_,rfl⟩) H_ ⟨_,_,up _ _ dj.TOz FO⟩ (SU.at fun o e=>up _ o dj.i1z e) (SV.at fun o e=>up _ o dj.i2z e) NE fun c o c1 c2 c3 c4 e=>up c o c1 (SL c o c1 c2 c3 c4 e)
 .simp only[h9,dw];refine ak ?_;show wpAny _ _ (forIn #[Value.ref i1,Value.ref i2] _ _) _ _ _;rw[<-o6];simp only[jg,jh];refine ak (ak (f9 ?_));show wpAny _ _ (Builtin.SmallTypes.nextOf (.ref i1) >>= _) _ _ _;refine ak (d9 (br r1 gP dj.i1z) (eT g1 gP dj.l1z) ex fun m2 Nv ip=>wpAny_pure ?_);refine wpAny_pure ?_;refine ak (ak (f9 ?_));show wpAny _ _ (Builtin.SmallTypes.nextOf (.ref i2) >>= _) _ _ _;refine ak (d9 (br (br r2 gP dj.i2z) ip dj.i12.symm) (eT (eT g2 gP dj.l2z) ip dj.l2i1) ey fun m3 r23 oh=>wpAny_pure ?_);refine wpAny_pure (wpAny_pure ?_);dsimp only;refine ak (pj ?_ (by show 2<=sizeLine;decide));have sz:m3.objs.size=s.heap.objs.size:=by rw[oh.1,ip.1,gP.1]
  refine wpAny_pure ⟨_,rfl,?_⟩;show Q (.ref m3.objs.size) _;have up:∀c o,m3.get? c=some o->(m3.push { cls:=.type "tuple",data:=.seq #[x,y] }).get? c=some o:=fun c o e=>bv _ e;have gp:IsPair (m3.push { cls:=.type "tuple",data:=.seq #[x,y] }) m3.objs.size x y:=b_ _ rfl;rw[sz] at gp |-;exact q _ _ _ hu (up _ _ (aL oh dj.i2z.symm (aL ip dj.i1z.symm qw))) ⟨_,_,up _ _ (aL oh dj.TOi2 (aL ip dj.TOi1 (aL gP dj.TOz gq)))⟩ ((br Nv oh dj.i12).at fun o e=>up _ o e) (r23.at fun o e=>up _ o e) gp fun c o c1 _ c3 c4 e=>up c o (aL oh c4 (aL ip c3 (aL gP c1 e)))
theorem Eg{z ti tq i1 i2 t1 t2:Addr}{k:Nat}{f:Bool}{u0:Value}{xs:Array Value}{Q:PySem.Fin->Shared->Prop}(hh:A.handled=none)(dj:ZipApart z ti tq i1 i2 t1 t2)(hu:u0=.none\/∃a:Addr,u0=rawInt a)(gz:dF s.heap z ti tq u0 f)(gi:IsPair s.heap ti (.ref i1) (.ref i2))(r1:s.heap.IsTupleIter i1 t1 k)(g1:s.heap.IsTuple t1 xs)(ex:xs[k]?=none)(q:∀h' e,(∀c o,c≠z->c≠i1->s.heap.get? c=some o->h'.get? c=some o)->(∃o,h'.get? e=some o/\o.cls=.type "StopIteration")->E (.ref e) { s with heap:=h' }):
  wpAny (model prog w) A (Builtin.«zip.__next__» ⟨[.ref z],[]⟩) Q E s:=by
 change wpAny _ _ (field (.ref z) 2 >>= _) _ _ _;refine ak (dI gz rfl (x:=.bool false) rfl ?_);change wpAny _ _ (field (.ref z) 3 >>= _) _ _ _;refine ak (dI gz rfl (x:=.ref ti) rfl (ak (f8 gi rfl ?_)));change wpAny _ _ (Builtin.SmallTypes.ownedTupleIsFree (.ref z) >>= _) _ _ _;refine ak (rF hu gz ?_ fun m1 qw gP=>?_)
 .simp only[gb];refine ak (dJ (ak (dI gz rfl (x:=.ref tq) rfl ?_)));refine ak (i9 gz (by simp) fun m1 qw gP=>?_);replace qw:dF m1 z ti tq .ellipsis f:=qw;refine ak ?_;simp only[o9,sn,jg,jh];refine ak (ak (mJ ?_));change wpAny _ _ (Builtin.SmallTypes.nextOf (.ref i1) >>= _) _ _ _;refine ak (ir hh (br r1 gP dj.i1z) (eT g1 gP dj.l1z) ex fun m2 e ip he=>?_);obtain⟨oe,JG,NF⟩:=he;have FP:dF m2 z ti tq .ellipsis f:=ip _ _ dj.i1z.symm qw;have SX:e≠z:=fun y=>by subst y;rw[FP] at JG;cases JG;simp at NF
  exact i9 FP (by simp) fun m3 _ oh=>q m3 e (fun c o c1 c3 y=>aL oh c1 (ip _ _ c3 (aL gP c1 y))) ⟨oe,aL oh SX JG,NF⟩
 .simp only[h9,dw];refine ak ?_;show wpAny _ _ (forIn #[Value.ref i1,Value.ref i2] _ _) _ _ _;rw[<-o6];simp only[jg,jh];refine ak (ak (f9 ?_));show wpAny _ _ (Builtin.SmallTypes.nextOf (.ref i1) >>= _) _ _ _;exact ak (ir hh (br r1 gP dj.i1z) (eT g1 gP dj.l1z) ex fun m2 e ip he=>q m2 e (fun c o c1 c3 y=>ip _ _ c3 (aL gP c1 y)) he)
theorem yH{z ti tq i1 i2 t1 t2:Addr}{k:Nat}{f:Bool}{xs ys:Array Value}{x y a b u0:Value}{Q:Option Value->Shared->Prop}(dj:ZipApart z ti tq i1 i2 t1 t2)(hu:u0=.none\/∃a:Addr,u0=rawInt a)(gz:dF s.heap z ti tq u0 f)(gi:IsPair s.heap ti (.ref i1) (.ref i2))(gq:IsPair s.heap tq a b)(r1:s.heap.IsTupleIter i1 t1 k)(r2:s.heap.IsTupleIter i2 t2 k)(g1:s.heap.IsTuple t1 xs)(g2:s.heap.IsTuple t2 ys)(ex:xs[k]?=some x)(ey:ys[k]?=some y)(q:∀h' u' f',(u'=.none\/∃a:Addr,u'=rawInt a)->dF h' z ti tq u' f'->(∃a b,IsPair h' tq a b)->h'.IsTupleIter i1 t1 (k+1)->h'.IsTupleIter i2 t2 (k+1)->IsPair h' s.heap.objs.size x y->(∀c o,c≠z->c≠tq->c≠i1->c≠i2->s.heap.get? c=some o->h'.get? c=some o)->Q (some (.ref s.heap.objs.size)) { s with heap:=h' }):
  wpAny (model prog w) A (pyNext (.ref z)) Q E s:=by
 have ty:s.TypeIs (.ref z) "zip":=⟨_,gz,rfl⟩
 unfold pyNext;refine ak (jj (oT (name:=Str.ofString "__next__") ty F.slot_zip_next (iy F.slot_zip_next ty F.entry_zip_next ?_ (F.args_zip_next_1 _))));exact Br dj hu gz gi gq r1 r2 g1 g2 ex ey fun h' u' f' a1 a2 a3 a4 a5 a6 a7=>wpAny_pure (q h' u' f' a1 a2 a3 a4 a5 a6 a7)
theorem yI{z ti tq i1 i2 t1 t2:Addr}{k:Nat}{f:Bool}{u0:Value}{xs:Array Value}{Q:Option Value->Shared->Prop}(hh:A.handled=none)(dj:ZipApart z ti tq i1 i2 t1 t2)(hu:u0=.none\/∃a:Addr,u0=rawInt a)(gz:dF s.heap z ti tq u0 f)(gi:IsPair s.heap ti (.ref i1) (.ref i2))(r1:s.heap.IsTupleIter i1 t1 k)(g1:s.heap.IsTuple t1 xs)(ex:xs[k]?=none)(q:∀h',(∀c o,c≠z->c≠i1->s.heap.get? c=some o->h'.get? c=some o)->Q none { s with heap:=h' }):wpAny (model prog w) A (pyNext (.ref z)) Q E s:=by
 have ty:s.TypeIs (.ref z) "zip":=⟨_,gz,rfl⟩
 unfold pyNext;refine ak (jj (oT (name:=Str.ofString "__next__") ty F.slot_zip_next (iy F.slot_zip_next ty F.entry_zip_next (Eg hh dj hu gz gi r1 g1 ex fun h' e hk he=>?_) (F.args_zip_next_1 _))));obtain⟨o,ho,hc⟩:=he;exact ak (xp (T:="StopIteration") (b:=true) ⟨o,ho,hc⟩ isSubtype_stop (wpAny_pure (q _ hk)))
end
theorem Bs{P:Program}{w:World}{K:PySem.W.Frag}{nm:Str}{pos:Pos}(a b z ti tq i1 i2:Addr)(dj:ZipApart z ti tq i1 i2 a b):
  qE P w K (.Name nm pos) (JI K a b) [z,ti,tq,i1,i2] z (fun i h=>(∃u f,(u=.none\/∃a:Addr,u=rawInt a)/\dF h z ti tq u f)/\IsPair h ti (.ref i1) (.ref i2)/\(∃u v,IsPair h tq u v)/\h.IsTupleIter i1 a i/\h.IsTupleIter i2 b i) where
 mem:=by simp
 obj:=fun i h st c hc=>by
  obtain⟨⟨uz,fz,hu,gz⟩,gi,⟨u,v,gq⟩,⟨o1,q1,c1,d1⟩,⟨o2,q2,c2,d2⟩⟩:=st;simp only[aS,fL,dM] at hc;rcases hc with rfl|rfl|rfl|rfl|rfl
  .exact⟨_,gz,fun v z=>by have z':Data.fields _=Data.cell v:=z;cases z'⟩
  .exact⟨_,gi,fun v z=>by have z':Data.seq _ _=Data.cell v:=z;cases z'⟩
  .exact⟨_,gq,fun v z=>by have z':Data.seq _ _=Data.cell v:=z;cases z'⟩
  .exact⟨o1,q1,fun v z=>by rw[d1] at z;cases z⟩
  .exact⟨o2,q2,fun v z=>by rw[d2] at z;cases z⟩
 keep:=fun i h h' st k=>by
  obtain⟨⟨uz,fz,hu,gz⟩,gi,⟨u,v,gq⟩,r1,r2⟩:=st;exact⟨⟨uz,fz,hu,k z (by simp) _ gz⟩,k ti (by simp) _ gi,⟨u,v,k tq (by simp) _ gq⟩,r1.at fun o q=>k i1 (by simp) o q,r2.at fun o q=>k i2 (by simp) o q⟩
 item:=by
  intro X hP hw hK hc i ae s σ H E I hf st hg;subst hP hw hK;obtain⟨xs,ys,x,y,hx,hy,ex,ey⟩:=hg;obtain⟨us,rx,px,_⟩:=I.tuple hx;obtain⟨vs,ry,py,_⟩:=I.tuple hy;obtain⟨u,hu,ru⟩:=rx.get ex;obtain⟨v,hv,rv⟩:=ry.get ey;obtain⟨⟨uz,fz,UJ,gz⟩,gi,⟨u0,v0,gq⟩,r1,r2⟩:=st;refine yH dj UJ gz gi gq r1 r2 (show s.heap.IsTuple a us.toArray from px) (show s.heap.IsTuple b vs.toArray from py) (x:=u) (y:=v) (by simpa using hu) (by simpa using hv) fun h1 u1 f1 Jp qw SY SZ S0 S7 kp=>?_;refine⟨_,rfl,wpAny_pure ?_⟩;have FP:=qw;have zl:z<s.heap.objs.size:=bb gz;have nz:s.heap.objs.size≠z:=ig zl;have NG:∀c o,c∉[z,tq,i1,i2]->s.heap.get? c=some o->h1.get? c=some o:=fun c o hc e=>by
   simp only[aS,fL,dM,not_or] at hc;exact kp c o hc.1 hc.2.1 hc.2.2.1 hc.2.2.2 e
  have S8:IsPair h1 ti (.ref i1) (.ref i2):=NG _ _ (by simp only[aS,fL,dM,not_or];exact⟨dj.TIz,dj.TITO,dj.TIi1,dj.TIi2⟩) gi;have fe:∀e∈[z,tq,i1,i2],eG X ae H e:=fun e he=>hf e (by simp only[aS,fL,dM] at he |-;rcases he with h|h|h|h <;> simp[h]);have I2:aE X ae σ (upd H s.heap.objs.size (.tup [x,y])) { s with heap:=h1,toks:=s.toks }:=
   I.zw (its:=[u,v]) fe NG (aI _) (by show 2<=sizeLine;decide) (.cons ru (.cons rv .nil)) S7
  refine⟨.ref s.heap.objs.size,_,I2,rfl,⟨_,x,y,rfl,I.bE.fresh (aI _),rfl,fun zs hz=>by rw[I.eE hz hx];exact ex,fun zs hz=>by rw[I.eE hz hy];exact ey⟩,⟨⟨_,_,Jp,FP⟩,S8,SY,SZ,S0⟩,fun c hc=>?_⟩;have f0:=(hf c hc).1;have cl:c<s.heap.objs.size:=by
   simp only[aS,fL,dM] at hc;rcases hc with rfl|rfl|rfl|rfl|rfl
   .exact zl
   .exact bb gi
   .exact bb gq
   .obtain⟨o,q,_⟩:=r1;exact bb q
   .obtain⟨o,q,_⟩:=r2;exact bb q
  rw[am (aM cl)];exact f0
 done:=by
  intro X hP hw hK hc i ae s σ H E I hf st hg;subst hP hw hK;obtain⟨xs,hx,hi⟩:=hg;obtain⟨us,rx,px,_⟩:=I.tuple hx;obtain⟨⟨uz,fz,UJ,gz⟩,gi,⟨u0,v0,gq⟩,r1,r2⟩:=st;have hl:=rx.length;refine yI (I.ok.hd hc) dj UJ gz gi r1 (show s.heap.IsTuple a us.toArray from px) (by simp;lia) fun h' kp=>⟨rfl,?_⟩
  have fe:∀e∈[z,i1],eG X ae H e:=fun e he=>hf e (by simp only[aS,fL,dM] at he |-;rcases he with h|h <;> simp[h]);refine I.zu (t':=s.toks) fe fun c o hc e=>?_;simp only[aS,fL,dM,not_or] at hc;exact kp c o hc.1 hc.2 e
 self:=fun _ _ _ _ _ st h=>by
  obtain⟨⟨_,_,_,gz⟩,_⟩:=st;exact Bp gz h
section
variable {X:Cx}
theorem GW{nm:Str}{xD:Pos}{a b:Expr}{ta:TA}{p pos:Pos}(hg:Gl X "zip")(hm:X.mg "zip"=none)(ha:PA X [a,b] ta)(hs:starEach [a,b] X.env=[(false,eval a X.env),(false,eval b X.env)]:=by rfl)(j9:starEach [b] X.env=[(false,eval b X.env)]:=by rfl):
  PI X (.Name nm xD) (.Call (.Name "zip" p) [a,b] [] pos) (Ib X.K ta):=by
 intro ae s σ H R I h;refine Call_ (gZ I hg hm PyProof.Rows.boot_zip (oO (cI (ha pos ae s σ H _ I h) fun us s1 ⟨vs,H1,I1,r1,q1⟩=>?_) (by rw[hs,j9]) (by rw[j9];rfl)));obtain⟨l,m,xs,ys,rfl,hl,S_,BE,q⟩:=q1;obtain⟨u1,u2,rfl,Ju,Ta⟩:=r1.two;obtain rfl:u1=Value.ref l:=Ju;obtain rfl:u2=Value.ref m:=Ta;obtain⟨its,rv,pt,_⟩:=I1.tuple hl;obtain⟨Aw,Y2,EX,_⟩:=I1.tuple S_;have cV:l<s1.heap.objs.size:=by obtain⟨o,e,_⟩:=pt;exact bb e
 have yi:m<s1.heap.objs.size:=by obtain⟨o,e,_⟩:=EX;exact bb e
 refine rn (show s1.heap.IsTuple l its.toArray from pt) (show s1.heap.IsTuple m Aw.toArray from EX) fun h' gz gi gq r1 r2 k=>?_;refine xo gz ?_;have I2:aE X ae σ H1 { s1 with heap:=h' }:=I1.kept (t':=s1.toks) k;refine⟨s1.heap.objs.size+4,[s1.heap.objs.size+4,s1.heap.objs.size+2,s1.heap.objs.size+3,s1.heap.objs.size,s1.heap.objs.size+1],_,_,H1,rfl,I2,Bs l m _ _ _ _ _ (zipApart_new cV yi),⟨⟨_,_,.inl rfl,gz⟩,gi,⟨_,_,gq⟩,r1,r2⟩,fun b hb=>?_,q⟩;have k7:s1.heap.objs.size<=b:=by
  simp only[aS,fL,dM] at hb;rcases hb with rfl|rfl|rfl|rfl|rfl
  .exact je _ _
  .exact je _ _
  .exact je _ _
  .exact aI _
  .exact je _ _
 exact I1.qD k7 (I1.bE.fresh k7)
end
end L2
namespace tY
open PySem L2 iN
abbrev Os:=List (Addr×Option Nat×Option Nat)
abbrev oP(u:Option Nat×Option Nat):List V:=[oV u.1,oV u.2]
theorem Eh{a b:Option Nat}(h:oV a=oV b):a=b:=by
 cases a <;> cases b
 .rfl
 .cases h
 .cases h
 .injection h with h;exact congrArg some (gW h)
theorem Ei{a b:Option Nat}:jt (oV a) (oV b)=decide (a=b):=by
 cases a <;> cases b <;> first|rfl|skip
 rename_i x y;show ((x:Int)==(y:Int))=decide (some x=some y);by_cases h:x=y
 .subst h;simp
 .rw[eD (by simpa using h)];exact kD.mpr fun z=>h (gW z)
theorem Ix{a:Option Nat}:cQ (oV a)=true:=by cases a <;> rfl
theorem z9{u:Option Nat×Option Nat}:(oP u).all cQ=true:=by
 show (cQ (oV u.1)&&(cQ (oV u.2)&&true))=true;rw[Ix,Ix];rfl
theorem OV{p q:Option Nat×Option Nat}:fQ jt (oP p) (oP q)=decide (p=q):=by
 obtain⟨a,b⟩:=p;obtain⟨c,d⟩:=q;show (jt (oV a) (oV c)&&(jt (oV b) (oV d)&&true))=decide ((a,b)=(c,d));rw[Ei,Ei];by_cases h1:a=c <;> by_cases h2:b=d <;> simp[h1,h2]
theorem KW{p q:Option Nat×Option Nat}(h:oP p=oP q):p=q:=mN (Eh (mB h).1) (Eh (mB (mB h).2).1)
def UK(K:PySem.W.Frag):R2:=fun x y H Q=>∃ (p l:Addr) (u:Option Nat×Option Nat) (zs:Os),x=.ref p/\y=.ref l/\bW K H p (oP u)/\ba K H l (zs.map fun z=>V.ref z.1)/\(∀z∈zs,bW K H z.1 (oP z.2))/\Q (.bl (decide (u∈zs.map (·.2)))) H
section
open PySem.Spec PyProof.Rows
variable {X:Cx}
open Classical in
theorem KY(hu:X.A.units+2<cLine):lI X (compareOp .In) (UK X.K):=by
 intro ae s σ H x y v u Q I rx ry h;obtain⟨p,l,w,zs,rfl,rfl,hp,hl,hz,q⟩:=h;obtain rfl:v=Value.ref p:=rx;obtain rfl:u=Value.ref l:=ry;obtain⟨its,r,pl,_⟩:=I.list hl;have e:=pY (as:=zs.map (·.1)) (by rw[dh];exact r);subst e;have fe:∀z∈zs,decide (∃a,Value.ref z.1=Value.ref a/\bW X.K H a (oP w))=decide (z.2=w):=fun z rA=>by
  rw[iA,kG,kG];constructor
  .rintro⟨a,e,ha⟩;cases e;exact KW (I.eE (hz z rA) ha)
  .intro e;rw[<-e];exact⟨_,rfl,hz z rA⟩
 refine SeqAt.in_listAt (fun v=>decide (∃a,v=Value.ref a/\bW X.K H a (oP w))) pl.isList (fun y hy=>?_) ⟨.bl _,H,I,rfl,?_⟩
 .rw[List.mem_toArray,dh] at hy;obtain⟨z,rA,rfl⟩:=bo.mp hy;have:=Da (A:=X.A.in1) I (by show X.A.units+1+1<cLine;lia) (hz z rA) hp rfl z9 z9;rw[OV,<-fe z rA] at this;exact this
 .have:(List.map Value.ref (zs.map (·.1))).toArray.any (fun v=>decide (∃a,v=Value.ref a/\bW X.K H a (oP w)))=decide (w∈zs.map (·.2)):=by
   rw[List.any_toArray,iA,pe,kG,bo];constructor
   .rintro⟨y,hy,c⟩;rw[dh] at hy;obtain⟨z,rA,rfl⟩:=bo.mp hy;exact⟨z,rA,c_ ((fe z rA).symm.trans c)⟩
   .rintro⟨z,rA,e⟩;exact⟨Value.ref z.1,by rw[dh];exact bo.mpr ⟨z,rA,rfl⟩,(fe z rA).trans (dg e)⟩
  rw[this];exact q
end
abbrev UL:Stmt:=top 58
abbrev UM:Stmt:=top 59
abbrev UN:Stmt:=top 60
theorem GX:(["_law_pair"]:List Str).Nodup:=by decide +kernel
theorem dG:(["_law_house","_law_home","_law_figures","_law_base"]:List Str).Nodup:=by decide +kernel
theorem kv:(["_law_k","_law_far_here"]:List Str).Nodup:=by decide +kernel
theorem GY{K:PySem.W.Frag}{a b:Addr}{xs ys:List V}{g:TG}{tb:TS}{D:sH}{σ:St}{H:Hp}(BE:xs.length=ys.length)(Pv:Nat->St->Hp->Prop)(h0:Pv 0 σ H)(hl:∀i σ H,i<=xs.length->Pv i σ H->bW K H a xs/\bW K H b ys)(hs:∀i x y p σ H,xs[i]?=some x->ys[i]?=some y->Pv i σ H->H p=none->g (.ref p) σ (upd H p (.tup [x,y])) fun σ2 H2=>tb { D with nx:=Pv (i+1),ct:=Pv (i+1),bk:=D.nx } σ2 H2)(hd:∀σ H,Pv xs.length σ H->D.nx σ H):
  ∃W:Nat->Nat->St->Hp->Prop,(∃m,W 0 m σ H)/\∀i m σ H,W i m σ H->
   ((JI K a b).stop i H/\D.nx σ H)\/((JI K a b).go i H/\∃N:St->Hp->Prop,(∀σ' H',N σ' H'->∃m',m'<m/\W (i+1) m' σ' H')/\∀x H',(JI K a b).Hy i H x H'->g x σ H' fun σ2 H2=>tb { D with nx:=N,ct:=N,bk:=D.nx } σ2 H2):=by
 refine⟨fun i m σ H=>m=xs.length-i/\i<=xs.length/\Pv i σ H,⟨xs.length,by simp,ce _,h0⟩,?_⟩;rintro i m σ H ⟨rfl,hi,p⟩;obtain⟨q1,q2⟩:=hl i σ H hi p;by_cases cV:i<xs.length
 .have yi:i<ys.length:=by lia
  refine .inr ⟨⟨xs,ys,xs[i],ys[i],q1,q2,by simp[cV],by simp[yi]⟩,Pv (i+1),fun σ' H' p'=>⟨xs.length-(i+1),by lia,rfl,cV,p'⟩,?_⟩;rintro v H' ⟨pp,x,y,rfl,hn,rfl,Fq,Tb⟩;exact hs i x y pp σ _ (Fq xs q1) (Tb ys q2) p hn
 .have e:i=xs.length:=by lia
  subst e;exact .inl ⟨⟨xs,q1,aI _⟩,hd σ H p⟩
theorem z_{ts:Ts}{homes:List Nat}{st:List (Option Nat)}{i:Nat}:(fE st (i+1)).map (fun j=>(((st.getD j none).getD 0:Nat),homes.getD j 0))=(fE st i).map (fun j=>(((st.getD j none).getD 0:Nat),homes.getD j 0))++if (st.getD i none).isSome then [((st.getD i none).getD 0,homes.getD i 0)] else []:=by
 rw[qi,cn];cases (st.getD i none).isSome <;> rfl
section
variable {P:Program} {w:World} {K:PySem.W.Frag} {mg:Str->Option Value} {base:Heap}
theorem OW:aG ["_law_figures","_law_base","_law_homes","_law_stand","_law_rows"] ["_law_figures","_law_base","_law_homes","_law_stand"] (au UL):=⟨rfl,rfl,rfl,by decide +kernel,rfl,by decide +kernel,by decide +kernel⟩
def GZ:Sp:=fun vs H Q _=>∃ (f b:Nat) (ha sa:Addr) (homes:List Nat) (st:List (Option Nat)),vs=[.int f,.int b,.ref ha,.ref sa]/\Wd f b/\H ha=some (.tup (NV homes))/\H sa=some (.tup (st.map oV))/\nZ (b ^ f) homes st/\∀r H',aK H H'->H' r=some (.lst (NV (dZ (wT f b) homes st st.length)))->Q (.ref r) H'
theorem OX{f:Addr}{fd:FuncData}(F:fW K "_law_fars" "_law_fars" UL f fd)(B2:Il mg)(FA:cB P w K mg base aW 1 "_law_far" ["_law_figures","_law_base","_law_one","_law_other"] Ec):bq P w K mg base aW 2 f fd ["_law_figures","_law_base","_law_homes","_law_stand"] GZ:=by
 refine F.ok OW (fun vs H Q E h=>?_) (fun dR A outer s H vs Q E hr h=>?_)
 .obtain⟨f,b,ha,sa,homes,st,rfl,_⟩:=h;rfl
 .obtain⟨f,b,ha,sa,homes,st,rfl,W,hH,hS,LO,q⟩:=h;refine'⟨_,(ah (d8 (i:=4) (g:=(bQ 0)) (tt:=(lK (mW Im (mW (u7 K) (bj 0) (tC (.int 0))) (tC .bD)))) (te:=(bj 0)) (NB:=["_law_pair"]) (src:=[none]) (bU (by kernel_rfl)) rfl (GW rfl B2.zip (aa (pv 3) (aa (pv 2) ag))) ?g1 ?t1 ?e1 OW.nd rfl rfl rfl)
   (aq (aP ?c2))),?_⟩
  case g1=>exact fun cl C s₃ H₃ fp=>(av (i:=0) GX rfl (Or.inl rfl) (Or.inr rfl))
  case t1=>exact fun cl C s₃ H₃ fp=>gO (aQ sO (bZ fH (pv 0) aB (fun _ _=>rfl)) eO (aT _))
  case e1=>exact fun cl C s₃ H₃ fp=>(pv 0)
  case c2=>
   refine' cT (g:=(pH K 2 (dW (bQ 0) (dW (bQ 1) pG)))) (te:=(nR Ec [] E0 (cA (bj 2) (cA (bj 3) (cA (bj 0) (cA (bj 1) kU)))))) (NB:=["_law_house","_law_home","_law_figures","_law_base"]) (src:=[none,none,some 0,some 1]) (bU (by kernel_rfl)) rfl (cw (pv 4)) ?g ?t ?e;case g=>exact fun cl C s₃ H₃ fp=>(dO (n:=2) rfl (aN (av (i:=0) dG rfl (Or.inl rfl) (Or.inr rfl)) (aN (av (i:=1) dG rfl (Or.inl rfl) (Or.inr rfl)) cL)))
   case t=>exact fun cl C s₃ H₃ fp=>dq
   case e=>exact fun cl C s₃ H₃ fp=>(aF FA hr aJ (aa (pv 2) (aa (pv 3) (aa (pv 0) (aa (pv 1) ag)))))
  have le:=LO.le;refine⟨_,rfl,_,rfl,sa,ha,_,_,rfl,bW.of hS,bW.of hH,by rw[aH,bh,LO.len],fun D hD=>?_⟩;refine pZ (K:=K) (a:=sa) (b:=ha) (xs:=st.map oV) (ys:=NV homes) (by rw[aH,bh,LO.len]) (fun i ys σ H3=>(∃u,σ=[u])/\∃zs:List (Addr×Nat×Nat),ys=zs.map (fun z=>V.ref z.1)/\zs.map (·.2)=(fE st i).map (fun j=>(((st.getD j none).getD 0:Nat),homes.getD j 0))/\(∀z∈zs,H3 z.1=some (.tup [.int (z.2.1:Int),.int (z.2.2:Int)]))/\aK H H3/\H3 D=some (.lst ys)) ⟨⟨_,rfl⟩,[],rfl,rfl,fun z hz=>(nomatch hz),ai hD,af⟩ (fun i ys σ H3 _ ⟨_,_,_,_,_,z,_⟩=>⟨bW.of (z _ _ hS),bW.of (z _ _ hH)⟩) ?_ ?_
  .rintro i x y t ys σ H3 Kt Kf hx hy ⟨⟨u,rfl⟩,zs,rfl,ez,az,sm,l4⟩ ht kt kf;obtain⟨hi,rfl⟩:=uq hx;have hih:i<homes.length:=by rw[LO.len];exact hi
   obtain rfl:y=.int ((homes.getD i 0:Nat):Int):=by rw[kq hih] at hy;exact(a_ hy).symm
   have aw:=ai (o:=.tup [oV (st.getD i none),.int ((homes.getD i 0:Nat):Int)]) ht;have zl:zs.length<=i:=by have:=congrArg List.length ez;rw[aH,aH] at this;rw[this];exact jU
   refine⟨_,rfl,t,_,_,_,rfl,rfl,bW.of af,rfl,rfl,_,rfl,?_⟩;rw[zK];refine il (fun e=>?_) (fun e=>?_)
   .obtain⟨y,ey⟩:=rM.mp e;refine⟨_,rfl,kt _ _ _ (aw _ _ l4) (by rw[aH];exact eA zl (cC (show i<17 by lia) (by decide))) ⟨⟨_,rfl⟩,zs++[(t,y,homes.getD i 0)],by rw[cn];rfl,?_,fun z hz=>?_,bH (sm.trans aw) hD,af⟩⟩
    .rw[cn,ez,z_ (ts:=[]) ,ao e,ey];rfl
    .have nD:∀ {b xs},(upd H3 t (.tup [oV (st.getD i none),.int ((homes.getD i 0:Nat):Int)])) b=some (.tup xs)->b≠D:=fun {b xs} e=>by rintro rfl;rw[aw _ _ l4] at e;cases e
     rcases cX.mp hz with m|m
     .have:=aw _ _ (az z m);rw[am (nD this)];exact this
     .rw[cE.mp m];have u:=af (H:=H3) (a:=t) (o:=.tup [oV (st.getD i none),.int ((homes.getD i 0:Nat):Int)]);show upd _ D _ t=_;rw[am (nD u),u,ey];rfl
   .refine kf _ _ ⟨⟨_,rfl⟩,zs,rfl,?_,fun z hz=>aw _ _ (az z hz),sm.trans aw,aw _ _ l4⟩;rw[ez,z_ (ts:=[]),aj e,iz]
  .rintro ys σ H3 ⟨_,zs,rfl,ez,az,sm,l4⟩;rw[aH] at ez;have zl:zs.length<=16:=by have:=congrArg List.length ez;rw[aH,aH] at this;rw[this];exact aX jU le
   have f5:=W.f5;have b2:=W.b2;have b5:=W.b5;refine⟨_,rfl,D,rfl,⟨_,ba.of l4⟩,fun D2 nF=>?_⟩;refine uB zs (fun z=>V.ref z.1) (fun z=>V.int ((hm b f z.2.1 z.2.2:Nat):Int)) (fun _=>true) (fun σ=>∃u v,σ=[u,v,some (.int (f:Int)),some (.int (b:Int))]) l4 nF (by lia) ⟨_,_,rfl⟩ ?_ ?_
   .rintro z σ H4 Kt Kf hz ⟨u,v,rfl⟩ s4 kt kf;exact⟨z.1,_,rfl,bW.of (s4 _ _ (az z hz)),rfl,_,_,rfl,_,_,rfl,rfl,_,rfl,_,rfl,_,rfl,_,rfl,f,b,_,_,rfl,f5,b2,b5,kt _ _ ⟨_,_,rfl⟩ (aK.refl _) rfl⟩
   .intro H4 s4 yA;rw[rV.mpr fun _ _=>rfl] at yA;refine q D2 H4 (sm.trans s4) ?_;rw[yA];have e1:zs.map (fun z=>V.int ((hm b f z.2.1 z.2.2:Nat):Int))=(zs.map (·.2)).map fun u=>V.int ((hm b f u.1 u.2:Nat):Int):=by rw[dh];rfl
    rw[e1,ez,dh];unfold dZ NV;rw[dh];refine congrArg (fun l=>some (HO.lst l)) (kF fun j hj=>?_);obtain⟨_,y,ey,hy,hh⟩:=LO.at hj;show V.int ((hm b f ((st.getD j none).getD 0) (homes.getD j 0):Nat):Int)=V.int ((far (wT f b) ((st.getD j none).getD 0) (homes.getD j 0):Nat):Int);rw[ey,W.far (show (some y).getD 0<b ^ f from hy) hh]
theorem OY:aG ["_law_fars_here","_law_row"] ["_law_fars_here"] (au UM):=⟨rfl,rfl,rfl,by decide +kernel,rfl,by decide +kernel,by decide +kernel⟩
def G0:Sp:=fun vs H Q _=>∃ (l:Addr) (ds:List Nat),vs=[.ref l]/\H l=some (.lst (NV ds))/\ds.length<=16/\∀M H',aK H H'->ll ds M->Q (.int M) H'
theorem OZ{f:Addr}{fd:FuncData}(F:fW K "_law_measure" "_law_measure" UM f fd)(B:Bl mg)(B2:Il mg):bq P w K mg base aW 1 f fd ["_law_fars_here"] G0:=by
 refine F.ok OY (fun vs H Q E h=>?_) (fun dR A outer s H vs Q E hr h=>?_)
 .obtain⟨l,ds,rfl,_⟩:=h;rfl
 .obtain⟨l,ds,rfl,hl,dl,q⟩:=h;refine'⟨_,(ah (aY (i:=1) OY.nd rfl (Or.inl rfl) (iq qg rfl B.sorted oU (aa (pv 0) ag) (lL ii pL)))
   (aq (aP (aR (rp rfl) (by rfl) B.max oW (aa (a8 sY (dP (aa aB ag)) ?c1) ag))))),?_⟩
  case c1=>
   refine' cT (g:=(pH K 2 (dW (bQ 0) (dW (bQ 1) pG)))) (te:=(mW (By fun i j=>.int (i+j)) (bj 1) (mW (rI Ao fun i j=>.int (i*j)) (tC (.int 2)) (bj 0)))) (NB:=["_law_k","_law_far_here"]) (src:=[none,none]) (bU (by kernel_rfl)) rfl (tI rfl B2.enum (aa (pv 1) ag)) ?g ?t ?e;case g=>exact fun cl C s₃ H₃ fp=>(dO (n:=2) rfl (aN (av (i:=0) kv rfl (Or.inl rfl) (Or.inr rfl)) (aN (av (i:=1) kv rfl (Or.inl rfl) (Or.inr rfl)) cL)))
   case t=>exact fun cl C s₃ H₃ fp=>dq
   case e=>exact fun cl C s₃ H₃ fp=>(a8 g8 (pv 1) (a8 ff aB (pv 0)))
  have Iq:H l=some (.lst ((ds.map fun (d:Nat)=>(d:Int)).map V.int)):=by rw[hl,dh];rfl
  refine⟨_,rfl,l,_,true,rfl,rfl,ba.of Iq,by rw[aH];lia,fun S ns hS pm so=>?_⟩;obtain⟨es,rfl,OO⟩:=v_ pm (f:=fun (d:Nat)=>(d:Int)) rfl;have Ut:es.Pairwise (·>=·):=(i_.mp so).imp fun {a b} h=>by have:(b:Int)<=(a:Int):=h;lia
  have el:es.length<=16:=by rw[OO.length_eq];exact dl
  have sS:=ai (o:=.lst ((es.map fun (d:Nat)=>(d:Int)).map V.int)) hS;have BL:(upd H S (.lst ((es.map fun (d:Nat)=>(d:Int)).map V.int))) S=some (.lst (NV es)):=by rw[af,dh];rfl
  generalize upd H S _=H4 at *;refine⟨by show 1<=sizeLine;decide,fun Z hZ=>?_⟩;have sZ:=ai (o:=.lst [V.int 0]) hZ;have hZ4:(upd H4 Z (.lst [V.int 0])) Z=some (.lst [V.int 0]):=af;have GV:=sZ _ _ BL;have s5:=sS.trans sZ;generalize upd H4 Z _=H5 at *;refine⟨_,rfl,S,_,rfl,GV,fun D2 nF=>?_⟩;refine re (K:=K) (a:=S) (xs:=NV es) (fun i ys σ H6=>(∃u v,σ=[u,v])/\ys=((List.range i).map fun j=>((es.getD j 0+2*j:Nat):Int)).map V.int/\aK H5 H6/\H6 D2=some (.lst ys)) ⟨⟨_,_,rfl⟩,rfl,ai nF,af⟩ (fun i ys σ H6 _ z=>ba.of (z.2.2.1 _ _ GV)) ?_ ?_
  .rintro i x t ys σ H6 Kt Kf hx ⟨⟨u,v,rfl⟩,rfl,sm,BH⟩ ht kt kf;have hi:i<es.length:=by have:=(dS.mp hx).1;rwa [bh] at this
   obtain rfl:x=.int ((es.getD i 0:Nat):Int):=by rw[kq hi] at hx;exact(a_ hx).symm
   have aw:=ai (o:=.tup [.int (i:Int),.int ((es.getD i 0:Nat):Int)]) ht;refine⟨_,_,rfl,bW.of af,rfl,_,_,rfl,_,_,rfl,rfl,?_⟩;refine⟨_,rfl,_,rfl,_,_,rfl,rfl,.inl ⟨by decide,by decide⟩,_,_,rfl,rfl,kt _ _ _ (aw _ _ BH) (by rw[aH,aH,fK];exact cC (show i<17 by lia) (by decide)) ⟨⟨_,_,rfl⟩,?_,bH (sm.trans aw) nF,af⟩⟩;rw[iS,cn,cn];rfl
  .rintro ys σ H6 ⟨_,rfl,sm,BH⟩;rw[bh] at BH;refine⟨Z,D2,_,_,rfl,rfl,sm _ _ hZ4,BH,?_,fun C hC=>?_⟩
   .simp;exact aX (show 1+es.length<=17 by lia) (by decide)
   have sC:=ai (o:=.lst ([V.int 0]++((List.range es.length).map fun j=>((es.getD j 0+2*j:Nat):Int)).map V.int)) hC;refine⟨C,0::(List.range es.length).map fun j=>((es.getD j 0+2*j:Nat):Int),rfl,ba.of af,by simp,fun M hm ha=>q M _ (s5.trans (sm.trans sC)) ⟨es,OO,Ut,?_⟩⟩;have al:∀i,i<es.length->((es.getD i 0+2*i:Nat):Int)<=M:=fun i hi=>ha _ (bP _ (bo.mpr ⟨i,bu.mpr hi,rfl⟩));rcases aS.mp hm with e|e
   .by_cases z:es=[]
    .exact .inl ⟨z,e⟩
    .have h0:0<es.length:=List.length_pos_iff.mpr z;have:=al 0 h0;exact .inr ⟨⟨0,h0,by lia⟩,al⟩
   .obtain⟨i,hi,e⟩:=bo.mp e;exact .inr ⟨⟨i,bu.mp hi,e.symm⟩,al⟩
theorem G4:aG ["_law_figures","_law_base","_law_stand","_law_handing","_law_steps","_law_house","_law_other"] ["_law_figures","_law_base","_law_stand","_law_handing"] (au UN):=⟨rfl,rfl,rfl,by decide +kernel,rfl,by decide +kernel,by decide +kernel⟩
def KZ:Sp:=fun vs H Q _=>∃ (f b:Nat) (sa fa:Addr) (st fs:List (Option Nat)),vs=[.int f,.int b,.ref sa,.ref fa]/\Wd f b/\H sa=some (.tup (st.map oV))/\H fa=some (.tup (fs.map oV))/\Hd (b ^ f) (wT f b) st fs/\(∀i y,st.getD i none=some y->y<b ^ f)/\st.length<=16/\∀H',aK H H'->Q (.bl true) H'
theorem O0{f:Addr}{fd:FuncData}(F:fW K "_law_is_handing" "_law_is_handing" UN f fd)(B:Bl mg)(B2:Il mg)(FA:cB P w K mg base aW 1 "_law_far" ["_law_figures","_law_base","_law_one","_law_other"] Ec):bq P w K mg base aW 2 f fd ["_law_figures","_law_base","_law_stand","_law_handing"] KZ:=by
 refine F.ok G4 (fun vs H Q E h=>?_) (fun dR A outer s H vs Q E hr h=>?_)
 .obtain⟨f,b,sa,fa,st,fs,rfl,_⟩:=h;rfl
 .obtain⟨f,b,sa,fa,st,fs,rfl,W,hS,hF,HD,lG,iZ,q⟩:=h;refine⟨_,(ah (cr (PW.pt (uQ (gc (fc (aR io (by rfl) B.JT oM (aa (pv 3) (aa (jM (v:=.ty "tuple") rfl B.tup oR rfl) ag))))) (sJ (aQ nQ (aR aV (by rfl) B.len fN (aa (pv 3) ag)) (aR aV (by rfl) B.len fN (aa (pv 2) ag)) (aT _))))) (aq (aP ii)) be)
   (ah (aY (i:=4) G4.nd rfl (Or.inl rfl) (dP ag))
   (ah (dA eK rfl (tR rfl B2.zip (aa (pv 2) (aa (pv 3) ag))) (dO (n:=2) rfl (aN (av (i:=5) G4.nd rfl (Or.inl rfl)) (aN (av (i:=6) G4.nd rfl (Or.inl rfl)) cL)))
    (ah (cr (aQ sL (pv 5) eO (aT _)) (aq (cr (aQ sO (pv 6) eO (aT _)) (aq (aP ii)) be)) (aq (cr (PW.pt (uQ (aQ sL (pv 6) eO (aT _)) (uQ (aQ nQ (aF FA hr aJ (aa (pv 0) (aa (pv 1) (aa (pv 5) (aa (pv 6) ag))))) aB (aT _)) (sJ (aQ (KY hr.u) (iH (aa (pv 5) (aa (pv 6) ag))) (pv 4) rfl))))) (aq (aP ii)) be)))
    (aq (cu (ka j5 lw lu cY (pv 4) (aa (iH (aa (pv 5) (aa (pv 6) ag))) ag))))))
   (aq (aP ii))))),?_⟩
  have hl:=HD.len;refine⟨_,rfl,_,_,_,.type "tuple",true,rfl,⟨rfl,by kernel_rfl⟩,.of (.tup hF),_,rfl,fT ?_⟩;refine⟨_,rfl,fa,_,rfl,.inr (bW.of hF),_,rfl,sa,_,rfl,.inr (bW.of hS),rfl,_,rfl,?_⟩;rw[aH,aH,hl];refine l6 (by simp) ?_;refine⟨by show 0<=sizeLine;decide,fun SP Xn=>?_⟩;have s0:=ai (o:=.lst []) Xn;refine⟨_,rfl,_,rfl,sa,fa,_,_,rfl,bW.of (s0 _ _ hS),bW.of (s0 _ _ hF),by rw[aH,aH,hl],?_⟩;refine GY (K:=K) (xs:=st.map oV) (ys:=fs.map oV) (by rw[aH,aH,hl]) (fun i σ H3=>(∃u v,σ=[some (.int (f:Int)),some (.int (b:Int)),some (.ref sa),some (.ref fa),some (.ref SP),u,v])/\∃zs:Os,zs.map (·.2)=(List.range i).map (fun j=>(st.getD j none,fs.getD j none))/\H3 SP=some (.lst (zs.map fun z=>V.ref z.1))/\(∀z∈zs,H3 z.1=some (.tup (oP z.2)))/\aK H H3) ⟨⟨_,_,rfl⟩,[],rfl,af,fun z hz=>(nomatch hz),s0⟩ (fun i σ H3 _ ⟨_,_,_,_,_,z⟩=>⟨bW.of (z _ _ hS),bW.of (z _ _ hF)⟩) ?_ ?_
  .rintro i x y t σ H3 hx hy ⟨⟨u,v,rfl⟩,zs,ez,hP,az,sm⟩ ht;obtain⟨hi,rfl⟩:=uq hx;obtain⟨qL,rfl⟩:=uq hy;have aw:=ai (o:=.tup [oV (st.getD i none),oV (fs.getD i none)]) ht;have zl:zs.length=i:=by have:=congrArg List.length ez;rwa [aH,aH,fK] at this
   refine⟨t,_,rfl,bW.of af,rfl,_,_,rfl,_,_,rfl,rfl,?_⟩;have Xo:=aw _ _ hP;have Xp:∀z∈zs,(upd H3 t (.tup [oV (st.getD i none),oV (fs.getD i none)])) z.1=some (.tup (oP z.2)):=fun z hz=>aw _ _ (az z hz);have BG:=sm.trans aw;generalize upd H3 t _=H4 at *;refine p_ (fun σ H5=>σ=[some (.int (f:Int)),some (.int (b:Int)),some (.ref sa),some (.ref fa),some (.ref SP),some (oV (st.getD i none)),some (oV (fs.getD i none))]/\aK H4 H5) ?_ ?_
   .rintro σ H5 ⟨rfl,s5⟩;have Xq:=s5 _ _ Xo;refine⟨_,rfl,.inl ⟨rfl,_,ba.of Xq⟩,_,rfl,_,rfl,by show 2<=sizeLine;decide,fun t' Dm=>?_⟩;have sT:=ai (o:=.tup [oV (st.getD i none),oV (fs.getD i none)]) Dm;have Xr:=sT _ _ Xq;have nT:∀ {b xs},(upd H5 t' (.tup [oV (st.getD i none),oV (fs.getD i none)])) b=some (.tup xs)->b≠SP:=fun {b xs} e=>by rintro rfl;rw[Xr] at e;cases e
    refine⟨SP,_,_,rfl,rfl,Xr,by rw[aH,zl];exact cC (show i<17 by lia) (by decide),⟨_,_,rfl⟩,zs++[(t',st.getD i none,fs.getD i none)],?_,?_,fun z hz=>?_,bH ((BG.trans s5).trans sT) Xn⟩
    .rw[cn,ez,iS,cn];rfl
    .rw[af,cn];rfl
    .rcases cX.mp hz with m|m
     .have:=sT _ _ (s5 _ _ (Xp z m));rw[am (nT this)];exact this
     .rw[cE.mp m];have u:=af (H:=H5) (a:=t') (o:=.tup [oV (st.getD i none),oV (fs.getD i none)]);show upd _ SP _ t'=_;rw[am (nT u),u]
   .intro N hN;cases e:st.getD i none with
    |none=>
     rw[HD.bD i e];rw[e,HD.bD i e] at hN;refine⟨_,rfl,rfl,_,rfl,il (fun _=>?_) (fun z=>absurd rfl z)⟩;refine⟨_,rfl,rfl,_,rfl,il (fun z=>(nomatch z)) (fun _=>hN _ _ ⟨rfl,aK.refl _⟩)⟩
    |some y=>
     obtain⟨x,ex,ox⟩:=HD.out i y e;rw[ex];rw[e,ex] at hN;have hy:=lG i y e;have t1:=(W.tie.mp ((dE W.gm hy).mp ox)).2.2;refine⟨_,rfl,rfl,_,rfl,il (fun z=>(nomatch z)) (fun _=>?_)⟩;refine⟨_,rfl,rfl,_,rfl,il (fun z=>(nomatch z)) (fun _=>?_)⟩;refine⟨_,rfl,_,rfl,_,rfl,_,rfl,f,b,y,x,rfl,W.f5,W.b2,W.b5,rfl,_,rfl,?_⟩;rw[t1];refine l6 (by rfl) ?_;refine⟨_,rfl,_,rfl,by show 2<=sizeLine;decide,fun t' Dm=>?_⟩;have sT:=ai (o:=.tup [oV (some y),oV (some x)]) Dm;refine⟨_,rfl,t',SP,(some y,some x),zs,rfl,rfl,bW.of af,ba.of (sT _ _ Xo),fun z hz=>bW.of (sT _ _ (Xp z hz)),_,rfl,?_⟩;rw[eD]
     .exact fT (hN _ _ ⟨rfl,sT⟩)
     .rw[ez];intro m;obtain⟨j,hj,ej⟩:=bo.mp m;have hj:=bu.mp hj;have e1:st.getD j none=some y:=congrArg Prod.fst ej;have e2:fs.getD j none=some x:=congrArg Prod.snd ej;exact HD.inj j i x (by lia) e2 ex (e1.trans e.symm)
  .rintro σ H3 ⟨⟨u,v,rfl⟩,zs,_,_,_,sm⟩;exact q H3 sm
end
abbrev UO:Stmt:=top 16
abbrev UP:Stmt:=top 62
abbrev yJ:Stmt:=top 63
theorem nJ:(["handing","homes"]:List Str).Nodup:=by decide +kernel
theorem nK:(["_law_one","_law_net","_law_homes"]:List Str).Nodup:=by decide +kernel
def jK(H:Hp)(a:Addr)(as:List Addr)(N:Nat)(o:Nat->List (Option Nat)):Prop:=H a=some (.lst (as.map V.ref))/\Holds H as N (fun k=>.tup ((o k).map oV))
theorem jK.same{H H':Hp}{a:Addr}{as:List Addr}{N:Nat}{o:Nat->List (Option Nat)}(h:jK H a as N o)(s:aK H H'):jK H' a as N o:=⟨s _ _ h.1,h.2.mono fun j _ e=>s _ _ e⟩
theorem O1{X:Cx}{H:Hp}{o:Option Nat}:QU X H 0 (oV o) (oV o):=by
 intro ae s σ A u v I hu rx ry;have h:=sU (A:=A) (s:=s) rx ry (by cases o <;> rfl) (by cases o <;> rfl);rw[show jt (oV o) (oV o)=true by cases o <;> simp[oV,jt]] at h;exact h
theorem K0{X:Cx}{H:Hp}{os:List (Option Nat)}:∀i,i<(os.map oV).length->i<(os.map oV).length->QU X H 0 ((os.map oV).getD i .bD) ((os.map oV).getD i .bD):=fun i h1 _=>by
 rw[aH] at h1;rw[b9,bi,bT h1];exact O1
theorem qo{ds:List Nat}{M N:Int}(hb:∀d∈ds,1<=d)(p:ll ds M)(q:ll ds N):M=N:=by
 have le:∀ {M N:Int},ll ds M->ll ds N->M<=N:=fun {M N} p q=>by
  rcases DX hb p with ⟨z,e⟩|⟨a,_,c,l⟩
  .subst z;obtain⟨es,pm,_,r⟩:=q;have:=pm.length_eq;rcases r with ⟨_,e'⟩|⟨⟨i,hi,_⟩,_⟩
   .lia
   .simp at this;subst this;simp at hi
  .exact Int.le_trans l (yD q c)
 exact Int.le_antisymm (le p q) (le q p)
theorem uD{ds:List Nat}{M:Int}{t:Nat}(hb:∀d∈ds,d<=t)(p:ll ds M):0<=M/\M<=(t:Int)+2*((ds.length-1:Nat):Int):=by
 obtain⟨es,pm,_,r⟩:=p;have e:=pm.length_eq;rcases r with ⟨_,e'⟩|⟨⟨i,hi,e'⟩,_⟩
 .lia
 .have:=hb _ (pm.mem_iff.mp (by rw[fV hi];exact eC _):es.getD i 0∈ds);lia
theorem uE{M:Int}(p:ll [] M):M=0:=by
 obtain⟨es,pm,_,r⟩:=p;rcases r with ⟨_,e'⟩|⟨⟨i,hi,_⟩,_⟩
 .exact e'
 .have:=pm.length_eq;simp at this;subst this;simp at hi
theorem G5{xs:List V}{z:V}:lO (xs++[z]) (some (-1)) none=[z]:=by
 have h1:HT.qH (xs++[z]).length 0 (some (-1))=xs.length:=by
  unfold HT.qH;simp;try lia
 have h2:HT.qH (xs++[z]).length (xs++[z]).length none=(xs++[z]).length:=rfl;unfold lO;rw[h1,h2,List.drop_left,rN (by simp)]
theorem bK.kn{C px:Addr}{H H':Hp}{L:Addr->Prop}{n:Nat}{ts:Ts}(N:bK C H L px n ts)(s:∀b o,H b=some o->v3 o->H' b=some o):∃L',bK C H' L' px n ts:=by
 obtain⟨dx,tl,ol,ds,i0,_⟩:=N.ob;exact⟨_,N.QW.keep (H':=H') (fun b o l e=>by obtain⟨_,o',e',n⟩:=l;rw[e] at e';cases e';exact s _ _ e n) (fun o e=>s _ _ e (by rw[i0] at e;cases e;intro ps z;cases z))⟩
theorem Aa{n:Nat}{ts:Ts}{homes:List Nat}{st:List (Option Nat)}(F:eU n ts)(S:eI n ts homes st):∀d∈dZ ts homes st st.length,1<=d/\d<=31:=fun d hd=>by
 obtain⟨j,hj,rfl⟩:=bo.mp hd;have h1:=S.Gx F hj;obtain⟨a,b⟩:=gT hj;have e:=S.ss j _ (by rw[gR (d:=none) a,b]);have hl:j<homes.length:=by rw[S.len];exact a
 have:=Ki F e.1 (S.hs (homes.getD j 0) (by rw[fV hl];exact eC _));have:=F.n2;exact⟨h1,by lia⟩
theorem Wd.O2{f b:Nat}{homes:List Nat}{st:List (Option Nat)}{k:Nat}{M M':Int}(W:Wd f b)(S:eI (b ^ f) (wT f b) homes st)(iZ:st.length<=16)(lv:BK (jV (b ^ f) (wT f b) homes st k)=true)(p:ll (dZ (wT f b) homes (jV (b ^ f) (wT f b) homes st k) (jV (b ^ f) (wT f b) homes st k).length) M)(p':ll (dZ (wT f b) homes (jV (b ^ f) (wT f b) homes st (k+1)) (jV (b ^ f) (wT f b) homes st (k+1)).length) M'):M'<M:=by
 obtain⟨Sk,lk⟩:=S.run W.gm k;exact Bm W.gm W.sym W.good Sk (nI Sk) (KC Sk (by rw[lk];exact iZ)) p p' (oJ.mp lv)
section
variable {P:Program} {w:World} {K:PySem.W.Frag} {mg:Str->Option Value} {base:Heap}
def Ej(K:PySem.W.Frag)(H:Hp)(a:Addr)(xs:List V):Prop:=(∃o,H a=some (.uJ o (.lst xs)))\/(∀H':Hp,ba K H' a xs)
theorem Ej.seq{H:Hp}{a:Addr}{xs:List V}(h:Ej K H a xs):ba K H a xs:=by
 rcases h with ⟨o,h⟩|h
 .exact .inl (.inr ⟨o,h⟩)
 .exact h H
theorem Ej.mono{H H':Hp}{a:Addr}{xs:List V}(h:Ej K H a xs)(e:∀o u,H a=some (.uJ o u)->H' a=some (.uJ o u)):Ej K H' a xs:=by
 rcases h with ⟨o,h⟩|h
 .exact .inl ⟨o,e _ _ h⟩
 .exact .inr h
theorem _root_.L2.bR.rG{lp:Pos}{q:Str}{p Pt:Addr}{H H':Hp}(t:bR lp q Pt H)(s:bJ p H H')(hp:cR H p):bR lp q Pt H':=by
 obtain⟨a,b,e,_⟩:=hp;rcases t with z|⟨c,z,y⟩
 .exact .inl (s _ _ z (by rintro rfl;rw[z] at e;cases e))
 .exact .inr ⟨c,s _ _ z (by rintro rfl;rw[z] at e;cases e),s _ _ y (by rintro rfl;rw[y] at e;cases e)⟩
theorem Ej.Iy{H H':Hp}{a p:Addr}{xs:List V}(h:Ej K H a xs)(s:bJ p H H')(hp:cR H p):Ej K H' a xs:=by
 obtain⟨x,y,e,_⟩:=hp;exact h.mono fun o u z=>s _ _ z (by rintro rfl;rw[z] at e;cases e)
theorem UQ:aG ["homes","stand","log"] ["homes","stand","log"] (au UO):=⟨rfl,rfl,rfl,by decide +kernel,rfl,by decide +kernel,by decide +kernel⟩
def K1:Sp:=fun vs H Q _=>∃ (ha sa LA:Addr) (n:Nat) (ts:Ts) (homes:List Nat) (st:List (Option Nat)) (N:Nat) (as:List Addr),vs=[.ref ha,.ref sa,.ref LA]/\H ha=some (.tup (NV homes))/\H sa=some (.tup (st.map oV))/\eU n ts/\eI n ts homes st/\st.length<=16/\N<=500/\jK H LA as N (uM n ts homes st)/\∀ (r:Addr) (bs:List Addr) (H':Hp),aK H H'->H r=none->jK H' r bs (N+1) (jV n ts homes st)->Q (.ref r) H'
theorem O4{f:Addr}{fd:FuncData}(F:fW K "stands_of" "stands_of" UO f fd)(SB:cB P w K mg base aW 1 "stand_behind" ["homes","handing"] v6):bq P w K mg base aW 2 f fd ["homes","stand","log"] K1:=by
 refine F.ok UQ (fun vs H Q E h=>?_) (fun dR A outer s H vs Q E hr h=>?_)
 .obtain⟨ha,sa,LA,n,ts,homes,st,N,as,rfl,_⟩:=h;rfl
 .obtain⟨ha,sa,LA,n,ts,homes,st,N,as,rfl,hH,hS,FN,SG,iZ,aaa,rl,q⟩:=h;have hl:∀k,(uM n ts homes st k).length=st.length:=fun k=>by rw[(nI (SG.run FN k).1).len,(SG.run FN k).2]
  have h1:bA 1 _:=hr;refine'⟨_,(aq (aP (a8 sY (dP (aa (pv 1) ag)) ?c1))),?_⟩;case c1=>
   refine' cT (g:=(bQ 0)) (te:=(nR v6 [] E0 (cA (bj 1) (cA (bj 0) kU)))) (NB:=["handing","homes"]) (src:=[none,some 0]) (bU (by kernel_rfl)) rfl (cw (pv 2)) ?g ?t ?e;case g=>exact fun cl C s₃ H₃ fp=>(av (i:=0) nJ rfl (Or.inl rfl) (Or.inr rfl))
   case t=>exact fun cl C s₃ H₃ fp=>dq
   case e=>exact fun cl C s₃ H₃ fp=>(aF SB h1 aJ (aa (pv 1) (aa (pv 0) ag)))
  refine⟨_,rfl,by show 1<=sizeLine;decide,fun L1 Ik=>?_⟩;have s1:=ai (o:=.lst [.ref sa]) Ik;have UR:=rl.same s1;refine⟨_,rfl,LA,rfl,⟨_,ba.of UR.1⟩,fun D hD=>?_⟩;refine fg (xs:=as.map V.ref) (fun i ys σ H2=>(∃x,σ=[x,some (.ref ha)])/\aK (upd H L1 (.lst [.ref sa])) H2/\∃bs:List Addr,ys=bs.map V.ref/\H2 D=some (.lst ys)/\Holds H2 bs i (fun k=>.tup ((jV n ts homes st (k+1)).map oV))) ⟨⟨_,rfl⟩,ai hD,[],rfl,af,Holds.nil⟩ (fun i ys σ H2 _ z=>ba.of (UR.same z.2.1).1) ?_ ?_
  .rintro i x ys σ H2 Kt Kf hx ⟨⟨x0,rfl⟩,s2,bs,rfl,nF,ho⟩ kt kf;have hi:i<as.length:=by have:=(dS.mp hx).1;rwa [aH] at this
   rw[bi,bT hi] at hx;obtain rfl:=a_ hx;have Xs:=UR.same s2;have hk:=Xs.2.2 i (by rw[<-Xs.2.1];exact hi);rw[b9,bT hi] at hk;refine⟨_,rfl,_,rfl,ha,as[i],homes,_,rfl,s2 _ _ (s1 _ _ hH),hk,by rw[hl];exact SG.len,by rw[hl];exact iZ,fun t H3 s3 ht=>?_⟩;have l4:=s3 _ _ nF;have kp:∀ {b xs u},H3 b=some (.tup xs)->(upd H3 D u) b=some (.tup xs):=fun {b xs u} e=>by rw[am (by rintro rfl;rw[l4] at e;cases e)];exact e
   refine kt _ _ _ l4 (by rw[aH,ho.1];exact cC (show i<501 by have:=rl.2.1;lia) (by decide)) ⟨⟨_,rfl⟩,bH (s2.trans s3) hD,bs++[t],by rw[cn];rfl,af,(ho.mono fun j _ e=>kp (s3 _ _ e)).snoc (kp ht)⟩
  .rintro ys σ H2 ⟨_,s2,bs,rfl,nF,ho⟩;rw[aH,rl.2.1] at ho;refine⟨L1,D,_,_,rfl,rfl,s2 _ _ af,nF,?_,fun p hp=>?_⟩
   .rw[aH,ho.1];exact aX (show 1+N<=501 by lia) (by decide)
   have s3:=s2.trans (ai (o:=.lst ([.ref sa]++bs.map V.ref)) hp);refine q p (sa::bs) _ (s1.trans s3) ((s1.trans s2).free hp) ⟨af,by rw[dv,ho.1],fun j hj=>?_⟩;cases j with
   |zero=>exact s3 _ _ (s1 _ _ hS)
   |succ j=>exact ai hp _ _ (ho.2 j (Nat.lt_of_succ_lt_succ hj))
theorem wb:aG ["_law_net","_law_figures","_law_base","_law_homes","_law_stand","_law_log","_law_first","_law_left","_law_beat","_law_handing","_law_more"] ["_law_net","_law_figures","_law_base","_law_homes","_law_stand","_law_log"] (au UP):=⟨rfl,rfl,rfl,by decide +kernel,rfl,by decide +kernel,by decide +kernel⟩
def K2(C PN:Addr):Sp:=fun vs H Q _=>∃ (L:Addr->Prop) (px ha sa LA:Addr) (f b:Nat) (homes:List Nat) (st:List (Option Nat)) (N:Nat) (as:List Addr),vs=[.ref px,.int f,.int b,.ref ha,.ref sa,.ref LA]/\Wd f b/\bK C H L px (b ^ f) (wT f b)/\H ha=some (.tup (NV homes))/\H sa=some (.tup (st.map oV))/\eI (b ^ f) (wT f b) homes st/\st.length<=16/\Ul homes (GC (b ^ f) (wT f b) homes) st 500 N/\jK H LA as N (uM (b ^ f) (wT f b) homes st)/\bS PN H/\∀H',bS PN H'->bN PN H H'->BK (jV (b ^ f) (wT f b) homes st N)=false->Q (.bl true) H'
theorem O5{f C CN CI PN:Addr}{fd:FuncData}(F:fW K "_law_falls" "_law_falls" UP f fd)(B:Bl mg)(B2:Il mg)(R:OF P w K mg base C CN CI PN)(FS:cB P w K mg base aW 2 "_law_fars" ["_law_figures","_law_base","_law_homes","_law_stand"] GZ)(LM:cB P w K mg base aW 1 "_law_measure" ["_law_fars_here"] G0)(ME:cB P w K mg base aW 6 "measure" ["net","homes","stand"] (wa C))(IH:cB P w K mg base aW 2 "_law_is_handing" ["_law_figures","_law_base","_law_stand","_law_handing"] KZ)(HA:cB P w K mg base aW 10 "hand" ["rule","net","homes","stand","beat"] (ql C CN PN))(LB:cB P w K mg base aW 1 "_law_behind" ["_law_homes","_law_handing"] v6):bq P w K mg base aW 11 f fd ["_law_net","_law_figures","_law_base","_law_homes","_law_stand","_law_log"] (K2 C PN):=by
 refine F.ok wb (fun vs H Q E h=>?_) (fun dR A outer s H vs Q E hr h=>?_)
 .obtain⟨L,px,ha,sa,LA,f,b,homes,st,N,as,rfl,_⟩:=h;rfl
 .obtain⟨L,px,ha,sa,LA,f,b,homes,st,N,as,rfl,W,NA,hH,hS,SG,iZ,RN,rl,tb,q⟩:=h;have h1:bA 1 _:=hr.mono (by decide);have h2:bA 2 _:=hr.mono (by decide);have h6:bA 6 _:=hr.mono (by decide);have FN:=W.gm;refine⟨_,(ah (aY (i:=6) wb.nd rfl (Or.inl rfl) (aF LM h1 aJ (aa (aF FS h2 aJ (aa (pv 1) (aa (pv 2) (aa (pv 3) (aa (pv 4) ag))))) ag)))
   (ah (aY (i:=7) wb.nd rfl (Or.inl rfl) (pv 6))
   (ah (dA eK rfl (tI rfl B2.enum (aa (pv 5) ag)) (dO (n:=2) rfl (aN (av (i:=8) wb.nd rfl (Or.inl rfl)) (aN (av (i:=9) wb.nd rfl (Or.inl rfl)) cL)))
    (ah (cr (PW.pt (uQ (gc (fc (aF IH h2 aJ (aa (pv 1) (aa (pv 2) (aa (pv 4) (aa (pv 9) ag))))))) (sJ (aQ nQ (aF ME h6 aJ (aa (pv 0) (aa (pv 3) (aa (pv 4) ag)))) (pv 7) (aT _))))) (aq (aP ii)) be)
    (ah (cr (aQ (Gm (d:=0) hr.u) (aF HA hr aJ (aa (DE R.new rfl R.n.QO) (aa (pv 0) (aa (pv 3) (aa (pv 4) (aa (pv 8) ag)))))) (pv 9) (aT _)) (aq (aP ii)) be)
    (ah (aY (i:=4) wb.nd rfl (Or.inl rfl) (aF LB h1 aJ (aa (pv 3) (aa (pv 9) ag))))
    (ah (aY (i:=10) wb.nd rfl (Or.inl rfl) (aF LM h1 aJ (aa (aF FS h2 aJ (aa (pv 1) (aa (pv 2) (aa (pv 3) (aa (pv 4) ag))))) ag)))
    (ah (cr (aQ HB (pv 10) (pv 7) (aT _)) (aq (aP ii)) be)
    (aq (aY (i:=7) wb.nd rfl (Or.inl rfl) (pv 10)))))))))
   (aq (aP (jq (gK j_ (pv 7) aB (aT _)) (jq (gK Ca (aR aV (by rfl) B.len fN (aa (pv 5) ag)) (pv 6) (aT _)) (mU (gK j_ (aF ME h6 aJ (aa (pv 0) (aa (pv 3) (aa (pv 4) ag)))) aB (aT _)))))))))),?_⟩
  have dl:∀k,(dZ (wT f b) homes (jV (b ^ f) (wT f b) homes st k) (jV (b ^ f) (wT f b) homes st k).length).length<=16:=fun k=>aX qj (by rw[(SG.run FN k).2];exact iZ);refine⟨_,rfl,_,rfl,_,rfl,_,rfl,f,b,ha,sa,homes,st,rfl,W,hH,hS,SG.let iZ,fun r1 H1 s1 Bd=>⟨r1,_,rfl,Bd,dl 0,fun M0 H2 s2 Xt=>?_⟩⟩;have tp0:=uD (t:=31) (fun d hd=>(Aa FN SG d hd).2) Xt;have dl0:(dZ (wT f b) homes st st.length).length<=16:=dl 0;have Q5:=s1.trans s2;refine⟨_,rfl,_,rfl,LA,_,rfl,Q5 _ _ rl.1,?_⟩;have O6:N<=500:=by
   rcases sw 500 N with z|z
   .have:=(RN.al 500 z).1;lia
   .exact z
  refine CY (K:=K) (a:=LA) (xs:=as.map V.ref) (fun k σ H3=>∃ (wx:Addr) (M:Int),(∃x8 x9 Iz,σ=[some (.ref px),some (.int (f:Int)),some (.int (b:Int)),some (.ref ha),some (.ref wx),some (.ref LA),some (.int M0),some (.int M),x8,x9,Iz])/\bN PN H H3/\bS PN H3/\H3 wx=some (.tup ((jV (b ^ f) (wT f b) homes st k).map oV))/\ll (dZ (wT f b) homes (jV (b ^ f) (wT f b) homes st k) (jV (b ^ f) (wT f b) homes st k).length) M/\M+(k:Int)<=M0) ⟨sa,M0,⟨_,_,_,rfl⟩,bN.of Q5,tb.same Q5,Q5 _ _ hS,Xt,by lia⟩ (fun i σ H3 _ ⟨_,_,_,z,_⟩=>ba.of (z _ _ rl.1 (tb.not rl.1 (by intro ps z;cases z)))) ?_ ?_
  .rintro k x t σ H3 hx ⟨wx,M,⟨x8,x9,Iz,rfl⟩,s3,t3,Q6,mp,mk⟩ ht;have hk:k<as.length:=by have:=(dS.mp hx).1;rwa [aH] at this
   rw[bi,bT hk] at hx;obtain rfl:=a_ hx;have Xu:k<N:=by rw[<-rl.2.1];exact hk
   have GE:H as[k]=some (.tup ((uM (b ^ f) (wT f b) homes st k).map oV)):=by
    have:=rl.2.2 k Xu;rwa [b9,bT hk] at this
   have lv:=(RN.al k Xu).2;obtain⟨Sk,lk⟩:=SG.run FN k;have sT:=ai (o:=.tup [.int (k:Int),.ref as[k]]) ht;have k4:∀ {b o},H b=some o->v3 o->(upd H3 t (.tup [.int (k:Int),.ref as[k]])) b=some o:=fun e n=>sT _ _ (s3 _ _ e (tb.not e n));refine⟨t,_,rfl,bW.of af,rfl,_,_,rfl,_,_,rfl,rfl,?_⟩;have s4:bN PN H (upd H3 t (.tup [.int (k:Int),.ref as[k]])):=s3.trans (bN.of sT);have t4:=t3.same sT;have BL:=sT _ _ Q6;generalize upd H3 t _=H4 at *;have Xv:=k4 GE (by intro ps z;cases z);have Xw:=k4 hH (by intro ps z;cases z);obtain⟨L4,N4⟩:=NA.kt tb s4;refine p_ (fun σ H5=>σ=[some (.ref px),some (.int (f:Int)),some (.int (b:Int)),some (.ref ha),some (.ref wx),some (.ref LA),some (.int M0),some (.int M),some (.int (k:Int)),some (.ref as[k]),Iz]/\aK H4 H5) ?_ ?_
   rotate_left
   .intro Nx hN;refine⟨_,rfl,_,rfl,_,rfl,_,rfl,f,b,wx,as[k],_,_,rfl,W,BL,Xv,nI Sk,fun i y e=>(Sk.ss i y (by rw[gR (d:=none) (rC e),e])).1,by rw[lk];exact iZ,fun H5 s5=>⟨_,rfl,fT ?_⟩⟩;refine⟨_,rfl,_,rfl,_,rfl,L4,px,_,_,ha,wx,homes,_,rfl,N4.same s5,⟨s5 _ _ Xw,s5 _ _ BL,Sk.let (by rw[lk];exact iZ)⟩,fun M' H6 s6 ET=>⟨_,rfl,?_⟩⟩;obtain rfl:=qo (fun d hd=>(Aa FN Sk d hd).1) mp ET;exact⟨rfl,_,rfl,l6 (by simp) (hN _ _ ⟨rfl,s5.trans s6⟩)⟩
   rintro σ H5 ⟨rfl,s5⟩;have t5:=t4.same s5;have Xx:=s4.trans (bN.of s5);obtain⟨L5,N5⟩:=NA.kt tb Xx;have GV:=s5 _ _ BL;have US:=s5 _ _ Xv;have Q4:=s5 _ _ Xw;refine p_ (fun σ H6=>σ=[some (.ref px),some (.int (f:Int)),some (.int (b:Int)),some (.ref ha),some (.ref wx),some (.ref LA),some (.int M0),some (.int M),some (.int (k:Int)),some (.ref as[k]),Iz]/\bN PN H5 H6/\bS PN H6) ?_ ?_
   rotate_left
   .intro Nx hN;refine fun y dx ny Op Oq=>?_;have sN:aK H5 (upd (upd H5 dx (.own y)) y (.ins CN dx [])):=(ai (o:=.own y) Op).trans (ai (D:=y) (o:=.ins CN dx []) (by rw[am Oq.symm];exact ny));have gy:(upd (upd H5 dx (.own y)) y (.ins CN dx [])) y=some (.ins CN dx []):=af;generalize upd (upd H5 dx (.own y)) y (.ins CN dx [])=HM at *;refine⟨_,rfl,_,rfl,_,rfl,_,rfl,L5,y,px,ha,wx,_,_,_,homes,_,rfl,⟨dx,gy⟩,N5.same sN,sN _ _ Q4,sN _ _ GV,Sk.let (by rw[lk];exact iZ),t5.same sN,fun t' H6 t6 s6 nt Dm=>?_⟩;have hF6:=s6 _ _ (sN _ _ US) ((t5.same sN).not (sN _ _ US) (by intro ps z;cases z));exact⟨_,rfl,t',as[k],_,_,rfl,rfl,bW.of Dm,bW.of hF6,rfl,K0,_,rfl,l6 rfl (hN _ _ ⟨rfl,(bN.of sN).trans s6,t6⟩)⟩
   rintro σ H6 ⟨rfl,s6,t6⟩;have k6:∀ {b o},H5 b=some o->v3 o->H6 b=some o:=fun e n=>s6 _ _ e (t5.not e n);have hl:(uM (b ^ f) (wT f b) homes st k).length=st.length:=by rw[(nI Sk).len,lk]
   have KS:=k6 Q4 (by intro ps z;cases z);refine⟨_,rfl,_,rfl,ha,as[k],homes,_,rfl,KS,k6 US (by intro ps z;cases z),by rw[hl];exact SG.len,by rw[hl];exact iZ,fun sb H7 s7 CP=>?_⟩;obtain⟨S1,l1⟩:=SG.run FN (k+1);refine⟨_,rfl,_,rfl,_,rfl,_,rfl,f,b,ha,sb,homes,jV (b ^ f) (wT f b) homes st (k+1),rfl,W,s7 _ _ KS,CP,S1.let (by rw[l1];exact iZ),fun r2 H8 s8 hr2=>⟨r2,_,rfl,hr2,dl (k+1),fun M' H9 s9 ET=>?_⟩⟩;have ml:=W.O2 SG iZ lv mp ET;refine⟨_,rfl,_,rfl,_,_,rfl,rfl,_,rfl,l6 (eD (by lia)) ?_⟩;have Xy:=(s7.trans s8).trans s9;exact⟨_,rfl,sb,M',⟨_,_,_,rfl⟩,(Xx.trans s6).trans (bN.of Xy),t6.same Xy,s9 _ _ (s8 _ _ CP),ET,by lia⟩
  .rintro σ H3 ⟨wx,M,⟨x8,x9,Iz,rfl⟩,s3,t3,Q6,mp,mk⟩;rw[aH,rl.2.1] at Q6 mp mk;obtain⟨Sk,lk⟩:=SG.run FN N;have m0:=(uD (t:=31) (fun d hd=>(Aa FN Sk d hd).2) mp).1;have nl:BK (jV (b ^ f) (wT f b) homes st N)=false:=by
    rw[ix];exact fun z=>RN.stop ⟨by lia,z⟩
   have ue:fE (jV (b ^ f) (wT f b) homes st N) (jV (b ^ f) (wT f b) homes st N).length=[]:=lr fun z=>by rw[oJ.mpr z] at nl;cases nl
   have dn:dZ (wT f b) homes (jV (b ^ f) (wT f b) homes st N) (jV (b ^ f) (wT f b) homes st N).length=[]:=by unfold dZ;rw[ue];rfl
   obtain rfl:M=0:=uE (by rw[<-dn];exact mp);have k3:∀ {b o},H b=some o->v3 o->H3 b=some o:=fun e n=>s3 _ _ e (tb.not e n);obtain⟨L3,N3⟩:=NA.kt tb s3;have OL:=k3 rl.1 (by intro ps z;cases z);refine⟨_,rfl,rfl,true,rfl,va ?_⟩;refine⟨_,rfl,LA,_,rfl,.inl (ba.of OL),_,rfl,_,_,rfl,rfl,?_⟩;rw[aH,rl.2.1];refine⟨true,congrArg V.bl (dg (by lia)),va ?_⟩;refine⟨_,rfl,_,rfl,_,rfl,L3,px,_,_,ha,wx,homes,_,rfl,N3,⟨k3 hH (by intro ps z;cases z),Q6,Sk.let (by rw[lk];exact iZ)⟩,fun M' H6 s6 ET=>?_⟩;obtain rfl:M'=0:=uE (by rw[<-dn];exact ET);exact⟨rfl,q H6 (t3.same s6) (s3.trans (bN.of s6)) nl⟩
end
abbrev sHT:Stmt:=top 26
theorem _root_.L2.bR.k2{lp lp1 lp2:Pos}{q q1 q2:Str}{Pt P1 P2:Addr}{H H':Hp}(t:bR lp q Pt H)(t1:bR lp1 q1 P1 H)(t2:bR lp2 q2 P2 H)(s:∀b o,H b=some o->b≠P1->b≠P2->H' b=some o)(n1:Pt≠P1)(n2:Pt≠P2):bR lp q Pt H':=by
 rcases t with z|⟨c,z,y⟩
 .exact .inl (s _ _ z n1 n2)
 .exact .inr ⟨c,s _ _ z n1 n2,s _ _ y (t1.not y (by intro ps w;cases w)) (t2.not y (by intro ps w;cases w))⟩
theorem jK.kn{H H':Hp}{a:Addr}{as:List Addr}{N:Nat}{o:Nat->List (Option Nat)}(h:jK H a as N o)(s:∀b o,H b=some o->v3 o->H' b=some o):jK H' a as N o:=⟨s _ _ h.1 (by intro ps z;cases z),h.2.mono fun j _ e=>s _ _ e (by intro ps z;cases z)⟩
theorem Bt{a b c d:Int}(h1:a=c)(h2:b=d):fQ jt [V.int a,V.int b] [V.int c,V.int d]=true:=by
 subst h1;subst h2;simp[fQ,jt]
section
variable {P:Program} {w:World} {K:PySem.W.Frag} {mg:Str->Option Value} {base:Heap}
theorem jL:aG ["_law_script","_law_place","_law_pot_here","_law_figures","_law_base","_law_net","_law_homes","_law_stand","_law_fars_here","_law_log","_law_stands"] ["_law_script"] (au yJ):=⟨rfl,rfl,rfl,by decide +kernel,rfl,by decide +kernel,by decide +kernel⟩
def Ab(K:PySem.W.Frag)(Pt PN Pr:Addr):Sp:=fun vs H Q _=>∃ (a:Addr) (ns:List Int),vs=[.ref a]/\Ej K H a (ns.map V.int)/\ns.length<=63/\lq Pt H/\bS PN H/\uy Pr H/\∀H',Q (.bl true) H'
theorem K3{f C CN CI Pt PN Pr:Addr}{fd:FuncData}(F:fW K "law" "law" yJ f fd)(n1:Pt≠PN)(n2:Pt≠Pr)(n3:PN≠Pr)(B:Bl mg)(R:OF P w K mg base C CN CI PN)(PT:cB P w K mg base aW 1 "_law_pot" ["_law_script","_law_place"] (DM K))(SH:cB P w K mg base aW 2 "_law_shape" ["_law_pot_here"] uC)(WN:cB P w K mg base aW 10 "words_net" ["figures","base"] (qf C Pt))(LE:cB P w K mg base aW 2 "_law_letters" ["_law_pot_here","_law_many_here","_law_room"] Ef)(MA:cB P w K mg base aW 1 "_law_many" ["_law_figures","_law_base"] KQ)(FS:cB P w K mg base aW 2 "_law_fars" ["_law_figures","_law_base","_law_homes","_law_stand"] GZ)(RU:cB P w K mg base aW 13 "run" ["rule","net","homes","stand","most"] (D8 C CN PN Pr))(FL:cB P w K mg base aW 11 "_law_falls" ["_law_net","_law_figures","_law_base","_law_homes","_law_stand","_law_log"] (K2 C PN))(ME:cB P w K mg base aW 6 "measure" ["net","homes","stand"] (wa C))(SO:cB P w K mg base aW 2 "stands_of" ["homes","stand","log"] K1)(LM:cB P w K mg base aW 1 "_law_measure" ["_law_fars_here"] G0):bq P w K mg base aW 14 f fd ["_law_script"] (Ab K Pt PN Pr):=by
 refine F.ok jL (fun vs H Q E h=>?_) (fun dR A outer s H vs Q E hr h=>?_)
 .obtain⟨a,ns,rfl,_⟩:=h;rfl
 .obtain⟨a,Mc,rfl,hS,Fw,tb,tn,tr,q⟩:=h;have h1:bA 1 _:=hr.mono (by decide);have h2:bA 2 _:=hr.mono (by decide);have h6:bA 6 _:=hr.mono (by decide);have h10:bA 10 _:=hr.mono (by decide);have h11:bA 11 _:=hr.mono (by decide);refine'⟨_,(ah (dA eK rfl (cP rfl B.range (aa (aR (qS rfl) (by rfl) B.max oW (aa aB (aa (aR (Ap rfl) (by rfl) B.min PyProof.Rows.boot_min (aa aB (aa (aR aV (by rfl) B.len fN (aa (pv 0) ag)) ag))) ag))) ag)) (av (i:=1) jL.nd rfl (Or.inl rfl))
    (ah (aY (i:=2) jL.nd rfl (Or.inl rfl) (aF PT h1 aJ (aa (pv 0) (aa (pv 1) ag))))
    (ah (g7 (aF SH h2 aJ (aa (pv 2) ag)) (dO (n:=2) rfl (aN (av (i:=3) jL.nd rfl (Or.inl rfl)) (aN (av (i:=4) jL.nd rfl (Or.inl rfl)) cL))))
    (ah (aY (i:=5) jL.nd rfl (Or.inr rfl) (aF WN h10 aJ (aa (pv 3) (aa (pv 4) ag))))
    (ah (g7 (aF LE h2 aJ (aa (pv 2) (aa (aF MA h1 aJ (aa (pv 3) (aa (pv 4) ag))) (aa (a8 ff (pv 3) (a8 sK (pv 4) aB)) ag)))) (dO (n:=2) rfl (aN (av (i:=6) jL.nd rfl (Or.inr rfl)) (aN (av (i:=7) jL.nd rfl (Or.inl rfl)) cL))))
    (ah (aY (i:=8) jL.nd rfl (Or.inl rfl) (aF FS h2 aJ (aa (pv 3) (aa (pv 4) (aa (pv 6) (aa (pv 7) ag))))))
    (ah (aY (i:=9) jL.nd rfl (Or.inl rfl) (aF RU hr aJ (aa (DE R.new rfl R.n.QO) (aa (pv 5) (aa (pv 6) (aa (pv 7) (aa aB ag)))))))
    (ah (cr (gc (fc (aF FL h11 aJ (aa (pv 5) (aa (pv 3) (aa (pv 4) (aa (pv 6) (aa (pv 7) (aa (pv 9) ag))))))))) (aq (aP ii)) be)
    (ah (cr (aQ uX (aF ME h6 aJ (aa (pv 5) (aa (pv 6) (aa (pv 7) ag)))) (a8 g8 (aR (rp rfl) (by rfl) B.max oW (aa (a8 sY (dP (aa aB ag)) (pv 8)) ag)) (a8 ff aB (aR (qS rfl) (by rfl) B.max oW (aa aB (aa (a8 sK (aR aV (by rfl) B.len fN (aa (pv 8) ag)) aB) ag))))) (aT _)) (aq (aP ii)) be)
    (ah (aY (i:=10) jL.nd rfl (Or.inl rfl) (aF SO h2 aJ (aa (pv 6) (aa (pv 7) (aa (pv 9) ag)))))
    (aq (cr (aQ (CM (e:=jt) hr.u) ?c1 (dP (aa (aF LM h1 aJ (aa (pv 8) ag)) (aa aB ag))) (aT _)) (aq (aP ii)) be))))))))))))
   (aq (aP ii))),?_⟩
  case c1=>
   refine' cT (g:=(bQ 0)) (te:=(nR (wa C) [] E0 (cA (bj 1) (cA (bj 2) (cA (bj 0) kU))))) (NB:=["_law_one","_law_net","_law_homes"]) (src:=[none,some 5,some 6]) (bU (by kernel_rfl)) rfl (cw (a8 sY (u5 yV (pv 10) yR (yS aB)) (u5 yV (pv 10) (yS (Hz B9 aB)) yR))) ?g ?t ?e;case g=>exact fun cl C s₃ H₃ fp=>(av (i:=0) nK rfl (Or.inl rfl) (Or.inr rfl))
   case t=>exact fun cl C s₃ H₃ fp=>dq
   case e=>exact fun cl C s₃ H₃ fp=>(aF ME h6 aJ (aa (pv 1) (aa (pv 2) (aa (pv 0) ag))))
  refine⟨_,rfl,a,_,rfl,.inl hS.seq,3,_,rfl,1,_,rfl,_,rfl,?_⟩;obtain⟨j,hj,j1⟩:∃j:Int,(if (if (((Mc.map V.int).length:Nat):Int)<3 then (((Mc.map V.int).length:Nat):Int) else 3) > 1 then (if (((Mc.map V.int).length:Nat):Int)<3 then (((Mc.map V.int).length:Nat):Int) else 3) else 1)=j/\1<=j/\j<=3:=⟨_,rfl,by split <;> split <;> lia⟩
  rw[hj];refine⟨by lia,by lia,eF (n:=j.toNat) (lo:=0) (fun k σ H2=>(∃x1 x2 x3 x4 x5 x6 x7 x8 x9 Iz,σ=[some (.ref a),x1,x2,x3,x4,x5,x6,x7,x8,x9,Iz])/\Ej K H2 a (Mc.map V.int)/\lq Pt H2/\bS PN H2/\uy Pr H2) ⟨⟨_,_,_,_,_,_,_,_,_,_,rfl⟩,hS,tb,tn,tr⟩ ?_ (fun σ H2 _=>q H2)⟩;rintro k σ H2 hk ⟨⟨x1,x2,x3,x4,x5,x6,x7,x8,x9,Iz,rfl⟩,S2,t2,w2,r2⟩;refine⟨_,rfl,_,rfl,a,Mc,k,by rw[iC];rfl,S2.seq,by lia,fun p H3 s3 np p3=>?_⟩;refine⟨_,rfl,p,rfl,p3,fun t f b H4 s4 p4 ht wd=>⟨t,_,rfl,bW.of ht,rfl,_,_,rfl,_,_,rfl,rfl,?_⟩⟩;have W:Wd f b:=⟨wd.1,wd.2.1,wd.2.2.1,wd.2.2.2.1,wd.2.2.2.2⟩
  have S4:=(S2.mono fun o u e=>s3 _ _ e).Iy s4 p3;have t4:lq Pt H4:=(t2.same s3).rG s4 p3;have w4:bS PN H4:=(w2.same s3).rG s4 p3;have r4:uy Pr H4:=(r2.same s3).rG s4 p3;refine⟨_,rfl,_,rfl,f,b,rfl,W.f1,W.f5,W.b2,W.b5,W.m,t4,fun px H5 QV NA t5 s5=>?_⟩;have S5:=S4.mono fun o u e=>s5 _ _ e (t4.not e (by intro ps z;cases z));have w5:bS PN H5:=bR.rE w4 s5 t4.j8 n1.symm;have r5:uy Pr H5:=bR.rE r4 s5 t4.j8 n2.symm;have p5:cR H5 p:=by obtain⟨x,y,e,z⟩:=p4;exact⟨x,y,s5 _ _ e (t4.not e (by intro ps z;cases z)),z⟩
  have FN:=W.gm;have b2:=W.b2;have b5:=W.b5;have f5:=W.f5;have rm:((f:Int)*((b:Int)-1))=((f*(b-1):Nat):Int):=by rw[xj,Int.natCast_sub (by lia)];rfl
  refine⟨_,rfl,_,rfl,_,rfl,f,b,rfl,f5,b5,_,rfl,_,rfl,_,_,rfl,rfl,_,_,rfl,rfl,.inl ⟨by lia,by lia⟩,p,b ^ f,wT f b,f*(b-1),by show [V.ref p,V.int ((b ^ f:Nat):Int),V.int ((f:Int)*((b:Int)-1))]=_;rw[rm],FN.n1,FN.n2,p5,fun y hy=>W.room hy,fun t' ha sa homes st H6 s6 p6 Dm GD UT SG iZ=>⟨t',_,rfl,bW.of Dm,rfl,_,_,rfl,_,_,rfl,rfl,?_⟩⟩;have S6:=S5.Iy s6 p5;have t6:lq Pt H6:=t5.rG s6 p5;have w6:bS PN H6:=w5.rG s6 p5;have r6:uy Pr H6:=r5.rG s6 p5;have N6:bK C H6 (fun a=>H4 a=none) px (b ^ f) (wT f b):=NA.keep (H':=H6) (fun b o l e=>s6 b o e (fun z=>p4.full (z ▸ l))) (fun o e=>s6 _ _ e (p4.ne QV));refine⟨_,rfl,_,rfl,_,rfl,_,rfl,f,b,ha,sa,homes,st,rfl,W,GD,UT,SG.let iZ,fun r1 H7 s7 Bd=>?_⟩;refine fun y dx ny Op Oq=>?_;have sN:aK H7 (upd (upd H7 dx (.own y)) y (.ins CN dx [])):=(ai (o:=.own y) Op).trans (ai (D:=y) (o:=.ins CN dx []) (by rw[am Oq.symm];exact ny));have gy:(upd (upd H7 dx (.own y)) y (.ins CN dx [])) y=some (.ins CN dx []):=af;generalize upd (upd H7 dx (.own y)) y (.ins CN dx [])=H8 at *;have Ac:=s7.trans sN;refine⟨_,rfl,_,rfl,_,rfl,_,y,px,ha,sa,b ^ f,wT f b,homes,st,500,rfl,⟨dx,gy⟩,N6.same Ac,Ac _ _ GD,Ac _ _ UT,SG,iZ,by decide,w6.same Ac,r6.same Ac,fun lg N as H9 RN Q7 tr9 k9 Xz ho=>?_⟩;have O7:∀b o,H8 b=some o->v3 o->H9 b=some o:=fun b o e n=>k9 _ _ e ((w6.same Ac).not e n) ((r6.same Ac).not e n);have S9:=(S6.mono fun o u e=>Ac _ _ e).mono fun o u e=>O7 _ _ e (by intro ps z;cases z);have t9:lq Pt H9:=(t6.same Ac).k2 (w6.same Ac) (r6.same Ac) k9 n1 n2;obtain⟨L9,N9⟩:=(N6.same Ac).kn O7;have XA:=O7 _ _ (Ac _ _ GD) (by intro ps z;cases z);have XB:=O7 _ _ (Ac _ _ UT) (by intro ps z;cases z);have hr9:=O7 _ _ (sN _ _ Bd) (by intro ps z;cases z);have O6:N<=500:=by
   rcases sw 500 N with z|z
   .have:=(RN.al 500 z).1;lia
   .exact z
  refine⟨_,rfl,_,rfl,_,rfl,_,rfl,_,rfl,_,rfl,L9,px,ha,sa,lg,f,b,homes,st,N,as,rfl,W,N9,XA,XB,SG,iZ,RN,⟨Xz,ho⟩,Q7,fun OU UU Mb nl=>⟨_,rfl,fT ?_⟩⟩;have Bu:∀b o,H9 b=some o->v3 o->OU b=some o:=fun b o e n=>Mb _ _ e (Q7.not e n);have S10:=S9.mono fun o u e=>Bu _ _ e (by intro ps z;cases z);have t10:lq Pt OU:=bR.rE t9 Mb Q7.j8 n1;have UV:uy Pr OU:=bR.rE tr9 Mb Q7.j8 n3.symm;obtain⟨UX,UY⟩:=N9.kn Bu;have hh:=Bu _ _ XA (by intro ps z;cases z);have hs:=Bu _ _ XB (by intro ps z;cases z);have hf:=Bu _ _ hr9 (by intro ps z;cases z);have UZ:jK OU lg as N (uM (b ^ f) (wT f b) homes st):=jK.kn ⟨Xz,ho⟩ Bu;have dl:(dZ (wT f b) homes st st.length).length<=16:=aX qj iZ;have ok:=Aa FN SG;refine⟨_,rfl,_,rfl,_,rfl,UX,px,_,_,ha,sa,homes,st,rfl,UY,⟨hh,hs,SG.let iZ⟩,fun M XC XD mp=>?_⟩;refine⟨by show 1<=sizeLine;decide,fun Z hZ=>⟨_,rfl,Z,r1,_,_,rfl,rfl,af,ai hZ _ _ (XD _ _ hf),?_,fun LC hLC=>?_⟩⟩
  .rw[bh];exact aX (show 1+(dZ (wT f b) homes st st.length).length<=17 by lia) (by decide)
  have sC:=(ai (o:=.lst [V.int 0]) hZ).trans (ai (o:=.lst ([V.int 0]++NV (dZ (wT f b) homes st st.length))) hLC);have U0:(upd (upd XC Z (.lst [V.int 0])) LC (.lst ([V.int 0]++NV (dZ (wT f b) homes st st.length)))) LC=some (.lst ((0::(dZ (wT f b) homes st st.length).map fun (d:Nat)=>(d:Int)).map V.int)):=by rw[af,ie,dh];rfl
  have Ek:=XD.trans sC;generalize upd (upd XC Z _) LC _=H12 at *;refine⟨LC,_,rfl,ba.of U0,by simp,fun M2 LD XE=>?_⟩;refine⟨_,rfl,r1,_,rfl,.inl (ba.of (Ek _ _ hf)),_,_,rfl,rfl,_,_,rfl,_,_,rfl,rfl,.inl ⟨by decide,by decide⟩,_,_,rfl,rfl,_,_,rfl,rfl,_,rfl,?_⟩;have m20:0<=M2:=XE 0 cD;have mt:=(uD (t:=M2.toNat) (fun d hd=>by have:=XE (d:Int) (bP _ (bo.mpr ⟨d,hd,rfl⟩));lia) mp).2;refine l6 (eD ?_) ?_
  .rw[bh];intro z;have z:M2+2*(if (((dZ (wT f b) homes st st.length).length:Nat):Int)-1 > 0 then (((dZ (wT f b) homes st st.length).length:Nat):Int)-1 else 0)<M:=z;split at z <;> lia
  refine⟨_,rfl,_,rfl,_,rfl,ha,sa,lg,_,_,homes,st,N,as,rfl,Ek _ _ hh,Ek _ _ hs,FN,SG,iZ,O6,UZ.same Ek,fun ss bs Q8 s13 nss rs=>?_⟩;have U1:=Ek.trans s13;have bl:=rs.2.1;obtain⟨b0,b1,eb⟩:∃b0 b1,bs=b0::b1:=by
   cases bs with
   |nil=>cases bl
   |cons x y=>exact⟨x,y,rfl⟩
  obtain⟨c0,c1,ec⟩:∃ (c0:List Addr) (c1:Addr),bs=c0++[c1]:=⟨bs.dropLast,bs.getLast (by rw[eb];simp),(List.dropLast_concat_getLast _).symm⟩
  have g0:Q8 b0=some (.tup ((jV (b ^ f) (wT f b) homes st 0).map oV)):=by have:=rs.2.2 0 (by lia);rwa [eb] at this
  have gN:Q8 c1=some (.tup ((jV (b ^ f) (wT f b) homes st N).map oV)):=by
   have:=rs.2.2 N (by lia);rw[ec] at bl this;rw[fY,wK] at bl;rwa [b9,oQ (by lia),show N-c0.length=0 by lia] at this
  have e1:lO (bs.map V.ref) none (some 1)=[V.ref b0]:=by rw[show (1:Int)=((1:Nat):Int) from rfl,Kl,eb];rfl
  have e2:lO (bs.map V.ref) (some (-1)) none=[V.ref c1]:=by rw[ec,cn];exact G5
  refine⟨_,rfl,_,rfl,ss,_,rfl,ba.of rs.1,fun A1 hA1=>?_⟩;rw[e1];have XF:=ai (o:=.lst [V.ref b0]) hA1;refine⟨_,rfl,_,rfl,_,rfl,ss,_,rfl,ba.of (XF _ _ rs.1),fun A2 hA2=>?_⟩;have XG:=ai (o:=.lst (lO (bs.map V.ref) (some (-1)) none)) hA2;refine⟨A1,A2,_,_,rfl,rfl,XG _ _ af,af,by rw[e2];show 2<=sizeLine;decide,fun A3 hA3=>?_⟩;have sA:=(XF.trans XG).trans (ai (o:=.lst ([V.ref b0]++lO (bs.map V.ref) (some (-1)) none)) hA3);have hA:(upd (upd (upd Q8 A1 (.lst [V.ref b0])) A2 (.lst (lO (bs.map V.ref) (some (-1)) none))) A3 (.lst ([V.ref b0]++lO (bs.map V.ref) (some (-1)) none))) A3=some (.lst (([(b0,M),(c1,0)]:List (Addr×Int)).map fun z=>V.ref z.1)):=by rw[af,e2];rfl
  generalize upd (upd (upd Q8 A1 _) A2 _) A3 _=H14 at *;have O8:=U1.trans sA;refine⟨_,rfl,⟨_,ba.of hA⟩,fun D hD=>?_⟩;refine uB ([(b0,M),(c1,0)]:List (Addr×Int)) (fun z=>V.ref z.1) (fun z=>V.int z.2) (fun _=>true) (fun σ=>∃u,σ=[u,some (.ref px),some (.ref ha)]) hA hD (by show 2<=1000;decide) ⟨_,rfl⟩ ?_ ?_
  .rintro z σ H15 Kt Kf hz ⟨u,rfl⟩ O9 kt kf;have yK:=O8.trans O9;rcases aS.mp hz with rfl|hz
   .refine⟨_,rfl,_,rfl,_,rfl,UX,px,_,_,ha,b0,homes,_,rfl,UY.same yK,⟨yK _ _ hh,O9 _ _ (sA _ _ g0),SG.let iZ⟩,fun M' XH Md ET=>?_⟩;obtain rfl:=qo (fun d hd=>(ok d hd).1) mp ET;exact kt _ _ ⟨_,rfl⟩ Md rfl
   .obtain rfl:=cE.mp hz;obtain⟨SN,lN⟩:=SG.run FN N;refine⟨_,rfl,_,rfl,_,rfl,UX,px,_,_,ha,c1,homes,_,rfl,UY.same yK,⟨yK _ _ hh,O9 _ _ (sA _ _ gN),SN.let (by rw[lN];exact iZ)⟩,fun M' XH Md ET=>?_⟩;have ue:fE (jV (b ^ f) (wT f b) homes st N) (jV (b ^ f) (wT f b) homes st N).length=[]:=lr fun z=>by rw[oJ.mpr z] at nl;cases nl
    have dn:dZ (wT f b) homes (jV (b ^ f) (wT f b) homes st N) (jV (b ^ f) (wT f b) homes st N).length=[]:=by unfold dZ;rw[ue];rfl
    obtain rfl:M'=0:=uE (by rw[<-dn];exact ET);exact kt _ _ ⟨_,rfl⟩ Md rfl
  .intro H15 O9 O_;rw[rV.mpr fun _ _=>rfl] at O_;have yK:=O8.trans O9;refine⟨_,rfl,r1,_,rfl,yK _ _ hf,dl,fun M3 XH Md mp3=>⟨by show 2<=sizeLine;decide,fun E1 UB=>?_⟩⟩;obtain rfl:=qo (fun d hd=>(ok d hd).1) mp mp3;have sE:=ai (o:=.lst [V.int M,V.int 0]) UB;refine⟨D,E1,[V.int M,V.int 0],[V.int M,V.int 0],rfl,rfl,ba.of (sE _ _ (Md _ _ O_)),ba.of af,fun i i1 i2=>?_,_,rfl,?_⟩
   .match i,i1 with
    |0,_=>exact rc rfl rfl
    |1,_=>exact rc rfl rfl
   rw[ao rfl,Bt rfl rfl];have sF:=(yK.trans Md).trans sE;exact l6 rfl ⟨⟨_,_,_,_,_,_,_,_,_,_,rfl⟩,S10.mono fun o u e=>sF _ _ e,t10.same sF,UU.same sF,UV.same sF⟩
end
def FD(K:PySem.W.Frag)(n:Str)(st:Stmt):Prop:=∃ (f:Addr) (oc:Value) (od an:Option Addr) (sl:Array (Option Value)) (kV dc pm cd ct:Value),PySem.W.nsIn K mainGlobals n=some (some (.ref f))/\K.lookup f=some ⟨oc,od,.func (PySem.W.fnOf n n (cH st) (bC st) (au st) .none kV dc pm an cd ct),sl⟩/\PySem.W.codeIn K cd n=true/\PySem.W.keepIn K (.ref f)=true
def FC(K:PySem.W.Frag)(n:Str)(st:Stmt)(c:Addr):Prop:=∃ (f:Addr) (oc:Value) (od an:Option Addr) (sl:Array (Option Value)) (kV dc pm ct:Value),PySem.W.nsIn K mainGlobals n=some (some (.ref f))/\K.lookup f=some ⟨oc,od,.func (PySem.W.fnOf n n (cH st) (bC st) (au st) .none kV dc pm an (.ref c) ct),sl⟩/\PySem.W.codeIn K (.ref c) n=true/\PySem.W.keepIn K (.ref f)=true
def MD(K:PySem.W.Frag)(C:Addr)(n q:Str)(st:Stmt):Prop:=∃ (f:Addr) (oc:Value) (od an:Option Addr) (sl:Array (Option Value)) (kV dc pm cd ct:Value),PySem.W.findIn K (.ref C) n=some (some (.ref f))/\PySem.W.isFn K (.ref f)=true/\K.lookup f=some ⟨oc,od,.func (PySem.W.fnOf n q (cH st) (bC st) (au st) .none kV dc pm an cd ct),sl⟩/\PySem.W.codeIn K cd q=true/\PySem.W.keepIn K (.ref f)=true
def MC(K:PySem.W.Frag)(C:Addr)(n q:Str)(st:Stmt)(c:Addr):Prop:=∃ (f:Addr) (oc:Value) (od an:Option Addr) (sl:Array (Option Value)) (kV dc pm ct:Value),PySem.W.findIn K (.ref C) n=some (some (.ref f))/\PySem.W.isFn K (.ref f)=true/\K.lookup f=some ⟨oc,od,.func (PySem.W.fnOf n q (cH st) (bC st) (au st) .none kV dc pm an (.ref c) ct),sl⟩/\PySem.W.codeIn K (.ref c) q=true/\PySem.W.keepIn K (.ref f)=true
section
variable {P:Program} {w:World} {K:PySem.W.Frag} {mg:Str->Option Value} {base h:Heap} {n q:Str} {st:Stmt} {f c C:Addr} {oc kV dc pm cd ct:Value} {od an:Option Addr} {sl:Array (Option Value)} {CX:wm} {k:Nat} {ps:List Str} {sp:Sp}
theorem FD.mk(a:PySem.W.nsIn K mainGlobals n=some (some (.ref f)))(l:K.lookup f=some ⟨oc,od,.func (PySem.W.fnOf n n (cH st) (bC st) (au st) .none kV dc pm an cd ct),sl⟩)(d:PySem.W.codeIn K cd n=true)(k:PySem.W.keepIn K (.ref f)=true):FD K n st:=⟨f,oc,od,an,sl,kV,dc,pm,cd,ct,a,l,d,k⟩
theorem FC.mk(a:PySem.W.nsIn K mainGlobals n=some (some (.ref f)))(l:K.lookup f=some ⟨oc,od,.func (PySem.W.fnOf n n (cH st) (bC st) (au st) .none kV dc pm an (.ref c) ct),sl⟩)(d:PySem.W.codeIn K (.ref c) n=true)(k:PySem.W.keepIn K (.ref f)=true):FC K n st c:=⟨f,oc,od,an,sl,kV,dc,pm,ct,a,l,d,k⟩
theorem MD.mk(a:PySem.W.findIn K (.ref C) n=some (some (.ref f)))(i:PySem.W.isFn K (.ref f)=true)(l:K.lookup f=some ⟨oc,od,.func (PySem.W.fnOf n q (cH st) (bC st) (au st) .none kV dc pm an cd ct),sl⟩)(d:PySem.W.codeIn K cd q=true)(k:PySem.W.keepIn K (.ref f)=true):MD K C n q st:=⟨f,oc,od,an,sl,kV,dc,pm,cd,ct,a,i,l,d,k⟩
theorem MC.mk(a:PySem.W.findIn K (.ref C) n=some (some (.ref f)))(i:PySem.W.isFn K (.ref f)=true)(l:K.lookup f=some ⟨oc,od,.func (PySem.W.fnOf n q (cH st) (bC st) (au st) .none kV dc pm an (.ref c) ct),sl⟩)(d:PySem.W.codeIn K (.ref c) q=true)(k:PySem.W.keepIn K (.ref f)=true):MC K C n q st c:=⟨f,oc,od,an,sl,kV,dc,pm,ct,a,i,l,d,k⟩
def BD(n q:Str)(st:Stmt)(ps:List Str):Prop:=∀ (kV lM pm:Value) (an:Option Addr) (dR ct:Value) (us:List Value),us.length=ps.length->bindArgs (PySem.W.fnOf n q (cH st) (bC st) (au st) .none kV lM pm an dR ct) ⟨us,[]⟩=pure (ps.zip us)
theorem FD.gD(X:K.In h)(G:h.Ns mainGlobals mg)(D:FD K n st)(b:BD n n st ps)(o:∀ {f fd},fW K n n st f fd->bq P w K mg base CX k f fd ps sp):cB P w K mg base CX k n ps sp:=by
 obtain⟨f,_,_,_,_,_,_,_,_,_,a,l,d,kp⟩:=D;have F:=s_ (x:=n) (qual:=n) (st:=st) l d kp;exact⟨⟨f,_,ic X G a,kp,F.binds b,o F⟩⟩
theorem FC.gD(X:K.In h)(G:h.Ns mainGlobals mg)(D:FC K n st c)(b:BD n n st ps)(o:∀ {f fd},qK K n n st f fd c->bq P w K mg base CX k f fd ps sp):cB P w K mg base CX k n ps sp:=by
 obtain⟨f,_,_,_,_,_,_,_,_,a,l,d,kp⟩:=D;have F:=zg (x:=n) (qual:=n) (st:=st) l d kp;exact⟨⟨f,_,ic X G a,kp,F.fun.binds b,o F⟩⟩
theorem MD.gD(D:MD K C n q st)(b:BD n q st ps)(o:∀ {f fd},fW K n q st f fd->bq P w K mg base CX k f fd ps sp):jX P w K mg base CX k C n ps sp:=by
 obtain⟨f,_,_,_,_,_,_,_,_,_,a,i,l,d,kp⟩:=D;have F:=s_ (x:=n) (qual:=q) (st:=st) l d kp;exact⟨⟨f,_,⟨a,i,kp⟩,F.binds b,o F⟩⟩
theorem MC.gD(D:MC K C n q st c)(b:BD n q st ps)(o:∀ {f fd},qK K n q st f fd c->bq P w K mg base CX k f fd ps sp):jX P w K mg base CX k C n ps sp:=by
 obtain⟨f,_,_,_,_,_,_,_,_,a,i,l,d,kp⟩:=D;have F:=zg (x:=n) (qual:=q) (st:=st) l d kp;exact⟨⟨f,_,⟨a,i,kp⟩,F.fun.binds b,o F⟩⟩
end
theorem qp{α:Type}{P:List α->Prop}(h:∀a0,P [a0])(l:List α)(e:l.length=1):P l:=by
 cases l with
 |nil=>cases e
 |cons a t=>cases t with
  |nil=>exact h a
  |cons b t=>cases e
theorem e_{α:Type}{P:List α->Prop}(h:∀a0 a1,P [a0,a1])(l:List α)(e:l.length=2):P l:=by
 cases l with
 |nil=>cases e
 |cons a t=>exact qp (P:=fun t=>P (a::t)) (h a) t (pk e)
theorem ky{α:Type}{P:List α->Prop}(h:∀a0 a1 a2,P [a0,a1,a2])(l:List α)(e:l.length=3):P l:=by
 cases l with
 |nil=>cases e
 |cons a t=>exact e_ (P:=fun t=>P (a::t)) (h a) t (pk e)
theorem rH{α:Type}{P:List α->Prop}(h:∀a0 a1 a2 a3,P [a0,a1,a2,a3])(l:List α)(e:l.length=4):P l:=by
 cases l with
 |nil=>cases e
 |cons a t=>exact ky (P:=fun t=>P (a::t)) (h a) t (pk e)
theorem rJ{α:Type}{P:List α->Prop}(h:∀a0 a1 a2 a3 a4,P [a0,a1,a2,a3,a4])(l:List α)(e:l.length=5):P l:=by
 cases l with
 |nil=>cases e
 |cons a t=>exact rH (P:=fun t=>P (a::t)) (h a) t (pk e)
theorem Pa{α:Type}{P:List α->Prop}(h:∀a0 a1 a2 a3 a4 a5,P [a0,a1,a2,a3,a4,a5])(l:List α)(e:l.length=6):P l:=by
 cases l with
 |nil=>cases e
 |cons a t=>exact rJ (P:=fun t=>P (a::t)) (h a) t (pk e)
theorem K4{l:PySem.W.OpenLaw}{w:World}{K:PySem.W.Frag}{h:Heap}{mg:Str->Option Value}{fa:Addr}(X:K.In h)(G:h.Ns mainGlobals mg)(GE:mg "law"=some (.ref fa)){C cO Pt cW Pr cN PN bn qq:Addr}{om qP on qr uF oo:Tok}(aC:PySem.W.nsIn K mainGlobals "Net"=some (some (.ref C)))(Bv:PySem.W.nsIn K mainGlobals "Nearest"=some (some (.ref bn)))(El:PySem.W.nsIn K mainGlobals "InTurn"=some (some (.ref qq)))(G6:FD K "is_whole" yr)(Em:FD K "is_whole_within" tZ)(G7:FD K "is_house" yt)(Pb:FD K "is_row" JS)(Pc:FD K "are_unlike_houses" J4)(Pd:FD K "is_tie" JZ)(G8:FD K "check_ties" yw)(Pe:FD K "check_balance" J0)(K5:FC K "houses_out" vT cO)(K6:FD K "distances_from" DA)(G9:FD K "check_reached" yx)(K7:FD K "product" DH)(En:FD K "words_pairs" uh)(Eo:FD K "pairs_net" um)(Ep:FD K "words_net" uk)(U2:FD K "under_way" T5)(U3:FD K "stand_behind" Ue)(U4:FD K "first_free" T6)(U5:FD K "hand_in_turn" sHT)(U6:FD K "hand_eagerly" Ua)(K8:FD K "hand" DP)(Pf:FD K "log_by" KE)(Pg:FC K "run" GK cW)(U7:FD K "stands_of" UO)(Ph:FD K "measure" KO)(Pi:FD K "_law_pot" Kj)(U8:FD K "_law_draw" T4)(G_:FD K "_law_shape" qm)(U9:FD K "_law_many" Ur)(U_:FD K "_law_far" Us)(Pj:FD K "_law_letters" KR)(Va:FD K "_law_fars" UL)(Vb:FD K "_law_measure" UM)(Vc:FD K "_law_is_handing" UN)(Vd:FD K "_law_behind" Uf)(Ve:FD K "_law_falls" UP)(Pk:FD K "law" yJ)(K9:MD K C "__init__" "Net.__init__" zE)(Ha:MD K C "check_house" "Net.check_house" yu)(Pl:MD K C "far" "Net.far" JW)(Pm:MD K C "out" "Net.out" JV)(K_:MD K C "good" "Net.good" Dv)(pg:PySem.W.plainGet K C Str.empty=true)(Vf:PySem.W.hasDictIn K C=true)(po:PySem.W.plainOver K C=true)(sa:PySem.W.findIn K (.ref C) "__setattr__"=some (some (.builtin "object.__setattr__")))(mk:PySem.W.makesIn K C=true)(kc:PySem.W.keepIn K (.ref C)=true)(nH:PySem.W.findIn K (.ref C) "house_count"=some none)(nT:PySem.W.findIn K (.ref C) "tie_list"=some none)(nO:PySem.W.findIn K (.ref C) "out_lists"=some none)(nD:PySem.W.findIn K (.ref C) "distances"=some none)(uG:PySem.W.nsIn K mainGlobals "isinstance"=some none)(Pn:PySem.W.nsIn K mainGlobals "int"=some none)(La:PySem.W.nsIn K mainGlobals "bool"=some none)(Hb:PySem.W.nsIn K mainGlobals "tuple"=some none)(Lb:PySem.W.nsIn K mainGlobals "list"=some none)(Po:PySem.W.nsIn K mainGlobals "str"=some none)(Pp:PySem.W.nsIn K mainGlobals "set"=some none)(Pq:PySem.W.nsIn K mainGlobals "len"=some none)(He:PySem.W.nsIn K mainGlobals "range"=some none)(Er:PySem.W.nsIn K mainGlobals "sorted"=some none)(Ps:PySem.W.nsIn K mainGlobals "any"=some none)(Pu:PySem.W.nsIn K mainGlobals "max"=some none)(Pw:PySem.W.nsIn K mainGlobals "min"=some none)(uH:PySem.W.nsIn K mainGlobals "ValueError"=some none)(Px:PySem.W.nsIn K mainGlobals "all"=some none)(Py:PySem.W.nsIn K mainGlobals "zip"=some none)(we:PySem.W.nsIn K mainGlobals "enumerate"=some none)(oq:PySem.W.nsIn K mainGlobals "FEWEST_HOUSES"=some (some (.int 2 om)))(kB:PySem.W.nsIn K mainGlobals "MOST_HOUSES"=some (some (.int 32 qP)))(ot:PySem.W.nsIn K mainGlobals "MOST_TIES_OUT"=some (some (.int 8 on)))(qt:PySem.W.nsIn K mainGlobals "MOST_FIGURES"=some (some (.int 5 qr)))(uI:PySem.W.nsIn K mainGlobals "LEAST_BASE"=some (some (.int 2 uF)))(ow:PySem.W.nsIn K mainGlobals "GREATEST_BASE"=some (some (.int 5 oo)))(n1:Pt≠PN)(n2:Pt≠Pr)(XI:PN≠Pr)(Vg:PySem.W.specialIn K (.builtin "object.__class__") "__get__"=some (some (.builtin "getset_descriptor.__get__")))(Vh:PySem.W.takesIn K (.builtin "object.__class__")=some true)(Vi:PySem.W.plainGet K bn Str.empty=true)(Vj:PySem.W.hasDictIn K bn=true)(Vk:PySem.W.plainOver K bn=true)(Vl:PySem.W.findIn K (.ref bn) "__setattr__"=some (some (.builtin "object.__setattr__")))(Vm:PySem.W.findIn K (.ref bn) "__class__"=some (some (.builtin "object.__class__")))(Vn:PySem.W.mroIn K bn (.type "object")=some true)(Vo:PySem.W.kitOne K (.ref bn) (.ref qq)=some false)(Vp:PySem.W.makesIn K bn=true)(Vq:PySem.W.keepIn K (.ref bn)=true)(Vr:PySem.W.findIn K (.ref bn) "__init__"=some (some (.builtin "object.__init__")))(Vs:MC K bn "order" "Nearest.order" rD cN)(Vt:MD K bn "check_letters" "Rule.check_letters" KG)(q_n:PySem.W.codeHdIn K cN PN=true)(Lc:PySem.W.codeHdIn K cO Pt=true)(Pz:PySem.W.codeHdIn K cW Pr=true):
  ∃fd:FuncData,(∀ (s:Shared) (v:Value),BindsTo s fd ⟨[v],[]⟩ [("_law_script",v)])/\∀base:Heap,K.In base->base.Ns mainGlobals mg->pS mg base->bq l.prog w K mg base aW 14 fa fd ["_law_script"] (Ab K Pt PN Pr):=by
 obtain⟨XJ,oc,od,an,sl,kV,dc,pm,cd,ct,PC,PD,PF,PJ⟩:=Pk;have e:=GE.symm.trans (ic X G PC);cases e;have PL:=s_ (x:="law") (qual:="law") (st:=yJ) PD PF PJ;obtain⟨XM,oci,odi,ani,sli,kVi,dci,pmi,cdi,cti,a_i,i_i,l_i,d_i,k_i⟩:=K9;have wf:=s_ (x:="__init__") (qual:="Net.__init__") (st:=zE) l_i d_i k_i;have Es:=wf.binds (ps:=["self","many","ties"]) fun _ _ _ _ _ _=>ky fun _ _ _=>rfl;have MK:Mk K C XM:=⟨mk,a_i,i_i,kc⟩
 have B:Bl mg:=⟨ft X G uG,ft X G Pn,ft X G La,ft X G Hb,ft X G Lb,ft X G Po,ft X G Pp,ft X G Pq,ft X G He,ft X G Er,ft X G Ps,ft X G Pu,ft X G Pw,ft X G uH,ft X G Px⟩
 have T:NT K mg C:=⟨⟨pg,Vf,po,sa⟩,nH,nT,nO,nD,ic X G aC⟩
 have B2:Il mg:=⟨ft X G Py,ft X G we⟩
 refine⟨PySem.W.fnOf "law" "law" (cH yJ) (bC yJ) (au yJ) .none kV dc pm an cd ct,fun s v=>.of_eq rfl,fun base kb nb hb=>?_⟩;have Hf:cB l.prog w K mg base aW 1 "is_whole" ["thing"] (t_ K):=FD.gD X G G6 (fun _ _ _ _ _ _=>qp fun _=>rfl) fun Hg=>Dq Hg B;have qu:cB l.prog w K mg base aW 2 "is_whole_within" ["thing","least","most"] (jE K):=FD.gD X G Em (fun _ _ _ _ _ _=>ky fun _ _ _=>rfl) fun Et=>A9 Et Hf;have Ad:cB l.prog w K mg base aW 3 "is_house" ["many","thing"] (oF K):=FD.gD X G G7 (fun _ _ _ _ _ _=>e_ fun _ _=>rfl) fun Hh=>Ds Hh qu;have IA:cB l.prog w K mg base aW 1 "is_row" ["thing","length"] (zD K):=FD.gD X G Pb (fun _ _ _ _ _ _=>e_ fun _ _=>rfl) fun PM=>JU PM B;have PP:cB l.prog w K mg base aW 4 "are_unlike_houses" ["many","one","other"] Dw:=FD.gD X G Pc (fun _ _ _ _ _ _=>ky fun _ _ _=>rfl) fun PQ=>J5 PQ Ad;have PU:cB l.prog w K mg base aW 5 "is_tie" ["many","thing"] Dx:=FD.gD X G Pd (fun _ _ _ _ _ _=>e_ fun _ _=>rfl) fun PV=>J6 PV IA PP;have Hi:cB l.prog w K mg base aW 6 "check_ties" ["many","ties"] jR:=FD.gD X G G8 (fun _ _ _ _ _ _=>e_ fun _ _=>rfl) fun Hj=>Dy Hj B ⟨_,ic X G oq⟩ ⟨_,ic X G kB⟩ qu PU;have PX:cB l.prog w K mg base aW 1 "check_balance" ["many","ties"] jR:=FD.gD X G Pe (fun _ _ _ _ _ _=>e_ fun _ _=>rfl) fun PY=>J7 PY B ⟨_,ic X G ot⟩;have Ld:cB l.prog w K mg base aW 1 "houses_out" ["many","ties","house"] (uc Pt):=FC.gD X G K5 (fun _ _ _ _ _ _=>ky fun _ _ _=>rfl) fun Le=>Ge Le B kb hb Lc;have Lf:cB l.prog w K mg base aW 1 "distances_from" ["out_lists","start"] ud:=FD.gD X G K6 (fun _ _ _ _ _ _=>e_ fun _ _=>rfl) fun Lg=>Gf Lg B;have Hk:cB l.prog w K mg base aW 1 "check_reached" ["distances"] uf:=FD.gD X G G9 (fun _ _ _ _ _ _=>qp fun _=>rfl) fun Hl=>DC Hl B;have Lh:bq l.prog w K mg base aW 7 XM _ ["self","many","ties"] (yz C Pt):=Gj wf T B Hi PX Ld Lf Hk;have Ae:jX l.prog w K mg base aW 4 C "check_house" ["self","thing"] (l0 C):=MD.gD Ha (fun _ _ _ _ _ _=>e_ fun _ _=>rfl) fun Bw=>Bb Bw T Ad;have Eu:jX l.prog w K mg base aW 5 C "far" ["self","one","other"] (lh C):=MD.gD Pl (fun _ _ _ _ _ _=>ky fun _ _ _=>rfl) fun Hm=>F_ Hm T Ae;have PZ:jX l.prog w K mg base aW 5 C "out" ["self","house"] (yv C):=MD.gD Pm (fun _ _ _ _ _ _=>e_ fun _ _=>rfl) fun Hn=>F9 Hn T B Ae;have Li:jX l.prog w K mg base aW 6 C "good" ["self","house","home"] (ur C):=MD.gD K_ (fun _ _ _ _ _ _=>ky fun _ _ _=>rfl) fun Ev=>DR Ev T Eu;have Ew:cB l.prog w K mg base aW 1 "product" ["numbers"] (uj K):=FD.gD X G K7 (fun _ _ _ _ _ _=>qp fun _=>rfl) fun Lj=>Gn Lj;have Ex:cB l.prog w K mg base aW 2 "words_pairs" ["figures","base"] qd:=FD.gD X G En (fun _ _ _ _ _ _=>e_ fun _ _=>rfl) fun Ey=>Bh Ey B Ew;have Ez:cB l.prog w K mg base aW 9 "pairs_net" ["many","pairs"] (qe C Pt):=FD.gD X G Eo (fun _ _ _ _ _ _=>e_ fun _ _=>rfl) fun EA=>Bi EA B T MK Es Lh IA;have EB:cB l.prog w K mg base aW 10 "words_net" ["figures","base"] (qf C Pt):=FD.gD X G Ep (fun _ _ _ _ _ _=>e_ fun _ _=>rfl) fun EC=>Bj EC B ⟨_,ic X G qt⟩ ⟨_,ic X G uI⟩ ⟨_,ic X G ow⟩ ⟨_,ic X G kB⟩ qu Ez Ew Ex;have Lk:cB l.prog w K mg base aW 1 "under_way" ["stand"] DS:=FD.gD X G U2 (fun _ _ _ _ _ _=>qp fun _=>rfl) fun Vu=>Ox Vu B2.enum;have P0:cB l.prog w K mg base aW 1 "stand_behind" ["homes","handing"] v6:=FD.gD X G U3 (fun _ _ _ _ _ _=>e_ fun _ _=>rfl) fun Vv=>OG Vv B B2;have R:OF l.prog w K mg base C bn qq PN:=⟨⟨⟨Vi,Vj,Vk,Vl⟩,ic X G Bv,Vm,Vg,Vh,Vn,Vo⟩,ic X G El,⟨Vp,Vr,Vq⟩,MC.gD Vs (fun _ _ _ _ _ _=>rJ fun _ _ _ _ _=>rfl) fun F=>OB F B kb hb q_n T Eu Lk⟩
 have P3:jX l.prog w K mg base aW 1 bn "check_letters" ["self","homes"] D7:=MD.gD Vt (fun _ _ _ _ _ _=>e_ fun _ _=>rfl) fun F=>KL F;have Vw:cB l.prog w K mg base aW 1 "first_free" ["others","stand","goes","letter"] Kn:=FD.gD X G U4 (fun _ _ _ _ _ _=>rH fun _ _ _ _=>rfl) fun Vx=>Oy Vx B;have Vy:cB l.prog w K mg base aW 1 "hand_in_turn" ["net","homes","stand","letters","goes"] KD:=FD.gD X G U5 (fun _ _ _ _ _ _=>rJ fun _ _ _ _ _=>rfl) fun aab=>OJ;have Vz:cB l.prog w K mg base aW 7 "hand_eagerly" ["net","homes","stand","letters","goes"] (Kw C):=FD.gD X G U6 (fun _ _ _ _ _ _=>rJ fun _ _ _ _ _=>rfl) fun VA=>OD VA T Li PZ Vw;have ED:cB l.prog w K mg base aW 10 "hand" ["rule","net","homes","stand","beat"] (ql C bn PN):=FD.gD X G K8 (fun _ _ _ _ _ _=>rJ fun _ _ _ _ _=>rfl) fun Ll=>GJ Ll B R Vy Vz;have P6:cB l.prog w K mg base aW 12 "log_by" ["homes","stand","most","handed"] (D6 C bn PN):=FD.gD X G Pf (fun _ _ _ _ _ _=>rH fun _ _ _ _=>rfl) fun P7=>KJ P7 B Lk P0 ED;have P8:cB l.prog w K mg base aW 13 "run" ["rule","net","homes","stand","most"] (D8 C bn PN Pr):=FC.gD X G Pg (fun _ _ _ _ _ _=>rJ fun _ _ _ _ _=>rfl) fun P9=>KM P9 kb hb Pz XI R P3 P6;have VB:cB l.prog w K mg base aW 2 "stands_of" ["homes","stand","log"] K1:=FD.gD X G U7 (fun _ _ _ _ _ _=>ky fun _ _ _=>rfl) fun VC=>O4 VC P0;have IC:cB l.prog w K mg base aW 6 "measure" ["net","homes","stand"] (wa C):=FD.gD X G Ph (fun _ _ _ _ _ _=>ky fun _ _ _=>rfl) fun P_=>KP P_ B B2 T Lk Eu;have Qa:cB l.prog w K mg base aW 1 "_law_pot" ["_law_script","_law_place"] (DM K):=FD.gD X G Pi (fun _ _ _ _ _ _=>e_ fun _ _=>rfl) fun Qb=>Kk Qb B;have Qc:cB l.prog w K mg base aW 1 "_law_draw" ["_law_pot_here","_law_many_here"] Gp:=FD.gD X G U8 (fun _ _ _ _ _ _=>e_ fun _ _=>rfl) fun VD=>Ow VD;have Ho:cB l.prog w K mg base aW 2 "_law_shape" ["_law_pot_here"] uC:=FD.gD X G G_ (fun _ _ _ _ _ _=>qp fun _=>rfl) fun Hq=>Ed Hq Qc;have VE:cB l.prog w K mg base aW 1 "_law_many" ["_law_figures","_law_base"] KQ:=FD.gD X G U9 (fun _ _ _ _ _ _=>e_ fun _ _=>rfl) fun VF=>OP VF B;have Qd:cB l.prog w K mg base aW 1 "_law_far" ["_law_figures","_law_base","_law_one","_law_other"] Ec:=FD.gD X G U_ (fun _ _ _ _ _ _=>rH fun _ _ _ _=>rfl) fun VG=>OQ VG B;have Qe:cB l.prog w K mg base aW 2 "_law_letters" ["_law_pot_here","_law_many_here","_law_room"] Ef:=FD.gD X G Pj (fun _ _ _ _ _ _=>ky fun _ _ _=>rfl) fun Qf=>yG Qf B Qc;have Qg:cB l.prog w K mg base aW 2 "_law_fars" ["_law_figures","_law_base","_law_homes","_law_stand"] GZ:=FD.gD X G Va (fun _ _ _ _ _ _=>rH fun _ _ _ _=>rfl) fun VH=>OX VH B2 Qd;have Qh:cB l.prog w K mg base aW 1 "_law_measure" ["_law_fars_here"] G0:=FD.gD X G Vb (fun _ _ _ _ _ _=>qp fun _=>rfl) fun VI=>OZ VI B B2;have VJ:cB l.prog w K mg base aW 2 "_law_is_handing" ["_law_figures","_law_base","_law_stand","_law_handing"] KZ:=FD.gD X G Vc (fun _ _ _ _ _ _=>rH fun _ _ _ _=>rfl) fun VL=>O0 VL B B2 Qd;have VM:cB l.prog w K mg base aW 1 "_law_behind" ["_law_homes","_law_handing"] v6:=FD.gD X G Vd (fun _ _ _ _ _ _=>e_ fun _ _=>rfl) fun VN=>OI VN B B2;have VO:cB l.prog w K mg base aW 11 "_law_falls" ["_law_net","_law_figures","_law_base","_law_homes","_law_stand","_law_log"] (K2 C PN):=FD.gD X G Ve (fun _ _ _ _ _ _=>Pa fun _ _ _ _ _ _=>rfl) fun VP=>O5 VP B B2 R Qg Qh IC VJ ED VM;exact K3 PL n1 n2 XI B R Qa Ho EB Qe VE Qg P8 VO IC VB Qh
theorem EE(h:((List.range 2000).any fun c=>PySem.W.codeHdIn K c P)=true):∃c,PySem.W.codeHdIn K c P=true:=
 let ⟨c,_,e⟩:=pe.mp h;⟨c,e⟩
theorem Lm(hO:zf ts H)(h:ba K H a xs):Ej K H a xs:=by
 rcases h with h|h
 .rcases h with h|⟨o,h⟩
  .rcases hO.2 a with z|⟨_,z⟩|⟨o,ys,z⟩ <;> · rw[h] at z;cases z
  .exact .inl ⟨o,h⟩
 .exact .inr fun H'=>.inr h
theorem walk{l:PySem.W.OpenLaw}{q:Program}{q0:List Str}{XP:(Str->Option Value)->Heap->Prop}{YP:World->Heap->Prop}{d:DefRec}{K:Params->PySem.W.Frag}{Pt Pr PN:Addr}(hn:l.most=some 63)(MR:d.params.defaults=[])(hY:∀ (w:World) (h:Heap),YP w h->(K w.params).In h)(hT:∀ (w:World) (h:Heap),YP w h->∀P∈[Pt,Pr,PN],h.get? P=some (PySem.W.tabObj #[]))(VQ:∀ (w:World),((List.range 2000).any fun c=>PySem.W.codeHdIn (K w.params) c Pt)=true)(VR:∀ (w:World),(K w.params).lookup Pt=none)(VS:∀ (w:World),((List.range 2000).any fun c=>PySem.W.codeHdIn (K w.params) c Pr)=true)(VT:∀ (w:World),(K w.params).lookup Pr=none)(VU:∀ (w:World),((List.range 2000).any fun c=>PySem.W.codeHdIn (K w.params) c PN)=true)(VV:∀ (w:World),(K w.params).lookup PN=none)(F:∀ (w:World) (mg:Str->Option Value) (fa:Addr) (h:Heap),(K w.params).In h->h.Ns mainGlobals mg->mg d.name=some (.ref fa)->
   ∃fd:FuncData,(∀ (s:Shared) (u:Value),BindsTo s fd ⟨[u],[]⟩ [("_law_script",u)])/\∀base:Heap,(K w.params).In base->base.Ns mainGlobals mg->pS mg base->bq l.prog w (K w.params) mg base aW 14 fa fd ["_law_script"] (Ab (K w.params) Pt PN Pr)):
  PySem.W.WalkO q q0 XP YP l.row.toRowW d [] (fun f vs=>PySem.call f vs):=
 CQ (n:=63) (k:=14) (x:="_law_script") (ts:=[Pt,Pr,PN]) (K:=K) (CX:=fun _=>aW) (sp:=fun w=>(Ab (K w.params) Pt PN Pr)) hn (by decide) MR ⟨rfl,by decide,by decide,rfl⟩ hY hT
  (fun w P=>fun e=>(aS.mp e).elim (fun e=>by rw[e];exact EE (VQ w)) (fun e=>(aS.mp e).elim (fun e=>by rw[e];exact EE (VS w)) (fun e=>by rw[cE.mp e];exact EE (VU w)))) (fun w P=>fun e=>(aS.mp e).elim (fun e=>by rw[e];exact VR w) (fun e=>(aS.mp e).elim (fun e=>by rw[e];exact VT w) (fun e=>by rw[cE.mp e];exact VV w))) F
  (fun w H a ns hl hO hS=>⟨a,ns,rfl,Lm hO hS,hl,.inl (hO.1 _ (by simp)),.inl (hO.1 _ (by simp)),.inl (hO.1 _ (by simp)),fun _=>rfl⟩) fun _ _ _ _ _ z=>z
end tY
open PySem PySem.W PyProof.Rows
namespace PySem.W.Fast
def tw14496649233325852454:=trivial
def tw8581889310027332946:=trivial
def tw11949597217977400879:=trivial
def tw9400838056473498523:=trivial
def tw1328067598054469949:=trivial
def tw9308175095822493247:=trivial
def tw3501624062674696462:=trivial
def tw13655653313222036820:=trivial
def tw16876573803696186768:=trivial
def tw16899365290688342151:=trivial
def tw18132015449743440808:=trivial
def tw7641921254373505593:=trivial
def tw9010313531624005490:=trivial
def tw4960357562584097795:=trivial
def tw1857839264861891479:=trivial
def tw1160366315353858083:=trivial
def tw4538968459365404839:=trivial
def tw10144944349991640260:=trivial
def tw4990973253950419772:=trivial
def tw13265025406216352971:=trivial
def tw6816401465454661602:=trivial
def tw15009443762538470807:=trivial
def tw8380628549390440642:=trivial
def tw17050464303923645224:=trivial
def tw13369427998661610592:=trivial
def tw17604039640880673735:=trivial
def tw1459147111476613889:=trivial
def tw15241278295721900607:=trivial
def tw7433743442256561668:=trivial
def tw6248783722743482449:=trivial
def tw15762515148427779608:=trivial
def tw4196964209472964097:=trivial
def tw2119322636634709974:=trivial
def tw1814994143436557706:=trivial
def tw6372763102458540318:=trivial
def tw9692466531396777971:=trivial
def tw13805166386843197841:=trivial
def tw10235156901185908094:=trivial
def tw16315719531947222727:=trivial
def tw11978291779481150984:=trivial
def tw5112895041019319227:=trivial
def tw3263957785671342697:=trivial
def tw10893050890896644848:=trivial
def tw11274261457101412633:=trivial
def tw16076534555077706944:=trivial
def tw31109721125268862:=trivial
def tw18163786857784242471:=trivial
def tw14783978313021159032:=trivial
def tw5412296632692772963:=trivial
def tw2188427028104614270:=trivial
def tw8380948493750275926:=trivial
def tw928970565235040359:=trivial
def tw3174322057706980977:=trivial
def tw1086292340722847561:=trivial
def tw4031097576392820467:=trivial
def tw7850060092903504918:=trivial
def tw3054418883426002303:=trivial
def tw17716546606475582651:=trivial
def tw1941481469443501740:=trivial
def tw6163749491966082349:=trivial
def tw1246653258473831005:=trivial
def tw6024491802247369026:=trivial
def tw7209322386879081184:=trivial
def tw15541350686784266193:=trivial
def tw17145325177181298304:=trivial
def tw7954373424450417329:=trivial
def tw9041490262422007040:=trivial
def tw15680869689256205060:=trivial
def tw12657718487306511166:=trivial
def tw7615455745232409457:=trivial
def tw9868358840364796578:=trivial
def tw9046401856292448274:=trivial
def tw17433312968420594275:=trivial
def tw11089522487942739565:=trivial
def tw13827596224906971729:=trivial
def tw7161603919215362988:=trivial
def tw256305734705694892:=trivial
def tw2216181756247358435:=trivial
def tw14092095330321704984:=trivial
def tw5574170418636381018:=trivial
def tw4640270010827925559:=trivial
def tw6737751871573915176:=trivial
def tw9747263230001591331:=trivial
def tw7123558567957648764:=trivial
def tw351617341396034333:=trivial
def tw7766901709570177822:=trivial
def tw11028922165725711953:=trivial
def tw16250213135448772373:=trivial
def tw10334682982574836237:=trivial
def tw5210302408145353716:=trivial
def tw11788053528960367904:=trivial
def tw4123695219273688273:=trivial
def tw8855893703124584337:=trivial
def tw7407694270486739044:=trivial
def tw12005252375484365501:=trivial
def tw1052491789744939591:=trivial
def tw1053465796531655129:=trivial
def tw14279887481306212477:=trivial
def tw2724237851946882051:=trivial
def tw13395188998908916682:=trivial
def tw17187135134679641158:=trivial
def tw2162445178761698415:=trivial
def tw5338070967216311393:=trivial
def tw1655924720347799568:=trivial
def tw5646032762277556642:=trivial
def tw16884299265017164118:=trivial
def tw764715664784887441:=trivial
def tw3268904065527709399:=trivial
def tw17057731779167412669:=trivial
def tw5650438185291296371:=trivial
def tw14805869610732830377:=trivial
def tw11725717886353623895:=trivial
def tw17763104144150750122:=trivial
def tw716090933785389556:=trivial
def tw3474498075175653034:=trivial
def tw3423350079816920297:=trivial
def tw7493109715004811409:=trivial
def tw4275859975591022571:=trivial
def tw12458459368560759420:=trivial
def tw10109797738729948432:=trivial
def tw1153635888527778163:=trivial
def tw13343116442996838727:=trivial
def tw9126632827513765682:=trivial
def tw2605303737476548492:=trivial
def tw8433899506648521751:=trivial
def tw13603120623781485968:=trivial
def tw15109258763278599885:=trivial
def tw3290444289808863272:=trivial
def tw17689838124893892541:=trivial
def tw13556066571989659723:=trivial
def tw2405251617444359734:=trivial
def tw13969043412973820308:=trivial
def tw9625841538778988157:=trivial
def tw7111971327815823128:=trivial
def tw11581521098553497605:=trivial
def tw14516064063523410548:=trivial
def tw11170801023546333959:=trivial
def tw7736035662560813018:=trivial
def tw925478851851986713:=trivial
def tw11184266046840485529:=trivial
def tw5751739881875814030:=trivial
def tw16357678810019363263:=trivial
def tw2317141248242469059:=trivial
def tw15507303884789264082:=trivial
def tw13557987161533726876:=trivial
def tw1578778793607812753:=trivial
def tw6253508826635497117:=trivial
def tw17999279980109089465:=trivial
def tw13146230808879774844:=trivial
def tw17549308937208968476:=trivial
def tw6439488134624790210:=trivial
def tw11285494120375882563:=trivial
def tw13999469631260335087:=trivial
def tw8589405103076330808:=trivial
def tw552247843561508482:=trivial
def tw10969125595567377806:=trivial
def tw3134112946396461160:=trivial
def tw2508288660109191771:=trivial
def tw13374402983936890905:=trivial
def tw8703306541446833043:=trivial
def tw6112059521570425426:=trivial
def tw1786989233456454177:=trivial
def tw2818392284274451163:=trivial
def tw7203105459699066690:=trivial
def tw14844293782687834327:=trivial
def tw2669977187628604096:=trivial
def tw1358423702061448481:=trivial
def tw11098794948773721750:=trivial
def tw9596008919619252491:=trivial
def tw10031206954435531704:=trivial
def tw7846529723614760297:=trivial
def tw517729312722170869:=trivial
def tw2347108650895163345:=trivial
def tw11855910264124224860:=trivial
def tw10959458311326231325:=trivial
def tw16157117129701651782:=trivial
def tw14740831940353395562:=trivial
def tw6482645034562541046:=trivial
def tw2538053864349136095:=trivial
def tw9590746896051740528:=trivial
def tw11062877088074190719:=trivial
def tw3564499998569194170:=trivial
def tw18088396730232444879:=trivial
def tw15761301309917822308:=trivial
def tw10588322094734222411:=trivial
def tw2489807266496133028:=trivial
def tw17324122080296157984:=trivial
def tw8279762216752545016:=trivial
def tw17585489293421403959:=trivial
def tw4820498583637168427:=trivial
def tw13891238398421655809:=trivial
def tw13950546588235013554:=trivial
def tw4165206354691797803:=trivial
def tw13778577257228913311:=trivial
def tw8309727670693972001:=trivial
def tw1694593769071261386:=trivial
def tw9471765803268163826:=trivial
def tw11508052480506668033:=trivial
def tw13982420454231796192:=trivial
def tw7299821837794365405:=trivial
def tw14295581895387823880:=trivial
def tw5388727559225431492:=trivial
def tw13855108795662140824:=trivial
def tw13931508495522772463:=trivial
def tw10769146911790965500:=trivial
def tw9920782496914361633:=trivial
def tw4419375643190420416:=trivial
def tw10155596138102917750:=trivial
def tw12653108024565562488:=trivial
def tw10895799997708831191:=trivial
def tw6575712736083233521:=trivial
def tw621667555504131465:=trivial
def tw5922560965114848284:=trivial
def tw10618247065430850504:=trivial
def tw3836436475271320835:=trivial
def tw7093402574304458480:=trivial
def tw15365584446448975520:=trivial
def tw12513798710651428969:=trivial
def tw9168869203545085169:=trivial
def tw4126170532533311410:=trivial
def tw4756641665686506313:=trivial
def tw13808354001639260951:=trivial
def tw13097620610995174650:=trivial
def tw12303795691499610484:=trivial
def tw6258836839280650494:=trivial
def tw15403706291193336491:=trivial
def tw1931960600786828114:=trivial
def tw14500738413717340474:=trivial
def tw4921014719037882661:=trivial
def tw18219885246279145491:=trivial
def tw15267330439984375788:=trivial
def tw2461901232716391354:=trivial
def tw2221099195185462897:=trivial
def tw10562212952158792592:=trivial
def tw13191823471792040813:=trivial
def tw11522808782004291644:=trivial
def tw11500745783573520211:=trivial
def tw15974394163754106428:=trivial
def tw11787888448954672304:=trivial
def tw11204525436743625356:=trivial
def tw10381754592324425743:=trivial
def tw17673387186766371526:=trivial
def tw16575868979106772524:=trivial
def tw15046470779126689251:=trivial
def tw14184834135954378606:=trivial
def tw9014521957498588324:=trivial
def tw12390503361407703405:=trivial
def tw3348086899408173033:=trivial
def tw10827684853882023631:=trivial
def tw8047734776753005577:=trivial
def tw16513416613045925143:=trivial
def tw9489375675065979589:=trivial
def tw3769498910969881394:=trivial
def tw1103430829520234077:=trivial
def tw7790941079029973144:=trivial
def tw16675877442938040628:=trivial
def tw1081586767897953112:=trivial
def tw8381624629794891403:=trivial
def tw1224814301305122512:=trivial
def tw4204527313914741720:=trivial
def tw15512690506484867031:=trivial
def tw18090471977507782176:=trivial
def tw7459832962544924821:=trivial
def tw10340106750625397608:=trivial
def tw16745535574126445404:=trivial
def tw12144537922244384733:=trivial
def tw18361122440437465978:=trivial
def tw15539369283800856692:=trivial
def tw17650478890536970373:=trivial
def tw17120338811982130501:=trivial
def tw18163552167340381690:=trivial
def tw15497181913466561274:=trivial
def tw2101152453705846581:=trivial
def tw3815184724152476116:=trivial
def tw1019446157405819474:=trivial
def tw3468624362636916917:=trivial
def tw11409331196951976535:=trivial
def tw10412486499505086063:=trivial
def tw4103702762351717098:=trivial
def tw5209311146233317046:=trivial
def tw18249866999270646852:=trivial
def tw1271870991740148945:=trivial
def tw14661543114278761086:=trivial
def tw1926846485932879298:=trivial
def tw11972855721159732500:=trivial
def tw9926289415933720239:=trivial
def tw635268838776611135:=trivial
def tw1667663878953484192:=trivial
def tw1377590487137923092:=trivial
def tw8454763529112325417:=trivial
def tw11287680316266426936:=trivial
def tw14305406297999097084:=trivial
def tw5027061466394988514:=trivial
def tw4444811409680281530:=trivial
def tw3231898203518660400:=trivial
def tw9733356609791878288:=trivial
def tw1055424971286137358:=trivial
def tw1176011092580856445:=trivial
def tw7600620669996781310:=trivial
def tw2845324779284866203:=trivial
def tw7266138886432710478:=trivial
def tw17295538602712587484:=trivial
def tw17295254871407920154:=trivial
def tw14159414045532375256:=trivial
def tw3419366927493026028:=trivial
def tw6501215317746936819:=trivial
def tw4841751577166443636:=trivial
def tw14101897319648085932:=trivial
def tw13950025738261503730:=trivial
def tw7114956065771656092:=trivial
def tw95678706632355438:=trivial
def tw8384530871503527612:=trivial
def tw15126629641485151763:=trivial
def tw12132701261304633490:=trivial
def tw4667845133118182065:=trivial
def tw4640144397978840677:=trivial
def tw9585398422843983280:=trivial
def tw10011868815866417242:=trivial
def tw18079051283642889086:=trivial
def tw9969078400501065619:=trivial
def tw2256204390216318615:=trivial
def tw16615843295141873314:=trivial
def tw13469380796732210188:=trivial
def tw18249456392586298941:=trivial
def tw9036542173619603178:=trivial
def tw17030239986831846616:=trivial
def tw10675327846164729558:=trivial
def tw10700628825628804476:=trivial
def tw20102922679485125:=trivial
def tw4841539246726956111:=trivial
def tw10463741247052135645:=trivial
def tw14932308468417241899:=trivial
def tw11656215580797927089:=trivial
def tw12355133330148151857:=trivial
def tw11751812998871443843:=trivial
def tw15215569265604273187:=trivial
def tw6757999572394697069:=trivial
def tw4334046267077075110:=trivial
def tw16519933852897364286:=trivial
def tw3309071666796580193:=trivial
def tw9783120273476993870:=trivial
def tw5473850689976887665:=trivial
def tw4050398880312981908:=trivial
def tw2970518968857757906:=trivial
def tw13112910300243631108:=trivial
def tw15208253528817480596:=trivial
def tw17647966917281795084:=trivial
def tw7392936106795655280:=trivial
def tw9559522719277981810:=trivial
def tw15450380140595383778:=trivial
def tw5113732194626065064:=trivial
def tw11839426486191651749:=trivial
def tw7015493507036583048:=trivial
def tw11756433361993668795:=trivial
def tw8329937525935511903:=trivial
def tw11310944377306594790:=trivial
def tw541845782263253625:=trivial
def tw6026694669752483361:=trivial
def tw6600166486046526732:=trivial
def tw203197672866085408:=trivial
def tw18301469271153775852:=trivial
def tw7780426148900728963:=trivial
def tw6941555993038290652:=trivial
def tw10047520330546135225:=trivial
def tw4609281917237585391:=trivial
def tw1353589248590825876:=trivial
def tw2879804312977231660:=trivial
def tw15497935972646355421:=trivial
def tw12670993608867610993:=trivial
def tw1311837342444976732:=trivial
def tw5949954141544053262:=trivial
def tw1851943346226218386:=trivial
def tw2452064374178565994:=trivial
def tw3829164115200355671:=trivial
def tw9591663432387068893:=trivial
def tw12652605153624424970:=trivial
def tw14006881836039300666:=trivial
def tw8984986291467857398:=trivial
def tw11584501112034447241:=trivial
def tw9490310936671130799:=trivial
def tw12723685842892573006:=trivial
def tw17521652793491759079:=trivial
def tw11021786673407333173:=trivial
def tw10797601016762219159:=trivial
def tw8044403705068409433:=trivial
def tw13645075722412669875:=trivial
def tw18275032284627799104:=trivial
def tw9063052105538946683:=trivial
def tw13186885436797620407:=trivial
def tw7599454249712531879:=trivial
def tw16463142444077367896:=trivial
def tw14311861616173507342:=trivial
def tw16567034804891965859:=trivial
def tw17050268050096196952:=trivial
def tw1759408403020439094:=trivial
def tw4309933822119415569:=trivial
def tw11892781159635368174:=trivial
def tw5233470810444881228:=trivial
def tw12326730176967951105:=trivial
def tw7273211421529766089:=trivial
def tw5720141823909844722:=trivial
def tw2062674621176197673:=trivial
def tw9856790969811067418:=trivial
def tw17594561274801920972:=trivial
def tw11655747480585886551:=trivial
def tw1625676368700116810:=trivial
def tw5008805169056352519:=trivial
def tw3696672343251843512:=trivial
def tw5691594680487808117:=trivial
def tw6530610404607753492:=trivial
def tw12689233773911130464:=trivial
def tw13434363262651203684:=trivial
def tw8018574716111853326:=trivial
def tw6681015049071502183:=trivial
def tw432323506789852902:=trivial
def tw18077451177541089372:=trivial
def tw6174854975124983833:=trivial
def tw3938718767145531121:=trivial
end PySem.W.Fast
set_option maxRecDepth 100000 in
set_option maxHeartbeats 0 in
theorem PySem.Challenge.cw_neverwait_k72_whole_measure_falls_holds : PySem.Challenge.rw_neverwait_k72_whole_measure_falls.Holds := by
 w_on; o_law; k_head; (case hw=>w_witness2)
 k_fill
 refine tY.walk (l:=PySem.Challenge.rw_neverwait_k72_whole_measure_falls) (Pt:=_) (Pr:=_) (PN:=_) rfl rfl (fun w h Y=>PySem.W.km_in_of Y) (fun w h Y=>PySem.W.km_tabs_of Y) ?cd0 ?kt0 ?cd1 ?kt1 ?cd2 ?kt2 ?F;case F =>
  intro w mg fa h KX G MS;refine' tY.K4 (Pt:=_) (Pr:=_) (PN:=_) KX G MS ?_ ?_ ?_ ?_ ?_ ?_ ?_ ?_ ?_ ?_ ?_ ?_ ?_ ?_ ?_ ?_ ?_ ?_ ?_ ?_ ?_ ?_ ?_ ?_ ?_ ?_ ?_ ?_ ?_ ?_ ?_ ?_ ?_ ?_ ?_ ?_ ?_ ?_ ?_ ?_ ?_ ?_ ?_ ?_ ?_ ?_ ?_ ?_ ?_ ?_ ?_ ?_ ?_ ?_ ?_ ?_ ?_ ?_ ?_ ?_ ?_ ?_ ?_ ?_ ?_ ?_ ?_ ?_ ?_ ?_ ?_ ?_ ?_ ?_ ?_ ?_ ?_ ?_ ?_ ?_ ?_ ?_ ?_ ?_ ?_ ?_ ?_ ?_ ?_ ?_ ?_ ?_ ?_ ?_ ?_ ?_ ?_ ?_;all_goals first
   | (refine' tY.FD.mk ?a ?l ?d ?k; (case a=>k_is); (case l=>k_is); (case d=>k_is); (case k=>k_is))
   | (refine' tY.FC.mk ?a ?l ?d ?k; (case a=>k_is); (case l=>k_is); (case d=>k_is); (case k=>k_is))
   | (refine' tY.MD.mk ?a ?i ?l ?d ?k; (case a=>k_is); (case i=>k_is); (case l=>k_is); (case d=>k_is); (case k=>k_is))
   | (refine' tY.MC.mk ?a ?i ?l ?d ?k; (case a=>k_is); (case i=>k_is); (case l=>k_is); (case d=>k_is); (case k=>k_is))
   | k_is
   | kernel_rfl
   | decide
   | exact ⟨by kernel_rfl,by k_is,by k_is,by k_is,by k_is,by k_is,by k_is,by kernel_rfl⟩
   | skip
 case kt0=>intro w; kernel_rfl
 case cd0=>intro w; kernel_rfl
 case kt1=>intro w; kernel_rfl
 case cd1=>intro w; kernel_rfl
 case kt2=>intro w; kernel_rfl
 case cd2=>intro w; kernel_rfl
